import PyProof.Rows.All
import Wide.All
import OpenK.AllK
import Wide.FinOn
import Open.SpecLaws
import KE.OsGo
import HandS.TupSets
import HandS.SortOrd
import HandS.ForSpec
import HandS.ForMost
import HandS.Deep
import HandS.TupAny
import HandS.Walk
import HandS.Conv
import HandS.Flow
import PySem.Challenge.RW_rolehouse_s01_answers
import PyOc05
/-! # Rh, part A: concepts as rows of numbers -/
namespace Rh
open Oc (C)
/-- A concept in numbers. -/
def toks : C → List Nat
  | .top => [0]
  | .bot => [1]
  | .name a => [2, a]
  | .and c d => 3 :: (toks c ++ toks d)
  | .or c d => 4 :: (toks c ++ toks d)
  | .not c => 5 :: toks c
  | .some r c => 6 :: r :: toks c
  | .all r c => 7 :: r :: toks c
/-- Names and roles are below 4. -/
def wf : C → Bool
  | .top => true
  | .bot => true
  | .name a => decide (a < 4)
  | .and c d => wf c && wf d
  | .or c d => wf c && wf d
  | .not c => wf c
  | .some r c => decide (r < 4) && wf c
  | .all r c => decide (r < 4) && wf c
theorem toks_pos (c : C) : 0 < (toks c).length := by cases c <;> simp [toks]
theorem toks_ne (c : C) : toks c ≠ [] := fun h => by have := toks_pos c; rw [h] at this; cases this
/-- What is read is there. -/
theorem read_sound : ∀ (n : Nat) (l : List Nat) (c : C) (r : List Nat), Oc05.read n l = some (c, r) → l = toks c ++ r ∧ wf c = true
  | 0, _, _, _, h => by simp [Oc05.read] at h
  | n + 1, l, c, r, h => by
    unfold Oc05.read at h
    split at h
    · cases h; exact ⟨rfl, rfl⟩
    · cases h; exact ⟨rfl, rfl⟩
    · rename_i a s
      split at h
      · rename_i g
        cases h
        exact ⟨rfl, decide_eq_true g⟩
      · cases h
    · rename_i s
      split at h
      · cases h
      · rename_i x hx
        obtain ⟨x1, x2⟩ := x
        have i1 := read_sound n s x1 x2 hx
        cases hy : Oc05.read n x2 with
        | none => simp [hy] at h
        | some y =>
          obtain ⟨y1, y2⟩ := y
          have i2 := read_sound n x2 y1 y2 hy
          simp only [hy, Option.map_some, Option.some.injEq, Prod.mk.injEq] at h
          obtain ⟨rfl, rfl⟩ := h
          refine ⟨?_, ?_⟩
          · rw [i1.1, i2.1]; simp [toks]
          · simp [wf, i1.2, i2.2]
    · rename_i s
      split at h
      · cases h
      · rename_i x hx
        obtain ⟨x1, x2⟩ := x
        have i1 := read_sound n s x1 x2 hx
        cases hy : Oc05.read n x2 with
        | none => simp [hy] at h
        | some y =>
          obtain ⟨y1, y2⟩ := y
          have i2 := read_sound n x2 y1 y2 hy
          simp only [hy, Option.map_some, Option.some.injEq, Prod.mk.injEq] at h
          obtain ⟨rfl, rfl⟩ := h
          refine ⟨?_, ?_⟩
          · rw [i1.1, i2.1]; simp [toks]
          · simp [wf, i1.2, i2.2]
    · rename_i s
      cases hy : Oc05.read n s with
      | none => simp [hy] at h
      | some y =>
        obtain ⟨y1, y2⟩ := y
        have i2 := read_sound n s y1 y2 hy
        simp only [hy, Option.map_some, Option.some.injEq, Prod.mk.injEq] at h
        obtain ⟨rfl, rfl⟩ := h
        exact ⟨by rw [i2.1]; simp [toks], by simp [wf, i2.2]⟩
    · rename_i k s
      split at h
      · rename_i g
        cases hy : Oc05.read n s with
        | none => simp [hy] at h
        | some y =>
          obtain ⟨y1, y2⟩ := y
          have i2 := read_sound n s y1 y2 hy
          simp only [hy, Option.map_some, Option.some.injEq, Prod.mk.injEq] at h
          obtain ⟨rfl, rfl⟩ := h
          exact ⟨by rw [i2.1]; simp [toks], by simp [wf, i2.2, g]⟩
      · cases h
    · rename_i k s
      split at h
      · rename_i g
        cases hy : Oc05.read n s with
        | none => simp [hy] at h
        | some y =>
          obtain ⟨y1, y2⟩ := y
          have i2 := read_sound n s y1 y2 hy
          simp only [hy, Option.map_some, Option.some.injEq, Prod.mk.injEq] at h
          obtain ⟨rfl, rfl⟩ := h
          exact ⟨by rw [i2.1]; simp [toks], by simp [wf, i2.2, g]⟩
      · cases h
    · cases h
/-- What is there is read. -/
theorem read_toks : ∀ (c : C) (n : Nat) (r : List Nat), wf c = true → (toks c).length ≤ n → Oc05.read n (toks c ++ r) = some (c, r)
  | .top, n, r, _, h => by
    cases n with
    | zero => simp [toks] at h
    | succ n => rfl
  | .bot, n, r, _, h => by
    cases n with
    | zero => simp [toks] at h
    | succ n => rfl
  | .name a, n, r, w, h => by
    cases n with
    | zero => simp [toks] at h
    | succ n =>
      have g : a < 4 := by simpa [wf] using w
      show (if a < Oc.NAMES then some (C.name a, r) else none) = _
      exact if_pos g
  | .and c d, n, r, w, h => by
    cases n with
    | zero => simp [toks] at h
    | succ n =>
      have w' : wf c = true ∧ wf d = true := by simpa [wf] using w
      have hl : (toks c).length + (toks d).length ≤ n := by simp [toks] at h; omega
      show Oc05.read (n + 1) (3 :: (toks c ++ toks d) ++ r) = _
      simp only [Oc05.read, List.cons_append, List.append_assoc]
      rw [read_toks c n _ w'.1 (by omega)]
      simp only
      rw [read_toks d n _ w'.2 (by omega)]
      rfl
  | .or c d, n, r, w, h => by
    cases n with
    | zero => simp [toks] at h
    | succ n =>
      have w' : wf c = true ∧ wf d = true := by simpa [wf] using w
      have hl : (toks c).length + (toks d).length ≤ n := by simp [toks] at h; omega
      show Oc05.read (n + 1) (4 :: (toks c ++ toks d) ++ r) = _
      simp only [Oc05.read, List.cons_append, List.append_assoc]
      rw [read_toks c n _ w'.1 (by omega)]
      simp only
      rw [read_toks d n _ w'.2 (by omega)]
      rfl
  | .not c, n, r, w, h => by
    cases n with
    | zero => simp [toks] at h
    | succ n =>
      have hl : (toks c).length ≤ n := by simp [toks] at h; omega
      show Oc05.read (n + 1) (5 :: (toks c ++ r)) = _
      simp only [Oc05.read]
      rw [read_toks c n _ w hl]
      rfl
  | .some k c, n, r, w, h => by
    cases n with
    | zero => simp [toks] at h
    | succ n =>
      have w' : k < 4 ∧ wf c = true := by simpa [wf] using w
      have hl : (toks c).length ≤ n := by simp [toks] at h; omega
      show Oc05.read (n + 1) (6 :: k :: (toks c ++ r)) = _
      simp only [Oc05.read]
      rw [if_pos w'.1, read_toks c n _ w'.2 hl]
      rfl
  | .all k c, n, r, w, h => by
    cases n with
    | zero => simp [toks] at h
    | succ n =>
      have w' : k < 4 ∧ wf c = true := by simpa [wf] using w
      have hl : (toks c).length ≤ n := by simp [toks] at h; omega
      show Oc05.read (n + 1) (7 :: k :: (toks c ++ r)) = _
      simp only [Oc05.read]
      rw [if_pos w'.1, read_toks c n _ w'.2 hl]
      rfl
/-- A concept at a row's beginning, and what's left. -/
def rd (l : List Nat) : Option (C × List Nat) := Oc05.read (l.length + 1) l
theorem rd_iff {l : List Nat} {c : C} {r : List Nat} : rd l = some (c, r) ↔ l = toks c ++ r ∧ wf c = true := by
  refine ⟨read_sound _ l c r, fun ⟨e, w⟩ => ?_⟩
  subst e
  exact read_toks c _ r w (by simp; omega)
theorem rd_toks {c : C} {r : List Nat} (w : wf c = true) : rd (toks c ++ r) = some (c, r) := rd_iff.mpr ⟨rfl, w⟩
theorem read_rd {n : Nat} {l : List Nat} (h : l.length < n) : Oc05.read n l = rd l := by
  cases e : rd l with
  | some x =>
    obtain ⟨c, r⟩ := x
    obtain ⟨e1, w⟩ := rd_iff.mp e
    subst e1
    exact read_toks c n r w (by simp at h; omega)
  | none =>
    cases e2 : Oc05.read n l with
    | none => rfl
    | some x =>
      obtain ⟨c, r⟩ := x
      have q := rd_iff.mpr (read_sound n l c r e2)
      rw [e] at q
      cases q
theorem toks_inj {c d : C} {r s : List Nat} (wc : wf c = true) (wd : wf d = true) (h : toks c ++ r = toks d ++ s) : c = d ∧ r = s := by
  have e1 := rd_toks (r := r) wc
  rw [h, rd_toks wd] at e1
  cases e1
  exact ⟨rfl, rfl⟩
theorem toks_inj' {c d : C} (wc : wf c = true) (wd : wf d = true) (h : toks c = toks d) : c = d :=
  (toks_inj (r := []) (s := []) wc wd (by rw [h])).1
/-! ### so many concepts, one behind another -/
def pc (x : Nat) : Nat := if x = 3 ∨ x = 4 then 2 else if x = 5 ∨ x = 6 ∨ x = 7 then 1 else 0
/-- how many numbers a concept's head has; 0: there's none -/
def hl : List Nat → Nat
  | [] => 0
  | x :: r => if 7 < x then 0 else if x = 2 ∨ x = 6 ∨ x = 7 then (match r with
    | [] => 0
    | y :: _ => if 3 < y then 0 else 2) else 1
/-- what's left behind so many concepts -/
def rdn : Nat → List Nat → Option (List Nat)
  | 0, l => some l
  | w + 1, l => match rd l with
    | none => none
    | some x => rdn w x.2
theorem rdn_zero (l : List Nat) : rdn 0 l = some l := rfl
theorem rdn_one (l : List Nat) : rdn 1 l = (rd l).map (·.2) := by
  unfold rdn
  cases rd l <;> rfl
theorem rdn_add : ∀ (a b : Nat) (l : List Nat), rdn (a + b) l = (rdn a l).bind (rdn b)
  | 0, b, l => by rw [Nat.zero_add]; rfl
  | a + 1, b, l => by
    rw [show a + 1 + b = (a + b) + 1 by omega]
    show (match rd l with | none => none | some x => rdn (a + b) x.2) = Option.bind (match rd l with | none => none | some x => rdn a x.2) (rdn b)
    cases rd l with
    | none => rfl
    | some x => exact rdn_add a b x.2
theorem hl_big {x : Nat} {r : List Nat} (h : 7 < x) : hl (x :: r) = 0 := if_pos h
theorem hl_le (l : List Nat) : hl l ≤ l.length := by
  cases l with
  | nil => exact Nat.le_refl _
  | cons x r =>
    by_cases h : 7 < x
    · rw [hl_big h]; exact Nat.zero_le _
    · by_cases h2 : x = 2 ∨ x = 6 ∨ x = 7
      · cases r with
        | nil => simp [hl, h, h2]
        | cons y r =>
          by_cases h3 : 3 < y <;> simp [hl, h, h2, h3]
      · simp [hl, h, h2]
theorem hl_toks {c : C} (w : wf c = true) (r : List Nat) : hl (toks c ++ r) ≠ 0 := by
  cases c <;> simp [toks, hl] <;> simp [wf] at w <;> omega
/-- no head: no concept -/
theorem rd_none {l : List Nat} (h : hl l = 0) : rd l = none := by
  cases e : rd l with
  | none => rfl
  | some x =>
    obtain ⟨c, r⟩ := x
    obtain ⟨rfl, w⟩ := rd_iff.mp e
    exact absurd h (hl_toks w r)
/-- one turn: the head goes, its parts come -/
theorem rdn_turn {w : Nat} {l : List Nat} {x : Nat} {r : List Nat} (e : l = x :: r) (h : hl l ≠ 0) : rdn (w + 1) l = rdn (w + pc x) (l.drop (hl l)) := by
  subst e
  have h7 : ¬ 7 < x := fun g => h (hl_big g)
  have cases8 : x = 0 ∨ x = 1 ∨ x = 2 ∨ x = 3 ∨ x = 4 ∨ x = 5 ∨ x = 6 ∨ x = 7 := by omega
  rw [Nat.add_comm w 1, Nat.add_comm w (pc x), rdn_add, rdn_add, rdn_one]
  have two : ∀ (f : C → C → C) (r : List Nat), (∀ n, Oc05.read (n + 1) (x :: r) = match Oc05.read n r with | none => none | some y => (Oc05.read n y.2).map fun z => (f y.1 z.1, z.2)) → (rd (x :: r)).map (·.2) = rdn 2 r := by
    intro f r hr
    show (Oc05.read (r.length + 1 + 1) (x :: r)).map (·.2) = _
    rw [hr, read_rd (by omega)]
    show _ = (match rd r with | none => none | some y => rdn 1 y.2)
    cases e1 : rd r with
    | none => rfl
    | some y =>
      obtain ⟨c, s⟩ := y
      have ln : s.length ≤ r.length := by
        rw [(rd_iff.mp e1).1]
        simp
      simp only
      rw [read_rd (by omega), rdn_one]
      cases rd s <;> rfl
  have one : ∀ (f : C → C) (r s : List Nat), s.length ≤ r.length → (∀ n, Oc05.read (n + 1) (x :: r) = (Oc05.read n s).map fun z => (f z.1, z.2)) → (rd (x :: r)).map (·.2) = rdn 1 s := by
    intro f r s hs hr
    show (Oc05.read (r.length + 1 + 1) (x :: r)).map (·.2) = _
    rw [hr, read_rd (by omega), rdn_one]
    cases rd s <;> rfl
  rcases cases8 with rfl | rfl | rfl | rfl | rfl | rfl | rfl | rfl
  · rfl
  · rfl
  · cases r with
    | nil => exact absurd rfl h
    | cons y r =>
      have hy : ¬ 3 < y := fun g => h (by simp [hl, g])
      have e2 : hl (2 :: y :: r) = 2 := by simp [hl, hy]
      rw [e2]
      have e3 : rd (2 :: y :: r) = some (.name y, r) := if_pos (show y < Oc.NAMES by show y < 4; omega)
      rw [e3]
      rfl
  · rw [two .and r (fun _ => rfl)]; rfl
  · rw [two .or r (fun _ => rfl)]; rfl
  · rw [one .not r r (Nat.le_refl _) (fun _ => rfl)]; rfl
  · cases r with
    | nil => exact absurd rfl h
    | cons y r =>
      have hy : ¬ 3 < y := fun g => h (by simp [hl, g])
      have e2 : hl (6 :: y :: r) = 2 := by simp [hl, hy]
      rw [e2, one (.some y) (y :: r) r (by simp) (fun _ => if_pos (by omega))]; rfl
  · cases r with
    | nil => exact absurd rfl h
    | cons y r =>
      have hy : ¬ 3 < y := fun g => h (by simp [hl, g])
      have e2 : hl (7 :: y :: r) = 2 := by simp [hl, hy]
      rw [e2, one (.all y) (y :: r) r (by simp) (fun _ => if_pos (by omega))]; rfl
theorem rdn_stop {w : Nat} {l : List Nat} (h : hl l = 0) : rdn (w + 1) l = none := by
  unfold rdn
  rw [rd_none h]
end Rh

/-! # Rh, part B: parts, atoms, what holds -/
namespace Rh
open Oc (C)
/-- so many concepts, and what's left -/
def cut : Nat → List Nat → Option (List C × List Nat)
  | 0, l => some ([], l)
  | n + 1, l => match rd l with
    | none => none
    | some x => match cut n x.2 with
      | none => none
      | some y => some (x.1 :: y.1, y.2)
theorem cut_none {n : Nat} {l : List Nat} (h : rd l = none) : cut (n + 1) l = none := by unfold cut; rw [h]
theorem cut_some {n : Nat} {l r : List Nat} {c : C} (h : rd l = some (c, r)) : cut (n + 1) l = (cut n r).map fun y => (c :: y.1, y.2) := by
  show (match rd l with | none => none | some x => match cut n x.2 with | none => none | some y => some (x.1 :: y.1, y.2)) = _
  rw [h]
  show (match cut n r with | none => none | some y => some (c :: y.1, y.2)) = _
  cases cut n r <;> rfl
theorem cut_len : ∀ {n : Nat} {l r : List Nat} {cs : List C}, cut n l = some (cs, r) → cs.length = n
  | 0, l, r, cs, h => by cases h; rfl
  | n + 1, l, r, cs, h => by
    cases e : rd l with
    | none => rw [cut_none e] at h; cases h
    | some x =>
      obtain ⟨c, s⟩ := x
      rw [cut_some e] at h
      cases e2 : cut n s with
      | none => rw [e2] at h; cases h
      | some y =>
        obtain ⟨ds, t⟩ := y
        rw [e2] at h
        cases h
        rw [List.length_cons, cut_len e2]
theorem cut_wf : ∀ {n : Nat} {l r : List Nat} {cs : List C}, cut n l = some (cs, r) → (∀ c ∈ cs, wf c = true) ∧ l = cs.flatMap toks ++ r
  | 0, l, r, cs, h => by cases h; exact ⟨fun _ h => (by cases h), rfl⟩
  | n + 1, l, r, cs, h => by
    cases e : rd l with
    | none => rw [cut_none e] at h; cases h
    | some x =>
      obtain ⟨c, s⟩ := x
      rw [cut_some e] at h
      obtain ⟨e1, w1⟩ := rd_iff.mp e
      cases e2 : cut n s with
      | none => rw [e2] at h; cases h
      | some y =>
        obtain ⟨ds, t⟩ := y
        rw [e2] at h
        cases h
        obtain ⟨g1, g2⟩ := cut_wf e2
        refine ⟨fun d hd => ?_, ?_⟩
        · rcases List.mem_cons.mp hd with q | q
          · rw [q]; exact w1
          · exact g1 d q
        · rw [e1, g2]; simp
theorem concept_some {l : List Nat} {c : C} : Oc05.concept l = some c ↔ cut 1 l = some ([c], []) := by
  unfold Oc05.concept
  show (match rd l with | some (c, []) => some c | _ => none) = some c ↔ _
  cases e : rd l with
  | none => rw [cut_none e]; simp
  | some x =>
    obtain ⟨d, r⟩ := x
    rw [cut_some e]
    cases r <;> simp [cut]
theorem concept_none {l : List Nat} : Oc05.concept l = none ↔ ∀ cs, cut 1 l ≠ some (cs, []) := by
  constructor
  · intro h cs e
    have hl := cut_len e
    match cs, hl with
    | [c], _ => rw [concept_some.mpr e] at h; cases h
  · intro h
    cases e : Oc05.concept l with
    | none => rfl
    | some c => exact absurd (concept_some.mp e) (h [c])
theorem two_some {l : List Nat} {c d : C} : Oc05.two l = some (c, d) ↔ cut 2 l = some ([c, d], []) := by
  unfold Oc05.two
  show (match rd l with | some (c, r) => (Oc05.concept r).map fun d => (c, d) | none => none) = some (c, d) ↔ _
  cases e : rd l with
  | none => rw [cut_none e]; simp
  | some x =>
    obtain ⟨a, r⟩ := x
    rw [cut_some e]
    show (Oc05.concept r).map (fun d => (a, d)) = some (c, d) ↔ _
    constructor
    · intro h
      cases e2 : Oc05.concept r with
      | none => rw [e2] at h; cases h
      | some b =>
        rw [e2] at h
        cases h
        rw [concept_some.mp e2]
        rfl
    · intro h
      cases e2 : cut 1 r with
      | none => rw [e2] at h; cases h
      | some y =>
        rw [e2] at h
        obtain ⟨ds, t⟩ := y
        cases h
        rw [concept_some.mpr e2]
        rfl
theorem two_none {l : List Nat} : Oc05.two l = none ↔ ∀ cs, cut 2 l ≠ some (cs, []) := by
  constructor
  · intro h cs e
    have hl := cut_len e
    match cs, hl with
    | [c, d], _ => rw [two_some.mpr e] at h; cases h
  · intro h
    cases e : Oc05.two l with
    | none => rfl
    | some c => exact absurd (two_some.mp e) (h [c.1, c.2])
def kids : C → List C
  | .top => []
  | .bot => []
  | .name _ => []
  | .and c d => [c, d]
  | .or c d => [c, d]
  | .not c => [c]
  | .some _ c => [c]
  | .all _ c => [c]
def subs : C → List C
  | .top => [.top]
  | .bot => [.bot]
  | .name a => [.name a]
  | .and c d => .and c d :: (subs c ++ subs d)
  | .or c d => .or c d :: (subs c ++ subs d)
  | .not c => .not c :: subs c
  | .some r c => .some r c :: subs c
  | .all r c => .all r c :: subs c
def tag : C → Nat
  | .top => 0
  | .bot => 1
  | .name _ => 2
  | .and _ _ => 3
  | .or _ _ => 4
  | .not _ => 5
  | .some _ _ => 6
  | .all _ _ => 7
def isAt (c : C) : Bool := tag c == 2 || tag c == 6 || tag c == 7
theorem subs_eq (c : C) : subs c = c :: (kids c).flatMap subs := by cases c <;> simp [subs, kids]
theorem toks_head (c : C) : ∃ r, toks c = tag c :: r := by cases c <;> exact ⟨_, rfl⟩
theorem toks_get0 (c : C) : (toks c)[0]? = some (tag c) := by cases c <;> rfl
theorem tag_lt (c : C) : tag c < 8 := by cases c <;> simp [tag]
theorem pc_tag (c : C) : pc (tag c) = (kids c).length := by cases c <;> rfl
/-- the head goes, the parts' numbers stand behind it -/
theorem drop_hl {c : C} (w : wf c = true) (r : List Nat) : (toks c ++ r).drop (hl (toks c ++ r)) = (kids c).flatMap toks ++ r := by
  cases c <;> simp [toks, hl, kids] <;> simp [wf] at w
  · rw [if_neg (by omega)]; rfl
  · rw [if_neg (by omega)]; rfl
  · rw [if_neg (by omega)]; rfl
theorem wf_kids {c : C} (w : wf c = true) : ∀ d ∈ kids c, wf d = true := by
  cases c <;> simp [kids, wf] at * <;> first | exact w | exact w.2 | skip
theorem wf_subs : ∀ {c : C}, wf c = true → ∀ d ∈ subs c, wf d = true
  | .top, w, d, h => by simp [subs] at h; subst h; exact w
  | .bot, w, d, h => by simp [subs] at h; subst h; exact w
  | .name a, w, d, h => by simp [subs] at h; subst h; exact w
  | .and a b, w, d, h => by
    have w' : wf a = true ∧ wf b = true := by simpa [wf] using w
    simp [subs] at h
    rcases h with h | h | h
    · subst h; exact w
    · exact wf_subs w'.1 d h
    · exact wf_subs w'.2 d h
  | .or a b, w, d, h => by
    have w' : wf a = true ∧ wf b = true := by simpa [wf] using w
    simp [subs] at h
    rcases h with h | h | h
    · subst h; exact w
    · exact wf_subs w'.1 d h
    · exact wf_subs w'.2 d h
  | .not a, w, d, h => by
    simp [subs] at h
    rcases h with h | h
    · subst h; exact w
    · exact wf_subs (c := a) w d h
  | .some k a, w, d, h => by
    have w' : k < 4 ∧ wf a = true := by simpa [wf] using w
    simp [subs] at h
    rcases h with h | h
    · subst h; exact w
    · exact wf_subs w'.2 d h
  | .all k a, w, d, h => by
    have w' : k < 4 ∧ wf a = true := by simpa [wf] using w
    simp [subs] at h
    rcases h with h | h
    · subst h; exact w
    · exact wf_subs w'.2 d h
theorem subs_length_le : ∀ c : C, (subs c).length ≤ (toks c).length
  | .top => by simp [subs, toks]
  | .bot => by simp [subs, toks]
  | .name _ => by simp [subs, toks]
  | .and a b => by have := subs_length_le a; have := subs_length_le b; simp [subs, toks]; omega
  | .or a b => by have := subs_length_le a; have := subs_length_le b; simp [subs, toks]; omega
  | .not a => by have := subs_length_le a; simp [subs, toks]; omega
  | .some _ a => by have := subs_length_le a; simp [subs, toks]; omega
  | .all _ a => by have := subs_length_le a; simp [subs, toks]; omega
theorem subs_atoms : ∀ c : C, (subs c).filter isAt = c.atoms
  | .top => rfl
  | .bot => rfl
  | .name _ => rfl
  | .and a b => by
    show ((C.and a b) :: (subs a ++ subs b)).filter isAt = a.atoms ++ b.atoms
    rw [List.filter_cons_of_neg (by simp [isAt, tag]), List.filter_append, subs_atoms a, subs_atoms b]
  | .or a b => by
    show ((C.or a b) :: (subs a ++ subs b)).filter isAt = a.atoms ++ b.atoms
    rw [List.filter_cons_of_neg (by simp [isAt, tag]), List.filter_append, subs_atoms a, subs_atoms b]
  | .not a => by
    show ((C.not a) :: subs a).filter isAt = a.atoms
    rw [List.filter_cons_of_neg (by simp [isAt, tag]), subs_atoms a]
  | .some r a => by
    show ((C.some r a) :: subs a).filter isAt = .some r a :: a.atoms
    rw [List.filter_cons_of_pos (by simp [isAt, tag]), subs_atoms a]
  | .all r a => by
    show ((C.all r a) :: subs a).filter isAt = .all r a :: a.atoms
    rw [List.filter_cons_of_pos (by simp [isAt, tag]), subs_atoms a]
/-! ### each once -/
def put (m : List C) (c : C) : List C := if m.contains c = true then m else m ++ [c]
def putA (m : List C) (c : C) : List C := if isAt c = true ∧ c ∉ m then m ++ [c] else m
theorem putA_at {m : List C} {c : C} (h : isAt c = true) : putA m c = put m c := by
  unfold putA put
  by_cases g : c ∈ m
  · rw [if_neg (fun q => q.2 g), if_pos (by simpa using g)]
  · rw [if_pos ⟨h, g⟩, if_neg (by simpa using g)]
theorem putA_no {m : List C} {c : C} (h : isAt c = false) : putA m c = m := if_neg fun q => by rw [h] at q; cases q.1
theorem fold_putA : ∀ (l m : List C), l.foldl putA m = (l.filter isAt).foldl put m
  | [], m => rfl
  | c :: l, m => by
    cases h : isAt c with
    | true => rw [List.filter_cons_of_pos h, List.foldl_cons, List.foldl_cons, putA_at h, fold_putA]
    | false => rw [List.filter_cons_of_neg (by rw [h]; decide), List.foldl_cons, putA_no h, fold_putA]
theorem filter_flatMap_subs : ∀ l : List C, (l.flatMap subs).filter isAt = l.flatMap C.atoms
  | [] => rfl
  | c :: l => by rw [List.flatMap_cons, List.filter_append, subs_atoms, filter_flatMap_subs l, List.flatMap_cons]
theorem atomsOf_eq (l : List C) : Oc.atomsOf l = (l.flatMap subs).foldl putA [] := by
  rw [fold_putA, filter_flatMap_subs]
  rfl
theorem put_nodup {m : List C} {c : C} (h : m.Nodup) : (put m c).Nodup := by
  unfold put
  split
  · exact h
  · rename_i g
    have g' : c ∉ m := by simpa using g
    rw [List.nodup_append]
    refine ⟨h, by simp, ?_⟩
    intro a ha b hb e
    simp at hb
    subst hb
    subst e
    exact g' ha
theorem fold_nodup : ∀ (l m : List C), m.Nodup → (l.foldl put m).Nodup
  | [], _, h => h
  | _ :: l, _, h => fold_nodup l _ (put_nodup h)
theorem put_sub {m : List C} {c d : C} (h : d ∈ m) : d ∈ put m c := by
  unfold put
  split
  · exact h
  · simp [h]
theorem put_self {m : List C} {c : C} : c ∈ put m c := by
  unfold put
  split
  · rename_i g; simpa using g
  · simp
theorem fold_sub : ∀ (l m : List C) (d : C), d ∈ m → d ∈ l.foldl put m
  | [], _, _, h => h
  | _ :: l, _, d, h => fold_sub l _ d (put_sub h)
theorem fold_has : ∀ (l m : List C) (d : C), d ∈ l → d ∈ l.foldl put m
  | c :: l, m, d, h => by
    rcases List.mem_cons.mp h with rfl | later
    · exact fold_sub l _ d put_self
    · exact fold_has l _ d later
theorem fold_from : ∀ (l m : List C) (d : C), d ∈ l.foldl put m → d ∈ l ∨ d ∈ m
  | [], _, _, h => .inr h
  | c :: l, m, d, h => by
    rcases fold_from l _ d h with h | h
    · exact .inl (List.mem_cons_of_mem _ h)
    · unfold put at h
      split at h
      · exact .inr h
      · rcases List.mem_append.mp h with old | new
        · exact .inr old
        · simp at new; subst new; exact .inl List.mem_cons_self
theorem atomsOf_nodup (l : List C) : (Oc.atomsOf l).Nodup := fold_nodup _ _ List.nodup_nil
theorem mem_atomsOf {l : List C} {d : C} : d ∈ Oc.atomsOf l ↔ ∃ c ∈ l, d ∈ c.atoms := by
  show d ∈ (l.flatMap C.atoms).foldl put [] ↔ _
  refine ⟨fun h => ?_, fun h => ?_⟩
  · rcases fold_from _ _ _ h with h | h
    · simpa using h
    · cases h
  · exact fold_has _ _ _ (by simpa using h)
theorem atoms_isAt {c d : C} (h : d ∈ c.atoms) : isAt d = true ∧ d ∈ subs c := by
  rw [← subs_atoms c, List.mem_filter] at h
  exact ⟨h.2, h.1⟩
theorem atoms_mem {c d : C} (h : d ∈ subs c) (g : isAt d = true) : d ∈ c.atoms := by
  rw [← subs_atoms c, List.mem_filter]
  exact ⟨h, g⟩
/-! ### what holds -/
theorem idxOf?_some {l : List C} {c : C} (h : c ∈ l) : ∃ k, l.idxOf? c = some k ∧ l[k]? = some c ∧ ∀ m, m < k → l[m]? ≠ some c := by
  induction l with
  | nil => cases h
  | cons a l ih =>
    by_cases e : a = c
    · subst e
      refine ⟨0, by simp [List.idxOf?_cons], rfl, fun m hm => by omega⟩
    · have h' : c ∈ l := by
        rcases List.mem_cons.mp h with g | g
        · exact absurd g.symm e
        · exact g
      obtain ⟨k, e1, e2, e3⟩ := ih h'
      refine ⟨k + 1, by simp [List.idxOf?_cons, e, e1], by simpa using e2, fun m hm => ?_⟩
      cases m with
      | zero => simpa using e
      | succ m => simpa using e3 m (by omega)
theorem idxOf?_nodup : ∀ {l : List C} {c : C} {k : Nat}, l.Nodup → l[k]? = some c → l.idxOf? c = some k
  | [], _, _, _, none_ => by simp at none_
  | a :: l, c, 0, _, h => by
    simp at h
    subst h
    simp [List.idxOf?_cons]
  | a :: l, c, k + 1, n, h => by
    have h' : l[k]? = some c := by simpa using h
    have n' := List.nodup_cons.mp n
    have e : a ≠ c := fun e => n'.1 (e ▸ List.mem_of_getElem? h')
    simp [List.idxOf?_cons, e, idxOf?_nodup n'.2 h']
/-- an atom holds where its bit is set -/
theorem holds_at {at_ : List C} {t k : Nat} {c : C} (n : at_.Nodup) (h : at_[k]? = some c) (g : isAt c = true) : Oc.holds at_ t c = Oc.bit t k := by
  have e := idxOf?_nodup n h
  cases c <;> first | (simp [isAt, tag] at g; done) | (unfold Oc.holds; rw [e])
/-- one part from right to left: what's known of those behind it -/
def val (at_ : List C) (t : Nat) (w : List Bool) (p : C) : Option Bool := match p with
  | .top => some true
  | .bot => some false
  | .and _ _ => some (w.getD 0 false && w.getD 1 false)
  | .or _ _ => some (w.getD 0 false || w.getD 1 false)
  | .not _ => some (!w.getD 0 false)
  | p => (at_.idxOf? p).map (Oc.bit t)
def ev (at_ : List C) (t : Nat) (known : List Bool) (p : C) : Option (List Bool) :=
  if known.length < (kids p).length then none else (val at_ t (known.drop (known.length - (kids p).length)) p).map fun v => known.take (known.length - (kids p).length) ++ [v]
def evs (at_ : List C) (t : Nat) : List C → List Bool → Option (List Bool)
  | [], st => some st
  | p :: l, st => (ev at_ t st p).bind (evs at_ t l)
theorem evs_append (at_ : List C) (t : Nat) : ∀ (l m : List C) (st : List Bool), evs at_ t (l ++ m) st = (evs at_ t l st).bind (evs at_ t m)
  | [], m, st => rfl
  | p :: l, m, st => by
    show (ev at_ t st p).bind (evs at_ t (l ++ m)) = ((ev at_ t st p).bind (evs at_ t l)).bind (evs at_ t m)
    cases ev at_ t st p with
    | none => rfl
    | some s => exact evs_append at_ t l m s
theorem ev_of {at_ : List C} {t : Nat} {st w : List Bool} {p : C} {v : Bool} (hw : w.length = (kids p).length) (hv : val at_ t w p = some v) : ev at_ t (st ++ w) p = some (st ++ [v]) := by
  unfold ev
  have e : (st ++ w).length - (kids p).length = st.length := by rw [List.length_append]; omega
  rw [if_neg (by rw [List.length_append]; omega), e, List.drop_left, List.take_left, hv]
  rfl
theorem evs_subs (at_ : List C) (t : Nat) : ∀ (c : C) (st : List Bool), (∀ d ∈ c.atoms, d ∈ at_) → evs at_ t (subs c).reverse st = some (st ++ [Oc.holds at_ t c])
  | .top, st, _ => by
    show (ev at_ t st .top).bind (evs at_ t []) = _
    have := ev_of (st := st) (w := []) (p := .top) (at_ := at_) (t := t) (v := true) rfl rfl
    rw [List.append_nil] at this
    rw [this]; rfl
  | .bot, st, _ => by
    show (ev at_ t st .bot).bind (evs at_ t []) = _
    have := ev_of (st := st) (w := []) (p := .bot) (at_ := at_) (t := t) (v := false) rfl rfl
    rw [List.append_nil] at this
    rw [this]; rfl
  | .name a, st, h => by
    show (ev at_ t st (.name a)).bind (evs at_ t []) = _
    obtain ⟨k, e1, _⟩ := idxOf?_some (h (.name a) (by simp [C.atoms]))
    have := ev_of (st := st) (w := []) (p := .name a) (at_ := at_) (t := t) (v := Oc.bit t k) rfl (by simp [val, e1])
    rw [List.append_nil] at this
    rw [this]
    unfold Oc.holds
    rw [e1]; rfl
  | .and a b, st, h => by
    have ha : ∀ d ∈ a.atoms, d ∈ at_ := fun d hd => h d (by simp [C.atoms, hd])
    have hb : ∀ d ∈ b.atoms, d ∈ at_ := fun d hd => h d (by simp [C.atoms, hd])
    rw [show (subs (.and a b)).reverse = (subs b).reverse ++ ((subs a).reverse ++ [.and a b]) by simp [subs]]
    rw [evs_append, evs_subs at_ t b st hb, Option.bind_some, evs_append, evs_subs at_ t a _ ha, Option.bind_some]
    show (ev at_ t _ (.and a b)).bind (evs at_ t []) = _
    rw [List.append_assoc, ev_of (w := [Oc.holds at_ t b] ++ [Oc.holds at_ t a]) (p := .and a b) (v := Oc.holds at_ t b && Oc.holds at_ t a) rfl rfl]
    show some _ = some (st ++ [Oc.holds at_ t a && Oc.holds at_ t b])
    rw [Bool.and_comm]
  | .or a b, st, h => by
    have ha : ∀ d ∈ a.atoms, d ∈ at_ := fun d hd => h d (by simp [C.atoms, hd])
    have hb : ∀ d ∈ b.atoms, d ∈ at_ := fun d hd => h d (by simp [C.atoms, hd])
    rw [show (subs (.or a b)).reverse = (subs b).reverse ++ ((subs a).reverse ++ [.or a b]) by simp [subs]]
    rw [evs_append, evs_subs at_ t b st hb, Option.bind_some, evs_append, evs_subs at_ t a _ ha, Option.bind_some]
    show (ev at_ t _ (.or a b)).bind (evs at_ t []) = _
    rw [List.append_assoc, ev_of (w := [Oc.holds at_ t b] ++ [Oc.holds at_ t a]) (p := .or a b) (v := Oc.holds at_ t b || Oc.holds at_ t a) rfl rfl]
    show some _ = some (st ++ [Oc.holds at_ t a || Oc.holds at_ t b])
    rw [Bool.or_comm]
  | .not a, st, h => by
    rw [show (subs (.not a)).reverse = (subs a).reverse ++ [.not a] by simp [subs]]
    rw [evs_append, evs_subs at_ t a st (fun d hd => h d (by simp [C.atoms, hd])), Option.bind_some]
    show (ev at_ t _ (.not a)).bind (evs at_ t []) = _
    rw [ev_of (w := [Oc.holds at_ t a]) (p := .not a) (v := !Oc.holds at_ t a) rfl rfl]; rfl
  | .some r a, st, h => by
    rw [show (subs (.some r a)).reverse = (subs a).reverse ++ [.some r a] by simp [subs]]
    rw [evs_append, evs_subs at_ t a st (fun d hd => h d (by simp [C.atoms, hd])), Option.bind_some]
    obtain ⟨k, e1, _⟩ := idxOf?_some (h (.some r a) (by simp [C.atoms]))
    show (ev at_ t _ (.some r a)).bind (evs at_ t []) = _
    rw [ev_of (w := [Oc.holds at_ t a]) (p := .some r a) (v := Oc.bit t k) rfl (by simp [val, e1])]
    show some _ = some (st ++ [Oc.holds at_ t (.some r a)])
    rw [show Oc.holds at_ t (.some r a) = Oc.bit t k by unfold Oc.holds; rw [e1]]
  | .all r a, st, h => by
    rw [show (subs (.all r a)).reverse = (subs a).reverse ++ [.all r a] by simp [subs]]
    rw [evs_append, evs_subs at_ t a st (fun d hd => h d (by simp [C.atoms, hd])), Option.bind_some]
    obtain ⟨k, e1, _⟩ := idxOf?_some (h (.all r a) (by simp [C.atoms]))
    show (ev at_ t _ (.all r a)).bind (evs at_ t []) = _
    rw [ev_of (w := [Oc.holds at_ t a]) (p := .all r a) (v := Oc.bit t k) rfl (by simp [val, e1])]
    show some _ = some (st ++ [Oc.holds at_ t (.all r a)])
    rw [show Oc.holds at_ t (.all r a) = Oc.bit t k by unfold Oc.holds; rw [e1]]
end Rh

/-! # Rh, part C: roles -/
namespace Rh
open Oc (C)
open Oc05 (Under turned ALL ups)
/-- what's told, and the same turned round -/
def pairs (h : List Under) : List Under := h ++ h.map fun x => (turned x.1, turned x.2)
def tr (r : Nat) : Nat := (r + 2) % 4
theorem tr_eq {r : Nat} (h : r < 4) : turned r = tr r := by
  unfold turned tr
  split <;> omega
theorem turned_lt {r : Nat} (h : r < 4) : turned r < 4 := by
  unfold turned
  split <;> omega
theorem turned_turned {r : Nat} (h : r < 4) : turned (turned r) = r := by
  unfold turned
  split <;> split <;> omega
/-- roles below 4 -/
def low (h : List Under) : Prop := ∀ x ∈ h, x.1 < 4 ∧ x.2 < 4
theorem low_pairs {h : List Under} (l : low h) : low (pairs h) := by
  intro x hx
  rcases List.mem_append.mp hx with g | g
  · exact l x g
  · obtain ⟨y, hy, rfl⟩ := List.mem_map.mp g
    exact ⟨turned_lt (l y hy).1, turned_lt (l y hy).2⟩
inductive Rch (h : List Under) (r : Nat) : Nat → Prop
  | here : Rch h r r
  | more {s t : Nat} : Rch h r s → (s, t) ∈ pairs h → Rch h r t
theorem Rch.lt {h : List Under} {r s : Nat} (l : low h) (hr : r < 4) (x : Rch h r s) : s < 4 := by
  cases x with
  | here => exact hr
  | more _ e => exact (low_pairs l _ e).2
def rnd (h : List Under) (l : List Nat) : List Nat := ALL.filter fun s => l.contains s || h.any fun x => (l.contains x.1 && s == x.2) || (l.contains (turned x.1) && s == turned x.2)
theorem ups_eq (h : List Under) (r : Nat) : ups h r = rnd h (rnd h (rnd h (rnd h [r]))) := rfl
theorem mem_ALL {s : Nat} : s ∈ ALL ↔ s < 4 := by
  simp only [ALL, List.mem_cons, List.not_mem_nil, or_false]
  omega
theorem mem_rnd {h : List Under} {l : List Nat} {s : Nat} : s ∈ rnd h l ↔ s < 4 ∧ (s ∈ l ∨ ∃ a ∈ l, (a, s) ∈ pairs h) := by
  unfold rnd
  rw [List.mem_filter, mem_ALL]
  refine and_congr_right fun _ => ?_
  rw [Bool.or_eq_true, List.contains_iff_mem]
  refine or_congr_right ?_
  rw [List.any_eq_true]
  constructor
  · rintro ⟨x, hx, e⟩
    rw [Bool.or_eq_true, Bool.and_eq_true, Bool.and_eq_true, List.contains_iff_mem, List.contains_iff_mem, beq_iff_eq, beq_iff_eq] at e
    rcases e with ⟨e1, e2⟩ | ⟨e1, e2⟩
    · subst e2
      exact ⟨x.1, e1, List.mem_append_left _ hx⟩
    · subst e2
      exact ⟨turned x.1, e1, List.mem_append_right _ (List.mem_map.mpr ⟨x, hx, rfl⟩)⟩
  · rintro ⟨a, ha, e⟩
    rcases List.mem_append.mp e with g | g
    · exact ⟨(a, s), g, by simp [ha]⟩
    · obtain ⟨y, hy, ey⟩ := List.mem_map.mp g
      cases ey
      exact ⟨y, hy, by simp [ha]⟩
theorem rnd_mono {h : List Under} {l m : List Nat} (g : ∀ s ∈ l, s ∈ m) : ∀ s ∈ rnd h l, s ∈ rnd h m := by
  intro s hs
  rw [mem_rnd] at hs ⊢
  rcases hs with ⟨h4, q | ⟨a, ha, e⟩⟩
  · exact ⟨h4, .inl (g s q)⟩
  · exact ⟨h4, .inr ⟨a, g a ha, e⟩⟩
theorem rnd_grows {h : List Under} {l : List Nat} (g : ∀ s ∈ l, s < 4) : ∀ s ∈ l, s ∈ rnd h l := fun s hs => mem_rnd.mpr ⟨g s hs, .inl hs⟩
theorem rnd_lt {h : List Under} {l : List Nat} : ∀ s ∈ rnd h l, s < 4 := fun _ hs => (mem_rnd.mp hs).1
theorem rnd_rch {h : List Under} {l : List Nat} {r : Nat} (g : ∀ s ∈ l, Rch h r s) : ∀ s ∈ rnd h l, Rch h r s := by
  intro s hs
  rcases mem_rnd.mp hs with ⟨_, q | ⟨a, ha, e⟩⟩
  · exact g s q
  · exact .more (g a ha) e
/-- two choices out of ALL: the same, or one is longer -/
theorem filter_grow : ∀ (l : List Nat) (p q : Nat → Bool), (∀ s ∈ l, p s = true → q s = true) → l.filter p = l.filter q ∨ (l.filter p).length < (l.filter q).length
  | [], _, _, _ => .inl rfl
  | a :: l, p, q, h => by
    have ih := filter_grow l p q fun s hs => h s (List.mem_cons_of_mem _ hs)
    cases hp : p a with
    | true =>
      have hq := h a List.mem_cons_self hp
      rw [List.filter_cons_of_pos hp, List.filter_cons_of_pos hq]
      rcases ih with e | e
      · exact .inl (by rw [e])
      · exact .inr (by simpa using e)
    | false =>
      rw [List.filter_cons_of_neg (by rw [hp]; decide)]
      cases hq : q a with
      | true =>
        rw [List.filter_cons_of_pos hq]
        refine .inr ?_
        rcases ih with e | e
        · rw [e]; simp
        · simp; omega
      | false =>
        rw [List.filter_cons_of_neg (by rw [hq]; decide)]
        exact ih
theorem rnd_step {h : List Under} {l : List Nat} : rnd h l = rnd h (rnd h l) ∨ (rnd h l).length < (rnd h (rnd h l)).length := by
  refine filter_grow ALL _ _ fun s hs hp => ?_
  have q : s ∈ rnd h l := List.mem_filter.mpr ⟨hs, hp⟩
  exact (List.mem_filter.mp (rnd_grows rnd_lt s q)).2
theorem rnd_len (h : List Under) (l : List Nat) : (rnd h l).length ≤ 4 := List.length_filter_le _ _
theorem rnd_all {h : List Under} {l : List Nat} (e : (rnd h l).length = 4) : rnd h l = ALL := List.filter_eq_self.mpr (List.length_filter_eq_length_iff.mp e)
/-- four rounds are enough -/
theorem ups_shut {h : List Under} {r : Nat} (hr : r < 4) : ∀ s t, s ∈ ups h r → (s, t) ∈ pairs h → t < 4 → t ∈ ups h r := by
  have key : rnd h (ups h r) = ups h r := by
    rw [ups_eq]
    have n1 : 1 ≤ (rnd h [r]).length := List.length_pos_of_mem (mem_rnd.mpr ⟨hr, .inl List.mem_cons_self⟩ : r ∈ rnd h [r])
    rcases rnd_step (h := h) (l := [r]) with e1 | e1
    · rw [← e1, ← e1, ← e1, ← e1]
    · rcases rnd_step (h := h) (l := rnd h [r]) with e2 | e2
      · rw [← e2, ← e2, ← e2]
      · rcases rnd_step (h := h) (l := rnd h (rnd h [r])) with e3 | e3
        · rw [← e3, ← e3]
        · have l4 := rnd_len h (rnd h (rnd h (rnd h [r])))
          have e4 : (rnd h (rnd h (rnd h (rnd h [r])))).length = 4 := by omega
          have a4 := rnd_all e4
          rcases rnd_step (h := h) (l := rnd h (rnd h (rnd h [r]))) with e5 | e5
          · exact e5.symm
          · have l5 := rnd_len h (rnd h (rnd h (rnd h (rnd h [r]))))
            omega
  intro s t hs e ht
  rw [← key]
  exact mem_rnd.mpr ⟨ht, .inr ⟨s, hs, e⟩⟩
theorem mem_ups {h : List Under} {r s : Nat} (l : low h) (hr : r < 4) : s ∈ ups h r ↔ Rch h r s := by
  constructor
  · rw [ups_eq]
    refine rnd_rch (rnd_rch (rnd_rch (rnd_rch ?_))) s
    intro q hq
    rw [List.mem_singleton] at hq
    subst hq
    exact .here
  · intro x
    induction x with
    | here =>
      rw [ups_eq]
      have q0 : r ∈ rnd h [r] := mem_rnd.mpr ⟨hr, .inl List.mem_cons_self⟩
      exact rnd_grows rnd_lt _ (rnd_grows rnd_lt _ (rnd_grows rnd_lt _ q0))
    | more _ e ih => exact ups_shut hr _ _ ih e (low_pairs l _ e).2
theorem ups_sorted (h : List Under) (r : Nat) : (ups h r).Pairwise (· < ·) := by
  rw [ups_eq]
  exact List.Pairwise.filter _ (by decide)
theorem ups_lt {h : List Under} {r s : Nat} (q : s ∈ ups h r) : s < 4 := rnd_lt s q
/-- two rising lists with the same members are one -/
theorem rising_same : ∀ (a b : List Int), a.Pairwise (· < ·) → b.Pairwise (· < ·) → (∀ x, x ∈ a ↔ x ∈ b) → a = b
  | [], [], _, _, _ => rfl
  | [], y :: b, _, _, h => by have := (h y).mpr List.mem_cons_self; cases this
  | x :: a, [], _, _, h => by have := (h x).mp List.mem_cons_self; cases this
  | x :: a, y :: b, ha, hb, h => by
    have pa := List.pairwise_cons.mp ha
    have pb := List.pairwise_cons.mp hb
    have e : x = y := by
      rcases List.mem_cons.mp ((h x).mp List.mem_cons_self) with q | q
      · exact q
      · rcases List.mem_cons.mp ((h y).mpr List.mem_cons_self) with q' | q'
        · exact q'.symm
        · have := pb.1 x q
          have := pa.1 y q'
          omega
    subst e
    refine congrArg _ (rising_same a b pa.2 pb.2 fun z => ?_)
    have hz := h z
    constructor
    · intro q
      rcases List.mem_cons.mp (hz.mp (List.mem_cons_of_mem _ q)) with g | g
      · subst g; have := pa.1 z q; omega
      · exact g
    · intro q
      rcases List.mem_cons.mp (hz.mpr (List.mem_cons_of_mem _ q)) with g | g
      · subst g; have := pb.1 z q; omega
      · exact g
/-- what's found, put in order: the roles a role is under -/
theorem found_ups {h : List Under} {r : Nat} {found : List Nat} {ns : List Int} (l : low h) (hr : r < 4) (nd : found.Nodup) (h0 : r ∈ found) (hf : ∀ s ∈ found, Rch h r s)
    (shut : ∀ s t, s ∈ found → (s, t) ∈ pairs h → t ∈ found) (pm : ns.Perm (found.map fun (n : Nat) => (n : Int))) (so : ns.Pairwise (· ≤ ·)) : ns = (ups h r).map fun (n : Nat) => (n : Int) := by
  have mem : ∀ s, Rch h r s → s ∈ found := by
    intro s x
    induction x with
    | here => exact h0
    | more _ e ih => exact shut _ _ ih e
  have nd2 : (found.map fun (n : Nat) => (n : Int)).Nodup := by
    refine List.Pairwise.map _ (fun a b q => ?_) nd
    omega
  have nd3 : ns.Nodup := pm.nodup_iff.mpr nd2
  refine rising_same _ _ ?_ ?_ ?_
  · exact (List.Pairwise.and so nd3).imp fun q => by omega
  · exact List.Pairwise.map _ (fun a b (q : a < b) => by omega) (ups_sorted h r)
  · intro x
    rw [pm.mem_iff, List.mem_map, List.mem_map]
    constructor
    · rintro ⟨s, hs, rfl⟩
      exact ⟨s, (mem_ups l hr).mpr (hf s hs), rfl⟩
    · rintro ⟨s, hs, rfl⟩
      exact ⟨s, mem _ ((mem_ups l hr).mp hs), rfl⟩
end Rh

/-! # Rh, part D: kinds by their bits -/
namespace Rh
open Oc (C)
open Oc05 (Under turned ALL ups)
theorem bit_test (m k : Nat) : Oc.bit m k = m.testBit k := by
  unfold Oc.bit
  rw [Nat.testBit_eq_decide_div_mod_eq]
  cases h : decide (m / 2 ^ k % 2 = 1) with
  | true => simpa using h
  | false => simpa using h
/-- flags as a number: flag k has the worth 2 to the k -/
def bl : List Bool → Nat
  | [] => 0
  | b :: r => b.toNat + 2 * bl r
theorem bl_test : ∀ (l : List Bool) (k : Nat), (bl l).testBit k = l.getD k false
  | [], k => by simp [bl]
  | b :: r, 0 => by
    rw [Nat.testBit_zero]
    cases b <;> simp [bl] <;> omega
  | b :: r, k + 1 => by
    rw [Nat.testBit_succ]
    have e : bl (b :: r) / 2 = bl r := by
      cases b <;> simp [bl] <;> omega
    rw [e, bl_test r k]
    rfl
theorem bl_lt : ∀ l : List Bool, bl l < 2 ^ l.length
  | [] => by simp [bl]
  | b :: r => by
    have := bl_lt r
    rw [List.length_cons, Nat.pow_succ]
    cases b <;> simp [bl] <;> omega
theorem bl_more : ∀ (l : List Bool) (b : Bool), bl (l ++ [b]) = bl l + (if b then 2 ^ l.length else 0)
  | [], b => by cases b <;> rfl
  | a :: l, b => by
    rw [List.cons_append]
    show a.toNat + 2 * bl (l ++ [b]) = a.toNat + 2 * bl l + _
    rw [bl_more l b, List.length_cons, Nat.pow_succ]
    cases b <;> simp <;> omega
/-- the worths of the flags that are set -/
def ones : Nat → List Bool → List Int
  | _, [] => []
  | k, b :: r => if b then (2 ^ k : Int) :: ones (k + 1) r else ones (k + 1) r
theorem ones_sum : ∀ (l : List Bool) (k : Nat), (ones k l).sum = ((2 ^ k * bl l : Nat) : Int)
  | [], k => by simp [ones, bl]
  | b :: r, k => by
    have ih := ones_sum r (k + 1)
    have e : (2 ^ (k + 1) * bl r : Nat) = 2 ^ k * (2 * bl r) := by rw [Nat.pow_succ, Nat.mul_assoc]
    cases b with
    | true =>
      show ((2 ^ k : Int) :: ones (k + 1) r).sum = _
      rw [List.sum_cons, ih, e]
      show (2 ^ k : Int) + _ = ((2 ^ k * (1 + 2 * bl r) : Nat) : Int)
      rw [Nat.mul_add, Nat.mul_one]
      push_cast
      rfl
    | false =>
      show (ones (k + 1) r).sum = ((2 ^ k * (0 + 2 * bl r) : Nat) : Int)
      rw [ih, e, Nat.zero_add]
theorem ones_more : ∀ (l : List Bool) (k : Nat) (b : Bool), ones k (l ++ [b]) = ones k l ++ (if b then [(2 ^ (k + l.length) : Int)] else [])
  | [], k, b => by cases b <;> simp [ones]
  | a :: l, k, b => by
    have ih := ones_more l (k + 1) b
    have e : k + 1 + l.length = k + (a :: l).length := by rw [List.length_cons]; omega
    rw [e] at ih
    cases a <;> simp only [List.cons_append, ones, ih] <;> rfl
theorem ones_len : ∀ (l : List Bool) (k : Nat), (ones k l).length ≤ l.length
  | [], _ => Nat.le_refl _
  | b :: r, k => by
    have := ones_len r (k + 1)
    cases b <;> simp [ones] <;> omega
/-- what's in one number and not in another -/
theorem sub_and_test : ∀ (k m n : Nat), (m - (m &&& n)).testBit k = (m.testBit k && !n.testBit k) := by
  have half : ∀ m n : Nat, (m &&& n) / 2 = m / 2 &&& n / 2 := fun m n => by rw [Nat.and_div_two]
  have low : ∀ m n : Nat, (m &&& n) % 2 = (m % 2) * (n % 2) := by
    intro m n
    have e := Nat.testBit_and m n 0
    rw [Nat.testBit_zero, Nat.testBit_zero, Nat.testBit_zero] at e
    have a : m % 2 = 0 ∨ m % 2 = 1 := by omega
    have b : n % 2 = 0 ∨ n % 2 = 1 := by omega
    have c : (m &&& n) % 2 = 0 ∨ (m &&& n) % 2 = 1 := by omega
    rcases a with a | a <;> rcases b with b | b <;> rcases c with c | c <;> simp [a, b, c] at e ⊢
  intro k
  induction k with
  | zero =>
    intro m n
    rw [Nat.testBit_zero, Nat.testBit_zero, Nat.testBit_zero]
    have h := half m n
    have l := low m n
    have le : (m / 2 &&& n / 2) ≤ m / 2 := Nat.and_le_left
    have a : m % 2 = 0 ∨ m % 2 = 1 := by omega
    have b : n % 2 = 0 ∨ n % 2 = 1 := by omega
    have z : (m - (m &&& n)) % 2 = 1 ↔ m % 2 = 1 ∧ n % 2 = 0 := by
      generalize m &&& n = x at *
      rcases a with a | a <;> rcases b with b | b <;> rw [a, b] at l <;> omega
    rcases a with a | a <;> rcases b with b | b
    · rw [decide_eq_false (fun q => by have := z.mp q; omega), a]; rfl
    · rw [decide_eq_false (fun q => by have := z.mp q; omega), a]; rfl
    · rw [decide_eq_true (z.mpr ⟨a, b⟩), a, b]; rfl
    · rw [decide_eq_false (fun q => by have := z.mp q; omega), a, b]; rfl
  | succ k ih =>
    intro m n
    rw [Nat.testBit_succ, Nat.testBit_succ, Nat.testBit_succ, ← ih (m / 2) (n / 2)]
    have h := half m n
    have l := low m n
    have le : (m / 2 &&& n / 2) ≤ m / 2 := Nat.and_le_left
    have a : m % 2 = 0 ∨ m % 2 = 1 := by omega
    have b : n % 2 = 0 ∨ n % 2 = 1 := by omega
    have e : (m - (m &&& n)) / 2 = m / 2 - (m / 2 &&& n / 2) := by
      rcases a with a | a <;> rcases b with b | b <;> simp [a, b] at l <;> omega
    rw [e]
theorem eq_zero_test {m : Nat} : m = 0 ↔ ∀ k, m.testBit k = false := by
  constructor
  · intro h k
    rw [h, Nat.zero_testBit]
  · intro h
    refine Nat.eq_of_testBit_eq fun k => ?_
    rw [h k, Nat.zero_testBit]
/-! ### what a kind owes, what it shows -/
def isSome : C → Bool
  | .some _ _ => true
  | _ => false
def isEach : C → Bool
  | .all _ _ => true
  | _ => false
def byRole (r : Nat) : C → Bool
  | .some s _ => s == r
  | .all s _ => s == r
  | _ => false
def roleOf : C → Nat
  | .some s _ => s
  | .all s _ => s
  | _ => 0
def owes (at_ : List C) (t : Nat) (a : C) : Bool := match a with
  | .some _ _ => Oc.holds at_ t a
  | .all _ _ => !Oc.holds at_ t a
  | _ => false
def shows (at_ : List C) (u : Nat) (a : C) : Bool := match a with
  | .some _ c => Oc.holds at_ u c
  | .all _ c => !Oc.holds at_ u c
  | _ => false
def someB (at_ : List C) : Nat := bl (at_.map isSome)
def eachB (at_ : List C) : Nat := bl (at_.map isEach)
def roleB (at_ : List C) (r : Nat) : Nat := bl (at_.map (byRole r))
def shownB (at_ : List C) (u : Nat) : Nat := bl (at_.map (shows at_ u))
def owedB (at_ : List C) (t : Nat) : Nat := (t &&& someB at_) ||| (eachB at_ - (eachB at_ &&& t))
theorem getD_map {f : C → Bool} {at_ : List C} {k : Nat} {a : C} (h : at_[k]? = some a) : (at_.map f).getD k false = f a := by
  rw [List.getD_eq_getElem?_getD, List.getElem?_map, h]
  rfl
theorem getD_out {f : C → Bool} {at_ : List C} {k : Nat} (h : at_[k]? = none) : (at_.map f).getD k false = false := by
  rw [List.getD_eq_getElem?_getD, List.getElem?_map, h]
  rfl
/-- all of these are atoms, each once -/
structure Ats (at_ : List C) : Prop where
  nd : at_.Nodup
  is : ∀ a ∈ at_, isAt a = true
theorem ats_of (l : List C) : Ats (Oc.atomsOf l) := ⟨atomsOf_nodup l, fun a h => by
  obtain ⟨c, _, hc⟩ := mem_atomsOf.mp h
  exact (atoms_isAt hc).1⟩
theorem owed_test {at_ : List C} {t k : Nat} {a : C} (A : Ats at_) (h : at_[k]? = some a) : (owedB at_ t).testBit k = owes at_ t a := by
  unfold owedB someB eachB
  rw [Nat.testBit_or, Nat.testBit_and, sub_and_test, bl_test, bl_test, getD_map h, getD_map h]
  have e := holds_at (t := t) A.nd h (A.is a (List.mem_of_getElem? h))
  rw [bit_test] at e
  cases a <;> simp [isSome, isEach, owes, e]
theorem owed_out {at_ : List C} {t k : Nat} (h : at_[k]? = none) : (owedB at_ t).testBit k = false := by
  unfold owedB someB eachB
  rw [Nat.testBit_or, Nat.testBit_and, sub_and_test, bl_test, bl_test, getD_out h, getD_out h]
  simp
theorem shown_test {at_ : List C} {u k : Nat} {a : C} (h : at_[k]? = some a) : (shownB at_ u).testBit k = shows at_ u a := by
  unfold shownB
  rw [bl_test, getD_map h]
theorem lets_eq {at_ : List C} (A : Ats at_) (r t u : Nat) : decide ((shownB at_ u &&& roleB at_ r) - ((shownB at_ u &&& roleB at_ r) &&& owedB at_ t) = 0) = Oc.fits at_ r t u := by
  have key : ((shownB at_ u &&& roleB at_ r) - ((shownB at_ u &&& roleB at_ r) &&& owedB at_ t) = 0) ↔ Oc.fits at_ r t u = true := by
    rw [eq_zero_test]
    unfold Oc.fits
    rw [List.all_eq_true]
    constructor
    · intro h a ha
      obtain ⟨k, hk⟩ := List.mem_iff_getElem?.mp ha
      have q := h k
      rw [sub_and_test, Nat.testBit_and, owed_test A hk, shown_test hk] at q
      unfold roleB at q
      rw [bl_test, getD_map hk] at q
      cases a with
      | some s c => simp [shows, byRole, owes] at q ⊢; by_cases e : s = r <;> simp_all <;> cases h1 : Oc.holds at_ u c <;> simp_all
      | all s c => simp [shows, byRole, owes] at q ⊢; by_cases e : s = r <;> simp_all <;> cases h1 : Oc.holds at_ u c <;> simp_all
      | _ => rfl
    · intro h k
      cases hk : at_[k]? with
      | none =>
        rw [sub_and_test, Nat.testBit_and]
        unfold shownB
        rw [bl_test, getD_out hk]
        simp
      | some a =>
        have q := h a (List.mem_of_getElem? hk)
        rw [sub_and_test, Nat.testBit_and, owed_test A hk, shown_test hk]
        unfold roleB
        rw [bl_test, getD_map hk]
        cases a with
        | some s c => simp [shows, byRole, owes] at q ⊢; intro h1 e; simp_all
        | all s c => simp [shows, byRole, owes] at q ⊢; intro h1 e; simp_all
        | _ => simp [shows]
  cases e : Oc.fits at_ r t u with
  | true => exact decide_eq_true (key.mpr e)
  | false => exact decide_eq_false fun q => by rw [key.mp q] at e; cases e
/-- some kind of these bears an atom out -/
def bearer (h : List Under) (at_ : List C) (l : List Nat) (t : Nat) (a : C) : Bool := l.any fun u => shows at_ u a && Oc05.fits h at_ (roleOf a) t u
theorem borne_eq (h : List Under) (at_ : List C) (l : List Nat) (t : Nat) : Oc05.borne h at_ l t = at_.all fun a => !owes at_ t a || bearer h at_ l t a := by
  unfold Oc05.borne
  congr 1
  funext a
  cases a <;> simp [owes, bearer, shows, roleOf, Bool.and_comm]
theorem filter_len {α : Type} (l : List α) (p : α → Bool) : (l.filter p).length = l.length ↔ l.filter p = l := by
  constructor
  · intro e
    exact List.filter_eq_self.mpr (List.length_filter_eq_length_iff.mp e)
  · intro e
    rw [e]
/-- enough rounds are enough -/
theorem settle_more (h : List Under) (at_ : List C) : ∀ (n m : Nat) (l : List Nat), l.length < n → l.length < m → Oc05.settle h at_ n l = Oc05.settle h at_ m l
  | 0, _, l, g, _ => by omega
  | _ + 1, 0, l, _, g => by omega
  | n + 1, m + 1, l, g, g' => by
    show (if (l.filter (Oc05.borne h at_ l)).length = l.length then l else Oc05.settle h at_ n (l.filter (Oc05.borne h at_ l))) = (if (l.filter (Oc05.borne h at_ l)).length = l.length then l else Oc05.settle h at_ m (l.filter (Oc05.borne h at_ l)))
    split
    · rfl
    · rename_i e
      have le := List.length_filter_le (Oc05.borne h at_ l) l
      exact settle_more h at_ n m _ (by omega) (by omega)
/-- enough rounds from a list of kinds -/
def rest (h : List Under) (at_ : List C) (l : List Nat) : List Nat := Oc05.settle h at_ (l.length + 1) l
theorem rest_stays {h : List Under} {at_ : List C} {l : List Nat} (e : (l.filter (Oc05.borne h at_ l)).length = l.length) : rest h at_ l = l := if_pos e
theorem rest_turn (h : List Under) (at_ : List C) (l : List Nat) : rest h at_ l = rest h at_ (l.filter (Oc05.borne h at_ l)) := by
  by_cases e : (l.filter (Oc05.borne h at_ l)).length = l.length
  · rw [(filter_len _ _).mp e]
  · have le := List.length_filter_le (Oc05.borne h at_ l) l
    show (if (l.filter (Oc05.borne h at_ l)).length = l.length then l else Oc05.settle h at_ l.length (l.filter (Oc05.borne h at_ l))) = _
    rw [if_neg e]
    exact settle_more h at_ _ _ _ (by omega) (by omega)
theorem range_keep_len (n : Nat) (p : Nat → Bool) : ((List.range n).filter p).length ≤ n := by
  have := List.length_filter_le p (List.range n)
  rwa [List.length_range] at this
theorem types_eq (h : List Under) (at_ : List C) (ax : List Oc.Axiom) : Oc05.types h at_ ax = rest h at_ ((List.range (2 ^ at_.length)).filter (Oc.keeps at_ ax)) := by
  unfold Oc05.types rest
  have := range_keep_len (2 ^ at_.length) (Oc.keeps at_ ax)
  exact settle_more h at_ _ _ _ (by omega) (by omega)
theorem settle_sub (h : List Under) (at_ : List C) : ∀ (n : Nat) (l : List Nat), ∀ t ∈ Oc05.settle h at_ n l, t ∈ l
  | 0, _, _, q => q
  | n + 1, l, t, q => by
    have q' : t ∈ (if (l.filter (Oc05.borne h at_ l)).length = l.length then l else Oc05.settle h at_ n (l.filter (Oc05.borne h at_ l))) := q
    split at q'
    · exact q'
    · exact (List.mem_filter.mp (settle_sub h at_ n _ t q')).1
theorem types_lt {h : List Under} {at_ : List C} {ax : List Oc.Axiom} {t : Nat} (q : t ∈ Oc05.types h at_ ax) : t < 2 ^ at_.length :=
  List.mem_range.mp (List.mem_filter.mp (settle_sub h at_ _ _ t q)).1
end Rh

/-! # Rh, part M: the one list of calls, call by call -/
namespace Rh
open Oc (C)
theorem whole_id (c : List (List Int)) : PyOc05.whole c = c := by
  unfold PyOc05.whole
  split <;> rfl
theorem whole_map (cs : List (List (List Int))) : cs.map PyOc05.whole = cs := by
  have e : PyOc05.whole = id := funext whole_id
  rw [e, List.map_id]
/-- how a call lies at the beginning of the list -/
inductive Lies : List Int → List (List Int) → List Int → Prop
  | bare {p : Int} {t : List Int} : p = 0 ∨ p = 6 ∨ p = 7 → Lies (p :: t) [[p]] t
  | pair {a b : Int} {t : List Int} : Lies (2 :: a :: b :: t) [[2, a, b]] t
  | row {p n : Int} {row t : List Int} : p = 1 ∨ p = 3 ∨ p = 4 ∨ p = 5 → n = (row.length : Int) → Lies (p :: n :: (row ++ t)) [[p], row] t
theorem lies_of {l t : List Int} {c : List (List Int)} (h : PyFlat.call PyOc05.shape l = some (c, t)) : Lies l c t := by
  cases l with
  | nil => simp [PyFlat.call] at h
  | cons p r =>
    simp only [PyFlat.call] at h
    have bareC : PyOc05.shape p = some (0, 0) → (p = 0 ∨ p = 6 ∨ p = 7) → Lies (p :: r) c t := by
      intro hs hp
      rw [hs] at h
      simp [PyFlat.rows] at h
      obtain ⟨rfl, rfl⟩ := h
      exact .bare hp
    have rowC : PyOc05.shape p = some (0, 1) → (p = 1 ∨ p = 3 ∨ p = 4 ∨ p = 5) → Lies (p :: r) c t := by
      intro hs hp
      rw [hs] at h
      cases r with
      | nil => simp [PyFlat.rows, PyFlat.row] at h
      | cons n r =>
        by_cases hn : 0 ≤ n ∧ n.toNat ≤ r.length
        · simp [PyFlat.rows, PyFlat.row, hn] at h
          obtain ⟨rfl, rfl⟩ := h
          have e : n = ((r.take n.toNat).length : Int) := by
            rw [List.length_take]
            omega
          have q := Lies.row (t := r.drop n.toNat) hp e
          rwa [List.take_append_drop] at q
        · have hn' : ¬ (0 ≤ n ∧ n ≤ (r.length : Int)) := fun q => hn ⟨q.1, by omega⟩
          simp [PyFlat.rows, PyFlat.row, hn'] at h
    by_cases h0 : p = 0
    · exact bareC (by subst h0; rfl) (.inl h0)
    by_cases h1 : p = 1
    · exact rowC (by subst h1; rfl) (.inl h1)
    by_cases h2 : p = 2
    · subst h2
      have hs : PyOc05.shape 2 = some (2, 0) := rfl
      rw [hs] at h
      match r, h with
      | [], h => simp at h
      | [_], h => simp at h
      | a :: b :: t', h =>
        simp [PyFlat.rows] at h
        obtain ⟨rfl, rfl⟩ := h
        exact .pair
    by_cases h3 : p = 3
    · exact rowC (by subst h3; rfl) (.inr (.inl h3))
    by_cases h4 : p = 4
    · exact rowC (by subst h4; rfl) (.inr (.inr (.inl h4)))
    by_cases h5 : p = 5
    · exact rowC (by subst h5; rfl) (.inr (.inr (.inr h5)))
    by_cases h6 : p = 6
    · exact bareC (by subst h6; rfl) (.inr (.inl h6))
    by_cases h7 : p = 7
    · exact bareC (by subst h7; rfl) (.inr (.inr h7))
    · have hs : PyOc05.shape p = none := by simp [PyOc05.shape, h0, h1, h2, h3, h4, h5, h6, h7]
      rw [hs] at h
      cases h
/-- the calls that lie in a list -/
inductive LieAll : List Int → List (List (List Int)) → Prop
  | nil : LieAll [] []
  | cons {l t : List Int} {c : List (List Int)} {cs : List (List (List Int))} : Lies l c t → LieAll t cs → LieAll l (c :: cs)
theorem lieAll_of : ∀ (f : Nat) (l : List Int) (cs : List (List (List Int))), PyFlat.calls PyOc05.shape f l = some cs → LieAll l cs
  | 0, [], cs, h => by
    simp [PyFlat.calls] at h
    subst h
    exact .nil
  | _ + 1, [], cs, h => by
    simp [PyFlat.calls] at h
    subst h
    exact .nil
  | 0, _ :: _, cs, h => by simp [PyFlat.calls] at h
  | f + 1, p :: r, cs, h => by
    simp only [PyFlat.calls] at h
    cases e : PyFlat.call PyOc05.shape (p :: r) with
    | none => simp [e] at h
    | some x =>
      obtain ⟨c, t⟩ := x
      rw [e] at h
      cases e2 : PyFlat.calls PyOc05.shape f t with
      | none => simp [e2] at h
      | some ds =>
        simp [e2] at h
        subst h
        exact .cons (lies_of e) (lieAll_of f t ds e2)
/-- what's due of some calls from a state on -/
def due (s : Oc05.House) (cs : List (List (List Int))) : List Int := PyFlat.told (PyFlat.played Oc05Neutral.step s cs)
theorem due_nil (s : Oc05.House) : due s [] = [] := rfl
theorem due_cons (s : Oc05.House) (c : List (List Int)) (cs : List (List (List Int))) :
    due s (c :: cs) = ((Oc05Neutral.step s c).2.length : Int) :: (Oc05Neutral.step s c).2 ++ due (Oc05Neutral.step s c).1 cs := by
  unfold due
  show PyFlat.told ((Oc05Neutral.step s c).2 :: PyFlat.played Oc05Neutral.step (Oc05Neutral.step s c).1 cs) = _
  unfold PyFlat.told
  rw [List.flatMap_cons]
/-- one call within its bounds -/
def okCall : List (List Int) → Prop
  | [[_], r] => r.length ≤ 30 ∧ ∀ z ∈ r, 0 ≤ z
  | [[2, a, b]] => 0 ≤ a ∧ 0 ≤ b
  | _ => True
theorem row32_ok {l : List Int} (h : Oc05Neutral.row32 l 30 = true) : l.length ≤ 30 ∧ ∀ z ∈ l, 0 ≤ z := by
  unfold Oc05Neutral.row32 at h
  rw [Bool.and_eq_true, List.all_eq_true] at h
  refine ⟨of_decide_eq_true h.1, fun z hz => ?_⟩
  have := h.2 z hz
  unfold Oc05Neutral.whole32 at this
  rw [Bool.and_eq_true] at this
  exact of_decide_eq_true this.1
theorem whole32_ok {z : Int} (h : Oc05Neutral.whole32 z = true) : 0 ≤ z := by
  unfold Oc05Neutral.whole32 at h
  rw [Bool.and_eq_true] at h
  exact of_decide_eq_true h.1
/-- what the premise gives -/
theorem asked_of {l : List Int} (h : PyOc05.answers_asked l = true) : ∃ cs, LieAll l cs ∧ (∀ c ∈ cs, Oc05Neutral.asked1 c = true) ∧ cs.length ≤ 60 ∧ (due Oc05.init cs).length ≤ 10000000 ∧ PyOc05.answers l = due Oc05.init cs := by
  unfold PyOc05.answers_asked at h
  cases e : PyFlat.calls PyOc05.shape l.length l with
  | none => simp [e] at h
  | some cs =>
    simp only [e, Bool.and_eq_true] at h
    obtain ⟨⟨⟨⟨_, h2⟩, _⟩, h4⟩, h5⟩ := h
    have ea : PyOc05.answers l = due Oc05.init cs := by
      unfold PyOc05.answers PyOc05.calls
      rw [e]
      show PyFlat.told (PyFlat.played Oc05Neutral.step Oc05Neutral.start (cs.map PyOc05.whole)) = _
      rw [whole_map]
      rfl
    refine ⟨cs, lieAll_of _ _ _ e, ?_, of_decide_eq_true h2, ?_, ea⟩
    · rw [whole_map] at h4
      unfold Oc05Neutral.asked at h4
      rw [Bool.and_eq_true, List.all_eq_true] at h4
      exact h4.1
    · rw [← ea]
      exact of_decide_eq_true h5
/-! ### the state of a house -/
structure HInv (s : Oc05.House) : Prop where
  ax5 : s.axioms.length ≤ 5
  at5 : (Oc.atomsFor s.axioms []).length ≤ 5
  axs : ∀ a ∈ s.axioms, (wf a.1 = true ∧ (toks a.1).length ≤ 30) ∧ (wf a.2 = true ∧ (toks a.2).length ≤ 30)
  r4 : s.roles.length ≤ 4
  lo : low s.roles
theorem init_inv : HInv Oc05.init := ⟨by decide, by decide, fun a h => (by cases h), by decide, fun a h => (by cases h)⟩
theorem atomsFor_snoc (ax : List Oc.Axiom) (a : Oc.Axiom) : Oc.atomsFor (ax ++ [a]) [] = Oc.atomsFor ax [a.1, a.2] := by
  unfold Oc.atomsFor
  rw [List.flatMap_append, List.append_nil]
  rfl
theorem two_ok {l : List Nat} {c d : C} (h : Oc05.two l = some (c, d)) : wf c = true ∧ wf d = true ∧ l = toks c ++ toks d := by
  obtain ⟨w, e⟩ := cut_wf (two_some.mp h)
  refine ⟨w c (by simp), w d (by simp), ?_⟩
  rw [e]
  simp
theorem concept_ok {l : List Nat} {c : C} (h : Oc05.concept l = some c) : wf c = true ∧ l = toks c := by
  obtain ⟨w, e⟩ := cut_wf (concept_some.mp h)
  refine ⟨w c (by simp), ?_⟩
  rw [e]
  simp
theorem line_inv {s : Oc05.House} {l : List Nat} (I : HInv s) (hl : l.length ≤ 30) : HInv (Oc05.step s (.line l)).1 := by
  show HInv (match Oc05.two l with
    | none => (s, Oc05.ok (-1))
    | some a => if s.axioms.length = Oc05.AXIOMS ∨ Oc05.much s [a.1, a.2] = true then (s, Oc05.ok (-7)) else ({ s with axioms := s.axioms ++ [a] }, Oc05.ok (s.axioms.length : Nat))).1
  cases e : Oc05.two l with
  | none => exact I
  | some a =>
    obtain ⟨c, d⟩ := a
    obtain ⟨w1, w2, el⟩ := two_ok e
    have hlen := congrArg List.length el
    rw [List.length_append] at hlen
    simp only
    split
    · exact I
    · rename_i h
      have h1 : s.axioms.length ≠ 5 := fun q => h (.inl q)
      have h2 : ¬ 5 < (Oc.atomsFor s.axioms [c, d]).length := fun q => h (.inr (decide_eq_true q))
      have := I.ax5
      refine ⟨by rw [List.length_append]; show _ + 1 ≤ 5; omega, by rw [atomsFor_snoc]; exact Nat.le_of_not_lt h2, fun x hx => ?_, I.r4, I.lo⟩
      rcases List.mem_append.mp hx with old | new
      · exact I.axs x old
      · simp at new
        subst new
        exact ⟨⟨w1, by show (toks c).length ≤ 30; omega⟩, ⟨w2, by show (toks d).length ≤ 30; omega⟩⟩
theorem role_inv {s : Oc05.House} {r t : Nat} (I : HInv s) : HInv (Oc05.step s (.role r t)).1 := by
  show HInv (if 4 ≤ r ∨ 4 ≤ t then (s, Oc05.ok (-1)) else if s.roles.length = Oc05.UNDERS then (s, Oc05.ok (-7)) else ({ s with roles := s.roles ++ [(r, t)] }, Oc05.ok (s.roles.length : Nat))).1
  split
  · exact I
  · rename_i h1
    split
    · exact I
    · rename_i h2
      have := I.r4
      have h3 : s.roles.length ≠ 4 := h2
      refine ⟨I.ax5, I.at5, I.axs, by rw [List.length_append]; show _ + 1 ≤ 4; omega, fun x hx => ?_⟩
      rcases List.mem_append.mp hx with old | new
      · exact I.lo x old
      · simp at new
        subst new
        exact ⟨by omega, by omega⟩
/-- the atoms of the axioms and of some concepts more -/
theorem mem_atomsFor {ax : List Oc.Axiom} {l : List C} {d : C} : d ∈ Oc.atomsFor ax l ↔ (∃ a ∈ ax, d ∈ a.1.atoms ∨ d ∈ a.2.atoms) ∨ ∃ c ∈ l, d ∈ c.atoms := by
  unfold Oc.atomsFor
  rw [mem_atomsOf]
  constructor
  · rintro ⟨c, hc, hd⟩
    rcases List.mem_append.mp hc with q | q
    · obtain ⟨a, ha, hc'⟩ := List.mem_flatMap.mp q
      simp at hc'
      rcases hc' with rfl | rfl
      · exact .inl ⟨a, ha, .inl hd⟩
      · exact .inl ⟨a, ha, .inr hd⟩
    · exact .inr ⟨c, q, hd⟩
  · rintro (⟨a, ha, h | h⟩ | ⟨c, hc, h⟩)
    · exact ⟨a.1, List.mem_append_left _ (List.mem_flatMap.mpr ⟨a, ha, by simp⟩), h⟩
    · exact ⟨a.2, List.mem_append_left _ (List.mem_flatMap.mpr ⟨a, ha, by simp⟩), h⟩
    · exact ⟨c, List.mem_append_right _ hc, h⟩
end Rh

/-! # Rh, part N: the told model -/
namespace Rh
open Oc (C)
open Oc05 (Under turned ALL ups needs gather steps)
/-- the first kind of these that bears an atom out -/
def pick (h : List Under) (at_ : List C) (l : List Nat) (t : Nat) (a : C) : Option Nat := l.find? fun u => shows at_ u a && Oc05.fits h at_ (roleOf a) t u
theorem bearer_pick (h : List Under) (at_ : List C) (l : List Nat) (t : Nat) (a : C) : bearer h at_ l t a = (pick h at_ l t a).isSome := by
  unfold bearer pick
  rw [List.isSome_find?]
theorem pick_mem {h : List Under} {at_ : List C} {l : List Nat} {t u : Nat} {a : C} (e : pick h at_ l t a = some u) : u ∈ l := List.mem_of_find?_eq_some e
theorem needs_eq (h : List Under) (at_ : List C) (l : List Nat) (t : Nat) : needs h at_ l t = at_.filterMap fun a => if owes at_ t a = true then (pick h at_ l t a).map fun u => (roleOf a, u) else none := by
  unfold Oc05.needs
  congr 1
  funext a
  cases a with
  | some r c =>
    show (if Oc.holds at_ t (.some r c) = true then _ else none) = (if Oc.holds at_ t (.some r c) = true then _ else none)
    unfold pick
    simp only [shows, roleOf, Bool.and_comm]
  | all r c =>
    show (if Oc.holds at_ t (.all r c) = false then _ else none) = (if (!Oc.holds at_ t (.all r c)) = true then _ else none)
    unfold pick
    simp only [shows, roleOf, Bool.and_comm, Bool.not_eq_true']
  | _ => simp [owes]
theorem needs_mem {h : List Under} {at_ : List C} {l : List Nat} {t : Nat} {x : Nat × Nat} (q : x ∈ needs h at_ l t) : x.2 ∈ l ∧ ∃ a ∈ at_, owes at_ t a = true ∧ x.1 = roleOf a := by
  rw [needs_eq, List.mem_filterMap] at q
  obtain ⟨a, ha, e⟩ := q
  by_cases ho : owes at_ t a = true
  · rw [if_pos ho] at e
    cases ep : pick h at_ l t a with
    | none => rw [ep] at e; cases e
    | some u =>
      rw [ep] at e
      cases e
      exact ⟨pick_mem ep, a, ha, ho, rfl⟩
  · rw [if_neg ho] at e
    cases e
/-! ### what can be there bears itself out -/
theorem settle_fix (h : List Under) (at_ : List C) : ∀ (n : Nat) (l : List Nat), l.length < n → ∀ t ∈ Oc05.settle h at_ n l, Oc05.borne h at_ (Oc05.settle h at_ n l) t = true
  | 0, l, g => by omega
  | n + 1, l, g => by
    have e : Oc05.settle h at_ (n + 1) l = (if (l.filter (Oc05.borne h at_ l)).length = l.length then l else Oc05.settle h at_ n (l.filter (Oc05.borne h at_ l))) := rfl
    rw [e]
    split
    · rename_i q
      intro t ht
      exact List.length_filter_eq_length_iff.mp q t ht
    · rename_i q
      have le := List.length_filter_le (Oc05.borne h at_ l) l
      exact settle_fix h at_ n _ (by omega)
theorem types_fix {h : List Under} {at_ : List C} {ax : List Oc.Axiom} {t : Nat} (q : t ∈ Oc05.types h at_ ax) : Oc05.borne h at_ (Oc05.types h at_ ax) t = true := by
  have := range_keep_len (2 ^ at_.length) (Oc.keeps at_ ax)
  exact settle_fix h at_ _ _ (by omega) t q
theorem types_pick {h : List Under} {at_ : List C} {ax : List Oc.Axiom} {t : Nat} (q : t ∈ Oc05.types h at_ ax) {a : C} (ha : a ∈ at_) (ho : owes at_ t a = true) : ∃ u, pick h at_ (Oc05.types h at_ ax) t a = some u := by
  have e := types_fix q
  rw [borne_eq, List.all_eq_true] at e
  have e2 := e a ha
  rw [ho, bearer_pick] at e2
  exact Option.isSome_iff_exists.mp (by simpa using e2)
theorem settle_part (h : List Under) (at_ : List C) : ∀ (n : Nat) (l : List Nat), (Oc05.settle h at_ n l).Sublist l
  | 0, l => List.Sublist.refl l
  | n + 1, l => by
    have e : Oc05.settle h at_ (n + 1) l = (if (l.filter (Oc05.borne h at_ l)).length = l.length then l else Oc05.settle h at_ n (l.filter (Oc05.borne h at_ l))) := rfl
    rw [e]
    split
    · exact List.Sublist.refl l
    · exact (settle_part h at_ n _).trans List.filter_sublist
theorem types_nodup (h : List Under) (at_ : List C) (ax : List Oc.Axiom) : (Oc05.types h at_ ax).Nodup :=
  List.Nodup.sublist ((settle_part h at_ _ _).trans List.filter_sublist) List.nodup_range
theorem types_len (h : List Under) (at_ : List C) (ax : List Oc.Axiom) : (Oc05.types h at_ ax).length ≤ 2 ^ at_.length := by
  have q := ((settle_part h at_ (2 ^ at_.length + 1) ((List.range (2 ^ at_.length)).filter (Oc.keeps at_ ax))).trans List.filter_sublist).length_le
  rwa [List.length_range] at q
/-! ### what's owed, by its places -/
def places (at_ : List C) (t : Nat) : List Nat := (List.range at_.length).filter fun p => Oc.bit (owedB at_ t) p
def atP (at_ : List C) (p : Nat) : C := at_.getD p .top
theorem atP_get {at_ : List C} {p : Nat} (h : p < at_.length) : at_[p]? = some (atP at_ p) := by
  unfold atP
  simp [List.getD_eq_getElem?_getD, List.getElem?_eq_getElem h]
def stepP (h : List Under) (at_ : List C) (l : List Nat) (t p : Nat) : Nat × Nat := (roleOf (atP at_ p), (pick h at_ l t (atP at_ p)).getD 0)
theorem places_owes {at_ : List C} {t p : Nat} (A : Ats at_) (q : p ∈ places at_ t) : p < at_.length ∧ owes at_ t (atP at_ p) = true := by
  obtain ⟨h1, h2⟩ := List.mem_filter.mp q
  have h3 := List.mem_range.mp h1
  refine ⟨h3, ?_⟩
  rw [bit_test, owed_test A (atP_get h3)] at h2
  exact h2
theorem map_atP (at_ : List C) : (List.range at_.length).map (atP at_) = at_ := by
  refine List.ext_getElem? fun i => ?_
  rw [List.getElem?_map]
  by_cases h : i < at_.length
  · rw [List.getElem?_range h, atP_get h]
    rfl
  · rw [List.getElem?_eq_none (by simpa using h), List.getElem?_eq_none (by omega)]
    rfl
theorem fm_filter {α β : Type} {p : α → Bool} {f : α → Option β} {g : α → β} : ∀ l : List α, (∀ x ∈ l, p x = true → f x = some (g x)) → (∀ x ∈ l, p x = false → f x = none) → l.filterMap f = (l.filter p).map g
  | [], _, _ => rfl
  | x :: l, h1, h2 => by
    have ih := fm_filter (p := p) (f := f) (g := g) l (fun y hy => h1 y (List.mem_cons_of_mem _ hy)) (fun y hy => h2 y (List.mem_cons_of_mem _ hy))
    cases e : p x with
    | true => rw [List.filterMap_cons_some (h1 x List.mem_cons_self e), List.filter_cons_of_pos e, List.map_cons, ih]
    | false => rw [List.filterMap_cons_none (h2 x List.mem_cons_self e), List.filter_cons_of_neg (by rw [e]; decide), ih]
theorem needs_places {h : List Under} {at_ : List C} {ax : List Oc.Axiom} {t : Nat} (A : Ats at_) (q : t ∈ Oc05.types h at_ ax) : needs h at_ (Oc05.types h at_ ax) t = (places at_ t).map (stepP h at_ (Oc05.types h at_ ax) t) := by
  rw [needs_eq]
  conv => lhs; arg 2; rw [← map_atP at_]
  rw [List.filterMap_map]
  refine fm_filter _ (fun p hp e => ?_) (fun p hp e => ?_)
  · have h3 := List.mem_range.mp hp
    rw [bit_test, owed_test A (atP_get h3)] at e
    obtain ⟨u, hu⟩ := types_pick q (List.mem_of_getElem? (atP_get h3)) e
    show (if owes at_ t (atP at_ p) = true then _ else _) = _
    rw [if_pos e]
    unfold stepP
    rw [hu]
    rfl
  · have h3 := List.mem_range.mp hp
    rw [bit_test, owed_test A (atP_get h3)] at e
    show (if owes at_ t (atP at_ p) = true then _ else _) = _
    rw [if_neg (by rw [e]; decide)]
theorem borne_places {h : List Under} {at_ : List C} {l : List Nat} {t : Nat} (A : Ats at_) : Oc05.borne h at_ l t = (places at_ t).all fun p => (pick h at_ l t (atP at_ p)).isSome := by
  rw [borne_eq]
  conv => lhs; arg 1; rw [← map_atP at_]
  unfold places
  rw [List.all_map, List.all_filter]
  refine Bool.eq_iff_iff.mpr ?_
  rw [List.all_eq_true, List.all_eq_true]
  refine forall_congr' fun p => forall_congr' fun hp => ?_
  have h3 := List.mem_range.mp hp
  show (!owes at_ t (atP at_ p) || bearer h at_ l t (atP at_ p)) = true ↔ _
  rw [bit_test, owed_test A (atP_get h3), bearer_pick]
/-! ### the things -/
def addT (m : List Nat) (x : Nat × Nat) : List Nat := if m.contains x.2 = true then m else m ++ [x.2]
theorem addT_in {m : List Nat} {x : Nat × Nat} (h : x.2 ∈ m) : addT m x = m := if_pos (by simpa using h)
theorem addT_out {m : List Nat} {x : Nat × Nat} (h : x.2 ∉ m) : addT m x = m ++ [x.2] := if_neg (by simpa using h)
theorem addT_nodup {m : List Nat} {x : Nat × Nat} (h : m.Nodup) : (addT m x).Nodup := by
  by_cases g : x.2 ∈ m
  · rw [addT_in g]; exact h
  · rw [addT_out g, List.nodup_append]
    refine ⟨h, by simp, fun a ha b hb e => ?_⟩
    simp at hb
    exact g (by rw [← hb, ← e]; exact ha)
theorem addT_pre (m : List Nat) (x : Nat × Nat) : ∃ r, addT m x = m ++ r := by
  by_cases g : x.2 ∈ m
  · exact ⟨[], by rw [addT_in g, List.append_nil]⟩
  · exact ⟨_, addT_out g⟩
theorem addT_has (m : List Nat) (x : Nat × Nat) : x.2 ∈ addT m x := by
  by_cases g : x.2 ∈ m
  · rw [addT_in g]; exact g
  · rw [addT_out g]; simp
theorem addT_from {m : List Nat} {x : Nat × Nat} {y : Nat} (h : y ∈ addT m x) : y ∈ m ∨ y = x.2 := by
  by_cases g : x.2 ∈ m
  · rw [addT_in g] at h; exact .inl h
  · rw [addT_out g] at h; simpa using h
theorem adds_pre : ∀ (xs : List (Nat × Nat)) (m : List Nat), ∃ r, xs.foldl addT m = m ++ r
  | [], m => ⟨[], by simp⟩
  | x :: xs, m => by
    obtain ⟨r1, e1⟩ := addT_pre m x
    obtain ⟨r2, e2⟩ := adds_pre xs (addT m x)
    exact ⟨r1 ++ r2, by rw [List.foldl_cons, e2, e1, List.append_assoc]⟩
theorem adds_nodup : ∀ (xs : List (Nat × Nat)) {m : List Nat}, m.Nodup → (xs.foldl addT m).Nodup
  | [], _, h => h
  | _ :: xs, _, h => adds_nodup xs (addT_nodup h)
theorem adds_from : ∀ (xs : List (Nat × Nat)) {m : List Nat} {y : Nat}, y ∈ xs.foldl addT m → y ∈ m ∨ ∃ x ∈ xs, y = x.2
  | [], _, _, h => .inl h
  | x :: xs, m, y, h => by
    rcases adds_from xs h with q | ⟨z, hz, e⟩
    · rcases addT_from q with q | q
      · exact .inl q
      · exact .inr ⟨x, List.mem_cons_self, q⟩
    · exact .inr ⟨z, List.mem_cons_of_mem _ hz, e⟩
theorem adds_has : ∀ (xs : List (Nat × Nat)) {m : List Nat} {x : Nat × Nat}, x ∈ xs → x.2 ∈ xs.foldl addT m
  | y :: xs, m, x, h => by
    rcases List.mem_cons.mp h with rfl | q
    · obtain ⟨r, e⟩ := adds_pre xs (addT m x)
      rw [List.foldl_cons, e]
      exact List.mem_append_left _ (addT_has m x)
    · exact adds_has xs q
theorem gather_none {h : List Under} {at_ : List C} {l w : List Nat} {n i : Nat} (e : w[i]? = none) : gather h at_ l n i w = w := by
  cases n with
  | zero => rfl
  | succ n =>
    show (match w[i]? with | none => w | some t => _) = w
    rw [e]
theorem gather_some {h : List Under} {at_ : List C} {l w : List Nat} {n i t : Nat} (e : w[i]? = some t) : gather h at_ l (n + 1) i w = gather h at_ l n (i + 1) ((needs h at_ l t).foldl addT w) := by
  show (match w[i]? with | none => w | some t => gather h at_ l n (i + 1) ((needs h at_ l t).foldl addT w)) = _
  rw [e]
/-- what the things that are gone through have -/
structure Gth (h : List Under) (at_ : List C) (l : List Nat) (i : Nat) (w : List Nat) : Prop where
  nd : w.Nodup
  sub : ∀ x ∈ w, x ∈ l
  le : i ≤ w.length
  shut : ∀ t, t ∈ w.take i → ∀ x ∈ needs h at_ l t, x.2 ∈ w
theorem Gth.len {h : List Under} {at_ : List C} {l w : List Nat} {i : Nat} (G : Gth h at_ l i w) : w.length ≤ l.length := G.nd.length_le_of_subset (fun x hx => G.sub x hx)
theorem Gth.turn {h : List Under} {at_ : List C} {l w : List Nat} {i t : Nat} (G : Gth h at_ l i w) (e : w[i]? = some t) : Gth h at_ l (i + 1) ((needs h at_ l t).foldl addT w) := by
  obtain ⟨r, er⟩ := adds_pre (needs h at_ l t) w
  have hi := (List.getElem?_eq_some_iff.mp e).1
  refine ⟨adds_nodup _ G.nd, fun x hx => ?_, ?_, fun s hs x hx => ?_⟩
  · rcases adds_from _ hx with q | ⟨z, hz, e⟩
    · exact G.sub x q
    · rw [e]; exact (needs_mem hz).1
  · rw [er, List.length_append]; omega
  · rw [er, List.take_append_of_le_length (by omega), List.take_add_one, e] at hs
    rcases List.mem_append.mp hs with q | q
    · rw [er]; exact List.mem_append_left _ (G.shut s q x hx)
    · simp at q
      subst q
      exact adds_has _ hx
/-- the told model's things: each once, out of these kinds, and all that's needed is there -/
theorem gather_end {h : List Under} {at_ : List C} {l w : List Nat} {i : Nat} (G : Gth h at_ l i w) (e : w.length ≤ i) : ∀ t ∈ w, ∀ x ∈ needs h at_ l t, x.2 ∈ w := fun t ht => G.shut t (by rw [List.take_of_length_le e]; exact ht)
theorem gth_start {h : List Under} {at_ : List C} {l : List Nat} {t : Nat} (q : t ∈ l) : Gth h at_ l 0 [t] := ⟨by simp, by simpa using q, Nat.zero_le _, fun s hs => by simp at hs⟩
/-! ### the ways -/
def rot (x : Nat × Nat × Nat) : Nat × Nat × Nat := (x.2.1, x.1, x.2.2)
/-- one step's ways: from, by, to -/
def waysOf (i j : Nat) (us : List Nat) : List (Nat × Nat × Nat) := us.map fun s => if s < 2 then (i, s, j) else (j, s - 2, i)
theorem turned_high {s : Nat} (h : ¬ s < 2) : turned s = s - 2 := if_neg h
def place_ (w : List Nat) (u : Nat) : Nat := (w.idxOf? u).getD 0
theorem idx_some {l : List Nat} {c : Nat} (h : c ∈ l) : l.idxOf? c = some (place_ l c) ∧ l[place_ l c]? = some c ∧ (∀ m, m < place_ l c → l[m]? ≠ some c) ∧ place_ l c < l.length := by
  have key : ∀ {l : List Nat} {c : Nat}, c ∈ l → ∃ k, l.idxOf? c = some k ∧ l[k]? = some c ∧ ∀ m, m < k → l[m]? ≠ some c := by
    intro l c h
    induction l with
    | nil => cases h
    | cons a l ih =>
      by_cases e : a = c
      · subst e
        refine ⟨0, by simp [List.idxOf?_cons], rfl, fun m hm => by omega⟩
      · have h' : c ∈ l := by
          rcases List.mem_cons.mp h with g | g
          · exact absurd g.symm e
          · exact g
        obtain ⟨k, e1, e2, e3⟩ := ih h'
        refine ⟨k + 1, by simp [List.idxOf?_cons, e, e1], by simpa using e2, fun m hm => ?_⟩
        cases m with
        | zero => simpa using e
        | succ m => simpa using e3 m (by omega)
  obtain ⟨k, e1, e2, e3⟩ := key h
  have ep : place_ l c = k := by unfold place_; rw [e1]; rfl
  rw [ep]
  exact ⟨e1, e2, e3, (List.getElem?_eq_some_iff.mp e2).1⟩
theorem flat_congr {α β : Type} {f g : α → List β} : ∀ l : List α, (∀ x ∈ l, f x = g x) → l.flatMap f = l.flatMap g
  | [], _ => rfl
  | x :: l, h => by rw [List.flatMap_cons, List.flatMap_cons, h x List.mem_cons_self, flat_congr l fun y hy => h y (List.mem_cons_of_mem _ hy)]
def waysAt (h : List Under) (at_ : List C) (l w : List Nat) (i t : Nat) : List (Nat × Nat × Nat) := (needs h at_ l t).flatMap fun x => waysOf i (place_ w x.2) (ups h x.1)
def waysTo (h : List Under) (at_ : List C) (l w : List Nat) (n : Nat) : List (Nat × Nat × Nat) := (List.range n).flatMap fun i => waysAt h at_ l w i (w.getD i 0)
theorem steps_ways {h : List Under} {at_ : List C} {l w : List Nat} (shut : ∀ t ∈ w, ∀ x ∈ needs h at_ l t, x.2 ∈ w) : (steps h at_ l w).map rot = waysTo h at_ l w w.length := by
  unfold Oc05.steps waysTo
  rw [List.map_flatMap]
  refine flat_congr _ ?_
  intro i hi
  have hi := List.mem_range.mp hi
  unfold waysAt
  rw [List.map_flatMap]
  refine flat_congr _ ?_
  intro x hx
  have hw : w.getD i 0 ∈ w := by
    have e : w.getD i 0 = w[i] := by simp [List.getD_eq_getElem?_getD, hi]
    exact e ▸ List.getElem_mem hi
  obtain ⟨e1, _⟩ := idx_some (shut _ hw x hx)
  rw [e1]
  show List.map rot (List.map _ _) = _
  unfold waysOf
  rw [List.map_map]
  refine List.map_congr_left fun s _ => ?_
  show rot (if s < 2 then _ else _) = _
  split <;> rfl
/-! ### put in order -/
def lex3 (x y : Nat × Nat × Nat) : Prop := x.1 < y.1 ∨ (x.1 = y.1 ∧ (x.2.1 < y.2.1 ∨ (x.2.1 = y.2.1 ∧ x.2.2 < y.2.2)))
def lex2 (x y : Nat × Nat) : Prop := x.1 < y.1 ∨ (x.1 = y.1 ∧ x.2 < y.2)
theorem lex2_asym {x y : Nat × Nat} (h : lex2 x y) : ¬ lex2 y x := by
  unfold lex2 at *
  omega
/-- two lists in the same strict order with the same members are one -/
theorem order_same {α : Type} {R : α → α → Prop} (as : ∀ {x y}, R x y → ¬ R y x) : ∀ (a b : List α), a.Pairwise R → b.Pairwise R → (∀ x, x ∈ a ↔ x ∈ b) → a = b
  | [], [], _, _, _ => rfl
  | [], y :: b, _, _, h => by have := (h y).mpr List.mem_cons_self; cases this
  | x :: a, [], _, _, h => by have := (h x).mp List.mem_cons_self; cases this
  | x :: a, y :: b, ha, hb, h => by
    have pa := List.pairwise_cons.mp ha
    have pb := List.pairwise_cons.mp hb
    have e : x = y := by
      rcases List.mem_cons.mp ((h x).mp List.mem_cons_self) with q | q
      · exact q
      · rcases List.mem_cons.mp ((h y).mpr List.mem_cons_self) with q' | q'
        · exact q'.symm
        · exact absurd (pa.1 y q') (as (pb.1 x q))
    subst e
    refine congrArg _ (order_same as a b pa.2 pb.2 fun z => ?_)
    have hz := h z
    constructor
    · intro q
      rcases List.mem_cons.mp (hz.mp (List.mem_cons_of_mem _ q)) with g | g
      · subst g; exact absurd (pa.1 z q) (as (pa.1 z q))
      · exact g
    · intro q
      rcases List.mem_cons.mp (hz.mpr (List.mem_cons_of_mem _ q)) with g | g
      · subst g; exact absurd (pb.1 z q) (as (pb.1 z q))
      · exact g
def toL (e : List (Nat × Nat × Nat)) (n i : Nat) : List (Nat × Nat) := [0, 1].flatMap fun r => ((List.range n).filter fun j => e.contains (r, i, j)).map fun j => (r, j)
theorem toL_eq (e : List (Nat × Nat × Nat)) (n i : Nat) : toL e n i = ((List.range n).filter fun j => e.contains (0, i, j)).map (fun j => (0, j)) ++ ((List.range n).filter fun j => e.contains (1, i, j)).map (fun j => (1, j)) := by
  unfold toL
  simp
theorem toL_sorted (e : List (Nat × Nat × Nat)) (n i : Nat) : (toL e n i).Pairwise lex2 := by
  have one : ∀ r : Nat, (((List.range n).filter fun j => e.contains (r, i, j)).map fun j => (r, j)).Pairwise lex2 := by
    intro r
    refine List.Pairwise.map _ (fun a b (q : a < b) => .inr ⟨rfl, q⟩) (List.Pairwise.filter _ List.pairwise_lt_range)
  rw [toL_eq, List.pairwise_append]
  refine ⟨one 0, one 1, fun a ha b hb => ?_⟩
  obtain ⟨_, _, rfl⟩ := List.mem_map.mp ha
  obtain ⟨_, _, rfl⟩ := List.mem_map.mp hb
  exact .inl (show 0 < 1 by decide)
theorem mem_toL {e : List (Nat × Nat × Nat)} {n i : Nat} {x : Nat × Nat} : x ∈ toL e n i ↔ x.1 < 2 ∧ x.2 < n ∧ (x.1, i, x.2) ∈ e := by
  rw [toL_eq, List.mem_append, List.mem_map, List.mem_map]
  constructor
  · rintro (⟨j, hj, rfl⟩ | ⟨j, hj, rfl⟩) <;>
    · obtain ⟨h1, h2⟩ := List.mem_filter.mp hj
      exact ⟨by simp, List.mem_range.mp h1, by simpa using h2⟩
  · rintro ⟨h1, h2, h3⟩
    obtain ⟨r, j⟩ := x
    have c : r = 0 ∨ r = 1 := by
      have : r < 2 := h1
      omega
    rcases c with rfl | rfl
    · exact .inl ⟨j, List.mem_filter.mpr ⟨List.mem_range.mpr h2, by simpa using h3⟩, rfl⟩
    · exact .inr ⟨j, List.mem_filter.mpr ⟨List.mem_range.mpr h2, by simpa using h3⟩, rfl⟩
theorem waysOf_in {i j n : Nat} {us : List Nat} {x : Nat × Nat × Nat} (hi : i < n) (hj : j < n) (hu : ∀ s ∈ us, s < 4) (q : x ∈ waysOf i j us) : x.1 < n ∧ x.2.1 < 2 ∧ x.2.2 < n := by
  obtain ⟨s, hs, rfl⟩ := List.mem_map.mp q
  have := hu s hs
  split
  · rename_i h2; exact ⟨hi, h2, hj⟩
  · exact ⟨hj, by show s - 2 < 2; omega, hi⟩
theorem waysTo_in {h : List Under} {at_ : List C} {l w : List Nat} {n : Nat} (hn : n ≤ w.length) (shut : ∀ t ∈ w, ∀ x ∈ needs h at_ l t, x.2 ∈ w) : ∀ x ∈ waysTo h at_ l w n, x.1 < w.length ∧ x.2.1 < 2 ∧ x.2.2 < w.length := by
  intro x hx
  obtain ⟨i, hi, hx⟩ := List.mem_flatMap.mp hx
  have hi := List.mem_range.mp hi
  obtain ⟨y, hy, hx⟩ := List.mem_flatMap.mp hx
  have hw : w.getD i 0 ∈ w := by
    rw [List.getD_eq_getElem?_getD, List.getElem?_eq_getElem (by omega)]
    exact List.getElem_mem _
  exact waysOf_in (by omega) (idx_some (shut _ hw y hy)).2.2.2 (fun s hs => ups_lt hs) hx
/-- what's told of a thing: its ways in order -/
theorem own_eq {h : List Under} {at_ : List C} {l w : List Nat} (shut : ∀ t ∈ w, ∀ x ∈ needs h at_ l t, x.2 ∈ w) {S : List (Nat × Nat × Nat)} (so : S.Pairwise lex3) (mem : ∀ x, x ∈ S ↔ x ∈ waysTo h at_ l w w.length) (i : Nat) :
    (S.filter fun x => decide (x.1 = i)).map (fun x => (x.2.1, x.2.2)) = toL (steps h at_ l w) w.length i := by
  refine order_same (R := lex2) lex2_asym _ _ ?_ (toL_sorted _ _ _) fun x => ?_
  · rw [List.pairwise_map]
    refine List.Pairwise.imp_of_mem (fun {a b} ha hb q => ?_) (List.Pairwise.filter _ so)
    have h1 : a.1 = i := by simpa using (List.mem_filter.mp ha).2
    have h2 : b.1 = i := by simpa using (List.mem_filter.mp hb).2
    unfold lex3 at q
    show a.2.1 < b.2.1 ∨ (a.2.1 = b.2.1 ∧ a.2.2 < b.2.2)
    omega
  · have key : ∀ r j, (i, r, j) ∈ waysTo h at_ l w w.length ↔ (r, i, j) ∈ steps h at_ l w := by
      intro r j
      rw [← steps_ways shut, List.mem_map]
      constructor
      · rintro ⟨⟨a, b, c⟩, hm, e⟩
        cases e
        exact hm
      · intro q
        exact ⟨_, q, rfl⟩
    rw [mem_toL, List.mem_map]
    constructor
    · rintro ⟨⟨a, r, j⟩, hm, rfl⟩
      obtain ⟨h1, h2⟩ := List.mem_filter.mp hm
      have h2 : a = i := by simpa using h2
      subst h2
      have h3 := (mem _).mp h1
      obtain ⟨_, g1, g2⟩ := waysTo_in (Nat.le_refl _) shut _ h3
      exact ⟨g1, g2, (key r j).mp h3⟩
    · rintro ⟨_, _, h3⟩
      exact ⟨(i, x.1, x.2), List.mem_filter.mpr ⟨(mem _).mpr ((key _ _).mpr h3), by simp⟩, rfl⟩
/-! ### names -/
def nmOf (at_ : List C) (t : Nat) (a : C) : Option Nat := match a with
  | .name n => if Oc.holds at_ t a = true then some n else none
  | _ => none
def nmL (at_ : List C) (t : Nat) : List Nat := at_.filterMap (nmOf at_ t)
theorem mem_nmL {at_ : List C} {t n : Nat} : n ∈ nmL at_ t ↔ C.name n ∈ at_ ∧ Oc.holds at_ t (.name n) = true := by
  unfold nmL
  rw [List.mem_filterMap]
  constructor
  · rintro ⟨a, ha, e⟩
    cases a with
    | name m =>
      by_cases q : Oc.holds at_ t (.name m) = true
      · have e' : (if Oc.holds at_ t (.name m) = true then some m else none) = some n := e
        rw [if_pos q] at e'
        cases e'
        exact ⟨ha, q⟩
      · have e' : (if Oc.holds at_ t (.name m) = true then some m else none) = some n := e
        rw [if_neg q] at e'
        cases e'
    | _ => cases e
  · rintro ⟨h1, h2⟩
    exact ⟨_, h1, if_pos h2⟩
theorem nmL_nodup {at_ : List C} {t : Nat} (n : at_.Nodup) : (nmL at_ t).Nodup := by
  have key : ∀ l : List C, l.Nodup → (l.filterMap (nmOf at_ t)).Nodup := by
    intro l
    induction l with
    | nil => intro _; simp
    | cons a l ih =>
      intro each
      obtain ⟨h1, h2⟩ := List.nodup_cons.mp each
      cases e : nmOf at_ t a with
      | none => rw [List.filterMap_cons_none e]; exact ih h2
      | some m =>
        rw [List.filterMap_cons_some e, List.nodup_cons]
        refine ⟨fun q => ?_, ih h2⟩
        have nm : ∀ b, nmOf at_ t b = some m → b = .name m := by
          intro b hb
          cases b with
          | name k =>
            have hb' : (if Oc.holds at_ t (.name k) = true then some k else none) = some m := hb
            split at hb'
            · cases hb'; rfl
            · cases hb'
          | _ => cases hb
        obtain ⟨b, hb, eb⟩ := List.mem_filterMap.mp q
        rw [nm a e, ← nm b eb] at h1
        exact h1 hb
  exact key at_ n
theorem holds_name_in {at_ : List C} {t n : Nat} (h : Oc.holds at_ t (.name n) = true) : C.name n ∈ at_ := by
  apply Decidable.byContradiction
  intro g
  unfold Oc.holds at h
  rw [List.idxOf?_eq_none_iff.mpr g] at h
  cases h
def pows (l : List Nat) : Nat := l.foldl (fun n a => n + 2 ^ a) 0
theorem pows_eq : ∀ (l : List Nat) (m : Nat), l.foldl (fun n a => n + 2 ^ a) m = m + (l.map fun a => 2 ^ a).sum
  | [], m => by simp
  | a :: l, m => by
    rw [List.foldl_cons, pows_eq l, List.map_cons, List.sum_cons]
    omega
theorem names_eq {at_ : List C} {t : Nat} (n : at_.Nodup) (w : ∀ c ∈ at_, wf c = true) : ((nmL at_ t).map fun a => 2 ^ a).sum = Oc05.namesOf at_ t := by
  unfold Oc05.namesOf
  rw [pows_eq, Nat.zero_add]
  have pm : (nmL at_ t).Perm ((List.range Oc.NAMES).filter fun a => Oc.holds at_ t (.name a)) := by
    refine (List.perm_ext_iff_of_nodup (nmL_nodup n) (List.Nodup.sublist List.filter_sublist List.nodup_range)).mpr fun a => ?_
    rw [mem_nmL, List.mem_filter, List.mem_range]
    constructor
    · rintro ⟨h1, h2⟩
      refine ⟨?_, h2⟩
      have := w _ h1
      simp [wf] at this
      exact this
    · rintro ⟨_, h2⟩
      exact ⟨holds_name_in h2, h2⟩
  exact (pm.map _).sum_nat
end Rh

/-! # Rh, part AM: one call of the list after another -/
namespace Rh
open Oc (C)
/-- a call alone, and what's behind it -/
theorem lies_cut {l t : List Int} {c : List (List Int)} (h : Lies l c t) : ∃ m, l = m ++ t ∧ Lies m c [] ∧ 0 < m.length := by
  cases h with
  | bare hp => exact ⟨[_], rfl, .bare hp, by simp⟩
  | pair => exact ⟨[2, _, _], rfl, .pair, by simp⟩
  | @row p n row t hp hn =>
    refine ⟨p :: n :: row, rfl, ?_, by simp⟩
    have q := Lies.row (t := []) hp hn
    rwa [List.append_nil] at q
theorem can_same (s : Oc05.House) (l : List Nat) : (Oc05.step s (.can l)).1 = s ∧ (Oc05.step s (.can l)).2.l = [] := by
  show (match Oc05.concept l with | none => (s, Oc05.ok (-1)) | some c => if Oc05.much s [c] = true then (s, Oc05.ok (-7)) else (s, Oc05.ok (Oc05.flag (Oc05.can s.roles s.axioms c) : Nat))).1 = s ∧ (match Oc05.concept l with | none => (s, Oc05.ok (-1)) | some c => if Oc05.much s [c] = true then (s, Oc05.ok (-7)) else (s, Oc05.ok (Oc05.flag (Oc05.can s.roles s.axioms c) : Nat))).2.l = []
  cases Oc05.concept l with
  | none => exact ⟨rfl, rfl⟩
  | some c => simp only; split <;> exact ⟨rfl, rfl⟩
theorem under_same (s : Oc05.House) (l : List Nat) : (Oc05.step s (.under l)).1 = s ∧ (Oc05.step s (.under l)).2.l = [] := by
  show (match Oc05.two l with | none => (s, Oc05.ok (-1)) | some a => if Oc05.much s [a.1, a.2] = true then (s, Oc05.ok (-7)) else (s, Oc05.ok (Oc05.flag (Oc05.under s.roles s.axioms a.1 a.2) : Nat))).1 = s ∧ (match Oc05.two l with | none => (s, Oc05.ok (-1)) | some a => if Oc05.much s [a.1, a.2] = true then (s, Oc05.ok (-7)) else (s, Oc05.ok (Oc05.flag (Oc05.under s.roles s.axioms a.1 a.2) : Nat))).2.l = []
  cases Oc05.two l with
  | none => exact ⟨rfl, rfl⟩
  | some a => simp only; split <;> exact ⟨rfl, rfl⟩
theorem model_same (s : Oc05.House) (l : List Nat) : (Oc05.step s (.model l)).1 = s := by
  show (match Oc05.concept l with | none => (s, Oc05.ok (-1)) | some c => if Oc05.much s [c] = true then (s, Oc05.ok (-7)) else (s, Oc05.told (Oc05.model s.roles s.axioms c))).1 = s
  cases Oc05.concept l with
  | none => rfl
  | some c => simp only; split <;> rfl
theorem line_l (s : Oc05.House) (l : List Nat) : (Oc05.step s (.line l)).2.l = [] := by
  show (match Oc05.two l with | none => (s, Oc05.ok (-1)) | some a => if s.axioms.length = Oc05.AXIOMS ∨ Oc05.much s [a.1, a.2] = true then (s, Oc05.ok (-7)) else ({ s with axioms := s.axioms ++ [a] }, Oc05.ok (s.axioms.length : Nat))).2.l = []
  cases Oc05.two l with
  | none => rfl
  | some a => simp only; split <;> rfl
theorem role_l (s : Oc05.House) (r t : Nat) : (Oc05.step s (.role r t)).2.l = [] := by
  show (if 4 ≤ r ∨ 4 ≤ t then (s, Oc05.ok (-1)) else if s.roles.length = Oc05.UNDERS then (s, Oc05.ok (-7)) else ({ s with roles := s.roles ++ [(r, t)] }, Oc05.ok (s.roles.length : Nat))).2.l = []
  split
  · rfl
  · split <;> rfl
theorem out_one {a : Oc05.Ans} (h : a.l = []) : Oc05Neutral.out a = [a.v] := by
  unfold Oc05Neutral.out
  rw [h]
  rfl
theorem nats_back {l : List Int} (h : ∀ z ∈ l, 0 ≤ z) : (Oc05Neutral.nats l).map (fun (n : Nat) => (n : Int)) = l := by
  unfold Oc05Neutral.nats
  rw [List.map_map]
  have e : ∀ z ∈ l, ((fun (n : Nat) => (n : Int)) ∘ Int.toNat) z = z := fun z hz => Int.toNat_of_nonneg (h z hz)
  rw [List.map_congr_left e, List.map_id']
/-- within its bounds, the house stays in order -/
theorem step_inv {s : Oc05.House} {m : List Int} {c : List (List Int)} (I : HInv s) (L : Lies m c []) (a : Oc05Neutral.asked1 c = true) : HInv (Oc05Neutral.step s c).1 := by
  cases L with
  | bare hp =>
    rcases hp with rfl | rfl | rfl
    · exact init_inv
    · exact I
    · exact I
  | pair => exact role_inv I
  | @row p n row _ hp hn =>
    rcases hp with rfl | rfl | rfl | rfl
    · refine line_inv (l := Oc05Neutral.nats row) I ?_
      unfold Oc05Neutral.nats
      rw [List.length_map]
      exact (row32_ok (l := row) a).1
    · show HInv (Oc05.step s (.can (Oc05Neutral.nats row))).1
      rw [(can_same _ _).1]
      exact I
    · show HInv (Oc05.step s (.under (Oc05Neutral.nats row))).1
      rw [(under_same _ _).1]
      exact I
    · show HInv (Oc05.step s (.model (Oc05Neutral.nats row))).1
      rw [model_same]
      exact I
end Rh

/-! # Rh, part P: the round of i -> 5 i + 1 modulo a power of two -/
namespace Rh
def five : Nat → Nat
  | 0 => 0
  | n + 1 => 5 * five n + 1
theorem five_add (a : Nat) : ∀ b, five (a + b) = 5 ^ b * five a + five b
  | 0 => by simp [five]
  | b + 1 => by
    show 5 * five (a + b) + 1 = 5 ^ (b + 1) * five a + (5 * five b + 1)
    rw [five_add a b, Nat.mul_add, Nat.pow_succ, ← Nat.mul_assoc, Nat.mul_comm (5 ^ b) 5]
    omega
theorem five_pow : ∀ n, 4 * five n + 1 = 5 ^ n
  | 0 => rfl
  | n + 1 => by
    have := five_pow n
    show 4 * (5 * five n + 1) + 1 = 5 ^ (n + 1)
    rw [Nat.pow_succ, ← this]
    omega
theorem five_sq (x q : Nat) : (1 + x * 4 * (2 * q + 1)) ^ 2 = 1 + x * 4 * 2 * (2 * (q + x * (2 * q + 1) * (2 * q + 1)) + 1) := by
  rw [Nat.pow_two]
  grind
theorem five_two : ∀ k, ∃ q, 5 ^ 2 ^ k = 1 + 2 ^ k * 4 * (2 * q + 1)
  | 0 => ⟨0, rfl⟩
  | k + 1 => by
    obtain ⟨q, e⟩ := five_two k
    refine ⟨q + 2 ^ k * (2 * q + 1) * (2 * q + 1), ?_⟩
    rw [Nat.pow_succ, Nat.pow_mul, e, five_sq]
    grind
theorem five_at (k : Nat) : ∃ q, five (2 ^ k) = 2 ^ k * (2 * q + 1) := by
  obtain ⟨q, e⟩ := five_two k
  refine ⟨q, ?_⟩
  have e2 := five_pow (2 ^ k)
  rw [e] at e2
  have e3 : 4 * five (2 ^ k) = 4 * (2 ^ k * (2 * q + 1)) := by grind
  omega
theorem five_past (k n : Nat) : five (n + 2 ^ k) % 2 ^ k = five n % 2 ^ k := by
  obtain ⟨q, e⟩ := five_two k
  obtain ⟨p, e2⟩ := five_at k
  rw [five_add, e, e2]
  have e3 : (1 + 2 ^ k * 4 * (2 * q + 1)) * five n + 2 ^ k * (2 * p + 1) = five n + 2 ^ k * (4 * (2 * q + 1) * five n + (2 * p + 1)) := by grind
  rw [e3, Nat.add_mul_mod_self_left]
theorem five_half (k n : Nat) : five (n + 2 ^ k) % 2 ^ (k + 1) = (five n + 2 ^ k) % 2 ^ (k + 1) := by
  obtain ⟨q, e⟩ := five_two k
  obtain ⟨p, e2⟩ := five_at k
  rw [five_add, e, e2]
  have e3 : (1 + 2 ^ k * 4 * (2 * q + 1)) * five n + 2 ^ k * (2 * p + 1) = five n + 2 ^ k + 2 ^ (k + 1) * (2 * (2 * q + 1) * five n + p) := by
    rw [Nat.pow_succ]
    grind
  rw [e3, Nat.add_mul_mod_self_left]
theorem five_hits : ∀ k j, j < 2 ^ k → ∃ n, n < 2 ^ k ∧ five n % 2 ^ k = j
  | 0, j, h => ⟨0, by decide, by simp at h; simp [h, five]⟩
  | k + 1, j, h => by
    have h2 : (2 : Nat) ^ (k + 1) = 2 ^ k * 2 := Nat.pow_succ ..
    obtain ⟨n, hn, e⟩ := five_hits k (j % 2 ^ k) (Nat.mod_lt _ (Nat.two_pow_pos k))
    by_cases c : five n % 2 ^ (k + 1) = j
    · exact ⟨n, by omega, c⟩
    · refine ⟨n + 2 ^ k, by omega, ?_⟩
      rw [five_half]
      have m1 : five n % 2 ^ (k + 1) % 2 ^ k = five n % 2 ^ k := by
        rw [h2]
        exact Nat.mod_mul_right_mod ..
      have l1 : five n % 2 ^ (k + 1) < 2 ^ (k + 1) := Nat.mod_lt _ (by omega)
      rw [← Nat.mod_add_mod]
      generalize five n % 2 ^ (k + 1) = a at *
      rw [e] at m1
      rw [h2] at h l1 ⊢
      generalize 2 ^ k = x at *
      have ja : j = a + x ∨ a = j + x := by
        have d1 := Nat.div_add_mod j x
        have d2 := Nat.div_add_mod a x
        have q1 : j / x < 2 := Nat.div_lt_of_lt_mul h
        have q2 : a / x < 2 := Nat.div_lt_of_lt_mul l1
        have low : ∀ y : Nat, y < 2 → y = 0 ∨ y = 1 := by omega
        have c1 := low _ q1
        have c2 := low _ q2
        rcases c1 with c1 | c1 <;> rcases c2 with c2 | c2 <;> rw [c1] at d1 <;> rw [c2] at d2 <;> simp at d1 d2 <;> omega
      rcases ja with q | q
      · rw [← q, Nat.mod_eq_of_lt h]
      · rw [q, show j + x + x = j + x * 2 by omega, Nat.add_mod_right, Nat.mod_eq_of_lt h]
/-- from anywhere each number below 2 to the k is met within a round -/
theorem round_meets {k i j : Nat} (hi : i < 2 ^ k) (hj : j < 2 ^ k) : ∃ n, n < 2 ^ k ∧ (5 ^ n * i + five n) % 2 ^ k = j := by
  obtain ⟨a, ha, ea⟩ := five_hits k i hi
  obtain ⟨b, hb, eb⟩ := five_hits k j hj
  have key : ∀ n, (5 ^ n * i + five n) % 2 ^ k = five (a + n) % 2 ^ k := by
    intro n
    rw [five_add, ← ea, ← Nat.mod_add_mod, Nat.mul_mod_mod, Nat.mod_add_mod]
  by_cases ahead : a ≤ b
  · exact ⟨b - a, by omega, by rw [key, Nat.add_sub_cancel' ahead, eb]⟩
  · exact ⟨b + 2 ^ k - a, by omega, by rw [key, show a + (b + 2 ^ k - a) = b + 2 ^ k by omega, five_past, eb]⟩
end Rh

set_option Elab.async false
set_option linter.all false
set_option maxRecDepth 100000
set_option maxHeartbeats 2000000
/-! # Rh, part S: sets of tuples of ints of any number: the table -/
namespace Rh
open PySem PySem.Spec PyProof.Rows L2
/-- a table's mask: a power of two less one -/
def Pw (m : Nat) : Prop := ∃ k, m + 1 = 2 ^ (k + 1)
theorem Pw.odd {m : Nat} (h : Pw m) : m % 2 = 1 := by
  obtain ⟨k, e⟩ := h
  rw [Nat.pow_succ] at e
  omega
theorem lcg_five {m i : Nat} (hi : i ≤ m) : ∀ n, lcgI m i n = (5 ^ n * i + five n) % (m + 1)
  | 0 => by
    show i = (1 * i + 0) % (m + 1)
    rw [Nat.one_mul, Nat.add_zero, Nat.mod_eq_of_lt (by omega)]
  | n + 1 => by
    show (lcgI m i n * 5 + 1) % (m + 1) = (5 ^ (n + 1) * i + (5 * five n + 1)) % (m + 1)
    rw [lcg_five hi n, ← Nat.mod_add_mod, Nat.mod_mul_mod, Nat.mod_add_mod]
    congr 1
    rw [Nat.pow_succ]
    grind
/-- each slot begins some run -/
theorem runs_meet {m : Nat} (hm : Pw m) (h : Int) {j : Nat} (hj : j ≤ m) : ∃ n, n ≤ m + 12 ∧ runI m (SetTable.bits h) n = j := by
  obtain ⟨k, e⟩ := id hm
  have hi := runI_le m (SetTable.bits h) 12
  obtain ⟨n, hn, en⟩ := round_meets (k := k + 1) (i := runI m (SetTable.bits h) 12) (j := j) (by omega) (by omega)
  refine ⟨12 + n, by omega, ?_⟩
  rw [runI_tail (bits_lt h), lcg_five hi, e]
  exact en
theorem way_in (m : Nat) (h : Int) (k : Nat) : way m h k ≤ m := by
  have hi : SetTable.bits h % (m + 1) ≤ m := Nat.le_of_lt_succ (Nat.mod_lt _ (Nat.succ_pos m))
  have rb := runEnd_bd hi
  have z := nth_in (m := m) k (runAt m (SetTable.bits h % (m + 1)) (SetTable.bits h)) (by unfold runAt; dsimp only; omega)
  exact Nat.le_trans (Nat.le_add_right _ _) z
/-- a slot and a hash that leads to it -/
def Led (m : Nat) (pl : List Nat) (x : Nat × Int) : Prop := ∃ k, way m x.2 k = x.1 ∧ ∀ k', k' < k → way m x.2 k' ∈ pl
theorem Led.more {m : Nat} {pl pl' : List Nat} {x : Nat × Int} (h : Led m pl x) (s : ∀ y ∈ pl, y ∈ pl') : Led m pl' x := by
  obtain ⟨k, e, q⟩ := h
  exact ⟨k, e, fun k' g => s _ (q k' g)⟩
/-- a table over hashes: each slot is found again -/
structure Tab (t : SetTable) (hs : List Int) : Prop where
  up : Ris t.place.toList
  nod : t.dummies = #[]
  cnt : t.place.toList.length = hs.length
  pw : Pw t.mask
  inn : ∀ y ∈ t.place.toList, y ≤ t.mask
  led : ∀ x ∈ t.place.toList.zip hs, Led t.mask t.place.toList x
theorem Tab.start {t : SetTable} (h1 : t.mask = 7) (h2 : t.place = #[]) (h3 : t.dummies = #[]) : Tab t [] := by
  refine ⟨?_, h3, by rw [h2]; rfl, ⟨2, by rw [h1]⟩, ?_, ?_⟩
  · rw [h2]; exact List.Pairwise.nil
  · rw [h2]; exact fun y hy => (by cases hy)
  · rw [h2]; exact fun y hy => (by cases hy)
/-- the first empty slot of the way -/
theorem Tab.free {t : SetTable} {hs : List Int} (T : Tab t hs) (lt : hs.length ≤ t.mask) (h : Int) : ∃ n, n < 10 * SetTable.turns t.mask ∧ way t.mask h n ∉ t.place.toList ∧ ∀ n', n' < n → way t.mask h n' ∈ t.place.toList := by
  have c := T.cnt
  obtain ⟨j, hj, nj⟩ := st_missing t.place.toList (t.mask + 1) (by omega)
  obtain ⟨r, hr, er⟩ := runs_meet T.pw h (Nat.le_of_lt_succ hj)
  obtain ⟨n, hn, en⟩ := run_nth t.mask (SetTable.bits h) r
  have wj : way t.mask h n = j := (congrArg SetTable.Probe.j en).trans er
  obtain ⟨n0, a1, a2, a3⟩ := st_least (p := fun n => way t.mask h n ∉ t.place.toList) n (fun q => nj (wj ▸ q))
  refine ⟨n0, ?_, a2, fun n' g => Classical.byContradiction (a3 n' g)⟩
  have : SetTable.turns t.mask = t.mask + 15 := rfl
  omega
theorem zip_put {α β : Type} (x : α) (y : β) : ∀ (p : Nat) (a : List α) (b : List β), a.length = b.length → (a.take p ++ x :: a.drop p).zip (b.take p ++ y :: b.drop p) = (a.zip b).take p ++ (x, y) :: (a.zip b).drop p
  | 0, a, b, _ => rfl
  | p + 1, [], [], _ => rfl
  | p + 1, [], _ :: _, h => by simp at h
  | p + 1, _ :: _, [], h => by simp at h
  | p + 1, u :: a, v :: b, h => by
    have ih := zip_put x y p a b (by simpa using h)
    simp only [List.take_succ_cons, List.drop_succ_cons, List.cons_append, List.zip_cons_cons, ih]
/-- one more, in the first empty slot -/
theorem Tab.put {t : SetTable} {hs : List Int} (T : Tab t hs) {h : Int} {n : Nat} (no : way t.mask h n ∉ t.place.toList) (yes : ∀ n', n' < n → way t.mask h n' ∈ t.place.toList) :
    SetTable.below t.place (way t.mask h n) ≤ hs.length ∧ Tab (t.put (way t.mask h n)).1 (hs.take (SetTable.below t.place (way t.mask h n)) ++ h :: hs.drop (SetTable.below t.place (way t.mask h n))) ∧ (t.put (way t.mask h n)).1.fill = hs.length + 1 := by
  have wm := way_in t.mask h n
  generalize ew : way t.mask h n = j at no wm ⊢
  obtain ⟨cu, _⟩ := below_cut T.up j
  have c := T.cnt
  rw [Array.length_toList] at c
  have pl := put_place t j
  have pd := put_dm T.nod j
  have bl : SetTable.below t.place j ≤ t.place.toList.length := by rw [Array.length_toList]; exact cu
  have len : (t.put j).1.place.toList.length = hs.length + 1 := by rw [pl, len_ins _ bl, Array.length_toList, c]
  have sub : ∀ y ∈ t.place.toList, y ∈ (t.put j).1.place.toList := fun y hy => by rw [pl]; exact mem_ins.mpr (.inr hy)
  refine ⟨by omega, ⟨ris_insert T.up fun e => no (List.mem_of_getElem? (by rw [Array.getElem?_toList]; exact e)), pd, ?_, T.pw, fun y hy => ?_, fun x hx => ?_⟩, ?_⟩
  · rw [len, len_ins _ (by omega)]
  · rw [pl] at hy
    rcases mem_ins.mp hy with e | e
    · rw [e]; exact wm
    · exact T.inn y e
  · rw [pl, zip_put _ _ _ _ _ T.cnt] at hx
    rcases mem_ins.mp hx with e | e
    · rw [e]
      exact ⟨n, ew, fun n' g => sub _ (yes n' g)⟩
    · exact (T.led x e).more sub
  · show (t.put j).1.place.size + (t.put j).1.dummies.size = _
    rw [pd, ← Array.length_toList, len]
    rfl
/-! ### all laid anew -/
theorem own_more {m : Nat} (hm : Pw m) {done : List Int} {ow : Array (Option Nat)} (W : Own m done ow) (lt : done.length ≤ m) (h : Int) :
    ∃ j, SetTable.layClean.free m ow (SetTable.turns m) (SetTable.bits h % (m + 1)) (SetTable.bits h) = some j ∧ Own m (done ++ [h]) (ow.setIfInBounds j (some done.length)) := by
  obtain ⟨used, hu, all⟩ := W.ps
  obtain ⟨j0, g0, g1⟩ := st_missing used (m + 1) (by omega)
  have fr0 : oAt ow j0 = none := Classical.byContradiction fun q => g1 (all j0 (by omega) q)
  obtain ⟨r, hr, er⟩ := runs_meet hm h (j := j0) (by omega)
  have wo : way m h (off m (SetTable.bits h % (m + 1)) (SetTable.bits h) r) = j0 := by
    unfold way
    rw [nth_off, itL_run]
    exact er
  obtain ⟨n, a1, a2, a3⟩ := st_least (p := fun n => oAt ow (way m h n) = none) _ (show oAt ow (way m h (off m (SetTable.bits h % (m + 1)) (SetTable.bits h) r)) = none by rw [wo]; exact fr0)
  have wm := way_in m h n
  have ws : way m h n < ow.size := by rw [W.sz]; omega
  have here := oAt_set_self (some done.length) ws
  have stay : ∀ i, oAt ow i ≠ none → oAt (ow.setIfInBounds (way m h n) (some done.length)) i ≠ none := by
    intro i hi
    by_cases e : i = way m h n
    · rw [e, here]; simp
    · rw [oAt_set_ne _ e]; exact hi
  refine ⟨way m h n, free_spec m ow _ r _ _ n (by unfold SetTable.turns; omega) a1 (fun n' g => ?_) (by rw [show oAt ow (nth m (runAt m (SetTable.bits h % (m + 1)) (SetTable.bits h)) n).j = none from a2]; rfl), ?_⟩
  · have q := a3 n' g
    cases e : oAt ow (nth m (runAt m (SetTable.bits h % (m + 1)) (SetTable.bits h)) n').j with
    | none => exact absurd e q
    | some _ => rfl
  · refine ⟨by rw [Array.size_setIfInBounds]; exact W.sz, fun j k hj e => ?_, fun k hk => ?_, ⟨way m h n :: used, by simp [hu], fun j hj e => ?_⟩⟩
    · by_cases c : j = way m h n
      · rw [c, here] at e
        cases e
        exact ⟨h, n, by simp, c.symm, fun n' g => stay _ (a3 n' g)⟩
      · rw [oAt_set_ne _ c] at e
        obtain ⟨h', n', b1, b2, b3⟩ := W.at_ j k hj e
        exact ⟨h', n', by rw [List.getElem?_append_left (List.getElem?_eq_some_iff.mp b1).1]; exact b1, b2, fun i g => stay _ (b3 i g)⟩
    · rw [List.length_append] at hk
      by_cases c : k = done.length
      · rw [c]; exact ⟨_, wm, here⟩
      · obtain ⟨j, hj, e⟩ := W.all k (by simp at hk; omega)
        exact ⟨j, hj, by rw [oAt_set_ne _ (fun q => by rw [q, a2] at e; cases e)]; exact e⟩
    · by_cases c : j = way m h n
      · rw [c]; exact List.mem_cons_self
      · rw [oAt_set_ne _ c] at e
        exact List.mem_cons_of_mem _ (all j hj e)
theorem own_all {m : Nat} (hm : Pw m) : ∀ (todo done : List Int) (ow : Array (Option Nat)), Own m done ow → done.length + todo.length ≤ m →
    ∃ ow', todo.foldl (stepF m) (some (ow, done.length)) = some (ow', done.length + todo.length) ∧ Own m (done ++ todo) ow'
  | [], done, ow, W, _ => ⟨ow, rfl, by rw [List.append_nil]; exact W⟩
  | h :: todo, done, ow, W, lt => by
    rw [List.length_cons] at lt
    obtain ⟨j, e, W1⟩ := own_more hm W (by omega) h
    have l1 : (done ++ [h]).length = done.length + 1 := by simp
    obtain ⟨ow2, e2, W2⟩ := own_all hm todo (done ++ [h]) _ W1 (by omega)
    rw [List.append_assoc] at W2
    refine ⟨ow2, ?_, W2⟩
    rw [List.foldl_cons, stepF_some e, ← l1, e2, l1, List.length_cons]
    congr 2
    omega
/-- the new table: the same hashes, in some order -/
theorem tab_anew (t : SetTable) {hs : Array Int} {wanted : Nat} (hm : Pw (SetTable.sizeAbove wanted - 1)) (lt : hs.size ≤ SetTable.sizeAbove wanted - 1) :
    ∃ t' ord, t.relaid hs wanted = some (t', ord) ∧ ord.toList.Perm (List.range hs.size) ∧ Tab t' (ord.toList.map fun i => hs.getD i 0) ∧ t'.mask = SetTable.sizeAbove wanted - 1 ∧ t'.led = t.led ∧ t'.plain = t.plain := by
  generalize eM : SetTable.sizeAbove wanted - 1 = M at hm lt
  obtain ⟨ow, e, W⟩ := own_all hm hs.toList [] _ (Own.init M) (by show 0 + hs.size ≤ M; omega)
  rw [List.nil_append] at W
  have eL : SetTable.layClean M hs = some ow := by
    rw [layClean_eq]
    have e' : hs.toList.foldl (stepF M) (some (Array.replicate (M + 1) none, 0)) = _ := e
    rw [e']
    rfl
  obtain ⟨q1, q2⟩ := ris_live (fun j => ow.getD j none) (List.range (M + 1)) List.pairwise_lt_range
  have q1' : Ris ((liveOf M ow).map (·.1)) := q1
  have q2' : ∀ x ∈ (liveOf M ow).map (·.1), x ∈ List.range (M + 1) := q2
  have nod1 : ((liveOf M ow).map (·.1)).Nodup := List.Pairwise.imp (fun g => Nat.ne_of_lt g) q1'
  have has : ∀ k, k < hs.size → k ∈ (liveOf M ow).map (·.2) := by
    intro k hk
    obtain ⟨j, b1, b2⟩ := W.all k (by rw [Array.length_toList]; exact hk)
    exact List.mem_map.mpr ⟨(j, k), (mem_live W.sz).mpr ⟨b1, b2⟩, rfl⟩
  have len : (liveOf M ow).length = hs.size := by
    obtain ⟨used, u1, u2⟩ := W.ps
    have le1 := nat_nodup_len _ used nod1 (by
      intro y hy
      obtain ⟨⟨y', k⟩, hq, rfl⟩ := List.mem_map.mp hy
      obtain ⟨b1, b2⟩ := (mem_live W.sz).mp hq
      exact u2 y' b1 (by rw [b2]; simp))
    have le2 := nat_nodup_len (List.range hs.size) ((liveOf M ow).map (·.2)) List.nodup_range fun k hk => has k (List.mem_range.mp hk)
    rw [List.length_map] at le1 le2
    rw [List.length_range] at le2
    have u1' : used.length = hs.size := u1
    omega
  refine ⟨tabOf t M ow, ((liveOf M ow).map (·.2)).toArray, by rw [relaid_eq, eM, eL]; rfl, perm_range _ _ (by simpa using len) has, ⟨q1', rfl, ?_, hm, fun y hy => Nat.le_of_lt_succ (List.mem_range.mp (q2' y hy)), ?_⟩, rfl, rfl, rfl⟩
  · show ((liveOf M ow).map (·.1)).length = (((liveOf M ow).map (·.2)).map _).length
    simp only [List.length_map]
  · intro x hx
    have hx' : x ∈ ((liveOf M ow).map (·.1)).zip (((liveOf M ow).map (·.2)).map fun i => hs.getD i 0) := hx
    rw [List.map_map, List.zip_map'] at hx'
    obtain ⟨⟨y, k⟩, hq, rfl⟩ := List.mem_map.mp hx'
    obtain ⟨b1, b2⟩ := (mem_live W.sz).mp hq
    obtain ⟨h0, n, c1, c2, c3⟩ := W.at_ y k b1 b2
    have e0 : hs.getD k 0 = h0 := by simp [Array.getD_eq_getD_getElem?, ← Array.getElem?_toList, c1]
    refine ⟨n, ?_, fun n' g => ?_⟩
    · show way M (hs.getD k 0) n = y
      rw [e0]
      exact c2
    · show way M (hs.getD k 0) n' ∈ (liveOf M ow).map (·.1)
      rw [e0]
      cases z : oAt ow (way M h0 n') with
      | none => exact absurd z (c3 n' g)
      | some k2 => exact List.mem_map.mpr ⟨(_, k2), (mem_live W.sz).mpr ⟨way_in _ _ _, z⟩, rfl⟩
/-! ### how large -/
theorem size_go : ∀ (f size n : Nat), n < size * 2 ^ f → ∃ k, SetTable.sizeAbove.go n f size = size * 2 ^ k ∧ n < SetTable.sizeAbove.go n f size ∧ (SetTable.sizeAbove.go n f size = size ∨ SetTable.sizeAbove.go n f size ≤ 2 * n)
  | 0, size, n, h => ⟨0, by simp [SetTable.sizeAbove.go], by simpa [SetTable.sizeAbove.go] using h, .inl rfl⟩
  | f + 1, size, n, h => by
    by_cases c : size ≤ n
    · obtain ⟨k, e1, e2, e3⟩ := size_go f (size * 2) n (by rw [Nat.mul_assoc, ← Nat.pow_succ']; exact h)
      have e : SetTable.sizeAbove.go n (f + 1) size = SetTable.sizeAbove.go n f (size * 2) := if_pos c
      rw [e]
      refine ⟨k + 1, by rw [e1, Nat.mul_assoc, ← Nat.pow_succ'], e2, .inr ?_⟩
      rcases e3 with q | q
      · omega
      · exact q
    · have e : SetTable.sizeAbove.go n (f + 1) size = size := if_neg c
      rw [e]
      exact ⟨0, by simp, by omega, .inl rfl⟩
theorem size_of {n : Nat} (h : n ≤ 1000000) : (∃ k, SetTable.sizeAbove n = 2 ^ (k + 1)) ∧ n < SetTable.sizeAbove n ∧ (SetTable.sizeAbove n = 8 ∨ SetTable.sizeAbove n ≤ 2 * n) := by
  obtain ⟨k, e1, e2, e3⟩ := size_go 64 8 n (Nat.lt_of_le_of_lt h (by decide))
  refine ⟨⟨k + 2, ?_⟩, e2, e3⟩
  have : SetTable.sizeAbove n = 8 * 2 ^ k := e1
  rw [this, show k + 2 + 1 = 3 + k by omega, Nat.pow_add]
end Rh

set_option Elab.async false
set_option linter.all false
set_option maxRecDepth 100000
set_option maxHeartbeats 2000000
/-! # Rh, part T: sets of tuples of ints of any number: what the machine does -/
namespace Rh
open PySem PySem.Spec PyProof.Rows L2
/-! ### the way of a search, on numbers alone -/
/-- the c-th state of a search -/
def prb (m : Nat) (h : Int) (c : Nat) : SetTable.Probe := nth m (runAt m (SetTable.bits h % (m + 1)) (SetTable.bits h)) c
theorem prb_way (m : Nat) (h : Int) (c : Nat) : (prb m h c).j = way m h c := rfl
theorem prb_add (m : Nat) (h : Int) (c q : Nat) : nth m (prb m h c) q = prb m h (c + q) := (nth_add m c _ q).symm
theorem prb_clean (m : Nat) (h : Int) : ∀ c, (prb m h c).dummy = none
  | 0 => rfl
  | c + 1 => by
    have ih := prb_clean m h c
    unfold prb at ih ⊢
    rw [nth_succ]
    unfold adv
    split <;> exact ih
/-- the hash that row i bears -/
def hat (es : Array (Int × Value)) (i : Nat) : Int := (es[i]?.map (·.1)).getD 0
/-- ahead of the c-th slot of k's way there is no k -/
def Past (P : Program) (w : World) (t : SetTable) (L : List (Addr × List Int)) (k : List Int) (c : Nat) : Prop :=
  ∀ c', c' < c → ∀ (i : Nat) p, t.place.toList[i]? = some (way t.mask (thash P w k) c') → L[i]? = some p → p.2 ≠ k
/-- a table over so many tuples has room for a look -/
theorem tab_fits {t : SetTable} {hs : List Int} (T : Tab t hs) {n : Nat} (en : n = hs.length) (le : n ≤ t.mask) : t.fits n = true := by
  have c : t.place.size = n := by rw [en, ← T.cnt]; exact Array.length_toList.symm
  have z : t.dummies.size = 0 := by rw [T.nod]; rfl
  simp [SetTable.fits, SetTable.fill, c, z, le]
/-- the set at a is these tuples, as its table has them -/
structure SetG (P : Program) (w : World) (h : Heap) (a : Addr) (L : List (Addr × List Int)) (es : Array (Int × Value)) (ep : Nat) (t : SetTable) : Prop where
  here : ∃ o, h.get? a = some o ∧ o.ExactSet ∧ o.data = .set es ep t
  laid : es = (rowsOf P w L).toArray
  tab : Tab t (L.map fun p => thash P w p.2)
  once : (L.map (·.2)).Nodup
  tups : ∀ p ∈ L, IsT P w h p.2 p.1
  pln : t.plain = true
  ord : w.params.followText "set-order" = true ∨ t.led = true
  loose : 5 * L.length < 3 * t.mask
  small : t.mask ≤ 4095
section
variable {P : Program} {w : World} {a : Addr} {L : List (Addr × List Int)} {t : SetTable} {es : Array (Int × Value)} {ep : Nat} {h : Heap}
theorem laid_of (e : es.toList = rowsOf P w L) : es = (rowsOf P w L).toArray := by rw [← e]
theorem laid_len (e : es = (rowsOf P w L).toArray) : es.size = L.length := by
  rw [e, List.size_toArray]
  exact List.length_map ..
theorem SetG.cnt (R : SetG P w h a L es ep t) : es.size = L.length := laid_len R.laid
theorem SetG.plen (R : SetG P w h a L es ep t) : t.place.toList.length = L.length := R.tab.cnt.trans (List.length_map ..)
theorem SetG.fit (R : SetG P w h a L es ep t) : t.fits es.size = true := by
  have q := R.loose
  exact tab_fits R.tab (by rw [R.cnt, List.length_map]) (by rw [R.cnt]; omega)
theorem SetG.row (R : SetG P w h a L es ep t) {i : Nat} {p : Addr × List Int} (e : L[i]? = some p) : es[i]? = some (thash P w p.2, Value.ref p.1) := by
  rw [R.laid]
  simp [rowsOf, e]
theorem SetG.hat_eq (R : SetG P w h a L es ep t) {i : Nat} {p : Addr × List Int} (e : L[i]? = some p) : hat es i = thash P w p.2 := by simp [hat, R.row e]
theorem SetG.noWay (R : SetG P w h a L es ep t) : ¬ t.gaveWay = true := by
  unfold SetTable.gaveWay
  rw [R.tab.pw.odd]
  decide
/-- a tuple's slot stands on its hash's way, ahead of the first empty one -/
theorem SetG.ahead (R : SetG P w h a L es ep t) {i n : Nat} {p : Addr × List Int} (e : L[i]? = some p) (no : way t.mask (thash P w p.2) n ∉ t.place.toList) : ∃ c, c < n ∧ t.place.toList[i]? = some (way t.mask (thash P w p.2) c) := by
  have hi : i < t.place.toList.length := by rw [R.plen]; exact (List.getElem?_eq_some_iff.mp e).1
  have ej := List.getElem?_eq_getElem hi
  have hz : (t.place.toList[i], thash P w p.2) ∈ t.place.toList.zip (L.map fun p => thash P w p.2) :=
    List.mem_iff_getElem?.mpr ⟨i, List.getElem?_zip_eq_some.mpr ⟨ej, by rw [List.getElem?_map, e]; rfl⟩⟩
  obtain ⟨c, e1, e2⟩ := R.tab.led _ hz
  have e1' : way t.mask (thash P w p.2) c = t.place.toList[i] := e1
  refine ⟨c, Nat.lt_of_not_le fun le => ?_, by rw [ej, e1']⟩
  rcases Nat.eq_or_lt_of_le le with q | q
  · exact no (by rw [q, e1']; exact List.getElem_mem hi)
  · exact no (e2 n q)
/-- what a look from the c-th state meets: a tuple of that hash, or the empty slot at the way's end, and then k isn't there -/
theorem SetG.meets (R : SetG P w h a L es ep t) {k : List Int} {n c : Nat} (hn : n < 10 * SetTable.turns t.mask) (no : way t.mask (thash P w k) n ∉ t.place.toList) (yes : ∀ c, c < n → way t.mask (thash P w k) c ∈ t.place.toList) (hc : c ≤ n) (past : Past P w t L k c) :
    (∃ d i p, c ≤ d ∧ d < n ∧ t.place.toList[i]? = some (way t.mask (thash P w k) d) ∧ L[i]? = some p ∧ Past P w t L k d ∧ t.probe (hat es) (thash P w k) (prb t.mask (thash P w k) c) = some (.candidate (way t.mask (thash P w k) d) i (prb t.mask (thash P w k) (d + 1)))) ∨
      (k ∉ L.map (·.2) ∧ t.probe (hat es) (thash P w k) (prb t.mask (thash P w k) c) = some (.empty (way t.mask (thash P w k) n) none)) := by
  have far : ∀ d, (∀ q i, q < d → t.place.toList[i]? = some (nth t.mask (prb t.mask (thash P w k) c) q).j → hat es i ≠ thash P w k) → Past P w t L k (c + d) := by
    intro d bef c' lt i p e1 e2 ek
    by_cases old : c' < c
    · exact past c' old i p e1 e2 ek
    · refine bef (c' - c) i (by omega) ?_ (by rw [R.hat_eq e2, ek])
      rw [prb_add, show c + (c' - c) = c' by omega]
      exact e1
  rcases go_spec t R.tab.up R.tab.nod (hat es) (thash P w k) (10 * SetTable.turns t.mask) (n - c) (prb t.mask (thash P w k) c) (prb_clean _ _ _) (by omega) (fun q hq => by rw [prb_add]; exact yes (c + q) (by omega))
    (by rw [prb_add, show c + (n - c) = n by omega]; exact no) with ⟨q, i, hq, hi, _, bef, pr⟩ | ⟨bef, pr⟩
  · rw [prb_add] at hi
    have il : i < L.length := by rw [← R.plen]; exact (List.getElem?_eq_some_iff.mp hi).1
    refine .inl ⟨c + q, i, L[i], Nat.le_add_right .., by omega, hi, List.getElem?_eq_getElem il, far q bef, ?_⟩
    unfold SetTable.probe
    rw [pr, prb_add, prb_add]
    rfl
  · refine .inr ⟨fun hm => ?_, ?_⟩
    · obtain ⟨p0, hp0, rfl⟩ := List.mem_map.mp hm
      obtain ⟨i0, e0⟩ := List.mem_iff_getElem?.mp hp0
      obtain ⟨c0, d1, d2⟩ := R.ahead e0 no
      exact far (n - c) bef c0 (by omega) i0 p0 d2 e0 rfl
    · unfold SetTable.probe
      rw [pr, prb_add, show c + (n - c) = n by omega]
      rfl
/-- past a slot whose tuple isn't k -/
theorem Past.next {k : List Int} {d i : Nat} {p : Addr × List Int} (up : Ris t.place.toList) (past : Past P w t L k d) (hi : t.place.toList[i]? = some (way t.mask (thash P w k) d)) (hp : L[i]? = some p) (ne : p.2 ≠ k) : Past P w t L k (d + 1) := by
  intro c' lt i' p' e1 e2
  by_cases q : c' = d
  · rw [q] at e1
    have s1 := (slot_live up hi).symm.trans (slot_live up e1)
    cases s1
    cases hp.symm.trans e2
    exact ne
  · exact past c' (by omega) i' p' e1 e2
end
/-! ### the machine -/
section
variable {α β : Type} {M : Model} {P : Program} {w : World} {A : Around} {s : Shared} {E : Value → Shared → Prop} {Q : β → Shared → Prop}
theorem given {x : α} {f : α → Sem β} (g : wpAny M A (f x) Q E s) : wpAny M A (pure x >>= f) Q E s := wpAny_bind (wpAny_pure g)
theorem SetG.look {a : Addr} {L : List (Addr × List Int)} {es : Array (Int × Value)} {ep : Nat} {t : SetTable} (R : SetG P w s.heap a L es ep t) {f : Array (Int × Value) × Nat × SetTable → Sem β} (g : wpAny (model P w) A (f (es, ep, t)) Q E s) : wpAny (model P w) A (setState a >>= f) Q E s := by
  obtain ⟨o, ho, _, dat⟩ := R.here
  exact wpAny_bind (wpAny_setState_of ho dat R.fit g)
end
section
variable {P : Program} {w : World} {A : Around} {s : Shared} {E : Value → Shared → Prop} {a : Addr} {L : List (Addr × List Int)} {t : SetTable} {es : Array (Int × Value)} {ep : Nat}
/-- the search from its c-th state on -/
theorem seek (R : SetG P w s.heap a L es ep t) {x : Addr} {k : List Int} (hx : IsT P w s.heap k x) (un : A.units < cLine) {n : Nat} (hn : n < 10 * SetTable.turns t.mask) (no : way t.mask (thash P w k) n ∉ t.place.toList)
    (yes : ∀ c, c < n → way t.mask (thash P w k) c ∈ t.place.toList) {Q : SetFound → Shared → Prop} (old : k ∈ L.map (·.2) → Q (.there none) s) (new : k ∉ L.map (·.2) → Q (.free (way t.mask (thash P w k) n) false) s) :
    ∀ (f c : Nat) (st : Option SetTable.Probe), st.getD (t.probeStart (thash P w k)) = prb t.mask (thash P w k) c → c ≤ n → n - c < f → Past P w t L k c → wpAny (model P w) A (setSearchFrom a (.ref x) (thash P w k) true f st) Q E s
  | 0, c, st, _, _, g, _ => absurd g (Nat.not_lt_zero _)
  | f + 1, c, st, est, hc, g, past => by
    rw [setSearchFrom_succ]
    refine R.look ?_
    simp only [if_neg R.noWay, est]
    rcases R.meets hn no yes hc past with ⟨d, i, p, cd, dn, hi, hp, past', pr⟩ | ⟨nk, pr⟩
    · have pm : p ∈ L := List.mem_of_getElem? hp
      have fin : wpAny (model P w) A (searchRest a (.ref x) (thash P w k) true f es t (way t.mask (thash P w k) d) i (prb t.mask (thash P w k) (d + 1))) Q E s := by
        simp only [searchRest, R.row hp]
        refine wpAny_bind (wpAny_holding (wpAny_eqBool_tuple un (R.tups p pm) hx (R.look ?_)))
        by_cases eq : p.2 = k
        · simp only [eq, decide_true, Bool.and_self, if_true]
          exact wpAny_pure (old (List.mem_map.mpr ⟨p, pm, eq⟩))
        · simp only [eq, decide_false, Bool.and_false, Bool.false_eq_true, if_false, sameMem, if_true, slot_live R.tab.up hi, R.row hp]
          refine wpAny_bind (wpAny_isSame_ref_self (given ?_))
          exact seek R hx un hn no yes old new f (d + 1) _ rfl (by omega) (by omega) (past'.next R.tab.up hi hp eq)
      rw [show t.probe (fun i => (es[i]?.map (·.1)).getD 0) (thash P w k) (prb t.mask (thash P w k) c) = _ from pr]
      dsimp only
      cases ld : t.led with
      | true => exact fin
      | false =>
        refine wpAny_bind (seen_tup hx (fun y hy => ?_) fin)
        obtain ⟨e, he, rfl⟩ := List.mem_map.mp hy
        have he2 : e ∈ es := (Array.mem_filter.mp (Array.mem_toList_iff.mp he)).1
        rw [R.laid] at he2
        obtain ⟨p2, hp2, rfl⟩ := List.mem_map.mp (List.mem_toArray.mp he2)
        exact ⟨p2.2, p2.1, rfl, R.tups p2 hp2⟩
    · rw [show t.probe (fun i => (es[i]?.map (·.1)).getD 0) (thash P w k) (prb t.mask (thash P w k) c) = _ from pr]
      exact wpAny_pure (new nk)
/-- the whole search: k is there, or the slot that is free for it -/
theorem seek_all (R : SetG P w s.heap a L es ep t) {x : Addr} {k : List Int} (hx : IsT P w s.heap k x) (un : A.units < cLine) {Q : SetFound → Shared → Prop} (old : k ∈ L.map (·.2) → Q (.there none) s)
    (new : ∀ n, k ∉ L.map (·.2) → way t.mask (thash P w k) n ∉ t.place.toList → (∀ c, c < n → way t.mask (thash P w k) c ∈ t.place.toList) → Q (.free (way t.mask (thash P w k) n) false) s) : wpAny (model P w) A (setSearch a (.ref x) (thash P w k) true) Q E s := by
  have q1 := R.loose
  have q2 := R.small
  obtain ⟨n, b1, b2, b3⟩ := R.tab.free (by rw [List.length_map]; omega) (thash P w k)
  have q3 : SetTable.turns t.mask = t.mask + 15 := rfl
  exact seek R hx un b1 b2 b3 old (fun q => new n q b2 b3) 100000 0 none rfl (Nat.zero_le _) (by omega) fun c' g => absurd g (Nat.not_lt_zero _)
/-- a table's next size, of at most 1001 tuples -/
theorem size_next {wanted : Nat} (le : wanted ≤ 4004) : ∃ j, SetTable.sizeAbove wanted = 2 ^ (j + 1) ∧ wanted < SetTable.sizeAbove wanted ∧ SetTable.sizeAbove wanted ≤ 4096 := by
  obtain ⟨⟨j, z1⟩, z2, z3⟩ := size_of (n := wanted) (by omega)
  refine ⟨j, z1, z2, Nat.le_of_not_lt fun g => ?_⟩
  have j12 : 12 ≤ j := Nat.le_of_not_lt fun q => by
    have := Nat.pow_le_pow_right (show 0 < 2 by decide) (show j + 1 ≤ 12 by omega)
    omega
  have := Nat.pow_le_pow_right (show 0 < 2 by decide) (show 13 ≤ j + 1 by omega)
  omega
/-- laid anew, larger; the set's word needs no looseness ahead of it -/
theorem widen {o : Obj} (ho : s.heap.get? a = some o) (ex : o.ExactSet) (dat : o.data = .set es ep t) (laid : es = (rowsOf P w L).toArray) (tab : Tab t (L.map fun p => thash P w p.2)) (lm : L.length ≤ t.mask) (once : (L.map (·.2)).Nodup) (tups : ∀ p ∈ L, IsT P w s.heap p.2 p.1)
    (pln : t.plain = true) (ord : w.params.followText "set-order" = true ∨ t.led = true) {wanted : Nat} (w1 : L.length * 4 ≤ wanted) (w2 : wanted ≤ 4004) (w3 : 4 ≤ wanted) {Q : Unit → Shared → Prop}
    (k : ∀ h' L' es' ep' t', Heap.SameBut a s.heap h' → SetG P w h' a L' es' ep' t' → L'.Perm L → Q () { s with heap := h' }) : wpAny (model P w) A (setRelay a wanted) Q E s := by
  have c1 := laid_len laid
  obtain ⟨j, z1, z2, z3⟩ := size_next w2
  obtain ⟨t', od, e1, e2, e3, e4, e5, e6⟩ := tab_anew t (hs := es.map (·.1)) (wanted := wanted) ⟨j, by omega⟩ (by rw [Array.size_map, c1]; omega)
  rw [Array.size_map, c1] at e2
  obtain ⟨L2, r1, r2, r3⟩ := order_rows L es od (by rw [laid]) e2
  have r1' := laid_of r1
  have c3 : (od.filterMap (es[·]?)).size = L.length := (laid_len r1').trans r2.length_eq
  have line : ¬ SetTable.sizeAbove wanted > sizeLine := by rw [sizeLine_eq]; omega
  rw [setRelay_eq]
  refine wpAny_bind (wpAny_setState_of ho dat (tab_fits tab (by rw [c1, List.length_map]) (by omega)) ?_)
  simp only [if_neg line, e1, c3, c1, bne_self_eq_false, Bool.false_eq_true, if_false]
  refine given (wpAny_storeSet_of ho dat ?_ (by rw [c3, sizeLine_eq]; omega))
  have but : Heap.SameBut a s.heap (s.heap.update a (Obj.putSet (od.filterMap (es[·]?)) t')) := Heap.SameBut.update ..
  exact k _ L2 _ (ep + 1) t' but
    { here := ⟨_, store_at ho dat, ⟨ex.1, ex.2.1, ex.2.2⟩, rfl⟩, laid := r1', tab := r3 ▸ e3, once := (r2.map (·.2)).nodup_iff.mpr once, tups := fun p hp => isT_same (tups p (r2.mem_iff.mp hp)) ho dat but
      pln := e6.trans pln, ord := by rw [e5]; exact ord, loose := by rw [r2.length_eq, e4]; omega, small := by rw [e4]; omega } r2
/-- a tuple laid in at place b of the rows -/
theorem rows_in (laid : es = (rowsOf P w L).toArray) (b : Nat) (x : Addr) (k : List Int) : SetTable.insertAt es b (thash P w k, Value.ref x) = (rowsOf P w (L.take b ++ (x, k) :: L.drop b)).toArray := by
  refine laid_of ((SetTable.toList_insertAt ..).trans ?_)
  rw [laid, rows_put]
/-- one tuple more -/
theorem putIn (R : SetG P w s.heap a L es ep t) {x : Addr} {k : List Int} (hx : IsT P w s.heap k x) (un : A.units < cLine) (few : L.length < 1000) {Q : Bool → Shared → Prop}
    (q : ∀ b h' L' es' ep' t', Heap.SameBut a s.heap h' → SetG P w h' a L' es' ep' t' → (k ∈ L.map (·.2) → L' = L) → (k ∉ L.map (·.2) → L'.Perm ((x, k) :: L)) → Q b { s with heap := h' }) : wpAny (model P w) A (setAddHashed a (.ref x) (thash P w k)) Q E s := by
  have one : setAddHashedIn a (.ref x) (thash P w k) 100000 = _ := setAddHashedIn_succ a (.ref x) (thash P w k) 99999
  have noScan : ¬ byScan (.ref x) es = true := by simp [byScan, Value.scannable]
  refine wpAny_holding (one ▸ R.look ?_)
  simp only [if_neg noScan]
  refine wpAny_bind (seek_all R hx un (fun hm => wpAny_pure (q false s.heap L es ep t (Heap.SameBut.refl a s.heap) R (fun _ => rfl) fun z => absurd hm z)) fun n hm no yes => R.look ?_)
  obtain ⟨o, ho, ex, dat⟩ := R.here
  obtain ⟨g1, g2, g3⟩ := R.tab.put no yes
  have rIn := rows_in R.laid (SetTable.below t.place (way t.mask (thash P w k) n)) x k
  have m3 : (t.put (way t.mask (thash P w k) n)).1.plain = true := R.pln
  have m2 : (t.put (way t.mask (thash P w k) n)).1.led = t.led := rfl
  have m1 : (t.put (way t.mask (thash P w k) n)).1.mask = t.mask := rfl
  have m4 : (t.put (way t.mask (thash P w k) n)).2 = SetTable.below t.place (way t.mask (thash P w k) n) := rfl
  generalize SetTable.below t.place (way t.mask (thash P w k) n) = b at g1 g2 rIn m4
  generalize t.put (way t.mask (thash P w k) n) = tp at g2 g3 m1 m2 m3 m4
  obtain ⟨t1, b'⟩ := tp
  dsimp only at g2 g3 m1 m2 m3 m4 ⊢
  subst m4
  have pm := put_perm L b' (x, k)
  have tab1 : Tab t1 ((L.take b' ++ (x, k) :: L.drop b').map fun p => thash P w p.2) := by simpa using g2
  generalize L.take b' ++ (x, k) :: L.drop b' = L1 at pm rIn tab1
  generalize SetTable.insertAt es b' (thash P w k, Value.ref x) = es1 at rIn
  have len : L1.length = L.length + 1 := pm.length_eq
  have c1 := R.cnt
  have c2 := laid_len rIn
  have once1 : (L1.map (·.2)).Nodup := (pm.map (·.2)).nodup_iff.mpr (List.nodup_cons.mpr ⟨hm, R.once⟩)
  have ord1 : w.params.followText "set-order" = true ∨ t1.led = true := by rw [m2]; exact R.ord
  have q1 := R.loose
  have q2 := R.small
  rw [List.length_map] at g3
  simp only [m3, if_true]
  refine wpAny_bind (hashBy_tup hx ?_)
  simp only [if_true]
  refine wpAny_bind (wpAny_storeSet_of ho dat ?_ (by rw [c2, len, sizeLine_eq]; omega))
  have but : Heap.SameBut a s.heap (s.heap.update a (Obj.putSet es1 t1)) := Heap.SameBut.update ..
  have ho1 := store_at (es' := es1) (t' := t1) ho dat
  generalize s.heap.update a (Obj.putSet es1 t1) = h1 at but ho1
  have tups1 : ∀ p ∈ L1, IsT P w h1 p.2 p.1 := fun p hp => by
    rcases List.mem_cons.mp (pm.subset hp) with rfl | m
    · exact isT_same hx ho dat but
    · exact isT_same (R.tups p m) ho dat but
  have ex1 : Obj.ExactSet _ := ⟨ex.1, ex.2.1, ex.2.2⟩
  cases full : t1.tooFull with
  | true =>
    have gr : SetTable.grown (es.size + 1) = (L.length + 1) * 4 := by rw [c1]; exact if_neg (by omega)
    simp only [Bool.not_false, Bool.true_and, if_true, gr]
    refine wpAny_bind (widen (s := { s with heap := h1 }) ho1 ex1 rfl rIn tab1 (by rw [len, m1]; omega) once1 tups1 m3 ord1 (by omega) (by omega) (by omega) fun h2 L2 es2 ep2 t2 but2 R2 pm2 => ?_)
    exact wpAny_pure (q true h2 L2 es2 ep2 t2 (but.trans but2) R2 (fun z => absurd z hm) fun _ => pm2.trans pm)
  | false =>
    have lo : ¬ t1.mask * 3 ≤ t1.fill * 5 := of_decide_eq_false full
    exact wpAny_pure (q true h1 L1 es1 (ep + 1) t1 but ⟨⟨_, ho1, ex1, rfl⟩, rIn, tab1, once1, tups1, m3, ord1, by omega, by omega⟩ (fun z => absurd z hm) fun _ => pm)
end
end Rh

set_option Elab.async false
set_option linter.all false
set_option maxRecDepth 100000
set_option maxHeartbeats 3200000
/-! # Rh, part U: set(xs), xs a list of tuples of ints -/
namespace Rh
open PySem PySem.Spec PyProof.Rows L2
/-- a set just made -/
def set0 (w : World) : Obj := { cls := .type "set", dict := none, data := .set #[] 0 (.fresh 0 0 (!w.params.followText "set-order")) }
/-! ### the machine: a call of set, its init, its loop -/
section
variable {P : Program} {w : World} {A : Around} {s : Shared} {E : Value → Shared → Prop}
/-- a run that gives a value back, or raises -/
theorem run_then {M : Model} {c : Code} {V : Value → Shared → Prop} {R : Result → Shared → Prop} (g : codeAny M A c (wants V E) s) (ok : ∀ v s', V v s' → R (.ok (.ret v)) s') (er : ∀ e s', E e s' → R (.error e) s') : codeAny M A c R s :=
  codeAny_mono g fun r s' q => match r, q with
    | .error e, q => er e s' q
    | .ok (.ret v), q => ok v s' q
/-- a call of set: what its init does with the new set is all that's left -/
theorem set_call {x : Value} {Q : Value → Shared → Prop} (init : codeAny (model P w) A.in1 (.call (.builtin "set.__init__") ⟨[.ref s.heap.objs.size, x], []⟩) (wants (fun r s2 => r = .none ∧ Q (.ref s.heap.objs.size) s2) E) { s with heap := s.heap.push (set0 w) }) :
    wpAny (model P w) A (call (.type "set") [x]) Q E s := by
  have ft := F.called_set
  have born : (s.heap.push (set0 w)).get? s.heap.objs.size = some (set0 w) := Heap.get?_push_size _ rfl
  have kind : Shared.TypeIs { s with heap := s.heap.push (set0 w) } (.ref s.heap.objs.size) "set" := ⟨_, born, rfl⟩
  have new : codeAny (model P w) A.in1 (.call (.builtin "set.__new__") ⟨[.type "set", x], []⟩) (wants (fun v s1 => v = .ref s.heap.objs.size ∧ s1 = { s with heap := s.heap.push (set0 w) }) E) s := code_set_led1 x ⟨rfl, rfl⟩
  obtain ⟨m1, m2, mro⟩ := ft.mro
  have ⟨n1, n2, n3, n4⟩ := And.intro ft.notType (And.intro ft.canCreate (And.intro ft.made ft.sub))
  have n5 := F.typeCall_set_1 x
  have n6 := ft.init.lookup
  have n7 := ft.init.bind (.ref s.heap.objs.size)
  apply wpAny_call
  apply codeAny_of_tree
  apply wpAny_pure (a := PySem.Fin.again (.builtin "type.__call__" ⟨[.type "set", x], []⟩))
  refine And.intro (Code.quiet_builtin _ (by decide +kernel)) (codeAny_builtin F.entry_type_call ((Around.under_plain (weight_type_call_type "set" [x] []) rfl).symm ▸ ?_))
  repeat' first
    | assumption
    | wp_step
  refine run_then new (fun v s1 q => ?_) fun e s1 q => q
  obtain ⟨rfl, rfl⟩ := q
  repeat' first
    | assumption
    | wp_step
  refine run_then init (fun v s2 q => ?_) fun e s2 q => q
  obtain ⟨rfl, fin⟩ := q
  repeat' first
    | assumption
    | wp_step
/-- init of an empty set with a list: an iterator over it, then the loop -/
theorem init_list {S l : Addr} {items : Array Value} {V : Shared → Prop} (born : s.heap.get? S = some (set0 w)) (hl : s.heap.IsList l items)
    (loop : codeAny (model P w) A.in1 (.builtin "set.update.loop" ⟨[.ref S, .ref s.heap.objs.size], []⟩) (wants (fun _ s2 => V s2) E) { s with heap := s.heap.push { cls := .type "list_iterator", data := .fields #[.ref l, .int 0 0] } }) :
    codeAny (model P w) A (.call (.builtin "set.__init__") ⟨[.ref S, .ref l], []⟩) (wants (fun r s2 => r = .none ∧ V s2) E) s := by
  have kind : s.TypeIs (.ref S) "set" := ⟨_, born, rfl⟩
  have g := hl
  obtain ⟨⟨cl, dc, da, sl⟩, look, e1, n, e2⟩ := g
  dsimp only at e1 e2
  subst e1 e2
  have k1 := F.sub_list_set
  have k2 := F.sub_list_frozenset
  have k3 : (Value.type "list" == Value.type "dict") = false := rfl
  refine codeAny_call_builtin F.called_set.init.plain F.entry_set_init (check_set_init_1 kind ?_)
  simp only [Builtin.«set.__init__», Builtin.Frozenset.updateFrom]
  repeat' first
    | refine wpAny_pyIter_list hl ?_
    | refine wpAny_runValue (run_then loop (fun v s2 q => ?_) fun e s2 q => q)
    | assumption
    | wp_step
  exact ⟨rfl, q⟩
/-- one turn of the loop: the iterator's next, and that into the set -/
theorem loop_turn {S I : Addr} {R : Result → Shared → Prop} (g : wpAny (model P w) A.in1 (pyNext (.ref I)) (fun x s1 => match x with
      | none => R (.ok (.ret .none)) s1
      | some v => wpAny (model P w) A.in1 (setAdd S v) (fun _ s2 => codeAny (model P w) A (.builtin "set.update.loop" ⟨[.ref S, .ref I], []⟩) R s2) (fun e s2 => R (.error e) s2) s1) (fun e s1 => R (.error e) s1) s) : codeAny (model P w) A (.builtin "set.update.loop" ⟨[.ref S, .ref I], []⟩) R s := by
  have q := plainId_quiet F.plain_set_update_loop ⟨[.ref S, .ref I], []⟩
  refine codeAny_builtin F.entry_set_update_loop ((Around.under_plainId F.plain_set_update_loop _).symm ▸ wpAny_bind (wpAny_mono g (fun x s1 g1 => ?_) fun e s1 g1 => g1))
  cases x with
  | none => exact wpAny_pure g1
  | some v => exact wpAny_bind (wpAny_holding (wpAny_mono g1 (fun _ s2 g2 => wpAny_pure ⟨q, g2⟩) fun e s2 g2 => g2))
end
/-! ### a set filled with tuples -/
/-- behind i turns: what was there still is, and at S the first i tuples, each once -/
structure Filled (P : Program) (w : World) (h0 : Heap) (S : Addr) (ks : List (Addr × List Int)) (i : Nat) (h : Heap) : Prop where
  kept : ∀ b o, h0.get? b = some o → h.get? b = some o
  has : ∃ L es ep t, SetG P w h S L es ep t ∧ Got ks i L
section
variable {P : Program} {w : World} {A : Around} {s : Shared} {E : Value → Shared → Prop} {h h' h0 : Heap} {S : Addr} {ks : List (Addr × List Int)} {i : Nat}
theorem SetG.again {L : List (Addr × List Int)} {es : Array (Int × Value)} {ep : Nat} {t : SetTable} (R : SetG P w h S L es ep t) (at_ : ∀ o, h.get? S = some o → h'.get? S = some o) (tups : ∀ p ∈ L, IsT P w h' p.2 p.1) : SetG P w h' S L es ep t :=
  { R with here := R.here.imp fun o q => ⟨at_ o q.1, q.2⟩, tups := tups }
theorem setG_new (born : h.get? S = some (set0 w)) : SetG P w h S [] #[] 0 (.fresh 0 0 (!w.params.followText "set-order")) where
  here := ⟨set0 w, born, by simp [Obj.ExactSet, set0], rfl⟩
  laid := rfl
  tab := Tab.start rfl rfl rfl
  once := .nil
  tups := nofun
  pln := rfl
  ord := by simp [SetTable.fresh]
  loose := by simp [SetTable.fresh]
  small := by simp [SetTable.fresh]
/-- what doesn't touch the set, nor what was there, keeps it filled -/
theorem Filled.moved (T : ∀ p ∈ ks, IsT P w h0 p.2 p.1) (F : Filled P w h0 S ks i h) (at_ : ∀ o, h.get? S = some o → h'.get? S = some o) (kept : ∀ b o, h0.get? b = some o → h'.get? b = some o) : Filled P w h0 S ks i h' := by
  obtain ⟨L, es, ep, t, R, got⟩ := F.has
  exact ⟨kept, L, es, ep, t, R.again at_ fun p hp => isT_keep (T p (List.mem_of_mem_take (got.sub p hp))) kept, got⟩
/-- the next tuple into the set -/
theorem Filled.add (T : ∀ p ∈ ks, IsT P w h0 p.2 p.1) (gone : h0.get? S = none) (few : ks.length ≤ 1000) (un : A.units < cLine) (F : Filled P w h0 S ks i s.heap) {p : Addr × List Int} (hp : ks[i]? = some p) {Q : Bool → Shared → Prop}
    (fin : ∀ b h' tk, Heap.SameBut S s.heap h' → Filled P w h0 S ks (i + 1) h' → Q b { s with heap := h', toks := tk }) : wpAny (model P w) A (setAdd S (.ref p.1)) Q E s := by
  obtain ⟨L, es, ep, t, R, got⟩ := F.has
  have tp : IsT P w s.heap p.2 p.1 := isT_keep (T p (List.mem_of_getElem? hp)) F.kept
  have il : i < ks.length := (List.getElem?_eq_some_iff.mp hp).1
  have le := got.len
  refine wpAny_holding (wpAny_bind (wpAny_pyHash_tuple un tp (putIn (s := { s with toks := s.toks + (p.2.length + 1) }) R tp un (by omega) fun b h' L' es' ep' t' but R' same more => ?_)))
  refine fin b h' _ but ⟨fun c o e => ?_, L', es', ep', t', R', ?_⟩
  · by_cases q : c = S
    · rw [q, gone] at e
      cases e
    · exact (but.2 c q).trans (F.kept c o e)
  · by_cases q : p.2 ∈ L.map (·.2)
    · exact same q ▸ got.same hp q
    · exact got.more hp (more q)
/-- the loop of set.update, from any turn on -/
theorem fill {I : Addr} {fp wr : List Addr} {Pv : Nat → Value → Prop} {St : Nat → Heap → Prop} (W : Walks P w A.in1 I fp wr ks.length Pv St) (out : S ∉ fp) (T : ∀ p ∈ ks, IsT P w h0 p.2 p.1) (gone : h0.get? S = none) (new : ∀ b ∈ wr, h0.get? b = none) (few : ks.length ≤ 1000) (un : A.in1.units < cLine)
    (val : ∀ i v, Pv i v → ∃ p, ks[i]? = some p ∧ v = .ref p.1) : ∀ (m i : Nat) (h : Heap) (tk : Nat), i + m = ks.length → St i h → Filled P w h0 S ks i h →
      codeAny (model P w) A (.builtin "set.update.loop" ⟨[.ref S, .ref I], []⟩) (wants (fun _ s2 => ∃ h2 tk2, s2 = { s with heap := h2, toks := tk2 } ∧ Filled P w h0 S ks ks.length h2) E) { s with heap := h, toks := tk } := by
  have mine : ∀ {i h h'}, Filled P w h0 S ks i h → (∀ b o, b ∉ wr → h.get? b = some o → h'.get? b = some o) → Filled P w h0 S ks i h' := fun F q =>
    F.moved T (fun o => q S o fun z => out (W.sub S z)) fun b o e => q b o (fun z => nomatch (new b z).symm.trans e) (F.kept b o e)
  intro m
  induction m with
  | zero =>
    intro i h tk ei st F
    obtain rfl : i = ks.length := ei
    exact loop_turn (W.done _ _ _ st fun h2 tk2 q => ⟨h2, tk2, rfl, mine F q⟩)
  | succ m ih =>
    intro i h tk ei st F
    refine loop_turn (W.item i _ _ _ (by omega) st fun v h2 tk2 pv st2 q => ?_)
    obtain ⟨p, hp, rfl⟩ := val i v pv
    exact Filled.add (s := { s with heap := h2, toks := tk2 }) T gone few un (mine F q) hp fun _ h3 tk3 but F3 =>
      ih (i + 1) h3 tk3 (by omega) (W.frame _ _ _ st2 fun b hb o e => (but.2 b fun z => out (z ▸ hb)).trans e) F3
/-- set(xs) -/
theorem make_set {l : Addr} {items : Array Value} (ks : List (Addr × List Int)) {Q : Value → Shared → Prop} (calm : A.handled = none) (hl : s.heap.IsList l items) (ei : items.toList = ks.map fun p => Value.ref p.1) (T : ∀ p ∈ ks, IsT P w s.heap p.2 p.1) (few : ks.length ≤ 1000) (un : A.units + 3 < cLine)
    (fin : ∀ (h' : Heap) (tk : Nat), Filled P w s.heap s.heap.objs.size ks ks.length h' → Q (.ref s.heap.objs.size) { s with heap := h', toks := tk }) : wpAny (model P w) A (call (.type "set") [.ref l]) Q E s := by
  have born : (s.heap.push (set0 w)).get? s.heap.objs.size = some (set0 w) := Heap.get?_push_size _ rfl
  have up : ∀ (u : Obj) {h : Heap} (b : Addr) (o : Obj), h.get? b = some o → (h.push u).get? b = some o := fun u _ b o e => Heap.get?_push_of_some _ e
  have past : ∀ b, s.heap.objs.size ≤ b → s.heap.get? b = none := fun b le => Option.eq_none_iff_forall_ne_some.mpr fun o e => absurd (Heap.lt_size e) (Nat.not_lt.mpr le)
  have at_ : ∀ (i : Nat) (v : Value), items[i]? = some v → ∃ p, ks[i]? = some p ∧ v = .ref p.1 := by
    intro i v e
    rw [← Array.getElem?_toList, ei, List.getElem?_map, Option.map_eq_some_iff] at e
    exact e.imp fun p q => ⟨q.1, q.2.symm⟩
  have il : items.size = ks.length := by simpa using congrArg List.length ei
  have hl1 : (s.heap.push (set0 w)).IsList l items := hl.push _
  have ls : l < s.heap.objs.size := by
    obtain ⟨o, e, _⟩ := hl
    exact Heap.lt_size e
  have sz : (s.heap.push (set0 w)).objs.size = s.heap.objs.size + 1 := Heap.size_push ..
  have W := Walks.list (prog := P) (w := w) (A := A.in1.in1.in1) (by simp [calm]) (s.heap.push (set0 w)).objs.size l (by rw [sz]; exact Nat.ne_of_lt (Nat.lt_succ_of_lt ls)) items
  rw [il] at W
  refine set_call (run_then (init_list (s := { s with heap := s.heap.push (set0 w) }) (V := fun s2 => ∃ h2 tk2, s2 = { s with heap := h2, toks := tk2 } ∧ Filled P w s.heap s.heap.objs.size ks ks.length h2) born hl1
    (fill W ?_ T (past _ (Nat.le_refl _)) (fun b hb => ?_) few un at_ ks.length 0 _ s.toks (Nat.zero_add _) ⟨⟨_, Heap.get?_push_size _ rfl, rfl, rfl⟩, hl1.push _⟩ ⟨fun b o e => up _ b o (up _ b o e), [], #[], 0, _, setG_new (up _ _ _ born), Got.zero ks⟩)) (fun v s2 q => ?_) fun e s2 q => q)
  · rw [sz]
    simp [Nat.ne_of_gt ls]
  · rw [List.mem_singleton.mp hb, sz]
    exact past _ (Nat.le_succ _)
  · obtain ⟨e, h2, tk2, rfl, F⟩ := q
    exact ⟨e, fin h2 tk2 F⟩
end
end Rh

set_option Elab.async false
set_option linter.all false
set_option maxRecDepth 100000
set_option maxHeartbeats 3200000
/-! # Rh, part V: sorted(set), as rules of the layer -/
namespace Rh
open PySem PySem.Spec PyProof.Rows L2 Srt
/-- images in another order are the images of another order -/
theorem perm_back {α β : Type} {f : α → β} : ∀ {m : List β} {l : List α}, m.Perm (l.map f) → ∃ l' : List α, l'.Perm l ∧ m = l'.map f
  | [], l, p => ⟨[], by rw [List.map_eq_nil_iff.mp p.nil_eq.symm], rfl⟩
  | b :: m, l, p => by
    obtain ⟨x, hx, rfl⟩ := List.mem_map.mp (p.subset List.mem_cons_self)
    obtain ⟨u, v, rfl⟩ := List.append_of_mem hx
    have p' : (f x :: m).Perm (f x :: (u ++ v).map f) := p.trans (List.perm_middle.map f)
    obtain ⟨l', q, rfl⟩ := perm_back p'.cons_inv
    exact ⟨x :: l', (q.cons x).trans List.perm_middle.symm, rfl⟩
/-- from one state to a later one: what was there still is -/
structure Later (s s' : Shared) : Prop where
  heap : ∀ b o, s.heap.get? b = some o → s'.heap.get? b = some o
  gens : s'.gens = s.gens
  os : s'.os = s.os
/-- a tuple's worth: its numbers as one, to the base B -/
def worth (h : Heap) (B : Int) (v : Value) : Int := TS.code B (TS.intsOf h v)
def lighter (h : Heap) (B : Int) (v u : Value) : Bool := decide (worth h B v < worth h B u)
section
variable {P : Program} {w : World} {A : Around} {s : Shared} {E : Value → Shared → Prop} {d : Nat} {B : Int} {vs : List Value} {a : Addr}
theorem lighter_swo (h : Heap) : SrtO.Swo (lighter h B) where
  asym x y g := by
    simp only [lighter, decide_eq_true_eq, decide_eq_false_iff_not] at g ⊢
    omega
  tr x y z g1 g2 := by
    simp only [lighter, decide_eq_false_iff_not] at g1 g2 ⊢
    omega
/-- two tuples of d ints each, compared -/
theorem less_of {h : Heap} {v u : Value} {ns ms : List Int} (t1 : TS.TupInts h v ns) (t2 : TS.TupInts h u ms) (l1 : ns.length = d) (l2 : ms.length = d) (b1 : TS.Bd B ns) (b2 : TS.Bd B ms) {Q : Bool → Shared → Prop} (q : Q (decide (TS.code B ns < TS.code B ms)) { s with heap := h }) :
    wpAny (model P w) A (keyLt' (tuples' true) v u) Q E { s with heap := h } := by
  obtain ⟨a1, xs, rfl, ⟨o1, g1, _, n1, d1⟩, i1⟩ := t1
  obtain ⟨a2, ys, rfl, ⟨o2, g2, _, n2, d2⟩, i2⟩ := t2
  have z : decide (xs.size < ys.size) = false := by
    have z1 := i1.length
    have z2 := i2.length
    rw [Array.length_toList] at z1 z2
    simp
    omega
  exact PySem.W.kat_lt (s := { s with heap := h }) g1 d1 g2 d2 (z ▸ TS.lex_ints 0 i1 i2 (l1.trans l2.symm) b1 b2 q)
/-- so a list of them can be sorted, by their worths -/
theorem tups_sortable (hd : 1 ≤ d) (ne : vs ≠ []) (x : TS.TupsOk s.heap d B vs) (na : ∀ o, s.heap.get? a = some o → o.cls ≠ .type "tuple") : SrtO.SortableO P w A s a vs (lighter s.heap B) := by
  intro h' kp
  have kt : ∀ b o, s.heap.get? b = some o → o.cls = .type "tuple" → h'.get? b = some o := by
    intro b o e c
    by_cases q : b = a
    · subst q
      exact absurd c (na o e)
    · exact kp b o q e
  obtain ⟨fs, k1, k2, k3⟩ := TS.firsts_of hd vs (x.keeps kt)
  have pos : 0 < fs.length := k2 ▸ List.length_pos_iff.mpr ne
  have int : ∀ f ∈ fs, PySem.W.Looks (model P w) h' (typeOf f) (.type "int") := by
    intro f hf
    obtain ⟨i, t, rfl⟩ := k3 f hf
    exact .of_pure rfl
  refine ⟨tuples' true, fun Q E q => PySem.W.kat_kind (s := { s with heap := h' }) k1 pos int rfl q, fun p q hp hq => ?_⟩
  obtain ⟨ns, t1, l1, b1⟩ := x _ hp
  obtain ⟨ms, t2, l2, b2⟩ := x _ hq
  refine less_of (t1.keeps kt) (t2.keeps kt) l1 l2 b1 b2 ⟨rfl, ?_⟩
  simp only [SrtO.lt2, lighter, worth, t1.ints, t2.ints]
/-- list.sort of a list just made of such tuples -/
theorem sort_made (hd : 1 ≤ d) (few : vs.length ≤ sizeLine) (x : TS.TupsOk (s.heap.push (seqObj "list" vs.toArray 0)) d B vs) {Q : Value → Shared → Prop}
    (fin : ∀ (out : List Value) (c : Nat) (h' : Heap), out.Perm vs → out.Pairwise (fun v u => worth (s.heap.push (seqObj "list" vs.toArray 0)) B v ≤ worth (s.heap.push (seqObj "list" vs.toArray 0)) B u) → (∀ b o, s.heap.get? b = some o → h'.get? b = some o) → h'.get? s.heap.objs.size = some (seqObj "list" out.toArray c) → Q .none { s with heap := h' }) :
    wpAny (model P w) A (call (.builtin "list.sort") [.ref s.heap.objs.size]) Q E { s with heap := s.heap.push (seqObj "list" vs.toArray 0) } := by
  have new : (s.heap.push (seqObj "list" vs.toArray 0)).get? s.heap.objs.size = some (seqObj "list" vs.toArray 0) := Heap.get?_push_size _ rfl
  refine wpAny_call_entry slot_list_sort ⟨_, new, rfl⟩ entry_list_sort (SrtO.list_sort_ord (s := { s with heap := s.heap.push (seqObj "list" vs.toArray 0) }) (lighter_swo (B := B) (s.heap.push (seqObj "list" vs.toArray 0))) new few (fun two => ?_) fun out so st => ⟨_, rfl, ?_⟩) (args_list_sort _)
  · refine tups_sortable (s := { s with heap := s.heap.push (seqObj "list" vs.toArray 0) }) hd (fun e => by simp [e] at two) x fun o e c => ?_
    cases e.symm.trans new
    exact absurd (Value.type.inj c) (show "list" ≠ "tuple" by decide)
  · obtain ⟨c, at_⟩ := sortedHeap_at (out := out.toArray) new
    refine fin out c _ st.perm (List.Pairwise.imp (fun {v u} g => ?_) so) (fun b o e => ?_) at_
    · have g' := of_decide_eq_false g
      omega
    · have lt := Heap.lt_size e
      rw [sortedHeap_old (Nat.ne_of_lt lt) (by rw [Heap.size_push]; exact Nat.lt_succ_of_lt lt), Heap.get?_push_of_some _ e]
/-- sorted(set) -/
theorem sort_set {L : List (Addr × List Int)} {es : Array (Int × Value)} {ep : Nat} {t : SetTable} {Q : Value → Shared → Prop} (R : SetG P w s.heap a L es ep t) (calm : A.handled = none) (hd : 1 ≤ d) (hB : ∀ p ∈ L, p.2.length = d ∧ TS.Bd B p.2)
    (fin : ∀ s' p (c : Nat) (L' : List (Addr × List Int)), Later s s' → s.heap.objs.size ≤ p → L'.Perm L → L'.Pairwise (fun q r => TS.code B q.2 ≤ TS.code B r.2) → s'.heap.get? p = some (seqObj "list" (L'.map fun q => Value.ref q.1).toArray c) → Q (.ref p) s') : wpAny (model P w) A (call (.builtin "sorted") [.ref a]) Q E s := by
  have q1 := R.cnt
  have q2 := R.loose
  have q3 := R.small
  have vals : es.toList.map (·.2) = L.map fun q => Value.ref q.1 := by simp [R.laid, rowsOf]
  have here : SetAt s.heap a es ep t := R.here.imp fun o q => ⟨q.1, q.2.1.1, q.2.2⟩
  have bound : es.size < scanBound := by
    show es.size < 4096
    omega
  apply Calls.call_function_entry kind_sorted plain_sorted entry_sorted (args_sorted1 _)
  refine given (wpAny_bind (collect_set (A := A.in1) calm here R.fit bound R.tab.up R.ord fun s1 vs kp le gs os pm => ?_))
  rw [vals] at pm
  have line : vs.length ≤ sizeLine := by
    rw [pm.length_eq, List.length_map, sizeLine_eq]
    omega
  refine wpAny_bind (wpAny_newList ?_ line)
  have nums : ∀ q ∈ L, TS.TupInts (s1.heap.push (seqObj "list" vs.toArray 0)) (.ref q.1) q.2 := fun q hq => tupInts_of (P := P) (w := w) (isT_keep (R.tups q hq) fun b u e => Heap.get?_push_of_some _ (kp b u e))
  have all : TS.TupsOk (s1.heap.push (seqObj "list" vs.toArray 0)) d B vs := fun v hv => by
    obtain ⟨q, hq, rfl⟩ := List.mem_map.mp (pm.subset hv)
    exact ⟨q.2, nums q hq, hB q hq⟩
  refine wpAny_bind (wpAny_holding (sort_made hd line all fun out c h' po so kp' at_ => ?_))
  obtain ⟨L', pl, rfl⟩ := perm_back (po.trans pm)
  refine wpAny_pure ⟨_, rfl, fin _ s1.heap.objs.size c L' ⟨fun b o e => kp' b o (kp b o e), gs, os⟩ le pl ?_ at_⟩
  refine List.Pairwise.imp_of_mem (fun {q r} hq hr g => ?_) (List.pairwise_map.mp so)
  unfold worth at g
  rw [(nums q (pl.subset hq)).ints, (nums r (pl.subset hr)).ints] at g
  exact g
end
/-! ### the rules -/
def Here (h : Heap) (a : Addr) (es : Array (Int × Value)) (ep : Nat) (t : SetTable) : Prop := ∃ o, h.get? a = some o ∧ o.ExactSet ∧ o.data = .set es ep t
/-- the set at a, whatever becomes of the heap its tuples lie in -/
def SetB (P : Program) (w : World) (h : Heap) (a : Addr) (L : List (Addr × List Int)) : Prop :=
  ∃ es ep t, Here h a es ep t ∧ ∀ h', Here h' a es ep t → (∀ p ∈ L, IsT P w h' p.2 p.1) → SetG P w h' a L es ep t
def setO (P : Program) (w : World) (a : Addr) (L : List (Addr × List Int)) : HO := .ext fun h => SetB P w h a L
theorem SetG.bare {P : Program} {w : World} {h : Heap} {a : Addr} {L : List (Addr × List Int)} {es : Array (Int × Value)} {ep : Nat} {t : SetTable} (R : SetG P w h a L es ep t) : SetB P w h a L :=
  ⟨es, ep, t, R.here, fun _ q ht => { R with here := q, tups := ht }⟩
theorem setO_ok {P : Program} {w : World} {H : Hp} {h : Heap} {a : Addr} {L : List (Addr × List Int)} (R : SetB P w h a L) : ObjOk P w H h a (setO P w a L) :=
  ⟨R, (let ⟨_, _, _, ⟨o, e, _⟩, _⟩ := R; ⟨o, e⟩), fun _ _ ⟨es, ep, t, ⟨o, e, q⟩, full⟩ k => ⟨es, ep, t, ⟨o, k o e, q⟩, full⟩⟩
abbrev refsV (ks : List (Addr × List Int)) : List V := ks.map fun p => V.ref p.1
/-- each address holds its tuple -/
def KeysAt (K : PySem.W.Frag) (H : Hp) (ks : List (Addr × List Int)) : Prop := ∀ p ∈ ks, SqT K H p.1 (p.2.map V.int)
/-- one behind another, each once -/
def InOrder (B : Int) (ks : List (Addr × List Int)) : Prop := ks.Pairwise fun q r => TS.code B q.2 ≤ TS.code B r.2 ∧ q.2 ≠ r.2
section
variable {X : Cx}
/-- a new object in a later state -/
theorem inv_later {pins : List (Addr × Obj)} {σ : L2.St} {H : Hp} {s s' : Shared} (I : L2.Inv X pins σ H s) (k : Later s s') {p : Addr} {o : HO} (le : s.heap.objs.size ≤ p) (ok : ObjOk X.prog X.w (upd H p o) s'.heap p o) : L2.Inv X pins σ (upd H p o) s' := by
  obtain ⟨h', g', d', t', os'⟩ := s'
  obtain ⟨k1, rfl, rfl⟩ := k
  exact I.call (ch := []) (Un.laid k1 le (I.hok.fresh le)) (I.hok.laid k1 le ok) I.bare nofun
/-- set(xs): the same tuples, each once -/
def rSetG (K : PySem.W.Frag) (P : Program) (w : World) (xs : List V) (H : Hp) (Q : VK) : Prop := ∃ (l : Addr) (ks : List (Addr × List Int)), xs = [V.ref l] ∧ SqL K H l (refsV ks) ∧ KeysAt K H ks ∧ ks.length ≤ 1000 ∧
  ∀ (a : Addr) (L : List (Addr × List Int)), H a = none → L ⊆ ks → ks.map (·.2) ⊆ L.map (·.2) → Q (.ref a) (upd H a (setO P w a L))
theorem cr_setG (hc : X.calm = true) (hu : X.A.units + 64 < cLine) : CallR X (.type "set") (rSetG X.K X.prog X.w) := by
  rintro pins s σ H _ us Q I r ⟨l, ks, rfl, hl, keys, few, q⟩
  obtain ⟨items, rv, pl, _⟩ := I.list hl
  rw [Vals.ref1 r]
  refine make_set ks (I.ok.hd hc) pl.isList (by simpa using refs_of_vals rv) (fun p hp => I.isT (keys p hp)) few (by omega) fun h' tk F => ?_
  obtain ⟨L, es, ep, t, R, got⟩ := F.has
  refine ⟨.ref s.heap.objs.size, _, I.laid (t' := tk) F.kept (Nat.le_refl _) (setO_ok R.bare), rfl, q _ L (I.hok.fresh (Nat.le_refl _)) (fun p hp => List.mem_of_mem_take (got.sub p hp)) fun k hk => ?_⟩
  obtain ⟨p, hp, rfl⟩ := List.mem_map.mp hk
  exact got.all p (by rwa [List.take_length])
/-- sorted(set): d ints in each tuple, all below B -/
def rSortG (K : PySem.W.Frag) (P : Program) (w : World) (vs : List V) (H : Hp) (Q : VK) : Prop := ∃ (a : Addr) (L : List (Addr × List Int)) (d : Nat) (B : Int), vs = [V.ref a] ∧ H a = some (setO P w a L) ∧ KeysAt K H L ∧ 1 ≤ d ∧ (∀ p ∈ L, p.2.length = d ∧ TS.Bd B p.2) ∧
  ∀ (L' : List (Addr × List Int)) (D : Addr), H D = none → L'.Perm L → InOrder B L' → Q (.ref D) (upd H D (.lst (refsV L')))
theorem cr_sortG (hc : X.calm = true) : CallR X (.builtin "sorted") (rSortG X.K X.prog X.w) := by
  rintro pins s σ H _ us Q I r ⟨a, L, d, B, rfl, ha, keys, hd, hB, q⟩
  obtain ⟨es, ep, t, here, full⟩ : SetB X.prog X.w s.heap a L := (I.hok a _ ha).1
  have R := full s.heap here fun p hp => I.isT (keys p hp)
  rw [Vals.ref1 r]
  refine sort_set R (I.ok.hd hc) hd hB fun s' p c L' later le pm pw at_ => ?_
  have q1 := R.loose
  have q2 := R.small
  have line : (refsV L').length ≤ sizeLine := by
    rw [List.length_map, sizeLine_eq, pm.length_eq]
    omega
  have each : (L'.map (·.2)).Nodup := (pm.map (·.2)).nodup_iff.mpr R.once
  exact ⟨.ref p, _, inv_later I later le (o := .lst (refsV L')) ⟨line, _, c, vals_of_refs L', at_⟩, rfl, q L' p (I.hok.fresh le) pm (pw.and (List.pairwise_map.mp each))⟩
end
end Rh

set_option Elab.async false
set_option linter.all false
set_option maxRecDepth 100000
set_option maxHeartbeats 2000000
/-! # Rh, part E: words over the layer; the text; rows of numbers -/
namespace Rh
open PySem PySem.Spec PyProof.Rows L2
/-! ### short words -/
section
variable {X : Cx}
/-- the name x holds a whole number -/
def GI (mg : Str → Option Value) (x : Str) (i : Int) : Prop := ∃ t, mg x = some (.int i t)
theorem pe_gi {x : Str} {i : Int} {pos : Pos} (hg : Gl X x) (h : GI X.mg x i) (hd : (x == ("__debug__" : Str)) = false := by decide) : PE X (.Name x pos) (tC (.int i)) := by
  obtain ⟨t, ht⟩ := h
  exact pe_glob hg ht ⟨_, rfl⟩ hd
/-- the name x holds a tuple of the top -/
def GT (K : PySem.W.Frag) (mg : Str → Option Value) (x : Str) (xs : List V) : Prop := ∃ a, mg x = some (.ref a) ∧ ∀ H, SqT K H a xs
def tGT (K : PySem.W.Frag) (xs : List V) : TE := fun _ H Q => ∀ a, (∀ H', SqT K H' a xs) → Q (.ref a) H
theorem pe_gt {x : Str} {xs : List V} {pos : Pos} (hg : Gl X x) (h : GT X.K X.mg x xs) (hd : (x == ("__debug__" : Str)) = false := by decide) : PE X (.Name x pos) (tGT X.K xs) := by
  obtain ⟨a, ha, sq⟩ := h
  exact ⟨fun pins s σ H Q I q => (pe_glob (v := .ref a) hg ha rfl hd).run pins s σ H Q I (q a sq)⟩
/-- no star ahead of the first argument, none behind it; a method's call as it is run -/
abbrev NoStar (X : Cx) (e : Expr) (es : List Expr) : Prop := starEach (e :: es) X.env = (false, eval e X.env) :: starEach es X.env
abbrev NoStars (X : Cx) (pos : Pos) (es : List Expr) : Prop := (backTo pos (starEach es X.env)).any (·.1) = false
abbrev MtForm (X : Cx) (o : Expr) (m : Str) (apos : Pos) (es : List Expr) (pos : Pos) (pl : Sem Bool) : Prop := eval (.Call (.Attribute o m apos) es [] pos) X.env = (do let ov ← eval o X.env; standAt apos.atName; let (f, first) ← holding [ov] (getMethod ov m pl); callWith pos f first (backTo pos (starEach es X.env)) (backToKw pos (keywordEach [] X.env)))
/-- a def of the text by its name, with its promise -/
structure Df (P : Program) (w : World) (K : PySem.W.Frag) (mg : Str → Option Value) (base : Heap) (x : Str) (k : Nat) (ps : List Str) (sp : Sp) : Prop where
  ex : ∃ (f : Addr) (fd : FuncData), FnOk P w K mg base CX0 k f fd ps sp ∧ mg x = some (.ref f) ∧ PySem.W.keepIn K (.ref f) = true ∧ Binds K fd ps []
theorem pe_callD {x : Str} {k : Nat} {ps : List Str} {sp : Sp} {p pos : Pos} {e : Expr} {es : List Expr} {t : TA} (D : Df X.prog X.w X.K X.mg X.base x k ps sp) (hr : Room k X.A) (hg : Gl X x) (ha : PA X (e :: es) t)
    (hdb : (x == ("__debug__" : Str)) = false := by decide) (he : NoStar X e es := by rfl) (hpl : NoStars X pos es := by rfl) :
    PE X (.Call (.Name x p) (e :: es) [] pos) (tCall sp [] E0 t) := by
  obtain ⟨f, fd, F, hm, hk, hb⟩ := D.ex
  exact pe_call F hr hg hm hk hb .nil pass0 ha hdb he hpl
/-- a method of the class at C, with its promise -/
structure Mt (P : Program) (w : World) (K : PySem.W.Frag) (mg : Str → Option Value) (base : Heap) (C : Addr) (m : Str) (k : Nat) (ps : List Str) (sp : Sp) : Prop where
  ex : ∃ (f : Addr) (fd : FuncData), FnOk P w K mg base CX0 k f fd ps sp ∧ Meth K C m f ∧ Binds K fd ps []
theorem pe_methD {C : Addr} {m : Str} {k : Nat} {ps : List Str} {sp : Sp} {apos pos : Pos} {o e : Expr} {es : List Expr} {ta : TE} {t : TA} {pl : Sem Bool} (ho : PE X o ta) (c : Cls X.K C) (D : Mt X.prog X.w X.K X.mg X.base C m k ps sp) (hr : Room k X.A) (ha : PA X (e :: es) t)
    (hst : NoStar X e es := by rfl) (hpl : NoStars X pos es := by rfl)
    (ht : MtForm X o m apos (e :: es) pos pl := by rfl) :
    PE X (.Call (.Attribute o m apos) (e :: es) [] pos) (tMeth C m sp [] E0 ta t) := by
  obtain ⟨f, fd, F, hm, hb⟩ := D.ex
  exact pe_meth ho c hm F hr hb .nil pass0 ha hst hpl ht
theorem pe_methD0 {C : Addr} {m : Str} {k : Nat} {ps : List Str} {sp : Sp} {apos pos : Pos} {o : Expr} {ta : TE} {pl : Sem Bool} (ho : PE X o ta) (c : Cls X.K C) (D : Mt X.prog X.w X.K X.mg X.base C m k ps sp) (hr : Room k X.A)
    (ht : MtForm X o m apos [] pos pl := by rfl) :
    PE X (.Call (.Attribute o m apos) [] [] pos) (tMeth C m sp [] E0 ta tNil) := by
  obtain ⟨f, fd, F, hm, hb⟩ := D.ex
  exact pe_meth0 ho c hm F hr hb .nil pass0 ht
/-- a class of the text by its name, with the promise of its __init__ -/
structure Mkr (P : Program) (w : World) (K : PySem.W.Frag) (mg : Str → Option Value) (base : Heap) (x : Str) (C : Addr) (k : Nat) (ps : List Str) (sp : Sp) : Prop where
  ex : ∃ (f : Addr) (fd : FuncData), FnOk P w K mg base CX0 k f fd ps sp ∧ Mk K C f ∧ mg x = some (.ref C) ∧ Binds K fd ps []
theorem pe_makeD {x : Str} {C : Addr} {k : Nat} {ps : List Str} {sp : Sp} {p pos : Pos} {e : Expr} {es : List Expr} {t : TA} (D : Mkr X.prog X.w X.K X.mg X.base x C k ps sp) (hr : Room (k + 1) X.A) (hg : Gl X x) (ha : PA X (e :: es) t)
    (hdb : (x == ("__debug__" : Str)) = false := by decide) (he : NoStar X e es := by rfl) (hpl : NoStars X pos es := by rfl) :
    PE X (.Call (.Name x p) (e :: es) [] pos) (tMake C sp [] E0 t) := by
  obtain ⟨f, fd, F, hm, hc, hb⟩ := D.ex
  exact pe_make hm F hr hg hc hb .nil pass0 ha hdb he hpl
theorem pe_makeD0 {x : Str} {C : Addr} {k : Nat} {ps : List Str} {sp : Sp} {p pos : Pos} (D : Mkr X.prog X.w X.K X.mg X.base x C k ps sp) (hr : Room (k + 1) X.A) (hg : Gl X x)
    (hdb : (x == ("__debug__" : Str)) = false := by decide) : PE X (.Call (.Name x p) [] [] pos) (tMake C sp [] E0 tNil) := by
  obtain ⟨f, fd, F, hm, hc, hb⟩ := D.ex
  exact pe_make0 hm F hr hg hc hb .nil pass0 hdb
/-- the same rules, the written part named (within a comprehension) -/
theorem ix_listK {K : PySem.W.Frag} (hK : X.K = K) : IxR X (rIxL K) := by subst hK; exact ix_list
theorem ix_tupK {K : PySem.W.Frag} (hK : X.K = K) : IxR X (rIxT K) := by subst hK; exact ix_tup
theorem ix_seqK {K : PySem.W.Frag} (hK : X.K = K) : IxR X (rIx K) := by subst hK; exact ix_seq
theorem op_in_seqK {K : PySem.W.Frag} (hK : X.K = K) : OpR X (compareOp .In) (rIn K false) := by subst hK; exact op_in_seq
theorem op_notIn_seqK {K : PySem.W.Frag} (hK : X.K = K) : OpR X (compareOp .NotIn) (rIn K true) := by subst hK; exact op_notIn_seq
theorem sl_listK {K : PySem.W.Frag} (hK : X.K = K) : SlR X (rSlL K) := by subst hK; exact sl_list
theorem sl_tupAK {K : PySem.W.Frag} (hK : X.K = K) : SlR X (rSlA K) := by subst hK; exact sl_tupA
theorem call_len_seqK {K : PySem.W.Frag} (hK : X.K = K) : CallR X (.builtin "len") (fun xs H Q => ∃ p ys, xs = [.ref p] ∧ (SqL K H p ys ∨ SqT K H p ys) ∧ Q (.int ys.length) H) := by subst hK; exact call_len_seq
theorem cr_sumK {K : PySem.W.Frag} (hK : X.K = K) (hc : X.calm = true) : CallR X (.builtin "sum") (rSum K) := by subst hK; exact cr_sum hc
theorem cr_anyK {K : PySem.W.Frag} (hK : X.K = K) (hc : X.calm = true) : CallR X (.builtin "any") (rAny K) := by subst hK; exact cr_any hc
theorem cr_allK {K : PySem.W.Frag} (hK : X.K = K) (hc : X.calm = true) : CallR X (.builtin "all") (rAll K) := by subst hK; exact cr_all hc
theorem pe_gtK {K : PySem.W.Frag} {x : Str} {xs : List V} {pos : Pos} (hK : X.K = K) (hg : Gl X x) (h : GT K X.mg x xs) (hd : (x == ("__debug__" : Str)) = false := by decide) : PE X (.Name x pos) (tGT K xs) := by subst hK; exact pe_gt hg h hd
theorem pi_listK {K : PySem.W.Frag} {tg l : Expr} {tl : TE} (hK : X.K = K) (hl : PE X l tl) : PI X tg l (iList K tl) := by subst hK; exact pi_list hl
theorem pe_fldK {K : PySem.W.Frag} {e : Expr} {f : Str} {pos : Pos} {ta : TE} (hK : X.K = K) (he : PE X e ta) (hb : attributeBase e f X.env (eval e X.env) = eval e X.env) : PE X (.Attribute e f pos) (tFld K ta f) := by subst hK; exact pe_fld he hb
end
theorem cong2 {α β γ : Sort _} (f : α → β → γ) {a a' : α} {b b' : β} (h : a = a') (g : b = b') : f a b = f a' b' := by subst h; subst g; rfl
theorem u65 {A : Around} {j : Nat} (hr : Room j A) : A.units + 65 < cLine := by have := hr.un; omega
theorem rm {A : Around} {j k : Nat} (hr : Room j A) (h : k ≤ j := by decide) : Room k A := hr.mono h
/-- a test that is known -/
theorem dT {c : Prop} [Decidable c] {A B : Prop} (h : c) (a : A) : if decide c = true then A else B := by rw [if_pos (decide_eq_true h)]; exact a
theorem dF {c : Prop} [Decidable c] {A B : Prop} (h : ¬ c) (b : B) : if decide c = true then A else B := by rw [if_neg (by simp [h])]; exact b
theorem bT {c : Bool} {A B : Prop} (h : c = true) (a : A) : if c = true then A else B := by rw [if_pos h]; exact a
theorem bF {c : Bool} {A B : Prop} (h : c = false) (b : B) : if c = true then A else B := by rw [if_neg (by rw [h]; decide)]; exact b
/-- whole numbers of the document's rows as values -/
def nv (l : List Nat) : List V := l.map fun (n : Nat) => V.int (n : Int)
theorem nv_len (l : List Nat) : (nv l).length = l.length := List.length_map ..
theorem nv_get {l : List Nat} {i n : Nat} (h : l[i]? = some n) : (nv l)[i]? = some (V.int (n : Int)) := by
  unfold nv
  rw [List.getElem?_map, h]
  rfl
theorem nv_at {l : List Nat} {i n : Nat} (h : l[i]? = some n) : atI (nv l) (i : Int) = some (V.int (n : Int)) := at_of rfl (nv_get h)
/-- a list or a tuple that is read -/
def Sq (K : PySem.W.Frag) (H : Hp) (a : Addr) (xs : List V) : Prop := SqL K H a xs ∨ SqT K H a xs
theorem sq_ix {K : PySem.W.Frag} {H : Hp} {a : Addr} {xs : List V} {i : Int} {v : V} {Q : VK} (h : Sq K H a xs) (e : atI xs i = some v) (q : Q v H) : rIx K (.ref a) (.int i) H Q := by
  rcases h with h | h
  · exact .inl ⟨a, xs, i, v, rfl, rfl, h, e, q⟩
  · exact .inr (.inl ⟨a, xs, i, v, rfl, rfl, h, e, q⟩)
/-! ### the text -/
def top (i : Nat) : Stmt := PySem.Challenge.pw_rolehouse_s01_answers.main.body.getD i (.Pass ⟨0, 0, 0, 0⟩)
/-- the names of the top -/
structure Txt (K : PySem.W.Frag) (mg : Str → Option Value) (CK CH : Addr) : Prop where
  g_EVERYTHING : GI mg "EVERYTHING" 0
  g_NOTHING : GI mg "NOTHING" 1
  g_NAMED : GI mg "NAMED" 2
  g_BOTH : GI mg "BOTH" 3
  g_EITHER : GI mg "EITHER" 4
  g_OPPOSITE : GI mg "OPPOSITE" 5
  g_SOME : GI mg "SOME" 6
  g_EACH : GI mg "EACH" 7
  g_PART_COUNTS : GT K mg "PART_COUNTS" (nv [0, 0, 0, 2, 2, 1, 1, 1])
  g_WITH_A_SIGN : GT K mg "WITH_A_SIGN" (nv [2, 6, 7])
  g_HIGHEST_SIGN : GI mg "HIGHEST_SIGN" 3
  g_ROLE_COUNT : GI mg "ROLE_COUNT" 4
  g_FORWARD_ROLE_COUNT : GI mg "FORWARD_ROLE_COUNT" 2
  g_BEGINS : GI mg "BEGINS" 0
  g_LINE : GI mg "LINE" 1
  g_ROLE : GI mg "ROLE" 2
  g_CAN : GI mg "CAN" 3
  g_UNDER : GI mg "UNDER" 4
  g_MODEL : GI mg "MODEL" 5
  g_ROLES : GI mg "ROLES" 6
  g_NAMES : GI mg "NAMES" 7
  g_WRONG_FORM : GI mg "WRONG_FORM" (-1)
  g_NO_MODEL : GI mg "NO_MODEL" (-6)
  g_TOO_MANY : GI mg "TOO_MANY" (-7)
  g_MOST_AXIOMS : GI mg "MOST_AXIOMS" 5
  g_MOST_ATOMS : GI mg "MOST_ATOMS" 5
  g_MOST_ROLES_TOLD : GI mg "MOST_ROLES_TOLD" 4
  cl_Kinds : Cls K CK
  cl_House : Cls K CH
  nk_atoms : NoAttr K CK "atoms"
  nk_over : NoAttr K CK "over"
  nk_every_kind : NoAttr K CK "every_kind"
  nk_some_bits : NoAttr K CK "some_bits"
  nk_each_bits : NoAttr K CK "each_bits"
  nk_role_bits : NoAttr K CK "role_bits"
  nk_shown_bits : NoAttr K CK "shown_bits"
  nk_possible : NoAttr K CK "possible"
  nh_axioms : NoAttr K CH "axioms"
  nh_told : NoAttr K CH "told"
  b_len : mg "len" = none
  b_range : mg "range" = none
  b_tuple : mg "tuple" = none
  b_list : mg "list" = none
  b_reversed : mg "reversed" = none
  b_sorted : mg "sorted" = none
  b_sum : mg "sum" = none
  b_set : mg "set" = none
  b_enumerate : mg "enumerate" = none
section
variable {P : Program} {w : World} {K : PySem.W.Frag} {mg : Str → Option Value} {base : Heap} {CK CH : Addr}
/-! ### head_length -/
/- head_length: slots 0 numbers, 1 start -/
abbrev s_head_length : Stmt := top 12
abbrev N_head_length : List Str := ["numbers", "start"]
theorem sc_head_length : FnScope N_head_length ["numbers", "start"] (defScope s_head_length) := ⟨rfl, rfl, rfl, by decide +kernel, rfl, by decide +kernel, by decide +kernel⟩
def spHeadLength (K : PySem.W.Frag) : Sp := fun vs H Q _ => ∃ (a : Addr) (l : List Nat) (i : Nat), vs = [.ref a, .int (i : Int)] ∧ Sq K H a (nv l) ∧ Q (.int (hl (l.drop i) : Nat)) H
theorem in_sign (n : Nat) : inV (V.int (n : Int)) (nv [2, 6, 7]) = decide (n = 2 ∨ n = 6 ∨ n = 7) := by
  have e : ∀ m : Nat, eqV (V.int (m : Int)) (V.int (n : Int)) = decide (n = m) := fun m => by
    show ((m : Int) == (n : Int)) = _
    refine Bool.eq_iff_iff.mpr ?_
    simp only [beq_iff_eq, decide_eq_true_eq]
    omega
  show (eqV (V.int ((2 : Nat) : Int)) _ || (eqV (V.int ((6 : Nat) : Int)) _ || (eqV (V.int ((7 : Nat) : Int)) _ || false))) = _
  rw [e, e, e]
  by_cases h2 : n = 2 <;> by_cases h6 : n = 6 <;> by_cases h7 : n = 7 <;> simp [h2, h6, h7]
theorem flat_nv (l : List Nat) : (nv l).all flatV = true := by
  unfold nv
  rw [List.all_map, List.all_eq_true]
  intro x _
  rfl
theorem ok_head_length {f : Addr} {fd : FuncData} (F : Fun K "head_length" "head_length" s_head_length f fd) (T : Txt K mg CK CH) : FnOk P w K mg base CX0 1 f fd ["numbers", "start"] (spHeadLength K) := by
  refine F.ok sc_head_length (fun vs H Q E h => ?_) (fun cdv A outer s H vs Q E hr h => ⟨_, (pss_cons (ps_if (PW.pt (pw_or (pt_cmpR op_ge (pv 1) (pe_callB call_len_seq (by rfl) T.b_len (by decide +kernel) (pa_cons (pv 0) pa_nil)) (nomark _)) (pw_or1 (pt_cmpR op_gt (pe_ix ix_seq (pv 0) (pv 1) (fun _ _ => rfl)) (pe_gi rfl T.g_EACH) (nomark _))))) (pss_one (ps_ret pe_int)) pss_nil)
    (pss_cons (ps_if (pt_cmpR op_notIn_seq (pe_ix ix_seq (pv 0) (pv 1) (fun _ _ => rfl)) (pe_gt rfl T.g_WITH_A_SIGN) rfl) (pss_one (ps_ret pe_int)) pss_nil)
    (pss_cons (ps_if (PW.pt (pw_or (pt_cmpR op_ge (pe_op op_add (pv 1) pe_int) (pe_callB call_len_seq (by rfl) T.b_len (by decide +kernel) (pa_cons (pv 0) pa_nil)) (nomark _)) (pw_or1 (pt_cmpR op_gt (pe_ix ix_seq (pv 0) (pe_op op_add (pv 1) pe_int) (fun _ _ => rfl)) (pe_gi rfl T.g_HIGHEST_SIGN) (nomark _))))) (pss_one (ps_ret pe_int)) pss_nil)
    (pss_one (ps_ret pe_int))))), ?_⟩)
  · obtain ⟨a, l, i, rfl, _⟩ := h
    rfl
  · obtain ⟨a, l, i, rfl, hs, q⟩ := h
    refine ⟨_, rfl, _, rfl, a, _, rfl, hs, _, _, rfl, rfl, _, rfl, ?_⟩
    rw [nv_len]
    by_cases h1 : (l.length : Int) ≤ (i : Int)
    · refine dT h1 ?_
      rw [List.drop_of_length_le (by omega)] at q
      exact q
    · refine dF h1 ?_
      obtain ⟨x, hx⟩ : ∃ x, l[i]? = some x := ⟨l[i]'(by omega), List.getElem?_eq_getElem (by omega)⟩
      have ed : l.drop i = x :: l.drop (i + 1) := by
        obtain ⟨hlt, e⟩ := List.getElem?_eq_some_iff.mp hx
        rw [List.drop_eq_getElem_cons hlt, e]
      rw [ed] at q
      refine ⟨_, rfl, _, rfl, sq_ix hs (nv_at hx) ⟨_, _, rfl, rfl, _, rfl, ?_⟩⟩
      by_cases h7 : (7 : Int) < (x : Int)
      · refine dT h7 ?_
        rw [hl_big (by omega)] at q
        exact q
      · refine dF h7 ?_
        refine ⟨_, rfl, _, rfl, sq_ix hs (nv_at hx) fun b hb => ⟨b, _, rfl, .inr (hb _), rfl, flat_nv _, _, rfl, ?_⟩⟩
        rw [if_pos rfl, in_sign]
        by_cases h2 : x = 2 ∨ x = 6 ∨ x = 7
        · refine bF (by simp [h2]) ?_
          refine ⟨_, rfl, _, _, rfl, rfl, _, rfl, a, _, rfl, hs, _, _, rfl, rfl, _, rfl, ?_⟩
          rw [nv_len]
          by_cases h3 : (l.length : Int) ≤ (i : Int) + 1
          · refine dT h3 ?_
            have e2 : l.drop (i + 1) = [] := List.drop_of_length_le (by omega)
            have e3 : hl (x :: l.drop (i + 1)) = 0 := by rw [e2]; simp [hl, h2]
            rw [e3] at q
            exact q
          · refine dF h3 ?_
            obtain ⟨y, hy⟩ : ∃ y, l[i + 1]? = some y := ⟨l[i + 1]'(by omega), List.getElem?_eq_getElem (by omega)⟩
            have ed2 : l.drop (i + 1) = y :: l.drop (i + 2) := by
              obtain ⟨hlt, e⟩ := List.getElem?_eq_some_iff.mp hy
              rw [List.drop_eq_getElem_cons hlt, e]
            rw [ed2] at q
            refine ⟨_, rfl, _, rfl, _, _, rfl, rfl, sq_ix hs (nv_at (i := i + 1) hy) ⟨_, _, rfl, rfl, _, rfl, ?_⟩⟩
            by_cases h4 : (3 : Int) < (y : Int)
            · refine dT h4 ?_
              have e3 : hl (x :: y :: l.drop (i + 2)) = 0 := by
                simp [hl, h2]
                omega
              rw [e3] at q
              exact q
            · refine dF h4 ?_
              have e3 : hl (x :: y :: l.drop (i + 2)) = 2 := by
                have g : ¬ 7 < x := by omega
                have g4 : ¬ 3 < y := by omega
                simp [hl, h2, g, g4]
              rw [e3] at q
              exact q
        · refine bT (by simp [h2]) ?_
          have e3 : hl (x :: l.drop (i + 1)) = 1 := by
            have g : ¬ 7 < x := by omega
            simp [hl, h2, g]
          rw [e3] at q
          exact q
/-! ### concept_end -/
/- concept_end: slots 0 numbers, 1 start, 2 place, 3 wanted, 4 length -/
abbrev s_concept_end : Stmt := top 13
abbrev N_concept_end : List Str := ["numbers", "start", "place", "wanted", "length"]
theorem sc_concept_end : FnScope N_concept_end ["numbers", "start"] (defScope s_concept_end) := ⟨rfl, rfl, rfl, by decide +kernel, rfl, by decide +kernel, by decide +kernel⟩
def spConceptEnd (K : PySem.W.Frag) : Sp := fun vs H Q _ => ∃ (a : Addr) (l : List Nat) (i : Nat), vs = [.ref a, .int (i : Int)] ∧ Sq K H a (nv l) ∧ i ≤ l.length ∧
  (rd (l.drop i) = none → Q .non H) ∧ (∀ c r, rd (l.drop i) = some (c, r) → Q (.int ((i + (toks c).length : Nat) : Int)) H)
theorem pc_at {x : Nat} (h : ¬ 7 < x) : atI (nv [0, 0, 0, 2, 2, 1, 1, 1]) (x : Int) = some (V.int (pc x : Int)) := by
  have c : x = 0 ∨ x = 1 ∨ x = 2 ∨ x = 3 ∨ x = 4 ∨ x = 5 ∨ x = 6 ∨ x = 7 := by omega
  rcases c with rfl | rfl | rfl | rfl | rfl | rfl | rfl | rfl <;> rfl
theorem ok_concept_end {f : Addr} {fd : FuncData} (F : Fun K "concept_end" "concept_end" s_concept_end f fd) (T : Txt K mg CK CH) (D_head_length : Df P w K mg base "head_length" 1 ["numbers", "start"] (spHeadLength K)) : FnOk P w K mg base CX0 2 f fd ["numbers", "start"] (spConceptEnd K) := by
  refine F.ok sc_concept_end (fun vs H Q E h => ?_) (fun cdv A outer s H vs Q E hr h => ⟨_, (pss_cons (ps_set (i := 2) sc_concept_end.nd rfl (by first | exact .inl rfl | exact .inr rfl) (pv 1))
    (pss_cons (ps_set (i := 3) sc_concept_end.nd rfl (by first | exact .inl rfl | exact .inr rfl) pe_int)
    (pss_cons (ps_while PassesOwn.never (pt_cmpR op_gt (pv 3) pe_int (nomark _)) (pss_cons (ps_set (i := 4) sc_concept_end.nd rfl (by first | exact .inl rfl | exact .inr rfl) (pe_callD D_head_length (rm hr) rfl (pa_cons (pv 0) (pa_cons (pv 2) pa_nil))))
    (pss_cons (ps_if (pt_cmpR op_eq (pv 4) pe_int (nomark _)) (pss_one (ps_ret pe_non)) pss_nil)
    (pss_cons (ps_aug (i := 3) sc_concept_end.nd rfl (by first | exact .inl rfl | exact .inr rfl) (pe_op op_sub (pe_ix ix_tup (pe_gt rfl T.g_PART_COUNTS) (pe_ix ix_seq (pv 0) (pv 2) (fun _ _ => rfl)) (fun _ _ => rfl)) pe_int) ip_add)
    (pss_one (ps_aug (i := 2) sc_concept_end.nd rfl (by first | exact .inl rfl | exact .inr rfl) (pv 4) ip_add))))))
    (pss_one (ps_ret (pv 2)))))), ?_⟩)
  · obtain ⟨a, l, i, rfl, _⟩ := h
    rfl
  · obtain ⟨a, l, i, rfl, hs, hi, kN, kS⟩ := h
    refine ⟨_, rfl, ?_⟩
    refine ⟨fun m σ H' => ∃ (p wn : Nat) (v : Option V), m = l.length - p ∧ H = H' ∧ σ = [some (.ref a), some (.int (i : Int)), some (.int (p : Int)), some (.int (wn : Int)), v] ∧ p ≤ l.length ∧ rdn wn (l.drop p) = rdn 1 (l.drop i),
      ⟨_, i, 1, none, rfl, rfl, rfl, hi, rfl⟩, ?_⟩
    rintro m σ H' ⟨p, wn, v, rfl, rfl, rfl, hp, hw⟩
    refine ⟨_, rfl, _, _, rfl, rfl, _, rfl, ?_⟩
    by_cases h0 : (0 : Int) < (wn : Int)
    · refine dT h0 ⟨_, fun _ _ z => z, ?_⟩
      obtain ⟨w0, rfl⟩ : ∃ w0, wn = w0 + 1 := ⟨wn - 1, by omega⟩
      refine ⟨_, rfl, _, rfl, a, l, p, rfl, hs, _, rfl, rfl, _, rfl, ?_⟩
      by_cases hz : hl (l.drop p) = 0
      · refine bT (decide_eq_true (by rw [hz]; rfl)) ?_
        refine kN ?_
        rw [rdn_stop hz] at hw
        rw [rdn_one] at hw
        cases e : rd (l.drop i) with
        | none => rfl
        | some x => rw [e] at hw; cases hw
      · refine bF (decide_eq_false (by intro e; exact hz (by have := V.int.inj e; omega))) ?_
        have hle := hl_le (l.drop p)
        rw [List.length_drop] at hle
        obtain ⟨x, hx⟩ : ∃ x, l[p]? = some x := ⟨l[p]'(by omega), List.getElem?_eq_getElem (by omega)⟩
        have ed : l.drop p = x :: l.drop (p + 1) := by
          obtain ⟨hlt, e⟩ := List.getElem?_eq_some_iff.mp hx
          rw [List.drop_eq_getElem_cons hlt, e]
        have h7 : ¬ 7 < x := fun g => hz (by rw [ed]; exact hl_big g)
        rw [rdn_turn ed hz] at hw
        refine ⟨_, rfl, fun b hb => ⟨_, rfl, _, rfl, sq_ix hs (nv_at hx) ⟨b, _, _, _, rfl, rfl, hb _, pc_at h7, _, _, rfl, rfl, _, _, rfl, rfl, ?_⟩⟩⟩
        refine ⟨_, rfl, _, rfl, _, _, rfl, rfl, ?_⟩
        refine ⟨l.length - (p + hl (l.drop p)), by omega, p + hl (l.drop p), w0 + pc x, some (.int (hl (l.drop p) : Nat)), rfl, rfl, ?_, by omega, ?_⟩
        · exact cong2 (fun (y z : Int) => [some (V.ref a), some (V.int (i : Int)), some (V.int y), some (V.int z), some (.int (hl (l.drop p) : Nat))]) (show (p : Int) + (hl (l.drop p) : Nat) = ((p + hl (l.drop p) : Nat) : Int) by omega) (show ((w0 + 1 : Nat) : Int) + ((pc x : Int) - 1) = ((w0 + pc x : Nat) : Int) by omega)
        · rw [← hw, List.drop_drop]
    · refine dF h0 ?_
      obtain rfl : wn = 0 := by omega
      rw [rdn_zero, rdn_one] at hw
      cases e : rd (l.drop i) with
      | none => rw [e] at hw; cases hw
      | some x =>
        obtain ⟨c, r⟩ := x
        rw [e] at hw
        have er : l.drop p = r := Option.some.inj hw
        have e2 := (rd_iff.mp e).1
        have ep : p = i + (toks c).length := by
          have g1 := congrArg List.length er
          have g2 := congrArg List.length e2
          rw [List.length_drop] at g1
          rw [List.length_drop, List.length_append] at g2
          omega
        rw [ep]
        exact ⟨_, rfl, kS c r e⟩
/-! ### the heap: concepts as tuples -/
theorem same_new {H : Hp} {p : Addr} {o : HO} (h : H p = none) : Same H (upd H p o) := fun b u e => by
  rw [upd_ne (ne_of_none e h)]
  exact e
theorem same_upd {H H' : Hp} {p : Addr} {o : HO} (s : Same H H') (h : H p = none) : Same H (upd H' p o) := fun b u e => by
  rw [upd_ne (ne_of_none e h)]
  exact s b u e
theorem sameN {H H' : Hp} {p : Addr} {o : HO} (s : Same H H') (h : H' p = none) : Same H (upd H' p o) := L2.Same.trans s (same_new h)
/-- the tuples stay -/
def Stay (H H' : Hp) : Prop := ∀ b xs, H b = some (.tup xs) → H' b = some (.tup xs)
theorem Stay.refl (H : Hp) : Stay H H := fun _ _ h => h
theorem Stay.trans {H H1 H2 : Hp} (a : Stay H H1) (b : Stay H1 H2) : Stay H H2 := fun c xs h => b c xs (a c xs h)
theorem stayS {H H' : Hp} (s : Same H H') : Stay H H' := fun b xs h => s b _ h
theorem stay_new {H : Hp} {p : Addr} {o : HO} (h : H p = none) : Stay H (upd H p o) := stayS (same_new h)
theorem stay_lst {H : Hp} {p : Addr} {xs : List V} {o : HO} (h : H p = some (.lst xs)) : Stay H (upd H p o) := fun b ys e => by
  rw [upd_ne (ne_of e h (fun z => by cases z))]
  exact e
theorem stay_ins {H : Hp} {p : Addr} {C dx : Addr} {fs : List (Str × V)} {o : HO} (h : H p = some (.ins C dx fs)) : Stay H (upd H p o) := fun b ys e => by
  rw [upd_ne (ne_of e h (fun z => by cases z))]
  exact e
/-- a concept: a tuple of its numbers -/
def CAt (H : Hp) (v : V) (c : Oc.C) : Prop := ∃ b, v = .ref b ∧ H b = some (.tup (nv (toks c)))
theorem CAt.stay {H H' : Hp} {v : V} {c : Oc.C} (s : Stay H H') (h : CAt H v c) : CAt H' v c := by
  obtain ⟨b, rfl, e⟩ := h
  exact ⟨b, rfl, s b _ e⟩
abbrev CsAt (H : Hp) : List V → List Oc.C → Prop := Paired (CAt H)
theorem CsAt.stay {H H' : Hp} {vs : List V} {cs : List Oc.C} (s : Stay H H') (h : CsAt H vs cs) : CsAt H' vs cs := Paired.mono (fun _ _ q => CAt.stay s q) h
theorem CsAt.get {H : Hp} : ∀ {vs : List V} {cs : List Oc.C}, CsAt H vs cs → ∀ {i : Nat} {v : V}, vs[i]? = some v → ∃ c, cs[i]? = some c ∧ CAt H v c
  | _, _, .nil, _, _, h => by simp at h
  | _, _, .cons a r, 0, v, h => by
    simp at h
    subst h
    exact ⟨_, rfl, a⟩
  | _, _, .cons a r, i + 1, v, h => by
    obtain ⟨c, e, q⟩ := CsAt.get r (i := i) (v := v) (by simpa using h)
    exact ⟨c, by simpa using e, q⟩
theorem CsAt.get' {H : Hp} : ∀ {vs : List V} {cs : List Oc.C}, CsAt H vs cs → ∀ {i : Nat} {c : Oc.C}, cs[i]? = some c → ∃ v, vs[i]? = some v ∧ CAt H v c
  | _, _, .nil, _, _, h => by simp at h
  | _, _, .cons a r, 0, c, h => by
    simp at h
    subst h
    exact ⟨_, rfl, a⟩
  | _, _, .cons a r, i + 1, c, h => by
    obtain ⟨v, e, q⟩ := CsAt.get' r (i := i) (c := c) (by simpa using h)
    exact ⟨v, by simpa using e, q⟩
/-! ### split_concepts -/
/- split_concepts: slots 0 numbers, 1 how_many, 2 concepts, 3 place, 4 turn, 5 end -/
abbrev s_split_concepts : Stmt := top 14
abbrev N_split_concepts : List Str := ["numbers", "how_many", "concepts", "place", "turn", "end"]
theorem sc_split_concepts : FnScope N_split_concepts ["numbers", "how_many"] (defScope s_split_concepts) := ⟨rfl, rfl, rfl, by decide +kernel, rfl, by decide +kernel, by decide +kernel⟩
def spSplit (K : PySem.W.Frag) : Sp := fun vs H Q _ => ∃ (a : Addr) (l : List Nat) (n : Nat), vs = [.ref a, .int (n : Int)] ∧ SqL K H a (nv l) ∧ n ≤ 2 ∧
  ((∀ cs, cut n l ≠ some (cs, [])) → ∀ H', Same H H' → Q .non H') ∧
  (∀ cs, cut n l = some (cs, []) → ∀ (H' : Hp) (D : Addr) (us : List V), Same H H' → H D = none → H' D = some (.lst us) → CsAt H' us cs → Q (.ref D) H')
theorem cutV_nat {xs : List V} {i j : Nat} (h : j ≤ xs.length) (g : i ≤ j) : cutV xs (some (i : Int)) (some (j : Int)) = (xs.drop i).take (j - i) := by
  have e : ∀ k d : Nat, k ≤ xs.length → HT.sIx xs.length d (some (k : Int)) = k := by
    intro k d hk
    rw [HT.sIx_nat]
    omega
  unfold cutV
  rw [e i 0 (by omega), e j _ h]
theorem nv_drop (l : List Nat) (i : Nat) : (nv l).drop i = nv (l.drop i) := by unfold nv; rw [List.map_drop]
theorem nv_take (l : List Nat) (i : Nat) : (nv l).take i = nv (l.take i) := by unfold nv; rw [List.map_take]
theorem ok_split {f : Addr} {fd : FuncData} (F : Fun K "split_concepts" "split_concepts" s_split_concepts f fd) (T : Txt K mg CK CH) (D_concept_end : Df P w K mg base "concept_end" 2 ["numbers", "start"] (spConceptEnd K)) : FnOk P w K mg base CX0 3 f fd ["numbers", "how_many"] (spSplit K) := by
  refine F.ok sc_split_concepts (fun vs H Q E h => ?_) (fun cdv A outer s H vs Q E hr h => ⟨_, (pss_cons (ps_set (i := 2) sc_split_concepts.nd rfl (by first | exact .inl rfl | exact .inr rfl) (pe_lst pa_nil))
    (pss_cons (ps_set (i := 3) sc_split_concepts.nd rfl (by first | exact .inl rfl | exact .inr rfl) pe_int)
    (pss_cons (ps_for PassesOwn.never rfl (pi_range1 (by rfl) T.b_range (pa_cons (pv 1) pa_nil)) (pg_name (i := 4) sc_split_concepts.nd rfl (by first | exact .inl rfl | exact .inr rfl)) (pss_cons (ps_set (i := 5) sc_split_concepts.nd rfl (by first | exact .inl rfl | exact .inr rfl) (pe_callD D_concept_end (rm hr) rfl (pa_cons (pv 0) (pa_cons (pv 3) pa_nil))))
    (pss_cons (ps_if (pt_cmpR op_isN (pv 5) pe_non (nomark _)) (pss_one (ps_ret pe_non)) pss_nil)
    (pss_cons (ps_expr (pe_bm PySem.F.plainAttrs_list PySem.F.slot_list_append PySem.F.type_list_append mt_append (pv 2) (pa_cons (pe_callTy call_tuple_of (by rfl) T.b_tuple (by decide +kernel) (pa_cons (pe_slice sl_list (pv 0) (po_some (pv 3)) (po_some (pv 5))) pa_nil)) pa_nil)))
    (pss_one (ps_set (i := 3) sc_split_concepts.nd rfl (by first | exact .inl rfl | exact .inr rfl) (pv 5)))))))
    (pss_cons (ps_if (pt_cmpR op_lt (pv 3) (pe_callB call_len_seq (by rfl) T.b_len (by decide +kernel) (pa_cons (pv 0) pa_nil)) (nomark _)) (pss_one (ps_ret pe_non)) pss_nil)
    (pss_one (ps_ret (pv 2))))))), ?_⟩)
  · obtain ⟨a, l, n, rfl, _⟩ := h
    rfl
  · obtain ⟨a, l, n, rfl, hs, hn, kN, kS⟩ := h
    refine ⟨by show 0 ≤ sizeLine; decide, fun D hD => ?_⟩
    refine ⟨_, rfl, n, rfl, by omega, by omega, for_range (n := n) (fun i σ H' => ∃ (cs : List Oc.C) (p : Nat) (us : List V) (v4 v5 : Option V), σ = [some (.ref a), some (.int (n : Int)), some (.ref D), some (.int (p : Int)), v4, v5] ∧ Same H H' ∧ H' D = some (.lst us) ∧ CsAt H' us cs ∧
      us.length = i ∧ i ≤ n ∧ p ≤ l.length ∧ cut n l = (cut (n - i) (l.drop p)).map fun z => (cs ++ z.1, z.2)) ?_ ?_ ?_⟩
    · refine ⟨[], 0, [], none, none, rfl, same_new hD, upd_same, .nil, rfl, Nat.zero_le _, Nat.zero_le _, ?_⟩
      show cut n l = (cut n l).map fun z => (z.1, z.2)
      cases cut n l <;> rfl
    · rintro i σ H' hi ⟨cs, p, us, v4, v5, rfl, sm, hD', hcs, hlen, _, hp, hcut⟩
      obtain ⟨k, hk⟩ : ∃ k, n - i = k + 1 := ⟨n - i - 1, by omega⟩
      rw [hk] at hcut
      refine ⟨_, rfl, _, rfl, a, l, p, rfl, .inl (sm.seq hs), hp, fun e => ?_, fun c r e => ?_⟩
      · refine ⟨_, rfl, rfl, _, rfl, ?_⟩
        refine bT rfl (kN (fun cs' e' => ?_) H' sm)
        rw [hcut, cut_none e] at e'
        cases e'
      · refine ⟨_, rfl, rfl, _, rfl, ?_⟩
        refine bF rfl ?_
        obtain ⟨e1, w1⟩ := rd_iff.mp e
        have len1 : l.length - p = (toks c).length + r.length := by
          have g := congrArg List.length e1
          rw [List.length_drop, List.length_append] at g
          exact g
        have er : l.drop (p + (toks c).length) = r := by
          rw [← List.drop_drop, e1, List.drop_left]
        refine ⟨_, rfl, .inl ⟨rfl, _, SqL.of hD'⟩, _, rfl, _, rfl, _, rfl, _, rfl, _, rfl, a, _, rfl, sm.seq hs, fun q nq => ?_⟩
        have n1 : D ≠ q := ne_of_none hD' nq
        refine ⟨q, _, rfl, .inl ⟨SqL.of upd_same, fun t nt => ?_⟩⟩
        have n2 : D ≠ t := ne_of_none (by rw [upd_ne n1]; exact hD') nt
        have hD2 : upd (upd H' q (.lst (cutV (nv l) (some (p : Int)) (some ((p + (toks c).length : Nat) : Int))))) t (.tup (cutV (nv l) (some (p : Int)) (some ((p + (toks c).length : Nat) : Int)))) D = some (.lst us) := by
          rw [upd_ne n2, upd_ne n1]
          exact hD'
        refine ⟨D, us, _, rfl, rfl, hD2, by rw [hlen]; exact Nat.lt_of_lt_of_le hi (Nat.le_trans hn (by decide)), ?_⟩
        have ecut : cutV (nv l) (some (p : Int)) (some ((p + (toks c).length : Nat) : Int)) = nv (toks c) := by
          rw [cutV_nat (by rw [nv_len]; omega) (by omega), nv_drop, nv_take, e1, Nat.add_sub_cancel_left, List.take_left]
        refine ⟨_, rfl, cs ++ [c], p + (toks c).length, us ++ [.ref t], _, _, rfl, same_upd (sameN (sameN sm nq) nt) hD, upd_same, ?_, by rw [List.length_append, hlen]; rfl, hi, by omega, ?_⟩
        · refine Paired.snoc (CsAt.stay ((stay_new nq).trans ((stay_new nt).trans (stay_lst hD2))) hcs) ⟨t, rfl, ?_⟩
          rw [upd_ne n2.symm, upd_same, ecut]
        · rw [hcut, cut_some e, er, show n - (i + 1) = k by omega]
          cases cut k r with
          | none => rfl
          | some z => simp
    · rintro σ H' ⟨cs, p, us, v4, v5, rfl, sm, hD', hcs, hlen, _, hp, hcut⟩
      rw [Nat.sub_self] at hcut
      have hcut2 : cut n l = some (cs, l.drop p) := by
        rw [hcut]
        show some (cs ++ [], l.drop p) = _
        rw [List.append_nil]
      refine ⟨_, rfl, _, rfl, a, _, rfl, .inl (sm.seq hs), _, _, rfl, rfl, _, rfl, ?_⟩
      rw [nv_len]
      by_cases hlt : (p : Int) < (l.length : Int)
      · refine dT hlt (kN (fun cs' e' => ?_) H' sm)
        rw [hcut2] at e'
        have g := congrArg List.length (congrArg Prod.snd (Option.some.inj e'))
        simp at g
        omega
      · refine dF hlt ?_
        have ez : l.drop p = [] := List.drop_of_length_le (by omega)
        rw [ez] at hcut2
        exact ⟨_, rfl, kS cs hcut2 H' D us sm hD hD' hcs⟩
/-! ### parts_of -/
theorem slA_of {K : PySem.W.Frag} {H : Hp} {a : Addr} {xs : List V} {lo hi : Option Int} {Q : VK} (h : H a = some (.tup xs)) (q : ∀ (t : Addr) (H' : Hp), Same H H' → H' t = some (.tup (cutV xs lo hi)) → Q (.ref t) H') : rSlA K (.ref a) lo hi H Q := by
  refine ⟨a, xs, rfl, SqT.of h, fun hw => q a H (Same.refl H) ?_, fun _ p hp => q p _ (same_new hp) upd_same⟩
  rw [h]
  unfold cutV
  rw [hw.1, hw.2, List.drop_zero, Nat.sub_zero, List.take_length]
/- parts_of: slots 0 concept, 1 parts, 2 place -/
abbrev s_parts_of : Stmt := top 15
abbrev N_parts_of : List Str := ["concept", "parts", "place"]
theorem sc_parts_of : FnScope N_parts_of ["concept"] (defScope s_parts_of) := ⟨rfl, rfl, rfl, by decide +kernel, rfl, by decide +kernel, by decide +kernel⟩
def spParts : Sp := fun vs H Q _ => ∃ (v : V) (c : Oc.C), vs = [v] ∧ CAt H v c ∧ wf c = true ∧ (toks c).length ≤ 1000 ∧
  ∀ (H' : Hp) (D : Addr) (us : List V), Same H H' → H D = none → H' D = some (.lst us) → CsAt H' us (subs c) → Q (.ref D) H'
theorem ok_parts {f : Addr} {fd : FuncData} (F : Fun K "parts_of" "parts_of" s_parts_of f fd) (T : Txt K mg CK CH) (D_concept_end : Df P w K mg base "concept_end" 2 ["numbers", "start"] (spConceptEnd K)) (D_head_length : Df P w K mg base "head_length" 1 ["numbers", "start"] (spHeadLength K)) :
    FnOk P w K mg base CX0 3 f fd ["concept"] spParts := by
  refine F.ok sc_parts_of (fun vs H Q E h => ?_) (fun cdv A outer s H vs Q E hr h => ⟨_, (pss_cons (ps_set (i := 1) sc_parts_of.nd rfl (by first | exact .inl rfl | exact .inr rfl) (pe_lst pa_nil))
    (pss_cons (ps_set (i := 2) sc_parts_of.nd rfl (by first | exact .inl rfl | exact .inr rfl) pe_int)
    (pss_cons (ps_while PassesOwn.never (pt_cmpR op_lt (pv 2) (pe_callB call_len_seq (by rfl) T.b_len (by decide +kernel) (pa_cons (pv 0) pa_nil)) (nomark _)) (pss_cons (ps_expr (pe_bm PySem.F.plainAttrs_list PySem.F.slot_list_append PySem.F.type_list_append mt_append (pv 1) (pa_cons (pe_slice sl_tupA (pv 0) (po_some (pv 2)) (po_some (pe_callD D_concept_end (rm hr) rfl (pa_cons (pv 0) (pa_cons (pv 2) pa_nil))))) pa_nil)))
    (pss_one (ps_aug (i := 2) sc_parts_of.nd rfl (by first | exact .inl rfl | exact .inr rfl) (pe_callD D_head_length (rm hr) rfl (pa_cons (pv 0) (pa_cons (pv 2) pa_nil))) ip_add))))
    (pss_one (ps_ret (pv 1)))))), ?_⟩)
  · obtain ⟨v, c, rfl, _⟩ := h
    rfl
  · obtain ⟨_, c, rfl, ⟨a, rfl, ha⟩, wc, hlen, k⟩ := h
    refine ⟨by show 0 ≤ sizeLine; decide, fun D hD => ?_⟩
    refine ⟨fun m σ H' => ∃ (p : Nat) (us : List V) (done st : List Oc.C), m = (toks c).length - p ∧ σ = [some (.ref a), some (.ref D), some (.int (p : Int))] ∧ Same H H' ∧ H' D = some (.lst us) ∧ CsAt H' us done ∧
      subs c = done ++ st.flatMap subs ∧ (toks c).drop p = st.flatMap toks ∧ p ≤ (toks c).length ∧ (∀ d ∈ st, wf d = true),
      ⟨_, 0, [], [], [c], rfl, rfl, same_new hD, upd_same, .nil, by simp, by simp, Nat.zero_le _, by simpa using wc⟩, ?_⟩
    rintro m σ H' ⟨p, us, done, st, rfl, rfl, sm, hD', hcs, hsub, hdr, hp, hw⟩
    have ha' := sm a _ ha
    refine ⟨_, rfl, _, rfl, a, _, rfl, .inr (SqT.of ha'), _, _, rfl, rfl, _, rfl, ?_⟩
    rw [nv_len]
    by_cases hlt : (p : Int) < ((toks c).length : Int)
    · refine dT hlt ⟨_, fun _ _ z => z, ?_⟩
      cases st with
      | nil =>
        have g := congrArg List.length hdr
        rw [List.length_drop] at g
        simp at g
        omega
      | cons d st =>
        rw [List.flatMap_cons] at hdr
        have wd := hw d List.mem_cons_self
        have erd : rd ((toks c).drop p) = some (d, st.flatMap toks) := by rw [hdr]; exact rd_toks wd
        have lens := congrArg List.length hdr
        rw [List.length_drop, List.length_append] at lens
        have hpos := toks_pos d
        have hul : us.length < sizeLine := by
          have g1 := Paired.length hcs
          have g2 := congrArg List.length hsub
          have g3 := subs_length_le c
          rw [List.length_append] at g2
          have : (1000 : Nat) < sizeLine := by decide
          omega
        refine ⟨_, rfl, .inl ⟨rfl, _, SqL.of hD'⟩, _, rfl, _, rfl, _, rfl, _, rfl, _, rfl, a, toks c, p, rfl, .inr (SqT.of ha'), hp, fun e => ?_, fun d' r' e => ?_⟩
        · rw [erd] at e
          cases e
        · rw [erd] at e
          cases e
          refine ⟨_, rfl, slA_of ha' fun t H2 s2 ht => ?_⟩
          rw [cutV_nat (by rw [nv_len]; omega) (by omega), nv_drop, nv_take, hdr, Nat.add_sub_cancel_left, List.take_left] at ht
          refine ⟨D, us, _, rfl, rfl, s2 D _ hD', hul, ?_⟩
          have hD2 := s2 D _ hD'
          have nt : t ≠ D := ne_of ht hD2 (fun z => by cases z)
          have sm3 : Same H (upd H2 D (.lst (us ++ [.ref t]))) := same_upd (L2.Same.trans sm s2) hD
          refine ⟨_, rfl, _, rfl, _, rfl, a, toks c, p, rfl, .inr (SqT.of (sm3 a _ ha)), _, _, rfl, rfl, ?_⟩
          have hle := hl_le ((toks c).drop p)
          have hne := hl_toks wd (st.flatMap toks)
          rw [← hdr] at hne
          have edrop := drop_hl wd (st.flatMap toks)
          rw [← hdr, List.drop_drop] at edrop
          rw [List.length_drop] at hle
          refine ⟨(toks c).length - (p + hl ((toks c).drop p)), by omega, p + hl ((toks c).drop p), us ++ [.ref t], done ++ [d], kids d ++ st, rfl, ?_, sm3, upd_same, ?_, ?_, ?_, by omega, ?_⟩
          · exact congrArg (fun (y : Int) => [some (V.ref a), some (V.ref D), some (V.int y)]) (show (p : Int) + (hl ((toks c).drop p) : Nat) = ((p + hl ((toks c).drop p) : Nat) : Int) by omega)
          · exact Paired.snoc (CsAt.stay ((stayS s2).trans (stay_lst hD2)) hcs) ⟨t, rfl, by rw [upd_ne nt]; exact ht⟩
          · rw [hsub, List.flatMap_cons, subs_eq d, List.flatMap_append]
            simp
          · rw [edrop, List.flatMap_append]
          · intro x hx
            rcases List.mem_append.mp hx with g | g
            · exact wf_kids wd x g
            · exact hw x (List.mem_cons_of_mem _ g)
    · refine dF hlt ?_
      have e0 : (toks c).drop p = [] := List.drop_of_length_le (by omega)
      rw [e0] at hdr
      cases st with
      | nil =>
        rw [List.flatMap_nil, List.append_nil] at hsub
        rw [← hsub] at hcs
        exact ⟨_, rfl, k H' D us sm hD hD' hcs⟩
      | cons d st =>
        have g := congrArg List.length hdr
        rw [List.flatMap_cons, List.length_append] at g
        have := toks_pos d
        simp at g
        omega
end
end Rh

set_option Elab.async false
set_option linter.all false
set_option maxRecDepth 100000
set_option maxHeartbeats 2000000
/-! # Rh, part F: atoms, what holds -/
namespace Rh
open PySem PySem.Spec PyProof.Rows L2
/-! ### concepts as data -/
def cd (c : Oc.C) : PyData := .tuple ((toks c).map fun (n : Nat) => PyData.int (n : Int))
theorem ints_lay : ∀ l : List Nat, PyData.canLayAll0 (l.map fun (n : Nat) => PyData.int (n : Int)) = true
  | [] => by rw [List.map_nil]; simp [PyData.canLayAll0]
  | n :: l => by simp [PyData.canLayAll0, PyData.canLay0]; simpa using ints_lay l
theorem ints_depth : ∀ l : List Nat, PyData.depthAll (l.map fun (n : Nat) => PyData.int (n : Int)) ≤ 1
  | [] => by rw [List.map_nil]; simp [PyData.depthAll]
  | n :: l => by
    have rest := ints_depth l
    rw [List.map_cons]
    simp only [PyData.depthAll, PyData.depth]
    omega
theorem cd_lay (c : Oc.C) : (cd c).canLay0 = true := by
  unfold cd
  simp only [PyData.canLay0]
  exact ints_lay _
theorem cd_depth (c : Oc.C) : (cd c).depth ≤ 2 := by
  have := ints_depth (toks c)
  unfold cd
  simp only [PyData.depth]
  omega
theorem cds_lay : ∀ l : List Oc.C, PyData.canLayAll0 (l.map cd) = true
  | [] => by rw [List.map_nil]; simp [PyData.canLayAll0]
  | c :: l => by simp [PyData.canLayAll0, cd_lay c, cds_lay l]
theorem cds_depth : ∀ l : List Oc.C, PyData.depthAll (l.map cd) ≤ 2
  | [] => by rw [List.map_nil]; simp [PyData.depthAll]
  | c :: l => by
    have h1 := cds_depth l
    have h2 := cd_depth c
    rw [List.map_cons]
    simp only [PyData.depthAll]
    omega
theorem cd_shaped (c : Oc.C) : SeqAt.shaped (cd c) = true := by
  have h := cd_depth c
  show ((cd c).canLay0 && decide ((cd c).depth ≤ 64)) = true
  rw [Bool.and_eq_true]
  exact ⟨cd_lay c, decide_eq_true (by omega)⟩
theorem cds_shaped (l : List Oc.C) : SeqAt.shaped (.list (l.map cd)) = true := by
  have h1 := cds_depth l
  have h2 : PyData.depth (.list (l.map cd)) ≤ 64 := by
    simp only [PyData.depth]
    omega
  show (PyData.canLay0 (.list (l.map cd)) && decide (PyData.depth (.list (l.map cd)) ≤ 64)) = true
  rw [Bool.and_eq_true]
  exact ⟨by simp only [PyData.canLay0]; exact cds_lay l, decide_eq_true h2⟩
theorem ints_eqv : ∀ a b : List Nat, PyData.eqvAll (a.map fun (n : Nat) => PyData.int (n : Int)) (b.map fun (n : Nat) => PyData.int (n : Int)) = decide (a = b)
  | [], [] => by rw [List.map_nil, decide_eq_true rfl, PyData.eqvAll]
  | [], y :: b => by simp [PyData.eqvAll]
  | x :: a, [] => by simp [PyData.eqvAll]
  | x :: a, y :: b => by
    have ih := ints_eqv a b
    simp only [List.map_cons, PyData.eqvAll, PyData.eqv]
    rw [ih]
    by_cases h : x = y
    · subst h
      simp
    · have e : ((x : Int) == (y : Int)) = false := beq_eq_false_iff_ne.mpr (by omega)
      rw [e]
      simp [h]
theorem cd_eqv {c d : Oc.C} (wc : wf c = true) (wd : wf d = true) : PyData.eqv (cd c) (cd d) = decide (c = d) := by
  unfold cd
  simp only [PyData.eqv]
  rw [ints_eqv]
  by_cases h : c = d
  · subst h
    simp
  · rw [decide_eq_false h]
    exact decide_eq_false fun e => h (toks_inj' wc wd e)
theorem cds_any {c : Oc.C} (wc : wf c = true) : ∀ {l : List Oc.C}, (∀ d ∈ l, wf d = true) → ((l.map cd).any fun z => PyData.eqv z (cd c)) = decide (c ∈ l)
  | [], _ => by simp
  | d :: l, h => by
    rw [List.map_cons, List.any_cons, cd_eqv (h d List.mem_cons_self) wc, cds_any wc fun x hx => h x (List.mem_cons_of_mem _ hx)]
    by_cases e : d = c
    · subst e; simp
    · have e' : ¬ c = d := fun q => e q.symm
      simp [e, e']
section
variable {K : PySem.W.Frag} {H : Hp}
theorem dp_ints : ∀ l : List Nat, DpAll K H (nv l) (l.map fun (n : Nat) => PyData.int (n : Int))
  | [] => .nil
  | n :: l => .cons (.int _) (dp_ints l)
theorem CAt.dp {v : V} {c : Oc.C} (h : CAt H v c) : Dp K H v (cd c) := by
  obtain ⟨b, rfl, e⟩ := h
  exact .tup (SqT.of e) (dp_ints _)
theorem CsAt.dp : ∀ {vs : List V} {cs : List Oc.C}, CsAt H vs cs → DpAll K H vs (cs.map cd)
  | _, _, .nil => .nil
  | _, _, .cons a r => .cons (CAt.dp a) (CsAt.dp r)
theorem CsAt.dpl {a : Addr} {vs : List V} {cs : List Oc.C} (h : H a = some (.lst vs)) (q : CsAt H vs cs) : Dp K H (.ref a) (.list (cs.map cd)) := .lst (SqL.of h) (CsAt.dp q)
end
theorem putA_len (m : List Oc.C) (c : Oc.C) : (putA m c).length ≤ m.length + 1 := by
  unfold putA
  split
  · simp
  · omega
theorem fold_len : ∀ (l m : List Oc.C), (l.foldl putA m).length ≤ m.length + l.length
  | [], m => by simp
  | c :: l, m => by
    have h1 := fold_len l (putA m c)
    have h2 := putA_len m c
    simp only [List.length_cons, List.foldl_cons]
    omega
theorem fold_wf : ∀ (l m : List Oc.C), (∀ c ∈ l, wf c = true) → (∀ c ∈ m, wf c = true) → ∀ c ∈ l.foldl putA m, wf c = true
  | [], _, _, h => h
  | c :: l, m, hl, hm => by
    refine fold_wf l _ (fun x hx => hl x (List.mem_cons_of_mem _ hx)) fun x hx => ?_
    unfold putA at hx
    split at hx
    · rcases List.mem_append.mp hx with g | g
      · exact hm x g
      · simp at g
        subst g
        exact hl x List.mem_cons_self
    · exact hm x hx
theorem take_snoc {α : Type} {l : List α} {i : Nat} {x : α} (h : l[i]? = some x) : l.take (i + 1) = l.take i ++ [x] := by
  obtain ⟨hlt, e⟩ := List.getElem?_eq_some_iff.mp h
  rw [List.take_add_one, h]
  rfl
section
variable {P : Program} {w : World} {K : PySem.W.Frag} {mg : Str → Option Value} {base : Heap} {CK CH : Addr}
/-! ### atoms_of -/
/- atoms_of: slots 0 concepts, 1 atoms, 2 concept, 3 part -/
abbrev s_atoms_of : Stmt := top 16
abbrev N_atoms_of : List Str := ["concepts", "atoms", "concept", "part"]
theorem sc_atoms_of : FnScope N_atoms_of ["concepts"] (defScope s_atoms_of) := ⟨rfl, rfl, rfl, by decide +kernel, rfl, by decide +kernel, by decide +kernel⟩
def spAtoms : Sp := fun vs H Q _ => ∃ (a : Addr) (us : List V) (cs : List Oc.C), vs = [.ref a] ∧ H a = some (.lst us) ∧ CsAt H us cs ∧ (∀ c ∈ cs, wf c = true ∧ (toks c).length ≤ 1000) ∧ (cs.flatMap subs).length ≤ 10000 ∧
  ∀ (H' : Hp) (D : Addr) (ws : List V), Same H H' → H D = none → H' D = some (.lst ws) → CsAt H' ws (Oc.atomsOf cs) → Q (.ref D) H'
theorem ok_atoms {f : Addr} {fd : FuncData} (F : Fun K "atoms_of" "atoms_of" s_atoms_of f fd) (T : Txt K mg CK CH) (D_parts_of : Df P w K mg base "parts_of" 3 ["concept"] spParts) : FnOk P w K mg base CX0 4 f fd ["concepts"] spAtoms := by
  refine F.ok sc_atoms_of (fun vs H Q E h => ?_) (fun cdv A outer s H vs Q E hr h => ⟨_, (pss_cons (ps_set (i := 1) sc_atoms_of.nd rfl (by first | exact .inl rfl | exact .inr rfl) (pe_lst pa_nil))
    (pss_cons (ps_for PassesOwn.never rfl (pi_list (pv 0)) (pg_name (i := 2) sc_atoms_of.nd rfl (by first | exact .inl rfl | exact .inr rfl)) (pss_one (ps_for PassesOwn.never rfl (pi_list (pe_callD D_parts_of (rm hr) rfl (pa_cons (pv 2) pa_nil))) (pg_name (i := 3) sc_atoms_of.nd rfl (by first | exact .inl rfl | exact .inr rfl)) (pss_one (ps_if (PW.pt (pw_and (pt_cmpR op_in_seq (pe_ix ix_tup (pv 3) pe_int (fun _ _ => rfl)) (pe_gt rfl T.g_WITH_A_SIGN) rfl) (pw_and1 (pt_cmpR (op_notInD (u65 hr)) (pv 3) (pv 1) rfl)))) (pss_one (ps_expr (pe_bm PySem.F.plainAttrs_list PySem.F.slot_list_append PySem.F.type_list_append mt_append (pv 1) (pa_cons (pv 3) pa_nil)))) pss_nil)))))
    (pss_one (ps_ret (pv 1))))), ?_⟩)
  · obtain ⟨a, us, cs, rfl, _⟩ := h
    rfl
  · obtain ⟨a, us, cs, rfl, ha, hcs, hok, hsz, k⟩ := h
    refine ⟨by show 0 ≤ sizeLine; decide, fun D hD => ?_⟩
    have hna : a ≠ D := ne_of_none ha hD
    refine ⟨_, rfl, a, rfl, ⟨_, SqL.of (same_new hD a _ ha)⟩, for_list (K := K) (a := a) (xs := us) (fun i σ H' => ∃ (v2 v3 : Option V) (ws : List V), σ = [some (.ref a), some (.ref D), v2, v3] ∧ Same H H' ∧ H' D = some (.lst ws) ∧ CsAt H' ws (((cs.take i).flatMap subs).foldl putA []))
      ⟨none, none, [], rfl, same_new hD, upd_same, .nil⟩ (fun i σ H' _ ⟨_, _, _, _, sm, _⟩ => SqL.of (sm a _ ha)) ?_ ?_⟩
    · rintro i x σ H' hx ⟨v2, v3, ws, rfl, sm, hD', hws⟩
      obtain ⟨c, hc, cat⟩ := CsAt.get hcs hx
      have okc := hok c (List.mem_of_getElem? hc)
      refine ⟨_, rfl, x, c, rfl, CAt.stay (stayS sm) cat, okc.1, okc.2, fun H2 B bs s2 nB hB hbs => ⟨B, rfl, ⟨_, SqL.of hB⟩, ?_⟩⟩
      have hsz2 : (((cs.take i).flatMap subs) ++ subs c).length ≤ (cs.flatMap subs).length := by
        have e : cs.flatMap subs = (cs.take (i + 1)).flatMap subs ++ (cs.drop (i + 1)).flatMap subs := by rw [← List.flatMap_append, List.take_append_drop]
        rw [e, take_snoc hc, List.flatMap_append, List.flatMap_singleton]
        simp only [List.length_append]
        omega
      have wall : ∀ d ∈ (cs.take i).flatMap subs ++ subs c, wf d = true := by
        intro d hd
        rcases List.mem_append.mp hd with g | g
        · obtain ⟨c', hc', hd'⟩ := List.mem_flatMap.mp g
          exact wf_subs (hok c' (List.mem_of_mem_take hc')).1 d hd'
        · exact wf_subs okc.1 d g
      have hbn : D ≠ B := ne_of_none hD' nB
      refine for_list (K := K) (a := B) (xs := bs) (fun j σ H3 => ∃ (v3 : Option V) (ws : List V), σ = [some (.ref a), some (.ref D), some x, v3] ∧ Same H H3 ∧ H3 D = some (.lst ws) ∧ H3 B = some (.lst bs) ∧ CsAt H3 bs (subs c) ∧ CsAt H3 ws (((cs.take i).flatMap subs ++ (subs c).take j).foldl putA []))
        ⟨v3, ws, rfl, L2.Same.trans sm s2, s2 D _ hD', hB, hbs, by rw [List.take_zero, List.append_nil]; exact CsAt.stay (stayS s2) hws⟩ (fun j σ H3 _ ⟨_, _, _, _, _, q, _⟩ => SqL.of q) ?_ ?_
      · rintro j y σ H3 hy ⟨v3', ws3, rfl, sm3, hD3, hB3, hbs3, hws3⟩
        obtain ⟨p, hp, b, rfl, hb⟩ := CsAt.get hbs3 hy
        have wp : wf p = true := wf_subs okc.1 p (List.mem_of_getElem? hp)
        have epre : (subs c).take (j + 1) = (subs c).take j ++ [p] := take_snoc hp
        have estep : ((cs.take i).flatMap subs ++ (subs c).take (j + 1)).foldl putA [] = putA (((cs.take i).flatMap subs ++ (subs c).take j).foldl putA []) p := by
          rw [epre, ← List.append_assoc, List.foldl_append]
          rfl
        refine ⟨_, rfl, b, _, _, _, rfl, rfl, SqT.of hb, nv_at (i := 0) (toks_get0 p), fun g hg => ⟨g, _, rfl, .inr (hg _), rfl, flat_nv _, _, rfl, ?_⟩⟩
        rw [if_neg (by decide), in_sign]
        by_cases hat : isAt p = true
        · refine bT (decide_eq_true (by simpa [isAt, or_assoc] using hat)) ?_
          refine ⟨_, rfl, _, rfl, cd p, _, CAt.dp ⟨b, rfl, hb⟩, CsAt.dpl hD3 hws3, cd_shaped p, cds_shaped _, _, rfl, ?_⟩
          rw [cds_any wp (fold_wf _ _ (fun d hd => wall d (by
            rcases List.mem_append.mp hd with q | q
            · exact List.mem_append_left _ q
            · exact List.mem_append_right _ (List.mem_of_mem_take q))) (fun _ h => (by cases h)))]
          by_cases hin : p ∈ ((cs.take i).flatMap subs ++ (subs c).take j).foldl putA []
          · refine bF (by rw [decide_eq_true hin]; rfl) ?_
            refine ⟨some (.ref b), ws3, rfl, sm3, hD3, hB3, hbs3, ?_⟩
            rw [estep]
            rw [show putA (((cs.take i).flatMap subs ++ (subs c).take j).foldl putA []) p = _ from if_neg (fun q => q.2 hin)]
            exact hws3
          · refine bT (by rw [decide_eq_false hin]; rfl) ?_
            have hl3 : ws3.length < sizeLine := by
              have g1 := Paired.length hws3
              have g2 := fold_len ((cs.take i).flatMap subs ++ (subs c).take j) []
              have g3 : ((cs.take i).flatMap subs ++ (subs c).take j).length ≤ ((cs.take i).flatMap subs ++ subs c).length := by
                rw [List.length_append, List.length_append]
                have := List.length_take_le j (subs c)
                have : ((subs c).take j).length ≤ (subs c).length := by rw [List.length_take]; omega
                omega
              have : (10000 : Nat) < sizeLine := by decide
              simp only [List.length_nil] at g2
              omega
            refine ⟨_, rfl, .inl ⟨rfl, _, SqL.of hD3⟩, _, rfl, D, ws3, _, rfl, rfl, hD3, hl3, ?_⟩
            refine ⟨some (.ref b), ws3 ++ [.ref b], rfl, same_upd sm3 hD, upd_same, ?_, CsAt.stay (stay_lst hD3) hbs3, ?_⟩
            · rw [upd_ne hbn.symm]
              exact hB3
            · rw [estep, show putA (((cs.take i).flatMap subs ++ (subs c).take j).foldl putA []) p = _ from if_pos ⟨hat, hin⟩]
              exact Paired.snoc (CsAt.stay (stay_lst hD3) hws3) (CAt.stay (stay_lst hD3) ⟨b, rfl, hb⟩)
        · refine bF (decide_eq_false (by simpa [isAt, or_assoc] using hat)) ?_
          refine bF rfl ?_
          refine ⟨some (.ref b), ws3, rfl, sm3, hD3, hB3, hbs3, ?_⟩
          rw [estep, putA_no (by simpa using hat)]
          exact hws3
      · rintro σ H3 ⟨v3', ws3, rfl, sm3, hD3, hB3, hbs3, hws3⟩
        refine ⟨some x, v3', ws3, rfl, sm3, hD3, ?_⟩
        have el : bs.length = (subs c).length := Paired.length hbs3
        rw [el, List.take_length] at hws3
        rw [take_snoc hc, List.flatMap_append, List.flatMap_singleton]
        exact hws3
    · rintro σ H' ⟨v2, v3, ws, rfl, sm, hD', hws⟩
      have el : us.length = cs.length := Paired.length hcs
      rw [el, List.take_length, ← atomsOf_eq] at hws
      exact ⟨_, rfl, k H' D ws sm hD hD' hws⟩
/-! ### part_holds -/
theorem bit_val (t k : Nat) : decide (V.int (Builtin.bitAnd ((t : Int) / 2 ^ ((k : Nat) : Int).toNat) 1) = V.int 1) = Oc.bit t k := by
  have e : Builtin.bitAnd ((t : Int) / 2 ^ ((k : Nat) : Int).toNat) 1 = ((t / 2 ^ k % 2 : Nat) : Int) := by
    rw [bitAnd_m1, Int.toNat_natCast]
    push_cast
    rfl
  rw [e]
  unfold Oc.bit
  by_cases h : t / 2 ^ k % 2 = 1
  · rw [h]
    rfl
  · rw [decide_eq_false (fun q => h (by have := V.int.inj q; omega))]
    exact (beq_eq_false_iff_ne.mpr h).symm
/- bit_is_set: slots 0 number, 1 place -/
abbrev s_bit_is_set : Stmt := top 17
abbrev N_bit_is_set : List Str := ["number", "place"]
theorem sc_bit_is_set : FnScope N_bit_is_set ["number", "place"] (defScope s_bit_is_set) := ⟨rfl, rfl, rfl, by decide +kernel, rfl, by decide +kernel, by decide +kernel⟩
def spBitSet : Sp := fun vs H Q _ => ∃ (t k : Nat), vs = [.int (t : Int), .int (k : Int)] ∧ Q (.bl (Oc.bit t k)) H
theorem ok_bit {f : Addr} {fd : FuncData} (F : Fun K "bit_is_set" "bit_is_set" s_bit_is_set f fd) (T : Txt K mg CK CH) : FnOk P w K mg base CX0 1 f fd ["number", "place"] spBitSet := by
  refine F.ok sc_bit_is_set (fun vs H Q E h => ?_) (fun cdv A outer s H vs Q E hr h => ⟨_, (pss_one (ps_ret (pe_cmpR op_eq (pe_op op_and (pe_op op_shr (pv 0) (pv 1)) pe_int) pe_int (nomark _)))), ?_⟩)
  · obtain ⟨t, k, rfl, _⟩ := h
    rfl
  · obtain ⟨t, k, rfl, q⟩ := h
    refine ⟨_, rfl, _, rfl, _, _, rfl, rfl, by omega, _, _, rfl, rfl, rfl, ?_⟩
    show Q (.bl (decide (V.int (Builtin.bitAnd ((t : Int) / 2 ^ ((k : Nat) : Int).toNat) 1) = V.int 1))) H
    rw [bit_val]
    exact q
/- part_holds: slots 0 part, 1 within, 2 atoms, 3 kind, 4 first -/
abbrev s_part_holds : Stmt := top 18
abbrev N_part_holds : List Str := ["part", "within", "atoms", "kind", "first"]
theorem sc_part_holds : FnScope N_part_holds ["part", "within", "atoms", "kind"] (defScope s_part_holds) := ⟨rfl, rfl, rfl, by decide +kernel, rfl, by decide +kernel, by decide +kernel⟩
def spPartHolds : Sp := fun vs H Q _ => ∃ (v : V) (wa aa : Addr) (t : Nat) (p : Oc.C) (bs : List Bool) (us : List V) (at_ : List Oc.C) (b : Bool), vs = [v, .ref wa, .ref aa, .int (t : Int)] ∧ CAt H v p ∧ wf p = true ∧ H wa = some (.lst (bs.map V.bl)) ∧ bs.length = (kids p).length ∧
  H aa = some (.lst us) ∧ CsAt H us at_ ∧ (∀ c ∈ at_, wf c = true) ∧ val at_ t bs p = some b ∧ Q (.bl b) H
theorem ok_part_holds {f : Addr} {fd : FuncData} (F : Fun K "part_holds" "part_holds" s_part_holds f fd) (T : Txt K mg CK CH) (D_bit_is_set : Df P w K mg base "bit_is_set" 1 ["number", "place"] spBitSet) : FnOk P w K mg base CX0 2 f fd ["part", "within", "atoms", "kind"] spPartHolds := by
  refine F.ok sc_part_holds (fun vs H Q E h => ?_) (fun cdv A outer s H vs Q E hr h => ⟨_, (pss_cons (ps_set (i := 4) sc_part_holds.nd rfl (by first | exact .inl rfl | exact .inr rfl) (pe_ix ix_tup (pv 0) pe_int (fun _ _ => rfl)))
    (pss_cons (ps_if (pt_cmpR op_eq (pv 4) (pe_gi rfl T.g_EVERYTHING) (nomark _)) (pss_one (ps_ret pe_bl)) pss_nil)
    (pss_cons (ps_if (pt_cmpR op_eq (pv 4) (pe_gi rfl T.g_NOTHING) (nomark _)) (pss_one (ps_ret pe_bl)) pss_nil)
    (pss_cons (ps_if (pt_cmpR op_eq (pv 4) (pe_gi rfl T.g_BOTH) (nomark _)) (pss_one (ps_ret (pe_and (pe_ix ix_list (pv 1) pe_int (fun _ _ => rfl)) (pe_one (pe_ix ix_list (pv 1) pe_int (fun _ _ => rfl)))))) pss_nil)
    (pss_cons (ps_if (pt_cmpR op_eq (pv 4) (pe_gi rfl T.g_EITHER) (nomark _)) (pss_one (ps_ret (pe_or (pe_ix ix_list (pv 1) pe_int (fun _ _ => rfl)) (pe_one (pe_ix ix_list (pv 1) pe_int (fun _ _ => rfl)))))) pss_nil)
    (pss_cons (ps_if (pt_cmpR op_eq (pv 4) (pe_gi rfl T.g_OPPOSITE) (nomark _)) (pss_one (ps_ret (pe_not (pe_ix ix_list (pv 1) pe_int (fun _ _ => rfl))))) pss_nil)
    (pss_one (ps_ret (pe_callD D_bit_is_set (rm hr) rfl (pa_cons (pv 3) (pa_cons (pe_bm PySem.F.plainAttrs_list PySem.F.slot_list_index PySem.F.type_list_index (mt_indexD (u65 hr)) (pv 2) (pa_cons (pv 0) pa_nil)) pa_nil))))))))))), ?_⟩)
  · obtain ⟨v, wa, aa, t, p, bs, us, at_, b, rfl, _⟩ := h
    rfl
  · obtain ⟨_, wa, aa, t, p, bs, us, at_, b, rfl, ⟨pa, rfl, hpa⟩, wp, hwa, hbl, haa, hus, hwf, hval, q⟩ := h
    refine ⟨_, rfl, pa, _, _, _, rfl, rfl, SqT.of hpa, nv_at (i := 0) (toks_get0 p), ?_⟩
    have atom : isAt p = true → val at_ t bs p = (at_.idxOf? p).map (Oc.bit t) → ∃ k, at_.idxOf? p = some k ∧ at_[k]? = some p ∧ (∀ m, m < k → at_[m]? ≠ some p) ∧ b = Oc.bit t k := by
      intro _ e
      rw [e] at hval
      cases e2 : at_.idxOf? p with
      | none => rw [e2] at hval; cases hval
      | some k =>
        rw [e2] at hval
        have hm : p ∈ at_ := by
          apply Decidable.byContradiction
          intro h
          rw [List.idxOf?_eq_none_iff.mpr h] at e2
          cases e2
        obtain ⟨k', g1, g2, g3⟩ := idxOf?_some hm
        rw [e2] at g1
        cases g1
        exact ⟨k, rfl, g2, g3, (Option.some.inj hval).symm⟩
    cases p with
    | top =>
      cases hval
      exact ⟨_, rfl, rfl, _, rfl, bT rfl q⟩
    | bot =>
      cases hval
      exact ⟨_, rfl, rfl, _, rfl, bF rfl ⟨_, rfl, rfl, _, rfl, bT rfl q⟩⟩
    | and c d =>
      match bs, hbl with
      | [x, y], _ =>
        have e : b = (x && y) := (Option.some.inj hval).symm
        subst e
        refine ⟨_, rfl, rfl, _, rfl, bF rfl ⟨_, rfl, rfl, _, rfl, bF rfl ⟨_, rfl, rfl, _, rfl, bT rfl ⟨_, rfl, wa, _, _, _, rfl, rfl, SqL.of hwa, rfl, x, rfl, ?_⟩⟩⟩⟩
        cases x with
        | true => exact iteT ⟨_, rfl, wa, _, _, _, rfl, rfl, SqL.of hwa, rfl, q⟩
        | false => exact iteF q
    | or c d =>
      match bs, hbl with
      | [x, y], _ =>
        have e : b = (x || y) := (Option.some.inj hval).symm
        subst e
        refine ⟨_, rfl, rfl, _, rfl, bF rfl ⟨_, rfl, rfl, _, rfl, bF rfl ⟨_, rfl, rfl, _, rfl, bF rfl ⟨_, rfl, rfl, _, rfl, bT rfl ⟨_, rfl, wa, _, _, _, rfl, rfl, SqL.of hwa, rfl, x, rfl, ?_⟩⟩⟩⟩⟩
        cases x with
        | true => exact iteT q
        | false => exact iteF ⟨_, rfl, wa, _, _, _, rfl, rfl, SqL.of hwa, rfl, q⟩
    | not c =>
      match bs, hbl with
      | [x], _ =>
        have e : b = !x := (Option.some.inj hval).symm
        subst e
        exact ⟨_, rfl, rfl, _, rfl, bF rfl ⟨_, rfl, rfl, _, rfl, bF rfl ⟨_, rfl, rfl, _, rfl, bF rfl ⟨_, rfl, rfl, _, rfl, bF rfl ⟨_, rfl, rfl, _, rfl, bT rfl ⟨_, rfl, wa, _, _, _, rfl, rfl, SqL.of hwa, rfl, x, rfl, q⟩⟩⟩⟩⟩⟩
    | name a =>
      obtain ⟨k, g1, g2, g3, rfl⟩ := atom rfl rfl
      refine ⟨_, rfl, rfl, _, rfl, bF rfl ⟨_, rfl, rfl, _, rfl, bF rfl ⟨_, rfl, rfl, _, rfl, bF rfl ⟨_, rfl, rfl, _, rfl, bF rfl ⟨_, rfl, rfl, _, rfl, bF rfl ⟨_, rfl, _, rfl, .inl ⟨rfl, _, SqL.of haa⟩, _, rfl, aa, _, cd (.name a), _, k, cd (.name a), rfl, rfl, CsAt.dpl haa hus, CAt.dp ⟨pa, rfl, hpa⟩, cds_shaped _, cd_shaped _, by rw [List.getElem?_map, g2]; rfl, by rw [cd_eqv wp wp]; exact decide_eq_true rfl, ?_, t, k, rfl, q⟩⟩⟩⟩⟩⟩
      intro m z hm hz
      rw [List.getElem?_map] at hz
      cases e : at_[m]? with
      | none => rw [e] at hz; cases hz
      | some c =>
        rw [e] at hz
        cases hz
        rw [cd_eqv (hwf c (List.mem_of_getElem? e)) wp]
        exact decide_eq_false fun q => g3 m hm (by rw [e, q])
    | some r c =>
      obtain ⟨k, g1, g2, g3, rfl⟩ := atom rfl rfl
      refine ⟨_, rfl, rfl, _, rfl, bF rfl ⟨_, rfl, rfl, _, rfl, bF rfl ⟨_, rfl, rfl, _, rfl, bF rfl ⟨_, rfl, rfl, _, rfl, bF rfl ⟨_, rfl, rfl, _, rfl, bF rfl ⟨_, rfl, _, rfl, .inl ⟨rfl, _, SqL.of haa⟩, _, rfl, aa, _, cd (.some r c), _, k, cd (.some r c), rfl, rfl, CsAt.dpl haa hus, CAt.dp ⟨pa, rfl, hpa⟩, cds_shaped _, cd_shaped _, by rw [List.getElem?_map, g2]; rfl, by rw [cd_eqv wp wp]; exact decide_eq_true rfl, ?_, t, k, rfl, q⟩⟩⟩⟩⟩⟩
      intro m z hm hz
      rw [List.getElem?_map] at hz
      cases e : at_[m]? with
      | none => rw [e] at hz; cases hz
      | some c =>
        rw [e] at hz
        cases hz
        rw [cd_eqv (hwf c (List.mem_of_getElem? e)) wp]
        exact decide_eq_false fun q => g3 m hm (by rw [e, q])
    | all r c =>
      obtain ⟨k, g1, g2, g3, rfl⟩ := atom rfl rfl
      refine ⟨_, rfl, rfl, _, rfl, bF rfl ⟨_, rfl, rfl, _, rfl, bF rfl ⟨_, rfl, rfl, _, rfl, bF rfl ⟨_, rfl, rfl, _, rfl, bF rfl ⟨_, rfl, rfl, _, rfl, bF rfl ⟨_, rfl, _, rfl, .inl ⟨rfl, _, SqL.of haa⟩, _, rfl, aa, _, cd (.all r c), _, k, cd (.all r c), rfl, rfl, CsAt.dpl haa hus, CAt.dp ⟨pa, rfl, hpa⟩, cds_shaped _, cd_shaped _, by rw [List.getElem?_map, g2]; rfl, by rw [cd_eqv wp wp]; exact decide_eq_true rfl, ?_, t, k, rfl, q⟩⟩⟩⟩⟩⟩
      intro m z hm hz
      rw [List.getElem?_map] at hz
      cases e : at_[m]? with
      | none => rw [e] at hz; cases hz
      | some c =>
        rw [e] at hz
        cases hz
        rw [cd_eqv (hwf c (List.mem_of_getElem? e)) wp]
        exact decide_eq_false fun q => g3 m hm (by rw [e, q])
/-! ### holds -/
theorem cutV_from {xs : List V} {i : Nat} (h : i ≤ xs.length) : cutV xs (some (i : Int)) none = xs.drop i := by
  unfold cutV
  rw [HT.sIx_nat, HT.sIx_none, show min i xs.length = i by omega, List.take_of_length_le (by rw [List.length_drop]; omega)]
theorem cutV_to {xs : List V} {i : Nat} (h : i ≤ xs.length) : cutV xs none (some (i : Int)) = xs.take i := by
  unfold cutV
  rw [HT.sIx_nat, HT.sIx_none, show min i xs.length = i by omega, List.drop_zero, Nat.sub_zero]
/- holds: slots 0 parts, 1 atoms, 2 kind, 3 known, 4 part, 5 rest, 6 value -/
abbrev s_holds : Stmt := top 19
abbrev N_holds : List Str := ["parts", "atoms", "kind", "known", "part", "rest", "value"]
theorem sc_holds : FnScope N_holds ["parts", "atoms", "kind"] (defScope s_holds) := ⟨rfl, rfl, rfl, by decide +kernel, rfl, by decide +kernel, by decide +kernel⟩
def spHolds : Sp := fun vs H Q _ => ∃ (pa aa : Addr) (t : Nat) (c : Oc.C) (ps us : List V) (at_ : List Oc.C), vs = [.ref pa, .ref aa, .int (t : Int)] ∧ H pa = some (.lst ps) ∧ CsAt H ps (subs c) ∧ wf c = true ∧ (subs c).length ≤ 1000 ∧
  H aa = some (.lst us) ∧ CsAt H us at_ ∧ (∀ d ∈ at_, wf d = true) ∧ (∀ d ∈ c.atoms, d ∈ at_) ∧ ∀ H', Same H H' → Q (.bl (Oc.holds at_ t c)) H'
theorem ok_holds {f : Addr} {fd : FuncData} (F : Fun K "holds" "holds" s_holds f fd) (T : Txt K mg CK CH) (D_part_holds : Df P w K mg base "part_holds" 2 ["part", "within", "atoms", "kind"] spPartHolds) : FnOk P w K mg base CX0 3 f fd ["parts", "atoms", "kind"] spHolds := by
  refine F.ok sc_holds (fun vs H Q E h => ?_) (fun cdv A outer s H vs Q E hr h => ⟨_, (pss_cons (ps_set (i := 3) sc_holds.nd rfl (by first | exact .inl rfl | exact .inr rfl) (pe_lst pa_nil))
    (pss_cons (ps_for PassesOwn.never rfl (pi_reversed (by rfl) T.b_reversed (pa_cons (pv 0) pa_nil)) (pg_name (i := 4) sc_holds.nd rfl (by first | exact .inl rfl | exact .inr rfl)) (pss_cons (ps_set (i := 5) sc_holds.nd rfl (by first | exact .inl rfl | exact .inr rfl) (pe_op op_sub (pe_callB call_len_seq (by rfl) T.b_len (by decide +kernel) (pa_cons (pv 3) pa_nil)) (pe_ix ix_tup (pe_gt rfl T.g_PART_COUNTS) (pe_ix ix_tup (pv 4) pe_int (fun _ _ => rfl)) (fun _ _ => rfl))))
    (pss_cons (ps_set (i := 6) sc_holds.nd rfl (by first | exact .inl rfl | exact .inr rfl) (pe_callD D_part_holds (rm hr) rfl (pa_cons (pv 4) (pa_cons (pe_slice sl_list (pv 3) (po_some (pv 5)) po_none) (pa_cons (pv 1) (pa_cons (pv 2) pa_nil))))))
    (pss_cons (ps_set (i := 3) sc_holds.nd rfl (by first | exact .inl rfl | exact .inr rfl) (pe_slice sl_list (pv 3) po_none (po_some (pv 5))))
    (pss_one (ps_expr (pe_bm PySem.F.plainAttrs_list PySem.F.slot_list_append PySem.F.type_list_append mt_append (pv 3) (pa_cons (pv 6) pa_nil))))))))
    (pss_one (ps_ret (pe_ix ix_list (pv 3) pe_int (fun _ _ => rfl)))))), ?_⟩)
  · obtain ⟨pa, aa, t, c, ps, us, at_, rfl, _⟩ := h
    rfl
  · obtain ⟨pa, aa, t, c, ps, us, at_, rfl, hpa, hps, wc, hsz, haa, hus, hwf, hin, k⟩ := h
    refine ⟨by show 0 ≤ sizeLine; decide, fun D hD => ?_⟩
    refine ⟨_, rfl, pa, ps, rfl, SqL.of (same_new hD pa _ hpa), for_it (walk_rev (K := K) (a := pa) (xs := ps)) (fun i σ H' => ∃ (kn : List Bool) (ka : Addr) (v4 v5 v6 : Option V), σ = [some (.ref pa), some (.ref aa), some (.int (t : Int)), some (.ref ka), v4, v5, v6] ∧ Same H H' ∧ H' ka = some (.lst (kn.map V.bl)) ∧ H ka = none ∧
      evs at_ t ((subs c).reverse.drop i) kn = some [Oc.holds at_ t c] ∧ kn.length ≤ i) ?_ (fun i σ H' _ ⟨_, _, _, _, _, _, sm, _⟩ => SqL.of (sm pa _ hpa)) ?_ ?_⟩
    · refine ⟨[], D, none, none, none, rfl, same_new hD, upd_same, hD, ?_, Nat.le_refl _⟩
      rw [List.drop_zero, evs_subs at_ t c [] hin]
      rfl
    · rintro i x σ H0 H' hi ⟨kn, ka, v4, v5, v6, rfl, sm, hka, nka, hev, hkl⟩ ⟨rfl, hx⟩
      have hle : ps.length = (subs c).length := Paired.length hps
      obtain ⟨p, hp, b, rfl, hb⟩ := CsAt.get hps hx
      have wp : wf p = true := wf_subs wc p (List.mem_of_getElem? hp)
      have hb' := sm b _ hb
      have erev : (subs c).reverse[i]? = some p := by
        rw [List.getElem?_reverse (by omega), ← hle]
        exact hp
      have edrop : (subs c).reverse.drop i = p :: (subs c).reverse.drop (i + 1) := by
        obtain ⟨hlt, e⟩ := List.getElem?_eq_some_iff.mp erev
        rw [List.drop_eq_getElem_cons hlt, e]
      rw [edrop] at hev
      have hev' : (ev at_ t kn p).bind (evs at_ t ((subs c).reverse.drop (i + 1))) = some [Oc.holds at_ t c] := hev
      cases e1 : ev at_ t kn p with
      | none => rw [e1] at hev'; cases hev'
      | some kn2 =>
        rw [e1] at hev'
        have hlen : ¬ kn.length < (kids p).length := by
          intro h
          unfold ev at e1
          rw [if_pos h] at e1
          cases e1
        unfold ev at e1
        rw [if_neg hlen] at e1
        obtain ⟨rs, hrs⟩ : ∃ rs, rs = kn.length - (kids p).length := ⟨_, rfl⟩
        rw [← hrs] at e1
        cases e2 : val at_ t (kn.drop rs) p with
        | none => rw [e2] at e1; cases e1
        | some vb =>
          rw [e2] at e1
          have ekn : kn2 = kn.take rs ++ [vb] := (Option.some.inj e1).symm
          subst ekn
          have h7 : ¬ 7 < tag p := by have := tag_lt p; omega
          refine ⟨_, rfl, ka, _, rfl, .inl (SqL.of hka), fun g hg => ⟨_, rfl, b, _, _, _, rfl, rfl, SqT.of hb', nv_at (i := 0) (toks_get0 p), g, _, _, _, rfl, rfl, hg _, pc_at h7, _, _, rfl, rfl, ?_⟩⟩
          have ers : (((kn.map V.bl).length : Nat) : Int) - ((pc (tag p) : Nat) : Int) = ((rs : Nat) : Int) := by
            rw [List.length_map, pc_tag]
            omega
          dsimp only
          rw [ers]
          refine ⟨_, rfl, _, rfl, _, rfl, _, rfl, ka, _, rfl, SqL.of hka, fun q1 n1 => ?_⟩
          rw [cutV_from (by rw [List.length_map]; omega), ← List.map_drop]
          have s1 : Same H' (upd H' q1 (.lst ((kn.drop rs).map V.bl))) := same_new n1
          refine ⟨_, rfl, _, rfl, .ref b, q1, aa, t, p, kn.drop rs, us, at_, vb, rfl, ⟨b, rfl, s1 b _ hb'⟩, wp, upd_same, ?_, s1 aa _ (sm aa _ haa), CsAt.stay (stayS (L2.Same.trans sm s1)) hus, hwf, e2, ?_⟩
          · rw [List.length_drop]
            omega
          refine ⟨_, rfl, _, rfl, _, rfl, ka, _, rfl, SqL.of (s1 ka _ hka), fun q2 n2 => ?_⟩
          rw [cutV_to (by rw [List.length_map]; omega), ← List.map_take]
          have sm2 : Same H (upd (upd H' q1 (.lst ((kn.drop rs).map V.bl))) q2 (.lst ((kn.take rs).map V.bl))) := sameN (L2.Same.trans sm s1) n2
          have nq2 : H q2 = none := L2.Same.free (L2.Same.trans sm s1) n2
          have ht : (kn.take rs).length ≤ i := by rw [List.length_take]; omega
          refine ⟨_, rfl, .inl ⟨rfl, _, SqL.of upd_same⟩, _, rfl, q2, _, _, rfl, rfl, upd_same, ?_, ?_⟩
          · have : (1000 : Nat) < sizeLine := by decide
            rw [List.length_map]
            omega
          refine ⟨kn.take rs ++ [vb], q2, some (.ref b), some (.int (rs : Nat)), some (.bl vb), rfl, same_upd sm2 nq2, ?_, nq2, hev', ?_⟩
          · rw [upd_same, List.map_append]
            rfl
          · rw [List.length_append]
            show _ + 1 ≤ _
            omega
    · rintro σ H' ⟨kn, ka, v4, v5, v6, rfl, sm, hka, nka, hev, hkl⟩
      have hle : ps.length = (subs c).length := Paired.length hps
      rw [List.drop_of_length_le (by rw [List.length_reverse]; omega)] at hev
      have e : kn = [Oc.holds at_ t c] := Option.some.inj hev
      subst e
      exact ⟨_, rfl, ka, _, _, _, rfl, rfl, SqL.of hka, rfl, k H' sm⟩
end
end Rh

set_option Elab.async false
set_option linter.all false
set_option maxRecDepth 100000
set_option maxHeartbeats 2000000
/-! # Rh, part G: roles -/
namespace Rh
open PySem PySem.Spec PyProof.Rows L2
open Oc05 (Under)
/-! ### pairs of roles in the heap -/
def UAt (H : Hp) (v : V) (x : Under) : Prop := ∃ b, v = .ref b ∧ H b = some (.tup [.int (x.1 : Int), .int (x.2 : Int)])
abbrev UsAt (H : Hp) : List V → List Under → Prop := Paired (UAt H)
theorem UAt.stay {H H' : Hp} {v : V} {x : Under} (s : Stay H H') (h : UAt H v x) : UAt H' v x := by
  obtain ⟨b, rfl, e⟩ := h
  exact ⟨b, rfl, s b _ e⟩
theorem UsAt.stay {H H' : Hp} {vs : List V} {cs : List Under} (s : Stay H H') (h : UsAt H vs cs) : UsAt H' vs cs := Paired.mono (fun _ _ q => UAt.stay s q) h
theorem pair_get {α β : Type} {F : α → β → Prop} : ∀ {vs : List α} {cs : List β}, Paired F vs cs → ∀ {i : Nat} {v : α}, vs[i]? = some v → ∃ c, cs[i]? = some c ∧ F v c
  | _, _, .nil, _, _, h => by simp at h
  | _, _, .cons a r, 0, v, h => by
    simp at h
    subst h
    exact ⟨_, rfl, a⟩
  | _, _, .cons a r, i + 1, v, h => by
    obtain ⟨c, e, q⟩ := pair_get r (i := i) (v := v) (by simpa using h)
    exact ⟨c, by simpa using e, q⟩
theorem pair_get' {α β : Type} {F : α → β → Prop} : ∀ {vs : List α} {cs : List β}, Paired F vs cs → ∀ {i : Nat} {c : β}, cs[i]? = some c → ∃ v, vs[i]? = some v ∧ F v c
  | _, _, .nil, _, _, h => by simp at h
  | _, _, .cons a r, 0, c, h => by
    simp at h
    subst h
    exact ⟨_, rfl, a⟩
  | _, _, .cons a r, i + 1, c, h => by
    obtain ⟨v, e, q⟩ := pair_get' r (i := i) (c := c) (by simpa using h)
    exact ⟨v, by simpa using e, q⟩
theorem in_nv (n : Nat) : ∀ l : List Nat, inV (V.int (n : Int)) (nv l) = decide (n ∈ l)
  | [] => by simp [inV, nv]
  | m :: l => by
    have ih := in_nv n l
    show (eqV (V.int (m : Int)) (V.int (n : Int)) || inV (V.int (n : Int)) (nv l)) = _
    rw [ih]
    show (((m : Int) == (n : Int)) || _) = _
    by_cases h : n = m
    · subst h; simp
    · have e : ((m : Int) == (n : Int)) = false := beq_eq_false_iff_ne.mpr (by omega)
      rw [e]
      simp [h]
theorem nv_snoc (l : List Nat) (n : Nat) : nv (l ++ [n]) = nv l ++ [V.int (n : Int)] := by unfold nv; rw [List.map_append]; rfl
theorem four_len {l : List Nat} (n : l.Nodup) (h : ∀ s ∈ l, s < 4) : l.length ≤ 4 := by
  have := n.length_le_of_subset (l₂ := Oc05.ALL) fun s hs => mem_ALL.mpr (h s hs)
  exact this
section
variable {P : Program} {w : World} {K : PySem.W.Frag} {mg : Str → Option Value} {base : Heap} {CK CH : Addr}
/-! ### turned -/
/- turned: slots 0 role -/
abbrev s_turned : Stmt := top 23
abbrev N_turned : List Str := ["role"]
theorem sc_turned : FnScope N_turned ["role"] (defScope s_turned) := ⟨rfl, rfl, rfl, by decide +kernel, rfl, by decide +kernel, by decide +kernel⟩
def spTurned : Sp := fun vs H Q _ => ∃ r : Nat, vs = [.int (r : Int)] ∧ r < 4 ∧ Q (.int (Oc05.turned r : Nat)) H
theorem ok_turned {f : Addr} {fd : FuncData} (F : Fun K "turned" "turned" s_turned f fd) (T : Txt K mg CK CH) : FnOk P w K mg base CX0 1 f fd ["role"] spTurned := by
  refine F.ok sc_turned (fun vs H Q E h => ?_) (fun cdv A outer s H vs Q E hr h => ⟨_, (pss_one (ps_ret (pe_op op_mod (pe_op op_add (pv 0) (pe_gi rfl T.g_FORWARD_ROLE_COUNT)) (pe_gi rfl T.g_ROLE_COUNT)))), ?_⟩)
  · obtain ⟨r, rfl, _⟩ := h
    rfl
  · obtain ⟨r, rfl, hr4, q⟩ := h
    refine ⟨_, rfl, _, _, rfl, rfl, _, _, rfl, rfl, (by show (0 : Int) < 4; decide), ?_⟩
    have e : ((r : Int) + 2) % 4 = ((Oc05.turned r : Nat) : Int) := by
      rw [tr_eq hr4]
      unfold tr
      omega
    show Q (.int (((r : Int) + 2) % 4)) H
    rw [e]
    exact q
/-! ### roles_over -/
/- roles_over: slots 0 role, 1 pairs, 2 found, 3 place, 4 lower, 5 upper -/
abbrev s_roles_over : Stmt := top 24
abbrev N_roles_over : List Str := ["role", "pairs", "found", "place", "lower", "upper"]
theorem sc_roles_over : FnScope N_roles_over ["role", "pairs"] (defScope s_roles_over) := ⟨rfl, rfl, rfl, by decide +kernel, rfl, by decide +kernel, by decide +kernel⟩
def spRolesOver : Sp := fun vs H Q _ => ∃ (r : Nat) (pa : Addr) (us : List V) (h : List Under), vs = [.int (r : Int), .ref pa] ∧ r < 4 ∧ H pa = some (.lst us) ∧ UsAt H us (pairs h) ∧ low h ∧
  ∀ (H' : Hp) (D : Addr), Same H H' → H D = none → H' D = some (.lst (nv (Oc05.ups h r))) → Q (.ref D) H'
/-- what's found so far, from r -/
structure Fnd (h : List Under) (r : Nat) (found : List Nat) (p : Nat) : Prop where
  nd : found.Nodup
  here : r ∈ found
  rch : ∀ s ∈ found, Rch h r s
  shut : ∀ s t, s ∈ found.take p → (s, t) ∈ pairs h → t ∈ found
  le : p ≤ found.length
theorem Fnd.len {h : List Under} {r : Nat} {found : List Nat} {p : Nat} (F : Fnd h r found p) (l : low h) (hr : r < 4) : found.length ≤ 4 := four_len F.nd fun s hs => (F.rch s hs).lt l hr
theorem ok_roles_over {f : Addr} {fd : FuncData} (F : Fun K "roles_over" "roles_over" s_roles_over f fd) (T : Txt K mg CK CH) : FnOk P w K mg base CX0 1 f fd ["role", "pairs"] spRolesOver := by
  refine F.ok sc_roles_over (fun vs H Q E h => ?_) (fun cdv A outer s H vs Q E hr h => ⟨_, (pss_cons (ps_set (i := 2) sc_roles_over.nd rfl (by first | exact .inl rfl | exact .inr rfl) (pe_lst (pa_cons (pv 0) pa_nil)))
    (pss_cons (ps_set (i := 3) sc_roles_over.nd rfl (by first | exact .inl rfl | exact .inr rfl) pe_int)
    (pss_cons (ps_while PassesOwn.never (pt_cmpR op_lt (pv 3) (pe_callB call_len_seq (by rfl) T.b_len (by decide +kernel) (pa_cons (pv 2) pa_nil)) (nomark _)) (pss_cons (ps_for PassesOwn.never rfl (pi_list (pv 1)) (pg_tup rfl (pgs_cons (pg_name (i := 4) sc_roles_over.nd rfl (by first | exact .inl rfl | exact .inr rfl)) (pgs_cons (pg_name (i := 5) sc_roles_over.nd rfl (by first | exact .inl rfl | exact .inr rfl)) pgs_nil))) (pss_one (ps_if (PW.pt (pw_and (pt_cmpR op_eq (pv 4) (pe_ix ix_list (pv 2) (pv 3) (fun _ _ => rfl)) (nomark _)) (pw_and1 (pt_cmpR op_notIn_seq (pv 5) (pv 2) rfl)))) (pss_one (ps_expr (pe_bm PySem.F.plainAttrs_list PySem.F.slot_list_append PySem.F.type_list_append mt_append (pv 2) (pa_cons (pv 5) pa_nil)))) pss_nil)))
    (pss_one (ps_aug (i := 3) sc_roles_over.nd rfl (by first | exact .inl rfl | exact .inr rfl) pe_int ip_add))))
    (pss_one (ps_ret (pe_callB cr_sorted (by rfl) T.b_sorted (by decide +kernel) (pa_cons (pv 2) pa_nil))))))), ?_⟩)
  · obtain ⟨r, pa, us, h, rfl, _⟩ := h
    rfl
  · obtain ⟨r, pa, us, h, rfl, hr4, hpa, hus, lo, k⟩ := h
    refine ⟨_, rfl, by show 1 ≤ sizeLine; decide, fun D hD => ?_⟩
    refine ⟨fun m σ H' => ∃ (p : Nat) (found : List Nat) (v4 v5 : Option V), m = 4 - p ∧ σ = [some (.int (r : Int)), some (.ref pa), some (.ref D), some (.int (p : Int)), v4, v5] ∧ Same H H' ∧ H' D = some (.lst (nv found)) ∧ Fnd h r found p,
      ⟨_, 0, [r], none, none, rfl, rfl, same_new hD, upd_same, ⟨by simp, by simp, fun s hs => by simp at hs; subst hs; exact .here, fun s t hs => by simp at hs, Nat.zero_le _⟩⟩, ?_⟩
    rintro m σ H' ⟨p, found, v4, v5, rfl, rfl, sm, hD', FN⟩
    refine ⟨_, rfl, _, rfl, D, _, rfl, .inl (SqL.of hD'), _, _, rfl, rfl, _, rfl, ?_⟩
    rw [nv_len]
    by_cases hlt : (p : Int) < (found.length : Int)
    · refine dT hlt ⟨_, fun _ _ z => z, ?_⟩
      obtain ⟨s0, hs0⟩ : ∃ x, found[p]? = some x := ⟨found[p]'(by omega), List.getElem?_eq_getElem (by omega)⟩
      have hpD : pa ≠ D := ne_of_none hpa hD
      refine ⟨_, rfl, pa, rfl, ⟨_, SqL.of (sm pa _ hpa)⟩, for_list (K := K) (a := pa) (xs := us) (fun j σ H3 => ∃ (ext : List Nat) (v4 v5 : Option V), σ = [some (.int (r : Int)), some (.ref pa), some (.ref D), some (.int (p : Int)), v4, v5] ∧ Same H H3 ∧ H3 D = some (.lst (nv (found ++ ext))) ∧ Fnd h r (found ++ ext) p ∧
        ∀ t, (s0, t) ∈ (pairs h).take j → t ∈ found ++ ext) ⟨[], v4, v5, rfl, sm, by rw [List.append_nil]; exact hD', by rw [List.append_nil]; exact FN, fun t ht => by simp at ht⟩ (fun j σ H3 _ ⟨_, _, _, _, s3, _⟩ => SqL.of (s3 pa _ hpa)) ?_ ?_⟩
      · rintro j y σ H3 hy ⟨ext, v4', v5', rfl, sm3, hD3, FN3, hsh⟩
        obtain ⟨x, hx, b, rfl, hb⟩ := pair_get hus hy
        have hx4 := low_pairs lo x (List.mem_of_getElem? hx)
        have hb3 := sm3 b _ hb
        have etake := take_snoc hx
        refine ⟨b, _, rfl, SqT.of hb3, rfl, _, _, rfl, _, _, rfl, rfl, ?_⟩
        have hs3 : (found ++ ext)[p]? = some s0 := by rw [List.getElem?_append_left (by omega)]; exact hs0
        refine ⟨_, rfl, _, rfl, _, rfl, D, _, _, _, rfl, rfl, SqL.of hD3, nv_at hs3, rfl, _, rfl, ?_⟩
        have next : ∀ t, (s0, t) ∈ (pairs h).take (j + 1) → (s0, t) ∈ (pairs h).take j ∨ (x.1 = s0 ∧ x.2 = t) := by
          intro t ht
          rw [etake] at ht
          rcases List.mem_append.mp ht with g | g
          · exact .inl g
          · simp at g
            exact .inr ⟨by rw [← g], by rw [← g]⟩
        by_cases he : x.1 = s0
        · refine bT (decide_eq_true (by rw [he])) ?_
          refine ⟨_, rfl, _, rfl, D, _, rfl, .inl (SqL.of hD3), rfl, flat_nv _, _, rfl, ?_⟩
          rw [if_pos rfl, in_nv]
          by_cases hin : x.2 ∈ found ++ ext
          · refine bF (by rw [decide_eq_true hin]; rfl) ?_
            refine ⟨ext, _, _, rfl, sm3, hD3, FN3, fun t ht => ?_⟩
            rcases next t ht with g | g
            · exact hsh t g
            · rw [← g.2]; exact hin
          · refine bT (by rw [decide_eq_false hin]; rfl) ?_
            have hlen := FN3.len lo hr4
            refine ⟨_, rfl, .inl ⟨rfl, _, SqL.of hD3⟩, _, rfl, D, _, _, rfl, rfl, hD3, ?_, ?_⟩
            · rw [nv_len]
              exact Nat.lt_of_le_of_lt hlen (by decide)
            refine ⟨ext ++ [x.2], _, _, rfl, same_upd sm3 hD, ?_, ⟨?_, ?_, ?_, ?_, ?_⟩, ?_⟩
            · rw [upd_same, ← List.append_assoc, nv_snoc]
            · rw [← List.append_assoc, List.nodup_append]
              refine ⟨FN3.nd, by simp, ?_⟩
              intro a ha b hb e
              simp at hb
              subst hb
              subst e
              exact hin ha
            · rw [← List.append_assoc]
              exact List.mem_append_left _ FN3.here
            · intro s hs
              rw [← List.append_assoc] at hs
              rcases List.mem_append.mp hs with g | g
              · exact FN3.rch s g
              · simp at g
                subst g
                refine .more (FN3.rch x.1 ?_) (List.mem_of_getElem? hx)
                rw [he]
                exact List.mem_of_getElem? hs3
            · intro s t hs ht
              rw [← List.append_assoc, List.take_append_of_le_length FN3.le] at hs
              rw [← List.append_assoc]
              exact List.mem_append_left _ (FN3.shut s t hs ht)
            · have := FN3.le
              rw [← List.append_assoc, List.length_append]
              omega
            · intro t ht
              rw [← List.append_assoc]
              rcases next t ht with g | g
              · exact List.mem_append_left _ (hsh t g)
              · rw [← g.2]; simp
        · refine bF (decide_eq_false (fun e => he (by have := V.int.inj e; omega))) ?_
          refine bF rfl ?_
          refine ⟨ext, _, _, rfl, sm3, hD3, FN3, fun t ht => ?_⟩
          rcases next t ht with g | g
          · exact hsh t g
          · exact absurd g.1 he
      · rintro σ H3 ⟨ext, v4', v5', rfl, sm3, hD3, FN3, hsh⟩
        have el : us.length = (pairs h).length := Paired.length hus
        rw [el, List.take_length] at hsh
        refine ⟨_, rfl, _, _, rfl, rfl, ?_⟩
        have hlen := FN3.len lo hr4
        rw [List.length_append] at hlen
        refine ⟨4 - (p + 1), by omega, p + 1, found ++ ext, v4', v5', rfl, rfl, sm3, hD3, ⟨FN3.nd, FN3.here, FN3.rch, ?_, by rw [List.length_append]; omega⟩⟩
        intro s t hs ht
        have hs3 : (found ++ ext)[p]? = some s0 := by rw [List.getElem?_append_left (by omega)]; exact hs0
        rw [take_snoc hs3] at hs
        rcases List.mem_append.mp hs with g | g
        · exact FN3.shut s t g ht
        · simp at g
          subst g
          exact hsh t ht
    · refine dF hlt ?_
      have ep : p = found.length := by have := FN.le; omega
      have hlen := FN.len lo hr4
      refine ⟨_, rfl, D, found.map fun (n : Nat) => (n : Int), rfl, ?_, by rw [List.length_map]; omega, fun ns q pm so nq => ?_⟩
      · rw [List.map_map]
        exact SqL.of hD'
      · have e := found_ups lo hr4 FN.nd FN.here FN.rch (fun s t hs ht => FN.shut s t (by rw [ep, List.take_length]; exact hs) ht) pm so
        subst e
        refine k _ q (sameN sm nq) (L2.Same.free sm nq) ?_
        rw [upd_same, List.map_map]
        rfl
/-! ### all_roles_over -/
/-- for each role the list of those that it is under -/
def OvAt (H : Hp) (h : List Under) (v : V) (r : Nat) : Prop := ∃ b, v = .ref b ∧ H b = some (.lst (nv (Oc05.ups h r)))
abbrev OversAt (H : Hp) (h : List Under) (D : Addr) : Prop := ∃ vs, H D = some (.lst vs) ∧ Paired (OvAt H h) vs [0, 1, 2, 3]
/- all_roles_over: slots 0 told, 1 pairs, 2 lower, 3 upper, 4 role -/
abbrev s_all_roles_over : Stmt := top 25
abbrev N_all_roles_over : List Str := ["told", "pairs", "lower", "upper", "role"]
theorem sc_all_roles_over : FnScope N_all_roles_over ["told"] (defScope s_all_roles_over) := ⟨rfl, rfl, rfl, by decide +kernel, rfl, by decide +kernel, by decide +kernel⟩
def spAllOver : Sp := fun vs H Q _ => ∃ (ta : Addr) (us : List V) (h : List Under), vs = [.ref ta] ∧ H ta = some (.lst us) ∧ UsAt H us h ∧ low h ∧ h.length ≤ 100 ∧
  ∀ (H' : Hp) (D : Addr), Same H H' → H D = none → OversAt H' h D → Q (.ref D) H'
theorem OvAt.same {H H' : Hp} {h : List Under} {v : V} {r : Nat} (q : OvAt H h v r) (s : ∀ b xs, H b = some (.lst xs) → H' b = some (.lst xs)) : OvAt H' h v r := by
  obtain ⟨b, rfl, e⟩ := q
  exact ⟨b, rfl, s b _ e⟩
theorem ok_all_over {f : Addr} {fd : FuncData} (F : Fun K "all_roles_over" "all_roles_over" s_all_roles_over f fd) (T : Txt K mg CK CH) (D_turned : Df P w K mg base "turned" 1 ["role"] spTurned) (D_roles_over : Df P w K mg base "roles_over" 1 ["role", "pairs"] spRolesOver) :
    FnOk P w K mg base CX0 2 f fd ["told"] spAllOver := by
  refine F.ok sc_all_roles_over (fun vs H Q E h => ?_) (fun cdv A outer s H vs Q E hr h => ⟨_, (pss_cons (ps_set (i := 1) sc_all_roles_over.nd rfl (by first | exact .inl rfl | exact .inr rfl) (pe_callTy call_list_of (by rfl) T.b_list (by decide +kernel) (pa_cons (pv 0) pa_nil)))
    (pss_cons (ps_for PassesOwn.never rfl (pi_list (pv 0)) (pg_tup rfl (pgs_cons (pg_name (i := 2) sc_all_roles_over.nd rfl (by first | exact .inl rfl | exact .inr rfl)) (pgs_cons (pg_name (i := 3) sc_all_roles_over.nd rfl (by first | exact .inl rfl | exact .inr rfl)) pgs_nil))) (pss_one (ps_expr (pe_bm PySem.F.plainAttrs_list PySem.F.slot_list_append PySem.F.type_list_append mt_append (pv 1) (pa_cons (pe_tup (pa_cons (pe_callD D_turned (rm hr) rfl (pa_cons (pv 2) pa_nil)) (pa_cons (pe_callD D_turned (rm hr) rfl (pa_cons (pv 3) pa_nil)) pa_nil))) pa_nil)))))
    (pss_one (ps_ret (pe_lc (own := [("role", 4)]) (g := (gName 4)) (tt := tYes) rfl sc_all_roles_over.nd (pi_range1 (by rfl) T.b_range (pa_cons (pe_gi rfl T.g_ROLE_COUNT) pa_nil)) (blkOk_by (own := [("role", 4)]) (N := N_all_roles_over) (sc := defScope s_all_roles_over) (by decide +kernel)) (fun _ _ _ _ _ => (pg_name (i := 4) sc_all_roles_over.nd rfl (by first | exact .inl rfl | exact .inr rfl))) (fun _ _ _ _ _ => pts_nil) (fun _ _ _ _ _ => (pe_callD D_roles_over (rm hr) rfl (pa_cons (pv 4) (pa_cons (pv 1) pa_nil))))))))), ?_⟩)
  · obtain ⟨ta, us, h, rfl, _⟩ := h
    rfl
  · obtain ⟨ta, us, h, rfl, hta, hus, lo, hlen, k⟩ := h
    refine ⟨_, rfl, ta, us, rfl, .inl (SqL.of hta), fun B hB => ?_⟩
    have eul : us.length = h.length := Paired.length hus
    have nBt : ta ≠ B := ne_of_none hta hB
    refine ⟨_, rfl, ta, rfl, ⟨_, SqL.of (same_new hB ta _ hta)⟩, for_list (K := K) (a := ta) (xs := us) (fun i σ H' => ∃ (v2 v3 : Option V) (ws : List V), σ = [some (.ref ta), some (.ref B), v2, v3, none] ∧ Same H H' ∧ H' B = some (.lst (us ++ ws)) ∧ ws.length = i ∧
      Paired (UAt H') ws ((h.take i).map fun x => (Oc05.turned x.1, Oc05.turned x.2))) ⟨none, none, [], rfl, same_new hB, by rw [upd_same, List.append_nil], rfl, .nil⟩ (fun i σ H' _ ⟨_, _, _, _, sm, _⟩ => SqL.of (sm ta _ hta)) ?_ ?_⟩
    · rintro i y σ H' hy ⟨v2, v3, ws, rfl, sm, hB', hwl, hws⟩
      obtain ⟨x, hx, b, rfl, hb⟩ := pair_get hus hy
      have hx4 := lo x (List.mem_of_getElem? hx)
      have hi : i < us.length := (List.getElem?_eq_some_iff.mp hy).1
      refine ⟨b, _, rfl, SqT.of (sm b _ hb), rfl, _, _, rfl, _, _, rfl, rfl, ?_⟩
      refine ⟨_, rfl, .inl ⟨rfl, _, SqL.of hB'⟩, _, rfl, x.1, rfl, hx4.1, _, rfl, x.2, rfl, hx4.2, by show 2 ≤ sizeLine; decide, fun t nt => ?_⟩
      have nt2 : B ≠ t := ne_of_none hB' nt
      have hBt : upd H' t (.tup [.int (Oc05.turned x.1 : Nat), .int (Oc05.turned x.2 : Nat)]) B = some (.lst (us ++ ws)) := by rw [upd_ne nt2]; exact hB'
      refine ⟨B, _, _, rfl, rfl, hBt, ?_, ?_⟩
      · rw [List.length_append]
        have : (1000 : Nat) < sizeLine := by decide
        omega
      refine ⟨_, _, ws ++ [.ref t], rfl, same_upd (sameN sm nt) hB, ?_, by rw [List.length_append, hwl]; rfl, ?_⟩
      · rw [upd_same, List.append_assoc]
      · rw [take_snoc hx, List.map_append]
        refine Paired.snoc (UsAt.stay ((stay_new nt).trans (stay_lst hBt)) hws) ⟨t, rfl, ?_⟩
        rw [upd_ne nt2.symm, upd_same]
    · rintro σ H' ⟨v2, v3, ws, rfl, sm, hB', hwl, hws⟩
      rw [eul, List.take_length] at hws
      have hall : UsAt H' (us ++ ws) (pairs h) := by
        have g : ∀ {a b : List V} {c d : List Under}, Paired (UAt H') a c → Paired (UAt H') b d → Paired (UAt H') (a ++ b) (c ++ d) := by
          intro a b c d p q
          induction p with
          | nil => exact q
          | cons x r ih => exact .cons x ih
        exact g (UsAt.stay (stayS sm) hus) hws
      refine ⟨4, rfl, by decide, by decide, fun D nD => ?_⟩
      have nBD : B ≠ D := ne_of_none hB' nD
      refine lc_range (n := 4) (fun i H3 => ∃ vs, Same H H3 ∧ H3 D = some (.lst vs) ∧ H3 B = some (.lst (us ++ ws)) ∧ UsAt H3 (us ++ ws) (pairs h) ∧ Paired (fun v r => v ≠ .ref D ∧ OvAt H3 h v r) vs (([0, 1, 2, 3] : List Nat).take i)) ?_ ?_ ?_
      · exact ⟨[], sameN sm nD, upd_same, by rw [upd_ne nBD]; exact hB', UsAt.stay (stay_new nD) hall, .nil⟩
      · rintro i H3 hi ⟨vs, sm3, hD3, hB3, hall3, hov⟩
        have hi4 : ([0, 1, 2, 3] : List Nat)[i]? = some i := by
          have c : i = 0 ∨ i = 1 ∨ i = 2 ∨ i = 3 := by omega
          rcases c with rfl | rfl | rfl | rfl <;> rfl
        refine ⟨rfl, _, rfl, _, rfl, i, B, us ++ ws, h, ?_, hi, hB3, hall3, lo, fun H4 L s4 nL hL => ?_⟩
        · show [V.int (0 + (i : Int)), V.ref B] = _
          rw [Int.zero_add]
        · have hD4 := s4 D _ hD3
          have nLD : L ≠ D := fun e => by rw [e, hD3] at nL; cases nL
          have hvl : vs.length = i := by
            have g := Paired.length hov
            rw [g, List.length_take]
            show min i 4 = i
            omega
          refine ⟨vs, hD4, ?_, vs ++ [.ref L], same_upd (L2.Same.trans sm3 s4) (L2.Same.free sm nD), upd_same, ?_, ?_, ?_⟩
          · have : (1000 : Nat) < sizeLine := by decide
            omega
          · rw [upd_ne nBD]
            exact s4 B _ hB3
          · exact UsAt.stay ((stayS s4).trans (stay_lst hD4)) hall3
          · rw [take_snoc hi4]
            refine Paired.snoc (Paired.mono (fun v r q => ?_) hov) ⟨fun e => nLD (V.ref.inj e), L, rfl, by rw [upd_ne nLD]; exact hL⟩
            obtain ⟨g, b, rfl, hb⟩ := q
            exact ⟨g, b, rfl, by rw [upd_ne (fun e => g (by rw [e]))]; exact s4 b _ hb⟩
      · rintro H3 ⟨vs, sm3, hD3, hB3, hall3, hov⟩
        exact k H3 D sm3 (L2.Same.free sm nD) ⟨vs, hD3, Paired.mono (fun _ _ q => q.2) hov⟩
end
end Rh

set_option Elab.async false
set_option linter.all false
set_option maxRecDepth 100000
set_option maxHeartbeats 2000000
/-! # Rh, part H: kinds -/
namespace Rh
open PySem PySem.Spec PyProof.Rows L2
open Oc05 (Under)
section
variable {P : Program} {w : World} {K : PySem.W.Frag} {mg : Str → Option Value} {base : Heap} {CK CH : Addr}
theorem lst_get {α : Type} {l : List α} {f : α → V} {i : Nat} {v : V} (h : (l.map f)[i]? = some v) : ∃ x, l[i]? = some x ∧ v = f x := by
  rw [List.getElem?_map, Option.map_eq_some_iff] at h
  exact h.imp fun x q => ⟨q.1, q.2.symm⟩
/-! ### bits_of -/
/- bits_of: slots 0 flags, 1 place, 2 flag -/
abbrev s_bits_of : Stmt := top 27
abbrev N_bits_of : List Str := ["flags", "place", "flag"]
theorem sc_bits_of : FnScope N_bits_of ["flags"] (defScope s_bits_of) := ⟨rfl, rfl, rfl, by decide +kernel, rfl, by decide +kernel, by decide +kernel⟩
def spBits : Sp := fun vs H Q _ => ∃ (fa : Addr) (bs : List Bool), vs = [.ref fa] ∧ H fa = some (.lst (bs.map V.bl)) ∧ bs.length ≤ 1000 ∧ ∀ H', Same H H' → Q (.int (bl bs : Nat)) H'
theorem ok_bits {f : Addr} {fd : FuncData} (F : Fun K "bits_of" "bits_of" s_bits_of f fd) (T : Txt K mg CK CH) : FnOk P w K mg base CX0 1 f fd ["flags"] spBits := by
  refine F.ok sc_bits_of (fun vs H Q E h => ?_) (fun cdv A outer s H vs Q E hr h => ⟨_, (pss_one (ps_ret (pe_callB (cr_sum rfl) (by rfl) T.b_sum (by decide +kernel) (pa_cons (pe_lc (own := [("place", 1), ("flag", 2)]) (g := (gTup K 2 (gCons (gName 1) (gCons (gName 2) gNil)))) rfl sc_bits_of.nd (pi_enum (by rfl) T.b_enumerate (pa_cons (pv 0) pa_nil)) (blkOk_by (own := [("place", 1), ("flag", 2)]) (N := N_bits_of) (sc := defScope s_bits_of) (by decide +kernel)) (fun _ _ _ _ _ => (pg_tup rfl (pgs_cons (pg_name (i := 1) sc_bits_of.nd rfl (by first | exact .inl rfl | exact .inr rfl)) (pgs_cons (pg_name (i := 2) sc_bits_of.nd rfl (by first | exact .inl rfl | exact .inr rfl)) pgs_nil)))) (fun _ _ _ _ _ => (pts_one (pt_val (pv 2)))) (fun _ _ _ _ _ => (pe_op op_shl pe_int (pv 1)))) pa_nil)))), ?_⟩)
  · obtain ⟨fa, bs, rfl, _⟩ := h
    rfl
  · obtain ⟨fa, bs, rfl, hfa, hlen, k⟩ := h
    refine ⟨_, rfl, fa, _, rfl, SqL.of hfa, fun D nD => ?_⟩
    have nDf : fa ≠ D := ne_of_none hfa nD
    refine lc_it (walk_enum (K := K) (a := fa) (xs := bs.map V.bl)) (fun i H' => Same H H' ∧ H' D = some (.lst ((ones 0 (bs.take i)).map V.int))) ⟨same_new nD, upd_same⟩ (fun i H' _ q => SqL.of (q.1 fa _ hfa)) ?_ ?_
    · rintro i x H0 H' hi ⟨sm, hD⟩ ⟨t, x1, x2, rfl, nt, rfl, e1, e2⟩
      cases e1
      obtain ⟨b, hb, rfl⟩ := lst_get e2
      have ntD : D ≠ t := ne_of_none hD nt
      have hD1 : upd H0 t (.tup [.int (i : Nat), .bl b]) D = some (.lst ((ones 0 (bs.take i)).map V.int)) := by rw [upd_ne ntD]; exact hD
      refine ⟨t, _, rfl, SqT.of upd_same, rfl, _, _, rfl, _, _, rfl, rfl, rfl, _, rfl, b, rfl, ?_⟩
      have eo := ones_more (bs.take i) 0 b
      rw [← take_snoc hb, List.length_take, show min i bs.length = i by rw [List.length_map] at hi; omega, Nat.zero_add] at eo
      have ol := ones_len (bs.take i) 0
      rw [List.length_take] at ol
      cases b with
      | true =>
        refine iteT ⟨_, rfl, _, _, rfl, rfl, ⟨by omega, by rw [List.length_map] at hi; omega, by decide⟩, _, hD1, ?_, same_upd (sameN sm nt) nD, ?_⟩
        · rw [List.length_map]
          have : (1000 : Nat) < sizeLine := by decide
          omega
        · rw [upd_same, eo, if_pos rfl, List.map_append]
          show some (HO.lst (_ ++ [V.int (1 * 2 ^ ((i : Nat) : Int).toNat)])) = _
          rw [Int.one_mul, Int.toNat_natCast]
          rfl
      | false =>
        refine iteF ⟨sameN sm nt, ?_⟩
        rw [hD1, eo, if_neg (by decide), List.append_nil]
    · rintro H' ⟨sm, hD⟩
      rw [List.length_map, List.take_length] at hD
      refine ⟨D, _, rfl, SqL.of hD, ?_⟩
      rw [ones_sum, Nat.pow_zero, Nat.one_mul]
      exact k H' sm
/-! ### what a thing of Kinds is -/
theorem atoms_in : ∀ {c d e : Oc.C}, e ∈ subs d → d ∈ subs c → e ∈ subs c
  | .top, d, e, h1, h2 => by simp [subs] at h2; subst h2; exact h1
  | .bot, d, e, h1, h2 => by simp [subs] at h2; subst h2; exact h1
  | .name a, d, e, h1, h2 => by simp [subs] at h2; subst h2; exact h1
  | .and a b, d, e, h1, h2 => by
    simp only [subs, List.mem_cons, List.mem_append] at h2 ⊢
    rcases h2 with q | q | q
    · subst q
      simpa only [subs, List.mem_cons, List.mem_append] using h1
    · exact .inr (.inl (atoms_in h1 q))
    · exact .inr (.inr (atoms_in h1 q))
  | .or a b, d, e, h1, h2 => by
    simp only [subs, List.mem_cons, List.mem_append] at h2 ⊢
    rcases h2 with q | q | q
    · subst q
      simpa only [subs, List.mem_cons, List.mem_append] using h1
    · exact .inr (.inl (atoms_in h1 q))
    · exact .inr (.inr (atoms_in h1 q))
  | .not a, d, e, h1, h2 => by
    simp only [subs, List.mem_cons] at h2 ⊢
    rcases h2 with q | q
    · subst q
      simpa only [subs, List.mem_cons] using h1
    · exact .inr (atoms_in h1 q)
  | .some r a, d, e, h1, h2 => by
    simp only [subs, List.mem_cons] at h2 ⊢
    rcases h2 with q | q
    · subst q
      simpa only [subs, List.mem_cons] using h1
    · exact .inr (atoms_in h1 q)
  | .all r a, d, e, h1, h2 => by
    simp only [subs, List.mem_cons] at h2 ⊢
    rcases h2 with q | q
    · subst q
      simpa only [subs, List.mem_cons] using h1
    · exact .inr (atoms_in h1 q)
theorem toks_sub : ∀ {c d : Oc.C}, d ∈ subs c → (toks d).length ≤ (toks c).length
  | .top, d, h => by simp [subs] at h; subst h; exact Nat.le_refl _
  | .bot, d, h => by simp [subs] at h; subst h; exact Nat.le_refl _
  | .name a, d, h => by simp [subs] at h; subst h; exact Nat.le_refl _
  | .and a b, d, h => by
    simp only [subs, List.mem_cons, List.mem_append] at h
    rcases h with q | q | q
    · subst q; exact Nat.le_refl _
    · have := toks_sub q; simp only [toks, List.length_cons, List.length_append]; omega
    · have := toks_sub q; simp only [toks, List.length_cons, List.length_append]; omega
  | .or a b, d, h => by
    simp only [subs, List.mem_cons, List.mem_append] at h
    rcases h with q | q | q
    · subst q; exact Nat.le_refl _
    · have := toks_sub q; simp only [toks, List.length_cons, List.length_append]; omega
    · have := toks_sub q; simp only [toks, List.length_cons, List.length_append]; omega
  | .not a, d, h => by
    simp only [subs, List.mem_cons] at h
    rcases h with q | q
    · subst q; exact Nat.le_refl _
    · have := toks_sub q; simp only [toks, List.length_cons]; omega
  | .some r a, d, h => by
    simp only [subs, List.mem_cons] at h
    rcases h with q | q
    · subst q; exact Nat.le_refl _
    · have := toks_sub q; simp only [toks, List.length_cons]; omega
  | .all r a, d, h => by
    simp only [subs, List.mem_cons] at h
    rcases h with q | q
    · subst q; exact Nat.le_refl _
    · have := toks_sub q; simp only [toks, List.length_cons]; omega
/-- atoms, each once, with all that are in them, and few -/
structure Atoms (at_ : List Oc.C) : Prop where
  ats : Ats at_
  wfs : ∀ c ∈ at_, wf c = true ∧ (toks c).length ≤ 100
  few : at_.length ≤ 5
  full : ∀ c ∈ at_, ∀ d ∈ c.atoms, d ∈ at_
def kMeths : List Str := ["bits_by_role", "all_shown_bits", "truths", "owed_bits", "lets", "fits", "owed_places", "bearer", "borne_out", "keeping", "largest_borne_out", "having", "steps", "names_sum", "allows", "name_under"]
/-- a thing of Kinds with its atoms and all kinds -/
structure KB (CK : Addr) (H : Hp) (x dx : Addr) (fs : List (Str × V)) (at_ : List Oc.C) : Prop where
  ins : H x = some (.ins CK dx fs)
  no : ∀ m ∈ kMeths, fs.lookup m = none
  atoms : ∃ (aa : Addr) (us : List V), fs.lookup ("atoms" : Str) = some (.ref aa) ∧ H aa = some (.lst us) ∧ CsAt H us at_
  kinds : ∃ ea : Addr, fs.lookup ("every_kind" : Str) = some (.ref ea) ∧ H ea = some (.lst (nv (List.range (2 ^ at_.length))))
theorem KB.same {H H' : Hp} {x dx : Addr} {fs : List (Str × V)} {at_ : List Oc.C} (B : KB CK H x dx fs at_) (s : Same H H') : KB CK H' x dx fs at_ := by
  obtain ⟨aa, us, h1, h2, h3⟩ := B.atoms
  obtain ⟨ea, g1, g2⟩ := B.kinds
  exact ⟨s x _ B.ins, B.no, ⟨aa, us, h1, s aa _ h2, CsAt.stay (stayS s) h3⟩, ⟨ea, g1, s ea _ g2⟩⟩
theorem in_se (n : Nat) : inV (V.int (n : Int)) [V.int 6, V.int 7] = decide (n = 6 ∨ n = 7) := by
  have e := in_nv n [6, 7]
  have e2 : nv [6, 7] = [V.int 6, V.int 7] := rfl
  rw [e2] at e
  rw [e]
  simp
theorem pow5 {n : Nat} (h : n ≤ 5) : 2 ^ n ≤ 32 := by
  have := Nat.pow_le_pow_right (show 0 < 2 by decide) h
  exact this
/-! ### bits_by_role -/
/- Kinds.bits_by_role: slots 0 self, 1 role, 2 atom -/
abbrev s_Kinds_bits_by_role : Stmt := inClass (top 28) 1
abbrev N_Kinds_bits_by_role : List Str := ["self", "role", "atom"]
theorem sc_Kinds_bits_by_role : FnScope N_Kinds_bits_by_role ["self", "role"] (defScope s_Kinds_bits_by_role) := ⟨rfl, rfl, rfl, by decide +kernel, rfl, by decide +kernel, by decide +kernel⟩
def spByRole (CK : Addr) : Sp := fun vs H Q _ => ∃ (x dx : Addr) (fs : List (Str × V)) (at_ : List Oc.C) (r : Nat), vs = [.ref x, .int (r : Int)] ∧ KB CK H x dx fs at_ ∧ Atoms at_ ∧ ∀ H', Same H H' → Q (.int (roleB at_ r : Nat)) H'
theorem toks_get1 {c : Oc.C} (h : tag c = 6 ∨ tag c = 7) : (toks c)[1]? = some (roleOf c) := by
  cases c <;> first | rfl | (simp [tag] at h)
theorem ok_by_role {f : Addr} {fd : FuncData} (F : Fun K "bits_by_role" "Kinds.bits_by_role" s_Kinds_bits_by_role f fd) (T : Txt K mg CK CH) (D_bits_of : Df P w K mg base "bits_of" 1 ["flags"] spBits) : FnOk P w K mg base CX0 2 f fd ["self", "role"] (spByRole CK) := by
  refine F.ok sc_Kinds_bits_by_role (fun vs H Q E h => ?_) (fun cdv A outer s H vs Q E hr h => ⟨_, (pss_one (ps_ret (pe_callD D_bits_of (rm hr) rfl (pa_cons (pe_lc (own := [("atom", 2)]) (g := (gName 2)) (tt := tYes) rfl sc_Kinds_bits_by_role.nd (pi_list (pe_fld (pv 0) rfl)) (blkOk_by (own := [("atom", 2)]) (N := N_Kinds_bits_by_role) (sc := defScope s_Kinds_bits_by_role) (by decide +kernel)) (fun _ _ _ _ _ => (pg_name (i := 2) sc_Kinds_bits_by_role.nd rfl (by first | exact .inl rfl | exact .inr rfl))) (fun _ _ _ _ _ => pts_nil) (fun _ _ _ _ _ => (pe_and (pe_cmpR (op_in_seqK (K := K) rfl) (pe_ix (ix_tupK (K := K) rfl) (pv 2) pe_int (fun _ _ => rfl)) (pe_tup (pa_cons (pe_gi rfl T.g_SOME) (pa_cons (pe_gi rfl T.g_EACH) pa_nil))) rfl) (pe_one (pe_cmpR op_eq (pe_ix (ix_tupK (K := K) rfl) (pv 2) pe_int (fun _ _ => rfl)) (pv 1) (nomark _)))))) pa_nil)))), ?_⟩)
  · obtain ⟨x, dx, fs, at_, r, rfl, _⟩ := h
    rfl
  · obtain ⟨x, dx, fs, at_, r, rfl, B, AT, k⟩ := h
    obtain ⟨aa, us, h1, h2, h3⟩ := B.atoms
    refine ⟨_, rfl, x, CK, dx, fs, _, rfl, B.ins, T.cl_Kinds, T.nk_atoms, h1, aa, rfl, ⟨_, SqL.of h2⟩, fun D nD => ?_⟩
    have hul : us.length = at_.length := Paired.length h3
    refine lc_list (K := K) (a := aa) (xs := us) (fun i H' => Same H H' ∧ H' D = some (.lst (((at_.take i).map (byRole r)).map V.bl))) ⟨same_new nD, upd_same⟩ (fun i H' _ q => SqL.of (q.1 aa _ h2)) ?_ ?_
    · rintro i v H' hv ⟨sm, hD⟩
      obtain ⟨c, hc, b, rfl, hb⟩ := CsAt.get h3 hv
      have hb' := sm b _ hb
      have hlt : i < us.length := (List.getElem?_eq_some_iff.mp hv).1
      have few := AT.few
      have hsz : (((at_.take i).map (byRole r)).map V.bl).length < sizeLine := by
        rw [List.length_map, List.length_map, List.length_take]
        have : (1000 : Nat) < sizeLine := by decide
        omega
      refine ⟨rfl, _, rfl, b, _, _, _, rfl, rfl, SqT.of hb', nv_at (i := 0) (toks_get0 c), by show 2 ≤ sizeLine; decide, fun t nt => ⟨t, _, rfl, .inr (SqT.of upd_same), rfl, rfl, _, congrArg V.bl (in_se (tag c)), ?_⟩⟩
      have ntD : D ≠ t := ne_of_none hD nt
      have e : ∀ y, (byRole r c = y) → (some (HO.lst ((((at_.take i).map (byRole r)).map V.bl) ++ [V.bl y])) : Option HO) = some (HO.lst (((at_.take (i + 1)).map (byRole r)).map V.bl)) := by
        intro y hy
        rw [take_snoc hc, List.map_append, List.map_append, ← hy]
        rfl
      by_cases hq : tag c = 6 ∨ tag c = 7
      · refine bT (decide_eq_true hq) ?_
        refine ⟨_, rfl, b, _, _, _, rfl, rfl, SqT.of (by rw [upd_ne (ne_of_none hb' nt)]; exact hb'), nv_at (i := 1) (toks_get1 hq), _, rfl, rfl, _, by rw [upd_ne ntD]; exact hD, hsz, same_upd (sameN sm nt) nD, ?_⟩
        rw [upd_same]
        refine e _ ?_
        have : byRole r c = (roleOf c == r) := by
          cases c <;> first | rfl | (simp [tag] at hq)
        rw [this]
        by_cases hr' : roleOf c = r
        · rw [hr']
          simp
        · rw [decide_eq_false (fun q => hr' (by have := V.int.inj q; omega))]
          exact beq_eq_false_iff_ne.mpr hr'
      · refine bF (decide_eq_false hq) ?_
        refine ⟨_, by rw [upd_ne ntD]; exact hD, hsz, same_upd (sameN sm nt) nD, ?_⟩
        rw [upd_same]
        refine e _ ?_
        cases c <;> first | rfl | (simp [tag] at hq)
    · rintro H' ⟨sm, hD⟩
      rw [hul, List.take_length] at hD
      refine ⟨D, _, rfl, hD, by rw [List.length_map]; have := AT.few; omega, fun H2 s2 => k H2 (L2.Same.trans sm s2)⟩
/-! ### truths -/
def hold (at_ : List Oc.C) (c : Oc.C) : List Bool := (List.range (2 ^ at_.length)).map fun t => Oc.holds at_ t c
/- Kinds.truths: slots 0 self, 1 concept, 2 parts, 3 kind -/
abbrev s_Kinds_truths : Stmt := inClass (top 28) 3
abbrev N_Kinds_truths : List Str := ["self", "concept", "parts", "kind"]
theorem sc_Kinds_truths : FnScope N_Kinds_truths ["self", "concept"] (defScope s_Kinds_truths) := ⟨rfl, rfl, rfl, by decide +kernel, rfl, by decide +kernel, by decide +kernel⟩
def spTruths (CK : Addr) : Sp := fun vs H Q _ => ∃ (x dx : Addr) (fs : List (Str × V)) (at_ : List Oc.C) (v : V) (c : Oc.C), vs = [.ref x, v] ∧ KB CK H x dx fs at_ ∧ Atoms at_ ∧ CAt H v c ∧ wf c = true ∧ (toks c).length ≤ 1000 ∧ (∀ d ∈ c.atoms, d ∈ at_) ∧
  ∀ (H' : Hp) (D : Addr), Same H H' → H D = none → H' D = some (.lst ((hold at_ c).map V.bl)) → Q (.ref D) H'
theorem range_get {n i : Nat} (h : i < n) : (List.range n)[i]? = some i := by rw [List.getElem?_range h]
theorem ok_truths {f : Addr} {fd : FuncData} (F : Fun K "truths" "Kinds.truths" s_Kinds_truths f fd) (T : Txt K mg CK CH) (D_parts_of : Df P w K mg base "parts_of" 3 ["concept"] spParts) (D_holds : Df P w K mg base "holds" 3 ["parts", "atoms", "kind"] spHolds) : FnOk P w K mg base CX0 4 f fd ["self", "concept"] (spTruths CK) := by
  refine F.ok sc_Kinds_truths (fun vs H Q E h => ?_) (fun cdv A outer s H vs Q E hr h => ⟨_, (pss_cons (ps_set (i := 2) sc_Kinds_truths.nd rfl (by first | exact .inl rfl | exact .inr rfl) (pe_callD D_parts_of (rm hr) rfl (pa_cons (pv 1) pa_nil)))
    (pss_one (ps_ret (pe_lc (own := [("kind", 3)]) (g := (gName 3)) (tt := tYes) rfl sc_Kinds_truths.nd (pi_list (pe_fld (pv 0) rfl)) (blkOk_by (own := [("kind", 3)]) (N := N_Kinds_truths) (sc := defScope s_Kinds_truths) (by decide +kernel)) (fun _ _ _ _ _ => (pg_name (i := 3) sc_Kinds_truths.nd rfl (by first | exact .inl rfl | exact .inr rfl))) (fun _ _ _ _ _ => pts_nil) (fun _ _ _ _ _ => (pe_callD D_holds (rm hr) rfl (pa_cons (pv 2) (pa_cons (pe_fldK (K := K) rfl (pv 0) rfl) (pa_cons (pv 3) pa_nil))))))))), ?_⟩)
  · obtain ⟨x, dx, fs, at_, v, c, rfl, _⟩ := h
    rfl
  · obtain ⟨x, dx, fs, at_, v, c, rfl, B, AT, cat, wc, hsz, hin, k⟩ := h
    refine ⟨_, rfl, v, c, rfl, cat, wc, hsz, fun H1 pa ps s1 npa hpa hps => ?_⟩
    have B1 := B.same s1
    obtain ⟨aa, us, h1, h2, h3⟩ := B1.atoms
    obtain ⟨ea, g1, g2⟩ := B1.kinds
    refine ⟨_, rfl, x, CK, dx, fs, _, rfl, B1.ins, T.cl_Kinds, T.nk_every_kind, g1, ea, rfl, ⟨_, SqL.of g2⟩, fun D nD => ?_⟩
    have p5 := pow5 AT.few
    refine lc_list (K := K) (a := ea) (xs := nv (List.range (2 ^ at_.length))) (fun i H' => Same H1 H' ∧ H' D = some (.lst (((List.range i).map fun t => Oc.holds at_ t c).map V.bl))) ⟨same_new nD, upd_same⟩ (fun i H' _ q => SqL.of (q.1 ea _ g2)) ?_ ?_
    · rintro i y H' hy ⟨sm, hD⟩
      obtain ⟨t, ht, rfl⟩ := lst_get hy
      have hi : i < 2 ^ at_.length := by
        have := (List.getElem?_eq_some_iff.mp ht).1
        simpa using this
      rw [range_get hi] at ht
      cases ht
      have B2 := B1.same sm
      refine ⟨rfl, _, rfl, _, rfl, x, CK, dx, fs, _, rfl, B2.ins, T.cl_Kinds, T.nk_atoms, h1, _, rfl, pa, aa, i, c, ps, us, at_, rfl, sm pa _ hpa, CsAt.stay (stayS sm) hps, wc, Nat.le_trans (subs_length_le c) hsz, sm aa _ h2, CsAt.stay (stayS sm) h3, fun d hd => (AT.wfs d hd).1, hin, fun H3 s3 => ?_⟩
      refine ⟨_, s3 D _ hD, ?_, same_upd (L2.Same.trans sm s3) nD, ?_⟩
      · rw [List.length_map, List.length_map, List.length_range]
        have : (1000 : Nat) < sizeLine := by decide
        omega
      · rw [upd_same, List.range_succ, List.map_append, List.map_append]
        rfl
    · rintro H' ⟨sm, hD⟩
      rw [nv_len, List.length_range] at hD
      exact k H' D (L2.Same.trans s1 sm) (L2.Same.free s1 nD) hD
/-! ### all_shown_bits -/
section
variable {X : Cx}
theorem get_list : PGet X (rIxL X.K) := by
  rintro pins sh st Hp0 ob ix vo vi QQ inv rob rix ⟨ad, els, pos, got, rfl, rfl, sq, hat, fin⟩
  cases rob
  rcases rix with ⟨tok, rfl⟩
  rcases inv.list sq with ⟨vals, rel, plain, size⟩
  rcases atI_get hat with ⟨at0, a1, a2, a3, a4, a5⟩
  rcases rel.get a2 with ⟨val, eval0, rval⟩
  have len := rel.length
  have most := line63
  by_cases nn : 0 ≤ pos
  · rw [seqIndex_of nn a5] at a1
    have e0 : pos.toNat = at0 := Option.some.inj a1
    refine wpAny_getItem_list plain.isList nn (by omega) ?_ ⟨got, Hp0, inv, rval, fin⟩
    rw [e0]
    simpa using eval0
  · rw [seqIndex_neg (by omega) a4] at a1
    have e0 : (pos + (vals.toArray.size : Int)).toNat = at0 := by rw [List.size_toArray, ← len]; exact Option.some.inj a1
    refine wpAny_getItem_list_neg plain.isList (by omega) (by rw [List.size_toArray] <;> omega) (by omega) ?_ ⟨got, Hp0, inv, rval, fin⟩
    rw [e0]
    simpa using eval0
theorem ip_or : PIp X .BitOr (ipI fun i j => Builtin.bitOr i j) := by
  rintro pins sh st Hp0 a b va vb QQ inv ra rb ⟨i, j, rfl, rfl, fin⟩
  rcases ra with ⟨ta, rfl⟩
  rcases rb with ⟨tb, rfl⟩
  exact ior_int ⟨.int _, Hp0, inv.tok _, ⟨_, rfl⟩, fin⟩
end
/-- what the first atoms show of a kind -/
def shT (at_ : List Oc.C) (i u : Nat) : Nat := bl ((at_.take i).map (shows at_ u))
theorem shT_zero (at_ : List Oc.C) (u : Nat) : shT at_ 0 u = 0 := rfl
theorem shT_all (at_ : List Oc.C) (u : Nat) : shT at_ at_.length u = shownB at_ u := by unfold shT shownB; rw [List.take_length]
theorem shT_succ {at_ : List Oc.C} {i : Nat} {c : Oc.C} (h : at_[i]? = some c) (u : Nat) : shT at_ (i + 1) u = shT at_ i u + (if shows at_ u c then 2 ^ i else 0) := by
  unfold shT
  have hl := (List.getElem?_eq_some_iff.mp h).1
  rw [take_snoc h, List.map_append, List.map_singleton, bl_more, List.length_map, List.length_take, show min i at_.length = i by omega]
theorem shT_lt {at_ : List Oc.C} {i : Nat} (h : i ≤ at_.length) (u : Nat) : shT at_ i u < 2 ^ i := by
  unfold shT
  have := bl_lt ((at_.take i).map (shows at_ u))
  rwa [List.length_map, List.length_take, show min i at_.length = i by omega] at this
def shL (at_ : List Oc.C) (i j : Nat) : List Nat := (List.range (2 ^ at_.length)).map fun u => if u < j then shT at_ (i + 1) u else shT at_ i u
theorem shL_zero (at_ : List Oc.C) (i : Nat) : shL at_ i 0 = (List.range (2 ^ at_.length)).map (shT at_ i) := by
  unfold shL
  exact List.map_congr_left fun u _ => if_neg (by omega)
theorem shL_all (at_ : List Oc.C) (i : Nat) : shL at_ i (2 ^ at_.length) = (List.range (2 ^ at_.length)).map (shT at_ (i + 1)) := by
  unfold shL
  exact List.map_congr_left fun u hu => if_pos (List.mem_range.mp hu)
theorem shL_len (at_ : List Oc.C) (i j : Nat) : (shL at_ i j).length = 2 ^ at_.length := by unfold shL; rw [List.length_map, List.length_range]
theorem shL_get {at_ : List Oc.C} {i j : Nat} (h : j < 2 ^ at_.length) : (shL at_ i j)[j]? = some (shT at_ i j) := by
  unfold shL
  rw [List.getElem?_map, List.getElem?_range h]
  show some (if j < j then _ else _) = _
  rw [if_neg (by omega)]
theorem shL_set {at_ : List Oc.C} {i j : Nat} (h : j < 2 ^ at_.length) : (shL at_ i j).set j (shT at_ (i + 1) j) = shL at_ i (j + 1) := by
  refine List.ext_getElem? fun m => ?_
  unfold shL
  by_cases e : j = m
  · subst e
    rw [List.getElem?_set_self (by simpa using h), List.getElem?_map, List.getElem?_range h]
    show _ = some (if j < j + 1 then _ else _)
    rw [if_pos (by omega)]
  · rw [List.getElem?_set_ne e, List.getElem?_map, List.getElem?_map]
    by_cases hm : m < 2 ^ at_.length
    · rw [List.getElem?_range hm]
      show some (if m < j then _ else _) = some (if m < j + 1 then _ else _)
      by_cases g : m < j
      · rw [if_pos g, if_pos (by omega)]
      · rw [if_neg g, if_neg (by omega)]
    · rw [List.getElem?_eq_none (by simpa using hm)]
      rfl
theorem shL_keep {at_ : List Oc.C} {i j : Nat} (e : shT at_ (i + 1) j = shT at_ i j) : shL at_ i j = shL at_ i (j + 1) := by
  unfold shL
  refine List.map_congr_left fun u _ => ?_
  by_cases g : u < j
  · rw [if_pos g, if_pos (by omega)]
  · rw [if_neg g]
    by_cases g2 : u = j
    · subst g2
      rw [if_pos (by omega), e]
    · rw [if_neg (by omega)]
theorem nv_set (l : List Nat) (j n : Nat) : (nv l).set j (V.int (n : Int)) = nv (l.set j n) := by unfold nv; rw [List.map_set]
theorem slTup_from {K : PySem.W.Frag} {σ : L2.St} {H : Hp} {i : Nat} {n : Int} {b : Addr} {xs : List V} {Q : VK} (hσ : σ[i]? = some (some (.ref b))) (h : H b = some (.tup xs)) (q : ∀ (t : Addr) (H' : Hp), Same H H' → H' t = some (.tup (cutV xs (some n) none)) → Q (.ref t) H') :
    tSl (rSlA K) (tVar i) (tPart (tC (.int n))) tNoPart σ H Q := by
  refine ⟨_, hσ, n, rfl, ?_⟩
  exact slA_of h q
def inner : Oc.C → Oc.C
  | .some _ c => c
  | .all _ c => c
  | c => c
theorem toks_inner {c : Oc.C} (h : tag c = 6 ∨ tag c = 7) : (toks c).drop 2 = toks (inner c) ∧ 2 ≤ (toks c).length := by
  cases c <;> first | exact ⟨rfl, by simp [toks]⟩ | (simp [tag] at h)
theorem wf_inner {c : Oc.C} (h : tag c = 6 ∨ tag c = 7) (w : wf c = true) : wf (inner c) = true := by
  cases c <;> first | (simp [tag] at h; done) | (simp [wf] at w; exact w.2)
theorem atoms_inner {c d : Oc.C} (h : tag c = 6 ∨ tag c = 7) (q : d ∈ (inner c).atoms) : d ∈ c.atoms := by
  cases c <;> first | (simp [tag] at h; done) | exact List.mem_cons_of_mem _ q
theorem shows_inner {at_ : List Oc.C} {c : Oc.C} (h : tag c = 6 ∨ tag c = 7) (u : Nat) : shows at_ u c = decide (V.bl (Oc.holds at_ u (inner c)) = V.bl (decide (V.int ((tag c : Nat) : Int) = V.int 6))) := by
  cases c with
  | some r e =>
    show Oc.holds at_ u e = decide (V.bl (Oc.holds at_ u e) = V.bl true)
    cases Oc.holds at_ u e <;> rfl
  | all r e =>
    show (!Oc.holds at_ u e) = decide (V.bl (Oc.holds at_ u e) = V.bl false)
    cases Oc.holds at_ u e <;> rfl
  | _ => simp [tag] at h
theorem shows_name {at_ : List Oc.C} {c : Oc.C} (h : ¬ (tag c = 6 ∨ tag c = 7)) (u : Nat) : shows at_ u c = false := by
  cases c <;> first | rfl | (simp [tag] at h)
theorem ixN_nat {n k : Nat} (h : k < n) : ixN n (k : Int) = some k := by
  unfold ixN
  rw [if_pos (by omega), if_pos (by omega), Int.toNat_natCast]
/- Kinds.all_shown_bits: slots 0 self, 1 shown, 2 kind, 3 place, 4 atom, 5 value -/
abbrev s_Kinds_all_shown_bits : Stmt := inClass (top 28) 2
abbrev N_Kinds_all_shown_bits : List Str := ["self", "shown", "kind", "place", "atom", "value"]
theorem sc_Kinds_all_shown_bits : FnScope N_Kinds_all_shown_bits ["self"] (defScope s_Kinds_all_shown_bits) := ⟨rfl, rfl, rfl, by decide +kernel, rfl, by decide +kernel, by decide +kernel⟩
def spShown (CK : Addr) : Sp := fun vs H Q _ => ∃ (x dx : Addr) (fs : List (Str × V)) (at_ : List Oc.C), vs = [.ref x] ∧ KB CK H x dx fs at_ ∧ Atoms at_ ∧
  ∀ (H' : Hp) (D : Addr), Same H H' → H D = none → H' D = some (.lst (nv ((List.range (2 ^ at_.length)).map (shownB at_)))) → Q (.ref D) H'
theorem ok_shown {f : Addr} {fd : FuncData} (F : Fun K "all_shown_bits" "Kinds.all_shown_bits" s_Kinds_all_shown_bits f fd) (T : Txt K mg CK CH) (D_Kinds_truths : Mt P w K mg base CK "truths" 4 ["self", "concept"] (spTruths CK)) : FnOk P w K mg base CX0 5 f fd ["self"] (spShown CK) := by
  refine F.ok sc_Kinds_all_shown_bits (fun vs H Q E h => ?_) (fun cdv A outer s H vs Q E hr h => ⟨_, (pss_cons (ps_setLc (i := 1) (own := [("kind", 2)]) (g := (gName 2)) (tt := tYes) rfl sc_Kinds_all_shown_bits.nd rfl rfl (sw_true rfl rfl rfl (by decide +kernel)) (pi_list (pe_fld (pv 0) rfl)) (blkOk_by (own := [("kind", 2)]) (N := N_Kinds_all_shown_bits) (sc := defScope s_Kinds_all_shown_bits) (by decide +kernel)) (fun _ _ _ _ _ => (pg_name (i := 2) sc_Kinds_all_shown_bits.nd rfl (by first | exact .inl rfl | exact .inr rfl))) (fun _ _ _ _ _ => pts_nil) (fun _ _ _ _ _ => pe_int))
    (pss_cons (ps_for PassesOwn.never rfl (pi_enum (by rfl) T.b_enumerate (pa_cons (pe_fld (pv 0) rfl) pa_nil)) (pg_tup rfl (pgs_cons (pg_name (i := 3) sc_Kinds_all_shown_bits.nd rfl (by first | exact .inl rfl | exact .inr rfl)) (pgs_cons (pg_name (i := 4) sc_Kinds_all_shown_bits.nd rfl (by first | exact .inl rfl | exact .inr rfl)) pgs_nil))) (pss_one (ps_if (pt_cmpR op_in_seq (pe_ix ix_tup (pv 4) pe_int (fun _ _ => rfl)) (pe_tup (pa_cons (pe_gi rfl T.g_SOME) (pa_cons (pe_gi rfl T.g_EACH) pa_nil))) rfl) (pss_one (ps_for PassesOwn.never rfl (pi_enum (by rfl) T.b_enumerate (pa_cons (pe_methD (pv 0) T.cl_Kinds D_Kinds_truths (rm hr) (pa_cons (pe_slice sl_tupA (pv 4) (po_some pe_int) po_none) pa_nil)) pa_nil)) (pg_tup rfl (pgs_cons (pg_name (i := 2) sc_Kinds_all_shown_bits.nd rfl (by first | exact .inl rfl | exact .inr rfl)) (pgs_cons (pg_name (i := 5) sc_Kinds_all_shown_bits.nd rfl (by first | exact .inl rfl | exact .inr rfl)) pgs_nil))) (pss_one (ps_if (pt_cmpR op_eq (pv 5) (pe_cmpR op_eq (pe_ix ix_tup (pv 4) pe_int (fun _ _ => rfl)) (pe_gi rfl T.g_SOME) (nomark _)) (nomark _)) (pss_one (ps_augS (pv 1) (pv 2) get_list (pe_op op_shl pe_int (pv 3)) ip_or set_list)) pss_nil)))) pss_nil)))
    (pss_one (ps_ret (pv 1))))), ?_⟩)
  · obtain ⟨x, dx, fs, at_, rfl, _⟩ := h
    rfl
  · obtain ⟨x, dx, fs, at_, rfl, B, AT, k⟩ := h
    obtain ⟨aa, us, h1, h2, h3⟩ := B.atoms
    obtain ⟨ea, g1, g2⟩ := B.kinds
    have p5 := pow5 AT.few
    have hul : us.length = at_.length := Paired.length h3
    refine ⟨_, rfl, x, CK, dx, fs, _, rfl, B.ins, T.cl_Kinds, T.nk_every_kind, g1, ea, rfl, ⟨_, SqL.of g2⟩, fun D nD => ?_⟩
    refine lc_list (K := K) (a := ea) (xs := nv (List.range (2 ^ at_.length))) (fun i H' => Same H H' ∧ H' D = some (.lst (nv ((List.range i).map fun _ => 0)))) ⟨same_new nD, upd_same⟩ (fun i H' _ q => SqL.of (q.1 ea _ g2)) ?_ ?_
    · rintro i y H' hy ⟨sm, hD⟩
      have hi := (List.getElem?_eq_some_iff.mp hy).1
      rw [nv_len, List.length_range] at hi
      refine ⟨rfl, _, hD, ?_, same_upd sm nD, ?_⟩
      · rw [nv_len, List.length_map, List.length_range]
        have : (1000 : Nat) < sizeLine := by decide
        omega
      · rw [upd_same, List.range_succ, List.map_append, List.map_singleton, nv_snoc]
        rfl
    · rintro H' ⟨sm, hD⟩
      rw [nv_len, List.length_range] at hD
      have B1 := B.same sm
      refine ⟨_, rfl, x, CK, dx, fs, _, rfl, B1.ins, T.cl_Kinds, T.nk_atoms, h1, aa, us, rfl, SqL.of (sm aa _ h2), ?_⟩
      refine for_it (walk_enum (K := K) (a := aa) (xs := us)) (fun i σ H3 => ∃ (v2 v3 v4 v5 : Option V), σ = [some (.ref x), some (.ref D), v2, v3, v4, v5] ∧ Same H H3 ∧ H3 D = some (.lst (nv ((List.range (2 ^ at_.length)).map (shT at_ i))))) ⟨_, _, _, _, rfl, sm, hD⟩ (fun i σ H3 _ ⟨_, _, _, _, _, sm3, _⟩ => SqL.of (sm3 aa _ h2)) ?_ ?_
      · rintro i v σ H0 H3 hi ⟨v2, v3, v4, v5, rfl, sm0, hD0⟩ ⟨tp, x1, x2, rfl, ntp, rfl, e1, e2⟩
        cases e1
        obtain ⟨c, hc, b, rfl, hb⟩ := CsAt.get h3 e2
        have hil : i < at_.length := by omega
        have okc := AT.wfs c (List.mem_of_getElem? hc)
        have few := AT.few
        have ntD : D ≠ tp := ne_of_none hD0 ntp
        refine ⟨tp, _, rfl, SqT.of upd_same, rfl, _, _, rfl, _, _, rfl, rfl, ?_⟩
        have sm1 : Same H (upd H0 tp (.tup [.int (i : Nat), .ref b])) := sameN sm0 ntp
        have hD1 : upd H0 tp (.tup [.int (i : Nat), .ref b]) D = some (.lst (nv ((List.range (2 ^ at_.length)).map (shT at_ i)))) := by rw [upd_ne ntD]; exact hD0
        generalize upd H0 tp (.tup [.int (i : Nat), .ref b]) = H1 at *
        refine ⟨_, rfl, b, _, _, _, rfl, rfl, SqT.of (sm1 b _ hb), nv_at (i := 0) (toks_get0 c), by show 2 ≤ sizeLine; decide, fun t nt => ⟨t, _, rfl, .inr (SqT.of upd_same), rfl, rfl, _, congrArg V.bl (in_se (tag c)), ?_⟩⟩
        have ntD2 : D ≠ t := ne_of_none hD1 nt
        have sm2 : Same H (upd H1 t (.tup [.int 6, .int 7])) := sameN sm1 nt
        have hD2 : upd H1 t (.tup [.int 6, .int 7]) D = some (.lst (nv ((List.range (2 ^ at_.length)).map (shT at_ i)))) := by rw [upd_ne ntD2]; exact hD1
        generalize upd H1 t (.tup [.int 6, .int 7]) = H2 at *
        by_cases hq : tag c = 6 ∨ tag c = 7
        · refine bT (decide_eq_true hq) ?_
          obtain ⟨ti, tl⟩ := toks_inner hq
          refine ⟨_, rfl, x, dx, fs, rfl, (B.same sm2).ins, B.no _ (by decide), slTup_from rfl (sm2 b _ hb) fun t3 H4 s4 ht3 => ?_⟩
          have ec : cutV (nv (toks c)) (some 2) none = nv (toks (inner c)) := (cutV_from (i := 2) (by rw [nv_len]; exact tl)).trans (by rw [nv_drop, ti])
          rw [ec] at ht3
          have sm4 := L2.Same.trans sm2 s4
          refine ⟨x, dx, fs, at_, .ref t3, inner c, rfl, B.same sm4, AT, ⟨t3, rfl, ht3⟩, wf_inner hq okc.1, ?_, fun d hd => AT.full c (List.mem_of_getElem? hc) d (atoms_inner hq hd), fun H5 L s5 nL hL => ?_⟩
          · rw [← ti, List.length_drop]
            omega
          have sm5 := L2.Same.trans sm4 s5
          have hD5 := s5 D _ (s4 D _ hD2)
          have nLD : D ≠ L := ne_of_none (s4 D _ hD2) nL
          refine ⟨L, _, rfl, SqL.of hL, ?_⟩
          refine for_it (walk_enum (K := K) (a := L) (xs := (hold at_ (inner c)).map V.bl)) (fun j σ H6 => ∃ (v2 v5 : Option V), σ = [some (.ref x), some (.ref D), v2, some (.int (i : Nat)), some (.ref b), v5] ∧ Same H H6 ∧ H6 L = some (.lst ((hold at_ (inner c)).map V.bl)) ∧ H6 D = some (.lst (nv (shL at_ i j))))
            ⟨_, _, rfl, sm5, hL, by rw [shL_zero]; exact hD5⟩ (fun j σ H6 _ ⟨_, _, _, _, q, _⟩ => SqL.of q) ?_ ?_
          · rintro j v σ H60 H6 hj ⟨v2', v5', rfl, sm6, hL6, hD6⟩ ⟨tq, y1, y2, rfl, ntq, rfl, e1, e2⟩
            cases e1
            obtain ⟨val, hval, rfl⟩ := lst_get e2
            have hj2 : j < 2 ^ at_.length := by
              have g := hj
              unfold hold at g
              rw [List.length_map, List.length_map, List.length_range] at g
              exact g
            have hvv : val = Oc.holds at_ j (inner c) := by
              unfold hold at hval
              rw [List.getElem?_map, List.getElem?_range hj2] at hval
              exact (Option.some.inj hval).symm
            subst hvv
            have nqD : D ≠ tq := ne_of_none hD6 ntq
            have nqL : L ≠ tq := ne_of_none hL6 ntq
            refine ⟨tq, _, rfl, SqT.of upd_same, rfl, _, _, rfl, _, _, rfl, rfl, ?_⟩
            have sm7 := sameN (o := .tup [.int (j : Nat), .bl (Oc.holds at_ j (inner c))]) sm6 ntq
            have hD7 : upd H60 tq (.tup [.int (j : Nat), .bl (Oc.holds at_ j (inner c))]) D = some (.lst (nv (shL at_ i j))) := by rw [upd_ne nqD]; exact hD6
            have hL7 : upd H60 tq (.tup [.int (j : Nat), .bl (Oc.holds at_ j (inner c))]) L = some (.lst ((hold at_ (inner c)).map V.bl)) := by rw [upd_ne nqL]; exact hL6
            generalize upd H60 tq (.tup [.int (j : Nat), .bl (Oc.holds at_ j (inner c))]) = H7 at *
            refine ⟨_, rfl, _, rfl, b, _, _, _, rfl, rfl, SqT.of (sm7 b _ hb), nv_at (i := 0) (toks_get0 c), rfl, rfl, _, congrArg V.bl (shows_inner (at_ := at_) hq j).symm, ?_⟩
            have esucc := shT_succ hc j
            by_cases hs : shows at_ j c = true
            · refine bT hs ?_
              rw [if_pos hs] at esucc
              have hlt := shT_lt (at_ := at_) (i := i) (by omega) j
              refine ⟨_, rfl, _, rfl, D, _, _, _, rfl, rfl, SqL.of hD7, nv_at (shL_get hj2), _, rfl, _, _, rfl, rfl, ⟨by omega, by omega, by decide⟩, _, _, rfl, rfl, D, _, _, j, rfl, rfl, hD7, ?_, ?_⟩
              · rw [nv_len, shL_len]
                exact ixN_nat hj2
              · refine ⟨_, _, rfl, same_upd sm7 nD, by rw [upd_ne nLD.symm]; exact hL7, ?_⟩
                rw [upd_same]
                have ez : Builtin.bitOr ((shT at_ i j : Nat) : Int) (1 * 2 ^ ((i : Nat) : Int).toNat) = ((shT at_ (i + 1) j : Nat) : Int) := by
                  rw [Int.toNat_natCast, Bits.bitOr_join (by omega) (by exact_mod_cast hlt) (by omega), esucc]
                  push_cast
                  omega
                show some (HO.lst ((nv (shL at_ i j)).set j (V.int (Builtin.bitOr ((shT at_ i j : Nat) : Int) (1 * 2 ^ ((i : Nat) : Int).toNat))))) = _
                rw [ez, nv_set, shL_set hj2]
            · have hs' : shows at_ j c = false := by simpa using hs
              refine bF hs' ⟨_, _, rfl, sm7, hL7, ?_⟩
              rw [hs', if_neg (by decide), Nat.add_zero] at esucc
              rw [← shL_keep esucc]
              exact hD7
          · rintro σ H6 ⟨v2', v5', rfl, sm6, hL6, hD6⟩
            refine ⟨_, _, _, _, rfl, sm6, ?_⟩
            have e : ((hold at_ (inner c)).map V.bl).length = 2 ^ at_.length := by
              unfold hold
              rw [List.length_map, List.length_map, List.length_range]
            rw [e, shL_all] at hD6
            exact hD6
        · refine bF (decide_eq_false hq) ⟨_, _, _, _, rfl, sm2, ?_⟩
          rw [hD2]
          refine congrArg (fun l => some (HO.lst (nv l))) (List.map_congr_left fun u _ => ?_)
          rw [shT_succ hc u, shows_name hq u, if_neg (by decide), Nat.add_zero]
      · rintro σ H3 ⟨v2, v3, v4, v5, rfl, sm3, hD3⟩
        refine ⟨_, rfl, k H3 D sm3 nD ?_⟩
        rw [hD3, hul]
        exact congrArg (fun l => some (HO.lst (nv l))) (List.map_congr_left fun u _ => shT_all at_ u)
end
end Rh

set_option Elab.async false
set_option linter.all false
set_option maxRecDepth 100000
set_option maxHeartbeats 2000000
/-! # Rh, part I: kinds: what fits, what can be there -/
namespace Rh
open PySem PySem.Spec PyProof.Rows L2
open Oc05 (Under)
section
variable {P : Program} {w : World} {K : PySem.W.Frag} {mg : Str → Option Value} {base : Heap} {CK CH : Addr}
/-- a thing of Kinds as its __init__ leaves it -/
structure KF (H : Hp) (fs : List (Str × V)) (at_ : List Oc.C) (h : List Under) : Prop where
  some_ : fs.lookup ("some_bits" : Str) = some (.int (someB at_ : Nat))
  each_ : fs.lookup ("each_bits" : Str) = some (.int (eachB at_ : Nat))
  role_ : ∃ ra : Addr, fs.lookup ("role_bits" : Str) = some (.ref ra) ∧ H ra = some (.lst (nv (([0, 1, 2, 3] : List Nat).map (roleB at_))))
  shown_ : ∃ sa : Addr, fs.lookup ("shown_bits" : Str) = some (.ref sa) ∧ H sa = some (.lst (nv ((List.range (2 ^ at_.length)).map (shownB at_))))
  over_ : ∃ (oa : Addr) (vs : List V), fs.lookup ("over" : Str) = some (.ref oa) ∧ H oa = some (.lst vs) ∧ Paired (OvAt H h) vs [0, 1, 2, 3]
theorem KF.same {H H' : Hp} {fs : List (Str × V)} {at_ : List Oc.C} {h : List Under} (B : KF H fs at_ h) (s : Same H H') : KF H' fs at_ h := by
  obtain ⟨ra, r1, r2⟩ := B.role_
  obtain ⟨sa, s1, s2⟩ := B.shown_
  obtain ⟨oa, vs, o1, o2, o3⟩ := B.over_
  exact ⟨B.some_, B.each_, ⟨ra, r1, s ra _ r2⟩, ⟨sa, s1, s sa _ s2⟩, ⟨oa, vs, o1, s oa _ o2, Paired.mono (fun _ _ q => q.same fun b xs e => s b _ e) o3⟩⟩
/-- the whole thing, and what's known of its atoms and roles -/
structure KO (CK : Addr) (H : Hp) (x : Addr) (at_ : List Oc.C) (h : List Under) : Prop where
  ex : ∃ (dx : Addr) (fs : List (Str × V)), KB CK H x dx fs at_ ∧ KF H fs at_ h
  at_ok : Atoms at_
  lo : low h
theorem KO.same {H H' : Hp} {x : Addr} {at_ : List Oc.C} {h : List Under} (B : KO CK H x at_ h) (s : Same H H') : KO CK H' x at_ h := by
  obtain ⟨dx, fs, b, f⟩ := B.ex
  exact ⟨⟨dx, fs, b.same s, f.same s⟩, B.at_ok, B.lo⟩
/-! ### owed_bits -/
theorem owed_val (at_ : List Oc.C) (t : Nat) : Builtin.bitOr (Builtin.bitAnd (t : Int) ((someB at_ : Nat) : Int)) (Builtin.bitAnd (Builtin.bitNot (t : Int)) ((eachB at_ : Nat) : Int)) = ((owedB at_ t : Nat) : Int) := by
  have e1 : Builtin.bitAnd (t : Int) ((someB at_ : Nat) : Int) = ((t &&& someB at_ : Nat) : Int) := by
    rw [bitAnd_pp (by omega) (by omega), Int.toNat_natCast, Int.toNat_natCast]
  have nn : Builtin.bitNot (Builtin.bitNot (t : Int)) = (t : Int) := by
    show -(-(t : Int) - 1) - 1 = _
    omega
  have e2 : Builtin.bitAnd (Builtin.bitNot (t : Int)) ((eachB at_ : Nat) : Int) = ((eachB at_ - (eachB at_ &&& t) : Nat) : Int) := by
    have hle : (eachB at_ &&& t) ≤ eachB at_ := Nat.and_le_left
    rw [bitAnd_np (by show ¬ 0 ≤ -(t : Int) - 1; omega) (by omega), nn, Int.toNat_natCast, Int.toNat_natCast]
    omega
  rw [e1, e2, Bits.bitOr_pp (by omega) (by omega), Int.toNat_natCast, Int.toNat_natCast]
  rfl
/- Kinds.owed_bits: slots 0 self, 1 kind -/
abbrev s_Kinds_owed_bits : Stmt := inClass (top 28) 4
abbrev N_Kinds_owed_bits : List Str := ["self", "kind"]
theorem sc_Kinds_owed_bits : FnScope N_Kinds_owed_bits ["self", "kind"] (defScope s_Kinds_owed_bits) := ⟨rfl, rfl, rfl, by decide +kernel, rfl, by decide +kernel, by decide +kernel⟩
def spOwed (CK : Addr) : Sp := fun vs H Q _ => ∃ (x : Addr) (at_ : List Oc.C) (h : List Under) (t : Nat), vs = [.ref x, .int (t : Int)] ∧ KO CK H x at_ h ∧ Q (.int (owedB at_ t : Nat)) H
theorem ok_owed {f : Addr} {fd : FuncData} (F : Fun K "owed_bits" "Kinds.owed_bits" s_Kinds_owed_bits f fd) (T : Txt K mg CK CH) : FnOk P w K mg base CX0 1 f fd ["self", "kind"] (spOwed CK) := by
  refine F.ok sc_Kinds_owed_bits (fun vs H Q E h => ?_) (fun cdv A outer s H vs Q E hr h => ⟨_, (pss_one (ps_ret (pe_op op_or (pe_op op_and (pv 1) (pe_fld (pv 0) rfl)) (pe_op op_and (pe_un un_inv (pv 1)) (pe_fld (pv 0) rfl))))), ?_⟩)
  · obtain ⟨x, at_, h, t, rfl, _⟩ := h
    rfl
  · obtain ⟨x, at_, h, t, rfl, O, q⟩ := h
    obtain ⟨dx, fs, B, FF⟩ := O.ex
    refine ⟨_, rfl, _, rfl, x, CK, dx, fs, _, rfl, B.ins, T.cl_Kinds, T.nk_some_bits, FF.some_, _, _, rfl, rfl, _, rfl, _, rfl, _, rfl, x, CK, dx, fs, _, rfl, B.ins, T.cl_Kinds, T.nk_each_bits, FF.each_, _, _, rfl, rfl, _, _, rfl, rfl, ?_⟩
    show Q (.int (Builtin.bitOr (Builtin.bitAnd (t : Int) ((someB at_ : Nat) : Int)) (Builtin.bitAnd (Builtin.bitNot (t : Int)) ((eachB at_ : Nat) : Int)))) H
    rw [owed_val]
    exact q
/-! ### lets -/
theorem lets_val {at_ : List Oc.C} (A : Ats at_) (r t u : Nat) : decide (V.int (Builtin.bitAnd (Builtin.bitAnd ((shownB at_ u : Nat) : Int) ((roleB at_ r : Nat) : Int)) (Builtin.bitNot ((owedB at_ t : Nat) : Int))) = V.int 0) = Oc.fits at_ r t u := by
  rw [← lets_eq A r t u]
  have e1 : Builtin.bitAnd ((shownB at_ u : Nat) : Int) ((roleB at_ r : Nat) : Int) = ((shownB at_ u &&& roleB at_ r : Nat) : Int) := by
    rw [bitAnd_pp (by omega) (by omega), Int.toNat_natCast, Int.toNat_natCast]
  have nn : Builtin.bitNot (Builtin.bitNot ((owedB at_ t : Nat) : Int)) = ((owedB at_ t : Nat) : Int) := by
    show -(-((owedB at_ t : Nat) : Int) - 1) - 1 = _
    omega
  have hle : ((shownB at_ u &&& roleB at_ r) &&& owedB at_ t) ≤ shownB at_ u &&& roleB at_ r := Nat.and_le_left
  rw [e1, bitAnd_pn (by omega) (by show ¬ 0 ≤ -((owedB at_ t : Nat) : Int) - 1; omega), nn, Int.toNat_natCast, Int.toNat_natCast]
  refine decide_eq_decide.mpr ⟨fun q => ?_, fun q => ?_⟩
  · have := V.int.inj q
    omega
  · congr 1
    omega
/- Kinds.lets: slots 0 self, 1 role, 2 kind, 3 other -/
abbrev s_Kinds_lets : Stmt := inClass (top 28) 5
abbrev N_Kinds_lets : List Str := ["self", "role", "kind", "other"]
theorem sc_Kinds_lets : FnScope N_Kinds_lets ["self", "role", "kind", "other"] (defScope s_Kinds_lets) := ⟨rfl, rfl, rfl, by decide +kernel, rfl, by decide +kernel, by decide +kernel⟩
def spLets (CK : Addr) : Sp := fun vs H Q _ => ∃ (x : Addr) (at_ : List Oc.C) (h : List Under) (r t u : Nat), vs = [.ref x, .int (r : Int), .int (t : Int), .int (u : Int)] ∧ KO CK H x at_ h ∧ r < 4 ∧ u < 2 ^ at_.length ∧ Q (.bl (Oc.fits at_ r t u)) H
theorem ok_lets {f : Addr} {fd : FuncData} (F : Fun K "lets" "Kinds.lets" s_Kinds_lets f fd) (T : Txt K mg CK CH) (D_Kinds_owed_bits : Mt P w K mg base CK "owed_bits" 1 ["self", "kind"] (spOwed CK)) : FnOk P w K mg base CX0 2 f fd ["self", "role", "kind", "other"] (spLets CK) := by
  refine F.ok sc_Kinds_lets (fun vs H Q E h => ?_) (fun cdv A outer s H vs Q E hr h => ⟨_, (pss_one (ps_ret (pe_cmpR op_eq (pe_op op_and (pe_op op_and (pe_ix ix_list (pe_fld (pv 0) rfl) (pv 3) (fun _ _ => rfl)) (pe_ix ix_list (pe_fld (pv 0) rfl) (pv 1) (fun _ _ => rfl))) (pe_un un_inv (pe_methD (pv 0) T.cl_Kinds D_Kinds_owed_bits (rm hr) (pa_cons (pv 2) pa_nil)))) pe_int (nomark _)))), ?_⟩)
  · obtain ⟨x, at_, h, r, t, u, rfl, _⟩ := h
    rfl
  · obtain ⟨x, at_, h, r, t, u, rfl, O, hr4, hu, q⟩ := h
    obtain ⟨dx, fs, B, FF⟩ := O.ex
    obtain ⟨ra, r1, r2⟩ := FF.role_
    obtain ⟨sa, s1, s2⟩ := FF.shown_
    have er : (([0, 1, 2, 3] : List Nat).map (roleB at_))[r]? = some (roleB at_ r) := by
      have c : r = 0 ∨ r = 1 ∨ r = 2 ∨ r = 3 := by omega
      rcases c with rfl | rfl | rfl | rfl <;> rfl
    have es : ((List.range (2 ^ at_.length)).map (shownB at_))[u]? = some (shownB at_ u) := by
      rw [List.getElem?_map, List.getElem?_range hu]
      rfl
    refine ⟨_, rfl, x, CK, dx, fs, _, rfl, B.ins, T.cl_Kinds, T.nk_shown_bits, s1, _, rfl, sa, _, _, _, rfl, rfl, SqL.of s2, nv_at es, _, rfl, x, CK, dx, fs, _, rfl, B.ins, T.cl_Kinds, T.nk_role_bits, r1, _, rfl, ra, _, _, _, rfl, rfl, SqL.of r2, nv_at er, _, _, rfl, rfl,
      _, rfl, x, dx, fs, rfl, B.ins, B.no _ (by decide), _, rfl, x, at_, h, t, rfl, O, _, rfl, _, _, rfl, rfl, rfl, ?_⟩
    show Q (.bl (decide (V.int (Builtin.bitAnd (Builtin.bitAnd ((shownB at_ u : Nat) : Int) ((roleB at_ r : Nat) : Int)) (Builtin.bitNot ((owedB at_ t : Nat) : Int))) = V.int 0))) H
    rw [lets_val O.at_ok.ats]
    exact q
/-! ### fits -/
/- Kinds.fits: slots 0 self, 1 role, 2 kind, 3 other, 4 upper -/
abbrev s_Kinds_fits : Stmt := inClass (top 28) 6
abbrev N_Kinds_fits : List Str := ["self", "role", "kind", "other", "upper"]
theorem sc_Kinds_fits : FnScope N_Kinds_fits ["self", "role", "kind", "other"] (defScope s_Kinds_fits) := ⟨rfl, rfl, rfl, by decide +kernel, rfl, by decide +kernel, by decide +kernel⟩
def spFits (CK : Addr) : Sp := fun vs H Q _ => ∃ (x : Addr) (at_ : List Oc.C) (h : List Under) (r t u : Nat), vs = [.ref x, .int (r : Int), .int (t : Int), .int (u : Int)] ∧ KO CK H x at_ h ∧ r < 4 ∧ t < 2 ^ at_.length ∧ u < 2 ^ at_.length ∧ Q (.bl (Oc05.fits h at_ r t u)) H
theorem ok_fits {f : Addr} {fd : FuncData} (F : Fun K "fits" "Kinds.fits" s_Kinds_fits f fd) (T : Txt K mg CK CH) (D_Kinds_lets : Mt P w K mg base CK "lets" 2 ["self", "role", "kind", "other"] (spLets CK)) (D_turned : Df P w K mg base "turned" 1 ["role"] spTurned) :
    FnOk P w K mg base CX0 3 f fd ["self", "role", "kind", "other"] (spFits CK) := by
  refine F.ok sc_Kinds_fits (fun vs H Q E h => ?_) (fun cdv A outer s H vs Q E hr h => ⟨_, (pss_cons (ps_for PassesOwn.never rfl (pi_list (pe_ix ix_list (pe_fld (pv 0) rfl) (pv 1) (fun _ _ => rfl))) (pg_name (i := 4) sc_Kinds_fits.nd rfl (by first | exact .inl rfl | exact .inr rfl)) (pss_one (ps_if (PW.pt (pw_or (pt_not (pt_val (pe_methD (pv 0) T.cl_Kinds D_Kinds_lets (rm hr) (pa_cons (pv 4) (pa_cons (pv 2) (pa_cons (pv 3) pa_nil)))))) (pw_or1 (pt_not (pt_val (pe_methD (pv 0) T.cl_Kinds D_Kinds_lets (rm hr) (pa_cons (pe_callD D_turned (rm hr) rfl (pa_cons (pv 4) pa_nil)) (pa_cons (pv 3) (pa_cons (pv 2) pa_nil))))))))) (pss_one (ps_ret pe_bl)) pss_nil)))
    (pss_one (ps_ret pe_bl))), ?_⟩)
  · obtain ⟨x, at_, h, r, t, u, rfl, _⟩ := h
    rfl
  · obtain ⟨x, at_, h, r, t, u, rfl, O, hr4, ht, hu, q⟩ := h
    obtain ⟨dx, fs, B, FF⟩ := O.ex
    obtain ⟨oa, ovs, o1, o2, o3⟩ := FF.over_
    obtain ⟨v, hv, b, rfl, hb⟩ := pair_get' o3 (i := r) (c := r) (by
      have c : r = 0 ∨ r = 1 ∨ r = 2 ∨ r = 3 := by omega
      rcases c with rfl | rfl | rfl | rfl <;> rfl)
    refine ⟨_, rfl, x, CK, dx, fs, _, rfl, B.ins, T.cl_Kinds, T.nk_over, o1, _, rfl, oa, _, _, _, rfl, rfl, SqL.of o2, at_of rfl hv, b, rfl, ⟨_, SqL.of hb⟩, ?_⟩
    refine for_list (K := K) (a := b) (xs := nv (Oc05.ups h r)) (fun i σ H' => ∃ v4 : Option V, σ = [some (.ref x), some (.int (r : Int)), some (.int (t : Int)), some (.int (u : Int)), v4] ∧ H = H' ∧ ((Oc05.ups h r).take i).all (fun s => Oc.fits at_ s t u && Oc.fits at_ (Oc05.turned s) u t) = true)
      ⟨none, rfl, rfl, rfl⟩ (fun i σ H' _ ⟨_, _, e, _⟩ => by rw [← e]; exact SqL.of hb) ?_ ?_
    · rintro i y σ H' hy ⟨v4, rfl, rfl, hall⟩
      obtain ⟨s0, hs0, rfl⟩ := lst_get hy
      have s4 : s0 < 4 := ups_lt (List.mem_of_getElem? hs0)
      have etake := take_snoc hs0
      have bad : (Oc.fits at_ s0 t u && Oc.fits at_ (Oc05.turned s0) u t) = false → Oc05.fits h at_ r t u = false := by
        intro e
        unfold Oc05.fits
        rw [List.all_eq_false]
        exact ⟨s0, List.mem_of_getElem? hs0, by rw [e]; decide⟩
      refine ⟨_, rfl, x, dx, fs, rfl, B.ins, B.no _ (by decide), _, rfl, _, rfl, _, rfl, x, at_, h, s0, t, u, rfl, O, s4, hu, _, rfl, ?_⟩
      cases e1 : Oc.fits at_ s0 t u with
      | false =>
        refine bT rfl (bT rfl ?_)
        rw [bad (by rw [e1]; rfl)] at q
        exact q
      | true =>
        refine bF rfl ?_
        refine ⟨_, rfl, x, dx, fs, rfl, B.ins, B.no _ (by decide), _, rfl, s0, rfl, s4, _, rfl, _, rfl, x, at_, h, Oc05.turned s0, u, t, rfl, O, turned_lt s4, ht, _, rfl, ?_⟩
        cases e2 : Oc.fits at_ (Oc05.turned s0) u t with
        | false =>
          refine bT rfl ?_
          rw [bad (by rw [e1, e2]; rfl)] at q
          exact q
        | true =>
          refine bF rfl ⟨_, rfl, rfl, ?_⟩
          rw [etake, List.all_append, hall]
          simp [e1, e2]
    · rintro σ H' ⟨v4, rfl, rfl, hall⟩
      rw [nv_len, List.take_length] at hall
      have e : Oc05.fits h at_ r t u = true := hall
      rw [e] at q
      exact q
/-! ### owed_places -/
/- Kinds.owed_places: slots 0 self, 1 kind, 2 owed, 3 place -/
abbrev s_Kinds_owed_places : Stmt := inClass (top 28) 7
abbrev N_Kinds_owed_places : List Str := ["self", "kind", "owed", "place"]
theorem sc_Kinds_owed_places : FnScope N_Kinds_owed_places ["self", "kind"] (defScope s_Kinds_owed_places) := ⟨rfl, rfl, rfl, by decide +kernel, rfl, by decide +kernel, by decide +kernel⟩
def spPlaces (CK : Addr) : Sp := fun vs H Q _ => ∃ (x : Addr) (at_ : List Oc.C) (h : List Under) (t : Nat), vs = [.ref x, .int (t : Int)] ∧ KO CK H x at_ h ∧
  ∀ (H' : Hp) (D : Addr), Same H H' → H D = none → H' D = some (.lst (nv (places at_ t))) → Q (.ref D) H'
theorem ok_places {f : Addr} {fd : FuncData} (F : Fun K "owed_places" "Kinds.owed_places" s_Kinds_owed_places f fd) (T : Txt K mg CK CH) (D_Kinds_owed_bits : Mt P w K mg base CK "owed_bits" 1 ["self", "kind"] (spOwed CK)) (D_bit_is_set : Df P w K mg base "bit_is_set" 1 ["number", "place"] spBitSet) :
    FnOk P w K mg base CX0 2 f fd ["self", "kind"] (spPlaces CK) := by
  refine F.ok sc_Kinds_owed_places (fun vs H Q E h => ?_) (fun cdv A outer s H vs Q E hr h => ⟨_, (pss_cons (ps_set (i := 2) sc_Kinds_owed_places.nd rfl (by first | exact .inl rfl | exact .inr rfl) (pe_methD (pv 0) T.cl_Kinds D_Kinds_owed_bits (rm hr) (pa_cons (pv 1) pa_nil)))
    (pss_one (ps_ret (pe_lc (own := [("place", 3)]) (g := (gName 3)) rfl sc_Kinds_owed_places.nd (pi_range1 (by rfl) T.b_range (pa_cons (pe_callB call_len_seq (by rfl) T.b_len (by decide +kernel) (pa_cons (pe_fld (pv 0) rfl) pa_nil)) pa_nil)) (blkOk_by (own := [("place", 3)]) (N := N_Kinds_owed_places) (sc := defScope s_Kinds_owed_places) (by decide +kernel)) (fun _ _ _ _ _ => (pg_name (i := 3) sc_Kinds_owed_places.nd rfl (by first | exact .inl rfl | exact .inr rfl))) (fun _ _ _ _ _ => (pts_one (pt_val (pe_callD D_bit_is_set (rm hr) rfl (pa_cons (pv 2) (pa_cons (pv 3) pa_nil)))))) (fun _ _ _ _ _ => (pv 3)))))), ?_⟩)
  · obtain ⟨x, at_, h, t, rfl, _⟩ := h
    rfl
  · obtain ⟨x, at_, h, t, rfl, O, k⟩ := h
    obtain ⟨dx, fs, B, FF⟩ := O.ex
    obtain ⟨aa, us, h1, h2, h3⟩ := B.atoms
    have hul : us.length = at_.length := Paired.length h3
    have few := O.at_ok.few
    refine ⟨_, rfl, x, dx, fs, rfl, B.ins, B.no _ (by decide), _, rfl, x, at_, h, t, rfl, O, ?_⟩
    refine ⟨_, rfl, x, CK, dx, fs, _, rfl, B.ins, T.cl_Kinds, T.nk_atoms, h1, aa, us, rfl, .inl (SqL.of h2), ((us.length : Nat) : Int), rfl, by omega, by omega, fun D nD => ?_⟩
    refine lc_range (n := us.length) (fun i H' => Same H H' ∧ H' D = some (.lst (nv ((List.range i).filter fun p => Oc.bit (owedB at_ t) p)))) ⟨same_new nD, upd_same⟩ ?_ ?_
    · rintro i H' hi ⟨sm, hD⟩
      refine ⟨rfl, _, rfl, _, rfl, owedB at_ t, i, ?_, _, rfl, ?_⟩
      · show [V.int _, V.int (0 + (i : Int))] = _
        rw [Int.zero_add]
      cases e : Oc.bit (owedB at_ t) i with
      | true =>
        refine bT rfl ⟨_, rfl, _, hD, ?_, same_upd sm nD, ?_⟩
        · rw [nv_len]
          have z := range_keep_len i (fun p => Oc.bit (owedB at_ t) p)
          have : (1000 : Nat) < sizeLine := by decide
          omega
        · rw [upd_same, List.range_succ, List.filter_append, List.filter_cons_of_pos (by exact e), List.filter_nil, nv_snoc, Int.zero_add]
      | false =>
        refine bF rfl ⟨sm, ?_⟩
        rw [hD, List.range_succ, List.filter_append, List.filter_cons_of_neg (by rw [e]; decide), List.filter_nil, List.append_nil]
    · rintro H' ⟨sm, hD⟩
      rw [hul] at hD
      exact k H' D sm nD hD
/-! ### bearer -/
theorem shown_bit {at_ : List Oc.C} {u p : Nat} {a : Oc.C} (h : at_[p]? = some a) : Oc.bit (shownB at_ u) p = shows at_ u a := by rw [bit_test, shown_test h]
theorem shown_get {at_ : List Oc.C} {u : Nat} (hu : u < 2 ^ at_.length) : ((List.range (2 ^ at_.length)).map (shownB at_))[u]? = some (shownB at_ u) := by
  rw [List.getElem?_map, List.getElem?_range hu]
  rfl
theorem role_lt {c : Oc.C} (h : tag c = 6 ∨ tag c = 7) (w : wf c = true) : roleOf c < 4 := by
  cases c <;> first | (simp [tag] at h; done) | (simp [wf] at w; exact w.1)
/-- a number or None -/
def ov : Option Nat → V
  | some u => .int (u : Int)
  | none => .non
/- Kinds.bearer: slots 0 self, 1 kind, 2 place, 3 kept, 4 role, 5 other -/
abbrev s_Kinds_bearer : Stmt := inClass (top 28) 8
abbrev N_Kinds_bearer : List Str := ["self", "kind", "place", "kept", "role", "other"]
theorem sc_Kinds_bearer : FnScope N_Kinds_bearer ["self", "kind", "place", "kept"] (defScope s_Kinds_bearer) := ⟨rfl, rfl, rfl, by decide +kernel, rfl, by decide +kernel, by decide +kernel⟩
def spBearer (CK : Addr) : Sp := fun vs H Q _ => ∃ (x ka : Addr) (at_ : List Oc.C) (h : List Under) (t p : Nat) (a : Oc.C) (kept : List Nat), vs = [.ref x, .int (t : Int), .int (p : Int), .ref ka] ∧ KO CK H x at_ h ∧ t < 2 ^ at_.length ∧ at_[p]? = some a ∧ (tag a = 6 ∨ tag a = 7) ∧
  H ka = some (.lst (nv kept)) ∧ (∀ u ∈ kept, u < 2 ^ at_.length) ∧ Q (ov (pick h at_ kept t a)) H
theorem ok_bearer {f : Addr} {fd : FuncData} (F : Fun K "bearer" "Kinds.bearer" s_Kinds_bearer f fd) (T : Txt K mg CK CH) (D_Kinds_fits : Mt P w K mg base CK "fits" 3 ["self", "role", "kind", "other"] (spFits CK)) (D_bit_is_set : Df P w K mg base "bit_is_set" 1 ["number", "place"] spBitSet) :
    FnOk P w K mg base CX0 4 f fd ["self", "kind", "place", "kept"] (spBearer CK) := by
  refine F.ok sc_Kinds_bearer (fun vs H Q E h => ?_) (fun cdv A outer s H vs Q E hr h => ⟨_, (pss_cons (ps_set (i := 4) sc_Kinds_bearer.nd rfl (by first | exact .inl rfl | exact .inr rfl) (pe_ix ix_tup (pe_ix ix_list (pe_fld (pv 0) rfl) (pv 2) (fun _ _ => rfl)) pe_int (fun _ _ => rfl)))
    (pss_cons (ps_for PassesOwn.never rfl (pi_list (pv 3)) (pg_name (i := 5) sc_Kinds_bearer.nd rfl (by first | exact .inl rfl | exact .inr rfl)) (pss_one (ps_if (PW.pt (pw_and (pt_val (pe_callD D_bit_is_set (rm hr) rfl (pa_cons (pe_ix ix_list (pe_fld (pv 0) rfl) (pv 5) (fun _ _ => rfl)) (pa_cons (pv 2) pa_nil)))) (pw_and1 (pt_val (pe_methD (pv 0) T.cl_Kinds D_Kinds_fits (rm hr) (pa_cons (pv 4) (pa_cons (pv 1) (pa_cons (pv 5) pa_nil)))))))) (pss_one (ps_ret (pv 5))) pss_nil)))
    (pss_one (ps_ret pe_non)))), ?_⟩)
  · obtain ⟨x, ka, at_, h, t, p, a, kept, rfl, _⟩ := h
    rfl
  · obtain ⟨x, ka, at_, h, t, p, a, kept, rfl, O, ht, ha, hq, hka, hlt, q⟩ := h
    obtain ⟨dx, fs, B, FF⟩ := O.ex
    obtain ⟨sa, s1, s2⟩ := FF.shown_
    obtain ⟨aa, us, h1, h2, h3⟩ := B.atoms
    obtain ⟨v, hv, b, rfl, hb⟩ := CsAt.get' h3 ha
    refine ⟨_, rfl, x, CK, dx, fs, _, rfl, B.ins, T.cl_Kinds, T.nk_atoms, h1, _, rfl, aa, _, _, _, rfl, rfl, SqL.of h2, at_of rfl hv, b, _, _, _, rfl, rfl, SqT.of hb, nv_at (i := 1) (toks_get1 hq), ?_⟩
    refine ⟨_, rfl, ka, rfl, ⟨_, SqL.of hka⟩, ?_⟩
    refine for_list (K := K) (a := ka) (xs := nv kept) (fun i σ H' => ∃ v5 : Option V, σ = [some (.ref x), some (.int (t : Int)), some (.int (p : Int)), some (.ref ka), some (.int (roleOf a : Nat)), v5] ∧ H = H' ∧ (kept.drop i).find? (fun u => shows at_ u a && Oc05.fits h at_ (roleOf a) t u) = pick h at_ kept t a)
      ⟨none, rfl, rfl, rfl⟩ (fun i σ H' _ ⟨_, _, e, _⟩ => by rw [← e]; exact SqL.of hka) ?_ ?_
    · rintro i y σ H' hy ⟨v5, rfl, rfl, hany⟩
      obtain ⟨u, hu, rfl⟩ := lst_get hy
      have hu2 := hlt u (List.mem_of_getElem? hu)
      obtain ⟨hil, hue⟩ := List.getElem?_eq_some_iff.mp hu
      rw [List.drop_eq_getElem_cons hil, hue, List.find?_cons] at hany
      refine ⟨_, rfl, x, CK, dx, fs, _, rfl, B.ins, T.cl_Kinds, T.nk_shown_bits, s1, _, rfl, sa, _, _, _, rfl, rfl, SqL.of s2, nv_at (shown_get hu2), _, rfl, shownB at_ u, p, rfl, _, congrArg V.bl (shown_bit ha), ?_⟩
      cases e1 : shows at_ u a with
      | false =>
        rw [e1] at hany
        exact bF rfl (bF rfl ⟨_, rfl, rfl, hany⟩)
      | true =>
        refine bT rfl ?_
        refine ⟨_, rfl, x, dx, fs, rfl, B.ins, B.no _ (by decide), _, rfl, _, rfl, _, rfl, x, at_, h, roleOf a, t, u, rfl, O, role_lt hq (O.at_ok.wfs a (List.mem_of_getElem? ha)).1, ht, hu2, _, rfl, ?_⟩
        cases e2 : Oc05.fits h at_ (roleOf a) t u with
        | true =>
          refine bT rfl ?_
          rw [e1, e2] at hany
          have hany' : some u = pick h at_ kept t a := hany
          rw [← hany'] at q
          exact ⟨_, rfl, q⟩
        | false =>
          rw [e1, e2] at hany
          exact bF rfl ⟨_, rfl, rfl, hany⟩
    · rintro σ H' ⟨v5, rfl, rfl, hany⟩
      rw [nv_len, List.drop_length] at hany
      have hany' : none = pick h at_ kept t a := hany
      rw [← hany'] at q
      exact q
/-! ### borne_out -/
theorem owed_bit {at_ : List Oc.C} {t p : Nat} {a : Oc.C} (A : Ats at_) (h : at_[p]? = some a) : Oc.bit (owedB at_ t) p = owes at_ t a := by rw [bit_test, owed_test A h]
theorem owes_tag {at_ : List Oc.C} {t : Nat} {a : Oc.C} (h : owes at_ t a = true) : tag a = 6 ∨ tag a = 7 := by
  cases a <;> first | exact .inl rfl | exact .inr rfl | (simp [owes] at h)
/- Kinds.borne_out: slots 0 self, 1 kind, 2 kept, 3 place -/
abbrev s_Kinds_borne_out : Stmt := inClass (top 28) 9
abbrev N_Kinds_borne_out : List Str := ["self", "kind", "kept", "place"]
theorem sc_Kinds_borne_out : FnScope N_Kinds_borne_out ["self", "kind", "kept"] (defScope s_Kinds_borne_out) := ⟨rfl, rfl, rfl, by decide +kernel, rfl, by decide +kernel, by decide +kernel⟩
def spBorne (CK : Addr) : Sp := fun vs H Q _ => ∃ (x ka : Addr) (at_ : List Oc.C) (h : List Under) (t : Nat) (kept : List Nat), vs = [.ref x, .int (t : Int), .ref ka] ∧ KO CK H x at_ h ∧ t < 2 ^ at_.length ∧
  H ka = some (.lst (nv kept)) ∧ (∀ u ∈ kept, u < 2 ^ at_.length) ∧ ∀ H', Same H H' → Q (.bl (Oc05.borne h at_ kept t)) H'
theorem ok_borne {f : Addr} {fd : FuncData} (F : Fun K "borne_out" "Kinds.borne_out" s_Kinds_borne_out f fd) (T : Txt K mg CK CH) (D_Kinds_owed_places : Mt P w K mg base CK "owed_places" 2 ["self", "kind"] (spPlaces CK)) (D_Kinds_bearer : Mt P w K mg base CK "bearer" 4 ["self", "kind", "place", "kept"] (spBearer CK)) :
    FnOk P w K mg base CX0 5 f fd ["self", "kind", "kept"] (spBorne CK) := by
  refine F.ok sc_Kinds_borne_out (fun vs H Q E h => ?_) (fun cdv A outer s H vs Q E hr h => ⟨_, (pss_cons (ps_for PassesOwn.never rfl (pi_list (pe_methD (pv 0) T.cl_Kinds D_Kinds_owed_places (rm hr) (pa_cons (pv 1) pa_nil))) (pg_name (i := 3) sc_Kinds_borne_out.nd rfl (by first | exact .inl rfl | exact .inr rfl)) (pss_one (ps_if (pt_cmpR op_isN (pe_methD (pv 0) T.cl_Kinds D_Kinds_bearer (rm hr) (pa_cons (pv 1) (pa_cons (pv 3) (pa_cons (pv 2) pa_nil)))) pe_non (nomark _)) (pss_one (ps_ret pe_bl)) pss_nil)))
    (pss_one (ps_ret pe_bl))), ?_⟩)
  · obtain ⟨x, ka, at_, h, t, kept, rfl, _⟩ := h
    rfl
  · obtain ⟨x, ka, at_, h, t, kept, rfl, O, ht, hka, hlt, q⟩ := h
    obtain ⟨dx, fs, B, FF⟩ := O.ex
    have A := O.at_ok.ats
    rw [borne_places A] at q
    refine ⟨_, rfl, x, dx, fs, rfl, B.ins, B.no _ (by decide), _, rfl, x, at_, h, t, rfl, O, fun H1 D s1 nD hD => ⟨D, rfl, ⟨_, SqL.of hD⟩, ?_⟩⟩
    have B1 := B.same s1
    have O1 := O.same s1
    have hka1 := s1 ka _ hka
    refine for_list (K := K) (a := D) (xs := nv (places at_ t)) (fun i σ H' => ∃ v3 : Option V, σ = [some (.ref x), some (.int (t : Int)), some (.ref ka), v3] ∧ H1 = H' ∧ ((places at_ t).take i).all (fun p => (pick h at_ kept t (atP at_ p)).isSome) = true)
      ⟨none, rfl, rfl, rfl⟩ (fun i σ H' _ ⟨_, _, e, _⟩ => by rw [← e]; exact SqL.of hD) ?_ ?_
    · rintro i y σ H' hy ⟨v3, rfl, rfl, hall⟩
      obtain ⟨p, hp, rfl⟩ := lst_get hy
      have hpm := List.mem_of_getElem? hp
      obtain ⟨hpl, how⟩ := places_owes A hpm
      have etake := take_snoc hp
      refine ⟨_, rfl, x, dx, fs, rfl, B1.ins, B1.no _ (by decide), _, rfl, _, rfl, _, rfl, x, ka, at_, h, t, p, atP at_ p, kept, rfl, O1, ht, atP_get hpl, owes_tag how, hka1, hlt, ?_⟩
      cases e2 : pick h at_ kept t (atP at_ p) with
      | none =>
        refine ⟨rfl, _, rfl, bT rfl ?_⟩
        have e : ((places at_ t).all fun p => (pick h at_ kept t (atP at_ p)).isSome) = false := by
          rw [List.all_eq_false]
          exact ⟨p, hpm, by rw [e2]; decide⟩
        rw [e] at q
        exact q H1 s1
      | some u =>
        refine ⟨rfl, _, rfl, bF rfl ⟨_, rfl, rfl, ?_⟩⟩
        rw [etake, List.all_append, hall]
        simp [e2]
    · rintro σ H' ⟨v3, rfl, rfl, hall⟩
      rw [nv_len, List.take_length] at hall
      rw [hall] at q
      exact q H1 s1
/-! ### axioms in the heap -/
def XAt (H : Hp) (v : V) (x : Oc.C × Oc.C) : Prop := ∃ (b : Addr) (v1 v2 : V), v = .ref b ∧ H b = some (.tup [v1, v2]) ∧ CAt H v1 x.1 ∧ CAt H v2 x.2
abbrev XsAt (H : Hp) : List V → List (Oc.C × Oc.C) → Prop := Paired (XAt H)
theorem XAt.stay {H H' : Hp} {v : V} {x : Oc.C × Oc.C} (s : Stay H H') (h : XAt H v x) : XAt H' v x := by
  obtain ⟨b, v1, v2, rfl, e, c1, c2⟩ := h
  exact ⟨b, v1, v2, rfl, s b _ e, c1.stay s, c2.stay s⟩
theorem XsAt.stay {H H' : Hp} {vs : List V} {cs : List (Oc.C × Oc.C)} (s : Stay H H') (h : XsAt H vs cs) : XsAt H' vs cs := Paired.mono (fun _ _ q => XAt.stay s q) h
/-- axioms that are made of these atoms -/
def AxOk (at_ : List Oc.C) (ax : List (Oc.C × Oc.C)) : Prop := ∀ x ∈ ax, (wf x.1 = true ∧ (toks x.1).length ≤ 100 ∧ ∀ d ∈ x.1.atoms, d ∈ at_) ∧ (wf x.2 = true ∧ (toks x.2).length ≤ 100 ∧ ∀ d ∈ x.2.atoms, d ∈ at_)
/-! ### keeping -/
/- Kinds.keeping: slots 0 self, 1 axioms, 2 kept, 3 first, 4 second, 5 firsts, 6 seconds, 7 kind -/
abbrev s_Kinds_keeping : Stmt := inClass (top 28) 10
abbrev N_Kinds_keeping : List Str := ["self", "axioms", "kept", "first", "second", "firsts", "seconds", "kind"]
theorem sc_Kinds_keeping : FnScope N_Kinds_keeping ["self", "axioms"] (defScope s_Kinds_keeping) := ⟨rfl, rfl, rfl, by decide +kernel, rfl, by decide +kernel, by decide +kernel⟩
def spKeeping (CK : Addr) : Sp := fun vs H Q _ => ∃ (x xa : Addr) (at_ : List Oc.C) (h : List Under) (us : List V) (ax : List (Oc.C × Oc.C)), vs = [.ref x, .ref xa] ∧ KO CK H x at_ h ∧ H xa = some (.lst us) ∧ XsAt H us ax ∧ AxOk at_ ax ∧
  ∀ (H' : Hp) (D : Addr), Same H H' → H D = none → H' D = some (.lst (nv ((List.range (2 ^ at_.length)).filter (Oc.keeps at_ ax)))) → Q (.ref D) H'
theorem hold_get {at_ : List Oc.C} {c : Oc.C} {u : Nat} (hu : u < 2 ^ at_.length) : ((hold at_ c).map V.bl)[u]? = some (V.bl (Oc.holds at_ u c)) := by
  unfold hold
  rw [List.getElem?_map, List.getElem?_map, List.getElem?_range hu]
  rfl
theorem ok_keeping {f : Addr} {fd : FuncData} (F : Fun K "keeping" "Kinds.keeping" s_Kinds_keeping f fd) (T : Txt K mg CK CH) (D_Kinds_truths : Mt P w K mg base CK "truths" 4 ["self", "concept"] (spTruths CK)) : FnOk P w K mg base CX0 5 f fd ["self", "axioms"] (spKeeping CK) := by
  refine F.ok sc_Kinds_keeping (fun vs H Q E h => ?_) (fun cdv A outer s H vs Q E hr h => ⟨_, (pss_cons (ps_set (i := 2) sc_Kinds_keeping.nd rfl (by first | exact .inl rfl | exact .inr rfl) (pe_callTy call_list_of (by rfl) T.b_list (by decide +kernel) (pa_cons (pe_fld (pv 0) rfl) pa_nil)))
    (pss_cons (ps_for PassesOwn.never rfl (pi_list (pv 1)) (pg_tup rfl (pgs_cons (pg_name (i := 3) sc_Kinds_keeping.nd rfl (by first | exact .inl rfl | exact .inr rfl)) (pgs_cons (pg_name (i := 4) sc_Kinds_keeping.nd rfl (by first | exact .inl rfl | exact .inr rfl)) pgs_nil))) (pss_cons (ps_set (i := 5) sc_Kinds_keeping.nd rfl (by first | exact .inl rfl | exact .inr rfl) (pe_methD (pv 0) T.cl_Kinds D_Kinds_truths (rm hr) (pa_cons (pv 3) pa_nil)))
    (pss_cons (ps_set (i := 6) sc_Kinds_keeping.nd rfl (by first | exact .inl rfl | exact .inr rfl) (pe_methD (pv 0) T.cl_Kinds D_Kinds_truths (rm hr) (pa_cons (pv 4) pa_nil)))
    (pss_one (ps_setLc (i := 2) (own := [("kind", 7)]) (g := (gName 7)) rfl sc_Kinds_keeping.nd rfl rfl (sw_true rfl rfl rfl (by decide +kernel)) (pi_list (pv 2)) (blkOk_by (own := [("kind", 7)]) (N := N_Kinds_keeping) (sc := defScope s_Kinds_keeping) (by decide +kernel)) (fun _ _ _ _ _ => (pg_name (i := 7) sc_Kinds_keeping.nd rfl (by first | exact .inl rfl | exact .inr rfl))) (fun _ _ _ _ _ => (pts_one (PW.pt (pw_or (pt_val (pe_ix (ix_listK (K := K) rfl) (pv 6) (pv 7) (fun _ _ => rfl))) (pw_or1 (pt_not (pt_val (pe_ix (ix_listK (K := K) rfl) (pv 5) (pv 7) (fun _ _ => rfl))))))))) (fun _ _ _ _ _ => (pv 7)))))))
    (pss_one (ps_ret (pv 2))))), ?_⟩)
  · obtain ⟨x, xa, at_, h, us, ax, rfl, _⟩ := h
    rfl
  · obtain ⟨x, xa, at_, h, us, ax, rfl, O, hxa, hus, hax, k⟩ := h
    obtain ⟨dx, fs, B, FF⟩ := O.ex
    obtain ⟨ea, g1, g2⟩ := B.kinds
    have p5 := pow5 O.at_ok.few
    have hul : us.length = ax.length := Paired.length hus
    refine ⟨_, rfl, x, CK, dx, fs, _, rfl, B.ins, T.cl_Kinds, T.nk_every_kind, g1, ea, _, rfl, .inl (SqL.of g2), fun D nD => ?_⟩
    refine ⟨_, rfl, xa, rfl, ⟨_, SqL.of (same_new nD xa _ hxa)⟩, ?_⟩
    refine for_list (K := K) (a := xa) (xs := us) (fun i σ H' => ∃ (ka : Addr) (v3 v4 v5 v6 v7 : Option V), σ = [some (.ref x), some (.ref xa), some (.ref ka), v3, v4, v5, v6, v7] ∧ Same H H' ∧ H ka = none ∧ H' ka = some (.lst (nv ((List.range (2 ^ at_.length)).filter (Oc.keeps at_ (ax.take i))))))
      ⟨D, _, _, _, _, _, rfl, same_new nD, nD, ?_⟩ (fun i σ H' _ ⟨_, _, _, _, _, _, _, sm, _⟩ => SqL.of (sm xa _ hxa)) ?_ ?_
    · have e0 : (List.range (2 ^ at_.length)).filter (Oc.keeps at_ (ax.take 0)) = List.range (2 ^ at_.length) := List.filter_eq_self.mpr fun _ _ => rfl
      rw [upd_same, e0]
    · rintro i y σ H' hy ⟨ka, v3, v4, v5, v6, v7, rfl, sm, nka, hka⟩
      obtain ⟨a, ha, b, w1, w2, rfl, hb, c1, c2⟩ := pair_get hus hy
      have oka := hax a (List.mem_of_getElem? ha)
      have etake := take_snoc ha
      refine ⟨b, _, rfl, SqT.of (sm b _ hb), rfl, _, _, rfl, _, _, rfl, rfl, ?_⟩
      have B1 := B.same sm
      refine ⟨_, rfl, x, dx, fs, rfl, B1.ins, B1.no _ (by decide), _, rfl, x, dx, fs, at_, w1, a.1, rfl, B1, O.at_ok, c1.stay (stayS sm), oka.1.1, by have := oka.1.2.1; omega, oka.1.2.2, fun H2 L1 s2 nL1 hL1 => ?_⟩
      have sm2 := L2.Same.trans sm s2
      have B2 := B.same sm2
      refine ⟨_, rfl, x, dx, fs, rfl, B2.ins, B2.no _ (by decide), _, rfl, x, dx, fs, at_, w2, a.2, rfl, B2, O.at_ok, c2.stay (stayS sm2), oka.2.1, by have := oka.2.2.1; omega, oka.2.2.2, fun H3 M2 s3 nM2 hM2 => ?_⟩
      have sm3 := L2.Same.trans sm2 s3
      have hka3 := s3 ka _ (s2 ka _ hka)
      have hL13 := s3 L1 _ hL1
      refine ⟨_, rfl, ka, rfl, ⟨_, SqL.of hka3⟩, fun D2 nD2 => ?_⟩
      obtain ⟨l, hl⟩ : ∃ l, l = (List.range (2 ^ at_.length)).filter (Oc.keeps at_ (ax.take i)) := ⟨_, rfl⟩
      have hll : l.length ≤ 2 ^ at_.length := by rw [hl]; exact range_keep_len _ _
      rw [← hl] at hka hka3
      refine lc_list (K := K) (a := ka) (xs := nv l) (fun j H4 => Same H3 H4 ∧ H4 D2 = some (.lst (nv ((l.take j).filter fun u => Oc.holds at_ u a.2 || !Oc.holds at_ u a.1)))) ⟨same_new nD2, upd_same⟩ (fun j H4 _ q => SqL.of (q.1 ka _ hka3)) ?_ ?_
      · rintro j y H4 hy ⟨sm4, hD4⟩
        obtain ⟨u, hu, rfl⟩ := lst_get hy
        have hu2 : u < 2 ^ at_.length := by
          have m := List.mem_of_getElem? hu
          rw [hl] at m
          exact List.mem_range.mp (List.mem_filter.mp m).1
        have hjl := (List.getElem?_eq_some_iff.mp hu).1
        have eu := take_snoc hu
        have hsz : (nv ((l.take j).filter fun u => Oc.holds at_ u a.2 || !Oc.holds at_ u a.1)).length < sizeLine := by
          rw [nv_len]
          have z1 := List.length_filter_le (fun u => Oc.holds at_ u a.2 || !Oc.holds at_ u a.1) (l.take j)
          rw [List.length_take] at z1
          have : (1000 : Nat) < sizeLine := by decide
          omega
        have yes : (Oc.holds at_ u a.2 || !Oc.holds at_ u a.1) = true → (some (HO.lst (nv ((l.take j).filter fun u => Oc.holds at_ u a.2 || !Oc.holds at_ u a.1) ++ [V.int (u : Int)])) : Option HO) = some (HO.lst (nv ((l.take (j + 1)).filter fun u => Oc.holds at_ u a.2 || !Oc.holds at_ u a.1))) := by
          intro e
          rw [eu, List.filter_append, List.filter_cons_of_pos (by exact e), List.filter_nil, nv_snoc]
        refine ⟨rfl, _, rfl, _, rfl, M2, _, _, _, rfl, rfl, SqL.of (sm4 M2 _ hM2), at_of rfl (hold_get hu2), _, rfl, ?_⟩
        cases e2 : Oc.holds at_ u a.2 with
        | true =>
          refine bT rfl (bT rfl ⟨_, rfl, _, hD4, hsz, same_upd sm4 nD2, ?_⟩)
          rw [upd_same]
          exact yes (by rw [e2]; rfl)
        | false =>
          refine bF rfl ?_
          refine ⟨_, rfl, _, rfl, L1, _, _, _, rfl, rfl, SqL.of (sm4 L1 _ hL13), at_of rfl (hold_get hu2), _, rfl, ?_⟩
          cases e1 : Oc.holds at_ u a.1 with
          | false =>
            refine bT rfl ⟨_, rfl, _, hD4, hsz, same_upd sm4 nD2, ?_⟩
            rw [upd_same]
            exact yes (by rw [e1, e2]; rfl)
          | true =>
            refine bF rfl ⟨sm4, ?_⟩
            rw [hD4, eu, List.filter_append, List.filter_cons_of_neg (by simp [e1, e2]), List.filter_nil, List.append_nil]
      · rintro H4 ⟨sm4, hD4⟩
        refine ⟨D2, _, _, _, _, _, rfl, L2.Same.trans sm3 sm4, L2.Same.free sm3 nD2, ?_⟩
        rw [hD4, nv_len, List.take_length, hl, List.filter_filter, etake]
        refine congrArg (fun l => some (HO.lst (nv l))) (List.filter_congr fun u _ => ?_)
        unfold Oc.keeps
        rw [List.all_append]
        simp [Bool.and_comm, Bool.or_comm]
    · rintro σ H' ⟨ka, v3, v4, v5, v6, v7, rfl, sm, nka, hka⟩
      rw [hul, List.take_length] at hka
      exact ⟨_, rfl, k H' ka sm nka hka⟩
/-! ### largest_borne_out -/
/- Kinds.largest_borne_out: slots 0 self, 1 kinds, 2 kept, 3 before, 4 kind -/
abbrev s_Kinds_largest_borne_out : Stmt := inClass (top 28) 11
abbrev N_Kinds_largest_borne_out : List Str := ["self", "kinds", "kept", "before", "kind"]
theorem sc_Kinds_largest_borne_out : FnScope N_Kinds_largest_borne_out ["self", "kinds"] (defScope s_Kinds_largest_borne_out) := ⟨rfl, rfl, rfl, by decide +kernel, rfl, by decide +kernel, by decide +kernel⟩
def spLargest (CK : Addr) : Sp := fun vs H Q _ => ∃ (x a0 : Addr) (at_ : List Oc.C) (h : List Under) (l0 : List Nat), vs = [.ref x, .ref a0] ∧ KO CK H x at_ h ∧ H a0 = some (.lst (nv l0)) ∧ (∀ u ∈ l0, u < 2 ^ at_.length) ∧ l0.length ≤ 32 ∧
  ∀ (H' : Hp) (D : Addr), Same H H' → H D = none → H' D = some (.lst (nv (rest h at_ l0))) → Q (.ref D) H'
theorem ok_largest {f : Addr} {fd : FuncData} (F : Fun K "largest_borne_out" "Kinds.largest_borne_out" s_Kinds_largest_borne_out f fd) (T : Txt K mg CK CH) (D_Kinds_borne_out : Mt P w K mg base CK "borne_out" 5 ["self", "kind", "kept"] (spBorne CK)) :
    FnOk P w K mg base CX0 6 f fd ["self", "kinds"] (spLargest CK) := by
  refine F.ok sc_Kinds_largest_borne_out (fun vs H Q E h => ?_) (fun cdv A outer s H vs Q E hr h => ⟨_, (pss_cons (ps_set (i := 2) sc_Kinds_largest_borne_out.nd rfl (by first | exact .inl rfl | exact .inr rfl) (pe_callTy call_list_of (by rfl) T.b_list (by decide +kernel) (pa_cons (pv 1) pa_nil)))
    (pss_cons (ps_set (i := 3) sc_Kinds_largest_borne_out.nd rfl (by first | exact .inl rfl | exact .inr rfl) (pe_op op_add (pe_callB call_len_seq (by rfl) T.b_len (by decide +kernel) (pa_cons (pv 2) pa_nil)) pe_int))
    (pss_cons (ps_while PassesOwn.never (pt_cmpR op_lt (pe_callB call_len_seq (by rfl) T.b_len (by decide +kernel) (pa_cons (pv 2) pa_nil)) (pv 3) (nomark _)) (pss_cons (ps_set (i := 3) sc_Kinds_largest_borne_out.nd rfl (by first | exact .inl rfl | exact .inr rfl) (pe_callB call_len_seq (by rfl) T.b_len (by decide +kernel) (pa_cons (pv 2) pa_nil)))
    (pss_one (ps_set (i := 2) sc_Kinds_largest_borne_out.nd rfl (by first | exact .inl rfl | exact .inr rfl) (pe_lc (own := [("kind", 4)]) (g := (gName 4)) rfl sc_Kinds_largest_borne_out.nd (pi_list (pv 2)) (blkOk_by (own := [("kind", 4)]) (N := N_Kinds_largest_borne_out) (sc := defScope s_Kinds_largest_borne_out) (by decide +kernel)) (fun _ _ _ _ _ => (pg_name (i := 4) sc_Kinds_largest_borne_out.nd rfl (by first | exact .inl rfl | exact .inr rfl))) (fun _ _ _ _ _ => (pts_one (pt_val (pe_methD (pv 0) T.cl_Kinds D_Kinds_borne_out (rm hr) (pa_cons (pv 4) (pa_cons (pv 2) pa_nil)))))) (fun _ _ _ _ _ => (pv 4)))))))
    (pss_one (ps_ret (pv 2)))))), ?_⟩)
  · obtain ⟨x, a0, at_, h, l0, rfl, _⟩ := h
    rfl
  · obtain ⟨x, a0, at_, h, l0, rfl, O, ha0, hlt0, hl0, k⟩ := h
    obtain ⟨dx, fs, B, FF⟩ := O.ex
    refine ⟨_, rfl, a0, _, rfl, .inl (SqL.of ha0), fun D nD => ?_⟩
    refine ⟨_, rfl, D, _, rfl, .inl (SqL.of upd_same), _, _, rfl, rfl, ?_⟩
    rw [nv_len]
    refine ⟨fun m σ H' => ∃ (ka : Addr) (l : List Nat) (bf : Nat) (v4 : Option V), m = bf ∧ σ = [some (.ref x), some (.ref a0), some (.ref ka), some (.int (bf : Int)), v4] ∧ Same H H' ∧ H ka = none ∧ H' ka = some (.lst (nv l)) ∧ (∀ u ∈ l, u < 2 ^ at_.length) ∧ l.length ≤ 32 ∧
      rest h at_ l = rest h at_ l0 ∧ l.length ≤ bf ∧ (l.length = bf → rest h at_ l = l), ⟨_, D, l0, l0.length + 1, _, rfl, rfl, same_new nD, nD, upd_same, hlt0, hl0, rfl, Nat.le_succ _, fun e => by omega⟩, ?_⟩
    rintro m σ H' ⟨ka, l, bf, v4, rfl, rfl, sm, nka, hka, hlt, hl32, hrest, hle, hend⟩
    refine ⟨_, rfl, ka, _, rfl, .inl (SqL.of hka), _, rfl, _, _, rfl, rfl, _, rfl, ?_⟩
    rw [nv_len]
    by_cases hc : (l.length : Int) < (m : Int)
    · refine dT hc ⟨_, fun _ _ z => z, ?_⟩
      refine ⟨_, rfl, ka, _, rfl, .inl (SqL.of hka), ?_⟩
      rw [nv_len]
      refine ⟨_, rfl, ka, rfl, ⟨_, SqL.of hka⟩, fun D2 nD2 => ?_⟩
      refine lc_list (K := K) (a := ka) (xs := nv l) (fun j H4 => Same H' H4 ∧ H4 D2 = some (.lst (nv ((l.take j).filter (Oc05.borne h at_ l))))) ⟨same_new nD2, upd_same⟩ (fun j H4 _ q => SqL.of (q.1 ka _ hka)) ?_ ?_
      · rintro j y H4 hy ⟨sm4, hD4⟩
        obtain ⟨u, hu, rfl⟩ := lst_get hy
        have hu2 := hlt u (List.mem_of_getElem? hu)
        have eu := take_snoc hu
        have sm5 := L2.Same.trans sm sm4
        have B5 := B.same sm5
        refine ⟨rfl, _, rfl, x, dx, fs, rfl, B5.ins, B5.no _ (by decide), _, rfl, _, rfl, x, ka, at_, h, u, l, rfl, O.same sm5, hu2, sm4 ka _ hka, hlt, fun H5 s5 => ⟨_, rfl, ?_⟩⟩
        have sm45 := L2.Same.trans sm4 s5
        have hD5 := s5 D2 _ hD4
        cases e : Oc05.borne h at_ l u with
        | true =>
          refine bT rfl ⟨_, rfl, _, hD5, ?_, same_upd sm45 nD2, ?_⟩
          · rw [nv_len]
            have z1 := List.length_filter_le (Oc05.borne h at_ l) (l.take j)
            rw [List.length_take] at z1
            have : (1000 : Nat) < sizeLine := by decide
            omega
          · rw [upd_same, eu, List.filter_append, List.filter_cons_of_pos e, List.filter_nil, nv_snoc]
        | false =>
          refine bF rfl ⟨sm45, ?_⟩
          rw [hD5, eu, List.filter_append, List.filter_cons_of_neg (by rw [e]; decide), List.filter_nil, List.append_nil]
      · rintro H4 ⟨sm4, hD4⟩
        rw [nv_len, List.take_length] at hD4
        have z1 := List.length_filter_le (Oc05.borne h at_ l) l
        refine ⟨l.length, by omega, D2, l.filter (Oc05.borne h at_ l), l.length, _, rfl, rfl, L2.Same.trans sm sm4, L2.Same.free sm nD2, hD4, fun u hu => hlt u (List.mem_filter.mp hu).1, by omega, ?_, z1, fun e => ?_⟩
        · rw [← rest_turn, hrest]
        · have e2 := (filter_len _ _).mp e
          rw [e2]
          exact rest_stays e
    · refine dF hc ?_
      have e := hend (by omega)
      rw [← hrest, e] at k
      exact ⟨_, rfl, k H' ka sm nka hka⟩
theorem lk_here {f : Str} {x : V} {fs : List (Str × V)} : ((f, x) :: fs).lookup f = some x := List.lookup_cons_self
theorem lk_past {f g : Str} {x : V} {fs : List (Str × V)} (ne : (f == g) = false) : ((g, x) :: fs).lookup f = fs.lookup f := by rw [List.lookup_cons, ne]
end
end Rh

set_option Elab.async false
set_option linter.all false
set_option maxRecDepth 100000
set_option maxHeartbeats 2000000
/-! # Rh, part J: a new thing of Kinds -/
namespace Rh
open PySem PySem.Spec PyProof.Rows L2
open Oc05 (Under)
/-! ### fields -/
theorem putF_new (f : Str) (v : V) : ∀ fs : List (Str × V), (∀ g ∈ fs.map (·.1), g ≠ f) → putF f v fs = fs ++ [(f, v)]
  | [], _ => rfl
  | (g, u) :: r, h => by
    have hg : ¬ g = f := h g (by simp)
    show (if g = f then _ else _) = _
    rw [if_neg hg, putF_new f v r fun g' h' => h g' (by simp at h' ⊢; exact .inr h')]
    rfl
theorem putF_add {names : List Str} {f : Str} {v : V} {fs : List (Str × V)} (e : fs.map (·.1) = names) (h : names.all (fun g => !decide (g = f)) = true) : putF f v fs = fs ++ [(f, v)] := by
  refine putF_new f v fs fun g hg => ?_
  rw [e] at hg
  have := List.all_eq_true.mp h g hg
  simpa using this
theorem lk_at {pre post : List (Str × V)} {f : Str} {v : V} {names : List Str} (e : pre.map (·.1) = names) (h : names.all (fun g => !decide (g = f)) = true) : (pre ++ (f, v) :: post).lookup f = some v := by
  induction pre generalizing names with
  | nil => exact lk_here
  | cons p r ih =>
    obtain ⟨g, u⟩ := p
    subst e
    have hg : ¬ g = f := by
      have := List.all_eq_true.mp h g (by simp)
      simpa using this
    show List.lookup f ((g, u) :: (r ++ (f, v) :: post)) = _
    rw [lk_past (beq_eq_false_iff_ne.mpr fun q => hg q.symm)]
    exact ih rfl (List.all_eq_true.mpr fun g' h' => List.all_eq_true.mp h g' (by simp at h' ⊢; exact .inr h'))
theorem lk_none {fs : List (Str × V)} {f : Str} {names : List Str} (e : fs.map (·.1) = names) (h : names.all (fun g => !decide (g = f)) = true) : fs.lookup f = none := by
  induction fs generalizing names with
  | nil => rfl
  | cons p r ih =>
    obtain ⟨g, u⟩ := p
    subst e
    have hg : ¬ g = f := by
      have := List.all_eq_true.mp h g (by simp)
      simpa using this
    rw [lk_past (beq_eq_false_iff_ne.mpr fun q => hg q.symm)]
    exact ih rfl (List.all_eq_true.mpr fun g' h' => List.all_eq_true.mp h g' (by simp at h' ⊢; exact .inr h'))
theorem no_of {fs : List (Str × V)} {ms names : List Str} (e : fs.map (·.1) = names) (h : (ms.all fun m => names.all (fun g => !decide (g = m))) = true) : ∀ m ∈ ms, fs.lookup m = none := fun m hm => lk_none e (List.all_eq_true.mp h m hm)
/-- all but the thing at x stays -/
def Kp (x : Addr) (H H' : Hp) : Prop := ∀ b o, H b = some o → b ≠ x → H' b = some o
theorem Kp.refl (x : Addr) (H : Hp) : Kp x H H := fun _ _ h _ => h
theorem Kp.same {x : Addr} {H H1 H2 : Hp} (k : Kp x H H1) (s : Same H1 H2) : Kp x H H2 := fun b o h n => s b o (k b o h n)
theorem Kp.upd {x : Addr} {H H1 : Hp} {o : HO} (k : Kp x H H1) : Kp x H (L2.upd H1 x o) := fun b u h n => by rw [upd_ne n]; exact k b u h n
section
variable {P : Program} {w : World} {K : PySem.W.Frag} {mg : Str → Option Value} {base : Heap} {CK CH : Addr}
def kf1 (aa : Addr) : List (Str × V) := [("atoms", .ref aa)]
def kf2 (aa oa : Addr) : List (Str × V) := [("atoms", .ref aa), ("over", .ref oa)]
def kf3 (aa oa ea : Addr) : List (Str × V) := [("atoms", .ref aa), ("over", .ref oa), ("every_kind", .ref ea)]
def kf4 (aa oa ea : Addr) (sb : Nat) : List (Str × V) := [("atoms", .ref aa), ("over", .ref oa), ("every_kind", .ref ea), ("some_bits", .int (sb : Int))]
def kf5 (aa oa ea : Addr) (sb eb : Nat) : List (Str × V) := [("atoms", .ref aa), ("over", .ref oa), ("every_kind", .ref ea), ("some_bits", .int (sb : Int)), ("each_bits", .int (eb : Int))]
def kf6 (aa oa ea : Addr) (sb eb : Nat) (ra : Addr) : List (Str × V) := [("atoms", .ref aa), ("over", .ref oa), ("every_kind", .ref ea), ("some_bits", .int (sb : Int)), ("each_bits", .int (eb : Int)), ("role_bits", .ref ra)]
def kf7 (aa oa ea : Addr) (sb eb : Nat) (ra sa : Addr) : List (Str × V) := [("atoms", .ref aa), ("over", .ref oa), ("every_kind", .ref ea), ("some_bits", .int (sb : Int)), ("each_bits", .int (eb : Int)), ("role_bits", .ref ra), ("shown_bits", .ref sa)]
def kf8 (aa oa ea : Addr) (sb eb : Nat) (ra sa pa : Addr) : List (Str × V) := [("atoms", .ref aa), ("over", .ref oa), ("every_kind", .ref ea), ("some_bits", .int (sb : Int)), ("each_bits", .int (eb : Int)), ("role_bits", .ref ra), ("shown_bits", .ref sa), ("possible", .ref pa)]
theorem pf1 {aa : Addr} : putF "atoms" (.ref aa) [] = kf1 aa := rfl
theorem pf2 {aa oa : Addr} : putF "over" (.ref oa) (kf1 aa) = kf2 aa oa := putF_add (names := ["atoms"]) rfl (by decide +kernel)
theorem pf3 {aa oa ea : Addr} : putF "every_kind" (.ref ea) (kf2 aa oa) = kf3 aa oa ea := putF_add (names := ["atoms", "over"]) rfl (by decide +kernel)
theorem pf4 {aa oa ea : Addr} {sb : Nat} : putF "some_bits" (.int (sb : Int)) (kf3 aa oa ea) = kf4 aa oa ea sb := putF_add (names := ["atoms", "over", "every_kind"]) rfl (by decide +kernel)
theorem pf5 {aa oa ea : Addr} {sb eb : Nat} : putF "each_bits" (.int (eb : Int)) (kf4 aa oa ea sb) = kf5 aa oa ea sb eb := putF_add (names := ["atoms", "over", "every_kind", "some_bits"]) rfl (by decide +kernel)
theorem pf6 {aa oa ea ra : Addr} {sb eb : Nat} : putF "role_bits" (.ref ra) (kf5 aa oa ea sb eb) = kf6 aa oa ea sb eb ra := putF_add (names := ["atoms", "over", "every_kind", "some_bits", "each_bits"]) rfl (by decide +kernel)
theorem pf7 {aa oa ea ra sa : Addr} {sb eb : Nat} : putF "shown_bits" (.ref sa) (kf6 aa oa ea sb eb ra) = kf7 aa oa ea sb eb ra sa := putF_add (names := ["atoms", "over", "every_kind", "some_bits", "each_bits", "role_bits"]) rfl (by decide +kernel)
theorem pf8 {aa oa ea ra sa pa : Addr} {sb eb : Nat} : putF "possible" (.ref pa) (kf7 aa oa ea sb eb ra sa) = kf8 aa oa ea sb eb ra sa pa := putF_add (names := ["atoms", "over", "every_kind", "some_bits", "each_bits", "role_bits", "shown_bits"]) rfl (by decide +kernel)
/-- a thing of Kinds, and the kinds that can be there -/
structure KP (CK : Addr) (H : Hp) (x : Addr) (at_ : List Oc.C) (h : List Under) (ts : List Nat) : Prop where
  ex : ∃ (dx : Addr) (fs : List (Str × V)) (pa : Addr), KB CK H x dx fs at_ ∧ KF H fs at_ h ∧ fs.lookup ("possible" : Str) = some (.ref pa) ∧ H pa = some (.lst (nv ts))
  at_ok : Atoms at_
  lo : low h
theorem KP.ko {H : Hp} {x : Addr} {at_ : List Oc.C} {h : List Under} {ts : List Nat} (B : KP CK H x at_ h ts) : KO CK H x at_ h := by
  obtain ⟨dx, fs, pa, b, f, _⟩ := B.ex
  exact ⟨⟨dx, fs, b, f⟩, B.at_ok, B.lo⟩
theorem KP.same {H H' : Hp} {x : Addr} {at_ : List Oc.C} {h : List Under} {ts : List Nat} (B : KP CK H x at_ h ts) (s : Same H H') : KP CK H' x at_ h ts := by
  obtain ⟨dx, fs, pa, b, f, p1, p2⟩ := B.ex
  exact ⟨⟨dx, fs, pa, b.same s, f.same s, p1, s pa _ p2⟩, B.at_ok, B.lo⟩
/- Kinds.__init__: slots 0 self, 1 atoms, 2 over, 3 axioms, 4 atom, 5 role -/
abbrev s_Kinds___init__ : Stmt := inClass (top 28) 0
abbrev N_Kinds___init__ : List Str := ["self", "atoms", "over", "axioms", "atom", "role"]
theorem sc_Kinds___init__ : FnScope N_Kinds___init__ ["self", "atoms", "over", "axioms"] (defScope s_Kinds___init__) := ⟨rfl, rfl, rfl, by decide +kernel, rfl, by decide +kernel, by decide +kernel⟩
def spKInit (CK : Addr) : Sp := fun vs H Q _ => ∃ (x dx aa oa xa : Addr) (at_ : List Oc.C) (h : List Under) (ax : List (Oc.C × Oc.C)) (us ovs xs : List V), vs = [.ref x, .ref aa, .ref oa, .ref xa] ∧ H x = some (.ins CK dx []) ∧ H aa = some (.lst us) ∧ CsAt H us at_ ∧ Atoms at_ ∧ low h ∧ H oa = some (.lst ovs) ∧ Paired (OvAt H h) ovs [0, 1, 2, 3] ∧
  H xa = some (.lst xs) ∧ XsAt H xs ax ∧ AxOk at_ ax ∧ ∀ H' : Hp, KP CK H' x at_ h (Oc05.types h at_ ax) → (∀ b o, H b = some o → b ≠ x → H' b = some o) → Q .non H'
/-- the flags that a comprehension over the atoms makes -/
theorem tag_is (c : Oc.C) : decide (V.int ((tag c : Nat) : Int) = V.int 6) = isSome c ∧ decide (V.int ((tag c : Nat) : Int) = V.int 7) = isEach c := by
  cases c <;> exact ⟨rfl, rfl⟩
theorem rg_nv (n : Nat) : rgV 0 ((1 : Int) * 2 ^ ((n : Nat) : Int).toNat) = nv (List.range (2 ^ n)) := by
  unfold rgV nv
  have e : ((1 : Int) * 2 ^ ((n : Nat) : Int).toNat - 0).toNat = 2 ^ n := by
    rw [Int.one_mul, Int.toNat_natCast, Int.sub_zero]
    exact_mod_cast Int.toNat_natCast (2 ^ n)
  rw [e]
  exact List.map_congr_left fun i _ => by rw [Int.zero_add]
theorem ok_kinit {f : Addr} {fd : FuncData} (F : Fun K "__init__" "Kinds.__init__" s_Kinds___init__ f fd) (T : Txt K mg CK CH) (D_bits_of : Df P w K mg base "bits_of" 1 ["flags"] spBits) (D_Kinds_bits_by_role : Mt P w K mg base CK "bits_by_role" 2 ["self", "role"] (spByRole CK))
    (D_Kinds_all_shown_bits : Mt P w K mg base CK "all_shown_bits" 5 ["self"] (spShown CK)) (D_Kinds_keeping : Mt P w K mg base CK "keeping" 5 ["self", "axioms"] (spKeeping CK)) (D_Kinds_largest_borne_out : Mt P w K mg base CK "largest_borne_out" 6 ["self", "kinds"] (spLargest CK)) : FnOk P w K mg base CX0 7 f fd ["self", "atoms", "over", "axioms"] (spKInit CK) := by
  refine F.ok sc_Kinds___init__ (fun vs H Q E h => ?_) (fun cdv A outer s H vs Q E hr h => ⟨_, (pss_cons (ps_fld (pv 0) (pv 1) rfl)
    (pss_cons (ps_fld (pv 0) (pv 2) rfl)
    (pss_cons (ps_fld (pv 0) (pe_listRg rfl rfl T.b_list (prg_1 rfl T.b_range (pe_op op_shl pe_int (pe_callB call_len_seq (by rfl) T.b_len (by decide +kernel) (pa_cons (pv 1) pa_nil))))) rfl)
    (pss_cons (ps_fld (pv 0) (pe_callD D_bits_of (rm hr) rfl (pa_cons (pe_lc (own := [("atom", 4)]) (g := (gName 4)) (tt := tYes) rfl sc_Kinds___init__.nd (pi_list (pv 1)) (blkOk_by (own := [("atom", 4)]) (N := N_Kinds___init__) (sc := defScope s_Kinds___init__) (by decide +kernel)) (fun _ _ _ _ _ => (pg_name (i := 4) sc_Kinds___init__.nd rfl (by first | exact .inl rfl | exact .inr rfl))) (fun _ _ _ _ _ => pts_nil) (fun _ _ _ _ _ => (pe_cmpR op_eq (pe_ix (ix_tupK (K := K) rfl) (pv 4) pe_int (fun _ _ => rfl)) (pe_gi rfl T.g_SOME) (nomark _)))) pa_nil)) rfl)
    (pss_cons (ps_fld (pv 0) (pe_callD D_bits_of (rm hr) rfl (pa_cons (pe_lc (own := [("atom", 4)]) (g := (gName 4)) (tt := tYes) rfl sc_Kinds___init__.nd (pi_list (pv 1)) (blkOk_by (own := [("atom", 4)]) (N := N_Kinds___init__) (sc := defScope s_Kinds___init__) (by decide +kernel)) (fun _ _ _ _ _ => (pg_name (i := 4) sc_Kinds___init__.nd rfl (by first | exact .inl rfl | exact .inr rfl))) (fun _ _ _ _ _ => pts_nil) (fun _ _ _ _ _ => (pe_cmpR op_eq (pe_ix (ix_tupK (K := K) rfl) (pv 4) pe_int (fun _ _ => rfl)) (pe_gi rfl T.g_EACH) (nomark _)))) pa_nil)) rfl)
    (pss_cons (ps_fld (pv 0) (pe_lc (own := [("role", 5)]) (g := (gName 5)) (tt := tYes) rfl sc_Kinds___init__.nd (pi_range1 (by rfl) T.b_range (pa_cons (pe_gi rfl T.g_ROLE_COUNT) pa_nil)) (blkOk_by (own := [("role", 5)]) (N := N_Kinds___init__) (sc := defScope s_Kinds___init__) (by decide +kernel)) (fun _ _ _ _ _ => (pg_name (i := 5) sc_Kinds___init__.nd rfl (by first | exact .inl rfl | exact .inr rfl))) (fun _ _ _ _ _ => pts_nil) (fun _ _ _ _ _ => (pe_methD (pv 0) T.cl_Kinds D_Kinds_bits_by_role (rm hr) (pa_cons (pv 5) pa_nil)))) rfl)
    (pss_cons (ps_fld (pv 0) (pe_methD0 (pv 0) T.cl_Kinds D_Kinds_all_shown_bits (rm hr)) rfl)
    (pss_one (ps_fld (pv 0) (pe_methD (pv 0) T.cl_Kinds D_Kinds_largest_borne_out (rm hr) (pa_cons (pe_methD (pv 0) T.cl_Kinds D_Kinds_keeping (rm hr) (pa_cons (pv 3) pa_nil)) pa_nil)) rfl))))))))), ?_⟩)
  · obtain ⟨x, dx, aa, oa, xa, at_, h, ax, us, ovs, xs, rfl, _⟩ := h
    rfl
  · obtain ⟨x, dx, aa, oa, xa, at_, h, ax, us, ovs, xs, rfl, hx, haa, hus, AT, lo, hoa, hov, hxa, hxs, hax, k⟩ := h
    have nxa : xa ≠ x := ne_of hxa hx (fun z => by cases z)
    have few := AT.few
    have p5 := pow5 few
    have hul : us.length = at_.length := Paired.length hus
    have nax : aa ≠ x := ne_of haa hx (fun z => by cases z)
    have nox : oa ≠ x := ne_of hoa hx (fun z => by cases z)
    refine ⟨_, rfl, _, rfl, x, CK, dx, [], rfl, hx, T.cl_Kinds, T.nk_atoms, by show 0 < 1000; decide, ?_⟩
    rw [pf1]
    refine ⟨_, rfl, _, rfl, x, CK, dx, _, rfl, upd_same, T.cl_Kinds, T.nk_over, by show 1 < 1000; decide, ?_⟩
    rw [pf2, upd_upd]
    have k2 : Kp x H (upd H x (.ins CK dx (kf2 aa oa))) := (Kp.refl x H).upd
    refine ⟨_, rfl, aa, us, rfl, .inl (SqL.of (k2 aa _ haa nax)), _, _, rfl, rfl, ⟨by omega, by omega, by decide⟩, _, rfl, ?_, fun ea nea => ?_⟩
    · rw [hul, Int.one_mul, Int.toNat_natCast]
      have : (2 : Int) ^ at_.length ≤ 32 := by exact_mod_cast p5
      have : (0 : Int) < 2 ^ at_.length := by exact_mod_cast Nat.two_pow_pos at_.length
      exact RgOk.of_le (by omega) (by omega) (by omega) (by omega)
    rw [hul, rg_nv]
    have hx2 : upd H x (.ins CK dx (kf2 aa oa)) x = some (.ins CK dx (kf2 aa oa)) := upd_same
    have nex : x ≠ ea := ne_of_none hx2 nea
    refine ⟨_, rfl, x, CK, dx, _, rfl, by rw [upd_ne nex]; exact upd_same, T.cl_Kinds, T.nk_every_kind, by show 2 < 1000; decide, ?_⟩
    rw [pf3]
    obtain ⟨H3, eH3⟩ : ∃ H3, H3 = upd (upd (upd H x (.ins CK dx (kf2 aa oa))) ea (.lst (nv (List.range (2 ^ at_.length))))) x (.ins CK dx (kf3 aa oa ea)) := ⟨_, rfl⟩
    have hx3 : H3 x = some (.ins CK dx (kf3 aa oa ea)) := by rw [eH3, upd_same]
    have hea3 : H3 ea = some (.lst (nv (List.range (2 ^ at_.length)))) := by rw [eH3, upd_ne nex.symm, upd_same]
    have k3 : Kp x H H3 := by rw [eH3]; exact (k2.same (same_new nea)).upd
    have st3 : Stay H H3 := fun b xs e => k3 b _ e (ne_of e hx (fun z => by cases z))
    rw [← eH3]
    clear eH3 k2 hx2 nea
    -- some_bits
    refine ⟨_, rfl, aa, rfl, ⟨_, SqL.of (k3 aa _ haa nax)⟩, fun D nD => ?_⟩
    refine lc_list (K := K) (a := aa) (xs := us) (fun i H' => Same H3 H' ∧ H' D = some (.lst (((at_.take i).map isSome).map V.bl))) ⟨same_new nD, upd_same⟩ (fun i H' _ q => SqL.of (q.1 aa _ (k3 aa _ haa nax))) ?_ ?_
    · rintro i v H' hv ⟨sm, hD⟩
      obtain ⟨c, hc, b, rfl, hb⟩ := CsAt.get hus hv
      have hlt : i < us.length := (List.getElem?_eq_some_iff.mp hv).1
      refine ⟨rfl, _, rfl, b, _, _, _, rfl, rfl, SqT.of (sm b _ (st3 b _ hb)), nv_at (i := 0) (toks_get0 c), rfl, _, hD, ?_, same_upd sm nD, ?_⟩
      · rw [List.length_map, List.length_map, List.length_take]
        have : (1000 : Nat) < sizeLine := by decide
        omega
      · rw [upd_same, take_snoc hc, List.map_append, List.map_append]
        show some (HO.lst (_ ++ [V.bl (decide (V.int ((tag c : Nat) : Int) = V.int 6))])) = _
        rw [(tag_is c).1]
        rfl
    rintro H4' ⟨sm4, hD4⟩
    rw [hul, List.take_length] at hD4
    refine ⟨D, _, rfl, hD4, by rw [List.length_map]; omega, fun H4 s4 => ?_⟩
    have s34 := L2.Same.trans sm4 s4
    refine ⟨_, rfl, x, CK, dx, _, rfl, s34 x _ hx3, T.cl_Kinds, T.nk_some_bits, by show 3 < 1000; decide, ?_⟩
    rw [show ((bl (at_.map isSome) : Nat) : Int) = ((someB at_ : Nat) : Int) from rfl, pf4]
    obtain ⟨H5, eH5⟩ : ∃ H5, H5 = upd H4 x (.ins CK dx (kf4 aa oa ea (someB at_))) := ⟨_, rfl⟩
    have nex' : ea ≠ x := nex.symm
    have hx5 : H5 x = some (.ins CK dx (kf4 aa oa ea (someB at_))) := by rw [eH5, upd_same]
    have hea5 : H5 ea = some (.lst (nv (List.range (2 ^ at_.length)))) := by rw [eH5, upd_ne nex']; exact s34 ea _ hea3
    have k5 : Kp x H H5 := by rw [eH5]; exact (k3.same s34).upd
    have st5 : Stay H H5 := fun b xs e => k5 b _ e (ne_of e hx (fun z => by cases z))
    rw [← eH5]
    clear eH5 hD4 s34 s4 sm4 nD D
    -- each_bits
    refine ⟨_, rfl, aa, rfl, ⟨_, SqL.of (k5 aa _ haa nax)⟩, fun D nD => ?_⟩
    refine lc_list (K := K) (a := aa) (xs := us) (fun i H' => Same H5 H' ∧ H' D = some (.lst (((at_.take i).map isEach).map V.bl))) ⟨same_new nD, upd_same⟩ (fun i H' _ q => SqL.of (q.1 aa _ (k5 aa _ haa nax))) ?_ ?_
    · rintro i v H' hv ⟨sm, hD⟩
      obtain ⟨c, hc, b, rfl, hb⟩ := CsAt.get hus hv
      have hlt : i < us.length := (List.getElem?_eq_some_iff.mp hv).1
      refine ⟨rfl, _, rfl, b, _, _, _, rfl, rfl, SqT.of (sm b _ (st5 b _ hb)), nv_at (i := 0) (toks_get0 c), rfl, _, hD, ?_, same_upd sm nD, ?_⟩
      · rw [List.length_map, List.length_map, List.length_take]
        have : (1000 : Nat) < sizeLine := by decide
        omega
      · rw [upd_same, take_snoc hc, List.map_append, List.map_append]
        show some (HO.lst (_ ++ [V.bl (decide (V.int ((tag c : Nat) : Int) = V.int 7))])) = _
        rw [(tag_is c).2]
        rfl
    rintro H6' ⟨sm6, hD6⟩
    rw [hul, List.take_length] at hD6
    refine ⟨D, _, rfl, hD6, by rw [List.length_map]; omega, fun H6 s6 => ?_⟩
    have s56 := L2.Same.trans sm6 s6
    refine ⟨_, rfl, x, CK, dx, _, rfl, s56 x _ hx5, T.cl_Kinds, T.nk_each_bits, by show 4 < 1000; decide, ?_⟩
    rw [show ((bl (at_.map isEach) : Nat) : Int) = ((eachB at_ : Nat) : Int) from rfl, pf5]
    obtain ⟨H7, eH7⟩ : ∃ H7, H7 = upd H6 x (.ins CK dx (kf5 aa oa ea (someB at_) (eachB at_))) := ⟨_, rfl⟩
    have hx7 : H7 x = some (.ins CK dx (kf5 aa oa ea (someB at_) (eachB at_))) := by rw [eH7, upd_same]
    have hea7 : H7 ea = some (.lst (nv (List.range (2 ^ at_.length)))) := by rw [eH7, upd_ne nex']; exact s56 ea _ hea5
    have k7 : Kp x H H7 := by rw [eH7]; exact (k5.same s56).upd
    have st7 : Stay H H7 := fun b xs e => k7 b _ e (ne_of e hx (fun z => by cases z))
    rw [← eH7]
    clear eH7 hD6 s56 s6 sm6 nD D
    have B7 : KB CK H7 x dx (kf5 aa oa ea (someB at_) (eachB at_)) at_ := ⟨hx7, no_of (names := ["atoms", "over", "every_kind", "some_bits", "each_bits"]) rfl (by decide +kernel), ⟨aa, us, lk_here, k7 aa _ haa nax, CsAt.stay st7 hus⟩,
      ⟨ea, lk_at (pre := kf2 aa oa) (names := ["atoms", "over"]) rfl (by decide +kernel), hea7⟩⟩
    -- role_bits
    refine ⟨4, rfl, by decide, by decide, fun D nD => ?_⟩
    refine lc_range (n := 4) (fun i H' => Same H7 H' ∧ H' D = some (.lst (nv ((([0, 1, 2, 3] : List Nat).take i).map (roleB at_))))) ⟨same_new nD, upd_same⟩ ?_ ?_
    · rintro i H' hi ⟨sm, hD⟩
      have hi4 : ([0, 1, 2, 3] : List Nat)[i]? = some i := by
        have c : i = 0 ∨ i = 1 ∨ i = 2 ∨ i = 3 := by omega
        rcases c with rfl | rfl | rfl | rfl <;> rfl
      refine ⟨rfl, _, rfl, x, dx, _, rfl, sm x _ hx7, B7.no _ (by decide), _, rfl, x, dx, _, at_, i, ?_, B7.same sm, AT, fun H'' s'' => ?_⟩
      · show [V.ref x, V.int (0 + (i : Int))] = _
        rw [Int.zero_add]
      · refine ⟨_, s'' D _ hD, ?_, same_upd (L2.Same.trans sm s'') nD, ?_⟩
        · rw [nv_len, List.length_map, List.length_take]
          have : (1000 : Nat) < sizeLine := by decide
          show min i 4 < _
          omega
        · rw [upd_same, take_snoc hi4, List.map_append, List.map_singleton, nv_snoc]
    rintro H8 ⟨sm8, hD8⟩
    have hx8 := sm8 x _ hx7
    have nDx : D ≠ x := fun e => by rw [e, hx7] at nD; cases nD
    refine ⟨_, rfl, x, CK, dx, _, rfl, hx8, T.cl_Kinds, T.nk_role_bits, by show 5 < 1000; decide, ?_⟩
    rw [pf6]
    obtain ⟨H9, eH9⟩ : ∃ H9, H9 = upd H8 x (.ins CK dx (kf6 aa oa ea (someB at_) (eachB at_) D)) := ⟨_, rfl⟩
    have hx9 : H9 x = some (.ins CK dx (kf6 aa oa ea (someB at_) (eachB at_) D)) := by rw [eH9, upd_same]
    have hea9 : H9 ea = some (.lst (nv (List.range (2 ^ at_.length)))) := by rw [eH9, upd_ne nex']; exact sm8 ea _ hea7
    have hra9 : H9 D = some (.lst (nv (([0, 1, 2, 3] : List Nat).map (roleB at_)))) := by rw [eH9, upd_ne nDx]; exact hD8
    have k9 : Kp x H H9 := by rw [eH9]; exact (k7.same sm8).upd
    have st9 : Stay H H9 := fun b xs e => k9 b _ e (ne_of e hx (fun z => by cases z))
    rw [← eH9]
    clear eH9
    have B9 : KB CK H9 x dx (kf6 aa oa ea (someB at_) (eachB at_) D) at_ := ⟨hx9, no_of (names := ["atoms", "over", "every_kind", "some_bits", "each_bits", "role_bits"]) rfl (by decide +kernel), ⟨aa, us, lk_here, k9 aa _ haa nax, CsAt.stay st9 hus⟩,
      ⟨ea, lk_at (pre := kf2 aa oa) (names := ["atoms", "over"]) rfl (by decide +kernel), hea9⟩⟩
    -- shown_bits
    refine ⟨_, rfl, x, dx, _, rfl, hx9, B9.no _ (by decide), x, dx, _, at_, rfl, B9, AT, fun H10 sa s10 nsa hsa => ?_⟩
    have hx10 := s10 x _ hx9
    have nsx : sa ≠ x := fun e => by rw [e, hx9] at nsa; cases nsa
    refine ⟨_, rfl, x, CK, dx, _, rfl, hx10, T.cl_Kinds, T.nk_shown_bits, by show 6 < 1000; decide, ?_⟩
    rw [pf7]
    obtain ⟨Hc, eHc⟩ : ∃ Hc, Hc = upd H10 x (.ins CK dx (kf7 aa oa ea (someB at_) (eachB at_) D sa)) := ⟨_, rfl⟩
    have hxc : Hc x = some (.ins CK dx (kf7 aa oa ea (someB at_) (eachB at_) D sa)) := by rw [eHc, upd_same]
    have kc : Kp x H Hc := by rw [eHc]; exact (k9.same s10).upd
    have stc : Stay H Hc := fun b xs e => kc b _ e (ne_of e hx (fun z => by cases z))
    have hec : Hc ea = some (.lst (nv (List.range (2 ^ at_.length)))) := by rw [eHc, upd_ne nex']; exact s10 ea _ hea9
    have hrc : Hc D = some (.lst (nv (([0, 1, 2, 3] : List Nat).map (roleB at_)))) := by rw [eHc, upd_ne nDx]; exact s10 D _ hra9
    have hsc : Hc sa = some (.lst (nv ((List.range (2 ^ at_.length)).map (shownB at_)))) := by rw [eHc, upd_ne nsx]; exact hsa
    rw [← eHc]
    clear eHc
    have Bc : KB CK Hc x dx (kf7 aa oa ea (someB at_) (eachB at_) D sa) at_ := ⟨hxc, no_of (names := ["atoms", "over", "every_kind", "some_bits", "each_bits", "role_bits", "shown_bits"]) rfl (by decide +kernel), ⟨aa, us, lk_here, kc aa _ haa nax, CsAt.stay stc hus⟩,
      ⟨ea, lk_at (pre := kf2 aa oa) (names := ["atoms", "over"]) rfl (by decide +kernel), hec⟩⟩
    have Ok : KO CK Hc x at_ h := ⟨⟨dx, _, Bc, ⟨lk_at (pre := kf3 aa oa ea) (names := ["atoms", "over", "every_kind"]) rfl (by decide +kernel), lk_at (pre := kf4 aa oa ea (someB at_)) (names := ["atoms", "over", "every_kind", "some_bits"]) rfl (by decide +kernel),
      ⟨D, lk_at (pre := kf5 aa oa ea (someB at_) (eachB at_)) (names := ["atoms", "over", "every_kind", "some_bits", "each_bits"]) rfl (by decide +kernel), hrc⟩, ⟨sa, lk_at (pre := kf6 aa oa ea (someB at_) (eachB at_) D) (names := ["atoms", "over", "every_kind", "some_bits", "each_bits", "role_bits"]) rfl (by decide +kernel), hsc⟩,
      ⟨oa, ovs, lk_at (pre := kf1 aa) (names := ["atoms"]) rfl (by decide +kernel), kc oa _ hoa nox, Paired.mono (fun v r q => q.same fun b xs e => kc b _ e (ne_of e hx (fun z => by cases z))) hov⟩⟩⟩, AT, lo⟩
    -- possible
    refine ⟨_, rfl, x, dx, _, rfl, hxc, Bc.no _ (by decide), _, rfl, x, dx, _, rfl, hxc, Bc.no _ (by decide), _, rfl, x, xa, at_, h, xs, ax, rfl, Ok, kc xa _ hxa nxa, XsAt.stay stc hxs, hax, fun H11 D1 s11 nD1 hD1 => ?_⟩
    refine ⟨x, D1, at_, h, _, rfl, Ok.same s11, hD1, fun u hu => List.mem_range.mp (List.mem_filter.mp hu).1, ?_, fun H12 pa s12 npa hpa => ?_⟩
    · have := range_keep_len (2 ^ at_.length) (Oc.keeps at_ ax)
      omega
    rw [← types_eq] at hpa
    have sc2 := L2.Same.trans s11 s12
    have hx12 := sc2 x _ hxc
    have npx : pa ≠ x := fun e => by rw [e, s11 x _ hxc] at npa; cases npa
    refine ⟨_, rfl, x, CK, dx, _, rfl, hx12, T.cl_Kinds, T.nk_possible, by show 7 < 1000; decide, ?_⟩
    rw [pf8]
    obtain ⟨He, eHe⟩ : ∃ He, He = upd H12 x (.ins CK dx (kf8 aa oa ea (someB at_) (eachB at_) D sa pa)) := ⟨_, rfl⟩
    have hxe : He x = some (.ins CK dx (kf8 aa oa ea (someB at_) (eachB at_) D sa pa)) := by rw [eHe, upd_same]
    have ke : Kp x H He := by rw [eHe]; exact (kc.same sc2).upd
    have ste : Stay H He := fun b xs e => ke b _ e (ne_of e hx (fun z => by cases z))
    have hee : He ea = some (.lst (nv (List.range (2 ^ at_.length)))) := by rw [eHe, upd_ne nex']; exact sc2 ea _ hec
    have hre : He D = some (.lst (nv (([0, 1, 2, 3] : List Nat).map (roleB at_)))) := by rw [eHe, upd_ne nDx]; exact sc2 D _ hrc
    have hse : He sa = some (.lst (nv ((List.range (2 ^ at_.length)).map (shownB at_)))) := by rw [eHe, upd_ne nsx]; exact sc2 sa _ hsc
    have hpe : He pa = some (.lst (nv (Oc05.types h at_ ax))) := by rw [eHe, upd_ne npx]; exact hpa
    rw [← eHe]
    clear eHe
    refine k He ⟨⟨dx, _, pa, ⟨hxe, no_of (names := ["atoms", "over", "every_kind", "some_bits", "each_bits", "role_bits", "shown_bits", "possible"]) rfl (by decide +kernel), ⟨aa, us, lk_here, ke aa _ haa nax, CsAt.stay ste hus⟩,
      ⟨ea, lk_at (pre := kf2 aa oa) (names := ["atoms", "over"]) rfl (by decide +kernel), hee⟩⟩, ⟨lk_at (pre := kf3 aa oa ea) (names := ["atoms", "over", "every_kind"]) rfl (by decide +kernel), lk_at (pre := kf4 aa oa ea (someB at_)) (names := ["atoms", "over", "every_kind", "some_bits"]) rfl (by decide +kernel),
      ⟨D, lk_at (pre := kf5 aa oa ea (someB at_) (eachB at_)) (names := ["atoms", "over", "every_kind", "some_bits", "each_bits"]) rfl (by decide +kernel), hre⟩, ⟨sa, lk_at (pre := kf6 aa oa ea (someB at_) (eachB at_) D) (names := ["atoms", "over", "every_kind", "some_bits", "each_bits", "role_bits"]) rfl (by decide +kernel), hse⟩,
      ⟨oa, ovs, lk_at (pre := kf1 aa) (names := ["atoms"]) rfl (by decide +kernel), ke oa _ hoa nox, Paired.mono (fun v r q => q.same fun b xs e => ke b _ e (ne_of e hx (fun z => by cases z))) hov⟩⟩,
      lk_at (pre := kf7 aa oa ea (someB at_) (eachB at_) D sa) (names := ["atoms", "over", "every_kind", "some_bits", "each_bits", "role_bits", "shown_bits"]) rfl (by decide +kernel), hpe⟩, AT, lo⟩ ke
end
end Rh

set_option Elab.async false
set_option linter.all false
set_option maxRecDepth 100000
set_option maxHeartbeats 2000000
/-! # Rh, part O: kinds: having, steps, names -/
namespace Rh
open PySem PySem.Spec PyProof.Rows L2
open Oc05 (Under)
section
variable {P : Program} {w : World} {K : PySem.W.Frag} {mg : Str → Option Value} {base : Heap} {CK CH : Addr}
theorem few32 {at_ : List Oc.C} (A : Atoms at_) (h : List Under) (ax : List Oc.Axiom) : (Oc05.types h at_ ax).length ≤ 32 := Nat.le_trans (types_len h at_ ax) (pow5 A.few)
/-! ### having -/
/- Kinds.having: slots 0 self, 1 concept, 2 truths, 3 kind -/
abbrev s_Kinds_having : Stmt := inClass (top 28) 12
abbrev N_Kinds_having : List Str := ["self", "concept", "truths", "kind"]
theorem sc_Kinds_having : FnScope N_Kinds_having ["self", "concept"] (defScope s_Kinds_having) := ⟨rfl, rfl, rfl, by decide +kernel, rfl, by decide +kernel, by decide +kernel⟩
def spHaving (CK : Addr) : Sp := fun vs H Q _ => ∃ (x : Addr) (at_ : List Oc.C) (h : List Under) (ax : List Oc.Axiom) (v : V) (c : Oc.C), vs = [.ref x, v] ∧ KP CK H x at_ h (Oc05.types h at_ ax) ∧ CAt H v c ∧ wf c = true ∧ (toks c).length ≤ 1000 ∧ (∀ d ∈ c.atoms, d ∈ at_) ∧
  ∀ (H' : Hp) (D : Addr), Same H H' → H D = none → H' D = some (.lst (nv ((Oc05.types h at_ ax).filter fun u => Oc.holds at_ u c))) → Q (.ref D) H'
theorem ok_having {f : Addr} {fd : FuncData} (F : Fun K "having" "Kinds.having" s_Kinds_having f fd) (T : Txt K mg CK CH) (D_Kinds_truths : Mt P w K mg base CK "truths" 4 ["self", "concept"] (spTruths CK)) : FnOk P w K mg base CX0 5 f fd ["self", "concept"] (spHaving CK) := by
  refine F.ok sc_Kinds_having (fun vs H Q E h => ?_) (fun cdv A outer s H vs Q E hr h => ⟨_, (pss_cons (ps_set (i := 2) sc_Kinds_having.nd rfl (by first | exact .inl rfl | exact .inr rfl) (pe_methD (pv 0) T.cl_Kinds D_Kinds_truths (rm hr) (pa_cons (pv 1) pa_nil)))
    (pss_one (ps_ret (pe_lc (own := [("kind", 3)]) (g := (gName 3)) rfl sc_Kinds_having.nd (pi_list (pe_fld (pv 0) rfl)) (blkOk_by (own := [("kind", 3)]) (N := N_Kinds_having) (sc := defScope s_Kinds_having) (by decide +kernel)) (fun _ _ _ _ _ => (pg_name (i := 3) sc_Kinds_having.nd rfl (by first | exact .inl rfl | exact .inr rfl))) (fun _ _ _ _ _ => (pts_one (pt_val (pe_ix (ix_listK (K := K) rfl) (pv 2) (pv 3) (fun _ _ => rfl))))) (fun _ _ _ _ _ => (pv 3)))))), ?_⟩)
  · obtain ⟨x, at_, h, ax, v, c, rfl, _⟩ := h
    rfl
  · obtain ⟨x, at_, h, ax, v, c, rfl, O, cat, wc, hsz, hin, k⟩ := h
    obtain ⟨dx, fs, pa, B, FF, p1, p2⟩ := O.ex
    have l32 := few32 O.at_ok h ax
    refine ⟨_, rfl, x, dx, fs, rfl, B.ins, B.no _ (by decide), _, rfl, x, dx, fs, at_, v, c, rfl, B, O.at_ok, cat, wc, hsz, hin, fun H1 L s1 nL hL => ?_⟩
    have B1 := B.same s1
    have p21 := s1 pa _ p2
    refine ⟨_, rfl, x, CK, dx, fs, _, rfl, B1.ins, T.cl_Kinds, T.nk_possible, p1, pa, rfl, ⟨_, SqL.of p21⟩, fun D nD => ?_⟩
    obtain ⟨ts, hts⟩ : ∃ ts, ts = Oc05.types h at_ ax := ⟨_, rfl⟩
    rw [← hts] at p21 l32 k
    refine lc_list (K := K) (a := pa) (xs := nv ts) (fun i H' => Same H1 H' ∧ H' D = some (.lst (nv ((ts.take i).filter fun u => Oc.holds at_ u c)))) ⟨same_new nD, upd_same⟩ (fun i H' _ q => SqL.of (q.1 pa _ p21)) ?_ ?_
    · rintro i y H' hy ⟨sm, hD⟩
      obtain ⟨u, hu, rfl⟩ := lst_get hy
      have hu2 : u < 2 ^ at_.length := by
        have m := List.mem_of_getElem? hu
        rw [hts] at m
        exact types_lt m
      have eu := take_snoc hu
      refine ⟨rfl, _, rfl, _, rfl, L, _, _, _, rfl, rfl, SqL.of (sm L _ hL), at_of rfl (hold_get hu2), _, rfl, ?_⟩
      cases e2 : Oc.holds at_ u c with
      | true =>
        refine bT rfl ⟨_, rfl, _, hD, ?_, same_upd sm nD, ?_⟩
        · rw [nv_len]
          have z1 := List.length_filter_le (fun u => Oc.holds at_ u c) (ts.take i)
          rw [List.length_take] at z1
          have : (1000 : Nat) < sizeLine := by decide
          omega
        · rw [upd_same, eu, List.filter_append, List.filter_cons_of_pos (by exact e2), List.filter_nil, nv_snoc]
      | false =>
        refine bF rfl ⟨sm, ?_⟩
        rw [hD, eu, List.filter_append, List.filter_cons_of_neg (by rw [e2]; decide), List.filter_nil, List.append_nil]
    · rintro H' ⟨sm, hD⟩
      rw [nv_len, List.take_length] at hD
      exact k H' D (L2.Same.trans s1 sm) (L2.Same.free s1 nD) hD
/-! ### steps -/
/- Kinds.steps: slots 0 self, 1 kind, 2 place -/
abbrev s_Kinds_steps : Stmt := inClass (top 28) 13
abbrev N_Kinds_steps : List Str := ["self", "kind", "place"]
theorem sc_Kinds_steps : FnScope N_Kinds_steps ["self", "kind"] (defScope s_Kinds_steps) := ⟨rfl, rfl, rfl, by decide +kernel, rfl, by decide +kernel, by decide +kernel⟩
def spSteps (CK : Addr) : Sp := fun vs H Q _ => ∃ (x : Addr) (at_ : List Oc.C) (h : List Under) (ax : List Oc.Axiom) (t : Nat), vs = [.ref x, .int (t : Int)] ∧ KP CK H x at_ h (Oc05.types h at_ ax) ∧ t ∈ Oc05.types h at_ ax ∧
  ∀ (H' : Hp) (D : Addr) (us : List V), Same H H' → H D = none → H' D = some (.lst us) → UsAt H' us (Oc05.needs h at_ (Oc05.types h at_ ax) t) → Q (.ref D) H'
theorem ok_steps {f : Addr} {fd : FuncData} (F : Fun K "steps" "Kinds.steps" s_Kinds_steps f fd) (T : Txt K mg CK CH) (D_Kinds_owed_places : Mt P w K mg base CK "owed_places" 2 ["self", "kind"] (spPlaces CK)) (D_Kinds_bearer : Mt P w K mg base CK "bearer" 4 ["self", "kind", "place", "kept"] (spBearer CK)) :
    FnOk P w K mg base CX0 5 f fd ["self", "kind"] (spSteps CK) := by
  refine F.ok sc_Kinds_steps (fun vs H Q E h => ?_) (fun cdv A outer s H vs Q E hr h => ⟨_, (pss_one (ps_ret (pe_lc (own := [("place", 2)]) (g := (gName 2)) (tt := tYes) rfl sc_Kinds_steps.nd (pi_list (pe_methD (pv 0) T.cl_Kinds D_Kinds_owed_places (rm hr) (pa_cons (pv 1) pa_nil))) (blkOk_by (own := [("place", 2)]) (N := N_Kinds_steps) (sc := defScope s_Kinds_steps) (by decide +kernel)) (fun _ _ _ _ _ => (pg_name (i := 2) sc_Kinds_steps.nd rfl (by first | exact .inl rfl | exact .inr rfl))) (fun _ _ _ _ _ => pts_nil) (fun _ _ _ _ _ => (pe_tup (pa_cons (pe_ix (ix_tupK (K := K) rfl) (pe_ix (ix_listK (K := K) rfl) (pe_fldK (K := K) rfl (pv 0) rfl) (pv 2) (fun _ _ => rfl)) pe_int (fun _ _ => rfl)) (pa_cons (pe_methD (pv 0) T.cl_Kinds D_Kinds_bearer (rm hr) (pa_cons (pv 1) (pa_cons (pv 2) (pa_cons (pe_fldK (K := K) rfl (pv 0) rfl) pa_nil)))) pa_nil))))))), ?_⟩)
  · obtain ⟨x, at_, h, ax, t, rfl, _⟩ := h
    rfl
  · obtain ⟨x, at_, h, ax, t, rfl, O, ht, k⟩ := h
    obtain ⟨dx, fs, pa, B, FF, p1, p2⟩ := O.ex
    have A := O.at_ok.ats
    have few := O.at_ok.few
    rw [needs_places A ht] at k
    refine ⟨_, rfl, x, dx, fs, rfl, B.ins, B.no _ (by decide), _, rfl, x, at_, h, t, rfl, O.ko, fun H1 L s1 nL hL => ⟨L, rfl, ⟨_, SqL.of hL⟩, fun D nD => ?_⟩⟩
    have hpl : (places at_ t).length ≤ at_.length := range_keep_len _ _
    refine lc_list (K := K) (a := L) (xs := nv (places at_ t)) (fun i H' => ∃ us, Same H1 H' ∧ H' D = some (.lst us) ∧ UsAt H' us (((places at_ t).take i).map (stepP h at_ (Oc05.types h at_ ax) t))) ⟨[], same_new nD, upd_same, .nil⟩ (fun i H' _ ⟨_, q, _⟩ => SqL.of (q L _ hL)) ?_ ?_
    · rintro i y H' hy ⟨us, sm, hD, hus⟩
      obtain ⟨p, hp, rfl⟩ := lst_get hy
      obtain ⟨hp1, hp2⟩ := places_owes A (List.mem_of_getElem? hp)
      have s2 := L2.Same.trans s1 sm
      have B2 := B.same s2
      have O2 := O.same s2
      have p22 := s2 pa _ p2
      obtain ⟨aa, as, h1, h2, h3⟩ := B2.atoms
      obtain ⟨v, hv, b, rfl, hb⟩ := CsAt.get' h3 (atP_get hp1)
      obtain ⟨u, hu⟩ := types_pick ht (List.mem_of_getElem? (atP_get hp1)) hp2
      have tg := owes_tag hp2
      refine ⟨rfl, _, rfl, x, CK, dx, fs, _, rfl, B2.ins, T.cl_Kinds, T.nk_atoms, h1, _, rfl, aa, _, _, _, rfl, rfl, SqL.of h2, at_of rfl hv, b, _, _, _, rfl, rfl, SqT.of hb, nv_at (i := 1) (toks_get1 tg),
        _, rfl, x, dx, fs, rfl, B2.ins, B2.no _ (by decide), _, rfl, _, rfl, _, rfl, x, CK, dx, fs, _, rfl, B2.ins, T.cl_Kinds, T.nk_possible, p1, x, pa, at_, h, t, p, atP at_ p, _, rfl, O2.ko, types_lt ht, atP_get hp1, tg, p22, fun u hu => types_lt hu, ?_⟩
      rw [hu]
      refine ⟨by show 2 ≤ sizeLine; decide, fun tp ntp => ?_⟩
      have nDt : D ≠ tp := ne_of_none hD ntp
      have hD2 : upd H' tp (.tup [.int (roleOf (atP at_ p) : Nat), .int (u : Int)]) D = some (.lst us) := by rw [upd_ne nDt]; exact hD
      have hl := Paired.length hus
      have hi := (List.getElem?_eq_some_iff.mp hp).1
      rw [List.length_map, List.length_take] at hl
      refine ⟨us, hD2, ?_, us ++ [.ref tp], same_upd (sameN sm ntp) nD, upd_same, ?_⟩
      · have : (1000 : Nat) < sizeLine := by decide
        omega
      · rw [take_snoc hp, List.map_append]
        refine Paired.snoc (UsAt.stay ((stay_new ntp).trans (stay_lst hD2)) hus) ⟨tp, rfl, ?_⟩
        rw [upd_ne nDt.symm, upd_same]
        unfold stepP
        rw [hu]
        rfl
    · rintro H' ⟨us, sm, hD, hus⟩
      rw [nv_len, List.take_length] at hus
      exact k H' D us (L2.Same.trans s1 sm) (L2.Same.free s1 nD) hD hus
end
end Rh

set_option Elab.async false
set_option linter.all false
set_option maxRecDepth 100000
set_option maxHeartbeats 2000000
/-! # Rh, part Q: kinds: names -/
namespace Rh
open PySem PySem.Spec PyProof.Rows L2
open Oc05 (Under)
section
variable {P : Program} {w : World} {K : PySem.W.Frag} {mg : Str → Option Value} {base : Heap} {CK CH : Addr}
/-! ### names_sum -/
theorem tag_name {c : Oc.C} (h : tag c = 2) : ∃ n, c = .name n := by
  cases c <;> first | exact ⟨_, rfl⟩ | (simp [tag] at h)
theorem nmOf_not {at_ : List Oc.C} {t : Nat} {c : Oc.C} (h : ¬ tag c = 2) : nmOf at_ t c = none := by
  cases c <;> first | rfl | (simp [tag] at h)
theorem fm_len {α β : Type} (f : α → Option β) (l : List α) : (l.filterMap f).length ≤ l.length := List.length_filterMap_le f l
theorem sum_cast : ∀ l : List Nat, (l.map fun a => ((2 ^ a : Nat) : Int)).sum = (((l.map fun a => 2 ^ a).sum : Nat) : Int)
  | [] => rfl
  | a :: l => by
    rw [List.map_cons, List.sum_cons, List.map_cons, List.sum_cons, sum_cast l]
    push_cast
    rfl
/- Kinds.names_sum: slots 0 self, 1 kind, 2 names, 3 place, 4 atom, 5 name -/
abbrev s_Kinds_names_sum : Stmt := inClass (top 28) 14
abbrev N_Kinds_names_sum : List Str := ["self", "kind", "names", "place", "atom", "name"]
theorem sc_Kinds_names_sum : FnScope N_Kinds_names_sum ["self", "kind"] (defScope s_Kinds_names_sum) := ⟨rfl, rfl, rfl, by decide +kernel, rfl, by decide +kernel, by decide +kernel⟩
def spNamesSum (CK : Addr) : Sp := fun vs H Q _ => ∃ (x : Addr) (at_ : List Oc.C) (h : List Under) (t : Nat), vs = [.ref x, .int (t : Int)] ∧ KO CK H x at_ h ∧ ∀ H', Same H H' → Q (.int (Oc05.namesOf at_ t : Nat)) H'
theorem ok_names_sum {f : Addr} {fd : FuncData} (F : Fun K "names_sum" "Kinds.names_sum" s_Kinds_names_sum f fd) (T : Txt K mg CK CH) (D_bit_is_set : Df P w K mg base "bit_is_set" 1 ["number", "place"] spBitSet) :
    FnOk P w K mg base CX0 2 f fd ["self", "kind"] (spNamesSum CK) := by
  refine F.ok sc_Kinds_names_sum (fun vs H Q E h => ?_) (fun cdv A outer s H vs Q E hr h => ⟨_, (pss_cons (ps_setLc (i := 2) (own := [("place", 3), ("atom", 4)]) (g := (gTup K 2 (gCons (gName 3) (gCons (gName 4) gNil)))) rfl sc_Kinds_names_sum.nd rfl rfl (sw_true rfl rfl rfl (by decide +kernel)) (pi_enum (by rfl) T.b_enumerate (pa_cons (pe_fld (pv 0) rfl) pa_nil)) (blkOk_by (own := [("place", 3), ("atom", 4)]) (N := N_Kinds_names_sum) (sc := defScope s_Kinds_names_sum) (by decide +kernel)) (fun _ _ _ _ _ => (pg_tup rfl (pgs_cons (pg_name (i := 3) sc_Kinds_names_sum.nd rfl (by first | exact .inl rfl | exact .inr rfl)) (pgs_cons (pg_name (i := 4) sc_Kinds_names_sum.nd rfl (by first | exact .inl rfl | exact .inr rfl)) pgs_nil)))) (fun _ _ _ _ _ => (pts_one (PW.pt (pw_and (pt_cmpR op_eq (pe_ix (ix_tupK (K := K) rfl) (pv 4) pe_int (fun _ _ => rfl)) (pe_gi rfl T.g_NAMED) (nomark _)) (pw_and1 (pt_val (pe_callD D_bit_is_set (rm hr) rfl (pa_cons (pv 1) (pa_cons (pv 3) pa_nil))))))))) (fun _ _ _ _ _ => (pe_ix (ix_tupK (K := K) rfl) (pv 4) pe_int (fun _ _ => rfl))))
    (pss_one (ps_ret (pe_callB (cr_sum rfl) (by rfl) T.b_sum (by decide +kernel) (pa_cons (pe_lc (own := [("name", 5)]) (g := (gName 5)) (tt := tYes) rfl sc_Kinds_names_sum.nd (pi_list (pv 2)) (blkOk_by (own := [("name", 5)]) (N := N_Kinds_names_sum) (sc := defScope s_Kinds_names_sum) (by decide +kernel)) (fun _ _ _ _ _ => (pg_name (i := 5) sc_Kinds_names_sum.nd rfl (by first | exact .inl rfl | exact .inr rfl))) (fun _ _ _ _ _ => pts_nil) (fun _ _ _ _ _ => (pe_op op_shl pe_int (pv 5)))) pa_nil))))), ?_⟩)
  · obtain ⟨x, at_, h, t, rfl, _⟩ := h
    rfl
  · obtain ⟨x, at_, h, t, rfl, O, k⟩ := h
    obtain ⟨dx, fs, B, FF⟩ := O.ex
    obtain ⟨aa, us, h1, h2, h3⟩ := B.atoms
    have hul : us.length = at_.length := Paired.length h3
    have few := O.at_ok.few
    have A := O.at_ok.ats
    refine ⟨_, rfl, x, CK, dx, fs, _, rfl, B.ins, T.cl_Kinds, T.nk_atoms, h1, aa, us, rfl, SqL.of h2, fun D nD => ?_⟩
    refine lc_it (walk_enum (K := K) (a := aa) (xs := us)) (fun i H' => Same H H' ∧ H' D = some (.lst (nv ((at_.take i).filterMap (nmOf at_ t))))) ⟨same_new nD, upd_same⟩ (fun i H' _ q => SqL.of (q.1 aa _ h2)) ?_ ?_
    · rintro i y H0 H' hi ⟨sm, hD⟩ ⟨tp, x1, x2, rfl, ntp, rfl, e1, e2⟩
      cases e1
      obtain ⟨c, hc, b, rfl, hb⟩ := CsAt.get h3 e2
      have ntD : D ≠ tp := ne_of_none hD ntp
      have hil := (List.getElem?_eq_some_iff.mp hc).1
      have etake := take_snoc hc
      have ebit : Oc.bit t i = Oc.holds at_ t c := (holds_at A.nd hc (A.is c (List.mem_of_getElem? hc))).symm
      have sm1 : Same H (upd H0 tp (.tup [.int (i : Nat), .ref b])) := sameN sm ntp
      have hD1 : upd H0 tp (.tup [.int (i : Nat), .ref b]) D = some (.lst (nv ((at_.take i).filterMap (nmOf at_ t)))) := by rw [upd_ne ntD]; exact hD
      refine ⟨tp, _, rfl, SqT.of upd_same, rfl, _, _, rfl, _, _, rfl, rfl, ?_⟩
      generalize upd H0 tp (.tup [.int (i : Nat), .ref b]) = H1 at *
      have skip : nmOf at_ t c = none → some (HO.lst (nv ((at_.take i).filterMap (nmOf at_ t)))) = some (HO.lst (nv ((at_.take (i + 1)).filterMap (nmOf at_ t)))) := by
        intro e
        rw [etake, List.filterMap_append, List.filterMap_cons_none e, List.filterMap_nil, List.append_nil]
      refine ⟨rfl, _, rfl, b, _, _, _, rfl, rfl, SqT.of (sm1 b _ hb), nv_at (i := 0) (toks_get0 c), rfl, _, rfl, ?_⟩
      by_cases ht : tag c = 2
      · refine bT (decide_eq_true (by rw [ht]; rfl)) ?_
        obtain ⟨n, rfl⟩ := tag_name ht
        refine ⟨_, rfl, _, rfl, t, i, rfl, _, congrArg V.bl ebit, ?_⟩
        cases e : Oc.holds at_ t (.name n) with
        | true =>
          refine bT rfl ⟨_, rfl, b, _, _, _, rfl, rfl, SqT.of (sm1 b _ hb), nv_at (l := toks (.name n)) (i := 1) rfl, _, hD1, ?_, same_upd sm1 nD, ?_⟩
          · rw [nv_len]
            have := fm_len (nmOf at_ t) (at_.take i)
            rw [List.length_take] at this
            have : (1000 : Nat) < sizeLine := by decide
            omega
          · have en : nmOf at_ t (.name n) = some n := if_pos e
            rw [upd_same, etake, List.filterMap_append, List.filterMap_cons_some en, List.filterMap_nil, nv_snoc]
        | false =>
          refine bF rfl ⟨sm1, ?_⟩
          rw [hD1]
          exact skip (if_neg (by rw [e]; decide))
      · refine bF (decide_eq_false fun q => ht (by have := V.int.inj q; omega)) (bF rfl ⟨sm1, ?_⟩)
        rw [hD1]
        exact skip (nmOf_not ht)
    · rintro H' ⟨sm, hD⟩
      rw [hul, List.take_length] at hD
      have hn4 : ∀ n ∈ nmL at_ t, n < 4 := by
        intro n hn
        have := (O.at_ok.wfs _ (mem_nmL.mp hn).1).1
        simp [wf] at this
        exact this
      have hnl : (nmL at_ t).length ≤ 5 := Nat.le_trans (fm_len _ _) few
      refine ⟨_, rfl, D, rfl, ⟨_, SqL.of hD⟩, fun D2 nD2 => ?_⟩
      refine lc_list (K := K) (a := D) (xs := nv (nmL at_ t)) (fun i H3 => Same H' H3 ∧ H3 D2 = some (.lst ((((nmL at_ t).take i).map fun a => ((2 ^ a : Nat) : Int)).map V.int))) ⟨same_new nD2, upd_same⟩ (fun i H3 _ q => SqL.of (q.1 D _ hD)) ?_ ?_
      · rintro i y H3 hy ⟨sm3, hD3⟩
        obtain ⟨n, hn, rfl⟩ := lst_get hy
        have n4 := hn4 n (List.mem_of_getElem? hn)
        have hil := (List.getElem?_eq_some_iff.mp hn).1
        refine ⟨rfl, _, rfl, _, _, rfl, rfl, ⟨by omega, by omega, by decide⟩, _, hD3, ?_, same_upd sm3 nD2, ?_⟩
        · rw [List.length_map, List.length_map, List.length_take]
          have : (1000 : Nat) < sizeLine := by decide
          omega
        · rw [upd_same, take_snoc hn, List.map_append, List.map_append]
          show some (HO.lst (_ ++ [V.int (1 * 2 ^ ((n : Nat) : Int).toNat)])) = _
          rw [Int.one_mul, Int.toNat_natCast]
          have e : (2 : Int) ^ n = ((2 ^ n : Nat) : Int) := by push_cast; rfl
          rw [e]
          rfl
      · rintro H3 ⟨sm3, hD3⟩
        rw [nv_len, List.take_length] at hD3
        refine ⟨D2, _, rfl, SqL.of hD3, ?_⟩
        rw [sum_cast, names_eq A.nd fun c hc => (O.at_ok.wfs c hc).1]
        exact k H3 (L2.Same.trans sm sm3)
/-! ### allows -/
/-- a thing of kind t may have (or lack) the name -/
def alw (at_ : List Oc.C) (t n : Nat) (b : Bool) : Bool := if Oc.C.name n ∈ at_ then Oc.holds at_ t (.name n) == b else true
/- Kinds.allows: slots 0 self, 1 kind, 2 name, 3 had -/
abbrev s_Kinds_allows : Stmt := inClass (top 28) 15
abbrev N_Kinds_allows : List Str := ["self", "kind", "name", "had"]
theorem sc_Kinds_allows : FnScope N_Kinds_allows ["self", "kind", "name", "had"] (defScope s_Kinds_allows) := ⟨rfl, rfl, rfl, by decide +kernel, rfl, by decide +kernel, by decide +kernel⟩
def spAllows (CK : Addr) : Sp := fun vs H Q _ => ∃ (x : Addr) (at_ : List Oc.C) (h : List Under) (t n : Nat) (b : Bool), vs = [.ref x, .int (t : Int), .int (n : Int), .bl b] ∧ KO CK H x at_ h ∧ n < 4 ∧ ∀ H', Same H H' → Q (.bl (alw at_ t n b)) H'
theorem ok_allows {f : Addr} {fd : FuncData} (F : Fun K "allows" "Kinds.allows" s_Kinds_allows f fd) (T : Txt K mg CK CH) (D_bit_is_set : Df P w K mg base "bit_is_set" 1 ["number", "place"] spBitSet) :
    FnOk P w K mg base CX0 2 f fd ["self", "kind", "name", "had"] (spAllows CK) := by
  refine F.ok sc_Kinds_allows (fun vs H Q E h => ?_) (fun cdv A outer s H vs Q E hr h => ⟨_, (pss_cons (ps_if (pt_cmpR (op_notInD (u65 hr)) (pe_tup (pa_cons (pe_gi rfl T.g_NAMED) (pa_cons (pv 2) pa_nil))) (pe_fld (pv 0) rfl) rfl) (pss_one (ps_ret pe_bl)) pss_nil)
    (pss_one (ps_ret (pe_cmpR op_eq (pe_callD D_bit_is_set (rm hr) rfl (pa_cons (pv 1) (pa_cons (pe_bm PySem.F.plainAttrs_list PySem.F.slot_list_index PySem.F.type_list_index (mt_indexD (u65 hr)) (pe_fld (pv 0) rfl) (pa_cons (pe_tup (pa_cons (pe_gi rfl T.g_NAMED) (pa_cons (pv 2) pa_nil))) pa_nil)) pa_nil))) (pv 3) (nomark _))))), ?_⟩)
  · obtain ⟨x, at_, h, t, n, b, rfl, _⟩ := h
    rfl
  · obtain ⟨x, at_, h, t, n, b, rfl, O, n4, k⟩ := h
    have A := O.at_ok.ats
    have wn : wf (.name n) = true := decide_eq_true n4
    have wall : ∀ c ∈ at_, wf c = true := fun c hc => (O.at_ok.wfs c hc).1
    refine ⟨_, rfl, by show 2 ≤ sizeLine; decide, fun tp ntp => ?_⟩
    have s1 : Same H (upd H tp (.tup [.int 2, .int (n : Int)])) := same_new ntp
    have htp : upd H tp (.tup [.int 2, .int (n : Int)]) tp = some (.tup (nv (toks (.name n)))) := upd_same
    obtain ⟨dx, fs, B, FF⟩ := (O.same s1).ex
    obtain ⟨aa, us, h1, h2, h3⟩ := B.atoms
    refine ⟨_, rfl, x, CK, dx, fs, _, rfl, B.ins, T.cl_Kinds, T.nk_atoms, h1, cd (.name n), _, CAt.dp ⟨tp, rfl, htp⟩, CsAt.dpl h2 h3, cd_shaped _, cds_shaped _, _, rfl, ?_⟩
    rw [cds_any wn wall]
    by_cases hin : Oc.C.name n ∈ at_
    · refine bF (by rw [decide_eq_true hin]; rfl) ?_
      obtain ⟨j, g1, g2, g3⟩ := idxOf?_some hin
      generalize upd H tp (.tup [.int 2, .int (n : Int)]) = H1 at *
      have ebit : Oc.bit t j = Oc.holds at_ t (.name n) := (holds_at A.nd g2 rfl).symm
      refine ⟨_, rfl, _, rfl, x, CK, dx, fs, _, rfl, B.ins, T.cl_Kinds, T.nk_atoms, h1, .inl ⟨rfl, _, SqL.of h2⟩, _, rfl, by show 2 ≤ sizeLine; decide, fun tq ntq => ?_⟩
      have s2 : Same H1 (upd H1 tq (.tup [.int 2, .int (n : Int)])) := same_new ntq
      have htq : upd H1 tq (.tup [.int 2, .int (n : Int)]) tq = some (.tup (nv (toks (.name n)))) := upd_same
      refine ⟨aa, _, cd (.name n), _, j, cd (.name n), rfl, rfl, CsAt.dpl (s2 aa _ h2) (CsAt.stay (stayS s2) h3), CAt.dp ⟨tq, rfl, htq⟩, cds_shaped _, cd_shaped _, by rw [List.getElem?_map, g2]; rfl, by rw [cd_eqv wn wn]; exact decide_eq_true rfl, ?_, t, j, rfl, _, rfl, rfl, ?_⟩
      · intro m z hm hz
        rw [List.getElem?_map] at hz
        cases e : at_[m]? with
        | none => rw [e] at hz; cases hz
        | some c =>
          rw [e] at hz
          cases hz
          rw [cd_eqv (wall c (List.mem_of_getElem? e)) wn]
          exact decide_eq_false fun q => g3 m hm (by rw [e, q])
      · have e : alw at_ t n b = decide (V.bl (Oc.bit t j) = V.bl b) := by
          unfold alw
          rw [if_pos hin, ebit]
          cases Oc.holds at_ t (.name n) <;> cases b <;> rfl
        have q := k _ (L2.Same.trans s1 s2)
        rw [e] at q
        exact q
    · refine bT (by rw [decide_eq_false hin]; rfl) ?_
      have e : alw at_ t n b = true := if_neg hin
      rw [e] at k
      exact k _ s1
/-! ### name_under -/
def undB (at_ : List Oc.C) (ts : List Nat) (a b : Nat) : Bool := decide (a = b) || ts.all fun u => !(alw at_ u a true && alw at_ u b false)
/- Kinds.name_under: slots 0 self, 1 lower, 2 upper, 3 kind -/
abbrev s_Kinds_name_under : Stmt := inClass (top 28) 16
abbrev N_Kinds_name_under : List Str := ["self", "lower", "upper", "kind"]
theorem sc_Kinds_name_under : FnScope N_Kinds_name_under ["self", "lower", "upper"] (defScope s_Kinds_name_under) := ⟨rfl, rfl, rfl, by decide +kernel, rfl, by decide +kernel, by decide +kernel⟩
def spNameUnder (CK : Addr) : Sp := fun vs H Q _ => ∃ (x : Addr) (at_ : List Oc.C) (h : List Under) (ts : List Nat) (a b : Nat), vs = [.ref x, .int (a : Int), .int (b : Int)] ∧ KP CK H x at_ h ts ∧ a < 4 ∧ b < 4 ∧ ∀ H', Same H H' → Q (.bl (undB at_ ts a b)) H'
theorem ok_name_under {f : Addr} {fd : FuncData} (F : Fun K "name_under" "Kinds.name_under" s_Kinds_name_under f fd) (T : Txt K mg CK CH) (D_Kinds_allows : Mt P w K mg base CK "allows" 2 ["self", "kind", "name", "had"] (spAllows CK)) :
    FnOk P w K mg base CX0 3 f fd ["self", "lower", "upper"] (spNameUnder CK) := by
  refine F.ok sc_Kinds_name_under (fun vs H Q E h => ?_) (fun cdv A outer s H vs Q E hr h => ⟨_, (pss_cons (ps_if (pt_cmpR op_eq (pv 1) (pv 2) (nomark _)) (pss_one (ps_ret pe_bl)) pss_nil)
    (pss_cons (ps_for PassesOwn.never rfl (pi_list (pe_fld (pv 0) rfl)) (pg_name (i := 3) sc_Kinds_name_under.nd rfl (by first | exact .inl rfl | exact .inr rfl)) (pss_one (ps_if (PW.pt (pw_and (pt_val (pe_methD (pv 0) T.cl_Kinds D_Kinds_allows (rm hr) (pa_cons (pv 3) (pa_cons (pv 1) (pa_cons pe_bl pa_nil))))) (pw_and1 (pt_val (pe_methD (pv 0) T.cl_Kinds D_Kinds_allows (rm hr) (pa_cons (pv 3) (pa_cons (pv 2) (pa_cons pe_bl pa_nil)))))))) (pss_one (ps_ret pe_bl)) pss_nil)))
    (pss_one (ps_ret pe_bl)))), ?_⟩)
  · obtain ⟨x, at_, h, ts, a, b, rfl, _⟩ := h
    rfl
  · obtain ⟨x, at_, h, ts, a, b, rfl, O, a4, b4, k⟩ := h
    obtain ⟨dx, fs, pa, B, FF, p1, p2⟩ := O.ex
    refine ⟨_, rfl, _, rfl, rfl, _, rfl, ?_⟩
    by_cases hab : a = b
    · refine bT (decide_eq_true (by rw [hab])) ?_
      have e : undB at_ ts a b = true := by unfold undB; rw [decide_eq_true hab]; rfl
      rw [e] at k
      exact k H (Same.refl H)
    · refine bF (decide_eq_false fun q => hab (by have := V.int.inj q; omega)) ?_
      have e0 : undB at_ ts a b = ts.all fun u => !(alw at_ u a true && alw at_ u b false) := by unfold undB; rw [decide_eq_false hab]; rfl
      rw [e0] at k
      refine ⟨_, rfl, x, CK, dx, fs, _, rfl, B.ins, T.cl_Kinds, T.nk_possible, p1, pa, rfl, ⟨_, SqL.of p2⟩, ?_⟩
      refine for_list (K := K) (a := pa) (xs := nv ts) (fun i σ H' => ∃ v3 : Option V, σ = [some (.ref x), some (.int (a : Int)), some (.int (b : Int)), v3] ∧ Same H H' ∧ (ts.take i).all (fun u => !(alw at_ u a true && alw at_ u b false)) = true)
        ⟨none, rfl, Same.refl H, rfl⟩ (fun i σ H' _ ⟨_, _, e, _⟩ => SqL.of (e pa _ p2)) ?_ ?_
      · rintro i y σ H' hy ⟨v3, rfl, sm, hall⟩
        obtain ⟨u, hu, rfl⟩ := lst_get hy
        have etake := take_snoc hu
        have B1 := B.same sm
        refine ⟨_, rfl, x, dx, fs, rfl, B1.ins, B1.no _ (by decide), _, rfl, _, rfl, x, at_, h, u, a, true, rfl, (O.same sm).ko, a4, fun H2 s2 => ⟨_, rfl, ?_⟩⟩
        have sm2 := L2.Same.trans sm s2
        have B2 := B.same sm2
        cases e1 : alw at_ u a true with
        | false =>
          refine bF rfl (bF rfl ⟨_, rfl, sm2, ?_⟩)
          rw [etake, List.all_append, hall]
          simp [e1]
        | true =>
          refine bT rfl ?_
          refine ⟨_, rfl, x, dx, fs, rfl, B2.ins, B2.no _ (by decide), _, rfl, _, rfl, x, at_, h, u, b, false, rfl, (O.same sm2).ko, b4, fun H3 s3 => ⟨_, rfl, ?_⟩⟩
          have sm3 := L2.Same.trans sm2 s3
          cases e2 : alw at_ u b false with
          | true =>
            refine bT rfl ?_
            have e : (ts.all fun u => !(alw at_ u a true && alw at_ u b false)) = false := by
              rw [List.all_eq_false]
              exact ⟨u, List.mem_of_getElem? hu, by rw [e1, e2]; decide⟩
            rw [e] at k
            exact k H3 sm3
          | false =>
            refine bF rfl ⟨_, rfl, sm3, ?_⟩
            rw [etake, List.all_append, hall]
            simp [e1, e2]
      · rintro σ H' ⟨v3, rfl, sm, hall⟩
        rw [nv_len, List.take_length] at hall
        rw [hall] at k
        exact k H' sm
end
end Rh

set_option Elab.async false
set_option linter.all false
set_option maxRecDepth 100000
set_option maxHeartbeats 2000000
/-! # Rh, part W: the told model: ways, things -/
namespace Rh
open PySem PySem.Spec PyProof.Rows L2
open Oc05 (Under)
theorem u64 {A : Around} {j : Nat} (hr : Room j A) : A.units + 64 < cLine := by have := hr.un; omega
/-- a way: from, by, to -/
def WAt (H : Hp) (v : V) (x : Nat × Nat × Nat) : Prop := ∃ b, v = .ref b ∧ H b = some (.tup [.int (x.1 : Int), .int (x.2.1 : Int), .int (x.2.2 : Int)])
abbrev WsAt (H : Hp) : List V → List (Nat × Nat × Nat) → Prop := Paired (WAt H)
theorem WAt.stay {H H' : Hp} {v : V} {x : Nat × Nat × Nat} (s : Stay H H') (h : WAt H v x) : WAt H' v x := by
  obtain ⟨b, rfl, e⟩ := h
  exact ⟨b, rfl, s b _ e⟩
theorem WsAt.stay {H H' : Hp} {vs : List V} {cs : List (Nat × Nat × Nat)} (s : Stay H H') (h : WsAt H vs cs) : WsAt H' vs cs := Paired.mono (fun _ _ q => WAt.stay s q) h
theorem pair_app {α β : Type} {F : α → β → Prop} : ∀ {a b : List α} {c d : List β}, Paired F a c → Paired F b d → Paired F (a ++ b) (c ++ d)
  | _, _, _, _, .nil, q => q
  | _, _, _, _, .cons x r, q => .cons x (pair_app r q)
section
variable {P : Program} {w : World} {K : PySem.W.Frag} {mg : Str → Option Value} {base : Heap} {CK CH : Addr}
/-! ### ways_of_step -/
/- ways_of_step: slots 0 source, 1 target, 2 uppers, 3 ways, 4 upper -/
abbrev s_ways_of_step : Stmt := top 30
abbrev N_ways_of_step : List Str := ["source", "target", "uppers", "ways", "upper"]
theorem sc_ways_of_step : FnScope N_ways_of_step ["source", "target", "uppers"] (defScope s_ways_of_step) := ⟨rfl, rfl, rfl, by decide +kernel, rfl, by decide +kernel, by decide +kernel⟩
def spWays : Sp := fun vs H Q _ => ∃ (i j : Nat) (ua : Addr) (us : List Nat), vs = [.int (i : Int), .int (j : Int), .ref ua] ∧ H ua = some (.lst (nv us)) ∧ (∀ s ∈ us, s < 4) ∧ us.length ≤ 100 ∧
  ∀ (H' : Hp) (D : Addr) (ws : List V), Same H H' → H D = none → H' D = some (.lst ws) → WsAt H' ws (waysOf i j us) → Q (.ref D) H'
theorem ok_ways {f : Addr} {fd : FuncData} (F : Fun K "ways_of_step" "ways_of_step" s_ways_of_step f fd) (T : Txt K mg CK CH) (D_turned : Df P w K mg base "turned" 1 ["role"] spTurned) : FnOk P w K mg base CX0 2 f fd ["source", "target", "uppers"] spWays := by
  refine F.ok sc_ways_of_step (fun vs H Q E h => ?_) (fun cdv A outer s H vs Q E hr h => ⟨_, (pss_cons (ps_set (i := 3) sc_ways_of_step.nd rfl (by first | exact .inl rfl | exact .inr rfl) (pe_lst pa_nil))
    (pss_cons (ps_for PassesOwn.never rfl (pi_list (pv 2)) (pg_name (i := 4) sc_ways_of_step.nd rfl (by first | exact .inl rfl | exact .inr rfl)) (pss_one (ps_if (pt_cmpR op_lt (pv 4) (pe_gi rfl T.g_FORWARD_ROLE_COUNT) (nomark _)) (pss_one (ps_expr (pe_bm PySem.F.plainAttrs_list PySem.F.slot_list_append PySem.F.type_list_append mt_append (pv 3) (pa_cons (pe_tup (pa_cons (pv 0) (pa_cons (pv 4) (pa_cons (pv 1) pa_nil)))) pa_nil)))) (pss_one (ps_expr (pe_bm PySem.F.plainAttrs_list PySem.F.slot_list_append PySem.F.type_list_append mt_append (pv 3) (pa_cons (pe_tup (pa_cons (pv 1) (pa_cons (pe_callD D_turned (rm hr) rfl (pa_cons (pv 4) pa_nil)) (pa_cons (pv 0) pa_nil)))) pa_nil)))))))
    (pss_one (ps_ret (pv 3))))), ?_⟩)
  · obtain ⟨i, j, ua, us, rfl, _⟩ := h
    rfl
  · obtain ⟨i, j, ua, us, rfl, hua, h4, hl, k⟩ := h
    refine ⟨by show 0 ≤ sizeLine; decide, fun D nD => ?_⟩
    refine ⟨_, rfl, ua, rfl, ⟨_, SqL.of (same_new nD ua _ hua)⟩, for_list (K := K) (a := ua) (xs := nv us) (fun n σ H' => ∃ (v4 : Option V) (ws : List V), σ = [some (.int (i : Int)), some (.int (j : Int)), some (.ref ua), some (.ref D), v4] ∧ Same H H' ∧ H' D = some (.lst ws) ∧ WsAt H' ws (waysOf i j (us.take n)))
      ⟨none, [], rfl, same_new nD, upd_same, .nil⟩ (fun n σ H' _ ⟨_, _, _, sm, _⟩ => SqL.of (sm ua _ hua)) ?_ ?_⟩
    · rintro n y σ H' hy ⟨v4, ws, rfl, sm, hD, hws⟩
      obtain ⟨s0, hs0, rfl⟩ := lst_get hy
      have s4 := h4 s0 (List.mem_of_getElem? hs0)
      have hn := (List.getElem?_eq_some_iff.mp hs0).1
      have wl : ws.length < sizeLine := by
        have g := Paired.length hws
        unfold waysOf at g
        rw [List.length_map, List.length_take] at g
        have : (1000 : Nat) < sizeLine := by decide
        omega
      have est : waysOf i j (us.take (n + 1)) = waysOf i j (us.take n) ++ [if s0 < 2 then (i, s0, j) else (j, s0 - 2, i)] := by
        unfold waysOf
        rw [take_snoc hs0, List.map_append]
        rfl
      refine ⟨_, rfl, _, _, rfl, rfl, _, rfl, ?_⟩
      by_cases h2 : (s0 : Int) < 2
      · refine dT h2 ?_
        refine ⟨_, rfl, .inl ⟨rfl, _, SqL.of hD⟩, _, rfl, _, rfl, _, rfl, by show 3 ≤ sizeLine; decide, fun tp ntp => ?_⟩
        have nDt : D ≠ tp := ne_of_none hD ntp
        have hD2 : upd H' tp (.tup [.int (i : Int), .int (s0 : Int), .int (j : Int)]) D = some (.lst ws) := by rw [upd_ne nDt]; exact hD
        refine ⟨D, ws, _, rfl, rfl, hD2, wl, ?_⟩
        refine ⟨_, ws ++ [.ref tp], rfl, same_upd (sameN sm ntp) nD, upd_same, ?_⟩
        rw [est, if_pos (show s0 < 2 by omega)]
        refine Paired.snoc (WsAt.stay ((stay_new ntp).trans (stay_lst hD2)) hws) ⟨tp, rfl, ?_⟩
        rw [upd_ne nDt.symm, upd_same]
      · refine dF h2 ?_
        have et := turned_high (show ¬ s0 < 2 by omega)
        refine ⟨_, rfl, .inl ⟨rfl, _, SqL.of hD⟩, _, rfl, _, rfl, s0, rfl, s4, _, rfl, by show 3 ≤ sizeLine; decide, fun tp ntp => ?_⟩
        have nDt : D ≠ tp := ne_of_none hD ntp
        have hD2 : upd H' tp (.tup [.int (j : Int), .int (Oc05.turned s0 : Nat), .int (i : Int)]) D = some (.lst ws) := by rw [upd_ne nDt]; exact hD
        refine ⟨D, ws, _, rfl, rfl, hD2, wl, ?_⟩
        refine ⟨_, ws ++ [.ref tp], rfl, same_upd (sameN sm ntp) nD, upd_same, ?_⟩
        rw [est, if_neg (show ¬ s0 < 2 by omega)]
        refine Paired.snoc (WsAt.stay ((stay_new ntp).trans (stay_lst hD2)) hws) ⟨tp, rfl, ?_⟩
        rw [upd_ne nDt.symm, upd_same, et]
    · rintro σ H' ⟨v4, ws, rfl, sm, hD, hws⟩
      rw [nv_len, List.take_length] at hws
      exact ⟨_, rfl, k H' D ws sm nD hD hws⟩
/-! ### told_things -/
/- told_things: slots 0 kinds, 1 first, 2 things, 3 place, 4 kind, 5 role, 6 other -/
abbrev s_told_things : Stmt := top 31
abbrev N_told_things : List Str := ["kinds", "first", "things", "place", "kind", "role", "other"]
theorem sc_told_things : FnScope N_told_things ["kinds", "first"] (defScope s_told_things) := ⟨rfl, rfl, rfl, by decide +kernel, rfl, by decide +kernel, by decide +kernel⟩
def spThings (CK : Addr) : Sp := fun vs H Q _ => ∃ (x : Addr) (at_ : List Oc.C) (h : List Under) (ax : List Oc.Axiom) (t : Nat), vs = [.ref x, .int (t : Int)] ∧ KP CK H x at_ h (Oc05.types h at_ ax) ∧ t ∈ Oc05.types h at_ ax ∧
  ∀ (H' : Hp) (D : Addr) (ws : List Nat), Same H H' → H D = none → H' D = some (.lst (nv ws)) → ws = Oc05.gather h at_ (Oc05.types h at_ ax) ((Oc05.types h at_ ax).length + 1) 0 [t] → Gth h at_ (Oc05.types h at_ ax) ws.length ws → Q (.ref D) H'
theorem ok_things {f : Addr} {fd : FuncData} (F : Fun K "told_things" "told_things" s_told_things f fd) (T : Txt K mg CK CH) (D_Kinds_steps : Mt P w K mg base CK "steps" 5 ["self", "kind"] (spSteps CK)) : FnOk P w K mg base CX0 6 f fd ["kinds", "first"] (spThings CK) := by
  refine F.ok sc_told_things (fun vs H Q E h => ?_) (fun cdv A outer s H vs Q E hr h => ⟨_, (pss_cons (ps_set (i := 2) sc_told_things.nd rfl (by first | exact .inl rfl | exact .inr rfl) (pe_lst (pa_cons (pv 1) pa_nil)))
    (pss_cons (ps_set (i := 3) sc_told_things.nd rfl (by first | exact .inl rfl | exact .inr rfl) pe_int)
    (pss_cons (ps_while PassesOwn.never (pt_cmpR op_lt (pv 3) (pe_callB call_len_seq (by rfl) T.b_len (by decide +kernel) (pa_cons (pv 2) pa_nil)) (nomark _)) (pss_cons (ps_set (i := 4) sc_told_things.nd rfl (by first | exact .inl rfl | exact .inr rfl) (pe_ix ix_list (pv 2) (pv 3) (fun _ _ => rfl)))
    (pss_cons (ps_for PassesOwn.never rfl (pi_list (pe_methD (pv 0) T.cl_Kinds D_Kinds_steps (rm hr) (pa_cons (pv 4) pa_nil))) (pg_tup rfl (pgs_cons (pg_name (i := 5) sc_told_things.nd rfl (by first | exact .inl rfl | exact .inr rfl)) (pgs_cons (pg_name (i := 6) sc_told_things.nd rfl (by first | exact .inl rfl | exact .inr rfl)) pgs_nil))) (pss_one (ps_if (pt_cmpR op_notIn_seq (pv 6) (pv 2) rfl) (pss_one (ps_expr (pe_bm PySem.F.plainAttrs_list PySem.F.slot_list_append PySem.F.type_list_append mt_append (pv 2) (pa_cons (pv 6) pa_nil)))) pss_nil)))
    (pss_one (ps_aug (i := 3) sc_told_things.nd rfl (by first | exact .inl rfl | exact .inr rfl) pe_int ip_add)))))
    (pss_one (ps_ret (pv 2)))))), ?_⟩)
  · obtain ⟨x, at_, h, ax, t, rfl, _⟩ := h
    rfl
  · obtain ⟨x, at_, h, ax, t, rfl, O, ht, k⟩ := h
    have l32 := few32 O.at_ok h ax
    obtain ⟨l, hl⟩ : ∃ l, l = Oc05.types h at_ ax := ⟨_, rfl⟩
    refine ⟨_, rfl, by show 1 ≤ sizeLine; decide, fun D hD => ?_⟩
    refine ⟨fun m σ H' => ∃ (i : Nat) (ws : List Nat) (v4 v5 v6 : Option V), m = 33 - i ∧ σ = [some (.ref x), some (.int (t : Int)), some (.ref D), some (.int (i : Int)), v4, v5, v6] ∧ Same H H' ∧ H' D = some (.lst (nv ws)) ∧ Gth h at_ l i ws ∧
      Oc05.gather h at_ l (l.length + 1 - i) i ws = Oc05.gather h at_ l (l.length + 1) 0 [t], ⟨_, 0, [t], none, none, none, rfl, rfl, same_new hD, upd_same, gth_start (by rw [hl]; exact ht), rfl⟩, ?_⟩
    rintro m σ H' ⟨i, ws, v4, v5, v6, rfl, rfl, sm, hD', G, eg⟩
    have wl := G.len
    rw [← hl] at l32
    refine ⟨_, rfl, _, rfl, D, _, rfl, .inl (SqL.of hD'), _, _, rfl, rfl, _, rfl, ?_⟩
    rw [nv_len]
    by_cases hlt : (i : Int) < (ws.length : Int)
    · refine dT hlt ⟨_, fun _ _ z => z, ?_⟩
      obtain ⟨u, hu⟩ : ∃ u, ws[i]? = some u := ⟨ws[i]'(by omega), List.getElem?_eq_getElem (by omega)⟩
      have O1 := O.same sm
      obtain ⟨dx, fs, pa, B, FF, p1, p2⟩ := O1.ex
      have hut : u ∈ Oc05.types h at_ ax := by rw [← hl]; exact G.sub u (List.mem_of_getElem? hu)
      have G1 := G.turn hu
      obtain ⟨n, hn⟩ : ∃ n, l.length + 1 - i = n + 1 := ⟨l.length - i, by omega⟩
      rw [hn, gather_some hu] at eg
      refine ⟨_, rfl, _, rfl, D, _, _, _, rfl, rfl, SqL.of hD', nv_at hu, ?_⟩
      refine ⟨_, rfl, x, dx, fs, rfl, B.ins, B.no _ (by decide), _, rfl, x, at_, h, ax, u, rfl, O1, hut, fun H1 L us s1 nL hL hus => ⟨L, rfl, ⟨_, SqL.of hL⟩, ?_⟩⟩
      rw [← hl] at hus
      have nLD : D ≠ L := ne_of_none hD' nL
      refine for_list (K := K) (a := L) (xs := us) (fun j σ H3 => ∃ (v5 v6 : Option V), σ = [some (.ref x), some (.int (t : Int)), some (.ref D), some (.int (i : Int)), some (.int (u : Int)), v5, v6] ∧ Same H H3 ∧ H3 L = some (.lst us) ∧ UsAt H3 us (Oc05.needs h at_ l u) ∧ H3 D = some (.lst (nv (((Oc05.needs h at_ l u).take j).foldl addT ws))))
        ⟨_, _, rfl, L2.Same.trans sm s1, hL, hus, s1 D _ hD'⟩ (fun j σ H3 _ ⟨_, _, _, _, q, _⟩ => SqL.of q) ?_ ?_
      · rintro j y σ H3 hy ⟨v5', v6', rfl, sm3, hL3, hus3, hD3⟩
        obtain ⟨z, hz, b, rfl, hb⟩ := pair_get hus3 hy
        have ez := take_snoc hz
        have es : ((Oc05.needs h at_ l u).take (j + 1)).foldl addT ws = addT (((Oc05.needs h at_ l u).take j).foldl addT ws) z := by rw [ez, List.foldl_append]; rfl
        refine ⟨b, _, rfl, SqT.of hb, rfl, _, _, rfl, _, _, rfl, rfl, ?_⟩
        refine ⟨_, rfl, _, rfl, D, _, rfl, .inl (SqL.of hD3), rfl, flat_nv _, _, rfl, ?_⟩
        rw [if_pos rfl, in_nv]
        by_cases hin : z.2 ∈ ((Oc05.needs h at_ l u).take j).foldl addT ws
        · refine bF (by rw [decide_eq_true hin]; rfl) ⟨_, _, rfl, sm3, hL3, hus3, ?_⟩
          rw [es, addT_in hin]
          exact hD3
        · refine bT (by rw [decide_eq_false hin]; rfl) ?_
          have ln : (((Oc05.needs h at_ l u).take j).foldl addT ws).length ≤ 32 := by
            obtain ⟨r, er⟩ := adds_pre ((Oc05.needs h at_ l u).drop j) (((Oc05.needs h at_ l u).take j).foldl addT ws)
            rw [← List.foldl_append, List.take_append_drop] at er
            have g := G1.len
            rw [er, List.length_append] at g
            omega
          refine ⟨_, rfl, .inl ⟨rfl, _, SqL.of hD3⟩, _, rfl, D, _, _, rfl, rfl, hD3, ?_, ?_⟩
          · rw [nv_len]
            have : (1000 : Nat) < sizeLine := by decide
            omega
          refine ⟨_, _, rfl, same_upd sm3 hD, by rw [upd_ne nLD.symm]; exact hL3, UsAt.stay (stay_lst hD3) hus3, ?_⟩
          rw [upd_same, es, addT_out hin, nv_snoc]
      · rintro σ H3 ⟨v5', v6', rfl, sm3, hL3, hus3, hD3⟩
        have el : us.length = (Oc05.needs h at_ l u).length := Paired.length hus3
        rw [el, List.take_length] at hD3
        refine ⟨_, rfl, _, _, rfl, rfl, 33 - (i + 1), by omega, i + 1, _, _, _, _, rfl, rfl, sm3, hD3, G1, ?_⟩
        rw [show l.length + 1 - (i + 1) = n by omega]
        exact eg
    · refine dF hlt ?_
      rw [gather_none (List.getElem?_eq_none (by omega))] at eg
      have ei : i = ws.length := by have := G.le; omega
      rw [ei] at G
      rw [hl] at eg G
      exact ⟨_, rfl, k H' D ws sm hD hD' eg G⟩
end
end Rh

set_option Elab.async false
set_option linter.all false
set_option maxRecDepth 100000
set_option maxHeartbeats 2000000
/-! # Rh, part X: the told model: all ways, in order -/
namespace Rh
open PySem PySem.Spec PyProof.Rows L2
open Oc05 (Under)
/-! ### ways as keys -/
def tl3 (x : Nat × Nat × Nat) : List Int := [(x.1 : Int), (x.2.1 : Int), (x.2.2 : Int)]
def un3 (l : List Int) : Nat × Nat × Nat := ((l.getD 0 0).toNat, (l.getD 1 0).toNat, (l.getD 2 0).toNat)
theorem un_tl (x : Nat × Nat × Nat) : un3 (tl3 x) = x := rfl
theorem ws_keys {H : Hp} : ∀ {ws : List V} {W : List (Nat × Nat × Nat)}, WsAt H ws W → ∃ ks : List (Addr × List Int), ws = ks.map (fun p => V.ref p.1) ∧ (∀ p ∈ ks, ∃ x ∈ W, p.2 = tl3 x ∧ H p.1 = some (.tup (p.2.map V.int))) ∧ ∀ x ∈ W, tl3 x ∈ ks.map (·.2)
  | _, _, .nil => ⟨[], rfl, fun p hp => (by cases hp), fun x hx => (by cases hx)⟩
  | _, _, .cons (a := v) (b := x) h r => by
    obtain ⟨ks, e1, e2, e3⟩ := ws_keys r
    obtain ⟨b, rfl, hb⟩ := h
    refine ⟨(b, tl3 x) :: ks, by rw [List.map_cons, ← e1], fun p hp => ?_, fun y hy => ?_⟩
    · rcases List.mem_cons.mp hp with rfl | later
      · exact ⟨x, List.mem_cons_self, rfl, hb⟩
      · obtain ⟨y, hy, q⟩ := e2 p later
        exact ⟨y, List.mem_cons_of_mem _ hy, q⟩
    · rcases List.mem_cons.mp hy with rfl | later
      · exact List.mem_cons_self
      · exact List.mem_cons_of_mem _ (e3 y later)
theorem code3 (a b c : Int) : TS.code 64 [a, b, c] = a * 4096 + b * 64 + c := by
  show a * 64 ^ 2 + (b * 64 ^ 1 + (c * 64 ^ 0 + 0)) = _
  rw [show (64 : Int) ^ 2 = 4096 by decide, Int.pow_one, Int.pow_zero]
  omega
theorem lex_code {x y : Nat × Nat × Nat} (bx : x.1 < 64 ∧ x.2.1 < 64 ∧ x.2.2 < 64) (bY : y.1 < 64 ∧ y.2.1 < 64 ∧ y.2.2 < 64) (h : TS.code 64 (tl3 x) ≤ TS.code 64 (tl3 y)) (ne : tl3 x ≠ tl3 y) : lex3 x y := by
  unfold tl3 at h
  rw [code3, code3] at h
  obtain ⟨a, b, c⟩ := x
  obtain ⟨a', b', c'⟩ := y
  have ne' : ¬ (a = a' ∧ b = b' ∧ c = c') := fun q => ne (by rw [q.1, q.2.1, q.2.2])
  unfold lex3
  simp only at *
  omega
theorem waysAt_len {h : List Under} {at_ : List Oc.C} {l w : List Nat} {i t : Nat} : (waysAt h at_ l w i t).length ≤ at_.length * 4 := by
  have key : ∀ ns : List (Nat × Nat), (ns.flatMap fun x => waysOf i (place_ w x.2) (Oc05.ups h x.1)).length ≤ ns.length * 4 := by
    intro ns
    induction ns with
    | nil => simp
    | cons x ns ih =>
      have u4 : (Oc05.ups h x.1).length ≤ 4 := by rw [ups_eq]; exact rnd_len _ _
      have e : (waysOf i (place_ w x.2) (Oc05.ups h x.1)).length = (Oc05.ups h x.1).length := List.length_map ..
      rw [List.flatMap_cons, List.length_append, List.length_cons]
      omega
  have n := key (Oc05.needs h at_ l t)
  have m : (Oc05.needs h at_ l t).length ≤ at_.length := by rw [needs_eq]; exact List.length_filterMap_le _ _
  unfold waysAt
  omega
theorem waysTo_succ {h : List Under} {at_ : List Oc.C} {l w : List Nat} {n t : Nat} (e : w[n]? = some t) : waysTo h at_ l w (n + 1) = waysTo h at_ l w n ++ waysAt h at_ l w n t := by
  unfold waysTo
  rw [List.range_succ, List.flatMap_append, List.flatMap_singleton, List.getD_eq_getElem?_getD, e]
  rfl
theorem waysTo_len {h : List Under} {at_ : List Oc.C} {l w : List Nat} : ∀ n, (waysTo h at_ l w n).length ≤ n * (at_.length * 4)
  | 0 => by simp [waysTo]
  | n + 1 => by
    have ih := waysTo_len (h := h) (at_ := at_) (l := l) (w := w) n
    have a := waysAt_len (h := h) (at_ := at_) (l := l) (w := w) (i := n) (t := w.getD n 0)
    have e : waysTo h at_ l w (n + 1) = waysTo h at_ l w n ++ waysAt h at_ l w n (w.getD n 0) := by
      unfold waysTo
      rw [List.range_succ, List.flatMap_append, List.flatMap_singleton]
    rw [e, List.length_append, Nat.succ_mul]
    omega
theorem eq_nv (n m : Nat) : eqV (V.int (m : Int)) (V.int (n : Int)) = decide (m = n) := by
  show ((m : Int) == (n : Int)) = _
  refine Bool.eq_iff_iff.mpr ?_
  simp only [beq_iff_eq, decide_eq_true_eq]
  omega
section
variable {P : Program} {w : World} {K : PySem.W.Frag} {mg : Str → Option Value} {base : Heap} {CK CH : Addr}
/-! ### told_ways -/
/- told_ways: slots 0 kinds, 1 things, 2 ways, 3 source, 4 kind, 5 role, 6 other -/
abbrev s_told_ways : Stmt := top 32
abbrev N_told_ways : List Str := ["kinds", "things", "ways", "source", "kind", "role", "other"]
theorem sc_told_ways : FnScope N_told_ways ["kinds", "things"] (defScope s_told_ways) := ⟨rfl, rfl, rfl, by decide +kernel, rfl, by decide +kernel, by decide +kernel⟩
def spToldWays (CK : Addr) : Sp := fun vs H Q _ => ∃ (x wa : Addr) (at_ : List Oc.C) (h : List Under) (ax : List Oc.Axiom) (ws : List Nat), vs = [.ref x, .ref wa] ∧ KP CK H x at_ h (Oc05.types h at_ ax) ∧ H wa = some (.lst (nv ws)) ∧ Gth h at_ (Oc05.types h at_ ax) ws.length ws ∧
  ∀ (H' : Hp) (D : Addr) (us : List V) (S : List (Nat × Nat × Nat)), Same H H' → H D = none → H' D = some (.lst us) → WsAt H' us S → S.Pairwise lex3 → (∀ y, y ∈ S ↔ y ∈ waysTo h at_ (Oc05.types h at_ ax) ws ws.length) → S.length ≤ 1000 → Q (.ref D) H'
theorem ok_told_ways {f : Addr} {fd : FuncData} (F : Fun K "told_ways" "told_ways" s_told_ways f fd) (T : Txt K mg CK CH) (D_Kinds_steps : Mt P w K mg base CK "steps" 5 ["self", "kind"] (spSteps CK)) (D_ways_of_step : Df P w K mg base "ways_of_step" 2 ["source", "target", "uppers"] spWays) :
    FnOk P w K mg base CX0 6 f fd ["kinds", "things"] (spToldWays CK) := by
  refine F.ok sc_told_ways (fun vs H Q E h => ?_) (fun cdv A outer s H vs Q E hr h => ⟨_, (pss_cons (ps_set (i := 2) sc_told_ways.nd rfl (by first | exact .inl rfl | exact .inr rfl) (pe_lst pa_nil))
    (pss_cons (ps_for PassesOwn.never rfl (pi_enum (by rfl) T.b_enumerate (pa_cons (pv 1) pa_nil)) (pg_tup rfl (pgs_cons (pg_name (i := 3) sc_told_ways.nd rfl (by first | exact .inl rfl | exact .inr rfl)) (pgs_cons (pg_name (i := 4) sc_told_ways.nd rfl (by first | exact .inl rfl | exact .inr rfl)) pgs_nil))) (pss_one (ps_for PassesOwn.never rfl (pi_list (pe_methD (pv 0) T.cl_Kinds D_Kinds_steps (rm hr) (pa_cons (pv 4) pa_nil))) (pg_tup rfl (pgs_cons (pg_name (i := 5) sc_told_ways.nd rfl (by first | exact .inl rfl | exact .inr rfl)) (pgs_cons (pg_name (i := 6) sc_told_ways.nd rfl (by first | exact .inl rfl | exact .inr rfl)) pgs_nil))) (pss_one (ps_expr (pe_bm PySem.F.plainAttrs_list PySem.F.slot_list_extend PySem.F.type_list_extend mt_extend (pv 2) (pa_cons (pe_callD D_ways_of_step (rm hr) rfl (pa_cons (pv 3) (pa_cons (pe_bm PySem.F.plainAttrs_list PySem.F.slot_list_index PySem.F.type_list_index mt_index (pv 1) (pa_cons (pv 6) pa_nil)) (pa_cons (pe_ix ix_list (pe_fld (pv 0) rfl) (pv 5) (fun _ _ => rfl)) pa_nil)))) pa_nil)))))))
    (pss_one (ps_ret (pe_callB (cr_sortG rfl) (by rfl) T.b_sorted (by decide +kernel) (pa_cons (pe_callTy (cr_setG rfl (u64 hr)) (by rfl) T.b_set (by decide +kernel) (pa_cons (pv 2) pa_nil)) pa_nil)))))), ?_⟩)
  · obtain ⟨x, wa, at_, h, ax, ws, rfl, _⟩ := h
    rfl
  · obtain ⟨x, wa, at_, h, ax, ws, rfl, O, hwa, G, k⟩ := h
    have l32 := few32 O.at_ok h ax
    have few := O.at_ok.few
    have wl := G.len
    obtain ⟨l, hl⟩ : ∃ l, l = Oc05.types h at_ ax := ⟨_, rfl⟩
    rw [← hl] at G l32 wl k
    have shut := gather_end G (Nat.le_refl _)
    refine ⟨by show 0 ≤ sizeLine; decide, fun D nD => ?_⟩
    have nwD : wa ≠ D := ne_of_none hwa nD
    refine ⟨_, rfl, wa, nv ws, rfl, SqL.of (same_new nD wa _ hwa), ?_⟩
    refine for_it (walk_enum (K := K) (a := wa) (xs := nv ws)) (fun i σ H' => ∃ (v3 v4 v5 v6 : Option V) (us : List V), σ = [some (.ref x), some (.ref wa), some (.ref D), v3, v4, v5, v6] ∧ Same H H' ∧ H' D = some (.lst us) ∧ WsAt H' us (waysTo h at_ l ws i)) ⟨_, _, _, _, [], rfl, same_new nD, upd_same, .nil⟩ (fun i σ H' _ ⟨_, _, _, _, _, _, sm, _⟩ => SqL.of (sm wa _ hwa)) ?_ ?_
    · rintro i v σ H0 H' hi ⟨v3, v4, v5, v6, us, rfl, sm, hD, hus⟩ ⟨tp, x1, x2, rfl, ntp, rfl, e1, e2⟩
      cases e1
      obtain ⟨u, hu, rfl⟩ := lst_get e2
      have nDt : D ≠ tp := ne_of_none hD ntp
      refine ⟨tp, _, rfl, SqT.of upd_same, rfl, _, _, rfl, _, _, rfl, rfl, ?_⟩
      have sm1 : Same H (upd H0 tp (.tup [.int (i : Nat), .int (u : Int)])) := sameN sm ntp
      have hD1 : upd H0 tp (.tup [.int (i : Nat), .int (u : Int)]) D = some (.lst us) := by rw [upd_ne nDt]; exact hD
      have hus1 : WsAt (upd H0 tp (.tup [.int (i : Nat), .int (u : Int)])) us (waysTo h at_ l ws i) := WsAt.stay (stay_new ntp) hus
      generalize upd H0 tp (.tup [.int (i : Nat), .int (u : Int)]) = H1 at *
      have hum := List.mem_of_getElem? hu
      have il := (List.getElem?_eq_some_iff.mp hu).1
      have hut : u ∈ Oc05.types h at_ ax := by rw [← hl]; exact G.sub u hum
      have O1 := O.same sm1
      obtain ⟨dx, fs, pa, B, FF, p1, p2⟩ := O1.ex
      refine ⟨_, rfl, x, dx, fs, rfl, B.ins, B.no _ (by decide), _, rfl, x, at_, h, ax, u, rfl, O1, hut, fun H2 L ns s2 nL hL hns => ⟨L, rfl, ⟨_, SqL.of hL⟩, ?_⟩⟩
      rw [← hl] at hns
      have nLD : D ≠ L := ne_of_none hD1 nL
      refine for_list (K := K) (a := L) (xs := ns) (fun j σ H3 => ∃ (v5 v6 : Option V) (us : List V), σ = [some (.ref x), some (.ref wa), some (.ref D), some (.int (i : Nat)), some (.int (u : Int)), v5, v6] ∧ Same H H3 ∧ H3 L = some (.lst ns) ∧ UsAt H3 ns (Oc05.needs h at_ l u) ∧ H3 D = some (.lst us) ∧
        WsAt H3 us (waysTo h at_ l ws i ++ ((Oc05.needs h at_ l u).take j).flatMap fun z => waysOf i (place_ ws z.2) (Oc05.ups h z.1))) ⟨_, _, us, rfl, L2.Same.trans sm1 s2, hL, hns, s2 D _ hD1, by rw [List.take_zero, List.flatMap_nil, List.append_nil]; exact WsAt.stay (stayS s2) hus1⟩ (fun j σ H3 _ ⟨_, _, _, _, _, q, _⟩ => SqL.of q) ?_ ?_
      · rintro j y σ H3 hy ⟨v5', v6', us3, rfl, sm3, hL3, hns3, hD3, hus3⟩
        obtain ⟨z, hz, b, rfl, hb⟩ := pair_get hns3 hy
        have zm := List.mem_of_getElem? hz
        obtain ⟨_, a, ha, how, er⟩ := needs_mem zm
        have r4 : z.1 < 4 := by rw [er]; exact role_lt (owes_tag how) (O.at_ok.wfs a ha).1
        obtain ⟨_, q2, q3, q4⟩ := idx_some (shut u hum z zm)
        have O3 := O.same sm3
        obtain ⟨dx3, fs3, pa3, B3, FF3, _⟩ := O3.ex
        obtain ⟨oa, ovs, o1, o2, o3⟩ := FF3.over_
        obtain ⟨ov, hov, ob, rfl, hob⟩ := pair_get' o3 (i := z.1) (c := z.1) (by
          have c : z.1 = 0 ∨ z.1 = 1 ∨ z.1 = 2 ∨ z.1 = 3 := by omega
          rcases c with e | e | e | e <;> rw [e] <;> rfl)
        have u4 : (Oc05.ups h z.1).length ≤ 4 := by rw [ups_eq]; exact rnd_len _ _
        refine ⟨b, _, rfl, SqT.of hb, rfl, _, _, rfl, _, _, rfl, rfl, ?_⟩
        refine ⟨_, rfl, .inl ⟨rfl, _, SqL.of hD3⟩, _, rfl, _, rfl, .inl ⟨rfl, _, SqL.of (sm3 wa _ hwa)⟩, _, rfl, wa, nv ws, _, place_ ws z.2, _, rfl, rfl, SqL.of (sm3 wa _ hwa), rfl, flat_nv _, nv_get q2, by rw [eq_nv]; exact decide_eq_true rfl, fun m z' hm hz' => ?_,
          _, rfl, x, CK, dx3, fs3, _, rfl, B3.ins, T.cl_Kinds, T.nk_over, o1, _, rfl, oa, _, _, _, rfl, rfl, SqL.of o2, at_of rfl hov, i, place_ ws z.2, ob, Oc05.ups h z.1, rfl, hob, fun s hs => ups_lt hs, by omega, fun H4 M ms s4 nM hM hms => ?_⟩
        · obtain ⟨y', hy', rfl⟩ := lst_get hz'
          rw [eq_nv]
          exact decide_eq_false fun e => q3 m hm (by rw [hy', e])
        have hD4 := s4 D _ hD3
        have nMD : D ≠ M := ne_of_none hD3 nM
        have len3 := Paired.length hus3
        have len4 := Paired.length hms
        have bound : (waysTo h at_ l ws i ++ ((Oc05.needs h at_ l u).take j).flatMap fun z => waysOf i (place_ ws z.2) (Oc05.ups h z.1)).length ≤ 1000 := by
          have b1 := waysTo_len (h := h) (at_ := at_) (l := l) (w := ws) i
          have b2 : (((Oc05.needs h at_ l u).take j).flatMap fun z => waysOf i (place_ ws z.2) (Oc05.ups h z.1)).length ≤ (waysAt h at_ l ws i u).length := by
            have e : waysAt h at_ l ws i u = (((Oc05.needs h at_ l u).take j).flatMap fun z => waysOf i (place_ ws z.2) (Oc05.ups h z.1)) ++ (((Oc05.needs h at_ l u).drop j).flatMap fun z => waysOf i (place_ ws z.2) (Oc05.ups h z.1)) := by
              rw [← List.flatMap_append, List.take_append_drop]
              rfl
            rw [e, List.length_append]
            omega
          have b3 := waysAt_len (h := h) (at_ := at_) (l := l) (w := ws) (i := i) (t := u)
          have b4 : i * (at_.length * 4) ≤ 32 * 20 := Nat.mul_le_mul (by omega) (by omega)
          rw [List.length_append]
          omega
        have bm : ms.length ≤ 4 := by
          rw [len4]
          unfold waysOf
          rw [List.length_map]
          exact u4
        refine ⟨D, M, us3, ms, rfl, rfl, hD4, hM, ?_, ?_⟩
        · have : (2000 : Nat) < sizeLine := by decide
          omega
        have sty := stay_lst (o := .lst (us3 ++ ms)) hD4
        refine ⟨_, _, us3 ++ ms, rfl, same_upd (L2.Same.trans sm3 s4) nD, by rw [upd_ne nLD.symm]; exact s4 L _ hL3, UsAt.stay ((stayS s4).trans sty) hns3, upd_same, ?_⟩
        rw [take_snoc hz, List.flatMap_append, List.flatMap_singleton, ← List.append_assoc]
        exact pair_app (WsAt.stay ((stayS s4).trans sty) hus3) (WsAt.stay sty hms)
      · rintro σ H3 ⟨v5', v6', us3, rfl, sm3, hL3, hns3, hD3, hus3⟩
        have el : ns.length = (Oc05.needs h at_ l u).length := Paired.length hns3
        rw [el, List.take_length] at hus3
        refine ⟨_, _, _, _, us3, rfl, sm3, hD3, ?_⟩
        rw [waysTo_succ hu]
        exact hus3
    · rintro σ H' ⟨v3, v4, v5, v6, us, rfl, sm, hD, hus⟩
      rw [nv_len] at hus
      obtain ⟨ks, e1, e2, e3⟩ := ws_keys hus
      have len := Paired.length hus
      have b1 := waysTo_len (h := h) (at_ := at_) (l := l) (w := ws) ws.length
      have b4 : ws.length * (at_.length * 4) ≤ 32 * 20 := Nat.mul_le_mul (by omega) (by omega)
      have kl : ks.length = us.length := by rw [e1, List.length_map]
      refine ⟨_, rfl, D, ks, rfl, SqL.of (hD.trans (congrArg (fun v => some (HO.lst v)) e1)), fun p hp => ?_, by omega, fun a L na sub all => ?_⟩
      · obtain ⟨y, _, _, q⟩ := e2 p hp
        exact SqT.of q
      have nDa : D ≠ a := ne_of_none hD na
      have tup : ∀ p ∈ ks, upd H' a (setO P w a L) p.1 = some (.tup (p.2.map V.int)) := by
        intro p hp
        obtain ⟨y, _, _, q⟩ := e2 p hp
        rw [upd_ne (ne_of_none q na)]
        exact q
      have inW := waysTo_in (Nat.le_refl _) shut
      have bd : ∀ y, y ∈ waysTo h at_ l ws ws.length → y.1 < 64 ∧ y.2.1 < 64 ∧ y.2.2 < 64 := by
        intro y hy
        have := inW y hy
        omega
      refine ⟨a, L, 3, 64, rfl, upd_same, fun p hp => SqT.of (tup p (sub hp)), by decide, fun p hp => ?_, fun L' D2 nD2 pm so => ?_⟩
      · obtain ⟨y, hy, e, _⟩ := e2 p (sub hp)
        have := bd y hy
        rw [e]
        refine ⟨rfl, fun m hm => ?_⟩
        unfold tl3 at hm
        simp at hm
        omega
      have sm2 : Same H (upd H' a (setO P w a L)) := sameN sm na
      have key : ∀ q ∈ L', ∃ y ∈ waysTo h at_ l ws ws.length, q.2 = tl3 y ∧ upd H' a (setO P w a L) q.1 = some (.tup (q.2.map V.int)) := by
        intro q hq
        have hk := sub (pm.mem_iff.mp hq)
        obtain ⟨y, hy, e, _⟩ := e2 q hk
        exact ⟨y, hy, e, tup q hk⟩
      refine k _ D2 _ (L'.map fun q => un3 q.2) (sameN sm2 nD2) (L2.Same.free sm2 nD2) upd_same ?_ ?_ (fun y => ?_) ?_
      · have gen : ∀ l' : List (Addr × List Int), (∀ q ∈ l', q ∈ L') → WsAt (upd (upd H' a (setO P w a L)) D2 (.lst (L'.map fun q => V.ref q.1))) (l'.map fun q => V.ref q.1) (l'.map fun q => un3 q.2) := by
          intro l'
          induction l' with
          | nil => intro _; exact .nil
          | cons q l' ih =>
            intro hs
            obtain ⟨y, hy, e, hq⟩ := key q (hs q List.mem_cons_self)
            refine .cons ⟨q.1, rfl, ?_⟩ (ih fun r hr => hs r (List.mem_cons_of_mem _ hr))
            rw [upd_ne (ne_of_none hq nD2), hq]
            show some (HO.tup (q.2.map V.int)) = some (HO.tup [V.int ((un3 q.2).1 : Int), V.int ((un3 q.2).2.1 : Int), V.int ((un3 q.2).2.2 : Int)])
            rw [e, un_tl]
            rfl
        exact gen L' fun q hq => hq
      · rw [List.pairwise_map]
        refine List.Pairwise.imp_of_mem (fun {q r} hq hr g => ?_) so
        obtain ⟨y, hy, e, _⟩ := key q hq
        obtain ⟨z, hz, e', _⟩ := key r hr
        rw [e, e'] at g
        rw [e, e', un_tl, un_tl]
        exact lex_code (bd y hy) (bd z hz) g.1 g.2
      · rw [List.mem_map]
        constructor
        · rintro ⟨q, hq, rfl⟩
          obtain ⟨z, hz, e, _⟩ := key q hq
          rw [e, un_tl]
          exact hz
        · intro hy
          obtain ⟨p, hp, ep⟩ := List.mem_map.mp (e3 y hy)
          obtain ⟨q, hq, eq⟩ := List.mem_map.mp (all (List.mem_map_of_mem hp))
          refine ⟨q, pm.mem_iff.mpr hq, ?_⟩
          rw [eq, ep, un_tl]
      · have hs : L'.length ≤ ks.length := by
          have each : L'.Nodup := so.imp fun g e => g.2 (congrArg Prod.snd e)
          exact each.length_le_of_subset fun q hq => sub (pm.subset hq)
        rw [List.length_map]
        omega
end
end Rh

set_option Elab.async false
set_option linter.all false
set_option maxRecDepth 100000
set_option maxHeartbeats 2000000
/-! # Rh, part Z: the told model in numbers -/
namespace Rh
open PySem PySem.Spec PyProof.Rows L2
open Oc05 (Under)
def pairL (l : List (Nat × Nat)) : List Nat := l.flatMap fun y => [y.1, y.2]
/-- what's told of one thing -/
def cell (h : List Under) (at_ : List Oc.C) (l w : List Nat) (i t : Nat) : List Nat := Oc05.namesOf at_ t :: (toL (Oc05.steps h at_ l w) w.length i).length :: pairL (toL (Oc05.steps h at_ l w) w.length i)
def cells (h : List Under) (at_ : List Oc.C) (l w : List Nat) (n : Nat) : List Nat := w.length :: (List.range n).flatMap fun i => cell h at_ l w i (w.getD i 0)
def modelL (h : List Under) (at_ : List Oc.C) (l : List Nat) (t : Nat) : List Nat := cells h at_ l (Oc05.gather h at_ l (l.length + 1) 0 [t]) (Oc05.gather h at_ l (l.length + 1) 0 [t]).length
theorem pairL_len (l : List (Nat × Nat)) : (pairL l).length = 2 * l.length := by
  unfold pairL
  induction l with
  | nil => rfl
  | cons x l ih =>
    simp only [List.flatMap_cons, List.length_append, List.length_cons, List.length_nil, ih]
    omega
theorem cells_succ {h : List Under} {at_ : List Oc.C} {l w : List Nat} {n t : Nat} (e : w[n]? = some t) : cells h at_ l w (n + 1) = cells h at_ l w n ++ cell h at_ l w n t := by
  unfold cells
  rw [List.range_succ, List.flatMap_append, List.flatMap_singleton, List.getD_eq_getElem?_getD, e]
  rfl
/-- what's told of a model, and the specification's words -/
theorem told_eq (h : List Under) (ax : List Oc.Axiom) (c : Oc.C) : Oc05Neutral.out (Oc05.told (Oc05.model h ax c)) = match (Oc05.types h (Oc.atomsFor ax [c]) ax).find? (fun t => Oc.holds (Oc.atomsFor ax [c]) t c) with
    | none => [-6]
    | some t => (modelL h (Oc.atomsFor ax [c]) (Oc05.types h (Oc.atomsFor ax [c]) ax) t).map fun (n : Nat) => (n : Int) := by
  unfold Oc05.model
  simp only
  cases e : (Oc05.types h (Oc.atomsFor ax [c]) ax).find? (fun t => Oc.holds (Oc.atomsFor ax [c]) t c) with
  | none => rfl
  | some t =>
    simp only [Option.map_some]
    unfold Oc05.told Oc05Neutral.out modelL cells
    simp only [List.length_map, List.length_range, List.map_cons, List.flatMap_map]
    rfl
theorem find_filter {p : Nat → Bool} : ∀ l : List Nat, l.find? p = (l.filter p).head?
  | [] => rfl
  | x :: l => by
    rw [List.find?_cons]
    cases e : p x with
    | true => rw [List.filter_cons_of_pos e]; rfl
    | false => rw [List.filter_cons_of_neg (by rw [e]; decide)]; exact find_filter l
section
variable {P : Program} {w : World} {K : PySem.W.Frag} {mg : Str → Option Value} {base : Heap} {CK CH : Addr}
/-! ### told_model -/
/- told_model: slots 0 kinds, 1 first, 2 things, 3 ways, 4 numbers, 5 place, 6 kind, 7 own, 8 way, 9 source, 10 role, 11 target -/
abbrev s_told_model : Stmt := top 33
abbrev N_told_model : List Str := ["kinds", "first", "things", "ways", "numbers", "place", "kind", "own", "way", "source", "role", "target"]
theorem sc_told_model : FnScope N_told_model ["kinds", "first"] (defScope s_told_model) := ⟨rfl, rfl, rfl, by decide +kernel, rfl, by decide +kernel, by decide +kernel⟩
def spToldModel (CK : Addr) : Sp := fun vs H Q _ => ∃ (x : Addr) (at_ : List Oc.C) (h : List Under) (ax : List Oc.Axiom) (t : Nat), vs = [.ref x, .int (t : Int)] ∧ KP CK H x at_ h (Oc05.types h at_ ax) ∧ t ∈ Oc05.types h at_ ax ∧
  ∀ (H' : Hp) (D : Addr), Same H H' → H D = none → H' D = some (.lst (nv (modelL h at_ (Oc05.types h at_ ax) t))) → Q (.ref D) H'
theorem ok_told_model {f : Addr} {fd : FuncData} (F : Fun K "told_model" "told_model" s_told_model f fd) (T : Txt K mg CK CH) (D_told_things : Df P w K mg base "told_things" 6 ["kinds", "first"] (spThings CK)) (D_told_ways : Df P w K mg base "told_ways" 6 ["kinds", "things"] (spToldWays CK))
    (D_Kinds_names_sum : Mt P w K mg base CK "names_sum" 2 ["self", "kind"] (spNamesSum CK)) : FnOk P w K mg base CX0 7 f fd ["kinds", "first"] (spToldModel CK) := by
  refine F.ok sc_told_model (fun vs H Q E h => ?_) (fun cdv A outer s H vs Q E hr h => ⟨_, (pss_cons (ps_set (i := 2) sc_told_model.nd rfl (by first | exact .inl rfl | exact .inr rfl) (pe_callD D_told_things (rm hr) rfl (pa_cons (pv 0) (pa_cons (pv 1) pa_nil))))
    (pss_cons (ps_set (i := 3) sc_told_model.nd rfl (by first | exact .inl rfl | exact .inr rfl) (pe_callD D_told_ways (rm hr) rfl (pa_cons (pv 0) (pa_cons (pv 2) pa_nil))))
    (pss_cons (ps_set (i := 4) sc_told_model.nd rfl (by first | exact .inl rfl | exact .inr rfl) (pe_lst (pa_cons (pe_callB call_len_seq (by rfl) T.b_len (by decide +kernel) (pa_cons (pv 2) pa_nil)) pa_nil)))
    (pss_cons (ps_for PassesOwn.never rfl (pi_enum (by rfl) T.b_enumerate (pa_cons (pv 2) pa_nil)) (pg_tup rfl (pgs_cons (pg_name (i := 5) sc_told_model.nd rfl (by first | exact .inl rfl | exact .inr rfl)) (pgs_cons (pg_name (i := 6) sc_told_model.nd rfl (by first | exact .inl rfl | exact .inr rfl)) pgs_nil))) (pss_cons (ps_setLc (i := 7) (own := [("way", 8)]) (g := (gName 8)) rfl sc_told_model.nd rfl rfl (sw_true rfl rfl rfl (by decide +kernel)) (pi_list (pv 3)) (blkOk_by (own := [("way", 8)]) (N := N_told_model) (sc := defScope s_told_model) (by decide +kernel)) (fun _ _ _ _ _ => (pg_name (i := 8) sc_told_model.nd rfl (by first | exact .inl rfl | exact .inr rfl))) (fun _ _ _ _ _ => (pts_one (pt_cmpR op_eq (pe_ix (ix_tupK (K := K) rfl) (pv 8) pe_int (fun _ _ => rfl)) (pv 5) (nomark _)))) (fun _ _ _ _ _ => (pv 8)))
    (pss_cons (ps_expr (pe_bm PySem.F.plainAttrs_list PySem.F.slot_list_append PySem.F.type_list_append mt_append (pv 4) (pa_cons (pe_methD (pv 0) T.cl_Kinds D_Kinds_names_sum (rm hr) (pa_cons (pv 6) pa_nil)) pa_nil)))
    (pss_cons (ps_expr (pe_bm PySem.F.plainAttrs_list PySem.F.slot_list_append PySem.F.type_list_append mt_append (pv 4) (pa_cons (pe_callB call_len_seq (by rfl) T.b_len (by decide +kernel) (pa_cons (pv 7) pa_nil)) pa_nil)))
    (pss_one (ps_for PassesOwn.never rfl (pi_list (pv 7)) (pg_tup rfl (pgs_cons (pg_name (i := 9) sc_told_model.nd rfl (by first | exact .inl rfl | exact .inr rfl)) (pgs_cons (pg_name (i := 10) sc_told_model.nd rfl (by first | exact .inl rfl | exact .inr rfl)) (pgs_cons (pg_name (i := 11) sc_told_model.nd rfl (by first | exact .inl rfl | exact .inr rfl)) pgs_nil)))) (pss_cons (ps_expr (pe_bm PySem.F.plainAttrs_list PySem.F.slot_list_append PySem.F.type_list_append mt_append (pv 4) (pa_cons (pv 10) pa_nil)))
    (pss_one (ps_expr (pe_bm PySem.F.plainAttrs_list PySem.F.slot_list_append PySem.F.type_list_append mt_append (pv 4) (pa_cons (pv 11) pa_nil)))))))))))
    (pss_one (ps_ret (pv 4))))))), ?_⟩)
  · obtain ⟨x, at_, h, ax, t, rfl, _⟩ := h
    rfl
  · obtain ⟨x, at_, h, ax, t, rfl, O, ht, k⟩ := h
    have l32 := few32 O.at_ok h ax
    refine ⟨_, rfl, _, rfl, x, at_, h, ax, t, rfl, O, ht, fun H1 D1 ws s1 n1 h1 ew G => ?_⟩
    refine ⟨_, rfl, _, rfl, x, D1, at_, h, ax, ws, rfl, O.same s1, h1, G, fun H2 D2 us S s2 n2 h2 hus so mem slen => ?_⟩
    have wl := G.len
    unfold modelL at k
    rw [← ew] at k
    generalize Oc05.types h at_ ax = l at *
    have shut := gather_end G (Nat.le_refl _)
    have own := own_eq shut so mem
    have h12 := s2 D1 _ h1
    have O2 := (O.same s1).same s2
    refine ⟨_, rfl, D1, _, rfl, .inl (SqL.of h12), by show 1 ≤ sizeLine; decide, fun N nN => ?_⟩
    rw [nv_len]
    refine ⟨_, rfl, D1, nv ws, rfl, SqL.of (same_new nN D1 _ h12), ?_⟩
    refine for_it (walk_enum (K := K) (a := D1) (xs := nv ws)) (fun i σ H' => ∃ (v5 v6 v7 v8 v9 v10 v11 : Option V), σ = [some (.ref x), some (.int (t : Int)), some (.ref D1), some (.ref D2), some (.ref N), v5, v6, v7, v8, v9, v10, v11] ∧ Same H2 H' ∧ H' N = some (.lst (nv (cells h at_ l ws i))) ∧ (cells h at_ l ws i).length ≤ 1 + i * 2002)
      ⟨_, _, _, _, _, _, _, rfl, same_new nN, upd_same, Nat.le_refl _⟩ (fun i σ H' _ ⟨_, _, _, _, _, _, _, _, sm, _⟩ => SqL.of (sm D1 _ h12)) ?_ ?_
    · rintro i v σ H0 H' hi ⟨v5, v6, v7, v8, v9, v10, v11, rfl, sm, hN, hlen⟩ ⟨tp, x1, x2, rfl, ntp, rfl, e1, e2⟩
      cases e1
      obtain ⟨u, hu, rfl⟩ := lst_get e2
      have il := (List.getElem?_eq_some_iff.mp hu).1
      have nNt : N ≠ tp := ne_of_none hN ntp
      refine ⟨tp, _, rfl, SqT.of upd_same, rfl, _, _, rfl, _, _, rfl, rfl, ?_⟩
      have sm1 : Same H2 (upd H0 tp (.tup [.int (i : Nat), .int (u : Int)])) := sameN sm ntp
      have hN1 : upd H0 tp (.tup [.int (i : Nat), .int (u : Int)]) N = some (.lst (nv (cells h at_ l ws i))) := by rw [upd_ne nNt]; exact hN
      generalize upd H0 tp (.tup [.int (i : Nat), .int (u : Int)]) = H3 at *
      have hus3 := WsAt.stay (stayS sm1) hus
      refine ⟨_, rfl, D2, rfl, ⟨_, SqL.of (sm1 D2 _ h2)⟩, fun D3 n3 => ?_⟩
      have nND : N ≠ D3 := ne_of_none hN1 n3
      refine lc_list (K := K) (a := D2) (xs := us) (fun j H4 => ∃ vs2, Same H3 H4 ∧ H4 D3 = some (.lst vs2) ∧ WsAt H4 vs2 ((S.take j).filter fun y => decide (y.1 = i))) ⟨[], same_new n3, upd_same, .nil⟩ (fun j H4 _ ⟨_, q, _⟩ => SqL.of (q D2 _ (sm1 D2 _ h2))) ?_ ?_
      · rintro j y H4 hy ⟨vs2, sm4, hD4, hv4⟩
        obtain ⟨z, hz, b, rfl, hb⟩ := pair_get hus3 hy
        have ez := take_snoc hz
        have hb4 := sm4 b _ hb
        refine ⟨rfl, _, rfl, b, _, _, _, rfl, rfl, SqT.of hb4, at_of (j := 0) rfl rfl, _, rfl, rfl, _, rfl, ?_⟩
        by_cases he : z.1 = i
        · refine bT (decide_eq_true (by rw [he])) ⟨_, rfl, vs2, hD4, ?_, vs2 ++ [.ref b], same_upd sm4 n3, upd_same, ?_⟩
          · have g := Paired.length hv4
            have g2 := List.length_filter_le (fun y : Nat × Nat × Nat => decide (y.1 = i)) (S.take j)
            rw [List.length_take] at g2
            have : (2000 : Nat) < sizeLine := by decide
            omega
          · rw [ez, List.filter_append, List.filter_cons_of_pos (by exact decide_eq_true he), List.filter_nil]
            exact Paired.snoc (WsAt.stay (stay_lst hD4) hv4) (WAt.stay (stay_lst hD4) ⟨b, rfl, hb4⟩)
        · refine bF (decide_eq_false fun q => he (by have := V.int.inj q; omega)) ⟨vs2, sm4, hD4, ?_⟩
          rw [ez, List.filter_append, List.filter_cons_of_neg (by simpa using he), List.filter_nil, List.append_nil]
          exact hv4
      rintro H4 ⟨vs2, sm4, hD4, hv4⟩
      have el : us.length = S.length := Paired.length hus
      rw [el, List.take_length] at hv4
      have owi := own i
      generalize S.filter (fun y => decide (y.1 = i)) = ws2 at *
      have l2 : vs2.length = ws2.length := Paired.length hv4
      have tl : (toL (Oc05.steps h at_ l ws) ws.length i).length = ws2.length := by rw [← owi, List.length_map]
      have tl2 : ws2.length ≤ 1000 := by
        rw [← tl, toL_eq, List.length_append, List.length_map, List.length_map]
        have z1 := range_keep_len ws.length (fun j => (Oc05.steps h at_ l ws).contains (0, i, j))
        have z2 := range_keep_len ws.length (fun j => (Oc05.steps h at_ l ws).contains (1, i, j))
        omega
      have hN4 := sm4 N _ hN1
      have sm24 := L2.Same.trans sm1 sm4
      have O4 := O2.same sm24
      obtain ⟨dx, fs, pa, B, FF, p1, p2⟩ := O4.ex
      have sz : (100000 : Nat) < sizeLine := by decide
      have i32 : i * 2002 ≤ 31 * 2002 := Nat.mul_le_mul_right _ (by omega)
      refine ⟨_, rfl, .inl ⟨rfl, _, SqL.of hN4⟩, _, rfl, x, dx, fs, rfl, B.ins, B.no _ (by decide), _, rfl, x, at_, h, u, rfl, O4.ko, fun H5 s5 => ⟨N, _, _, rfl, rfl, s5 N _ hN4, by rw [nv_len]; omega, ?_⟩⟩
      have hN5 := s5 N _ hN4
      have hD5 := s5 D3 _ hD4
      have hD6 : upd H5 N (.lst (nv (cells h at_ l ws i) ++ [V.int (Oc05.namesOf at_ u : Nat)])) D3 = some (.lst vs2) := by rw [upd_ne nND.symm]; exact hD5
      refine ⟨_, rfl, .inl ⟨rfl, _, SqL.of upd_same⟩, _, rfl, D3, _, rfl, .inl (SqL.of hD6), N, _, _, rfl, rfl, upd_same, by rw [List.length_append, nv_len]; show _ + 1 < _; omega, ?_⟩
      rw [upd_upd]
      have nHN : H2 N = none := nN
      have sm6 : Same H2 (upd H5 N (.lst (nv (cells h at_ l ws i) ++ [V.int (Oc05.namesOf at_ u : Nat)] ++ [V.int (vs2.length : Nat)]))) := same_upd (L2.Same.trans sm24 s5) nHN
      have hD7 : upd H5 N (.lst (nv (cells h at_ l ws i) ++ [V.int (Oc05.namesOf at_ u : Nat)] ++ [V.int (vs2.length : Nat)])) D3 = some (.lst vs2) := by rw [upd_ne nND.symm]; exact hD5
      have hN7 : upd H5 N (.lst (nv (cells h at_ l ws i) ++ [V.int (Oc05.namesOf at_ u : Nat)] ++ [V.int (vs2.length : Nat)])) N = some (.lst (nv (cells h at_ l ws i ++ [Oc05.namesOf at_ u, ws2.length] ++ pairL ((ws2.take 0).map fun y => (y.2.1, y.2.2))))) := by
        rw [upd_same, List.take_zero, List.map_nil, l2]
        show _ = some (HO.lst (nv (cells h at_ l ws i ++ [Oc05.namesOf at_ u, ws2.length] ++ [])))
        rw [List.append_nil]
        unfold nv
        rw [List.map_append, List.append_assoc]
        rfl
      have hv7 : WsAt (upd H5 N (.lst (nv (cells h at_ l ws i) ++ [V.int (Oc05.namesOf at_ u : Nat)] ++ [V.int (vs2.length : Nat)]))) vs2 ws2 := WsAt.stay ((stayS s5).trans (stay_lst hN5)) hv4
      generalize upd H5 N (.lst (nv (cells h at_ l ws i) ++ [V.int (Oc05.namesOf at_ u : Nat)] ++ [V.int (vs2.length : Nat)])) = H7 at *
      refine ⟨_, rfl, D3, rfl, ⟨_, SqL.of hD7⟩, ?_⟩
      refine for_list (K := K) (a := D3) (xs := vs2) (fun j σ H8 => ∃ (v8 v9 v10 v11 : Option V), σ = [some (.ref x), some (.int (t : Int)), some (.ref D1), some (.ref D2), some (.ref N), some (.int (i : Nat)), some (.int (u : Int)), some (.ref D3), v8, v9, v10, v11] ∧ Same H2 H8 ∧ H8 D3 = some (.lst vs2) ∧ WsAt H8 vs2 ws2 ∧
        H8 N = some (.lst (nv (cells h at_ l ws i ++ [Oc05.namesOf at_ u, ws2.length] ++ pairL ((ws2.take j).map fun y => (y.2.1, y.2.2)))))) ⟨_, _, _, _, rfl, sm6, hD7, hv7, hN7⟩ (fun j σ H8 _ ⟨_, _, _, _, _, _, q, _⟩ => SqL.of q) ?_ ?_
      · rintro j y σ H8 hy ⟨v8', v9', v10', v11', rfl, sm8, hD8, hv8, hN8⟩
        obtain ⟨z, hz, b, rfl, hb⟩ := pair_get hv8 hy
        have jl := (List.getElem?_eq_some_iff.mp hz).1
        have pl : (cells h at_ l ws i ++ [Oc05.namesOf at_ u, ws2.length] ++ pairL ((ws2.take j).map fun y => (y.2.1, y.2.2))).length ≤ 70000 := by
          rw [List.length_append, List.length_append, pairL_len, List.length_map, List.length_take]
          show _ + 2 + _ ≤ _
          omega
        refine ⟨b, _, rfl, SqT.of hb, rfl, _, _, rfl, _, _, rfl, _, _, rfl, rfl, ?_⟩
        refine ⟨_, rfl, .inl ⟨rfl, _, SqL.of hN8⟩, _, rfl, N, _, _, rfl, rfl, hN8, by rw [nv_len]; omega, ?_⟩
        refine ⟨_, rfl, .inl ⟨rfl, _, SqL.of upd_same⟩, _, rfl, N, _, _, rfl, rfl, upd_same, by rw [List.length_append, nv_len]; show _ + 1 < _; omega, ?_⟩
        rw [upd_upd]
        refine ⟨_, _, _, _, rfl, same_upd sm8 nHN, by rw [upd_ne nND.symm]; exact hD8, WsAt.stay (stay_lst hN8) hv8, ?_⟩
        rw [upd_same, take_snoc hz, List.map_append]
        unfold pairL
        rw [List.flatMap_append]
        unfold nv
        simp only [List.map_append, List.map_cons, List.map_nil, List.flatMap_cons, List.flatMap_nil, List.append_nil, List.append_assoc, List.cons_append, List.nil_append]
      · rintro σ H8 ⟨v8', v9', v10', v11', rfl, sm8, hD8, hv8, hN8⟩
        rw [l2, List.take_length, owi] at hN8
        have ec : cells h at_ l ws (i + 1) = cells h at_ l ws i ++ [Oc05.namesOf at_ u, ws2.length] ++ pairL (toL (Oc05.steps h at_ l ws) ws.length i) := by
          rw [cells_succ hu]
          unfold cell
          rw [tl, List.append_assoc]
          rfl
        refine ⟨_, _, _, _, _, _, _, rfl, sm8, by rw [ec]; exact hN8, ?_⟩
        rw [ec, List.length_append, List.length_append, pairL_len, tl, Nat.succ_mul]
        show _ + 2 + _ ≤ _
        omega
    · rintro σ H' ⟨v5, v6, v7, v8, v9, v10, v11, rfl, sm, hN, hlen⟩
      rw [nv_len] at hN
      exact ⟨_, rfl, k H' N (L2.Same.trans (L2.Same.trans s1 s2) sm) (L2.Same.free (L2.Same.trans s1 s2) nN) hN⟩
end
end Rh

set_option Elab.async false
set_option linter.all false
set_option maxRecDepth 100000
set_option maxHeartbeats 2000000
/-! # Rh, part K: a house -/
namespace Rh
open PySem PySem.Spec PyProof.Rows L2
open Oc05 (Under)
def hf1 (xa : Addr) : List (Str × V) := [("axioms", .ref xa)]
def hf (xa ta : Addr) : List (Str × V) := [("axioms", .ref xa), ("told", .ref ta)]
theorem ph1 {xa : Addr} : putF "axioms" (.ref xa) [] = hf1 xa := rfl
theorem ph2 {xa ta : Addr} : putF "told" (.ref ta) (hf1 xa) = hf xa ta := putF_add (names := ["axioms"]) rfl (by decide +kernel)
theorem ph3 {xa ta xb : Addr} : putF "axioms" (.ref xb) (hf xa ta) = hf xb ta := if_pos rfl
theorem ph4 {xa ta tb : Addr} : putF "told" (.ref tb) (hf xa ta) = hf xa tb := by
  refine (if_neg (by decide +kernel)).trans ?_
  exact congrArg (fun r => (("axioms" : Str), V.ref xa) :: r) (if_pos rfl)
theorem lk_axioms {xa ta : Addr} : (hf xa ta).lookup ("axioms" : Str) = some (.ref xa) := lk_here
theorem lk_told {xa ta : Addr} : (hf xa ta).lookup ("told" : Str) = some (.ref ta) := lk_at (pre := hf1 xa) (names := ["axioms"]) rfl (by decide +kernel)
section
variable {P : Program} {w : World} {K : PySem.W.Frag} {mg : Str → Option Value} {base : Heap} {CK CH : Addr}
/-- a house in the heap: its axioms at xa, what's told of roles at ta -/
structure HAt (CH : Addr) (H : Hp) (x xa ta : Addr) (s : Oc05.House) : Prop where
  ins : ∃ dx, H x = some (.ins CH dx (hf xa ta))
  axs : ∃ us, H xa = some (.lst us) ∧ XsAt H us s.axioms
  tld : ∃ ts, H ta = some (.lst ts) ∧ UsAt H ts s.roles
  ne : xa ≠ ta
theorem HAt.same {H H' : Hp} {x xa ta : Addr} {s : Oc05.House} (A : HAt CH H x xa ta s) (e : Same H H') : HAt CH H' x xa ta s := by
  obtain ⟨dx, h1⟩ := A.ins
  obtain ⟨us, h2, h3⟩ := A.axs
  obtain ⟨ts, h4, h5⟩ := A.tld
  exact ⟨⟨dx, e x _ h1⟩, ⟨us, e xa _ h2, XsAt.stay (stayS e) h3⟩, ⟨ts, e ta _ h4, UsAt.stay (stayS e) h5⟩, A.ne⟩
/-- what a call leaves: the house so, all else as it was -/
def Post (CH : Addr) (H : Hp) (x xa ta : Addr) (s : Oc05.House) (H' : Hp) : Prop := ∃ xb tb, HAt CH H' x xb tb s ∧ (xb = xa ∨ H xb = none) ∧ (tb = ta ∨ H tb = none) ∧ ∀ b o, H b = some o → b ≠ x → b ≠ xa → b ≠ ta → H' b = some o
theorem Post.same {H H' : Hp} {x xa ta : Addr} {s : Oc05.House} (A : HAt CH H x xa ta s) (e : Same H H') : Post CH H x xa ta s H' := ⟨xa, ta, A.same e, .inl rfl, .inl rfl, fun b o h _ _ _ => e b o h⟩
/-! ### __init__, begins -/
/- House.__init__: slots 0 self -/
abbrev s_House___init__ : Stmt := inClass (top 50) 0
abbrev N_House___init__ : List Str := ["self"]
theorem sc_House___init__ : FnScope N_House___init__ ["self"] (defScope s_House___init__) := ⟨rfl, rfl, rfl, by decide +kernel, rfl, by decide +kernel, by decide +kernel⟩
def spHInit (CH : Addr) : Sp := fun vs H Q _ => ∃ (x dx : Addr), vs = [.ref x] ∧ H x = some (.ins CH dx []) ∧ ∀ (H' : Hp) (xa ta : Addr), HAt CH H' x xa ta Oc05.init → H xa = none → H ta = none → Kp x H H' → Q .non H'
theorem ok_hinit {f : Addr} {fd : FuncData} (F : Fun K "__init__" "House.__init__" s_House___init__ f fd) (T : Txt K mg CK CH) : FnOk P w K mg base CX0 1 f fd ["self"] (spHInit CH) := by
  refine F.ok sc_House___init__ (fun vs H Q E h => ?_) (fun cdv A outer s H vs Q E hr h => ⟨_, (pss_cons (ps_fld (pv 0) (pe_lst pa_nil) rfl)
    (pss_one (ps_fld (pv 0) (pe_lst pa_nil) rfl))), ?_⟩)
  · obtain ⟨x, dx, rfl, _⟩ := h
    rfl
  · obtain ⟨x, dx, rfl, hx, k⟩ := h
    refine ⟨by show 0 ≤ sizeLine; decide, fun xa nxa => ⟨_, rfl, x, CH, dx, [], rfl, same_new nxa x _ hx, T.cl_House, T.nh_axioms, by show 0 < 1000; decide, ?_⟩⟩
    rw [ph1]
    have nx : xa ≠ x := fun e => by rw [e, hx] at nxa; cases nxa
    obtain ⟨H1, e1⟩ : ∃ H1, H1 = upd (upd H xa (.lst [])) x (.ins CH dx (hf1 xa)) := ⟨_, rfl⟩
    have hx1 : H1 x = some (.ins CH dx (hf1 xa)) := by rw [e1, upd_same]
    have ha1 : H1 xa = some (.lst []) := by rw [e1, upd_ne nx, upd_same]
    have k1 : Kp x H H1 := by rw [e1]; exact ((Kp.refl x H).same (same_new nxa)).upd
    rw [← e1]
    refine ⟨by show 0 ≤ sizeLine; decide, fun ta nta => ⟨_, rfl, x, CH, dx, _, rfl, same_new nta x _ hx1, T.cl_House, T.nh_told, by show 1 < 1000; decide, ?_⟩⟩
    rw [ph2]
    have nt : ta ≠ x := fun e => by rw [e, hx1] at nta; cases nta
    have nat : xa ≠ ta := ne_of_none ha1 nta
    refine k _ xa ta ⟨⟨dx, upd_same⟩, ⟨[], by rw [upd_ne nx, upd_ne nat]; exact ha1, .nil⟩, ⟨[], by rw [upd_ne nt, upd_same], .nil⟩, nat⟩ nxa ?_ (k1.same (same_new nta)).upd
    cases e : H ta with
    | none => rfl
    | some o =>
      rw [k1 ta o e nt] at nta
      cases nta
/- House.begins: slots 0 self -/
abbrev s_House_begins : Stmt := inClass (top 50) 4
abbrev N_House_begins : List Str := ["self"]
theorem sc_House_begins : FnScope N_House_begins ["self"] (defScope s_House_begins) := ⟨rfl, rfl, rfl, by decide +kernel, rfl, by decide +kernel, by decide +kernel⟩
def spBegins (CH : Addr) : Sp := fun vs H Q _ => ∃ (x xa ta : Addr) (s : Oc05.House), vs = [.ref x] ∧ HAt CH H x xa ta s ∧ ∀ H', Post CH H x xa ta Oc05.init H' → Q (.int 0) H'
theorem ok_begins {f : Addr} {fd : FuncData} (F : Fun K "begins" "House.begins" s_House_begins f fd) (T : Txt K mg CK CH) : FnOk P w K mg base CX0 1 f fd ["self"] (spBegins CH) := by
  refine F.ok sc_House_begins (fun vs H Q E h => ?_) (fun cdv A outer s H vs Q E hr h => ⟨_, (pss_cons (ps_fld (pv 0) (pe_lst pa_nil) rfl)
    (pss_cons (ps_fld (pv 0) (pe_lst pa_nil) rfl)
    (pss_one (ps_ret pe_int)))), ?_⟩)
  · obtain ⟨x, xa, ta, s, rfl, _⟩ := h
    rfl
  · obtain ⟨x, xa0, ta0, s0, rfl, HA, k⟩ := h
    obtain ⟨dx, hx⟩ := HA.ins
    refine ⟨by show 0 ≤ sizeLine; decide, fun xa nxa => ⟨_, rfl, x, CH, dx, _, rfl, same_new nxa x _ hx, T.cl_House, T.nh_axioms, by show 2 < 1000; decide, ?_⟩⟩
    rw [ph3]
    have nx : xa ≠ x := fun e => by rw [e, hx] at nxa; cases nxa
    obtain ⟨H1, e1⟩ : ∃ H1, H1 = upd (upd H xa (.lst [])) x (.ins CH dx (hf xa ta0)) := ⟨_, rfl⟩
    have hx1 : H1 x = some (.ins CH dx (hf xa ta0)) := by rw [e1, upd_same]
    have ha1 : H1 xa = some (.lst []) := by rw [e1, upd_ne nx, upd_same]
    have k1 : Kp x H H1 := by rw [e1]; exact ((Kp.refl x H).same (same_new nxa)).upd
    rw [← e1]
    refine ⟨by show 0 ≤ sizeLine; decide, fun ta nta => ⟨_, rfl, x, CH, dx, _, rfl, same_new nta x _ hx1, T.cl_House, T.nh_told, by show 2 < 1000; decide, ?_⟩⟩
    rw [ph4]
    have nt : ta ≠ x := fun e => by rw [e, hx1] at nta; cases nta
    have nat : xa ≠ ta := ne_of_none ha1 nta
    refine k _ ⟨xa, ta, ⟨⟨dx, upd_same⟩, ⟨[], by rw [upd_ne nx, upd_ne nat]; exact ha1, .nil⟩, ⟨[], by rw [upd_ne nt, upd_same], .nil⟩, nat⟩, .inr nxa, .inr ?_, fun b o h n _ _ => (k1.same (same_new nta)).upd b o h n⟩
    cases e : H ta with
    | none => rfl
    | some o =>
      rw [k1 ta o e nt] at nta
      cases nta
/-! ### role -/
/- House.role: slots 0 self, 1 lower, 2 upper -/
abbrev s_House_role : Stmt := inClass (top 50) 6
abbrev N_House_role : List Str := ["self", "lower", "upper"]
theorem sc_House_role : FnScope N_House_role ["self", "lower", "upper"] (defScope s_House_role) := ⟨rfl, rfl, rfl, by decide +kernel, rfl, by decide +kernel, by decide +kernel⟩
def spRole (CH : Addr) : Sp := fun vs H Q _ => ∃ (x xa ta : Addr) (s : Oc05.House) (r t : Nat), vs = [.ref x, .int (r : Int), .int (t : Int)] ∧ HAt CH H x xa ta s ∧ HInv s ∧ ∀ H', Post CH H x xa ta (Oc05.step s (.role r t)).1 H' → Q (.int (Oc05.step s (.role r t)).2.v) H'
theorem ok_role {f : Addr} {fd : FuncData} (F : Fun K "role" "House.role" s_House_role f fd) (T : Txt K mg CK CH) : FnOk P w K mg base CX0 1 f fd ["self", "lower", "upper"] (spRole CH) := by
  refine F.ok sc_House_role (fun vs H Q E h => ?_) (fun cdv A outer s H vs Q E hr h => ⟨_, (pss_cons (ps_if (PW.pt (pw_or (pt_cmpR op_ge (pv 1) (pe_gi rfl T.g_ROLE_COUNT) (nomark _)) (pw_or1 (pt_cmpR op_ge (pv 2) (pe_gi rfl T.g_ROLE_COUNT) (nomark _))))) (pss_one (ps_ret (pe_gi rfl T.g_WRONG_FORM))) pss_nil)
    (pss_cons (ps_if (pt_cmpR op_ge (pe_callB call_len_seq (by rfl) T.b_len (by decide +kernel) (pa_cons (pe_fld (pv 0) rfl) pa_nil)) (pe_gi rfl T.g_MOST_ROLES_TOLD) (nomark _)) (pss_one (ps_ret (pe_gi rfl T.g_TOO_MANY))) pss_nil)
    (pss_cons (ps_expr (pe_bm PySem.F.plainAttrs_list PySem.F.slot_list_append PySem.F.type_list_append mt_append (pe_fld (pv 0) rfl) (pa_cons (pe_tup (pa_cons (pv 1) (pa_cons (pv 2) pa_nil))) pa_nil)))
    (pss_one (ps_ret (pe_op op_sub (pe_callB call_len_seq (by rfl) T.b_len (by decide +kernel) (pa_cons (pe_fld (pv 0) rfl) pa_nil)) pe_int)))))), ?_⟩)
  · obtain ⟨x, xa, ta, s, r, t, rfl, _⟩ := h
    rfl
  · obtain ⟨x, xa, ta, s0, r, t, rfl, HA, I, k⟩ := h
    obtain ⟨dx, hx⟩ := HA.ins
    obtain ⟨us, ha, hax⟩ := HA.axs
    obtain ⟨ts, ht, htl⟩ := HA.tld
    have elen : ts.length = s0.roles.length := Paired.length htl
    have r4 := I.r4
    have wrong : (4 ≤ r ∨ 4 ≤ t) → Q (.int (-1)) H := by
      intro hc
      have e : Oc05.step s0 (.role r t) = (s0, Oc05.ok (-1)) := if_pos hc
      rw [e] at k
      exact k H (Post.same HA (Same.refl H))
    refine ⟨_, rfl, _, _, rfl, rfl, _, rfl, ?_⟩
    by_cases h1 : (4 : Int) ≤ (r : Int)
    · exact dT h1 (bT rfl (wrong (.inl (by omega))))
    refine dF h1 ⟨_, rfl, _, _, rfl, rfl, _, rfl, ?_⟩
    by_cases h2 : (4 : Int) ≤ (t : Int)
    · exact dT h2 (wrong (.inr (by omega)))
    refine dF h2 ⟨_, rfl, x, CH, dx, _, _, rfl, hx, T.cl_House, T.nh_told, lk_told, ta, ts, rfl, .inl (SqL.of ht), _, _, rfl, rfl, _, rfl, ?_⟩
    have hc : ¬ (4 ≤ r ∨ 4 ≤ t) := by omega
    by_cases h3 : (4 : Int) ≤ (ts.length : Int)
    · refine dT h3 ?_
      have e : Oc05.step s0 (.role r t) = (s0, Oc05.ok (-7)) := (if_neg hc).trans (if_pos (show s0.roles.length = 4 by omega))
      rw [e] at k
      exact k H (Post.same HA (Same.refl H))
    refine dF h3 ?_
    have e : Oc05.step s0 (.role r t) = ({ s0 with roles := s0.roles ++ [(r, t)] }, Oc05.ok (s0.roles.length : Nat)) := (if_neg hc).trans (if_neg (show ¬ s0.roles.length = 4 by omega))
    rw [e] at k
    refine ⟨_, rfl, x, CH, dx, _, _, rfl, hx, T.cl_House, T.nh_told, lk_told, .inl ⟨rfl, _, SqL.of ht⟩, _, rfl, _, rfl, by show 2 ≤ sizeLine; decide, fun tp ntp => ?_⟩
    have n1 : ta ≠ tp := ne_of_none ht ntp
    have ht1 : upd H tp (.tup [.int (r : Int), .int (t : Int)]) ta = some (.lst ts) := by rw [upd_ne n1]; exact ht
    have nxt : x ≠ ta := fun e => by rw [e, ht] at hx; cases hx
    refine ⟨ta, ts, _, rfl, rfl, ht1, ?_, ?_⟩
    · have : (1000 : Nat) < sizeLine := by decide
      omega
    have hx2 : upd (upd H tp (.tup [.int (r : Int), .int (t : Int)])) ta (.lst (ts ++ [.ref tp])) x = some (.ins CH dx (hf xa ta)) := by
      rw [upd_ne nxt, upd_ne (ne_of_none hx ntp)]
      exact hx
    refine ⟨_, rfl, x, CH, dx, _, _, rfl, hx2, T.cl_House, T.nh_told, lk_told, ta, _, rfl, .inl (SqL.of upd_same), _, _, rfl, rfl, ?_⟩
    have ev : (((ts ++ [V.ref tp]).length : Nat) : Int) - 1 = ((s0.roles.length : Nat) : Int) := by
      rw [List.length_append, elen]
      show ((s0.roles.length + 1 : Nat) : Int) - 1 = _
      omega
    show Q (.int ((((ts ++ [V.ref tp]).length : Nat) : Int) - 1)) _
    rw [ev]
    have sty := (stay_new (o := .tup [.int (r : Int), .int (t : Int)]) ntp).trans (stay_lst (o := .lst (ts ++ [.ref tp])) ht1)
    refine k _ ⟨xa, ta, ⟨⟨dx, hx2⟩, ⟨us, ?_, XsAt.stay sty hax⟩, ⟨_, upd_same, Paired.snoc (UsAt.stay sty htl) ⟨tp, rfl, ?_⟩⟩, HA.ne⟩, .inl rfl, .inl rfl, fun b o h _ _ n => ?_⟩
    · rw [upd_ne HA.ne, upd_ne (ne_of_none ha ntp)]
      exact ha
    · rw [upd_ne n1.symm, upd_same]
    · rw [upd_ne n, upd_ne (ne_of_none h ntp)]
      exact h
/-! ### atoms_with -/
def both (a : Oc.C × Oc.C) : List Oc.C := [a.1, a.2]
theorem atomsFor_both (ax : List Oc.Axiom) (cs : List Oc.C) : Oc.atomsFor ax cs = Oc.atomsOf (ax.flatMap both ++ cs) := rfl
theorem both_len : ∀ ax : List (Oc.C × Oc.C), (ax.flatMap both).length = 2 * ax.length
  | [] => rfl
  | a :: r => by
    rw [List.flatMap_cons, List.length_append, both_len r, List.length_cons]
    show 2 + _ = _
    omega
theorem subs_sum : ∀ (cs : List Oc.C) (m : Nat), (∀ c ∈ cs, (toks c).length ≤ m) → (cs.flatMap subs).length ≤ cs.length * m
  | [], m, _ => by simp
  | c :: r, m, h => by
    have h1 := subs_sum r m fun d hd => h d (List.mem_cons_of_mem _ hd)
    have h2 := subs_length_le c
    have h3 := h c List.mem_cons_self
    rw [List.flatMap_cons, List.length_append, List.length_cons, Nat.succ_mul]
    omega
/- House.atoms_with: slots 0 self, 1 concepts, 2 row, 3 first, 4 second -/
abbrev s_House_atoms_with : Stmt := inClass (top 50) 1
abbrev N_House_atoms_with : List Str := ["self", "concepts", "row", "first", "second"]
theorem sc_House_atoms_with : FnScope N_House_atoms_with ["self", "concepts"] (defScope s_House_atoms_with) := ⟨rfl, rfl, rfl, by decide +kernel, rfl, by decide +kernel, by decide +kernel⟩
def spAtomsWith (CH : Addr) : Sp := fun vs H Q _ => ∃ (x xa ta ca : Addr) (s : Oc05.House) (us : List V) (cs : List Oc.C), vs = [.ref x, .ref ca] ∧ HAt CH H x xa ta s ∧ HInv s ∧ H ca = some (.lst us) ∧ CsAt H us cs ∧ (∀ c ∈ cs, wf c = true ∧ (toks c).length ≤ 30) ∧ cs.length ≤ 2 ∧
  ∀ (H' : Hp) (D : Addr) (ws : List V), Same H H' → H D = none → H' D = some (.lst ws) → CsAt H' ws (Oc.atomsFor s.axioms cs) → Q (.ref D) H'
theorem ok_atoms_with {f : Addr} {fd : FuncData} (F : Fun K "atoms_with" "House.atoms_with" s_House_atoms_with f fd) (T : Txt K mg CK CH) (D_atoms_of : Df P w K mg base "atoms_of" 4 ["concepts"] spAtoms) : FnOk P w K mg base CX0 5 f fd ["self", "concepts"] (spAtomsWith CH) := by
  refine F.ok sc_House_atoms_with (fun vs H Q E h => ?_) (fun cdv A outer s H vs Q E hr h => ⟨_, (pss_cons (ps_set (i := 2) sc_House_atoms_with.nd rfl (by first | exact .inl rfl | exact .inr rfl) (pe_lst pa_nil))
    (pss_cons (ps_for PassesOwn.never rfl (pi_list (pe_fld (pv 0) rfl)) (pg_tup rfl (pgs_cons (pg_name (i := 3) sc_House_atoms_with.nd rfl (by first | exact .inl rfl | exact .inr rfl)) (pgs_cons (pg_name (i := 4) sc_House_atoms_with.nd rfl (by first | exact .inl rfl | exact .inr rfl)) pgs_nil))) (pss_cons (ps_expr (pe_bm PySem.F.plainAttrs_list PySem.F.slot_list_append PySem.F.type_list_append mt_append (pv 2) (pa_cons (pv 3) pa_nil)))
    (pss_one (ps_expr (pe_bm PySem.F.plainAttrs_list PySem.F.slot_list_append PySem.F.type_list_append mt_append (pv 2) (pa_cons (pv 4) pa_nil))))))
    (pss_one (ps_ret (pe_callD D_atoms_of (rm hr) rfl (pa_cons (pe_op op_cat (pv 2) (pv 1)) pa_nil)))))), ?_⟩)
  · obtain ⟨x, xa, ta, ca, s, us, cs, rfl, _⟩ := h
    rfl
  · obtain ⟨x, xa, ta, ca, s0, us, cs, rfl, HA, I, hca, hcs, hok, hc2, k⟩ := h
    obtain ⟨dx, hx⟩ := HA.ins
    obtain ⟨as, ha, hax⟩ := HA.axs
    have al : as.length = s0.axioms.length := Paired.length hax
    have cl : us.length = cs.length := Paired.length hcs
    have ax5 := I.ax5
    refine ⟨by show 0 ≤ sizeLine; decide, fun R nR => ?_⟩
    refine ⟨_, rfl, x, CH, dx, _, _, rfl, same_new nR x _ hx, T.cl_House, T.nh_axioms, lk_axioms, xa, rfl, ⟨_, SqL.of (same_new nR xa _ ha)⟩, ?_⟩
    refine for_list (K := K) (a := xa) (xs := as) (fun i σ H' => ∃ (v3 v4 : Option V) (ws : List V), σ = [some (.ref x), some (.ref ca), some (.ref R), v3, v4] ∧ Same H H' ∧ H' R = some (.lst ws) ∧ CsAt H' ws ((s0.axioms.take i).flatMap both))
      ⟨_, _, [], rfl, same_new nR, upd_same, .nil⟩ (fun i σ H' _ ⟨_, _, _, _, sm, _⟩ => SqL.of (sm xa _ ha)) ?_ ?_
    · rintro i y σ H' hy ⟨v3, v4, ws, rfl, sm, hR, hws⟩
      obtain ⟨a, haa, b, w1, w2, rfl, hb, c1, c2⟩ := pair_get hax hy
      have hi := (List.getElem?_eq_some_iff.mp hy).1
      have wl : ws.length ≤ 10 := by
        have g := Paired.length hws
        rw [both_len, List.length_take] at g
        omega
      refine ⟨b, _, rfl, SqT.of (sm b _ hb), rfl, _, _, rfl, _, _, rfl, rfl, ?_⟩
      refine ⟨_, rfl, .inl ⟨rfl, _, SqL.of hR⟩, _, rfl, R, ws, _, rfl, rfl, hR, ?_, ?_⟩
      · have : (1000 : Nat) < sizeLine := by decide
        omega
      refine ⟨_, rfl, .inl ⟨rfl, _, SqL.of upd_same⟩, _, rfl, R, _, _, rfl, rfl, upd_same, ?_, ?_⟩
      · have : (1000 : Nat) < sizeLine := by decide
        rw [List.length_append]
        show _ + 1 < _
        omega
      rw [upd_upd]
      refine ⟨_, _, _, rfl, same_upd sm nR, upd_same, ?_⟩
      rw [take_snoc haa, List.flatMap_append, List.flatMap_singleton]
      have sty := stay_lst (o := .lst (ws ++ [w1] ++ [w2])) hR
      have e : (s0.axioms.take i).flatMap both ++ both a = (s0.axioms.take i).flatMap both ++ [a.1] ++ [a.2] := by simp [both]
      rw [e]
      exact Paired.snoc (Paired.snoc (CsAt.stay sty hws) (CAt.stay ((stayS sm).trans sty) c1)) (CAt.stay ((stayS sm).trans sty) c2)
    · rintro σ H' ⟨v3, v4, ws, rfl, sm, hR, hws⟩
      rw [al, List.take_length] at hws
      have wl := Paired.length hws
      rw [both_len] at wl
      refine ⟨_, rfl, _, rfl, R, ca, ws, us, rfl, rfl, hR, sm ca _ hca, ?_, fun D nD => ?_⟩
      · have : (1000 : Nat) < sizeLine := by decide
        omega
      have hall : CsAt (upd H' D (.lst (ws ++ us))) (ws ++ us) (s0.axioms.flatMap both ++ cs) := by
        have g : ∀ {a b : List V} {c d : List Oc.C}, CsAt (upd H' D (.lst (ws ++ us))) a c → CsAt (upd H' D (.lst (ws ++ us))) b d → CsAt (upd H' D (.lst (ws ++ us))) (a ++ b) (c ++ d) := by
          intro a b c d p q
          induction p with
          | nil => exact q
          | cons x r ih => exact .cons x ih
        exact g (CsAt.stay (stay_new nD) hws) (CsAt.stay ((stayS sm).trans (stay_new nD)) hcs)
      have okall : ∀ c ∈ s0.axioms.flatMap both ++ cs, wf c = true ∧ (toks c).length ≤ 30 := by
        intro c hc
        rcases List.mem_append.mp hc with q | q
        · obtain ⟨a, ha, hc'⟩ := List.mem_flatMap.mp q
          have ok := I.axs a ha
          simp [both] at hc'
          rcases hc' with rfl | rfl
          · exact ok.1
          · exact ok.2
        · exact hok c q
      refine ⟨D, _, _, rfl, upd_same, hall, fun c hc => ⟨(okall c hc).1, by have := (okall c hc).2; omega⟩, ?_, fun H2 E2 zs s2 nE hE hz => ?_⟩
      · have g := subs_sum (s0.axioms.flatMap both ++ cs) 30 fun c hc => (okall c hc).2
        rw [List.length_append, both_len] at g
        omega
      · refine k H2 E2 zs (L2.Same.trans (sameN sm nD) s2) (L2.Same.free (sameN sm nD) nE) hE ?_
        rw [atomsFor_both]
        exact hz
/-! ### refusal -/
theorem no_meth {xa ta : Addr} {m : Str} (h : (["axioms", "told"] : List Str).all (fun g => !decide (g = m)) = true) : (hf xa ta).lookup m = none := lk_none (names := ["axioms", "told"]) rfl h
/- House.refusal: slots 0 self, 1 concepts -/
abbrev s_House_refusal : Stmt := inClass (top 50) 2
abbrev N_House_refusal : List Str := ["self", "concepts"]
theorem sc_House_refusal : FnScope N_House_refusal ["self", "concepts"] (defScope s_House_refusal) := ⟨rfl, rfl, rfl, by decide +kernel, rfl, by decide +kernel, by decide +kernel⟩
def spRefusal (CH : Addr) : Sp := fun vs H Q _ => ∃ (x xa ta : Addr) (s : Oc05.House) (v : V), vs = [.ref x, v] ∧ HAt CH H x xa ta s ∧ HInv s ∧ ((v = .non ∧ Q (.int (-1)) H) ∨ ∃ (ca : Addr) (us : List V) (cs : List Oc.C), v = .ref ca ∧ H ca = some (.lst us) ∧ CsAt H us cs ∧ (∀ c ∈ cs, wf c = true ∧ (toks c).length ≤ 30) ∧ cs.length ≤ 2 ∧
  ∀ H', Same H H' → Q (.int (if Oc05.much s cs = true then -7 else 0)) H')
theorem ok_refusal {f : Addr} {fd : FuncData} (F : Fun K "refusal" "House.refusal" s_House_refusal f fd) (T : Txt K mg CK CH) (D_House_atoms_with : Mt P w K mg base CH "atoms_with" 5 ["self", "concepts"] (spAtomsWith CH)) : FnOk P w K mg base CX0 6 f fd ["self", "concepts"] (spRefusal CH) := by
  refine F.ok sc_House_refusal (fun vs H Q E h => ?_) (fun cdv A outer s H vs Q E hr h => ⟨_, (pss_cons (ps_if (pt_cmpR op_isN (pv 1) pe_non (nomark _)) (pss_one (ps_ret (pe_gi rfl T.g_WRONG_FORM))) pss_nil)
    (pss_cons (ps_if (pt_cmpR op_gt (pe_callB call_len_seq (by rfl) T.b_len (by decide +kernel) (pa_cons (pe_methD (pv 0) T.cl_House D_House_atoms_with (rm hr) (pa_cons (pv 1) pa_nil)) pa_nil)) (pe_gi rfl T.g_MOST_ATOMS) (nomark _)) (pss_one (ps_ret (pe_gi rfl T.g_TOO_MANY))) pss_nil)
    (pss_one (ps_ret pe_int)))), ?_⟩)
  · obtain ⟨x, xa, ta, s, v, rfl, _⟩ := h
    rfl
  · obtain ⟨x, xa, ta, s0, v, rfl, HA, I, hv⟩ := h
    rcases hv with ⟨rfl, q⟩ | ⟨ca, us, cs, rfl, hca, hcs, hok, hc2, k⟩
    · exact ⟨_, rfl, rfl, _, rfl, bT rfl q⟩
    · refine ⟨_, rfl, rfl, _, rfl, bF rfl ?_⟩
      obtain ⟨dx, hx⟩ := HA.ins
      refine ⟨_, rfl, x, dx, _, rfl, hx, no_meth (by decide +kernel), _, rfl, x, xa, ta, ca, s0, us, cs, rfl, HA, I, hca, hcs, hok, hc2, fun H2 D2 ws s2 nD2 hD2 hws => ?_⟩
      have wl := Paired.length hws
      refine ⟨D2, ws, rfl, .inl (SqL.of hD2), _, _, rfl, rfl, _, rfl, ?_⟩
      by_cases h3 : (5 : Int) < (ws.length : Int)
      · refine dT h3 ?_
        rw [if_pos (show Oc05.much s0 cs = true from decide_eq_true (show 5 < (Oc.atomsFor s0.axioms cs).length by omega))] at k
        exact k H2 s2
      · refine dF h3 ?_
        rw [if_neg (fun q => h3 (by have : 5 < (Oc.atomsFor s0.axioms cs).length := of_decide_eq_true q; omega))] at k
        exact k H2 s2
/-! ### kinds_with -/
theorem atoms_ok {cs : List Oc.C} (w : ∀ c ∈ cs, wf c = true ∧ (toks c).length ≤ 30) (few : (Oc.atomsOf cs).length ≤ 5) : Atoms (Oc.atomsOf cs) := by
  refine ⟨ats_of cs, fun c hc => ?_, few, fun c hc d hd => ?_⟩
  · obtain ⟨e, he, hce⟩ := mem_atomsOf.mp hc
    have q := (atoms_isAt hce).2
    exact ⟨wf_subs (w e he).1 c q, by have := toks_sub q; have := (w e he).2; omega⟩
  · obtain ⟨e, he, hce⟩ := mem_atomsOf.mp hc
    obtain ⟨i, q⟩ := atoms_isAt hd
    exact mem_atomsOf.mpr ⟨e, he, atoms_mem (atoms_in q (atoms_isAt hce).2) i⟩
theorem all_ok {s : Oc05.House} {cs : List Oc.C} (I : HInv s) (hok : ∀ c ∈ cs, wf c = true ∧ (toks c).length ≤ 30) : ∀ c ∈ s.axioms.flatMap both ++ cs, wf c = true ∧ (toks c).length ≤ 30 := by
  intro c hc
  rcases List.mem_append.mp hc with q | q
  · obtain ⟨a, ha, hc'⟩ := List.mem_flatMap.mp q
    have ok := I.axs a ha
    simp [both] at hc'
    rcases hc' with rfl | rfl
    · exact ok.1
    · exact ok.2
  · exact hok c q
theorem ax_ok {s : Oc05.House} {cs : List Oc.C} (I : HInv s) : AxOk (Oc.atomsFor s.axioms cs) s.axioms := by
  intro a ha
  have ok := I.axs a ha
  exact ⟨⟨ok.1.1, by have := ok.1.2; omega, fun d hd => mem_atomsFor.mpr (.inl ⟨a, ha, .inl hd⟩)⟩, ⟨ok.2.1, by have := ok.2.2; omega, fun d hd => mem_atomsFor.mpr (.inl ⟨a, ha, .inr hd⟩)⟩⟩
/- House.kinds_with: slots 0 self, 1 concepts -/
abbrev s_House_kinds_with : Stmt := inClass (top 50) 3
abbrev N_House_kinds_with : List Str := ["self", "concepts"]
theorem sc_House_kinds_with : FnScope N_House_kinds_with ["self", "concepts"] (defScope s_House_kinds_with) := ⟨rfl, rfl, rfl, by decide +kernel, rfl, by decide +kernel, by decide +kernel⟩
def spKindsWith (CH CK : Addr) : Sp := fun vs H Q _ => ∃ (x xa ta ca : Addr) (s : Oc05.House) (us : List V) (cs : List Oc.C), vs = [.ref x, .ref ca] ∧ HAt CH H x xa ta s ∧ HInv s ∧ H ca = some (.lst us) ∧ CsAt H us cs ∧ (∀ c ∈ cs, wf c = true ∧ (toks c).length ≤ 30) ∧ cs.length ≤ 2 ∧ ¬ Oc05.much s cs = true ∧
  ∀ (H' : Hp) (y : Addr), Same H H' → H y = none → KP CK H' y (Oc.atomsFor s.axioms cs) s.roles (Oc05.types s.roles (Oc.atomsFor s.axioms cs) s.axioms) → Q (.ref y) H'
theorem ok_kinds_with {f : Addr} {fd : FuncData} (F : Fun K "kinds_with" "House.kinds_with" s_House_kinds_with f fd) (T : Txt K mg CK CH) (D_House_atoms_with : Mt P w K mg base CH "atoms_with" 5 ["self", "concepts"] (spAtomsWith CH)) (D_all_roles_over : Df P w K mg base "all_roles_over" 2 ["told"] spAllOver)
    (M_Kinds : Mkr P w K mg base "Kinds" CK 7 ["self", "atoms", "over", "axioms"] (spKInit CK)) : FnOk P w K mg base CX0 9 f fd ["self", "concepts"] (spKindsWith CH CK) := by
  refine F.ok sc_House_kinds_with (fun vs H Q E h => ?_) (fun cdv A outer s H vs Q E hr h => ⟨_, (pss_one (ps_ret (pe_makeD M_Kinds (rm hr) rfl (pa_cons (pe_methD (pv 0) T.cl_House D_House_atoms_with (rm hr) (pa_cons (pv 1) pa_nil)) (pa_cons (pe_callD D_all_roles_over (rm hr) rfl (pa_cons (pe_fld (pv 0) rfl) pa_nil)) (pa_cons (pe_fld (pv 0) rfl) pa_nil)))))), ?_⟩)
  · obtain ⟨x, xa, ta, ca, s, us, cs, rfl, _⟩ := h
    rfl
  · obtain ⟨x, xa, ta, ca, s0, us, cs, rfl, HA, I, hca, hcs, hok, hc2, hm, k⟩ := h
    obtain ⟨dx, hx⟩ := HA.ins
    have few : (Oc.atomsFor s0.axioms cs).length ≤ 5 := Nat.le_of_not_lt fun q => hm (decide_eq_true q)
    have AT : Atoms (Oc.atomsFor s0.axioms cs) := by rw [atomsFor_both] at few ⊢; exact atoms_ok (all_ok I hok) few
    refine ⟨_, rfl, x, dx, _, rfl, hx, no_meth (by decide +kernel), _, rfl, x, xa, ta, ca, s0, us, cs, rfl, HA, I, hca, hcs, hok, hc2, fun H2 D2 ws s2 nD2 hD2 hws => ?_⟩
    have HA2 := HA.same s2
    obtain ⟨_, hx2⟩ := HA2.ins
    obtain ⟨ts, ht2, htl2⟩ := HA2.tld
    refine ⟨_, rfl, x, CH, _, _, _, rfl, hx2, T.cl_House, T.nh_told, lk_told, ta, ts, s0.roles, rfl, ht2, htl2, I.lo, by have := I.r4; omega, fun H3 D3 s3 nD3 hov => ?_⟩
    have HA3 := HA2.same s3
    obtain ⟨_, hx3⟩ := HA3.ins
    obtain ⟨as, ha3, hax3⟩ := HA3.axs
    obtain ⟨ovs, hD3, hovs⟩ := hov
    refine ⟨_, rfl, x, CH, _, _, _, rfl, hx3, T.cl_House, T.nh_axioms, lk_axioms, fun y dy ny ndy ne => ?_⟩
    have s4 : Same H3 (upd (upd H3 dy (.own y)) y (.ins CK dy [])) := sameN (same_new ndy) (by rw [upd_ne ne.symm]; exact ny)
    have s23 := L2.Same.trans s2 s3
    refine ⟨y, dy, D2, D3, xa, Oc.atomsFor s0.axioms cs, s0.roles, s0.axioms, ws, ovs, as, rfl, upd_same, s4 D2 _ (s3 D2 _ hD2), CsAt.stay ((stayS s3).trans (stayS s4)) hws, AT, I.lo, s4 D3 _ hD3, Paired.mono (fun v r q => q.same fun b xs e => s4 b _ e) hovs, s4 xa _ ha3, XsAt.stay (stayS s4) hax3, ax_ok I, fun H' kp kept => ⟨rfl, ?_⟩⟩
    refine k H' y (fun b o e => ?_) (L2.Same.free s23 ny) kp
    have e3 := s23 b o e
    exact kept b o (s4 b o e3) (ne_of_none e3 ny)
/-! ### line -/
/- House.line: slots 0 self, 1 numbers, 2 concepts, 3 refused -/
abbrev s_House_line : Stmt := inClass (top 50) 5
abbrev N_House_line : List Str := ["self", "numbers", "concepts", "refused"]
theorem sc_House_line : FnScope N_House_line ["self", "numbers"] (defScope s_House_line) := ⟨rfl, rfl, rfl, by decide +kernel, rfl, by decide +kernel, by decide +kernel⟩
def spLine (CH : Addr) (K : PySem.W.Frag) : Sp := fun vs H Q _ => ∃ (x xa ta na : Addr) (s : Oc05.House) (l : List Nat), vs = [.ref x, .ref na] ∧ HAt CH H x xa ta s ∧ HInv s ∧ SqL K H na (nv l) ∧ l.length ≤ 30 ∧ ∀ H', Post CH H x xa ta (Oc05.step s (.line l)).1 H' → Q (.int (Oc05.step s (.line l)).2.v) H'
theorem ok_line {f : Addr} {fd : FuncData} (F : Fun K "line" "House.line" s_House_line f fd) (T : Txt K mg CK CH) (D_split_concepts : Df P w K mg base "split_concepts" 3 ["numbers", "how_many"] (spSplit K)) (D_House_refusal : Mt P w K mg base CH "refusal" 6 ["self", "concepts"] (spRefusal CH)) :
    FnOk P w K mg base CX0 7 f fd ["self", "numbers"] (spLine CH K) := by
  refine F.ok sc_House_line (fun vs H Q E h => ?_) (fun cdv A outer s H vs Q E hr h => ⟨_, (pss_cons (ps_set (i := 2) sc_House_line.nd rfl (by first | exact .inl rfl | exact .inr rfl) (pe_callD D_split_concepts (rm hr) rfl (pa_cons (pv 1) (pa_cons pe_int pa_nil))))
    (pss_cons (ps_set (i := 3) sc_House_line.nd rfl (by first | exact .inl rfl | exact .inr rfl) (pe_methD (pv 0) T.cl_House D_House_refusal (rm hr) (pa_cons (pv 2) pa_nil)))
    (pss_cons (ps_if (pt_cmpR op_lt (pv 3) pe_int (nomark _)) (pss_one (ps_ret (pv 3))) pss_nil)
    (pss_cons (ps_if (pt_cmpR op_ge (pe_callB call_len_seq (by rfl) T.b_len (by decide +kernel) (pa_cons (pe_fld (pv 0) rfl) pa_nil)) (pe_gi rfl T.g_MOST_AXIOMS) (nomark _)) (pss_one (ps_ret (pe_gi rfl T.g_TOO_MANY))) pss_nil)
    (pss_cons (ps_expr (pe_bm PySem.F.plainAttrs_list PySem.F.slot_list_append PySem.F.type_list_append mt_append (pe_fld (pv 0) rfl) (pa_cons (pe_tup (pa_cons (pe_ix ix_list (pv 2) pe_int (fun _ _ => rfl)) (pa_cons (pe_ix ix_list (pv 2) pe_int (fun _ _ => rfl)) pa_nil))) pa_nil)))
    (pss_one (ps_ret (pe_op op_sub (pe_callB call_len_seq (by rfl) T.b_len (by decide +kernel) (pa_cons (pe_fld (pv 0) rfl) pa_nil)) pe_int)))))))), ?_⟩)
  · obtain ⟨x, xa, ta, na, s, l, rfl, _⟩ := h
    rfl
  · obtain ⟨x, xa, ta, na, s0, l, rfl, HA, I, hna, hl, k⟩ := h
    refine ⟨_, rfl, na, l, 2, rfl, hna, by decide, fun hno H1 s1 => ?_, fun cs hcut H1 D us s1 nD hD hcs => ?_⟩
    · have HA1 := HA.same s1
      obtain ⟨dx, hx⟩ := HA1.ins
      refine ⟨_, rfl, x, dx, _, rfl, hx, no_meth (by decide +kernel), _, rfl, x, xa, ta, s0, .non, rfl, HA1, I, .inl ⟨rfl, ?_⟩⟩
      refine ⟨_, rfl, _, _, rfl, rfl, _, rfl, dT (by decide) ⟨_, rfl, ?_⟩⟩
      have e : Oc05.step s0 (.line l) = (s0, Oc05.ok (-1)) := by
        have e2 := two_none.mpr hno
        show (match Oc05.two l with | none => _ | some a => _) = _
        rw [e2]
      rw [e] at k
      exact k H1 (Post.same HA s1)
    · have hlen2 := cut_len hcut
      match cs, hlen2, hcut, hcs with
      | [c, d], _, hcut, hcs =>
      have e2 := two_some.mpr hcut
      obtain ⟨wc, wd, el⟩ := two_ok e2
      have hll := congrArg List.length el
      rw [List.length_append] at hll
      have HA1 := HA.same s1
      obtain ⟨dx, hx⟩ := HA1.ins
      have ax5 := I.ax5
      have est : Oc05.step s0 (.line l) = (if s0.axioms.length = Oc05.AXIOMS ∨ Oc05.much s0 [c, d] = true then (s0, Oc05.ok (-7)) else ({ s0 with axioms := s0.axioms ++ [(c, d)] }, Oc05.ok (s0.axioms.length : Nat))) := by
        show (match Oc05.two l with | none => _ | some a => _) = _
        rw [e2]
      refine ⟨_, rfl, x, dx, _, rfl, hx, no_meth (by decide +kernel), _, rfl, x, xa, ta, s0, .ref D, rfl, HA1, I, .inr ⟨D, us, [c, d], rfl, hD, hcs, ?_, Nat.le_refl 2, fun H2 s2 => ?_⟩⟩
      · intro z hz
        simp at hz
        rcases hz with rfl | rfl
        · exact ⟨wc, by omega⟩
        · exact ⟨wd, by omega⟩
      have s12 := L2.Same.trans s1 s2
      by_cases hm : Oc05.much s0 [c, d] = true
      · rw [if_pos hm]
        refine ⟨_, rfl, _, _, rfl, rfl, _, rfl, dT (by decide) ⟨_, rfl, ?_⟩⟩
        rw [est, if_pos (.inr hm)] at k
        exact k H2 (Post.same HA s12)
      rw [if_neg hm]
      refine ⟨_, rfl, _, _, rfl, rfl, _, rfl, dF (by decide) ?_⟩
      have HA2 := HA1.same s2
      obtain ⟨dx2, hx2⟩ := HA2.ins
      obtain ⟨as, ha2, hax⟩ := HA2.axs
      obtain ⟨ts, ht, htl⟩ := HA2.tld
      have al : as.length = s0.axioms.length := Paired.length hax
      refine ⟨_, rfl, x, CH, _, _, _, rfl, hx2, T.cl_House, T.nh_axioms, lk_axioms, xa, as, rfl, .inl (SqL.of ha2), _, _, rfl, rfl, _, rfl, ?_⟩
      by_cases h1 : (5 : Int) ≤ (as.length : Int)
      · refine dT h1 ?_
        rw [est, if_pos (.inl (show s0.axioms.length = 5 by omega))] at k
        exact k H2 (Post.same HA s12)
      refine dF h1 ?_
      have hno : ¬ (s0.axioms.length = Oc05.AXIOMS ∨ Oc05.much s0 [c, d] = true) := by
        rintro (q | q)
        · have q' : s0.axioms.length = 5 := q
          omega
        · exact hm q
      rw [est, if_neg hno] at k
      have hDD := s2 D _ hD
      have hcs2 := CsAt.stay (stayS s2) hcs
      obtain ⟨u0, hu0, c0⟩ := CsAt.get' hcs2 (i := 0) (c := c) rfl
      obtain ⟨u1, hu1, c1⟩ := CsAt.get' hcs2 (i := 1) (c := d) rfl
      refine ⟨_, rfl, x, CH, _, _, _, rfl, hx2, T.cl_House, T.nh_axioms, lk_axioms, .inl ⟨rfl, _, SqL.of ha2⟩, _, rfl, D, _, _, _, rfl, rfl, SqL.of hDD, at_of (j := 0) rfl hu0, _, rfl, D, _, _, _, rfl, rfl, SqL.of hDD, at_of (j := 1) rfl hu1, by show 2 ≤ sizeLine; decide, fun tp ntp => ?_⟩
      have n1 : xa ≠ tp := ne_of_none ha2 ntp
      have ha3 : upd H2 tp (.tup [u0, u1]) xa = some (.lst as) := by rw [upd_ne n1]; exact ha2
      have nxa : x ≠ xa := fun e => by rw [e, ha2] at hx2; cases hx2
      refine ⟨xa, as, _, rfl, rfl, ha3, ?_, ?_⟩
      · have : (1000 : Nat) < sizeLine := by decide
        omega
      have hx3 : upd (upd H2 tp (.tup [u0, u1])) xa (.lst (as ++ [.ref tp])) x = some (.ins CH dx2 (hf xa ta)) := by
        rw [upd_ne nxa, upd_ne (ne_of_none hx2 ntp)]
        exact hx2
      refine ⟨_, rfl, x, CH, _, _, _, rfl, hx3, T.cl_House, T.nh_axioms, lk_axioms, xa, _, rfl, .inl (SqL.of upd_same), _, _, rfl, rfl, ?_⟩
      have ev : (((as ++ [V.ref tp]).length : Nat) : Int) - 1 = ((s0.axioms.length : Nat) : Int) := by
        rw [List.length_append, al]
        show ((s0.axioms.length + 1 : Nat) : Int) - 1 = _
        omega
      show Q (.int ((((as ++ [V.ref tp]).length : Nat) : Int) - 1)) _
      rw [ev]
      have sty := (stay_new (o := .tup [u0, u1]) ntp).trans (stay_lst (o := .lst (as ++ [.ref tp])) ha3)
      refine k _ ⟨xa, ta, ⟨⟨dx2, hx3⟩, ⟨_, upd_same, Paired.snoc (XsAt.stay sty hax) ⟨tp, u0, u1, rfl, ?_, c0.stay sty, c1.stay sty⟩⟩, ⟨ts, ?_, UsAt.stay sty htl⟩, HA.ne⟩, .inl rfl, .inl rfl, fun b o h _ n _ => ?_⟩
      · rw [upd_ne n1.symm, upd_same]
      · rw [upd_ne HA.ne.symm, upd_ne (ne_of_none ht ntp)]
        exact ht
      · rw [upd_ne n, upd_ne (ne_of_none (s12 b o h) ntp)]
        exact s12 b o h
end
end Rh

set_option Elab.async false
set_option linter.all false
set_option maxRecDepth 100000
set_option maxHeartbeats 2000000
/-! # Rh, part L: a house: can, under, model -/
namespace Rh
open PySem PySem.Spec PyProof.Rows L2
open Oc05 (Under)
/-! ### 1 if .. else 0 -/
section
variable {X : Cx}
def tFlag (t : TT) : TE := fun σ H Q => t σ H fun c H1 => Q (.int (Oc05.flag c : Nat)) H1
def tFlagN (t : TT) : TE := fun σ H Q => t σ H fun c H1 => Q (.int (Oc05.flag (!c) : Nat)) H1
theorem pe_if10 {c a b : Expr} {pos : Pos} {t : TT} (h : PT X c t) (h1 : PE X a (tC (.int 1))) (h0 : PE X b (tC (.int 0))) : PE X (.IfExp c a b pos) (tFlag t) := by
  have e : tFlag t = tIf t (tC (.int 1)) (tC (.int 0)) := by
    funext σ H Q
    refine congrArg (t σ H) (funext fun c => funext fun H1 => ?_)
    cases c <;> rfl
  rw [e]
  exact pe_ifExp h h1 h0
theorem pe_if01 {c a b : Expr} {pos : Pos} {t : TT} (h : PT X c t) (h1 : PE X a (tC (.int 0))) (h0 : PE X b (tC (.int 1))) : PE X (.IfExp c a b pos) (tFlagN t) := by
  have e : tFlagN t = tIf t (tC (.int 0)) (tC (.int 1)) := by
    funext σ H Q
    refine congrArg (t σ H) (funext fun c => funext fun H1 => ?_)
    cases c <;> rfl
  rw [e]
  exact pe_ifExp h h1 h0
end
theorem any_empty {p : Nat → Bool} (l : List Nat) : (!(nv (l.filter p)).isEmpty) = l.any p := by
  induction l with
  | nil => rfl
  | cons x l ih =>
    cases e : p x with
    | true => rw [List.filter_cons_of_pos e, List.any_cons, e]; rfl
    | false => rw [List.filter_cons_of_neg (by rw [e]; decide), List.any_cons, e, ih]; rfl
theorem atoms_apart (ax : List Oc.Axiom) (c d : Oc.C) : Oc.atomsFor ax [.and c (.not d)] = Oc.atomsFor ax [c, d] := by
  unfold Oc.atomsFor Oc.atomsOf
  rw [List.flatMap_append, List.flatMap_append]
  have e : ([Oc.C.and c (.not d)] : List Oc.C).flatMap Oc.C.atoms = [c, d].flatMap Oc.C.atoms := by
    show (c.atoms ++ d.atoms) ++ [] = c.atoms ++ (d.atoms ++ [])
    simp only [List.append_nil]
  rw [e]
section
variable {P : Program} {w : World} {K : PySem.W.Frag} {mg : Str → Option Value} {base : Heap} {CK CH : Addr}
/-! ### can -/
/- House.can: slots 0 self, 1 numbers, 2 concepts, 3 refused -/
abbrev s_House_can : Stmt := inClass (top 50) 7
abbrev N_House_can : List Str := ["self", "numbers", "concepts", "refused"]
theorem sc_House_can : FnScope N_House_can ["self", "numbers"] (defScope s_House_can) := ⟨rfl, rfl, rfl, by decide +kernel, rfl, by decide +kernel, by decide +kernel⟩
def spCan (CH : Addr) (K : PySem.W.Frag) : Sp := fun vs H Q _ => ∃ (x xa ta na : Addr) (s : Oc05.House) (l : List Nat), vs = [.ref x, .ref na] ∧ HAt CH H x xa ta s ∧ HInv s ∧ SqL K H na (nv l) ∧ l.length ≤ 30 ∧ ∀ H', Same H H' → Q (.int (Oc05.step s (.can l)).2.v) H'
theorem ok_can {f : Addr} {fd : FuncData} (F : Fun K "can" "House.can" s_House_can f fd) (T : Txt K mg CK CH) (D_split_concepts : Df P w K mg base "split_concepts" 3 ["numbers", "how_many"] (spSplit K)) (D_House_refusal : Mt P w K mg base CH "refusal" 6 ["self", "concepts"] (spRefusal CH))
    (D_House_kinds_with : Mt P w K mg base CH "kinds_with" 9 ["self", "concepts"] (spKindsWith CH CK)) (D_Kinds_having : Mt P w K mg base CK "having" 5 ["self", "concept"] (spHaving CK)) : FnOk P w K mg base CX0 10 f fd ["self", "numbers"] (spCan CH K) := by
  refine F.ok sc_House_can (fun vs H Q E h => ?_) (fun cdv A outer s H vs Q E hr h => ⟨_, (pss_cons (ps_set (i := 2) sc_House_can.nd rfl (by first | exact .inl rfl | exact .inr rfl) (pe_callD D_split_concepts (rm hr) rfl (pa_cons (pv 1) (pa_cons pe_int pa_nil))))
    (pss_cons (ps_set (i := 3) sc_House_can.nd rfl (by first | exact .inl rfl | exact .inr rfl) (pe_methD (pv 0) T.cl_House D_House_refusal (rm hr) (pa_cons (pv 2) pa_nil)))
    (pss_cons (ps_if (pt_cmpR op_lt (pv 3) pe_int (nomark _)) (pss_one (ps_ret (pv 3))) pss_nil)
    (pss_one (ps_ret (pe_if10 (pt_truth (pe_methD (pe_methD (pv 0) T.cl_House D_House_kinds_with (rm hr) (pa_cons (pv 2) pa_nil)) T.cl_Kinds D_Kinds_having (rm hr) (pa_cons (pe_ix ix_list (pv 2) pe_int (fun _ _ => rfl)) pa_nil)) (by intro _; rfl)) pe_int pe_int)))))), ?_⟩)
  · obtain ⟨x, xa, ta, na, s, l, rfl, _⟩ := h
    rfl
  · obtain ⟨x, xa, ta, na, s0, l, rfl, HA, I, hna, hl, k⟩ := h
    refine ⟨_, rfl, na, l, 1, rfl, hna, by decide, fun hno H1 s1 => ?_, fun cs hcut H1 D us s1 nD hD hcs => ?_⟩
    · have HA1 := HA.same s1
      obtain ⟨dx, hx⟩ := HA1.ins
      refine ⟨_, rfl, x, dx, _, rfl, hx, no_meth (by decide +kernel), _, rfl, x, xa, ta, s0, .non, rfl, HA1, I, .inl ⟨rfl, ?_⟩⟩
      refine ⟨_, rfl, _, _, rfl, rfl, _, rfl, dT (by decide) ⟨_, rfl, ?_⟩⟩
      have e : Oc05.step s0 (.can l) = (s0, Oc05.ok (-1)) := by
        have e2 := concept_none.mpr hno
        show (match Oc05.concept l with | none => _ | some a => _) = _
        rw [e2]
      rw [e] at k
      exact k H1 s1
    · have hlen := cut_len hcut
      match cs, hlen, hcut, hcs with
      | [c], _, hcut, hcs =>
      have e2 := concept_some.mpr hcut
      obtain ⟨wc, el⟩ := concept_ok e2
      have hll := congrArg List.length el
      have HA1 := HA.same s1
      obtain ⟨dx, hx⟩ := HA1.ins
      have est : Oc05.step s0 (.can l) = (if Oc05.much s0 [c] = true then (s0, Oc05.ok (-7)) else (s0, Oc05.ok (Oc05.flag (Oc05.can s0.roles s0.axioms c) : Nat))) := by
        show (match Oc05.concept l with | none => _ | some a => _) = _
        rw [e2]
      have hok : ∀ z ∈ [c], wf z = true ∧ (toks z).length ≤ 30 := by
        intro z hz
        rw [List.mem_singleton.mp hz]
        exact ⟨wc, by omega⟩
      refine ⟨_, rfl, x, dx, _, rfl, hx, no_meth (by decide +kernel), _, rfl, x, xa, ta, s0, .ref D, rfl, HA1, I, .inr ⟨D, us, [c], rfl, hD, hcs, hok, by simp, fun H2 s2 => ?_⟩⟩
      have s12 := L2.Same.trans s1 s2
      by_cases hm : Oc05.much s0 [c] = true
      · rw [if_pos hm]
        refine ⟨_, rfl, _, _, rfl, rfl, _, rfl, dT (by decide) ⟨_, rfl, ?_⟩⟩
        rw [est, if_pos hm] at k
        exact k H2 s12
      rw [if_neg hm]
      refine ⟨_, rfl, _, _, rfl, rfl, _, rfl, dF (by decide) ?_⟩
      rw [est, if_neg hm] at k
      have HA2 := HA1.same s2
      obtain ⟨dx2, hx2⟩ := HA2.ins
      have hD2 := s2 D _ hD
      have hcs2 := CsAt.stay (stayS s2) hcs
      refine ⟨_, rfl, x, dx2, _, rfl, hx2, no_meth (by decide +kernel), _, rfl, x, xa, ta, D, s0, us, [c], rfl, HA2, I, hD2, hcs2, hok, by simp, hm, fun H3 y s3 ny kp => ?_⟩
      obtain ⟨dy, fs, pa, B, FF, p1, p2⟩ := kp.ex
      have hcs3 := CsAt.stay (stayS s3) hcs2
      obtain ⟨u0, hu0, c0⟩ := CsAt.get' hcs3 (i := 0) (c := c) rfl
      refine ⟨y, dy, fs, rfl, B.ins, B.no _ (by decide), _, rfl, D, _, _, _, rfl, rfl, SqL.of (s3 D _ hD2), at_of (j := 0) rfl hu0, y, _, _, s0.axioms, u0, c, rfl, kp, c0, wc, by omega, fun d hd => mem_atomsFor.mpr (.inr ⟨c, List.mem_cons_self, hd⟩), fun H4 L s4 nL hL => ?_⟩
      refine ⟨_, .inl ⟨_, SqL.of hL, rfl⟩, ?_⟩
      rw [any_empty]
      exact k H4 (L2.Same.trans s12 (L2.Same.trans s3 s4))
/-! ### under -/
/- House.under: slots 0 self, 1 numbers, 2 concepts, 3 refused, 4 apart -/
abbrev s_House_under : Stmt := inClass (top 50) 8
abbrev N_House_under : List Str := ["self", "numbers", "concepts", "refused", "apart"]
theorem sc_House_under : FnScope N_House_under ["self", "numbers"] (defScope s_House_under) := ⟨rfl, rfl, rfl, by decide +kernel, rfl, by decide +kernel, by decide +kernel⟩
def spUnder (CH : Addr) (K : PySem.W.Frag) : Sp := fun vs H Q _ => ∃ (x xa ta na : Addr) (s : Oc05.House) (l : List Nat), vs = [.ref x, .ref na] ∧ HAt CH H x xa ta s ∧ HInv s ∧ SqL K H na (nv l) ∧ l.length ≤ 30 ∧ ∀ H', Same H H' → Q (.int (Oc05.step s (.under l)).2.v) H'
theorem ok_under {f : Addr} {fd : FuncData} (F : Fun K "under" "House.under" s_House_under f fd) (T : Txt K mg CK CH) (D_split_concepts : Df P w K mg base "split_concepts" 3 ["numbers", "how_many"] (spSplit K)) (D_House_refusal : Mt P w K mg base CH "refusal" 6 ["self", "concepts"] (spRefusal CH))
    (D_House_kinds_with : Mt P w K mg base CH "kinds_with" 9 ["self", "concepts"] (spKindsWith CH CK)) (D_Kinds_having : Mt P w K mg base CK "having" 5 ["self", "concept"] (spHaving CK)) : FnOk P w K mg base CX0 10 f fd ["self", "numbers"] (spUnder CH K) := by
  refine F.ok sc_House_under (fun vs H Q E h => ?_) (fun cdv A outer s H vs Q E hr h => ⟨_, (pss_cons (ps_set (i := 2) sc_House_under.nd rfl (by first | exact .inl rfl | exact .inr rfl) (pe_callD D_split_concepts (rm hr) rfl (pa_cons (pv 1) (pa_cons pe_int pa_nil))))
    (pss_cons (ps_set (i := 3) sc_House_under.nd rfl (by first | exact .inl rfl | exact .inr rfl) (pe_methD (pv 0) T.cl_House D_House_refusal (rm hr) (pa_cons (pv 2) pa_nil)))
    (pss_cons (ps_if (pt_cmpR op_lt (pv 3) pe_int (nomark _)) (pss_one (ps_ret (pv 3))) pss_nil)
    (pss_cons (ps_set (i := 4) sc_House_under.nd rfl (by first | exact .inl rfl | exact .inr rfl) (pe_op op_catT (pe_op op_catT (pe_op op_catT (pe_tup (pa_cons (pe_gi rfl T.g_BOTH) pa_nil)) (pe_ix ix_list (pv 2) pe_int (fun _ _ => rfl))) (pe_tup (pa_cons (pe_gi rfl T.g_OPPOSITE) pa_nil))) (pe_ix ix_list (pv 2) pe_int (fun _ _ => rfl))))
    (pss_one (ps_ret (pe_if01 (pt_truth (pe_methD (pe_methD (pv 0) T.cl_House D_House_kinds_with (rm hr) (pa_cons (pv 2) pa_nil)) T.cl_Kinds D_Kinds_having (rm hr) (pa_cons (pv 4) pa_nil)) (by intro _; rfl)) pe_int pe_int))))))), ?_⟩)
  · obtain ⟨x, xa, ta, na, s, l, rfl, _⟩ := h
    rfl
  · obtain ⟨x, xa, ta, na, s0, l, rfl, HA, I, hna, hl, k⟩ := h
    refine ⟨_, rfl, na, l, 2, rfl, hna, by decide, fun hno H1 s1 => ?_, fun cs hcut H1 D us s1 nD hD hcs => ?_⟩
    · have HA1 := HA.same s1
      obtain ⟨dx, hx⟩ := HA1.ins
      refine ⟨_, rfl, x, dx, _, rfl, hx, no_meth (by decide +kernel), _, rfl, x, xa, ta, s0, .non, rfl, HA1, I, .inl ⟨rfl, ?_⟩⟩
      refine ⟨_, rfl, _, _, rfl, rfl, _, rfl, dT (by decide) ⟨_, rfl, ?_⟩⟩
      have e : Oc05.step s0 (.under l) = (s0, Oc05.ok (-1)) := by
        have e2 := two_none.mpr hno
        show (match Oc05.two l with | none => _ | some a => _) = _
        rw [e2]
      rw [e] at k
      exact k H1 s1
    · have hlen := cut_len hcut
      match cs, hlen, hcut, hcs with
      | [c, d], _, hcut, hcs =>
      have e2 := two_some.mpr hcut
      obtain ⟨wc, wd, el⟩ := two_ok e2
      have hll := congrArg List.length el
      rw [List.length_append] at hll
      have HA1 := HA.same s1
      obtain ⟨dx, hx⟩ := HA1.ins
      have est : Oc05.step s0 (.under l) = (if Oc05.much s0 [c, d] = true then (s0, Oc05.ok (-7)) else (s0, Oc05.ok (Oc05.flag (Oc05.under s0.roles s0.axioms c d) : Nat))) := by
        show (match Oc05.two l with | none => _ | some a => _) = _
        rw [e2]
      have hok : ∀ z ∈ [c, d], wf z = true ∧ (toks z).length ≤ 30 := by
        intro z hz
        simp at hz
        rcases hz with rfl | rfl
        · exact ⟨wc, by omega⟩
        · exact ⟨wd, by omega⟩
      refine ⟨_, rfl, x, dx, _, rfl, hx, no_meth (by decide +kernel), _, rfl, x, xa, ta, s0, .ref D, rfl, HA1, I, .inr ⟨D, us, [c, d], rfl, hD, hcs, hok, by simp, fun H2 s2 => ?_⟩⟩
      have s12 := L2.Same.trans s1 s2
      by_cases hm : Oc05.much s0 [c, d] = true
      · rw [if_pos hm]
        refine ⟨_, rfl, _, _, rfl, rfl, _, rfl, dT (by decide) ⟨_, rfl, ?_⟩⟩
        rw [est, if_pos hm] at k
        exact k H2 s12
      rw [if_neg hm]
      refine ⟨_, rfl, _, _, rfl, rfl, _, rfl, dF (by decide) ?_⟩
      rw [est, if_neg hm] at k
      have hD2 := s2 D _ hD
      have hcs2 := CsAt.stay (stayS s2) hcs
      obtain ⟨_, hu0, b0, rfl, hb0⟩ := CsAt.get' hcs2 (i := 0) (c := c) rfl
      obtain ⟨_, hu1, b1, rfl, hb1⟩ := CsAt.get' hcs2 (i := 1) (c := d) rfl
      have big : (1000 : Nat) < sizeLine := by decide
      have ne0 : nv (toks c) ≠ [] := fun q => toks_ne c (List.map_eq_nil_iff.mp q)
      have ne1 : nv (toks d) ≠ [] := fun q => toks_ne d (List.map_eq_nil_iff.mp q)
      refine ⟨by show 1 ≤ sizeLine; decide, fun t1 n1 => ?_⟩
      have q1 : Same H2 (upd H2 t1 (.tup [.int 3])) := same_new n1
      have g1 : upd H2 t1 (.tup [.int 3]) t1 = some (.tup [.int 3]) := upd_same
      generalize upd H2 t1 (.tup [.int 3]) = H21 at q1 g1 ⊢
      refine ⟨_, rfl, D, _, _, _, rfl, rfl, SqL.of (q1 D _ hD2), at_of (j := 0) rfl hu0, t1, b0, _, _, rfl, rfl, SqT.of g1, SqT.of (q1 b0 _ hb0), by simp, by rw [nv_len]; show 1 + _ ≤ _; omega, fun q => absurd q ne0, fun _ t2 n2 => ?_⟩
      have q2 : Same H2 (upd H21 t2 (.tup ([.int 3] ++ nv (toks c)))) := sameN q1 n2
      have g2 : upd H21 t2 (.tup ([.int 3] ++ nv (toks c))) t2 = some (.tup ([.int 3] ++ nv (toks c))) := upd_same
      generalize upd H21 t2 (.tup ([.int 3] ++ nv (toks c))) = H22 at q2 g2 ⊢
      refine ⟨by show 1 ≤ sizeLine; decide, fun t3 n3 => ?_⟩
      have q3 : Same H22 (upd H22 t3 (.tup [.int 5])) := same_new n3
      have g3 : upd H22 t3 (.tup [.int 5]) t3 = some (.tup [.int 5]) := upd_same
      generalize upd H22 t3 (.tup [.int 5]) = H23 at q3 g3 ⊢
      have q23 := L2.Same.trans q2 q3
      refine ⟨t2, t3, _, _, rfl, rfl, SqT.of (q3 t2 _ g2), SqT.of g3, by simp, by rw [List.length_append, nv_len]; show 1 + _ + 1 ≤ _; omega, fun q => absurd q (by simp), fun _ t4 n4 => ?_⟩
      have q4 : Same H2 (upd H23 t4 (.tup ([.int 3] ++ nv (toks c) ++ [.int 5]))) := sameN q23 n4
      have g4 : upd H23 t4 (.tup ([.int 3] ++ nv (toks c) ++ [.int 5])) t4 = some (.tup ([.int 3] ++ nv (toks c) ++ [.int 5])) := upd_same
      generalize upd H23 t4 (.tup ([.int 3] ++ nv (toks c) ++ [.int 5])) = H24 at q4 g4 ⊢
      refine ⟨_, rfl, D, _, _, _, rfl, rfl, SqL.of (q4 D _ hD2), at_of (j := 1) rfl hu1, t4, b1, _, _, rfl, rfl, SqT.of g4, SqT.of (q4 b1 _ hb1), by simp, by rw [List.length_append, List.length_append, nv_len, nv_len]; show 1 + _ + 1 + _ ≤ _; omega, fun q => absurd q ne1, fun _ t5 n5 => ?_⟩
      have q5 : Same H2 (upd H24 t5 (.tup ([.int 3] ++ nv (toks c) ++ [.int 5] ++ nv (toks d)))) := sameN q4 n5
      have g5 : upd H24 t5 (.tup ([.int 3] ++ nv (toks c) ++ [.int 5] ++ nv (toks d))) t5 = some (.tup (nv (toks (.and c (.not d))))) := by
        rw [upd_same]
        show _ = some (HO.tup (nv (3 :: (toks c ++ 5 :: toks d))))
        unfold nv
        simp
      generalize upd H24 t5 (.tup ([.int 3] ++ nv (toks c) ++ [.int 5] ++ nv (toks d))) = H25 at q5 g5 ⊢
      have HA2 := (HA1.same s2).same q5
      obtain ⟨dx2, hx2⟩ := HA2.ins
      refine ⟨_, rfl, x, dx2, _, rfl, hx2, no_meth (by decide +kernel), _, rfl, x, xa, ta, D, s0, us, [c, d], rfl, HA2, I, q5 D _ hD2, CsAt.stay (stayS q5) hcs2, hok, by simp, hm, fun H3 y s3 ny kp => ?_⟩
      obtain ⟨dy, fs, pa, B, FF, p1, p2⟩ := kp.ex
      refine ⟨y, dy, fs, rfl, B.ins, B.no _ (by decide), _, rfl, y, _, _, s0.axioms, .ref t5, .and c (.not d), rfl, kp, ⟨t5, rfl, s3 t5 _ g5⟩, by simp [wf, wc, wd], ?_, fun e he => ?_, fun H4 L s4 nL hL => ?_⟩
      · show (3 :: (toks c ++ 5 :: toks d)).length ≤ 1000
        simp
        omega
      · rw [← atoms_apart]
        exact mem_atomsFor.mpr (.inr ⟨_, List.mem_cons_self, he⟩)
      refine ⟨_, .inl ⟨_, SqL.of hL, rfl⟩, ?_⟩
      rw [any_empty]
      have e : Oc05.under s0.roles s0.axioms c d = !((Oc05.types s0.roles (Oc.atomsFor s0.axioms [c, d]) s0.axioms).any fun t => Oc.holds (Oc.atomsFor s0.axioms [c, d]) t (.and c (.not d))) := by
        unfold Oc05.under Oc05.can
        simp only
        rw [atoms_apart]
      rw [e] at k
      exact k H4 (L2.Same.trans s12 (L2.Same.trans q5 (L2.Same.trans s3 s4)))
/-! ### model -/
/-- numbers as they are answered -/
def iv (l : List Int) : List V := l.map V.int
theorem iv_nv (l : List Nat) : iv (l.map fun (n : Nat) => (n : Int)) = nv l := by unfold iv nv; rw [List.map_map]; rfl
/- House.model: slots 0 self, 1 numbers, 2 concepts, 3 refused, 4 kinds, 5 found -/
abbrev s_House_model : Stmt := inClass (top 50) 9
abbrev N_House_model : List Str := ["self", "numbers", "concepts", "refused", "kinds", "found"]
theorem sc_House_model : FnScope N_House_model ["self", "numbers"] (defScope s_House_model) := ⟨rfl, rfl, rfl, by decide +kernel, rfl, by decide +kernel, by decide +kernel⟩
def spModel (CH : Addr) (K : PySem.W.Frag) : Sp := fun vs H Q _ => ∃ (x xa ta na : Addr) (s : Oc05.House) (l : List Nat), vs = [.ref x, .ref na] ∧ HAt CH H x xa ta s ∧ HInv s ∧ SqL K H na (nv l) ∧ l.length ≤ 30 ∧
  ∀ (H' : Hp) (D : Addr), Same H H' → H D = none → H' D = some (.lst (iv (Oc05Neutral.out (Oc05.step s (.model l)).2))) → Q (.ref D) H'
theorem ok_model {f : Addr} {fd : FuncData} (F : Fun K "model" "House.model" s_House_model f fd) (T : Txt K mg CK CH) (D_split_concepts : Df P w K mg base "split_concepts" 3 ["numbers", "how_many"] (spSplit K)) (D_House_refusal : Mt P w K mg base CH "refusal" 6 ["self", "concepts"] (spRefusal CH))
    (D_House_kinds_with : Mt P w K mg base CH "kinds_with" 9 ["self", "concepts"] (spKindsWith CH CK)) (D_Kinds_having : Mt P w K mg base CK "having" 5 ["self", "concept"] (spHaving CK)) (D_told_model : Df P w K mg base "told_model" 7 ["kinds", "first"] (spToldModel CK)) : FnOk P w K mg base CX0 10 f fd ["self", "numbers"] (spModel CH K) := by
  refine F.ok sc_House_model (fun vs H Q E h => ?_) (fun cdv A outer s H vs Q E hr h => ⟨_, (pss_cons (ps_set (i := 2) sc_House_model.nd rfl (by first | exact .inl rfl | exact .inr rfl) (pe_callD D_split_concepts (rm hr) rfl (pa_cons (pv 1) (pa_cons pe_int pa_nil))))
    (pss_cons (ps_set (i := 3) sc_House_model.nd rfl (by first | exact .inl rfl | exact .inr rfl) (pe_methD (pv 0) T.cl_House D_House_refusal (rm hr) (pa_cons (pv 2) pa_nil)))
    (pss_cons (ps_if (pt_cmpR op_lt (pv 3) pe_int (nomark _)) (pss_one (ps_ret (pe_lst (pa_cons (pv 3) pa_nil)))) pss_nil)
    (pss_cons (ps_set (i := 4) sc_House_model.nd rfl (by first | exact .inl rfl | exact .inr rfl) (pe_methD (pv 0) T.cl_House D_House_kinds_with (rm hr) (pa_cons (pv 2) pa_nil)))
    (pss_cons (ps_set (i := 5) sc_House_model.nd rfl (by first | exact .inl rfl | exact .inr rfl) (pe_methD (pv 4) T.cl_Kinds D_Kinds_having (rm hr) (pa_cons (pe_ix ix_list (pv 2) pe_int (fun _ _ => rfl)) pa_nil)))
    (pss_one (ps_ret (pe_ifExp (pt_truth (pv 5) (by intro _; rfl)) (pe_callD D_told_model (rm hr) rfl (pa_cons (pv 4) (pa_cons (pe_ix ix_list (pv 5) pe_int (fun _ _ => rfl)) pa_nil))) (pe_lst (pa_cons (pe_gi rfl T.g_NO_MODEL) pa_nil)))))))))), ?_⟩)
  · obtain ⟨x, xa, ta, na, s, l, rfl, _⟩ := h
    rfl
  · obtain ⟨x, xa, ta, na, s0, l, rfl, HA, I, hna, hl, k⟩ := h
    refine ⟨_, rfl, na, l, 1, rfl, hna, by decide, fun hno H1 s1 => ?_, fun cs hcut H1 D us s1 nD hD hcs => ?_⟩
    · have HA1 := HA.same s1
      obtain ⟨dx, hx⟩ := HA1.ins
      refine ⟨_, rfl, x, dx, _, rfl, hx, no_meth (by decide +kernel), _, rfl, x, xa, ta, s0, .non, rfl, HA1, I, .inl ⟨rfl, ?_⟩⟩
      refine ⟨_, rfl, _, _, rfl, rfl, _, rfl, dT (by decide) ⟨_, rfl, by show 1 ≤ sizeLine; decide, fun R nR => ?_⟩⟩
      have e : Oc05.step s0 (.model l) = (s0, Oc05.ok (-1)) := by
        have e2 := concept_none.mpr hno
        show (match Oc05.concept l with | none => _ | some a => _) = _
        rw [e2]
      rw [e] at k
      exact k _ R (sameN s1 nR) (L2.Same.free s1 nR) upd_same
    · have hlen := cut_len hcut
      match cs, hlen, hcut, hcs with
      | [c], _, hcut, hcs =>
      have e2 := concept_some.mpr hcut
      obtain ⟨wc, el⟩ := concept_ok e2
      have hll := congrArg List.length el
      have HA1 := HA.same s1
      obtain ⟨dx, hx⟩ := HA1.ins
      have est : Oc05.step s0 (.model l) = (if Oc05.much s0 [c] = true then (s0, Oc05.ok (-7)) else (s0, Oc05.told (Oc05.model s0.roles s0.axioms c))) := by
        show (match Oc05.concept l with | none => _ | some a => _) = _
        rw [e2]
      have hok : ∀ z ∈ [c], wf z = true ∧ (toks z).length ≤ 30 := by
        intro z hz
        rw [List.mem_singleton.mp hz]
        exact ⟨wc, by omega⟩
      refine ⟨_, rfl, x, dx, _, rfl, hx, no_meth (by decide +kernel), _, rfl, x, xa, ta, s0, .ref D, rfl, HA1, I, .inr ⟨D, us, [c], rfl, hD, hcs, hok, by simp, fun H2 s2 => ?_⟩⟩
      have s12 := L2.Same.trans s1 s2
      by_cases hm : Oc05.much s0 [c] = true
      · rw [if_pos hm]
        refine ⟨_, rfl, _, _, rfl, rfl, _, rfl, dT (by decide) ⟨_, rfl, by show 1 ≤ sizeLine; decide, fun R nR => ?_⟩⟩
        rw [est, if_pos hm] at k
        exact k _ R (sameN s12 nR) (L2.Same.free s12 nR) upd_same
      rw [if_neg hm]
      refine ⟨_, rfl, _, _, rfl, rfl, _, rfl, dF (by decide) ?_⟩
      rw [est, if_neg hm] at k
      simp only at k
      rw [told_eq, find_filter] at k
      have HA2 := HA1.same s2
      obtain ⟨dx2, hx2⟩ := HA2.ins
      have hD2 := s2 D _ hD
      have hcs2 := CsAt.stay (stayS s2) hcs
      refine ⟨_, rfl, x, dx2, _, rfl, hx2, no_meth (by decide +kernel), _, rfl, x, xa, ta, D, s0, us, [c], rfl, HA2, I, hD2, hcs2, hok, by simp, hm, fun H3 y s3 ny kp => ?_⟩
      obtain ⟨dy, fs, pa, B, FF, p1, p2⟩ := kp.ex
      have hcs3 := CsAt.stay (stayS s3) hcs2
      obtain ⟨u0, hu0, c0⟩ := CsAt.get' hcs3 (i := 0) (c := c) rfl
      refine ⟨_, rfl, y, dy, fs, rfl, B.ins, B.no _ (by decide), _, rfl, D, _, _, _, rfl, rfl, SqL.of (s3 D _ hD2), at_of (j := 0) rfl hu0, y, _, _, s0.axioms, u0, c, rfl, kp, c0, wc, by omega, fun d hd => mem_atomsFor.mpr (.inr ⟨c, List.mem_cons_self, hd⟩), fun H4 L s4 nL hL => ?_⟩
      have s14 := L2.Same.trans s12 (L2.Same.trans s3 s4)
      refine ⟨_, rfl, _, .inl ⟨_, SqL.of hL, rfl⟩, ?_⟩
      cases ef : (Oc05.types s0.roles (Oc.atomsFor s0.axioms [c]) s0.axioms).filter (fun u => Oc.holds (Oc.atomsFor s0.axioms [c]) u c) with
      | nil =>
        rw [ef] at k
        refine bF rfl ⟨by show 1 ≤ sizeLine; decide, fun R nR => ?_⟩
        exact k _ R (sameN s14 nR) (L2.Same.free s14 nR) upd_same
      | cons t r =>
        rw [ef] at k hL
        have ht : t ∈ Oc05.types s0.roles (Oc.atomsFor s0.axioms [c]) s0.axioms := by
          have : t ∈ t :: r := List.mem_cons_self
          rw [← ef] at this
          exact (List.mem_filter.mp this).1
        refine bT rfl ⟨_, rfl, _, rfl, L, _, _, _, rfl, rfl, SqL.of hL, at_of (j := 0) rfl rfl, y, _, _, s0.axioms, t, rfl, kp.same s4, ht, fun H5 R s5 nR hR => ?_⟩
        refine k H5 R (L2.Same.trans s14 s5) (L2.Same.free s14 nR) ?_
        rw [hR]
        exact congrArg (fun z => some (HO.lst z)) (iv_nv _).symm
end
end Rh

set_option Elab.async false
set_option linter.all false
set_option maxRecDepth 100000
set_option maxHeartbeats 2000000
/-! # Rh, part R: a house: roles, names -/
namespace Rh
open PySem PySem.Spec PyProof.Rows L2
open Oc05 (Under)
theorem iv_cons (v : Nat) (l : List Nat) : iv (Oc05Neutral.out ⟨(v : Int), l⟩) = nv (v :: l) := by
  show V.int (v : Int) :: iv (l.map fun (n : Nat) => (n : Int)) = _
  rw [iv_nv]
  rfl
theorem nv_app (a b : List Nat) : nv (a ++ b) = nv a ++ nv b := by unfold nv; rw [List.map_append]
section
variable {P : Program} {w : World} {K : PySem.W.Frag} {mg : Str → Option Value} {base : Heap} {CK CH : Addr}
/-! ### roles -/
def rowR (h : List Under) (r : Nat) : List Nat := (List.range 4).map fun s => Oc05.flag ((Oc05.ups h r).contains s)
/- House.roles: slots 0 self, 1 numbers, 2 uppers, 3 role -/
abbrev s_House_roles : Stmt := inClass (top 50) 10
abbrev N_House_roles : List Str := ["self", "numbers", "uppers", "role"]
theorem sc_House_roles : FnScope N_House_roles ["self"] (defScope s_House_roles) := ⟨rfl, rfl, rfl, by decide +kernel, rfl, by decide +kernel, by decide +kernel⟩
def spRoles (CH : Addr) : Sp := fun vs H Q _ => ∃ (x xa ta : Addr) (s : Oc05.House), vs = [.ref x] ∧ HAt CH H x xa ta s ∧ HInv s ∧ ∀ (H' : Hp) (D : Addr), Same H H' → H D = none → H' D = some (.lst (iv (Oc05Neutral.out (Oc05.step s .roles).2))) → Q (.ref D) H'
theorem ok_roles {f : Addr} {fd : FuncData} (F : Fun K "roles" "House.roles" s_House_roles f fd) (T : Txt K mg CK CH) (D_all_roles_over : Df P w K mg base "all_roles_over" 2 ["told"] spAllOver) : FnOk P w K mg base CX0 3 f fd ["self"] (spRoles CH) := by
  refine F.ok sc_House_roles (fun vs H Q E h => ?_) (fun cdv A outer s H vs Q E hr h => ⟨_, (pss_cons (ps_set (i := 1) sc_House_roles.nd rfl (by first | exact .inl rfl | exact .inr rfl) (pe_lst (pa_cons (pe_gi rfl T.g_ROLE_COUNT) pa_nil)))
    (pss_cons (ps_for PassesOwn.never rfl (pi_list (pe_callD D_all_roles_over (rm hr) rfl (pa_cons (pe_fld (pv 0) rfl) pa_nil))) (pg_name (i := 2) sc_House_roles.nd rfl (by first | exact .inl rfl | exact .inr rfl)) (pss_one (ps_expr (pe_bm PySem.F.plainAttrs_list PySem.F.slot_list_extend PySem.F.type_list_extend mt_extend (pv 1) (pa_cons (pe_lc (own := [("role", 3)]) (g := (gName 3)) (tt := tYes) rfl sc_House_roles.nd (pi_range1 (by rfl) T.b_range (pa_cons (pe_gi rfl T.g_ROLE_COUNT) pa_nil)) (blkOk_by (own := [("role", 3)]) (N := N_House_roles) (sc := defScope s_House_roles) (by decide +kernel)) (fun _ _ _ _ _ => (pg_name (i := 3) sc_House_roles.nd rfl (by first | exact .inl rfl | exact .inr rfl))) (fun _ _ _ _ _ => pts_nil) (fun _ _ _ _ _ => (pe_if10 (pt_cmpR (op_in_seqK (K := K) rfl) (pv 3) (pv 2) rfl) pe_int pe_int))) pa_nil)))))
    (pss_one (ps_ret (pv 1))))), ?_⟩)
  · obtain ⟨x, xa, ta, s, rfl, _⟩ := h
    rfl
  · obtain ⟨x, xa, ta, s0, rfl, HA, I, k⟩ := h
    have ek : iv (Oc05Neutral.out (Oc05.step s0 .roles).2) = nv (4 :: ([0, 1, 2, 3] : List Nat).flatMap (rowR s0.roles)) := iv_cons 4 _
    rw [ek] at k
    refine ⟨by show 1 ≤ sizeLine; decide, fun N nN => ?_⟩
    have s1 : Same H (upd H N (.lst [.int 4])) := same_new nN
    have hN1 : upd H N (.lst [.int 4]) N = some (.lst (nv [4])) := upd_same
    generalize upd H N (.lst [.int 4]) = H1 at s1 hN1 ⊢
    have HA1 := HA.same s1
    obtain ⟨dx, hx⟩ := HA1.ins
    obtain ⟨ts, ht, htl⟩ := HA1.tld
    refine ⟨_, rfl, x, CH, dx, _, _, rfl, hx, T.cl_House, T.nh_told, lk_told, ta, ts, s0.roles, rfl, ht, htl, I.lo, by have := I.r4; omega, fun H2 D2 s2 nD2 hov => ?_⟩
    obtain ⟨ovs, hD2, hovs⟩ := hov
    have hN2 := s2 N _ hN1
    have nND : N ≠ D2 := ne_of_none hN1 nD2
    have hovs2 : Paired (fun v r => v ≠ .ref N ∧ OvAt H2 s0.roles v r) ovs [0, 1, 2, 3] := by
      refine Paired.mono (fun v r q => ⟨fun e => ?_, q⟩) hovs
      obtain ⟨b, rfl, hb⟩ := q
      have eb : b = N := V.ref.inj e
      rw [eb, hN2] at hb
      have e2 : nv [4] = nv (Oc05.ups s0.roles r) := HO.lst.inj (Option.some.inj hb)
      cases eu : Oc05.ups s0.roles r with
      | nil => rw [eu] at e2; cases e2
      | cons z zs =>
        rw [eu] at e2
        have e3 : V.int ((4 : Nat) : Int) = V.int (z : Int) := (List.cons.inj e2).1
        have z4 : z < 4 := ups_lt (h := s0.roles) (r := r) (by rw [eu]; exact List.mem_cons_self)
        have := V.int.inj e3
        omega
    have lov : ovs.length = 4 := Paired.length hovs
    refine ⟨D2, rfl, ⟨_, SqL.of hD2⟩, ?_⟩
    refine for_list (K := K) (a := D2) (xs := ovs) (fun i σ H' => ∃ (v2 v3 : Option V), σ = [some (.ref x), some (.ref N), v2, v3] ∧ Same H H' ∧ H' D2 = some (.lst ovs) ∧ Paired (fun v r => v ≠ .ref N ∧ OvAt H' s0.roles v r) ovs [0, 1, 2, 3] ∧ H' N = some (.lst (nv (4 :: (([0, 1, 2, 3] : List Nat).take i).flatMap (rowR s0.roles)))))
      ⟨_, _, rfl, L2.Same.trans s1 s2, hD2, hovs2, hN2⟩ (fun i σ H' _ ⟨_, _, _, _, q, _⟩ => SqL.of q) ?_ ?_
    · rintro i y σ H' hy ⟨v2, v3, rfl, sm, hD', hov', hN'⟩
      obtain ⟨r, hr4, nyN, b, rfl, hb⟩ := pair_get hov' hy
      have il := (List.getElem?_eq_some_iff.mp hy).1
      refine ⟨_, rfl, .inl ⟨rfl, _, SqL.of hN'⟩, 4, rfl, by decide, by decide, fun D3 nD3 => ?_⟩
      refine lc_range (n := 4) (fun j H3 => Same H' H3 ∧ H3 D3 = some (.lst (nv ((List.range j).map fun s => Oc05.flag ((Oc05.ups s0.roles r).contains s))))) ⟨same_new nD3, upd_same⟩ ?_ ?_
      · rintro j H3 hj ⟨sm3, hD3⟩
        refine ⟨rfl, _, rfl, _, rfl, b, _, rfl, .inl (SqL.of (sm3 b _ hb)), rfl, flat_nv _, _, rfl, _, hD3, ?_, same_upd sm3 nD3, ?_⟩
        · rw [nv_len, List.length_map, List.length_range]
          have : (1000 : Nat) < sizeLine := by decide
          omega
        · rw [upd_same, List.range_succ, List.map_append, List.map_singleton, nv_snoc]
          refine congrArg (fun (z : Bool) => some (HO.lst (nv ((List.range j).map fun s => Oc05.flag ((Oc05.ups s0.roles r).contains s)) ++ [V.int (Oc05.flag z : Nat)]))) ?_
          show inV (V.int (0 + (j : Int))) (nv (Oc05.ups s0.roles r)) = (Oc05.ups s0.roles r).contains j
          rw [Int.zero_add, in_nv]
          exact (List.contains_eq_mem ..).symm
      · rintro H3 ⟨sm3, hD3⟩
        have hN3 := sm3 N _ hN'
        have nN3 : N ≠ D3 := ne_of_none hN' nD3
        have ln : (4 :: (([0, 1, 2, 3] : List Nat).take i).flatMap (rowR s0.roles)).length ≤ 100 := by
          have c : i = 0 ∨ i = 1 ∨ i = 2 ∨ i = 3 := by omega
          rcases c with rfl | rfl | rfl | rfl <;> simp [rowR]
        refine ⟨N, D3, _, _, rfl, rfl, hN3, hD3, ?_, ?_⟩
        · rw [nv_len, nv_len, List.length_map, List.length_range]
          have : (1000 : Nat) < sizeLine := by decide
          omega
        refine ⟨_, _, rfl, same_upd (L2.Same.trans sm sm3) nN, by rw [upd_ne nND.symm]; exact sm3 D2 _ hD', Paired.mono (fun v r q => ⟨q.1, ?_⟩) hov', ?_⟩
        · rw [upd_same, take_snoc hr4, List.flatMap_append, List.flatMap_singleton, ← nv_app]
          rfl
        · obtain ⟨nv', b', rfl, hb'⟩ := q
          exact ⟨b', rfl, by rw [upd_ne (fun e => nv' (by rw [e]))]; exact sm3 b' _ hb'⟩
    · rintro σ H' ⟨v2, v3, rfl, sm, hD', hov', hN'⟩
      rw [lov] at hN'
      exact ⟨_, rfl, k H' N sm nN hN'⟩
/-! ### names -/
theorem und_eq (at_ : List Oc.C) (ts : List Nat) (a b : Nat) : (ts.all fun u => !(if at_.contains (.name a) = true then Oc.holds at_ u (.name a) else true) || (if a = b then true else if at_.contains (.name b) = true then Oc.holds at_ u (.name b) else false)) = undB at_ ts a b := by
  unfold undB
  by_cases e : a = b
  · rw [decide_eq_true e, Bool.true_or, List.all_eq_true]
    intro u _
    rw [if_pos e, Bool.or_true]
  · rw [decide_eq_false e, Bool.false_or]
    congr 1
    funext u
    rw [if_neg e]
    unfold alw
    by_cases h1 : Oc.C.name a ∈ at_ <;> by_cases h2 : Oc.C.name b ∈ at_ <;> simp [h1, h2] <;> cases Oc.holds at_ u (.name a) <;> cases Oc.holds at_ u (.name b) <;> rfl
def rowN (at_ : List Oc.C) (ts : List Nat) (a : Nat) : List Nat := (List.range 4).map fun b => Oc05.flag (undB at_ ts a b)
theorem names_step (s : Oc05.House) : (Oc05.step s .names).2 = ⟨(Oc05.flag (!(Oc05.types s.roles (Oc.atomsFor s.axioms []) s.axioms).isEmpty) : Nat), (List.range 4).flatMap (rowN (Oc.atomsFor s.axioms []) (Oc05.types s.roles (Oc.atomsFor s.axioms []) s.axioms))⟩ := by
  show Oc05.Ans.mk _ _ = _
  congr 1
  refine flat_congr _ fun a _ => ?_
  unfold rowN
  exact List.map_congr_left fun b _ => by rw [und_eq]
theorem nv_empty (l : List Nat) : (nv l).isEmpty = l.isEmpty := by cases l <;> rfl
/- House.names: slots 0 self, 1 kinds, 2 every_name, 3 numbers, 4 lower, 5 upper -/
abbrev s_House_names : Stmt := inClass (top 50) 11
abbrev N_House_names : List Str := ["self", "kinds", "every_name", "numbers", "lower", "upper"]
theorem sc_House_names : FnScope N_House_names ["self"] (defScope s_House_names) := ⟨rfl, rfl, rfl, by decide +kernel, rfl, by decide +kernel, by decide +kernel⟩
def spNames (CH : Addr) : Sp := fun vs H Q _ => ∃ (x xa ta : Addr) (s : Oc05.House), vs = [.ref x] ∧ HAt CH H x xa ta s ∧ HInv s ∧ ∀ (H' : Hp) (D : Addr), Same H H' → H D = none → H' D = some (.lst (iv (Oc05Neutral.out (Oc05.step s .names).2))) → Q (.ref D) H'
theorem ok_names {f : Addr} {fd : FuncData} (F : Fun K "names" "House.names" s_House_names f fd) (T : Txt K mg CK CH) (D_House_kinds_with : Mt P w K mg base CH "kinds_with" 9 ["self", "concepts"] (spKindsWith CH CK)) (D_Kinds_name_under : Mt P w K mg base CK "name_under" 3 ["self", "lower", "upper"] (spNameUnder CK)) :
    FnOk P w K mg base CX0 10 f fd ["self"] (spNames CH) := by
  refine F.ok sc_House_names (fun vs H Q E h => ?_) (fun cdv A outer s H vs Q E hr h => ⟨_, (pss_cons (ps_set (i := 1) sc_House_names.nd rfl (by first | exact .inl rfl | exact .inr rfl) (pe_methD (pv 0) T.cl_House D_House_kinds_with (rm hr) (pa_cons (pe_lst pa_nil) pa_nil)))
    (pss_cons (ps_set (i := 2) sc_House_names.nd rfl (by first | exact .inl rfl | exact .inr rfl) (pe_listRg rfl rfl T.b_list (prg_1 rfl T.b_range (pe_op op_add (pe_gi rfl T.g_HIGHEST_SIGN) pe_int))))
    (pss_cons (ps_set (i := 3) sc_House_names.nd rfl (by first | exact .inl rfl | exact .inr rfl) (pe_lst (pa_cons (pe_if10 (pt_truth (pe_fld (pv 1) rfl) (by intro _; rfl)) pe_int pe_int) pa_nil)))
    (pss_cons (ps_for PassesOwn.never rfl (pi_list (pv 2)) (pg_name (i := 4) sc_House_names.nd rfl (by first | exact .inl rfl | exact .inr rfl)) (pss_one (ps_expr (pe_bm PySem.F.plainAttrs_list PySem.F.slot_list_extend PySem.F.type_list_extend mt_extend (pv 3) (pa_cons (pe_lc (own := [("upper", 5)]) (g := (gName 5)) (tt := tYes) rfl sc_House_names.nd (pi_list (pv 2)) (blkOk_by (own := [("upper", 5)]) (N := N_House_names) (sc := defScope s_House_names) (by decide +kernel)) (fun _ _ _ _ _ => (pg_name (i := 5) sc_House_names.nd rfl (by first | exact .inl rfl | exact .inr rfl))) (fun _ _ _ _ _ => pts_nil) (fun _ _ _ _ _ => (pe_if10 (pt_val (pe_methD (pv 1) T.cl_Kinds D_Kinds_name_under (rm hr) (pa_cons (pv 4) (pa_cons (pv 5) pa_nil)))) pe_int pe_int))) pa_nil)))))
    (pss_one (ps_ret (pv 3))))))), ?_⟩)
  · obtain ⟨x, xa, ta, s, rfl, _⟩ := h
    rfl
  · obtain ⟨x, xa, ta, s0, rfl, HA, I, k⟩ := h
    rw [names_step, iv_cons] at k
    obtain ⟨dx, hx⟩ := HA.ins
    have hm : ¬ Oc05.much s0 [] = true := fun q => by
      have q' : 5 < (Oc.atomsFor s0.axioms []).length := of_decide_eq_true q
      have := I.at5
      omega
    refine ⟨_, rfl, x, dx, _, rfl, hx, no_meth (by decide +kernel), by show 0 ≤ sizeLine; decide, fun Z nZ => ?_⟩
    refine ⟨x, xa, ta, Z, s0, [], [], rfl, HA.same (same_new nZ), I, upd_same, .nil, fun c hc => (by cases hc), Nat.zero_le _, hm, fun H1 y s1' ny kp => ?_⟩
    have s1 := L2.Same.trans (same_new (o := .lst []) nZ) s1'
    obtain ⟨at_, hat⟩ : ∃ at_, at_ = Oc.atomsFor s0.axioms [] := ⟨_, rfl⟩
    obtain ⟨ts, hts⟩ : ∃ ts, ts = Oc05.types s0.roles at_ s0.axioms := ⟨_, rfl⟩
    rw [← hat, ← hts] at kp k
    refine ⟨_, _, rfl, rfl, _, rfl, RgOk.of_le (by decide) (by decide) (by decide) (by decide), fun ea nea => ?_⟩
    rw [show rgV 0 (3 + 1 : Int) = nv (List.range 4) from rfl]
    have s2 : Same H1 (upd H1 ea (.lst (nv (List.range 4)))) := same_new nea
    have hea : upd H1 ea (.lst (nv (List.range 4))) ea = some (.lst (nv (List.range 4))) := upd_same
    generalize upd H1 ea (.lst (nv (List.range 4))) = H2 at s2 hea ⊢
    have kp2 := kp.same s2
    obtain ⟨dy, fs, pa, B, FF, p1, p2⟩ := kp2.ex
    refine ⟨_, rfl, y, CK, dy, fs, _, rfl, B.ins, T.cl_Kinds, T.nk_possible, p1, _, .inl ⟨_, SqL.of p2, rfl⟩, by show 1 ≤ sizeLine; decide, fun N nN => ?_⟩
    rw [nv_empty]
    have s3 : Same H2 (upd H2 N (.lst (nv [Oc05.flag (!ts.isEmpty)]))) := same_new nN
    have s12 := L2.Same.trans s1 s2
    have nHN : H N = none := L2.Same.free s12 nN
    refine ⟨_, rfl, ea, rfl, ⟨_, SqL.of (s3 ea _ hea)⟩, ?_⟩
    have nNe : N ≠ ea := fun e => by rw [e, hea] at nN; cases nN
    refine for_list (K := K) (a := ea) (xs := nv (List.range 4)) (fun i σ H' => ∃ (v4 v5 : Option V), σ = [some (.ref x), some (.ref y), some (.ref ea), some (.ref N), v4, v5] ∧ Same H2 H' ∧ H' N = some (.lst (nv (Oc05.flag (!ts.isEmpty) :: ((List.range 4).take i).flatMap (rowN at_ ts)))))
      ⟨_, _, rfl, s3, upd_same⟩ (fun i σ H' _ ⟨_, _, _, q, _⟩ => SqL.of (q ea _ hea)) ?_ ?_
    · rintro i v σ H' hv ⟨v4, v5, rfl, sm, hN⟩
      obtain ⟨a, ha, rfl⟩ := lst_get hv
      have a4 : a < 4 := List.mem_range.mp (List.mem_of_getElem? ha)
      have il := (List.getElem?_eq_some_iff.mp ha).1
      rw [List.length_range] at il
      refine ⟨_, rfl, .inl ⟨rfl, _, SqL.of hN⟩, _, rfl, ea, rfl, ⟨_, SqL.of (sm ea _ hea)⟩, fun D3 nD3 => ?_⟩
      refine lc_list (K := K) (a := ea) (xs := nv (List.range 4)) (fun j H3 => Same H' H3 ∧ H3 D3 = some (.lst (nv (((List.range 4).take j).map fun b => Oc05.flag (undB at_ ts a b))))) ⟨same_new nD3, upd_same⟩ (fun j H3 _ q => SqL.of (q.1 ea _ (sm ea _ hea))) ?_ ?_
      · rintro j z H3 hz ⟨sm3, hD3⟩
        obtain ⟨b, hb, rfl⟩ := lst_get hz
        have b4 : b < 4 := List.mem_range.mp (List.mem_of_getElem? hb)
        have jl := (List.getElem?_eq_some_iff.mp hb).1
        rw [List.length_range] at jl
        have kp3 := kp2.same (L2.Same.trans sm sm3)
        obtain ⟨dy3, fs3, pa3, B3, _⟩ := kp3.ex
        refine ⟨rfl, _, rfl, y, dy3, fs3, rfl, B3.ins, B3.no _ (by decide), _, rfl, _, rfl, y, at_, s0.roles, ts, a, b, rfl, kp3, a4, b4, fun H4 s4 => ⟨_, rfl, _, s4 D3 _ hD3, ?_, same_upd (L2.Same.trans sm3 s4) nD3, ?_⟩⟩
        · rw [nv_len, List.length_map, List.length_take]
          have : (1000 : Nat) < sizeLine := by decide
          omega
        · rw [upd_same, take_snoc hb, List.map_append, List.map_singleton, nv_snoc]
      · rintro H3 ⟨sm3, hD3⟩
        have hN3 := sm3 N _ hN
        have nN3 : N ≠ D3 := ne_of_none hN nD3
        have e4 : (nv (List.range 4)).length = 4 := rfl
        rw [e4] at hD3
        have ln : (Oc05.flag (!ts.isEmpty) :: ((List.range 4).take i).flatMap (rowN at_ ts)).length ≤ 100 := by
          have c : i = 0 ∨ i = 1 ∨ i = 2 ∨ i = 3 := by omega
          rcases c with rfl | rfl | rfl | rfl <;> simp [rowN, List.range_succ]
        refine ⟨N, D3, _, _, rfl, rfl, hN3, hD3, ?_, ?_⟩
        · rw [nv_len, nv_len, List.length_map, List.length_take]
          have : (1000 : Nat) < sizeLine := by decide
          omega
        refine ⟨_, _, rfl, same_upd (L2.Same.trans sm sm3) nN, ?_⟩
        rw [upd_same, take_snoc ha, List.flatMap_append, List.flatMap_singleton, ← nv_app]
        rfl
    · rintro σ H' ⟨v4, v5, rfl, sm, hN⟩
      exact ⟨_, rfl, k H' N (L2.Same.trans s12 sm) nHN hN⟩
end
end Rh

set_option Elab.async false
set_option linter.all false
set_option maxRecDepth 100000
set_option maxHeartbeats 2000000
/-! # Rh, part AA: the calls, one behind another -/
namespace Rh
open PySem PySem.Spec PyProof.Rows L2
open Oc05 (Under)
theorem iv_len (l : List Int) : (iv l).length = l.length := List.length_map ..
theorem iv_get {l : List Int} {i : Nat} {z : Int} (h : l[i]? = some z) : (iv l)[i]? = some (V.int z) := by
  unfold iv
  rw [List.getElem?_map, h]
  rfl
theorem iv_at {l : List Int} {i : Nat} {z : Int} (h : l[i]? = some z) : atI (iv l) (i : Int) = some (V.int z) := at_of rfl (iv_get h)
theorem iv_app (a b : List Int) : iv (a ++ b) = iv a ++ iv b := by unfold iv; rw [List.map_append]
theorem iv_nats {l : List Int} (h : ∀ z ∈ l, 0 ≤ z) : iv l = nv (Oc05Neutral.nats l) := by
  rw [← iv_nv, nats_back h]
theorem drop_get {l r : List Int} {i : Nat} {p : Int} (h : l.drop i = p :: r) : l[i]? = some p ∧ l.drop (i + 1) = r ∧ i < l.length := by
  have hi : i < l.length := by
    apply Nat.lt_of_not_le
    intro q
    rw [List.drop_of_length_le q] at h
    cases h
  rw [List.drop_eq_getElem_cons hi] at h
  obtain ⟨h1, h2⟩ := List.cons.inj h
  exact ⟨by rw [List.getElem?_eq_getElem hi, h1], h2, hi⟩
section
variable {P : Program} {w : World} {K : PySem.W.Frag} {mg : Str → Option Value} {base : Heap} {CK CH : Addr}
/-! ### call_end -/
/- call_end: slots 0 calls, 1 start, 2 number -/
abbrev s_call_end : Stmt := top 51
abbrev N_call_end : List Str := ["calls", "start", "number"]
theorem sc_call_end : FnScope N_call_end ["calls", "start"] (defScope s_call_end) := ⟨rfl, rfl, rfl, by decide +kernel, rfl, by decide +kernel, by decide +kernel⟩
def spCallEnd (K : PySem.W.Frag) : Sp := fun vs H Q _ => ∃ (a : Addr) (l : List Int) (i : Nat) (c : List (List Int)) (t : List Int), vs = [.ref a, .int (i : Int)] ∧ SqL K H a (iv l) ∧ Lies (l.drop i) c t ∧ ∀ H', Same H H' → Q (.int ((l.length - t.length : Nat) : Int)) H'
theorem ok_call_end {f : Addr} {fd : FuncData} (F : Fun K "call_end" "call_end" s_call_end f fd) (T : Txt K mg CK CH) : FnOk P w K mg base CX0 1 f fd ["calls", "start"] (spCallEnd K) := by
  refine F.ok sc_call_end (fun vs H Q E h => ?_) (fun cdv A outer s H vs Q E hr h => ⟨_, (pss_cons (ps_set (i := 2) sc_call_end.nd rfl (by first | exact .inl rfl | exact .inr rfl) (pe_ix ix_list (pv 0) (pv 1) (fun _ _ => rfl)))
    (pss_cons (ps_if (pt_cmpR op_in_seq (pv 2) (pe_tup (pa_cons (pe_gi rfl T.g_BEGINS) (pa_cons (pe_gi rfl T.g_ROLES) (pa_cons (pe_gi rfl T.g_NAMES) pa_nil)))) rfl) (pss_one (ps_ret (pe_op op_add (pv 1) pe_int))) pss_nil)
    (pss_cons (ps_if (pt_cmpR op_eq (pv 2) (pe_gi rfl T.g_ROLE) (nomark _)) (pss_one (ps_ret (pe_op op_add (pv 1) pe_int))) pss_nil)
    (pss_cons (ps_if (pt_cmpR op_in_seq (pv 2) (pe_tup (pa_cons (pe_gi rfl T.g_LINE) (pa_cons (pe_gi rfl T.g_CAN) (pa_cons (pe_gi rfl T.g_UNDER) (pa_cons (pe_gi rfl T.g_MODEL) pa_nil))))) rfl) (pss_one (ps_ret (pe_op op_add (pe_op op_add (pv 1) pe_int) (pe_ix ix_list (pv 0) (pe_op op_add (pv 1) pe_int) (fun _ _ => rfl))))) pss_nil)
    (pss_one ps_never))))), ?_⟩)
  · obtain ⟨a, l, i, c, t, rfl, _⟩ := h
    rfl
  · obtain ⟨a, l, i, c, t, rfl, hs, L, k⟩ := h
    generalize ed : l.drop i = d at L
    have ln := congrArg List.length ed
    rw [List.length_drop] at ln
    cases L with
    | @bare p _ hp =>
      obtain ⟨g1, g2, g3⟩ := drop_get ed
      rw [List.length_cons] at ln
      refine ⟨_, rfl, _, rfl, a, _, _, _, rfl, rfl, hs, iv_at g1, ?_⟩
      have e : ((l.length - t.length : Nat) : Int) = (i : Int) + 1 := by omega
      rw [e] at k
      rcases hp with rfl | rfl | rfl <;>
      · refine ⟨_, rfl, by show 3 ≤ sizeLine; decide, fun tp ntp => ⟨tp, _, rfl, .inr (SqT.of upd_same), rfl, rfl, _, rfl, bT rfl ?_⟩⟩
        exact ⟨_, rfl, _, _, rfl, rfl, k _ (same_new ntp)⟩
    | @pair x y _ =>
      obtain ⟨g1, g2, g3⟩ := drop_get ed
      rw [List.length_cons, List.length_cons, List.length_cons] at ln
      refine ⟨_, rfl, _, rfl, a, _, _, _, rfl, rfl, hs, iv_at g1, ?_⟩
      have e : ((l.length - t.length : Nat) : Int) = (i : Int) + 3 := by omega
      rw [e] at k
      refine ⟨_, rfl, by show 3 ≤ sizeLine; decide, fun tp ntp => ⟨tp, _, rfl, .inr (SqT.of upd_same), rfl, rfl, _, rfl, bF rfl ?_⟩⟩
      exact ⟨_, rfl, rfl, _, rfl, bT rfl ⟨_, rfl, _, _, rfl, rfl, k _ (same_new ntp)⟩⟩
    | @row p n row _ hp hn =>
      obtain ⟨g1, g2, g3⟩ := drop_get ed
      obtain ⟨f1, f2, f3⟩ := drop_get g2
      rw [List.length_cons, List.length_cons, List.length_append] at ln
      refine ⟨_, rfl, _, rfl, a, _, _, _, rfl, rfl, hs, iv_at g1, ?_⟩
      have e : ((l.length - t.length : Nat) : Int) = (i : Int) + 2 + n := by omega
      rw [e] at k
      rcases hp with rfl | rfl | rfl | rfl <;>
      · refine ⟨_, rfl, by show 3 ≤ sizeLine; decide, fun tp ntp => ⟨tp, _, rfl, .inr (SqT.of upd_same), rfl, rfl, _, rfl, bF rfl ?_⟩⟩
        have s1 := same_new (o := .tup [.int 0, .int 6, .int 7]) ntp
        refine ⟨_, rfl, rfl, _, rfl, bF rfl ⟨_, rfl, by show 4 ≤ sizeLine; decide, fun tq ntq => ⟨tq, _, rfl, .inr (SqT.of upd_same), rfl, rfl, _, rfl, bT rfl ?_⟩⟩⟩
        have s2 := sameN (o := .tup [.int 1, .int 3, .int 4, .int 5]) s1 ntq
        refine ⟨_, rfl, _, _, rfl, rfl, _, rfl, _, rfl, _, _, rfl, rfl, a, _, _, _, rfl, rfl, s2.seq hs, iv_at (i := i + 1) f1, _, _, rfl, rfl, k _ s2⟩
/-! ### answer -/
theorem Post.from {H Hq H' : Hp} {x xa ta : Addr} {s : Oc05.House} (e : Same H Hq) (h : Post CH Hq x xa ta s H') : Post CH H x xa ta s H' := by
  obtain ⟨xb, tb, h1, h2, h3, h4⟩ := h
  exact ⟨xb, tb, h1, h2.imp_right fun q => L2.Same.free e q, h3.imp_right fun q => L2.Same.free e q, fun b o q => h4 b o (e b o q)⟩
theorem Post.new {H H' : Hp} {x xa ta D : Addr} {s : Oc05.House} {o : HO} (h : Post CH H x xa ta s H') (n : H' D = none) : Post CH H x xa ta s (upd H' D o) := by
  obtain ⟨xb, tb, h1, h2, h3, h4⟩ := h
  exact ⟨xb, tb, h1.same (same_new n), h2, h3, fun b u q g1 g2 g3 => same_new n b u (h4 b u q g1 g2 g3)⟩
/-- what an answer stands apart from -/
def Apart (H : Hp) (x xa ta D : Addr) : Prop := ∀ b o, H b = some o → b ≠ x → b ≠ xa → b ≠ ta → b ≠ D
theorem Post.apart {H H' : Hp} {x xa ta D : Addr} {s : Oc05.House} (h : Post CH H x xa ta s H') (n : H' D = none) : Apart H x xa ta D := by
  obtain ⟨xb, tb, h1, h2, h3, h4⟩ := h
  exact fun b o q g1 g2 g3 => ne_of_none (h4 b o q g1 g2 g3) n
theorem apart_none {H : Hp} {x xa ta D : Addr} (n : H D = none) : Apart H x xa ta D := fun b o q _ _ _ => ne_of_none q n
/- answer: slots 0 house, 1 call -/
abbrev s_answer : Stmt := top 52
abbrev N_answer : List Str := ["house", "call"]
theorem sc_answer : FnScope N_answer ["house", "call"] (defScope s_answer) := ⟨rfl, rfl, rfl, by decide +kernel, rfl, by decide +kernel, by decide +kernel⟩
def spAnswer (CH : Addr) : Sp := fun vs H Q _ => ∃ (x xa ta ca : Addr) (s : Oc05.House) (m : List Int) (c : List (List Int)), vs = [.ref x, .ref ca] ∧ HAt CH H x xa ta s ∧ HInv s ∧ H ca = some (.lst (iv m)) ∧ Lies m c [] ∧ Oc05Neutral.asked1 c = true ∧
  ∀ (H' : Hp) (D : Addr), Post CH H x xa ta (Oc05Neutral.step s c).1 H' → Apart H x xa ta D → H' D = some (.lst (iv (Oc05Neutral.step s c).2)) → Q (.ref D) H'
theorem ok_answer {f : Addr} {fd : FuncData} (F : Fun K "answer" "answer" s_answer f fd) (T : Txt K mg CK CH) (D_House_begins : Mt P w K mg base CH "begins" 1 ["self"] (spBegins CH)) (D_House_line : Mt P w K mg base CH "line" 7 ["self", "numbers"] (spLine CH K)) (D_House_role : Mt P w K mg base CH "role" 1 ["self", "lower", "upper"] (spRole CH))
    (D_House_can : Mt P w K mg base CH "can" 10 ["self", "numbers"] (spCan CH K)) (D_House_under : Mt P w K mg base CH "under" 10 ["self", "numbers"] (spUnder CH K)) (D_House_model : Mt P w K mg base CH "model" 10 ["self", "numbers"] (spModel CH K)) (D_House_roles : Mt P w K mg base CH "roles" 3 ["self"] (spRoles CH)) (D_House_names : Mt P w K mg base CH "names" 10 ["self"] (spNames CH)) :
    FnOk P w K mg base CX0 11 f fd ["house", "call"] (spAnswer CH) := by
  refine F.ok sc_answer (fun vs H Q E h => ?_) (fun cdv A outer s H vs Q E hr h => ⟨_, (pss_cons (ps_if (pt_cmpR op_eq (pe_ix ix_list (pv 1) pe_int (fun _ _ => rfl)) (pe_gi rfl T.g_BEGINS) (nomark _)) (pss_one (ps_ret (pe_lst (pa_cons (pe_methD0 (pv 0) T.cl_House D_House_begins (rm hr)) pa_nil)))) pss_nil)
    (pss_cons (ps_if (pt_cmpR op_eq (pe_ix ix_list (pv 1) pe_int (fun _ _ => rfl)) (pe_gi rfl T.g_LINE) (nomark _)) (pss_one (ps_ret (pe_lst (pa_cons (pe_methD (pv 0) T.cl_House D_House_line (rm hr) (pa_cons (pe_slice sl_list (pv 1) (po_some pe_int) po_none) pa_nil)) pa_nil)))) pss_nil)
    (pss_cons (ps_if (pt_cmpR op_eq (pe_ix ix_list (pv 1) pe_int (fun _ _ => rfl)) (pe_gi rfl T.g_ROLE) (nomark _)) (pss_one (ps_ret (pe_lst (pa_cons (pe_methD (pv 0) T.cl_House D_House_role (rm hr) (pa_cons (pe_ix ix_list (pv 1) pe_int (fun _ _ => rfl)) (pa_cons (pe_ix ix_list (pv 1) pe_int (fun _ _ => rfl)) pa_nil))) pa_nil)))) pss_nil)
    (pss_cons (ps_if (pt_cmpR op_eq (pe_ix ix_list (pv 1) pe_int (fun _ _ => rfl)) (pe_gi rfl T.g_CAN) (nomark _)) (pss_one (ps_ret (pe_lst (pa_cons (pe_methD (pv 0) T.cl_House D_House_can (rm hr) (pa_cons (pe_slice sl_list (pv 1) (po_some pe_int) po_none) pa_nil)) pa_nil)))) pss_nil)
    (pss_cons (ps_if (pt_cmpR op_eq (pe_ix ix_list (pv 1) pe_int (fun _ _ => rfl)) (pe_gi rfl T.g_UNDER) (nomark _)) (pss_one (ps_ret (pe_lst (pa_cons (pe_methD (pv 0) T.cl_House D_House_under (rm hr) (pa_cons (pe_slice sl_list (pv 1) (po_some pe_int) po_none) pa_nil)) pa_nil)))) pss_nil)
    (pss_cons (ps_if (pt_cmpR op_eq (pe_ix ix_list (pv 1) pe_int (fun _ _ => rfl)) (pe_gi rfl T.g_MODEL) (nomark _)) (pss_one (ps_ret (pe_methD (pv 0) T.cl_House D_House_model (rm hr) (pa_cons (pe_slice sl_list (pv 1) (po_some pe_int) po_none) pa_nil)))) pss_nil)
    (pss_cons (ps_if (pt_cmpR op_eq (pe_ix ix_list (pv 1) pe_int (fun _ _ => rfl)) (pe_gi rfl T.g_ROLES) (nomark _)) (pss_one (ps_ret (pe_methD0 (pv 0) T.cl_House D_House_roles (rm hr)))) pss_nil)
    (pss_one (ps_ret (pe_methD0 (pv 0) T.cl_House D_House_names (rm hr))))))))))), ?_⟩)
  · obtain ⟨x, xa, ta, ca, s, m, c, rfl, _⟩ := h
    rfl
  · obtain ⟨x, xa, ta, ca, s0, m, c, rfl, HA, I, hca, L, ask, k⟩ := h
    obtain ⟨dx, hx⟩ := HA.ins
    generalize et : ([] : List Int) = t0 at L
    cases L with
    | @bare p _ hp =>
      rcases hp with rfl | rfl | rfl
      · refine ⟨_, rfl, ca, _, _, _, rfl, rfl, SqL.of hca, at_of (j := 0) rfl rfl, rfl, _, rfl, bT rfl ?_⟩
        refine ⟨_, rfl, x, dx, _, rfl, hx, no_meth (by decide +kernel), x, xa, ta, s0, rfl, HA, fun H1 po => ⟨by show 1 ≤ sizeLine; decide, fun D nD => ?_⟩⟩
        exact k _ D (po.new nD) (po.apart nD) upd_same
      · refine ⟨_, rfl, ca, _, _, _, rfl, rfl, SqL.of hca, at_of (j := 0) rfl rfl, rfl, _, rfl, bF rfl ⟨_, rfl, ca, _, _, _, rfl, rfl, SqL.of hca, at_of (j := 0) rfl rfl, rfl, _, rfl, bF rfl ⟨_, rfl, ca, _, _, _, rfl, rfl, SqL.of hca, at_of (j := 0) rfl rfl, rfl, _, rfl, bF rfl ⟨_, rfl, ca, _, _, _, rfl, rfl, SqL.of hca, at_of (j := 0) rfl rfl, rfl, _, rfl, bF rfl ⟨_, rfl, ca, _, _, _, rfl, rfl, SqL.of hca, at_of (j := 0) rfl rfl, rfl, _, rfl, bF rfl ⟨_, rfl, ca, _, _, _, rfl, rfl, SqL.of hca, at_of (j := 0) rfl rfl, rfl, _, rfl, bF rfl ⟨_, rfl, ca, _, _, _, rfl, rfl, SqL.of hca, at_of (j := 0) rfl rfl, rfl, _, rfl, bT rfl ?_⟩⟩⟩⟩⟩⟩⟩
        refine ⟨_, rfl, x, dx, _, rfl, hx, no_meth (by decide +kernel), x, xa, ta, s0, rfl, HA, I, fun H1 D s1 nD hD => ?_⟩
        exact k H1 D (Post.same HA s1) (apart_none nD) hD
      · refine ⟨_, rfl, ca, _, _, _, rfl, rfl, SqL.of hca, at_of (j := 0) rfl rfl, rfl, _, rfl, bF rfl ⟨_, rfl, ca, _, _, _, rfl, rfl, SqL.of hca, at_of (j := 0) rfl rfl, rfl, _, rfl, bF rfl ⟨_, rfl, ca, _, _, _, rfl, rfl, SqL.of hca, at_of (j := 0) rfl rfl, rfl, _, rfl, bF rfl ⟨_, rfl, ca, _, _, _, rfl, rfl, SqL.of hca, at_of (j := 0) rfl rfl, rfl, _, rfl, bF rfl ⟨_, rfl, ca, _, _, _, rfl, rfl, SqL.of hca, at_of (j := 0) rfl rfl, rfl, _, rfl, bF rfl ⟨_, rfl, ca, _, _, _, rfl, rfl, SqL.of hca, at_of (j := 0) rfl rfl, rfl, _, rfl, bF rfl ⟨_, rfl, ca, _, _, _, rfl, rfl, SqL.of hca, at_of (j := 0) rfl rfl, rfl, _, rfl, bF rfl ?_⟩⟩⟩⟩⟩⟩⟩
        refine ⟨_, rfl, x, dx, _, rfl, hx, no_meth (by decide +kernel), x, xa, ta, s0, rfl, HA, I, fun H1 D s1 nD hD => ?_⟩
        exact k H1 D (Post.same HA s1) (apart_none nD) hD
    | @pair y z _ =>
      have ask2 : (Oc05Neutral.whole32 y && Oc05Neutral.whole32 z) = true := ask
      rw [Bool.and_eq_true] at ask2
      have y0 := whole32_ok ask2.1
      have z0 := whole32_ok ask2.2
      refine ⟨_, rfl, ca, _, _, _, rfl, rfl, SqL.of hca, at_of (j := 0) rfl rfl, rfl, _, rfl, bF rfl ⟨_, rfl, ca, _, _, _, rfl, rfl, SqL.of hca, at_of (j := 0) rfl rfl, rfl, _, rfl, bF rfl ⟨_, rfl, ca, _, _, _, rfl, rfl, SqL.of hca, at_of (j := 0) rfl rfl, rfl, _, rfl, bT rfl ?_⟩⟩⟩
      refine ⟨_, rfl, x, dx, _, rfl, hx, no_meth (by decide +kernel), _, rfl, ca, _, _, _, rfl, rfl, SqL.of hca, at_of (j := 1) rfl rfl, _, rfl, ca, _, _, _, rfl, rfl, SqL.of hca, at_of (j := 2) rfl rfl, x, xa, ta, s0, y.toNat, z.toNat, ?_, HA, I, fun H1 po => ⟨by show 1 ≤ sizeLine; decide, fun D nD => ?_⟩⟩
      · show [V.ref x, V.int y, V.int z] = [V.ref x, V.int ((y.toNat : Nat) : Int), V.int ((z.toNat : Nat) : Int)]
        rw [Int.toNat_of_nonneg y0, Int.toNat_of_nonneg z0]
      · refine k _ D (po.new nD) (po.apart nD) ?_
        rw [upd_same]
        show _ = some (HO.lst (iv (Oc05Neutral.out (Oc05.step s0 (.role y.toNat z.toNat)).2)))
        rw [out_one (role_l _ _ _)]
        rfl
    | @row p n row _ hp hn =>
      subst et
      rw [List.append_nil] at hca
      have askr : Oc05Neutral.row32 row 30 = true := by rcases hp with rfl | rfl | rfl | rfl <;> exact ask
      obtain ⟨r30, r0⟩ := row32_ok askr
      have n30 : (Oc05Neutral.nats row).length ≤ 30 := by unfold Oc05Neutral.nats; rw [List.length_map]; exact r30
      have cut : cutV (iv (p :: n :: row)) (some 2) none = nv (Oc05Neutral.nats row) := by
        refine (cutV_from (i := 2) (by rw [iv_len]; simp)).trans ?_
        rw [← iv_nats r0]
        rfl
      rcases hp with rfl | rfl | rfl | rfl
      · refine ⟨_, rfl, ca, _, _, _, rfl, rfl, SqL.of hca, at_of (j := 0) rfl rfl, rfl, _, rfl, bF rfl ⟨_, rfl, ca, _, _, _, rfl, rfl, SqL.of hca, at_of (j := 0) rfl rfl, rfl, _, rfl, bT rfl ?_⟩⟩
        refine ⟨_, rfl, x, dx, _, rfl, hx, no_meth (by decide +kernel), _, rfl, 2, rfl, ca, _, rfl, SqL.of hca, fun q nq => ?_⟩
        rw [cut]
        have s1 := same_new (o := .lst (nv (Oc05Neutral.nats row))) nq
        refine ⟨x, xa, ta, q, s0, Oc05Neutral.nats row, rfl, HA.same s1, I, SqL.of upd_same, n30, fun H1 po1 => ⟨by show 1 ≤ sizeLine; decide, fun D nD => ?_⟩⟩
        have po := po1.from s1
        refine k _ D (po.new nD) (po.apart nD) ?_
        rw [upd_same]
        show _ = some (HO.lst (iv (Oc05Neutral.out (Oc05.step s0 (.line (Oc05Neutral.nats row))).2)))
        rw [out_one (line_l _ _)]
        rfl
      · refine ⟨_, rfl, ca, _, _, _, rfl, rfl, SqL.of hca, at_of (j := 0) rfl rfl, rfl, _, rfl, bF rfl ⟨_, rfl, ca, _, _, _, rfl, rfl, SqL.of hca, at_of (j := 0) rfl rfl, rfl, _, rfl, bF rfl ⟨_, rfl, ca, _, _, _, rfl, rfl, SqL.of hca, at_of (j := 0) rfl rfl, rfl, _, rfl, bF rfl ⟨_, rfl, ca, _, _, _, rfl, rfl, SqL.of hca, at_of (j := 0) rfl rfl, rfl, _, rfl, bT rfl ?_⟩⟩⟩⟩
        refine ⟨_, rfl, x, dx, _, rfl, hx, no_meth (by decide +kernel), _, rfl, 2, rfl, ca, _, rfl, SqL.of hca, fun q nq => ?_⟩
        rw [cut]
        have s1 := same_new (o := .lst (nv (Oc05Neutral.nats row))) nq
        refine ⟨x, xa, ta, q, s0, Oc05Neutral.nats row, rfl, HA.same s1, I, SqL.of upd_same, n30, fun H1 s2 => ⟨by show 1 ≤ sizeLine; decide, fun D nD => ?_⟩⟩
        have po : Post CH H x xa ta (Oc05.step s0 (.can (Oc05Neutral.nats row))).1 H1 := by rw [(can_same _ _).1]; exact Post.same HA (L2.Same.trans s1 s2)
        refine k _ D (po.new nD) (po.apart nD) ?_
        rw [upd_same]
        show _ = some (HO.lst (iv (Oc05Neutral.out (Oc05.step s0 (.can (Oc05Neutral.nats row))).2)))
        rw [out_one (can_same _ _).2]
        rfl
      · refine ⟨_, rfl, ca, _, _, _, rfl, rfl, SqL.of hca, at_of (j := 0) rfl rfl, rfl, _, rfl, bF rfl ⟨_, rfl, ca, _, _, _, rfl, rfl, SqL.of hca, at_of (j := 0) rfl rfl, rfl, _, rfl, bF rfl ⟨_, rfl, ca, _, _, _, rfl, rfl, SqL.of hca, at_of (j := 0) rfl rfl, rfl, _, rfl, bF rfl ⟨_, rfl, ca, _, _, _, rfl, rfl, SqL.of hca, at_of (j := 0) rfl rfl, rfl, _, rfl, bF rfl ⟨_, rfl, ca, _, _, _, rfl, rfl, SqL.of hca, at_of (j := 0) rfl rfl, rfl, _, rfl, bT rfl ?_⟩⟩⟩⟩⟩
        refine ⟨_, rfl, x, dx, _, rfl, hx, no_meth (by decide +kernel), _, rfl, 2, rfl, ca, _, rfl, SqL.of hca, fun q nq => ?_⟩
        rw [cut]
        have s1 := same_new (o := .lst (nv (Oc05Neutral.nats row))) nq
        refine ⟨x, xa, ta, q, s0, Oc05Neutral.nats row, rfl, HA.same s1, I, SqL.of upd_same, n30, fun H1 s2 => ⟨by show 1 ≤ sizeLine; decide, fun D nD => ?_⟩⟩
        have po : Post CH H x xa ta (Oc05.step s0 (.under (Oc05Neutral.nats row))).1 H1 := by rw [(under_same _ _).1]; exact Post.same HA (L2.Same.trans s1 s2)
        refine k _ D (po.new nD) (po.apart nD) ?_
        rw [upd_same]
        show _ = some (HO.lst (iv (Oc05Neutral.out (Oc05.step s0 (.under (Oc05Neutral.nats row))).2)))
        rw [out_one (under_same _ _).2]
        rfl
      · refine ⟨_, rfl, ca, _, _, _, rfl, rfl, SqL.of hca, at_of (j := 0) rfl rfl, rfl, _, rfl, bF rfl ⟨_, rfl, ca, _, _, _, rfl, rfl, SqL.of hca, at_of (j := 0) rfl rfl, rfl, _, rfl, bF rfl ⟨_, rfl, ca, _, _, _, rfl, rfl, SqL.of hca, at_of (j := 0) rfl rfl, rfl, _, rfl, bF rfl ⟨_, rfl, ca, _, _, _, rfl, rfl, SqL.of hca, at_of (j := 0) rfl rfl, rfl, _, rfl, bF rfl ⟨_, rfl, ca, _, _, _, rfl, rfl, SqL.of hca, at_of (j := 0) rfl rfl, rfl, _, rfl, bF rfl ⟨_, rfl, ca, _, _, _, rfl, rfl, SqL.of hca, at_of (j := 0) rfl rfl, rfl, _, rfl, bT rfl ?_⟩⟩⟩⟩⟩⟩
        refine ⟨_, rfl, x, dx, _, rfl, hx, no_meth (by decide +kernel), _, rfl, 2, rfl, ca, _, rfl, SqL.of hca, fun q nq => ?_⟩
        rw [cut]
        have s1 := same_new (o := .lst (nv (Oc05Neutral.nats row))) nq
        refine ⟨x, xa, ta, q, s0, Oc05Neutral.nats row, rfl, HA.same s1, I, SqL.of upd_same, n30, fun H1 D s2 nD hD => ?_⟩
        refine k H1 D ?_ (apart_none (L2.Same.free s1 nD)) hD
        show Post CH H x xa ta (Oc05.step s0 (.model (Oc05Neutral.nats row))).1 H1
        rw [model_same]
        exact Post.same HA (L2.Same.trans s1 s2)
/-! ### answers -/
/- answers: slots 0 calls, 1 house, 2 given, 3 start, 4 end, 5 numbers -/
abbrev s_answers : Stmt := top 53
abbrev N_answers : List Str := ["calls", "house", "given", "start", "end", "numbers"]
theorem sc_answers : FnScope N_answers ["calls"] (defScope s_answers) := ⟨rfl, rfl, rfl, by decide +kernel, rfl, by decide +kernel, by decide +kernel⟩
def spAnswers (K : PySem.W.Frag) : Sp := fun vs H Q _ => ∃ (a : Addr) (l : List Int), vs = [.ref a] ∧ SqL K H a (iv l) ∧ PyOc05.answers_asked l = true ∧ ∀ (H' : Hp) (D : Addr), Same H H' → H' D = some (.lst (iv (PyOc05.answers l))) → Q (.ref D) H'
theorem ok_answers {f : Addr} {fd : FuncData} (F : Fun K "answers" "answers" s_answers f fd) (T : Txt K mg CK CH) (D_call_end : Df P w K mg base "call_end" 1 ["calls", "start"] (spCallEnd K)) (D_answer : Df P w K mg base "answer" 11 ["house", "call"] (spAnswer CH)) (M_House : Mkr P w K mg base "House" CH 1 ["self"] (spHInit CH)) :
    FnOk P w K mg base CX0 12 f fd ["calls"] (spAnswers K) := by
  refine F.ok sc_answers (fun vs H Q E h => ?_) (fun cdv A outer s H vs Q E hr h => ⟨_, (pss_cons (ps_set (i := 1) sc_answers.nd rfl (by first | exact .inl rfl | exact .inr rfl) (pe_makeD0 M_House (rm hr) rfl))
    (pss_cons (ps_set (i := 2) sc_answers.nd rfl (by first | exact .inl rfl | exact .inr rfl) (pe_lst pa_nil))
    (pss_cons (ps_set (i := 3) sc_answers.nd rfl (by first | exact .inl rfl | exact .inr rfl) pe_int)
    (pss_cons (ps_while PassesOwn.never (pt_cmpR op_lt (pv 3) (pe_callB call_len_seq (by rfl) T.b_len (by decide +kernel) (pa_cons (pv 0) pa_nil)) (nomark _)) (pss_cons (ps_set (i := 4) sc_answers.nd rfl (by first | exact .inl rfl | exact .inr rfl) (pe_callD D_call_end (rm hr) rfl (pa_cons (pv 0) (pa_cons (pv 3) pa_nil))))
    (pss_cons (ps_set (i := 5) sc_answers.nd rfl (by first | exact .inl rfl | exact .inr rfl) (pe_callD D_answer (rm hr) rfl (pa_cons (pv 1) (pa_cons (pe_slice sl_list (pv 0) (po_some (pv 3)) (po_some (pv 4))) pa_nil))))
    (pss_cons (ps_expr (pe_bm PySem.F.plainAttrs_list PySem.F.slot_list_append PySem.F.type_list_append mt_append (pv 2) (pa_cons (pe_callB call_len_seq (by rfl) T.b_len (by decide +kernel) (pa_cons (pv 5) pa_nil)) pa_nil)))
    (pss_cons (ps_expr (pe_bm PySem.F.plainAttrs_list PySem.F.slot_list_extend PySem.F.type_list_extend mt_extend (pv 2) (pa_cons (pv 5) pa_nil)))
    (pss_one (ps_set (i := 3) sc_answers.nd rfl (by first | exact .inl rfl | exact .inr rfl) (pv 4))))))))
    (pss_one (ps_ret (pv 2))))))), ?_⟩)
  · obtain ⟨a, l, rfl, _⟩ := h
    rfl
  · obtain ⟨a, l, rfl, hs, hask, k⟩ := h
    obtain ⟨cs0, LA, A1, n60, small, ea⟩ := asked_of hask
    rw [ea] at k
    intro x dx nx ndx ne
    refine ⟨x, dx, rfl, upd_same, fun H1 xa ta HA nxa nta kp => ⟨rfl, ?_⟩⟩
    have fr : ∀ b, b = x ∨ upd (upd H dx (.own x)) x (.ins CH dx []) b = none → H b = none := by
      rintro b (rfl | q)
      · exact nx
      · by_cases e : b = x
        · rw [e]; exact nx
        · rw [upd_ne e] at q
          by_cases e2 : b = dx
          · rw [e2]; exact ndx
          · rw [upd_ne e2] at q; exact q
    have sm1 : Same H H1 := fun b o e => kp b o (by rw [upd_ne (ne_of_none e nx), upd_ne (ne_of_none e ndx)]; exact e) (ne_of_none e nx)
    have nxa' : H xa = none := fr xa (.inr nxa)
    have nta' : H ta = none := fr ta (.inr nta)
    refine ⟨by show 0 ≤ sizeLine; decide, fun G nG => ?_⟩
    have nG' : H G = none := L2.Same.free sm1 nG
    have nGx : ∀ {b o}, H1 b = some o → G ≠ b := fun e q => by rw [← q, nG] at e; cases e
    obtain ⟨_, hx1⟩ := HA.ins
    obtain ⟨_, hxa1, _⟩ := HA.axs
    obtain ⟨_, hta1, _⟩ := HA.tld
    refine ⟨fun m σ H' => ∃ (i : Nat) (s1 : Oc05.House) (cs : List (List (List Int))) (done : List Int) (xb tb : Addr) (v4 v5 : Option V), m = l.length - i ∧ σ = [some (.ref a), some (.ref x), some (.ref G), some (.int (i : Int)), v4, v5] ∧ Same H H' ∧ HAt CH H' x xb tb s1 ∧ HInv s1 ∧ H xb = none ∧ H tb = none ∧ G ≠ xb ∧ G ≠ tb ∧
      H' G = some (.lst (iv done)) ∧ LieAll (l.drop i) cs ∧ (∀ c ∈ cs, Oc05Neutral.asked1 c = true) ∧ done ++ due s1 cs = due Oc05.init cs0, ⟨_, 0, Oc05.init, cs0, [], xa, ta, none, none, rfl, rfl, sameN sm1 nG, HA.same (same_new nG), init_inv, nxa', nta', nGx hxa1, nGx hta1, upd_same, LA, A1, rfl⟩, ?_⟩
    rintro m σ H' ⟨i, s1, cs, done, xb, tb, v4, v5, rfl, rfl, sm, HA', I, nxb, ntb, gx, gt, hG, LL, AA, tot⟩
    refine ⟨_, rfl, _, rfl, a, _, rfl, .inl (sm.seq hs), _, _, rfl, rfl, _, rfl, ?_⟩
    rw [iv_len]
    by_cases hlt : (i : Int) < (l.length : Int)
    · refine dT hlt ⟨_, fun _ _ z => z, ?_⟩
      generalize ed : l.drop i = d at LL
      have ln := congrArg List.length ed
      rw [List.length_drop] at ln
      cases LL with
      | nil => simp at ln; omega
      | @cons _ t c cs1 Lc L1 =>
        obtain ⟨mm, em, Lm, mp⟩ := lies_cut Lc
        have lm := congrArg List.length em
        rw [List.length_append] at lm
        have askc := AA c List.mem_cons_self
        refine ⟨_, rfl, _, rfl, a, l, i, c, t, rfl, sm.seq hs, by rw [ed]; exact Lc, fun H2 s2 => ?_⟩
        have sm2 := L2.Same.trans sm s2
        refine ⟨_, rfl, _, rfl, _, rfl, _, rfl, _, rfl, _, rfl, a, _, rfl, sm2.seq hs, fun q nq => ?_⟩
        have ecut : cutV (iv l) (some (i : Int)) (some ((l.length - t.length : Nat) : Int)) = iv mm := by
          rw [cutV_nat (by rw [iv_len]; omega) (by omega)]
          have e1 : (iv l).drop i = iv (mm ++ t) := by unfold iv; rw [← List.map_drop, ed, em]
          rw [e1, iv_app, show l.length - t.length - i = (iv mm).length by rw [iv_len]; omega, List.take_left]
        rw [ecut]
        have s3 := same_new (o := .lst (iv mm)) nq
        have HA3 := (HA'.same s2).same s3
        have s23 := L2.Same.trans s2 s3
        have hG3 := s23 G _ hG
        have sm3 := L2.Same.trans sm s23
        refine ⟨x, xb, tb, q, s1, mm, c, rfl, HA3, I, upd_same, Lm, askc, fun H4 D po ap hD => ?_⟩
        obtain ⟨xc, tc, HA4, ox, ot, rest⟩ := po
        obtain ⟨_, hx3⟩ := HA3.ins
        have gxx : G ≠ x := fun e => by rw [← e, hG3] at hx3; cases hx3
        have hG4 := rest G _ hG3 gxx gx gt
        have sm4 : Same H H4 := fun b o e => rest b o (sm3 b o e) (ne_of_none e nx) (ne_of_none e nxb) (ne_of_none e ntb)
        have nxc : H xc = none := by
          rcases ox with e | e
          · rw [e]; exact nxb
          · exact L2.Same.free sm3 e
        have ntc : H tc = none := by
          rcases ot with e | e
          · rw [e]; exact ntb
          · exact L2.Same.free sm3 e
        have gxc : G ≠ xc := by
          rcases ox with e | e
          · rw [e]; exact gx
          · exact ne_of_none hG3 e
        have gtc : G ≠ tc := by
          rcases ot with e | e
          · rw [e]; exact gt
          · exact ne_of_none hG3 e
        have gD : G ≠ D := ap G _ hG3 gxx gx gt
        have I4 := step_inv I Lm askc
        rw [due_cons] at tot
        generalize Oc05Neutral.step s1 c = so at hD HA4 I4 tot
        have tl := congrArg List.length tot
        rw [List.length_append, List.length_append, List.length_cons] at tl
        have big : (10000000 : Nat) < sizeLine := by decide
        refine ⟨_, rfl, .inl ⟨rfl, _, SqL.of hG4⟩, _, rfl, D, _, rfl, .inl (SqL.of hD), G, _, _, rfl, rfl, hG4, by rw [iv_len]; omega, ?_⟩
        rw [iv_len]
        have hD5 : upd H4 G (.lst (iv done ++ [V.int (so.2.length : Nat)])) D = some (.lst (iv so.2)) := by rw [upd_ne gD.symm]; exact hD
        refine ⟨_, rfl, .inl ⟨rfl, _, SqL.of upd_same⟩, _, rfl, G, D, _, _, rfl, rfl, upd_same, hD5, by rw [List.length_append, iv_len, iv_len]; show _ + 1 + _ ≤ _; omega, ?_⟩
        rw [upd_upd]
        obtain ⟨dx4, hx4⟩ := HA4.ins
        obtain ⟨u4, hxc4, xs4⟩ := HA4.axs
        obtain ⟨t4, htc4, ts4⟩ := HA4.tld
        have sty : Stay H4 (upd H4 G (.lst (iv done ++ [V.int (so.2.length : Nat)] ++ iv so.2))) := stay_lst hG4
        refine ⟨_, rfl, l.length - (l.length - t.length), by omega, l.length - t.length, so.1, cs1, done ++ ((so.2.length : Int) :: so.2), xc, tc, _, _, rfl, rfl, same_upd sm4 nG', ⟨⟨dx4, by rw [upd_ne gxx.symm]; exact hx4⟩, ⟨u4, by rw [upd_ne gxc.symm]; exact hxc4, XsAt.stay sty xs4⟩, ⟨t4, by rw [upd_ne gtc.symm]; exact htc4, UsAt.stay sty ts4⟩, HA4.ne⟩, I4, nxc, ntc, gxc, gtc, ?_, ?_, fun c' hc' => AA c' (List.mem_cons_of_mem _ hc'), ?_⟩
        · rw [upd_same, iv_app, List.append_assoc]
          rfl
        · have e2 : l.drop (l.length - t.length) = t := by
            have e3 : l.length - t.length = i + mm.length := by omega
            rw [e3, ← List.drop_drop, ed, em, List.drop_left]
          rw [e2]
          exact L1
        · rw [← tot, List.append_assoc]
    · refine dF hlt ?_
      rw [List.drop_of_length_le (by omega)] at LL
      cases LL with
      | nil =>
        rw [due_nil, List.append_nil] at tot
        rw [tot] at hG
        exact ⟨_, rfl, k H' G sm hG⟩
      | cons Lc _ => cases Lc
end
end Rh

set_option Elab.async false
set_option linter.all false
set_option maxRecDepth 100000
set_option maxHeartbeats 2000000
/-! # Rh, part Y: what the top has written -/
namespace Rh
open PySem PySem.Spec PyProof.Rows L2
section
variable {mg : Str → Option Value} {K : PySem.W.Frag} {h : Heap}
theorem gi_mk {x : Str} {i : Int} {t : Nat} (X : K.In h) (G : h.Ns mainGlobals mg) (a : PySem.W.nsIn K mainGlobals x = some (some (.int i t))) : GI mg x i := ⟨t, PySem.W.mg_of X G a⟩
theorem gb_mk {x : Str} (X : K.In h) (G : h.Ns mainGlobals mg) (a : PySem.W.nsIn K mainGlobals x = some none) : mg x = none := PySem.W.mg_none_of X G a
theorem gt_mk {x : Str} {xs : List V} {a : Addr} {o : Obj} {its : Array Value} {n : Nat} (X : K.In h) (G : h.Ns mainGlobals mg) (e : PySem.W.nsIn K mainGlobals x = some (some (.ref a))) (l : K.lookup a = some o) (c : o.cls = .type "tuple") (d : o.data = .seq its n) (z : its.size ≤ sizeLine) (v : Vals xs its.toList) : GT K mg x xs :=
  ⟨a, PySem.W.mg_of X G e, fun _ => .inr ⟨o, its, n, l, c, d, z, v⟩⟩
/-- a def of the top as it stands -/
def GDef (K : PySem.W.Frag) (mg : Str → Option Value) (x : Str) (st : Stmt) : Prop := ∃ (f : Addr) (fd : FuncData), mg x = some (.ref f) ∧ Fun K x x st f fd
theorem gdef_mk {x : Str} {st : Stmt} {f : Addr} {oc : Value} {od an : Option Addr} {osl : Array (Option Value)} {kV doc pm cdv ct : Value} (X : K.In h) (G : h.Ns mainGlobals mg) (a : PySem.W.nsIn K mainGlobals x = some (some (.ref f))) (l : K.lookup f = some ⟨oc, od, .func (PySem.W.fnOf x x (defArgs st) (defBody st) (defScope st) .none kV doc pm an cdv ct), osl⟩)
    (c : PySem.W.codeIn K cdv x = true) (k : PySem.W.keepIn K (.ref f) = true) : GDef K mg x st := ⟨f, _, PySem.W.mg_of X G a, fun_mk l c k⟩
/-- a method of a class of the top -/
def GMeth (K : PySem.W.Frag) (C : Addr) (m qual : Str) (st : Stmt) : Prop := ∃ (f : Addr) (fd : FuncData), Meth K C m f ∧ Fun K m qual st f fd
theorem gmeth_mk {C : Addr} {m qual : Str} {st : Stmt} {f : Addr} {oc : Value} {od an : Option Addr} {osl : Array (Option Value)} {kV doc pm cdv ct : Value} (a : PySem.W.findIn K (.ref C) m = some (some (.ref f))) (i : PySem.W.isFn K (.ref f) = true)
    (l : K.lookup f = some ⟨oc, od, .func (PySem.W.fnOf m qual (defArgs st) (defBody st) (defScope st) .none kV doc pm an cdv ct), osl⟩) (c : PySem.W.codeIn K cdv qual = true) (k : PySem.W.keepIn K (.ref f) = true) : GMeth K C m qual st := ⟨f, _, ⟨a, i, k⟩, fun_mk l c k⟩
/-- a class of the top, made by its __init__ -/
def GMkr (K : PySem.W.Frag) (mg : Str → Option Value) (x : Str) (C : Addr) (qual : Str) (st : Stmt) : Prop := ∃ (f : Addr) (fd : FuncData), Mk K C f ∧ Fun K "__init__" qual st f fd ∧ mg x = some (.ref C)
theorem gmkr_mk {x : Str} {C : Addr} {qual : Str} {st : Stmt} {f : Addr} {oc : Value} {od an : Option Addr} {osl : Array (Option Value)} {kV doc pm cdv ct : Value} (X : K.In h) (G : h.Ns mainGlobals mg) (x0 : PySem.W.nsIn K mainGlobals x = some (some (.ref C))) (mk : PySem.W.makesIn K C = true) (a : PySem.W.findIn K (.ref C) "__init__" = some (some (.ref f))) (i : PySem.W.isFn K (.ref f) = true)
    (kc : PySem.W.keepIn K (.ref C) = true) (l : K.lookup f = some ⟨oc, od, .func (PySem.W.fnOf "__init__" qual (defArgs st) (defBody st) (defScope st) .none kV doc pm an cdv ct), osl⟩) (c : PySem.W.codeIn K cdv qual = true) (k : PySem.W.keepIn K (.ref f) = true) : GMkr K mg x C qual st := ⟨f, _, ⟨mk, a, i, kc⟩, fun_mk l c k, PySem.W.mg_of X G x0⟩
end
/-- the whole program, from what the top has written -/
theorem finish {P : Program} {w : World} {K : PySem.W.Frag} {mg : Str → Option Value} {CK CH fa : Addr} (hfa : mg "answers" = some (.ref fa)) (T : Txt K mg CK CH)
    (g_head_length : GDef K mg "head_length" s_head_length)
    (g_concept_end : GDef K mg "concept_end" s_concept_end)
    (g_split_concepts : GDef K mg "split_concepts" s_split_concepts)
    (g_parts_of : GDef K mg "parts_of" s_parts_of)
    (g_atoms_of : GDef K mg "atoms_of" s_atoms_of)
    (g_bit_is_set : GDef K mg "bit_is_set" s_bit_is_set)
    (g_part_holds : GDef K mg "part_holds" s_part_holds)
    (g_holds : GDef K mg "holds" s_holds)
    (g_turned : GDef K mg "turned" s_turned)
    (g_roles_over : GDef K mg "roles_over" s_roles_over)
    (g_all_roles_over : GDef K mg "all_roles_over" s_all_roles_over)
    (g_bits_of : GDef K mg "bits_of" s_bits_of)
    (g_Kinds_bits_by_role : GMeth K CK "bits_by_role" "Kinds.bits_by_role" s_Kinds_bits_by_role)
    (g_Kinds_truths : GMeth K CK "truths" "Kinds.truths" s_Kinds_truths)
    (g_Kinds_all_shown_bits : GMeth K CK "all_shown_bits" "Kinds.all_shown_bits" s_Kinds_all_shown_bits)
    (g_Kinds_owed_bits : GMeth K CK "owed_bits" "Kinds.owed_bits" s_Kinds_owed_bits)
    (g_Kinds_lets : GMeth K CK "lets" "Kinds.lets" s_Kinds_lets)
    (g_Kinds_fits : GMeth K CK "fits" "Kinds.fits" s_Kinds_fits)
    (g_Kinds_owed_places : GMeth K CK "owed_places" "Kinds.owed_places" s_Kinds_owed_places)
    (g_Kinds_bearer : GMeth K CK "bearer" "Kinds.bearer" s_Kinds_bearer)
    (g_Kinds_borne_out : GMeth K CK "borne_out" "Kinds.borne_out" s_Kinds_borne_out)
    (g_Kinds_keeping : GMeth K CK "keeping" "Kinds.keeping" s_Kinds_keeping)
    (g_Kinds_largest_borne_out : GMeth K CK "largest_borne_out" "Kinds.largest_borne_out" s_Kinds_largest_borne_out)
    (g_Kinds___init__ : GMkr K mg "Kinds" CK "Kinds.__init__" s_Kinds___init__)
    (g_Kinds_having : GMeth K CK "having" "Kinds.having" s_Kinds_having)
    (g_Kinds_steps : GMeth K CK "steps" "Kinds.steps" s_Kinds_steps)
    (g_Kinds_names_sum : GMeth K CK "names_sum" "Kinds.names_sum" s_Kinds_names_sum)
    (g_Kinds_allows : GMeth K CK "allows" "Kinds.allows" s_Kinds_allows)
    (g_Kinds_name_under : GMeth K CK "name_under" "Kinds.name_under" s_Kinds_name_under)
    (g_ways_of_step : GDef K mg "ways_of_step" s_ways_of_step)
    (g_told_things : GDef K mg "told_things" s_told_things)
    (g_told_ways : GDef K mg "told_ways" s_told_ways)
    (g_told_model : GDef K mg "told_model" s_told_model)
    (g_House___init__ : GMkr K mg "House" CH "House.__init__" s_House___init__)
    (g_House_atoms_with : GMeth K CH "atoms_with" "House.atoms_with" s_House_atoms_with)
    (g_House_refusal : GMeth K CH "refusal" "House.refusal" s_House_refusal)
    (g_House_kinds_with : GMeth K CH "kinds_with" "House.kinds_with" s_House_kinds_with)
    (g_House_begins : GMeth K CH "begins" "House.begins" s_House_begins)
    (g_House_line : GMeth K CH "line" "House.line" s_House_line)
    (g_House_role : GMeth K CH "role" "House.role" s_House_role)
    (g_House_can : GMeth K CH "can" "House.can" s_House_can)
    (g_House_under : GMeth K CH "under" "House.under" s_House_under)
    (g_House_model : GMeth K CH "model" "House.model" s_House_model)
    (g_House_roles : GMeth K CH "roles" "House.roles" s_House_roles)
    (g_House_names : GMeth K CH "names" "House.names" s_House_names)
    (g_call_end : GDef K mg "call_end" s_call_end)
    (g_answer : GDef K mg "answer" s_answer)
    (g_answers : GDef K mg "answers" s_answers) :
    ∃ fd : FuncData, (∀ (s : Shared) (us : List Value), us.length = (["calls"] : List Str).length → BindsTo s fd ⟨us, []⟩ ((["calls"] : List Str).zip us)) ∧ ∀ base : Heap, K.In base → base.Ns mainGlobals mg → FnOk P w K mg base CX0 12 fa fd ["calls"] (spAnswers K) := by
  obtain ⟨f_head_length, fd_head_length, m_head_length, F_head_length⟩ := g_head_length
  have b_head_length := F_head_length.binds (ps := ["numbers", "start"]) fun _ _ _ _ _ _ us hl => match us, hl with | [_, _], _ => rfl
  obtain ⟨f_concept_end, fd_concept_end, m_concept_end, F_concept_end⟩ := g_concept_end
  have b_concept_end := F_concept_end.binds (ps := ["numbers", "start"]) fun _ _ _ _ _ _ us hl => match us, hl with | [_, _], _ => rfl
  obtain ⟨f_split_concepts, fd_split_concepts, m_split_concepts, F_split_concepts⟩ := g_split_concepts
  have b_split_concepts := F_split_concepts.binds (ps := ["numbers", "how_many"]) fun _ _ _ _ _ _ us hl => match us, hl with | [_, _], _ => rfl
  obtain ⟨f_parts_of, fd_parts_of, m_parts_of, F_parts_of⟩ := g_parts_of
  have b_parts_of := F_parts_of.binds (ps := ["concept"]) fun _ _ _ _ _ _ us hl => match us, hl with | [_], _ => rfl
  obtain ⟨f_atoms_of, fd_atoms_of, m_atoms_of, F_atoms_of⟩ := g_atoms_of
  have b_atoms_of := F_atoms_of.binds (ps := ["concepts"]) fun _ _ _ _ _ _ us hl => match us, hl with | [_], _ => rfl
  obtain ⟨f_bit_is_set, fd_bit_is_set, m_bit_is_set, F_bit_is_set⟩ := g_bit_is_set
  have b_bit_is_set := F_bit_is_set.binds (ps := ["number", "place"]) fun _ _ _ _ _ _ us hl => match us, hl with | [_, _], _ => rfl
  obtain ⟨f_part_holds, fd_part_holds, m_part_holds, F_part_holds⟩ := g_part_holds
  have b_part_holds := F_part_holds.binds (ps := ["part", "within", "atoms", "kind"]) fun _ _ _ _ _ _ us hl => match us, hl with | [_, _, _, _], _ => rfl
  obtain ⟨f_holds, fd_holds, m_holds, F_holds⟩ := g_holds
  have b_holds := F_holds.binds (ps := ["parts", "atoms", "kind"]) fun _ _ _ _ _ _ us hl => match us, hl with | [_, _, _], _ => rfl
  obtain ⟨f_turned, fd_turned, m_turned, F_turned⟩ := g_turned
  have b_turned := F_turned.binds (ps := ["role"]) fun _ _ _ _ _ _ us hl => match us, hl with | [_], _ => rfl
  obtain ⟨f_roles_over, fd_roles_over, m_roles_over, F_roles_over⟩ := g_roles_over
  have b_roles_over := F_roles_over.binds (ps := ["role", "pairs"]) fun _ _ _ _ _ _ us hl => match us, hl with | [_, _], _ => rfl
  obtain ⟨f_all_roles_over, fd_all_roles_over, m_all_roles_over, F_all_roles_over⟩ := g_all_roles_over
  have b_all_roles_over := F_all_roles_over.binds (ps := ["told"]) fun _ _ _ _ _ _ us hl => match us, hl with | [_], _ => rfl
  obtain ⟨f_bits_of, fd_bits_of, m_bits_of, F_bits_of⟩ := g_bits_of
  have b_bits_of := F_bits_of.binds (ps := ["flags"]) fun _ _ _ _ _ _ us hl => match us, hl with | [_], _ => rfl
  obtain ⟨f_Kinds_bits_by_role, fd_Kinds_bits_by_role, m_Kinds_bits_by_role, F_Kinds_bits_by_role⟩ := g_Kinds_bits_by_role
  have b_Kinds_bits_by_role := F_Kinds_bits_by_role.binds (ps := ["self", "role"]) fun _ _ _ _ _ _ us hl => match us, hl with | [_, _], _ => rfl
  obtain ⟨f_Kinds_truths, fd_Kinds_truths, m_Kinds_truths, F_Kinds_truths⟩ := g_Kinds_truths
  have b_Kinds_truths := F_Kinds_truths.binds (ps := ["self", "concept"]) fun _ _ _ _ _ _ us hl => match us, hl with | [_, _], _ => rfl
  obtain ⟨f_Kinds_all_shown_bits, fd_Kinds_all_shown_bits, m_Kinds_all_shown_bits, F_Kinds_all_shown_bits⟩ := g_Kinds_all_shown_bits
  have b_Kinds_all_shown_bits := F_Kinds_all_shown_bits.binds (ps := ["self"]) fun _ _ _ _ _ _ us hl => match us, hl with | [_], _ => rfl
  obtain ⟨f_Kinds_owed_bits, fd_Kinds_owed_bits, m_Kinds_owed_bits, F_Kinds_owed_bits⟩ := g_Kinds_owed_bits
  have b_Kinds_owed_bits := F_Kinds_owed_bits.binds (ps := ["self", "kind"]) fun _ _ _ _ _ _ us hl => match us, hl with | [_, _], _ => rfl
  obtain ⟨f_Kinds_lets, fd_Kinds_lets, m_Kinds_lets, F_Kinds_lets⟩ := g_Kinds_lets
  have b_Kinds_lets := F_Kinds_lets.binds (ps := ["self", "role", "kind", "other"]) fun _ _ _ _ _ _ us hl => match us, hl with | [_, _, _, _], _ => rfl
  obtain ⟨f_Kinds_fits, fd_Kinds_fits, m_Kinds_fits, F_Kinds_fits⟩ := g_Kinds_fits
  have b_Kinds_fits := F_Kinds_fits.binds (ps := ["self", "role", "kind", "other"]) fun _ _ _ _ _ _ us hl => match us, hl with | [_, _, _, _], _ => rfl
  obtain ⟨f_Kinds_owed_places, fd_Kinds_owed_places, m_Kinds_owed_places, F_Kinds_owed_places⟩ := g_Kinds_owed_places
  have b_Kinds_owed_places := F_Kinds_owed_places.binds (ps := ["self", "kind"]) fun _ _ _ _ _ _ us hl => match us, hl with | [_, _], _ => rfl
  obtain ⟨f_Kinds_bearer, fd_Kinds_bearer, m_Kinds_bearer, F_Kinds_bearer⟩ := g_Kinds_bearer
  have b_Kinds_bearer := F_Kinds_bearer.binds (ps := ["self", "kind", "place", "kept"]) fun _ _ _ _ _ _ us hl => match us, hl with | [_, _, _, _], _ => rfl
  obtain ⟨f_Kinds_borne_out, fd_Kinds_borne_out, m_Kinds_borne_out, F_Kinds_borne_out⟩ := g_Kinds_borne_out
  have b_Kinds_borne_out := F_Kinds_borne_out.binds (ps := ["self", "kind", "kept"]) fun _ _ _ _ _ _ us hl => match us, hl with | [_, _, _], _ => rfl
  obtain ⟨f_Kinds_keeping, fd_Kinds_keeping, m_Kinds_keeping, F_Kinds_keeping⟩ := g_Kinds_keeping
  have b_Kinds_keeping := F_Kinds_keeping.binds (ps := ["self", "axioms"]) fun _ _ _ _ _ _ us hl => match us, hl with | [_, _], _ => rfl
  obtain ⟨f_Kinds_largest_borne_out, fd_Kinds_largest_borne_out, m_Kinds_largest_borne_out, F_Kinds_largest_borne_out⟩ := g_Kinds_largest_borne_out
  have b_Kinds_largest_borne_out := F_Kinds_largest_borne_out.binds (ps := ["self", "kinds"]) fun _ _ _ _ _ _ us hl => match us, hl with | [_, _], _ => rfl
  obtain ⟨f_Kinds___init__, fd_Kinds___init__, m_Kinds___init__, F_Kinds___init__, x_Kinds___init__⟩ := g_Kinds___init__
  have b_Kinds___init__ := F_Kinds___init__.binds (ps := ["self", "atoms", "over", "axioms"]) fun _ _ _ _ _ _ us hl => match us, hl with | [_, _, _, _], _ => rfl
  obtain ⟨f_Kinds_having, fd_Kinds_having, m_Kinds_having, F_Kinds_having⟩ := g_Kinds_having
  have b_Kinds_having := F_Kinds_having.binds (ps := ["self", "concept"]) fun _ _ _ _ _ _ us hl => match us, hl with | [_, _], _ => rfl
  obtain ⟨f_Kinds_steps, fd_Kinds_steps, m_Kinds_steps, F_Kinds_steps⟩ := g_Kinds_steps
  have b_Kinds_steps := F_Kinds_steps.binds (ps := ["self", "kind"]) fun _ _ _ _ _ _ us hl => match us, hl with | [_, _], _ => rfl
  obtain ⟨f_Kinds_names_sum, fd_Kinds_names_sum, m_Kinds_names_sum, F_Kinds_names_sum⟩ := g_Kinds_names_sum
  have b_Kinds_names_sum := F_Kinds_names_sum.binds (ps := ["self", "kind"]) fun _ _ _ _ _ _ us hl => match us, hl with | [_, _], _ => rfl
  obtain ⟨f_Kinds_allows, fd_Kinds_allows, m_Kinds_allows, F_Kinds_allows⟩ := g_Kinds_allows
  have b_Kinds_allows := F_Kinds_allows.binds (ps := ["self", "kind", "name", "had"]) fun _ _ _ _ _ _ us hl => match us, hl with | [_, _, _, _], _ => rfl
  obtain ⟨f_Kinds_name_under, fd_Kinds_name_under, m_Kinds_name_under, F_Kinds_name_under⟩ := g_Kinds_name_under
  have b_Kinds_name_under := F_Kinds_name_under.binds (ps := ["self", "lower", "upper"]) fun _ _ _ _ _ _ us hl => match us, hl with | [_, _, _], _ => rfl
  obtain ⟨f_ways_of_step, fd_ways_of_step, m_ways_of_step, F_ways_of_step⟩ := g_ways_of_step
  have b_ways_of_step := F_ways_of_step.binds (ps := ["source", "target", "uppers"]) fun _ _ _ _ _ _ us hl => match us, hl with | [_, _, _], _ => rfl
  obtain ⟨f_told_things, fd_told_things, m_told_things, F_told_things⟩ := g_told_things
  have b_told_things := F_told_things.binds (ps := ["kinds", "first"]) fun _ _ _ _ _ _ us hl => match us, hl with | [_, _], _ => rfl
  obtain ⟨f_told_ways, fd_told_ways, m_told_ways, F_told_ways⟩ := g_told_ways
  have b_told_ways := F_told_ways.binds (ps := ["kinds", "things"]) fun _ _ _ _ _ _ us hl => match us, hl with | [_, _], _ => rfl
  obtain ⟨f_told_model, fd_told_model, m_told_model, F_told_model⟩ := g_told_model
  have b_told_model := F_told_model.binds (ps := ["kinds", "first"]) fun _ _ _ _ _ _ us hl => match us, hl with | [_, _], _ => rfl
  obtain ⟨f_House___init__, fd_House___init__, m_House___init__, F_House___init__, x_House___init__⟩ := g_House___init__
  have b_House___init__ := F_House___init__.binds (ps := ["self"]) fun _ _ _ _ _ _ us hl => match us, hl with | [_], _ => rfl
  obtain ⟨f_House_atoms_with, fd_House_atoms_with, m_House_atoms_with, F_House_atoms_with⟩ := g_House_atoms_with
  have b_House_atoms_with := F_House_atoms_with.binds (ps := ["self", "concepts"]) fun _ _ _ _ _ _ us hl => match us, hl with | [_, _], _ => rfl
  obtain ⟨f_House_refusal, fd_House_refusal, m_House_refusal, F_House_refusal⟩ := g_House_refusal
  have b_House_refusal := F_House_refusal.binds (ps := ["self", "concepts"]) fun _ _ _ _ _ _ us hl => match us, hl with | [_, _], _ => rfl
  obtain ⟨f_House_kinds_with, fd_House_kinds_with, m_House_kinds_with, F_House_kinds_with⟩ := g_House_kinds_with
  have b_House_kinds_with := F_House_kinds_with.binds (ps := ["self", "concepts"]) fun _ _ _ _ _ _ us hl => match us, hl with | [_, _], _ => rfl
  obtain ⟨f_House_begins, fd_House_begins, m_House_begins, F_House_begins⟩ := g_House_begins
  have b_House_begins := F_House_begins.binds (ps := ["self"]) fun _ _ _ _ _ _ us hl => match us, hl with | [_], _ => rfl
  obtain ⟨f_House_line, fd_House_line, m_House_line, F_House_line⟩ := g_House_line
  have b_House_line := F_House_line.binds (ps := ["self", "numbers"]) fun _ _ _ _ _ _ us hl => match us, hl with | [_, _], _ => rfl
  obtain ⟨f_House_role, fd_House_role, m_House_role, F_House_role⟩ := g_House_role
  have b_House_role := F_House_role.binds (ps := ["self", "lower", "upper"]) fun _ _ _ _ _ _ us hl => match us, hl with | [_, _, _], _ => rfl
  obtain ⟨f_House_can, fd_House_can, m_House_can, F_House_can⟩ := g_House_can
  have b_House_can := F_House_can.binds (ps := ["self", "numbers"]) fun _ _ _ _ _ _ us hl => match us, hl with | [_, _], _ => rfl
  obtain ⟨f_House_under, fd_House_under, m_House_under, F_House_under⟩ := g_House_under
  have b_House_under := F_House_under.binds (ps := ["self", "numbers"]) fun _ _ _ _ _ _ us hl => match us, hl with | [_, _], _ => rfl
  obtain ⟨f_House_model, fd_House_model, m_House_model, F_House_model⟩ := g_House_model
  have b_House_model := F_House_model.binds (ps := ["self", "numbers"]) fun _ _ _ _ _ _ us hl => match us, hl with | [_, _], _ => rfl
  obtain ⟨f_House_roles, fd_House_roles, m_House_roles, F_House_roles⟩ := g_House_roles
  have b_House_roles := F_House_roles.binds (ps := ["self"]) fun _ _ _ _ _ _ us hl => match us, hl with | [_], _ => rfl
  obtain ⟨f_House_names, fd_House_names, m_House_names, F_House_names⟩ := g_House_names
  have b_House_names := F_House_names.binds (ps := ["self"]) fun _ _ _ _ _ _ us hl => match us, hl with | [_], _ => rfl
  obtain ⟨f_call_end, fd_call_end, m_call_end, F_call_end⟩ := g_call_end
  have b_call_end := F_call_end.binds (ps := ["calls", "start"]) fun _ _ _ _ _ _ us hl => match us, hl with | [_, _], _ => rfl
  obtain ⟨f_answer, fd_answer, m_answer, F_answer⟩ := g_answer
  have b_answer := F_answer.binds (ps := ["house", "call"]) fun _ _ _ _ _ _ us hl => match us, hl with | [_, _], _ => rfl
  obtain ⟨f_answers, fd_answers, m_answers, F_answers⟩ := g_answers
  cases hfa.symm.trans m_answers
  refine ⟨fd_answers, fun s us hu => ?_, fun base _ _ => ?_⟩
  · obtain ⟨oc, od, kV, doc, pm, an, cdv, ct, osl, rfl, lk, hcd⟩ := F_answers.ex
    exact match us, hu with | [_], _ => .of_eq rfl
  · show FnOk P w K mg base CX0 12 _ _ _ _
    have D_head_length : Df P w K mg base "head_length" 1 ["numbers", "start"] (spHeadLength K) := ⟨⟨f_head_length, fd_head_length, ok_head_length F_head_length T , m_head_length, F_head_length.kp, b_head_length⟩⟩
    have D_concept_end : Df P w K mg base "concept_end" 2 ["numbers", "start"] (spConceptEnd K) := ⟨⟨f_concept_end, fd_concept_end, ok_concept_end F_concept_end T D_head_length, m_concept_end, F_concept_end.kp, b_concept_end⟩⟩
    have D_split_concepts : Df P w K mg base "split_concepts" 3 ["numbers", "how_many"] (spSplit K) := ⟨⟨f_split_concepts, fd_split_concepts, ok_split F_split_concepts T D_concept_end, m_split_concepts, F_split_concepts.kp, b_split_concepts⟩⟩
    have D_parts_of : Df P w K mg base "parts_of" 3 ["concept"] spParts := ⟨⟨f_parts_of, fd_parts_of, ok_parts F_parts_of T D_concept_end D_head_length, m_parts_of, F_parts_of.kp, b_parts_of⟩⟩
    have D_atoms_of : Df P w K mg base "atoms_of" 4 ["concepts"] spAtoms := ⟨⟨f_atoms_of, fd_atoms_of, ok_atoms F_atoms_of T D_parts_of, m_atoms_of, F_atoms_of.kp, b_atoms_of⟩⟩
    have D_bit_is_set : Df P w K mg base "bit_is_set" 1 ["number", "place"] spBitSet := ⟨⟨f_bit_is_set, fd_bit_is_set, ok_bit F_bit_is_set T , m_bit_is_set, F_bit_is_set.kp, b_bit_is_set⟩⟩
    have D_part_holds : Df P w K mg base "part_holds" 2 ["part", "within", "atoms", "kind"] spPartHolds := ⟨⟨f_part_holds, fd_part_holds, ok_part_holds F_part_holds T D_bit_is_set, m_part_holds, F_part_holds.kp, b_part_holds⟩⟩
    have D_holds : Df P w K mg base "holds" 3 ["parts", "atoms", "kind"] spHolds := ⟨⟨f_holds, fd_holds, ok_holds F_holds T D_part_holds, m_holds, F_holds.kp, b_holds⟩⟩
    have D_turned : Df P w K mg base "turned" 1 ["role"] spTurned := ⟨⟨f_turned, fd_turned, ok_turned F_turned T , m_turned, F_turned.kp, b_turned⟩⟩
    have D_roles_over : Df P w K mg base "roles_over" 1 ["role", "pairs"] spRolesOver := ⟨⟨f_roles_over, fd_roles_over, ok_roles_over F_roles_over T , m_roles_over, F_roles_over.kp, b_roles_over⟩⟩
    have D_all_roles_over : Df P w K mg base "all_roles_over" 2 ["told"] spAllOver := ⟨⟨f_all_roles_over, fd_all_roles_over, ok_all_over F_all_roles_over T D_turned D_roles_over, m_all_roles_over, F_all_roles_over.kp, b_all_roles_over⟩⟩
    have D_bits_of : Df P w K mg base "bits_of" 1 ["flags"] spBits := ⟨⟨f_bits_of, fd_bits_of, ok_bits F_bits_of T , m_bits_of, F_bits_of.kp, b_bits_of⟩⟩
    have D_Kinds_bits_by_role : Mt P w K mg base CK "bits_by_role" 2 ["self", "role"] (spByRole CK) := ⟨⟨f_Kinds_bits_by_role, fd_Kinds_bits_by_role, ok_by_role F_Kinds_bits_by_role T D_bits_of, m_Kinds_bits_by_role, b_Kinds_bits_by_role⟩⟩
    have D_Kinds_truths : Mt P w K mg base CK "truths" 4 ["self", "concept"] (spTruths CK) := ⟨⟨f_Kinds_truths, fd_Kinds_truths, ok_truths F_Kinds_truths T D_parts_of D_holds, m_Kinds_truths, b_Kinds_truths⟩⟩
    have D_Kinds_all_shown_bits : Mt P w K mg base CK "all_shown_bits" 5 ["self"] (spShown CK) := ⟨⟨f_Kinds_all_shown_bits, fd_Kinds_all_shown_bits, ok_shown F_Kinds_all_shown_bits T D_Kinds_truths, m_Kinds_all_shown_bits, b_Kinds_all_shown_bits⟩⟩
    have D_Kinds_owed_bits : Mt P w K mg base CK "owed_bits" 1 ["self", "kind"] (spOwed CK) := ⟨⟨f_Kinds_owed_bits, fd_Kinds_owed_bits, ok_owed F_Kinds_owed_bits T , m_Kinds_owed_bits, b_Kinds_owed_bits⟩⟩
    have D_Kinds_lets : Mt P w K mg base CK "lets" 2 ["self", "role", "kind", "other"] (spLets CK) := ⟨⟨f_Kinds_lets, fd_Kinds_lets, ok_lets F_Kinds_lets T D_Kinds_owed_bits, m_Kinds_lets, b_Kinds_lets⟩⟩
    have D_Kinds_fits : Mt P w K mg base CK "fits" 3 ["self", "role", "kind", "other"] (spFits CK) := ⟨⟨f_Kinds_fits, fd_Kinds_fits, ok_fits F_Kinds_fits T D_Kinds_lets D_turned, m_Kinds_fits, b_Kinds_fits⟩⟩
    have D_Kinds_owed_places : Mt P w K mg base CK "owed_places" 2 ["self", "kind"] (spPlaces CK) := ⟨⟨f_Kinds_owed_places, fd_Kinds_owed_places, ok_places F_Kinds_owed_places T D_Kinds_owed_bits D_bit_is_set, m_Kinds_owed_places, b_Kinds_owed_places⟩⟩
    have D_Kinds_bearer : Mt P w K mg base CK "bearer" 4 ["self", "kind", "place", "kept"] (spBearer CK) := ⟨⟨f_Kinds_bearer, fd_Kinds_bearer, ok_bearer F_Kinds_bearer T D_Kinds_fits D_bit_is_set, m_Kinds_bearer, b_Kinds_bearer⟩⟩
    have D_Kinds_borne_out : Mt P w K mg base CK "borne_out" 5 ["self", "kind", "kept"] (spBorne CK) := ⟨⟨f_Kinds_borne_out, fd_Kinds_borne_out, ok_borne F_Kinds_borne_out T D_Kinds_owed_places D_Kinds_bearer, m_Kinds_borne_out, b_Kinds_borne_out⟩⟩
    have D_Kinds_keeping : Mt P w K mg base CK "keeping" 5 ["self", "axioms"] (spKeeping CK) := ⟨⟨f_Kinds_keeping, fd_Kinds_keeping, ok_keeping F_Kinds_keeping T D_Kinds_truths, m_Kinds_keeping, b_Kinds_keeping⟩⟩
    have D_Kinds_largest_borne_out : Mt P w K mg base CK "largest_borne_out" 6 ["self", "kinds"] (spLargest CK) := ⟨⟨f_Kinds_largest_borne_out, fd_Kinds_largest_borne_out, ok_largest F_Kinds_largest_borne_out T D_Kinds_borne_out, m_Kinds_largest_borne_out, b_Kinds_largest_borne_out⟩⟩
    have D_Kinds___init__ : Mkr P w K mg base "Kinds" CK 7 ["self", "atoms", "over", "axioms"] (spKInit CK) := ⟨⟨f_Kinds___init__, fd_Kinds___init__, ok_kinit F_Kinds___init__ T D_bits_of D_Kinds_bits_by_role D_Kinds_all_shown_bits D_Kinds_keeping D_Kinds_largest_borne_out, m_Kinds___init__, x_Kinds___init__, b_Kinds___init__⟩⟩
    have D_Kinds_having : Mt P w K mg base CK "having" 5 ["self", "concept"] (spHaving CK) := ⟨⟨f_Kinds_having, fd_Kinds_having, ok_having F_Kinds_having T D_Kinds_truths, m_Kinds_having, b_Kinds_having⟩⟩
    have D_Kinds_steps : Mt P w K mg base CK "steps" 5 ["self", "kind"] (spSteps CK) := ⟨⟨f_Kinds_steps, fd_Kinds_steps, ok_steps F_Kinds_steps T D_Kinds_owed_places D_Kinds_bearer, m_Kinds_steps, b_Kinds_steps⟩⟩
    have D_Kinds_names_sum : Mt P w K mg base CK "names_sum" 2 ["self", "kind"] (spNamesSum CK) := ⟨⟨f_Kinds_names_sum, fd_Kinds_names_sum, ok_names_sum F_Kinds_names_sum T D_bit_is_set, m_Kinds_names_sum, b_Kinds_names_sum⟩⟩
    have D_Kinds_allows : Mt P w K mg base CK "allows" 2 ["self", "kind", "name", "had"] (spAllows CK) := ⟨⟨f_Kinds_allows, fd_Kinds_allows, ok_allows F_Kinds_allows T D_bit_is_set, m_Kinds_allows, b_Kinds_allows⟩⟩
    have D_Kinds_name_under : Mt P w K mg base CK "name_under" 3 ["self", "lower", "upper"] (spNameUnder CK) := ⟨⟨f_Kinds_name_under, fd_Kinds_name_under, ok_name_under F_Kinds_name_under T D_Kinds_allows, m_Kinds_name_under, b_Kinds_name_under⟩⟩
    have D_ways_of_step : Df P w K mg base "ways_of_step" 2 ["source", "target", "uppers"] spWays := ⟨⟨f_ways_of_step, fd_ways_of_step, ok_ways F_ways_of_step T D_turned, m_ways_of_step, F_ways_of_step.kp, b_ways_of_step⟩⟩
    have D_told_things : Df P w K mg base "told_things" 6 ["kinds", "first"] (spThings CK) := ⟨⟨f_told_things, fd_told_things, ok_things F_told_things T D_Kinds_steps, m_told_things, F_told_things.kp, b_told_things⟩⟩
    have D_told_ways : Df P w K mg base "told_ways" 6 ["kinds", "things"] (spToldWays CK) := ⟨⟨f_told_ways, fd_told_ways, ok_told_ways F_told_ways T D_Kinds_steps D_ways_of_step, m_told_ways, F_told_ways.kp, b_told_ways⟩⟩
    have D_told_model : Df P w K mg base "told_model" 7 ["kinds", "first"] (spToldModel CK) := ⟨⟨f_told_model, fd_told_model, ok_told_model F_told_model T D_told_things D_told_ways D_Kinds_names_sum, m_told_model, F_told_model.kp, b_told_model⟩⟩
    have D_House___init__ : Mkr P w K mg base "House" CH 1 ["self"] (spHInit CH) := ⟨⟨f_House___init__, fd_House___init__, ok_hinit F_House___init__ T , m_House___init__, x_House___init__, b_House___init__⟩⟩
    have D_House_atoms_with : Mt P w K mg base CH "atoms_with" 5 ["self", "concepts"] (spAtomsWith CH) := ⟨⟨f_House_atoms_with, fd_House_atoms_with, ok_atoms_with F_House_atoms_with T D_atoms_of, m_House_atoms_with, b_House_atoms_with⟩⟩
    have D_House_refusal : Mt P w K mg base CH "refusal" 6 ["self", "concepts"] (spRefusal CH) := ⟨⟨f_House_refusal, fd_House_refusal, ok_refusal F_House_refusal T D_House_atoms_with, m_House_refusal, b_House_refusal⟩⟩
    have D_House_kinds_with : Mt P w K mg base CH "kinds_with" 9 ["self", "concepts"] (spKindsWith CH CK) := ⟨⟨f_House_kinds_with, fd_House_kinds_with, ok_kinds_with F_House_kinds_with T D_House_atoms_with D_all_roles_over D_Kinds___init__, m_House_kinds_with, b_House_kinds_with⟩⟩
    have D_House_begins : Mt P w K mg base CH "begins" 1 ["self"] (spBegins CH) := ⟨⟨f_House_begins, fd_House_begins, ok_begins F_House_begins T , m_House_begins, b_House_begins⟩⟩
    have D_House_line : Mt P w K mg base CH "line" 7 ["self", "numbers"] (spLine CH K) := ⟨⟨f_House_line, fd_House_line, ok_line F_House_line T D_split_concepts D_House_refusal, m_House_line, b_House_line⟩⟩
    have D_House_role : Mt P w K mg base CH "role" 1 ["self", "lower", "upper"] (spRole CH) := ⟨⟨f_House_role, fd_House_role, ok_role F_House_role T , m_House_role, b_House_role⟩⟩
    have D_House_can : Mt P w K mg base CH "can" 10 ["self", "numbers"] (spCan CH K) := ⟨⟨f_House_can, fd_House_can, ok_can F_House_can T D_split_concepts D_House_refusal D_House_kinds_with D_Kinds_having, m_House_can, b_House_can⟩⟩
    have D_House_under : Mt P w K mg base CH "under" 10 ["self", "numbers"] (spUnder CH K) := ⟨⟨f_House_under, fd_House_under, ok_under F_House_under T D_split_concepts D_House_refusal D_House_kinds_with D_Kinds_having, m_House_under, b_House_under⟩⟩
    have D_House_model : Mt P w K mg base CH "model" 10 ["self", "numbers"] (spModel CH K) := ⟨⟨f_House_model, fd_House_model, ok_model F_House_model T D_split_concepts D_House_refusal D_House_kinds_with D_Kinds_having D_told_model, m_House_model, b_House_model⟩⟩
    have D_House_roles : Mt P w K mg base CH "roles" 3 ["self"] (spRoles CH) := ⟨⟨f_House_roles, fd_House_roles, ok_roles F_House_roles T D_all_roles_over, m_House_roles, b_House_roles⟩⟩
    have D_House_names : Mt P w K mg base CH "names" 10 ["self"] (spNames CH) := ⟨⟨f_House_names, fd_House_names, ok_names F_House_names T D_House_kinds_with D_Kinds_name_under, m_House_names, b_House_names⟩⟩
    have D_call_end : Df P w K mg base "call_end" 1 ["calls", "start"] (spCallEnd K) := ⟨⟨f_call_end, fd_call_end, ok_call_end F_call_end T , m_call_end, F_call_end.kp, b_call_end⟩⟩
    have D_answer : Df P w K mg base "answer" 11 ["house", "call"] (spAnswer CH) := ⟨⟨f_answer, fd_answer, ok_answer F_answer T D_House_begins D_House_line D_House_role D_House_can D_House_under D_House_model D_House_roles D_House_names, m_answer, F_answer.kp, b_answer⟩⟩
    exact ok_answers F_answers T D_call_end D_answer D_House___init__
end Rh

set_option Elab.async false
open PySem PySem.W PyProof.Rows
set_option maxRecDepth 100000 in
set_option maxHeartbeats 0 in
theorem PySem.Challenge.cw_rolehouse_s01_answers_holds : PySem.Challenge.rw_rolehouse_s01_answers.Holds := by
  w_on; k_headS; (case hw => exact ⟨[.list [.int 0]], by decide +kernel, by decide +kernel⟩)
  k_fillS
  refine L2.walk_specK (r := PySem.Challenge.rw_rolehouse_s01_answers) (k := 12) (CX := L2.CX0) (ps := ["calls"]) (sp := Rh.spAnswers) (by decide +kernel) rfl rfl ⟨rfl, by decide, by decide⟩ (fun w h Y => PySem.W.kIn_of Y) ?F ?S (fun _ _ _ _ z => z)
  case F =>
    intro w mg fa h Y KX G hmg
    refine' Rh.finish hmg (Rh.Txt.mk ?g_EVERYTHING ?g_NOTHING ?g_NAMED ?g_BOTH ?g_EITHER ?g_OPPOSITE ?g_SOME ?g_EACH ?g_PART_COUNTS ?g_WITH_A_SIGN ?g_HIGHEST_SIGN ?g_ROLE_COUNT ?g_FORWARD_ROLE_COUNT ?g_BEGINS ?g_LINE ?g_ROLE ?g_CAN ?g_UNDER ?g_MODEL ?g_ROLES ?g_NAMES ?g_WRONG_FORM ?g_NO_MODEL ?g_TOO_MANY ?g_MOST_AXIOMS ?g_MOST_ATOMS ?g_MOST_ROLES_TOLD ?cl_Kinds ?cl_House ?nk_atoms ?nk_over ?nk_every_kind ?nk_some_bits ?nk_each_bits ?nk_role_bits ?nk_shown_bits ?nk_possible ?nh_axioms ?nh_told ?b_len ?b_range ?b_tuple ?b_list ?b_reversed ?b_sorted ?b_sum ?b_set ?b_enumerate) ?g_head_length ?g_concept_end ?g_split_concepts ?g_parts_of ?g_atoms_of ?g_bit_is_set ?g_part_holds ?g_holds ?g_turned ?g_roles_over ?g_all_roles_over ?g_bits_of ?g_Kinds_bits_by_role ?g_Kinds_truths ?g_Kinds_all_shown_bits ?g_Kinds_owed_bits ?g_Kinds_lets ?g_Kinds_fits ?g_Kinds_owed_places ?g_Kinds_bearer ?g_Kinds_borne_out ?g_Kinds_keeping ?g_Kinds_largest_borne_out ?g_Kinds___init__ ?g_Kinds_having ?g_Kinds_steps ?g_Kinds_names_sum ?g_Kinds_allows ?g_Kinds_name_under ?g_ways_of_step ?g_told_things ?g_told_ways ?g_told_model ?g_House___init__ ?g_House_atoms_with ?g_House_refusal ?g_House_kinds_with ?g_House_begins ?g_House_line ?g_House_role ?g_House_can ?g_House_under ?g_House_model ?g_House_roles ?g_House_names ?g_call_end ?g_answer ?g_answers
    case g_Kinds___init__ => refine' Rh.gmkr_mk KX G ?x0 ?mk ?a ?i ?kc ?l ?c ?k; (case x0 => k_is); (case mk => k_is); (case a => k_is); (case i => k_is); (case kc => k_is); (case l => k_is); (case c => k_is); (case k => k_is)
    case g_House___init__ => refine' Rh.gmkr_mk KX G ?x0 ?mk ?a ?i ?kc ?l ?c ?k; (case x0 => k_is); (case mk => k_is); (case a => k_is); (case i => k_is); (case kc => k_is); (case l => k_is); (case c => k_is); (case k => k_is)
    case g_EVERYTHING => refine' Rh.gi_mk KX G ?a; (case a => k_is)
    case g_NOTHING => refine' Rh.gi_mk KX G ?a; (case a => k_is)
    case g_NAMED => refine' Rh.gi_mk KX G ?a; (case a => k_is)
    case g_BOTH => refine' Rh.gi_mk KX G ?a; (case a => k_is)
    case g_EITHER => refine' Rh.gi_mk KX G ?a; (case a => k_is)
    case g_OPPOSITE => refine' Rh.gi_mk KX G ?a; (case a => k_is)
    case g_SOME => refine' Rh.gi_mk KX G ?a; (case a => k_is)
    case g_EACH => refine' Rh.gi_mk KX G ?a; (case a => k_is)
    case g_PART_COUNTS => refine' Rh.gt_mk KX G ?e ?l ?c ?d ?z ?v; (case e => k_is); (case l => k_is); (case c => rfl); (case d => rfl); (case z => decide); (case v => repeat (first | exact .nil | refine .cons ⟨_, rfl⟩ ?_))
    case g_WITH_A_SIGN => refine' Rh.gt_mk KX G ?e ?l ?c ?d ?z ?v; (case e => k_is); (case l => k_is); (case c => rfl); (case d => rfl); (case z => decide); (case v => repeat (first | exact .nil | refine .cons ⟨_, rfl⟩ ?_))
    case g_HIGHEST_SIGN => refine' Rh.gi_mk KX G ?a; (case a => k_is)
    case g_ROLE_COUNT => refine' Rh.gi_mk KX G ?a; (case a => k_is)
    case g_FORWARD_ROLE_COUNT => refine' Rh.gi_mk KX G ?a; (case a => k_is)
    case g_BEGINS => refine' Rh.gi_mk KX G ?a; (case a => k_is)
    case g_LINE => refine' Rh.gi_mk KX G ?a; (case a => k_is)
    case g_ROLE => refine' Rh.gi_mk KX G ?a; (case a => k_is)
    case g_CAN => refine' Rh.gi_mk KX G ?a; (case a => k_is)
    case g_UNDER => refine' Rh.gi_mk KX G ?a; (case a => k_is)
    case g_MODEL => refine' Rh.gi_mk KX G ?a; (case a => k_is)
    case g_ROLES => refine' Rh.gi_mk KX G ?a; (case a => k_is)
    case g_NAMES => refine' Rh.gi_mk KX G ?a; (case a => k_is)
    case g_WRONG_FORM => refine' Rh.gi_mk KX G ?a; (case a => k_is)
    case g_NO_MODEL => refine' Rh.gi_mk KX G ?a; (case a => k_is)
    case g_TOO_MANY => refine' Rh.gi_mk KX G ?a; (case a => k_is)
    case g_MOST_AXIOMS => refine' Rh.gi_mk KX G ?a; (case a => k_is)
    case g_MOST_ATOMS => refine' Rh.gi_mk KX G ?a; (case a => k_is)
    case g_MOST_ROLES_TOLD => refine' Rh.gi_mk KX G ?a; (case a => k_is)
    case cl_Kinds => refine' ⟨?pg, ?hd, ?po, ?sa⟩; (case pg => k_is); (case hd => k_is); (case po => k_is); (case sa => k_is)
    case cl_House => refine' ⟨?pg, ?hd, ?po, ?sa⟩; (case pg => k_is); (case hd => k_is); (case po => k_is); (case sa => k_is)
    case nk_atoms => unfold L2.NoAttr; k_is
    case nk_over => unfold L2.NoAttr; k_is
    case nk_every_kind => unfold L2.NoAttr; k_is
    case nk_some_bits => unfold L2.NoAttr; k_is
    case nk_each_bits => unfold L2.NoAttr; k_is
    case nk_role_bits => unfold L2.NoAttr; k_is
    case nk_shown_bits => unfold L2.NoAttr; k_is
    case nk_possible => unfold L2.NoAttr; k_is
    case nh_axioms => unfold L2.NoAttr; k_is
    case nh_told => unfold L2.NoAttr; k_is
    case b_len => refine' Rh.gb_mk KX G ?a; (case a => k_is)
    case b_range => refine' Rh.gb_mk KX G ?a; (case a => k_is)
    case b_tuple => refine' Rh.gb_mk KX G ?a; (case a => k_is)
    case b_list => refine' Rh.gb_mk KX G ?a; (case a => k_is)
    case b_reversed => refine' Rh.gb_mk KX G ?a; (case a => k_is)
    case b_sorted => refine' Rh.gb_mk KX G ?a; (case a => k_is)
    case b_sum => refine' Rh.gb_mk KX G ?a; (case a => k_is)
    case b_set => refine' Rh.gb_mk KX G ?a; (case a => k_is)
    case b_enumerate => refine' Rh.gb_mk KX G ?a; (case a => k_is)
    case g_head_length => refine' Rh.gdef_mk KX G ?a ?l ?c ?k; (case a => k_is); (case l => k_is); (case c => k_is); (case k => k_is)
    case g_concept_end => refine' Rh.gdef_mk KX G ?a ?l ?c ?k; (case a => k_is); (case l => k_is); (case c => k_is); (case k => k_is)
    case g_split_concepts => refine' Rh.gdef_mk KX G ?a ?l ?c ?k; (case a => k_is); (case l => k_is); (case c => k_is); (case k => k_is)
    case g_parts_of => refine' Rh.gdef_mk KX G ?a ?l ?c ?k; (case a => k_is); (case l => k_is); (case c => k_is); (case k => k_is)
    case g_atoms_of => refine' Rh.gdef_mk KX G ?a ?l ?c ?k; (case a => k_is); (case l => k_is); (case c => k_is); (case k => k_is)
    case g_bit_is_set => refine' Rh.gdef_mk KX G ?a ?l ?c ?k; (case a => k_is); (case l => k_is); (case c => k_is); (case k => k_is)
    case g_part_holds => refine' Rh.gdef_mk KX G ?a ?l ?c ?k; (case a => k_is); (case l => k_is); (case c => k_is); (case k => k_is)
    case g_holds => refine' Rh.gdef_mk KX G ?a ?l ?c ?k; (case a => k_is); (case l => k_is); (case c => k_is); (case k => k_is)
    case g_turned => refine' Rh.gdef_mk KX G ?a ?l ?c ?k; (case a => k_is); (case l => k_is); (case c => k_is); (case k => k_is)
    case g_roles_over => refine' Rh.gdef_mk KX G ?a ?l ?c ?k; (case a => k_is); (case l => k_is); (case c => k_is); (case k => k_is)
    case g_all_roles_over => refine' Rh.gdef_mk KX G ?a ?l ?c ?k; (case a => k_is); (case l => k_is); (case c => k_is); (case k => k_is)
    case g_bits_of => refine' Rh.gdef_mk KX G ?a ?l ?c ?k; (case a => k_is); (case l => k_is); (case c => k_is); (case k => k_is)
    case g_Kinds_bits_by_role => refine' Rh.gmeth_mk ?a ?i ?l ?c ?k; (case a => k_is); (case i => k_is); (case l => k_is); (case c => k_is); (case k => k_is)
    case g_Kinds_truths => refine' Rh.gmeth_mk ?a ?i ?l ?c ?k; (case a => k_is); (case i => k_is); (case l => k_is); (case c => k_is); (case k => k_is)
    case g_Kinds_all_shown_bits => refine' Rh.gmeth_mk ?a ?i ?l ?c ?k; (case a => k_is); (case i => k_is); (case l => k_is); (case c => k_is); (case k => k_is)
    case g_Kinds_owed_bits => refine' Rh.gmeth_mk ?a ?i ?l ?c ?k; (case a => k_is); (case i => k_is); (case l => k_is); (case c => k_is); (case k => k_is)
    case g_Kinds_lets => refine' Rh.gmeth_mk ?a ?i ?l ?c ?k; (case a => k_is); (case i => k_is); (case l => k_is); (case c => k_is); (case k => k_is)
    case g_Kinds_fits => refine' Rh.gmeth_mk ?a ?i ?l ?c ?k; (case a => k_is); (case i => k_is); (case l => k_is); (case c => k_is); (case k => k_is)
    case g_Kinds_owed_places => refine' Rh.gmeth_mk ?a ?i ?l ?c ?k; (case a => k_is); (case i => k_is); (case l => k_is); (case c => k_is); (case k => k_is)
    case g_Kinds_bearer => refine' Rh.gmeth_mk ?a ?i ?l ?c ?k; (case a => k_is); (case i => k_is); (case l => k_is); (case c => k_is); (case k => k_is)
    case g_Kinds_borne_out => refine' Rh.gmeth_mk ?a ?i ?l ?c ?k; (case a => k_is); (case i => k_is); (case l => k_is); (case c => k_is); (case k => k_is)
    case g_Kinds_keeping => refine' Rh.gmeth_mk ?a ?i ?l ?c ?k; (case a => k_is); (case i => k_is); (case l => k_is); (case c => k_is); (case k => k_is)
    case g_Kinds_largest_borne_out => refine' Rh.gmeth_mk ?a ?i ?l ?c ?k; (case a => k_is); (case i => k_is); (case l => k_is); (case c => k_is); (case k => k_is)
    case g_Kinds_having => refine' Rh.gmeth_mk ?a ?i ?l ?c ?k; (case a => k_is); (case i => k_is); (case l => k_is); (case c => k_is); (case k => k_is)
    case g_Kinds_steps => refine' Rh.gmeth_mk ?a ?i ?l ?c ?k; (case a => k_is); (case i => k_is); (case l => k_is); (case c => k_is); (case k => k_is)
    case g_Kinds_names_sum => refine' Rh.gmeth_mk ?a ?i ?l ?c ?k; (case a => k_is); (case i => k_is); (case l => k_is); (case c => k_is); (case k => k_is)
    case g_Kinds_allows => refine' Rh.gmeth_mk ?a ?i ?l ?c ?k; (case a => k_is); (case i => k_is); (case l => k_is); (case c => k_is); (case k => k_is)
    case g_Kinds_name_under => refine' Rh.gmeth_mk ?a ?i ?l ?c ?k; (case a => k_is); (case i => k_is); (case l => k_is); (case c => k_is); (case k => k_is)
    case g_ways_of_step => refine' Rh.gdef_mk KX G ?a ?l ?c ?k; (case a => k_is); (case l => k_is); (case c => k_is); (case k => k_is)
    case g_told_things => refine' Rh.gdef_mk KX G ?a ?l ?c ?k; (case a => k_is); (case l => k_is); (case c => k_is); (case k => k_is)
    case g_told_ways => refine' Rh.gdef_mk KX G ?a ?l ?c ?k; (case a => k_is); (case l => k_is); (case c => k_is); (case k => k_is)
    case g_told_model => refine' Rh.gdef_mk KX G ?a ?l ?c ?k; (case a => k_is); (case l => k_is); (case c => k_is); (case k => k_is)
    case g_House_atoms_with => refine' Rh.gmeth_mk ?a ?i ?l ?c ?k; (case a => k_is); (case i => k_is); (case l => k_is); (case c => k_is); (case k => k_is)
    case g_House_refusal => refine' Rh.gmeth_mk ?a ?i ?l ?c ?k; (case a => k_is); (case i => k_is); (case l => k_is); (case c => k_is); (case k => k_is)
    case g_House_kinds_with => refine' Rh.gmeth_mk ?a ?i ?l ?c ?k; (case a => k_is); (case i => k_is); (case l => k_is); (case c => k_is); (case k => k_is)
    case g_House_begins => refine' Rh.gmeth_mk ?a ?i ?l ?c ?k; (case a => k_is); (case i => k_is); (case l => k_is); (case c => k_is); (case k => k_is)
    case g_House_line => refine' Rh.gmeth_mk ?a ?i ?l ?c ?k; (case a => k_is); (case i => k_is); (case l => k_is); (case c => k_is); (case k => k_is)
    case g_House_role => refine' Rh.gmeth_mk ?a ?i ?l ?c ?k; (case a => k_is); (case i => k_is); (case l => k_is); (case c => k_is); (case k => k_is)
    case g_House_can => refine' Rh.gmeth_mk ?a ?i ?l ?c ?k; (case a => k_is); (case i => k_is); (case l => k_is); (case c => k_is); (case k => k_is)
    case g_House_under => refine' Rh.gmeth_mk ?a ?i ?l ?c ?k; (case a => k_is); (case i => k_is); (case l => k_is); (case c => k_is); (case k => k_is)
    case g_House_model => refine' Rh.gmeth_mk ?a ?i ?l ?c ?k; (case a => k_is); (case i => k_is); (case l => k_is); (case c => k_is); (case k => k_is)
    case g_House_roles => refine' Rh.gmeth_mk ?a ?i ?l ?c ?k; (case a => k_is); (case i => k_is); (case l => k_is); (case c => k_is); (case k => k_is)
    case g_House_names => refine' Rh.gmeth_mk ?a ?i ?l ?c ?k; (case a => k_is); (case i => k_is); (case l => k_is); (case c => k_is); (case k => k_is)
    case g_call_end => refine' Rh.gdef_mk KX G ?a ?l ?c ?k; (case a => k_is); (case l => k_is); (case c => k_is); (case k => k_is)
    case g_answer => refine' Rh.gdef_mk KX G ?a ?l ?c ?k; (case a => k_is); (case l => k_is); (case c => k_is); (case k => k_is)
    case g_answers => refine' Rh.gdef_mk KX G ?a ?l ?c ?k; (case a => k_is); (case l => k_is); (case c => k_is); (case k => k_is)
  case S =>
    intro K H xs a hO hwi hask hx
    cases hx with
    | cons h1 h2 =>
      cases h2
      cases h1 with
      | lst hs ha =>
        have e := L2.ints_dw a.1 _ ha
        subst e
        exact ⟨_, a.1, rfl, hs, hask, fun H' p _ hp => .lst (L2.SqL.of hp) (L2.dw_ints _)⟩

