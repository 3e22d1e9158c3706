import PyProof.Rows.All
import Wide.All
import OpenK.AllK
import Wide.FinOn
import PyProof.EqAt
import PyProof.EqKinds
import PyProof.TupleCall
import Open.SpecLaws
import KE.OsGo
import HandS.ForSpec
import HandS.ForMost
import HandS.Walk
import HandS.Deep
import PySem.Challenge.RW_netmeeting_s02_meets
set_option Elab.async false
set_option linter.all false
set_option maxRecDepth 100000
set_option maxHeartbeats 4000000
namespace NM
open Ks536 (Net)
abbrev Links := List (Nat × Nat)
abbrev ERow := List (Nat × Nat)
abbrev Exits := List ERow

/-! ### lists -/
theorem snoc_ind {α : Type} {P : List α → Prop} (h0 : P []) (hs : ∀ l x, P l → P (l ++ [x])) : ∀ l, P l := by
  intro l
  have h : ∀ m : List α, P m.reverse := by
    intro m
    induction m with
    | nil => exact h0
    | cons x r ih => rw [List.reverse_cons]; exact hs _ _ ih
  have := h l.reverse
  rwa [List.reverse_reverse] at this
theorem nodup_len_le {α : Type} [BEq α] [LawfulBEq α] : ∀ (l m : List α), l.Nodup → (∀ x ∈ l, x ∈ m) → l.length ≤ m.length
  | [], _, _, _ => Nat.zero_le _
  | x :: r, m, hn, hs => by
    have hx : x ∈ m := hs x List.mem_cons_self
    have h1 := List.nodup_cons.mp hn
    have ih := nodup_len_le r (m.erase x) h1.2 (fun y hy => by
      refine (List.mem_erase_of_ne ?_).mpr (hs y (List.mem_cons_of_mem _ hy))
      intro e
      exact h1.1 (e ▸ hy))
    rw [List.length_erase_of_mem hx] at ih
    have : 0 < m.length := List.length_pos_of_mem hx
    rw [List.length_cons]
    omega
theorem nodup_lt {l : List Nat} {n : Nat} (h : l.Nodup) (hl : ∀ x ∈ l, x < n) : l.length ≤ n := by
  have := nodup_len_le l (List.range n) h (fun x hx => List.mem_range.mpr (hl x hx))
  rwa [List.length_range] at this
theorem take_more {α : Type} {l : List α} {i : Nat} {x : α} (h : l[i]? = some x) : l.take (i + 1) = l.take i ++ [x] := by
  rw [List.take_add_one, h]; rfl

/-! ### links -/
def pairs2 : List Nat → Links
  | a :: b :: r => (a, b) :: pairs2 r
  | _ => []
theorem linksOf_even : ∀ l : List Nat, l.length % 2 = 0 → Ks536.linksOf l = some (pairs2 l)
  | [], _ => rfl
  | [_], h => by simp at h
  | a :: b :: r, h => by
    have ih := linksOf_even r (by simp at h; omega)
    show (Ks536.linksOf r).map _ = _
    rw [ih]; rfl
theorem linksOf_odd : ∀ l : List Nat, l.length % 2 = 1 → Ks536.linksOf l = none
  | [], h => by simp at h
  | [_], _ => rfl
  | a :: b :: r, h => by
    have ih := linksOf_odd r (by simp at h; omega)
    show (Ks536.linksOf r).map _ = _
    rw [ih]; rfl
theorem pairs2_len : ∀ l : List Nat, (pairs2 l).length = l.length / 2
  | [] => rfl
  | [_] => by simp [pairs2]
  | a :: b :: r => by
    have ih := pairs2_len r
    simp only [pairs2, List.length_cons, ih]
    omega
theorem pairs2_at : ∀ (l : List Nat) (i : Nat), 2 * i + 1 < l.length → (pairs2 l)[i]? = some (l.getD (2 * i) 0, l.getD (2 * i + 1) 0)
  | [], i, h => by simp at h
  | [_], i, h => by simp at h
  | a :: b :: r, 0, h => rfl
  | a :: b :: r, i + 1, h => by
    have ih := pairs2_at r i (by simp at h; omega)
    simp only [pairs2, List.getElem?_cons_succ, ih]
    rfl
/-- the link's loop: told, then the rest -/
def okL (n : Nat) : Links → Links → Bool
  | _, [] => true
  | told, (a, b) :: r => if a ≥ n ∨ b ≥ n ∨ a = b ∨ (a, b) ∈ told then false else okL n (told ++ [(a, b), (b, a)]) r
def sameL (p q : Nat × Nat) : Prop := (p.1 = q.1 ∧ p.2 = q.2) ∨ (p.1 = q.2 ∧ p.2 = q.1)
def goodL (n : Nat) (ls : Links) : Prop := ∀ p ∈ ls, p.1 < n ∧ p.2 < n ∧ p.1 ≠ p.2
theorem okL_iff (n : Nat) : ∀ (ls told : Links), okL n told ls = true ↔ goodL n ls ∧ (∀ p ∈ ls, p ∉ told) ∧ ls.Pairwise (fun p q => ¬ sameL p q)
  | [], told => by simp [okL, goodL]
  | (a, b) :: r, told => by
    rw [okL]
    by_cases h : a ≥ n ∨ b ≥ n ∨ a = b ∨ (a, b) ∈ told
    · rw [if_pos h]
      constructor
      · intro q; cases q
      · rintro ⟨h1, h2, h3⟩
        have z := h1 (a, b) List.mem_cons_self
        have z2 := h2 (a, b) List.mem_cons_self
        simp only at z
        rcases h with h | h | h | h
        · omega
        · omega
        · exact absurd h z.2.2
        · exact absurd h z2
    · rw [if_neg h, okL_iff n r]
      simp only [not_or] at h
      obtain ⟨h1, h2, h3, h4⟩ := h
      rw [List.pairwise_cons]
      constructor
      · rintro ⟨g1, g2, g3⟩
        refine ⟨?_, ?_, ?_, g3⟩
        · intro p hp
          rcases List.mem_cons.mp hp with e | hp
          · subst e; exact ⟨by omega, by omega, h3⟩
          · exact g1 p hp
        · intro p hp
          rcases List.mem_cons.mp hp with e | hp
          · subst e; exact h4
          · intro z; exact g2 p hp (List.mem_append_left _ z)
        · intro q hq z
          refine g2 q hq (List.mem_append_right _ ?_)
          obtain ⟨x, y⟩ := q
          rcases z with ⟨z1, z2⟩ | ⟨z1, z2⟩
          · simp only at z1 z2; subst z1 z2; simp
          · simp only at z1 z2; subst z1 z2; simp
      · rintro ⟨g1, g2, g3, g4⟩
        refine ⟨fun p hp => g1 p (List.mem_cons_of_mem _ hp), ?_, g4⟩
        intro p hp z
        rcases List.mem_append.mp z with z | z
        · exact g2 p (List.mem_cons_of_mem _ hp) z
        · have q := g3 p hp
          simp only [List.mem_cons, List.not_mem_nil, or_false] at z
          rcases z with z | z
          · subst z; exact q (.inl ⟨rfl, rfl⟩)
          · subst z; exact q (.inr ⟨rfl, rfl⟩)
theorem spec_pairs (ls : Links) : ((List.range ls.length).all (fun i => (List.range ls.length).all fun j => i == j || match ls[i]?, ls[j]? with
  | some p, some q => !((p.1 == q.1 && p.2 == q.2) || (p.1 == q.2 && p.2 == q.1))
  | _, _ => true)) = true ↔ ls.Pairwise (fun p q => ¬ sameL p q) := by
  rw [List.all_eq_true]
  rw [List.pairwise_iff_getElem]
  have key : ∀ i j (hi : i < ls.length) (hj : j < ls.length), ((i == j || match ls[i]?, ls[j]? with
    | some p, some q => !((p.1 == q.1 && p.2 == q.2) || (p.1 == q.2 && p.2 == q.1))
    | _, _ => true) = true) ↔ (i = j ∨ ¬ sameL ls[i] ls[j]) := by
    intro i j hi hj
    rw [List.getElem?_eq_getElem hi, List.getElem?_eq_getElem hj]
    simp [sameL]
    omega
  constructor
  · intro h i j hi hj hij
    have h1 := List.all_eq_true.mp (h i (List.mem_range.mpr hi)) j (List.mem_range.mpr hj)
    rcases (key i j hi hj).mp h1 with e | e
    · omega
    · exact e
  · intro h i hi
    rw [List.all_eq_true]
    intro j hj
    have hi' := List.mem_range.mp hi
    have hj' := List.mem_range.mp hj
    refine (key i j hi' hj').mpr ?_
    by_cases e : i = j
    · exact .inl e
    · refine .inr ?_
      rcases Nat.lt_or_gt_of_ne e with z | z
      · exact h i j hi' hj' z
      · intro s
        refine h j i hj' hi' z ?_
        rcases s with ⟨s1, s2⟩ | ⟨s1, s2⟩
        · exact .inl ⟨s1.symm, s2.symm⟩
        · exact .inr ⟨s2.symm, s1.symm⟩
theorem okNet_iff (n : Nat) (ls : Links) : Ks536.okNet ⟨n, ls⟩ = true ↔ (1 ≤ n ∧ n ≤ 7 ∧ ls.length ≤ 10) ∧ okL n [] ls = true ∧ Ks536.joined ⟨n, ls⟩ = true := by
  have hg : (ls.all fun p => decide (p.1 < n) && decide (p.2 < n) && p.1 != p.2) = true ↔ goodL n ls := by
    rw [List.all_eq_true]
    constructor
    · intro h p hp
      have z := h p hp
      simp at z
      exact ⟨z.1.1, z.1.2, z.2⟩
    · intro h p hp
      have z := h p hp
      simp
      exact ⟨⟨z.1, z.2.1⟩, z.2.2⟩
  have hp := spec_pairs ls
  have ho := okL_iff n ls []
  unfold Ks536.okNet
  simp only [Bool.and_eq_true, decide_eq_true_eq, Ks536.NODES, Ks536.LINKS]
  rw [ho]
  simp only [hg]
  constructor
  · rintro ⟨⟨⟨⟨⟨a, b⟩, c⟩, d⟩, e⟩, f⟩
    exact ⟨⟨a, of_decide_eq_true b, of_decide_eq_true c⟩, ⟨d, fun p _ q => by simp at q, hp.mp e⟩, f⟩
  · rintro ⟨⟨a, b, c⟩, ⟨d, _, e⟩, f⟩
    exact ⟨⟨⟨⟨⟨a, decide_eq_true b⟩, decide_eq_true c⟩, d⟩, hp.mpr e⟩, f⟩
end NM
namespace NM
open Ks536 (Net)
/-! ### exits -/
def rowS (t : Net) (u : Nat) : ERow := (Ks536.exits t u).map fun i => (Ks536.end_ t i u, ((Ks536.exits t (Ks536.end_ t i u)).takeWhile fun j => j != i).length)
theorem out_row (t : Net) (u e : Nat) : Ks536.out t u e = (rowS t u)[e]? := by
  unfold Ks536.out rowS
  rw [List.getElem?_map]
  cases (Ks536.exits t u)[e]? with
  | none => rfl
  | some i => rfl
theorem rowS_len (t : Net) (u : Nat) : (rowS t u).length = Ks536.degree t u := by
  unfold rowS Ks536.degree
  rw [List.length_map]
def addL (E : Exits) (p : Nat × Nat) : Exits :=
  let E1 := E.set p.1 (E.getD p.1 [] ++ [(p.2, (E.getD p.2 []).length)])
  E1.set p.2 (E1.getD p.2 [] ++ [(p.1, (E.getD p.1 []).length)])
def exitsM (n : Nat) (ls : Links) : Exits := ls.foldl addL (List.replicate n [])
theorem exits_snoc (n : Nat) (ls : Links) (a b u : Nat) : Ks536.exits ⟨n, ls ++ [(a, b)]⟩ u = Ks536.exits ⟨n, ls⟩ u ++ (if a = u ∨ b = u then [ls.length] else []) := by
  unfold Ks536.exits
  simp only [List.length_append, List.length_cons, List.length_nil, Nat.zero_add, List.range_succ, List.filter_append]
  congr 1
  · refine List.filter_congr ?_
    intro i hi
    have h := List.mem_range.mp hi
    rw [List.getElem?_append_left h]
  · rw [List.filter_cons, List.getElem?_append_right (Nat.le_refl _), Nat.sub_self]
    by_cases h : a = u ∨ b = u
    · rw [if_pos h]
      have : (a == u || b == u) = true := by simpa using h
      simp [this]
    · rw [if_neg h]
      have : (a == u || b == u) = false := by simpa using h
      simp [this]
theorem exits_lt {t : Net} {u i : Nat} (h : i ∈ Ks536.exits t u) : i < t.links.length := List.mem_range.mp (List.mem_filter.mp h).1
theorem exits_mem {t : Net} {u i : Nat} : i ∈ Ks536.exits t u ↔ ∃ p, t.links[i]? = some p ∧ (p.1 = u ∨ p.2 = u) := by
  unfold Ks536.exits
  rw [List.mem_filter, List.mem_range]
  constructor
  · rintro ⟨h1, h2⟩
    rw [List.getElem?_eq_getElem h1] at h2 ⊢
    exact ⟨_, rfl, by simpa using h2⟩
  · rintro ⟨p, h1, h2⟩
    have h3 : i < t.links.length := by
      rcases Nat.lt_or_ge i t.links.length with h | h
      · exact h
      · rw [List.getElem?_eq_none h] at h1; cases h1
    refine ⟨h3, ?_⟩
    rw [h1]
    simpa using h2
theorem end_mem {t : Net} {u i : Nat} (h : i ∈ Ks536.exits t u) : i ∈ Ks536.exits t (Ks536.end_ t i u) := by
  obtain ⟨p, h1, h2⟩ := exits_mem.mp h
  refine exits_mem.mpr ⟨p, h1, ?_⟩
  unfold Ks536.end_
  rw [h1]
  simp only
  by_cases e : p.1 = u
  · rw [if_pos e]; exact .inr rfl
  · rw [if_neg e]; exact .inl rfl
theorem end_snoc {n : Nat} {ls : Links} {p : Nat × Nat} {i u : Nat} (h : i < ls.length) : Ks536.end_ ⟨n, ls ++ [p]⟩ i u = Ks536.end_ ⟨n, ls⟩ i u := by
  unfold Ks536.end_
  simp only
  rw [List.getElem?_append_left h]
theorem tw_mem {l m : List Nat} {i : Nat} (h : i ∈ l) : ((l ++ m).takeWhile fun j => j != i) = l.takeWhile fun j => j != i := by
  induction l with
  | nil => simp at h
  | cons x r ih =>
    rw [List.cons_append, List.takeWhile_cons, List.takeWhile_cons]
    by_cases e : x = i
    · simp [e]
    · have : i ∈ r := by
        rcases List.mem_cons.mp h with z | z
        · exact absurd z.symm e
        · exact z
      rw [ih this]
theorem tw_all {l : List Nat} {i : Nat} (h : i ∉ l) : ((l ++ [i]).takeWhile fun j => j != i) = l := by
  induction l with
  | nil => simp
  | cons x r ih =>
    have hx : x ≠ i := fun e => h (by simp [e])
    have hr : i ∉ r := fun e => h (List.mem_cons_of_mem _ e)
    rw [List.cons_append, List.takeWhile_cons, ih hr]
    simp [hx]
theorem row_snoc (n : Nat) (ls : Links) (a b u : Nat) (hab : a ≠ b) : rowS ⟨n, ls ++ [(a, b)]⟩ u = rowS ⟨n, ls⟩ u ++ (if a = u then [(b, (rowS ⟨n, ls⟩ b).length)] else if b = u then [(a, (rowS ⟨n, ls⟩ a).length)] else []) := by
  have old : (Ks536.exits ⟨n, ls⟩ u).map (fun i => (Ks536.end_ ⟨n, ls ++ [(a, b)]⟩ i u, ((Ks536.exits ⟨n, ls ++ [(a, b)]⟩ (Ks536.end_ ⟨n, ls ++ [(a, b)]⟩ i u)).takeWhile fun j => j != i).length)) = rowS ⟨n, ls⟩ u := by
    unfold rowS
    refine List.map_congr_left ?_
    intro i hi
    have h1 : i < ls.length := exits_lt hi
    rw [end_snoc h1, exits_snoc, tw_mem (end_mem hi)]
  have lnot : ∀ v, ls.length ∉ Ks536.exits ⟨n, ls⟩ v := fun v h => Nat.lt_irrefl _ (exits_lt h)
  have el : (ls ++ [(a, b)])[ls.length]? = some (a, b) := by rw [List.getElem?_append_right (Nat.le_refl _), Nat.sub_self]; rfl
  rw [show rowS ⟨n, ls ++ [(a, b)]⟩ u = (Ks536.exits ⟨n, ls ++ [(a, b)]⟩ u).map (fun i => (Ks536.end_ ⟨n, ls ++ [(a, b)]⟩ i u, ((Ks536.exits ⟨n, ls ++ [(a, b)]⟩ (Ks536.end_ ⟨n, ls ++ [(a, b)]⟩ i u)).takeWhile fun j => j != i).length)) from rfl]
  rw [exits_snoc n ls a b u, List.map_append, old]
  congr 1
  by_cases h1 : a = u
  · subst h1
    rw [if_pos (.inl rfl), if_pos rfl]
    have e1 : Ks536.end_ ⟨n, ls ++ [(a, b)]⟩ ls.length a = b := by
      unfold Ks536.end_
      simp only [el, if_true]
    simp only [List.map_cons, List.map_nil, e1]
    rw [exits_snoc, if_pos (.inr rfl), tw_all (lnot b), rowS, List.length_map]
  · by_cases h2 : b = u
    · subst h2
      rw [if_pos (.inr rfl), if_neg h1, if_pos rfl]
      have e1 : Ks536.end_ ⟨n, ls ++ [(a, b)]⟩ ls.length b = a := by
        unfold Ks536.end_
        simp only [el, if_neg hab]
      simp only [List.map_cons, List.map_nil, e1]
      rw [exits_snoc, if_pos (.inl rfl), tw_all (lnot a), rowS, List.length_map]
    · rw [if_neg (by intro h; rcases h with h | h; exact h1 h; exact h2 h), if_neg h1, if_neg h2]
      rfl
theorem getD_range {α : Type} {n u : Nat} {f : Nat → α} {d : α} (h : u < n) : ((List.range n).map f).getD u d = f u := by
  rw [List.getD_eq_getElem?_getD, List.getElem?_map, List.getElem?_range h]; rfl
theorem exits_eq (n : Nat) : ∀ ls : Links, goodL n ls → exitsM n ls = (List.range n).map (rowS ⟨n, ls⟩) := by
  refine snoc_ind ?_ ?_
  · intro _
    refine List.ext_getElem? fun i => ?_
    show (List.replicate n [])[i]? = _
    rw [List.getElem?_map, List.getElem?_replicate]
    by_cases h : i < n
    · rw [if_pos h, List.getElem?_range h]; rfl
    · rw [if_neg h, List.getElem?_eq_none (by simp; omega)]; rfl
  · rintro ls ⟨a, b⟩ ih hg
    have g1 : goodL n ls := fun p hp => hg p (List.mem_append_left _ hp)
    obtain ⟨ha, hb, hab⟩ := hg (a, b) (List.mem_append_right _ List.mem_cons_self)
    simp only at ha hb hab
    have e := ih g1
    unfold exitsM at e ⊢
    rw [List.foldl_append, e]
    show addL _ (a, b) = _
    unfold addL
    simp only
    rw [getD_range ha, getD_range hb]
    refine List.ext_getElem? fun i => ?_
    rw [List.getElem?_map]
    have hl : ((List.range n).map (rowS ⟨n, ls⟩)).length = n := by simp
    have eb : (((List.range n).map (rowS ⟨n, ls⟩)).set a (rowS ⟨n, ls⟩ a ++ [(b, (rowS ⟨n, ls⟩ b).length)])).getD b [] = rowS ⟨n, ls⟩ b := by
      rw [List.getD_eq_getElem?_getD, List.getElem?_set_ne hab, List.getElem?_map, List.getElem?_range hb]; rfl
    rw [eb]
    by_cases hi : i < n
    · rw [List.getElem?_range hi]
      show _ = some (rowS ⟨n, ls ++ [(a, b)]⟩ i)
      rw [row_snoc n ls a b i hab]
      by_cases h2 : b = i
      · subst h2
        rw [List.getElem?_set_self (by rw [List.length_set, hl]; exact hb), if_neg hab, if_pos rfl]
      · rw [List.getElem?_set_ne h2]
        by_cases h1 : a = i
        · subst h1
          rw [List.getElem?_set_self (by rw [hl]; exact ha), if_pos rfl]
        · rw [List.getElem?_set_ne h1, List.getElem?_map, List.getElem?_range hi, if_neg h1, if_neg h2, List.append_nil]
          rfl
    · rw [List.getElem?_eq_none (by simp; omega), List.getElem?_eq_none (by simp; omega)]
      rfl
/-- a place of a row is a place of the net -/
theorem row_lt {n : Nat} {ls : Links} (hg : goodL n ls) {u : Nat} {w : Nat × Nat} (h : w ∈ rowS ⟨n, ls⟩ u) : w.1 < n := by
  obtain ⟨i, hi, rfl⟩ := List.mem_map.mp h
  obtain ⟨p, h1, h2⟩ := exits_mem.mp hi
  have hp := hg p (List.mem_of_getElem? h1)
  show Ks536.end_ ⟨n, ls⟩ i u < n
  unfold Ks536.end_
  rw [h1]
  simp only
  split
  · exact hp.2.1
  · exact hp.1
theorem row_len {n : Nat} {ls : Links} {u : Nat} : (rowS ⟨n, ls⟩ u).length ≤ ls.length := by
  rw [rowS_len]
  show ((List.range ls.length).filter _).length ≤ _
  refine Nat.le_trans (List.length_filter_le _ _) ?_
  rw [List.length_range]
  exact Nat.le_refl _
/-! ### a letter -/
theorem go_eq (t : Net) (u x : Nat) : Ks536.go t u x = if x = 0 ∨ (rowS t u).length < x then u else ((rowS t u).getD (x - 1) (0, 0)).1 := by
  cases x with
  | zero => simp [Ks536.go]
  | succ e =>
    show (match Ks536.out t u e with | some p => p.1 | none => u) = _
    rw [out_row]
    by_cases h : e < (rowS t u).length
    · rw [if_neg (by omega), List.getElem?_eq_getElem h, List.getD_eq_getElem?_getD, Nat.add_sub_cancel, List.getElem?_eq_getElem h]
      rfl
    · rw [if_pos (by omega), List.getElem?_eq_none (by omega)]
theorem go_lt {n : Nat} {ls : Links} (hg : goodL n ls) {u : Nat} (hu : u < n) (x : Nat) : Ks536.go ⟨n, ls⟩ u x < n := by
  rw [go_eq]
  by_cases h : x = 0 ∨ (rowS ⟨n, ls⟩ u).length < x
  · rw [if_pos h]; exact hu
  · rw [if_neg h]
    have h2 : x - 1 < (rowS ⟨n, ls⟩ u).length := by omega
    rw [List.getD_eq_getElem?_getD, List.getElem?_eq_getElem h2]
    exact row_lt hg (List.getElem_mem h2)
/-! ### words -/
theorem walk_len (t : Net) : ∀ (w : List Nat) (u : Nat), (Ks536.walk t u w).length = w.length + 1
  | [], _ => rfl
  | x :: r, u => by
    show (Ks536.walk t (Ks536.go t u x) r).length + 1 = _
    rw [walk_len t r]
    rfl
theorem walk_take (t : Net) : ∀ (w : List Nat) (u j : Nat), Ks536.walk t u (w.take j) = (Ks536.walk t u w).take (j + 1)
  | [], _, j => by cases j <;> simp [Ks536.walk]
  | x :: r, u, 0 => by simp [Ks536.walk]
  | x :: r, u, j + 1 => by
    show u :: Ks536.walk t (Ks536.go t u x) (r.take j) = u :: (Ks536.walk t (Ks536.go t u x) r).take (j + 1)
    rw [walk_take t r]
/-- the i-th place -/
def posW (t : Net) (u : Nat) (w : List Nat) (i : Nat) : Nat := (Ks536.walk t u w).getD i 0
theorem walk_last (t : Net) : ∀ (w : List Nat) (u : Nat), (Ks536.walk t u w).getLast? = (Ks536.walk t u w)[w.length]? := by
  intro w u
  rw [List.getLast?_eq_getElem?, walk_len]
  rfl
theorem walk_at (t : Net) (u : Nat) (w : List Nat) {i : Nat} (h : i ≤ w.length) : (Ks536.walk t u w)[i]? = some (posW t u w i) := by
  unfold posW
  rw [List.getD_eq_getElem?_getD, List.getElem?_eq_getElem (by rw [walk_len]; omega)]
  rfl
theorem at_eq (t : Net) (u d : Nat) (w : List Nat) (k : Nat) : Ks537.at_ t u d w k = posW t u w (min (k - d) w.length) := by
  unfold Ks537.at_
  rw [walk_last, List.length_take, walk_take]
  rw [List.getElem?_take_of_lt (by omega), walk_at t u w (by omega)]
  rfl
theorem walk_snoc (t : Net) : ∀ (w : List Nat) (u x : Nat), Ks536.walk t u (w ++ [x]) = Ks536.walk t u w ++ [Ks536.go t (posW t u w w.length) x]
  | [], u, x => rfl
  | y :: r, u, x => by
    show u :: Ks536.walk t (Ks536.go t u y) (r ++ [x]) = u :: (Ks536.walk t (Ks536.go t u y) r ++ [_])
    rw [walk_snoc t r]
    rfl
theorem pos_lt {n : Nat} {ls : Links} (hg : goodL n ls) : ∀ (w : List Nat) (u : Nat), u < n → ∀ x ∈ Ks536.walk ⟨n, ls⟩ u w, x < n
  | [], u, hu, x, hx => by
    have : x = u := by simpa [Ks536.walk] using hx
    omega
  | y :: r, u, hu, x, hx => by
    rcases List.mem_cons.mp (show x ∈ u :: Ks536.walk ⟨n, ls⟩ (Ks536.go ⟨n, ls⟩ u y) r from hx) with e | e
    · omega
    · exact pos_lt hg r _ (go_lt hg hu y) x e
end NM
namespace NM
open Ks536 (Net)
/-! ### distances -/
def stepS (t : Net) (l : List Nat) : List Nat := (List.range t.n).filter fun w => l.contains w || l.any fun u => (List.range (Ks536.degree t u)).any fun e => Ks536.go t u (e + 1) == w
def itS (t : Net) : Nat → List Nat → List Nat
  | 0, l => l
  | k + 1, l => itS t k (stepS t l)
theorem itS_succ (t : Net) : ∀ (k : Nat) (l : List Nat), itS t (k + 1) l = stepS t (itS t k l)
  | 0, _ => rfl
  | k + 1, l => by
    show itS t (k + 1) (stepS t l) = stepS t (itS t k (stepS t l))
    exact itS_succ t k _
def Adj (t : Net) (u w : Nat) : Prop := ∃ p ∈ rowS t u, p.1 = w
theorem go_row {t : Net} {u e : Nat} {p : Nat × Nat} (h : (rowS t u)[e]? = some p) : Ks536.go t u (e + 1) = p.1 := by
  show (match Ks536.out t u e with | some p => p.1 | none => u) = _
  rw [out_row, h]
theorem adj_iff {t : Net} {u w : Nat} : Adj t u w ↔ ((List.range (Ks536.degree t u)).any fun e => Ks536.go t u (e + 1) == w) = true := by
  rw [List.any_eq_true]
  constructor
  · rintro ⟨p, hp, rfl⟩
    obtain ⟨e, he, hq⟩ := List.getElem_of_mem hp
    refine ⟨e, List.mem_range.mpr (by rw [← rowS_len]; exact he), ?_⟩
    rw [go_row (by rw [List.getElem?_eq_getElem he, hq])]
    simp
  · rintro ⟨e, he, h⟩
    have he2 : e < (rowS t u).length := by rw [rowS_len]; exact List.mem_range.mp he
    refine ⟨(rowS t u)[e], List.getElem_mem he2, ?_⟩
    have := go_row (List.getElem?_eq_getElem he2)
    rw [this] at h
    simpa using h
theorem mem_stepS {t : Net} {l : List Nat} {w : Nat} : w ∈ stepS t l ↔ w < t.n ∧ (w ∈ l ∨ ∃ u ∈ l, Adj t u w) := by
  unfold stepS
  rw [List.mem_filter, List.mem_range, Bool.or_eq_true, List.any_eq_true, List.contains_iff_mem]
  constructor
  · rintro ⟨h1, h2⟩
    refine ⟨h1, ?_⟩
    rcases h2 with h | ⟨u, hu, h⟩
    · exact .inl h
    · exact .inr ⟨u, hu, adj_iff.mpr h⟩
  · rintro ⟨h1, h2⟩
    refine ⟨h1, ?_⟩
    rcases h2 with h | ⟨u, hu, h⟩
    · exact .inl h
    · exact .inr ⟨u, hu, adj_iff.mp h⟩
theorem dist_some {t : Net} {v : Nat} : ∀ (k f : Nat) (l : List Nat), k ≤ f → v ∈ itS t k l → (∀ j, j < k → v ∉ itS t j l) → Ks536.dist t f l v = some k
  | 0, f, l, _, h, _ => by
    have h' : l.contains v = true := List.contains_iff_mem.mpr h
    cases f with
    | zero => show (if l.contains v then some 0 else none) = _; rw [if_pos h']
    | succ f => show (if l.contains v then some 0 else _) = _; rw [if_pos h']
  | k + 1, 0, l, hk, _, _ => by omega
  | k + 1, f + 1, l, hk, h, hn => by
    have h' : ¬ l.contains v = true := fun z => hn 0 (by omega) (List.contains_iff_mem.mp z)
    show (if l.contains v then some 0 else (Ks536.dist t f (stepS t l) v).map (· + 1)) = _
    rw [if_neg h', dist_some k f (stepS t l) (by omega) h (fun j hj => hn (j + 1) (by omega))]
    rfl
theorem dist_none {t : Net} {v : Nat} : ∀ (f : Nat) (l : List Nat), (∀ j, v ∉ itS t j l) → Ks536.dist t f l v = none
  | 0, l, h => by
    have h' : ¬ l.contains v = true := fun z => h 0 (List.contains_iff_mem.mp z)
    show (if l.contains v then some 0 else none) = _; rw [if_neg h']
  | f + 1, l, h => by
    have h' : ¬ l.contains v = true := fun z => h 0 (List.contains_iff_mem.mp z)
    show (if l.contains v then some 0 else (Ks536.dist t f (stepS t l) v).map (· + 1)) = _
    rw [if_neg h', dist_none f (stepS t l) (fun j => h (j + 1))]
    rfl
/-- how the search stands: the places reached with how far, «at» the one whose exits are looked at, done of its ways -/
structure BI (t : Net) (s : Nat) (at_ : Nat) (S : List (Nat × Nat)) : Prop where
  nd : (S.map (·.1)).Nodup
  lt : ∀ p ∈ S, p.1 < t.n
  rc : ∀ p ∈ S, p.1 ∈ itS t p.2 [s]
  st : (s, 0) ∈ S
  so : ∀ (i j : Nat) (p q : Nat × Nat), i ≤ j → S[i]? = some p → S[j]? = some q → p.2 ≤ q.2
  nr : ∀ p, S[at_]? = some p → ∀ q ∈ S, q.2 ≤ p.2 + 1
  cl : ∀ (i : Nat) (p : Nat × Nat), i < at_ → S[i]? = some p → ∀ w, Adj t p.1 w → ∃ k, (w, k) ∈ S ∧ k ≤ p.2 + 1
  ix : ∀ (i : Nat) (p : Nat × Nat), S[i]? = some p → p.2 ≤ i
theorem BI.start {t : Net} {s : Nat} (h : s < t.n) : BI t s 0 [(s, 0)] where
  nd := by simp
  lt := fun p hp => by simp at hp; subst hp; exact h
  rc := fun p hp => by simp at hp; subst hp; simp [itS]
  st := by simp
  so := fun i j p q hij hi hj => by
    have e1 := List.mem_of_getElem? hi
    simp at e1; subst e1; exact Nat.zero_le _
  nr := fun p hp q hq => by simp at hq; subst hq; exact Nat.zero_le _
  cl := fun i p hi => by omega
  ix := fun i p hi => by
    have e1 := List.mem_of_getElem? hi
    simp at e1; subst e1; exact Nat.zero_le _
theorem BI.len {t : Net} {s a : Nat} {S : List (Nat × Nat)} (B : BI t s a S) : S.length ≤ t.n := by
  have := nodup_lt B.nd (n := t.n) (fun x hx => by
    obtain ⟨p, hp, rfl⟩ := List.mem_map.mp hx
    exact B.lt p hp)
  rwa [List.length_map] at this
/-- one way looked at -/
def visit1 (d : Nat) (S : List (Nat × Nat)) (w : Nat) : List (Nat × Nat) := if w ∈ S.map (·.1) then S else S ++ [(w, d + 1)]
theorem visit1_mem {d : Nat} {S : List (Nat × Nat)} {w : Nat} {p : Nat × Nat} (h : p ∈ S) : p ∈ visit1 d S w := by
  unfold visit1; split
  · exact h
  · exact List.mem_append_left _ h
theorem visit1_at {d : Nat} {S : List (Nat × Nat)} {w i : Nat} {p : Nat × Nat} (h : S[i]? = some p) : (visit1 d S w)[i]? = some p := by
  unfold visit1; split
  · exact h
  · have hi : i < S.length := by
      rcases Nat.lt_or_ge i S.length with z | z
      · exact z
      · rw [List.getElem?_eq_none z] at h; cases h
    rw [List.getElem?_append_left hi]; exact h
theorem lt_of_at {α : Type} {S : List α} {i : Nat} {p : α} (h : S[i]? = some p) : i < S.length := by
  rcases Nat.lt_or_ge i S.length with z | z
  · exact z
  · rw [List.getElem?_eq_none z] at h; cases h
theorem BI.visit {t : Net} {s a : Nat} {S : List (Nat × Nat)} {u d w : Nat} (B : BI t s a S) (hu : S[a]? = some (u, d)) (hw : Adj t u w) (hlt : w < t.n) :
    BI t s a (visit1 d S w) ∧ (visit1 d S w)[a]? = some (u, d) ∧ ∃ k, (w, k) ∈ visit1 d S w ∧ k ≤ d + 1 := by
  have hU := List.mem_of_getElem? hu
  by_cases hin : w ∈ S.map (·.1)
  · have e : visit1 d S w = S := if_pos hin
    rw [e]
    refine ⟨B, hu, ?_⟩
    obtain ⟨⟨w', k⟩, hp, rfl⟩ := List.mem_map.mp hin
    exact ⟨k, hp, B.nr _ hu _ hp⟩
  · have e : visit1 d S w = S ++ [(w, d + 1)] := if_neg hin
    have hat : (S ++ [(w, d + 1)])[a]? = some (u, d) := by rw [List.getElem?_append_left (lt_of_at hu)]; exact hu
    rw [e]
    refine ⟨?_, hat, d + 1, List.mem_append_right _ List.mem_cons_self, Nat.le_refl _⟩
    have cases' : ∀ {i : Nat} {p : Nat × Nat}, (S ++ [(w, d + 1)])[i]? = some p → S[i]? = some p ∨ (i = S.length ∧ p = (w, d + 1)) := by
      intro i p h
      by_cases hi : i < S.length
      · rw [List.getElem?_append_left hi] at h; exact .inl h
      · rw [List.getElem?_append_right (by omega)] at h
        have z := lt_of_at h
        simp at z
        have e : i - S.length = 0 := z
        rw [e] at h
        refine .inr ⟨by omega, ?_⟩
        exact (Option.some.inj h).symm
    refine ⟨?_, ?_, ?_, List.mem_append_left _ B.st, ?_, ?_, ?_, ?_⟩
    · rw [List.map_append, List.nodup_append]
      refine ⟨B.nd, by simp, ?_⟩
      intro x hx y hy exy
      have hy' : y = w := by simpa using hy
      rw [exy, hy'] at hx
      exact hin hx
    · intro p hp
      rcases List.mem_append.mp hp with h | h
      · exact B.lt p h
      · simp at h; subst h; exact hlt
    · intro p hp
      rcases List.mem_append.mp hp with h | h
      · exact B.rc p h
      · simp at h; subst h
        show w ∈ itS t (d + 1) [s]
        rw [itS_succ]
        exact mem_stepS.mpr ⟨hlt, .inr ⟨u, B.rc _ hU, hw⟩⟩
    · intro i j p q hij hi hj
      rcases cases' hi with h1 | ⟨h1, h1'⟩ <;> rcases cases' hj with h2 | ⟨h2, h2'⟩
      · exact B.so i j p q hij h1 h2
      · subst h2'; exact B.nr _ hu p (List.mem_of_getElem? h1)
      · have := lt_of_at h2; omega
      · subst h1' h2'; exact Nat.le_refl _
    · intro p hp q hq
      rw [hat] at hp
      cases hp
      rcases List.mem_append.mp hq with h | h
      · exact B.nr _ hu q h
      · simp at h; subst h; exact Nat.le_refl _
    · intro i p hi h w' hw'
      have z := lt_of_at hu
      rcases cases' h with h1 | ⟨h1, _⟩
      · obtain ⟨k, hk, hk2⟩ := B.cl i p hi h1 w' hw'
        exact ⟨k, List.mem_append_left _ hk, hk2⟩
      · omega
    · intro i p h
      rcases cases' h with h1 | ⟨h1, h1'⟩
      · exact B.ix i p h1
      · subst h1' h1
        have z := B.ix a _ hu
        have z2 := lt_of_at hu
        show d + 1 ≤ S.length
        have z3 : d ≤ a := z
        omega
theorem BI.next {t : Net} {s a : Nat} {S : List (Nat × Nat)} {u d : Nat} (B : BI t s a S) (hu : S[a]? = some (u, d)) (h : ∀ w, Adj t u w → ∃ k, (w, k) ∈ S ∧ k ≤ d + 1) : BI t s (a + 1) S :=
  { B with
    nr := fun p hp q hq => by
      have h1 := B.nr _ hu q hq
      have h2 := B.so a (a + 1) _ p (by omega) hu hp
      simp only at h1 h2
      omega
    cl := fun i p hi hp w hw => by
      by_cases e : i = a
      · subst e
        rw [hu] at hp
        cases hp
        exact h w hw
      · exact B.cl i p (by omega) hp w hw }
/-- a search at its end -/
structure BD (t : Net) (s : Nat) (S : List (Nat × Nat)) : Prop where
  nd : (S.map (·.1)).Nodup
  lt : ∀ p ∈ S, p.1 < t.n
  yes : ∀ p ∈ S, Ks536.distance t s p.1 = some p.2
  no : ∀ v, v ∉ S.map (·.1) → Ks536.distance t s v = none
  st : (s, 0) ∈ S
  all : ∀ k v, v ∈ itS t k [s] → v ∈ S.map (·.1)
theorem BI.done {t : Net} {s a : Nat} {S : List (Nat × Nat)} (B : BI t s a S) (h : S.length ≤ a) : BD t s S := by
  have all : ∀ (k v : Nat), v ∈ itS t k [s] → ∃ d, d ≤ k ∧ (v, d) ∈ S := by
    intro k
    induction k with
    | zero =>
      intro v hv
      have e : v = s := by simpa [itS] using hv
      subst e
      exact ⟨0, Nat.le_refl _, B.st⟩
    | succ k ih =>
      intro v hv
      rw [itS_succ] at hv
      obtain ⟨_, h2⟩ := mem_stepS.mp hv
      rcases h2 with h2 | ⟨u, hu, h2⟩
      · obtain ⟨d, hd, hm⟩ := ih v h2
        exact ⟨d, by omega, hm⟩
      · obtain ⟨d, hd, hm⟩ := ih u hu
        obtain ⟨i, hi, e⟩ := List.getElem_of_mem hm
        obtain ⟨k', hk, hk2⟩ := B.cl i (u, d) (by omega) (by rw [List.getElem?_eq_getElem hi, e]) v h2
        exact ⟨k', by simp only at hk2; omega, hk⟩
  have uniq : ∀ {v d d' : Nat}, (v, d) ∈ S → (v, d') ∈ S → d = d' := by
    intro v d d' h1 h2
    obtain ⟨i, hi, e1⟩ := List.getElem_of_mem h1
    obtain ⟨j, hj, e2⟩ := List.getElem_of_mem h2
    have : i = j := by
      have hi' : i < (S.map (·.1)).length := by rw [List.length_map]; exact hi
      have hj' : j < (S.map (·.1)).length := by rw [List.length_map]; exact hj
      refine (List.getElem_inj (h₀ := hi') (h₁ := hj') B.nd).mp ?_
      simp [e1, e2]
    subst this
    rw [e1] at e2
    cases e2
    rfl
  refine ⟨B.nd, B.lt, ?_, ?_, B.st, fun k v hv => by obtain ⟨d, _, hm⟩ := all k v hv; exact List.mem_map.mpr ⟨_, hm, rfl⟩⟩
  · rintro ⟨v, d⟩ hp
    refine dist_some d t.n [s] ?_ (B.rc _ hp) ?_
    · obtain ⟨i, hi, e⟩ := List.getElem_of_mem hp
      have z := B.ix i (v, d) (by rw [List.getElem?_eq_getElem hi, e])
      have := B.len
      simp only at z
      omega
    · intro j hj hv
      obtain ⟨d', hd', hm⟩ := all j v hv
      have := uniq hp hm
      omega
  · intro v hv
    refine dist_none t.n [s] ?_
    intro j hj
    obtain ⟨d, _, hm⟩ := all j v hj
    exact hv (List.mem_map.mpr ⟨_, hm, rfl⟩)
theorem joined_iff {t : Net} {S : List (Nat × Nat)} (D : BD t 0 S) : Ks536.joined t = true ↔ S.length = t.n := by
  unfold Ks536.joined
  rw [List.all_eq_true]
  have hl : (S.map (·.1)).length ≤ t.n := nodup_lt D.nd (fun x hx => by
    obtain ⟨p, hp, rfl⟩ := List.mem_map.mp hx
    exact D.lt p hp)
  rw [List.length_map] at hl
  have key : ∀ v, (Ks536.distance t 0 v).isSome = true ↔ v ∈ S.map (·.1) := by
    intro v
    constructor
    · intro h
      refine Decidable.byContradiction fun hn => ?_
      rw [D.no v hn] at h
      cases h
    · intro h
      obtain ⟨p, hp, rfl⟩ := List.mem_map.mp h
      rw [D.yes p hp]
      rfl
  constructor
  · intro h
    have := nodup_len_le (List.range t.n) (S.map (·.1)) List.nodup_range (fun v hv => (key v).mp (h v hv))
    rw [List.length_range, List.length_map] at this
    omega
  · intro h v hv
    refine (key v).mpr (Decidable.byContradiction fun hn => ?_)
    have := nodup_lt (l := v :: S.map (·.1)) (n := t.n) (List.nodup_cons.mpr ⟨hn, D.nd⟩) (fun x hx => by
      rcases List.mem_cons.mp hx with e | e
      · subst e; exact List.mem_range.mp hv
      · obtain ⟨p, hp, rfl⟩ := List.mem_map.mp e
        exact D.lt p hp)
    rw [List.length_cons, List.length_map] at this
    omega
end NM
namespace NP
open PySem PySem.Spec PyProof.Rows L2 NM
/-! ### values and heaps -/
def vN (x : Nat) : V := .int (x : Int)
def vNs (l : List Nat) : List V := l.map vN
theorem vN_inj {a b : Nat} (h : vN a = vN b) : a = b := by
  have := V.int.inj h
  omega
theorem vNs_len (l : List Nat) : (vNs l).length = l.length := List.length_map ..
theorem vNs_at {l : List Nat} {i x : Nat} (h : l[i]? = some x) : (vNs l)[i]? = some (vN x) := by
  unfold vNs
  rw [List.getElem?_map, h]
  rfl
theorem vNs_of {l : List Nat} {i : Nat} {v : V} (h : (vNs l)[i]? = some v) : ∃ x, l[i]? = some x ∧ v = vN x := by
  unfold vNs at h
  rw [List.getElem?_map] at h
  cases e : l[i]? with
  | none => rw [e] at h; cases h
  | some x => rw [e] at h; exact ⟨x, rfl, (Option.some.inj h).symm⟩
theorem pr_get {α β : Type} {F : α → β → Prop} : ∀ {l₁ : List α} {l₂ : List β}, Paired F l₁ l₂ → ∀ {i : Nat} {b : β}, l₂[i]? = some b → ∃ a, l₁[i]? = some a ∧ F a b
  | _, _, .nil, i, b, h => by simp at h
  | _, _, .cons h t, 0, b, e => by
    have e' := Option.some.inj e
    subst e'
    exact ⟨_, rfl, h⟩
  | _, _, .cons h t, i + 1, b, e => pr_get t (i := i) e
theorem pr_getL {α β : Type} {F : α → β → Prop} : ∀ {l₁ : List α} {l₂ : List β}, Paired F l₁ l₂ → ∀ {i : Nat} {a : α}, l₁[i]? = some a → ∃ b, l₂[i]? = some b ∧ F a b
  | _, _, .nil, i, b, h => by simp at h
  | _, _, .cons h t, 0, b, e => by
    have e' := Option.some.inj e
    subst e'
    exact ⟨_, rfl, h⟩
  | _, _, .cons h t, i + 1, b, e => pr_getL t (i := i) e
/-- pairs by places -/
theorem pr_of {α β : Type} {F : α → β → Prop} : ∀ {l₁ : List α} {l₂ : List β}, l₁.length = l₂.length → (∀ (i : Nat) (a : α) (b : β), l₁[i]? = some a → l₂[i]? = some b → F a b) → Paired F l₁ l₂
  | [], [], _, _ => .nil
  | [], _ :: _, h, _ => by simp at h
  | _ :: _, [], h, _ => by simp at h
  | a :: r, b :: s, h, k => .cons (k 0 a b rfl rfl) (pr_of (by simpa using h) fun i x y hx hy => k (i + 1) x y hx hy)
theorem refs_at {ts : List Addr} {i : Nat} {t : Addr} (h : ts[i]? = some t) : (ts.map V.ref)[i]? = some (.ref t) := by
  rw [List.getElem?_map, h]; rfl
theorem refs_of {ts : List Addr} {i : Nat} {v : V} (h : (ts.map V.ref)[i]? = some v) : ∃ t, ts[i]? = some t ∧ v = .ref t := by
  rw [List.getElem?_map] at h
  cases e : ts[i]? with
  | none => rw [e] at h; cases h
  | some x => rw [e] at h; exact ⟨x, rfl, (Option.some.inj h).symm⟩
def TupAt (H : Hp) (t : Addr) (p : Nat × Nat) : Prop := H t = some (.tup [vN p.1, vN p.2])
def PairsAt (H : Hp) (a : Addr) (ls : List (Nat × Nat)) : Prop := ∃ ts : List Addr, H a = some (.lst (ts.map V.ref)) ∧ Paired (TupAt H) ts ls
def ExitsAt (H : Hp) (a : Addr) (E : Exits) : Prop := ∃ rs : List Addr, H a = some (.lst (rs.map V.ref)) ∧ Paired (fun r row => PairsAt H r row) rs E
def ListAt (H : Hp) (a : Addr) (l : List Nat) : Prop := H a = some (.lst (vNs l))
theorem same_new {H : Hp} {p : Addr} {o : HO} (h : H p = none) : Same H (upd H p o) := fun b x e => by
  rw [upd_ne (ne_of_none e h)]
  exact e
theorem Same.pairs {H H' : Hp} {a : Addr} {ls : List (Nat × Nat)} (s : Same H H') (h : PairsAt H a ls) : PairsAt H' a ls := by
  obtain ⟨ts, h1, h2⟩ := h
  exact ⟨ts, s _ _ h1, L2.Paired.mapP h2 fun _ _ z => s _ _ z⟩
theorem Same.exits {H H' : Hp} {a : Addr} {E : Exits} (s : Same H H') (h : ExitsAt H a E) : ExitsAt H' a E := by
  obtain ⟨ts, h1, h2⟩ := h
  exact ⟨ts, s _ _ h1, L2.Paired.mapP h2 fun _ _ z => Same.pairs s z⟩
theorem sz (n : Nat) (h : n ≤ 1000) : n < sizeLine := small1000 h
theorem szl (n : Nat) (h : n ≤ 1000) : n ≤ sizeLine := Nat.le_of_lt (small1000 h)
/-- the i-th row of the exits, as a list in the heap -/
theorem ExitsAt.row {K : PySem.W.Frag} {H : Hp} {a : Addr} {E : Exits} (h : ExitsAt H a E) {i : Nat} {row : ERow} (e : E[i]? = some row) : ∃ (rs : List Addr) (r : Addr), SqL K H a (rs.map V.ref) ∧ rs.length = E.length ∧ rs[i]? = some r ∧ PairsAt H r row := by
  obtain ⟨rs, h1, h2⟩ := h
  obtain ⟨r, hr, hp⟩ := pr_get h2 e
  exact ⟨rs, r, SqL.of h1, Paired.length h2, hr, hp⟩
theorem atI_z {xs : List V} {i : Nat} {v : V} (h : xs[i]? = some v) : atI xs ((i : Nat) : Int) = some v := atI_nat h
end NP
namespace NP
open PySem PySem.Spec PyProof.Rows L2 NM
def top (i : Nat) : Stmt := PySem.Challenge.pw_netmeeting_s02_meets.main.body.getD i (.Pass ⟨0, 0, 0, 0⟩)
abbrev sMeets : Stmt := top 9
abbrev sRefusal : Stmt := top 10
abbrev sIsNet : Stmt := top 11
abbrev sLinks : Stmt := top 12
abbrev sAre : Stmt := top 13
abbrev sExits : Stmt := top 14
abbrev sHangs : Stmt := top 15
abbrev sDist : Stmt := top 16
abbrev sBehind : Stmt := top 17
abbrev sPlaces : Stmt := top 18
abbrev sPlaceAt : Stmt := top 19
end NP
namespace NP
open PySem PySem.Spec PyProof.Rows L2 NM
/-! ### links_of -/
theorem scLinks : FnScope ["net", "k"] ["net"] (defScope sLinks) := ⟨rfl, rfl, rfl, by decide +kernel, rfl, by decide +kernel, by decide +kernel⟩
def spLinks (K : PySem.W.Frag) : Sp := fun vs H Q _ => ∃ (a : Addr) (l : List Nat), vs = [.ref a] ∧ SqL K H a (vNs l) ∧ l.length % 2 = 0 ∧ l.length ≤ 24 ∧
  ∀ H' p, Same H H' → H p = none → PairsAt H' p (pairs2 l) → Q (.ref p) H'
theorem rg2 {m : Nat} (h : m % 2 = 0) (h24 : m ≤ 24) : RgC 0 (m : Int) 2 (m / 2) := by
  have h2 : Builtin.Range.small 0 (m : Int) 2 = true := by
    obtain ⟨k, rfl⟩ : ∃ k, m = 2 * k := ⟨m / 2, by omega⟩
    have : k = 0 ∨ k = 1 ∨ k = 2 ∨ k = 3 ∨ k = 4 ∨ k = 5 ∨ k = 6 ∨ k = 7 ∨ k = 8 ∨ k = 9 ∨ k = 10 ∨ k = 11 ∨ k = 12 := by omega
    rcases this with h | h | h | h | h | h | h | h | h | h | h | h | h <;> subst h <;> decide +kernel
  have h3 : Builtin.Range.rangeSize 0 (m : Int) 2 = ((m / 2 : Nat) : Int) := by
    obtain ⟨k, rfl⟩ : ∃ k, m = 2 * k := ⟨m / 2, by omega⟩
    have : k = 0 ∨ k = 1 ∨ k = 2 ∨ k = 3 ∨ k = 4 ∨ k = 5 ∨ k = 6 ∨ k = 7 ∨ k = 8 ∨ k = 9 ∨ k = 10 ∨ k = 11 ∨ k = 12 := by omega
    rcases this with h | h | h | h | h | h | h | h | h | h | h | h | h <;> subst h <;> decide +kernel
  exact ⟨by decide, by decide, h2, h3⟩
section
variable {P : Program} {w : World} {K : PySem.W.Frag} {mg : Str → Option Value} {base : Heap}
theorem ok_links {f : Addr} {fd : FuncData} (F : Fun K "links_of" "links_of" sLinks f fd) (mr : mg "range" = none) (ml : mg "len" = none) : FnOk P w K mg base CX0 1 f fd ["net"] (spLinks K) := by
  refine F.ok scLinks (fun vs H Q E h => ?_) (fun cdv A outer s H vs Q E hr h => ?_)
  · obtain ⟨a, l, rfl, _⟩ := h
    rfl
  · obtain ⟨a, l, rfl, hS, hev, hlen, q⟩ := h
    refine ⟨_, pss_one (ps_ret (pe_lc (own := [("k", 1)]) (g := gName 1) (tt := tYes) (te := tTup (tCons (tOp (rIxL K) (tVar 0) (tVar 1)) (tCons (tOp (rIxL K) (tVar 0) (tOp (rI0 fun i j => .int (i + j)) (tVar 1) (tC (.int 1)))) tNil))) rfl scLinks.nd
      (pi_range3 rfl mr (pa_cons pe_int (pa_cons (pe_callB call_len_seq (by rfl) ml PySem.boot_len (pa_cons (pv 0) pa_nil)) (pa_cons pe_int pa_nil))))
      (blkOk_by (N := ["net", "k"]) (sc := defScope sLinks) (by decide +kernel))
      (fun _ _ _ _ _ => pg_name (i := 1) scLinks.nd rfl (Or.inl rfl)) (fun _ _ _ _ _ => pts_nil)
      (fun _ _ _ _ _ => pe_tup (pa_cons (pe_ix ix_list (pv 0) (pv 1) (fun _ _ => rfl)) (pa_cons (pe_ix ix_list (pv 0) (pe_op op_add (pv 1) pe_int) (fun _ _ => rfl)) pa_nil))))), ?_⟩
    refine ⟨_, rfl, a, _, rfl, .inl hS, 0, _, 2, l.length / 2, rfl, ?_, fun D hD => ?_⟩
    · rw [vNs_len]
      exact rg2 hev hlen
    · refine lc_it walk_rangeC (fun i Hc => ∃ ts : List Addr, Same H Hc ∧ Hc D = some (.lst (ts.map V.ref)) ∧ Paired (TupAt Hc) ts ((pairs2 l).take i)) ?_ (fun _ _ _ _ => trivial) ?_ ?_
      · exact ⟨[], same_new hD, upd_same, .nil⟩
      · rintro i x Hc H' hi ⟨ts, sm, hd, hp⟩ ⟨rfl, rfl⟩
        refine ⟨rfl, ?_⟩
        have hS' : SqL K H' a (vNs l) := sm.seq hS
        have e1 : l[2 * i]? = some (l.getD (2 * i) 0) := by rw [List.getD_eq_getElem?_getD, List.getElem?_eq_getElem (by omega)]; rfl
        have e2 : l[2 * i + 1]? = some (l.getD (2 * i + 1) 0) := by rw [List.getD_eq_getElem?_getD, List.getElem?_eq_getElem (by omega)]; rfl
        refine ⟨_, rfl, _, rfl, a, _, _, vN (l.getD (2 * i) 0), rfl, rfl, hS', at_of (j := 2 * i) (by omega) (vNs_at e1), ?_⟩
        refine ⟨_, rfl, _, rfl, _, _, rfl, rfl, a, _, _, vN (l.getD (2 * i + 1) 0), rfl, rfl, hS', at_of (j := 2 * i + 1) (by omega) (vNs_at e2), ?_⟩
        refine ⟨szl 2 (by omega), fun t ht => ?_⟩
        have nD : D ≠ t := ne_of_none hd ht
        refine ⟨_, by rw [upd_ne nD]; exact hd, ?_, ts ++ [t], ?_, ?_, ?_⟩
        · rw [List.length_map, Paired.length hp, List.length_take]
          have := pairs2_len l
          exact sz _ (by omega)
        · intro b o e
          rw [upd_ne (ne_of_none e hD)]
          exact same_new ht _ _ (sm _ _ e)
        · rw [upd_same, List.map_append]
          rfl
        · rw [take_more (pairs2_at l i (by omega))]
          refine Paired.snoc (L2.Paired.mapP hp fun b p z => ?_) ?_
          · unfold TupAt at z ⊢
            rw [upd_ne (ne_of z hd (fun z => nomatch z)), upd_ne (ne_of_none z ht)]
            exact z
          · unfold TupAt
            rw [upd_ne (Ne.symm nD), upd_same]
      · rintro Hc ⟨ts, sm, hd, hp⟩
        refine q Hc D sm hD ⟨ts, hd, ?_⟩
        rw [List.take_of_length_le (by rw [pairs2_len]; exact Nat.le_refl _)] at hp
        exact hp
end
end NP
namespace NP
open PySem PySem.Spec PyProof.Rows L2 NM
/-! ### are_links -/
theorem scAre : FnScope ["n", "links", "told", "a", "b"] ["n", "links"] (defScope sAre) := ⟨rfl, rfl, rfl, by decide +kernel, rfl, by decide +kernel, by decide +kernel⟩
def spAre : Sp := fun vs H Q _ => ∃ (n : Nat) (p : Addr) (ls : Links), vs = [vN n, .ref p] ∧ PairsAt H p ls ∧ ls.length ≤ 12 ∧ ∀ H', Same H H' → Q (.bl (okL n [] ls)) H'
def toldOf (ls : Links) : Links := ls.flatMap fun p => [(p.1, p.2), (p.2, p.1)]
def kPr (x y : Nat) : List Key := [Sum.inl (x : Int), Sum.inl (y : Int)]
theorem kPr_inj {x y x' y' : Nat} (h : kPr x y = kPr x' y') : x = x' ∧ y = y' := by
  unfold kPr at h
  have h1 := (List.cons.inj h).1
  have h2 := (List.cons.inj (List.cons.inj h).2).1
  have e1 := Sum.inl.inj h1
  have e2 := Sum.inl.inj h2
  exact ⟨by omega, by omega⟩
theorem told_put {kvs : List (List Key × V)} {told : Links} (h : ∀ x y : Nat, (valV kvs (kPr x y)).isSome = decide ((x, y) ∈ told)) (a b : Nat) (v : V) :
    ∀ x y : Nat, (valV (putK kvs (kPr a b) v) (kPr x y)).isSome = decide ((x, y) ∈ told ++ [(a, b)]) := by
  intro x y
  rw [valV_put]
  by_cases e : kPr x y = kPr a b
  · obtain ⟨e1, e2⟩ := kPr_inj e
    subst e1 e2
    simp
  · rw [if_neg e, h x y]
    have : ¬ (x = a ∧ y = b) := fun z => e (by rw [z.1, z.2])
    simp [this]
section
variable {P : Program} {w : World} {K : PySem.W.Frag} {mg : Str → Option Value} {base : Heap}
theorem ok_are {f : Addr} {fd : FuncData} (F : Fun K "are_links" "are_links" sAre f fd) : FnOk P w K mg base CX0 1 f fd ["n", "links"] spAre := by
  refine F.ok scAre (fun vs H Q E h => ?_) (fun cdv A outer s H vs Q E hr h => ?_)
  · obtain ⟨n, p, ls, rfl, _⟩ := h
    rfl
  · obtain ⟨n, p, ls, rfl, ⟨ts, hp, hts⟩, hlen, q⟩ := h
    have hu := hu_of hr
    refine ⟨_, pss_cons (ps_set (i := 2) scAre.nd rfl (Or.inl rfl) pe_dnewT)
      (pss_cons (ps_for PassesOwn.never rfl (pi_list (pv 1)) (pg_tup rfl (pgs_cons (pg_name (i := 3) scAre.nd rfl (Or.inl rfl)) (pgs_cons (pg_name (i := 4) scAre.nd rfl (Or.inl rfl)) pgs_nil)))
        (pss_cons (ps_if (PW.pt (pw_or (pt_cmpR op_ge (pv 3) (pv 0) (nomark _)) (pw_or (pt_cmpR op_ge (pv 4) (pv 0) (nomark _)) (pw_or (pt_cmpR op_eq (pv 3) (pv 4) (nomark _)) (pw_or1 (pt_cmp (pc_din hu (pe_tup (pa_cons (pv 3) (pa_cons (pv 4) pa_nil))) (pv 2)))))))) (pss_one (ps_ret pe_bl)) pss_nil)
        (pss_cons (ps_dput hu (pv 2) (pe_tup (pa_cons (pv 3) (pa_cons (pv 4) pa_nil))) pe_bl rfl)
        (pss_one (ps_dput hu (pv 2) (pe_tup (pa_cons (pv 4) (pa_cons (pv 3) pa_nil))) pe_bl rfl)))))
      (pss_one (ps_ret pe_bl))), ?_⟩
    -- told = {}
    refine fun d hd => ?_
    have s1 : Same H (upd H d (.dT [])) := same_new hd
    refine ⟨_, rfl, p, rfl, ⟨_, SqL.of (s1 _ _ hp)⟩, for_list (K := K) (a := p) (xs := ts.map V.ref) (fun i σ Hc => ∃ x3 x4 kvs, σ = [some (vN n), some (.ref p), some (.ref d), x3, x4] ∧ Same H Hc ∧ Hc d = some (.dT kvs) ∧ kvs.length ≤ 2 * i ∧
      (∀ x y : Nat, (valV kvs (kPr x y)).isSome = decide ((x, y) ∈ toldOf (ls.take i))) ∧ okL n [] ls = okL n (toldOf (ls.take i)) (ls.drop i))
      ⟨none, none, [], rfl, s1, upd_same, Nat.zero_le _, fun x y => by simp [toldOf, valV_nil], rfl⟩ (fun i σ Hc _ ⟨_, _, _, _, sm, _⟩ => SqL.of (sm _ _ hp)) ?_ ?_⟩
    · rintro i v σ Hc hi ⟨x3, x4, kvs, rfl, sm, hdc, hkl, hkv, hok⟩
      obtain ⟨t, ht, rfl⟩ := refs_of hi
      obtain ⟨⟨a, b⟩, hab, htup⟩ := pr_getL hts ht
      have hil : i < ls.length := lt_of_at hab
      have htc : Hc t = some (.tup [vN a, vN b]) := sm _ _ htup
      have hdrop : ls.drop i = (a, b) :: ls.drop (i + 1) := by
        rw [List.drop_eq_getElem_cons hil]
        rw [List.getElem?_eq_getElem hil] at hab
        rw [Option.some.inj hab]
      rw [hdrop, okL] at hok
      refine ⟨t, [vN a, vN b], rfl, SqT.of htc, rfl, vN a, [vN b], rfl, vN b, [], rfl, rfl, ?_⟩
      -- the test
      refine ⟨_, rfl, _, rfl, _, _, rfl, rfl, _, rfl, ite2 (fun e => ?_) (fun e => ?_)⟩
      · -- a >= n
        have e' : (n : Int) ≤ (a : Int) := of_decide_eq_true e
        rw [if_pos (.inl (by omega))] at hok
        have := q Hc sm
        rw [hok] at this
        exact this
      have na : ¬ a ≥ n := fun z => e (decide_eq_true (by omega : (n : Int) ≤ (a : Int)))
      refine ⟨_, rfl, _, rfl, _, _, rfl, rfl, _, rfl, ite2 (fun e2 => ?_) (fun e2 => ?_)⟩
      · have e' : (n : Int) ≤ (b : Int) := of_decide_eq_true e2
        rw [if_pos (.inr (.inl (by omega)))] at hok
        have := q Hc sm
        rw [hok] at this
        exact this
      have nb : ¬ b ≥ n := fun z => e2 (decide_eq_true (by omega : (n : Int) ≤ (b : Int)))
      refine ⟨_, rfl, _, rfl, rfl, _, rfl, ite2 (fun e3 => ?_) (fun e3 => ?_)⟩
      · have e' : vN a = vN b := of_decide_eq_true e3
        rw [if_pos (.inr (.inr (.inl (vN_inj e'))))] at hok
        have := q Hc sm
        rw [hok] at this
        exact this
      have nab : ¬ a = b := fun z => e3 (decide_eq_true (by rw [z]))
      -- (a, b) in told
      refine ⟨_, rfl, _, rfl, szl 2 (by omega), fun t1 ht1 => ?_⟩
      have sm1 : Same Hc (upd Hc t1 (.tup [vN a, vN b])) := same_new ht1
      have hd1 := sm1 _ _ hdc
      have g1 : DGet (upd Hc t1 (.tup [vN a, vN b])) d (.ref t1) (valV kvs (kPr a b)) := DGet.t (k := kPr a b) hd1 upd_same
      refine ⟨_, rfl, d, _, rfl, g1, _, rfl, ?_⟩
      rw [hkv a b]
      refine ite2 (fun e4 => ?_) (fun e4 => ?_)
      · have e4' := of_decide_eq_true e4
        rw [if_pos (.inr (.inr (.inr e4')))] at hok
        have := q _ (sm.trans sm1)
        rw [hok] at this
        exact this
      have nin : ¬ (a, b) ∈ toldOf (ls.take i) := fun z => e4 (decide_eq_true z)
      rw [if_neg (by simp only [not_or]; exact ⟨na, nb, nab, nin⟩)] at hok
      -- told[a, b] = True
      refine ⟨_, rfl, _, rfl, _, rfl, szl 2 (by omega), fun t2 ht2 => ?_⟩
      have sm2 : Same (upd Hc t1 (.tup [vN a, vN b])) (upd (upd Hc t1 (.tup [vN a, vN b])) t2 (.tup [vN a, vN b])) := same_new ht2
      refine ⟨d, _, rfl, DPut.t (k := kPr a b) (sm2 _ _ hd1) upd_same (sz _ (by omega)), ?_⟩
      generalize hH2 : upd (upd Hc t1 (.tup [vN a, vN b])) t2 (.tup [vN a, vN b]) = H2
      have hs2 : Same H H2 := by rw [← hH2]; exact sm.trans (sm1.trans sm2)
      -- told[b, a] = True
      refine ⟨_, rfl, _, rfl, _, rfl, szl 2 (by omega), fun t3 ht3 => ?_⟩
      have sm3 : Same (upd H2 d (.dT (putK kvs (kPr a b) (.bl true)))) (upd (upd H2 d (.dT (putK kvs (kPr a b) (.bl true)))) t3 (.tup [vN b, vN a])) := same_new ht3
      have hl1 := length_putK kvs (kPr a b) (.bl true)
      refine ⟨d, _, rfl, DPut.t (k := kPr b a) (sm3 _ _ upd_same) upd_same (sz _ (by omega)), ?_⟩
      have hl2 := length_putK (putK kvs (kPr a b) (.bl true)) (kPr b a) (.bl true)
      have htake : toldOf (ls.take (i + 1)) = toldOf (ls.take i) ++ [(a, b), (b, a)] := by
        rw [take_more hab]
        unfold toldOf
        rw [List.flatMap_append]
        rfl
      refine ⟨some (vN a), some (vN b), _, rfl, ?_, upd_same, by omega, ?_, ?_⟩
      · intro b' o e5
        have nd : b' ≠ d := ne_of_none e5 hd
        have h5 : (upd H2 d (.dT (putK kvs (kPr a b) (.bl true)))) b' = some o := by
          rw [upd_ne nd]
          exact hs2 _ _ e5
        rw [upd_ne nd]
        exact sm3 _ _ h5
      · intro x y
        rw [told_put (told_put hkv a b _) b a _ x y, htake, List.append_assoc]
        rfl
      · rw [hok, htake]
    · rintro σ Hc ⟨x3, x4, kvs, rfl, sm, hdc, hkl, hkv, hok⟩
      have hl : (ts.map V.ref).length = ls.length := by rw [List.length_map, Paired.length hts]
      rw [hl, List.drop_length] at hok
      have := q Hc sm
      rw [hok] at this
      exact this
end
end NP
namespace NP
open PySem PySem.Spec PyProof.Rows L2 NM
/-! ### exits_of -/
theorem scExits : FnScope ["n", "net", "exits", "a", "b", "exit_of_a", "exit_of_b", "place"] ["n", "net"] (defScope sExits) := ⟨rfl, rfl, rfl, by decide +kernel, rfl, by decide +kernel, by decide +kernel⟩
def spExits (K : PySem.W.Frag) : Sp := fun vs H Q _ => ∃ (n : Nat) (a : Addr) (l : List Nat), vs = [vN n, .ref a] ∧ SqL K H a (vNs l) ∧ l.length % 2 = 0 ∧ l.length ≤ 24 ∧ n ≤ 7 ∧ goodL n (pairs2 l) ∧
  ∀ H' p, Same H H' → H p = none → ExitsAt H' p (exitsM n (pairs2 l)) → Q (.ref p) H'
theorem pairs_keep {H H' : Hp} {x : Addr} {ls : List (Nat × Nat)} (h : PairsAt H x ls) (hx : H' x = H x) (ht : ∀ b ys, H b = some (.tup ys) → H' b = some (.tup ys)) : PairsAt H' x ls := by
  obtain ⟨ts, h1, h2⟩ := h
  exact ⟨ts, hx.trans h1, L2.Paired.mapP h2 fun _ _ z => ht _ _ z⟩
theorem rows_append {H : Hp} {rs : List Addr} {E : Exits} {i : Nat} {row : ERow} {r t : Addr} {ts : List Addr} {p : Nat × Nat} (nd : rs.Nodup) (hp : Paired (fun r row => PairsAt H r row) rs E) (hE : E[i]? = some row) (hr : rs[i]? = some r) (ht : H t = none)
    (hrt : H r = some (.lst (ts.map V.ref))) (hts : Paired (TupAt H) ts row) :
    Paired (fun x row => PairsAt (upd (upd H t (.tup [vN p.1, vN p.2])) r (.lst (ts.map V.ref ++ [.ref t]))) x row) rs (E.set i (row ++ [p])) := by
  have nrt : r ≠ t := ne_of_none hrt ht
  have tup : ∀ b ys, H b = some (.tup ys) → (upd (upd H t (.tup [vN p.1, vN p.2])) r (.lst (ts.map V.ref ++ [.ref t]))) b = some (.tup ys) := fun b ys e => by
    rw [upd_ne (ne_of e hrt (fun z => nomatch z)), upd_ne (ne_of_none e ht)]
    exact e
  refine pr_of (by rw [List.length_set, Paired.length hp]) fun j x rw' hx hrw => ?_
  by_cases e : i = j
  · subst e
    rw [hr] at hx
    cases hx
    rw [List.getElem?_set_self (lt_of_at hE)] at hrw
    cases hrw
    refine ⟨ts ++ [t], ?_, Paired.snoc (L2.Paired.mapP hts fun _ _ z => tup _ _ z) ?_⟩
    · rw [upd_same, List.map_append]
      rfl
    · unfold TupAt
      rw [upd_ne (Ne.symm nrt), upd_same]
  · rw [List.getElem?_set_ne e] at hrw
    obtain ⟨x', hx', hpx⟩ := pr_get hp hrw
    rw [hx] at hx'
    cases hx'
    have nx : x ≠ r := fun z => by
      subst z
      exact e (nd_ix nd hr hx)
    refine pairs_keep hpx ?_ tup
    obtain ⟨tx, h1, _⟩ := hpx
    rw [upd_ne nx, upd_ne (ne_of_none h1 ht)]
theorem exitsM_len {n : Nat} {ls : Links} (h : goodL n ls) : (exitsM n ls).length = n := by
  rw [exits_eq n ls h, List.length_map, List.length_range]
theorem exitsM_more {n : Nat} {ls : Links} {i : Nat} {p : Nat × Nat} (h : ls[i]? = some p) : exitsM n (ls.take (i + 1)) = addL (exitsM n (ls.take i)) p := by
  unfold exitsM
  rw [take_more h, List.foldl_append]
  rfl
section
variable {P : Program} {w : World} {K : PySem.W.Frag} {mg : Str → Option Value} {base : Heap}
theorem ok_exits {f fL : Addr} {fd fdL : FuncData} (F : Fun K "exits_of" "exits_of" sExits f fd) (FL : Fun K "links_of" "links_of" sLinks fL fdL) (bL : Binds K fdL ["net"] []) (gL : mg "links_of" = some (.ref fL)) (mr : mg "range" = none) (ml : mg "len" = none) :
    FnOk P w K mg base CX0 2 f fd ["n", "net"] (spExits K) := by
  have GL : FnOk P w K mg base CX0 1 fL fdL ["net"] (spLinks K) := ok_links FL mr ml
  refine F.ok scExits (fun vs H Q E h => ?_) (fun cdv A outer s H vs Q E hr h => ?_)
  · obtain ⟨n, a, l, rfl, _⟩ := h
    rfl
  · obtain ⟨n, a, l, rfl, hS, hev, hlen, hn7, hg, q⟩ := h
    refine ⟨_, pss_cons (ps_setLc (i := 2) (own := [("place", 7)]) (g := gName 7) (tt := tYes) (te := tLst tNil) rfl scExits.nd rfl rfl (sw_true rfl rfl rfl (by decide +kernel))
        (pi_range1 rfl mr (pa_cons (pv 0) pa_nil)) (blkOk_by (N := ["n", "net", "exits", "a", "b", "exit_of_a", "exit_of_b", "place"]) (sc := defScope sExits) (by decide +kernel))
        (fun _ _ _ _ _ => pg_name (i := 7) scExits.nd rfl (Or.inl rfl)) (fun _ _ _ _ _ => pts_nil) (fun _ _ _ _ _ => pe_lst pa_nil))
      (pss_cons (ps_for PassesOwn.never rfl (pi_list (pe_call GL hr rfl gL FL.kp bL .nil pass0 (pa_cons (pv 1) pa_nil))) (pg_tup rfl (pgs_cons (pg_name (i := 3) scExits.nd rfl (Or.inl rfl)) (pgs_cons (pg_name (i := 4) scExits.nd rfl (Or.inl rfl)) pgs_nil)))
        (pss_cons (ps_set (i := 5) scExits.nd rfl (Or.inl rfl) (pe_callB call_len_seq (by rfl) ml PySem.boot_len (pa_cons (pe_ix ix_list (pv 2) (pv 3) (fun _ _ => rfl)) pa_nil)))
        (pss_cons (ps_set (i := 6) scExits.nd rfl (Or.inl rfl) (pe_callB call_len_seq (by rfl) ml PySem.boot_len (pa_cons (pe_ix ix_list (pv 2) (pv 4) (fun _ _ => rfl)) pa_nil)))
        (pss_cons (ps_expr (pe_bm PySem.F.plainAttrs_list PySem.F.slot_list_append PySem.F.type_list_append mt_append (pe_ix ix_list (pv 2) (pv 3) (fun _ _ => rfl)) (pa_cons (pe_tup (pa_cons (pv 4) (pa_cons (pv 6) pa_nil))) pa_nil)))
        (pss_one (ps_expr (pe_bm PySem.F.plainAttrs_list PySem.F.slot_list_append PySem.F.type_list_append mt_append (pe_ix ix_list (pv 2) (pv 4) (fun _ _ => rfl)) (pa_cons (pe_tup (pa_cons (pv 3) (pa_cons (pv 5) pa_nil))) pa_nil))))))))
      (pss_one (ps_ret (pv 2)))), ?_⟩
    refine ⟨_, rfl, (n : Int), rfl, by omega, by omega, fun e he => ?_⟩
    refine lc_range (lo := 0) (n := ((n : Int)).toNat) (fun i Hc => ∃ rs : List Addr, Same H Hc ∧ Hc e = some (.lst (rs.map V.ref)) ∧ rs.length = i ∧ rs.Nodup ∧ (∀ r ∈ rs, H r = none ∧ r ≠ e ∧ Hc r = some (.lst []))) ?_ ?_ ?_
    · exact ⟨[], same_new he, upd_same, rfl, List.nodup_nil, fun r hr => by simp at hr⟩
    · rintro i Hc hi ⟨rs, sm, hec, hl, nd, hrs⟩
      refine ⟨rfl, ?_⟩
      refine ⟨szl 0 (by omega), fun r hr => ⟨rs.map V.ref, ?_, ?_, rs ++ [r], ?_, ?_, ?_, ?_, ?_⟩⟩
      · rw [upd_ne (ne_of_none hec hr)]
        exact hec
      · rw [List.length_map]
        exact sz _ (by omega)
      · intro b o eb
        rw [upd_ne (ne_of_none eb he)]
        exact same_new hr _ _ (sm _ _ eb)
      · rw [upd_same, List.map_append]
        rfl
      · rw [List.length_append, hl]
        rfl
      · rw [List.nodup_append]
        refine ⟨nd, by simp, fun x hx y hy exy => ?_⟩
        have hy' : y = r := by simpa using hy
        rw [exy, hy'] at hx
        have z := (hrs r hx).2.2
        rw [hr] at z
        cases z
      · intro x hx
        have ner : e ≠ r := ne_of_none hec hr
        rcases List.mem_append.mp hx with h | h
        · obtain ⟨h1, h2, h3⟩ := hrs x h
          exact ⟨h1, h2, by rw [upd_ne h2, upd_ne (ne_of_none h3 hr)]; exact h3⟩
        · have hx' : x = r := by simpa using h
          rw [hx']
          exact ⟨sm.free hr, Ne.symm ner, by rw [upd_ne (Ne.symm ner), upd_same]⟩
    · rintro H1 ⟨rs, sm1, he1, hl1, nd, hrs⟩
      have hl1' : rs.length = n := by rw [hl1]; omega
      -- links_of(net)
      refine ⟨_, rfl, a, l, rfl, sm1.seq hS, hev, hlen, fun H2 p sm2 hpn hP => ?_⟩
      obtain ⟨ts, hp, hts⟩ := id hP
      have npe : p ≠ e := Ne.symm (ne_of_none he1 hpn)
      have npr : ∀ r ∈ rs, r ≠ p := fun r hr => ne_of_none (hrs r hr).2.2 hpn
      have hl2 : (pairs2 l).length ≤ 12 := by rw [pairs2_len]; omega
      refine ⟨p, rfl, ⟨_, SqL.of hp⟩, for_list (K := K) (a := p) (xs := ts.map V.ref) (fun i σ Hc => ∃ x3 x4 x5 x6, σ = [some (vN n), some (.ref a), some (.ref e), x3, x4, x5, x6, none] ∧ Same H Hc ∧ PairsAt Hc p (pairs2 l) ∧ Hc p = some (.lst (ts.map V.ref)) ∧ Paired (TupAt Hc) ts (pairs2 l) ∧ Hc e = some (.lst (rs.map V.ref)) ∧
        Paired (fun r row => PairsAt Hc r row) rs (exitsM n ((pairs2 l).take i)))
        ⟨none, none, none, none, rfl, sm1.trans sm2, hP, hp, hts, sm2 _ _ he1, ?_⟩ (fun i σ Hc _ ⟨_, _, _, _, _, _, _, h7, _⟩ => SqL.of h7) ?_ ?_⟩
      · refine pr_of (by rw [hl1']; simp [exitsM]) fun j r row hr hrow => ?_
        have e1 : row = [] := by
          have : (List.replicate n ([] : ERow))[j]? = some row := hrow
          rw [List.getElem?_replicate] at this
          split at this
          · exact (Option.some.inj this).symm
          · cases this
        subst e1
        exact ⟨[], sm2 _ _ (hrs r (List.mem_of_getElem? hr)).2.2, .nil⟩
      · rintro i v σ Hc hi ⟨x3, x4, x5, x6, rfl, sm, hPc, hpc, htsc, hec, hrows⟩
        obtain ⟨t, ht, rfl⟩ := refs_of hi
        obtain ⟨⟨x, y⟩, hxy, htup⟩ := pr_getL htsc ht
        obtain ⟨hx, hy, hne⟩ := hg (x, y) (List.mem_of_getElem? hxy)
        simp only at hx hy hne
        have hgt : goodL n ((pairs2 l).take i) := fun z hz => hg z (List.mem_of_mem_take hz)
        have hEl : (exitsM n ((pairs2 l).take i)).length = n := exitsM_len hgt
        generalize hE : exitsM n ((pairs2 l).take i) = EE at hrows hEl
        have hrl : rs.length = n := hl1'
        obtain ⟨rowx, hrx⟩ : ∃ r, EE[x]? = some r := ⟨_, List.getElem?_eq_getElem (by omega)⟩
        obtain ⟨rowy, hry⟩ : ∃ r, EE[y]? = some r := ⟨_, List.getElem?_eq_getElem (by omega)⟩
        obtain ⟨ra, hra, hpa⟩ := pr_get hrows hrx
        obtain ⟨rb, hrb, hpb⟩ := pr_get hrows hry
        obtain ⟨tsa, hla, hta⟩ := id hpa
        obtain ⟨tsb, hlb, htb⟩ := id hpb
        have nab : ra ≠ rb := fun z => by
          subst z
          exact hne (nd_ix nd hra hrb)
        have hlens : rowx.length ≤ 12 ∧ rowy.length ≤ 12 := by
          have hEE := exits_eq n _ hgt
          rw [hE] at hEE
          rw [hEE, List.getElem?_map] at hrx hry
          rw [List.getElem?_range hx] at hrx
          rw [List.getElem?_range hy] at hry
          have e1 : rowS ⟨n, (pairs2 l).take i⟩ x = rowx := Option.some.inj hrx
          have e2 : rowS ⟨n, (pairs2 l).take i⟩ y = rowy := Option.some.inj hry
          have l1 := row_len (n := n) (ls := (pairs2 l).take i) (u := x)
          have l2 := row_len (n := n) (ls := (pairs2 l).take i) (u := y)
          rw [e1] at l1
          rw [e2] at l2
          have := List.length_take_le i (pairs2 l)
          have := List.length_take (i := i) (l := pairs2 l)
          omega
        have lta := Paired.length hta
        have ltb := Paired.length htb
        refine ⟨t, [vN x, vN y], rfl, SqT.of htup, rfl, vN x, [vN y], rfl, vN y, [], rfl, rfl, ?_⟩
        -- exit_of_a, exit_of_b
        refine ⟨_, rfl, _, rfl, e, _, _, _, rfl, rfl, SqL.of hec, atI_z (refs_at hra), ra, _, rfl, .inl (SqL.of hla), ?_⟩
        refine ⟨_, rfl, _, rfl, e, _, _, _, rfl, rfl, SqL.of hec, atI_z (refs_at hrb), rb, _, rfl, .inl (SqL.of hlb), ?_⟩
        have eva : V.int ((tsa.map V.ref).length : Int) = vN rowx.length := by rw [List.length_map, lta]; rfl
        have evb : V.int ((tsb.map V.ref).length : Int) = vN rowy.length := by rw [List.length_map, ltb]; rfl
        rw [eva, evb]
        -- exits[a].append((b, exit_of_b))
        refine ⟨_, rfl, _, rfl, e, _, _, _, rfl, rfl, SqL.of hec, atI_z (refs_at hra), .inl ⟨rfl, _, SqL.of hla⟩, _, rfl, _, rfl, szl 2 (by omega), fun t1 ht1 => ?_⟩
        have nra1 : ra ≠ t1 := ne_of_none hla ht1
        refine ⟨ra, _, _, rfl, rfl, (upd_ne nra1).trans hla, ?_, ?_⟩
        · rw [List.length_map]
          exact sz _ (by omega)
        have R1 := rows_append (p := (y, rowy.length)) nd hrows hrx hra ht1 hla hta
        have hne_ra : e ≠ ra := Ne.symm (hrs ra (List.mem_of_getElem? hra)).2.1
        have hne_rb : e ≠ rb := Ne.symm (hrs rb (List.mem_of_getElem? hrb)).2.1
        have npra : p ≠ ra := Ne.symm (npr ra (List.mem_of_getElem? hra))
        have nprb : p ≠ rb := Ne.symm (npr rb (List.mem_of_getElem? hrb))
        have tup1 : ∀ b ys, Hc b = some (.tup ys) → (upd (upd Hc t1 (.tup [vN y, vN rowy.length])) ra (.lst (tsa.map V.ref ++ [.ref t1]))) b = some (.tup ys) := fun b ys eb => by
          rw [upd_ne (ne_of eb hla (fun z => nomatch z)), upd_ne (ne_of_none eb ht1)]
          exact eb
        have sm1' : Same H (upd (upd Hc t1 (.tup [vN y, vN rowy.length])) ra (.lst (tsa.map V.ref ++ [.ref t1]))) := fun b o eb => by
          rw [upd_ne (ne_of_none eb (hrs ra (List.mem_of_getElem? hra)).1), upd_ne (ne_of_none (sm _ _ eb) ht1)]
          exact sm _ _ eb
        have he' : (upd (upd Hc t1 (.tup [vN y, vN rowy.length])) ra (.lst (tsa.map V.ref ++ [.ref t1]))) e = some (.lst (rs.map V.ref)) := by
          rw [upd_ne hne_ra, upd_ne (ne_of_none hec ht1)]
          exact hec
        have hp' : (upd (upd Hc t1 (.tup [vN y, vN rowy.length])) ra (.lst (tsa.map V.ref ++ [.ref t1]))) p = some (.lst (ts.map V.ref)) := by
          rw [upd_ne npra, upd_ne (ne_of_none hpc ht1)]
          exact hpc
        have hb' : (upd (upd Hc t1 (.tup [vN y, vN rowy.length])) ra (.lst (tsa.map V.ref ++ [.ref t1]))) rb = some (.lst (tsb.map V.ref)) := by
          rw [upd_ne (Ne.symm nab), upd_ne (ne_of_none hlb ht1)]
          exact hlb
        have htb' : Paired (TupAt (upd (upd Hc t1 (.tup [vN y, vN rowy.length])) ra (.lst (tsa.map V.ref ++ [.ref t1])))) tsb rowy := L2.Paired.mapP htb fun _ _ z => tup1 _ _ z
        have hts' : Paired (TupAt (upd (upd Hc t1 (.tup [vN y, vN rowy.length])) ra (.lst (tsa.map V.ref ++ [.ref t1])))) ts (pairs2 l) := L2.Paired.mapP htsc fun _ _ z => tup1 _ _ z
        have hry' : (EE.set x (rowx ++ [(y, rowy.length)]))[y]? = some rowy := by rw [List.getElem?_set_ne hne]; exact hry
        generalize hHd : upd (upd Hc t1 (.tup [vN y, vN rowy.length])) ra (.lst (tsa.map V.ref ++ [.ref t1])) = Hd at R1 sm1' he' hp' hb' htb' hts'
        -- exits[b].append((a, exit_of_a))
        refine ⟨_, rfl, _, rfl, e, _, _, _, rfl, rfl, SqL.of he', atI_z (refs_at hrb), .inl ⟨rfl, _, SqL.of hb'⟩, _, rfl, _, rfl, szl 2 (by omega), fun t2 ht2 => ?_⟩
        have nrb2 : rb ≠ t2 := ne_of_none hb' ht2
        refine ⟨rb, _, _, rfl, rfl, (upd_ne nrb2).trans hb', ?_, ?_⟩
        · rw [List.length_map]
          exact sz _ (by omega)
        have R2 := rows_append (p := (x, rowx.length)) nd R1 hry' hrb ht2 hb' htb'
        have tup2 : ∀ b ys, Hd b = some (.tup ys) → (upd (upd Hd t2 (.tup [vN x, vN rowx.length])) rb (.lst (tsb.map V.ref ++ [.ref t2]))) b = some (.tup ys) := fun b ys eb => by
          rw [upd_ne (ne_of eb hb' (fun z => nomatch z)), upd_ne (ne_of_none eb ht2)]
          exact eb
        have hp2 : (upd (upd Hd t2 (.tup [vN x, vN rowx.length])) rb (.lst (tsb.map V.ref ++ [.ref t2]))) p = some (.lst (ts.map V.ref)) := by
          rw [upd_ne nprb, upd_ne (ne_of_none hp' ht2)]
          exact hp'
        have hts2 : Paired (TupAt (upd (upd Hd t2 (.tup [vN x, vN rowx.length])) rb (.lst (tsb.map V.ref ++ [.ref t2])))) ts (pairs2 l) := L2.Paired.mapP hts' fun _ _ z => tup2 _ _ z
        refine ⟨some (vN x), some (vN y), some (vN rowx.length), some (vN rowy.length), rfl, ?_, ⟨ts, hp2, hts2⟩, hp2, hts2, ?_, ?_⟩
        · intro b o eb
          rw [upd_ne (ne_of_none eb (hrs rb (List.mem_of_getElem? hrb)).1), upd_ne (ne_of_none (sm1' _ _ eb) ht2)]
          exact sm1' _ _ eb
        · rw [upd_ne hne_rb, upd_ne (ne_of_none he' ht2)]
          exact he'
        · rw [exitsM_more hxy, hE]
          have e1 : EE.getD x [] = rowx := by rw [List.getD_eq_getElem?_getD, hrx]; rfl
          have e2 : EE.getD y [] = rowy := by rw [List.getD_eq_getElem?_getD, hry]; rfl
          have e3 : (EE.set x (rowx ++ [(y, rowy.length)])).getD y [] = rowy := by rw [List.getD_eq_getElem?_getD, hry']; rfl
          have ea : addL EE (x, y) = (EE.set x (rowx ++ [(y, rowy.length)])).set y (rowy ++ [(x, rowx.length)]) := by
            unfold addL
            simp only [e1, e2, e3]
          rw [ea]
          exact R2
      · rintro σ Hc ⟨x3, x4, x5, x6, rfl, sm, hPc, hpc, htsc, hec, hrows⟩
        have hl : (ts.map V.ref).length = (pairs2 l).length := by rw [List.length_map, Paired.length hts]
        rw [hl, List.take_length] at hrows
        exact ⟨_, rfl, q Hc e sm he ⟨rs, hec, hrows⟩⟩
end
end NP
namespace NP
open PySem PySem.Spec PyProof.Rows L2 NM
/-! ### distances_from -/
theorem scDist : FnScope ["start", "exits", "away", "reached", "at", "place", "way"] ["start", "exits"] (defScope sDist) := ⟨rfl, rfl, rfl, by decide +kernel, rfl, by decide +kernel, by decide +kernel⟩
def rowsOf (t : Ks536.Net) : Exits := (List.range t.n).map (rowS t)
def kvOf (S : List (Nat × Nat)) : List (Key × V) := S.map fun p => (Sum.inl (p.1 : Int), vN p.2)
def netOk (t : Ks536.Net) : Prop := t.n ≤ 7 ∧ goodL t.n t.links ∧ t.links.length ≤ 12
def spDist : Sp := fun vs H Q _ => ∃ (t : Ks536.Net) (s : Nat) (e : Addr), vs = [vN s, .ref e] ∧ ExitsAt H e (rowsOf t) ∧ netOk t ∧ s < t.n ∧
  ∀ H' d S, Same H H' → BD t s S → H' d = some (.dK (kvOf S)) → Q (.ref d) H'
theorem kvOf_len (S : List (Nat × Nat)) : (kvOf S).length = S.length := List.length_map ..
theorem kvOf_val {S : List (Nat × Nat)} {x : Nat} (h : x ∉ S.map (·.1)) : valV (kvOf S) (Sum.inl (x : Int)) = none := by
  induction S with
  | nil => rfl
  | cons p r ih =>
    have h1 : ¬ x = p.1 := fun z => h (by rw [z]; exact List.mem_cons_self)
    have h2 : x ∉ r.map (·.1) := fun z => h (List.mem_cons_of_mem _ z)
    show valV ((Sum.inl (p.1 : Int), vN p.2) :: kvOf r) _ = none
    rw [valV_neg]
    · exact ih h2
    · intro z
      have := Sum.inl.inj z
      omega
theorem kvOf_there {S : List (Nat × Nat)} (nd : (S.map (·.1)).Nodup) {x d : Nat} (h : (x, d) ∈ S) : valV (kvOf S) (Sum.inl (x : Int)) = some (vN d) := by
  induction S with
  | nil => simp at h
  | cons p r ih =>
    have hn := List.nodup_cons.mp (show ((p.1) :: r.map (·.1)).Nodup from nd)
    show valV ((Sum.inl (p.1 : Int), vN p.2) :: kvOf r) _ = _
    by_cases e : p.1 = x
    · rw [valV_pos (by show (Sum.inl (p.1 : Int) : Key) = _; rw [e])]
      rcases List.mem_cons.mp h with z | z
      · rw [← z]
      · exact absurd (List.mem_map.mpr ⟨_, z, e.symm⟩) hn.1
    · rw [valV_neg (by intro z; have := Sum.inl.inj z; omega)]
      rcases List.mem_cons.mp h with z | z
      · exact absurd (by rw [← z]) e
      · exact ih hn.2 z
theorem kvOf_some {S : List (Nat × Nat)} (x : Nat) : (valV (kvOf S) (Sum.inl (x : Int))).isSome = decide (x ∈ S.map (·.1)) := by
  by_cases h : x ∈ S.map (·.1)
  · rw [decide_eq_true h]
    induction S with
    | nil => simp at h
    | cons p r ih =>
      show (valV ((Sum.inl (p.1 : Int), vN p.2) :: kvOf r) _).isSome = _
      by_cases e : p.1 = x
      · rw [valV_pos (by show (Sum.inl (p.1 : Int) : Key) = _; rw [e])]; rfl
      · rw [valV_neg (by intro z; have := Sum.inl.inj z; omega)]
        rcases List.mem_cons.mp (show x ∈ p.1 :: r.map (·.1) from h) with z | z
        · exact absurd z.symm e
        · exact ih z
  · rw [decide_eq_false h, kvOf_val h]; rfl
theorem rowsOf_at {t : Ks536.Net} {u : Nat} (h : u < t.n) : (rowsOf t)[u]? = some (rowS t u) := by
  unfold rowsOf
  rw [List.getElem?_map, List.getElem?_range h]
  rfl
section
variable {P : Program} {w : World} {K : PySem.W.Frag} {mg : Str → Option Value} {base : Heap}
theorem ok_dist {f : Addr} {fd : FuncData} (F : Fun K "distances_from" "distances_from" sDist f fd) (ml : mg "len" = none) : FnOk P w K mg base CX0 1 f fd ["start", "exits"] spDist := by
  refine F.ok scDist (fun vs H Q E h => ?_) (fun cdv A outer s H vs Q E hr h => ?_)
  · obtain ⟨t, s, e, rfl, _⟩ := h
    rfl
  · obtain ⟨t, s, e, rfl, hE, ⟨hn7, hg, hl12⟩, hs, q⟩ := h
    have hu := hu_of hr
    refine ⟨_, pss_cons (ps_set (i := 2) scDist.nd rfl (Or.inl rfl) (pe_disp (pps_cons (pv 0) pe_int pps_nil) (by rfl) (by rfl) (fun z => by cases z) (by decide)))
      (pss_cons (ps_set (i := 3) scDist.nd rfl (Or.inl rfl) (pe_lst (pa_cons (pv 0) pa_nil)))
      (pss_cons (ps_set (i := 4) scDist.nd rfl (Or.inl rfl) pe_int)
      (pss_cons (ps_while PassesOwn.never (pt_cmpR op_lt (pv 4) (pe_callB call_len_seq (by rfl) ml PySem.boot_len (pa_cons (pv 3) pa_nil)) (nomark _))
        (pss_cons (ps_set (i := 5) scDist.nd rfl (Or.inl rfl) (pe_ix ix_list (pv 3) (pv 4) (fun _ _ => rfl)))
        (pss_cons (ps_for PassesOwn.never rfl (pi_list (pe_ix ix_list (pv 1) (pv 5) (fun _ _ => rfl))) (pg_name (i := 6) scDist.nd rfl (Or.inl rfl))
          (pss_one (ps_if (pt_cmp (pc_dnotin hu (pe_ix ix_tup (pv 6) pe_int (fun _ _ => rfl)) (pv 2)))
            (pss_cons (ps_dput hu (pv 2) (pe_ix ix_tup (pv 6) pe_int (fun _ _ => rfl)) (pe_op op_add (pe_dget hu (pv 2) (pv 5) (fun _ _ => rfl)) pe_int) rfl)
            (pss_one (ps_expr (pe_bm PySem.F.plainAttrs_list PySem.F.slot_list_append PySem.F.type_list_append mt_append (pv 3) (pa_cons (pe_ix ix_tup (pv 6) pe_int (fun _ _ => rfl)) pa_nil)))))
            pss_nil)))
        (pss_one (ps_aug (i := 4) scDist.nd rfl (Or.inl rfl) pe_int ip_add)))))
      (pss_one (ps_ret (pv 2)))))), ?_⟩
    -- away = {start: 0}
    refine fun d hd => ⟨_, rfl, upd_same, [(Sum.inl (s : Int), vN 0)], rfl, (by show 1 ≤ 15; decide), ?_⟩
    have eA : mergeK [] [((Sum.inl (s : Int) : Key), vN 0)] = kvOf [(s, 0)] := rfl
    rw [eA, upd_upd]
    have s1 : Same H (upd H d (.dK (kvOf [(s, 0)]))) := same_new hd
    -- reached = [start]
    refine ⟨_, rfl, szl 1 (by omega), fun r hr' => ?_⟩
    have ndr : d ≠ r := ne_of_none upd_same hr'
    have hr0 : H r = none := s1.free hr'
    -- while
    refine ⟨fun m σ Hc => ∃ a x5 x6 S, σ = [some (vN s), some (.ref e), some (.ref d), some (.ref r), some (vN a), x5, x6] ∧ m = t.n - a ∧ Same H Hc ∧ BI t s a S ∧ a ≤ S.length ∧ Hc d = some (.dK (kvOf S)) ∧ Hc r = some (.lst (vNs (S.map (·.1)))),
      ⟨t.n, 0, none, none, [(s, 0)], rfl, rfl, s1.trans (same_new hr'), BI.start hs, Nat.zero_le _, ?_, ?_⟩, ?_⟩
    · rw [upd_ne ndr, upd_same]
    · rw [upd_same]
      rfl
    rintro m σ Hc ⟨a, x5, x6, S, rfl, rfl, sm, B, haS, hdc, hrc⟩
    have hSl := B.len
    -- at < len(reached)
    refine ⟨_, rfl, _, rfl, r, _, rfl, .inl (SqL.of hrc), _, _, rfl, rfl, _, rfl, ?_⟩
    rw [vNs_len, List.length_map]
    refine ite2 (fun ec => ?_) (fun ec => ?_)
    · have ha : a < S.length := by
        have := of_decide_eq_true ec
        omega
      obtain ⟨⟨u, du⟩, hu1⟩ : ∃ p, S[a]? = some p := ⟨_, List.getElem?_eq_getElem ha⟩
      have hut : u < t.n := B.lt _ (List.mem_of_getElem? hu1)
      have hr1 : (vNs (S.map (·.1)))[a]? = some (vN u) := vNs_at (by rw [List.getElem?_map, hu1]; rfl)
      refine ⟨fun σ' H' => ∃ x6 S', σ' = [some (vN s), some (.ref e), some (.ref d), some (.ref r), some (vN (a + 1)), some (vN u), x6] ∧ Same H H' ∧ BI t s (a + 1) S' ∧ a + 1 ≤ S'.length ∧ H' d = some (.dK (kvOf S')) ∧ H' r = some (.lst (vNs (S'.map (·.1)))), ?_, ?_⟩
      · rintro σ' H' ⟨x6', S', rfl, sm', B', h1, h2, h3⟩
        exact ⟨t.n - (a + 1), by omega, a + 1, _, x6', S', rfl, rfl, sm', B', h1, h2, h3⟩
      -- place = reached[at]
      refine ⟨_, rfl, _, rfl, r, _, _, vN u, rfl, rfl, SqL.of hrc, atI_z hr1, ?_⟩
      -- for way in exits[place]
      obtain ⟨rs, hrs, hpr⟩ := id hE
      obtain ⟨ra, hra, hpa⟩ := pr_get hpr (rowsOf_at hut)
      obtain ⟨tsa, hla, hta⟩ := hpa
      have hal := Paired.length hta
      refine ⟨_, rfl, _, rfl, e, _, _, _, rfl, rfl, SqL.of (sm _ _ hrs), atI_z (refs_at hra), ra, rfl, ⟨_, SqL.of (sm _ _ hla)⟩, for_list (K := K) (a := ra) (xs := tsa.map V.ref) (fun j σ Hc => ∃ x6 S', σ = [some (vN s), some (.ref e), some (.ref d), some (.ref r), some (vN a), some (vN u), x6] ∧ Same H Hc ∧ BI t s a S' ∧ S'[a]? = some (u, du) ∧
        Hc d = some (.dK (kvOf S')) ∧ Hc r = some (.lst (vNs (S'.map (·.1)))) ∧ (∀ j', j' < j → ∀ p, (rowS t u)[j']? = some p → ∃ k, (p.1, k) ∈ S' ∧ k ≤ du + 1))
        ⟨x6, S, rfl, sm, B, hu1, hdc, hrc, fun j' hj' => by omega⟩ (fun j σ Hc _ ⟨_, _, _, sm', _⟩ => SqL.of (sm' _ _ hla)) ?_ ?_⟩
      · rintro j v σ H1 hj ⟨x6', S', rfl, sm', B', hu', hd1, hr1', hpart⟩
        obtain ⟨tw, htw, rfl⟩ := refs_of hj
        obtain ⟨⟨y, c⟩, hyc, htup⟩ := pr_getL hta htw
        have htup1 : H1 tw = some (.tup [vN y, vN c]) := sm' _ _ htup
        have hyt : y < t.n := row_lt (n := t.n) (ls := t.links) hg (List.mem_of_getElem? hyc)
        have hadj : Adj t u y := ⟨(y, c), List.mem_of_getElem? hyc, rfl⟩
        obtain ⟨B2, hu2, hk2⟩ := B'.visit hu' hadj hyt
        have hSl' := B'.len
        have part2 : ∀ S2 : List (Nat × Nat), (∀ p ∈ S', p ∈ S2) → (∃ k, (y, k) ∈ S2 ∧ k ≤ du + 1) → ∀ j', j' < j + 1 → ∀ p, (rowS t u)[j']? = some p → ∃ k, (p.1, k) ∈ S2 ∧ k ≤ du + 1 := by
          intro S2 h1 h2 j' hj' p hp
          by_cases ej : j' = j
          · subst ej
            rw [hyc] at hp
            cases hp
            exact h2
          · obtain ⟨k, hk, hk'⟩ := hpart j' (by omega) p hp
            exact ⟨k, h1 _ hk, hk'⟩
        refine ⟨_, rfl, tw, _, _, vN y, rfl, rfl, SqT.of htup1, atI_nat (j := 0) rfl, _, rfl, d, _, rfl, DGet.k (k := Sum.inl (y : Int)) hd1, _, rfl, ?_⟩
        rw [kvOf_some]
        by_cases hin : y ∈ S'.map (·.1)
        · rw [decide_eq_true hin]
          have ev : visit1 du S' y = S' := if_pos hin
          rw [ev] at B2 hu2 hk2
          exact ⟨some (.ref tw), S', rfl, sm', B2, hu2, hd1, hr1', part2 S' (fun _ z => z) hk2⟩
        · rw [decide_eq_false hin]
          have ev : visit1 du S' y = S' ++ [(y, du + 1)] := if_neg hin
          rw [ev] at B2 hu2 hk2
          have hgu := kvOf_there B'.nd (List.mem_of_getElem? hu')
          have g2 : DGet H1 d (kV (Sum.inl (u : Int))) (some (vN du)) := by rw [← hgu]; exact DGet.k hd1
          refine ⟨_, rfl, _, rfl, d, _, rfl, g2, _, _, rfl, rfl, _, rfl, _, rfl, tw, _, _, vN y, rfl, rfl, SqT.of htup1, atI_nat (j := 0) rfl, ?_⟩
          refine ⟨d, _, rfl, DPut.k (k := Sum.inl (y : Int)) hd1 (by rw [kvOf_len]; exact sz _ (by omega)), ?_⟩
          have ep : putK (kvOf S') (Sum.inl (y : Int)) (.int ((du : Int) + 1)) = kvOf (S' ++ [(y, du + 1)]) := by
            rw [putK_new _ (kvOf_val hin)]
            unfold kvOf
            rw [List.map_append]
            rfl
          rw [ep]
          have hr2 : (upd H1 d (.dK (kvOf (S' ++ [(y, du + 1)])))) r = some (.lst (vNs (S'.map (·.1)))) := by
            rw [upd_ne (Ne.symm ndr)]
            exact hr1'
          have htw2 : (upd H1 d (.dK (kvOf (S' ++ [(y, du + 1)])))) tw = some (.tup [vN y, vN c]) := by
            rw [upd_ne (ne_of htup1 hd1 (fun z => nomatch z))]
            exact htup1
          refine ⟨_, rfl, .inl ⟨rfl, _, SqL.of hr2⟩, _, rfl, tw, _, _, vN y, rfl, rfl, SqT.of htw2, atI_nat (j := 0) rfl, r, _, _, rfl, rfl, hr2, ?_, ?_⟩
          · rw [vNs_len, List.length_map]
            exact sz _ (by omega)
          · refine ⟨some (.ref tw), S' ++ [(y, du + 1)], rfl, ?_, B2, hu2, ?_, ?_, part2 _ (fun _ z => List.mem_append_left _ z) hk2⟩
            · intro b o eb
              rw [upd_ne (ne_of_none eb hr0), upd_ne (ne_of_none eb hd)]
              exact sm' _ _ eb
            · rw [upd_ne ndr, upd_same]
            · rw [upd_same]
              unfold vNs
              rw [List.map_append, List.map_append]
              rfl
      · rintro σ H1 ⟨x6', S', rfl, sm', B', hu', hd1, hr1', hpart⟩
        -- at += 1
        rw [List.length_map, hal] at hpart
        have B2 := B'.next hu' (fun w hw => by
          obtain ⟨p, hp, rfl⟩ := hw
          obtain ⟨j, hj, ep⟩ := List.getElem_of_mem hp
          exact hpart j hj p (by rw [List.getElem?_eq_getElem hj, ep]))
        exact ⟨_, rfl, _, _, rfl, rfl, x6', S', rfl, sm', B2, lt_of_at hu', hd1, hr1'⟩
    · -- return away
      have hge : S.length ≤ a := by
        have z : ¬ ((a : Int) < (S.length : Int)) := fun z => ec (decide_eq_true z)
        omega
      exact ⟨_, rfl, q Hc d S sm (B.done hge) hdc⟩
end
end NP
namespace NP
open PySem PySem.Spec PyProof.Rows L2 NM
/-! ### hangs_together, is_net, refusal -/
theorem scHangs : FnScope ["exits"] ["exits"] (defScope sHangs) := ⟨rfl, rfl, rfl, by decide +kernel, rfl, by decide +kernel, by decide +kernel⟩
def spHangs : Sp := fun vs H Q _ => ∃ (t : Ks536.Net) (e : Addr), vs = [.ref e] ∧ ExitsAt H e (rowsOf t) ∧ netOk t ∧ 0 < t.n ∧ ∀ H', Same H H' → Q (.bl (Ks536.joined t)) H'
theorem rowsOf_len (t : Ks536.Net) : (rowsOf t).length = t.n := by
  unfold rowsOf
  rw [List.length_map, List.length_range]
section
variable {P : Program} {w : World} {K : PySem.W.Frag} {mg : Str → Option Value} {base : Heap}
theorem ok_hangs {f fD : Addr} {fd fdD : FuncData} (F : Fun K "hangs_together" "hangs_together" sHangs f fd) (FD : Fun K "distances_from" "distances_from" sDist fD fdD) (bD : Binds K fdD ["start", "exits"] []) (gD : mg "distances_from" = some (.ref fD)) (ml : mg "len" = none) :
    FnOk P w K mg base CX0 2 f fd ["exits"] spHangs := by
  have GD : FnOk P w K mg base CX0 1 fD fdD ["start", "exits"] spDist := ok_dist FD ml
  refine F.ok scHangs (fun vs H Q E h => ?_) (fun cdv A outer s H vs Q E hr h => ?_)
  · obtain ⟨t, e, rfl, _⟩ := h
    rfl
  · obtain ⟨t, e, rfl, hE, hok, h0, q⟩ := h
    refine ⟨_, pss_one (ps_ret (pe_cmpR op_eq (pe_callB call_lenD (by rfl) ml PySem.boot_len (pa_cons (pe_call GD hr rfl gD FD.kp bD .nil pass0 (pa_cons pe_int (pa_cons (pv 0) pa_nil))) pa_nil)) (pe_callB call_len_seq (by rfl) ml PySem.boot_len (pa_cons (pv 0) pa_nil)) (nomark _))), ?_⟩
    refine ⟨_, rfl, t, 0, e, rfl, hE, hok, h0, fun H' d S sm D hd => ?_⟩
    obtain ⟨rs, hrs, hpr⟩ := id hE
    have hl := Paired.length hpr
    rw [rowsOf_len] at hl
    refine ⟨d, _, rfl, hd, _, rfl, e, _, rfl, .inl (SqL.of (sm _ _ hrs)), rfl, ?_⟩
    have ej : decide (V.int ((kvOf S).length : Int) = V.int ((rs.map V.ref).length : Int)) = Ks536.joined t := by
      rw [kvOf_len, List.length_map, hl]
      have j := joined_iff D
      by_cases c : S.length = t.n
      · rw [j.mpr c, c]
        exact decide_eq_true rfl
      · have : Ks536.joined t = false := by
          cases z : Ks536.joined t with
          | false => rfl
          | true => exact absurd (j.mp z) c
        rw [this]
        refine decide_eq_false fun z => c ?_
        have := V.int.inj z
        omega
    rw [ej]
    exact q H' sm
theorem scIsNet : FnScope ["n", "net"] ["n", "net"] (defScope sIsNet) := ⟨rfl, rfl, rfl, by decide +kernel, rfl, by decide +kernel, by decide +kernel⟩
def isNetM (n : Nat) (l : List Nat) : Bool := decide (1 ≤ n ∧ n ≤ 7 ∧ l.length % 2 = 0 ∧ l.length ≤ 20) && (okL n [] (pairs2 l) && Ks536.joined ⟨n, pairs2 l⟩)
def spIsNet (K : PySem.W.Frag) : Sp := fun vs H Q _ => ∃ (n : Nat) (a : Addr) (l : List Nat), vs = [vN n, .ref a] ∧ SqL K H a (vNs l) ∧ l.length ≤ 24 ∧ ∀ H', Same H H' → Q (.bl (isNetM n l)) H'
theorem isNetM_no {n : Nat} {l : List Nat} (h : ¬ (1 ≤ n ∧ n ≤ 7 ∧ l.length % 2 = 0 ∧ l.length ≤ 20)) : isNetM n l = false := by
  unfold isNetM
  rw [decide_eq_false h, Bool.false_and]
theorem isNetM_yes {n : Nat} {l : List Nat} (h : 1 ≤ n ∧ n ≤ 7 ∧ l.length % 2 = 0 ∧ l.length ≤ 20) : isNetM n l = (okL n [] (pairs2 l) && Ks536.joined ⟨n, pairs2 l⟩) := by
  unfold isNetM
  rw [decide_eq_true h, Bool.true_and]
structure TxtNet (K : PySem.W.Frag) (mg : Str → Option Value) (fL fA fE fH fD : Addr) (fdL fdA fdE fdH fdD : FuncData) : Prop where
  ml : mg "len" = none
  mr : mg "range" = none
  cP : ∃ t, mg "MOST_PLACES" = some (.int 7 t)
  cL : ∃ t, mg "MOST_LINKS" = some (.int 10 t)
  FL : Fun K "links_of" "links_of" sLinks fL fdL
  bL : Binds K fdL ["net"] []
  gL : mg "links_of" = some (.ref fL)
  FA : Fun K "are_links" "are_links" sAre fA fdA
  bA : Binds K fdA ["n", "links"] []
  gA : mg "are_links" = some (.ref fA)
  FE : Fun K "exits_of" "exits_of" sExits fE fdE
  bE : Binds K fdE ["n", "net"] []
  gE : mg "exits_of" = some (.ref fE)
  FH : Fun K "hangs_together" "hangs_together" sHangs fH fdH
  bH : Binds K fdH ["exits"] []
  gH : mg "hangs_together" = some (.ref fH)
  FD : Fun K "distances_from" "distances_from" sDist fD fdD
  bD : Binds K fdD ["start", "exits"] []
  gD : mg "distances_from" = some (.ref fD)
theorem ok_isNet {f fL fA fE fH fD : Addr} {fd fdL fdA fdE fdH fdD : FuncData} (F : Fun K "is_net" "is_net" sIsNet f fd) (T : TxtNet K mg fL fA fE fH fD fdL fdA fdE fdH fdD) : FnOk P w K mg base CX0 3 f fd ["n", "net"] (spIsNet K) := by
  have GL : FnOk P w K mg base CX0 1 fL fdL ["net"] (spLinks K) := ok_links T.FL T.mr T.ml
  have GA : FnOk P w K mg base CX0 1 fA fdA ["n", "links"] spAre := ok_are T.FA
  have GE : FnOk P w K mg base CX0 2 fE fdE ["n", "net"] (spExits K) := ok_exits T.FE T.FL T.bL T.gL T.mr T.ml
  have GH : FnOk P w K mg base CX0 2 fH fdH ["exits"] spHangs := ok_hangs T.FH T.FD T.bD T.gD T.ml
  refine F.ok scIsNet (fun vs H Q E h => ?_) (fun cdv A outer s H vs Q E hr h => ?_)
  · obtain ⟨n, a, l, rfl, _⟩ := h
    rfl
  · obtain ⟨n, a, l, rfl, hS, hlen, q⟩ := h
    have hr1 : Room 1 _ := hr.mono (by decide)
    obtain ⟨tp, cP⟩ := T.cP
    obtain ⟨tl, cL⟩ := T.cL
    refine ⟨_, pss_cons (ps_if (PW.pt (pw_or (pt_cmpR op_lt (pv 0) pe_int (nomark _)) (pw_or1 (pt_cmpR op_gt (pv 0) (pe_glob (v := .int 7) rfl cP ⟨_, rfl⟩) (nomark _))))) (pss_one (ps_ret pe_bl)) pss_nil)
      (pss_cons (ps_if (PW.pt (pw_or (pt_cmpR op_eq (pe_op op_mod (pe_callB call_len_seq (by rfl) T.ml PySem.boot_len (pa_cons (pv 1) pa_nil)) pe_int) pe_int (nomark _)) (pw_or1 (pt_cmpR op_gt (pe_callB call_len_seq (by rfl) T.ml PySem.boot_len (pa_cons (pv 1) pa_nil)) (pe_op op_mul pe_int (pe_glob (v := .int 10) rfl cL ⟨_, rfl⟩)) (nomark _))))) (pss_one (ps_ret pe_bl)) pss_nil)
      (pss_one (ps_ret (pe_and (pe_call GA hr1 rfl T.gA T.FA.kp T.bA .nil pass0 (pa_cons (pv 0) (pa_cons (pe_call GL hr1 rfl T.gL T.FL.kp T.bL .nil pass0 (pa_cons (pv 1) pa_nil)) pa_nil)))
        (pe_one (pe_call GH hr rfl T.gH T.FH.kp T.bH .nil pass0 (pa_cons (pe_call GE hr rfl T.gE T.FE.kp T.bE .nil pass0 (pa_cons (pv 0) (pa_cons (pv 1) pa_nil))) pa_nil))))))), ?_⟩
    have no : ¬ (1 ≤ n ∧ n ≤ 7 ∧ l.length % 2 = 0 ∧ l.length ≤ 20) → Q (.bl false) H := fun z => by
      have := q H (Same.refl H)
      rw [isNetM_no z] at this
      exact this
    -- n < 1 or n > MOST_PLACES
    refine ⟨_, rfl, _, _, rfl, rfl, _, rfl, ite2 (fun e => ?_) (fun e => ?_)⟩
    · exact no (fun z => by have := of_decide_eq_true e; omega)
    have n1 : 1 ≤ n := by
      have : ¬ ((n : Int) < 1) := fun z => e (decide_eq_true z)
      omega
    refine ⟨_, rfl, _, _, rfl, rfl, _, rfl, ite2 (fun e2 => ?_) (fun e2 => ?_)⟩
    · exact no (fun z => by have := of_decide_eq_true e2; omega)
    have n7 : n ≤ 7 := by
      have : ¬ ((7 : Int) < n) := fun z => e2 (decide_eq_true z)
      omega
    -- len(net) % 2 == 1 or len(net) > 2 * MOST_LINKS
    refine ⟨_, rfl, a, _, rfl, .inl hS, _, _, rfl, rfl, (by show (0 : Int) < 2; decide), rfl, _, rfl, ite2 (fun e3 => ?_) (fun e3 => ?_)⟩
    · refine no (fun z => ?_)
      have z2 := V.int.inj (of_decide_eq_true e3)
      rw [vNs_len] at z2
      omega
    have hev : l.length % 2 = 0 := by
      rcases Nat.mod_two_eq_zero_or_one l.length with z | z
      · exact z
      · refine absurd (decide_eq_true ?_) e3
        rw [vNs_len]
        exact congrArg V.int (by omega : ((l.length : Nat) : Int) % 2 = 1)
    refine ⟨_, rfl, a, _, rfl, .inl hS, _, _, rfl, rfl, .inl ⟨by decide, by decide⟩, _, _, rfl, rfl, _, rfl, ite2 (fun e4 => ?_) (fun e4 => ?_)⟩
    · refine no (fun z => ?_)
      have z2 := of_decide_eq_true e4
      rw [vNs_len] at z2
      omega
    have h20 : l.length ≤ 20 := by
      have z : ¬ ((2 : Int) * 10 < ((vNs l).length : Int)) := fun z => e4 (decide_eq_true z)
      rw [vNs_len] at z
      omega
    rw [isNetM_yes ⟨n1, n7, hev, h20⟩] at q
    -- are_links(n, links_of(net))
    refine ⟨_, rfl, _, rfl, a, l, rfl, hS, hev, hlen, fun H1 p sm1 hp hP => ?_⟩
    refine ⟨n, p, pairs2 l, rfl, hP, by rw [pairs2_len]; omega, fun H2 sm2 => ?_⟩
    refine ⟨_, rfl, ?_⟩
    cases hk : okL n [] (pairs2 l) with
    | false =>
      have := q H2 (sm1.trans sm2)
      rw [hk] at this
      exact iteF this
    | true =>
      refine iteT ?_
      rw [hk, Bool.true_and] at q
      have hg : goodL n (pairs2 l) := ((okL_iff n (pairs2 l) []).mp hk).1
      have sm12 := sm1.trans sm2
      refine ⟨_, rfl, _, rfl, n, a, l, rfl, sm12.seq hS, hev, hlen, n7, hg, fun H3 p3 sm3 hp3 hE => ?_⟩
      refine ⟨⟨n, pairs2 l⟩, p3, rfl, ?_, ⟨n7, hg, by show (pairs2 l).length ≤ 12; rw [pairs2_len]; omega⟩, n1, fun H4 sm4 => q H4 (sm12.trans (sm3.trans sm4))⟩
      rw [exits_eq n _ hg] at hE
      exact hE
theorem scRefusal : FnScope ["n", "u", "v", "net"] ["n", "u", "v", "net"] (defScope sRefusal) := ⟨rfl, rfl, rfl, by decide +kernel, rfl, by decide +kernel, by decide +kernel⟩
def refV (n u v : Nat) (l : List Nat) : V := if isNetM n l = false then .int (-22) else if n ≤ u ∨ n ≤ v then .int (-2) else .non
def spRefusal (K : PySem.W.Frag) : Sp := fun vs H Q _ => ∃ (n u v : Nat) (a : Addr) (l : List Nat), vs = [vN n, vN u, vN v, .ref a] ∧ SqL K H a (vNs l) ∧ l.length ≤ 24 ∧ ∀ H', Same H H' → Q (refV n u v l) H'
theorem ok_refusal {f fN fL fA fE fH fD : Addr} {fd fdN fdL fdA fdE fdH fdD : FuncData} (F : Fun K "refusal" "refusal" sRefusal f fd) (FN : Fun K "is_net" "is_net" sIsNet fN fdN) (bN : Binds K fdN ["n", "net"] []) (gN : mg "is_net" = some (.ref fN)) (T : TxtNet K mg fL fA fE fH fD fdL fdA fdE fdH fdD)
    (cN : ∃ t, mg "NO_NET" = some (.int (-22) t)) (cP : ∃ t, mg "NO_PLACE" = some (.int (-2) t)) : FnOk P w K mg base CX0 4 f fd ["n", "u", "v", "net"] (spRefusal K) := by
  have GN : FnOk P w K mg base CX0 3 fN fdN ["n", "net"] (spIsNet K) := ok_isNet FN T
  refine F.ok scRefusal (fun vs H Q E h => ?_) (fun cdv A outer s H vs Q E hr h => ?_)
  · obtain ⟨n, u, v, a, l, rfl, _⟩ := h
    rfl
  · obtain ⟨n, u, v, a, l, rfl, hS, hlen, q⟩ := h
    obtain ⟨tn, cN⟩ := cN
    obtain ⟨tp, cP⟩ := cP
    refine ⟨_, pss_cons (ps_if (pt_not (pt_val (pe_call GN hr rfl gN FN.kp bN .nil pass0 (pa_cons (pv 0) (pa_cons (pv 3) pa_nil))))) (pss_one (ps_ret (pe_glob (v := .int (-22)) rfl cN ⟨_, rfl⟩))) pss_nil)
      (pss_cons (ps_if (PW.pt (pw_or (pt_cmpR op_ge (pv 1) (pv 0) (nomark _)) (pw_or1 (pt_cmpR op_ge (pv 2) (pv 0) (nomark _))))) (pss_one (ps_ret (pe_glob (v := .int (-2)) rfl cP ⟨_, rfl⟩))) pss_nil)
      (pss_one (ps_ret pe_non))), ?_⟩
    refine ⟨_, rfl, _, rfl, n, a, l, rfl, hS, hlen, fun H1 sm1 => ⟨_, rfl, ?_⟩⟩
    have q1 := q H1 sm1
    unfold refV at q1
    cases hk : isNetM n l with
    | false =>
      rw [if_pos hk] at q1
      exact iteT q1
    | true =>
      rw [if_neg (by rw [hk]; decide)] at q1
      refine iteF ?_
      refine ⟨_, rfl, _, rfl, _, _, rfl, rfl, _, rfl, ite2 (fun e => ?_) (fun e => ?_)⟩
      · have e' := of_decide_eq_true e
        rw [if_pos (.inl (by omega))] at q1
        exact q1
      have hu : ¬ n ≤ u := fun z => e (decide_eq_true (by omega : (n : Int) ≤ (u : Int)))
      refine ⟨_, rfl, _, rfl, _, _, rfl, rfl, _, rfl, ite2 (fun e => ?_) (fun e => ?_)⟩
      · have e' := of_decide_eq_true e
        rw [if_pos (.inr (by omega))] at q1
        exact q1
      have hv : ¬ n ≤ v := fun z => e (decide_eq_true (by omega : (n : Int) ≤ (v : Int)))
      rw [if_neg (by intro z; rcases z with z | z; exact hu z; exact hv z)] at q1
      exact q1
end
end NP
namespace NP
open PySem PySem.Spec PyProof.Rows L2 NM
/-! ### behind_letter -/
theorem scBehind : FnScope ["place", "letter", "exits"] ["place", "letter", "exits"] (defScope sBehind) := ⟨rfl, rfl, rfl, by decide +kernel, rfl, by decide +kernel, by decide +kernel⟩
def spBehind : Sp := fun vs H Q _ => ∃ (t : Ks536.Net) (u x : Nat) (e : Addr), vs = [vN u, vN x, .ref e] ∧ ExitsAt H e (rowsOf t) ∧ u < t.n ∧ Q (vN (Ks536.go t u x)) H
section
variable {P : Program} {w : World} {K : PySem.W.Frag} {mg : Str → Option Value} {base : Heap}
theorem ok_behind {f : Addr} {fd : FuncData} (F : Fun K "behind_letter" "behind_letter" sBehind f fd) (ml : mg "len" = none) : FnOk P w K mg base CX0 1 f fd ["place", "letter", "exits"] spBehind := by
  refine F.ok scBehind (fun vs H Q E h => ?_) (fun cdv A outer s H vs Q E hr h => ?_)
  · obtain ⟨t, u, x, e, rfl, _⟩ := h
    rfl
  · obtain ⟨t, u, x, e, rfl, hE, hu, q⟩ := h
    refine ⟨_, pss_cons (ps_if (PW.pt (pw_or (pt_cmpR op_eq (pv 1) pe_int (nomark _)) (pw_or1 (pt_cmpR op_gt (pv 1) (pe_callB call_len_seq (by rfl) ml PySem.boot_len (pa_cons (pe_ix ix_list (pv 2) (pv 0) (fun _ _ => rfl)) pa_nil)) (nomark _))))) (pss_one (ps_ret (pv 0))) pss_nil)
      (pss_one (ps_ret (pe_ix ix_tup (pe_ix ix_list (pe_ix ix_list (pv 2) (pv 0) (fun _ _ => rfl)) (pe_op op_sub (pv 1) pe_int) (fun _ _ => rfl)) pe_int (fun _ _ => rfl)))), ?_⟩
    obtain ⟨rs, hrs, hpr⟩ := id hE
    obtain ⟨ra, hra, ts, hla, hta⟩ := pr_get hpr (rowsOf_at hu)
    have hl := Paired.length hta
    rw [go_eq] at q
    refine ⟨_, rfl, rfl, _, rfl, ite2 (fun e1 => ?_) (fun e1 => ?_)⟩
    · have e' : x = 0 := by
        have := V.int.inj (of_decide_eq_true e1)
        omega
      rw [if_pos (.inl e')] at q
      exact ⟨_, rfl, q⟩
    have x0 : ¬ x = 0 := fun z => e1 (decide_eq_true (by rw [z]; rfl))
    refine ⟨_, rfl, _, rfl, _, rfl, e, _, _, _, rfl, rfl, SqL.of hrs, atI_z (refs_at hra), ra, _, rfl, .inl (SqL.of hla), _, _, rfl, rfl, _, rfl, ?_⟩
    rw [List.length_map, hl]
    refine ite2 (fun e2 => ?_) (fun e2 => ?_)
    · have e' := of_decide_eq_true e2
      rw [if_pos (.inr (by omega))] at q
      exact ⟨_, rfl, q⟩
    have xl : ¬ (rowS t u).length < x := fun z => e2 (decide_eq_true (by omega : (((rowS t u).length : Nat) : Int) < (x : Int)))
    rw [if_neg (by intro z; rcases z with z | z; exact x0 z; exact xl z)] at q
    have hx : (rowS t u)[x - 1]? = some ((rowS t u).getD (x - 1) (0, 0)) := by
      rw [List.getD_eq_getElem?_getD, List.getElem?_eq_getElem (by omega)]
      rfl
    obtain ⟨tw, htw, htup⟩ := pr_get hta hx
    refine ⟨_, rfl, _, rfl, e, _, _, _, rfl, rfl, SqL.of hrs, atI_z (refs_at hra), _, rfl, _, _, rfl, rfl, ra, _, _, _, rfl, rfl, SqL.of hla, at_of (j := x - 1) (by omega) (refs_at htw), ?_⟩
    exact ⟨tw, _, _, _, rfl, rfl, SqT.of htup, atI_nat (j := 0) rfl, q⟩
end
end NP
namespace NP
open PySem PySem.Spec PyProof.Rows L2 NM
/-! ### what is due -/
theorem netOf_eq (n : Nat) (l : List Nat) : Ks536.netOf n l = if isNetM n l = true then some ⟨n, pairs2 l⟩ else none := by
  unfold Ks536.netOf
  by_cases c : n < 1 ∨ Ks536.NODES < n
  · rw [if_pos c, isNetM_no (by intro z; unfold Ks536.NODES at c; omega)]
    rfl
  · rw [if_neg c]
    unfold Ks536.NODES at c
    by_cases ev : l.length % 2 = 0
    · rw [linksOf_even l ev]
      simp only
      unfold Ks536.LINKS
      have hl := pairs2_len l
      by_cases c2 : 10 < (pairs2 l).length
      · rw [if_pos c2, isNetM_no (by omega)]
        rfl
      · rw [if_neg c2]
        have hh : 1 ≤ n ∧ n ≤ 7 ∧ l.length % 2 = 0 ∧ l.length ≤ 20 := by omega
        rw [isNetM_yes hh]
        have ok := okNet_iff n (pairs2 l)
        by_cases z : Ks536.okNet ⟨n, pairs2 l⟩ = true
        · obtain ⟨_, h1, h2⟩ := ok.mp z
          rw [if_pos z, h1, h2]
          rfl
        · rw [if_neg z]
          cases h1 : okL n [] (pairs2 l) with
          | false => rfl
          | true =>
            cases h2 : Ks536.joined ⟨n, pairs2 l⟩ with
            | false => rfl
            | true => exact absurd (ok.mpr ⟨⟨hh.1, hh.2.1, by omega⟩, h1, h2⟩) z
    · rw [linksOf_odd l (by omega), isNetM_no (by omega)]
      rfl
theorem two_no {n u v : Nat} {l : List Nat} {f : Ks536.Net → Ks537.Ans} (h : isNetM n l = false) : Ks537.two n u v l f = Ks537.no (-22) := by
  unfold Ks537.two Ks536.net
  rw [netOf_eq, h]
  rfl
theorem two_place {n u v : Nat} {l : List Nat} {f : Ks536.Net → Ks537.Ans} (h : isNetM n l = true) (c : n ≤ u ∨ n ≤ v) : Ks537.two n u v l f = Ks537.no (-2) := by
  unfold Ks537.two Ks536.net
  rw [netOf_eq, if_pos h]
  exact if_pos c
theorem two_yes {n u v : Nat} {l : List Nat} {f : Ks536.Net → Ks537.Ans} (h : isNetM n l = true) (c : ¬ (n ≤ u ∨ n ≤ v)) : Ks537.two n u v l f = f ⟨n, pairs2 l⟩ := by
  unfold Ks537.two Ks536.net
  rw [netOf_eq, if_pos h]
  exact if_neg c
theorem isNetM_good {n : Nat} {l : List Nat} (h : isNetM n l = true) : 1 ≤ n ∧ n ≤ 7 ∧ l.length % 2 = 0 ∧ l.length ≤ 20 ∧ goodL n (pairs2 l) ∧ Ks536.joined ⟨n, pairs2 l⟩ = true := by
  have hh : 1 ≤ n ∧ n ≤ 7 ∧ l.length % 2 = 0 ∧ l.length ≤ 20 := by
    refine Decidable.byContradiction fun z => ?_
    rw [isNetM_no z] at h
    cases h
  rw [isNetM_yes hh, Bool.and_eq_true] at h
  exact ⟨hh.1, hh.2.1, hh.2.2.1, hh.2.2.2, ((okL_iff n (pairs2 l) []).mp h.1).1, h.2⟩
theorem find_some {p : Nat → Bool} {m k : Nat} (hk : k < m) (hp : p k = true) (hn : ∀ j, j < k → p j = false) : (List.range m).find? p = some k := by
  rw [List.find?_range_eq_some]
  exact ⟨hp, by simpa using hk, fun j hj => by rw [hn j hj]; rfl⟩
theorem find_none {p : Nat → Bool} {m : Nat} (hn : ∀ j, j < m → p j = false) : (List.range m).find? p = none := by
  rw [List.find?_eq_none]
  intro x hx
  rw [hn x (List.mem_range.mp hx)]
  decide
end NP
namespace NP
open PySem PySem.Spec PyProof.Rows L2 NM
section
variable {P : Program} {w : World} {K : PySem.W.Frag} {mg : Str → Option Value} {base : Heap}
/-! ### places_by_word -/
theorem scPlaces : FnScope ["start", "word", "exits", "places", "letter"] ["start", "word", "exits"] (defScope sPlaces) := ⟨rfl, rfl, rfl, by decide +kernel, rfl, by decide +kernel, by decide +kernel⟩
def spPlaces (K : PySem.W.Frag) : Sp := fun vs H Q _ => ∃ (t : Ks536.Net) (u : Nat) (w : List Nat) (b e : Addr), vs = [vN u, .ref b, .ref e] ∧ SqL K H b (vNs w) ∧ w.length ≤ 32 ∧ ExitsAt H e (rowsOf t) ∧ netOk t ∧ u < t.n ∧
  ∀ H' p, Same H H' → H p = none → H' p = some (.lst (vNs (Ks536.walk t u w))) → Q (.ref p) H'
theorem ok_places {f fB : Addr} {fd fdB : FuncData} (F : Fun K "places_by_word" "places_by_word" sPlaces f fd) (FB : Fun K "behind_letter" "behind_letter" sBehind fB fdB) (bB : Binds K fdB ["place", "letter", "exits"] []) (gB : mg "behind_letter" = some (.ref fB)) (ml : mg "len" = none) :
    FnOk P w K mg base CX0 2 f fd ["start", "word", "exits"] (spPlaces K) := by
  have GB : FnOk P w K mg base CX0 1 fB fdB ["place", "letter", "exits"] spBehind := ok_behind FB ml
  refine F.ok scPlaces (fun vs H Q E h => ?_) (fun cdv A outer s H vs Q E hr h => ?_)
  · obtain ⟨t, u, w, b, e, rfl, _⟩ := h
    rfl
  · obtain ⟨t, u, wd, b, e, rfl, hS, hwl, hE, ⟨hn7, hg, _⟩, hu, q⟩ := h
    refine ⟨_, pss_cons (ps_set (i := 3) scPlaces.nd rfl (Or.inl rfl) (pe_lst (pa_cons (pv 0) pa_nil)))
      (pss_cons (ps_for PassesOwn.never rfl (pi_list (pv 1)) (pg_name (i := 4) scPlaces.nd rfl (Or.inl rfl))
        (pss_one (ps_expr (pe_bm PySem.F.plainAttrs_list PySem.F.slot_list_append PySem.F.type_list_append mt_append (pv 3) (pa_cons (pe_call GB hr rfl gB FB.kp bB .nil pass0 (pa_cons (pe_ix ix_list (pv 3) (pe_un un_neg pe_int) (fun _ _ => rfl)) (pa_cons (pv 4) (pa_cons (pv 2) pa_nil)))) pa_nil)))))
      (pss_one (ps_ret (pv 3)))), ?_⟩
    refine ⟨_, rfl, szl 1 (by omega), fun p hp => ?_⟩
    have s1 : Same H (upd H p (.lst [vN u])) := same_new hp
    refine ⟨_, rfl, b, rfl, ⟨_, s1.seq hS⟩, for_list (K := K) (a := b) (xs := vNs wd) (fun i σ Hc => ∃ x4, σ = [some (vN u), some (.ref b), some (.ref e), some (.ref p), x4] ∧ Same H Hc ∧ Hc p = some (.lst (vNs (Ks536.walk t u (wd.take i)))))
      ⟨none, rfl, s1, upd_same⟩ (fun i σ Hc _ ⟨_, _, sm, _⟩ => sm.seq hS) ?_ ?_⟩
    · rintro i v σ Hc hi ⟨x4, rfl, sm, hpc⟩
      obtain ⟨x, hx, rfl⟩ := vNs_of hi
      have hil := lt_of_at hx
      have hwal : (Ks536.walk t u (wd.take i)) = (Ks536.walk t u (wd.take i)).dropLast ++ [posW t u (wd.take i) (wd.take i).length] := by
        have h1 := walk_last t (wd.take i) u
        rw [walk_at t u (wd.take i) (Nat.le_refl _)] at h1
        obtain ⟨ys, ey⟩ := List.getLast?_eq_some_iff.mp h1
        rw [ey, List.dropLast_concat]
      have hlast : atI (vNs (Ks536.walk t u (wd.take i))) (-1) = some (vN (posW t u (wd.take i) (wd.take i).length)) := by
        rw [hwal]
        unfold vNs
        rw [List.map_append]
        exact atI_last _ _
      have hlt : posW t u (wd.take i) (wd.take i).length < t.n := by
        have hm : posW t u (wd.take i) (wd.take i).length ∈ Ks536.walk t u (wd.take i) := by
          rw [hwal]
          exact List.mem_append_right _ List.mem_cons_self
        exact pos_lt (n := t.n) (ls := t.links) hg (wd.take i) u hu _ hm
      refine ⟨_, rfl, .inl ⟨rfl, _, SqL.of hpc⟩, _, rfl, 1, rfl, p, _, -1, _, rfl, rfl, SqL.of hpc, hlast, _, rfl, _, rfl, ?_⟩
      refine ⟨t, _, x, e, rfl, Same.exits sm hE, hlt, ?_⟩
      refine ⟨p, _, _, rfl, rfl, hpc, ?_, ?_⟩
      · rw [vNs_len, walk_len, List.length_take]
        exact sz _ (by omega)
      · refine ⟨some (vN x), rfl, fun b' o eb => ?_, ?_⟩
        · rw [upd_ne (ne_of_none eb hp)]
          exact sm _ _ eb
        · rw [upd_same, take_more hx, walk_snoc]
          unfold vNs
          rw [List.map_append]
          rfl
    · rintro σ Hc ⟨x4, rfl, sm, hpc⟩
      rw [vNs_len, List.take_length] at hpc
      exact ⟨_, rfl, q Hc p sm hp hpc⟩
/-! ### place_at -/
theorem scPlaceAt : FnScope ["step", "places"] ["step", "places"] (defScope sPlaceAt) := ⟨rfl, rfl, rfl, by decide +kernel, rfl, by decide +kernel, by decide +kernel⟩
def spPlaceAt : Sp := fun vs H Q _ => ∃ (z : Int) (p : Addr) (l : List Nat), vs = [.int z, .ref p] ∧ H p = some (.lst (vNs l)) ∧ 0 < l.length ∧ Q (vN (l.getD (min z.toNat (l.length - 1)) 0)) H
theorem ok_placeAt {f : Addr} {fd : FuncData} (F : Fun K "place_at" "place_at" sPlaceAt f fd) (ml : mg "len" = none) (mn : mg "min" = none) (mx : mg "max" = none) : FnOk P w K mg base CX0 1 f fd ["step", "places"] spPlaceAt := by
  refine F.ok scPlaceAt (fun vs H Q E h => ?_) (fun cdv A outer s H vs Q E hr h => ?_)
  · obtain ⟨z, p, l, rfl, _⟩ := h
    rfl
  · obtain ⟨z, p, l, rfl, hp, hl, q⟩ := h
    refine ⟨_, pss_one (ps_ret (pe_ix ix_list (pv 1) (pe_callB (call_min2 rfl) (by rfl) mn (by decide +kernel) (pa_cons (pe_callB (call_max2 rfl) (by rfl) mx (by decide +kernel) (pa_cons (pv 0) (pa_cons pe_int pa_nil))) (pa_cons (pe_op op_sub (pe_callB call_len_seq (by rfl) ml PySem.boot_len (pa_cons (pv 1) pa_nil)) pe_int) pa_nil))) (fun _ _ => rfl))), ?_⟩
    refine ⟨_, rfl, _, rfl, _, _, rfl, _, rfl, p, _, rfl, .inl (SqL.of hp), _, _, rfl, rfl, _, _, rfl, p, _, _, _, rfl, rfl, SqL.of hp, at_of (j := min z.toNat (l.length - 1)) ?_ (vNs_at ?_), q⟩
    · rw [vNs_len]
      split <;> split <;> omega
    · rw [List.getD_eq_getElem?_getD, List.getElem?_eq_getElem (by omega)]
      rfl
end
end NP
namespace NP
open PySem PySem.Spec PyProof.Rows L2 NM
/-! ### meets -/
def meetsM (n u v d : Nat) (l w : List Nat) : List Int := Ks537Neutral.out (Ks537.answer (.meets n u v d l w))
theorem scMeets : FnScope ["n", "u", "v", "d", "net", "word", "refused", "exits", "first", "second", "step", "place"] ["n", "u", "v", "d", "net", "word"] (defScope sMeets) := ⟨rfl, rfl, rfl, by decide +kernel, rfl, by decide +kernel, by decide +kernel⟩
def spMeets (K : PySem.W.Frag) : Sp := fun vs H Q _ => ∃ (n u v d : Nat) (a b : Addr) (l wd : List Nat), vs = [vN n, vN u, vN v, vN d, .ref a, .ref b] ∧ SqL K H a (vNs l) ∧ l.length ≤ 24 ∧ SqL K H b (vNs wd) ∧ wd.length ≤ 32 ∧
  ∀ (H' : Hp) (p : Addr), H' p = some (.lst ((meetsM n u v d l wd).map V.int)) → Q (.ref p) H'
structure TxtMeets (K : PySem.W.Frag) (mg : Str → Option Value) (fR fN fB fW fP : Addr) (fdR fdN fdB fdW fdP : FuncData) : Prop where
  mn : mg "min" = none
  mx : mg "max" = none
  cN : ∃ t, mg "NO_NET" = some (.int (-22) t)
  cP : ∃ t, mg "NO_PLACE" = some (.int (-2) t)
  cT : ∃ t, mg "TOO_LONG" = some (.int (-22) t)
  cM : ∃ t, mg "NO_MEETING" = some (.int (-33) t)
  cL : ∃ t, mg "MOST_LETTERS" = some (.int 30 t)
  cS : ∃ t, mg "MOST_STEPS_LATER" = some (.int 20 t)
  FR : Fun K "refusal" "refusal" sRefusal fR fdR
  bR : Binds K fdR ["n", "u", "v", "net"] []
  gR : mg "refusal" = some (.ref fR)
  FN : Fun K "is_net" "is_net" sIsNet fN fdN
  bN : Binds K fdN ["n", "net"] []
  gN : mg "is_net" = some (.ref fN)
  FB : Fun K "behind_letter" "behind_letter" sBehind fB fdB
  bB : Binds K fdB ["place", "letter", "exits"] []
  gB : mg "behind_letter" = some (.ref fB)
  FW : Fun K "places_by_word" "places_by_word" sPlaces fW fdW
  bW : Binds K fdW ["start", "word", "exits"] []
  gW : mg "places_by_word" = some (.ref fW)
  FP : Fun K "place_at" "place_at" sPlaceAt fP fdP
  bP : Binds K fdP ["step", "places"] []
  gP : mg "place_at" = some (.ref fP)
section
variable {P : Program} {w : World} {K : PySem.W.Frag} {mg : Str → Option Value} {base : Heap}
theorem ok_meets {f fL fA fE fH fD fR fN fB fW fP : Addr} {fd fdL fdA fdE fdH fdD fdR fdN fdB fdW fdP : FuncData} (F : Fun K "meets" "meets" sMeets f fd) (T : TxtNet K mg fL fA fE fH fD fdL fdA fdE fdH fdD) (U : TxtMeets K mg fR fN fB fW fP fdR fdN fdB fdW fdP) :
    FnOk P w K mg base CX0 5 f fd ["n", "u", "v", "d", "net", "word"] (spMeets K) := by
  have GR : FnOk P w K mg base CX0 4 fR fdR ["n", "u", "v", "net"] (spRefusal K) := ok_refusal U.FR U.FN U.bN U.gN T U.cN U.cP
  have GE : FnOk P w K mg base CX0 2 fE fdE ["n", "net"] (spExits K) := ok_exits T.FE T.FL T.bL T.gL T.mr T.ml
  have GW : FnOk P w K mg base CX0 2 fW fdW ["start", "word", "exits"] (spPlaces K) := ok_places U.FW U.FB U.bB U.gB T.ml
  have GP : FnOk P w K mg base CX0 1 fP fdP ["step", "places"] spPlaceAt := ok_placeAt U.FP T.ml U.mn U.mx
  refine F.ok scMeets (fun vs H Q E h => ?_) (fun cdv A outer s H vs Q E hr h => ?_)
  · obtain ⟨n, u, v, d, a, b, l, wd, rfl, _⟩ := h
    rfl
  · obtain ⟨n, u, v, d, a, b, l, wd, rfl, hS, hlen, hW, hwl, q⟩ := h
    have hr2 : Room 2 _ := hr.mono (by decide)
    have hr1 : Room 1 _ := hr.mono (by decide)
    obtain ⟨tT, cT⟩ := U.cT
    obtain ⟨tM, cM⟩ := U.cM
    obtain ⟨tL, cL⟩ := U.cL
    obtain ⟨tS, cS⟩ := U.cS
    refine ⟨_, pss_cons (ps_set (i := 6) scMeets.nd rfl (Or.inl rfl) (pe_call GR hr rfl U.gR U.FR.kp U.bR .nil pass0 (pa_cons (pv 0) (pa_cons (pv 1) (pa_cons (pv 2) (pa_cons (pv 4) pa_nil))))))
      (pss_cons (ps_if (pt_cmpR op_notN (pv 6) pe_non (nomark _)) (pss_one (ps_ret (pe_lst (pa_cons (pv 6) pa_nil)))) pss_nil)
      (pss_cons (ps_if (PW.pt (pw_or (pt_cmpR op_gt (pe_callB call_len_seq (by rfl) T.ml PySem.boot_len (pa_cons (pv 5) pa_nil)) (pe_glob (v := .int 30) rfl cL ⟨_, rfl⟩) (nomark _)) (pw_or1 (pt_cmpR op_gt (pv 3) (pe_glob (v := .int 20) rfl cS ⟨_, rfl⟩) (nomark _))))) (pss_one (ps_ret (pe_lst (pa_cons (pe_glob (v := .int (-22)) rfl cT ⟨_, rfl⟩) pa_nil)))) pss_nil)
      (pss_cons (ps_set (i := 7) scMeets.nd rfl (Or.inl rfl) (pe_call GE hr2 rfl T.gE T.FE.kp T.bE .nil pass0 (pa_cons (pv 0) (pa_cons (pv 4) pa_nil))))
      (pss_cons (ps_set (i := 8) scMeets.nd rfl (Or.inl rfl) (pe_call GW hr2 rfl U.gW U.FW.kp U.bW .nil pass0 (pa_cons (pv 1) (pa_cons (pv 5) (pa_cons (pv 7) pa_nil)))))
      (pss_cons (ps_set (i := 9) scMeets.nd rfl (Or.inl rfl) (pe_call GW hr2 rfl U.gW U.FW.kp U.bW .nil pass0 (pa_cons (pv 2) (pa_cons (pv 5) (pa_cons (pv 7) pa_nil)))))
      (pss_cons (ps_for PassesOwn.never rfl (pi_range1 rfl T.mr (pa_cons (pe_op op_add (pe_op op_add (pe_callB call_len_seq (by rfl) T.ml PySem.boot_len (pa_cons (pv 5) pa_nil)) (pv 3)) pe_int) pa_nil)) (pg_name (i := 10) scMeets.nd rfl (Or.inl rfl))
        (pss_cons (ps_set (i := 11) scMeets.nd rfl (Or.inl rfl) (pe_call GP hr1 rfl U.gP U.FP.kp U.bP .nil pass0 (pa_cons (pv 10) (pa_cons (pv 8) pa_nil))))
        (pss_one (ps_if (pt_cmpR op_eq (pv 11) (pe_call GP hr1 rfl U.gP U.FP.kp U.bP .nil pass0 (pa_cons (pe_op op_sub (pv 10) (pv 3)) (pa_cons (pv 9) pa_nil))) (nomark _)) (pss_one (ps_ret (pe_lst (pa_cons (pv 10) (pa_cons (pv 11) pa_nil))))) pss_nil))))
      (pss_one (ps_ret (pe_lst (pa_cons (pe_glob (v := .int (-33)) rfl cM ⟨_, rfl⟩) pa_nil)))))))))), ?_⟩
    -- refused = refusal(n, u, v, net)
    refine ⟨_, rfl, _, rfl, _, rfl, _, rfl, n, u, v, a, l, rfl, hS, hlen, fun H1 sm1 => ?_⟩
    have done : ∀ (x : Int) (Hx : Hp) (z : V), z = .int x → meetsM n u v d l wd = [x] → ∀ p, Q (.ref p) (upd Hx p (.lst [z])) := fun x Hx z ez e p => by
      refine q _ p ?_
      rw [upd_same, e, ez]
      rfl
    refine ⟨_, rfl, rfl, _, rfl, ?_⟩
    cases hk : isNetM n l with
    | false =>
      have er : refV n u v l = .int (-22) := if_pos hk
      rw [er]
      refine iteT ?_
      refine ⟨_, rfl, szl 1 (by omega), fun p _ => done (-22) H1 _ rfl ?_ p⟩
      show Ks537Neutral.out (Ks537.two n u v l _) = _
      rw [two_no hk]
      rfl
    | true =>
      have er0 : refV n u v l = if n ≤ u ∨ n ≤ v then .int (-2) else .non := if_neg (by rw [hk]; decide)
      by_cases c : n ≤ u ∨ n ≤ v
      · have er : refV n u v l = .int (-2) := er0.trans (if_pos c)
        rw [er]
        refine iteT ?_
        refine ⟨_, rfl, szl 1 (by omega), fun p _ => done (-2) H1 _ rfl ?_ p⟩
        show Ks537Neutral.out (Ks537.two n u v l _) = _
        rw [two_place hk c]
        rfl
      have er : refV n u v l = .non := er0.trans (if_neg c)
      rw [er]
      refine iteF ?_
      obtain ⟨n1, n7, hev, h20, hg, hj⟩ := isNetM_good hk
      have hu : u < n := by omega
      have hv : v < n := by omega
      have hans : meetsM n u v d l wd = Ks537Neutral.out (if Ks536.LONG < wd.length ∨ 20 < d then Ks537.no (-22) else match Ks537.meets ⟨n, pairs2 l⟩ u v d wd with
        | none => Ks537.no (-33)
        | some k => { ret := k, out := [Ks537.at_ ⟨n, pairs2 l⟩ u 0 wd k] }) := by
        show Ks537Neutral.out (Ks537.two n u v l _) = _
        rw [two_yes hk c]
        rfl
      have hW1 : SqL K H1 b (vNs wd) := sm1.seq hW
      -- len(word) > MOST_LETTERS or d > MOST_STEPS_LATER
      refine ⟨_, rfl, b, _, rfl, .inl hW1, _, _, rfl, rfl, _, rfl, ?_⟩
      rw [vNs_len]
      refine ite2 (fun e => ?_) (fun e => ?_)
      · have e' := of_decide_eq_true e
        rw [if_pos (.inl (by unfold Ks536.LONG; omega))] at hans
        exact ⟨szl 1 (by omega), fun p _ => done (-22) H1 _ rfl (hans.trans rfl) p⟩
      have w30 : ¬ 30 < wd.length := fun z => e (decide_eq_true (by omega : (30 : Int) < ((wd.length : Nat) : Int)))
      refine ⟨_, rfl, _, _, rfl, rfl, _, rfl, ite2 (fun e => ?_) (fun e => ?_)⟩
      · have e' := of_decide_eq_true e
        rw [if_pos (.inr (by omega))] at hans
        exact ⟨szl 1 (by omega), fun p _ => done (-22) H1 _ rfl (hans.trans rfl) p⟩
      have d20 : ¬ 20 < d := fun z => e (decide_eq_true (by omega : (20 : Int) < (d : Int)))
      rw [if_neg (by unfold Ks536.LONG; omega)] at hans
      generalize ht : (⟨n, pairs2 l⟩ : Ks536.Net) = t at hans
      have htn : t.n = n := by rw [← ht]
      have hok : netOk t := by
        rw [← ht]
        refine ⟨n7, hg, ?_⟩
        show (pairs2 l).length ≤ 12
        rw [pairs2_len]
        omega
      -- exits = exits_of(n, net)
      refine ⟨_, rfl, _, rfl, n, a, l, rfl, sm1.seq hS, hev, hlen, n7, hg, fun H2 pe sm2 _ hE => ?_⟩
      have hE2 : ExitsAt H2 pe (rowsOf t) := by
        rw [exits_eq n _ hg] at hE
        rw [← ht]
        exact hE
      -- first, second
      refine ⟨_, rfl, _, rfl, _, rfl, t, u, wd, b, pe, rfl, sm2.seq hW1, hwl, hE2, hok, by omega, fun H3 p1 sm3 _ hp1 => ?_⟩
      refine ⟨_, rfl, _, rfl, _, rfl, t, v, wd, b, pe, rfl, sm3.seq (sm2.seq hW1), hwl, Same.exits sm3 hE2, hok, by omega, fun H4 p2 sm4 _ hp2 => ?_⟩
      have hp1' := sm4 _ _ hp1
      have hW4 : SqL K H4 b (vNs wd) := sm4.seq (sm3.seq (sm2.seq hW1))
      -- for step in range(len(word) + d + 1)
      refine ⟨_, rfl, b, _, rfl, .inl hW4, _, rfl, _, _, rfl, rfl, _, _, rfl, rfl, ((wd.length + d + 1 : Nat) : Int), ?_, by omega, by omega, ?_⟩
      · rw [vNs_len]
        rfl
      refine for_range (lo := 0) (n := ((wd.length + d + 1 : Nat) : Int).toNat) (fun i σ Hc => ∃ x10 x11, σ = [some (vN n), some (vN u), some (vN v), some (vN d), some (.ref a), some (.ref b), some .non, some (.ref pe), some (.ref p1), some (.ref p2), x10, x11] ∧ Hc = H4 ∧ ∀ k, k < i → Ks537.at_ t u 0 wd k ≠ Ks537.at_ t v d wd k)
        ⟨none, none, rfl, rfl, fun k hk => by omega⟩ ?_ ?_
      · rintro i σ Hc hi ⟨x10, x11, rfl, rfl, hno⟩
        have hi' : i < wd.length + d + 1 := by omega
        have e0 : (0 : Int) + (i : Int) = (i : Int) := by omega
        rw [e0]
        refine ⟨_, rfl, _, rfl, (i : Int), p1, _, rfl, hp1', by rw [walk_len]; omega, ?_⟩
        have ea : (Ks536.walk t u wd).getD (min ((i : Int)).toNat ((Ks536.walk t u wd).length - 1)) 0 = Ks537.at_ t u 0 wd i := by
          rw [at_eq, walk_len]
          rfl
        rw [ea]
        refine ⟨_, rfl, _, rfl, _, rfl, _, _, rfl, rfl, _, rfl, (i : Int) - (d : Int), p2, _, rfl, hp2, by rw [walk_len]; omega, ?_⟩
        have eb : (Ks536.walk t v wd).getD (min ((i : Int) - (d : Int)).toNat ((Ks536.walk t v wd).length - 1)) 0 = Ks537.at_ t v d wd i := by
          rw [at_eq, walk_len]
          have : ((i : Int) - (d : Int)).toNat = i - d := by omega
          rw [this]
          rfl
        rw [eb]
        refine ⟨rfl, _, rfl, ite2 (fun e => ?_) (fun e => ?_)⟩
        · have e' := vN_inj (of_decide_eq_true e)
          refine ⟨_, rfl, _, rfl, szl 2 (by omega), fun p _ => q _ p ?_⟩
          have hm : Ks537.meets t u v d wd = some i := by
            unfold Ks537.meets
            refine find_some hi' (by rw [e']; exact beq_self_eq_true _) fun j hj => ?_
            exact beq_eq_false_iff_ne.mpr (hno j hj)
          rw [hm] at hans
          rw [upd_same, hans]
          rfl
        · refine ⟨some (vN i), some (vN (Ks537.at_ t u 0 wd i)), rfl, rfl, fun k hk => ?_⟩
          by_cases ek : k = i
          · subst ek
            exact fun z => e (decide_eq_true (by rw [z]))
          · exact hno k (by omega)
      · rintro σ Hc ⟨x10, x11, rfl, rfl, hno⟩
        have hm : Ks537.meets t u v d wd = none := by
          unfold Ks537.meets
          refine find_none fun j hj => ?_
          exact beq_eq_false_iff_ne.mpr (hno j (by omega))
        rw [hm] at hans
        exact ⟨szl 1 (by omega), fun p _ => done (-33) _ _ rfl (hans.trans rfl) p⟩
end
end NP
namespace NP
open PySem PySem.Spec PyProof.Rows L2 NM
open PySem.W (Codec)
theorem all_mk {P : Program} {w : World} {K : PySem.W.Frag} {h : Heap} {mg : Str → Option Value} {fa : Addr} (X : K.In h) (G : h.Ns mainGlobals mg) (hfa : mg "meets" = some (.ref fa))
    {f1 : Addr} {od1 an1 : Option Addr} {sl1 : Array (Option Value)} {oc1 kV1 dc1 pm1 cd1 ct1 : Value}
    {f2 : Addr} {od2 an2 : Option Addr} {sl2 : Array (Option Value)} {oc2 kV2 dc2 pm2 cd2 ct2 : Value}
    {f3 : Addr} {od3 an3 : Option Addr} {sl3 : Array (Option Value)} {oc3 kV3 dc3 pm3 cd3 ct3 : Value}
    {f4 : Addr} {od4 an4 : Option Addr} {sl4 : Array (Option Value)} {oc4 kV4 dc4 pm4 cd4 ct4 : Value}
    {f5 : Addr} {od5 an5 : Option Addr} {sl5 : Array (Option Value)} {oc5 kV5 dc5 pm5 cd5 ct5 : Value}
    {f6 : Addr} {od6 an6 : Option Addr} {sl6 : Array (Option Value)} {oc6 kV6 dc6 pm6 cd6 ct6 : Value}
    {f7 : Addr} {od7 an7 : Option Addr} {sl7 : Array (Option Value)} {oc7 kV7 dc7 pm7 cd7 ct7 : Value}
    {f8 : Addr} {od8 an8 : Option Addr} {sl8 : Array (Option Value)} {oc8 kV8 dc8 pm8 cd8 ct8 : Value}
    {f9 : Addr} {od9 an9 : Option Addr} {sl9 : Array (Option Value)} {oc9 kV9 dc9 pm9 cd9 ct9 : Value}
    {f10 : Addr} {od10 an10 : Option Addr} {sl10 : Array (Option Value)} {oc10 kV10 dc10 pm10 cd10 ct10 : Value}
    {f11 : Addr} {od11 an11 : Option Addr} {sl11 : Array (Option Value)} {oc11 kV11 dc11 pm11 cd11 ct11 : Value}
    {tk1 : Tok}
    {tk2 : Tok}
    {tk3 : Tok}
    {tk4 : Tok}
    {tk5 : Tok}
    {tk6 : Tok}
    {tk7 : Tok}
    {tk8 : Tok}
    (a1 : PySem.W.nsIn K mainGlobals "meets" = some (some (.ref f1))) (l1 : K.lookup f1 = some ⟨oc1, od1, .func (PySem.W.fnOf "meets" "meets" (defArgs sMeets) (defBody sMeets) (defScope sMeets) .none kV1 dc1 pm1 an1 cd1 ct1), sl1⟩) (c1 : PySem.W.codeIn K cd1 "meets" = true) (k1 : PySem.W.keepIn K (.ref f1) = true)
    (a2 : PySem.W.nsIn K mainGlobals "refusal" = some (some (.ref f2))) (l2 : K.lookup f2 = some ⟨oc2, od2, .func (PySem.W.fnOf "refusal" "refusal" (defArgs sRefusal) (defBody sRefusal) (defScope sRefusal) .none kV2 dc2 pm2 an2 cd2 ct2), sl2⟩) (c2 : PySem.W.codeIn K cd2 "refusal" = true) (k2 : PySem.W.keepIn K (.ref f2) = true)
    (a3 : PySem.W.nsIn K mainGlobals "is_net" = some (some (.ref f3))) (l3 : K.lookup f3 = some ⟨oc3, od3, .func (PySem.W.fnOf "is_net" "is_net" (defArgs sIsNet) (defBody sIsNet) (defScope sIsNet) .none kV3 dc3 pm3 an3 cd3 ct3), sl3⟩) (c3 : PySem.W.codeIn K cd3 "is_net" = true) (k3 : PySem.W.keepIn K (.ref f3) = true)
    (a4 : PySem.W.nsIn K mainGlobals "links_of" = some (some (.ref f4))) (l4 : K.lookup f4 = some ⟨oc4, od4, .func (PySem.W.fnOf "links_of" "links_of" (defArgs sLinks) (defBody sLinks) (defScope sLinks) .none kV4 dc4 pm4 an4 cd4 ct4), sl4⟩) (c4 : PySem.W.codeIn K cd4 "links_of" = true) (k4 : PySem.W.keepIn K (.ref f4) = true)
    (a5 : PySem.W.nsIn K mainGlobals "are_links" = some (some (.ref f5))) (l5 : K.lookup f5 = some ⟨oc5, od5, .func (PySem.W.fnOf "are_links" "are_links" (defArgs sAre) (defBody sAre) (defScope sAre) .none kV5 dc5 pm5 an5 cd5 ct5), sl5⟩) (c5 : PySem.W.codeIn K cd5 "are_links" = true) (k5 : PySem.W.keepIn K (.ref f5) = true)
    (a6 : PySem.W.nsIn K mainGlobals "exits_of" = some (some (.ref f6))) (l6 : K.lookup f6 = some ⟨oc6, od6, .func (PySem.W.fnOf "exits_of" "exits_of" (defArgs sExits) (defBody sExits) (defScope sExits) .none kV6 dc6 pm6 an6 cd6 ct6), sl6⟩) (c6 : PySem.W.codeIn K cd6 "exits_of" = true) (k6 : PySem.W.keepIn K (.ref f6) = true)
    (a7 : PySem.W.nsIn K mainGlobals "hangs_together" = some (some (.ref f7))) (l7 : K.lookup f7 = some ⟨oc7, od7, .func (PySem.W.fnOf "hangs_together" "hangs_together" (defArgs sHangs) (defBody sHangs) (defScope sHangs) .none kV7 dc7 pm7 an7 cd7 ct7), sl7⟩) (c7 : PySem.W.codeIn K cd7 "hangs_together" = true) (k7 : PySem.W.keepIn K (.ref f7) = true)
    (a8 : PySem.W.nsIn K mainGlobals "distances_from" = some (some (.ref f8))) (l8 : K.lookup f8 = some ⟨oc8, od8, .func (PySem.W.fnOf "distances_from" "distances_from" (defArgs sDist) (defBody sDist) (defScope sDist) .none kV8 dc8 pm8 an8 cd8 ct8), sl8⟩) (c8 : PySem.W.codeIn K cd8 "distances_from" = true) (k8 : PySem.W.keepIn K (.ref f8) = true)
    (a9 : PySem.W.nsIn K mainGlobals "behind_letter" = some (some (.ref f9))) (l9 : K.lookup f9 = some ⟨oc9, od9, .func (PySem.W.fnOf "behind_letter" "behind_letter" (defArgs sBehind) (defBody sBehind) (defScope sBehind) .none kV9 dc9 pm9 an9 cd9 ct9), sl9⟩) (c9 : PySem.W.codeIn K cd9 "behind_letter" = true) (k9 : PySem.W.keepIn K (.ref f9) = true)
    (a10 : PySem.W.nsIn K mainGlobals "places_by_word" = some (some (.ref f10))) (l10 : K.lookup f10 = some ⟨oc10, od10, .func (PySem.W.fnOf "places_by_word" "places_by_word" (defArgs sPlaces) (defBody sPlaces) (defScope sPlaces) .none kV10 dc10 pm10 an10 cd10 ct10), sl10⟩) (c10 : PySem.W.codeIn K cd10 "places_by_word" = true) (k10 : PySem.W.keepIn K (.ref f10) = true)
    (a11 : PySem.W.nsIn K mainGlobals "place_at" = some (some (.ref f11))) (l11 : K.lookup f11 = some ⟨oc11, od11, .func (PySem.W.fnOf "place_at" "place_at" (defArgs sPlaceAt) (defBody sPlaceAt) (defScope sPlaceAt) .none kV11 dc11 pm11 an11 cd11 ct11), sl11⟩) (c11 : PySem.W.codeIn K cd11 "place_at" = true) (k11 : PySem.W.keepIn K (.ref f11) = true)
    (n1 : PySem.W.nsIn K mainGlobals "NO_NET" = some (some (.int (-22) tk1)))
    (n2 : PySem.W.nsIn K mainGlobals "NO_PLACE" = some (some (.int (-2) tk2)))
    (n3 : PySem.W.nsIn K mainGlobals "TOO_LONG" = some (some (.int (-22) tk3)))
    (n4 : PySem.W.nsIn K mainGlobals "NO_MEETING" = some (some (.int (-33) tk4)))
    (n5 : PySem.W.nsIn K mainGlobals "MOST_PLACES" = some (some (.int (7) tk5)))
    (n6 : PySem.W.nsIn K mainGlobals "MOST_LINKS" = some (some (.int (10) tk6)))
    (n7 : PySem.W.nsIn K mainGlobals "MOST_LETTERS" = some (some (.int (30) tk7)))
    (n8 : PySem.W.nsIn K mainGlobals "MOST_STEPS_LATER" = some (some (.int (20) tk8)))
    (z1 : PySem.W.nsIn K mainGlobals "len" = some none)
    (z2 : PySem.W.nsIn K mainGlobals "range" = some none)
    (z3 : PySem.W.nsIn K mainGlobals "min" = some none)
    (z4 : PySem.W.nsIn K mainGlobals "max" = some none) :
    ∃ fd : FuncData, (∀ (s : Shared) (us : List Value), us.length = (["n", "u", "v", "d", "net", "word"] : List Str).length → BindsTo s fd ⟨us, []⟩ ((["n", "u", "v", "d", "net", "word"] : List Str).zip us)) ∧ ∀ base : Heap, K.In base → base.Ns mainGlobals mg → FnOk P w K mg base CX0 5 fa fd ["n", "u", "v", "d", "net", "word"] (spMeets K) := by
  have e := hfa.symm.trans (PySem.W.mg_of X G a1)
  cases e
  have F1 := fun_mk (st := sMeets) l1 c1 k1
  have F2 := fun_mk (st := sRefusal) l2 c2 k2
  have F3 := fun_mk (st := sIsNet) l3 c3 k3
  have F4 := fun_mk (st := sLinks) l4 c4 k4
  have F5 := fun_mk (st := sAre) l5 c5 k5
  have F6 := fun_mk (st := sExits) l6 c6 k6
  have F7 := fun_mk (st := sHangs) l7 c7 k7
  have F8 := fun_mk (st := sDist) l8 c8 k8
  have F9 := fun_mk (st := sBehind) l9 c9 k9
  have F10 := fun_mk (st := sPlaces) l10 c10 k10
  have F11 := fun_mk (st := sPlaceAt) l11 c11 k11
  have b2 := F2.binds (ps := ["n", "u", "v", "net"]) fun _ _ _ _ _ _ us hl => match us, hl with | [_, _, _, _], _ => rfl
  have b3 := F3.binds (ps := ["n", "net"]) fun _ _ _ _ _ _ us hl => match us, hl with | [_, _], _ => rfl
  have b4 := F4.binds (ps := ["net"]) fun _ _ _ _ _ _ us hl => match us, hl with | [_], _ => rfl
  have b5 := F5.binds (ps := ["n", "links"]) fun _ _ _ _ _ _ us hl => match us, hl with | [_, _], _ => rfl
  have b6 := F6.binds (ps := ["n", "net"]) fun _ _ _ _ _ _ us hl => match us, hl with | [_, _], _ => rfl
  have b7 := F7.binds (ps := ["exits"]) fun _ _ _ _ _ _ us hl => match us, hl with | [_], _ => rfl
  have b8 := F8.binds (ps := ["start", "exits"]) fun _ _ _ _ _ _ us hl => match us, hl with | [_, _], _ => rfl
  have b9 := F9.binds (ps := ["place", "letter", "exits"]) fun _ _ _ _ _ _ us hl => match us, hl with | [_, _, _], _ => rfl
  have b10 := F10.binds (ps := ["start", "word", "exits"]) fun _ _ _ _ _ _ us hl => match us, hl with | [_, _, _], _ => rfl
  have b11 := F11.binds (ps := ["step", "places"]) fun _ _ _ _ _ _ us hl => match us, hl with | [_, _], _ => rfl
  have T : TxtNet K mg _ _ _ _ _ _ _ _ _ _ := ⟨PySem.W.mg_none_of X G z1, PySem.W.mg_none_of X G z2, ⟨_, PySem.W.mg_of X G n5⟩, ⟨_, PySem.W.mg_of X G n6⟩, F4, b4, PySem.W.mg_of X G a4, F5, b5, PySem.W.mg_of X G a5, F6, b6, PySem.W.mg_of X G a6, F7, b7, PySem.W.mg_of X G a7, F8, b8, PySem.W.mg_of X G a8⟩
  have U : TxtMeets K mg _ _ _ _ _ _ _ _ _ _ := ⟨PySem.W.mg_none_of X G z3, PySem.W.mg_none_of X G z4, ⟨_, PySem.W.mg_of X G n1⟩, ⟨_, PySem.W.mg_of X G n2⟩, ⟨_, PySem.W.mg_of X G n3⟩, ⟨_, PySem.W.mg_of X G n4⟩, ⟨_, PySem.W.mg_of X G n7⟩, ⟨_, PySem.W.mg_of X G n8⟩, F2, b2, PySem.W.mg_of X G a2, F3, b3, PySem.W.mg_of X G a3, F9, b9, PySem.W.mg_of X G a9, F10, b10, PySem.W.mg_of X G a10, F11, b11, PySem.W.mg_of X G a11⟩
  exact ⟨PySem.W.fnOf "meets" "meets" (defArgs sMeets) (defBody sMeets) (defScope sMeets) .none kV1 dc1 pm1 an1 cd1 ct1, fun s us hu => match us, hu with | [_, _, _, _, _, _], _ => .of_eq rfl, fun base _ _ => ok_meets F1 T U⟩
theorem int_nat {z : Int} (h : PySem.W.Codec.inInt (Int.ofNat 0) (Int.ofNat 4294967295) z = true) : V.int z = vN z.toNat := by
  have := (Codec.inInt_iff.mp h).1
  have z0 : (0 : Int) ≤ z := this
  exact congrArg V.int (by omega)
theorem ints_nat : ∀ {l : List Int}, (l.all (PySem.W.Codec.inInt (Int.ofNat 0) (Int.ofNat 4294967295))) = true → l.map V.int = vNs (l.map Int.toNat)
  | [], _ => rfl
  | x :: r, h => by
    rw [List.all_cons, Bool.and_eq_true] at h
    show V.int x :: r.map V.int = vN x.toNat :: vNs (r.map Int.toNat)
    rw [int_nat h.1, ints_nat h.2]
end NP
open PySem PySem.W PyProof.Rows
set_option maxRecDepth 100000 in
set_option maxHeartbeats 8000000 in
theorem PySem.Challenge.cw_netmeeting_s02_meets_holds : PySem.Challenge.rw_netmeeting_s02_meets.Holds := by
  w_on; k_headS; (case hw => exact ⟨[.int 0, .int 0, .int 0, .int 0, .list [], .list []], by decide +kernel, by decide +kernel⟩)
  k_fillS
  refine L2.walk_specK (r := PySem.Challenge.rw_netmeeting_s02_meets) (k := 5) (CX := L2.CX0) (ps := ["n", "u", "v", "d", "net", "word"]) (sp := NP.spMeets) (by decide +kernel) rfl rfl ⟨rfl, by decide, by decide⟩ (fun w h Y => PySem.W.kIn_of Y) ?F ?S (fun _ _ _ _ z => z)
  case F =>
    intro w mg fa h Y KX G hmg
    refine' NP.all_mk KX G hmg ?a1 ?l1 ?c1 ?k1 ?a2 ?l2 ?c2 ?k2 ?a3 ?l3 ?c3 ?k3 ?a4 ?l4 ?c4 ?k4 ?a5 ?l5 ?c5 ?k5 ?a6 ?l6 ?c6 ?k6 ?a7 ?l7 ?c7 ?k7 ?a8 ?l8 ?c8 ?k8 ?a9 ?l9 ?c9 ?k9 ?a10 ?l10 ?c10 ?k10 ?a11 ?l11 ?c11 ?k11 ?n1 ?n2 ?n3 ?n4 ?n5 ?n6 ?n7 ?n8 ?z1 ?z2 ?z3 ?z4
    (case a1 => k_is)
    (case l1 => k_is)
    (case c1 => k_is)
    (case k1 => k_is)
    (case a2 => k_is)
    (case l2 => k_is)
    (case c2 => k_is)
    (case k2 => k_is)
    (case a3 => k_is)
    (case l3 => k_is)
    (case c3 => k_is)
    (case k3 => k_is)
    (case a4 => k_is)
    (case l4 => k_is)
    (case c4 => k_is)
    (case k4 => k_is)
    (case a5 => k_is)
    (case l5 => k_is)
    (case c5 => k_is)
    (case k5 => k_is)
    (case a6 => k_is)
    (case l6 => k_is)
    (case c6 => k_is)
    (case k6 => k_is)
    (case a7 => k_is)
    (case l7 => k_is)
    (case c7 => k_is)
    (case k7 => k_is)
    (case a8 => k_is)
    (case l8 => k_is)
    (case c8 => k_is)
    (case k8 => k_is)
    (case a9 => k_is)
    (case l9 => k_is)
    (case c9 => k_is)
    (case k9 => k_is)
    (case a10 => k_is)
    (case l10 => k_is)
    (case c10 => k_is)
    (case k10 => k_is)
    (case a11 => k_is)
    (case l11 => k_is)
    (case c11 => k_is)
    (case k11 => k_is)
    (case n1 => k_is)
    (case n2 => k_is)
    (case n3 => k_is)
    (case n4 => k_is)
    (case n5 => k_is)
    (case n6 => k_is)
    (case n7 => k_is)
    (case n8 => k_is)
    (case z1 => k_is)
    (case z2 => k_is)
    (case z3 => k_is)
    (case z4 => k_is)
  case S =>
    intro K H xs a hO hwi hask hx
    cases hx with
    | cons h1 hx =>
    cases hx with
    | cons h2 hx =>
    cases hx with
    | cons h3 hx =>
    cases hx with
    | cons h4 hx =>
    cases hx with
    | cons h5 hx =>
    cases hx with
    | cons h6 hx =>
    cases hx
    cases h1
    cases h2
    cases h3
    cases h4
    cases h5 with
    | @lst p5 xs5 ds5 hs5 ha5 =>
    cases h6 with
    | @lst p6 xs6 ds6 hs6 ha6 =>
    have e5 := L2.ints_dw a.2.2.2.2.1 _ ha5
    have e6 := L2.ints_dw a.2.2.2.2.2.1 _ ha6
    subst e5 e6
    have q : (Codec.inInt (Int.ofNat 0) (Int.ofNat 4294967295) a.1 && (Codec.inInt (Int.ofNat 0) (Int.ofNat 4294967295) a.2.1 && (Codec.inInt (Int.ofNat 0) (Int.ofNat 4294967295) a.2.2.1 && (Codec.inInt (Int.ofNat 0) (Int.ofNat 4294967295) a.2.2.2.1 && ((Codec.inLen 0 24 a.2.2.2.2.1 && a.2.2.2.2.1.all (Codec.inInt (Int.ofNat 0) (Int.ofNat 4294967295))) && ((Codec.inLen 0 32 a.2.2.2.2.2.1 && a.2.2.2.2.2.1.all (Codec.inInt (Int.ofNat 0) (Int.ofNat 4294967295))) && true)))))) = true := hwi
    simp only [Bool.and_eq_true] at q
    obtain ⟨q1, q2, q3, q4, ⟨q5, q5'⟩, ⟨q6, q6'⟩, _⟩ := q
    refine ⟨a.1.toNat, a.2.1.toNat, a.2.2.1.toNat, a.2.2.2.1.toNat, p5, p6, a.2.2.2.2.1.map Int.toNat, a.2.2.2.2.2.1.map Int.toNat, ?_, ?_, ?_, ?_, ?_, fun H' p hp => ?_⟩
    · rw [← NP.int_nat q1, ← NP.int_nat q2, ← NP.int_nat q3, ← NP.int_nat q4]
    · rw [← NP.ints_nat q5']
      exact hs5
    · rw [List.length_map]
      exact (Codec.inNat_iff.mp q5).2
    · rw [← NP.ints_nat q6']
      exact hs6
    · rw [List.length_map]
      exact (Codec.inNat_iff.mp q6).2
    · exact .lst (L2.SqL.of hp) (L2.dw_ints _)
#print axioms PySem.Challenge.cw_netmeeting_s02_meets_holds
