import PyProof.Rows.All
import Wide.All
import OpenK.AllK
import Wide.FinOn
import PyProof.EqAt
import PyProof.EqKinds
import PyProof.TupleCall
import Open.SpecLaws
import KE.OsGo
import HandS.ForSpec
import HandS.ForMost
import HandS.Walk
import HandS.Deep
import KE.KDictKeyed
import HandS.Conv
import HandS.TupAny
import PySem.Challenge.RW_netmeeting_s06_twins
set_option Elab.async false
set_option linter.all false
set_option maxRecDepth 100000
set_option maxHeartbeats 4000000
namespace NM
open Ks536 (Net)
abbrev Links := List (Nat × Nat)
abbrev ERow := List (Nat × Nat)
abbrev Exits := List ERow

/-! ### lists -/
theorem snoc_ind {α : Type} {P : List α → Prop} (h0 : P []) (hs : ∀ l x, P l → P (l ++ [x])) : ∀ l, P l := by
  intro l
  have h : ∀ m : List α, P m.reverse := by
    intro m
    induction m with
    | nil => exact h0
    | cons x r ih => rw [List.reverse_cons]; exact hs _ _ ih
  have := h l.reverse
  rwa [List.reverse_reverse] at this
theorem nodup_len_le {α : Type} [BEq α] [LawfulBEq α] : ∀ (l m : List α), l.Nodup → (∀ x ∈ l, x ∈ m) → l.length ≤ m.length
  | [], _, _, _ => Nat.zero_le _
  | x :: r, m, hn, hs => by
    have hx : x ∈ m := hs x List.mem_cons_self
    have h1 := List.nodup_cons.mp hn
    have ih := nodup_len_le r (m.erase x) h1.2 (fun y hy => by
      refine (List.mem_erase_of_ne ?_).mpr (hs y (List.mem_cons_of_mem _ hy))
      intro e
      exact h1.1 (e ▸ hy))
    rw [List.length_erase_of_mem hx] at ih
    have : 0 < m.length := List.length_pos_of_mem hx
    rw [List.length_cons]
    omega
theorem nodup_lt {l : List Nat} {n : Nat} (h : l.Nodup) (hl : ∀ x ∈ l, x < n) : l.length ≤ n := by
  have := nodup_len_le l (List.range n) h (fun x hx => List.mem_range.mpr (hl x hx))
  rwa [List.length_range] at this
theorem take_more {α : Type} {l : List α} {i : Nat} {x : α} (h : l[i]? = some x) : l.take (i + 1) = l.take i ++ [x] := by
  rw [List.take_add_one, h]; rfl

/-! ### links -/
def pairs2 : List Nat → Links
  | a :: b :: r => (a, b) :: pairs2 r
  | _ => []
theorem linksOf_even : ∀ l : List Nat, l.length % 2 = 0 → Ks536.linksOf l = some (pairs2 l)
  | [], _ => rfl
  | [_], h => by simp at h
  | a :: b :: r, h => by
    have ih := linksOf_even r (by simp at h; omega)
    show (Ks536.linksOf r).map _ = _
    rw [ih]; rfl
theorem linksOf_odd : ∀ l : List Nat, l.length % 2 = 1 → Ks536.linksOf l = none
  | [], h => by simp at h
  | [_], _ => rfl
  | a :: b :: r, h => by
    have ih := linksOf_odd r (by simp at h; omega)
    show (Ks536.linksOf r).map _ = _
    rw [ih]; rfl
theorem pairs2_len : ∀ l : List Nat, (pairs2 l).length = l.length / 2
  | [] => rfl
  | [_] => by simp [pairs2]
  | a :: b :: r => by
    have ih := pairs2_len r
    simp only [pairs2, List.length_cons, ih]
    omega
theorem pairs2_at : ∀ (l : List Nat) (i : Nat), 2 * i + 1 < l.length → (pairs2 l)[i]? = some (l.getD (2 * i) 0, l.getD (2 * i + 1) 0)
  | [], i, h => by simp at h
  | [_], i, h => by simp at h
  | a :: b :: r, 0, h => rfl
  | a :: b :: r, i + 1, h => by
    have ih := pairs2_at r i (by simp at h; omega)
    simp only [pairs2, List.getElem?_cons_succ, ih]
    rfl
/-- the link's loop: told, then the rest -/
def okL (n : Nat) : Links → Links → Bool
  | _, [] => true
  | told, (a, b) :: r => if a ≥ n ∨ b ≥ n ∨ a = b ∨ (a, b) ∈ told then false else okL n (told ++ [(a, b), (b, a)]) r
def sameL (p q : Nat × Nat) : Prop := (p.1 = q.1 ∧ p.2 = q.2) ∨ (p.1 = q.2 ∧ p.2 = q.1)
def goodL (n : Nat) (ls : Links) : Prop := ∀ p ∈ ls, p.1 < n ∧ p.2 < n ∧ p.1 ≠ p.2
theorem okL_iff (n : Nat) : ∀ (ls told : Links), okL n told ls = true ↔ goodL n ls ∧ (∀ p ∈ ls, p ∉ told) ∧ ls.Pairwise (fun p q => ¬ sameL p q)
  | [], told => by simp [okL, goodL]
  | (a, b) :: r, told => by
    rw [okL]
    by_cases h : a ≥ n ∨ b ≥ n ∨ a = b ∨ (a, b) ∈ told
    · rw [if_pos h]
      constructor
      · intro q; cases q
      · rintro ⟨h1, h2, h3⟩
        have z := h1 (a, b) List.mem_cons_self
        have z2 := h2 (a, b) List.mem_cons_self
        simp only at z
        rcases h with h | h | h | h
        · omega
        · omega
        · exact absurd h z.2.2
        · exact absurd h z2
    · rw [if_neg h, okL_iff n r]
      simp only [not_or] at h
      obtain ⟨h1, h2, h3, h4⟩ := h
      rw [List.pairwise_cons]
      constructor
      · rintro ⟨g1, g2, g3⟩
        refine ⟨?_, ?_, ?_, g3⟩
        · intro p hp
          rcases List.mem_cons.mp hp with e | hp
          · subst e; exact ⟨by omega, by omega, h3⟩
          · exact g1 p hp
        · intro p hp
          rcases List.mem_cons.mp hp with e | hp
          · subst e; exact h4
          · intro z; exact g2 p hp (List.mem_append_left _ z)
        · intro q hq z
          refine g2 q hq (List.mem_append_right _ ?_)
          obtain ⟨x, y⟩ := q
          rcases z with ⟨z1, z2⟩ | ⟨z1, z2⟩
          · simp only at z1 z2; subst z1 z2; simp
          · simp only at z1 z2; subst z1 z2; simp
      · rintro ⟨g1, g2, g3, g4⟩
        refine ⟨fun p hp => g1 p (List.mem_cons_of_mem _ hp), ?_, g4⟩
        intro p hp z
        rcases List.mem_append.mp z with z | z
        · exact g2 p (List.mem_cons_of_mem _ hp) z
        · have q := g3 p hp
          simp only [List.mem_cons, List.not_mem_nil, or_false] at z
          rcases z with z | z
          · subst z; exact q (.inl ⟨rfl, rfl⟩)
          · subst z; exact q (.inr ⟨rfl, rfl⟩)
theorem spec_pairs (ls : Links) : ((List.range ls.length).all (fun i => (List.range ls.length).all fun j => i == j || match ls[i]?, ls[j]? with
  | some p, some q => !((p.1 == q.1 && p.2 == q.2) || (p.1 == q.2 && p.2 == q.1))
  | _, _ => true)) = true ↔ ls.Pairwise (fun p q => ¬ sameL p q) := by
  rw [List.all_eq_true]
  rw [List.pairwise_iff_getElem]
  have key : ∀ i j (hi : i < ls.length) (hj : j < ls.length), ((i == j || match ls[i]?, ls[j]? with
    | some p, some q => !((p.1 == q.1 && p.2 == q.2) || (p.1 == q.2 && p.2 == q.1))
    | _, _ => true) = true) ↔ (i = j ∨ ¬ sameL ls[i] ls[j]) := by
    intro i j hi hj
    rw [List.getElem?_eq_getElem hi, List.getElem?_eq_getElem hj]
    simp [sameL]
    omega
  constructor
  · intro h i j hi hj hij
    have h1 := List.all_eq_true.mp (h i (List.mem_range.mpr hi)) j (List.mem_range.mpr hj)
    rcases (key i j hi hj).mp h1 with e | e
    · omega
    · exact e
  · intro h i hi
    rw [List.all_eq_true]
    intro j hj
    have hi' := List.mem_range.mp hi
    have hj' := List.mem_range.mp hj
    refine (key i j hi' hj').mpr ?_
    by_cases e : i = j
    · exact .inl e
    · refine .inr ?_
      rcases Nat.lt_or_gt_of_ne e with z | z
      · exact h i j hi' hj' z
      · intro s
        refine h j i hj' hi' z ?_
        rcases s with ⟨s1, s2⟩ | ⟨s1, s2⟩
        · exact .inl ⟨s1.symm, s2.symm⟩
        · exact .inr ⟨s2.symm, s1.symm⟩
theorem okNet_iff (n : Nat) (ls : Links) : Ks536.okNet ⟨n, ls⟩ = true ↔ (1 ≤ n ∧ n ≤ 7 ∧ ls.length ≤ 10) ∧ okL n [] ls = true ∧ Ks536.joined ⟨n, ls⟩ = true := by
  have hg : (ls.all fun p => decide (p.1 < n) && decide (p.2 < n) && p.1 != p.2) = true ↔ goodL n ls := by
    rw [List.all_eq_true]
    constructor
    · intro h p hp
      have z := h p hp
      simp at z
      exact ⟨z.1.1, z.1.2, z.2⟩
    · intro h p hp
      have z := h p hp
      simp
      exact ⟨⟨z.1, z.2.1⟩, z.2.2⟩
  have hp := spec_pairs ls
  have ho := okL_iff n ls []
  unfold Ks536.okNet
  simp only [Bool.and_eq_true, decide_eq_true_eq, Ks536.NODES, Ks536.LINKS]
  rw [ho]
  simp only [hg]
  constructor
  · rintro ⟨⟨⟨⟨⟨a, b⟩, c⟩, d⟩, e⟩, f⟩
    exact ⟨⟨a, of_decide_eq_true b, of_decide_eq_true c⟩, ⟨d, fun p _ q => by simp at q, hp.mp e⟩, f⟩
  · rintro ⟨⟨a, b, c⟩, ⟨d, _, e⟩, f⟩
    exact ⟨⟨⟨⟨⟨a, decide_eq_true b⟩, decide_eq_true c⟩, d⟩, hp.mpr e⟩, f⟩
end NM
namespace NM
open Ks536 (Net)
/-! ### exits -/
def rowS (t : Net) (u : Nat) : ERow := (Ks536.exits t u).map fun i => (Ks536.end_ t i u, ((Ks536.exits t (Ks536.end_ t i u)).takeWhile fun j => j != i).length)
theorem out_row (t : Net) (u e : Nat) : Ks536.out t u e = (rowS t u)[e]? := by
  unfold Ks536.out rowS
  rw [List.getElem?_map]
  cases (Ks536.exits t u)[e]? with
  | none => rfl
  | some i => rfl
theorem rowS_len (t : Net) (u : Nat) : (rowS t u).length = Ks536.degree t u := by
  unfold rowS Ks536.degree
  rw [List.length_map]
def addL (E : Exits) (p : Nat × Nat) : Exits :=
  let E1 := E.set p.1 (E.getD p.1 [] ++ [(p.2, (E.getD p.2 []).length)])
  E1.set p.2 (E1.getD p.2 [] ++ [(p.1, (E.getD p.1 []).length)])
def exitsM (n : Nat) (ls : Links) : Exits := ls.foldl addL (List.replicate n [])
theorem exits_snoc (n : Nat) (ls : Links) (a b u : Nat) : Ks536.exits ⟨n, ls ++ [(a, b)]⟩ u = Ks536.exits ⟨n, ls⟩ u ++ (if a = u ∨ b = u then [ls.length] else []) := by
  unfold Ks536.exits
  simp only [List.length_append, List.length_cons, List.length_nil, Nat.zero_add, List.range_succ, List.filter_append]
  congr 1
  · refine List.filter_congr ?_
    intro i hi
    have h := List.mem_range.mp hi
    rw [List.getElem?_append_left h]
  · rw [List.filter_cons, List.getElem?_append_right (Nat.le_refl _), Nat.sub_self]
    by_cases h : a = u ∨ b = u
    · rw [if_pos h]
      have : (a == u || b == u) = true := by simpa using h
      simp [this]
    · rw [if_neg h]
      have : (a == u || b == u) = false := by simpa using h
      simp [this]
theorem exits_lt {t : Net} {u i : Nat} (h : i ∈ Ks536.exits t u) : i < t.links.length := List.mem_range.mp (List.mem_filter.mp h).1
theorem exits_mem {t : Net} {u i : Nat} : i ∈ Ks536.exits t u ↔ ∃ p, t.links[i]? = some p ∧ (p.1 = u ∨ p.2 = u) := by
  unfold Ks536.exits
  rw [List.mem_filter, List.mem_range]
  constructor
  · rintro ⟨h1, h2⟩
    rw [List.getElem?_eq_getElem h1] at h2 ⊢
    exact ⟨_, rfl, by simpa using h2⟩
  · rintro ⟨p, h1, h2⟩
    have h3 : i < t.links.length := by
      rcases Nat.lt_or_ge i t.links.length with h | h
      · exact h
      · rw [List.getElem?_eq_none h] at h1; cases h1
    refine ⟨h3, ?_⟩
    rw [h1]
    simpa using h2
theorem end_mem {t : Net} {u i : Nat} (h : i ∈ Ks536.exits t u) : i ∈ Ks536.exits t (Ks536.end_ t i u) := by
  obtain ⟨p, h1, h2⟩ := exits_mem.mp h
  refine exits_mem.mpr ⟨p, h1, ?_⟩
  unfold Ks536.end_
  rw [h1]
  simp only
  by_cases e : p.1 = u
  · rw [if_pos e]; exact .inr rfl
  · rw [if_neg e]; exact .inl rfl
theorem end_snoc {n : Nat} {ls : Links} {p : Nat × Nat} {i u : Nat} (h : i < ls.length) : Ks536.end_ ⟨n, ls ++ [p]⟩ i u = Ks536.end_ ⟨n, ls⟩ i u := by
  unfold Ks536.end_
  simp only
  rw [List.getElem?_append_left h]
theorem tw_mem {l m : List Nat} {i : Nat} (h : i ∈ l) : ((l ++ m).takeWhile fun j => j != i) = l.takeWhile fun j => j != i := by
  induction l with
  | nil => simp at h
  | cons x r ih =>
    rw [List.cons_append, List.takeWhile_cons, List.takeWhile_cons]
    by_cases e : x = i
    · simp [e]
    · have : i ∈ r := by
        rcases List.mem_cons.mp h with z | z
        · exact absurd z.symm e
        · exact z
      rw [ih this]
theorem tw_all {l : List Nat} {i : Nat} (h : i ∉ l) : ((l ++ [i]).takeWhile fun j => j != i) = l := by
  induction l with
  | nil => simp
  | cons x r ih =>
    have hx : x ≠ i := fun e => h (by simp [e])
    have hr : i ∉ r := fun e => h (List.mem_cons_of_mem _ e)
    rw [List.cons_append, List.takeWhile_cons, ih hr]
    simp [hx]
theorem row_snoc (n : Nat) (ls : Links) (a b u : Nat) (hab : a ≠ b) : rowS ⟨n, ls ++ [(a, b)]⟩ u = rowS ⟨n, ls⟩ u ++ (if a = u then [(b, (rowS ⟨n, ls⟩ b).length)] else if b = u then [(a, (rowS ⟨n, ls⟩ a).length)] else []) := by
  have old : (Ks536.exits ⟨n, ls⟩ u).map (fun i => (Ks536.end_ ⟨n, ls ++ [(a, b)]⟩ i u, ((Ks536.exits ⟨n, ls ++ [(a, b)]⟩ (Ks536.end_ ⟨n, ls ++ [(a, b)]⟩ i u)).takeWhile fun j => j != i).length)) = rowS ⟨n, ls⟩ u := by
    unfold rowS
    refine List.map_congr_left ?_
    intro i hi
    have h1 : i < ls.length := exits_lt hi
    rw [end_snoc h1, exits_snoc, tw_mem (end_mem hi)]
  have lnot : ∀ v, ls.length ∉ Ks536.exits ⟨n, ls⟩ v := fun v h => Nat.lt_irrefl _ (exits_lt h)
  have el : (ls ++ [(a, b)])[ls.length]? = some (a, b) := by rw [List.getElem?_append_right (Nat.le_refl _), Nat.sub_self]; rfl
  rw [show rowS ⟨n, ls ++ [(a, b)]⟩ u = (Ks536.exits ⟨n, ls ++ [(a, b)]⟩ u).map (fun i => (Ks536.end_ ⟨n, ls ++ [(a, b)]⟩ i u, ((Ks536.exits ⟨n, ls ++ [(a, b)]⟩ (Ks536.end_ ⟨n, ls ++ [(a, b)]⟩ i u)).takeWhile fun j => j != i).length)) from rfl]
  rw [exits_snoc n ls a b u, List.map_append, old]
  congr 1
  by_cases h1 : a = u
  · subst h1
    rw [if_pos (.inl rfl), if_pos rfl]
    have e1 : Ks536.end_ ⟨n, ls ++ [(a, b)]⟩ ls.length a = b := by
      unfold Ks536.end_
      simp only [el, if_true]
    simp only [List.map_cons, List.map_nil, e1]
    rw [exits_snoc, if_pos (.inr rfl), tw_all (lnot b), rowS, List.length_map]
  · by_cases h2 : b = u
    · subst h2
      rw [if_pos (.inr rfl), if_neg h1, if_pos rfl]
      have e1 : Ks536.end_ ⟨n, ls ++ [(a, b)]⟩ ls.length b = a := by
        unfold Ks536.end_
        simp only [el, if_neg hab]
      simp only [List.map_cons, List.map_nil, e1]
      rw [exits_snoc, if_pos (.inl rfl), tw_all (lnot a), rowS, List.length_map]
    · rw [if_neg (by intro h; rcases h with h | h; exact h1 h; exact h2 h), if_neg h1, if_neg h2]
      rfl
theorem getD_range {α : Type} {n u : Nat} {f : Nat → α} {d : α} (h : u < n) : ((List.range n).map f).getD u d = f u := by
  rw [List.getD_eq_getElem?_getD, List.getElem?_map, List.getElem?_range h]; rfl
theorem exits_eq (n : Nat) : ∀ ls : Links, goodL n ls → exitsM n ls = (List.range n).map (rowS ⟨n, ls⟩) := by
  refine snoc_ind ?_ ?_
  · intro _
    refine List.ext_getElem? fun i => ?_
    show (List.replicate n [])[i]? = _
    rw [List.getElem?_map, List.getElem?_replicate]
    by_cases h : i < n
    · rw [if_pos h, List.getElem?_range h]; rfl
    · rw [if_neg h, List.getElem?_eq_none (by simp; omega)]; rfl
  · rintro ls ⟨a, b⟩ ih hg
    have g1 : goodL n ls := fun p hp => hg p (List.mem_append_left _ hp)
    obtain ⟨ha, hb, hab⟩ := hg (a, b) (List.mem_append_right _ List.mem_cons_self)
    simp only at ha hb hab
    have e := ih g1
    unfold exitsM at e ⊢
    rw [List.foldl_append, e]
    show addL _ (a, b) = _
    unfold addL
    simp only
    rw [getD_range ha, getD_range hb]
    refine List.ext_getElem? fun i => ?_
    rw [List.getElem?_map]
    have hl : ((List.range n).map (rowS ⟨n, ls⟩)).length = n := by simp
    have eb : (((List.range n).map (rowS ⟨n, ls⟩)).set a (rowS ⟨n, ls⟩ a ++ [(b, (rowS ⟨n, ls⟩ b).length)])).getD b [] = rowS ⟨n, ls⟩ b := by
      rw [List.getD_eq_getElem?_getD, List.getElem?_set_ne hab, List.getElem?_map, List.getElem?_range hb]; rfl
    rw [eb]
    by_cases hi : i < n
    · rw [List.getElem?_range hi]
      show _ = some (rowS ⟨n, ls ++ [(a, b)]⟩ i)
      rw [row_snoc n ls a b i hab]
      by_cases h2 : b = i
      · subst h2
        rw [List.getElem?_set_self (by rw [List.length_set, hl]; exact hb), if_neg hab, if_pos rfl]
      · rw [List.getElem?_set_ne h2]
        by_cases h1 : a = i
        · subst h1
          rw [List.getElem?_set_self (by rw [hl]; exact ha), if_pos rfl]
        · rw [List.getElem?_set_ne h1, List.getElem?_map, List.getElem?_range hi, if_neg h1, if_neg h2, List.append_nil]
          rfl
    · rw [List.getElem?_eq_none (by simp; omega), List.getElem?_eq_none (by simp; omega)]
      rfl
/-- a place of a row is a place of the net -/
theorem row_lt {n : Nat} {ls : Links} (hg : goodL n ls) {u : Nat} {w : Nat × Nat} (h : w ∈ rowS ⟨n, ls⟩ u) : w.1 < n := by
  obtain ⟨i, hi, rfl⟩ := List.mem_map.mp h
  obtain ⟨p, h1, h2⟩ := exits_mem.mp hi
  have hp := hg p (List.mem_of_getElem? h1)
  show Ks536.end_ ⟨n, ls⟩ i u < n
  unfold Ks536.end_
  rw [h1]
  simp only
  split
  · exact hp.2.1
  · exact hp.1
theorem row_len {n : Nat} {ls : Links} {u : Nat} : (rowS ⟨n, ls⟩ u).length ≤ ls.length := by
  rw [rowS_len]
  show ((List.range ls.length).filter _).length ≤ _
  refine Nat.le_trans (List.length_filter_le _ _) ?_
  rw [List.length_range]
  exact Nat.le_refl _
/-! ### a letter -/
theorem go_eq (t : Net) (u x : Nat) : Ks536.go t u x = if x = 0 ∨ (rowS t u).length < x then u else ((rowS t u).getD (x - 1) (0, 0)).1 := by
  cases x with
  | zero => simp [Ks536.go]
  | succ e =>
    show (match Ks536.out t u e with | some p => p.1 | none => u) = _
    rw [out_row]
    by_cases h : e < (rowS t u).length
    · rw [if_neg (by omega), List.getElem?_eq_getElem h, List.getD_eq_getElem?_getD, Nat.add_sub_cancel, List.getElem?_eq_getElem h]
      rfl
    · rw [if_pos (by omega), List.getElem?_eq_none (by omega)]
theorem go_lt {n : Nat} {ls : Links} (hg : goodL n ls) {u : Nat} (hu : u < n) (x : Nat) : Ks536.go ⟨n, ls⟩ u x < n := by
  rw [go_eq]
  by_cases h : x = 0 ∨ (rowS ⟨n, ls⟩ u).length < x
  · rw [if_pos h]; exact hu
  · rw [if_neg h]
    have h2 : x - 1 < (rowS ⟨n, ls⟩ u).length := by omega
    rw [List.getD_eq_getElem?_getD, List.getElem?_eq_getElem h2]
    exact row_lt hg (List.getElem_mem h2)
/-! ### words -/
theorem walk_len (t : Net) : ∀ (w : List Nat) (u : Nat), (Ks536.walk t u w).length = w.length + 1
  | [], _ => rfl
  | x :: r, u => by
    show (Ks536.walk t (Ks536.go t u x) r).length + 1 = _
    rw [walk_len t r]
    rfl
theorem walk_take (t : Net) : ∀ (w : List Nat) (u j : Nat), Ks536.walk t u (w.take j) = (Ks536.walk t u w).take (j + 1)
  | [], _, j => by cases j <;> simp [Ks536.walk]
  | x :: r, u, 0 => by simp [Ks536.walk]
  | x :: r, u, j + 1 => by
    show u :: Ks536.walk t (Ks536.go t u x) (r.take j) = u :: (Ks536.walk t (Ks536.go t u x) r).take (j + 1)
    rw [walk_take t r]
/-- the i-th place -/
def posW (t : Net) (u : Nat) (w : List Nat) (i : Nat) : Nat := (Ks536.walk t u w).getD i 0
theorem walk_last (t : Net) : ∀ (w : List Nat) (u : Nat), (Ks536.walk t u w).getLast? = (Ks536.walk t u w)[w.length]? := by
  intro w u
  rw [List.getLast?_eq_getElem?, walk_len]
  rfl
theorem walk_at (t : Net) (u : Nat) (w : List Nat) {i : Nat} (h : i ≤ w.length) : (Ks536.walk t u w)[i]? = some (posW t u w i) := by
  unfold posW
  rw [List.getD_eq_getElem?_getD, List.getElem?_eq_getElem (by rw [walk_len]; omega)]
  rfl
theorem at_eq (t : Net) (u d : Nat) (w : List Nat) (k : Nat) : Ks537.at_ t u d w k = posW t u w (min (k - d) w.length) := by
  unfold Ks537.at_
  rw [walk_last, List.length_take, walk_take]
  rw [List.getElem?_take_of_lt (by omega), walk_at t u w (by omega)]
  rfl
theorem walk_snoc (t : Net) : ∀ (w : List Nat) (u x : Nat), Ks536.walk t u (w ++ [x]) = Ks536.walk t u w ++ [Ks536.go t (posW t u w w.length) x]
  | [], u, x => rfl
  | y :: r, u, x => by
    show u :: Ks536.walk t (Ks536.go t u y) (r ++ [x]) = u :: (Ks536.walk t (Ks536.go t u y) r ++ [_])
    rw [walk_snoc t r]
    rfl
theorem pos_lt {n : Nat} {ls : Links} (hg : goodL n ls) : ∀ (w : List Nat) (u : Nat), u < n → ∀ x ∈ Ks536.walk ⟨n, ls⟩ u w, x < n
  | [], u, hu, x, hx => by
    have : x = u := by simpa [Ks536.walk] using hx
    omega
  | y :: r, u, hu, x, hx => by
    rcases List.mem_cons.mp (show x ∈ u :: Ks536.walk ⟨n, ls⟩ (Ks536.go ⟨n, ls⟩ u y) r from hx) with e | e
    · omega
    · exact pos_lt hg r _ (go_lt hg hu y) x e
end NM
namespace NM
open Ks536 (Net)
/-! ### distances -/
def stepS (t : Net) (l : List Nat) : List Nat := (List.range t.n).filter fun w => l.contains w || l.any fun u => (List.range (Ks536.degree t u)).any fun e => Ks536.go t u (e + 1) == w
def itS (t : Net) : Nat → List Nat → List Nat
  | 0, l => l
  | k + 1, l => itS t k (stepS t l)
theorem itS_succ (t : Net) : ∀ (k : Nat) (l : List Nat), itS t (k + 1) l = stepS t (itS t k l)
  | 0, _ => rfl
  | k + 1, l => by
    show itS t (k + 1) (stepS t l) = stepS t (itS t k (stepS t l))
    exact itS_succ t k _
def Adj (t : Net) (u w : Nat) : Prop := ∃ p ∈ rowS t u, p.1 = w
theorem go_row {t : Net} {u e : Nat} {p : Nat × Nat} (h : (rowS t u)[e]? = some p) : Ks536.go t u (e + 1) = p.1 := by
  show (match Ks536.out t u e with | some p => p.1 | none => u) = _
  rw [out_row, h]
theorem adj_iff {t : Net} {u w : Nat} : Adj t u w ↔ ((List.range (Ks536.degree t u)).any fun e => Ks536.go t u (e + 1) == w) = true := by
  rw [List.any_eq_true]
  constructor
  · rintro ⟨p, hp, rfl⟩
    obtain ⟨e, he, hq⟩ := List.getElem_of_mem hp
    refine ⟨e, List.mem_range.mpr (by rw [← rowS_len]; exact he), ?_⟩
    rw [go_row (by rw [List.getElem?_eq_getElem he, hq])]
    simp
  · rintro ⟨e, he, h⟩
    have he2 : e < (rowS t u).length := by rw [rowS_len]; exact List.mem_range.mp he
    refine ⟨(rowS t u)[e], List.getElem_mem he2, ?_⟩
    have := go_row (List.getElem?_eq_getElem he2)
    rw [this] at h
    simpa using h
theorem mem_stepS {t : Net} {l : List Nat} {w : Nat} : w ∈ stepS t l ↔ w < t.n ∧ (w ∈ l ∨ ∃ u ∈ l, Adj t u w) := by
  unfold stepS
  rw [List.mem_filter, List.mem_range, Bool.or_eq_true, List.any_eq_true, List.contains_iff_mem]
  constructor
  · rintro ⟨h1, h2⟩
    refine ⟨h1, ?_⟩
    rcases h2 with h | ⟨u, hu, h⟩
    · exact .inl h
    · exact .inr ⟨u, hu, adj_iff.mpr h⟩
  · rintro ⟨h1, h2⟩
    refine ⟨h1, ?_⟩
    rcases h2 with h | ⟨u, hu, h⟩
    · exact .inl h
    · exact .inr ⟨u, hu, adj_iff.mp h⟩
theorem dist_some {t : Net} {v : Nat} : ∀ (k f : Nat) (l : List Nat), k ≤ f → v ∈ itS t k l → (∀ j, j < k → v ∉ itS t j l) → Ks536.dist t f l v = some k
  | 0, f, l, _, h, _ => by
    have h' : l.contains v = true := List.contains_iff_mem.mpr h
    cases f with
    | zero => show (if l.contains v then some 0 else none) = _; rw [if_pos h']
    | succ f => show (if l.contains v then some 0 else _) = _; rw [if_pos h']
  | k + 1, 0, l, hk, _, _ => by omega
  | k + 1, f + 1, l, hk, h, hn => by
    have h' : ¬ l.contains v = true := fun z => hn 0 (by omega) (List.contains_iff_mem.mp z)
    show (if l.contains v then some 0 else (Ks536.dist t f (stepS t l) v).map (· + 1)) = _
    rw [if_neg h', dist_some k f (stepS t l) (by omega) h (fun j hj => hn (j + 1) (by omega))]
    rfl
theorem dist_none {t : Net} {v : Nat} : ∀ (f : Nat) (l : List Nat), (∀ j, v ∉ itS t j l) → Ks536.dist t f l v = none
  | 0, l, h => by
    have h' : ¬ l.contains v = true := fun z => h 0 (List.contains_iff_mem.mp z)
    show (if l.contains v then some 0 else none) = _; rw [if_neg h']
  | f + 1, l, h => by
    have h' : ¬ l.contains v = true := fun z => h 0 (List.contains_iff_mem.mp z)
    show (if l.contains v then some 0 else (Ks536.dist t f (stepS t l) v).map (· + 1)) = _
    rw [if_neg h', dist_none f (stepS t l) (fun j => h (j + 1))]
    rfl
/-- how the search stands: the places reached with how far, «at» the one whose exits are looked at, done of its ways -/
structure BI (t : Net) (s : Nat) (at_ : Nat) (S : List (Nat × Nat)) : Prop where
  nd : (S.map (·.1)).Nodup
  lt : ∀ p ∈ S, p.1 < t.n
  rc : ∀ p ∈ S, p.1 ∈ itS t p.2 [s]
  st : (s, 0) ∈ S
  so : ∀ (i j : Nat) (p q : Nat × Nat), i ≤ j → S[i]? = some p → S[j]? = some q → p.2 ≤ q.2
  nr : ∀ p, S[at_]? = some p → ∀ q ∈ S, q.2 ≤ p.2 + 1
  cl : ∀ (i : Nat) (p : Nat × Nat), i < at_ → S[i]? = some p → ∀ w, Adj t p.1 w → ∃ k, (w, k) ∈ S ∧ k ≤ p.2 + 1
  ix : ∀ (i : Nat) (p : Nat × Nat), S[i]? = some p → p.2 ≤ i
theorem BI.start {t : Net} {s : Nat} (h : s < t.n) : BI t s 0 [(s, 0)] where
  nd := by simp
  lt := fun p hp => by simp at hp; subst hp; exact h
  rc := fun p hp => by simp at hp; subst hp; simp [itS]
  st := by simp
  so := fun i j p q hij hi hj => by
    have e1 := List.mem_of_getElem? hi
    simp at e1; subst e1; exact Nat.zero_le _
  nr := fun p hp q hq => by simp at hq; subst hq; exact Nat.zero_le _
  cl := fun i p hi => by omega
  ix := fun i p hi => by
    have e1 := List.mem_of_getElem? hi
    simp at e1; subst e1; exact Nat.zero_le _
theorem BI.len {t : Net} {s a : Nat} {S : List (Nat × Nat)} (B : BI t s a S) : S.length ≤ t.n := by
  have := nodup_lt B.nd (n := t.n) (fun x hx => by
    obtain ⟨p, hp, rfl⟩ := List.mem_map.mp hx
    exact B.lt p hp)
  rwa [List.length_map] at this
/-- one way looked at -/
def visit1 (d : Nat) (S : List (Nat × Nat)) (w : Nat) : List (Nat × Nat) := if w ∈ S.map (·.1) then S else S ++ [(w, d + 1)]
theorem visit1_mem {d : Nat} {S : List (Nat × Nat)} {w : Nat} {p : Nat × Nat} (h : p ∈ S) : p ∈ visit1 d S w := by
  unfold visit1; split
  · exact h
  · exact List.mem_append_left _ h
theorem visit1_at {d : Nat} {S : List (Nat × Nat)} {w i : Nat} {p : Nat × Nat} (h : S[i]? = some p) : (visit1 d S w)[i]? = some p := by
  unfold visit1; split
  · exact h
  · have hi : i < S.length := by
      rcases Nat.lt_or_ge i S.length with z | z
      · exact z
      · rw [List.getElem?_eq_none z] at h; cases h
    rw [List.getElem?_append_left hi]; exact h
theorem lt_of_at {α : Type} {S : List α} {i : Nat} {p : α} (h : S[i]? = some p) : i < S.length := by
  rcases Nat.lt_or_ge i S.length with z | z
  · exact z
  · rw [List.getElem?_eq_none z] at h; cases h
theorem BI.visit {t : Net} {s a : Nat} {S : List (Nat × Nat)} {u d w : Nat} (B : BI t s a S) (hu : S[a]? = some (u, d)) (hw : Adj t u w) (hlt : w < t.n) :
    BI t s a (visit1 d S w) ∧ (visit1 d S w)[a]? = some (u, d) ∧ ∃ k, (w, k) ∈ visit1 d S w ∧ k ≤ d + 1 := by
  have hU := List.mem_of_getElem? hu
  by_cases hin : w ∈ S.map (·.1)
  · have e : visit1 d S w = S := if_pos hin
    rw [e]
    refine ⟨B, hu, ?_⟩
    obtain ⟨⟨w', k⟩, hp, rfl⟩ := List.mem_map.mp hin
    exact ⟨k, hp, B.nr _ hu _ hp⟩
  · have e : visit1 d S w = S ++ [(w, d + 1)] := if_neg hin
    have hat : (S ++ [(w, d + 1)])[a]? = some (u, d) := by rw [List.getElem?_append_left (lt_of_at hu)]; exact hu
    rw [e]
    refine ⟨?_, hat, d + 1, List.mem_append_right _ List.mem_cons_self, Nat.le_refl _⟩
    have cases' : ∀ {i : Nat} {p : Nat × Nat}, (S ++ [(w, d + 1)])[i]? = some p → S[i]? = some p ∨ (i = S.length ∧ p = (w, d + 1)) := by
      intro i p h
      by_cases hi : i < S.length
      · rw [List.getElem?_append_left hi] at h; exact .inl h
      · rw [List.getElem?_append_right (by omega)] at h
        have z := lt_of_at h
        simp at z
        have e : i - S.length = 0 := z
        rw [e] at h
        refine .inr ⟨by omega, ?_⟩
        exact (Option.some.inj h).symm
    refine ⟨?_, ?_, ?_, List.mem_append_left _ B.st, ?_, ?_, ?_, ?_⟩
    · rw [List.map_append, List.nodup_append]
      refine ⟨B.nd, by simp, ?_⟩
      intro x hx y hy exy
      have hy' : y = w := by simpa using hy
      rw [exy, hy'] at hx
      exact hin hx
    · intro p hp
      rcases List.mem_append.mp hp with h | h
      · exact B.lt p h
      · simp at h; subst h; exact hlt
    · intro p hp
      rcases List.mem_append.mp hp with h | h
      · exact B.rc p h
      · simp at h; subst h
        show w ∈ itS t (d + 1) [s]
        rw [itS_succ]
        exact mem_stepS.mpr ⟨hlt, .inr ⟨u, B.rc _ hU, hw⟩⟩
    · intro i j p q hij hi hj
      rcases cases' hi with h1 | ⟨h1, h1'⟩ <;> rcases cases' hj with h2 | ⟨h2, h2'⟩
      · exact B.so i j p q hij h1 h2
      · subst h2'; exact B.nr _ hu p (List.mem_of_getElem? h1)
      · have := lt_of_at h2; omega
      · subst h1' h2'; exact Nat.le_refl _
    · intro p hp q hq
      rw [hat] at hp
      cases hp
      rcases List.mem_append.mp hq with h | h
      · exact B.nr _ hu q h
      · simp at h; subst h; exact Nat.le_refl _
    · intro i p hi h w' hw'
      have z := lt_of_at hu
      rcases cases' h with h1 | ⟨h1, _⟩
      · obtain ⟨k, hk, hk2⟩ := B.cl i p hi h1 w' hw'
        exact ⟨k, List.mem_append_left _ hk, hk2⟩
      · omega
    · intro i p h
      rcases cases' h with h1 | ⟨h1, h1'⟩
      · exact B.ix i p h1
      · subst h1' h1
        have z := B.ix a _ hu
        have z2 := lt_of_at hu
        show d + 1 ≤ S.length
        have z3 : d ≤ a := z
        omega
theorem BI.next {t : Net} {s a : Nat} {S : List (Nat × Nat)} {u d : Nat} (B : BI t s a S) (hu : S[a]? = some (u, d)) (h : ∀ w, Adj t u w → ∃ k, (w, k) ∈ S ∧ k ≤ d + 1) : BI t s (a + 1) S :=
  { B with
    nr := fun p hp q hq => by
      have h1 := B.nr _ hu q hq
      have h2 := B.so a (a + 1) _ p (by omega) hu hp
      simp only at h1 h2
      omega
    cl := fun i p hi hp w hw => by
      by_cases e : i = a
      · subst e
        rw [hu] at hp
        cases hp
        exact h w hw
      · exact B.cl i p (by omega) hp w hw }
/-- a search at its end -/
structure BD (t : Net) (s : Nat) (S : List (Nat × Nat)) : Prop where
  nd : (S.map (·.1)).Nodup
  lt : ∀ p ∈ S, p.1 < t.n
  yes : ∀ p ∈ S, Ks536.distance t s p.1 = some p.2
  no : ∀ v, v ∉ S.map (·.1) → Ks536.distance t s v = none
  st : (s, 0) ∈ S
  all : ∀ k v, v ∈ itS t k [s] → v ∈ S.map (·.1)
theorem BI.done {t : Net} {s a : Nat} {S : List (Nat × Nat)} (B : BI t s a S) (h : S.length ≤ a) : BD t s S := by
  have all : ∀ (k v : Nat), v ∈ itS t k [s] → ∃ d, d ≤ k ∧ (v, d) ∈ S := by
    intro k
    induction k with
    | zero =>
      intro v hv
      have e : v = s := by simpa [itS] using hv
      subst e
      exact ⟨0, Nat.le_refl _, B.st⟩
    | succ k ih =>
      intro v hv
      rw [itS_succ] at hv
      obtain ⟨_, h2⟩ := mem_stepS.mp hv
      rcases h2 with h2 | ⟨u, hu, h2⟩
      · obtain ⟨d, hd, hm⟩ := ih v h2
        exact ⟨d, by omega, hm⟩
      · obtain ⟨d, hd, hm⟩ := ih u hu
        obtain ⟨i, hi, e⟩ := List.getElem_of_mem hm
        obtain ⟨k', hk, hk2⟩ := B.cl i (u, d) (by omega) (by rw [List.getElem?_eq_getElem hi, e]) v h2
        exact ⟨k', by simp only at hk2; omega, hk⟩
  have uniq : ∀ {v d d' : Nat}, (v, d) ∈ S → (v, d') ∈ S → d = d' := by
    intro v d d' h1 h2
    obtain ⟨i, hi, e1⟩ := List.getElem_of_mem h1
    obtain ⟨j, hj, e2⟩ := List.getElem_of_mem h2
    have : i = j := by
      have hi' : i < (S.map (·.1)).length := by rw [List.length_map]; exact hi
      have hj' : j < (S.map (·.1)).length := by rw [List.length_map]; exact hj
      refine (List.getElem_inj (h₀ := hi') (h₁ := hj') B.nd).mp ?_
      simp [e1, e2]
    subst this
    rw [e1] at e2
    cases e2
    rfl
  refine ⟨B.nd, B.lt, ?_, ?_, B.st, fun k v hv => by obtain ⟨d, _, hm⟩ := all k v hv; exact List.mem_map.mpr ⟨_, hm, rfl⟩⟩
  · rintro ⟨v, d⟩ hp
    refine dist_some d t.n [s] ?_ (B.rc _ hp) ?_
    · obtain ⟨i, hi, e⟩ := List.getElem_of_mem hp
      have z := B.ix i (v, d) (by rw [List.getElem?_eq_getElem hi, e])
      have := B.len
      simp only at z
      omega
    · intro j hj hv
      obtain ⟨d', hd', hm⟩ := all j v hv
      have := uniq hp hm
      omega
  · intro v hv
    refine dist_none t.n [s] ?_
    intro j hj
    obtain ⟨d, _, hm⟩ := all j v hj
    exact hv (List.mem_map.mpr ⟨_, hm, rfl⟩)
theorem joined_iff {t : Net} {S : List (Nat × Nat)} (D : BD t 0 S) : Ks536.joined t = true ↔ S.length = t.n := by
  unfold Ks536.joined
  rw [List.all_eq_true]
  have hl : (S.map (·.1)).length ≤ t.n := nodup_lt D.nd (fun x hx => by
    obtain ⟨p, hp, rfl⟩ := List.mem_map.mp hx
    exact D.lt p hp)
  rw [List.length_map] at hl
  have key : ∀ v, (Ks536.distance t 0 v).isSome = true ↔ v ∈ S.map (·.1) := by
    intro v
    constructor
    · intro h
      refine Decidable.byContradiction fun hn => ?_
      rw [D.no v hn] at h
      cases h
    · intro h
      obtain ⟨p, hp, rfl⟩ := List.mem_map.mp h
      rw [D.yes p hp]
      rfl
  constructor
  · intro h
    have := nodup_len_le (List.range t.n) (S.map (·.1)) List.nodup_range (fun v hv => (key v).mp (h v hv))
    rw [List.length_range, List.length_map] at this
    omega
  · intro h v hv
    refine (key v).mpr (Decidable.byContradiction fun hn => ?_)
    have := nodup_lt (l := v :: S.map (·.1)) (n := t.n) (List.nodup_cons.mpr ⟨hn, D.nd⟩) (fun x hx => by
      rcases List.mem_cons.mp hx with e | e
      · subst e; exact List.mem_range.mp hv
      · obtain ⟨p, hp, rfl⟩ := List.mem_map.mp e
        exact D.lt p hp)
    rw [List.length_cons, List.length_map] at this
    omega
end NM
namespace NM
open Ks536 (Net)
/-! ### marks -/
abbrev Sight := Nat × List (Nat × Nat)
def sightM (t : Net) (m : List Nat) (p : Nat) : Sight := (m.getD p 0, (rowS t p).map fun w => (w.2, m.getD w.1 0))
def sightsM (t : Net) (m : List Nat) : List Sight := (List.range t.n).map (sightM t m)
def marksM (t : Net) (m : List Nat) : List Nat := (sightsM t m).map fun s => (sightsM t m).idxOf s
def marks0 (t : Net) : List Nat := (List.range t.n).map fun p => (rowS t p).length
def marksK (t : Net) : Nat → List Nat
  | 0 => marks0 t
  | k + 1 => marksM t (marksK t k)
def mkAt (t : Net) (k u : Nat) : Nat := (marksK t k).getD u 0
theorem idx_inj {α : Type} [BEq α] [LawfulBEq α] {l : List α} {x y : α} (hx : x ∈ l) (hy : y ∈ l) : l.idxOf x = l.idxOf y ↔ x = y := by
  constructor
  · intro h
    have h1 : l.idxOf x < l.length := List.idxOf_lt_length_of_mem hx
    have h2 : l.idxOf y < l.length := List.idxOf_lt_length_of_mem hy
    have e1 := List.getElem_idxOf h1
    have e2 := List.getElem_idxOf h2
    rw [← e1, ← e2]
    simp only [h]
  · intro h
    rw [h]
theorem mkAt_succ (t : Net) (k : Nat) {u v : Nat} (hu : u < t.n) (hv : v < t.n) : mkAt t (k + 1) u = mkAt t (k + 1) v ↔ sightM t (marksK t k) u = sightM t (marksK t k) v := by
  have e : ∀ p, p < t.n → mkAt t (k + 1) p = (sightsM t (marksK t k)).idxOf (sightM t (marksK t k) p) := by
    intro p hp
    show (marksM t (marksK t k)).getD p 0 = _
    unfold marksM
    rw [List.getD_eq_getElem?_getD, List.getElem?_map]
    have : (sightsM t (marksK t k))[p]? = some (sightM t (marksK t k) p) := by
      unfold sightsM
      rw [List.getElem?_map, List.getElem?_range hp]
      rfl
    rw [this]
    rfl
  have m : ∀ p, p < t.n → sightM t (marksK t k) p ∈ sightsM t (marksK t k) := fun p hp => List.mem_map.mpr ⟨p, List.mem_range.mpr hp, rfl⟩
  rw [e u hu, e v hv]
  exact idx_inj (m u hu) (m v hv)
theorem like_zero (t : Net) {u v : Nat} (hu : u < t.n) (hv : v < t.n) : Ks536.like t t 0 u v = true ↔ (rowS t u).length = (rowS t v).length := by
  unfold Ks536.like Ks536.table
  rw [getD_range hu, getD_range hv, rowS_len, rowS_len]
  simp
theorem like_succ (t : Net) (k : Nat) {u v : Nat} (hu : u < t.n) (hv : v < t.n) : Ks536.like t t (k + 1) u v = true ↔ (rowS t u).length = (rowS t v).length ∧ ∀ (e : Nat) (a b : Nat × Nat), (rowS t u)[e]? = some a → (rowS t v)[e]? = some b → a.2 = b.2 ∧ Ks536.like t t k a.1 b.1 = true := by
  have e0 : Ks536.like t t (k + 1) u v = (Ks536.degree t u == Ks536.degree t v && (List.range (Ks536.degree t u)).all fun e => match Ks536.out t u e, Ks536.out t v e with
      | some a, some b => a.2 == b.2 && Ks536.like t t k a.1 b.1
      | _, _ => false) := by
    unfold Ks536.like
    rw [show Ks536.table t t (k + 1) = (let old := Ks536.table t t k
      (List.range t.n).map fun u => (List.range t.n).map fun v => Ks536.degree t u == Ks536.degree t v && (List.range (Ks536.degree t u)).all fun e => match Ks536.out t u e, Ks536.out t v e with
        | some a, some b => a.2 == b.2 && (old.getD a.1 []).getD b.1 false
        | _, _ => false) from rfl]
    simp only
    rw [getD_range hu, getD_range hv]
  rw [e0, Bool.and_eq_true, List.all_eq_true, beq_iff_eq, ← rowS_len, ← rowS_len]
  constructor
  · rintro ⟨h1, h2⟩
    refine ⟨h1, fun e a b ha hb => ?_⟩
    have he : e < (rowS t u).length := lt_of_at ha
    have z := h2 e (List.mem_range.mpr he)
    rw [out_row, out_row, ha, hb] at z
    simpa using z
  · rintro ⟨h1, h2⟩
    refine ⟨h1, fun e he => ?_⟩
    have he' := List.mem_range.mp he
    obtain ⟨a, ha⟩ : ∃ a, (rowS t u)[e]? = some a := ⟨_, List.getElem?_eq_getElem he'⟩
    obtain ⟨b, hb⟩ : ∃ b, (rowS t v)[e]? = some b := ⟨_, List.getElem?_eq_getElem (by omega)⟩
    obtain ⟨g1, g2⟩ := h2 e a b ha hb
    rw [out_row, out_row, ha, hb]
    simp [g1, g2]
theorem row_in {t : Net} (hg : goodL t.n t.links) {u e : Nat} {a : Nat × Nat} (h : (rowS t u)[e]? = some a) : a.1 < t.n := row_lt (n := t.n) (ls := t.links) hg (List.mem_of_getElem? h)
theorem like_mono {t : Net} (hg : goodL t.n t.links) : ∀ (k : Nat) {u v : Nat}, u < t.n → v < t.n → Ks536.like t t (k + 1) u v = true → Ks536.like t t k u v = true
  | 0, u, v, hu, hv, h => (like_zero t hu hv).mpr ((like_succ t 0 hu hv).mp h).1
  | k + 1, u, v, hu, hv, h => by
    obtain ⟨h1, h2⟩ := (like_succ t (k + 1) hu hv).mp h
    refine (like_succ t k hu hv).mpr ⟨h1, fun e a b ha hb => ?_⟩
    obtain ⟨g1, g2⟩ := h2 e a b ha hb
    exact ⟨g1, like_mono hg k (row_in hg ha) (row_in hg hb) g2⟩
theorem like_le {t : Net} (hg : goodL t.n t.links) {u v : Nat} (hu : u < t.n) (hv : v < t.n) {k m : Nat} (h : k ≤ m) (hl : Ks536.like t t m u v = true) : Ks536.like t t k u v = true := by
  induction h with
  | refl => exact hl
  | step h ih => exact ih (like_mono hg _ hu hv hl)
theorem map_eq_iff {α β : Type} {f g : α → β} : ∀ {l m : List α}, l.map f = m.map g ↔ l.length = m.length ∧ ∀ (e : Nat) (a b : α), l[e]? = some a → m[e]? = some b → f a = g b
  | [], [] => by simp
  | [], b :: r => by simp
  | a :: r, [] => by simp
  | a :: r, b :: s => by
    rw [List.map_cons, List.map_cons, List.cons.injEq, map_eq_iff (l := r) (m := s)]
    constructor
    · rintro ⟨h1, h2, h3⟩
      refine ⟨by simp [h2], fun e x y hx hy => ?_⟩
      cases e with
      | zero =>
        have e1 := Option.some.inj hx
        have e2 := Option.some.inj hy
        rw [← e1, ← e2]
        exact h1
      | succ e => exact h3 e x y hx hy
    · rintro ⟨h1, h2⟩
      exact ⟨h2 0 a b rfl rfl, by simpa using h1, fun e x y hx hy => h2 (e + 1) x y hx hy⟩
theorem like_marks {t : Net} (hg : goodL t.n t.links) : ∀ (k : Nat) {u v : Nat}, u < t.n → v < t.n → (Ks536.like t t k u v = true ↔ mkAt t k u = mkAt t k v)
  | 0, u, v, hu, hv => by
    rw [like_zero t hu hv]
    show _ ↔ (marks0 t).getD u 0 = (marks0 t).getD v 0
    unfold marks0
    rw [getD_range hu, getD_range hv]
  | k + 1, u, v, hu, hv => by
    rw [mkAt_succ t k hu hv]
    have ih := fun {u v : Nat} (hu : u < t.n) (hv : v < t.n) => like_marks hg k hu hv
    have ex : sightM t (marksK t k) u = sightM t (marksK t k) v ↔ mkAt t k u = mkAt t k v ∧ (rowS t u).map (fun w => (w.2, mkAt t k w.1)) = (rowS t v).map (fun w => (w.2, mkAt t k w.1)) := by
      unfold sightM
      rw [Prod.mk.injEq]
      exact Iff.rfl
    rw [ex, map_eq_iff]
    constructor
    · intro h
      obtain ⟨h1, h2⟩ := (like_succ t k hu hv).mp h
      refine ⟨(ih hu hv).mp (like_mono hg k hu hv h), h1, fun e a b ha hb => ?_⟩
      obtain ⟨g1, g2⟩ := h2 e a b ha hb
      rw [g1, (ih (row_in hg ha) (row_in hg hb)).mp g2]
    · rintro ⟨_, h1, h2⟩
      refine (like_succ t k hu hv).mpr ⟨h1, fun e a b ha hb => ?_⟩
      have z := h2 e a b ha hb
      rw [Prod.mk.injEq] at z
      exact ⟨z.1, (ih (row_in hg ha) (row_in hg hb)).mpr z.2⟩
/-! ### no more rounds than places -/
theorem filter_lt {α : Type} {p q : α → Bool} : ∀ {l : List α}, (∀ x ∈ l, p x = true → q x = true) → (∃ x ∈ l, q x = true ∧ p x = false) → (l.filter p).length < (l.filter q).length
  | [], _, h => by obtain ⟨x, hx, _⟩ := h; simp at hx
  | a :: r, h1, h2 => by
    have le : ∀ {r : List α}, (∀ x ∈ r, p x = true → q x = true) → (r.filter p).length ≤ (r.filter q).length := by
      intro r
      induction r with
      | nil => intro _; simp
      | cons b s ih =>
        intro h
        have i2 := ih (fun x hx => h x (List.mem_cons_of_mem _ hx))
        rw [List.filter_cons, List.filter_cons]
        cases hp : p b with
        | true => rw [if_pos rfl, if_pos (h b List.mem_cons_self hp)]; simp; exact i2
        | false =>
          rw [if_neg (by decide)]
          split
          · simp; omega
          · exact i2
    have hr : ∀ x ∈ r, p x = true → q x = true := fun x hx => h1 x (List.mem_cons_of_mem _ hx)
    rw [List.filter_cons, List.filter_cons]
    obtain ⟨x, hx, hq, hp⟩ := h2
    rcases List.mem_cons.mp hx with e | hx
    · subst e
      rw [if_neg (by rw [hp]; decide), if_pos hq]
      have := le hr
      simp
      omega
    · have ih := filter_lt hr ⟨x, hx, hq, hp⟩
      cases hpa : p a with
      | true => rw [if_pos rfl, if_pos (h1 a List.mem_cons_self hpa)]; simp; exact ih
      | false =>
        rw [if_neg (by decide)]
        split
        · simp; omega
        · exact ih
def repsF (n : Nat) (f : Nat → Nat) : List Nat := (List.range n).filter fun u => (List.range u).all fun v => f v != f u
theorem rep_iff {f : Nat → Nat} {u : Nat} : ((List.range u).all fun v => f v != f u) = true ↔ ∀ v, v < u → f v ≠ f u := by
  rw [List.all_eq_true]
  constructor
  · intro h v hv
    have := h v (List.mem_range.mpr hv)
    simpa using this
  · intro h v hv
    have := h v (List.mem_range.mp hv)
    simpa using this
theorem least_of {P : Nat → Prop} (n : Nat) (h : P n) : ∃ m, m ≤ n ∧ P m ∧ ∀ j, j < m → ¬ P j := by
  induction n using Nat.strongRecOn with
  | _ n ih =>
    by_cases c : ∃ j, j < n ∧ P j
    · obtain ⟨j, hj, hp⟩ := c
      obtain ⟨m, h1, h2, h3⟩ := ih j hj hp
      exact ⟨m, by omega, h2, h3⟩
    · exact ⟨n, Nat.le_refl _, h, fun j hj hp => c ⟨j, hj, hp⟩⟩
theorem reps_grow {n : Nat} {f g : Nat → Nat} (hA : ∀ u v, u < n → v < n → g u = g v → f u = f v) (hd : ∃ u v, u < n ∧ v < n ∧ f u = f v ∧ g u ≠ g v) : (repsF n f).length < (repsF n g).length := by
  unfold repsF
  refine filter_lt (fun u hu h => ?_) ?_
  · have hu' := List.mem_range.mp hu
    refine rep_iff.mpr fun v hv e => rep_iff.mp h v hv (hA v u (by omega) hu' e)
  · obtain ⟨u, v, hu, hv, h1, h2⟩ := hd
    obtain ⟨r, hr, hr1, hr2⟩ := least_of (P := fun w => f w = f u) u rfl
    have hx : ∃ x, x < n ∧ f x = f r ∧ g x ≠ g r := by
      by_cases c : g u = g r
      · exact ⟨v, hv, by rw [← h1, hr1], fun z => h2 (by rw [c, z])⟩
      · exact ⟨u, hu, hr1.symm, c⟩
    obtain ⟨x, hxn, hx1, hx2⟩ := hx
    obtain ⟨y, hy, hy1, hy2⟩ := least_of (P := fun w => g w = g x) x rfl
    have hyn : y < n := by omega
    have fy : f y = f r := by rw [hA y x hyn hxn hy1, hx1]
    have ne : y ≠ r := fun z => hx2 (by rw [← hy1, z])
    have ry : r < y := by
      rcases Nat.lt_or_ge y r with z | z
      · exact absurd (by rw [fy, hr1]) (hr2 y z)
      · omega
    refine ⟨y, List.mem_range.mpr hyn, rep_iff.mpr fun w hw e => hy2 w hw (by rw [e, hy1]), ?_⟩
    cases c : ((List.range y).all fun v => f v != f y) with
    | false => rfl
    | true => exact absurd fy.symm (rep_iff.mp c r ry)
theorem stab {n : Nat} {f : Nat → Nat → Nat} (hA : ∀ k u v, u < n → v < n → f (k + 1) u = f (k + 1) v → f k u = f k v)
    (hB : ∀ k j, (∀ u v, u < n → v < n → (f k u = f k v ↔ f j u = f j v)) → ∀ u v, u < n → v < n → (f (k + 1) u = f (k + 1) v ↔ f (j + 1) u = f (j + 1) v)) :
    ∀ m, n ≤ m → ∀ u v, u < n → v < n → f n u = f n v → f m u = f m v := by
  have key : ∃ k, k ≤ n ∧ ∀ u v, u < n → v < n → (f k u = f k v ↔ f (k + 1) u = f (k + 1) v) := by
    refine Classical.byContradiction fun hno => ?_
    have step : ∀ k, k ≤ n → (repsF n (f k)).length < (repsF n (f (k + 1))).length := by
      intro k hk
      refine reps_grow (hA k) ?_
      refine Classical.byContradiction fun hd => hno ⟨k, hk, fun u v hu hv => ⟨fun e => ?_, hA k u v hu hv⟩⟩
      exact Classical.byContradiction fun z => hd ⟨u, v, hu, hv, e, z⟩
    have grow : ∀ k, k ≤ n + 1 → k ≤ (repsF n (f k)).length := by
      intro k
      induction k with
      | zero => intro _; exact Nat.zero_le _
      | succ k ih =>
        intro hk
        have h1 := ih (by omega)
        have h2 := step k (by omega)
        omega
    have h1 := grow (n + 1) (Nat.le_refl _)
    have h2 : (repsF n (f (n + 1))).length ≤ n := by
      unfold repsF
      refine Nat.le_trans (List.length_filter_le _ _) ?_
      rw [List.length_range]
      exact Nat.le_refl _
    omega
  obtain ⟨k, hk, hs⟩ := key
  have all : ∀ j u v, u < n → v < n → (f (k + j) u = f (k + j) v ↔ f (k + j + 1) u = f (k + j + 1) v) := by
    intro j
    induction j with
    | zero => exact hs
    | succ j ih =>
      have z := hB (k + j) (k + j + 1) ih
      exact z
  have up : ∀ j u v, u < n → v < n → (f k u = f k v ↔ f (k + j) u = f (k + j) v) := by
    intro j
    induction j with
    | zero => intro u v _ _; exact Iff.rfl
    | succ j ih => intro u v hu hv; exact (ih u v hu hv).trans (all j u v hu hv)
  intro m hm u v hu hv e
  have z1 := up (n - k) u v hu hv
  have z2 := up (m - k) u v hu hv
  rw [show k + (n - k) = n by omega] at z1
  rw [show k + (m - k) = m by omega] at z2
  exact z2.mp (z1.mpr e)
theorem alike_iff {t : Net} (hg : goodL t.n t.links) (hn : 1 ≤ t.n) {u v : Nat} (hu : u < t.n) (hv : v < t.n) : Ks536.alike t u v = true ↔ mkAt t t.n u = mkAt t t.n v := by
  have st := stab (n := t.n) (f := mkAt t) (fun k u v hu hv h => (like_marks hg k hu hv).mp (like_mono hg k hu hv ((like_marks hg (k + 1) hu hv).mpr h)))
    (fun k j h u v hu hv => by
      rw [← like_marks hg (k + 1) hu hv, ← like_marks hg (j + 1) hu hv, like_succ t k hu hv, like_succ t j hu hv]
      have c : ∀ (e : Nat) (a b : Nat × Nat), (rowS t u)[e]? = some a → (rowS t v)[e]? = some b → (Ks536.like t t k a.1 b.1 = true ↔ Ks536.like t t j a.1 b.1 = true) := by
        intro e a b ha hb
        rw [like_marks hg k (row_in hg ha) (row_in hg hb), like_marks hg j (row_in hg ha) (row_in hg hb)]
        exact h _ _ (row_in hg ha) (row_in hg hb)
      constructor
      · rintro ⟨h1, h2⟩
        exact ⟨h1, fun e a b ha hb => ⟨(h2 e a b ha hb).1, (c e a b ha hb).mp (h2 e a b ha hb).2⟩⟩
      · rintro ⟨h1, h2⟩
        exact ⟨h1, fun e a b ha hb => ⟨(h2 e a b ha hb).1, (c e a b ha hb).mpr (h2 e a b ha hb).2⟩⟩)
  unfold Ks536.alike Ks536.apart
  rw [Option.isNone_iff_eq_none, List.find?_eq_none]
  constructor
  · intro h
    have z := h t.n (List.mem_range.mpr (by omega))
    have z2 : Ks536.like t t t.n u v = true := by simpa using z
    exact (like_marks hg t.n hu hv).mp z2
  · intro h k hk
    have hk' := List.mem_range.mp hk
    have z : Ks536.like t t (t.n + k) u v = true := (like_marks hg (t.n + k) hu hv).mpr (st (t.n + k) (by omega) u v hu hv h)
    have z2 := like_le hg hu hv (show k ≤ t.n + k by omega) z
    simp [z2]
end NM
namespace NM
open Ks536 (Net)
/-! ### twos of places, by words -/
abbrev Two := Nat × Nat
abbrev TW := List (Two × List Nat)
def goT (t : Net) (p : Two) (x : Nat) : Two := (Ks536.go t p.1 x, Ks536.go t p.2 x)
def put1 (t : Net) (p : Two × List Nat) (l : TW) (x : Nat) : TW := if l.any (fun r => r.1 == goT t p.1 x) then l else l ++ [(goT t p.1 x, p.2 ++ [x])]
def procT (t : Net) (l : TW) (p : Two × List Nat) : TW := (List.range (Ks537.letters t)).foldl (put1 t p) l
theorem spread_eq (t : Net) (old : TW) : Ks537.spread t old = old.foldl (procT t) old := rfl
def hasT (l : TW) (q : Two) : Prop := ∃ r ∈ l, r.1 = q
theorem any_iff {l : TW} {q : Two} : l.any (fun r => r.1 == q) = true ↔ hasT l q := by
  rw [List.any_eq_true]
  constructor
  · rintro ⟨r, h1, h2⟩
    exact ⟨r, h1, by simpa using h2⟩
  · rintro ⟨r, h1, h2⟩
    exact ⟨r, h1, by simpa using h2⟩
theorem hasT_map {l : TW} {q : Two} : hasT l q ↔ q ∈ l.map (·.1) := by
  rw [List.mem_map]
  exact Iff.rfl
theorem put1_pre (t : Net) (p : Two × List Nat) (l : TW) (x : Nat) : ∃ m, put1 t p l x = l ++ m := by
  unfold put1
  split
  · exact ⟨[], by simp⟩
  · exact ⟨_, rfl⟩
theorem put1_has (t : Net) (p : Two × List Nat) (l : TW) (x : Nat) : hasT (put1 t p l x) (goT t p.1 x) := by
  unfold put1
  split
  · rename_i h
    exact any_iff.mp h
  · exact ⟨_, List.mem_append_right _ List.mem_cons_self, rfl⟩
theorem put1_noop {t : Net} {p : Two × List Nat} {l : TW} {x : Nat} (h : hasT l (goT t p.1 x)) : put1 t p l x = l := by
  unfold put1
  rw [if_pos (any_iff.mpr h)]
theorem foldl_pre {t : Net} {p : Two × List Nat} : ∀ (xs : List Nat) (l : TW), ∃ m, xs.foldl (put1 t p) l = l ++ m
  | [], l => ⟨[], by simp⟩
  | x :: r, l => by
    obtain ⟨m1, h1⟩ := put1_pre t p l x
    obtain ⟨m2, h2⟩ := foldl_pre r (put1 t p l x)
    refine ⟨m1 ++ m2, ?_⟩
    rw [List.foldl_cons, h2, h1, List.append_assoc]
theorem hasT_app {l m : TW} {q : Two} (h : hasT l q) : hasT (l ++ m) q := by
  obtain ⟨r, h1, h2⟩ := h
  exact ⟨r, List.mem_append_left _ h1, h2⟩
theorem foldl_has {t : Net} {p : Two × List Nat} : ∀ (xs : List Nat) (l : TW) (x : Nat), x ∈ xs → hasT (xs.foldl (put1 t p) l) (goT t p.1 x)
  | [], l, x, h => by simp at h
  | y :: r, l, x, h => by
    rw [List.foldl_cons]
    rcases List.mem_cons.mp h with e | h
    · subst e
      obtain ⟨m, hm⟩ := foldl_pre r (put1 t p l x)
      rw [hm]
      exact hasT_app (put1_has t p l x)
    · exact foldl_has r _ x h
theorem foldl_noop {t : Net} {p : Two × List Nat} {l : TW} : ∀ (xs : List Nat), (∀ x ∈ xs, hasT l (goT t p.1 x)) → xs.foldl (put1 t p) l = l
  | [], _ => rfl
  | x :: r, h => by
    rw [List.foldl_cons, put1_noop (h x List.mem_cons_self)]
    exact foldl_noop r fun y hy => h y (List.mem_cons_of_mem _ hy)
def qs (t : Net) (u v : Nat) : Nat → TW
  | 0 => [((u, v), [])]
  | i + 1 => match (qs t u v i)[i]? with
    | none => qs t u v i
    | some p => procT t (qs t u v i) p
section
variable {t : Net} {u v : Nat}
theorem qs_some {i : Nat} {p : Two × List Nat} (h : (qs t u v i)[i]? = some p) : qs t u v (i + 1) = procT t (qs t u v i) p := by
  show (match (qs t u v i)[i]? with | none => qs t u v i | some p => procT t (qs t u v i) p) = _
  rw [h]
theorem qs_none {i : Nat} (h : (qs t u v i)[i]? = none) : qs t u v (i + 1) = qs t u v i := by
  show (match (qs t u v i)[i]? with | none => qs t u v i | some p => procT t (qs t u v i) p) = _
  rw [h]
theorem qs_pre (i : Nat) : ∃ m, qs t u v (i + 1) = qs t u v i ++ m := by
  cases h : (qs t u v i)[i]? with
  | none => exact ⟨[], by rw [qs_none h]; simp⟩
  | some p =>
    rw [qs_some h]
    exact foldl_pre _ _
theorem qs_pre_le {i j : Nat} (h : i ≤ j) : ∃ m, qs t u v j = qs t u v i ++ m := by
  induction h with
  | refl => exact ⟨[], by simp⟩
  | @step j h ih =>
    obtain ⟨m1, h1⟩ := ih
    obtain ⟨m2, h2⟩ := qs_pre (t := t) (u := u) (v := v) j
    exact ⟨m1 ++ m2, by rw [h2, h1, List.append_assoc]⟩
theorem qs_at {i j k : Nat} (h : i ≤ j) {p : Two × List Nat} (hp : (qs t u v i)[k]? = some p) : (qs t u v j)[k]? = some p := by
  obtain ⟨m, e⟩ := qs_pre_le (t := t) (u := u) (v := v) h
  rw [e, List.getElem?_append_left (lt_of_at hp)]
  exact hp
/-- what stands ahead of «at» is done -/
theorem qs_closed (i j : Nat) (p : Two × List Nat) (hj : j < i) (hp : (qs t u v i)[j]? = some p) : ∀ x, x < Ks537.letters t → hasT (qs t u v i) (goT t p.1 x) := by
  intro x hx
  obtain ⟨m, e⟩ := qs_pre_le (t := t) (u := u) (v := v) (show j + 1 ≤ i by omega)
  cases h : (qs t u v j)[j]? with
  | none =>
    -- the list had ended: it stays
    exfalso
    have : ∀ k, qs t u v (j + k) = qs t u v j := by
      intro k
      induction k with
      | zero => rfl
      | succ k ih =>
        have h1 : (qs t u v (j + k))[j + k]? = none := by
          rw [ih]
          have := List.getElem?_eq_none_iff.mp h
          exact List.getElem?_eq_none (by omega)
        rw [show j + (k + 1) = (j + k) + 1 from rfl, qs_none h1, ih]
    have e2 := this (i - j)
    rw [show j + (i - j) = i by omega] at e2
    rw [e2, h] at hp
    cases hp
  | some q =>
    have hq := qs_at (show j ≤ i by omega) h
    rw [hp] at hq
    have eq := Option.some.inj hq
    subst eq
    rw [e, qs_some h]
    exact hasT_app (foldl_has _ _ x (List.mem_range.mpr hx))
theorem fold_qs (i : Nat) (hi : i ≤ (qs t u v i).length) : ∀ m, m ≤ (qs t u v i).length → ((qs t u v i).take m).foldl (procT t) (qs t u v i) = qs t u v (max i m) := by
  intro m
  induction m with
  | zero => intro _; simp
  | succ m ih =>
    intro hm
    have hml : m < (qs t u v i).length := by omega
    rw [take_more (List.getElem?_eq_getElem hml), List.foldl_append, ih (by omega)]
    show procT t (qs t u v (max i m)) (qs t u v i)[m] = _
    by_cases c : m < i
    · have e1 : max i m = i := by omega
      have e2 : max i (m + 1) = i := by omega
      rw [e1, e2]
      refine foldl_noop _ fun x hx => ?_
      exact qs_closed i m _ c (List.getElem?_eq_getElem hml) x (List.mem_range.mp hx)
    · have e1 : max i m = m := by omega
      have e2 : max i (m + 1) = m + 1 := by omega
      rw [e1, e2]
      exact (qs_some (qs_at (show i ≤ m by omega) (List.getElem?_eq_getElem hml))).symm
theorem spread_qs (i : Nat) (hi : i ≤ (qs t u v i).length) : Ks537.spread t (qs t u v i) = qs t u v (qs t u v i).length := by
  rw [spread_eq]
  have := fold_qs i hi (qs t u v i).length (Nat.le_refl _)
  rw [List.take_length, show max i (qs t u v i).length = (qs t u v i).length by omega] at this
  exact this
def aK (t : Net) (u v : Nat) : Nat → Nat
  | 0 => 0
  | k + 1 => (qs t u v (aK t u v k)).length
theorem aK_le : ∀ k, aK t u v k ≤ (qs t u v (aK t u v k)).length
  | 0 => Nat.zero_le _
  | k + 1 => by
    obtain ⟨m, e⟩ := qs_pre_le (t := t) (u := u) (v := v) (aK_le k)
    show (qs t u v (aK t u v k)).length ≤ (qs t u v (qs t u v (aK t u v k)).length).length
    have e2 := congrArg List.length e
    rw [List.length_append] at e2
    omega
theorem pairs_qs : ∀ k, Ks537.pairs t u v k = qs t u v (aK t u v k)
  | 0 => rfl
  | k + 1 => by
    show Ks537.spread t (Ks537.pairs t u v k) = _
    rw [pairs_qs k, spread_qs _ (aK_le k)]
    rfl
theorem qs_stay {i : Nat} (h : (qs t u v i).length ≤ i) : ∀ k, qs t u v (i + k) = qs t u v i
  | 0 => rfl
  | k + 1 => by
    have ih := qs_stay h k
    have h1 : (qs t u v (i + k))[i + k]? = none := by
      rw [ih]
      exact List.getElem?_eq_none (by omega)
    rw [show i + (k + 1) = (i + k) + 1 from rfl, qs_none h1, ih]
/-! ### no two are the same; none is longer behind -/
/-- within a turn -/
structure QT (t : Net) (i : Nat) (p : Two × List Nat) (S : TW) : Prop where
  nd : (S.map (·.1)).Nodup
  lt : ∀ r ∈ S, r.1.1 < t.n ∧ r.1.2 < t.n
  so : ∀ (a b : Nat) (p q : Two × List Nat), a ≤ b → S[a]? = some p → S[b]? = some q → p.2.length ≤ q.2.length
  at_ : S[i]? = some p
  nr : ∀ q ∈ S, q.2.length ≤ p.2.length + 1
  ix : ∀ (a : Nat) (r : Two × List Nat), S[a]? = some r → r.2.length ≤ a
theorem QT.put {i : Nat} {S : TW} {p : Two × List Nat} (B : QT t i p S) (hg : goodL t.n t.links) (x : Nat) : QT t i p (put1 t p S x) := by
  unfold put1
  split
  · exact B
  · rename_i h
    have hno : ¬ hasT S (goT t p.1 x) := fun z => h (any_iff.mpr z)
    have hpl := B.lt p (List.mem_of_getElem? B.at_)
    have cases' : ∀ {a : Nat} {r : Two × List Nat}, (S ++ [(goT t p.1 x, p.2 ++ [x])])[a]? = some r → S[a]? = some r ∨ (a = S.length ∧ r = (goT t p.1 x, p.2 ++ [x])) := by
      intro a r h
      by_cases ha : a < S.length
      · rw [List.getElem?_append_left ha] at h; exact .inl h
      · rw [List.getElem?_append_right (by omega)] at h
        have z := lt_of_at h
        have e : a - S.length = 0 := by simpa using z
        rw [e] at h
        exact .inr ⟨by omega, (Option.some.inj h).symm⟩
    refine ⟨?_, ?_, ?_, ?_, ?_, ?_⟩
    · rw [List.map_append, List.nodup_append]
      refine ⟨B.nd, by simp, fun a ha b hb e => ?_⟩
      have hb' : b = goT t p.1 x := by simpa using hb
      rw [e, hb'] at ha
      exact hno (hasT_map.mpr ha)
    · intro r hr
      rcases List.mem_append.mp hr with z | z
      · exact B.lt r z
      · have e : r = (goT t p.1 x, p.2 ++ [x]) := by simpa using z
        rw [e]
        exact ⟨go_lt (n := t.n) (ls := t.links) hg hpl.1 x, go_lt (n := t.n) (ls := t.links) hg hpl.2 x⟩
    · intro a b r q hab hr hq
      rcases cases' hr with z1 | ⟨z1, z1'⟩ <;> rcases cases' hq with z2 | ⟨z2, z2'⟩
      · exact B.so a b r q hab z1 z2
      · rw [z2']
        have := B.nr r (List.mem_of_getElem? z1)
        simp
        omega
      · have := lt_of_at z2
        omega
      · rw [z1', z2']
        exact Nat.le_refl _
    · rw [List.getElem?_append_left (lt_of_at B.at_)]
      exact B.at_
    · intro q hq
      rcases List.mem_append.mp hq with z | z
      · exact B.nr q z
      · have e : q = (goT t p.1 x, p.2 ++ [x]) := by simpa using z
        rw [e]
        simp
    · intro a r hr
      rcases cases' hr with z1 | ⟨z1, z1'⟩
      · exact B.ix a r z1
      · have h1 := B.ix i p B.at_
        have h2 := lt_of_at B.at_
        rw [z1', z1]
        simp
        omega
theorem QT.fold {i : Nat} {p : Two × List Nat} (hg : goodL t.n t.links) : ∀ (xs : List Nat) {S : TW}, QT t i p S → QT t i p (xs.foldl (put1 t p) S)
  | [], _, B => B
  | x :: r, S, B => by
    rw [List.foldl_cons]
    exact QT.fold hg r (B.put hg x)
structure QQ (t : Net) (i : Nat) (S : TW) : Prop where
  nd : (S.map (·.1)).Nodup
  lt : ∀ r ∈ S, r.1.1 < t.n ∧ r.1.2 < t.n
  so : ∀ (a b : Nat) (p q : Two × List Nat), a ≤ b → S[a]? = some p → S[b]? = some q → p.2.length ≤ q.2.length
  nr : ∀ p, S[i]? = some p → ∀ q ∈ S, q.2.length ≤ p.2.length + 1
  ne : 0 < S.length
  ix : ∀ (a : Nat) (r : Two × List Nat), S[a]? = some r → r.2.length ≤ a
theorem QQ.turn {i : Nat} {S : TW} {p : Two × List Nat} (B : QQ t i S) (h : S[i]? = some p) : QT t i p S := ⟨B.nd, B.lt, B.so, h, B.nr p h, B.ix⟩
theorem QT.next {i : Nat} {S : TW} {p : Two × List Nat} (B : QT t i p S) : QQ t (i + 1) S where
  nd := B.nd
  lt := B.lt
  so := B.so
  nr := fun q hq r hr => by
    have h1 := B.so i (i + 1) p q (by omega) B.at_ hq
    have h2 := B.nr r hr
    omega
  ne := by have := lt_of_at B.at_; omega
  ix := B.ix
theorem qs_QQ (hg : goodL t.n t.links) (hu : u < t.n) (hv : v < t.n) : ∀ i, QQ t i (qs t u v i)
  | 0 => ⟨by simp [qs], fun r hr => by simp [qs] at hr; subst hr; exact ⟨hu, hv⟩, fun a b p q _ hp hq => by
      have e1 := List.mem_of_getElem? hp
      simp [qs] at e1
      subst e1
      exact Nat.zero_le _, fun p hp q hq => by
      simp [qs] at hq
      subst hq
      exact Nat.zero_le _, by simp [qs], fun a r hr => by
      have e1 := List.mem_of_getElem? hr
      simp [qs] at e1
      subst e1
      exact Nat.zero_le _⟩
  | i + 1 => by
    have ih := qs_QQ hg hu hv i
    cases h : (qs t u v i)[i]? with
    | none =>
      rw [qs_none h]
      refine ⟨ih.nd, ih.lt, ih.so, fun p hp => ?_, ih.ne, ih.ix⟩
      have z := List.getElem?_eq_none_iff.mp h
      rw [List.getElem?_eq_none (by omega)] at hp
      cases hp
    | some p =>
      rw [qs_some h]
      exact (QT.fold hg _ (ih.turn h)).next
theorem sum_const (n : Nat) : ∀ l : List Nat, (l.map fun _ => n).sum = l.length * n
  | [] => by simp
  | a :: r => by
    rw [List.map_cons, List.sum_cons, sum_const n r, List.length_cons, Nat.add_mul]
    omega
theorem prod_len (n : Nat) : ((List.range n).flatMap fun a => (List.range n).map fun b => (a, b)).length = n * n := by
  rw [List.length_flatMap]
  have e : (List.range n).map (fun a => ((List.range n).map fun b => (a, b)).length) = (List.range n).map fun _ => n := by simp
  rw [e, sum_const, List.length_range]
theorem qq_len {i : Nat} {S : TW} (B : QQ t i S) : S.length ≤ t.n * t.n := by
  have := nodup_len_le (S.map (·.1)) ((List.range t.n).flatMap fun a => (List.range t.n).map fun b => (a, b)) B.nd (fun x hx => by
    obtain ⟨r, hr, rfl⟩ := List.mem_map.mp hx
    have := B.lt r hr
    exact List.mem_flatMap.mpr ⟨r.1.1, List.mem_range.mpr this.1, List.mem_map.mpr ⟨r.1.2, List.mem_range.mpr this.2, rfl⟩⟩)
  rwa [List.length_map, prod_len] at this
theorem qs_end (hg : goodL t.n t.links) (hu : u < t.n) (hv : v < t.n) {i : Nat} (h : (qs t u v i).length ≤ i) : qs t u v i = Ks537.pairs t u v (t.n * t.n) := by
  have fin : ∃ k, k ≤ t.n * t.n ∧ (qs t u v (aK t u v k)).length ≤ aK t u v k := by
    refine Classical.byContradiction fun hno => ?_
    have lt : ∀ k, k ≤ t.n * t.n → aK t u v k < (qs t u v (aK t u v k)).length := fun k hk => by
      have := aK_le (t := t) (u := u) (v := v) k
      rcases Nat.lt_or_ge (aK t u v k) (qs t u v (aK t u v k)).length with z | z
      · exact z
      · exact absurd ⟨k, hk, z⟩ hno
    have grow : ∀ k, k ≤ t.n * t.n → k ≤ aK t u v k := by
      intro k
      induction k with
      | zero => intro _; exact Nat.zero_le _
      | succ k ih =>
        intro hk
        have h1 := ih (by omega)
        have h2 := lt k (by omega)
        show k + 1 ≤ (qs t u v (aK t u v k)).length
        omega
    have h1 := grow (t.n * t.n) (Nat.le_refl _)
    have h2 := lt (t.n * t.n) (Nat.le_refl _)
    have h3 := qq_len (qs_QQ hg hu hv (aK t u v (t.n * t.n)))
    omega
  obtain ⟨k, hk, hf⟩ := fin
  have st : ∀ j, aK t u v (k + j) = aK t u v k := by
    intro j
    induction j with
    | zero => rfl
    | succ j ih =>
      show (qs t u v (aK t u v (k + j))).length = _
      rw [ih]
      have := aK_le (t := t) (u := u) (v := v) k
      omega
  rw [pairs_qs, show t.n * t.n = k + (t.n * t.n - k) by omega, st]
  -- both have ended
  rcases Nat.le_total i (aK t u v k) with z | z
  · have e := qs_stay h (aK t u v k - i)
    rw [show i + (aK t u v k - i) = aK t u v k by omega] at e
    exact e.symm
  · have e := qs_stay hf (i - aK t u v k)
    rw [show aK t u v k + (i - aK t u v k) = i by omega] at e
    exact e
end
/-! ### the first of the nearest -/
def better (t : Net) (b r : Two × List Nat) : Two × List Nat := if Ks537.far t r.1 < Ks537.far t b.1 ∨ (Ks537.far t r.1 = Ks537.far t b.1 ∧ r.2.length < b.2.length) then r else b
def FB (t : Net) (pre : TW) (b : Two × List Nat) : Prop := ∃ i, pre[i]? = some b ∧ ∀ (k : Nat) (c : Two × List Nat), pre[k]? = some c → Ks537.far t b.1 ≤ Ks537.far t c.1 ∧ (k < i → Ks537.far t b.1 < Ks537.far t c.1)
theorem fold_best (t : Net) : ∀ (l pre : TW) (b : Two × List Nat), (∀ (a c : Nat) (p q : Two × List Nat), a ≤ c → (pre ++ l)[a]? = some p → (pre ++ l)[c]? = some q → p.2.length ≤ q.2.length) → FB t pre b → FB t (pre ++ l) (l.foldl (better t) b)
  | [], pre, b, _, h => by simpa using h
  | r :: l, pre, b, hs, h => by
    have e : pre ++ r :: l = (pre ++ [r]) ++ l := by simp
    rw [e] at hs ⊢
    rw [List.foldl_cons]
    refine fold_best t l (pre ++ [r]) (better t b r) hs ?_
    obtain ⟨i, hi, hb⟩ := h
    have hil := lt_of_at hi
    have hr : (pre ++ [r])[pre.length]? = some r := by rw [List.getElem?_append_right (Nat.le_refl _), Nat.sub_self]; rfl
    have hrl : (pre ++ [r] ++ l)[pre.length]? = some r := by rw [List.getElem?_append_left (by simp)]; exact hr
    have hil2 : (pre ++ [r] ++ l)[i]? = some b := by
      rw [List.getElem?_append_left (by simp; omega), List.getElem?_append_left hil]
      exact hi
    have hlen := hs i pre.length b r (by omega) hil2 hrl
    have cases' : ∀ {k : Nat} {c : Two × List Nat}, (pre ++ [r])[k]? = some c → pre[k]? = some c ∨ (k = pre.length ∧ c = r) := by
      intro k c h
      by_cases hk : k < pre.length
      · rw [List.getElem?_append_left hk] at h; exact .inl h
      · rw [List.getElem?_append_right (by omega)] at h
        have z := lt_of_at h
        have e : k - pre.length = 0 := by simpa using z
        rw [e] at h
        exact .inr ⟨by omega, (Option.some.inj h).symm⟩
    unfold better
    by_cases c : Ks537.far t r.1 < Ks537.far t b.1
    · rw [if_pos (.inl c)]
      refine ⟨pre.length, hr, fun k x hx => ?_⟩
      rcases cases' hx with z | ⟨z1, z2⟩
      · have := (hb k x z).1
        exact ⟨by omega, fun _ => by omega⟩
      · rw [z2]
        exact ⟨Nat.le_refl _, fun z => by omega⟩
    · rw [if_neg (by omega)]
      refine ⟨i, by rw [List.getElem?_append_left hil]; exact hi, fun k x hx => ?_⟩
      rcases cases' hx with z | ⟨z1, z2⟩
      · exact hb k x z
      · rw [z2]
        exact ⟨by omega, fun z => by omega⟩
theorem FB.uniq {t : Net} {S : TW} {b : Two × List Nat} (h : FB t S b) {i : Nat} {r : Two × List Nat} (hr : S[i]? = some r) (hm : ∀ k c, S[k]? = some c → Ks537.far t r.1 ≤ Ks537.far t c.1 ∧ (k < i → Ks537.far t r.1 < Ks537.far t c.1)) : b = r := by
  obtain ⟨j, hj, hb⟩ := h
  have h1 := hb i r hr
  have h2 := hm j b hj
  have e : i = j := by
    rcases Nat.lt_or_ge i j with z | z
    · have := h1.2 z; omega
    · rcases Nat.lt_or_ge j i with z2 | z2
      · have := h2.2 z2; omega
      · omega
  subst e
  rw [hr] at hj
  exact (Option.some.inj hj).symm
theorem shrink_eq {t : Net} (hg : goodL t.n t.links) {u v : Nat} (hu : u < t.n) (hv : v < t.n) {j : Nat} {S : TW} (hS : S = qs t u v j) (hend : S.length ≤ j) {i : Nat} {r : Two × List Nat} (hr : S[i]? = some r)
    (hm : ∀ k c, S[k]? = some c → Ks537.far t r.1 ≤ Ks537.far t c.1 ∧ (k < i → Ks537.far t r.1 < Ks537.far t c.1)) : Ks537.shrink t u v = (Ks537.far t r.1, r.2) := by
  have B := qs_QQ hg hu hv j
  have hp := qs_end hg hu hv (i := j) (by rw [← hS]; exact hend)
  rw [← hS] at hp B
  unfold Ks537.shrink
  rw [← hp]
  cases hc : S with
  | nil =>
    rw [hc] at hr
    simp at hr
  | cons p l =>
    have fb : FB t ([p] ++ l) (l.foldl (better t) p) := by
      refine fold_best t l [p] p ?_ ⟨0, rfl, fun k c hk => ?_⟩
      · intro a c x y hac hx hy
        exact B.so a c x y hac (by rw [hc]; exact hx) (by rw [hc]; exact hy)
      · have e : k = 0 := by
          have := lt_of_at hk
          simpa using this
        subst e
        have := Option.some.inj hk
        rw [this]
        exact ⟨Nat.le_refl _, fun z => by omega⟩
    have e := fb.uniq (i := i) (r := r) (by rw [hc] at hr; exact hr) (fun k c hk => hm k c (by rw [hc]; exact hk))
    show (Ks537.far t (l.foldl (better t) p).1, (l.foldl (better t) p).2) = _
    rw [e]
/-! ### a net that hangs together: from everywhere to everywhere -/
theorem end_is {n : Nat} {ls : Links} {i x : Nat} {p : Nat × Nat} (h : ls[i]? = some p) : Ks536.end_ ⟨n, ls⟩ i x = if p.1 = x then p.2 else p.1 := by
  unfold Ks536.end_
  simp only [h]
theorem end_end {n : Nat} {ls : Links} (hg : goodL n ls) {u i : Nat} (h : i ∈ Ks536.exits ⟨n, ls⟩ u) : Ks536.end_ ⟨n, ls⟩ i (Ks536.end_ ⟨n, ls⟩ i u) = u := by
  obtain ⟨p, h1, h2⟩ := exits_mem.mp h
  have h1' : ls[i]? = some p := h1
  have hp := hg p (List.mem_of_getElem? h1')
  by_cases e : p.1 = u
  · rw [end_is h1' (x := u), if_pos e, end_is h1', if_neg hp.2.2]
    exact e
  · have e2 : p.2 = u := h2.resolve_left e
    rw [end_is h1' (x := u), if_neg e, end_is h1', if_pos rfl]
    exact e2
theorem adj_symm {t : Net} (hg : goodL t.n t.links) {u w : Nat} (h : Adj t u w) : Adj t w u := by
  obtain ⟨q, hq, rfl⟩ := h
  obtain ⟨i, hi, rfl⟩ := List.mem_map.mp hq
  show Adj t (Ks536.end_ t i u) u
  refine ⟨_, List.mem_map.mpr ⟨i, end_mem hi, rfl⟩, ?_⟩
  exact end_end (n := t.n) (ls := t.links) hg hi
def Rc (t : Net) (x y : Nat) : Prop := ∃ k, y ∈ itS t k [x]
theorem Rc.refl (t : Net) (x : Nat) : Rc t x x := ⟨0, by simp [itS]⟩
theorem Rc.step {t : Net} {x y z : Nat} (h : Rc t x y) (ha : Adj t y z) (hz : z < t.n) : Rc t x z := by
  obtain ⟨k, hk⟩ := h
  refine ⟨k + 1, ?_⟩
  rw [itS_succ]
  exact mem_stepS.mpr ⟨hz, .inr ⟨y, hk, ha⟩⟩
theorem Rc.ind {t : Net} {x : Nat} {P : Nat → Prop} (h0 : P x) (hs : ∀ y z, P y → Adj t y z → z < t.n → P z) {y : Nat} (h : Rc t x y) : P y := by
  obtain ⟨k, hk⟩ := h
  induction k generalizing y with
  | zero =>
    have e : y = x := by simpa [itS] using hk
    rw [e]
    exact h0
  | succ k ih =>
    rw [itS_succ] at hk
    obtain ⟨h1, h2⟩ := mem_stepS.mp hk
    rcases h2 with h2 | ⟨u, hu, h2⟩
    · exact ih h2
    · exact hs u y (ih hu) h2 h1
theorem Rc.trans {t : Net} {x y z : Nat} (h1 : Rc t x y) (h2 : Rc t y z) : Rc t x z := Rc.ind (P := fun w => Rc t x w) h1 (fun _ _ p a l => p.step a l) h2
theorem Rc.symm {t : Net} (hg : goodL t.n t.links) {x y : Nat} (hx : x < t.n) (h : Rc t x y) : Rc t y x := by
  have : (y < t.n ∧ Rc t y x) := Rc.ind (P := fun w => w < t.n ∧ Rc t w x) ⟨hx, Rc.refl t x⟩ (fun y z p a l => ⟨l, ((Rc.refl t z).step (adj_symm hg a) p.1).trans p.2⟩) h
  exact this.2
theorem dist_rc {t : Net} {x v : Nat} {k : Nat} (h : Ks536.distance t x v = some k) : Rc t x v := by
  refine Classical.byContradiction fun hn => ?_
  have z : Ks536.distance t x v = none := dist_none t.n [x] fun j hj => hn ⟨j, hj⟩
  rw [z] at h
  cases h
theorem joined_all {t : Net} (hg : goodL t.n t.links) (hj : Ks536.joined t = true) {x y : Nat} (hx : x < t.n) (hy : y < t.n) : Rc t x y := by
  unfold Ks536.joined at hj
  rw [List.all_eq_true] at hj
  have h0 : ∀ v, v < t.n → Rc t 0 v := fun v hv => by
    obtain ⟨k, hk⟩ := Option.isSome_iff_exists.mp (hj v (List.mem_range.mpr hv))
    exact dist_rc hk
  exact (Rc.symm hg (by omega) (h0 x hx)).trans (h0 y hy)
theorem max_of : ∀ {l : List Nat} {m a : Nat}, (m ∈ l ∨ m = a) → (∀ x ∈ l, x ≤ m) → a ≤ m → l.foldl max a = m
  | [], m, a, h, _, h2 => by
    rcases h with h | h
    · simp at h
    · exact h.symm
  | x :: r, m, a, h, h1, h2 => by
    rw [List.foldl_cons]
    have hx := h1 x List.mem_cons_self
    refine max_of ?_ (fun y hy => h1 y (List.mem_cons_of_mem _ hy)) (by omega)
    rcases h with h | h
    · rcases List.mem_cons.mp h with e | h
      · exact .inr (by omega)
      · exact .inl h
    · exact .inr (by omega)
theorem letters_of {t : Net} {m : Nat} (h : m ∈ (List.range t.n).map (fun p => (rowS t p).length)) (h2 : ∀ x ∈ (List.range t.n).map (fun p => (rowS t p).length), x ≤ m) : Ks537.letters t = m + 1 := by
  have e : (List.range t.n).map (Ks536.degree t) = (List.range t.n).map (fun p => (rowS t p).length) := List.map_congr_left fun p _ => (rowS_len t p).symm
  unfold Ks537.letters
  rw [e, max_of (.inl h) h2 (Nat.zero_le _)]
end NM
namespace NM
open Ks536 (Net)
/-! ### a search, level by level: the queue behind i turns -/
section
variable {A : Type} [DecidableEq A]
abbrev QW (A : Type) := List (A × List Nat)
def bput (f : A → Nat → A) (p : A × List Nat) (l : QW A) (x : Nat) : QW A := if l.any (fun r => r.1 == f p.1 x) then l else l ++ [(f p.1 x, p.2 ++ [x])]
def bproc (f : A → Nat → A) (L : Nat) (l : QW A) (p : A × List Nat) : QW A := (List.range L).foldl (bput f p) l
def bq (f : A → Nat → A) (L : Nat) (s0 : A) : Nat → QW A
  | 0 => [(s0, [])]
  | i + 1 => match (bq f L s0 i)[i]? with
    | none => bq f L s0 i
    | some p => bproc f L (bq f L s0 i) p
def hasB (l : QW A) (q : A) : Prop := ∃ r ∈ l, r.1 = q
theorem anyB {l : QW A} {q : A} : l.any (fun r => r.1 == q) = true ↔ hasB l q := by
  rw [List.any_eq_true]
  constructor
  · rintro ⟨r, h1, h2⟩
    exact ⟨r, h1, eq_of_beq h2⟩
  · rintro ⟨r, h1, h2⟩
    exact ⟨r, h1, beq_iff_eq.mpr h2⟩
theorem hasB_map {l : QW A} {q : A} : hasB l q ↔ q ∈ l.map (·.1) := by
  rw [List.mem_map]
  rfl
theorem hasB_app {l m : QW A} {q : A} (h : hasB l q) : hasB (l ++ m) q := by
  obtain ⟨r, h1, h2⟩ := h
  exact ⟨r, List.mem_append_left _ h1, h2⟩
variable {f : A → Nat → A} {L : Nat} {s0 : A}
theorem bput_pre (p : A × List Nat) (l : QW A) (x : Nat) : ∃ m, bput f p l x = l ++ m := by
  unfold bput
  split
  · exact ⟨[], by simp⟩
  · exact ⟨_, rfl⟩
theorem bput_has (p : A × List Nat) (l : QW A) (x : Nat) : hasB (bput f p l x) (f p.1 x) := by
  unfold bput
  split
  · rename_i h
    exact anyB.mp h
  · exact ⟨_, List.mem_append_right _ List.mem_cons_self, rfl⟩
theorem bfold_pre {p : A × List Nat} : ∀ (xs : List Nat) (l : QW A), ∃ m, xs.foldl (bput f p) l = l ++ m
  | [], l => ⟨[], by simp⟩
  | x :: r, l => by
    obtain ⟨m1, e1⟩ := bput_pre (f := f) p l x
    obtain ⟨m2, e2⟩ := bfold_pre r (bput f p l x)
    rw [List.foldl_cons, e2, e1]
    exact ⟨m1 ++ m2, by simp⟩
theorem bfold_has {p : A × List Nat} : ∀ (xs : List Nat) (l : QW A) (x : Nat), x ∈ xs → hasB (xs.foldl (bput f p) l) (f p.1 x)
  | [], l, x, h => by simp at h
  | y :: r, l, x, h => by
    rw [List.foldl_cons]
    rcases List.mem_cons.mp h with e | h
    · subst e
      obtain ⟨m, e⟩ := bfold_pre (f := f) (p := p) r (bput f p l x)
      rw [e]
      exact hasB_app (bput_has p l x)
    · exact bfold_has r _ x h
theorem bq_some {i : Nat} {p : A × List Nat} (h : (bq f L s0 i)[i]? = some p) : bq f L s0 (i + 1) = bproc f L (bq f L s0 i) p := by
  show (match (bq f L s0 i)[i]? with
    | none => bq f L s0 i
    | some p => bproc f L (bq f L s0 i) p) = _
  rw [h]
theorem bq_none {i : Nat} (h : (bq f L s0 i)[i]? = none) : bq f L s0 (i + 1) = bq f L s0 i := by
  show (match (bq f L s0 i)[i]? with
    | none => bq f L s0 i
    | some p => bproc f L (bq f L s0 i) p) = _
  rw [h]
theorem bq_pre (i : Nat) : ∃ m, bq f L s0 (i + 1) = bq f L s0 i ++ m := by
  cases h : (bq f L s0 i)[i]? with
  | none => rw [bq_none h]; exact ⟨[], by simp⟩
  | some p => rw [bq_some h]; exact bfold_pre _ _
theorem bq_pre_le {i j : Nat} (h : i ≤ j) : ∃ m, bq f L s0 j = bq f L s0 i ++ m := by
  induction j with
  | zero =>
    have e : i = 0 := by omega
    subst e
    exact ⟨[], by simp⟩
  | succ j ih =>
    by_cases e : i = j + 1
    · subst e
      exact ⟨[], by simp⟩
    · obtain ⟨m, em⟩ := ih (by omega)
      obtain ⟨m2, em2⟩ := bq_pre (f := f) (L := L) (s0 := s0) j
      rw [em2, em]
      exact ⟨m ++ m2, by simp⟩
theorem bq_at {i j k : Nat} (h : i ≤ j) {p : A × List Nat} (hp : (bq f L s0 i)[k]? = some p) : (bq f L s0 j)[k]? = some p := by
  obtain ⟨m, em⟩ := bq_pre_le (f := f) (L := L) (s0 := s0) h
  rw [em, List.getElem?_append_left (lt_of_at hp)]
  exact hp
theorem bq_len_le {i j : Nat} (h : i ≤ j) : (bq f L s0 i).length ≤ (bq f L s0 j).length := by
  obtain ⟨m, em⟩ := bq_pre_le (f := f) (L := L) (s0 := s0) h
  rw [em, List.length_append]
  omega
theorem bq_stay {i : Nat} (h : (bq f L s0 i).length ≤ i) : ∀ k, bq f L s0 (i + k) = bq f L s0 i
  | 0 => rfl
  | k + 1 => by
    have ih := bq_stay h k
    show bq f L s0 (i + k + 1) = _
    rw [bq_none]
    · exact ih
    · rw [ih]
      exact List.getElem?_eq_none (by omega)
/-- two that have ended are one -/
theorem bq_ended {i j : Nat} (hi : (bq f L s0 i).length ≤ i) (hj : (bq f L s0 j).length ≤ j) : bq f L s0 i = bq f L s0 j := by
  rcases Nat.le_total i j with z | z
  · have e := bq_stay hi (j - i)
    rw [show i + (j - i) = j by omega] at e
    exact e.symm
  · have e := bq_stay hj (i - j)
    rw [show j + (i - j) = i by omega] at e
    exact e
/-- any queue is a beginning of one that has ended -/
theorem bq_pre_end {i j : Nat} (hj : (bq f L s0 j).length ≤ j) : ∃ m, bq f L s0 j = bq f L s0 i ++ m := by
  rcases Nat.le_total i j with z | z
  · exact bq_pre_le z
  · have e := bq_stay hj (i - j)
    rw [show j + (i - j) = i by omega] at e
    exact ⟨[], by rw [e]; simp⟩
theorem bq_closed (i j : Nat) (p : A × List Nat) (hj : j < i) (hp : (bq f L s0 i)[j]? = some p) : ∀ x, x < L → hasB (bq f L s0 i) (f p.1 x) := by
  intro x hx
  induction i with
  | zero => omega
  | succ i ih =>
    obtain ⟨m, em⟩ := bq_pre (f := f) (L := L) (s0 := s0) i
    by_cases hji : j < i
    · have hl : j < (bq f L s0 i).length ∨ (bq f L s0 i).length ≤ j := by omega
      rcases hl with hl | hl
      · have hp' : (bq f L s0 i)[j]? = some p := by
          rw [em, List.getElem?_append_left hl] at hp
          exact hp
        rw [em]
        exact hasB_app (ih hji hp')
      · have e := bq_none (f := f) (L := L) (s0 := s0) (i := i) (List.getElem?_eq_none (by omega))
        rw [e] at hp
        rw [List.getElem?_eq_none hl] at hp
        cases hp
    · have e : j = i := by omega
      subst e
      cases h : (bq f L s0 j)[j]? with
      | none =>
        rw [bq_none h] at hp
        rw [h] at hp
        cases hp
      | some q =>
        have z := bq_at (f := f) (L := L) (s0 := s0) (Nat.le_succ j) h
        rw [z] at hp
        have e2 := Option.some.inj hp
        subst e2
        rw [bq_some h]
        exact bfold_has _ _ x (List.mem_range.mpr hx)
/-! ### what is so of the queue -/
def runB (f : A → Nat → A) (s : A) (w : List Nat) : A := w.foldl f s
theorem runB_snoc (s : A) (w : List Nat) (x : Nat) : runB f s (w ++ [x]) = f (runB f s w) x := by
  unfold runB
  rw [List.foldl_append]
  rfl
structure BT (f : A → Nat → A) (L : Nat) (s0 : A) (i : Nat) (p : A × List Nat) (S : QW A) : Prop where
  nd : (S.map (·.1)).Nodup
  at_ : S[i]? = some p
  ix : ∀ (a : Nat) (r : A × List Nat), S[a]? = some r → r.2.length ≤ a
  rn : ∀ r ∈ S, runB f s0 r.2 = r.1 ∧ ∀ x ∈ r.2, x < L
theorem BT.put {i : Nat} {S : QW A} {p : A × List Nat} (B : BT f L s0 i p S) {x : Nat} (hx : x < L) : BT f L s0 i p (bput f p S x) := by
  unfold bput
  split
  · exact B
  · rename_i h
    have hno : ¬ hasB S (f p.1 x) := fun z => h (anyB.mpr z)
    have hp := B.rn p (List.mem_of_getElem? B.at_)
    refine ⟨?_, ?_, ?_, ?_⟩
    · rw [List.map_append, List.nodup_append]
      refine ⟨B.nd, by simp, fun a ha b hb e => ?_⟩
      have hb' : b = f p.1 x := by simpa using hb
      rw [e, hb'] at ha
      exact hno (hasB_map.mpr ha)
    · rw [List.getElem?_append_left (lt_of_at B.at_)]
      exact B.at_
    · intro a r hr
      by_cases ha : a < S.length
      · rw [List.getElem?_append_left ha] at hr
        exact B.ix a r hr
      · rw [List.getElem?_append_right (by omega)] at hr
        have z := lt_of_at hr
        have e : a - S.length = 0 := by simpa using z
        rw [e] at hr
        have er := (Option.some.inj hr).symm
        have h1 := B.ix i p B.at_
        have h2 := lt_of_at B.at_
        rw [er]
        simp
        omega
    · intro r hr
      rcases List.mem_append.mp hr with z | z
      · exact B.rn r z
      · have e : r = (f p.1 x, p.2 ++ [x]) := by simpa using z
        rw [e]
        refine ⟨?_, ?_⟩
        · show runB f s0 (p.2 ++ [x]) = f p.1 x
          rw [runB_snoc, hp.1]
        · intro y hy
          rcases List.mem_append.mp hy with z | z
          · exact hp.2 y z
          · have : y = x := by simpa using z
            rw [this]
            exact hx
theorem BT.fold {i : Nat} {p : A × List Nat} : ∀ (xs : List Nat) {S : QW A}, (∀ x ∈ xs, x < L) → BT f L s0 i p S → BT f L s0 i p (xs.foldl (bput f p) S)
  | [], _, _, B => B
  | x :: r, S, h, B => by
    rw [List.foldl_cons]
    exact BT.fold r (fun y hy => h y (List.mem_cons_of_mem _ hy)) (B.put (h x List.mem_cons_self))
structure BB (f : A → Nat → A) (L : Nat) (s0 : A) (S : QW A) : Prop where
  nd : (S.map (·.1)).Nodup
  ne : 0 < S.length
  ix : ∀ (a : Nat) (r : A × List Nat), S[a]? = some r → r.2.length ≤ a
  rn : ∀ r ∈ S, runB f s0 r.2 = r.1 ∧ ∀ x ∈ r.2, x < L
theorem BB.turn {i : Nat} {S : QW A} {p : A × List Nat} (B : BB f L s0 S) (h : S[i]? = some p) : BT f L s0 i p S := ⟨B.nd, h, B.ix, B.rn⟩
theorem BT.next {i : Nat} {S : QW A} {p : A × List Nat} (B : BT f L s0 i p S) : BB f L s0 S := ⟨B.nd, by have := lt_of_at B.at_; omega, B.ix, B.rn⟩
theorem bq_BB : ∀ i, BB f L s0 (bq f L s0 i)
  | 0 => ⟨by simp [bq], by simp [bq], fun a r hr => by
      have e1 := List.mem_of_getElem? hr
      simp [bq] at e1
      subst e1
      exact Nat.zero_le _, fun r hr => by
      simp [bq] at hr
      subst hr
      exact ⟨rfl, fun x hx => by simp at hx⟩⟩
  | i + 1 => by
    have ih := bq_BB i
    cases h : (bq f L s0 i)[i]? with
    | none => rw [bq_none h]; exact ih
    | some p =>
      rw [bq_some h]
      exact (BT.fold _ (fun x hx => List.mem_range.mp hx) (ih.turn h)).next
/-- what every state keeps -/
theorem runB_inv {P : A → Prop} (h : ∀ s x, P s → x < L → P (f s x)) {s : A} (h0 : P s) : ∀ w : List Nat, (∀ x ∈ w, x < L) → P (runB f s w) := by
  refine snoc_ind (fun _ => h0) (fun w x ih hw => ?_)
  rw [runB_snoc]
  exact h _ _ (ih fun y hy => hw y (List.mem_append_left _ hy)) (hw x (List.mem_append_right _ List.mem_cons_self))
theorem bb_len {S U : List A} (nd : S.Nodup) (h : ∀ s ∈ S, s ∈ U) : S.length ≤ U.length := nodup_len_le S U nd h
theorem bq_univ {U : List A} (h0 : s0 ∈ U) (h : ∀ s x, s ∈ U → x < L → f s x ∈ U) (i : Nat) : (bq f L s0 i).length ≤ U.length := by
  have B := bq_BB (f := f) (L := L) (s0 := s0) i
  have := bb_len B.nd (U := U) (fun s hs => by
    obtain ⟨r, hr, rfl⟩ := List.mem_map.mp hs
    obtain ⟨e, hl⟩ := B.rn r hr
    rw [← e]
    exact runB_inv (P := fun s => s ∈ U) h h0 r.2 hl)
  rwa [List.length_map] at this
/-! ### the levels -/
def lvl (f : A → Nat → A) (L : Nat) (s0 : A) : Nat → Nat
  | 0 => 0
  | k + 1 => (bq f L s0 (lvl f L s0 k)).length
theorem lvl_le : ∀ k, lvl f L s0 k ≤ (bq f L s0 (lvl f L s0 k)).length
  | 0 => Nat.zero_le _
  | k + 1 => by
    have ih := lvl_le k
    show (bq f L s0 (lvl f L s0 k)).length ≤ _
    exact bq_len_le ih
theorem lvl_mono1 (k : Nat) : lvl f L s0 k ≤ lvl f L s0 (k + 1) := lvl_le k
theorem lvl_mono {k m : Nat} (h : k ≤ m) : lvl f L s0 k ≤ lvl f L s0 m := by
  induction m with
  | zero => rw [show k = 0 by omega]; exact Nat.le_refl _
  | succ m ih =>
    by_cases e : k = m + 1
    · rw [e]; exact Nat.le_refl _
    · exact Nat.le_trans (ih (by omega)) (lvl_mono1 m)
/-- each word of k letters leads to a state of the first k levels -/
theorem lvl_has : ∀ w : List Nat, (∀ x ∈ w, x < L) → hasB (bq f L s0 (lvl f L s0 w.length)) (runB f s0 w) := by
  refine snoc_ind (fun _ => ⟨_, List.mem_cons_self, rfl⟩) (fun w x ih hw => ?_)
  obtain ⟨r, hr, er⟩ := ih fun y hy => hw y (List.mem_append_left _ hy)
  obtain ⟨j, hj⟩ := List.getElem?_of_mem hr
  rw [runB_snoc, ← er, List.length_append]
  show hasB (bq f L s0 (lvl f L s0 (w.length + 1))) _
  have hl : j < lvl f L s0 (w.length + 1) := lt_of_at hj
  refine bq_closed _ j r hl (bq_at (lvl_mono1 _) hj) x (hw x (List.mem_append_right _ List.mem_cons_self))
/-- the turns of one level -/
theorem lvl_fold (i : Nat) : ∀ m, i + m ≤ (bq f L s0 i).length → (((bq f L s0 i).drop i).take m).foldl (bproc f L) (bq f L s0 i) = bq f L s0 (i + m)
  | 0, _ => by simp
  | m + 1, h => by
    have ih := lvl_fold i m (by omega)
    obtain ⟨p, hp⟩ : ∃ p, (bq f L s0 i)[i + m]? = some p := ⟨_, List.getElem?_eq_getElem (by omega)⟩
    have e : ((bq f L s0 i).drop i)[m]? = some p := by
      rw [List.getElem?_drop]
      exact hp
    rw [take_more e, List.foldl_append, ih]
    show bproc f L (bq f L s0 (i + m)) p = bq f L s0 (i + m + 1)
    exact (bq_some (bq_at (by omega) hp)).symm
theorem lvl_next (k : Nat) : ((bq f L s0 (lvl f L s0 k)).drop (lvl f L s0 k)).foldl (bproc f L) (bq f L s0 (lvl f L s0 k)) = bq f L s0 (lvl f L s0 (k + 1)) := by
  have h := lvl_le (f := f) (L := L) (s0 := s0) k
  have e := lvl_fold (f := f) (L := L) (s0 := s0) (lvl f L s0 k) ((bq f L s0 (lvl f L s0 k)).length - lvl f L s0 k) (by omega)
  rw [show lvl f L s0 k + ((bq f L s0 (lvl f L s0 k)).length - lvl f L s0 k) = lvl f L s0 (k + 1) by
    show _ = (bq f L s0 (lvl f L s0 k)).length
    omega] at e
  rw [← e, List.take_of_length_le]
  rw [List.length_drop]
  exact Nat.le_refl _
/-! ### a search by levels, with a list of what was seen -/
def bgrow (f : A → Nat → A) (L : Nat) (old : QW A) (seen : List A) : QW A × List A := old.foldl (fun r p => (List.range L).foldl (fun r x => let s := f p.1 x
  if r.2.contains s then r else (r.1 ++ [(s, p.2 ++ [x])], r.2 ++ [s])) r) ([], seen)
theorem cont_any {S : QW A} {q : A} : (S.map (·.1)).contains q = S.any (fun r => r.1 == q) := by
  rw [Bool.eq_iff_iff, anyB, hasB_map, List.contains_iff_mem]
theorem bgrow_in {p : A × List Nat} {pre : QW A} : ∀ (xs : List Nat) (new : QW A), ∃ new', xs.foldl (fun r x => let s := f p.1 x
  if r.2.contains s then r else (r.1 ++ [(s, p.2 ++ [x])], r.2 ++ [s])) (new, (pre ++ new).map (·.1)) = (new', (pre ++ new').map (·.1)) ∧ pre ++ new' = xs.foldl (bput f p) (pre ++ new)
  | [], new => ⟨new, rfl, rfl⟩
  | x :: r, new => by
    rw [List.foldl_cons, List.foldl_cons]
    by_cases h : (pre ++ new).any (fun r => r.1 == f p.1 x) = true
    · have e1 : bput f p (pre ++ new) x = pre ++ new := if_pos h
      rw [e1]
      have e2 : ((pre ++ new).map (·.1)).contains (f p.1 x) = true := by rw [cont_any]; exact h
      simp only [e2, if_true]
      exact bgrow_in r new
    · have e1 : bput f p (pre ++ new) x = pre ++ (new ++ [(f p.1 x, p.2 ++ [x])]) := by
        unfold bput
        rw [if_neg h, List.append_assoc]
      rw [e1]
      have e2 : ((pre ++ new).map (·.1)).contains (f p.1 x) = false := by rw [cont_any]; exact Bool.eq_false_iff.mpr h
      simp only [e2]
      have e3 : (pre ++ new).map (·.1) ++ [f p.1 x] = (pre ++ (new ++ [(f p.1 x, p.2 ++ [x])])).map (·.1) := by simp
      rw [if_neg (by decide), e3]
      exact bgrow_in r (new ++ [(f p.1 x, p.2 ++ [x])])
theorem bgrow_out {pre : QW A} : ∀ (old : QW A) (new : QW A), ∃ new', old.foldl (fun r p => (List.range L).foldl (fun r x => let s := f p.1 x
  if r.2.contains s then r else (r.1 ++ [(s, p.2 ++ [x])], r.2 ++ [s])) r) (new, (pre ++ new).map (·.1)) = (new', (pre ++ new').map (·.1)) ∧ pre ++ new' = old.foldl (bproc f L) (pre ++ new)
  | [], new => ⟨new, rfl, rfl⟩
  | p :: r, new => by
    rw [List.foldl_cons, List.foldl_cons]
    obtain ⟨n1, e1, e2⟩ := bgrow_in (f := f) (p := p) (pre := pre) (List.range L) new
    rw [e1]
    have e3 : bproc f L (pre ++ new) p = pre ++ n1 := e2.symm
    rw [e3]
    exact bgrow_out r n1
theorem bgrow_lvl (k : Nat) : bgrow f L ((bq f L s0 (lvl f L s0 k)).drop (lvl f L s0 k)) ((bq f L s0 (lvl f L s0 k)).map (·.1)) = ((bq f L s0 (lvl f L s0 (k + 1))).drop (lvl f L s0 (k + 1)), (bq f L s0 (lvl f L s0 (k + 1))).map (·.1)) := by
  obtain ⟨n1, e1, e2⟩ := bgrow_out (f := f) (L := L) (pre := bq f L s0 (lvl f L s0 k)) ((bq f L s0 (lvl f L s0 k)).drop (lvl f L s0 k)) []
  rw [List.append_nil] at e1 e2
  rw [lvl_next] at e2
  unfold bgrow
  rw [e1, e2]
  have e3 : (bq f L s0 (lvl f L s0 (k + 1))).drop (lvl f L s0 (k + 1)) = n1 := by
    rw [← e2]
    exact List.drop_left
  rw [e3]
def bsearch (f : A → Nat → A) (L : Nat) (P : A → Bool) : Nat → QW A → List A → Option (List Nat)
  | 0, _, _ => none
  | n + 1, level, seen => match level.find? fun p => P p.1 with
    | some p => some p.2
    | none => if level.isEmpty then none else bsearch f L P n (bgrow f L level seen).1 (bgrow f L level seen).2
theorem find_split {B : Type} {P : B → Bool} {l m : List B} (h : l.find? P = none) : (l ++ m).find? P = m.find? P := by
  rw [List.find?_append, h]
  rfl
theorem bsearch_lvl {P : A → Bool} {S : QW A} {j : Nat} (hS : S = bq f L s0 j) (hend : S.length ≤ j) : ∀ (n k : Nat), (S.take (lvl f L s0 k)).find? (fun p => P p.1) = none →
    (∀ (i : Nat) (p : A × List Nat), S[i]? = some p → P p.1 = true → ∃ (i' : Nat) (p' : A × List Nat), S[i']? = some p' ∧ P p'.1 = true ∧ i' < lvl f L s0 (k + n)) →
    bsearch f L P n ((bq f L s0 (lvl f L s0 k)).drop (lvl f L s0 k)) ((bq f L s0 (lvl f L s0 k)).map (·.1)) = (S.find? fun p => P p.1).map (·.2)
  | 0, k, hno, hin => by
    have none_ : (S.find? fun p => P p.1) = none := by
      rw [List.find?_eq_none]
      intro p hp hP
      obtain ⟨i, hi⟩ := List.getElem?_of_mem hp
      obtain ⟨i', p', h1, h2, h3⟩ := hin i p hi hP
      have hm : p' ∈ S.take (lvl f L s0 k) := by
        refine List.mem_of_getElem? (i := i') ?_
        rw [List.getElem?_take, if_pos (show i' < lvl f L s0 k from h3)]
        exact h1
      exact (List.find?_eq_none.mp hno) p' hm h2
    rw [none_]
    rfl
  | n + 1, k, hno, hin => by
    have hle := lvl_le (f := f) (L := L) (s0 := s0) k
    obtain ⟨m, em⟩ : ∃ m, S = bq f L s0 (lvl f L s0 k) ++ m := by
      rw [hS]
      exact bq_pre_end (by rw [← hS]; exact hend)
    have split : S = S.take (lvl f L s0 k) ++ ((bq f L s0 (lvl f L s0 k)).drop (lvl f L s0 k) ++ m) := by
      have e : S.take (lvl f L s0 k) = (bq f L s0 (lvl f L s0 k)).take (lvl f L s0 k) := by
        rw [em, List.take_append_of_le_length hle]
      rw [e, ← List.append_assoc, List.take_append_drop]
      exact em
    have hf : (S.find? fun p => P p.1) = (((bq f L s0 (lvl f L s0 k)).drop (lvl f L s0 k) ++ m).find? fun p => P p.1) := by
      have : (S.find? fun p => P p.1) = ((S.take (lvl f L s0 k) ++ ((bq f L s0 (lvl f L s0 k)).drop (lvl f L s0 k) ++ m)).find? fun p => P p.1) := congrArg (List.find? fun p => P p.1) split
      rw [this, find_split hno]
    unfold bsearch
    cases hc : ((bq f L s0 (lvl f L s0 k)).drop (lvl f L s0 k)).find? fun p => P p.1 with
    | some p =>
      rw [hf, List.find?_append, hc]
      rfl
    | none =>
      simp only
      have hno' : (S.take (lvl f L s0 (k + 1))).find? (fun p => P p.1) = none := by
        have e : S.take (lvl f L s0 (k + 1)) = bq f L s0 (lvl f L s0 k) := by
          rw [em]
          exact List.take_left
        rw [e]
        have e2 : bq f L s0 (lvl f L s0 k) = S.take (lvl f L s0 k) ++ (bq f L s0 (lvl f L s0 k)).drop (lvl f L s0 k) := by
          have e : S.take (lvl f L s0 k) = (bq f L s0 (lvl f L s0 k)).take (lvl f L s0 k) := by
            rw [em, List.take_append_of_le_length hle]
          rw [e, List.take_append_drop]
        rw [e2, find_split hno, hc]
      by_cases he : ((bq f L s0 (lvl f L s0 k)).drop (lvl f L s0 k)).isEmpty = true
      · rw [if_pos he]
        have hl : (bq f L s0 (lvl f L s0 k)).length ≤ lvl f L s0 k := by
          have := List.isEmpty_iff.mp he
          have := congrArg List.length this
          rw [List.length_drop, List.length_nil] at this
          omega
        have es : S = bq f L s0 (lvl f L s0 k) := by
          rw [hS]
          exact bq_ended (by rw [← hS]; exact hend) hl
        rw [hf, find_split hc]
        have em0 : m = [] := by
          have := congrArg List.length em
          rw [List.length_append] at this
          have h2 := congrArg List.length es
          exact List.length_eq_zero_iff.mp (by omega)
        rw [em0]
        rfl
      · rw [if_neg he, bgrow_lvl]
        exact bsearch_lvl hS hend n (k + 1) hno' fun i p h1 h2 => by
          obtain ⟨i', p', g1, g2, g3⟩ := hin i p h1 h2
          exact ⟨i', p', g1, g2, by rw [show k + 1 + n = k + (n + 1) by omega]; exact g3⟩
end
/-! ### one search is another's picture -/
theorem bq_map {A B : Type} [DecidableEq A] [DecidableEq B] {f : A → Nat → A} {g : B → Nat → B} {e : A → B} {L : Nat} (inj : ∀ a b, e a = e b → a = b) (he : ∀ a x, g (e a) x = e (f a x)) {s0 : A} : ∀ i, bq g L (e s0) i = (bq f L s0 i).map fun r => (e r.1, r.2) := by
  have hput : ∀ (p : A × List Nat) (l : QW A) (x : Nat), bput g (e p.1, p.2) (l.map fun r => (e r.1, r.2)) x = (bput f p l x).map fun r => (e r.1, r.2) := by
    intro p l x
    have ha : ((l.map fun r => (e r.1, r.2)).any fun r => r.1 == g (e p.1) x) = l.any fun r => r.1 == f p.1 x := by
      rw [Bool.eq_iff_iff, anyB, anyB]
      constructor
      · rintro ⟨r, hr, h⟩
        obtain ⟨q, hq, rfl⟩ := List.mem_map.mp hr
        refine ⟨q, hq, inj _ _ ?_⟩
        rw [← he]
        exact h
      · rintro ⟨q, hq, h⟩
        refine ⟨_, List.mem_map.mpr ⟨q, hq, rfl⟩, ?_⟩
        rw [he]
        exact congrArg e h
    unfold bput
    rw [ha]
    split
    · rfl
    · rw [List.map_append, he]
      rfl
  have hproc : ∀ (p : A × List Nat) (xs : List Nat) (l : QW A), xs.foldl (bput g (e p.1, p.2)) (l.map fun r => (e r.1, r.2)) = (xs.foldl (bput f p) l).map fun r => (e r.1, r.2) := by
    intro p xs
    induction xs with
    | nil => intro l; rfl
    | cons x r ih =>
      intro l
      rw [List.foldl_cons, List.foldl_cons, hput, ih]
  intro i
  induction i with
  | zero => rfl
  | succ i ih =>
    cases h : (bq f L s0 i)[i]? with
    | none =>
      rw [bq_none h, bq_none, ih]
      rw [ih, List.getElem?_map, h]
      rfl
    | some p =>
      rw [bq_some h, bq_some (p := (e p.1, p.2)), ih]
      · exact hproc p _ _
      · rw [ih, List.getElem?_map, h]
        rfl
end NM
namespace NM
open Ks536 (Net)
/-! ### the states of two wanderers, the second d later -/
abbrev Stand := Ks537.Stand
abbrev SW := QW Stand
def stS (t : Net) (d u v i : Nat) : SW := bq (Ks537.step t d) (Ks537.letters t) ⟨u, v, []⟩ i
theorem grow_eq (t : Net) (d : Nat) (old : SW) (seen : List Stand) : Ks537.grow t d old seen = bgrow (Ks537.step t d) (Ks537.letters t) old seen := rfl
theorem search_eq (t : Net) (d : Nat) : ∀ (n : Nat) (level : SW) (seen : List Stand), Ks537.search t d n level seen = bsearch (Ks537.step t d) (Ks537.letters t) (fun s => s.a == s.b) n level seen
  | 0, _, _ => rfl
  | n + 1, level, seen => by
    unfold Ks537.search bsearch
    cases hc : level.find? fun p => p.1.a == p.1.b with
    | some p => rfl
    | none =>
      simp only
      by_cases he : level.isEmpty = true
      · rw [if_pos he, if_pos he]
      · rw [if_neg he, if_neg he, grow_eq]
        exact search_eq t d n _ _
/-! ### where a word leads -/
def goW (t : Net) (u : Nat) (w : List Nat) : Nat := w.foldl (Ks536.go t) u
theorem goW_snoc (t : Net) (u : Nat) (w : List Nat) (x : Nat) : goW t u (w ++ [x]) = Ks536.go t (goW t u w) x := by
  unfold goW
  rw [List.foldl_append]
  rfl
theorem goW_app (t : Net) (u : Nat) (w z : List Nat) : goW t u (w ++ z) = goW t (goW t u w) z := by
  unfold goW
  rw [List.foldl_append]
theorem run_two (t : Net) (u v : Nat) : ∀ w : List Nat, runB (goT t) (u, v) w = (goW t u w, goW t v w) := by
  refine snoc_ind rfl (fun w x ih => ?_)
  rw [runB_snoc, ih, goW_snoc, goW_snoc]
  rfl
theorem run_stand (t : Net) (d u v : Nat) : ∀ w : List Nat, runB (Ks537.step t d) ⟨u, v, []⟩ w = ⟨goW t u w, goW t v (w.take (w.length - d)), w.drop (w.length - d)⟩ := by
  refine snoc_ind (by simp [runB, goW]) (fun w x ih => ?_)
  rw [runB_snoc, ih, goW_snoc]
  have hl : (w ++ [x]).length = w.length + 1 := by simp
  rw [hl]
  have hq : w.drop (w.length - d) ++ [x] = (w ++ [x]).drop (w.length - d) := (List.drop_append_of_le_length (by omega)).symm
  unfold Ks537.step
  simp only [hq]
  have hql : ((w ++ [x]).drop (w.length - d)).length = w.length + 1 - (w.length - d) := by rw [List.length_drop, hl]
  by_cases c : ((w ++ [x]).drop (w.length - d)).length ≤ d
  · rw [if_pos c]
    have h0 : w.length + 1 ≤ d := by omega
    have e1 : w.length - d = 0 := by omega
    have e2 : w.length + 1 - d = 0 := by omega
    rw [e1, e2]
    simp
  · rw [if_neg c]
    have h0 : d ≤ w.length := by omega
    have e1 : w.length + 1 - d = (w.length - d) + 1 := by omega
    rw [e1]
    obtain ⟨y, hy⟩ : ∃ y, (w ++ [x])[w.length - d]? = some y := ⟨_, List.getElem?_eq_getElem (by rw [hl]; omega)⟩
    have e2 : (w ++ [x]).drop (w.length - d) = y :: (w ++ [x]).drop (w.length - d + 1) := by
      have hlt : w.length - d < (w ++ [x]).length := by rw [hl]; omega
      rw [List.drop_eq_getElem_cons hlt]
      have := List.getElem?_eq_getElem hlt
      rw [this] at hy
      rw [Option.some.inj hy]
    have e3 : w.take (w.length - d) = (w ++ [x]).take (w.length - d) := (List.take_append_of_le_length (by omega)).symm
    rw [e2, e3, take_more hy, goW_snoc]
    rfl
/-! ### the pairs of one net: few -/
def univ2 (t : Net) : List Two := (List.range t.n).flatMap fun a => (List.range t.n).map fun b => (a, b)
theorem mem_univ2 {t : Net} {p : Two} : p ∈ univ2 t ↔ p.1 < t.n ∧ p.2 < t.n := by
  unfold univ2
  constructor
  · intro h
    obtain ⟨a, ha, hb⟩ := List.mem_flatMap.mp h
    obtain ⟨b, hb2, rfl⟩ := List.mem_map.mp hb
    exact ⟨List.mem_range.mp ha, List.mem_range.mp hb2⟩
  · rintro ⟨h1, h2⟩
    exact List.mem_flatMap.mpr ⟨p.1, List.mem_range.mpr h1, List.mem_map.mpr ⟨p.2, List.mem_range.mpr h2, rfl⟩⟩
theorem two_len {t : Net} (hg : goodL t.n t.links) {u v : Nat} (hu : u < t.n) (hv : v < t.n) (i : Nat) : (bq (goT t) (Ks537.letters t) (u, v) i).length ≤ t.n * t.n := by
  have := bq_univ (f := goT t) (L := Ks537.letters t) (s0 := (u, v)) (U := univ2 t) (mem_univ2.mpr ⟨hu, hv⟩) (fun s x hs _ => by
    have z := mem_univ2.mp hs
    exact mem_univ2.mpr ⟨go_lt (n := t.n) (ls := t.links) hg z.1 x, go_lt (n := t.n) (ls := t.links) hg z.2 x⟩) i
  unfold univ2 at this
  rwa [prod_len] at this
theorem two_short {t : Net} (hg : goodL t.n t.links) {u v : Nat} (hu : u < t.n) (hv : v < t.n) (w : List Nat) (hw : ∀ x ∈ w, x < Ks537.letters t) :
    ∃ z : List Nat, (∀ x ∈ z, x < Ks537.letters t) ∧ z.length < t.n * t.n ∧ goW t u z = goW t u w ∧ goW t v z = goW t v w := by
  obtain ⟨r, hr, er⟩ := lvl_has (f := goT t) (L := Ks537.letters t) (s0 := (u, v)) w hw
  generalize lvl (goT t) (Ks537.letters t) (u, v) w.length = i at hr
  have B := bq_BB (f := goT t) (L := Ks537.letters t) (s0 := (u, v)) i
  obtain ⟨k, hk⟩ := List.getElem?_of_mem hr
  have h1 := B.ix k r hk
  have h2 := lt_of_at hk
  have h3 := two_len hg hu hv i
  obtain ⟨h4, h5⟩ := B.rn r hr
  rw [run_two] at er
  rw [run_two, er] at h4
  exact ⟨r.2, h5, by omega, congrArg Prod.fst h4, congrArg Prod.snd h4⟩
/-- what meets by a word meets by a short one -/
theorem meet_short {t : Net} (hg : goodL t.n t.links) {d u v : Nat} (hu : u < t.n) (hv : v < t.n) (w : List Nat) (hw : ∀ x ∈ w, x < Ks537.letters t) (hm : (runB (Ks537.step t d) ⟨u, v, []⟩ w).a = (runB (Ks537.step t d) ⟨u, v, []⟩ w).b) :
    ∃ z : List Nat, (∀ x ∈ z, x < Ks537.letters t) ∧ z.length < t.n * t.n + d ∧ (runB (Ks537.step t d) ⟨u, v, []⟩ z).a = (runB (Ks537.step t d) ⟨u, v, []⟩ z).b := by
  by_cases hd : w.length < d
  · exact ⟨w, hw, by omega, hm⟩
  · rw [run_stand] at hm
    simp only at hm
    obtain ⟨z, hz1, hz2, hz3, hz4⟩ := two_short hg hu hv (w.take (w.length - d)) (fun x hx => hw x (List.mem_of_mem_take hx))
    refine ⟨z ++ w.drop (w.length - d), ?_, ?_, ?_⟩
    · intro x hx
      rcases List.mem_append.mp hx with h | h
      · exact hz1 x h
      · exact hw x (List.mem_of_mem_drop h)
    · rw [List.length_append, List.length_drop]
      omega
    · rw [run_stand]
      simp only
      have e : (z ++ w.drop (w.length - d)).length - d = z.length := by
        rw [List.length_append, List.length_drop]
        omega
      rw [e, List.take_left, goW_app, hz3, hz4, ← goW_app, List.take_append_drop]
      exact hm
theorem found_eq {t : Net} (hg : goodL t.n t.links) (hn : t.n ≤ 7) {d u v : Nat} (hd : d ≤ 2) (hu : u < t.n) (hv : v < t.n) {j : Nat} {S : SW} (hS : S = stS t d u v j) (hend : S.length ≤ j) :
    Ks537.found t u v d = (S.find? fun p => p.1.a == p.1.b).map (·.2) := by
  unfold Ks537.found
  rw [search_eq]
  have h49 : t.n * t.n ≤ 49 := Nat.mul_le_mul hn hn
  refine bsearch_lvl (f := Ks537.step t d) (L := Ks537.letters t) (s0 := ⟨u, v, []⟩) (P := fun s => s.a == s.b) hS hend Ks537.MOST 0 rfl ?_
  intro i p hp hP
  have B := bq_BB (f := Ks537.step t d) (L := Ks537.letters t) (s0 := ⟨u, v, []⟩) j
  have hpS : p ∈ bq (Ks537.step t d) (Ks537.letters t) ⟨u, v, []⟩ j := by
    have := List.mem_of_getElem? hp
    rw [hS] at this
    exact this
  obtain ⟨h1, h2⟩ := B.rn p hpS
  have hm : (runB (Ks537.step t d) ⟨u, v, []⟩ p.2).a = (runB (Ks537.step t d) ⟨u, v, []⟩ p.2).b := by
    rw [h1]
    exact eq_of_beq hP
  obtain ⟨z, hz1, hz2, hz3⟩ := meet_short hg hu hv p.2 h2 hm
  obtain ⟨r, hr, er⟩ := lvl_has (f := Ks537.step t d) (L := Ks537.letters t) (s0 := ⟨u, v, []⟩) z hz1
  obtain ⟨k, hk⟩ := List.getElem?_of_mem hr
  refine ⟨k, r, ?_, ?_, ?_⟩
  · obtain ⟨m, em⟩ := bq_pre_end (f := Ks537.step t d) (L := Ks537.letters t) (s0 := ⟨u, v, []⟩) (i := lvl (Ks537.step t d) (Ks537.letters t) ⟨u, v, []⟩ z.length) (j := j) (by
      have := hend
      rw [hS] at this
      exact this)
    rw [hS]
    unfold stS
    rw [em, List.getElem?_append_left (lt_of_at hk)]
    exact hk
  · show (r.1.a == r.1.b) = true
    rw [er, beq_iff_eq]
    exact hz3
  · have hlt : k < lvl (Ks537.step t d) (Ks537.letters t) ⟨u, v, []⟩ (z.length + 1) := lt_of_at hk
    refine Nat.lt_of_lt_of_le hlt (lvl_mono ?_)
    show z.length + 1 ≤ 0 + 400
    omega
/-! ### the states of one net: not too many -/
def dues (L : Nat) : Nat → List (List Nat)
  | 0 => [[]]
  | k + 1 => [] :: (List.range L).flatMap fun x => (dues L k).map (x :: ·)
theorem mem_dues {L : Nat} : ∀ {d : Nat} {w : List Nat}, w.length ≤ d → (∀ x ∈ w, x < L) → w ∈ dues L d
  | 0, [], _, _ => List.mem_cons_self
  | 0, _ :: _, h, _ => by simp at h
  | d + 1, [], _, _ => List.mem_cons_self
  | d + 1, x :: w, h, hx => by
    refine List.mem_cons_of_mem _ (List.mem_flatMap.mpr ⟨x, List.mem_range.mpr (hx x List.mem_cons_self), List.mem_map.mpr ⟨w, ?_, rfl⟩⟩)
    exact mem_dues (by simpa using h) fun y hy => hx y (List.mem_cons_of_mem _ hy)
theorem dues_len (L : Nat) : ∀ d, (dues L (d + 1)).length = 1 + L * (dues L d).length := by
  intro d
  show ([] :: (List.range L).flatMap fun x => (dues L d).map (x :: ·)).length = _
  rw [List.length_cons, List.length_flatMap]
  have e : (List.range L).map (fun x => ((dues L d).map (x :: ·)).length) = (List.range L).map fun _ => (dues L d).length := by simp
  rw [e, sum_const, List.length_range]
  omega
theorem dues_le {L d : Nat} (hL : L ≤ 13) (hd : d ≤ 2) : (dues L d).length ≤ 183 := by
  have h0 : (dues L 0).length = 1 := rfl
  have h1 : (dues L 1).length = 1 + L * (dues L 0).length := dues_len L 0
  have h2 : (dues L 2).length = 1 + L * (dues L 1).length := dues_len L 1
  rw [h0] at h1
  have h3 : (dues L 1).length ≤ 14 := by omega
  have h4 : L * (dues L 1).length ≤ 13 * 14 := Nat.mul_le_mul hL h3
  have : d = 0 ∨ d = 1 ∨ d = 2 := by omega
  rcases this with rfl | rfl | rfl
  · omega
  · omega
  · omega
def okSt (t : Net) (d : Nat) (s : Stand) : Prop := s.a < t.n ∧ s.b < t.n ∧ s.due.length ≤ d ∧ ∀ x ∈ s.due, x < Ks537.letters t
theorem okSt_step {t : Net} (hg : goodL t.n t.links) {d : Nat} {s : Stand} {x : Nat} (h : okSt t d s) (hx : x < Ks537.letters t) : okSt t d (Ks537.step t d s x) := by
  obtain ⟨h1, h2, h3, h4⟩ := h
  have hq : ∀ y ∈ s.due ++ [x], y < Ks537.letters t := fun y hy => by
    rcases List.mem_append.mp hy with z | z
    · exact h4 y z
    · have : y = x := by simpa using z
      rw [this]
      exact hx
  have hl : (s.due ++ [x]).length = s.due.length + 1 := by simp
  unfold Ks537.step
  simp only
  by_cases c : (s.due ++ [x]).length ≤ d
  · rw [if_pos c]
    exact ⟨go_lt (n := t.n) (ls := t.links) hg h1 x, h2, c, hq⟩
  · rw [if_neg c]
    refine ⟨go_lt (n := t.n) (ls := t.links) hg h1 x, go_lt (n := t.n) (ls := t.links) hg h2 _, ?_, fun y hy => hq y (List.mem_of_mem_tail hy)⟩
    show ((s.due ++ [x]).tail).length ≤ d
    rw [List.length_tail]
    omega
def univS (t : Net) (d : Nat) : List Stand := (univ2 t).flatMap fun p => (dues (Ks537.letters t) d).map fun w => ⟨p.1, p.2, w⟩
theorem univS_len {t : Net} {d : Nat} (hn : t.n ≤ 7) (hL : Ks537.letters t ≤ 13) (hd : d ≤ 2) : (univS t d).length ≤ 8967 := by
  unfold univS
  rw [List.length_flatMap]
  have e : (univ2 t).map (fun p => ((dues (Ks537.letters t) d).map fun w => (⟨p.1, p.2, w⟩ : Stand)).length) = (univ2 t).map fun _ => (dues (Ks537.letters t) d).length := by simp
  have hc : ∀ (l : List Two) (n : Nat), (l.map fun _ => n).sum = l.length * n := by
    intro l n
    induction l with
    | nil => simp
    | cons a r ih =>
      rw [List.map_cons, List.sum_cons, ih, List.length_cons, Nat.add_mul]
      omega
  rw [e, hc]
  have h2 : (univ2 t).length ≤ 49 := by
    unfold univ2
    rw [prod_len]
    exact Nat.mul_le_mul hn hn
  exact Nat.mul_le_mul h2 (dues_le hL hd)
theorem stS_ok {t : Net} (hg : goodL t.n t.links) {d u v : Nat} (hu : u < t.n) (hv : v < t.n) (j : Nat) : ∀ r ∈ stS t d u v j, okSt t d r.1 := by
  intro r hr
  obtain ⟨e, hl⟩ := (bq_BB (f := Ks537.step t d) (L := Ks537.letters t) (s0 := ⟨u, v, []⟩) j).rn r hr
  rw [← e]
  exact runB_inv (P := okSt t d) (fun s x h hx => okSt_step hg h hx) ⟨hu, hv, Nat.zero_le _, fun x hx => by simp at hx⟩ r.2 hl
theorem sw_len {t : Net} {d : Nat} {S : SW} (nd : (S.map (·.1)).Nodup) (h : ∀ r ∈ S, okSt t d r.1) : S.length ≤ (univS t d).length := by
  have := bb_len nd (U := univS t d) (fun s hs => by
    obtain ⟨r, hr, rfl⟩ := List.mem_map.mp hs
    obtain ⟨h1, h2, h3, h4⟩ := h r hr
    exact List.mem_flatMap.mpr ⟨(r.1.a, r.1.b), mem_univ2.mpr ⟨h1, h2⟩, List.mem_map.mpr ⟨r.1.due, mem_dues h3 h4, rfl⟩⟩)
  rwa [List.length_map] at this
theorem letters_le {t : Net} (hl : t.links.length ≤ 12) : Ks537.letters t ≤ 13 := by
  have hm : ∀ (l : List Nat) (a : Nat), a ≤ 12 → (∀ x ∈ l, x ≤ 12) → l.foldl max a ≤ 12 := by
    intro l
    induction l with
    | nil => intro a h _; exact h
    | cons x r ih =>
      intro a h hx
      rw [List.foldl_cons]
      have := hx x List.mem_cons_self
      exact ih _ (by omega) fun y hy => hx y (List.mem_cons_of_mem _ hy)
  have := hm ((List.range t.n).map (Ks536.degree t)) 0 (by omega) (fun x hx => by
    obtain ⟨p, _, rfl⟩ := List.mem_map.mp hx
    rw [← rowS_len]
    exact Nat.le_trans (row_len (n := t.n) (ls := t.links)) hl)
  unfold Ks537.letters
  omega
/-! ### d = 0: the twos -/
def e0 (p : Two) : Stand := ⟨p.1, p.2, []⟩
theorem e0_inj (a b : Two) (h : e0 a = e0 b) : a = b := by
  unfold e0 at h
  injection h with h1 h2 _
  exact Prod.ext h1 h2
theorem e0_step (t : Net) (a : Two) (x : Nat) : Ks537.step t 0 (e0 a) x = e0 (goT t a x) := by
  unfold Ks537.step e0 goT
  simp
theorem put1_bput (t : Net) (p : Two × List Nat) (l : TW) (x : Nat) : put1 t p l x = bput (goT t) p l x := by
  unfold put1 bput
  have e : (l.any fun r => r.1 == goT t p.1 x) = true ↔ (l.any fun r => instBEqOfDecidableEq.beq r.1 (goT t p.1 x)) = true := by
    rw [any_iff]
    exact anyB.symm
  by_cases h : (l.any fun r => r.1 == goT t p.1 x) = true
  · rw [if_pos h]
    exact (if_pos (e.mp h)).symm
  · rw [if_neg h]
    exact (if_neg (fun z => h (e.mpr z))).symm
theorem procT_bproc (t : Net) (l : TW) (p : Two × List Nat) : procT t l p = bproc (goT t) (Ks537.letters t) l p := by
  unfold procT bproc
  rw [show put1 t p = bput (goT t) p from funext fun l => funext fun x => put1_bput t p l x]
theorem qs_bq (t : Net) (u v : Nat) : ∀ i, qs t u v i = bq (goT t) (Ks537.letters t) (u, v) i
  | 0 => rfl
  | i + 1 => by
    have ih := qs_bq t u v i
    cases h : (qs t u v i)[i]? with
    | none =>
      rw [qs_none h, bq_none (by rw [← ih]; exact h)]
      exact ih
    | some p =>
      rw [qs_some h, bq_some (p := p) (by rw [← ih]; exact h), ← ih]
      exact procT_bproc t _ p
theorem st_zero (t : Net) (u v i : Nat) : stS t 0 u v i = (qs t u v i).map fun r => (e0 r.1, r.2) := by
  rw [qs_bq]
  show bq (Ks537.step t 0) (Ks537.letters t) (e0 (u, v)) i = _
  exact bq_map (f := goT t) (g := Ks537.step t 0) (e := e0) e0_inj (fun a x => e0_step t a x) i
/-- how near: by the first of the nearest -/
theorem shrink_first {t : Net} (hg : goodL t.n t.links) {u v : Nat} (hu : u < t.n) (hv : v < t.n) {j : Nat} (hend : (stS t 0 u v j).length ≤ j) (i : Nat) (y : Stand × List Nat) (hy : (stS t 0 u v j)[i]? = some y)
    (hm : ∀ k c, (stS t 0 u v j)[k]? = some c → Ks537.far t (y.1.a, y.1.b) ≤ Ks537.far t (c.1.a, c.1.b) ∧ (k < i → Ks537.far t (y.1.a, y.1.b) < Ks537.far t (c.1.a, c.1.b))) : Ks537.shrink t u v = (Ks537.far t (y.1.a, y.1.b), y.2) := by
  rw [st_zero] at hend hy hm
  rw [List.length_map] at hend
  rw [List.getElem?_map] at hy
  cases hq : (qs t u v j)[i]? with
  | none => rw [hq] at hy; cases hy
  | some r =>
    rw [hq] at hy
    have ey : (e0 r.1, r.2) = y := Option.some.inj hy
    subst ey
    exact shrink_eq hg hu hv (j := j) rfl hend hq (fun k c hc => hm k (e0 c.1, c.2) (by rw [List.getElem?_map, hc]; rfl))
/-- how near: by the least -/
theorem shrink_min {t : Net} (hg : goodL t.n t.links) {u v : Nat} (hu : u < t.n) (hv : v < t.n) {j m : Nat} (hend : (stS t 0 u v j).length ≤ j)
    (hm : ∃ r ∈ stS t 0 u v j, Ks537.far t (r.1.a, r.1.b) = m) (hle : ∀ r ∈ stS t 0 u v j, m ≤ Ks537.far t (r.1.a, r.1.b)) : (Ks537.shrink t u v).1 = m := by
  rw [st_zero] at hend hm hle
  rw [List.length_map] at hend
  have hle' : ∀ r ∈ qs t u v j, m ≤ Ks537.far t r.1 := fun r hr => hle _ (List.mem_map.mpr ⟨r, hr, rfl⟩)
  obtain ⟨r0, hr0, em⟩ := hm
  obtain ⟨r, hr, rfl⟩ := List.mem_map.mp hr0
  have em' : Ks537.far t r.1 = m := em
  obtain ⟨k, hk⟩ := List.getElem?_of_mem hr
  obtain ⟨i, _, ⟨q, hq, eq⟩, hlt⟩ := least_of (P := fun i => ∃ q, (qs t u v j)[i]? = some q ∧ Ks537.far t q.1 = m) k ⟨r, hk, em'⟩
  have := shrink_eq hg hu hv (j := j) rfl hend hq (fun k c hc => by
    have h1 := hle' c (List.mem_of_getElem? hc)
    refine ⟨by omega, fun hki => ?_⟩
    have h2 : ¬ Ks537.far t c.1 = m := fun z => hlt k hki ⟨c, hc, z⟩
    omega)
  rw [this]
  exact eq
end NM
namespace NP
open PySem PySem.Spec PyProof.Rows L2 NM
/-! ### values and heaps -/
def vN (x : Nat) : V := .int (x : Int)
def vNs (l : List Nat) : List V := l.map vN
theorem vN_inj {a b : Nat} (h : vN a = vN b) : a = b := by
  have := V.int.inj h
  omega
theorem vNs_len (l : List Nat) : (vNs l).length = l.length := List.length_map ..
theorem vNs_at {l : List Nat} {i x : Nat} (h : l[i]? = some x) : (vNs l)[i]? = some (vN x) := by
  unfold vNs
  rw [List.getElem?_map, h]
  rfl
theorem vNs_of {l : List Nat} {i : Nat} {v : V} (h : (vNs l)[i]? = some v) : ∃ x, l[i]? = some x ∧ v = vN x := by
  unfold vNs at h
  rw [List.getElem?_map] at h
  cases e : l[i]? with
  | none => rw [e] at h; cases h
  | some x => rw [e] at h; exact ⟨x, rfl, (Option.some.inj h).symm⟩
theorem pr_get {α β : Type} {F : α → β → Prop} : ∀ {l₁ : List α} {l₂ : List β}, Paired F l₁ l₂ → ∀ {i : Nat} {b : β}, l₂[i]? = some b → ∃ a, l₁[i]? = some a ∧ F a b
  | _, _, .nil, i, b, h => by simp at h
  | _, _, .cons h t, 0, b, e => by
    have e' := Option.some.inj e
    subst e'
    exact ⟨_, rfl, h⟩
  | _, _, .cons h t, i + 1, b, e => pr_get t (i := i) e
theorem pr_getL {α β : Type} {F : α → β → Prop} : ∀ {l₁ : List α} {l₂ : List β}, Paired F l₁ l₂ → ∀ {i : Nat} {a : α}, l₁[i]? = some a → ∃ b, l₂[i]? = some b ∧ F a b
  | _, _, .nil, i, b, h => by simp at h
  | _, _, .cons h t, 0, b, e => by
    have e' := Option.some.inj e
    subst e'
    exact ⟨_, rfl, h⟩
  | _, _, .cons h t, i + 1, b, e => pr_getL t (i := i) e
/-- pairs by places -/
theorem pr_of {α β : Type} {F : α → β → Prop} : ∀ {l₁ : List α} {l₂ : List β}, l₁.length = l₂.length → (∀ (i : Nat) (a : α) (b : β), l₁[i]? = some a → l₂[i]? = some b → F a b) → Paired F l₁ l₂
  | [], [], _, _ => .nil
  | [], _ :: _, h, _ => by simp at h
  | _ :: _, [], h, _ => by simp at h
  | a :: r, b :: s, h, k => .cons (k 0 a b rfl rfl) (pr_of (by simpa using h) fun i x y hx hy => k (i + 1) x y hx hy)
theorem refs_at {ts : List Addr} {i : Nat} {t : Addr} (h : ts[i]? = some t) : (ts.map V.ref)[i]? = some (.ref t) := by
  rw [List.getElem?_map, h]; rfl
theorem refs_of {ts : List Addr} {i : Nat} {v : V} (h : (ts.map V.ref)[i]? = some v) : ∃ t, ts[i]? = some t ∧ v = .ref t := by
  rw [List.getElem?_map] at h
  cases e : ts[i]? with
  | none => rw [e] at h; cases h
  | some x => rw [e] at h; exact ⟨x, rfl, (Option.some.inj h).symm⟩
def TupAt (H : Hp) (t : Addr) (p : Nat × Nat) : Prop := H t = some (.tup [vN p.1, vN p.2])
def PairsAt (H : Hp) (a : Addr) (ls : List (Nat × Nat)) : Prop := ∃ ts : List Addr, H a = some (.lst (ts.map V.ref)) ∧ Paired (TupAt H) ts ls
def ExitsAt (H : Hp) (a : Addr) (E : Exits) : Prop := ∃ rs : List Addr, H a = some (.lst (rs.map V.ref)) ∧ Paired (fun r row => PairsAt H r row) rs E
def ListAt (H : Hp) (a : Addr) (l : List Nat) : Prop := H a = some (.lst (vNs l))
theorem same_new {H : Hp} {p : Addr} {o : HO} (h : H p = none) : Same H (upd H p o) := fun b x e => by
  rw [upd_ne (ne_of_none e h)]
  exact e
theorem Same.pairs {H H' : Hp} {a : Addr} {ls : List (Nat × Nat)} (s : Same H H') (h : PairsAt H a ls) : PairsAt H' a ls := by
  obtain ⟨ts, h1, h2⟩ := h
  exact ⟨ts, s _ _ h1, L2.Paired.mapP h2 fun _ _ z => s _ _ z⟩
theorem Same.exits {H H' : Hp} {a : Addr} {E : Exits} (s : Same H H') (h : ExitsAt H a E) : ExitsAt H' a E := by
  obtain ⟨ts, h1, h2⟩ := h
  exact ⟨ts, s _ _ h1, L2.Paired.mapP h2 fun _ _ z => Same.pairs s z⟩
theorem sz (n : Nat) (h : n ≤ 1000) : n < sizeLine := small1000 h
theorem szl (n : Nat) (h : n ≤ 1000) : n ≤ sizeLine := Nat.le_of_lt (small1000 h)
/-- the i-th row of the exits, as a list in the heap -/
theorem ExitsAt.row {K : PySem.W.Frag} {H : Hp} {a : Addr} {E : Exits} (h : ExitsAt H a E) {i : Nat} {row : ERow} (e : E[i]? = some row) : ∃ (rs : List Addr) (r : Addr), SqL K H a (rs.map V.ref) ∧ rs.length = E.length ∧ rs[i]? = some r ∧ PairsAt H r row := by
  obtain ⟨rs, h1, h2⟩ := h
  obtain ⟨r, hr, hp⟩ := pr_get h2 e
  exact ⟨rs, r, SqL.of h1, Paired.length h2, hr, hp⟩
theorem atI_z {xs : List V} {i : Nat} {v : V} (h : xs[i]? = some v) : atI xs ((i : Nat) : Int) = some v := atI_nat h
end NP
namespace NP
open PySem PySem.Spec PyProof.Rows L2 NM
/-! ### a state as a tuple (first, second, letters) -/
def nums (l : List Nat) : List NestedKey := l.map fun (x : Nat) => .num (x : Int)
def kSt (s : Stand) : NestedKey := .tup [.num (s.a : Int), .num (s.b : Int), .tup (nums s.due)]
theorem nums_inj : ∀ {l m : List Nat}, nums l = nums m → l = m
  | [], [], _ => rfl
  | [], _ :: _, h => nomatch h
  | _ :: _, [], h => nomatch h
  | a :: r, b :: s, h => by
    have h' : NestedKey.num (a : Int) :: nums r = NestedKey.num (b : Int) :: nums s := h
    injection h' with h1 h2
    have e1 : a = b := by
      injection h1 with h1
      exact Int.ofNat.inj h1
    rw [e1, nums_inj (l := r) (m := s) h2]
theorem kSt_inj {s s' : Stand} (h : kSt s = kSt s') : s = s' := by
  obtain ⟨a, b, l⟩ := s
  obtain ⟨a', b', l'⟩ := s'
  unfold kSt at h
  injection h with h
  injection h with h1 h2
  injection h1 with h1
  injection h2 with h2 h3
  injection h2 with h2
  injection h3 with h3 _
  injection h3 with h3
  have e1 : a = a' := Int.ofNat.inj h1
  have e2 : b = b' := Int.ofNat.inj h2
  have e3 : l = l' := nums_inj h3
  rw [e1, e2, e3]
theorem nums_depth : ∀ l : List Nat, NestedKey.depthAll (nums l) = 0
  | [] => rfl
  | x :: r => by
    show max (NestedKey.depth (.num (x : Int))) (NestedKey.depthAll (nums r)) = 0
    rw [nums_depth r]
    rfl
theorem kSt_depth (s : Stand) : (kSt s).depth ≤ 8 := by
  unfold kSt
  simp only [NestedKey.depth, NestedKey.depthAll, nums_depth]
  decide
def StandAt (H : Hp) (b : Addr) (s : Stand) : Prop := ∃ q, H b = some (.tup [vN s.a, vN s.b, .ref q]) ∧ H q = some (.tup (vNs s.due))
theorem stand_keep {H H' : Hp} {b : Addr} {s : Stand} (k : ∀ c ys, H c = some (.tup ys) → H' c = some (.tup ys)) (h : StandAt H b s) : StandAt H' b s := by
  obtain ⟨q, h1, h2⟩ := h
  exact ⟨q, k _ _ h1, k _ _ h2⟩
theorem nums_are {h : Heap} : ∀ {l : List Nat} {us : List Value}, Vals (vNs l) us → NestedAll h (nums l) us
  | [], _, r => by cases r; exact .nil
  | x :: l, _, r => by
    cases r with
    | cons h1 t =>
      obtain ⟨tk, rfl⟩ := h1
      exact .cons (.int _ _) (nums_are t)
section
variable {P : Program} {w : World} {H : Hp} {h : Heap}
theorem stand_key {b : Addr} {s : Stand} (ok : HOk P w H h) (e : StandAt H b s) : (nestedKind P w).is h (kSt s) b := by
  obtain ⟨q, e1, e2⟩ := e
  obtain ⟨_, its, r, o, h1, h2, n, h3⟩ := (show ObjOk P w H h b (.tup [vN s.a, vN s.b, .ref q]) from ok b _ e1)
  obtain ⟨_, its2, r2, o2, g1, g2, n2, g3⟩ := (show ObjOk P w H h q (.tup (vNs s.due)) from ok q _ e2)
  have hq : NestedIs h (.tup (nums s.due)) (.ref q) := .tup g1 g2 g3 (by simpa using nums_are r2)
  refine ⟨.tup h1 h2 h3 ?_, kSt_depth s⟩
  cases r with
  | cons a1 r =>
    cases r with
    | cons a2 r =>
      cases r with
      | cons a3 r =>
        cases r
        obtain ⟨t1, rfl⟩ := a1
        obtain ⟨t2, rfl⟩ := a2
        cases (show _ = Value.ref q from a3)
        exact .cons (.int _ _) (.cons (.int _ _) (.cons hq .nil))
end
/-! ### a dict of states: each with its tuple's place and its value's -/
abbrev EN := Stand × Addr × Addr
def enV (x : EN) : NestedKey × Addr × Value := (kSt x.1, x.2.1, .ref x.2.2)
def dnP (P : Program) (w : World) (a : Addr) (xs : List EN) : Heap → Prop := fun h => ∃ o es ep, h.get? a = some o ∧ o.ExactDict ∧ o.data = .dict es ep ∧ es.toList = (xs.map enV).map (entryOfKey (nestedKind P w))
def DN (P : Program) (w : World) (a : Addr) (xs : List EN) : HO := .ext (dnP P w a xs)
structure DNAt (P : Program) (w : World) (H : Hp) (d : Addr) (xs : List EN) : Prop where
  at_ : H d = some (DN P w d xs)
  ks : ∀ x ∈ xs, StandAt H x.2.1 x.1
  nd : (xs.map (·.1)).Nodup
  sm : (d == sysModules) = false
  sz : xs.length ≤ 16000000
def finS (xs : List EN) (s : Stand) : Option EN := xs.find? fun x => decide (x.1 = s)
theorem at_en (s : Stand) : ∀ xs : List EN, atKey (xs.map enV) (kSt s) = (finS xs s).map fun x => (x.2.1, Value.ref x.2.2)
  | [] => rfl
  | x :: r => by
    have ih := at_en s r
    by_cases e : x.1 = s
    · have e2 : (enV x).1 = kSt s := by rw [← e]; rfl
      have h1 : finS (x :: r) s = some x := by unfold finS; rw [List.find?_cons, decide_eq_true e]
      have h2 : atKey ((x :: r).map enV) (kSt s) = some (enV x).2 := by rw [List.map_cons]; simp [atKey, List.find?_cons, e2]
      rw [h1, h2]
      rfl
    · have e2 : ¬ (enV x).1 = kSt s := fun z => e (kSt_inj z)
      have h1 : finS (x :: r) s = finS r s := by unfold finS; rw [List.find?_cons, decide_eq_false e]
      have h2 : atKey ((x :: r).map enV) (kSt s) = atKey (r.map enV) (kSt s) := by rw [List.map_cons]; simp [atKey, List.find?_cons, e2]
      rw [h1, h2]
      exact ih
theorem nodup_en : ∀ {xs : List EN}, (xs.map (·.1)).Nodup → ((xs.map enV).map (·.1)).Nodup := by
  intro xs h
  have e : (xs.map enV).map (·.1) = (xs.map (·.1)).map kSt := by rw [List.map_map, List.map_map]; rfl
  rw [e]
  unfold List.Nodup at h ⊢
  rw [List.pairwise_map]
  exact h.imp fun hn z => hn (kSt_inj z)
section
variable {P : Program} {w : World} {H : Hp} {h : Heap} {d : Addr} {xs : List EN}
theorem dn_of (ok : HOk P w H h) (D : DNAt P w H d xs) : h.DictOfH (nestedKind P w) d (xs.map enV) := by
  obtain ⟨⟨o, es, ep, h1, h2, h3, h4⟩, _⟩ := (show ObjOk P w H h d (.ext (dnP P w d xs)) from ok d _ D.at_)
  refine ⟨o, es, ep, h1, h2, h3, h4, fun x hx => ?_, nodup_en D.nd⟩
  obtain ⟨y, hy, rfl⟩ := List.mem_map.mp hx
  exact stand_key ok (D.ks y hy)
theorem dn_ok {H' : Hp} {h' : Heap} (dd : dnP P w d xs h') : ObjOk P w H' h' d (DN P w d xs) := by
  obtain ⟨o, es, ep, h1, h2⟩ := dd
  exact ⟨⟨o, es, ep, h1, h2⟩, ⟨o, h1⟩, fun g1 g2 ⟨o, es, ep, k1, k2⟩ k => ⟨o, es, ep, k o k1, k2⟩⟩
theorem dn_keep {H' : Hp} (D : DNAt P w H d xs) (hd : H' d = H d) (k : ∀ c ys, H c = some (.tup ys) → H' c = some (.tup ys)) : DNAt P w H' d xs :=
  ⟨hd.trans D.at_, fun x hx => stand_keep k (D.ks x hx), D.nd, D.sm, D.sz⟩
theorem dn_same {H' : Hp} (D : DNAt P w H d xs) (s : Same H H') : DNAt P w H' d xs :=
  ⟨s _ _ D.at_, fun x hx => stand_keep (fun c ys h => s _ _ h) (D.ks x hx), D.nd, D.sm, D.sz⟩
end
theorem stored_new {xs : List (NestedKey × Addr × Value)} {k : NestedKey} {a : Addr} {v : Value} (h : atKey xs k = none) : storedH xs k a v = xs ++ [(k, a, v)] := by
  unfold storedH
  rw [h]
  rfl
section
variable {X : Cx} {o i value : Expr} {pos pos' : Pos} {td ty tv tk : TE}
theorem room9 {A : Around} (hu : A.units + 9 < cLine) : (nestedKind X.prog X.w).room A.in1 := by
  show A.units + 1 + 8 < cLine
  omega
/-- d[k] -/
def tNGet (P : Program) (w : World) (td ty : TE) : TE := fun σ H Q => td σ H fun x H1 => ty σ H1 fun y H2 => ∃ (a b : Addr) (s : Stand) (xs : List EN) (e : EN), x = .ref a ∧ y = .ref b ∧ DNAt P w H2 a xs ∧ StandAt H2 b s ∧ finS xs s = some e ∧ Q (.ref e.2.2) H2
theorem pe_nget {P : Program} {w : World} (eP : X.prog = P) (eW : X.w = w) (hu : X.A.units + 9 < cLine) (ho : PE X o td) (hi : PE X i ty) (hs : NoSl i) : PE X (.Subscript o i pos) (tNGet P w td ty) := by
  subst eP eW
  refine ⟨fun pins s σ H Q I h => ?_⟩
  refine subD_of PySem.F.slot_dict_getitem.lookup hs (thn (ho.run pins s σ H _ I h) fun u s1 ⟨x, H1, I1, rx, q1⟩ => thn (hi.run pins s1 σ H1 _ I1 q1) fun iv s2 ⟨y, H2, I2, ry, a, b, st, xs, e, ex, ey, D, hb, hf, q2⟩ => ?_)
  subst ex ey
  obtain rfl : u = Value.ref a := rx
  obtain rfl : iv = Value.ref b := ry
  have dd := dn_of I2.hok D
  refine ⟨dd.typeIs, wpAny_getItem_heap (p := (e.2.1, .ref e.2.2)) (room9 hu) (stand_key I2.hok hb) dd (by rw [at_en, hf]; rfl) ?_⟩
  exact ⟨.ref e.2.2, H2, I2.tok _, rfl, q2⟩
/-- k not in d -/
def tNNotIn (P : Program) (w : World) (ty td : TE) : TE := fun σ H Q => ty σ H fun y H1 => td σ H1 fun x H2 => ∃ (a b : Addr) (s : Stand) (xs : List EN), x = .ref a ∧ y = .ref b ∧ DNAt P w H2 a xs ∧ StandAt H2 b s ∧ Q (.bl (!(finS xs s).isSome)) H2
theorem pc_nnotin {P : Program} {w : World} (eP : X.prog = P) (eW : X.w = w) (hu : X.A.units + 9 < cLine) (hi : PE X i ty) (ho : PE X o td) : PC X .NotIn i o (tNNotIn P w ty td) := by
  subst eP eW
  refine ⟨fun pins s σ H Q I h => ?_⟩
  refine thn (hi.run pins s σ H _ I h) fun iv s1 ⟨y, H1, I1, ry, q1⟩ => thn (ho.run pins s1 σ H1 _ I1 q1) fun u s2 ⟨x, H2, I2, rx, a, b, st, xs, ex, ey, D, hb, q2⟩ => ?_
  subst ex ey
  obtain rfl : u = Value.ref a := rx
  obtain rfl : iv = Value.ref b := ry
  have dd := dn_of I2.hok D
  refine wpAny_notIn_heap (room9 hu) (stand_key I2.hok hb) D.sm dd ?_
  rw [at_en, Option.isSome_map]
  exact ⟨.bl (!(finS xs st).isSome), H2, I2.tok _, rfl, q2⟩
/-- d[k] = v, k new -/
def sNPut (P : Program) (w : World) (td ty tv : TE) : TS := fun D σ H => tv σ H fun v H1 => td σ H1 fun x H2 => ty σ H2 fun y H3 => ∃ (a b p : Addr) (s : Stand) (xs : List EN), x = .ref a ∧ y = .ref b ∧ v = .ref p ∧ DNAt P w H3 a xs ∧ StandAt H3 b s ∧ finS xs s = none ∧ D.nx σ (upd H3 a (DN P w a (xs ++ [(s, b, p)])))
theorem ps_nput {P : Program} {w : World} (eP : X.prog = P) (eW : X.w = w) (hu : X.A.units + 9 < cLine) (ho : PE X o td) (hi : PE X i ty) (hv : PE X value tv) (hs : swapsWith value (some (.Subscript o i pos')) pos.line X.env = pure false) :
    PS X (.Assign [.Subscript o i pos'] value pos) (sNPut P w td ty tv) := by
  subst eP eW
  refine ⟨fun pins s σ H D I h => ?_⟩
  refine wpAny_Assign_Subscript (thn (hv.run pins s σ H _ I h) fun r s1 ⟨v, H1, I1, rv, q1⟩ => thn (ho.run pins s1 σ H1 _ I1 q1) fun u s2 ⟨x, H2, I2, rx, q2⟩ => thn (hi.run pins s2 σ H2 _ I2 q2) fun iv s3 ⟨y, H3, I3, ry, a, b, p, st, xs, ex, ey, ev, DD, hb, hf, q3⟩ => ?_) hs
  subst ex ey ev
  obtain rfl : u = Value.ref a := rx
  obtain rfl : iv = Value.ref b := ry
  obtain rfl : r = Value.ref p := rv
  have dd := dn_of I3.hok DD
  have hz : (xs.map enV).length ≤ sizeLine := by
    rw [List.length_map]
    exact Nat.le_trans DD.sz (by decide)
  have hn : atKey (xs.map enV) (kSt st) = none := by rw [at_en, hf]; rfl
  refine wpAny_setItem_heap (hsz := hz) (room9 hu) (stand_key I3.hok hb) dd fun h' dd' hsb => ⟨σ, _, ?_, q3⟩
  rw [stored_new hn] at dd'
  obtain ⟨q, es, ep, hq, h2, h3, h4, _, _⟩ := dd'
  refine d_write I3 (by rw [DD.at_]; exact True.intro) hsb ⟨q, hq⟩ (dn_ok ⟨q, es, ep, hq, h2, h3, ?_⟩)
  rw [h4, List.map_append, List.map_append, List.map_append]
  rfl
/-- {k: v} -/
def tDisp1N (P : Program) (w : World) (tk tv : TE) : TE := fun σ H Q => ∀ p, H p = none → tk σ (upd H p (DN P w p [])) fun x H1 => tv σ H1 fun y H2 => ∃ (b q : Addr) (s : Stand), x = .ref b ∧ y = .ref q ∧ H2 p = some (DN P w p []) ∧ StandAt H2 b s ∧
  ((p == sysModules) = false → Q (.ref p) (upd H2 p (DN P w p [(s, b, q)])))
theorem pe_disp1N {P : Program} {w : World} (eP : X.prog = P) (eW : X.w = w) {k v : Expr} (hu : X.A.units + 9 < cLine) (hk : PE X k tk) (hv : PE X v tv) : PE X (.Dict [some k] [v] pos) (tDisp1N P w tk tv) := by
  subst eP eW
  refine ⟨fun pins s σ H Q I q => ?_⟩
  have hn := I.hok.fresh (Nat.le_refl s.heap.objs.size)
  have hsys : (s.heap.objs.size == sysModules) = false := beq_eq_false_iff_ne.mpr (Ne.symm (Nat.ne_of_lt I.big))
  have I1 := I.laid (a := s.heap.objs.size) (o := DN X.prog X.w s.heap.objs.size []) (h' := s.heap.push { cls := .type "dict", data := .dict #[] }) (t' := s.toks) (fun _ _ q => Heap.get?_push_of_some _ q) (Nat.le_refl _) (dn_ok ⟨_, #[], 0, Heap.get?_push_size _ rfl, ⟨rfl, rfl, rfl⟩, rfl, rfl⟩)
  refine wpAny_Dict_any (by rfl) (by rfl) (fun z => by cases z) (by show 1 ≤ 15; decide) ?_
  refine pairTrees_cons_walk (thn (hk.run pins _ σ _ _ I1 (q _ hn)) fun ku s1 ⟨x, H1, I2, rx, q1⟩ => thn (hv.run pins s1 σ H1 _ I2 q1) fun vu s2 ⟨y, H2, I3, ry, q2⟩ => pairTrees_nil_walk ?_)
  obtain ⟨b, qv, st, rfl, rfl, hp, hb, q3⟩ := q2
  have eb : ku = .ref b := rx
  subst eb
  have ev : vu = .ref qv := ry
  subst ev
  have dd : s2.heap.DictOfH (nestedKind X.prog X.w) s.heap.objs.size [] := by
    obtain ⟨⟨o, es, ep, h1, h2, h3, h4⟩, _⟩ := (show ObjOk X.prog X.w H2 s2.heap s.heap.objs.size (.ext (dnP X.prog X.w s.heap.objs.size [])) from I3.hok _ _ hp)
    exact ⟨o, es, ep, h1, h2, h3, h4, (fun x hx => by simp at hx), List.nodup_nil⟩
  unfold storeAll
  rw [List.forIn_cons]
  refine wpAny_bind (wpAny_bind (wpAny_dictSet_heap (hsz := Nat.zero_le _) (show X.A.units + 8 < cLine by omega) (stand_key I3.hok hb) dd fun h' dd' hs => wpAny_pure ?_))
  dsimp only
  rw [List.forIn_nil]
  refine wpAny_pure ⟨.ref s.heap.objs.size, _, ?_, rfl, q3 hsys⟩
  rw [stored_new (show atKey ([] : List (NestedKey × Addr × Value)) (kSt st) = none from rfl)] at dd'
  obtain ⟨o, es, ep, ho, h2, h3, h4, _, _⟩ := dd'
  exact d_write I3 (by rw [hp]; exact True.intro) hs ⟨o, ho⟩ (dn_ok ⟨o, es, ep, ho, h2, h3, h4⟩)
/-- list(d) -/
def rListN (P : Program) (w : World) : List V → Hp → VK → Prop := fun xs H Q => ∃ (d : Addr) (es : List EN), xs = [.ref d] ∧ DNAt P w H d es ∧ ∀ p, H p = none → Q (.ref p) (upd H p (.lst ((es.map fun x => x.2.1).map V.ref)))
theorem call_list_dN {P : Program} {w : World} (eP : X.prog = P) (eW : X.w = w) (hc : X.calm = true) : CallR X (.type "list") (rListN P w) := by
  subst eP eW
  intro pins s σ H xs us Q I r h
  obtain ⟨d, es0, rfl, D, q⟩ := h
  obtain ⟨u, rfl, rx⟩ := r.one
  cases rx
  obtain ⟨⟨o, es, ep, ho, hx, hdt, he⟩, _⟩ := (show ObjOk X.prog X.w H s.heap d (.ext (dnP X.prog X.w d es0)) from I.hok d _ D.at_)
  have l1 : es.size = (es0.map enV).length := size_of_entries he
  rw [List.length_map] at l1
  have hz0 := D.sz
  have hsl : (16000000 : Nat) ≤ sizeLine := by decide
  refine PySem.W.kdl_call (kdl_raw D.sm hx hdt) (I.ok.hd hc) ho (by omega) fun h' tk acc' c' kp e it => ?_
  have ea : acc'.toList = (es0.map fun x => x.2.1).map Value.ref := by
    have hl : acc'.toList.length = es0.length := by rw [Array.length_toList, it.1]; exact l1
    apply List.ext_getElem?
    intro j
    rw [List.getElem?_map, List.getElem?_map]
    cases hj : acc'.toList[j]? with
    | none =>
      have h1 := List.getElem?_eq_none_iff.mp hj
      rw [List.getElem?_eq_none (by omega)]
      all_goals rfl
    | some v =>
      obtain ⟨en, hen, hv⟩ := it.2 j v (by rw [← Array.getElem?_toList]; exact hj)
      have qe := entry_at he j
      rw [hen, List.getElem?_map] at qe
      cases hb : es0[j]? with
      | none =>
        rw [hb] at qe
        exact nomatch (show some en = none from qe)
      | some b =>
        rw [hb] at qe
        have e2 : en = entryOfKey (nestedKind X.prog X.w) (enV b) := Option.some.inj qe
        rw [hv, e2]
        all_goals rfl
  have rv : Vals ((es0.map fun x => x.2.1).map V.ref) acc'.toList := by rw [ea]; exact vals_refs _
  have hz : ((es0.map fun x => x.2.1).map V.ref).length ≤ sizeLine := by rw [List.length_map, List.length_map]; exact Nat.le_trans D.sz (by decide)
  refine ⟨.ref s.heap.objs.size, _, I.laid (t' := tk) (o := .lst ((es0.map fun x => x.2.1).map V.ref)) kp (Nat.le_refl _) ?_, rfl, q _ (I.hok.fresh (Nat.le_refl _))⟩
  exact ⟨hz, acc'.toList, c', rv, by rw [Array.toArray_toList]; exact e⟩
end
end NP
namespace NP
open PySem PySem.Spec PyProof.Rows L2 NM
def top (i : Nat) : Stmt := PySem.Challenge.pw_netmeeting_s06_twins.main.body.getD i (.Pass ⟨0, 0, 0, 0⟩)
abbrev sTwins : Stmt := top 4
abbrev sIsNet : Stmt := top 5
abbrev sLinks : Stmt := top 6
abbrev sAre : Stmt := top 7
abbrev sExits : Stmt := top 8
abbrev sHangs : Stmt := top 9
abbrev sDist : Stmt := top 10
abbrev sDistance : Stmt := top 11
abbrev sMost : Stmt := top 12
abbrev sBehind : Stmt := top 13
abbrev sAlike : Stmt := top 14
abbrev sMarks : Stmt := top 15
abbrev sSight : Stmt := top 16
abbrev sTwos : Stmt := top 17
abbrev sKept : Stmt := top 18
abbrev sHow : Stmt := top 19
abbrev sWords : Stmt := top 20
abbrev sStep : Stmt := top 21
end NP
namespace NP
open PySem PySem.Spec PyProof.Rows L2 NM
/-! ### links_of -/
theorem scLinks : FnScope ["net", "k"] ["net"] (defScope sLinks) := ⟨rfl, rfl, rfl, by decide +kernel, rfl, by decide +kernel, by decide +kernel⟩
def spLinks (K : PySem.W.Frag) : Sp := fun vs H Q _ => ∃ (a : Addr) (l : List Nat), vs = [.ref a] ∧ SqL K H a (vNs l) ∧ l.length % 2 = 0 ∧ l.length ≤ 24 ∧
  ∀ H' p, Same H H' → H p = none → PairsAt H' p (pairs2 l) → Q (.ref p) H'
theorem rg2 {m : Nat} (h : m % 2 = 0) (h24 : m ≤ 24) : RgC 0 (m : Int) 2 (m / 2) := by
  have h2 : Builtin.Range.small 0 (m : Int) 2 = true := by
    obtain ⟨k, rfl⟩ : ∃ k, m = 2 * k := ⟨m / 2, by omega⟩
    have : k = 0 ∨ k = 1 ∨ k = 2 ∨ k = 3 ∨ k = 4 ∨ k = 5 ∨ k = 6 ∨ k = 7 ∨ k = 8 ∨ k = 9 ∨ k = 10 ∨ k = 11 ∨ k = 12 := by omega
    rcases this with h | h | h | h | h | h | h | h | h | h | h | h | h <;> subst h <;> decide +kernel
  have h3 : Builtin.Range.rangeSize 0 (m : Int) 2 = ((m / 2 : Nat) : Int) := by
    obtain ⟨k, rfl⟩ : ∃ k, m = 2 * k := ⟨m / 2, by omega⟩
    have : k = 0 ∨ k = 1 ∨ k = 2 ∨ k = 3 ∨ k = 4 ∨ k = 5 ∨ k = 6 ∨ k = 7 ∨ k = 8 ∨ k = 9 ∨ k = 10 ∨ k = 11 ∨ k = 12 := by omega
    rcases this with h | h | h | h | h | h | h | h | h | h | h | h | h <;> subst h <;> decide +kernel
  exact ⟨by decide, by decide, h2, h3⟩
section
variable {P : Program} {w : World} {K : PySem.W.Frag} {mg : Str → Option Value} {base : Heap}
theorem ok_links {f : Addr} {fd : FuncData} (F : Fun K "links_of" "links_of" sLinks f fd) (mr : mg "range" = none) (ml : mg "len" = none) : FnOk P w K mg base CX0 1 f fd ["net"] (spLinks K) := by
  refine F.ok scLinks (fun vs H Q E h => ?_) (fun cdv A outer s H vs Q E hr h => ?_)
  · obtain ⟨a, l, rfl, _⟩ := h
    rfl
  · obtain ⟨a, l, rfl, hS, hev, hlen, q⟩ := h
    refine ⟨_, pss_one (ps_ret (pe_lc (own := [("k", 1)]) (g := gName 1) (tt := tYes) (te := tTup (tCons (tOp (rIxL K) (tVar 0) (tVar 1)) (tCons (tOp (rIxL K) (tVar 0) (tOp (rI0 fun i j => .int (i + j)) (tVar 1) (tC (.int 1)))) tNil))) rfl scLinks.nd
      (pi_range3 rfl mr (pa_cons pe_int (pa_cons (pe_callB call_len_seq (by rfl) ml PySem.boot_len (pa_cons (pv 0) pa_nil)) (pa_cons pe_int pa_nil))))
      (blkOk_by (N := ["net", "k"]) (sc := defScope sLinks) (by decide +kernel))
      (fun _ _ _ _ _ => pg_name (i := 1) scLinks.nd rfl (Or.inl rfl)) (fun _ _ _ _ _ => pts_nil)
      (fun _ _ _ _ _ => pe_tup (pa_cons (pe_ix ix_list (pv 0) (pv 1) (fun _ _ => rfl)) (pa_cons (pe_ix ix_list (pv 0) (pe_op op_add (pv 1) pe_int) (fun _ _ => rfl)) pa_nil))))), ?_⟩
    refine ⟨_, rfl, a, _, rfl, .inl hS, 0, _, 2, l.length / 2, rfl, ?_, fun D hD => ?_⟩
    · rw [vNs_len]
      exact rg2 hev hlen
    · refine lc_it walk_rangeC (fun i Hc => ∃ ts : List Addr, Same H Hc ∧ Hc D = some (.lst (ts.map V.ref)) ∧ Paired (TupAt Hc) ts ((pairs2 l).take i)) ?_ (fun _ _ _ _ => trivial) ?_ ?_
      · exact ⟨[], same_new hD, upd_same, .nil⟩
      · rintro i x Hc H' hi ⟨ts, sm, hd, hp⟩ ⟨rfl, rfl⟩
        refine ⟨rfl, ?_⟩
        have hS' : SqL K H' a (vNs l) := sm.seq hS
        have e1 : l[2 * i]? = some (l.getD (2 * i) 0) := by rw [List.getD_eq_getElem?_getD, List.getElem?_eq_getElem (by omega)]; rfl
        have e2 : l[2 * i + 1]? = some (l.getD (2 * i + 1) 0) := by rw [List.getD_eq_getElem?_getD, List.getElem?_eq_getElem (by omega)]; rfl
        refine ⟨_, rfl, _, rfl, a, _, _, vN (l.getD (2 * i) 0), rfl, rfl, hS', at_of (j := 2 * i) (by omega) (vNs_at e1), ?_⟩
        refine ⟨_, rfl, _, rfl, _, _, rfl, rfl, a, _, _, vN (l.getD (2 * i + 1) 0), rfl, rfl, hS', at_of (j := 2 * i + 1) (by omega) (vNs_at e2), ?_⟩
        refine ⟨szl 2 (by omega), fun t ht => ?_⟩
        have nD : D ≠ t := ne_of_none hd ht
        refine ⟨_, by rw [upd_ne nD]; exact hd, ?_, ts ++ [t], ?_, ?_, ?_⟩
        · rw [List.length_map, Paired.length hp, List.length_take]
          have := pairs2_len l
          exact sz _ (by omega)
        · intro b o e
          rw [upd_ne (ne_of_none e hD)]
          exact same_new ht _ _ (sm _ _ e)
        · rw [upd_same, List.map_append]
          rfl
        · rw [take_more (pairs2_at l i (by omega))]
          refine Paired.snoc (L2.Paired.mapP hp fun b p z => ?_) ?_
          · unfold TupAt at z ⊢
            rw [upd_ne (ne_of z hd (fun z => nomatch z)), upd_ne (ne_of_none z ht)]
            exact z
          · unfold TupAt
            rw [upd_ne (Ne.symm nD), upd_same]
      · rintro Hc ⟨ts, sm, hd, hp⟩
        refine q Hc D sm hD ⟨ts, hd, ?_⟩
        rw [List.take_of_length_le (by rw [pairs2_len]; exact Nat.le_refl _)] at hp
        exact hp
end
end NP
namespace NP
open PySem PySem.Spec PyProof.Rows L2 NM
/-! ### are_links -/
theorem scAre : FnScope ["n", "links", "told", "a", "b"] ["n", "links"] (defScope sAre) := ⟨rfl, rfl, rfl, by decide +kernel, rfl, by decide +kernel, by decide +kernel⟩
def spAre : Sp := fun vs H Q _ => ∃ (n : Nat) (p : Addr) (ls : Links), vs = [vN n, .ref p] ∧ PairsAt H p ls ∧ ls.length ≤ 12 ∧ ∀ H', Same H H' → Q (.bl (okL n [] ls)) H'
def toldOf (ls : Links) : Links := ls.flatMap fun p => [(p.1, p.2), (p.2, p.1)]
def kPr (x y : Nat) : List Key := [Sum.inl (x : Int), Sum.inl (y : Int)]
theorem kPr_inj {x y x' y' : Nat} (h : kPr x y = kPr x' y') : x = x' ∧ y = y' := by
  unfold kPr at h
  have h1 := (List.cons.inj h).1
  have h2 := (List.cons.inj (List.cons.inj h).2).1
  have e1 := Sum.inl.inj h1
  have e2 := Sum.inl.inj h2
  exact ⟨by omega, by omega⟩
theorem told_put {kvs : List (List Key × V)} {told : Links} (h : ∀ x y : Nat, (valV kvs (kPr x y)).isSome = decide ((x, y) ∈ told)) (a b : Nat) (v : V) :
    ∀ x y : Nat, (valV (putK kvs (kPr a b) v) (kPr x y)).isSome = decide ((x, y) ∈ told ++ [(a, b)]) := by
  intro x y
  rw [valV_put]
  by_cases e : kPr x y = kPr a b
  · obtain ⟨e1, e2⟩ := kPr_inj e
    subst e1 e2
    simp
  · rw [if_neg e, h x y]
    have : ¬ (x = a ∧ y = b) := fun z => e (by rw [z.1, z.2])
    simp [this]
section
variable {P : Program} {w : World} {K : PySem.W.Frag} {mg : Str → Option Value} {base : Heap}
theorem ok_are {f : Addr} {fd : FuncData} (F : Fun K "are_links" "are_links" sAre f fd) : FnOk P w K mg base CX0 1 f fd ["n", "links"] spAre := by
  refine F.ok scAre (fun vs H Q E h => ?_) (fun cdv A outer s H vs Q E hr h => ?_)
  · obtain ⟨n, p, ls, rfl, _⟩ := h
    rfl
  · obtain ⟨n, p, ls, rfl, ⟨ts, hp, hts⟩, hlen, q⟩ := h
    have hu := hu_of hr
    refine ⟨_, pss_cons (ps_set (i := 2) scAre.nd rfl (Or.inl rfl) pe_dnewT)
      (pss_cons (ps_for PassesOwn.never rfl (pi_list (pv 1)) (pg_tup rfl (pgs_cons (pg_name (i := 3) scAre.nd rfl (Or.inl rfl)) (pgs_cons (pg_name (i := 4) scAre.nd rfl (Or.inl rfl)) pgs_nil)))
        (pss_cons (ps_if (PW.pt (pw_or (pt_cmpR op_ge (pv 3) (pv 0) (nomark _)) (pw_or (pt_cmpR op_ge (pv 4) (pv 0) (nomark _)) (pw_or (pt_cmpR op_eq (pv 3) (pv 4) (nomark _)) (pw_or1 (pt_cmp (pc_din hu (pe_tup (pa_cons (pv 3) (pa_cons (pv 4) pa_nil))) (pv 2)))))))) (pss_one (ps_ret pe_bl)) pss_nil)
        (pss_cons (ps_dput hu (pv 2) (pe_tup (pa_cons (pv 3) (pa_cons (pv 4) pa_nil))) pe_bl rfl)
        (pss_one (ps_dput hu (pv 2) (pe_tup (pa_cons (pv 4) (pa_cons (pv 3) pa_nil))) pe_bl rfl)))))
      (pss_one (ps_ret pe_bl))), ?_⟩
    -- told = {}
    refine fun d hd => ?_
    have s1 : Same H (upd H d (.dT [])) := same_new hd
    refine ⟨_, rfl, p, rfl, ⟨_, SqL.of (s1 _ _ hp)⟩, for_list (K := K) (a := p) (xs := ts.map V.ref) (fun i σ Hc => ∃ x3 x4 kvs, σ = [some (vN n), some (.ref p), some (.ref d), x3, x4] ∧ Same H Hc ∧ Hc d = some (.dT kvs) ∧ kvs.length ≤ 2 * i ∧
      (∀ x y : Nat, (valV kvs (kPr x y)).isSome = decide ((x, y) ∈ toldOf (ls.take i))) ∧ okL n [] ls = okL n (toldOf (ls.take i)) (ls.drop i))
      ⟨none, none, [], rfl, s1, upd_same, Nat.zero_le _, fun x y => by simp [toldOf, valV_nil], rfl⟩ (fun i σ Hc _ ⟨_, _, _, _, sm, _⟩ => SqL.of (sm _ _ hp)) ?_ ?_⟩
    · rintro i v σ Hc hi ⟨x3, x4, kvs, rfl, sm, hdc, hkl, hkv, hok⟩
      obtain ⟨t, ht, rfl⟩ := refs_of hi
      obtain ⟨⟨a, b⟩, hab, htup⟩ := pr_getL hts ht
      have hil : i < ls.length := lt_of_at hab
      have htc : Hc t = some (.tup [vN a, vN b]) := sm _ _ htup
      have hdrop : ls.drop i = (a, b) :: ls.drop (i + 1) := by
        rw [List.drop_eq_getElem_cons hil]
        rw [List.getElem?_eq_getElem hil] at hab
        rw [Option.some.inj hab]
      rw [hdrop, okL] at hok
      refine ⟨t, [vN a, vN b], rfl, SqT.of htc, rfl, vN a, [vN b], rfl, vN b, [], rfl, rfl, ?_⟩
      -- the test
      refine ⟨_, rfl, _, rfl, _, _, rfl, rfl, _, rfl, ite2 (fun e => ?_) (fun e => ?_)⟩
      · -- a >= n
        have e' : (n : Int) ≤ (a : Int) := of_decide_eq_true e
        rw [if_pos (.inl (by omega))] at hok
        have := q Hc sm
        rw [hok] at this
        exact this
      have na : ¬ a ≥ n := fun z => e (decide_eq_true (by omega : (n : Int) ≤ (a : Int)))
      refine ⟨_, rfl, _, rfl, _, _, rfl, rfl, _, rfl, ite2 (fun e2 => ?_) (fun e2 => ?_)⟩
      · have e' : (n : Int) ≤ (b : Int) := of_decide_eq_true e2
        rw [if_pos (.inr (.inl (by omega)))] at hok
        have := q Hc sm
        rw [hok] at this
        exact this
      have nb : ¬ b ≥ n := fun z => e2 (decide_eq_true (by omega : (n : Int) ≤ (b : Int)))
      refine ⟨_, rfl, _, rfl, rfl, _, rfl, ite2 (fun e3 => ?_) (fun e3 => ?_)⟩
      · have e' : vN a = vN b := of_decide_eq_true e3
        rw [if_pos (.inr (.inr (.inl (vN_inj e'))))] at hok
        have := q Hc sm
        rw [hok] at this
        exact this
      have nab : ¬ a = b := fun z => e3 (decide_eq_true (by rw [z]))
      -- (a, b) in told
      refine ⟨_, rfl, _, rfl, szl 2 (by omega), fun t1 ht1 => ?_⟩
      have sm1 : Same Hc (upd Hc t1 (.tup [vN a, vN b])) := same_new ht1
      have hd1 := sm1 _ _ hdc
      have g1 : DGet (upd Hc t1 (.tup [vN a, vN b])) d (.ref t1) (valV kvs (kPr a b)) := DGet.t (k := kPr a b) hd1 upd_same
      refine ⟨_, rfl, d, _, rfl, g1, _, rfl, ?_⟩
      rw [hkv a b]
      refine ite2 (fun e4 => ?_) (fun e4 => ?_)
      · have e4' := of_decide_eq_true e4
        rw [if_pos (.inr (.inr (.inr e4')))] at hok
        have := q _ (sm.trans sm1)
        rw [hok] at this
        exact this
      have nin : ¬ (a, b) ∈ toldOf (ls.take i) := fun z => e4 (decide_eq_true z)
      rw [if_neg (by simp only [not_or]; exact ⟨na, nb, nab, nin⟩)] at hok
      -- told[a, b] = True
      refine ⟨_, rfl, _, rfl, _, rfl, szl 2 (by omega), fun t2 ht2 => ?_⟩
      have sm2 : Same (upd Hc t1 (.tup [vN a, vN b])) (upd (upd Hc t1 (.tup [vN a, vN b])) t2 (.tup [vN a, vN b])) := same_new ht2
      refine ⟨d, _, rfl, DPut.t (k := kPr a b) (sm2 _ _ hd1) upd_same (sz _ (by omega)), ?_⟩
      generalize hH2 : upd (upd Hc t1 (.tup [vN a, vN b])) t2 (.tup [vN a, vN b]) = H2
      have hs2 : Same H H2 := by rw [← hH2]; exact sm.trans (sm1.trans sm2)
      -- told[b, a] = True
      refine ⟨_, rfl, _, rfl, _, rfl, szl 2 (by omega), fun t3 ht3 => ?_⟩
      have sm3 : Same (upd H2 d (.dT (putK kvs (kPr a b) (.bl true)))) (upd (upd H2 d (.dT (putK kvs (kPr a b) (.bl true)))) t3 (.tup [vN b, vN a])) := same_new ht3
      have hl1 := length_putK kvs (kPr a b) (.bl true)
      refine ⟨d, _, rfl, DPut.t (k := kPr b a) (sm3 _ _ upd_same) upd_same (sz _ (by omega)), ?_⟩
      have hl2 := length_putK (putK kvs (kPr a b) (.bl true)) (kPr b a) (.bl true)
      have htake : toldOf (ls.take (i + 1)) = toldOf (ls.take i) ++ [(a, b), (b, a)] := by
        rw [take_more hab]
        unfold toldOf
        rw [List.flatMap_append]
        rfl
      refine ⟨some (vN a), some (vN b), _, rfl, ?_, upd_same, by omega, ?_, ?_⟩
      · intro b' o e5
        have nd : b' ≠ d := ne_of_none e5 hd
        have h5 : (upd H2 d (.dT (putK kvs (kPr a b) (.bl true)))) b' = some o := by
          rw [upd_ne nd]
          exact hs2 _ _ e5
        rw [upd_ne nd]
        exact sm3 _ _ h5
      · intro x y
        rw [told_put (told_put hkv a b _) b a _ x y, htake, List.append_assoc]
        rfl
      · rw [hok, htake]
    · rintro σ Hc ⟨x3, x4, kvs, rfl, sm, hdc, hkl, hkv, hok⟩
      have hl : (ts.map V.ref).length = ls.length := by rw [List.length_map, Paired.length hts]
      rw [hl, List.drop_length] at hok
      have := q Hc sm
      rw [hok] at this
      exact this
end
end NP
namespace NP
open PySem PySem.Spec PyProof.Rows L2 NM
/-! ### exits_of -/
theorem scExits : FnScope ["n", "net", "exits", "a", "b", "exit_of_a", "exit_of_b", "place"] ["n", "net"] (defScope sExits) := ⟨rfl, rfl, rfl, by decide +kernel, rfl, by decide +kernel, by decide +kernel⟩
def spExits (K : PySem.W.Frag) : Sp := fun vs H Q _ => ∃ (n : Nat) (a : Addr) (l : List Nat), vs = [vN n, .ref a] ∧ SqL K H a (vNs l) ∧ l.length % 2 = 0 ∧ l.length ≤ 24 ∧ n ≤ 7 ∧ goodL n (pairs2 l) ∧
  ∀ H' p, Same H H' → H p = none → ExitsAt H' p (exitsM n (pairs2 l)) → Q (.ref p) H'
theorem pairs_keep {H H' : Hp} {x : Addr} {ls : List (Nat × Nat)} (h : PairsAt H x ls) (hx : H' x = H x) (ht : ∀ b ys, H b = some (.tup ys) → H' b = some (.tup ys)) : PairsAt H' x ls := by
  obtain ⟨ts, h1, h2⟩ := h
  exact ⟨ts, hx.trans h1, L2.Paired.mapP h2 fun _ _ z => ht _ _ z⟩
theorem rows_append {H : Hp} {rs : List Addr} {E : Exits} {i : Nat} {row : ERow} {r t : Addr} {ts : List Addr} {p : Nat × Nat} (nd : rs.Nodup) (hp : Paired (fun r row => PairsAt H r row) rs E) (hE : E[i]? = some row) (hr : rs[i]? = some r) (ht : H t = none)
    (hrt : H r = some (.lst (ts.map V.ref))) (hts : Paired (TupAt H) ts row) :
    Paired (fun x row => PairsAt (upd (upd H t (.tup [vN p.1, vN p.2])) r (.lst (ts.map V.ref ++ [.ref t]))) x row) rs (E.set i (row ++ [p])) := by
  have nrt : r ≠ t := ne_of_none hrt ht
  have tup : ∀ b ys, H b = some (.tup ys) → (upd (upd H t (.tup [vN p.1, vN p.2])) r (.lst (ts.map V.ref ++ [.ref t]))) b = some (.tup ys) := fun b ys e => by
    rw [upd_ne (ne_of e hrt (fun z => nomatch z)), upd_ne (ne_of_none e ht)]
    exact e
  refine pr_of (by rw [List.length_set, Paired.length hp]) fun j x rw' hx hrw => ?_
  by_cases e : i = j
  · subst e
    rw [hr] at hx
    cases hx
    rw [List.getElem?_set_self (lt_of_at hE)] at hrw
    cases hrw
    refine ⟨ts ++ [t], ?_, Paired.snoc (L2.Paired.mapP hts fun _ _ z => tup _ _ z) ?_⟩
    · rw [upd_same, List.map_append]
      rfl
    · unfold TupAt
      rw [upd_ne (Ne.symm nrt), upd_same]
  · rw [List.getElem?_set_ne e] at hrw
    obtain ⟨x', hx', hpx⟩ := pr_get hp hrw
    rw [hx] at hx'
    cases hx'
    have nx : x ≠ r := fun z => by
      subst z
      exact e (nd_ix nd hr hx)
    refine pairs_keep hpx ?_ tup
    obtain ⟨tx, h1, _⟩ := hpx
    rw [upd_ne nx, upd_ne (ne_of_none h1 ht)]
theorem exitsM_len {n : Nat} {ls : Links} (h : goodL n ls) : (exitsM n ls).length = n := by
  rw [exits_eq n ls h, List.length_map, List.length_range]
theorem exitsM_more {n : Nat} {ls : Links} {i : Nat} {p : Nat × Nat} (h : ls[i]? = some p) : exitsM n (ls.take (i + 1)) = addL (exitsM n (ls.take i)) p := by
  unfold exitsM
  rw [take_more h, List.foldl_append]
  rfl
section
variable {P : Program} {w : World} {K : PySem.W.Frag} {mg : Str → Option Value} {base : Heap}
theorem ok_exits {f fL : Addr} {fd fdL : FuncData} (F : Fun K "exits_of" "exits_of" sExits f fd) (FL : Fun K "links_of" "links_of" sLinks fL fdL) (bL : Binds K fdL ["net"] []) (gL : mg "links_of" = some (.ref fL)) (mr : mg "range" = none) (ml : mg "len" = none) :
    FnOk P w K mg base CX0 2 f fd ["n", "net"] (spExits K) := by
  have GL : FnOk P w K mg base CX0 1 fL fdL ["net"] (spLinks K) := ok_links FL mr ml
  refine F.ok scExits (fun vs H Q E h => ?_) (fun cdv A outer s H vs Q E hr h => ?_)
  · obtain ⟨n, a, l, rfl, _⟩ := h
    rfl
  · obtain ⟨n, a, l, rfl, hS, hev, hlen, hn7, hg, q⟩ := h
    refine ⟨_, pss_cons (ps_setLc (i := 2) (own := [("place", 7)]) (g := gName 7) (tt := tYes) (te := tLst tNil) rfl scExits.nd rfl rfl (sw_true rfl rfl rfl (by decide +kernel))
        (pi_range1 rfl mr (pa_cons (pv 0) pa_nil)) (blkOk_by (N := ["n", "net", "exits", "a", "b", "exit_of_a", "exit_of_b", "place"]) (sc := defScope sExits) (by decide +kernel))
        (fun _ _ _ _ _ => pg_name (i := 7) scExits.nd rfl (Or.inl rfl)) (fun _ _ _ _ _ => pts_nil) (fun _ _ _ _ _ => pe_lst pa_nil))
      (pss_cons (ps_for PassesOwn.never rfl (pi_list (pe_call GL hr rfl gL FL.kp bL .nil pass0 (pa_cons (pv 1) pa_nil))) (pg_tup rfl (pgs_cons (pg_name (i := 3) scExits.nd rfl (Or.inl rfl)) (pgs_cons (pg_name (i := 4) scExits.nd rfl (Or.inl rfl)) pgs_nil)))
        (pss_cons (ps_set (i := 5) scExits.nd rfl (Or.inl rfl) (pe_callB call_len_seq (by rfl) ml PySem.boot_len (pa_cons (pe_ix ix_list (pv 2) (pv 3) (fun _ _ => rfl)) pa_nil)))
        (pss_cons (ps_set (i := 6) scExits.nd rfl (Or.inl rfl) (pe_callB call_len_seq (by rfl) ml PySem.boot_len (pa_cons (pe_ix ix_list (pv 2) (pv 4) (fun _ _ => rfl)) pa_nil)))
        (pss_cons (ps_expr (pe_bm PySem.F.plainAttrs_list PySem.F.slot_list_append PySem.F.type_list_append mt_append (pe_ix ix_list (pv 2) (pv 3) (fun _ _ => rfl)) (pa_cons (pe_tup (pa_cons (pv 4) (pa_cons (pv 6) pa_nil))) pa_nil)))
        (pss_one (ps_expr (pe_bm PySem.F.plainAttrs_list PySem.F.slot_list_append PySem.F.type_list_append mt_append (pe_ix ix_list (pv 2) (pv 4) (fun _ _ => rfl)) (pa_cons (pe_tup (pa_cons (pv 3) (pa_cons (pv 5) pa_nil))) pa_nil))))))))
      (pss_one (ps_ret (pv 2)))), ?_⟩
    refine ⟨_, rfl, (n : Int), rfl, by omega, by omega, fun e he => ?_⟩
    refine lc_range (lo := 0) (n := ((n : Int)).toNat) (fun i Hc => ∃ rs : List Addr, Same H Hc ∧ Hc e = some (.lst (rs.map V.ref)) ∧ rs.length = i ∧ rs.Nodup ∧ (∀ r ∈ rs, H r = none ∧ r ≠ e ∧ Hc r = some (.lst []))) ?_ ?_ ?_
    · exact ⟨[], same_new he, upd_same, rfl, List.nodup_nil, fun r hr => by simp at hr⟩
    · rintro i Hc hi ⟨rs, sm, hec, hl, nd, hrs⟩
      refine ⟨rfl, ?_⟩
      refine ⟨szl 0 (by omega), fun r hr => ⟨rs.map V.ref, ?_, ?_, rs ++ [r], ?_, ?_, ?_, ?_, ?_⟩⟩
      · rw [upd_ne (ne_of_none hec hr)]
        exact hec
      · rw [List.length_map]
        exact sz _ (by omega)
      · intro b o eb
        rw [upd_ne (ne_of_none eb he)]
        exact same_new hr _ _ (sm _ _ eb)
      · rw [upd_same, List.map_append]
        rfl
      · rw [List.length_append, hl]
        rfl
      · rw [List.nodup_append]
        refine ⟨nd, by simp, fun x hx y hy exy => ?_⟩
        have hy' : y = r := by simpa using hy
        rw [exy, hy'] at hx
        have z := (hrs r hx).2.2
        rw [hr] at z
        cases z
      · intro x hx
        have ner : e ≠ r := ne_of_none hec hr
        rcases List.mem_append.mp hx with h | h
        · obtain ⟨h1, h2, h3⟩ := hrs x h
          exact ⟨h1, h2, by rw [upd_ne h2, upd_ne (ne_of_none h3 hr)]; exact h3⟩
        · have hx' : x = r := by simpa using h
          rw [hx']
          exact ⟨sm.free hr, Ne.symm ner, by rw [upd_ne (Ne.symm ner), upd_same]⟩
    · rintro H1 ⟨rs, sm1, he1, hl1, nd, hrs⟩
      have hl1' : rs.length = n := by rw [hl1]; omega
      -- links_of(net)
      refine ⟨_, rfl, a, l, rfl, sm1.seq hS, hev, hlen, fun H2 p sm2 hpn hP => ?_⟩
      obtain ⟨ts, hp, hts⟩ := id hP
      have npe : p ≠ e := Ne.symm (ne_of_none he1 hpn)
      have npr : ∀ r ∈ rs, r ≠ p := fun r hr => ne_of_none (hrs r hr).2.2 hpn
      have hl2 : (pairs2 l).length ≤ 12 := by rw [pairs2_len]; omega
      refine ⟨p, rfl, ⟨_, SqL.of hp⟩, for_list (K := K) (a := p) (xs := ts.map V.ref) (fun i σ Hc => ∃ x3 x4 x5 x6, σ = [some (vN n), some (.ref a), some (.ref e), x3, x4, x5, x6, none] ∧ Same H Hc ∧ PairsAt Hc p (pairs2 l) ∧ Hc p = some (.lst (ts.map V.ref)) ∧ Paired (TupAt Hc) ts (pairs2 l) ∧ Hc e = some (.lst (rs.map V.ref)) ∧
        Paired (fun r row => PairsAt Hc r row) rs (exitsM n ((pairs2 l).take i)))
        ⟨none, none, none, none, rfl, sm1.trans sm2, hP, hp, hts, sm2 _ _ he1, ?_⟩ (fun i σ Hc _ ⟨_, _, _, _, _, _, _, h7, _⟩ => SqL.of h7) ?_ ?_⟩
      · refine pr_of (by rw [hl1']; simp [exitsM]) fun j r row hr hrow => ?_
        have e1 : row = [] := by
          have : (List.replicate n ([] : ERow))[j]? = some row := hrow
          rw [List.getElem?_replicate] at this
          split at this
          · exact (Option.some.inj this).symm
          · cases this
        subst e1
        exact ⟨[], sm2 _ _ (hrs r (List.mem_of_getElem? hr)).2.2, .nil⟩
      · rintro i v σ Hc hi ⟨x3, x4, x5, x6, rfl, sm, hPc, hpc, htsc, hec, hrows⟩
        obtain ⟨t, ht, rfl⟩ := refs_of hi
        obtain ⟨⟨x, y⟩, hxy, htup⟩ := pr_getL htsc ht
        obtain ⟨hx, hy, hne⟩ := hg (x, y) (List.mem_of_getElem? hxy)
        simp only at hx hy hne
        have hgt : goodL n ((pairs2 l).take i) := fun z hz => hg z (List.mem_of_mem_take hz)
        have hEl : (exitsM n ((pairs2 l).take i)).length = n := exitsM_len hgt
        generalize hE : exitsM n ((pairs2 l).take i) = EE at hrows hEl
        have hrl : rs.length = n := hl1'
        obtain ⟨rowx, hrx⟩ : ∃ r, EE[x]? = some r := ⟨_, List.getElem?_eq_getElem (by omega)⟩
        obtain ⟨rowy, hry⟩ : ∃ r, EE[y]? = some r := ⟨_, List.getElem?_eq_getElem (by omega)⟩
        obtain ⟨ra, hra, hpa⟩ := pr_get hrows hrx
        obtain ⟨rb, hrb, hpb⟩ := pr_get hrows hry
        obtain ⟨tsa, hla, hta⟩ := id hpa
        obtain ⟨tsb, hlb, htb⟩ := id hpb
        have nab : ra ≠ rb := fun z => by
          subst z
          exact hne (nd_ix nd hra hrb)
        have hlens : rowx.length ≤ 12 ∧ rowy.length ≤ 12 := by
          have hEE := exits_eq n _ hgt
          rw [hE] at hEE
          rw [hEE, List.getElem?_map] at hrx hry
          rw [List.getElem?_range hx] at hrx
          rw [List.getElem?_range hy] at hry
          have e1 : rowS ⟨n, (pairs2 l).take i⟩ x = rowx := Option.some.inj hrx
          have e2 : rowS ⟨n, (pairs2 l).take i⟩ y = rowy := Option.some.inj hry
          have l1 := row_len (n := n) (ls := (pairs2 l).take i) (u := x)
          have l2 := row_len (n := n) (ls := (pairs2 l).take i) (u := y)
          rw [e1] at l1
          rw [e2] at l2
          have := List.length_take_le i (pairs2 l)
          have := List.length_take (i := i) (l := pairs2 l)
          omega
        have lta := Paired.length hta
        have ltb := Paired.length htb
        refine ⟨t, [vN x, vN y], rfl, SqT.of htup, rfl, vN x, [vN y], rfl, vN y, [], rfl, rfl, ?_⟩
        -- exit_of_a, exit_of_b
        refine ⟨_, rfl, _, rfl, e, _, _, _, rfl, rfl, SqL.of hec, atI_z (refs_at hra), ra, _, rfl, .inl (SqL.of hla), ?_⟩
        refine ⟨_, rfl, _, rfl, e, _, _, _, rfl, rfl, SqL.of hec, atI_z (refs_at hrb), rb, _, rfl, .inl (SqL.of hlb), ?_⟩
        have eva : V.int ((tsa.map V.ref).length : Int) = vN rowx.length := by rw [List.length_map, lta]; rfl
        have evb : V.int ((tsb.map V.ref).length : Int) = vN rowy.length := by rw [List.length_map, ltb]; rfl
        rw [eva, evb]
        -- exits[a].append((b, exit_of_b))
        refine ⟨_, rfl, _, rfl, e, _, _, _, rfl, rfl, SqL.of hec, atI_z (refs_at hra), .inl ⟨rfl, _, SqL.of hla⟩, _, rfl, _, rfl, szl 2 (by omega), fun t1 ht1 => ?_⟩
        have nra1 : ra ≠ t1 := ne_of_none hla ht1
        refine ⟨ra, _, _, rfl, rfl, (upd_ne nra1).trans hla, ?_, ?_⟩
        · rw [List.length_map]
          exact sz _ (by omega)
        have R1 := rows_append (p := (y, rowy.length)) nd hrows hrx hra ht1 hla hta
        have hne_ra : e ≠ ra := Ne.symm (hrs ra (List.mem_of_getElem? hra)).2.1
        have hne_rb : e ≠ rb := Ne.symm (hrs rb (List.mem_of_getElem? hrb)).2.1
        have npra : p ≠ ra := Ne.symm (npr ra (List.mem_of_getElem? hra))
        have nprb : p ≠ rb := Ne.symm (npr rb (List.mem_of_getElem? hrb))
        have tup1 : ∀ b ys, Hc b = some (.tup ys) → (upd (upd Hc t1 (.tup [vN y, vN rowy.length])) ra (.lst (tsa.map V.ref ++ [.ref t1]))) b = some (.tup ys) := fun b ys eb => by
          rw [upd_ne (ne_of eb hla (fun z => nomatch z)), upd_ne (ne_of_none eb ht1)]
          exact eb
        have sm1' : Same H (upd (upd Hc t1 (.tup [vN y, vN rowy.length])) ra (.lst (tsa.map V.ref ++ [.ref t1]))) := fun b o eb => by
          rw [upd_ne (ne_of_none eb (hrs ra (List.mem_of_getElem? hra)).1), upd_ne (ne_of_none (sm _ _ eb) ht1)]
          exact sm _ _ eb
        have he' : (upd (upd Hc t1 (.tup [vN y, vN rowy.length])) ra (.lst (tsa.map V.ref ++ [.ref t1]))) e = some (.lst (rs.map V.ref)) := by
          rw [upd_ne hne_ra, upd_ne (ne_of_none hec ht1)]
          exact hec
        have hp' : (upd (upd Hc t1 (.tup [vN y, vN rowy.length])) ra (.lst (tsa.map V.ref ++ [.ref t1]))) p = some (.lst (ts.map V.ref)) := by
          rw [upd_ne npra, upd_ne (ne_of_none hpc ht1)]
          exact hpc
        have hb' : (upd (upd Hc t1 (.tup [vN y, vN rowy.length])) ra (.lst (tsa.map V.ref ++ [.ref t1]))) rb = some (.lst (tsb.map V.ref)) := by
          rw [upd_ne (Ne.symm nab), upd_ne (ne_of_none hlb ht1)]
          exact hlb
        have htb' : Paired (TupAt (upd (upd Hc t1 (.tup [vN y, vN rowy.length])) ra (.lst (tsa.map V.ref ++ [.ref t1])))) tsb rowy := L2.Paired.mapP htb fun _ _ z => tup1 _ _ z
        have hts' : Paired (TupAt (upd (upd Hc t1 (.tup [vN y, vN rowy.length])) ra (.lst (tsa.map V.ref ++ [.ref t1])))) ts (pairs2 l) := L2.Paired.mapP htsc fun _ _ z => tup1 _ _ z
        have hry' : (EE.set x (rowx ++ [(y, rowy.length)]))[y]? = some rowy := by rw [List.getElem?_set_ne hne]; exact hry
        generalize hHd : upd (upd Hc t1 (.tup [vN y, vN rowy.length])) ra (.lst (tsa.map V.ref ++ [.ref t1])) = Hd at R1 sm1' he' hp' hb' htb' hts'
        -- exits[b].append((a, exit_of_a))
        refine ⟨_, rfl, _, rfl, e, _, _, _, rfl, rfl, SqL.of he', atI_z (refs_at hrb), .inl ⟨rfl, _, SqL.of hb'⟩, _, rfl, _, rfl, szl 2 (by omega), fun t2 ht2 => ?_⟩
        have nrb2 : rb ≠ t2 := ne_of_none hb' ht2
        refine ⟨rb, _, _, rfl, rfl, (upd_ne nrb2).trans hb', ?_, ?_⟩
        · rw [List.length_map]
          exact sz _ (by omega)
        have R2 := rows_append (p := (x, rowx.length)) nd R1 hry' hrb ht2 hb' htb'
        have tup2 : ∀ b ys, Hd b = some (.tup ys) → (upd (upd Hd t2 (.tup [vN x, vN rowx.length])) rb (.lst (tsb.map V.ref ++ [.ref t2]))) b = some (.tup ys) := fun b ys eb => by
          rw [upd_ne (ne_of eb hb' (fun z => nomatch z)), upd_ne (ne_of_none eb ht2)]
          exact eb
        have hp2 : (upd (upd Hd t2 (.tup [vN x, vN rowx.length])) rb (.lst (tsb.map V.ref ++ [.ref t2]))) p = some (.lst (ts.map V.ref)) := by
          rw [upd_ne nprb, upd_ne (ne_of_none hp' ht2)]
          exact hp'
        have hts2 : Paired (TupAt (upd (upd Hd t2 (.tup [vN x, vN rowx.length])) rb (.lst (tsb.map V.ref ++ [.ref t2])))) ts (pairs2 l) := L2.Paired.mapP hts' fun _ _ z => tup2 _ _ z
        refine ⟨some (vN x), some (vN y), some (vN rowx.length), some (vN rowy.length), rfl, ?_, ⟨ts, hp2, hts2⟩, hp2, hts2, ?_, ?_⟩
        · intro b o eb
          rw [upd_ne (ne_of_none eb (hrs rb (List.mem_of_getElem? hrb)).1), upd_ne (ne_of_none (sm1' _ _ eb) ht2)]
          exact sm1' _ _ eb
        · rw [upd_ne hne_rb, upd_ne (ne_of_none he' ht2)]
          exact he'
        · rw [exitsM_more hxy, hE]
          have e1 : EE.getD x [] = rowx := by rw [List.getD_eq_getElem?_getD, hrx]; rfl
          have e2 : EE.getD y [] = rowy := by rw [List.getD_eq_getElem?_getD, hry]; rfl
          have e3 : (EE.set x (rowx ++ [(y, rowy.length)])).getD y [] = rowy := by rw [List.getD_eq_getElem?_getD, hry']; rfl
          have ea : addL EE (x, y) = (EE.set x (rowx ++ [(y, rowy.length)])).set y (rowy ++ [(x, rowx.length)]) := by
            unfold addL
            simp only [e1, e2, e3]
          rw [ea]
          exact R2
      · rintro σ Hc ⟨x3, x4, x5, x6, rfl, sm, hPc, hpc, htsc, hec, hrows⟩
        have hl : (ts.map V.ref).length = (pairs2 l).length := by rw [List.length_map, Paired.length hts]
        rw [hl, List.take_length] at hrows
        exact ⟨_, rfl, q Hc e sm he ⟨rs, hec, hrows⟩⟩
end
end NP
namespace NP
open PySem PySem.Spec PyProof.Rows L2 NM
/-! ### distances_from -/
theorem scDist : FnScope ["start", "exits", "away", "reached", "at", "place", "way"] ["start", "exits"] (defScope sDist) := ⟨rfl, rfl, rfl, by decide +kernel, rfl, by decide +kernel, by decide +kernel⟩
def rowsOf (t : Ks536.Net) : Exits := (List.range t.n).map (rowS t)
def kvOf (S : List (Nat × Nat)) : List (Key × V) := S.map fun p => (Sum.inl (p.1 : Int), vN p.2)
def netOk (t : Ks536.Net) : Prop := t.n ≤ 7 ∧ goodL t.n t.links ∧ t.links.length ≤ 12
def spDist : Sp := fun vs H Q _ => ∃ (t : Ks536.Net) (s : Nat) (e : Addr), vs = [vN s, .ref e] ∧ ExitsAt H e (rowsOf t) ∧ netOk t ∧ s < t.n ∧
  ∀ H' d S, Same H H' → BD t s S → H' d = some (.dK (kvOf S)) → Q (.ref d) H'
theorem kvOf_len (S : List (Nat × Nat)) : (kvOf S).length = S.length := List.length_map ..
theorem kvOf_val {S : List (Nat × Nat)} {x : Nat} (h : x ∉ S.map (·.1)) : valV (kvOf S) (Sum.inl (x : Int)) = none := by
  induction S with
  | nil => rfl
  | cons p r ih =>
    have h1 : ¬ x = p.1 := fun z => h (by rw [z]; exact List.mem_cons_self)
    have h2 : x ∉ r.map (·.1) := fun z => h (List.mem_cons_of_mem _ z)
    show valV ((Sum.inl (p.1 : Int), vN p.2) :: kvOf r) _ = none
    rw [valV_neg]
    · exact ih h2
    · intro z
      have := Sum.inl.inj z
      omega
theorem kvOf_there {S : List (Nat × Nat)} (nd : (S.map (·.1)).Nodup) {x d : Nat} (h : (x, d) ∈ S) : valV (kvOf S) (Sum.inl (x : Int)) = some (vN d) := by
  induction S with
  | nil => simp at h
  | cons p r ih =>
    have hn := List.nodup_cons.mp (show ((p.1) :: r.map (·.1)).Nodup from nd)
    show valV ((Sum.inl (p.1 : Int), vN p.2) :: kvOf r) _ = _
    by_cases e : p.1 = x
    · rw [valV_pos (by show (Sum.inl (p.1 : Int) : Key) = _; rw [e])]
      rcases List.mem_cons.mp h with z | z
      · rw [← z]
      · exact absurd (List.mem_map.mpr ⟨_, z, e.symm⟩) hn.1
    · rw [valV_neg (by intro z; have := Sum.inl.inj z; omega)]
      rcases List.mem_cons.mp h with z | z
      · exact absurd (by rw [← z]) e
      · exact ih hn.2 z
theorem kvOf_some {S : List (Nat × Nat)} (x : Nat) : (valV (kvOf S) (Sum.inl (x : Int))).isSome = decide (x ∈ S.map (·.1)) := by
  by_cases h : x ∈ S.map (·.1)
  · rw [decide_eq_true h]
    induction S with
    | nil => simp at h
    | cons p r ih =>
      show (valV ((Sum.inl (p.1 : Int), vN p.2) :: kvOf r) _).isSome = _
      by_cases e : p.1 = x
      · rw [valV_pos (by show (Sum.inl (p.1 : Int) : Key) = _; rw [e])]; rfl
      · rw [valV_neg (by intro z; have := Sum.inl.inj z; omega)]
        rcases List.mem_cons.mp (show x ∈ p.1 :: r.map (·.1) from h) with z | z
        · exact absurd z.symm e
        · exact ih z
  · rw [decide_eq_false h, kvOf_val h]; rfl
theorem rowsOf_at {t : Ks536.Net} {u : Nat} (h : u < t.n) : (rowsOf t)[u]? = some (rowS t u) := by
  unfold rowsOf
  rw [List.getElem?_map, List.getElem?_range h]
  rfl
section
variable {P : Program} {w : World} {K : PySem.W.Frag} {mg : Str → Option Value} {base : Heap}
theorem ok_dist {f : Addr} {fd : FuncData} (F : Fun K "distances_from" "distances_from" sDist f fd) (ml : mg "len" = none) : FnOk P w K mg base CX0 1 f fd ["start", "exits"] spDist := by
  refine F.ok scDist (fun vs H Q E h => ?_) (fun cdv A outer s H vs Q E hr h => ?_)
  · obtain ⟨t, s, e, rfl, _⟩ := h
    rfl
  · obtain ⟨t, s, e, rfl, hE, ⟨hn7, hg, hl12⟩, hs, q⟩ := h
    have hu := hu_of hr
    refine ⟨_, pss_cons (ps_set (i := 2) scDist.nd rfl (Or.inl rfl) (pe_disp (pps_cons (pv 0) pe_int pps_nil) (by rfl) (by rfl) (fun z => by cases z) (by decide)))
      (pss_cons (ps_set (i := 3) scDist.nd rfl (Or.inl rfl) (pe_lst (pa_cons (pv 0) pa_nil)))
      (pss_cons (ps_set (i := 4) scDist.nd rfl (Or.inl rfl) pe_int)
      (pss_cons (ps_while PassesOwn.never (pt_cmpR op_lt (pv 4) (pe_callB call_len_seq (by rfl) ml PySem.boot_len (pa_cons (pv 3) pa_nil)) (nomark _))
        (pss_cons (ps_set (i := 5) scDist.nd rfl (Or.inl rfl) (pe_ix ix_list (pv 3) (pv 4) (fun _ _ => rfl)))
        (pss_cons (ps_for PassesOwn.never rfl (pi_list (pe_ix ix_list (pv 1) (pv 5) (fun _ _ => rfl))) (pg_name (i := 6) scDist.nd rfl (Or.inl rfl))
          (pss_one (ps_if (pt_cmp (pc_dnotin hu (pe_ix ix_tup (pv 6) pe_int (fun _ _ => rfl)) (pv 2)))
            (pss_cons (ps_dput hu (pv 2) (pe_ix ix_tup (pv 6) pe_int (fun _ _ => rfl)) (pe_op op_add (pe_dget hu (pv 2) (pv 5) (fun _ _ => rfl)) pe_int) rfl)
            (pss_one (ps_expr (pe_bm PySem.F.plainAttrs_list PySem.F.slot_list_append PySem.F.type_list_append mt_append (pv 3) (pa_cons (pe_ix ix_tup (pv 6) pe_int (fun _ _ => rfl)) pa_nil)))))
            pss_nil)))
        (pss_one (ps_aug (i := 4) scDist.nd rfl (Or.inl rfl) pe_int ip_add)))))
      (pss_one (ps_ret (pv 2)))))), ?_⟩
    -- away = {start: 0}
    refine fun d hd => ⟨_, rfl, upd_same, [(Sum.inl (s : Int), vN 0)], rfl, (by show 1 ≤ 15; decide), ?_⟩
    have eA : mergeK [] [((Sum.inl (s : Int) : Key), vN 0)] = kvOf [(s, 0)] := rfl
    rw [eA, upd_upd]
    have s1 : Same H (upd H d (.dK (kvOf [(s, 0)]))) := same_new hd
    -- reached = [start]
    refine ⟨_, rfl, szl 1 (by omega), fun r hr' => ?_⟩
    have ndr : d ≠ r := ne_of_none upd_same hr'
    have hr0 : H r = none := s1.free hr'
    -- while
    refine ⟨fun m σ Hc => ∃ a x5 x6 S, σ = [some (vN s), some (.ref e), some (.ref d), some (.ref r), some (vN a), x5, x6] ∧ m = t.n - a ∧ Same H Hc ∧ BI t s a S ∧ a ≤ S.length ∧ Hc d = some (.dK (kvOf S)) ∧ Hc r = some (.lst (vNs (S.map (·.1)))),
      ⟨t.n, 0, none, none, [(s, 0)], rfl, rfl, s1.trans (same_new hr'), BI.start hs, Nat.zero_le _, ?_, ?_⟩, ?_⟩
    · rw [upd_ne ndr, upd_same]
    · rw [upd_same]
      rfl
    rintro m σ Hc ⟨a, x5, x6, S, rfl, rfl, sm, B, haS, hdc, hrc⟩
    have hSl := B.len
    -- at < len(reached)
    refine ⟨_, rfl, _, rfl, r, _, rfl, .inl (SqL.of hrc), _, _, rfl, rfl, _, rfl, ?_⟩
    rw [vNs_len, List.length_map]
    refine ite2 (fun ec => ?_) (fun ec => ?_)
    · have ha : a < S.length := by
        have := of_decide_eq_true ec
        omega
      obtain ⟨⟨u, du⟩, hu1⟩ : ∃ p, S[a]? = some p := ⟨_, List.getElem?_eq_getElem ha⟩
      have hut : u < t.n := B.lt _ (List.mem_of_getElem? hu1)
      have hr1 : (vNs (S.map (·.1)))[a]? = some (vN u) := vNs_at (by rw [List.getElem?_map, hu1]; rfl)
      refine ⟨fun σ' H' => ∃ x6 S', σ' = [some (vN s), some (.ref e), some (.ref d), some (.ref r), some (vN (a + 1)), some (vN u), x6] ∧ Same H H' ∧ BI t s (a + 1) S' ∧ a + 1 ≤ S'.length ∧ H' d = some (.dK (kvOf S')) ∧ H' r = some (.lst (vNs (S'.map (·.1)))), ?_, ?_⟩
      · rintro σ' H' ⟨x6', S', rfl, sm', B', h1, h2, h3⟩
        exact ⟨t.n - (a + 1), by omega, a + 1, _, x6', S', rfl, rfl, sm', B', h1, h2, h3⟩
      -- place = reached[at]
      refine ⟨_, rfl, _, rfl, r, _, _, vN u, rfl, rfl, SqL.of hrc, atI_z hr1, ?_⟩
      -- for way in exits[place]
      obtain ⟨rs, hrs, hpr⟩ := id hE
      obtain ⟨ra, hra, hpa⟩ := pr_get hpr (rowsOf_at hut)
      obtain ⟨tsa, hla, hta⟩ := hpa
      have hal := Paired.length hta
      refine ⟨_, rfl, _, rfl, e, _, _, _, rfl, rfl, SqL.of (sm _ _ hrs), atI_z (refs_at hra), ra, rfl, ⟨_, SqL.of (sm _ _ hla)⟩, for_list (K := K) (a := ra) (xs := tsa.map V.ref) (fun j σ Hc => ∃ x6 S', σ = [some (vN s), some (.ref e), some (.ref d), some (.ref r), some (vN a), some (vN u), x6] ∧ Same H Hc ∧ BI t s a S' ∧ S'[a]? = some (u, du) ∧
        Hc d = some (.dK (kvOf S')) ∧ Hc r = some (.lst (vNs (S'.map (·.1)))) ∧ (∀ j', j' < j → ∀ p, (rowS t u)[j']? = some p → ∃ k, (p.1, k) ∈ S' ∧ k ≤ du + 1))
        ⟨x6, S, rfl, sm, B, hu1, hdc, hrc, fun j' hj' => by omega⟩ (fun j σ Hc _ ⟨_, _, _, sm', _⟩ => SqL.of (sm' _ _ hla)) ?_ ?_⟩
      · rintro j v σ H1 hj ⟨x6', S', rfl, sm', B', hu', hd1, hr1', hpart⟩
        obtain ⟨tw, htw, rfl⟩ := refs_of hj
        obtain ⟨⟨y, c⟩, hyc, htup⟩ := pr_getL hta htw
        have htup1 : H1 tw = some (.tup [vN y, vN c]) := sm' _ _ htup
        have hyt : y < t.n := row_lt (n := t.n) (ls := t.links) hg (List.mem_of_getElem? hyc)
        have hadj : Adj t u y := ⟨(y, c), List.mem_of_getElem? hyc, rfl⟩
        obtain ⟨B2, hu2, hk2⟩ := B'.visit hu' hadj hyt
        have hSl' := B'.len
        have part2 : ∀ S2 : List (Nat × Nat), (∀ p ∈ S', p ∈ S2) → (∃ k, (y, k) ∈ S2 ∧ k ≤ du + 1) → ∀ j', j' < j + 1 → ∀ p, (rowS t u)[j']? = some p → ∃ k, (p.1, k) ∈ S2 ∧ k ≤ du + 1 := by
          intro S2 h1 h2 j' hj' p hp
          by_cases ej : j' = j
          · subst ej
            rw [hyc] at hp
            cases hp
            exact h2
          · obtain ⟨k, hk, hk'⟩ := hpart j' (by omega) p hp
            exact ⟨k, h1 _ hk, hk'⟩
        refine ⟨_, rfl, tw, _, _, vN y, rfl, rfl, SqT.of htup1, atI_nat (j := 0) rfl, _, rfl, d, _, rfl, DGet.k (k := Sum.inl (y : Int)) hd1, _, rfl, ?_⟩
        rw [kvOf_some]
        by_cases hin : y ∈ S'.map (·.1)
        · rw [decide_eq_true hin]
          have ev : visit1 du S' y = S' := if_pos hin
          rw [ev] at B2 hu2 hk2
          exact ⟨some (.ref tw), S', rfl, sm', B2, hu2, hd1, hr1', part2 S' (fun _ z => z) hk2⟩
        · rw [decide_eq_false hin]
          have ev : visit1 du S' y = S' ++ [(y, du + 1)] := if_neg hin
          rw [ev] at B2 hu2 hk2
          have hgu := kvOf_there B'.nd (List.mem_of_getElem? hu')
          have g2 : DGet H1 d (kV (Sum.inl (u : Int))) (some (vN du)) := by rw [← hgu]; exact DGet.k hd1
          refine ⟨_, rfl, _, rfl, d, _, rfl, g2, _, _, rfl, rfl, _, rfl, _, rfl, tw, _, _, vN y, rfl, rfl, SqT.of htup1, atI_nat (j := 0) rfl, ?_⟩
          refine ⟨d, _, rfl, DPut.k (k := Sum.inl (y : Int)) hd1 (by rw [kvOf_len]; exact sz _ (by omega)), ?_⟩
          have ep : putK (kvOf S') (Sum.inl (y : Int)) (.int ((du : Int) + 1)) = kvOf (S' ++ [(y, du + 1)]) := by
            rw [putK_new _ (kvOf_val hin)]
            unfold kvOf
            rw [List.map_append]
            rfl
          rw [ep]
          have hr2 : (upd H1 d (.dK (kvOf (S' ++ [(y, du + 1)])))) r = some (.lst (vNs (S'.map (·.1)))) := by
            rw [upd_ne (Ne.symm ndr)]
            exact hr1'
          have htw2 : (upd H1 d (.dK (kvOf (S' ++ [(y, du + 1)])))) tw = some (.tup [vN y, vN c]) := by
            rw [upd_ne (ne_of htup1 hd1 (fun z => nomatch z))]
            exact htup1
          refine ⟨_, rfl, .inl ⟨rfl, _, SqL.of hr2⟩, _, rfl, tw, _, _, vN y, rfl, rfl, SqT.of htw2, atI_nat (j := 0) rfl, r, _, _, rfl, rfl, hr2, ?_, ?_⟩
          · rw [vNs_len, List.length_map]
            exact sz _ (by omega)
          · refine ⟨some (.ref tw), S' ++ [(y, du + 1)], rfl, ?_, B2, hu2, ?_, ?_, part2 _ (fun _ z => List.mem_append_left _ z) hk2⟩
            · intro b o eb
              rw [upd_ne (ne_of_none eb hr0), upd_ne (ne_of_none eb hd)]
              exact sm' _ _ eb
            · rw [upd_ne ndr, upd_same]
            · rw [upd_same]
              unfold vNs
              rw [List.map_append, List.map_append]
              rfl
      · rintro σ H1 ⟨x6', S', rfl, sm', B', hu', hd1, hr1', hpart⟩
        -- at += 1
        rw [List.length_map, hal] at hpart
        have B2 := B'.next hu' (fun w hw => by
          obtain ⟨p, hp, rfl⟩ := hw
          obtain ⟨j, hj, ep⟩ := List.getElem_of_mem hp
          exact hpart j hj p (by rw [List.getElem?_eq_getElem hj, ep]))
        exact ⟨_, rfl, _, _, rfl, rfl, x6', S', rfl, sm', B2, lt_of_at hu', hd1, hr1'⟩
    · -- return away
      have hge : S.length ≤ a := by
        have z : ¬ ((a : Int) < (S.length : Int)) := fun z => ec (decide_eq_true z)
        omega
      exact ⟨_, rfl, q Hc d S sm (B.done hge) hdc⟩
end
end NP
namespace NP
open PySem PySem.Spec PyProof.Rows L2 NM
/-! ### hangs_together, is_net, refusal -/
theorem scHangs : FnScope ["exits"] ["exits"] (defScope sHangs) := ⟨rfl, rfl, rfl, by decide +kernel, rfl, by decide +kernel, by decide +kernel⟩
def spHangs : Sp := fun vs H Q _ => ∃ (t : Ks536.Net) (e : Addr), vs = [.ref e] ∧ ExitsAt H e (rowsOf t) ∧ netOk t ∧ 0 < t.n ∧ ∀ H', Same H H' → Q (.bl (Ks536.joined t)) H'
theorem rowsOf_len (t : Ks536.Net) : (rowsOf t).length = t.n := by
  unfold rowsOf
  rw [List.length_map, List.length_range]
section
variable {P : Program} {w : World} {K : PySem.W.Frag} {mg : Str → Option Value} {base : Heap}
theorem ok_hangs {f fD : Addr} {fd fdD : FuncData} (F : Fun K "hangs_together" "hangs_together" sHangs f fd) (FD : Fun K "distances_from" "distances_from" sDist fD fdD) (bD : Binds K fdD ["start", "exits"] []) (gD : mg "distances_from" = some (.ref fD)) (ml : mg "len" = none) :
    FnOk P w K mg base CX0 2 f fd ["exits"] spHangs := by
  have GD : FnOk P w K mg base CX0 1 fD fdD ["start", "exits"] spDist := ok_dist FD ml
  refine F.ok scHangs (fun vs H Q E h => ?_) (fun cdv A outer s H vs Q E hr h => ?_)
  · obtain ⟨t, e, rfl, _⟩ := h
    rfl
  · obtain ⟨t, e, rfl, hE, hok, h0, q⟩ := h
    refine ⟨_, pss_one (ps_ret (pe_cmpR op_eq (pe_callB call_lenD (by rfl) ml PySem.boot_len (pa_cons (pe_call GD hr rfl gD FD.kp bD .nil pass0 (pa_cons pe_int (pa_cons (pv 0) pa_nil))) pa_nil)) (pe_callB call_len_seq (by rfl) ml PySem.boot_len (pa_cons (pv 0) pa_nil)) (nomark _))), ?_⟩
    refine ⟨_, rfl, t, 0, e, rfl, hE, hok, h0, fun H' d S sm D hd => ?_⟩
    obtain ⟨rs, hrs, hpr⟩ := id hE
    have hl := Paired.length hpr
    rw [rowsOf_len] at hl
    refine ⟨d, _, rfl, hd, _, rfl, e, _, rfl, .inl (SqL.of (sm _ _ hrs)), rfl, ?_⟩
    have ej : decide (V.int ((kvOf S).length : Int) = V.int ((rs.map V.ref).length : Int)) = Ks536.joined t := by
      rw [kvOf_len, List.length_map, hl]
      have j := joined_iff D
      by_cases c : S.length = t.n
      · rw [j.mpr c, c]
        exact decide_eq_true rfl
      · have : Ks536.joined t = false := by
          cases z : Ks536.joined t with
          | false => rfl
          | true => exact absurd (j.mp z) c
        rw [this]
        refine decide_eq_false fun z => c ?_
        have := V.int.inj z
        omega
    rw [ej]
    exact q H' sm
theorem scIsNet : FnScope ["n", "net"] ["n", "net"] (defScope sIsNet) := ⟨rfl, rfl, rfl, by decide +kernel, rfl, by decide +kernel, by decide +kernel⟩
def isNetM (n : Nat) (l : List Nat) : Bool := decide (1 ≤ n ∧ n ≤ 7 ∧ l.length % 2 = 0 ∧ l.length ≤ 20) && (okL n [] (pairs2 l) && Ks536.joined ⟨n, pairs2 l⟩)
def spIsNet (K : PySem.W.Frag) : Sp := fun vs H Q _ => ∃ (n : Nat) (a : Addr) (l : List Nat), vs = [vN n, .ref a] ∧ SqL K H a (vNs l) ∧ l.length ≤ 24 ∧ ∀ H', Same H H' → Q (.bl (isNetM n l)) H'
theorem isNetM_no {n : Nat} {l : List Nat} (h : ¬ (1 ≤ n ∧ n ≤ 7 ∧ l.length % 2 = 0 ∧ l.length ≤ 20)) : isNetM n l = false := by
  unfold isNetM
  rw [decide_eq_false h, Bool.false_and]
theorem isNetM_yes {n : Nat} {l : List Nat} (h : 1 ≤ n ∧ n ≤ 7 ∧ l.length % 2 = 0 ∧ l.length ≤ 20) : isNetM n l = (okL n [] (pairs2 l) && Ks536.joined ⟨n, pairs2 l⟩) := by
  unfold isNetM
  rw [decide_eq_true h, Bool.true_and]
structure TxtNet (K : PySem.W.Frag) (mg : Str → Option Value) (fL fA fE fH fD : Addr) (fdL fdA fdE fdH fdD : FuncData) : Prop where
  ml : mg "len" = none
  mr : mg "range" = none
  cP : ∃ t, mg "MOST_PLACES" = some (.int 7 t)
  cL : ∃ t, mg "MOST_LINKS" = some (.int 10 t)
  FL : Fun K "links_of" "links_of" sLinks fL fdL
  bL : Binds K fdL ["net"] []
  gL : mg "links_of" = some (.ref fL)
  FA : Fun K "are_links" "are_links" sAre fA fdA
  bA : Binds K fdA ["n", "links"] []
  gA : mg "are_links" = some (.ref fA)
  FE : Fun K "exits_of" "exits_of" sExits fE fdE
  bE : Binds K fdE ["n", "net"] []
  gE : mg "exits_of" = some (.ref fE)
  FH : Fun K "hangs_together" "hangs_together" sHangs fH fdH
  bH : Binds K fdH ["exits"] []
  gH : mg "hangs_together" = some (.ref fH)
  FD : Fun K "distances_from" "distances_from" sDist fD fdD
  bD : Binds K fdD ["start", "exits"] []
  gD : mg "distances_from" = some (.ref fD)
theorem ok_isNet {f fL fA fE fH fD : Addr} {fd fdL fdA fdE fdH fdD : FuncData} (F : Fun K "is_net" "is_net" sIsNet f fd) (T : TxtNet K mg fL fA fE fH fD fdL fdA fdE fdH fdD) : FnOk P w K mg base CX0 3 f fd ["n", "net"] (spIsNet K) := by
  have GL : FnOk P w K mg base CX0 1 fL fdL ["net"] (spLinks K) := ok_links T.FL T.mr T.ml
  have GA : FnOk P w K mg base CX0 1 fA fdA ["n", "links"] spAre := ok_are T.FA
  have GE : FnOk P w K mg base CX0 2 fE fdE ["n", "net"] (spExits K) := ok_exits T.FE T.FL T.bL T.gL T.mr T.ml
  have GH : FnOk P w K mg base CX0 2 fH fdH ["exits"] spHangs := ok_hangs T.FH T.FD T.bD T.gD T.ml
  refine F.ok scIsNet (fun vs H Q E h => ?_) (fun cdv A outer s H vs Q E hr h => ?_)
  · obtain ⟨n, a, l, rfl, _⟩ := h
    rfl
  · obtain ⟨n, a, l, rfl, hS, hlen, q⟩ := h
    have hr1 : Room 1 _ := hr.mono (by decide)
    obtain ⟨tp, cP⟩ := T.cP
    obtain ⟨tl, cL⟩ := T.cL
    refine ⟨_, pss_cons (ps_if (PW.pt (pw_or (pt_cmpR op_lt (pv 0) pe_int (nomark _)) (pw_or1 (pt_cmpR op_gt (pv 0) (pe_glob (v := .int 7) rfl cP ⟨_, rfl⟩) (nomark _))))) (pss_one (ps_ret pe_bl)) pss_nil)
      (pss_cons (ps_if (PW.pt (pw_or (pt_cmpR op_eq (pe_op op_mod (pe_callB call_len_seq (by rfl) T.ml PySem.boot_len (pa_cons (pv 1) pa_nil)) pe_int) pe_int (nomark _)) (pw_or1 (pt_cmpR op_gt (pe_callB call_len_seq (by rfl) T.ml PySem.boot_len (pa_cons (pv 1) pa_nil)) (pe_op op_mul pe_int (pe_glob (v := .int 10) rfl cL ⟨_, rfl⟩)) (nomark _))))) (pss_one (ps_ret pe_bl)) pss_nil)
      (pss_one (ps_ret (pe_and (pe_call GA hr1 rfl T.gA T.FA.kp T.bA .nil pass0 (pa_cons (pv 0) (pa_cons (pe_call GL hr1 rfl T.gL T.FL.kp T.bL .nil pass0 (pa_cons (pv 1) pa_nil)) pa_nil)))
        (pe_one (pe_call GH hr rfl T.gH T.FH.kp T.bH .nil pass0 (pa_cons (pe_call GE hr rfl T.gE T.FE.kp T.bE .nil pass0 (pa_cons (pv 0) (pa_cons (pv 1) pa_nil))) pa_nil))))))), ?_⟩
    have no : ¬ (1 ≤ n ∧ n ≤ 7 ∧ l.length % 2 = 0 ∧ l.length ≤ 20) → Q (.bl false) H := fun z => by
      have := q H (Same.refl H)
      rw [isNetM_no z] at this
      exact this
    -- n < 1 or n > MOST_PLACES
    refine ⟨_, rfl, _, _, rfl, rfl, _, rfl, ite2 (fun e => ?_) (fun e => ?_)⟩
    · exact no (fun z => by have := of_decide_eq_true e; omega)
    have n1 : 1 ≤ n := by
      have : ¬ ((n : Int) < 1) := fun z => e (decide_eq_true z)
      omega
    refine ⟨_, rfl, _, _, rfl, rfl, _, rfl, ite2 (fun e2 => ?_) (fun e2 => ?_)⟩
    · exact no (fun z => by have := of_decide_eq_true e2; omega)
    have n7 : n ≤ 7 := by
      have : ¬ ((7 : Int) < n) := fun z => e2 (decide_eq_true z)
      omega
    -- len(net) % 2 == 1 or len(net) > 2 * MOST_LINKS
    refine ⟨_, rfl, a, _, rfl, .inl hS, _, _, rfl, rfl, (by show (0 : Int) < 2; decide), rfl, _, rfl, ite2 (fun e3 => ?_) (fun e3 => ?_)⟩
    · refine no (fun z => ?_)
      have z2 := V.int.inj (of_decide_eq_true e3)
      rw [vNs_len] at z2
      omega
    have hev : l.length % 2 = 0 := by
      rcases Nat.mod_two_eq_zero_or_one l.length with z | z
      · exact z
      · refine absurd (decide_eq_true ?_) e3
        rw [vNs_len]
        exact congrArg V.int (by omega : ((l.length : Nat) : Int) % 2 = 1)
    refine ⟨_, rfl, a, _, rfl, .inl hS, _, _, rfl, rfl, .inl ⟨by decide, by decide⟩, _, _, rfl, rfl, _, rfl, ite2 (fun e4 => ?_) (fun e4 => ?_)⟩
    · refine no (fun z => ?_)
      have z2 := of_decide_eq_true e4
      rw [vNs_len] at z2
      omega
    have h20 : l.length ≤ 20 := by
      have z : ¬ ((2 : Int) * 10 < ((vNs l).length : Int)) := fun z => e4 (decide_eq_true z)
      rw [vNs_len] at z
      omega
    rw [isNetM_yes ⟨n1, n7, hev, h20⟩] at q
    -- are_links(n, links_of(net))
    refine ⟨_, rfl, _, rfl, a, l, rfl, hS, hev, hlen, fun H1 p sm1 hp hP => ?_⟩
    refine ⟨n, p, pairs2 l, rfl, hP, by rw [pairs2_len]; omega, fun H2 sm2 => ?_⟩
    refine ⟨_, rfl, ?_⟩
    cases hk : okL n [] (pairs2 l) with
    | false =>
      have := q H2 (sm1.trans sm2)
      rw [hk] at this
      exact iteF this
    | true =>
      refine iteT ?_
      rw [hk, Bool.true_and] at q
      have hg : goodL n (pairs2 l) := ((okL_iff n (pairs2 l) []).mp hk).1
      have sm12 := sm1.trans sm2
      refine ⟨_, rfl, _, rfl, n, a, l, rfl, sm12.seq hS, hev, hlen, n7, hg, fun H3 p3 sm3 hp3 hE => ?_⟩
      refine ⟨⟨n, pairs2 l⟩, p3, rfl, ?_, ⟨n7, hg, by show (pairs2 l).length ≤ 12; rw [pairs2_len]; omega⟩, n1, fun H4 sm4 => q H4 (sm12.trans (sm3.trans sm4))⟩
      rw [exits_eq n _ hg] at hE
      exact hE
end
end NP
namespace NP
open PySem PySem.Spec PyProof.Rows L2 NM
/-! ### behind_letter -/
theorem scBehind : FnScope ["place", "letter", "exits"] ["place", "letter", "exits"] (defScope sBehind) := ⟨rfl, rfl, rfl, by decide +kernel, rfl, by decide +kernel, by decide +kernel⟩
def spBehind : Sp := fun vs H Q _ => ∃ (t : Ks536.Net) (u x : Nat) (e : Addr), vs = [vN u, vN x, .ref e] ∧ ExitsAt H e (rowsOf t) ∧ u < t.n ∧ Q (vN (Ks536.go t u x)) H
section
variable {P : Program} {w : World} {K : PySem.W.Frag} {mg : Str → Option Value} {base : Heap}
theorem ok_behind {f : Addr} {fd : FuncData} (F : Fun K "behind_letter" "behind_letter" sBehind f fd) (ml : mg "len" = none) : FnOk P w K mg base CX0 1 f fd ["place", "letter", "exits"] spBehind := by
  refine F.ok scBehind (fun vs H Q E h => ?_) (fun cdv A outer s H vs Q E hr h => ?_)
  · obtain ⟨t, u, x, e, rfl, _⟩ := h
    rfl
  · obtain ⟨t, u, x, e, rfl, hE, hu, q⟩ := h
    refine ⟨_, pss_cons (ps_if (PW.pt (pw_or (pt_cmpR op_eq (pv 1) pe_int (nomark _)) (pw_or1 (pt_cmpR op_gt (pv 1) (pe_callB call_len_seq (by rfl) ml PySem.boot_len (pa_cons (pe_ix ix_list (pv 2) (pv 0) (fun _ _ => rfl)) pa_nil)) (nomark _))))) (pss_one (ps_ret (pv 0))) pss_nil)
      (pss_one (ps_ret (pe_ix ix_tup (pe_ix ix_list (pe_ix ix_list (pv 2) (pv 0) (fun _ _ => rfl)) (pe_op op_sub (pv 1) pe_int) (fun _ _ => rfl)) pe_int (fun _ _ => rfl)))), ?_⟩
    obtain ⟨rs, hrs, hpr⟩ := id hE
    obtain ⟨ra, hra, ts, hla, hta⟩ := pr_get hpr (rowsOf_at hu)
    have hl := Paired.length hta
    rw [go_eq] at q
    refine ⟨_, rfl, rfl, _, rfl, ite2 (fun e1 => ?_) (fun e1 => ?_)⟩
    · have e' : x = 0 := by
        have := V.int.inj (of_decide_eq_true e1)
        omega
      rw [if_pos (.inl e')] at q
      exact ⟨_, rfl, q⟩
    have x0 : ¬ x = 0 := fun z => e1 (decide_eq_true (by rw [z]; rfl))
    refine ⟨_, rfl, _, rfl, _, rfl, e, _, _, _, rfl, rfl, SqL.of hrs, atI_z (refs_at hra), ra, _, rfl, .inl (SqL.of hla), _, _, rfl, rfl, _, rfl, ?_⟩
    rw [List.length_map, hl]
    refine ite2 (fun e2 => ?_) (fun e2 => ?_)
    · have e' := of_decide_eq_true e2
      rw [if_pos (.inr (by omega))] at q
      exact ⟨_, rfl, q⟩
    have xl : ¬ (rowS t u).length < x := fun z => e2 (decide_eq_true (by omega : (((rowS t u).length : Nat) : Int) < (x : Int)))
    rw [if_neg (by intro z; rcases z with z | z; exact x0 z; exact xl z)] at q
    have hx : (rowS t u)[x - 1]? = some ((rowS t u).getD (x - 1) (0, 0)) := by
      rw [List.getD_eq_getElem?_getD, List.getElem?_eq_getElem (by omega)]
      rfl
    obtain ⟨tw, htw, htup⟩ := pr_get hta hx
    refine ⟨_, rfl, _, rfl, e, _, _, _, rfl, rfl, SqL.of hrs, atI_z (refs_at hra), _, rfl, _, _, rfl, rfl, ra, _, _, _, rfl, rfl, SqL.of hla, at_of (j := x - 1) (by omega) (refs_at htw), ?_⟩
    exact ⟨tw, _, _, _, rfl, rfl, SqT.of htup, atI_nat (j := 0) rfl, q⟩
end
end NP
namespace NP
open PySem PySem.Spec PyProof.Rows L2 NM
/-! ### what is due -/
theorem netOf_eq (n : Nat) (l : List Nat) : Ks536.netOf n l = if isNetM n l = true then some ⟨n, pairs2 l⟩ else none := by
  unfold Ks536.netOf
  by_cases c : n < 1 ∨ Ks536.NODES < n
  · rw [if_pos c, isNetM_no (by intro z; unfold Ks536.NODES at c; omega)]
    rfl
  · rw [if_neg c]
    unfold Ks536.NODES at c
    by_cases ev : l.length % 2 = 0
    · rw [linksOf_even l ev]
      simp only
      unfold Ks536.LINKS
      have hl := pairs2_len l
      by_cases c2 : 10 < (pairs2 l).length
      · rw [if_pos c2, isNetM_no (by omega)]
        rfl
      · rw [if_neg c2]
        have hh : 1 ≤ n ∧ n ≤ 7 ∧ l.length % 2 = 0 ∧ l.length ≤ 20 := by omega
        rw [isNetM_yes hh]
        have ok := okNet_iff n (pairs2 l)
        by_cases z : Ks536.okNet ⟨n, pairs2 l⟩ = true
        · obtain ⟨_, h1, h2⟩ := ok.mp z
          rw [if_pos z, h1, h2]
          rfl
        · rw [if_neg z]
          cases h1 : okL n [] (pairs2 l) with
          | false => rfl
          | true =>
            cases h2 : Ks536.joined ⟨n, pairs2 l⟩ with
            | false => rfl
            | true => exact absurd (ok.mpr ⟨⟨hh.1, hh.2.1, by omega⟩, h1, h2⟩) z
    · rw [linksOf_odd l (by omega), isNetM_no (by omega)]
      rfl
theorem two_no {n u v : Nat} {l : List Nat} {f : Ks536.Net → Ks537.Ans} (h : isNetM n l = false) : Ks537.two n u v l f = Ks537.no (-22) := by
  unfold Ks537.two Ks536.net
  rw [netOf_eq, h]
  rfl
theorem two_place {n u v : Nat} {l : List Nat} {f : Ks536.Net → Ks537.Ans} (h : isNetM n l = true) (c : n ≤ u ∨ n ≤ v) : Ks537.two n u v l f = Ks537.no (-2) := by
  unfold Ks537.two Ks536.net
  rw [netOf_eq, if_pos h]
  exact if_pos c
theorem two_yes {n u v : Nat} {l : List Nat} {f : Ks536.Net → Ks537.Ans} (h : isNetM n l = true) (c : ¬ (n ≤ u ∨ n ≤ v)) : Ks537.two n u v l f = f ⟨n, pairs2 l⟩ := by
  unfold Ks537.two Ks536.net
  rw [netOf_eq, if_pos h]
  exact if_neg c
theorem isNetM_good {n : Nat} {l : List Nat} (h : isNetM n l = true) : 1 ≤ n ∧ n ≤ 7 ∧ l.length % 2 = 0 ∧ l.length ≤ 20 ∧ goodL n (pairs2 l) ∧ Ks536.joined ⟨n, pairs2 l⟩ = true := by
  have hh : 1 ≤ n ∧ n ≤ 7 ∧ l.length % 2 = 0 ∧ l.length ≤ 20 := by
    refine Decidable.byContradiction fun z => ?_
    rw [isNetM_no z] at h
    cases h
  rw [isNetM_yes hh, Bool.and_eq_true] at h
  exact ⟨hh.1, hh.2.1, hh.2.2.1, hh.2.2.2, ((okL_iff n (pairs2 l) []).mp h.1).1, h.2⟩
theorem find_some {p : Nat → Bool} {m k : Nat} (hk : k < m) (hp : p k = true) (hn : ∀ j, j < k → p j = false) : (List.range m).find? p = some k := by
  rw [List.find?_range_eq_some]
  exact ⟨hp, by simpa using hk, fun j hj => by rw [hn j hj]; rfl⟩
theorem find_none {p : Nat → Bool} {m : Nat} (hn : ∀ j, j < m → p j = false) : (List.range m).find? p = none := by
  rw [List.find?_eq_none]
  intro x hx
  rw [hn x (List.mem_range.mp hx)]
  decide
end NP
namespace NP
open PySem PySem.Spec PyProof.Rows L2 NM
/-! ### the exits' lengths -/
def rLenS (K : PySem.W.Frag) : List V → Hp → VK → Prop := fun xs H Q => ∃ p ys, xs = [.ref p] ∧ (SqL K H p ys ∨ SqT K H p ys) ∧ Q (.int ys.length) H
theorem marksK_len (t : Ks536.Net) : ∀ k, (marksK t k).length = t.n
  | 0 => by
    show (marks0 t).length = t.n
    unfold marks0
    rw [List.length_map, List.length_range]
  | k + 1 => by
    show (marksM t (marksK t k)).length = t.n
    unfold marksM sightsM
    rw [List.length_map, List.length_map, List.length_range]
/-- the lengths of the first rows -/
theorem rows_lens {K : PySem.W.Frag} {H : Hp} {e : Addr} {t : Ks536.Net} (h : ExitsAt H e (rowsOf t)) : ∃ rs : List Addr, H e = some (.lst (rs.map V.ref)) ∧ rs.length = t.n ∧ ∀ i r, rs[i]? = some r → ∃ ts : List Addr, H r = some (.lst (ts.map V.ref)) ∧ ts.length = (rowS t i).length ∧ i < t.n := by
  obtain ⟨rs, h1, h2⟩ := h
  have hl := Paired.length h2
  rw [rowsOf_len] at hl
  refine ⟨rs, h1, hl, fun i r hr => ?_⟩
  have hi : i < t.n := by
    have := lt_of_at hr
    omega
  obtain ⟨row, hrow, ts, g1, g2⟩ := pr_getL h2 hr
  rw [rowsOf_at hi] at hrow
  have er := Option.some.inj hrow
  subst er
  exact ⟨ts, g1, Paired.length g2, hi⟩
end NP
namespace NP
open PySem PySem.Spec PyProof.Rows L2 NM
/-! ### most_exits -/
theorem scMost : FnScope ["exits", "ways"] ["exits"] (defScope sMost) := ⟨rfl, rfl, rfl, by decide +kernel, rfl, by decide +kernel, by decide +kernel⟩
def spMost : Sp := fun vs H Q _ => ∃ (t : Ks536.Net) (e : Addr), vs = [.ref e] ∧ ExitsAt H e (rowsOf t) ∧ netOk t ∧ 0 < t.n ∧
  ∀ H' m, Same H H' → Ks537.letters t = m + 1 → m ≤ 12 → Q (vN m) H'
section
variable {P : Program} {w : World} {K : PySem.W.Frag} {mg : Str → Option Value} {base : Heap}
theorem ok_most {f : Addr} {fd : FuncData} (F : Fun K "most_exits" "most_exits" sMost f fd) (ml : mg "len" = none) (mx : mg "max" = none) :
    FnOk P w K mg base CX0 1 f fd ["exits"] spMost := by
  refine F.ok scMost (fun vs H Q E h => ?_) (fun cdv A outer s H vs Q E hr h => ?_)
  · obtain ⟨t, e, rfl, _⟩ := h
    rfl
  · obtain ⟨t, e, rfl, hE, hok, hn0, q⟩ := h
    have hn7 := hok.1
    refine ⟨_, pss_one (ps_ret (pe_callB (cr_max rfl) (by rfl) mx (by decide +kernel) (pa_cons
        (pe_lc (own := [("ways", 1)]) (g := gName 1) (tt := tYes) (te := tCB (rLenS K) (tCons (tVar 1) tNil)) rfl scMost.nd (pi_list (pv 0))
          (blkOk_by (N := ["exits", "ways"]) (sc := defScope sMost) (by decide +kernel))
          (fun _ _ _ _ _ => pg_name (i := 1) scMost.nd rfl (Or.inl rfl)) (fun _ _ _ _ _ => pts_nil) (fun _ _ _ _ _ => pe_callB call_len_seq (by rfl) ml PySem.boot_len (pa_cons (pv 1) pa_nil))) pa_nil))), ?_⟩
    obtain ⟨rs, hrs, hrl, hrow⟩ := rows_lens (K := K) hE
    refine ⟨_, rfl, e, rfl, ⟨_, SqL.of hrs⟩, fun D hD => ?_⟩
    refine lc_list (K := K) (a := e) (xs := rs.map V.ref) (fun i Hc => Same H Hc ∧ Hc D = some (.lst (vNs ((marks0 t).take i)))) ⟨same_new hD, upd_same⟩ (fun i Hc _ ⟨sm, _⟩ => SqL.of (sm _ _ hrs)) ?_ ?_
    · rintro i x Hc hi ⟨sm, hd⟩
      obtain ⟨r, hr', rfl⟩ := refs_of hi
      obtain ⟨ts, g1, g2, hin⟩ := hrow i r hr'
      refine ⟨rfl, ?_⟩
      refine ⟨_, rfl, r, _, rfl, .inl (SqL.of (sm _ _ g1)), _, hd, ?_, ?_, ?_⟩
      · rw [vNs_len, List.length_take]
        exact sz _ (by omega)
      · intro b o eb
        rw [upd_ne (ne_of_none eb hD)]
        exact sm _ _ eb
      · have hat : (marks0 t)[i]? = some (rowS t i).length := by
          unfold marks0
          rw [List.getElem?_map, List.getElem?_range hin]
          rfl
        rw [upd_same, take_more hat]
        unfold vNs
        rw [List.map_append, List.length_map, g2]
        rfl
    rintro H1 ⟨sm1, hd1⟩
    have hm0 : (marks0 t).take (rs.map V.ref).length = marks0 t := List.take_of_length_le (by rw [List.length_map, hrl]; exact Nat.le_of_eq (marksK_len t 0))
    rw [hm0] at hd1
    have hm0l : (marks0 t).length = t.n := marksK_len t 0
    refine ⟨D, (marks0 t).map Int.ofNat, rfl, ?_, ?_, fun mi hmi hle => ?_⟩
    · have ev : ((marks0 t).map Int.ofNat).map V.int = vNs (marks0 t) := by
        rw [List.map_map]
        rfl
      rw [ev]
      exact SqL.of hd1
    · rw [List.length_map]
      omega
    obtain ⟨mE, hmE, rfl⟩ := List.mem_map.mp hmi
    have hlet : Ks537.letters t = mE + 1 := letters_of hmE (fun x hx => by
      have := hle (Int.ofNat x) (List.mem_map.mpr ⟨x, hx, rfl⟩)
      exact Int.ofNat_le.mp this)
    have hmE12 : mE ≤ 12 := by
      obtain ⟨p, _, hp⟩ := List.mem_map.mp hmE
      rw [← hp]
      exact Nat.le_trans (row_len (n := t.n) (ls := t.links)) hok.2.2
    exact q H1 mE sm1 hlet hmE12
end
end NP
namespace NP
open PySem PySem.Spec PyProof.Rows L2 NM
/-! ### tuples: t + (x,), t[1:] -/
theorem cat_any {K : PySem.W.Frag} {Q : VK} {H : Hp} {a b : Addr} {xs ys : List V} (ha : H a = some (.tup xs)) (hb : H b = some (.tup ys)) (hy : ys ≠ []) (hz : xs.length + ys.length ≤ sizeLine) (q : ∀ p H', Same H H' → H' p = some (.tup (xs ++ ys)) → Q (.ref p) H') :
    rCatA K (.ref a) (.ref b) H Q := by
  refine ⟨a, b, xs, ys, rfl, rfl, SqT.of ha, SqT.of hb, hz, fun e => ?_, fun _ z => absurd z hy, fun _ _ p hp => q p _ (same_new hp) upd_same⟩
  refine q b H (fun _ _ h => h) ?_
  rw [e]
  exact hb
theorem cut1 (xs : List V) : cutV xs (some 1) none = xs.drop 1 := by
  unfold cutV
  have e : HT.sIx xs.length 0 (some 1) = min 1 xs.length := HT.sIx_nat xs.length 0 1
  rw [e, HT.sIx_none]
  by_cases h : xs.length = 0
  · have : xs = [] := List.length_eq_zero_iff.mp h
    subst this
    rfl
  · have e2 : min 1 xs.length = 1 := by omega
    rw [e2, List.take_of_length_le]
    rw [List.length_drop]
    exact Nat.le_refl _
/-! ### state_one_step_on -/
theorem scStep : FnScope ["state", "letter", "d", "exits", "first", "waiting"] ["state", "letter", "d", "exits"] (defScope sStep) := ⟨rfl, rfl, rfl, by decide +kernel, rfl, by decide +kernel, by decide +kernel⟩
def spStep : Sp := fun vs H Q _ => ∃ (t : Ks536.Net) (s : Stand) (x d : Nat) (b e : Addr), vs = [.ref b, vN x, vN d, .ref e] ∧ StandAt H b s ∧ ExitsAt H e (rowsOf t) ∧ s.a < t.n ∧ s.b < t.n ∧ s.due.length ≤ 100 ∧
  ∀ H' p, Same H H' → StandAt H' p (Ks537.step t d s x) → Q (.ref p) H'
section
variable {P : Program} {w : World} {K : PySem.W.Frag} {mg : Str → Option Value} {base : Heap}
theorem ok_step {f fB : Addr} {fd fdB : FuncData} (F : Fun K "state_one_step_on" "state_one_step_on" sStep f fd) (FB : Fun K "behind_letter" "behind_letter" sBehind fB fdB) (bB : Binds K fdB ["place", "letter", "exits"] []) (gB : mg "behind_letter" = some (.ref fB)) (ml : mg "len" = none) :
    FnOk P w K mg base CX0 2 f fd ["state", "letter", "d", "exits"] spStep := by
  have GB : FnOk P w K mg base CX0 1 fB fdB ["place", "letter", "exits"] spBehind := ok_behind FB ml
  refine F.ok scStep (fun vs H Q E h => ?_) (fun cdv A outer s H vs Q E hr h => ?_)
  · obtain ⟨t, st, x, d, b, e, rfl, _⟩ := h
    rfl
  · obtain ⟨t, st, x, d, b, e, rfl, hb, hE, ha, hbn, hdl, q⟩ := h
    refine ⟨_, pss_cons (ps_set (i := 4) scStep.nd rfl (Or.inl rfl) (pe_call GB hr rfl gB FB.kp bB .nil pass0 (pa_cons (pe_ix ix_tup (pv 0) pe_int (fun _ _ => rfl)) (pa_cons (pv 1) (pa_cons (pv 3) pa_nil)))))
      (pss_cons (ps_set (i := 5) scStep.nd rfl (Or.inl rfl) (pe_op op_catA (pe_ix ix_tup (pv 0) pe_int (fun _ _ => rfl)) (pe_tup (pa_cons (pv 1) pa_nil))))
      (pss_cons (ps_if (pt_cmpR op_le (pe_callB call_len_seq (by rfl) ml PySem.boot_len (pa_cons (pv 5) pa_nil)) (pv 2) (nomark _))
        (pss_one (ps_ret (pe_tup (pa_cons (pv 4) (pa_cons (pe_ix ix_tup (pv 0) pe_int (fun _ _ => rfl)) (pa_cons (pv 5) pa_nil)))))) pss_nil)
      (pss_one (ps_ret (pe_tup (pa_cons (pv 4) (pa_cons (pe_call GB hr rfl gB FB.kp bB .nil pass0 (pa_cons (pe_ix ix_tup (pv 0) pe_int (fun _ _ => rfl)) (pa_cons (pe_ix ix_tup (pv 5) pe_int (fun _ _ => rfl)) (pa_cons (pv 3) pa_nil))))
        (pa_cons (pe_slice sl_tupA (pv 5) (po_some pe_int) po_none) pa_nil)))))))), ?_⟩
    obtain ⟨qd, hb1, hq1⟩ := id hb
    -- first
    refine ⟨_, rfl, b, _, _, vN st.a, rfl, rfl, SqT.of hb1, atI_nat (j := 0) rfl, _, rfl, _, rfl, t, st.a, x, e, rfl, hE, ha, ?_⟩
    -- waiting
    refine ⟨_, rfl, b, _, _, .ref qd, rfl, rfl, SqT.of hb1, atI_nat (j := 2) rfl, _, rfl, szl 1 (by omega), fun t1 ht1 => ?_⟩
    have s1 : Same H (upd H t1 (.tup [vN x])) := same_new ht1
    refine cat_any (s1 _ _ hq1) upd_same (fun z => nomatch z) ?_ fun wt Hw smw hw => ?_
    · rw [vNs_len]
      exact szl _ (by simp only [List.length_cons, List.length_nil]; omega)
    have sw := s1.trans smw
    have ew : vNs st.due ++ [vN x] = vNs (st.due ++ [x]) := by
      unfold vNs
      rw [List.map_append]
      rfl
    rw [ew] at hw
    have hlw : (st.due ++ [x]).length = st.due.length + 1 := by simp
    -- if len(waiting) <= d
    refine ⟨_, rfl, wt, _, rfl, .inr (SqT.of hw), _, rfl, _, _, rfl, rfl, _, rfl, ?_⟩
    rw [vNs_len]
    refine ite2 (fun ec => ?_) (fun ec => ?_)
    · have hc : (st.due ++ [x]).length ≤ d := by
        have := of_decide_eq_true ec
        omega
      refine ⟨_, rfl, _, rfl, b, _, _, vN st.b, rfl, rfl, SqT.of (sw _ _ hb1), atI_nat (j := 1) rfl, _, rfl, szl 3 (by omega), fun p hp => q _ p (sw.trans (same_new hp)) ?_⟩
      unfold Ks537.step
      simp only
      rw [if_pos hc]
      exact ⟨wt, upd_same, same_new hp _ _ hw⟩
    · have hc : ¬ (st.due ++ [x]).length ≤ d := fun z => ec (decide_eq_true (by omega : (((st.due ++ [x]).length : Nat) : Int) ≤ (d : Int)))
      obtain ⟨y, r, ey⟩ : ∃ y r, st.due ++ [x] = y :: r := by
        cases hc' : st.due ++ [x] with
        | nil => rw [hc'] at hlw; simp at hlw
        | cons y r => exact ⟨y, r, rfl⟩
      have estep : Ks537.step t d st x = ⟨Ks536.go t st.a x, Ks536.go t st.b y, r⟩ := by
        unfold Ks537.step
        simp only
        rw [if_neg hc, ey]
        rfl
      rw [estep] at q
      rw [ey] at hw
      refine ⟨_, rfl, _, rfl, b, _, _, vN st.b, rfl, rfl, SqT.of (sw _ _ hb1), atI_nat (j := 1) rfl, _, rfl, wt, _, _, vN y, rfl, rfl, SqT.of hw, atI_nat (j := 0) rfl, _, rfl, t, st.b, y, e, rfl, Same.exits sw hE, hbn, ?_⟩
      -- waiting[1:]
      refine ⟨_, rfl, _, rfl, wt, _, rfl, SqT.of hw, fun z => ?_, fun _ p2 hp2 => ?_⟩
      · exfalso
        have z1 := z.1
        have e1 : HT.sIx (vNs (y :: r)).length 0 (some 1) = min 1 (vNs (y :: r)).length := HT.sIx_nat _ 0 1
        rw [vNs_len] at e1
        have z2 : HT.sIx (vNs (y :: r)).length 0 (some 1) = 0 := z1
        rw [vNs_len, e1, List.length_cons] at z2
        omega
      have s2 : Same Hw (upd Hw p2 (.tup (cutV (vNs (y :: r)) (some 1) none))) := same_new hp2
      refine ⟨szl 3 (by omega), fun p hp => q _ p ((sw.trans s2).trans (same_new hp)) ⟨p2, upd_same, ?_⟩⟩
      refine same_new hp _ _ ?_
      rw [upd_same, cut1]
      rfl
end
end NP
namespace NP
open PySem PySem.Spec PyProof.Rows L2 NM
/-! ### a dict of states with words -/
/-- a state, its word's list, not the one at r -/
def WG (r : Addr) (H : Hp) : EN → (Stand × List Nat) → Prop := fun x y => x.1 = y.1 ∧ H x.2.2 = some (.lst (vNs y.2)) ∧ x.2.2 ≠ r
theorem wg_keep {r : Addr} {H H' : Hp} {es : List EN} {S : SW} (h : Paired (WG r H) es S) (k : ∀ p xs, p ≠ r → H p = some (.lst xs) → H' p = some (.lst xs)) : Paired (WG r H') es S :=
  L2.Paired.mapP h fun _ _ z => ⟨z.1, k _ _ z.2.2 z.2.1, z.2.2⟩
theorem wg_same {r : Addr} {H H' : Hp} {es : List EN} {S : SW} (h : Paired (WG r H) es S) (s : Same H H') : Paired (WG r H') es S := wg_keep h fun p xs _ z => s _ _ z
theorem wg_states {r : Addr} {H : Hp} : ∀ {es : List EN} {S : SW}, Paired (WG r H) es S → es.map (·.1) = S.map (·.1)
  | _, _, .nil => rfl
  | _, _, .cons h t => by rw [List.map_cons, List.map_cons, h.1, wg_states t]
theorem wg_some {r : Addr} {H : Hp} {q : Stand} : ∀ {es : List EN} {S : SW}, Paired (WG r H) es S → (finS es q).isSome = S.any fun y => y.1 == q
  | _, _, .nil => rfl
  | _, _, .cons (a := x) (b := y) h t => by
    have ih := wg_some (q := q) t
    unfold finS at ih ⊢
    rw [List.find?_cons, List.any_cons]
    by_cases e : x.1 = q
    · rw [decide_eq_true e]
      have : (y.1 == q) = true := by rw [beq_iff_eq, ← h.1]; exact e
      rw [this]
      rfl
    · rw [decide_eq_false e]
      have : (y.1 == q) = false := by rw [beq_eq_false_iff_ne, ← h.1]; exact e
      rw [this, Bool.false_or]
      exact ih
theorem wg_get {r : Addr} {H : Hp} : ∀ {es : List EN} {S : SW}, Paired (WG r H) es S → (S.map (·.1)).Nodup → ∀ (i : Nat) (y : Stand × List Nat), S[i]? = some y → ∃ x, finS es y.1 = some x ∧ WG r H x y
  | _, _, .nil, _, i, y, h => by simp at h
  | _, _, .cons (a := x) (b := z) h t, nd, 0, y, hy => by
    have e := Option.some.inj hy
    subst e
    refine ⟨x, ?_, h⟩
    unfold finS
    rw [List.find?_cons, decide_eq_true h.1]
  | _, _, .cons (a := x) (b := z) h t, nd, i + 1, y, hy => by
    have hn := List.nodup_cons.mp nd
    have hy' := hy
    rw [List.getElem?_cons_succ] at hy'
    obtain ⟨v, h1, h2⟩ := wg_get t hn.2 i y hy'
    refine ⟨v, ?_, h2⟩
    unfold finS at h1 ⊢
    rw [List.find?_cons, decide_eq_false]
    · exact h1
    · intro e
      refine hn.1 ?_
      show z.1 ∈ _
      rw [← h.1, e]
      exact List.mem_map.mpr ⟨y, List.mem_of_getElem? hy', rfl⟩
/-- the i-th state of a dict -/
theorem wg_at {P : Program} {w : World} {H : Hp} {r dd : Addr} {es : List EN} {S : SW} (D : DNAt P w H dd es) (h : Paired (WG r H) es S) {i : Nat} {v : V} (hv : ((es.map fun x => x.2.1).map V.ref)[i]? = some v) :
    ∃ (b : Addr) (y : Stand × List Nat), v = .ref b ∧ S[i]? = some y ∧ StandAt H b y.1 := by
  rw [List.getElem?_map, List.getElem?_map] at hv
  cases hx : es[i]? with
  | none => rw [hx] at hv; cases hv
  | some x =>
    rw [hx] at hv
    have ev : V.ref x.2.1 = v := Option.some.inj hv
    obtain ⟨y, hy, hw⟩ := pr_getL h hx
    refine ⟨x.2.1, y, ev.symm, hy, ?_⟩
    have := D.ks x (List.mem_of_getElem? hx)
    rw [hw.1] at this
    exact this
theorem hu9_of {A : Around} {k : Nat} (hr : Room k A) : A.units + 9 < cLine := by
  have := hr.un
  omega
theorem szm (n : Nat) (h : n ≤ 16000000) : n < sizeLine := Nat.lt_of_le_of_lt h (by decide)
/-! ### words_to_states -/
theorem scWords : FnScope ["u", "v", "d", "exits", "start", "words", "reached", "at", "state", "letter", "onward"] ["u", "v", "d", "exits"] (defScope sWords) := ⟨rfl, rfl, rfl, by decide +kernel, rfl, by decide +kernel, by decide +kernel⟩
def spWords (P : Program) (w : World) : Sp := fun vs H Q _ => ∃ (t : Ks536.Net) (u v d : Nat) (e : Addr), vs = [vN u, vN v, vN d, .ref e] ∧ ExitsAt H e (rowsOf t) ∧ netOk t ∧ u < t.n ∧ v < t.n ∧ d ≤ 2 ∧
  ∀ H' dd r j es, Same H H' → (stS t d u v j).length ≤ j → DNAt P w H' dd es → Paired (WG r H') es (stS t d u v j) → Q (.ref dd) H'
section
variable {P : Program} {w : World} {K : PySem.W.Frag} {mg : Str → Option Value} {base : Heap}
theorem ok_words {f fB fM fS : Addr} {fd fdB fdM fdS : FuncData} (F : Fun K "words_to_states" "words_to_states" sWords f fd) (FB : Fun K "behind_letter" "behind_letter" sBehind fB fdB) (bB : Binds K fdB ["place", "letter", "exits"] []) (gB : mg "behind_letter" = some (.ref fB))
    (FM : Fun K "most_exits" "most_exits" sMost fM fdM) (bM : Binds K fdM ["exits"] []) (gM : mg "most_exits" = some (.ref fM)) (FS : Fun K "state_one_step_on" "state_one_step_on" sStep fS fdS) (bS : Binds K fdS ["state", "letter", "d", "exits"] []) (gS : mg "state_one_step_on" = some (.ref fS))
    (mr : mg "range" = none) (ml : mg "len" = none) (mx : mg "max" = none) :
    FnOk P w K mg base CX0 3 f fd ["u", "v", "d", "exits"] (spWords P w) := by
  have GM : FnOk P w K mg base CX0 1 fM fdM ["exits"] spMost := ok_most FM ml mx
  have GS : FnOk P w K mg base CX0 2 fS fdS ["state", "letter", "d", "exits"] spStep := ok_step FS FB bB gB ml
  refine F.ok scWords (fun vs H Q E h => ?_) (fun cdv A outer s H vs Q E hr h => ?_)
  · obtain ⟨t, u, v, d, e, rfl, _⟩ := h
    rfl
  · obtain ⟨t, u, v, d, e, rfl, hE, hok, hut, hvt, hd2, q⟩ := h
    have hn7 := hok.1
    have hg := hok.2.1
    have hu9 := hu9_of hr
    have hr1 := hr.mono (show 1 ≤ 2 by decide)
    refine ⟨_, pss_cons (ps_set (i := 4) scWords.nd rfl (Or.inl rfl) (pe_tup (pa_cons (pv 0) (pa_cons (pv 1) (pa_cons (pe_tup pa_nil) pa_nil)))))
      (pss_cons (ps_set (i := 5) scWords.nd rfl (Or.inl rfl) (pe_disp1N (P := P) (w := w) rfl rfl hu9 (pv 4) (pe_lst pa_nil)))
      (pss_cons (ps_set (i := 6) scWords.nd rfl (Or.inl rfl) (pe_lst (pa_cons (pv 4) pa_nil)))
      (pss_cons (ps_set (i := 7) scWords.nd rfl (Or.inl rfl) pe_int)
      (pss_cons (ps_while PassesOwn.never (pt_cmpR op_lt (pv 7) (pe_callB call_len_seq (by rfl) ml PySem.boot_len (pa_cons (pv 6) pa_nil)) (nomark _))
        (pss_cons (ps_set (i := 8) scWords.nd rfl (Or.inl rfl) (pe_ix ix_list (pv 6) (pv 7) (fun _ _ => rfl)))
        (pss_cons (ps_for PassesOwn.never rfl (pi_range1 rfl mr (pa_cons (pe_op op_add (pe_call GM hr1 rfl gM FM.kp bM .nil pass0 (pa_cons (pv 3) pa_nil)) pe_int) pa_nil)) (pg_name (i := 9) scWords.nd rfl (Or.inl rfl))
          (pss_cons (ps_set (i := 10) scWords.nd rfl (Or.inl rfl) (pe_call GS hr rfl gS FS.kp bS .nil pass0 (pa_cons (pv 8) (pa_cons (pv 9) (pa_cons (pv 2) (pa_cons (pv 3) pa_nil))))))
          (pss_one (ps_if (pt_cmp (pc_nnotin (P := P) (w := w) rfl rfl hu9 (pv 10) (pv 5)))
            (pss_cons (ps_nput (P := P) (w := w) rfl rfl hu9 (pv 5) (pv 10) (pe_op op_cat (pe_nget (P := P) (w := w) rfl rfl hu9 (pv 5) (pv 8) (fun _ _ => rfl)) (pe_lst (pa_cons (pv 9) pa_nil))) rfl)
            (pss_one (ps_expr (pe_bm PySem.F.plainAttrs_list PySem.F.slot_list_append PySem.F.type_list_append mt_append (pv 6) (pa_cons (pv 10) pa_nil)))))
            pss_nil))))
        (pss_one (ps_aug (i := 7) scWords.nd rfl (Or.inl rfl) pe_int ip_add)))))
      (pss_one (ps_ret (pv 5))))))), ?_⟩
    -- start = (u, v, ())
    refine ⟨_, rfl, _, rfl, szl 0 (by omega), fun t0 ht0 => ⟨szl 3 (by omega), fun t1 ht1 => ?_⟩⟩
    have s1 : Same H (upd (upd H t0 (.tup [])) t1 (.tup [vN u, vN v, .ref t0])) := (same_new ht0).trans (same_new ht1)
    have hst : StandAt (upd (upd H t0 (.tup [])) t1 (.tup [vN u, vN v, .ref t0])) t1 ⟨u, v, []⟩ := ⟨t0, upd_same, same_new ht1 _ _ upd_same⟩
    generalize upd (upd H t0 (.tup [])) t1 (.tup [vN u, vN v, .ref t0]) = H1 at s1 hst
    -- words = {start: []}
    refine fun dd hdd => ⟨_, rfl, szl 0 (by omega), fun p0 hp0 => ?_⟩
    have s2 : Same H1 (upd H1 dd (DN P w dd [])) := same_new hdd
    have s3 : Same (upd H1 dd (DN P w dd [])) (upd (upd H1 dd (DN P w dd [])) p0 (.lst [])) := same_new hp0
    have hst3 : StandAt (upd (upd H1 dd (DN P w dd [])) p0 (.lst [])) t1 ⟨u, v, []⟩ := stand_keep (fun c ys h => s3 _ _ (s2 _ _ h)) hst
    refine ⟨t1, p0, ⟨u, v, []⟩, rfl, rfl, s3 _ _ upd_same, hst3, fun hsys => ?_⟩
    have ndp : p0 ≠ dd := Ne.symm (ne_of_none upd_same hp0)
    have hddH : H dd = none := s1.free hdd
    have kT1 : ∀ c ys, H1 c = some (.tup ys) → (upd (upd (upd H1 dd (DN P w dd [])) p0 (.lst [])) dd (DN P w dd [(⟨u, v, []⟩, t1, p0)])) c = some (.tup ys) := fun c ys h => by
      rw [upd_ne (ne_of_none h hdd)]
      exact s3 _ _ (s2 _ _ h)
    have hS2 : Same H (upd (upd (upd H1 dd (DN P w dd [])) p0 (.lst [])) dd (DN P w dd [(⟨u, v, []⟩, t1, p0)])) := fun b o eb => by
      rw [upd_ne (ne_of_none eb hddH)]
      exact s3 _ _ (s2 _ _ (s1 _ _ eb))
    have hp03 : (upd (upd (upd H1 dd (DN P w dd [])) p0 (.lst [])) dd (DN P w dd [(⟨u, v, []⟩, t1, p0)])) p0 = some (.lst []) := by
      rw [upd_ne ndp]
      exact upd_same
    have D3 : DNAt P w (upd (upd (upd H1 dd (DN P w dd [])) p0 (.lst [])) dd (DN P w dd [(⟨u, v, []⟩, t1, p0)])) dd [(⟨u, v, []⟩, t1, p0)] :=
      ⟨upd_same, fun x hx => by
        have ex : x = (⟨u, v, []⟩, t1, p0) := by simpa using hx
        rw [ex]
        exact stand_keep kT1 hst, by simp, hsys, by show 1 ≤ 16000000; decide⟩
    generalize upd (upd (upd H1 dd (DN P w dd [])) p0 (.lst [])) dd (DN P w dd [(⟨u, v, []⟩, t1, p0)]) = H2 at hS2 hp03 D3
    clear kT1 hst3 s3 s2 hst s1
    -- reached = [start]
    refine ⟨_, rfl, szl 1 (by omega), fun r hr' => ?_⟩
    have sB : Same H2 (upd H2 r (.lst [.ref t1])) := same_new hr'
    have hrH : H r = none := hS2.free hr'
    have npr : p0 ≠ r := ne_of_none hp03 hr'
    have ndr : dd ≠ r := ne_of_none D3.at_ hr'
    have hU := univS_len (t := t) (d := d) hn7 (letters_le hok.2.2) hd2
    -- while
    refine ⟨fun m σ Hc => ∃ a x8 x9 x10, σ = [some (vN u), some (vN v), some (vN d), some (.ref e), some (.ref t1), some (.ref dd), some (.ref r), some (vN a), x8, x9, x10] ∧ m = (univS t d).length - a ∧ Same H Hc ∧ a ≤ (stS t d u v a).length ∧
        (∃ es : List EN, DNAt P w Hc dd es ∧ Paired (WG r Hc) es (stS t d u v a) ∧ Hc r = some (.lst ((es.map fun x => x.2.1).map V.ref))),
      ⟨(univS t d).length, 0, none, none, none, rfl, rfl, hS2.trans sB, Nat.zero_le _, [(⟨u, v, []⟩, t1, p0)], dn_same D3 sB, .cons ⟨rfl, sB _ _ hp03, npr⟩ .nil, upd_same⟩, ?_⟩
    clear sB npr
    rintro m σ Hc ⟨a, x8, x9, x10, rfl, rfl, sm, haS, es, DD, hWG, hrc⟩
    have BB0 := bq_BB (f := Ks537.step t d) (L := Ks537.letters t) (s0 := ⟨u, v, []⟩) a
    have hSok := stS_ok (t := t) (d := d) hg hut hvt a
    have hSl := sw_len BB0.nd hSok
    have hel := Paired.length hWG
    -- at < len(reached)
    refine ⟨_, rfl, _, rfl, r, _, rfl, .inl (SqL.of hrc), _, _, rfl, rfl, _, rfl, ?_⟩
    rw [List.length_map, List.length_map, hel]
    refine ite2 (fun ec => ?_) (fun ec => ?_)
    · have ha : a < (stS t d u v a).length := by
        have := of_decide_eq_true ec
        omega
      have haU : a < (univS t d).length := Nat.lt_of_lt_of_le ha hSl
      obtain ⟨p, hp⟩ : ∃ p, (stS t d u v a)[a]? = some p := ⟨_, List.getElem?_eq_getElem ha⟩
      have T0 : BT (Ks537.step t d) (Ks537.letters t) ⟨u, v, []⟩ a p (stS t d u v a) := BB0.turn hp
      have hpl := hSok p (List.mem_of_getElem? hp)
      obtain ⟨x0, hx0, hw0⟩ := pr_get hWG hp
      have hk0 : StandAt Hc x0.2.1 p.1 := by
        have := DD.ks x0 (List.mem_of_getElem? hx0)
        rw [hw0.1] at this
        exact this
      refine ⟨fun σ' H' => ∃ x8 x9 x10, σ' = [some (vN u), some (vN v), some (vN d), some (.ref e), some (.ref t1), some (.ref dd), some (.ref r), some (vN (a + 1)), x8, x9, x10] ∧ Same H H' ∧ a + 1 ≤ (stS t d u v (a + 1)).length ∧
        (∃ es : List EN, DNAt P w H' dd es ∧ Paired (WG r H') es (stS t d u v (a + 1)) ∧ H' r = some (.lst ((es.map fun x => x.2.1).map V.ref))), ?_, ?_⟩
      · rintro σ' H' ⟨y8, y9, y10, rfl, sm', h1, h2⟩
        exact ⟨(univS t d).length - (a + 1), by omega, a + 1, y8, y9, y10, rfl, rfl, sm', h1, h2⟩
      -- state = reached[at]
      have hat : ((es.map fun x => x.2.1).map V.ref)[a]? = some (.ref x0.2.1) := by
        rw [List.getElem?_map, List.getElem?_map, hx0]
        rfl
      refine ⟨_, rfl, _, rfl, r, _, _, _, rfl, rfl, SqL.of hrc, atI_z hat, ?_⟩
      generalize x0.2.1 = b at hk0
      -- for letter in range(most_exits(exits) + 1)
      refine ⟨_, rfl, t, e, rfl, Same.exits sm hE, hok, by omega, fun Hm mE smM hlet hmE => ?_⟩
      have smm := sm.trans smM
      have hkm : StandAt Hm b p.1 := stand_keep (fun c ys h => smM _ _ h) hk0
      refine ⟨_, _, rfl, rfl, (mE : Int) + 1, rfl, by omega, by omega, ?_⟩
      refine for_range (lo := 0) (n := ((mE : Int) + 1).toNat) (fun j σ Hc => ∃ x9 x10, σ = [some (vN u), some (vN v), some (vN d), some (.ref e), some (.ref t1), some (.ref dd), some (.ref r), some (vN a), some (.ref b), x9, x10] ∧ Same H Hc ∧ StandAt Hc b p.1 ∧
          (∃ es : List EN, DNAt P w Hc dd es ∧ Paired (WG r Hc) es ((List.range j).foldl (bput (Ks537.step t d) p) (stS t d u v a)) ∧ Hc r = some (.lst ((es.map fun x => x.2.1).map V.ref))))
        ⟨x9, x10, rfl, smm, hkm, es, dn_same DD smM, wg_same hWG smM, smM _ _ hrc⟩ ?_ ?_
      · clear hat hkm smm smM hk0 hw0 hx0 hel hrc hWG DD sm
        clear es
        rintro j σ Hj hj ⟨y9, y10, rfl, smj, hbj, es, DD, hWG, hrj⟩
        have e0 : V.int ((0 : Int) + (j : Int)) = vN j := by
          rw [Int.zero_add]
          rfl
        rw [e0]
        have hjL : j < Ks537.letters t := by rw [hlet]; omega
        have hS := BT.fold (List.range j) (fun x hx => by have := List.mem_range.mp hx; omega) T0
        have hSo : ∀ r ∈ (List.range j).foldl (bput (Ks537.step t d) p) (stS t d u v a), okSt t d r.1 := fun y hy => by
          obtain ⟨e1, hl⟩ := hS.rn y hy
          rw [← e1]
          exact runB_inv (P := okSt t d) (fun s x h hx => okSt_step hg h hx) ⟨hut, hvt, Nat.zero_le _, fun x hx => by simp at hx⟩ y.2 hl
        have hstep : (List.range (j + 1)).foldl (bput (Ks537.step t d) p) (stS t d u v a) = bput (Ks537.step t d) p ((List.range j).foldl (bput (Ks537.step t d) p) (stS t d u v a)) j := by
          rw [List.range_succ, List.foldl_append]
          rfl
        rw [hstep]
        generalize (List.range j).foldl (bput (Ks537.step t d) p) (stS t d u v a) = S at hS hSo hWG
        have hSlen := sw_len hS.nd hSo
        have hel := Paired.length hWG
        -- onward = state_one_step_on(state, letter, d, exits)
        refine ⟨_, rfl, _, rfl, _, rfl, _, rfl, t, p.1, j, d, b, e, rfl, hbj, Same.exits smj hE, hpl.1, hpl.2.1, by have := hpl.2.2.1; omega, fun H3 t2 sT ht2 => ?_⟩
        have sm2 := smj.trans sT
        have hb2 := stand_keep (fun c ys h => sT _ _ h) hbj
        have DD2 := dn_same DD sT
        have hWG2 := wg_same hWG sT
        have hr2 := sT _ _ hrj
        -- if onward not in words
        refine ⟨_, rfl, _, rfl, dd, t2, Ks537.step t d p.1 j, es, rfl, rfl, DD2, ht2, _, rfl, ?_⟩
        have hany := wg_some (q := Ks537.step t d p.1 j) hWG2
        unfold bput
        cases hf : finS es (Ks537.step t d p.1 j) with
        | some x =>
          rw [hf] at hany
          have hany' : (S.any fun y => y.1 == Ks537.step t d p.1 j) = true := hany.symm
          rw [if_pos hany']
          exact ⟨some (vN j), some (.ref t2), rfl, sm2, hb2, es, DD2, hWG2, hr2⟩
        | none =>
          rw [hf] at hany
          have hany' : (S.any fun y => y.1 == Ks537.step t d p.1 j) = false := hany.symm
          rw [if_neg (by rw [hany']; decide)]
          obtain ⟨x1, hx1, hw1⟩ := wg_get hWG2 hS.nd a p hS.at_
          have hix := hS.ix a p hS.at_
          -- words[state] + [letter]
          refine ⟨_, rfl, _, rfl, dd, b, p.1, es, x1, rfl, rfl, DD2, hb2, hx1, _, rfl, szl 1 (by omega), fun l1 hl1 => ?_⟩
          have hpw1 := same_new (o := .lst [vN j]) hl1 _ _ hw1.2.1
          refine ⟨x1.2.2, l1, _, _, rfl, rfl, hpw1, upd_same, ?_, fun nw hnw => ?_⟩
          · rw [vNs_len]
            exact Nat.le_of_lt (szm _ (by simp only [List.length_cons, List.length_nil]; omega))
          have sN : Same H3 (upd (upd H3 l1 (.lst [vN j])) nw (.lst (vNs p.2 ++ [vN j]))) := (same_new hl1).trans (same_new hnw)
          have nnr : nw ≠ r := Ne.symm (ne_of_none (same_new (o := .lst [vN j]) hl1 _ _ hr2) hnw)
          have hw4 : (upd (upd H3 l1 (.lst [vN j])) nw (.lst (vNs p.2 ++ [vN j]))) nw = some (.lst (vNs (p.2 ++ [j]))) := by
            rw [upd_same]
            unfold vNs
            rw [List.map_append]
            rfl
          generalize upd (upd H3 l1 (.lst [vN j])) nw (.lst (vNs p.2 ++ [vN j])) = H4 at sN hw4
          have DD4 := dn_same DD2 sN
          have ht4 := stand_keep (fun c ys h => sN _ _ h) ht2
          have hr4 : H4 r = some (.lst ((es.map fun x => x.2.1).map V.ref)) := sN _ _ hr2
          -- words[onward] = ..
          refine ⟨_, rfl, _, rfl, dd, t2, nw, Ks537.step t d p.1 j, es, rfl, rfl, rfl, DD4, ht4, hf, ?_⟩
          have hr5 : (upd H4 dd (DN P w dd (es ++ [(Ks537.step t d p.1 j, t2, nw)]))) r = some (.lst ((es.map fun x => x.2.1).map V.ref)) := by
            rw [upd_ne (Ne.symm ndr)]
            exact hr4
          -- reached.append(onward)
          refine ⟨_, rfl, .inl ⟨rfl, _, SqL.of hr5⟩, _, rfl, r, _, _, rfl, rfl, hr5, ?_, ?_⟩
          · rw [List.length_map, List.length_map, hel]
            exact szm _ (by omega)
          have kT : ∀ c ys, H4 c = some (.tup ys) → (upd (upd H4 dd (DN P w dd (es ++ [(Ks537.step t d p.1 j, t2, nw)]))) r (.lst ((es.map fun x => x.2.1).map V.ref ++ [.ref t2]))) c = some (.tup ys) := fun c ys h => by
            rw [upd_ne (ne_of h hr4 (fun z => nomatch z)), upd_ne (ne_of h DD4.at_ (fun z => nomatch z))]
            exact h
          have kL : ∀ c xs, c ≠ r → H4 c = some (.lst xs) → (upd (upd H4 dd (DN P w dd (es ++ [(Ks537.step t d p.1 j, t2, nw)]))) r (.lst ((es.map fun x => x.2.1).map V.ref ++ [.ref t2]))) c = some (.lst xs) := fun c xs hc h => by
            rw [upd_ne hc, upd_ne (ne_of h DD4.at_ (fun z => nomatch z))]
            exact h
          refine ⟨some (vN j), some (.ref t2), rfl, fun c o h => ?_, stand_keep kT (stand_keep (fun c ys h => sN _ _ h) hb2), es ++ [(Ks537.step t d p.1 j, t2, nw)], ⟨?_, ?_, ?_, DD4.sm, ?_⟩, ?_, ?_⟩
          · rw [upd_ne (ne_of_none h hrH), upd_ne (ne_of_none h hddH)]
            exact sN _ _ (sm2 _ _ h)
          · rw [upd_ne ndr, upd_same]
          · intro x hx
            rcases List.mem_append.mp hx with z | z
            · exact stand_keep kT (DD4.ks x z)
            · have ex : x = (Ks537.step t d p.1 j, t2, nw) := by simpa using z
              rw [ex]
              exact stand_keep kT ht4
          · rw [List.map_append, List.nodup_append]
            refine ⟨DD4.nd, by simp, fun y hy z hz ez => ?_⟩
            have hz' : z = Ks537.step t d p.1 j := by simpa using hz
            rw [wg_states hWG2, ez, hz'] at hy
            obtain ⟨y2, hy2, ey2⟩ := List.mem_map.mp hy
            have : (S.any fun y => y.1 == Ks537.step t d p.1 j) = true := List.any_eq_true.mpr ⟨y2, hy2, beq_iff_eq.mpr ey2⟩
            rw [hany'] at this
            cases this
          · rw [List.length_append, hel]
            show S.length + 1 ≤ 16000000
            omega
          · refine Paired.snoc (wg_keep (wg_same hWG2 sN) kL) ?_
            exact ⟨rfl, kL _ _ nnr hw4, nnr⟩
          · rw [upd_same, List.map_append, List.map_append]
            rfl
      · rintro σ Hj ⟨y9, y10, rfl, smj, hbj, hw⟩
        have en : ((mE : Int) + 1).toNat = Ks537.letters t := by
          rw [hlet]
          omega
        rw [en] at hw
        have eq : (List.range (Ks537.letters t)).foldl (bput (Ks537.step t d) p) (stS t d u v a) = stS t d u v (a + 1) := (bq_some hp).symm
        rw [eq] at hw
        refine ⟨_, rfl, _, _, rfl, rfl, _, y9, y10, rfl, smj, ?_, hw⟩
        have := bq_len_le (f := Ks537.step t d) (L := Ks537.letters t) (s0 := ⟨u, v, []⟩) (Nat.le_succ a)
        exact Nat.le_trans ha this
    · -- return words
      have hge : (stS t d u v a).length ≤ a := by
        have z : ¬ ((a : Int) < ((stS t d u v a).length : Int)) := fun z => ec (decide_eq_true z)
        omega
      exact ⟨_, rfl, q Hc dd r a es sm hge DD hWG⟩
end
structure TxtWords (K : PySem.W.Frag) (mg : Str → Option Value) (fB fW fM fS : Addr) (fdB fdW fdM fdS : FuncData) : Prop where
  mx : mg "max" = none
  ms : mg "list" = none
  FB : Fun K "behind_letter" "behind_letter" sBehind fB fdB
  bB : Binds K fdB ["place", "letter", "exits"] []
  gB : mg "behind_letter" = some (.ref fB)
  FW : Fun K "words_to_states" "words_to_states" sWords fW fdW
  bW : Binds K fdW ["u", "v", "d", "exits"] []
  gW : mg "words_to_states" = some (.ref fW)
  FM : Fun K "most_exits" "most_exits" sMost fM fdM
  bM : Binds K fdM ["exits"] []
  gM : mg "most_exits" = some (.ref fM)
  FS : Fun K "state_one_step_on" "state_one_step_on" sStep fS fdS
  bS : Binds K fdS ["state", "letter", "d", "exits"] []
  gS : mg "state_one_step_on" = some (.ref fS)
def farS (t : Ks536.Net) (y : Stand × List Nat) : Nat := Ks537.far t (y.1.a, y.1.b)
end NP
namespace NP
open PySem PySem.Spec PyProof.Rows L2 NM
theorem idx_le {α : Type} [BEq α] [LawfulBEq α] : ∀ {l : List α} {a : α} {k : Nat}, l[k]? = some a → l.idxOf a ≤ k
  | [], a, k, h => by simp at h
  | x :: r, a, 0, h => by
    have e := Option.some.inj h
    rw [← e, List.idxOf_cons_self]
    exact Nat.le_refl _
  | x :: r, a, k + 1, h => by
    have ih := idx_le (l := r) (a := a) (k := k) h
    rw [List.idxOf_cons]
    cases x == a with
    | true => exact Nat.zero_le _
    | false => exact Nat.succ_le_succ ih
/-! ### sights as data -/
def pD (p : Nat × Nat) : PyData := .tuple [.int p.1, .int p.2]
def sD (s : Sight) : PyData := .tuple [.int s.1, .list (s.2.map pD)]
theorem pDs_eqv : ∀ l m : List (Nat × Nat), PyData.eqvAll (l.map pD) (m.map pD) = decide (l = m)
  | [], [] => by simp [PyData.eqvAll]
  | [], b :: r => by simp [PyData.eqvAll]
  | a :: r, [] => by simp [PyData.eqvAll]
  | (a, b) :: r, (c, d) :: s => by
    have ih := pDs_eqv r s
    rw [List.map_cons, List.map_cons]
    simp only [PyData.eqvAll, ih, pD, PyData.eqv]
    by_cases h1 : a = c
    · by_cases h2 : b = d
      · subst h1 h2
        simp
      · have q : ((b : Int) == (d : Int)) = false := beq_eq_false_iff_ne.mpr (by omega)
        simp [q, h2]
    · have q : ((a : Int) == (c : Int)) = false := beq_eq_false_iff_ne.mpr (by omega)
      simp [q, h1]
theorem sD_eqv (s s' : Sight) : PyData.eqv (sD s) (sD s') = decide (s = s') := by
  obtain ⟨a, l⟩ := s
  obtain ⟨b, m⟩ := s'
  simp only [sD, PyData.eqv, PyData.eqvAll, pDs_eqv]
  by_cases h1 : a = b
  · subst h1
    simp
  · have q : ((a : Int) == (b : Int)) = false := beq_eq_false_iff_ne.mpr (by omega)
    simp [q, h1]
theorem pDs_lay : ∀ l : List (Nat × Nat), PyData.canLayAll0 (l.map pD) = true ∧ PyData.depthAll (l.map pD) ≤ 1
  | [] => by simp [PyData.canLayAll0, PyData.depthAll]
  | p :: r => by
    have ih := pDs_lay r
    have h1 : (pD p).canLay0 = true := by simp [pD, PyData.canLay0, PyData.canLayAll0]
    have h2 : (pD p).depth = 1 := by simp [pD, PyData.depth, PyData.depthAll]
    rw [List.map_cons]
    simp only [PyData.canLayAll0, PyData.depthAll, h1, ih.1, Bool.and_self, true_and]
    have := ih.2
    omega
theorem sD_lay (s : Sight) : (sD s).canLay0 = true ∧ (sD s).depth ≤ 3 := by
  have h := pDs_lay s.2
  constructor
  · simp [sD, PyData.canLay0, PyData.canLayAll0, h.1]
  · simp only [sD, PyData.depth, PyData.depthAll]
    have := h.2
    omega
theorem sDs_lay : ∀ l : List Sight, PyData.canLayAll0 (l.map sD) = true ∧ PyData.depthAll (l.map sD) ≤ 3
  | [] => by simp [PyData.canLayAll0, PyData.depthAll]
  | s :: r => by
    have ih := sDs_lay r
    have h := sD_lay s
    rw [List.map_cons]
    simp only [PyData.canLayAll0, PyData.depthAll, h.1, ih.1, Bool.and_self, true_and]
    have := ih.2
    have := h.2
    omega
theorem sD_shaped (s : Sight) : SeqAt.shaped (sD s) = true := by
  have h := sD_lay s
  show ((sD s).canLay0 && decide ((sD s).depth ≤ 64)) = true
  rw [Bool.and_eq_true]
  exact ⟨h.1, decide_eq_true (by omega)⟩
theorem sDs_shaped (l : List Sight) : SeqAt.shaped (.list (l.map sD)) = true := by
  have h := sDs_lay l
  show (PyData.canLay0 (.list (l.map sD)) && decide (PyData.depth (.list (l.map sD)) ≤ 64)) = true
  rw [Bool.and_eq_true]
  refine ⟨by simp only [PyData.canLay0]; exact h.1, decide_eq_true ?_⟩
  simp only [PyData.depth]
  omega
def SightAt (H : Hp) (q : Addr) (s : Sight) : Prop := ∃ lp, H q = some (.tup [vN s.1, .ref lp]) ∧ PairsAt H lp s.2
theorem Same.sight {H H' : Hp} {q : Addr} {s : Sight} (e : Same H H') (h : SightAt H q s) : SightAt H' q s := by
  obtain ⟨lp, h1, h2⟩ := h
  exact ⟨lp, e _ _ h1, Same.pairs e h2⟩
theorem dp_pairs {K : PySem.W.Frag} {H : Hp} : ∀ {ts : List Addr} {l : List (Nat × Nat)}, Paired (TupAt H) ts l → DpAll K H (ts.map V.ref) (l.map pD)
  | _, _, .nil => .nil
  | _, _, .cons h t => .cons (.tup (SqT.of h) (.cons (.int _) (.cons (.int _) .nil))) (dp_pairs t)
theorem dp_sight {K : PySem.W.Frag} {H : Hp} {q : Addr} {s : Sight} (h : SightAt H q s) : Dp K H (.ref q) (sD s) := by
  obtain ⟨lp, h1, ts, h2, h3⟩ := h
  exact .tup (SqT.of h1) (.cons (.int _) (.cons (.lst (SqL.of h2) (dp_pairs h3)) .nil))
theorem dp_sights {K : PySem.W.Frag} {H : Hp} : ∀ {qs : List Addr} {l : List Sight}, Paired (SightAt H) qs l → DpAll K H (qs.map V.ref) (l.map sD)
  | _, _, .nil => .nil
  | _, _, .cons h t => .cons (dp_sight h) (dp_sights t)
/-! ### sight_from -/
theorem scSight : FnScope ["place", "marks", "exits", "there", "came_in"] ["place", "marks", "exits"] (defScope sSight) := ⟨rfl, rfl, rfl, by decide +kernel, rfl, by decide +kernel, by decide +kernel⟩
def spSight : Sp := fun vs H Q _ => ∃ (t : Ks536.Net) (p : Nat) (m e : Addr) (mk : List Nat), vs = [vN p, .ref m, .ref e] ∧ H m = some (.lst (vNs mk)) ∧ mk.length = t.n ∧ ExitsAt H e (rowsOf t) ∧ netOk t ∧ p < t.n ∧
  ∀ H' q lp, Same H H' → H q = none → H lp = none → H' q = some (.tup [vN (sightM t mk p).1, .ref lp]) → PairsAt H' lp (sightM t mk p).2 → Q (.ref q) H'
/-- a sight whose list is not the one at D -/
def SightN (D : Addr) (H : Hp) (q : Addr) (s : Sight) : Prop := ∃ lp, H q = some (.tup [vN s.1, .ref lp]) ∧ PairsAt H lp s.2 ∧ lp ≠ D
theorem sightN_upd {D : Addr} {H H' : Hp} {q : Addr} {s : Sight} {xs ys : List V} (e : Same H H') (hd : H' D = some (.lst xs)) (h : SightN D H q s) : SightN D (upd H' D (.lst ys)) q s := by
  obtain ⟨lp, h1, ⟨tp, g1, g2⟩, h3⟩ := h
  have h1' := e _ _ h1
  refine ⟨lp, by rw [upd_ne (ne_of h1' hd (fun z => nomatch z))]; exact h1', ⟨tp, by rw [upd_ne h3]; exact e _ _ g1, L2.Paired.mapP g2 fun x y zz => ?_⟩, h3⟩
  have zz' := e _ _ zz
  unfold TupAt
  rw [upd_ne (ne_of zz' hd (fun z => nomatch z))]
  exact zz'
theorem SightN.at {D : Addr} {H : Hp} {q : Addr} {s : Sight} (h : SightN D H q s) : SightAt H q s := by
  obtain ⟨lp, h1, h2, _⟩ := h
  exact ⟨lp, h1, h2⟩
section
variable {P : Program} {w : World} {K : PySem.W.Frag} {mg : Str → Option Value} {base : Heap}
theorem ok_sight {f : Addr} {fd : FuncData} (F : Fun K "sight_from" "sight_from" sSight f fd) : FnOk P w K mg base CX0 1 f fd ["place", "marks", "exits"] spSight := by
  refine F.ok scSight (fun vs H Q E h => ?_) (fun cdv A outer s H vs Q E hr h => ?_)
  · obtain ⟨t, p, m, e, mk, rfl, _⟩ := h
    rfl
  · obtain ⟨t, p, m, e, mk, rfl, hm, hml, hE, ⟨hn7, hg, hl12⟩, hp, q⟩ := h
    refine ⟨_, pss_one (ps_ret (pe_tup (pa_cons (pe_ix ix_list (pv 1) (pv 0) (fun _ _ => rfl)) (pa_cons
      (pe_lc (own := [("there", 3), ("came_in", 4)]) (g := gTup K 2 (gCons (gName 3) (gCons (gName 4) gNil))) (tt := tYes) (te := tTup (tCons (tVar 4) (tCons (tOp (rIxL K) (tVar 1) (tVar 3)) tNil))) rfl scSight.nd
        (pi_list (pe_ix ix_list (pv 2) (pv 0) (fun _ _ => rfl))) (blkOk_by (N := ["place", "marks", "exits", "there", "came_in"]) (sc := defScope sSight) (by decide +kernel))
        (fun _ _ _ _ _ => pg_tup rfl (pgs_cons (pg_name (i := 3) scSight.nd rfl (Or.inl rfl)) (pgs_cons (pg_name (i := 4) scSight.nd rfl (Or.inl rfl)) pgs_nil))) (fun _ _ _ _ _ => pts_nil)
        (fun _ _ _ _ _ => pe_tup (pa_cons (pv 4) (pa_cons (pe_ix ix_list (pv 1) (pv 3) (fun _ _ => rfl)) pa_nil)))) pa_nil)))), ?_⟩
    have mkat : ∀ x, x < t.n → (vNs mk)[x]? = some (vN (mk.getD x 0)) := fun x hx => vNs_at (by rw [List.getD_eq_getElem?_getD, List.getElem?_eq_getElem (by omega)]; rfl)
    obtain ⟨rs, hrs, hpr⟩ := id hE
    obtain ⟨ra, hra, ts, hla, hta⟩ := pr_get hpr (rowsOf_at hp)
    have hal := Paired.length hta
    have hrow : (rowS t p).length ≤ 12 := Nat.le_trans (row_len (n := t.n) (ls := t.links)) hl12
    refine ⟨_, rfl, _, rfl, m, _, _, _, rfl, rfl, SqL.of hm, atI_z (mkat p hp), ?_⟩
    refine ⟨_, rfl, _, rfl, e, _, _, _, rfl, rfl, SqL.of hrs, atI_z (refs_at hra), ra, rfl, ⟨_, SqL.of hla⟩, fun D hD => ?_⟩
    refine lc_list (K := K) (a := ra) (xs := ts.map V.ref) (fun i Hc => ∃ us : List Addr, Same H Hc ∧ Hc D = some (.lst (us.map V.ref)) ∧ Paired (TupAt Hc) us (((rowS t p).take i).map fun w => (w.2, mk.getD w.1 0)))
      ⟨[], same_new hD, upd_same, .nil⟩ (fun i Hc _ ⟨_, sm, _⟩ => SqL.of (sm _ _ hla)) ?_ ?_
    · rintro i x Hc hi ⟨us, sm, hd, hp'⟩
      obtain ⟨tw, htw, rfl⟩ := refs_of hi
      obtain ⟨⟨y, c⟩, hyc, htup⟩ := pr_getL hta htw
      have hyt : y < t.n := row_in hg hyc
      have hil := lt_of_at hyc
      refine ⟨tw, [vN y, vN c], rfl, SqT.of (sm _ _ htup), rfl, vN y, [vN c], rfl, vN c, [], rfl, rfl, rfl, ?_⟩
      refine ⟨_, rfl, _, rfl, _, rfl, m, _, _, _, rfl, rfl, SqL.of (sm _ _ hm), atI_z (mkat y hyt), szl 2 (by omega), fun t1 ht1 => ?_⟩
      have nD : D ≠ t1 := ne_of_none hd ht1
      refine ⟨us.map V.ref, by rw [upd_ne nD]; exact hd, ?_, us ++ [t1], ?_, ?_, ?_⟩
      · rw [List.length_map, Paired.length hp', List.length_map, List.length_take]
        exact sz _ (by omega)
      · intro b o eb
        rw [upd_ne (ne_of_none eb hD)]
        exact same_new ht1 _ _ (sm _ _ eb)
      · rw [upd_same, List.map_append]
        rfl
      · rw [take_more hyc, List.map_append]
        refine Paired.snoc (L2.Paired.mapP hp' fun b z hz => ?_) ?_
        · unfold TupAt at hz ⊢
          rw [upd_ne (ne_of hz hd (fun z => nomatch z)), upd_ne (ne_of_none hz ht1)]
          exact hz
        · unfold TupAt
          rw [upd_ne (Ne.symm nD), upd_same]
    · rintro Hc ⟨us, sm, hd, hp'⟩
      refine ⟨szl 2 (by omega), fun q0 hq0 => ?_⟩
      have sm2 : Same Hc (upd Hc q0 (.tup [vN (mk.getD p 0), .ref D])) := same_new hq0
      rw [List.length_map, hal, List.take_length] at hp'
      exact q _ q0 D (sm.trans sm2) (sm.free hq0) hD upd_same (Same.pairs sm2 ⟨us, hd, hp'⟩)
/-! ### marks_one_step_on -/
theorem scMarks : FnScope ["marks", "exits", "sights", "place", "sight"] ["marks", "exits"] (defScope sMarks) := ⟨rfl, rfl, rfl, by decide +kernel, rfl, by decide +kernel, by decide +kernel⟩
def spMarks : Sp := fun vs H Q _ => ∃ (t : Ks536.Net) (m e : Addr) (mk : List Nat), vs = [.ref m, .ref e] ∧ H m = some (.lst (vNs mk)) ∧ mk.length = t.n ∧ ExitsAt H e (rowsOf t) ∧ netOk t ∧
  ∀ H' q, Same H H' → H' q = some (.lst (vNs (marksM t mk))) → Q (.ref q) H'
theorem ok_marks {f fS : Addr} {fd fdS : FuncData} (F : Fun K "marks_one_step_on" "marks_one_step_on" sMarks f fd) (FS : Fun K "sight_from" "sight_from" sSight fS fdS) (bS : Binds K fdS ["place", "marks", "exits"] []) (gS : mg "sight_from" = some (.ref fS)) (mr : mg "range" = none) (ml : mg "len" = none) :
    FnOk P w K mg base CX0 2 f fd ["marks", "exits"] spMarks := by
  have GS : FnOk P w K mg base CX0 1 fS fdS ["place", "marks", "exits"] spSight := ok_sight FS
  refine F.ok scMarks (fun vs H Q E h => ?_) (fun cdv A outer s H vs Q E hr h => ?_)
  · obtain ⟨t, m, e, mk, rfl, _⟩ := h
    rfl
  · obtain ⟨t, m, e, mk, rfl, hm, hml, hE, hok, q⟩ := h
    have hn7 := hok.1
    have hu : (A.deeper (envOfC "marks_one_step_on" (defScope sMarks) s.heap.objs.size f cdv)).units + 65 < cLine := by
      have := hr.un
      omega
    refine ⟨_, pss_cons (ps_set (i := 2) scMarks.nd rfl (Or.inr rfl) (pe_lc (own := [("place", 3)]) (g := gName 3) (tt := tYes) (te := tCall spSight [] E0 (tCons (tVar 3) (tCons (tVar 0) (tCons (tVar 1) tNil)))) rfl scMarks.nd
        (pi_range1 rfl mr (pa_cons (pe_callB call_len_seq (by rfl) ml PySem.boot_len (pa_cons (pv 1) pa_nil)) pa_nil)) (blkOk_by (N := ["marks", "exits", "sights", "place", "sight"]) (sc := defScope sMarks) (by decide +kernel))
        (fun _ _ _ _ _ => pg_name (i := 3) scMarks.nd rfl (Or.inl rfl)) (fun _ _ _ _ _ => pts_nil)
        (fun _ _ _ _ _ => pe_call GS hr rfl gS FS.kp bS .nil pass0 (pa_cons (pv 3) (pa_cons (pv 0) (pa_cons (pv 1) pa_nil))))))
      (pss_one (ps_ret (pe_lc (own := [("sight", 4)]) (g := gName 4) (tt := tYes) (te := tBM K "list" (rIndexD K) (tVar 2) (tCons (tVar 4) tNil)) rfl scMarks.nd
        (pi_list (pv 2)) (blkOk_by (N := ["marks", "exits", "sights", "place", "sight"]) (sc := defScope sMarks) (by decide +kernel))
        (fun _ _ _ _ _ => pg_name (i := 4) scMarks.nd rfl (Or.inl rfl)) (fun _ _ _ _ _ => pts_nil)
        (fun _ _ _ _ _ => pe_bm PySem.F.plainAttrs_list PySem.F.slot_list_index PySem.F.type_list_index (mt_indexD hu) (pv 2) (pa_cons (pv 4) pa_nil))))), ?_⟩
    obtain ⟨rs, hrs, hpr⟩ := id hE
    have hrl := Paired.length hpr
    rw [rowsOf_len] at hrl
    refine ⟨_, rfl, e, _, rfl, .inl (SqL.of hrs), _, rfl, ?_, ?_, fun D hD => ?_⟩
    · rw [List.length_map]
      omega
    · rw [List.length_map]
      omega
    refine lc_range (lo := 0) (n := ((((rs.map V.ref).length : Nat) : Int)).toNat) (fun i Hc => ∃ qs : List Addr, Same H Hc ∧ Hc D = some (.lst (qs.map V.ref)) ∧ Paired (SightN D Hc) qs ((sightsM t mk).take i)) ⟨[], same_new hD, upd_same, .nil⟩ ?_ ?_
    · rintro i Hc hi ⟨qs, sm, hd, hp⟩
      rw [List.length_map] at hi
      have hin : i < t.n := by omega
      refine ⟨rfl, ?_⟩
      refine ⟨_, rfl, _, rfl, _, rfl, t, i, m, e, mk, ?_, sm _ _ hm, hml, Same.exits sm hE, hok, hin, fun H2 q2 lp2 sm2 hq2 hlp2 hS2 hP2 => ?_⟩
      · show [V.int (0 + (i : Int)), .ref m, .ref e] = _
        rw [Int.zero_add]
        rfl
      have hd2 := sm2 _ _ hd
      have nq : D ≠ q2 := ne_of_none hd hq2
      refine ⟨qs.map V.ref, hd2, ?_, qs ++ [q2], ?_, ?_, ?_⟩
      · rw [List.length_map, Paired.length hp, List.length_take]
        unfold sightsM
        rw [List.length_map, List.length_range]
        exact sz _ (by omega)
      · intro b o eb
        rw [upd_ne (ne_of_none eb hD)]
        exact sm2 _ _ (sm _ _ eb)
      · rw [upd_same, List.map_append]
        rfl
      · have hat : (sightsM t mk)[i]? = some (sightM t mk i) := by
          unfold sightsM
          rw [List.getElem?_map, List.getElem?_range hin]
          rfl
        rw [take_more hat]
        refine Paired.snoc (L2.Paired.mapP hp fun b z hz => sightN_upd sm2 hd2 hz) ?_
        exact sightN_upd (D := D) (H := H2) (Same.refl _) hd2 ⟨lp2, hS2, hP2, Ne.symm (ne_of_none hd hlp2)⟩
    · rintro H1 ⟨qs, sm1, hd1, hp1⟩
      have hsl : (sightsM t mk).length = t.n := by
        unfold sightsM
        rw [List.length_map, List.length_range]
      rw [List.take_of_length_le (by rw [List.length_map]; omega)] at hp1
      have hql := Paired.length hp1
      have hS1 : Paired (SightAt H1) qs (sightsM t mk) := L2.Paired.mapP hp1 fun _ _ z => z.at
      refine ⟨_, rfl, D, rfl, ⟨_, SqL.of hd1⟩, fun D2 hD2 => ?_⟩
      refine lc_list (K := K) (a := D) (xs := qs.map V.ref) (fun i Hc => Same H1 Hc ∧ Hc D2 = some (.lst (vNs (((sightsM t mk).take i).map fun s => (sightsM t mk).idxOf s))))
        ⟨same_new hD2, upd_same⟩ (fun i Hc _ ⟨sm, _⟩ => SqL.of (sm _ _ hd1)) ?_ ?_
      · rintro i x Hc hi ⟨sm, hd2⟩
        obtain ⟨q0, hq0, rfl⟩ := refs_of hi
        obtain ⟨sg, hsg, hat⟩ := pr_getL hS1 hq0
        have hSc : Paired (SightAt Hc) qs (sightsM t mk) := L2.Paired.mapP hS1 fun _ _ z => Same.sight sm z
        have hmem := List.mem_of_getElem? hsg
        have hix := List.idxOf_lt_length_of_mem hmem
        refine ⟨rfl, ?_⟩
        refine ⟨_, rfl, .inl ⟨rfl, _, SqL.of (sm _ _ hd1)⟩, _, rfl, ?_⟩
        refine ⟨D, .ref q0, sD sg, (sightsM t mk).map sD, (sightsM t mk).idxOf sg, sD sg, rfl, rfl, .lst (SqL.of (sm _ _ hd1)) (dp_sights hSc), dp_sight (Same.sight sm hat), sDs_shaped _, sD_shaped _, ?_, ?_, ?_, ?_⟩
        · rw [List.getElem?_map, List.getElem?_eq_getElem hix, List.getElem_idxOf hix]
          rfl
        · rw [sD_eqv]
          exact decide_eq_true rfl
        · intro k z hk hz
          rw [List.getElem?_map] at hz
          cases hz' : (sightsM t mk)[k]? with
          | none =>
            rw [hz'] at hz
            cases hz
          | some s' =>
            rw [hz'] at hz
            have ez := Option.some.inj hz
            rw [← ez, sD_eqv]
            refine decide_eq_false fun eq => ?_
            subst eq
            have := idx_le hz'
            omega
        · refine ⟨_, hd2, ?_, ?_, ?_⟩
          · rw [vNs_len, List.length_map, List.length_take]
            exact sz _ (by omega)
          · intro b o eb
            rw [upd_ne (ne_of_none eb hD2)]
            exact sm _ _ eb
          · rw [upd_same, take_more hsg]
            unfold vNs
            rw [List.map_append, List.map_append]
            rfl
      · rintro Hc ⟨sm, hd2⟩
        rw [List.length_map, hql, List.take_length] at hd2
        exact q Hc D2 (sm1.trans sm) hd2
end
end NP
namespace NP
open PySem PySem.Spec PyProof.Rows L2 NM
/-! ### alike -/
theorem scAlike : FnScope ["u", "v", "exits", "marks", "step", "ways"] ["u", "v", "exits"] (defScope sAlike) := ⟨rfl, rfl, rfl, by decide +kernel, rfl, by decide +kernel, by decide +kernel⟩
def spAlike : Sp := fun vs H Q _ => ∃ (t : Ks536.Net) (u v : Nat) (e : Addr), vs = [vN u, vN v, .ref e] ∧ ExitsAt H e (rowsOf t) ∧ netOk t ∧ u < t.n ∧ v < t.n ∧ ∀ H', Same H H' → Q (.bl (Ks536.alike t u v)) H'
section
variable {P : Program} {w : World} {K : PySem.W.Frag} {mg : Str → Option Value} {base : Heap}
theorem ok_alike {f fM fS : Addr} {fd fdM fdS : FuncData} (F : Fun K "alike" "alike" sAlike f fd) (FM : Fun K "marks_one_step_on" "marks_one_step_on" sMarks fM fdM) (bM : Binds K fdM ["marks", "exits"] []) (gM : mg "marks_one_step_on" = some (.ref fM))
    (FS : Fun K "sight_from" "sight_from" sSight fS fdS) (bS : Binds K fdS ["place", "marks", "exits"] []) (gS : mg "sight_from" = some (.ref fS)) (mr : mg "range" = none) (ml : mg "len" = none) :
    FnOk P w K mg base CX0 3 f fd ["u", "v", "exits"] spAlike := by
  have GM : FnOk P w K mg base CX0 2 fM fdM ["marks", "exits"] spMarks := ok_marks FM FS bS gS mr ml
  refine F.ok scAlike (fun vs H Q E h => ?_) (fun cdv A outer s H vs Q E hr h => ?_)
  · obtain ⟨t, u, v, e, rfl, _⟩ := h
    rfl
  · obtain ⟨t, u, v, e, rfl, hE, hok, hut, hvt, q⟩ := h
    have hn7 := hok.1
    refine ⟨_, pss_cons (ps_setLc (i := 3) (own := [("ways", 5)]) (g := gName 5) (tt := tYes) (te := tCB (rLenS K) (tCons (tVar 5) tNil)) rfl scAlike.nd rfl rfl (sw_true rfl rfl rfl (by decide +kernel))
        (pi_list (pv 2)) (blkOk_by (N := ["u", "v", "exits", "marks", "step", "ways"]) (sc := defScope sAlike) (by decide +kernel))
        (fun _ _ _ _ _ => pg_name (i := 5) scAlike.nd rfl (Or.inl rfl)) (fun _ _ _ _ _ => pts_nil) (fun _ _ _ _ _ => pe_callB call_len_seq (by rfl) ml PySem.boot_len (pa_cons (pv 5) pa_nil)))
      (pss_cons (ps_for PassesOwn.never rfl (pi_range1 rfl mr (pa_cons (pe_callB call_len_seq (by rfl) ml PySem.boot_len (pa_cons (pv 2) pa_nil)) pa_nil)) (pg_name (i := 4) scAlike.nd rfl (Or.inl rfl))
        (pss_one (ps_set (i := 3) scAlike.nd rfl (Or.inl rfl) (pe_call GM hr rfl gM FM.kp bM .nil pass0 (pa_cons (pv 3) (pa_cons (pv 2) pa_nil))))))
      (pss_one (ps_ret (pe_cmpR op_eq (pe_ix ix_list (pv 3) (pv 0) (fun _ _ => rfl)) (pe_ix ix_list (pv 3) (pv 1) (fun _ _ => rfl)) (nomark _))))), ?_⟩
    obtain ⟨rs, hrs, hrl, hrow⟩ := rows_lens (K := K) hE
    refine ⟨_, rfl, e, rfl, ⟨_, SqL.of hrs⟩, fun D hD => ?_⟩
    refine lc_list (K := K) (a := e) (xs := rs.map V.ref) (fun i Hc => Same H Hc ∧ Hc D = some (.lst (vNs ((marks0 t).take i)))) ⟨same_new hD, upd_same⟩ (fun i Hc _ ⟨sm, _⟩ => SqL.of (sm _ _ hrs)) ?_ ?_
    · rintro i x Hc hi ⟨sm, hd⟩
      obtain ⟨r, hr', rfl⟩ := refs_of hi
      obtain ⟨ts, g1, g2, hin⟩ := hrow i r hr'
      refine ⟨rfl, ?_⟩
      refine ⟨_, rfl, r, _, rfl, .inl (SqL.of (sm _ _ g1)), _, hd, ?_, ?_, ?_⟩
      · rw [vNs_len, List.length_take]
        exact sz _ (by omega)
      · intro b o eb
        rw [upd_ne (ne_of_none eb hD)]
        exact sm _ _ eb
      · have hat : (marks0 t)[i]? = some (rowS t i).length := by
          unfold marks0
          rw [List.getElem?_map, List.getElem?_range hin]
          rfl
        rw [upd_same, take_more hat]
        unfold vNs
        rw [List.map_append, List.length_map, g2]
        rfl
    · rintro H1 ⟨sm1, hd1⟩
      have hm0 : (marks0 t).take (rs.map V.ref).length = marks0 t := List.take_of_length_le (by rw [List.length_map, hrl]; exact Nat.le_of_eq (marksK_len t 0))
      rw [hm0] at hd1
      refine ⟨_, rfl, e, _, rfl, .inl (SqL.of (sm1 _ _ hrs)), _, rfl, ?_, ?_, ?_⟩
      · rw [List.length_map]
        omega
      · rw [List.length_map]
        omega
      refine for_range (lo := 0) (n := ((((rs.map V.ref).length : Nat) : Int)).toNat) (fun i σ Hc => ∃ m x4, σ = [some (vN u), some (vN v), some (.ref e), some (.ref m), x4, none] ∧ Same H Hc ∧ Hc m = some (.lst (vNs (marksK t i))))
        ⟨D, none, rfl, sm1, hd1⟩ ?_ ?_
      · rintro i σ Hc hi ⟨m, x4, rfl, sm, hm⟩
        refine ⟨_, rfl, _, rfl, t, m, e, _, rfl, hm, marksK_len t i, Same.exits sm hE, hok, fun H2 q2 sm2 hq2 => ?_⟩
        exact ⟨q2, _, rfl, sm.trans sm2, hq2⟩
      · rintro σ Hc ⟨m, x4, rfl, sm, hm⟩
        have en : ((((rs.map V.ref).length : Nat) : Int)).toNat = t.n := by
          rw [List.length_map, hrl]
          omega
        rw [en] at hm
        have hat : ∀ x, x < t.n → (vNs (marksK t t.n))[x]? = some (vN (mkAt t t.n x)) := fun x hx => vNs_at (by
          show (marksK t t.n)[x]? = some ((marksK t t.n).getD x 0)
          rw [List.getD_eq_getElem?_getD, List.getElem?_eq_getElem (by rw [marksK_len]; exact hx)]
          rfl)
        refine ⟨_, rfl, _, rfl, m, _, _, _, rfl, rfl, SqL.of hm, atI_z (hat u hut), _, rfl, _, rfl, m, _, _, _, rfl, rfl, SqL.of hm, atI_z (hat v hvt), rfl, ?_⟩
        have ea : decide (vN (mkAt t t.n u) = vN (mkAt t t.n v)) = Ks536.alike t u v := by
          have j := alike_iff hok.2.1 (by omega : 1 ≤ t.n) hut hvt
          by_cases c : mkAt t t.n u = mkAt t t.n v
          · rw [j.mpr c, c]
            exact decide_eq_true rfl
          · have : Ks536.alike t u v = false := by
              cases z : Ks536.alike t u v with
              | false => rfl
              | true => exact absurd (j.mp z) c
            rw [this]
            exact decide_eq_false fun z => c (vN_inj z)
        rw [ea]
        exact q Hc sm
end
end NP
namespace NP
open PySem PySem.Spec PyProof.Rows L2 NM
/-! ### distance(a, b, exits) -/
theorem scDistance : FnScope ["a", "b", "exits"] ["a", "b", "exits"] (defScope sDistance) := ⟨rfl, rfl, rfl, by decide +kernel, rfl, by decide +kernel, by decide +kernel⟩
def spDistance : Sp := fun vs H Q _ => ∃ (t : Ks536.Net) (x y : Nat) (e : Addr), vs = [vN x, vN y, .ref e] ∧ ExitsAt H e (rowsOf t) ∧ netOk t ∧ Ks536.joined t = true ∧ x < t.n ∧ y < t.n ∧
  ∀ H', Same H H' → Q (vN (Ks537.far t (x, y))) H'
section
variable {P : Program} {w : World} {K : PySem.W.Frag} {mg : Str → Option Value} {base : Heap}
theorem ok_distance {f fD : Addr} {fd fdD : FuncData} (F : Fun K "distance" "distance" sDistance f fd) (FD : Fun K "distances_from" "distances_from" sDist fD fdD) (bD : Binds K fdD ["start", "exits"] []) (gD : mg "distances_from" = some (.ref fD)) (ml : mg "len" = none) :
    FnOk P w K mg base CX0 2 f fd ["a", "b", "exits"] spDistance := by
  have GD : FnOk P w K mg base CX0 1 fD fdD ["start", "exits"] spDist := ok_dist FD ml
  refine F.ok scDistance (fun vs H Q E h => ?_) (fun cdv A outer s H vs Q E hr h => ?_)
  · obtain ⟨t, x, y, e, rfl, _⟩ := h
    rfl
  · obtain ⟨t, x, y, e, rfl, hE, hok, hj, hx, hy, q⟩ := h
    have hu := hu_of hr
    refine ⟨_, pss_one (ps_ret (pe_dget hu (pe_call GD hr rfl gD FD.kp bD .nil pass0 (pa_cons (pv 0) (pa_cons (pv 2) pa_nil))) (pv 1) (fun _ _ => rfl))), ?_⟩
    refine ⟨_, rfl, _, rfl, t, x, e, rfl, hE, hok, hx, fun H' d S sm D hd => ?_⟩
    obtain ⟨k, hk⟩ := joined_all hok.2.1 hj hx hy
    have hmem := D.all k y hk
    obtain ⟨⟨y', dy⟩, hp, ey⟩ := List.mem_map.mp hmem
    have ey' : y' = y := ey
    subst ey'
    have hdist := D.yes _ hp
    have hval := kvOf_there D.nd hp
    have g : DGet H' d (kV (Sum.inl (y' : Int))) (some (vN dy)) := by rw [← hval]; exact DGet.k hd
    refine ⟨_, rfl, d, _, rfl, g, ?_⟩
    have ef : Ks537.far t (x, y') = dy := by
      unfold Ks537.far
      rw [hdist]
      rfl
    rw [← ef]
    exact q H' sm
end
end NP
namespace NP
open PySem PySem.Spec PyProof.Rows L2 NM
/-! ### how_near -/
theorem scHow : FnScope ["u", "v", "exits", "states", "state"] ["u", "v", "exits"] (defScope sHow) := ⟨rfl, rfl, rfl, by decide +kernel, rfl, by decide +kernel, by decide +kernel⟩
def spHow : Sp := fun vs H Q _ => ∃ (t : Ks536.Net) (u v : Nat) (e : Addr), vs = [vN u, vN v, .ref e] ∧ ExitsAt H e (rowsOf t) ∧ netOk t ∧ Ks536.joined t = true ∧ u < t.n ∧ v < t.n ∧
  ∀ H', Same H H' → Q (vN (Ks537.shrink t u v).1) H'
section
variable {P : Program} {w : World} {K : PySem.W.Frag} {mg : Str → Option Value} {base : Heap}
theorem ok_how {f fI fL fA fE fH fD fB fW fM fS : Addr} {fd fdI fdL fdA fdE fdH fdD fdB fdW fdM fdS : FuncData} (F : Fun K "how_near" "how_near" sHow f fd) (FI : Fun K "distance" "distance" sDistance fI fdI) (bI : Binds K fdI ["a", "b", "exits"] []) (gI : mg "distance" = some (.ref fI)) (mn : mg "min" = none)
    (T : TxtNet K mg fL fA fE fH fD fdL fdA fdE fdH fdD) (W : TxtWords K mg fB fW fM fS fdB fdW fdM fdS) : FnOk P w K mg base CX0 4 f fd ["u", "v", "exits"] spHow := by
  have GW : FnOk P w K mg base CX0 3 fW fdW ["u", "v", "d", "exits"] (spWords P w) := ok_words W.FW W.FB W.bB W.gB W.FM W.bM W.gM W.FS W.bS W.gS T.mr T.ml W.mx
  have GI : FnOk P w K mg base CX0 2 fI fdI ["a", "b", "exits"] spDistance := ok_distance FI T.FD T.bD T.gD T.ml
  refine F.ok scHow (fun vs H Q E h => ?_) (fun cdv A outer s H vs Q E hr h => ?_)
  · obtain ⟨t, u, v, e, rfl, _⟩ := h
    rfl
  · obtain ⟨t, u, v, e, rfl, hE, hok, hj, hut, hvt, q⟩ := h
    have hr2 : Room 2 _ := hr.mono (by decide)
    have hn7 := hok.1
    refine ⟨_, pss_cons (ps_set (i := 3) scHow.nd rfl (Or.inl rfl) (pe_callTy (call_list_dN (P := P) (w := w) rfl rfl rfl) (by rfl) W.ms (by decide +kernel) (pa_cons (pe_call GW hr rfl W.gW W.FW.kp W.bW .nil pass0 (pa_cons (pv 0) (pa_cons (pv 1) (pa_cons pe_int (pa_cons (pv 2) pa_nil))))) pa_nil)))
      (pss_one (ps_ret (pe_callB (cr_min rfl) (by rfl) mn (by decide +kernel) (pa_cons
        (pe_lc (own := [("state", 4)]) (g := gName 4) (tt := tYes) (te := tCall spDistance [] E0 (tCons (tOp (rIxT K) (tVar 4) (tC (.int 0))) (tCons (tOp (rIxT K) (tVar 4) (tC (.int 1))) (tCons (tVar 2) tNil)))) rfl scHow.nd (pi_list (pv 3))
          (blkOk_by (N := ["u", "v", "exits", "states", "state"]) (sc := defScope sHow) (by decide +kernel))
          (fun _ _ _ _ _ => pg_name (i := 4) scHow.nd rfl (Or.inl rfl)) (fun _ _ _ _ _ => pts_nil) (fun _ _ _ _ _ => pe_call GI hr2 rfl gI FI.kp bI .nil pass0 (pa_cons (pe_ix ix_tup (pv 4) pe_int (fun _ _ => rfl)) (pa_cons (pe_ix ix_tup (pv 4) pe_int (fun _ _ => rfl)) (pa_cons (pv 2) pa_nil))))) pa_nil)))), ?_⟩
    -- states = list(words_to_states(u, v, 0, exits))
    refine ⟨_, rfl, _, rfl, _, rfl, t, u, v, 0, e, rfl, hE, hok, hut, hvt, by omega, fun H4 dd r j es sm4 hend DD hWG => ?_⟩
    have BB0 := bq_BB (f := Ks537.step t 0) (L := Ks537.letters t) (s0 := ⟨u, v, []⟩) j
    have hSok := stS_ok (t := t) (d := 0) hok.2.1 hut hvt j
    have hSl : (stS t 0 u v j).length ≤ 8967 := Nat.le_trans (sw_len BB0.nd hSok) (univS_len hok.1 (letters_le hok.2.2) (by omega))
    have hne : 0 < (stS t 0 u v j).length := BB0.ne
    have hel := Paired.length hWG
    have hsm := fun m => shrink_min (t := t) hok.2.1 hut hvt (j := j) (m := m) hend
    clear BB0 hend
    generalize stS t 0 u v j = S at hWG hSl hSok hel hsm hne
    refine ⟨dd, es, rfl, DD, fun lp hlp => ?_⟩
    have sm5 : Same H4 (upd H4 lp (.lst ((es.map fun x => x.2.1).map V.ref))) := same_new hlp
    have hlp5 : (upd H4 lp (.lst ((es.map fun x => x.2.1).map V.ref))) lp = some (.lst ((es.map fun x => x.2.1).map V.ref)) := upd_same
    have DD5 := dn_same DD sm5
    have hWG5 := wg_same hWG sm5
    have smH := sm4.trans sm5
    generalize upd H4 lp (.lst ((es.map fun x => x.2.1).map V.ref)) = H5 at smH hlp5 DD5 hWG5
    have el : ((es.map fun x => x.2.1).map V.ref).length = S.length := by rw [List.length_map, List.length_map, hel]
    -- [distance(state[0], state[1], exits) for state in states]
    refine ⟨_, rfl, lp, rfl, ⟨_, SqL.of hlp5⟩, fun D hD => ?_⟩
    refine lc_list (K := K) (a := lp) (xs := (es.map fun x => x.2.1).map V.ref) (fun i Hc => Same H5 Hc ∧ Hc D = some (.lst (vNs ((S.map (farS t)).take i)))) ⟨same_new hD, upd_same⟩ (fun i Hc _ ⟨sm, _⟩ => SqL.of (sm _ _ hlp5)) ?_ ?_
    · rintro i x Hc hi ⟨sm, hd⟩
      obtain ⟨b, y, rfl, hy, hb⟩ := wg_at DD5 hWG5 hi
      obtain ⟨qd, hb1, hq1⟩ := id hb
      have hyo := hSok y (List.mem_of_getElem? hy)
      have hbc := sm _ _ hb1
      refine ⟨rfl, ?_⟩
      refine ⟨_, rfl, b, _, _, vN y.1.a, rfl, rfl, SqT.of hbc, atI_nat (j := 0) rfl, _, rfl, b, _, _, vN y.1.b, rfl, rfl, SqT.of hbc, atI_nat (j := 1) rfl, _, rfl, t, y.1.a, y.1.b, e, rfl, Same.exits sm (Same.exits smH hE), hok, hj, hyo.1, hyo.2.1, fun H' sm' => ?_⟩
      refine ⟨_, sm' _ _ hd, ?_, ?_, ?_⟩
      · rw [vNs_len, List.length_take]
        exact szm _ (by have := lt_of_at hy; omega)
      · intro c o ec
        rw [upd_ne (ne_of_none ec hD)]
        exact sm' _ _ (sm _ _ ec)
      · have hat : (S.map (farS t))[i]? = some (farS t y) := by
          rw [List.getElem?_map, hy]
          rfl
        rw [upd_same, take_more hat]
        unfold vNs
        rw [List.map_append]
        rfl
    rintro H6 ⟨sm6, hd6⟩
    rw [el, List.take_of_length_le (by rw [List.length_map]; exact Nat.le_refl _)] at hd6
    refine ⟨D, (S.map (farS t)).map Int.ofNat, rfl, ?_, ?_, fun mi hmi hle => ?_⟩
    · have ev : ((S.map (farS t)).map Int.ofNat).map V.int = vNs (S.map (farS t)) := by
        rw [List.map_map]
        rfl
      rw [ev]
      exact SqL.of hd6
    · rw [List.length_map, List.length_map]
      exact hne
    obtain ⟨m, hm, rfl⟩ := List.mem_map.mp hmi
    obtain ⟨y, hy, ey⟩ := List.mem_map.mp hm
    have hs := hsm m ⟨y, hy, ey⟩ (fun r hr => by
      have := hle (Int.ofNat (farS t r)) (List.mem_map.mpr ⟨_, List.mem_map.mpr ⟨r, hr, rfl⟩, rfl⟩)
      exact Int.ofNat_le.mp this)
    have := q H6 (smH.trans sm6)
    rw [hs] at this
    exact this
end
end NP
namespace NP
open PySem PySem.Spec PyProof.Rows L2 NM
/-! ### what can, least, twins lean on -/
structure TxtAlike (K : PySem.W.Frag) (mg : Str → Option Value) (fI fA fM fS fH : Addr) (fdI fdA fdM fdS fdH : FuncData) : Prop where
  mn : mg "min" = none
  FI : Fun K "distance" "distance" sDistance fI fdI
  bI : Binds K fdI ["a", "b", "exits"] []
  gI : mg "distance" = some (.ref fI)
  FA : Fun K "alike" "alike" sAlike fA fdA
  bA : Binds K fdA ["u", "v", "exits"] []
  gA : mg "alike" = some (.ref fA)
  FM : Fun K "marks_one_step_on" "marks_one_step_on" sMarks fM fdM
  bM : Binds K fdM ["marks", "exits"] []
  gM : mg "marks_one_step_on" = some (.ref fM)
  FS : Fun K "sight_from" "sight_from" sSight fS fdS
  bS : Binds K fdS ["place", "marks", "exits"] []
  gS : mg "sight_from" = some (.ref fS)
  FH : Fun K "how_near" "how_near" sHow fH fdH
  bH : Binds K fdH ["u", "v", "exits"] []
  gH : mg "how_near" = some (.ref fH)
end NP
namespace NP
open PySem PySem.Spec PyProof.Rows L2 NM
/-! ### kept_apart -/
theorem scKept : FnScope ["u", "v", "d", "exits"] ["u", "v", "d", "exits"] (defScope sKept) := ⟨rfl, rfl, rfl, by decide +kernel, rfl, by decide +kernel, by decide +kernel⟩
def keptM (t : Ks536.Net) (d u v : Nat) : Bool := Ks536.alike t u v && decide (d < (Ks537.shrink t u v).1)
def spKept : Sp := fun vs H Q _ => ∃ (t : Ks536.Net) (u v d : Nat) (e : Addr), vs = [vN u, vN v, vN d, .ref e] ∧ ExitsAt H e (rowsOf t) ∧ netOk t ∧ Ks536.joined t = true ∧ u < t.n ∧ v < t.n ∧
  ∀ H', Same H H' → Q (.bl (keptM t d u v)) H'
section
variable {P : Program} {w : World} {K : PySem.W.Frag} {mg : Str → Option Value} {base : Heap}
theorem ok_kept {f fL fA fE fH fD fI fA' fM' fS' fH' fB fW fM fS : Addr} {fd fdL fdA fdE fdH fdD fdI fdA' fdM' fdS' fdH' fdB fdW fdM fdS : FuncData} (F : Fun K "kept_apart" "kept_apart" sKept f fd)
    (T : TxtNet K mg fL fA fE fH fD fdL fdA fdE fdH fdD) (W : TxtWords K mg fB fW fM fS fdB fdW fdM fdS) (U : TxtAlike K mg fI fA' fM' fS' fH' fdI fdA' fdM' fdS' fdH') : FnOk P w K mg base CX0 5 f fd ["u", "v", "d", "exits"] spKept := by
  have GA : FnOk P w K mg base CX0 3 fA' fdA' ["u", "v", "exits"] spAlike := ok_alike U.FA U.FM U.bM U.gM U.FS U.bS U.gS T.mr T.ml
  have GH : FnOk P w K mg base CX0 4 fH' fdH' ["u", "v", "exits"] spHow := ok_how U.FH U.FI U.bI U.gI U.mn T W
  refine F.ok scKept (fun vs H Q E h => ?_) (fun cdv A outer s H vs Q E hr h => ?_)
  · obtain ⟨t, u, v, d, e, rfl, _⟩ := h
    rfl
  · obtain ⟨t, u, v, d, e, rfl, hE, hok, hj, hut, hvt, q⟩ := h
    have hr3 : Room 3 _ := hr.mono (by decide)
    refine ⟨_, pss_one (ps_ret (pe_and (pe_call GA hr3 rfl U.gA U.FA.kp U.bA .nil pass0 (pa_cons (pv 0) (pa_cons (pv 1) (pa_cons (pv 3) pa_nil))))
      (pe_one (pe_cmpR op_gt (pe_call GH hr rfl U.gH U.FH.kp U.bH .nil pass0 (pa_cons (pv 0) (pa_cons (pv 1) (pa_cons (pv 3) pa_nil)))) (pv 2) (nomark _))))), ?_⟩
    unfold keptM at q
    refine ⟨_, rfl, _, rfl, _, rfl, t, u, v, e, rfl, hE, hok, hut, hvt, fun H1 sm1 => ⟨_, rfl, ?_⟩⟩
    cases hal : Ks536.alike t u v with
    | false =>
      have q1 := q H1 sm1
      rw [hal] at q1
      exact iteF q1
    | true =>
      refine iteT ?_
      refine ⟨_, rfl, _, rfl, _, rfl, t, u, v, e, rfl, Same.exits sm1 hE, hok, hj, hut, hvt, fun H2 sm2 => ?_⟩
      refine ⟨_, rfl, _, _, rfl, rfl, ?_⟩
      have q2 := q H2 (sm1.trans sm2)
      rw [hal, Bool.true_and] at q2
      have e2 : decide (d < (Ks537.shrink t u v).1) = decide ((d : Int) < (((Ks537.shrink t u v).1 : Nat) : Int)) := decide_eq_decide.mpr (by omega)
      rw [e2] at q2
      exact q2
end
end NP
namespace NP
open PySem PySem.Spec PyProof.Rows L2 NM
/-! ### twos_of_places -/
def rowT (n u : Nat) : List (Nat × Nat) := (List.range (n - (u + 1))).map fun k => (u, u + 1 + k)
def preT (n i : Nat) : List (Nat × Nat) := (List.range i).flatMap (rowT n)
def twosM (n : Nat) : List (Nat × Nat) := preT n n
theorem preT_more (n i : Nat) : preT n (i + 1) = preT n i ++ rowT n i := by
  unfold preT
  rw [List.range_succ, List.flatMap_append, List.flatMap_singleton]
theorem preT_len (n : Nat) (h : n ≤ 7) : ∀ i, (preT n i).length ≤ i * 7
  | 0 => Nat.le_refl _
  | i + 1 => by
    have := preT_len n h i
    rw [preT_more, List.length_append]
    unfold rowT
    rw [List.length_map, List.length_range]
    omega
theorem twosM_len {n : Nat} (h : n ≤ 7) : (twosM n).length ≤ 49 := by
  have := preT_len n h n
  unfold twosM
  omega
theorem twosM_in {n : Nat} {q : Nat × Nat} (h : q ∈ twosM n) : q.1 < n ∧ q.2 < n := by
  unfold twosM preT rowT at h
  obtain ⟨u, hu, hq⟩ := List.mem_flatMap.mp h
  obtain ⟨k, hk, rfl⟩ := List.mem_map.mp hq
  have := List.mem_range.mp hu
  have := List.mem_range.mp hk
  exact ⟨by show u < n; omega, by show u + 1 + k < n; omega⟩
theorem scTwos : FnScope ["n", "twos", "u", "v"] ["n"] (defScope sTwos) := ⟨rfl, rfl, rfl, by decide +kernel, rfl, by decide +kernel, by decide +kernel⟩
def spTwos : Sp := fun vs H Q _ => ∃ n : Nat, vs = [vN n] ∧ n ≤ 7 ∧ ∀ H' p, Same H H' → H p = none → PairsAt H' p (twosM n) → Q (.ref p) H'
section
variable {P : Program} {w : World} {K : PySem.W.Frag} {mg : Str → Option Value} {base : Heap}
theorem ok_twos {f : Addr} {fd : FuncData} (F : Fun K "twos_of_places" "twos_of_places" sTwos f fd) (mr : mg "range" = none) : FnOk P w K mg base CX0 1 f fd ["n"] spTwos := by
  refine F.ok scTwos (fun vs H Q E h => ?_) (fun cdv A outer s H vs Q E hr h => ?_)
  · obtain ⟨n, rfl, _⟩ := h
    rfl
  · obtain ⟨n, rfl, n7, q⟩ := h
    refine ⟨_, pss_cons (ps_set (i := 1) scTwos.nd rfl (Or.inl rfl) (pe_lst pa_nil))
      (pss_cons (ps_for PassesOwn.never rfl (pi_range1 rfl mr (pa_cons (pv 0) pa_nil)) (pg_name (i := 2) scTwos.nd rfl (Or.inl rfl))
        (pss_one (ps_for PassesOwn.never rfl (pi_range2 rfl mr (pa_cons (pe_op op_add (pv 2) pe_int) (pa_cons (pv 0) pa_nil))) (pg_name (i := 3) scTwos.nd rfl (Or.inl rfl))
          (pss_one (ps_expr (pe_bm PySem.F.plainAttrs_list PySem.F.slot_list_append PySem.F.type_list_append mt_append (pv 1) (pa_cons (pe_tup (pa_cons (pv 2) (pa_cons (pv 3) pa_nil))) pa_nil)))))))
      (pss_one (ps_ret (pv 1)))), ?_⟩
    refine ⟨szl 0 (by omega), fun p hpn => ?_⟩
    refine ⟨_, rfl, (n : Int), rfl, by omega, by omega, ?_⟩
    refine for_range (lo := 0) (n := ((n : Int)).toNat) (fun i σ Hc => ∃ x2 x3, σ = [some (vN n), some (.ref p), x2, x3] ∧ Same H Hc ∧ PairsAt Hc p (preT n i)) ⟨none, none, rfl, same_new hpn, [], upd_same, .nil⟩ ?_ ?_
    · rintro i σ Hc hi ⟨x2, x3, rfl, sm, hP⟩
      refine ⟨_, rfl, _, _, rfl, rfl, _, rfl, _, _, rfl, ⟨by omega, by omega, by omega, by omega⟩, ?_⟩
      refine for_range (lo := 0 + (i : Int) + 1) (n := ((n : Int) - (0 + (i : Int) + 1)).toNat) (fun k σ Hc => ∃ x3, σ = [some (vN n), some (.ref p), some (.int (0 + (i : Int))), x3] ∧ Same H Hc ∧ PairsAt Hc p (preT n i ++ (List.range k).map fun j => (i, i + 1 + j)))
        ⟨x3, rfl, sm, by rw [List.range_zero, List.map_nil, List.append_nil]; exact hP⟩ ?_ ?_
      · rintro k σ Hk hk ⟨x3, rfl, sm, ts, hd, hp⟩
        refine ⟨_, rfl, .inl ⟨rfl, _, SqL.of hd⟩, _, rfl, _, rfl, szl 2 (by omega), fun t ht => ?_⟩
        have nD : p ≠ t := ne_of_none hd ht
        refine ⟨p, _, _, rfl, rfl, (upd_ne nD).trans hd, ?_, _, rfl, ?_, ts ++ [t], ?_, ?_⟩
        · rw [List.length_map, Paired.length hp, List.length_append, List.length_map, List.length_range]
          have := preT_len n n7 i
          exact sz _ (by omega)
        · intro b o eb
          rw [upd_ne (ne_of_none eb hpn)]
          exact same_new ht _ _ (sm _ _ eb)
        · rw [upd_same, List.map_append]
          rfl
        · rw [List.range_succ, List.map_append, ← List.append_assoc]
          refine Paired.snoc (L2.Paired.mapP hp fun b z hz => ?_) ?_
          · unfold TupAt at hz ⊢
            rw [upd_ne (ne_of hz hd (fun z => nomatch z)), upd_ne (ne_of_none hz ht)]
            exact hz
          · unfold TupAt
            rw [upd_ne (Ne.symm nD), upd_same]
            have e1 : V.int (0 + (i : Int)) = vN i := congrArg V.int (by omega)
            have e2 : V.int (0 + (i : Int) + 1 + (k : Int)) = vN (i + 1 + k) := congrArg V.int (by omega)
            rw [e1, e2]
      · rintro σ Hk ⟨x3, rfl, sm, hP⟩
        refine ⟨_, _, rfl, sm, ?_⟩
        rw [preT_more]
        have en : ((n : Int) - (0 + (i : Int) + 1)).toNat = n - (i + 1) := by omega
        rw [en] at hP
        exact hP
    · rintro σ Hc ⟨x2, x3, rfl, sm, hP⟩
      have en : ((n : Int)).toNat = n := by omega
      rw [en] at hP
      exact ⟨_, rfl, q Hc p sm hpn hP⟩
end
end NP
namespace NP
open PySem PySem.Spec PyProof.Rows L2 NM
/-! ### twins: what is due -/
def twinsM (n d : Nat) (l : List Nat) : List Int := Ks537Neutral.out (Ks537.answer (.twins n d l))
def two2 (q : Nat × Nat) : List Nat := [q.1, q.2]
def keptL (t : Ks536.Net) (d : Nat) : List (Nat × Nat) := (twosM t.n).filter fun q => keptM t d q.1 q.2
theorem row_filter {n u : Nat} (h : u < n) (p : Nat → Bool) : (List.range n).filter (fun v => decide (u < v) && p v) = ((List.range (n - (u + 1))).map fun k => u + 1 + k).filter p := by
  have e : List.range n = List.range (u + 1) ++ (List.range (n - (u + 1))).map fun k => u + 1 + k := by
    rw [← List.range_add]
    congr 1
    omega
  rw [e, List.filter_append]
  have e1 : (List.range (u + 1)).filter (fun v => decide (u < v) && p v) = [] := by
    rw [List.filter_eq_nil_iff]
    intro v hv
    have := List.mem_range.mp hv
    rw [decide_eq_false (by omega), Bool.false_and]
    decide
  rw [e1, List.nil_append]
  refine List.filter_congr fun v hv => ?_
  obtain ⟨k, _, rfl⟩ := List.mem_map.mp hv
  rw [decide_eq_true (by omega), Bool.true_and]
theorem flat_congr {α β : Type} {f g : α → List β} : ∀ {l : List α}, (∀ x ∈ l, f x = g x) → l.flatMap f = l.flatMap g
  | [], _ => rfl
  | x :: r, h => by
    rw [List.flatMap_cons, List.flatMap_cons, h x (List.mem_cons_self ..), flat_congr fun y hy => h y (List.mem_cons_of_mem _ hy)]
theorem kept_eq (t : Ks536.Net) (d : Nat) : ((List.range t.n).flatMap fun u => ((List.range t.n).filter fun v => decide (u < v) && Ks536.alike t u v && decide (d < (Ks537.shrink t u v).1)).map fun v => [u, v]) = (keptL t d).map two2 := by
  unfold keptL twosM preT
  rw [List.filter_flatMap, List.map_flatMap]
  refine flat_congr fun u hu => ?_
  have hlt := List.mem_range.mp hu
  have e := row_filter hlt (fun v => keptM t d u v)
  have e' : (fun v => decide (u < v) && Ks536.alike t u v && decide (d < (Ks537.shrink t u v).1)) = fun v => decide (u < v) && keptM t d u v := by
    funext v
    unfold keptM
    rw [Bool.and_assoc]
  rw [e', e]
  unfold rowT
  rw [List.filter_map, List.filter_map, List.map_map, List.map_map]
  rfl
theorem flat_two (l : List (Nat × Nat)) : (l.map two2).flatten = l.flatMap two2 := rfl
theorem twins_no {n d : Nat} {l : List Nat} (h : isNetM n l = false) : twinsM n d l = [-22] := by
  show Ks537Neutral.out (Ks536.net n l _) = _
  unfold Ks536.net
  rw [netOf_eq, h]
  rfl
theorem twins_yes {n d : Nat} {l : List Nat} (h : isNetM n l = true) : twinsM n d l = (((keptL ⟨n, pairs2 l⟩ d).length : Nat) : Int) :: (((keptL ⟨n, pairs2 l⟩ d).flatMap two2).map Int.ofNat) := by
  show Ks537Neutral.out (Ks536.net n l _) = _
  unfold Ks536.net
  rw [netOf_eq, if_pos h]
  simp only
  rw [kept_eq ⟨n, pairs2 l⟩ d]
  unfold Ks537Neutral.out
  simp only
  rw [List.length_map, flat_two]
theorem flat_len : ∀ l : List (Nat × Nat), (l.flatMap two2).length = 2 * l.length
  | [] => rfl
  | q :: r => by
    have := flat_len r
    rw [List.flatMap_cons, List.length_append, List.length_cons]
    show 2 + _ = _
    omega
/-! ### twins -/
theorem scTwins : FnScope ["n", "d", "net", "exits", "twos", "answer", "u", "v", "two"] ["n", "d", "net"] (defScope sTwins) := ⟨rfl, rfl, rfl, by decide +kernel, rfl, by decide +kernel, by decide +kernel⟩
def spTwins (K : PySem.W.Frag) : Sp := fun vs H Q _ => ∃ (n d : Nat) (a : Addr) (l : List Nat), vs = [vN n, vN d, .ref a] ∧ SqL K H a (vNs l) ∧ l.length ≤ 24 ∧
  ∀ (H' : Hp) (p : Addr), H' p = some (.lst ((twinsM n d l).map V.int)) → Q (.ref p) H'
section
variable {P : Program} {w : World} {K : PySem.W.Frag} {mg : Str → Option Value} {base : Heap}
theorem ok_twins {f fL fA fE fH fD fN fI fA' fM' fS' fH' fB fW fM fS fK fT : Addr} {fd fdL fdA fdE fdH fdD fdN fdI fdA' fdM' fdS' fdH' fdB fdW fdM fdS fdK fdT : FuncData} (F : Fun K "twins" "twins" sTwins f fd)
    (T : TxtNet K mg fL fA fE fH fD fdL fdA fdE fdH fdD) (W : TxtWords K mg fB fW fM fS fdB fdW fdM fdS) (U : TxtAlike K mg fI fA' fM' fS' fH' fdI fdA' fdM' fdS' fdH')
    (cN : ∃ t, mg "NO_NET" = some (.int (-22) t)) (FN : Fun K "is_net" "is_net" sIsNet fN fdN) (bN : Binds K fdN ["n", "net"] []) (gN : mg "is_net" = some (.ref fN))
    (FT : Fun K "twos_of_places" "twos_of_places" sTwos fT fdT) (bT : Binds K fdT ["n"] []) (gT : mg "twos_of_places" = some (.ref fT))
    (FK : Fun K "kept_apart" "kept_apart" sKept fK fdK) (bK : Binds K fdK ["u", "v", "d", "exits"] []) (gK : mg "kept_apart" = some (.ref fK)) : FnOk P w K mg base CX0 6 f fd ["n", "d", "net"] (spTwins K) := by
  have GN : FnOk P w K mg base CX0 3 fN fdN ["n", "net"] (spIsNet K) := ok_isNet FN T
  have GE : FnOk P w K mg base CX0 2 fE fdE ["n", "net"] (spExits K) := ok_exits T.FE T.FL T.bL T.gL T.mr T.ml
  have GT : FnOk P w K mg base CX0 1 fT fdT ["n"] spTwos := ok_twos FT T.mr
  have GK : FnOk P w K mg base CX0 5 fK fdK ["u", "v", "d", "exits"] spKept := ok_kept FK T W U
  refine F.ok scTwins (fun vs H Q E h => ?_) (fun cdv A outer s H vs Q E hr h => ?_)
  · obtain ⟨n, d, a, l, rfl, _⟩ := h
    rfl
  · obtain ⟨n, d, a, l, rfl, hS, hlen, q⟩ := h
    obtain ⟨tn, cN⟩ := cN
    have hr1 : Room 1 _ := hr.mono (by decide)
    have hr2 : Room 2 _ := hr.mono (by decide)
    have hr3 : Room 3 _ := hr.mono (by decide)
    refine ⟨_, pss_cons (ps_if (pt_not (pt_val (pe_call GN hr3 rfl gN FN.kp bN .nil pass0 (pa_cons (pv 0) (pa_cons (pv 2) pa_nil))))) (pss_one (ps_ret (pe_lst (pa_cons (pe_glob (v := .int (-22)) rfl cN ⟨_, rfl⟩) pa_nil)))) pss_nil)
      (pss_cons (ps_set (i := 3) scTwins.nd rfl (Or.inr rfl) (pe_call GE hr2 rfl T.gE T.FE.kp T.bE .nil pass0 (pa_cons (pv 0) (pa_cons (pv 2) pa_nil))))
      (pss_cons (ps_setLc (i := 4) (own := [("two", 8)]) (g := gName 8) (tt := tB (tCall spKept [] E0 (tCons (tOp (rIxT K) (tVar 8) (tC (.int 0))) (tCons (tOp (rIxT K) (tVar 8) (tC (.int 1))) (tCons (tVar 1) (tCons (tVar 3) tNil)))))) (te := tVar 8) rfl scTwins.nd rfl rfl (sw_true rfl rfl rfl (by decide +kernel))
        (pi_list (pe_call GT hr1 rfl gT FT.kp bT .nil pass0 (pa_cons (pv 0) pa_nil))) (blkOk_by (N := ["n", "d", "net", "exits", "twos", "answer", "u", "v", "two"]) (sc := defScope sTwins) (by decide +kernel))
        (fun _ _ _ _ _ => pg_name (i := 8) scTwins.nd rfl (Or.inl rfl))
        (fun _ _ _ _ _ => pts_one (pt_val (pe_call GK hr rfl gK FK.kp bK .nil pass0 (pa_cons (pe_ix ix_tup (pv 8) pe_int (fun _ _ => rfl)) (pa_cons (pe_ix ix_tup (pv 8) pe_int (fun _ _ => rfl)) (pa_cons (pv 1) (pa_cons (pv 3) pa_nil)))))))
        (fun _ _ _ _ _ => pv 8))
      (pss_cons (ps_set (i := 5) scTwins.nd rfl (Or.inl rfl) (pe_lst (pa_cons (pe_callB call_len_seq (by rfl) T.ml PySem.boot_len (pa_cons (pv 4) pa_nil)) pa_nil)))
      (pss_cons (ps_for PassesOwn.never rfl (pi_list (pv 4)) (pg_tup rfl (pgs_cons (pg_name (i := 6) scTwins.nd rfl (Or.inl rfl)) (pgs_cons (pg_name (i := 7) scTwins.nd rfl (Or.inl rfl)) pgs_nil)))
        (pss_one (ps_expr (pe_bm PySem.F.plainAttrs_list PySem.F.slot_list_extend PySem.F.type_list_extend mt_extend (pv 5) (pa_cons (pe_lst (pa_cons (pv 6) (pa_cons (pv 7) pa_nil))) pa_nil)))))
      (pss_one (ps_ret (pv 5))))))), ?_⟩
    -- if not is_net(n, net)
    refine ⟨_, rfl, _, rfl, n, a, l, rfl, hS, hlen, fun H1 sm1 => ⟨_, rfl, ?_⟩⟩
    cases hk : isNetM n l with
    | false =>
      refine iteT ?_
      refine ⟨szl 1 (by omega), fun p _ => q _ p ?_⟩
      rw [upd_same, twins_no hk]
      rfl
    | true =>
      refine iteF ?_
      obtain ⟨n1, n7, hev, h20, hg, hj⟩ := isNetM_good hk
      have hans := twins_yes (d := d) hk
      generalize ht : (⟨n, pairs2 l⟩ : Ks536.Net) = t at hans hj
      have htn : t.n = n := by rw [← ht]
      have hok : netOk t := by
        rw [← ht]
        refine ⟨n7, hg, ?_⟩
        show (pairs2 l).length ≤ 12
        rw [pairs2_len]
        omega
      -- exits = exits_of(n, net)
      refine ⟨_, rfl, _, rfl, n, a, l, rfl, sm1.seq hS, hev, hlen, n7, hg, fun H2 pe sm2 _ hE => ?_⟩
      have hE2 : ExitsAt H2 pe (rowsOf t) := by
        rw [exits_eq n _ hg] at hE
        rw [← ht]
        exact hE
      -- twos_of_places(n)
      refine ⟨_, rfl, n, rfl, n7, fun H3 pt sm3 _ hP => ?_⟩
      have hE3 := Same.exits sm3 hE2
      obtain ⟨ts, hpt, hts⟩ := hP
      have htl := Paired.length hts
      have h49 := twosM_len n7
      refine ⟨pt, rfl, ⟨_, SqL.of hpt⟩, fun D hD => ?_⟩
      refine lc_list (K := K) (a := pt) (xs := ts.map V.ref) (fun i Hc => ∃ us : List Addr, Same H3 Hc ∧ Hc D = some (.lst (us.map V.ref)) ∧ Paired (TupAt Hc) us (((twosM n).take i).filter fun q => keptM t d q.1 q.2))
        ⟨[], same_new hD, upd_same, .nil⟩ (fun i Hc _ ⟨_, sm, _⟩ => SqL.of (sm _ _ hpt)) ?_ ?_
      · rintro i x Hc hi ⟨us, sm, hd, hp⟩
        obtain ⟨tw, htw, rfl⟩ := refs_of hi
        obtain ⟨⟨u, v⟩, huv, htup⟩ := pr_getL hts htw
        obtain ⟨hu, hv⟩ := twosM_in (List.mem_of_getElem? huv)
        simp only at hu hv
        have htc := sm _ _ htup
        have hul : us.length ≤ 49 := by
          rw [Paired.length hp]
          refine Nat.le_trans (List.length_filter_le ..) ?_
          rw [List.length_take]
          omega
        refine ⟨rfl, ?_⟩
        refine ⟨_, rfl, tw, _, _, vN u, rfl, rfl, SqT.of htc, atI_nat (j := 0) rfl, _, rfl, tw, _, _, vN v, rfl, rfl, SqT.of htc, atI_nat (j := 1) rfl, _, rfl, _, rfl, t, u, v, d, pe, rfl, Same.exits sm hE3, hok, hj, by omega, by omega, fun H' sm' => ⟨_, rfl, ?_⟩⟩
        have hd' := sm' _ _ hd
        cases hkp : keptM t d u v with
        | false =>
          refine iteF ?_
          refine ⟨us, sm.trans sm', hd', ?_⟩
          rw [take_more huv, List.filter_append, List.filter_cons_of_neg (by rw [hkp]; decide), List.filter_nil, List.append_nil]
          exact L2.Paired.mapP hp fun b z hz => sm' _ _ hz
        | true =>
          refine iteT ?_
          refine ⟨_, rfl, _, hd', ?_, us ++ [tw], ?_, ?_, ?_⟩
          · rw [List.length_map]
            exact sz _ (by omega)
          · intro b o eb
            rw [upd_ne (ne_of_none eb hD)]
            exact sm' _ _ (sm _ _ eb)
          · rw [upd_same, List.map_append]
            rfl
          · rw [take_more huv, List.filter_append, List.filter_cons_of_pos (p := fun q : Nat × Nat => keptM t d q.1 q.2) (a := (u, v)) hkp, List.filter_nil]
            have up : ∀ b z, TupAt H' b z → TupAt (upd H' D (.lst (us.map V.ref ++ [.ref tw]))) b z := fun b z hz => by
              unfold TupAt at hz ⊢
              rw [upd_ne (ne_of hz hd' (fun z => nomatch z))]
              exact hz
            exact Paired.snoc (L2.Paired.mapP hp fun b z hz => up b z (sm' _ _ hz)) (up tw (u, v) (sm' _ _ htc))
      · rintro H4 ⟨us, sm4, hd4, hp4⟩
        rw [List.length_map, htl, List.take_length] at hp4
        have ek : ((twosM n).filter fun q => keptM t d q.1 q.2) = keptL t d := by
          unfold keptL
          rw [htn]
        rw [ek] at hp4
        have hkl : (keptL t d).length ≤ 49 := by
          rw [← ek]
          exact Nat.le_trans (List.length_filter_le ..) h49
        generalize keptL t d = S at hans hp4 hkl
        have hul := Paired.length hp4
        -- answer = [len(twos)]
        refine ⟨_, rfl, D, _, rfl, .inl (SqL.of hd4), szl 1 (by omega), fun an han => ?_⟩
        have nDa : D ≠ an := ne_of_none hd4 han
        refine ⟨_, rfl, D, rfl, ⟨_, SqL.of ((upd_ne nDa).trans hd4)⟩, ?_⟩
        refine for_list (K := K) (a := D) (xs := us.map V.ref) (fun i σ Hc => ∃ x6 x7, σ = [some (vN n), some (vN d), some (.ref a), some (.ref pe), some (.ref D), some (.ref an), x6, x7, none] ∧ Hc D = some (.lst (us.map V.ref)) ∧ Paired (TupAt Hc) us S ∧
          Hc an = some (.lst (vN S.length :: vNs ((S.take i).flatMap two2)))) ⟨none, none, rfl, (upd_ne nDa).trans hd4, ?_, ?_⟩ (fun i σ Hc _ ⟨_, _, _, h, _⟩ => SqL.of h) ?_ ?_
        · exact L2.Paired.mapP hp4 fun b z hz => by
            unfold TupAt at hz ⊢
            rw [upd_ne (ne_of_none hz han)]
            exact hz
        · rw [upd_same, List.length_map, hul]
          rfl
        · rintro i x σ Hc hi ⟨x6, x7, rfl, hd, hp, ha⟩
          obtain ⟨tw, htw, rfl⟩ := refs_of hi
          obtain ⟨⟨u, v⟩, huv, htup⟩ := pr_getL hp htw
          have hil := lt_of_at huv
          refine ⟨tw, [vN u, vN v], rfl, SqT.of htup, rfl, vN u, [vN v], rfl, vN v, [], rfl, rfl, ?_⟩
          -- answer.extend([u, v])
          refine ⟨_, rfl, .inl ⟨rfl, _, SqL.of ha⟩, _, rfl, _, rfl, szl 2 (by omega), fun b hb => ?_⟩
          have nab : an ≠ b := ne_of_none ha hb
          have ha' := (upd_ne (o := .lst [vN u, vN v]) nab).trans ha
          refine ⟨an, b, _, _, rfl, rfl, ha', upd_same, ?_, _, _, rfl, ?_, ?_, ?_⟩
          · rw [List.length_cons, vNs_len, flat_len, List.length_take]
            show _ + 2 ≤ _
            exact szl _ (by omega)
          · rw [upd_ne nDa, upd_ne (ne_of_none hd hb)]
            exact hd
          · exact L2.Paired.mapP hp fun c z hz => by
              unfold TupAt at hz ⊢
              rw [upd_ne (ne_of hz ha (fun z => nomatch z)), upd_ne (ne_of_none hz hb)]
              exact hz
          · rw [upd_same, take_more huv, List.flatMap_append]
            unfold vNs
            rw [List.map_append]
            rfl
        · rintro σ Hc ⟨x6, x7, rfl, hd, hp, ha⟩
          refine ⟨_, rfl, q Hc an ?_⟩
          rw [ha, hans, List.length_map, hul, List.take_length]
          unfold vNs
          rw [List.map_cons, List.map_map]
          rfl
end
end NP
namespace NP
open PySem PySem.Spec PyProof.Rows L2 NM
open PySem.W (Codec)
theorem all_mk {P : Program} {w : World} {K : PySem.W.Frag} {h : Heap} {mg : Str → Option Value} {fa : Addr} (X : K.In h) (G : h.Ns mainGlobals mg) (hfa : mg "twins" = some (.ref fa))
    {f1 : Addr} {od1 an1 : Option Addr} {sl1 : Array (Option Value)} {oc1 kV1 dc1 pm1 cd1 ct1 : Value}
    {f2 : Addr} {od2 an2 : Option Addr} {sl2 : Array (Option Value)} {oc2 kV2 dc2 pm2 cd2 ct2 : Value}
    {f3 : Addr} {od3 an3 : Option Addr} {sl3 : Array (Option Value)} {oc3 kV3 dc3 pm3 cd3 ct3 : Value}
    {f4 : Addr} {od4 an4 : Option Addr} {sl4 : Array (Option Value)} {oc4 kV4 dc4 pm4 cd4 ct4 : Value}
    {f5 : Addr} {od5 an5 : Option Addr} {sl5 : Array (Option Value)} {oc5 kV5 dc5 pm5 cd5 ct5 : Value}
    {f6 : Addr} {od6 an6 : Option Addr} {sl6 : Array (Option Value)} {oc6 kV6 dc6 pm6 cd6 ct6 : Value}
    {f7 : Addr} {od7 an7 : Option Addr} {sl7 : Array (Option Value)} {oc7 kV7 dc7 pm7 cd7 ct7 : Value}
    {f8 : Addr} {od8 an8 : Option Addr} {sl8 : Array (Option Value)} {oc8 kV8 dc8 pm8 cd8 ct8 : Value}
    {f9 : Addr} {od9 an9 : Option Addr} {sl9 : Array (Option Value)} {oc9 kV9 dc9 pm9 cd9 ct9 : Value}
    {f10 : Addr} {od10 an10 : Option Addr} {sl10 : Array (Option Value)} {oc10 kV10 dc10 pm10 cd10 ct10 : Value}
    {f11 : Addr} {od11 an11 : Option Addr} {sl11 : Array (Option Value)} {oc11 kV11 dc11 pm11 cd11 ct11 : Value}
    {f12 : Addr} {od12 an12 : Option Addr} {sl12 : Array (Option Value)} {oc12 kV12 dc12 pm12 cd12 ct12 : Value}
    {f13 : Addr} {od13 an13 : Option Addr} {sl13 : Array (Option Value)} {oc13 kV13 dc13 pm13 cd13 ct13 : Value}
    {f14 : Addr} {od14 an14 : Option Addr} {sl14 : Array (Option Value)} {oc14 kV14 dc14 pm14 cd14 ct14 : Value}
    {f15 : Addr} {od15 an15 : Option Addr} {sl15 : Array (Option Value)} {oc15 kV15 dc15 pm15 cd15 ct15 : Value}
    {f16 : Addr} {od16 an16 : Option Addr} {sl16 : Array (Option Value)} {oc16 kV16 dc16 pm16 cd16 ct16 : Value}
    {f17 : Addr} {od17 an17 : Option Addr} {sl17 : Array (Option Value)} {oc17 kV17 dc17 pm17 cd17 ct17 : Value}
    {f18 : Addr} {od18 an18 : Option Addr} {sl18 : Array (Option Value)} {oc18 kV18 dc18 pm18 cd18 ct18 : Value}
    {tk1 : Tok}
    {tk2 : Tok}
    {tk3 : Tok}
    (a1 : PySem.W.nsIn K mainGlobals "twins" = some (some (.ref f1))) (l1 : K.lookup f1 = some ⟨oc1, od1, .func (PySem.W.fnOf "twins" "twins" (defArgs sTwins) (defBody sTwins) (defScope sTwins) .none kV1 dc1 pm1 an1 cd1 ct1), sl1⟩) (c1 : PySem.W.codeIn K cd1 "twins" = true) (k1 : PySem.W.keepIn K (.ref f1) = true)
    (a2 : PySem.W.nsIn K mainGlobals "is_net" = some (some (.ref f2))) (l2 : K.lookup f2 = some ⟨oc2, od2, .func (PySem.W.fnOf "is_net" "is_net" (defArgs sIsNet) (defBody sIsNet) (defScope sIsNet) .none kV2 dc2 pm2 an2 cd2 ct2), sl2⟩) (c2 : PySem.W.codeIn K cd2 "is_net" = true) (k2 : PySem.W.keepIn K (.ref f2) = true)
    (a3 : PySem.W.nsIn K mainGlobals "links_of" = some (some (.ref f3))) (l3 : K.lookup f3 = some ⟨oc3, od3, .func (PySem.W.fnOf "links_of" "links_of" (defArgs sLinks) (defBody sLinks) (defScope sLinks) .none kV3 dc3 pm3 an3 cd3 ct3), sl3⟩) (c3 : PySem.W.codeIn K cd3 "links_of" = true) (k3 : PySem.W.keepIn K (.ref f3) = true)
    (a4 : PySem.W.nsIn K mainGlobals "are_links" = some (some (.ref f4))) (l4 : K.lookup f4 = some ⟨oc4, od4, .func (PySem.W.fnOf "are_links" "are_links" (defArgs sAre) (defBody sAre) (defScope sAre) .none kV4 dc4 pm4 an4 cd4 ct4), sl4⟩) (c4 : PySem.W.codeIn K cd4 "are_links" = true) (k4 : PySem.W.keepIn K (.ref f4) = true)
    (a5 : PySem.W.nsIn K mainGlobals "exits_of" = some (some (.ref f5))) (l5 : K.lookup f5 = some ⟨oc5, od5, .func (PySem.W.fnOf "exits_of" "exits_of" (defArgs sExits) (defBody sExits) (defScope sExits) .none kV5 dc5 pm5 an5 cd5 ct5), sl5⟩) (c5 : PySem.W.codeIn K cd5 "exits_of" = true) (k5 : PySem.W.keepIn K (.ref f5) = true)
    (a6 : PySem.W.nsIn K mainGlobals "hangs_together" = some (some (.ref f6))) (l6 : K.lookup f6 = some ⟨oc6, od6, .func (PySem.W.fnOf "hangs_together" "hangs_together" (defArgs sHangs) (defBody sHangs) (defScope sHangs) .none kV6 dc6 pm6 an6 cd6 ct6), sl6⟩) (c6 : PySem.W.codeIn K cd6 "hangs_together" = true) (k6 : PySem.W.keepIn K (.ref f6) = true)
    (a7 : PySem.W.nsIn K mainGlobals "distances_from" = some (some (.ref f7))) (l7 : K.lookup f7 = some ⟨oc7, od7, .func (PySem.W.fnOf "distances_from" "distances_from" (defArgs sDist) (defBody sDist) (defScope sDist) .none kV7 dc7 pm7 an7 cd7 ct7), sl7⟩) (c7 : PySem.W.codeIn K cd7 "distances_from" = true) (k7 : PySem.W.keepIn K (.ref f7) = true)
    (a8 : PySem.W.nsIn K mainGlobals "distance" = some (some (.ref f8))) (l8 : K.lookup f8 = some ⟨oc8, od8, .func (PySem.W.fnOf "distance" "distance" (defArgs sDistance) (defBody sDistance) (defScope sDistance) .none kV8 dc8 pm8 an8 cd8 ct8), sl8⟩) (c8 : PySem.W.codeIn K cd8 "distance" = true) (k8 : PySem.W.keepIn K (.ref f8) = true)
    (a9 : PySem.W.nsIn K mainGlobals "most_exits" = some (some (.ref f9))) (l9 : K.lookup f9 = some ⟨oc9, od9, .func (PySem.W.fnOf "most_exits" "most_exits" (defArgs sMost) (defBody sMost) (defScope sMost) .none kV9 dc9 pm9 an9 cd9 ct9), sl9⟩) (c9 : PySem.W.codeIn K cd9 "most_exits" = true) (k9 : PySem.W.keepIn K (.ref f9) = true)
    (a10 : PySem.W.nsIn K mainGlobals "behind_letter" = some (some (.ref f10))) (l10 : K.lookup f10 = some ⟨oc10, od10, .func (PySem.W.fnOf "behind_letter" "behind_letter" (defArgs sBehind) (defBody sBehind) (defScope sBehind) .none kV10 dc10 pm10 an10 cd10 ct10), sl10⟩) (c10 : PySem.W.codeIn K cd10 "behind_letter" = true) (k10 : PySem.W.keepIn K (.ref f10) = true)
    (a11 : PySem.W.nsIn K mainGlobals "alike" = some (some (.ref f11))) (l11 : K.lookup f11 = some ⟨oc11, od11, .func (PySem.W.fnOf "alike" "alike" (defArgs sAlike) (defBody sAlike) (defScope sAlike) .none kV11 dc11 pm11 an11 cd11 ct11), sl11⟩) (c11 : PySem.W.codeIn K cd11 "alike" = true) (k11 : PySem.W.keepIn K (.ref f11) = true)
    (a12 : PySem.W.nsIn K mainGlobals "marks_one_step_on" = some (some (.ref f12))) (l12 : K.lookup f12 = some ⟨oc12, od12, .func (PySem.W.fnOf "marks_one_step_on" "marks_one_step_on" (defArgs sMarks) (defBody sMarks) (defScope sMarks) .none kV12 dc12 pm12 an12 cd12 ct12), sl12⟩) (c12 : PySem.W.codeIn K cd12 "marks_one_step_on" = true) (k12 : PySem.W.keepIn K (.ref f12) = true)
    (a13 : PySem.W.nsIn K mainGlobals "sight_from" = some (some (.ref f13))) (l13 : K.lookup f13 = some ⟨oc13, od13, .func (PySem.W.fnOf "sight_from" "sight_from" (defArgs sSight) (defBody sSight) (defScope sSight) .none kV13 dc13 pm13 an13 cd13 ct13), sl13⟩) (c13 : PySem.W.codeIn K cd13 "sight_from" = true) (k13 : PySem.W.keepIn K (.ref f13) = true)
    (a14 : PySem.W.nsIn K mainGlobals "twos_of_places" = some (some (.ref f14))) (l14 : K.lookup f14 = some ⟨oc14, od14, .func (PySem.W.fnOf "twos_of_places" "twos_of_places" (defArgs sTwos) (defBody sTwos) (defScope sTwos) .none kV14 dc14 pm14 an14 cd14 ct14), sl14⟩) (c14 : PySem.W.codeIn K cd14 "twos_of_places" = true) (k14 : PySem.W.keepIn K (.ref f14) = true)
    (a15 : PySem.W.nsIn K mainGlobals "kept_apart" = some (some (.ref f15))) (l15 : K.lookup f15 = some ⟨oc15, od15, .func (PySem.W.fnOf "kept_apart" "kept_apart" (defArgs sKept) (defBody sKept) (defScope sKept) .none kV15 dc15 pm15 an15 cd15 ct15), sl15⟩) (c15 : PySem.W.codeIn K cd15 "kept_apart" = true) (k15 : PySem.W.keepIn K (.ref f15) = true)
    (a16 : PySem.W.nsIn K mainGlobals "how_near" = some (some (.ref f16))) (l16 : K.lookup f16 = some ⟨oc16, od16, .func (PySem.W.fnOf "how_near" "how_near" (defArgs sHow) (defBody sHow) (defScope sHow) .none kV16 dc16 pm16 an16 cd16 ct16), sl16⟩) (c16 : PySem.W.codeIn K cd16 "how_near" = true) (k16 : PySem.W.keepIn K (.ref f16) = true)
    (a17 : PySem.W.nsIn K mainGlobals "words_to_states" = some (some (.ref f17))) (l17 : K.lookup f17 = some ⟨oc17, od17, .func (PySem.W.fnOf "words_to_states" "words_to_states" (defArgs sWords) (defBody sWords) (defScope sWords) .none kV17 dc17 pm17 an17 cd17 ct17), sl17⟩) (c17 : PySem.W.codeIn K cd17 "words_to_states" = true) (k17 : PySem.W.keepIn K (.ref f17) = true)
    (a18 : PySem.W.nsIn K mainGlobals "state_one_step_on" = some (some (.ref f18))) (l18 : K.lookup f18 = some ⟨oc18, od18, .func (PySem.W.fnOf "state_one_step_on" "state_one_step_on" (defArgs sStep) (defBody sStep) (defScope sStep) .none kV18 dc18 pm18 an18 cd18 ct18), sl18⟩) (c18 : PySem.W.codeIn K cd18 "state_one_step_on" = true) (k18 : PySem.W.keepIn K (.ref f18) = true)
    (n1 : PySem.W.nsIn K mainGlobals "NO_NET" = some (some (.int (-22) tk1)))
    (n2 : PySem.W.nsIn K mainGlobals "MOST_PLACES" = some (some (.int (7) tk2)))
    (n3 : PySem.W.nsIn K mainGlobals "MOST_LINKS" = some (some (.int (10) tk3)))
    (z1 : PySem.W.nsIn K mainGlobals "len" = some none)
    (z2 : PySem.W.nsIn K mainGlobals "range" = some none)
    (z3 : PySem.W.nsIn K mainGlobals "max" = some none)
    (z4 : PySem.W.nsIn K mainGlobals "list" = some none)
    (z5 : PySem.W.nsIn K mainGlobals "min" = some none) :
    ∃ fd : FuncData, (∀ (s : Shared) (us : List Value), us.length = (["n", "d", "net"] : List Str).length → BindsTo s fd ⟨us, []⟩ ((["n", "d", "net"] : List Str).zip us)) ∧ ∀ base : Heap, K.In base → base.Ns mainGlobals mg → FnOk P w K mg base CX0 6 fa fd ["n", "d", "net"] (spTwins K) := by
  have e := hfa.symm.trans (PySem.W.mg_of X G a1)
  cases e
  have F1 := fun_mk (st := sTwins) l1 c1 k1
  have F2 := fun_mk (st := sIsNet) l2 c2 k2
  have F3 := fun_mk (st := sLinks) l3 c3 k3
  have F4 := fun_mk (st := sAre) l4 c4 k4
  have F5 := fun_mk (st := sExits) l5 c5 k5
  have F6 := fun_mk (st := sHangs) l6 c6 k6
  have F7 := fun_mk (st := sDist) l7 c7 k7
  have F8 := fun_mk (st := sDistance) l8 c8 k8
  have F9 := fun_mk (st := sMost) l9 c9 k9
  have F10 := fun_mk (st := sBehind) l10 c10 k10
  have F11 := fun_mk (st := sAlike) l11 c11 k11
  have F12 := fun_mk (st := sMarks) l12 c12 k12
  have F13 := fun_mk (st := sSight) l13 c13 k13
  have F14 := fun_mk (st := sTwos) l14 c14 k14
  have F15 := fun_mk (st := sKept) l15 c15 k15
  have F16 := fun_mk (st := sHow) l16 c16 k16
  have F17 := fun_mk (st := sWords) l17 c17 k17
  have F18 := fun_mk (st := sStep) l18 c18 k18
  have b2 := F2.binds (ps := ["n", "net"]) fun _ _ _ _ _ _ us hl => match us, hl with | [_, _], _ => rfl
  have b3 := F3.binds (ps := ["net"]) fun _ _ _ _ _ _ us hl => match us, hl with | [_], _ => rfl
  have b4 := F4.binds (ps := ["n", "links"]) fun _ _ _ _ _ _ us hl => match us, hl with | [_, _], _ => rfl
  have b5 := F5.binds (ps := ["n", "net"]) fun _ _ _ _ _ _ us hl => match us, hl with | [_, _], _ => rfl
  have b6 := F6.binds (ps := ["exits"]) fun _ _ _ _ _ _ us hl => match us, hl with | [_], _ => rfl
  have b7 := F7.binds (ps := ["start", "exits"]) fun _ _ _ _ _ _ us hl => match us, hl with | [_, _], _ => rfl
  have b8 := F8.binds (ps := ["a", "b", "exits"]) fun _ _ _ _ _ _ us hl => match us, hl with | [_, _, _], _ => rfl
  have b9 := F9.binds (ps := ["exits"]) fun _ _ _ _ _ _ us hl => match us, hl with | [_], _ => rfl
  have b10 := F10.binds (ps := ["place", "letter", "exits"]) fun _ _ _ _ _ _ us hl => match us, hl with | [_, _, _], _ => rfl
  have b11 := F11.binds (ps := ["u", "v", "exits"]) fun _ _ _ _ _ _ us hl => match us, hl with | [_, _, _], _ => rfl
  have b12 := F12.binds (ps := ["marks", "exits"]) fun _ _ _ _ _ _ us hl => match us, hl with | [_, _], _ => rfl
  have b13 := F13.binds (ps := ["place", "marks", "exits"]) fun _ _ _ _ _ _ us hl => match us, hl with | [_, _, _], _ => rfl
  have b14 := F14.binds (ps := ["n"]) fun _ _ _ _ _ _ us hl => match us, hl with | [_], _ => rfl
  have b15 := F15.binds (ps := ["u", "v", "d", "exits"]) fun _ _ _ _ _ _ us hl => match us, hl with | [_, _, _, _], _ => rfl
  have b16 := F16.binds (ps := ["u", "v", "exits"]) fun _ _ _ _ _ _ us hl => match us, hl with | [_, _, _], _ => rfl
  have b17 := F17.binds (ps := ["u", "v", "d", "exits"]) fun _ _ _ _ _ _ us hl => match us, hl with | [_, _, _, _], _ => rfl
  have b18 := F18.binds (ps := ["state", "letter", "d", "exits"]) fun _ _ _ _ _ _ us hl => match us, hl with | [_, _, _, _], _ => rfl
  have T : TxtNet K mg _ _ _ _ _ _ _ _ _ _ := ⟨PySem.W.mg_none_of X G z1, PySem.W.mg_none_of X G z2, ⟨_, PySem.W.mg_of X G n2⟩, ⟨_, PySem.W.mg_of X G n3⟩, F3, b3, PySem.W.mg_of X G a3, F4, b4, PySem.W.mg_of X G a4, F5, b5, PySem.W.mg_of X G a5, F6, b6, PySem.W.mg_of X G a6, F7, b7, PySem.W.mg_of X G a7⟩
  have W : TxtWords K mg _ _ _ _ _ _ _ _ := ⟨PySem.W.mg_none_of X G z3, PySem.W.mg_none_of X G z4, F10, b10, PySem.W.mg_of X G a10, F17, b17, PySem.W.mg_of X G a17, F9, b9, PySem.W.mg_of X G a9, F18, b18, PySem.W.mg_of X G a18⟩
  have U : TxtAlike K mg _ _ _ _ _ _ _ _ _ _ := ⟨PySem.W.mg_none_of X G z5, F8, b8, PySem.W.mg_of X G a8, F11, b11, PySem.W.mg_of X G a11, F12, b12, PySem.W.mg_of X G a12, F13, b13, PySem.W.mg_of X G a13, F16, b16, PySem.W.mg_of X G a16⟩
  exact ⟨PySem.W.fnOf "twins" "twins" (defArgs sTwins) (defBody sTwins) (defScope sTwins) .none kV1 dc1 pm1 an1 cd1 ct1, fun s us hu => match us, hu with | [_, _, _], _ => .of_eq rfl, fun base _ _ => ok_twins F1 T W U ⟨_, PySem.W.mg_of X G n1⟩ F2 b2 (PySem.W.mg_of X G a2) F14 b14 (PySem.W.mg_of X G a14) F15 b15 (PySem.W.mg_of X G a15)⟩
theorem int_nat {z : Int} (h : PySem.W.Codec.inInt (Int.ofNat 0) (Int.ofNat 4294967295) z = true) : V.int z = vN z.toNat := by
  have := (Codec.inInt_iff.mp h).1
  have z0 : (0 : Int) ≤ z := this
  exact congrArg V.int (by omega)
theorem ints_nat : ∀ {l : List Int}, (l.all (PySem.W.Codec.inInt (Int.ofNat 0) (Int.ofNat 4294967295))) = true → l.map V.int = vNs (l.map Int.toNat)
  | [], _ => rfl
  | x :: r, h => by
    rw [List.all_cons, Bool.and_eq_true] at h
    show V.int x :: r.map V.int = vN x.toNat :: vNs (r.map Int.toNat)
    rw [int_nat h.1, ints_nat h.2]
end NP
open PySem PySem.W PyProof.Rows
set_option maxRecDepth 100000 in
set_option maxHeartbeats 8000000 in
theorem PySem.Challenge.cw_netmeeting_s06_twins_holds : PySem.Challenge.rw_netmeeting_s06_twins.Holds := by
  w_on; k_headS; (case hw => exact ⟨[.int 0, .int 0, .list []], by decide +kernel, by decide +kernel⟩)
  k_fillS
  refine L2.walk_specK (r := PySem.Challenge.rw_netmeeting_s06_twins) (k := 6) (CX := L2.CX0) (ps := ["n", "d", "net"]) (sp := NP.spTwins) (by decide +kernel) rfl rfl ⟨rfl, by decide, by decide⟩ (fun w h Y => PySem.W.kIn_of Y) ?F ?S (fun _ _ _ _ z => z)
  case F =>
    intro w mg fa h Y KX G hmg
    refine' NP.all_mk KX G hmg ?a1 ?l1 ?c1 ?k1 ?a2 ?l2 ?c2 ?k2 ?a3 ?l3 ?c3 ?k3 ?a4 ?l4 ?c4 ?k4 ?a5 ?l5 ?c5 ?k5 ?a6 ?l6 ?c6 ?k6 ?a7 ?l7 ?c7 ?k7 ?a8 ?l8 ?c8 ?k8 ?a9 ?l9 ?c9 ?k9 ?a10 ?l10 ?c10 ?k10 ?a11 ?l11 ?c11 ?k11 ?a12 ?l12 ?c12 ?k12 ?a13 ?l13 ?c13 ?k13 ?a14 ?l14 ?c14 ?k14 ?a15 ?l15 ?c15 ?k15 ?a16 ?l16 ?c16 ?k16 ?a17 ?l17 ?c17 ?k17 ?a18 ?l18 ?c18 ?k18 ?n1 ?n2 ?n3 ?z1 ?z2 ?z3 ?z4 ?z5
    (case a1 => k_is)
    (case l1 => k_is)
    (case c1 => k_is)
    (case k1 => k_is)
    (case a2 => k_is)
    (case l2 => k_is)
    (case c2 => k_is)
    (case k2 => k_is)
    (case a3 => k_is)
    (case l3 => k_is)
    (case c3 => k_is)
    (case k3 => k_is)
    (case a4 => k_is)
    (case l4 => k_is)
    (case c4 => k_is)
    (case k4 => k_is)
    (case a5 => k_is)
    (case l5 => k_is)
    (case c5 => k_is)
    (case k5 => k_is)
    (case a6 => k_is)
    (case l6 => k_is)
    (case c6 => k_is)
    (case k6 => k_is)
    (case a7 => k_is)
    (case l7 => k_is)
    (case c7 => k_is)
    (case k7 => k_is)
    (case a8 => k_is)
    (case l8 => k_is)
    (case c8 => k_is)
    (case k8 => k_is)
    (case a9 => k_is)
    (case l9 => k_is)
    (case c9 => k_is)
    (case k9 => k_is)
    (case a10 => k_is)
    (case l10 => k_is)
    (case c10 => k_is)
    (case k10 => k_is)
    (case a11 => k_is)
    (case l11 => k_is)
    (case c11 => k_is)
    (case k11 => k_is)
    (case a12 => k_is)
    (case l12 => k_is)
    (case c12 => k_is)
    (case k12 => k_is)
    (case a13 => k_is)
    (case l13 => k_is)
    (case c13 => k_is)
    (case k13 => k_is)
    (case a14 => k_is)
    (case l14 => k_is)
    (case c14 => k_is)
    (case k14 => k_is)
    (case a15 => k_is)
    (case l15 => k_is)
    (case c15 => k_is)
    (case k15 => k_is)
    (case a16 => k_is)
    (case l16 => k_is)
    (case c16 => k_is)
    (case k16 => k_is)
    (case a17 => k_is)
    (case l17 => k_is)
    (case c17 => k_is)
    (case k17 => k_is)
    (case a18 => k_is)
    (case l18 => k_is)
    (case c18 => k_is)
    (case k18 => k_is)
    (case n1 => k_is)
    (case n2 => k_is)
    (case n3 => k_is)
    (case z1 => k_is)
    (case z2 => k_is)
    (case z3 => k_is)
    (case z4 => k_is)
    (case z5 => k_is)
  case S =>
    intro K H xs a hO hwi hask hx
    cases hx with
    | cons h1 hx =>
    cases hx with
    | cons h4 hx =>
    cases hx with
    | cons h5 hx =>
    cases hx
    cases h1
    cases h4
    cases h5 with
    | @lst p5 xs5 ds5 hs5 ha5 =>
    have e5 := L2.ints_dw a.2.2.1 _ ha5
    subst e5
    have q : (Codec.inInt (Int.ofNat 0) (Int.ofNat 4294967295) a.1 && (Codec.inInt (Int.ofNat 0) (Int.ofNat 4294967295) a.2.1 && ((Codec.inLen 0 24 a.2.2.1 && a.2.2.1.all (Codec.inInt (Int.ofNat 0) (Int.ofNat 4294967295))) && true))) = true := hwi
    simp only [Bool.and_eq_true] at q
    obtain ⟨q1, q4, ⟨q5, q5'⟩, _⟩ := q
    refine ⟨a.1.toNat, a.2.1.toNat, p5, a.2.2.1.map Int.toNat, ?_, ?_, ?_, fun H' p hp => ?_⟩
    · rw [← NP.int_nat q1, ← NP.int_nat q4]
    · rw [← NP.ints_nat q5']
      exact hs5
    · rw [List.length_map]
      exact (Codec.inNat_iff.mp q5).2
    · exact .lst (L2.SqL.of hp) (L2.dw_ints _)
#print axioms PySem.Challenge.cw_netmeeting_s06_twins_holds
