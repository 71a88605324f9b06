import PyProof.Rows.All
import Wide.All
import OpenK.AllK
import Wide.FinOn
import PyProof.EqAt
import PyProof.EqKinds
import PyProof.TupleCall
import KE.KDictKeyed
import KE.KeyNested
import KE.KDictDisplayH
import KE.DataMinMax
import KE.DatumOrd
import HandS.ForSpec
import HandS.Dict
import HandS.Iter
import HandS.Comp
import HandS.Walk
import HandS.SortKw
import HandS.TupLen
import HandS.TupAny
import HandS.TupMul
import HandS.Rev
import HandS.RevTup
import Open.SpecLaws
import KE.OsGo
import PySem.Challenge.RW_tubedrops_s01_answers
set_option Elab.async false
set_option linter.all false
set_option maxRecDepth 100000
set_option maxHeartbeats 4000000
/-! Mathematics, part A: shortlex order of paths; the search in breadth. -/
namespace Tb
open Sy71

abbrev Mv := Nat × Nat
abbrev Path := List Mv
def mlt (a b : Mv) : Prop := a.1 < b.1 ∨ (a.1 = b.1 ∧ a.2 < b.2)
def llt : Path → Path → Prop
  | [], _ => False
  | _ :: _, [] => False
  | x :: xs, y :: ys => mlt x y ∨ (x = y ∧ llt xs ys)
def slt (P Q : Path) : Prop := P.length < Q.length ∨ (P.length = Q.length ∧ llt P Q)
def sle (P Q : Path) : Prop := P = Q ∨ slt P Q

theorem mlt_irrefl {a : Mv} (h : mlt a a) : False := by
  unfold mlt at h; omega
theorem mlt_trans {a b c : Mv} (h : mlt a b) (k : mlt b c) : mlt a c := by
  unfold mlt at *; omega
theorem llt_irrefl : ∀ {P : Path}, llt P P → False
  | [], h => h
  | x :: xs, h => by
    rcases h with h | ⟨_, h⟩
    · exact mlt_irrefl h
    · exact llt_irrefl h
theorem llt_trans : ∀ {P Q R : Path}, llt P Q → llt Q R → llt P R
  | [], _, _, h, _ => h.elim
  | _ :: _, [], _, h, _ => h.elim
  | _ :: _, _ :: _, [], _, k => k.elim
  | x :: xs, y :: ys, z :: zs, h, k => by
    rcases h with h | ⟨rfl, h⟩
    · rcases k with k | ⟨rfl, k⟩
      · exact .inl (mlt_trans h k)
      · exact .inl h
    · rcases k with k | ⟨rfl, k⟩
      · exact .inl k
      · exact .inr ⟨rfl, llt_trans h k⟩
theorem slt_irrefl {P : Path} (h : slt P P) : False := by
  rcases h with h | ⟨_, h⟩
  · omega
  · exact llt_irrefl h
theorem slt_trans {P Q R : Path} (h : slt P Q) (k : slt Q R) : slt P R := by
  rcases h with h | ⟨e, h⟩
  · rcases k with k | ⟨e', k⟩
    · exact .inl (by omega)
    · exact .inl (by omega)
  · rcases k with k | ⟨e', k⟩
    · exact .inl (by omega)
    · exact .inr ⟨e.trans e', llt_trans h k⟩
theorem sle_trans {P Q R : Path} (h : sle P Q) (k : sle Q R) : sle P R := by
  rcases h with rfl | h
  · exact k
  · rcases k with rfl | k
    · exact .inr h
    · exact .inr (slt_trans h k)
theorem sle_antisymm {P Q : Path} (h : sle P Q) (k : sle Q P) : P = Q := by
  rcases h with rfl | h
  · rfl
  · rcases k with rfl | k
    · rfl
    · exact (slt_irrefl (slt_trans h k)).elim
theorem sle_length {P Q : Path} (h : sle P Q) : P.length ≤ Q.length := by
  rcases h with rfl | h | ⟨h, _⟩ <;> omega
theorem llt_snoc (a b : Mv) : ∀ {P Q : Path}, P.length = Q.length → llt P Q → llt (P ++ [a]) (Q ++ [b])
  | [], _, _, h => h.elim
  | _ :: _, [], _, h => h.elim
  | x :: xs, y :: ys, e, h => by
    rcases h with h | ⟨rfl, h⟩
    · exact .inl h
    · exact .inr ⟨rfl, llt_snoc a b (by simpa using e) h⟩
theorem slt_snoc {P Q : Path} (a b : Mv) (h : slt P Q) : slt (P ++ [a]) (Q ++ [b]) := by
  rcases h with h | ⟨e, h⟩
  · exact .inl (by simp; omega)
  · exact .inr ⟨by simp [e], llt_snoc a b e h⟩
theorem sle_snoc {P Q : Path} (a : Mv) (h : sle P Q) : sle (P ++ [a]) (Q ++ [a]) := by
  rcases h with rfl | h
  · exact .inl rfl
  · exact .inr (slt_snoc a a h)
theorem llt_last {a b : Mv} (h : mlt a b) : ∀ (P : Path), llt (P ++ [a]) (P ++ [b])
  | [] => .inl h
  | _ :: xs => .inr ⟨rfl, llt_last h xs⟩
theorem slt_last {a b : Mv} (P : Path) (h : mlt a b) : slt (P ++ [a]) (P ++ [b]) := .inr ⟨by simp, llt_last h P⟩

/-! ### paths -/
def runs (n : Nat) : Rack → Path → Option Rack
  | r, [] => some r
  | r, x :: p => (poured n r x.1 x.2).bind fun u => runs n u p
theorem runs_append (n : Nat) : ∀ (p q : Path) (r : Rack), runs n r (p ++ q) = (runs n r p).bind fun u => runs n u q
  | [], _, _ => rfl
  | x :: p, q, r => by
    show (poured n r x.1 x.2).bind (fun u => runs n u (p ++ q)) = ((poured n r x.1 x.2).bind fun u => runs n u p).bind fun u => runs n u q
    cases poured n r x.1 x.2 with
    | none => rfl
    | some u => exact runs_append n p q u
theorem runs_snoc (n : Nat) (p : Path) (x : Mv) (r : Rack) : runs n r (p ++ [x]) = (runs n r p).bind fun u => poured n u x.1 x.2 := by
  rw [runs_append]
  congr 1
  funext u
  show (poured n u x.1 x.2).bind (fun v => some v) = _
  cases poured n u x.1 x.2 <;> rfl
theorem poured_some {n : Nat} {r u : Rack} {i j : Nat} (h : poured n r i j = some u) : i < r.length ∧ j < r.length ∧ i ≠ j ∧ goes n (r.getD i []) (r.getD j []) ≠ 0 ∧
    u = (r.set i ((r.getD i []).drop (goes n (r.getD i []) (r.getD j [])))).set j ((r.getD i []).take (goes n (r.getD i []) (r.getD j [])) ++ r.getD j []) := by
  unfold poured at h
  by_cases c : r.length ≤ i ∨ r.length ≤ j ∨ i = j ∨ goes n (r.getD i []) (r.getD j []) = 0
  · simp only [c, if_true] at h; cases h
  · simp only [c, if_false] at h
    injection h with h
    refine ⟨by omega, by omega, by omega, by omega, h.symm⟩
theorem poured_length {n : Nat} {r u : Rack} {i j : Nat} (h : poured n r i j = some u) : u.length = r.length := by
  obtain ⟨_, _, _, _, e⟩ := poured_some h
  rw [e]; simp
theorem mem_moves {r : Rack} {x : Mv} : x ∈ moves r ↔ x.1 < r.length ∧ x.2 < r.length := by
  unfold moves
  simp only [List.mem_flatMap, List.mem_range, List.mem_map]
  constructor
  · rintro ⟨i, hi, j, hj, rfl⟩; exact ⟨hi, hj⟩
  · rintro ⟨hi, hj⟩; exact ⟨x.1, hi, x.2, hj, rfl⟩
theorem poured_moves {n : Nat} {r u : Rack} {x : Mv} (h : poured n r x.1 x.2 = some u) : x ∈ moves r := by
  obtain ⟨a, b, _⟩ := poured_some h
  exact mem_moves.mpr ⟨a, b⟩
theorem moves_inc (r : Rack) : (moves r).Pairwise mlt := by
  unfold moves
  rw [List.pairwise_flatMap]
  refine ⟨fun i _ => ?_, ?_⟩
  · rw [List.pairwise_map]
    exact List.Pairwise.imp (fun h => .inr ⟨rfl, h⟩) List.pairwise_lt_range
  · refine List.Pairwise.imp (fun {a b} h => ?_) List.pairwise_lt_range
    intro x hx y hy
    simp only [List.mem_map] at hx hy
    obtain ⟨_, _, rfl⟩ := hx
    obtain ⟨_, _, rfl⟩ := hy
    exact .inl h

/-! ### the search -/
abbrev Ways := List (Rack × Path)
def known (W : Ways) (r : Rack) : Bool := (W.map (·.1)).contains r
def wayOf (W : Ways) (r : Rack) : Path := ((W.find? fun p => p.1 == r).map (·.2)).getD []
def outs (n : Nat) (r : Rack) : List (Mv × Rack) := (moves r).filterMap fun x => (poured n r x.1 x.2).map fun u => (x, u)
def add1 (P : Path) (W : Ways) (x : Mv × Rack) : Ways := if known W x.2 = true then W else W ++ [(x.2, P ++ [x.1])]
def expand (n : Nat) (W : Ways) (r : Rack) : Ways := (outs n r).foldl (add1 (wayOf W r)) W
def search (n : Nat) : Nat → Ways → Nat → Option Ways
  | 0, _, _ => none
  | f + 1, W, g => match W[g]? with
    | none => some W
    | some p => if 300 < (expand n W p.1).length then none else search n f (expand n W p.1) (g + 1)
def ways (n : Nat) (r : Rack) : Option Ways := search n 302 [(r, [])] 0

theorem known_iff {W : Ways} {r : Rack} : known W r = true ↔ ∃ p ∈ W, p.1 = r := by
  unfold known
  simp only [List.contains_iff_mem, List.mem_map]
theorem mem_outs {n : Nat} {r : Rack} {x : Mv × Rack} : x ∈ outs n r ↔ poured n r x.1.1 x.1.2 = some x.2 := by
  unfold outs
  rw [List.mem_filterMap]
  constructor
  · rintro ⟨y, _, h⟩
    cases e : poured n r y.1 y.2 with
    | none => rw [e] at h; cases h
    | some u => rw [e] at h; cases h; exact e
  · intro h
    refine ⟨x.1, poured_moves h, ?_⟩
    rw [h]; rfl
theorem outs_inc (n : Nat) (r : Rack) : (outs n r).Pairwise fun a b => mlt a.1 b.1 := by
  unfold outs
  refine List.Pairwise.filterMap _ (fun a a' h b hb b' hb' => ?_) (moves_inc r)
  cases e : poured n r a.1 a.2 with
  | none => rw [e] at hb; cases hb
  | some u =>
    cases e' : poured n r a'.1 a'.2 with
    | none => rw [e'] at hb'; cases hb'
    | some u' => rw [e] at hb; rw [e'] at hb'; cases hb; cases hb'; exact h
theorem wayOf_mem {W : Ways} (h : (W.map (·.1)).Nodup) {p : Rack × Path} (hp : p ∈ W) : wayOf W p.1 = p.2 := by
  unfold wayOf
  induction W with
  | nil => cases hp
  | cons q W ih =>
    rw [List.map_cons, List.nodup_cons] at h
    rw [List.find?_cons]
    rcases List.mem_cons.mp hp with rfl | hp
    · simp
    · have : (q.1 == p.1) = false := by
        rw [beq_eq_false_iff_ne]
        intro e
        exact h.1 (e ▸ List.mem_map_of_mem hp)
      rw [this]
      exact ih h.2 hp
theorem fold_add (P : Path) : ∀ (l : List (Mv × Rack)) (W : Ways), l.Pairwise (fun a b => mlt a.1 b.1) → W.Pairwise (fun a b => slt a.2 b.2) → (W.map (·.1)).Nodup →
    (∀ p ∈ W, ∀ x ∈ l, slt p.2 (P ++ [x.1])) →
    ∃ N, l.foldl (add1 P) W = W ++ N ∧ (W ++ N).Pairwise (fun a b => slt a.2 b.2) ∧ ((W ++ N).map (·.1)).Nodup ∧ (∀ p ∈ N, ∃ x ∈ l, p = (x.2, P ++ [x.1])) ∧ ∀ x ∈ l, ∃ p ∈ W ++ N, p.1 = x.2 ∧ sle p.2 (P ++ [x.1])
  | [], W, _, hi, hn, _ => ⟨[], by simp, by simpa using hi, by simpa using hn, by simp, by simp⟩
  | x :: l, W, hl, hi, hn, hc => by
    rw [List.pairwise_cons] at hl
    rw [List.foldl_cons]
    by_cases k : known W x.2 = true
    · have e : add1 P W x = W := if_pos k
      rw [e]
      obtain ⟨N, h1, h2, h3, h4, h5⟩ := fold_add P l W hl.2 hi hn fun p hp y hy => hc p hp y (List.mem_cons_of_mem _ hy)
      refine ⟨N, h1, h2, h3, fun p hp => ?_, fun y hy => ?_⟩
      · obtain ⟨y, hy, q⟩ := h4 p hp
        exact ⟨y, List.mem_cons_of_mem _ hy, q⟩
      · rcases List.mem_cons.mp hy with rfl | hy
        · obtain ⟨p, hp, q⟩ := known_iff.mp k
          exact ⟨p, List.mem_append_left _ hp, q, .inr (hc p hp y List.mem_cons_self)⟩
        · exact h5 y hy
    · have e : add1 P W x = W ++ [(x.2, P ++ [x.1])] := if_neg k
      rw [e]
      have hi' : (W ++ [(x.2, P ++ [x.1])]).Pairwise (fun a b => slt a.2 b.2) := by
        rw [List.pairwise_append]
        refine ⟨hi, by simp, fun a ha b hb => ?_⟩
        simp at hb
        subst hb
        exact hc a ha x List.mem_cons_self
      have hn' : ((W ++ [(x.2, P ++ [x.1])]).map (·.1)).Nodup := by
        rw [List.map_append, List.nodup_append]
        refine ⟨hn, by simp, fun a ha b hb => ?_⟩
        simp at hb
        subst hb
        intro e
        subst e
        exact k (known_iff.mpr (by simpa using ha))
      obtain ⟨N, h1, h2, h3, h4, h5⟩ := fold_add P l (W ++ [(x.2, P ++ [x.1])]) hl.2 hi' hn' fun p hp y hy => by
        rcases List.mem_append.mp hp with hp | hp
        · exact hc p hp y (List.mem_cons_of_mem _ hy)
        · simp at hp
          subst hp
          exact slt_last P (hl.1 y hy)
      refine ⟨(x.2, P ++ [x.1]) :: N, by rw [h1]; simp, by simpa using h2, by simpa using h3, fun p hp => ?_, fun y hy => ?_⟩
      · rcases List.mem_cons.mp hp with rfl | hp
        · exact ⟨x, List.mem_cons_self, rfl⟩
        · obtain ⟨y, hy, q⟩ := h4 p hp
          exact ⟨y, List.mem_cons_of_mem _ hy, q⟩
      · rcases List.mem_cons.mp hy with rfl | hy
        · exact ⟨(y.2, P ++ [y.1]), by simp, rfl, .inl rfl⟩
        · obtain ⟨p, hp, q⟩ := h5 y hy
          exact ⟨p, by simpa using hp, q⟩

structure Bf (n : Nat) (r0 : Rack) (W : Ways) (g : Nat) : Prop where
  root : W[0]? = some (r0, [])
  inc : W.Pairwise fun a b => slt a.2 b.2
  nod : (W.map (·.1)).Nodup
  val : ∀ p ∈ W, runs n r0 p.2 = some p.1
  src : ∀ p ∈ W, p.2 = [] ∨ ∃ (j : Nat) (q : Rack × Path) (x : Mv), j < g ∧ W[j]? = some q ∧ p.2 = q.2 ++ [x]
  clo : ∀ (j : Nat) (q : Rack × Path) (x : Mv) (u : Rack), j < g → W[j]? = some q → poured n q.1 x.1 x.2 = some u → ∃ p ∈ W, p.1 = u ∧ sle p.2 (q.2 ++ [x])
theorem Bf.start (n : Nat) (r0 : Rack) : Bf n r0 [(r0, [])] 0 where
  root := rfl
  inc := by simp
  nod := by simp
  val := by simp [runs]
  src := by simp
  clo := fun j q x u h => by omega
theorem Bf.turn {n : Nat} {r0 : Rack} {W : Ways} {g : Nat} {p : Rack × Path} (b : Bf n r0 W g) (hp : W[g]? = some p) : Bf n r0 (expand n W p.1) (g + 1) := by
  have hm : p ∈ W := List.mem_of_getElem? hp
  have gl : g < W.length := (List.getElem?_eq_some_iff.mp hp).1
  unfold expand
  rw [wayOf_mem b.nod hm]
  obtain ⟨N, h1, h2, h3, h4, h5⟩ := fold_add p.2 (outs n p.1) W (outs_inc n p.1) b.inc b.nod fun a ha x _ => by
    rcases b.src a ha with e | ⟨j, q, y, hj, hq, e⟩
    · rw [e]; exact .inl (by simp)
    · rw [e]
      refine slt_snoc _ _ ?_
      have := List.pairwise_iff_getElem.mp b.inc j g (by omega) gl hj
      rw [List.getElem?_eq_some_iff] at hq hp
      obtain ⟨_, hq⟩ := hq
      obtain ⟨_, hp⟩ := hp
      rw [hq, hp] at this
      exact this
  rw [h1]
  have lt : ∀ (j : Nat), j < W.length → (W ++ N)[j]? = W[j]? := fun j hj => List.getElem?_append_left hj
  refine ⟨?_, h2, h3, fun a ha => ?_, fun a ha => ?_, fun j q x u hj hq hx => ?_⟩
  · rw [lt 0 (by omega)]; exact b.root
  · rcases List.mem_append.mp ha with ha | ha
    · exact b.val a ha
    · obtain ⟨x, hx, rfl⟩ := h4 a ha
      rw [runs_snoc, b.val p hm]
      exact mem_outs.mp hx
  · rcases List.mem_append.mp ha with ha | ha
    · rcases b.src a ha with e | ⟨j, q, y, hj, hq, e⟩
      · exact .inl e
      · exact .inr ⟨j, q, y, by omega, by rw [lt j (by omega)]; exact hq, e⟩
    · obtain ⟨x, hx, rfl⟩ := h4 a ha
      exact .inr ⟨g, p, x.1, by omega, by rw [lt g gl]; exact hp, rfl⟩
  · have hj' : j < W.length := by omega
    rw [lt j hj'] at hq
    by_cases e : j = g
    · subst e
      rw [hp] at hq
      cases hq
      exact h5 (x, u) (mem_outs.mpr hx)
    · obtain ⟨a, ha, q⟩ := b.clo j q x u (by omega) hq hx
      exact ⟨a, List.mem_append_left _ ha, q⟩
theorem Bf.all {n : Nat} {r0 : Rack} {W : Ways} (b : Bf n r0 W W.length) : ∀ (k : Nat) (Q : Path) (v : Rack), Q.length = k → runs n r0 Q = some v → ∃ p ∈ W, p.1 = v ∧ sle p.2 Q := by
  intro k
  induction k with
  | zero =>
    intro Q v hl h
    have e : Q = [] := List.eq_nil_of_length_eq_zero hl
    subst e
    have e : r0 = v := Option.some.inj h
    subst e
    exact ⟨(r0, []), List.mem_of_getElem? b.root, rfl, .inl rfl⟩
  | succ k ih =>
    intro Q v hl h
    rcases List.eq_nil_or_concat Q with rfl | ⟨Q', x, rfl⟩
    · simp at hl
    · rw [List.concat_eq_append] at h hl ⊢
      rw [runs_snoc] at h
      cases e : runs n r0 Q' with
      | none => rw [e] at h; cases h
      | some u =>
        rw [e] at h
        obtain ⟨p, hp, e1, l1⟩ := ih Q' u (by simpa using hl) e
        obtain ⟨j, hj, ej⟩ := List.mem_iff_getElem.mp hp
        obtain ⟨p', hp', e2, l2⟩ := b.clo j p x v hj (by rw [List.getElem?_eq_some_iff]; exact ⟨hj, ej⟩) (by rw [e1]; exact h)
        exact ⟨p', hp', e2, sle_trans l2 (sle_snoc x l1)⟩
theorem search_some {n : Nat} {r0 : Rack} : ∀ (f : Nat) (W W' : Ways) (g : Nat), Bf n r0 W g → g ≤ W.length → W.length ≤ 300 → search n f W g = some W' → Bf n r0 W' W'.length ∧ W'.length ≤ 300
  | 0, _, _, _, _, _, _, h => by cases h
  | f + 1, W, W', g, b, hg, hl, h => by
    unfold search at h
    cases e : W[g]? with
    | none =>
      rw [e] at h
      cases h
      have : g = W.length := by
        have := List.getElem?_eq_none_iff.mp e
        omega
      subst this
      exact ⟨b, hl⟩
    | some p =>
      rw [e] at h
      by_cases c : 300 < (expand n W p.1).length
      · simp only [c, if_true] at h; cases h
      · simp only [c, if_false] at h
        have b' := b.turn e
        have gl : g < W.length := (List.getElem?_eq_some_iff.mp e).1
        refine search_some f _ W' (g + 1) b' ?_ (by omega) h
        have : W.length ≤ (expand n W p.1).length := by
          unfold expand
          have : ∀ (l : List (Mv × Rack)) (P : Path) (V : Ways), V.length ≤ (l.foldl (add1 P) V).length := by
            intro l P
            induction l with
            | nil => intro V; exact Nat.le_refl _
            | cons x l ih =>
              intro V
              rw [List.foldl_cons]
              refine Nat.le_trans ?_ (ih _)
              unfold add1
              split
              · exact Nat.le_refl _
              · simp
          exact this _ _ _
        omega
theorem search_none {n : Nat} {r0 : Rack} : ∀ (f : Nat) (W : Ways) (g : Nat), Bf n r0 W g → g ≤ W.length → W.length ≤ 300 → 302 ≤ f + g → search n f W g = none → ∃ (W' : Ways) (g' : Nat), Bf n r0 W' g' ∧ 300 < W'.length
  | 0, W, g, _, hg, hl, hf, _ => by omega
  | f + 1, W, g, b, hg, hl, hf, h => by
    unfold search at h
    cases e : W[g]? with
    | none => rw [e] at h; cases h
    | some p =>
      rw [e] at h
      have b' := b.turn e
      by_cases c : 300 < (expand n W p.1).length
      · exact ⟨_, _, b', c⟩
      · simp only [c, if_false] at h
        have gl : g < W.length := (List.getElem?_eq_some_iff.mp e).1
        refine search_none f _ (g + 1) b' ?_ (by omega) (by omega) h
        have : W.length ≤ (expand n W p.1).length := by
          unfold expand
          have : ∀ (l : List (Mv × Rack)) (P : Path) (V : Ways), V.length ≤ (l.foldl (add1 P) V).length := by
            intro l P
            induction l with
            | nil => intro V; exact Nat.le_refl _
            | cons x l ih =>
              intro V
              rw [List.foldl_cons]
              refine Nat.le_trans ?_ (ih _)
              unfold add1
              split
              · exact Nat.le_refl _
              · simp
          exact this _ _ _
        omega
end Tb
/-! Mathematics, part B: what the specification grows, its levels, its plan. -/
namespace Tb
open Sy71

theorem mem_nexts {n : Nat} {r u : Rack} : u ∈ nexts n r ↔ ∃ x : Mv, poured n r x.1 x.2 = some u := by
  unfold nexts
  rw [List.mem_filterMap]
  constructor
  · rintro ⟨x, _, h⟩; exact ⟨x, h⟩
  · rintro ⟨x, h⟩; exact ⟨x, poured_moves h, h⟩
def Rc (n : Nat) (r v : Rack) : Prop := ∃ Q, runs n r Q = some v
theorem Rc.refl (n : Nat) (r : Rack) : Rc n r r := ⟨[], rfl⟩
theorem Rc.next {n : Nat} {r v u : Rack} (h : Rc n r v) (k : u ∈ nexts n v) : Rc n r u := by
  obtain ⟨Q, e⟩ := h
  obtain ⟨x, q⟩ := mem_nexts.mp k
  exact ⟨Q ++ [x], by rw [runs_snoc, e]; exact q⟩
theorem Rc.head {n : Nat} {r v u : Rack} (k : u ∈ nexts n r) (h : Rc n u v) : Rc n r v := by
  obtain ⟨Q, e⟩ := h
  obtain ⟨x, q⟩ := mem_nexts.mp k
  exact ⟨x :: Q, by show (poured n r x.1 x.2).bind _ = _; rw [q]; exact e⟩
def Closed (n : Nat) (S : List Rack) : Prop := ∀ r ∈ S, ∀ u ∈ nexts n r, u ∈ S
theorem Closed.rc {n : Nat} {S : List Rack} (c : Closed n S) : ∀ (Q : Path) (r v : Rack), r ∈ S → runs n r Q = some v → v ∈ S
  | [], r, v, hr, h => by cases h; exact hr
  | x :: Q, r, v, hr, h => by
    have h' : (poured n r x.1 x.2).bind (fun u => runs n u Q) = some v := h
    cases e : poured n r x.1 x.2 with
    | none => rw [e] at h'; cases h'
    | some u => rw [e] at h'; exact c.rc Q u v (c r hr u (mem_nexts.mpr ⟨x, e⟩)) h'

/-! ### grown -/
theorem fresh_fold (seen : List Rack) : ∀ (l m : List Rack), m.Nodup → (∀ r ∈ m, r ∉ seen) →
    (l.foldl (fun (m : List Rack) (r : Rack) => if seen.contains r = true ∨ m.contains r = true then m else m ++ [r]) m).Nodup ∧
    (∀ r, r ∈ l.foldl (fun (m : List Rack) (r : Rack) => if seen.contains r = true ∨ m.contains r = true then m else m ++ [r]) m ↔ r ∈ m ∨ (r ∈ l ∧ r ∉ seen))
  | [], m, h, _ => ⟨h, fun r => by simp⟩
  | x :: l, m, h, d => by
    rw [List.foldl_cons]
    by_cases c : seen.contains x = true ∨ m.contains x = true
    · rw [if_pos c]
      obtain ⟨h1, h2⟩ := fresh_fold seen l m h d
      refine ⟨h1, fun r => ?_⟩
      rw [h2 r]
      simp only [List.contains_iff_mem] at c
      constructor
      · rintro (q | ⟨q, q'⟩)
        · exact .inl q
        · exact .inr ⟨List.mem_cons_of_mem _ q, q'⟩
      · rintro (q | ⟨q, q'⟩)
        · exact .inl q
        · rcases List.mem_cons.mp q with rfl | q
          · rcases c with c | c
            · exact absurd c q'
            · exact .inl c
          · exact .inr ⟨q, q'⟩
    · rw [if_neg c]
      simp only [List.contains_iff_mem, not_or] at c
      obtain ⟨h1, h2⟩ := fresh_fold seen l (m ++ [x]) (by
        rw [List.nodup_append]
        refine ⟨h, by simp, fun a ha b hb => ?_⟩
        simp at hb
        subst hb
        intro e
        subst e
        exact c.2 ha) (fun r hr => by
        rcases List.mem_append.mp hr with q | q
        · exact d r q
        · simp at q; subst q; exact c.1)
      refine ⟨h1, fun r => ?_⟩
      rw [h2 r, List.mem_append]
      constructor
      · rintro ((q | q) | ⟨q, q'⟩)
        · exact .inl q
        · simp at q; subst q; exact .inr ⟨List.mem_cons_self, c.1⟩
        · exact .inr ⟨List.mem_cons_of_mem _ q, q'⟩
      · rintro (q | ⟨q, q'⟩)
        · exact .inl (.inl q)
        · rcases List.mem_cons.mp q with rfl | q
          · exact .inl (.inr (by simp))
          · exact .inr ⟨q, q'⟩
theorem fresh_nodup (l seen : List Rack) : (fresh l seen).Nodup := (fresh_fold seen l [] List.nodup_nil (by simp)).1
theorem mem_fresh {l seen : List Rack} {r : Rack} : r ∈ fresh l seen ↔ r ∈ l ∧ r ∉ seen := by
  have := (fresh_fold seen l [] List.nodup_nil (by simp)).2 r
  simpa [fresh] using this
theorem grown_spec {n : Nat} {r0 : Rack} : ∀ (f : Nat) (now seen : List Rack), seen.Nodup → r0 ∈ seen → (∀ r ∈ seen, Rc n r0 r) → (∀ r ∈ now, r ∈ seen) → (∀ r ∈ seen, r ∉ now → ∀ u ∈ nexts n r, u ∈ seen) → (now = [] ∨ 303 ≤ f + seen.length) →
    (grown n f now seen).Nodup ∧ r0 ∈ grown n f now seen ∧ (∀ r ∈ grown n f now seen, Rc n r0 r) ∧ (300 < (grown n f now seen).length ∨ Closed n (grown n f now seen))
  | 0, now, seen, h1, h2, h3, h4, h5, h6 => by
    refine ⟨h1, h2, h3, ?_⟩
    rcases h6 with rfl | h6
    · exact .inr fun r hr => h5 r hr (by simp)
    · refine .inl ?_
      show 300 < seen.length
      omega
  | f + 1, now, seen, h1, h2, h3, h4, h5, h6 => by
    by_cases c : now.isEmpty = true ∨ MANY < seen.length
    · have e : grown n (f + 1) now seen = seen := if_pos c
      rw [e]
      refine ⟨h1, h2, h3, ?_⟩
      rcases c with c | c
      · have e : now = [] := List.isEmpty_iff.mp c
        subst e
        exact .inr fun r hr => h5 r hr (by simp)
      · exact .inl c
    · have e : grown n (f + 1) now seen = grown n f (fresh (now.flatMap (nexts n)) seen) (seen ++ fresh (now.flatMap (nexts n)) seen) := if_neg c
      rw [e]
      have nl := fresh_nodup (now.flatMap (nexts n)) seen
      have ml := @mem_fresh (now.flatMap (nexts n)) seen
      refine grown_spec f _ _ ?_ (List.mem_append_left _ h2) (fun r hr => ?_) (fun r hr => List.mem_append_right _ hr) (fun r hr hn u hu => ?_) ?_
      · rw [List.nodup_append]
        refine ⟨h1, nl, fun a ha b hb e => ?_⟩
        subst e
        exact (ml.mp hb).2 ha
      · rcases List.mem_append.mp hr with q | q
        · exact h3 r q
        · obtain ⟨q, _⟩ := ml.mp q
          obtain ⟨v, hv, hu⟩ := List.mem_flatMap.mp q
          exact (h3 v (h4 v hv)).next hu
      · have hs : r ∈ seen := by
          rcases List.mem_append.mp hr with q | q
          · exact q
          · exact absurd q hn
        by_cases hw : r ∈ now
        · by_cases hx : u ∈ seen
          · exact List.mem_append_left _ hx
          · exact List.mem_append_right _ (ml.mpr ⟨List.mem_flatMap.mpr ⟨r, hw, hu⟩, hx⟩)
        · exact List.mem_append_left _ (h5 r hs hw u hu)
      · rcases h6 with rfl | h6
        · exact absurd (.inl rfl) c
        · rw [List.length_append]
          cases hl : fresh (now.flatMap (nexts n)) seen with
          | nil => exact .inl rfl
          | cons a b => exact .inr (by rw [List.length_cons]; omega)
theorem reach_spec (s : St) : (reach s).Nodup ∧ s.rack ∈ reach s ∧ (∀ r ∈ reach s, Rc s.holds s.rack r) ∧ (300 < (reach s).length ∨ Closed s.holds (reach s)) :=
  grown_spec (MANY + 2) [s.rack] [s.rack] (by simp) (by simp) (fun r hr => by simp at hr; subst hr; exact .refl _ _) (by simp) (by simp) (.inr (by show 303 ≤ 302 + 1; decide))

/-! ### the search in breadth and what is grown -/
theorem Bf.rc {n : Nat} {r0 : Rack} {W : Ways} {g : Nat} (b : Bf n r0 W g) : ∀ r ∈ W.map (·.1), Rc n r0 r := fun r hr => by
  obtain ⟨p, hp, rfl⟩ := List.mem_map.mp hr
  exact ⟨_, b.val p hp⟩
theorem Bf.closed {n : Nat} {r0 : Rack} {W : Ways} (b : Bf n r0 W W.length) : Closed n (W.map (·.1)) := fun r hr u hu => by
  obtain ⟨p, hp, rfl⟩ := List.mem_map.mp hr
  obtain ⟨x, hx⟩ := mem_nexts.mp hu
  obtain ⟨j, hj, ej⟩ := List.mem_iff_getElem.mp hp
  obtain ⟨p', hp', e2, _⟩ := b.clo j p x u hj (by rw [List.getElem?_eq_some_iff]; exact ⟨hj, ej⟩) hx
  exact e2 ▸ List.mem_map_of_mem hp'
theorem Bf.mem0 {n : Nat} {r0 : Rack} {W : Ways} {g : Nat} (b : Bf n r0 W g) : r0 ∈ W.map (·.1) := List.mem_map.mpr ⟨_, List.mem_of_getElem? b.root, rfl⟩
theorem ways_some {n : Nat} {r0 : Rack} {W : Ways} (h : ways n r0 = some W) : Bf n r0 W W.length ∧ W.length ≤ 300 := search_some 302 _ W 0 (.start n r0) (by simp) (by simp) h
theorem ways_none {n : Nat} {r0 : Rack} (h : ways n r0 = none) : ∃ (W : Ways) (g : Nat), Bf n r0 W g ∧ 300 < W.length := search_none 302 _ 0 (.start n r0) (by simp) (by simp) (by decide) h
theorem tooMany_iff (s : St) : tooMany s = true ↔ 300 < (reach s).length := by
  unfold tooMany
  exact decide_eq_true_iff
theorem closed_of {s : St} (h : tooMany s = false) : Closed s.holds (reach s) := by
  rcases (reach_spec s).2.2.2 with q | q
  · rw [(tooMany_iff s).mpr q] at h; cases h
  · exact q
/-- from any rack that can come about -/
theorem ways_isSome {s : St} (h : tooMany s = false) {r : Rack} (hr : r ∈ reach s) : ∃ W, ways s.holds r = some W := by
  cases e : ways s.holds r with
  | some W => exact ⟨W, rfl⟩
  | none =>
    obtain ⟨W, g, b, l⟩ := ways_none e
    have hsub : W.map (·.1) ⊆ reach s := fun v hv => by
      obtain ⟨Q, q⟩ := b.rc v hv
      exact (closed_of h).rc Q r v hr q
    have := List.Nodup.length_le_of_subset b.nod hsub
    rw [List.length_map] at this
    have hn : ¬ 300 < (reach s).length := fun c => by rw [(tooMany_iff s).mpr c] at h; cases h
    omega
theorem ways_none_iff (s : St) : ways s.holds s.rack = none ↔ tooMany s = true := by
  constructor
  · intro e
    cases c : tooMany s with
    | true => rfl
    | false =>
      obtain ⟨W, q⟩ := ways_isSome c (reach_spec s).2.1
      rw [q] at e; cases e
  · intro c
    cases e : ways s.holds s.rack with
    | none => rfl
    | some W =>
      obtain ⟨b, l⟩ := ways_some e
      have hsub : reach s ⊆ W.map (·.1) := fun v hv => by
        obtain ⟨Q, q⟩ := (reach_spec s).2.2.1 v hv
        exact b.closed.rc Q s.rack v b.mem0 q
      have := List.Nodup.length_le_of_subset (reach_spec s).1 hsub
      rw [List.length_map] at this
      have := (tooMany_iff s).mp c
      omega
theorem ways_perm {s : St} {W : Ways} (e : ways s.holds s.rack = some W) : (W.map (·.1)).Perm (reach s) := by
  obtain ⟨b, l⟩ := ways_some e
  have c : tooMany s = false := by
    cases q : tooMany s with
    | false => rfl
    | true => rw [(ways_none_iff s).mpr q] at e; cases e
  refine (List.perm_ext_iff_of_nodup b.nod (reach_spec s).1).mpr fun v => ⟨fun hv => ?_, fun hv => ?_⟩
  · obtain ⟨Q, q⟩ := b.rc v hv
    exact (closed_of c).rc Q s.rack v (reach_spec s).2.1 q
  · obtain ⟨Q, q⟩ := (reach_spec s).2.2.1 v hv
    exact b.closed.rc Q s.rack v b.mem0 q

/-! ### how near a sorted rack is -/
def Lk (n : Nat) : Nat → Rack → Prop
  | 0, r => sorted r = true
  | k + 1, r => ∃ u ∈ nexts n r, Lk n k u
def Mn (n k : Nat) (r : Rack) : Prop := Lk n k r ∧ ∀ j, j < k → ¬ Lk n j r
theorem Mn.uniq {n k j : Nat} {r : Rack} (a : Mn n k r) (b : Mn n j r) : k = j := by
  rcases Nat.lt_trichotomy k j with h | h | h
  · exact absurd a.1 (b.2 k h)
  · exact h
  · exact absurd b.1 (a.2 j h)
theorem lk_runs (n : Nat) : ∀ (k : Nat) (r : Rack), Lk n k r ↔ ∃ (Q : Path) (v : Rack), Q.length = k ∧ runs n r Q = some v ∧ sorted v = true
  | 0, r => by
    constructor
    · intro h; exact ⟨[], r, rfl, rfl, h⟩
    · rintro ⟨Q, v, hl, h, q⟩
      have e : Q = [] := List.eq_nil_of_length_eq_zero hl
      subst e
      cases h
      exact q
  | k + 1, r => by
    constructor
    · rintro ⟨u, hu, h⟩
      obtain ⟨x, hx⟩ := mem_nexts.mp hu
      obtain ⟨Q, v, hl, h, q⟩ := (lk_runs n k u).mp h
      exact ⟨x :: Q, v, by simp [hl], by show (poured n r x.1 x.2).bind _ = _; rw [hx]; exact h, q⟩
    · rintro ⟨Q, v, hl, h, q⟩
      cases Q with
      | nil => simp at hl
      | cons x Q =>
        have h' : (poured n r x.1 x.2).bind (fun u => runs n u Q) = some v := h
        cases e : poured n r x.1 x.2 with
        | none => rw [e] at h'; cases h'
        | some u =>
          rw [e] at h'
          exact ⟨u, mem_nexts.mpr ⟨x, e⟩, (lk_runs n k u).mpr ⟨Q, v, by simpa using hl, h', q⟩⟩
theorem Mn.step {n k : Nat} {r : Rack} (h : Mn n (k + 1) r) {u : Rack} (hu : u ∈ nexts n r) (l : Lk n k u) : Mn n k u :=
  ⟨l, fun j hj q => h.2 (j + 1) (by omega) ⟨u, hu, q⟩⟩
theorem mn_none {n k : Nat} {S : List Rack} (c : Closed n S) (h0 : ∀ r ∈ S, ¬ Mn n k r) : ∀ (m : Nat) (r : Rack), r ∈ S → ¬ Mn n (k + m) r
  | 0, r, hr => h0 r hr
  | m + 1, r, hr => fun h => by
    have h' : Mn n (k + m + 1) r := h
    obtain ⟨u, hu, l⟩ := h'.1
    exact mn_none c h0 m u (c r hr u hu) (h'.step hu l)
theorem levels_nil (n f : Nat) (rest : List Rack) : levels n f [] rest = [] := by
  cases f <;> rfl
theorem levels_spec {n : Nat} {S : List Rack} (c : Closed n S) : ∀ (f : Nat) (now rest : List Rack) (k : Nat), (now = [] ∨ rest.length < f) → (∀ r, r ∈ now ↔ r ∈ S ∧ Mn n k r) → (∀ r, r ∈ rest ↔ r ∈ S ∧ ∀ j, j < k + 1 → ¬ Lk n j r) →
    ∀ r ∈ S, (∀ j, j < k → ¬ Lk n j r) → ∀ m, distance (levels n f now rest) r = some m ↔ Mn n (k + m) r := by
  intro f
  induction f with
  | zero =>
    intro now rest k hf hn _ r hr _ m
    rcases hf with rfl | hf
    · constructor
      · intro h; cases h
      · intro h; exact absurd h (mn_none c (fun u hu q => by have := (hn u).mpr ⟨hu, q⟩; cases this) m r hr)
    · omega
  | succ f ih =>
    intro now rest k hf hn hres r hr hlow m
    cases hnow : now with
    | nil =>
      subst hnow
      rw [levels_nil]
      constructor
      · intro h; cases h
      · intro h; exact absurd h (mn_none c (fun u hu q => by have := (hn u).mpr ⟨hu, q⟩; cases this) m r hr)
    | cons a b =>
      rw [← hnow]
      have ne : ¬ now.isEmpty = true := by rw [hnow]; simp
      have hf' : rest.length < f + 1 := by
        rcases hf with q | q
        · rw [q] at hnow; cases hnow
        · exact q
      have e : levels n (f + 1) now rest = now :: levels n f (rest.filter fun (r : Rack) => (nexts n r).any fun (u : Rack) => now.contains u) (rest.filter fun (r : Rack) => !(rest.filter fun (r : Rack) => (nexts n r).any fun (u : Rack) => now.contains u).contains r) := if_neg ne
      rw [e]
      generalize hl : (rest.filter fun (r : Rack) => (nexts n r).any fun (u : Rack) => now.contains u) = l
      have ml : ∀ r, r ∈ l ↔ r ∈ S ∧ Mn n (k + 1) r := by
        intro v
        rw [← hl, List.mem_filter, hres v]
        simp only [List.any_eq_true, List.contains_iff_mem]
        constructor
        · rintro ⟨⟨h1, h2⟩, u, hu, hw⟩
          exact ⟨h1, ⟨u, hu, ((hn u).mp hw).2.1⟩, h2⟩
        · rintro ⟨h1, ⟨u, hu, q⟩, h2⟩
          exact ⟨⟨h1, h2⟩, u, hu, (hn u).mpr ⟨c v h1 u hu, q, fun j hj z => h2 (j + 1) (by omega) ⟨u, hu, z⟩⟩⟩
      have mr : ∀ r, r ∈ rest.filter (fun (r : Rack) => !l.contains r) ↔ r ∈ S ∧ ∀ j, j < k + 1 + 1 → ¬ Lk n j r := by
        intro v
        rw [List.mem_filter, hres v]
        simp only [Bool.not_eq_true', List.contains_eq_mem, decide_eq_false_iff_not]
        rw [ml v]
        constructor
        · rintro ⟨⟨h1, h2⟩, h3⟩
          refine ⟨h1, fun j hj q => ?_⟩
          by_cases z : j < k + 1
          · exact h2 j z q
          · have : j = k + 1 := by omega
            subst this
            exact h3 ⟨h1, q, h2⟩
        · rintro ⟨h1, h2⟩
          exact ⟨⟨h1, fun j hj => h2 j (by omega)⟩, fun z => h2 (k + 1) (by omega) z.2.1⟩
      have hfl : l = [] ∨ (rest.filter fun (r : Rack) => !l.contains r).length < f := by
        cases el : l with
        | nil => exact .inl rfl
        | cons x xs =>
          right
          rw [← el]
          have : (rest.filter fun (r : Rack) => !l.contains r).length < rest.length := by
            rw [List.length_filter_lt_length_iff_exists]
            have hx : x ∈ l := by rw [el]; exact List.mem_cons_self
            refine ⟨x, ?_, by simp [hx]⟩
            rw [← hl] at hx
            exact (List.mem_filter.mp hx).1
          omega
      have ih' := ih l (rest.filter fun (r : Rack) => !l.contains r) (k + 1) hfl ml mr r hr
      unfold distance
      rw [List.findIdx?_cons]
      by_cases hw : now.contains r = true
      · rw [if_pos hw]
        have hm := ((hn r).mp (by simpa using hw)).2
        constructor
        · intro h
          cases h
          exact hm
        · intro h
          have := hm.uniq h
          have : m = 0 := by omega
          rw [this]
      · rw [if_neg hw]
        have nk : ∀ j, j < k + 1 → ¬ Lk n j r := by
          intro j hj q
          by_cases z : j < k
          · exact hlow j z q
          · have : j = k := by omega
            subst this
            exact hw (by simpa using (hn r).mpr ⟨hr, q, hlow⟩)
        have ih2 := ih' nk
        unfold distance at ih2
        constructor
        · intro h
          cases q : List.findIdx? (fun (x : List Rack) => x.contains r) (levels n f l (rest.filter fun (r : Rack) => !l.contains r)) with
          | none => rw [q] at h; cases h
          | some j =>
            rw [q] at h
            have e : j + 1 = m := Option.some.inj h
            have := (ih2 j).mp q
            rw [← e, show k + (j + 1) = k + 1 + j by omega]
            exact this
        · intro h
          cases m with
          | zero => exact absurd h.1 (nk k (by omega))
          | succ j =>
            have := (ih2 j).mpr (by rw [show k + 1 + j = k + (j + 1) by omega]; exact h)
            rw [this]
            rfl
theorem levels_flat {n : Nat} : ∀ (f : Nat) (now rest : List Rack), (now ++ rest).Nodup → (levels n f now rest).flatten.Nodup ∧ ∀ r ∈ (levels n f now rest).flatten, r ∈ now ++ rest
  | 0, now, rest, h => ⟨List.nodup_nil, fun r hr => by cases hr⟩
  | f + 1, now, rest, h => by
    by_cases c : now.isEmpty = true
    · have e : levels n (f + 1) now rest = [] := if_pos c
      rw [e]
      exact ⟨List.nodup_nil, fun r hr => by cases hr⟩
    · have e : levels n (f + 1) now rest = now :: levels n f (rest.filter fun (r : Rack) => (nexts n r).any fun (u : Rack) => now.contains u) (rest.filter fun (r : Rack) => !(rest.filter fun (r : Rack) => (nexts n r).any fun (u : Rack) => now.contains u).contains r) := if_neg c
      rw [e]
      generalize hl : (rest.filter fun (r : Rack) => (nexts n r).any fun (u : Rack) => now.contains u) = l
      obtain ⟨h1, h2, h3⟩ := List.nodup_append.mp h
      have nl : (l ++ rest.filter fun (r : Rack) => !l.contains r).Nodup := by
        rw [List.nodup_append]
        refine ⟨by rw [← hl]; exact h2.filter _, h2.filter _, fun a ha b hb e => ?_⟩
        subst e
        have := (List.mem_filter.mp hb).2
        simp [ha] at this
      obtain ⟨g1, g2⟩ := levels_flat f l _ nl
      have sub : ∀ r ∈ (levels n f l (rest.filter fun (r : Rack) => !l.contains r)).flatten, r ∈ rest := fun r hr => by
        rcases List.mem_append.mp (g2 r hr) with q | q
        · rw [← hl] at q; exact (List.mem_filter.mp q).1
        · exact (List.mem_filter.mp q).1
      rw [List.flatten_cons]
      refine ⟨?_, fun r hr => ?_⟩
      · rw [List.nodup_append]
        exact ⟨h1, g1, fun a ha b hb => h3 a ha b (sub b hb)⟩
      · rcases List.mem_append.mp hr with q | q
        · exact List.mem_append_left _ q
        · exact List.mem_append_right _ (sub r q)
theorem ends_spec {s : St} (h : tooMany s = false) {r : Rack} (hr : r ∈ reach s) (m : Nat) : distance (ends s) r = some m ↔ Mn s.holds m r := by
  have := levels_spec (closed_of h) (MANY + 2) ((reach s).filter sorted) ((reach s).filter fun (r : Rack) => !sorted r) 0 (.inr (by
    have : ¬ 300 < (reach s).length := fun c => by rw [(tooMany_iff s).mpr c] at h; cases h
    have := List.length_filter_le (fun (r : Rack) => !sorted r) (reach s)
    show _ < 302
    omega)) (fun r => by
      rw [List.mem_filter]
      exact ⟨fun q => ⟨q.1, q.2, fun j hj => absurd hj (by omega)⟩, fun q => ⟨q.1, q.2.1⟩⟩) (fun r => by
      rw [List.mem_filter]
      constructor
      · intro q
        refine ⟨q.1, fun j hj z => ?_⟩
        have : j = 0 := by omega
        subst this
        have z' : sorted r = true := z
        have q2 := q.2
        rw [z'] at q2
        cases q2
      · intro q
        refine ⟨q.1, ?_⟩
        cases e : sorted r with
        | false => rfl
        | true => exact absurd e (q.2 0 (by omega))) r hr (fun j hj => absurd hj (by omega)) m
  rw [Nat.zero_add] at this
  exact this
theorem ends_none {s : St} (h : tooMany s = false) {r : Rack} (hr : r ∈ reach s) : distance (ends s) r = none ↔ ∀ k, ¬ Lk s.holds k r := by
  constructor
  · intro e k
    induction k using Nat.strongRecOn with
    | ind k ih =>
      intro q
      have := (ends_spec h hr k).mpr ⟨q, fun j hj => ih j hj⟩
      rw [this] at e; cases e
  · intro q
    cases e : distance (ends s) r with
    | none => rfl
    | some k => exact absurd ((ends_spec h hr k).mp e).1 (q k)
theorem mn_of {n : Nat} {r : Rack} : ∀ {k : Nat}, Lk n k r → ∃ j, Mn n j r := by
  intro k
  induction k using Nat.strongRecOn with
  | ind k ih =>
    intro h
    by_cases c : ∃ j, j < k ∧ Lk n j r
    · obtain ⟨j, hj, q⟩ := c
      exact ih j hj q
    · exact ⟨k, h, fun j hj q => c ⟨j, hj, q⟩⟩
theorem ends_sum {s : St} (h : tooMany s = false) : ((ends s).map List.length).sum = (ends s).flatten.length ∧ (ends s).flatten.Nodup ∧ ∀ r, r ∈ (ends s).flatten ↔ r ∈ reach s ∧ ∃ k, Lk s.holds k r := by
  have nd : ((reach s).filter sorted ++ (reach s).filter fun (r : Rack) => !sorted r).Nodup := by
    rw [List.nodup_append]
    refine ⟨(reach_spec s).1.filter _, (reach_spec s).1.filter _, fun a ha b hb e => ?_⟩
    subst e
    have h1 := (List.mem_filter.mp ha).2
    have h2 := (List.mem_filter.mp hb).2
    rw [h1] at h2; cases h2
  obtain ⟨h1, h2⟩ := levels_flat (n := s.holds) (MANY + 2) _ _ nd
  refine ⟨by rw [List.length_flatten], h1, fun r => ⟨fun hr => ?_, fun ⟨hr, k, hk⟩ => ?_⟩⟩
  · have hm : r ∈ reach s := by
      rcases List.mem_append.mp (h2 r hr) with q | q <;> exact (List.mem_filter.mp q).1
    refine ⟨hm, ?_⟩
    obtain ⟨x, hx, hrx⟩ := List.mem_flatten.mp hr
    cases e : distance (ends s) r with
    | none =>
      have e' : (List.findIdx? (fun (x : List Rack) => x.contains r) (ends s)) = none := e
      rw [List.findIdx?_eq_none_iff] at e'
      have := e' x hx
      simp [hrx] at this
    | some k => exact ⟨k, ((ends_spec h hm k).mp e).1⟩
  · obtain ⟨j, hj⟩ := mn_of hk
    have e : (List.findIdx? (fun (x : List Rack) => x.contains r) (ends s)) = some j := (ends_spec h hr j).mpr hj
    rw [List.findIdx?_eq_some_iff_getElem] at e
    obtain ⟨hlt, q, _⟩ := e
    exact List.mem_flatten.mpr ⟨_, List.getElem_mem hlt, by simpa using q⟩

/-! ### the plan -/
theorem find_first {α : Type} {R : α → α → Prop} {p : α → Bool} : ∀ {l : List α} {x y : α}, l.Pairwise R → l.find? p = some x → y ∈ l → p y = true → x = y ∨ R x y
  | [], _, _, _, h, _, _ => by cases h
  | a :: l, x, y, hp, h, hy, q => by
    rw [List.pairwise_cons] at hp
    rw [List.find?_cons] at h
    cases e : p a with
    | true =>
      rw [e] at h
      cases h
      rcases List.mem_cons.mp hy with rfl | hy
      · exact .inl rfl
      · exact .inr (hp.1 y hy)
    | false =>
      rw [e] at h
      rcases List.mem_cons.mp hy with rfl | hy
      · rw [e] at q; cases q
      · exact find_first hp.2 h hy q
theorem plan_spec {n : Nat} {S : List Rack} {l : List (List Rack)} (c : Closed n S) (hd : ∀ r ∈ S, ∀ m, distance l r = some m ↔ Mn n m r) : ∀ (k : Nat) (r : Rack), r ∈ S → Mn n k r →
    (Sy71.plan n l k r).length = k ∧ (∃ v, runs n r (Sy71.plan n l k r) = some v ∧ sorted v = true) ∧ ∀ (Q : Path) (v : Rack), Q.length = k → runs n r Q = some v → sorted v = true → Sy71.plan n l k r = Q ∨ llt (Sy71.plan n l k r) Q
  | 0, r, hr, h => ⟨rfl, ⟨r, rfl, h.1⟩, fun Q v hl _ _ => .inl (List.eq_nil_of_length_eq_zero hl).symm⟩
  | k + 1, r, hr, h => by
    have pr : ∀ (x : Mv) (u : Rack), poured n r x.1 x.2 = some u → (((poured n r x.1 x.2).any fun (u : Rack) => distance l u == some k) = true ↔ Lk n k u) := fun x u hx => by
      have hu : u ∈ nexts n r := mem_nexts.mpr ⟨x, hx⟩
      rw [hx]
      show (distance l u == some k) = true ↔ _
      rw [beq_iff_eq, hd u (c r hr u hu) k]
      exact ⟨fun q => q.1, fun q => h.step hu q⟩
    unfold Sy71.plan
    cases e : (moves r).find? fun (x : Nat × Nat) => (poured n r x.1 x.2).any fun (u : Rack) => distance l u == some k with
    | none =>
      obtain ⟨u, hu, q⟩ := h.1
      obtain ⟨x, hx⟩ := mem_nexts.mp hu
      exact absurd ((pr x u hx).mpr q) (List.find?_eq_none.mp e x (poured_moves hx))
    | some x =>
      have hp := List.find?_some e
      cases ex : poured n r x.1 x.2 with
      | none => rw [ex] at hp; cases hp
      | some u =>
        have hu : u ∈ nexts n r := mem_nexts.mpr ⟨x, ex⟩
        have lk := (pr x u ex).mp hp
        obtain ⟨h1, ⟨v, h2, h2'⟩, h3⟩ := plan_spec c hd k u (c r hr u hu) (h.step hu lk)
        show (x :: Sy71.plan n l k ((poured n r x.1 x.2).getD r)).length = _ ∧ (∃ v, runs n r (x :: Sy71.plan n l k ((poured n r x.1 x.2).getD r)) = some v ∧ _) ∧ ∀ Q v, _ → _ → _ → (x :: Sy71.plan n l k ((poured n r x.1 x.2).getD r)) = Q ∨ llt (x :: Sy71.plan n l k ((poured n r x.1 x.2).getD r)) Q
        rw [ex]
        show (x :: Sy71.plan n l k u).length = _ ∧ (∃ v, runs n r (x :: Sy71.plan n l k u) = some v ∧ _) ∧ ∀ Q v, _ → _ → _ → (x :: Sy71.plan n l k u) = Q ∨ llt (x :: Sy71.plan n l k u) Q
        refine ⟨by simp [h1], ⟨v, by show (poured n r x.1 x.2).bind _ = _; rw [ex]; exact h2, h2'⟩, fun Q w hl hQ hw => ?_⟩
        cases Q with
        | nil => simp at hl
        | cons y Q =>
          have hQ' : (poured n r y.1 y.2).bind (fun u => runs n u Q) = some w := hQ
          cases ey : poured n r y.1 y.2 with
          | none => rw [ey] at hQ'; cases hQ'
          | some t =>
            rw [ey] at hQ'
            have lt : Lk n k t := (lk_runs n k t).mpr ⟨Q, w, by simpa using hl, hQ', hw⟩
            rcases find_first (moves_inc r) e (poured_moves ey) ((pr y t ey).mpr lt) with q | q
            · subst q
              rw [ex] at ey
              cases ey
              rcases h3 Q w (by simpa using hl) hQ' hw with q | q
              · exact .inl (by rw [q])
              · exact .inr (.inr ⟨rfl, q⟩)
            · exact .inr (.inl q)

/-! ### the first sorted rack of the search -/
def planAmong (W : Ways) : Option Path := (W.find? fun p => sorted p.1).map (·.2)
theorem planAmong_none {n : Nat} {r0 : Rack} {W : Ways} (b : Bf n r0 W W.length) (h : planAmong W = none) : ∀ k, ¬ Lk n k r0 := fun k q => by
  obtain ⟨Q, v, _, hQ, hv⟩ := (lk_runs n k r0).mp q
  obtain ⟨p, hp, e, _⟩ := b.all Q.length Q v rfl hQ
  unfold planAmong at h
  rw [Option.map_eq_none_iff, List.find?_eq_none] at h
  exact h p hp (by rw [e]; exact hv)
theorem planAmong_some {n : Nat} {r0 : Rack} {W : Ways} {P : Path} (b : Bf n r0 W W.length) (h : planAmong W = some P) :
    Mn n P.length r0 ∧ (∃ v, runs n r0 P = some v ∧ sorted v = true) ∧ ∀ (Q : Path) (v : Rack), runs n r0 Q = some v → sorted v = true → sle P Q := by
  unfold planAmong at h
  rw [Option.map_eq_some_iff] at h
  obtain ⟨p, hp, rfl⟩ := h
  have hs := List.find?_some hp
  have hm := List.mem_of_find?_eq_some hp
  have le : ∀ (Q : Path) (v : Rack), runs n r0 Q = some v → sorted v = true → sle p.2 Q := fun Q v hQ hv => by
    obtain ⟨p', hp', e, l⟩ := b.all Q.length Q v rfl hQ
    rcases find_first b.inc hp hp' (by rw [e]; exact hv) with q | q
    · subst q; exact l
    · exact sle_trans (.inr q) l
  refine ⟨⟨(lk_runs n _ r0).mpr ⟨p.2, p.1, rfl, b.val p hm, hs⟩, fun j hj q => ?_⟩, ⟨p.1, b.val p hm, hs⟩, le⟩
  obtain ⟨Q, v, hl, hQ, hv⟩ := (lk_runs n j r0).mp q
  have := sle_length (le Q v hQ hv)
  omega
/-- **plan** -/
theorem plan_is {s : St} {W : Ways} {P : Path} (h : tooMany s = false) (e : ways s.holds s.rack = some W) (hp : planAmong W = some P) : distance (ends s) s.rack = some P.length ∧ Sy71.plan s.holds (ends s) P.length s.rack = P := by
  obtain ⟨b, _⟩ := ways_some e
  obtain ⟨m, ⟨v, hv, sv⟩, le⟩ := planAmong_some b hp
  have hr := (reach_spec s).2.1
  refine ⟨(ends_spec h hr _).mpr m, ?_⟩
  obtain ⟨h1, ⟨w, h2, h2'⟩, h3⟩ := plan_spec (closed_of h) (fun r hr m => ends_spec h hr m) P.length s.rack hr m
  have a : sle P (Sy71.plan s.holds (ends s) P.length s.rack) := le _ w h2 h2'
  have b' : sle (Sy71.plan s.holds (ends s) P.length s.rack) P := by
    rcases h3 P v rfl hv sv with q | q
    · exact .inl q
    · exact .inr (.inr ⟨h1, q⟩)
  exact sle_antisymm b' a
theorem plan_none {s : St} {W : Ways} (h : tooMany s = false) (e : ways s.holds s.rack = some W) (hp : planAmong W = none) : distance (ends s) s.rack = none :=
  (ends_none h (reach_spec s).2.1).mpr (planAmong_none (ways_some e).1 hp)
/-- behind one pouring -/
theorem poured_mem {s : St} (h : tooMany s = false) {i j : Nat} {u : Rack} (hu : poured s.holds s.rack i j = some u) : u ∈ reach s :=
  closed_of h s.rack (reach_spec s).2.1 u (mem_nexts.mpr ⟨(i, j), hu⟩)
theorem lost_some {s : St} {u : Rack} {W : Ways} {P : Path} (h : tooMany s = false) (hu : u ∈ reach s) (e : ways s.holds u = some W) (hp : planAmong W = some P) : distance (ends s) u = some P.length :=
  (ends_spec h hu _).mpr (planAmong_some (ways_some e).1 hp).1
theorem lost_none {s : St} {u : Rack} {W : Ways} (h : tooMany s = false) (hu : u ∈ reach s) (e : ways s.holds u = some W) (hp : planAmong W = none) : distance (ends s) u = none :=
  (ends_none h hu).mpr (planAmong_none (ways_some e).1 hp)

/-! ### back from the sorted racks -/
def aheadOf (n : Nat) (keys : List Rack) (u : Rack) : List Rack := keys.flatMap fun h => ((outs n h).filter fun x => x.2 == u).map fun _ => h
def add2 (K : List Rack) (h : Rack) : List Rack := if K.contains h = true then K else K ++ [h]
def back (n : Nat) (keys : List Rack) : Nat → List Rack → Nat → List Rack
  | 0, K, _ => K
  | f + 1, K, g => match K[g]? with
    | none => K
    | some u => back n keys f ((aheadOf n keys u).foldl add2 K) (g + 1)
def leadOn (n : Nat) (keys : List Rack) : List Rack := back n keys (keys.length + 1) (keys.filter sorted) 0
theorem mem_aheadOf {n : Nat} {keys : List Rack} {u h : Rack} : h ∈ aheadOf n keys u ↔ h ∈ keys ∧ u ∈ nexts n h := by
  unfold aheadOf
  simp only [List.mem_flatMap, List.mem_map, List.mem_filter, beq_iff_eq]
  constructor
  · rintro ⟨k, hk, x, ⟨hx, e⟩, rfl⟩
    exact ⟨hk, mem_nexts.mpr ⟨x.1, by rw [← e]; exact mem_outs.mp hx⟩⟩
  · rintro ⟨hk, hu⟩
    obtain ⟨x, hx⟩ := mem_nexts.mp hu
    exact ⟨h, hk, (x, u), ⟨mem_outs.mpr hx, rfl⟩, rfl⟩
theorem fold_add2 : ∀ (l K : List Rack), K.Nodup → ∃ N, l.foldl add2 K = K ++ N ∧ (K ++ N).Nodup ∧ ∀ r, r ∈ K ++ N ↔ r ∈ K ∨ r ∈ l
  | [], K, h => ⟨[], by simp, by simpa using h, by simp⟩
  | x :: l, K, h => by
    rw [List.foldl_cons]
    by_cases c : K.contains x = true
    · have e : add2 K x = K := if_pos c
      rw [e]
      obtain ⟨N, h1, h2, h3⟩ := fold_add2 l K h
      refine ⟨N, h1, h2, fun r => ?_⟩
      rw [h3 r]
      have c' : x ∈ K := by simpa using c
      constructor
      · rintro (q | q)
        · exact .inl q
        · exact .inr (List.mem_cons_of_mem _ q)
      · rintro (q | q)
        · exact .inl q
        · rcases List.mem_cons.mp q with rfl | q
          · exact .inl c'
          · exact .inr q
    · have e : add2 K x = K ++ [x] := if_neg c
      rw [e]
      have c' : x ∉ K := by simpa using c
      obtain ⟨N, h1, h2, h3⟩ := fold_add2 l (K ++ [x]) (by
        rw [List.nodup_append]
        refine ⟨h, by simp, fun a ha b hb e' => ?_⟩
        simp at hb
        subst hb
        subst e'
        exact c' ha)
      refine ⟨x :: N, by rw [h1]; simp, by simpa using h2, fun r => ?_⟩
      have := h3 r
      simp only [List.append_assoc, List.singleton_append] at this
      rw [this]
      simp only [List.mem_append, List.mem_cons, List.not_mem_nil, or_false]
      constructor
      · rintro ((q | q) | q)
        · exact .inl q
        · exact .inr (.inl q)
        · exact .inr (.inr q)
      · rintro (q | q | q)
        · exact .inl (.inl q)
        · exact .inl (.inr q)
        · exact .inr q
structure Bk (n : Nat) (keys K : List Rack) (g : Nat) : Prop where
  nod : K.Nodup
  sub : ∀ r ∈ K, r ∈ keys ∧ ∃ k, Lk n k r
  srt : ∀ r ∈ keys, sorted r = true → r ∈ K
  clo : ∀ (j : Nat) (u h : Rack), j < g → K[j]? = some u → h ∈ keys → u ∈ nexts n h → h ∈ K
theorem Bk.start {n : Nat} {keys : List Rack} (hk : keys.Nodup) : Bk n keys (keys.filter sorted) 0 where
  nod := hk.filter _
  sub := fun r hr => ⟨(List.mem_filter.mp hr).1, 0, (List.mem_filter.mp hr).2⟩
  srt := fun r hr h => List.mem_filter.mpr ⟨hr, h⟩
  clo := fun j u h hj => by omega
theorem Bk.turn {n : Nat} {keys K : List Rack} {g : Nat} {u : Rack} (b : Bk n keys K g) (hu : K[g]? = some u) : Bk n keys ((aheadOf n keys u).foldl add2 K) (g + 1) ∧ K.length ≤ ((aheadOf n keys u).foldl add2 K).length := by
  obtain ⟨N, h1, h2, h3⟩ := fold_add2 (aheadOf n keys u) K b.nod
  rw [h1]
  have gl : g < K.length := (List.getElem?_eq_some_iff.mp hu).1
  refine ⟨⟨h2, fun r hr => ?_, fun r hr h => List.mem_append_left _ (b.srt r hr h), fun j v h hj hv hk hn => ?_⟩, by simp⟩
  · rcases (h3 r).mp hr with q | q
    · exact b.sub r q
    · obtain ⟨a, c⟩ := mem_aheadOf.mp q
      obtain ⟨_, k, hk⟩ := b.sub u (List.mem_of_getElem? hu)
      exact ⟨a, k + 1, u, c, hk⟩
  · have hj' : j < K.length := by omega
    rw [List.getElem?_append_left hj'] at hv
    by_cases e : j = g
    · subst e
      rw [hu] at hv
      cases hv
      exact (h3 h).mpr (.inr (mem_aheadOf.mpr ⟨hk, hn⟩))
    · exact List.mem_append_left _ (b.clo j v h (by omega) hv hk hn)
theorem back_spec {n : Nat} {keys : List Rack} : ∀ (f : Nat) (K : List Rack) (g : Nat), Bk n keys K g → g ≤ K.length → keys.length + 1 ≤ f + g → Bk n keys (back n keys f K g) (back n keys f K g).length
  | 0, K, g, b, hg, hf => by
    have := List.Nodup.length_le_of_subset b.nod (fun r hr => (b.sub r hr).1)
    omega
  | f + 1, K, g, b, hg, hf => by
    unfold back
    cases e : K[g]? with
    | none =>
      have : g = K.length := by
        have := List.getElem?_eq_none_iff.mp e
        omega
      subst this
      exact b
    | some u =>
      have gl : g < K.length := (List.getElem?_eq_some_iff.mp e).1
      obtain ⟨b', l⟩ := b.turn e
      exact back_spec f _ (g + 1) b' (by omega) (by omega)
theorem leadOn_mem {n : Nat} {keys : List Rack} (hk : keys.Nodup) (c : Closed n keys) : (leadOn n keys).Nodup ∧ ∀ r, r ∈ leadOn n keys ↔ r ∈ keys ∧ ∃ k, Lk n k r := by
  have b : Bk n keys (leadOn n keys) (leadOn n keys).length := back_spec (keys.length + 1) (keys.filter sorted) 0 (.start hk) (by omega) (by omega)
  refine ⟨b.nod, fun r => ⟨fun hr => b.sub r hr, fun ⟨hr, k, q⟩ => ?_⟩⟩
  have all : ∀ (k : Nat) (r : Rack), r ∈ keys → Lk n k r → r ∈ leadOn n keys := by
    intro k
    induction k with
    | zero => intro r hr q; exact b.srt r hr q
    | succ k ih =>
      rintro r hr ⟨u, hu, q⟩
      obtain ⟨j, hj, ej⟩ := List.mem_iff_getElem.mp (ih u (c r hr u hu) q)
      exact b.clo j u r hj (by rw [List.getElem?_eq_some_iff]; exact ⟨hj, ej⟩) hr hu
  exact all k r hr q
/-- **reach** -/
theorem reach_is {s : St} {W : Ways} (h : tooMany s = false) (e : ways s.holds s.rack = some W) : (reach s).length = W.length ∧ ((reach s).filter sorted).length = ((W.map (·.1)).filter sorted).length ∧ ((ends s).map List.length).sum = (leadOn s.holds (W.map (·.1))).length := by
  have p := ways_perm e
  obtain ⟨b, _⟩ := ways_some e
  obtain ⟨h1, h2, h3⟩ := ends_sum h
  obtain ⟨g1, g2⟩ := leadOn_mem b.nod b.closed
  refine ⟨by rw [← p.length_eq, List.length_map], (p.filter _).length_eq.symm, ?_⟩
  rw [h1]
  exact ((List.perm_ext_iff_of_nodup h2 g1).mpr fun r => by rw [h3 r, g2 r, p.mem_iff]).length_eq
end Tb
/-! Mathematics, part C: the list of calls, call by call. -/
namespace Tb
open Sy71

/-- a call's numbers, as they are handed over: what Python slices out of the list -/
inductive Form : List Int → Sy71.Call → Prop
  | begins (a b : Nat) : a < 4294967296 → b < 4294967296 → Form [0, a, b] (.begins a b)
  | fill (i : Nat) (cs : List Nat) : i < 4294967296 → cs.length ≤ 60 → (∀ c ∈ cs, c < 4294967296) → Form (1 :: i :: cs.length :: cs.map fun (c : Nat) => (c : Int)) (.fill i cs)
  | pour (i j : Nat) : i < 4294967296 → j < 4294967296 → Form [2, i, j] (.pour i j)
  | may (i j : Nat) : i < 4294967296 → j < 4294967296 → Form [3, i, j] (.may i j)
  | sorted : Form [4] .sorted
  | fewest : Form [5] .fewest
  | plan : Form [6] .plan
  | reach : Form [7] .reach
  | lost (i j : Nat) : i < 4294967296 → j < 4294967296 → Form [8, i, j] (.lost i j)
  | tube (i : Nat) : i < 4294967296 → Form [9, i] (.tube i)
  | state : Form [10] .state

theorem nat_of {x : Int} (h : PyInside.within 0 4294967295 x = true) : ∃ n : Nat, x = n ∧ n < 4294967296 := by
  unfold PyInside.within at h
  rw [Bool.and_eq_true, decide_eq_true_iff, decide_eq_true_iff] at h
  exact ⟨x.toNat, by omega, by omega⟩
theorem natIn_nat (a : Nat) (h : a < 4294967296) (l : List Int) : Sy71Neutral.natIn ((a : Int) :: l) = some (a, l) := by
  simp only [Sy71Neutral.natIn]
  rw [if_pos ⟨by omega, by omega⟩]
  simp
theorem many_nats : ∀ (cs : List Nat) (t : List Int), (∀ c ∈ cs, c < 4294967296) → Sy71Neutral.many_ Sy71Neutral.natIn cs.length ((cs.map fun (c : Nat) => (c : Int)) ++ t) = some (cs, t)
  | [], t, _ => rfl
  | c :: cs, t, h => by
    show (Sy71Neutral.natIn (((c : Int)) :: ((cs.map fun (c : Nat) => (c : Int)) ++ t))).bind (fun x => (Sy71Neutral.many_ Sy71Neutral.natIn cs.length x.2).map fun y => (x.1 :: y.1, y.2)) = _
    rw [natIn_nat c (h c List.mem_cons_self)]
    show (Sy71Neutral.many_ Sy71Neutral.natIn cs.length ((cs.map fun (c : Nat) => (c : Int)) ++ t)).map (fun y => (c :: y.1, y.2)) = _
    rw [many_nats cs t fun x hx => h x (List.mem_cons_of_mem _ hx)]
    rfl
theorem nats_of : ∀ {l : List Int}, l.all (PyInside.within 0 4294967295) = true → ∃ cs : List Nat, l = cs.map (fun (c : Nat) => (c : Int)) ∧ ∀ c ∈ cs, c < 4294967296
  | [], _ => ⟨[], rfl, by simp⟩
  | x :: l, h => by
    rw [List.all_cons, Bool.and_eq_true] at h
    obtain ⟨n, rfl, hn⟩ := nat_of h.1
    obtain ⟨cs, rfl, hc⟩ := nats_of h.2
    refine ⟨n :: cs, rfl, fun c hc' => ?_⟩
    rcases List.mem_cons.mp hc' with rfl | q
    · exact hn
    · exact hc c q
theorem some2 {a b : Nat} (ha : a < 4294967296) (hb : b < 4294967296) : Sy71Neutral.all_ (Sy71Neutral.some_ 2 [(a : Int), (b : Int)]) = some [a, b] := by
  have h := many_nats [a, b] [] (by intro c hc; simp at hc; rcases hc with rfl | rfl <;> assumption)
  simp only [List.map_cons, List.map_nil, List.append_nil, List.length_cons, List.length_nil] at h
  unfold Sy71Neutral.some_
  rw [show (2 : Nat) = 0 + 1 + 1 from rfl, h]
  rfl
theorem some1 {a : Nat} (ha : a < 4294967296) (t : List Int) : Sy71Neutral.some_ 1 ((a : Int) :: t) = some ([a], t) := by
  have h := many_nats [a] t (by intro c hc; simp at hc; subst hc; exact ha)
  exact h
theorem rowIn_nats {cs : List Nat} (hl : cs.length ≤ 60) (hc : ∀ c ∈ cs, c < 4294967296) : Sy71Neutral.all_ (Sy71Neutral.rowIn ((cs.length : Int) :: cs.map fun (c : Nat) => (c : Int))) = some cs := by
  have e : Sy71Neutral.rowIn ((cs.length : Int) :: cs.map fun (c : Nat) => (c : Int)) = (if 0 ≤ (cs.length : Int) ∧ (cs.length : Int) ≤ 60 then Sy71Neutral.many_ Sy71Neutral.natIn (cs.length : Int).toNat (cs.map fun (c : Nat) => (c : Int)) else none) := rfl
  have h2 := many_nats cs [] hc
  rw [List.append_nil] at h2
  rw [e, if_pos ⟨by omega, by omega⟩, Int.toNat_natCast, h2]
  rfl
theorem form_call {cl : List Int} {x : Sy71.Call} (h : Form cl x) : Sy71Neutral.callOf cl = some x := by
  cases h with
  | begins a b ha hb => rw [Sy71Neutral.callOf.eq_1, some2 ha hb]; rfl
  | fill i cs hi hl hc => rw [Sy71Neutral.callOf.eq_2, some1 hi]; simp only [Option.bind_some]; rw [rowIn_nats hl hc]; rfl
  | pour a b ha hb => rw [Sy71Neutral.callOf.eq_3, some2 ha hb]; rfl
  | may a b ha hb => rw [Sy71Neutral.callOf.eq_4, some2 ha hb]; rfl
  | sorted => rw [Sy71Neutral.callOf.eq_5]; rfl
  | fewest => rw [Sy71Neutral.callOf.eq_6]; rfl
  | plan => rw [Sy71Neutral.callOf.eq_7]; rfl
  | reach => rw [Sy71Neutral.callOf.eq_8]; rfl
  | lost a b ha hb => rw [Sy71Neutral.callOf.eq_9, some2 ha hb]; rfl
  | tube a ha => rw [Sy71Neutral.callOf.eq_10, some1 ha]; rfl
  | state => rw [Sy71Neutral.callOf.eq_11]; rfl

/-- the numbers ahead of a row, by the call's number (the program's table) -/
def wn : List Nat := [2, 1, 2, 2, 0, 0, 0, 0, 2, 1, 0]
theorem shape_some {p : Int} {n k : Nat} (h : PySy71.shape p = some (n, k)) : (p = 0 ∧ n = 2 ∧ k = 0) ∨ (p = 1 ∧ n = 1 ∧ k = 1) ∨ (p = 2 ∧ n = 2 ∧ k = 0) ∨ (p = 3 ∧ n = 2 ∧ k = 0) ∨ (p = 4 ∧ n = 0 ∧ k = 0) ∨
    (p = 5 ∧ n = 0 ∧ k = 0) ∨ (p = 6 ∧ n = 0 ∧ k = 0) ∨ (p = 7 ∧ n = 0 ∧ k = 0) ∨ (p = 8 ∧ n = 2 ∧ k = 0) ∨ (p = 9 ∧ n = 1 ∧ k = 0) ∨ (p = 10 ∧ n = 0 ∧ k = 0) := by
  unfold PySy71.shape at h
  repeat' (split at h)
  all_goals (first | (cases h; done) | (rename_i e; injection h with h; injection h with h1 h2; subst h1 h2 e; simp))
theorem row_some {l x t : List Int} (h : PyFlat.row l = some (x, t)) : l = (x.length : Int) :: (x ++ t) := by
  cases l with
  | nil => cases h
  | cons n r =>
    unfold PyFlat.row at h
    by_cases c : 0 ≤ n ∧ n.toNat ≤ r.length
    · simp only [c, and_self, if_true] at h
      injection h with h
      injection h with h1 h2
      subst h1 h2
      rw [List.take_append_drop, List.length_take]
      congr 1
      omega
    · simp only [c, if_false] at h; cases h
/-- one call of the list -/
theorem call_form {p : Int} {r t : List Int} {c : List (List Int)} (h : PyFlat.call PySy71.shape (p :: r) = some (c, t)) (hb : PyInside.call PySy71.bound c = true) :
    ∃ (cl : List Int) (x : Sy71.Call), p :: r = cl ++ t ∧ (PySy71.whole c).headD [] = cl ∧ Form cl x := by
  unfold PyFlat.call at h
  cases e : PySy71.shape p with
  | none => simp only [e] at h; cases h
  | some nk =>
    obtain ⟨n, k⟩ := nk
    simp only [e] at h
    by_cases hl : r.length < n
    · simp only [hl, if_true] at h; cases h
    · simp only [hl, if_false] at h
      rcases shape_some e with ⟨rfl, rfl, rfl⟩ | ⟨rfl, rfl, rfl⟩ | ⟨rfl, rfl, rfl⟩ | ⟨rfl, rfl, rfl⟩ | ⟨rfl, rfl, rfl⟩ | ⟨rfl, rfl, rfl⟩ | ⟨rfl, rfl, rfl⟩ | ⟨rfl, rfl, rfl⟩ | ⟨rfl, rfl, rfl⟩ | ⟨rfl, rfl, rfl⟩ | ⟨rfl, rfl, rfl⟩
      case inr.inl =>
        match r, hl with
        | [], hl => exact absurd hl (by simp)
        | a :: r, _ =>
          have h' : (match PyFlat.rows 1 r with | none => none | some (xs, t) => some ((1 :: [a]) :: xs, t)) = some (c, t) := h
          unfold PyFlat.rows at h'
          cases er : PyFlat.row r with
          | none => simp only [er] at h'; cases h'
          | some xt =>
            obtain ⟨xs, t'⟩ := xt
            simp only [er, PyFlat.rows] at h'
            injection h' with h'
            injection h' with h1 h2
            subst h1 h2
            have er' := row_some er
            have hb' : ((PyInside.within 0 4294967295 a && true) && (decide (0 ≤ xs.length) && decide (xs.length ≤ 60) && xs.all (PyInside.within 0 4294967295) && true)) = true := hb
            simp only [Bool.and_true, Bool.and_eq_true, decide_eq_true_iff] at hb'
            obtain ⟨ha, ⟨_, hx⟩, hall⟩ := hb'
            obtain ⟨i, rfl, hi⟩ := nat_of ha
            obtain ⟨cs, rfl, hc⟩ := nats_of hall
            rw [List.length_map] at hx er'
            refine ⟨1 :: i :: cs.length :: cs.map fun (c : Nat) => (c : Int), .fill i cs, by rw [er']; rfl, ?_, .fill i cs hi hx hc⟩
            show ([1] ++ [(i : Int)] ++ [((cs.map fun (c : Nat) => (c : Int)).length : Int)] ++ cs.map fun (c : Nat) => (c : Int)) = _
            rw [List.length_map]
            rfl
      all_goals first
        | (match r, hl with
          | [], hl => exact absurd hl (by simp)
          | [a], hl => exact absurd hl (by simp)
          | a :: b :: r, _ =>
            injection h with h
            injection h with h1 h2
            subst h1 h2
            have hb' : ((PyInside.within 0 4294967295 a && (PyInside.within 0 4294967295 b && true)) && true) = true := hb
            simp only [Bool.and_true, Bool.and_eq_true] at hb'
            obtain ⟨ha, hb2⟩ := hb'
            obtain ⟨i, rfl, hi⟩ := nat_of ha
            obtain ⟨j, rfl, hj⟩ := nat_of hb2
            exact ⟨_, _, rfl, rfl, by first | exact .begins i j hi hj | exact .pour i j hi hj | exact .may i j hi hj | exact .lost i j hi hj⟩)
        | (match r, hl with
          | [], hl => exact absurd hl (by simp)
          | a :: r, _ =>
            injection h with h
            injection h with h1 h2
            subst h1 h2
            have hb' : ((PyInside.within 0 4294967295 a && true) && true) = true := hb
            simp only [Bool.and_true] at hb'
            obtain ⟨i, rfl, hi⟩ := nat_of hb'
            exact ⟨_, _, rfl, rfl, .tube i hi⟩)
        | (injection h with h
           injection h with h1 h2
           subst h1 h2
           exact ⟨_, _, rfl, rfl, by first | exact .sorted | exact .fewest | exact .plan | exact .reach | exact .state⟩)
end Tb
/-! Mathematics, part D: the loop over the calls; what stays true of the rack; small equations between the program's words and the document's. -/
namespace Tb
open Sy71

/-! ### the list of calls, from a place on -/
abbrev stp (s : St) (c : List (List Int)) : St × List Int := Sy71Neutral.step s (c.headD [])
def Due (l : List Int) (s : St) (A : List Int) (i : Nat) : Prop := ∃ f raws, PyFlat.calls PySy71.shape f (l.drop i) = some raws ∧ raws.all (PyInside.call PySy71.bound) = true ∧
  A ++ PyFlat.told (PyFlat.played stp s (raws.map PySy71.whole)) = PySy71.answers l
theorem asked_short {l : List Int} (h : PySy71.answers_asked l = true) : (PySy71.answers l).length ≤ 10000000 := by
  unfold PySy71.answers_asked at h
  split at h
  · cases h
  · simp only [Bool.and_eq_true] at h
    have := h.2
    unfold PyFlat.short at this
    exact of_decide_eq_true this
theorem due_start {l : List Int} (h : PySy71.answers_asked l = true) : Due l init [] 0 := by
  unfold PySy71.answers_asked at h
  cases e : PyFlat.calls PySy71.shape l.length l with
  | none => rw [e] at h; cases h
  | some raw =>
    rw [e] at h
    simp only [Bool.and_eq_true] at h
    refine ⟨l.length, raw, by rw [List.drop_zero]; exact e, h.1.1.2, ?_⟩
    rw [List.nil_append]
    unfold PySy71.answers PySy71.calls
    rw [e]
    rfl
theorem due_turn {l : List Int} {s : St} {A : List Int} {i : Nat} (d : Due l s A i) (hi : i < l.length) :
    ∃ (cl : List Int) (x : Sy71.Call), Form cl x ∧ l.drop i = cl ++ l.drop (i + cl.length) ∧ i + cl.length ≤ l.length ∧
      Due l (Sy71.step s x).1 (A ++ ((Sy71Neutral.out (Sy71.step s x).2).length : Int) :: Sy71Neutral.out (Sy71.step s x).2) (i + cl.length) := by
  obtain ⟨f, raws, hf, hb, hA⟩ := d
  cases hd : l.drop i with
  | nil =>
    have := congrArg List.length hd
    rw [List.length_drop, List.length_nil] at this
    omega
  | cons p r =>
    rw [hd] at hf
    cases f with
    | zero => cases hf
    | succ f =>
      unfold PyFlat.calls at hf
      cases ec : PyFlat.call PySy71.shape (p :: r) with
      | none => rw [ec] at hf; cases hf
      | some ct =>
        obtain ⟨c, t⟩ := ct
        rw [ec] at hf
        simp only at hf
        cases er : PyFlat.calls PySy71.shape f t with
        | none => rw [er] at hf; cases hf
        | some cs =>
          rw [er] at hf
          simp only at hf
          injection hf with hf
          subst hf
          rw [List.all_cons, Bool.and_eq_true] at hb
          obtain ⟨cl, x, e1, e2, fm⟩ := call_form ec hb.1
          have ht : l.drop (i + cl.length) = t := by
            rw [← List.drop_drop, hd, e1, List.drop_left]
          have hlen : i + cl.length ≤ l.length := by
            have := congrArg List.length (hd.trans e1)
            rw [List.length_drop, List.length_append] at this
            omega
          refine ⟨cl, x, fm, by rw [e1, ht], hlen, f, cs, by rw [ht]; exact er, hb.2, ?_⟩
          rw [← hA]
          have es : stp s (PySy71.whole c) = ((Sy71.step s x).1, Sy71Neutral.out (Sy71.step s x).2) := by
            show Sy71Neutral.step s _ = _
            rw [e2]
            unfold Sy71Neutral.step
            rw [form_call fm]
          show _ = A ++ PyFlat.told ((stp s (PySy71.whole c)).2 :: PyFlat.played stp (stp s (PySy71.whole c)).1 (cs.map PySy71.whole))
          rw [es]
          show _ = A ++ ((((Sy71Neutral.out (Sy71.step s x).2).length : Int) :: Sy71Neutral.out (Sy71.step s x).2) ++ PyFlat.told (PyFlat.played stp (Sy71.step s x).1 (cs.map PySy71.whole)))
          rw [List.append_assoc]
theorem due_end {l : List Int} {s : St} {A : List Int} {i : Nat} (d : Due l s A i) (hi : l.length ≤ i) : A = PySy71.answers l := by
  obtain ⟨f, raws, hf, hb, hA⟩ := d
  rw [List.drop_eq_nil_of_le hi] at hf
  have e : PyFlat.calls PySy71.shape f [] = some [] := by cases f <;> rfl
  rw [e] at hf
  injection hf with hf
  subst hf
  rw [← hA]
  show A = A ++ []
  rw [List.append_nil]
theorem due_len {l : List Int} {s : St} {A : List Int} {i : Nat} (d : Due l s A i) : A.length ≤ (PySy71.answers l).length := by
  obtain ⟨f, raws, hf, hb, hA⟩ := d
  rw [← hA, List.length_append]
  omega

/-! ### what stays true -/
structure ROk (n : Nat) (r : Rack) : Prop where
  n4 : n ≤ 4
  l2 : 2 ≤ r.length
  l5 : r.length ≤ 5
  fit : ∀ t ∈ r, t.length ≤ n
structure SOk (s : St) : Prop where
  n1 : 1 ≤ s.holds
  rk : ROk s.holds s.rack
theorem getD_mem {r : Rack} {i : Nat} (h : i < r.length) : r.getD i [] ∈ r := by
  rw [List.getD_eq_getElem?_getD, List.getElem?_eq_getElem h]
  exact List.getElem_mem h
theorem ROk.poured {n : Nat} {r u : Rack} {i j : Nat} (o : ROk n r) (h : Sy71.poured n r i j = some u) : ROk n u := by
  obtain ⟨hi, hj, ne, hk, e⟩ := poured_some h
  refine ⟨o.n4, by rw [poured_length h]; exact o.l2, by rw [poured_length h]; exact o.l5, fun t ht => ?_⟩
  have ha := o.fit _ (getD_mem hi)
  have hb := o.fit _ (getD_mem hj)
  generalize r.getD i [] = a at *
  generalize r.getD j [] = b at *
  have hgo : goes n a b ≤ n - b.length := by
    unfold goes
    split
    · omega
    · split
      · exact Nat.min_le_right _ _
      · omega
  rw [e] at ht
  rcases List.mem_or_eq_of_mem_set ht with q | q
  · rcases List.mem_or_eq_of_mem_set q with q | q
    · exact o.fit t q
    · rw [q, List.length_drop]; omega
  · rw [q, List.length_append, List.length_take]; omega
theorem ROk.set {n : Nat} {r : Rack} {i : Nat} {t : List Nat} (o : ROk n r) (h : t.length ≤ n) : ROk n (r.set i t) :=
  ⟨o.n4, by rw [List.length_set]; exact o.l2, by rw [List.length_set]; exact o.l5, fun u hu => by
    rcases List.mem_or_eq_of_mem_set hu with q | q
    · exact o.fit u q
    · rw [q]; exact h⟩
theorem ROk.runs {n : Nat} : ∀ {P : Path} {r u : Rack}, ROk n r → Tb.runs n r P = some u → ROk n u
  | [], r, u, o, h => by cases h; exact o
  | x :: P, r, u, o, h => by
    have h' : (Sy71.poured n r x.1 x.2).bind (fun u => Tb.runs n u P) = some u := h
    cases e : Sy71.poured n r x.1 x.2 with
    | none => rw [e] at h'; cases h'
    | some v => rw [e] at h'; exact (o.poured e).runs h'
theorem SOk.init : SOk Sy71.init := ⟨by decide, by decide, by decide, by decide, by decide⟩
theorem SOk.step {s : St} (o : SOk s) (x : Sy71.Call) : SOk (Sy71.step s x).1 := by
  cases x with
  | begins n k =>
    unfold Sy71.step
    by_cases c : n < 1 ∨ 4 < n ∨ k < 2 ∨ 5 < k
    · simp only [c, if_true]; exact o
    · simp only [c, if_false]
      refine ⟨by show 1 ≤ n; omega, by show n ≤ 4; omega, by show 2 ≤ (List.replicate k []).length; rw [List.length_replicate]; omega, by show (List.replicate k []).length ≤ 5; rw [List.length_replicate]; omega, fun t ht => ?_⟩
      have := List.eq_of_mem_replicate ht
      rw [this]
      exact Nat.zero_le _
  | fill i l =>
    unfold Sy71.step
    by_cases c : s.rack.length ≤ i
    · simp only [c, if_true]; exact o
    · simp only [c, if_false]
      by_cases d : s.holds < l.length ∨ l.any (fun (c : Nat) => decide (5 < c)) = true
      · simp only [d, if_true]; exact o
      · simp only [d, if_false]
        exact ⟨o.n1, o.rk.set (by rw [List.length_reverse]; omega)⟩
  | pour i j =>
    unfold Sy71.step
    by_cases c : s.rack.length ≤ i ∨ s.rack.length ≤ j
    · simp only [c, if_true]; exact o
    · simp only [c, if_false]
      cases e : Sy71.poured s.holds s.rack i j with
      | none => exact o
      | some r => exact ⟨o.n1, o.rk.poured e⟩
  | may i j => exact o
  | sorted => exact o
  | fewest => exact o
  | plan => exact o
  | reach => exact o
  | lost i j => exact o
  | tube i => exact o
  | state => exact o

/-! ### how many go -/
def gng (n : Nat) (r : Rack) (i j : Nat) : Nat := if i = j then 0 else goes n (r.getD i []) (r.getD j [])
def pset (r : Rack) (i j k : Nat) : Rack := (r.set i ((r.getD i []).drop k)).set j ((r.getD i []).take k ++ r.getD j [])
theorem poured_gng {n : Nat} {r : Rack} {i j : Nat} (hi : i < r.length) (hj : j < r.length) : Sy71.poured n r i j = if gng n r i j = 0 then none else some (pset r i j (gng n r i j)) := by
  unfold Sy71.poured gng
  by_cases e : i = j
  · subst e
    simp
  · have hi' : ¬ r.length ≤ i := by omega
    have hj' : ¬ r.length ≤ j := by omega
    simp only [hi', hj', e, false_or, if_false]
    rfl
theorem goes_le_length {n : Nat} {a b : List Nat} : goes n a b ≤ a.length := by
  unfold goes
  split
  · omega
  · rename_i c l
    split
    · refine Nat.le_trans (Nat.min_le_left _ _) ?_
      show 1 + (l.takeWhile _).length ≤ (c :: l).length
      have := (List.takeWhile_sublist (fun (d : Nat) => d == c) (l := l)).length_le
      rw [List.length_cons]; omega
    · exact Nat.zero_le _
theorem gng_le {n : Nat} {r : Rack} {i j : Nat} : gng n r i j ≤ (r.getD i []).length := by
  unfold gng
  split
  · exact Nat.zero_le _
  · exact goes_le_length

/-! ### sorted, as the program asks it -/
def srt : Rack → List Nat → Bool
  | [], _ => true
  | t :: r, cs => match t.reverse with
    | [] => srt r cs
    | b :: _ => if cs.contains b = true ∨ top t ≠ t.length then false else srt r (cs ++ [b])
def Uni (t : List Nat) : Prop := ∀ c ∈ t, t.head? = some c
theorem takeWhile_all {p : Nat → Bool} : ∀ {l : List Nat}, (l.takeWhile p).length = l.length → ∀ x ∈ l, p x = true
  | [], _, x, hx => by cases hx
  | a :: l, h, x, hx => by
    rw [List.takeWhile_cons] at h
    cases e : p a with
    | false => rw [e] at h; simp at h
    | true =>
      rw [e] at h
      simp only [if_true, List.length_cons, Nat.add_right_cancel_iff] at h
      rcases List.mem_cons.mp hx with rfl | q
      · exact e
      · exact takeWhile_all h x q
theorem takeWhile_self {p : Nat → Bool} : ∀ {l : List Nat}, (∀ x ∈ l, p x = true) → l.takeWhile p = l
  | [], _ => rfl
  | a :: l, h => by
    rw [List.takeWhile_cons, if_pos (h a List.mem_cons_self), takeWhile_self fun x hx => h x (List.mem_cons_of_mem _ hx)]
theorem top_uni (t : List Nat) : top t = t.length ↔ Uni t := by
  cases t with
  | nil => exact ⟨fun _ c hc => (by cases hc), fun _ => rfl⟩
  | cons a l =>
    show 1 + (l.takeWhile fun (d : Nat) => d == a).length = (a :: l).length ↔ _
    rw [List.length_cons]
    constructor
    · intro h c hc
      have := takeWhile_all (p := fun (d : Nat) => d == a) (l := l) (by omega)
      rcases List.mem_cons.mp hc with rfl | q
      · rfl
      · have := this c q
        simp only [beq_iff_eq] at this
        subst this
        rfl
    · intro h
      have e : l.takeWhile (fun (d : Nat) => d == a) = l := by
        have : ∀ x ∈ l, (fun (d : Nat) => d == a) x = true := fun x hx => by
          have q : (a :: l).head? = some x := h x (List.mem_cons_of_mem _ hx)
          injection q with q
          simp [q]
        exact takeWhile_self this
      rw [e]; omega
theorem srt_iff : ∀ (r : Rack) (cs : List Nat), srt r cs = true ↔ (∀ t ∈ r, Uni t) ∧ (∀ t ∈ r, ∀ c, t.head? = some c → c ∉ cs) ∧ r.Pairwise fun a b => a ≠ [] → a.head? ≠ b.head?
  | [], cs => by simp [srt]
  | t :: r, cs => by
    unfold srt
    cases e : t.reverse with
    | nil =>
      have e' : t = [] := by simpa using e
      subst e'
      show srt r cs = true ↔ _
      rw [srt_iff r cs, List.pairwise_cons]
      constructor
      · rintro ⟨h1, h2, h3⟩
        refine ⟨fun t ht => ?_, fun t ht c hc => ?_, fun _ _ q => absurd rfl q, h3⟩
        · rcases List.mem_cons.mp ht with rfl | q
          · intro c hc; cases hc
          · exact h1 t q
        · rcases List.mem_cons.mp ht with rfl | q
          · cases hc
          · exact h2 t q c hc
      · rintro ⟨h1, h2, _, h3⟩
        exact ⟨fun t ht => h1 t (List.mem_cons_of_mem _ ht), fun t ht => h2 t (List.mem_cons_of_mem _ ht), h3⟩
    | cons b bs =>
      have hb : b ∈ t := by
        have : b ∈ t.reverse := by rw [e]; exact List.mem_cons_self
        simpa using this
      have hne : t ≠ [] := fun q => by subst q; cases hb
      show (if cs.contains b = true ∨ top t ≠ t.length then false else srt r (cs ++ [b])) = true ↔ _
      by_cases c : cs.contains b = true ∨ top t ≠ t.length
      · rw [if_pos c]
        constructor
        · intro h; cases h
        · rintro ⟨h1, h2, _⟩
          have hu := h1 t List.mem_cons_self
          rcases c with c | c
          · exact absurd (by simpa using c) (h2 t List.mem_cons_self b (hu b hb))
          · exact absurd ((top_uni t).mpr hu) c
      · rw [if_neg c, srt_iff r (cs ++ [b]), List.pairwise_cons]
        have hu : Uni t := (top_uni t).mp (by
          by_cases q : top t = t.length
          · exact q
          · exact absurd (.inr q) c)
        have hbc : b ∉ cs := fun q => c (.inl (by simpa using q))
        have hh := hu b hb
        constructor
        · rintro ⟨h1, h2, h3⟩
          refine ⟨fun u ht => ?_, fun u ht c' hc' => ?_, fun u hu' _ q => ?_, h3⟩
          · rcases List.mem_cons.mp ht with rfl | q
            · exact hu
            · exact h1 u q
          · rcases List.mem_cons.mp ht with rfl | q
            · rw [hh] at hc'
              cases hc'
              exact hbc
            · exact fun z => h2 u q c' hc' (List.mem_append_left _ z)
          · exact h2 u hu' b (by rw [← q]; exact hh) (by simp)
        · rintro ⟨h1, h2, h3, h4⟩
          refine ⟨fun u hu' => h1 u (List.mem_cons_of_mem _ hu'), fun u hu' c' hc' z => ?_, h4⟩
          rcases List.mem_append.mp z with z | z
          · exact h2 u (List.mem_cons_of_mem _ hu') c' hc' z
          · simp at z
            subst z
            exact h3 u hu' hne (by rw [hh, hc'])
theorem pairwise_ix {α : Type} {R : α → α → Prop} (hs : ∀ a b, R a b → R b a) (l : List α) : l.Pairwise R ↔ ∀ (i j : Nat) (hi : i < l.length) (hj : j < l.length), i ≠ j → R l[i] l[j] := by
  rw [List.pairwise_iff_getElem]
  constructor
  · intro h i j hi hj ne
    rcases Nat.lt_or_gt_of_ne ne with q | q
    · exact h i j hi hj q
    · exact hs _ _ (h j i hj hi q)
  · intro h i j hi hj q
    exact h i j hi hj (by omega)
theorem getD_ix {r : Rack} {i : Nat} (h : i < r.length) : r.getD i [] = r[i] := by
  rw [List.getD_eq_getElem?_getD, List.getElem?_eq_getElem h]
  rfl
theorem srt_is (r : Rack) : srt r [] = Sy71.sorted r := by
  have key : srt r [] = true ↔ Sy71.sorted r = true := by
    rw [srt_iff]
    unfold Sy71.sorted
    rw [Bool.and_eq_true, List.all_eq_true, List.all_eq_true]
    have e1 : (∀ t ∈ r, Uni t) ↔ ∀ t ∈ r, (t.all fun (c : Nat) => t.head? == some c) = true := by
      unfold Uni
      simp only [List.all_eq_true, beq_iff_eq]
    rw [← e1]
    constructor
    · rintro ⟨h1, _, h3⟩
      refine ⟨h1, fun i hi => ?_⟩
      rw [List.mem_range] at hi
      rw [List.all_eq_true]
      intro j hj
      rw [List.mem_range] at hj
      rw [getD_ix hi, getD_ix hj]
      by_cases e : i = j
      · simp [e]
      · by_cases em : r[i] = []
        · simp [em]
        · have hd : r[i].head? ≠ r[j].head? := by
            rcases Nat.lt_or_gt_of_ne e with q | q
            · exact List.pairwise_iff_getElem.mp h3 i j hi hj q em
            · intro z
              have nj : r[j] ≠ [] := by
                intro y
                rw [y] at z
                cases hh : r[i] with
                | nil => exact em hh
                | cons a b => rw [hh] at z; cases z
              exact List.pairwise_iff_getElem.mp h3 j i hj hi q nj z.symm
          simp [hd]
    · rintro ⟨h1, h2⟩
      refine ⟨h1, fun _ _ _ _ => by simp, ?_⟩
      rw [List.pairwise_iff_getElem]
      intro i j hi hj q em z
      have := h2 i (List.mem_range.mpr hi)
      rw [List.all_eq_true] at this
      have := this j (List.mem_range.mpr hj)
      rw [getD_ix hi, getD_ix hj, z] at this
      have e : ¬ i = j := by omega
      simp [e, em] at this
  cases h : srt r [] with
  | true => exact (key.mp h).symm
  | false =>
    cases h' : Sy71.sorted r with
    | true => rw [key.mpr h'] at h; cases h
    | false => rfl
end Tb
/-! Racks in the heap; dicts whose keys are racks. -/
namespace Tb
open PySem PySem.Spec PyProof.Rows L2

/-! ### racks -/
def colV (t : List Nat) : List V := t.reverse.map fun (c : Nat) => V.int (c : Int)
def TubeAt (H : Hp) (q : Addr) (t : List Nat) : Prop := H q = some (.tup (colV t))
def RackAt (H : Hp) (p : Addr) (r : Sy71.Rack) : Prop := ∃ qs : List Addr, H p = some (.tup (qs.map V.ref)) ∧ Paired (TubeAt H) qs r
/-- tuples stay -/
def TupSame (H H' : Hp) : Prop := ∀ b xs, H b = some (.tup xs) → H' b = some (.tup xs)
theorem TupSame.refl (H : Hp) : TupSame H H := fun _ _ e => e
theorem TupSame.trans {H H1 H2 : Hp} (a : TupSame H H1) (b : TupSame H1 H2) : TupSame H H2 := fun c xs e => b c xs (a c xs e)
theorem TupSame.of {H H' : Hp} (s : Same H H') : TupSame H H' := fun b _ e => s b _ e
theorem TubeAt.keep {H H' : Hp} (k : TupSame H H') {q : Addr} {t : List Nat} (h : TubeAt H q t) : TubeAt H' q t := k _ _ h
theorem RackAt.keep {H H' : Hp} (k : TupSame H H') {p : Addr} {r : Sy71.Rack} (h : RackAt H p r) : RackAt H' p r := by
  obtain ⟨qs, e, pr⟩ := h
  exact ⟨qs, k _ _ e, Paired.mapP pr fun _ _ z => z.keep k⟩
def tkey (t : List Nat) : NestedKey := .tup (t.reverse.map fun (c : Nat) => NestedKey.num (c : Int))
def rkey (r : Sy71.Rack) : NestedKey := .tup (r.map tkey)
theorem map_inj {α β : Type} {f : α → β} (h : ∀ a b, f a = f b → a = b) : ∀ {l m : List α}, l.map f = m.map f → l = m
  | [], [], _ => rfl
  | [], _ :: _, e => by simp at e
  | _ :: _, [], e => by simp at e
  | a :: l, b :: m, e => by
    rw [List.map_cons, List.map_cons] at e
    injection e with e1 e2
    rw [h a b e1, map_inj h e2]
theorem tkey_inj {a b : List Nat} (e : tkey a = tkey b) : a = b := by
  unfold tkey at e
  injection e with e
  have := map_inj (f := fun (c : Nat) => NestedKey.num (c : Int)) (fun x y q => by
    have q' : NestedKey.num (x : Int) = NestedKey.num (y : Int) := q
    injection q' with q'
    omega) e
  exact List.reverse_inj.mp this
theorem rkey_inj {a b : Sy71.Rack} (e : rkey a = rkey b) : a = b := by
  unfold rkey at e
  injection e with e
  exact map_inj (fun x y q => tkey_inj q) e
theorem depthAll_le {ks : List NestedKey} {n : Nat} (h : ∀ k ∈ ks, k.depth ≤ n) : NestedKey.depthAll ks ≤ n := by
  induction ks with
  | nil => exact Nat.zero_le _
  | cons k ks ih =>
    show max k.depth (NestedKey.depthAll ks) ≤ n
    exact Nat.max_le.mpr ⟨h k List.mem_cons_self, ih fun x hx => h x (List.mem_cons_of_mem _ hx)⟩
theorem rkey_depth (r : Sy71.Rack) : (rkey r).depth ≤ 8 := by
  have h : NestedKey.depthAll (r.map tkey) ≤ 1 := depthAll_le fun k hk => by
    obtain ⟨t, _, rfl⟩ := List.mem_map.mp hk
    show NestedKey.depthAll _ + 1 ≤ 1
    have : NestedKey.depthAll (t.reverse.map fun (c : Nat) => NestedKey.num (c : Int)) ≤ 0 := depthAll_le fun k hk => by
      obtain ⟨c, _, rfl⟩ := List.mem_map.mp hk
      exact Nat.le_refl _
    omega
  show NestedKey.depthAll _ + 1 ≤ 8
  omega
section
variable {P : Program} {w : World} {H : Hp} {h : Heap}
theorem col_all {h : Heap} : ∀ {t : List Nat} {us : List Value}, Vals (t.map fun (c : Nat) => V.int (c : Int)) us → NestedAll h (t.map fun (c : Nat) => NestedKey.num (c : Int)) us
  | [], _, r => by cases r; exact .nil
  | c :: t, _, r => by
    cases r with
    | cons r rs =>
      obtain ⟨tk, rfl⟩ := r
      exact .cons (.int _ _) (col_all rs)
theorem tube_is (ok : HOk P w H h) {q : Addr} {t : List Nat} (e : TubeAt H q t) : NestedIs h (tkey t) (.ref q) := by
  obtain ⟨_, its, r, o, h1, h2, n, h3⟩ := (show ObjOk P w H h q (.tup (colV t)) from ok q _ e)
  exact .tup h1 h2 h3 (by simpa using col_all r)
theorem tubes_all (ok : HOk P w H h) : ∀ {qs : List Addr} {r : Sy71.Rack} {us : List Value}, Paired (TubeAt H) qs r → Vals (qs.map V.ref) us → NestedAll h (r.map tkey) us
  | _, _, _, .nil, v => by cases v; exact .nil
  | _, _, _, .cons e pr, v => by
    cases v with
    | cons x xs =>
      cases x
      exact .cons (tube_is ok e) (tubes_all ok pr xs)
theorem rack_is (ok : HOk P w H h) {p : Addr} {r : Sy71.Rack} (e : RackAt H p r) : (nestedKind P w).is h (rkey r) p := by
  obtain ⟨qs, e, pr⟩ := e
  obtain ⟨_, its, v, o, h1, h2, n, h3⟩ := (show ObjOk P w H h p (.tup (qs.map V.ref)) from ok p _ e)
  exact ⟨.tup h1 h2 h3 (by simpa using tubes_all ok pr v), rkey_depth r⟩
end

/-! ### dicts keyed by racks -/
abbrev Ent := Sy71.Rack × Addr × V
def look (es : List Ent) (r : Sy71.Rack) : Option V := (es.find? fun e => decide (e.1 = r)).map fun e => e.2.2
theorem look_none {es : List Ent} {r : Sy71.Rack} : look es r = none ↔ r ∉ es.map (·.1) := by
  unfold look
  rw [Option.map_eq_none_iff, List.find?_eq_none]
  simp only [List.mem_map, not_exists, not_and, decide_eq_true_eq]
theorem look_some {es : List Ent} (hn : (es.map (·.1)).Nodup) {e : Ent} (he : e ∈ es) : look es e.1 = some e.2.2 := by
  induction es with
  | nil => cases he
  | cons a es ih =>
    rw [List.map_cons, List.nodup_cons] at hn
    unfold look
    rw [List.find?_cons]
    rcases List.mem_cons.mp he with rfl | he
    · simp
    · have : decide (a.1 = e.1) = false := decide_eq_false fun q => hn.1 (q ▸ List.mem_map_of_mem he)
      rw [this]
      exact ih hn.2 he
theorem look_isSome {es : List Ent} {r : Sy71.Rack} : (look es r).isSome = (es.map (·.1)).contains r := by
  cases h : look es r with
  | none =>
    have := look_none.mp h
    symm
    simpa using this
  | some v =>
    symm
    show (es.map (·.1)).contains r = true
    rw [List.contains_iff_mem]
    refine Decidable.byContradiction fun q => ?_
    rw [look_none.mpr q] at h
    cases h
def KeysAt (H : Hp) (es : List Ent) : Prop := ∀ e ∈ es, RackAt H e.2.1 e.1
theorem KeysAt.keep {H H' : Hp} (k : TupSame H H') {es : List Ent} (h : KeysAt H es) : KeysAt H' es := fun e he => (h e he).keep k
abbrev EntRel (e : Ent) (x : NestedKey × Addr × Value) : Prop := x.1 = rkey e.1 ∧ x.2.1 = e.2.1 ∧ RelV e.2.2 x.2.2
def DXp (P : Program) (w : World) (d : Addr) (es : List Ent) (h : Heap) : Prop := es.length ≤ sizeLine ∧ (d == sysModules) = false ∧ (es.map (·.1)).Nodup ∧
  ∃ xs : List (NestedKey × Addr × Value), Paired EntRel es xs ∧ ∃ o ents ep, h.get? d = some o ∧ o.ExactDict ∧ o.data = .dict ents ep ∧ ents.toList = xs.map (entryOfKey (nestedKind P w))
/-- the dict at d: the racks, where their tuples stand, the values -/
def DX (P : Program) (w : World) (d : Addr) (es : List Ent) : HO := .ext (DXp P w d es)
section
variable {P : Program} {w : World} {H : Hp} {h : Heap} {d : Addr} {es : List Ent}
theorem DXp.at {h h' : Heap} (x : DXp P w d es h) (k : ∀ o, h.get? d = some o → h'.get? d = some o) : DXp P w d es h' := by
  obtain ⟨a, b, c, xs, pr, o, ents, ep, e, r⟩ := x
  exact ⟨a, b, c, xs, pr, o, ents, ep, k o e, r⟩
theorem DXp.ok {H : Hp} (x : DXp P w d es h) : ObjOk P w H h d (DX P w d es) := by
  refine ⟨x, ?_, fun h1 h2 y k => y.at k⟩
  obtain ⟨a, b, c, xs, pr, o, ents, ep, e, r⟩ := x
  exact ⟨o, e⟩
theorem dx_ok (x : ObjOk P w H h d (DX P w d es)) : DXp P w d es h := x.1
theorem entrel_keys {es : List Ent} {xs : List (NestedKey × Addr × Value)} (pr : Paired EntRel es xs) : xs.map (·.1) = es.map fun e => rkey e.1 := by
  induction pr with
  | nil => rfl
  | cons a b ih => rw [List.map_cons, List.map_cons, ih, a.1]
theorem entrel_nodup {es : List Ent} {xs : List (NestedKey × Addr × Value)} (pr : Paired EntRel es xs) (hn : (es.map (·.1)).Nodup) : (xs.map (·.1)).Nodup := by
  rw [entrel_keys pr]
  have : (es.map fun e => rkey e.1) = (es.map (·.1)).map rkey := by rw [List.map_map]; rfl
  rw [this]
  unfold List.Nodup at hn ⊢
  rw [List.pairwise_map]
  exact hn.imp fun ne q => ne (rkey_inj q)
theorem entrel_is (ok : HOk P w H h) {es : List Ent} {xs : List (NestedKey × Addr × Value)} (pr : Paired EntRel es xs) : KeysAt H es → ∀ x ∈ xs, (nestedKind P w).is h x.1 x.2.1 := by
  induction pr with
  | nil => intro _ x hx; cases hx
  | cons a b ih =>
    intro k x hx
    rcases List.mem_cons.mp hx with rfl | hx
    · rw [a.1, a.2.1]
      exact rack_is ok (k _ List.mem_cons_self)
    · exact ih (fun e he => k e (List.mem_cons_of_mem _ he)) x hx
theorem dx_of (ok : HOk P w H h) (e : Rd H d (DX P w d es)) (k : KeysAt H es) : es.length ≤ sizeLine ∧ (d == sysModules) = false ∧ (es.map (·.1)).Nodup ∧
    ∃ xs, Paired EntRel es xs ∧ h.DictOfH (nestedKind P w) d xs := by
  obtain ⟨a, b, c, xs, pr, o, ents, ep, e1, e2, e3, e4⟩ := dx_ok (e.ok ok)
  exact ⟨a, b, c, xs, pr, o, ents, ep, e1, e2, e3, e4, entrel_is ok pr k, entrel_nodup pr c⟩
theorem entrel_val {es : List Ent} {xs : List (NestedKey × Addr × Value)} (pr : Paired EntRel es xs) (r : Sy71.Rack) : RelO (look es r) ((atKey xs (rkey r)).map (·.2)) := by
  induction pr with
  | nil => exact True.intro
  | @cons p q ps qs h t ih =>
    obtain ⟨h1, _, h2⟩ := h
    by_cases e : p.1 = r
    · have e' : q.1 = rkey r := by rw [h1, e]
      have a : look (p :: ps) r = some p.2.2 := by simp [look, List.find?_cons, e]
      have b : atKey (q :: qs) (rkey r) = some q.2 := by simp [atKey, List.find?_cons, e']
      rw [a, b]; exact h2
    · have e' : ¬ q.1 = rkey r := fun z => e (rkey_inj (h1.symm.trans z))
      have a : look (p :: ps) r = look ps r := by simp [look, List.find?_cons, e]
      have b : atKey (q :: qs) (rkey r) = atKey qs (rkey r) := by simp [atKey, List.find?_cons, e']
      rw [a, b]; exact ih
theorem dx_new (h : Heap) (hb : sysModules < h.objs.size) : DXp P w h.objs.size [] (h.push { cls := .type "dict", data := .dict #[] }) :=
  ⟨Nat.zero_le _, beq_eq_false_iff_ne.mpr (Ne.symm (Nat.ne_of_lt hb)), List.nodup_nil, [], .nil, _, #[], 0, Heap.get?_push_size _ rfl, ⟨rfl, rfl, rfl⟩, rfl, rfl⟩
end
section
variable {X : Cx} {pins : List (Addr × Obj)} {σ : L2.St} {H : Hp} {s : Shared} {d b : Addr} {es : List Ent} {r : Sy71.Rack} {v : V} {u : Value} {A : Around} {E : Value → Shared → Prop}
theorem room8 {k : Nat} {A : Around} (hr : Room k A) : A.units + 9 < cLine := by have := hr.units; omega
theorem nk_room {P : Program} {w : World} {A : Around} (h : A.units + 9 < cLine) : (nestedKind P w).room A.in1 := by
  show A.in1.units + 8 < cLine
  show A.units + 1 + 8 < cLine
  omega
/-- d[r], there -/
theorem n_getItem {Q : Value → Shared → Prop} (hu : A.units + 9 < cLine) (I : Inv X pins σ H s) (hd : Rd H d (DX X.prog X.w d es)) (hk : KeysAt H es) (hb : RackAt H b r) (l : look es r = some v)
    (h : ∀ w' s', Inv X pins σ H s' → RelV v w' → Q w' s') : wpAny (model X.prog X.w) A (getItem (.ref d) (.ref b)) Q E s := by
  obtain ⟨z, hs, hn, xs, pr, dd⟩ := dx_of I.hok hd hk
  obtain ⟨w', hw, rw'⟩ := RelO.some_of (v := v) (o := (atKey xs (rkey r)).map (·.2)) (by rw [← l]; exact entrel_val pr r)
  obtain ⟨p, hp, hp2⟩ := Option.map_eq_some_iff.mp hw
  refine wpAny_getItem_heap (nk_room hu) (rack_is I.hok hb) dd hp ?_
  rw [hp2]
  exact h w' _ (I.tok _) rw'
theorem n_notIn {Q : Value → Shared → Prop} (hu : A.units + 9 < cLine) (I : Inv X pins σ H s) (hd : Rd H d (DX X.prog X.w d es)) (hk : KeysAt H es) (hb : RackAt H b r)
    (h : ∀ s', Inv X pins σ H s' → Q (.bool (!(look es r).isSome)) s') : wpAny (model X.prog X.w) A (compareOp .NotIn (.ref b) (.ref d)) Q E s := by
  obtain ⟨z, hs, hn, xs, pr, dd⟩ := dx_of I.hok hd hk
  refine wpAny_notIn_heap (nk_room hu) (rack_is I.hok hb) hs dd ?_
  have q := (entrel_val pr r).isSome_eq
  rw [Option.isSome_map] at q
  rw [← q]
  exact h _ (I.tok _)
/-- d[r] = v, new -/
theorem n_setItem {Q : Unit → Shared → Prop} (hu : A.units + 9 < cLine) (I : Inv X pins σ H s) (hd : H d = some (DX X.prog X.w d es)) (hk : KeysAt H es) (hb : RackAt H b r) (l : look es r = none) (hl : es.length < sizeLine) (rv : RelV v u)
    (h : ∀ s', Inv X pins σ (upd H d (DX X.prog X.w d (es ++ [(r, b, v)]))) s' → Q () s') : wpAny (model X.prog X.w) A (setItem (.ref d) (.ref b) u) Q E s := by
  obtain ⟨z, hs, hn, xs, pr, dd⟩ := dx_of I.hok (.inl hd) hk
  have hz : xs.length ≤ sizeLine := by rw [← Paired.length pr]; exact z
  have at0 : atKey xs (rkey r) = none := by
    have := RelO.none_of (o := (atKey xs (rkey r)).map (·.2)) (by rw [← l]; exact entrel_val pr r)
    exact Option.map_eq_none_iff.mp this
  refine wpAny_setItem_heap (hsz := hz) (nk_room hu) (rack_is I.hok hb) dd fun h' dd' hs' => h _ ?_
  rw [storedH_new at0] at dd'
  obtain ⟨q, ents, ep, hq, h2, h3, h4, _, h5⟩ := dd'
  refine d_write I (by rw [hd]; exact True.intro) hs' ⟨q, hq⟩ (DXp.ok ⟨?_, hs, ?_, _, Paired.snoc pr ⟨rfl, rfl, rv⟩, q, ents, ep, hq, h2, h3, h4⟩)
  · rw [List.length_append, List.length_singleton]; omega
  · rw [List.map_append, List.nodup_append]
    refine ⟨hn, by simp, fun a ha c hc e => ?_⟩
    simp at hc
    subst hc
    subst e
    exact look_none.mp l ha
end

/-! ### readings and rules -/
def tNGet (P : Program) (w : World) (td ty : TE) : TE := fun σ H Q => td σ H fun x H1 => ty σ H1 fun y H2 => ∃ d es b r v, x = .ref d ∧ y = .ref b ∧ Rd H2 d (DX P w d es) ∧ KeysAt H2 es ∧ RackAt H2 b r ∧ look es r = some v ∧ Q v H2
def tNNotIn (P : Program) (w : World) (ty td : TE) : TE := fun σ H Q => ty σ H fun y H1 => td σ H1 fun x H2 => ∃ d es b r, x = .ref d ∧ y = .ref b ∧ Rd H2 d (DX P w d es) ∧ KeysAt H2 es ∧ RackAt H2 b r ∧ Q (.bl (!(look es r).isSome)) H2
def sNPut (P : Program) (w : World) (td ty tv : TE) : TS := fun D σ H => tv σ H fun v H1 => td σ H1 fun x H2 => ty σ H2 fun y H3 => ∃ d es b r, x = .ref d ∧ y = .ref b ∧ H3 d = some (DX P w d es) ∧ KeysAt H3 es ∧ RackAt H3 b r ∧
  look es r = none ∧ es.length < sizeLine ∧ D.nx σ (upd H3 d (DX P w d (es ++ [(r, b, v)])))
def tNNew (P : Program) (w : World) : TE := fun _ H Q => ∀ p, H p = none → Q (.ref p) (upd H p (DX P w p []))
section
variable {X : Cx} {o i e value : Expr} {pos pos' : Pos} {td ty tv : TE}
theorem dx_typeIs {pins : List (Addr × Obj)} {σ : L2.St} {H : Hp} {s : Shared} {d : Addr} {es : List Ent} (I : Inv X pins σ H s) (hd : Rd H d (DX X.prog X.w d es)) : s.TypeIs (.ref d) "dict" := by
  obtain ⟨_, _, _, xs, pr, ob, ents, ep, e1, e2, _⟩ := dx_ok (hd.ok I.hok)
  exact ⟨ob, e1, e2.1⟩
theorem pe_nget (hu : X.A.units + 9 < cLine) (ho : PE X o td) (hi : PE X i ty) (hs : NoSl i) : PE X (.Subscript o i pos) (tNGet X.prog X.w td ty) := by
  refine ⟨fun pins s σ H Q I h => ?_⟩
  refine subD_of PySem.F.slot_dict_getitem.lookup hs (thn (ho.run pins s σ H _ I h) fun u s1 ⟨x, H1, I1, rx, q1⟩ => thn (hi.run pins s1 σ H1 _ I1 q1) fun iv s2 ⟨y, H2, I2, ry, d, es, b, r, v, ex, ey, hd, hk, hb, l, q2⟩ => ?_)
  subst ex ey
  obtain rfl : u = Value.ref d := rx
  obtain rfl : iv = Value.ref b := ry
  exact ⟨dx_typeIs I2 hd, n_getItem hu I2 hd hk hb l fun w' s3 I3 rw' => ⟨v, H2, I3, rw', q2⟩⟩
theorem pc_nnotin (hu : X.A.units + 9 < cLine) (hi : PE X i ty) (ho : PE X o td) : PC X .NotIn i o (tNNotIn X.prog X.w ty td) := by
  refine ⟨fun pins s σ H Q I h => ?_⟩
  refine thn (hi.run pins s σ H _ I h) fun iv s1 ⟨y, H1, I1, ry, q1⟩ => thn (ho.run pins s1 σ H1 _ I1 q1) fun u s2 ⟨x, H2, I2, rx, d, es, b, r, ex, ey, hd, hk, hb, q2⟩ => ?_
  subst ex ey
  obtain rfl : u = Value.ref d := rx
  obtain rfl : iv = Value.ref b := ry
  exact n_notIn hu I2 hd hk hb fun s3 I3 => ⟨.bl (!(look es r).isSome), H2, I3, rfl, q2⟩
theorem ps_nput (hu : X.A.units + 9 < cLine) (ho : PE X o td) (hi : PE X i ty) (hv : PE X value tv) (hs : swapsWith value (some (.Subscript o i pos')) pos.line X.env = pure false) :
    PS X (.Assign [.Subscript o i pos'] value pos) (sNPut X.prog X.w td ty tv) := by
  refine ⟨fun pins s σ H D I h => ?_⟩
  refine wpAny_Assign_Subscript (thn (hv.run pins s σ H _ I h) fun rr s1 ⟨v, H1, I1, rv, q1⟩ => thn (ho.run pins s1 σ H1 _ I1 q1) fun u s2 ⟨x, H2, I2, rx, q2⟩ => thn (hi.run pins s2 σ H2 _ I2 q2) fun iv s3 ⟨y, H3, I3, ry, d, es, b, r, ex, ey, hd, hk, hb, l, hl, q3⟩ => ?_) hs
  subst ex ey
  obtain rfl : u = Value.ref d := rx
  obtain rfl : iv = Value.ref b := ry
  exact n_setItem hu I3 hd hk hb l hl rv fun s4 I4 => ⟨σ, _, I4, q3⟩
theorem pe_nnew : PE X (.Dict [] [] pos) (tNNew X.prog X.w) := ⟨fun pins s σ H Q I h =>
  wpAny_Dict_empty ⟨.ref s.heap.objs.size, _, I.laid (a := s.heap.objs.size) (o := DX X.prog X.w s.heap.objs.size []) (t' := s.toks) (fun _ _ q => Heap.get?_push_of_some _ q) (Nat.le_refl _) (dx_new s.heap I.big).ok, rfl, h _ (I.hok.fresh (Nat.le_refl _))⟩⟩

/-- {r: v}: the new dict is there while the key and the value are made -/
def tNDisp (P : Program) (w : World) (tk tv : TE) : TE := fun σ H Q => ∀ p, H p = none → tk σ (upd H p (DX P w p [])) fun y H1 => tv σ H1 fun v H2 => H2 p = some (DX P w p []) ∧ ∃ b r, y = .ref b ∧ RackAt H2 b r ∧ Q (.ref p) (upd H2 p (DX P w p [(r, b, v)]))
theorem pe_ndisp {k v : Expr} {tk tv : TE} (hu : X.A.units + 9 < cLine) (hk : PE X k tk) (hv : PE X v tv) : PE X (.Dict [some k] [v] pos) (tNDisp X.prog X.w tk tv) := by
  refine ⟨fun pins s σ H Q I h => ?_⟩
  have hn := I.hok.fresh (Nat.le_refl s.heap.objs.size)
  have I1 := I.laid (a := s.heap.objs.size) (o := DX X.prog X.w s.heap.objs.size []) (h' := s.heap.push { cls := .type "dict", data := .dict #[] }) (t' := s.toks) (fun _ _ q => Heap.get?_push_of_some _ q) (Nat.le_refl _) (dx_new s.heap I.big).ok
  have hp := pairTrees_length [some k] [v] X.env pos rfl rfl
  have hne : pairTrees [some k] [v] X.env pos ≠ [] := fun e => by rw [e] at hp; cases hp
  rw [arm_eval_Dict, zip_pairTrees [some k] [v] X.env pos rfl rfl, dictDisplay_pairs _ hne (by rw [hp]; show 1 < 17; decide)]
  refine wpAny_bind (wpAny_standAt (wpAny_bind (wpAny_subDictH (knd := nestedKind X.prog X.w) (Q := fun d s' => wpAny (model X.prog X.w) X.A (pure (Value.ref d)) (EP X pins σ Q) X.xe s') (show X.A.units + 8 < cLine by omega) (by rw [hp]; show 1 ≤ 15; decide) ?_)))
  refine pairTrees_cons_walk (thn (hk.run pins _ σ _ _ I1 (h _ hn)) fun u s1 ⟨y, H1, I2, ry, q1⟩ => thn (hv.run pins s1 σ H1 _ I2 q1) fun w2 s2 ⟨z, H2, I3, rz, e, b, r, ey, hb, q2⟩ => pairTrees_nil_walk ?_)
  subst ey
  obtain rfl : u = Value.ref b := ry
  obtain ⟨_, hs, _, xs, pr, dd⟩ := dx_of I3.hok (.inl e) (fun a ha => by cases ha)
  cases pr
  refine ⟨[(rkey r, b, w2)], ⟨rfl, rfl, rack_is I3.hok hb, trivial⟩, dd, fun h' tk' dd' hsb => wpAny_pure ⟨.ref s.heap.objs.size, _, ?_, rfl, q2⟩⟩
  obtain ⟨ob, ents, ep, hq, h2, h3, h4, h6, h5⟩ := dd'
  exact d_write I3 (by rw [e]; exact True.intro) hsb ⟨ob, hq⟩ (DXp.ok ⟨(by show 1 ≤ sizeLine; decide), hs, (by simp), [(rkey r, b, w2)], .cons ⟨rfl, rfl, rz⟩ .nil, ob, ents, ep, hq, h2, h3, h4⟩)

/-- len(d) -/
def rLenN (P : Program) (w : World) : List V → Hp → VK → Prop := fun xs H Q => ∃ (d : Addr) (es : List Ent), xs = [.ref d] ∧ Rd H d (DX P w d es) ∧ KeysAt H es ∧ Q (.int ((es.length : Nat) : Int)) H
theorem call_len_dx : CallR X (.builtin "len") (rLenN X.prog X.w) := by
  intro pins s σ H xs us Q I r h
  obtain ⟨d, es, rfl, hd, hk, q⟩ := h
  obtain ⟨u, rfl, rx⟩ := vals1 r
  obtain rfl : u = .ref d := rx
  obtain ⟨z, hs, hn, ys, pr, dd⟩ := dx_of I.hok hd hk
  have hl : es.length = ys.length := Paired.length pr
  refine call_len_dictH hs dd (by rw [← hl]; rw [sizeLine_eq] at z; omega) ?_
  rw [← hl]
  exact ⟨.int ((es.length : Nat) : Int), H, I.tok _, ⟨_, rfl⟩, q⟩
end

/-! ### for r in d -/
def ItN (P : Program) (w : World) (d : Addr) (o : Obj) (es : List Ent) : It :=
  ⟨fun i H => H d = some (.frz o (DX P w d es)) ∧ i < es.length, fun i H x H' => H' = H ∧ ∃ e, es[i]? = some e ∧ x = .ref e.2.1, fun i H => H d = some (.frz o (DX P w d es)) ∧ es.length ≤ i⟩
theorem frzN {X : Cx} {pins : List (Addr × Obj)} {σ : L2.St} {H : Hp} {s : Shared} {d : Addr} {o : Obj} {es : List Ent} (I : Inv X pins σ H s) (h : H d = some (.frz o (DX X.prog X.w d es))) :
    (d == sysModules) = false ∧ s.heap.get? d = some o ∧ o.ExactDict ∧ ∃ (ents : Array DictEntry) (ep : Nat), o.data = .dict ents ep ∧ ents.size = es.length ∧
      ∀ (i : Nat) (e : Ent), es[i]? = some e → ∃ en : DictEntry, ents[i]? = some en ∧ en.key = .ref e.2.1 := by
  obtain ⟨hd, x⟩ := I.hok d _ h
  obtain ⟨z, hs, hn, xs, pr, o', ents, ep, ho, hx, hdt, he⟩ := dx_ok x
  rw [hd] at ho
  cases ho
  refine ⟨hs, hd, hx, ents, ep, hdt, ?_, fun i e q => ?_⟩
  · have l1 : ents.size = xs.length := size_of_entries he
    have l2 : es.length = xs.length := Paired.length pr
    omega
  · obtain ⟨b, hb, _, e2, _⟩ := paired_get pr q
    have q' := entry_at he i
    rw [hb] at q'
    refine ⟨_, q', ?_⟩
    show Value.ref b.2.1 = _
    rw [e2]
theorem turn_keysN {P : Program} {w : World} {K : PySem.W.Frag} {tg : Expr} {d : Addr} {o : Obj} {ents : Array DictEntry} {ep : Nat} {es : List Ent} (it : Addr) (hod : o.data = .dict ents ep) : Turn P w K tg (ItN P w d o es) [it] it (fun i h => h.IsKeyIter it d i es.length ep) where
  mem := by simp
  obj := fun i h st b hb => by
    have e : b = it := by simpa using hb
    subst e
    obtain ⟨oi, e, c, dd⟩ := st
    exact ⟨oi, e, fun v z => by rw [dd] at z; cases z⟩
  keep := fun i h h' st k => st.at fun oi e => k it (by simp) oi e
  item := by
    intro X hP hw hK hc i pins s σ H E I hf st hg
    subst hP hw hK
    obtain ⟨hd, hi⟩ := hg
    obtain ⟨f0, f1, f2, f3, f4, f5⟩ := hf it (by simp)
    obtain ⟨hs, hgd, hx, es', ep', hdt, hsz, ent⟩ := frzN I hd
    obtain ⟨rfl, rfl⟩ := dict_ep hod hdt
    have hkv : es[i]? = some es[i] := List.getElem?_eq_getElem hi
    obtain ⟨en, hen, hkey⟩ := ent i _ hkv
    refine next_key_item st hgd hdt hsz hen fun h' st' sb => ?_
    have I1 : Inv X pins σ H { s with heap := h' } := I.turned (t' := s.toks) (fun b ob hb e => (sb.2 b hb).trans e) f0 f1 f3 f4 f5
    obtain ⟨oi, e, c, dd⟩ := id st'
    exact ⟨en.key, rfl, go_of (s := { s with heap := h' }) e c dd (by decide) ⟨.ref es[i].2.1, H, I1, hkey, ⟨rfl, es[i], hkv, rfl⟩, st', fun b hb => (hf b hb).1⟩⟩
  done := by
    intro X hP hw hK hc i pins s σ H E I hf st hg
    subst hP hw hK
    obtain ⟨hd, hi⟩ := hg
    obtain ⟨f0, f1, f2, f3, f4, f5⟩ := hf it (by simp)
    obtain ⟨hs, hgd, hx, es', ep', hdt, hsz, ent⟩ := frzN I hd
    obtain ⟨rfl, rfl⟩ := dict_ep hod hdt
    exact next_key_end (I.ok.hd hc) st hgd hdt hsz hi fun h' eb => ⟨rfl, I.turned (t' := s.toks) (fun b ob hb e => eb b ob hb e) f0 f1 f3 f4 f5⟩
  self := fun A i s Q E st h => by
    refine wpAny_pyIter_slot st.typeIs F.slot_dict_keyiterator_iter (wpAny_call_entry F.slot_dict_keyiterator_iter st.typeIs F.entry_dict_keyiterator_iter ?_ (F.args_dict_keyiterator_iter_1 _))
    show wpAny _ _ (ret (.ref it)) _ _ s
    exact wpAny_pure ⟨_, rfl, "dict_keyiterator", _, st.typeIs, F.slot_dict_keyiterator_next.lookup, h⟩
def iKeysN (P : Program) (w : World) (td : TE) : TI := fun σ H R => td σ H fun x H1 => ∃ d o es, x = .ref d ∧ H1 d = some (.frz o (DX P w d es)) ∧ R (ItN P w d o es) H1
theorem pi_keysN {X : Cx} {tg e : Expr} {td : TE} (he : PE X e td) : PI X tg e (iKeysN X.prog X.w td) := by
  refine ⟨fun pins s σ H R I h => ?_⟩
  refine thn (he.run pins s σ H _ I h) fun u s1 ⟨x, H1, I1, rx, d, o, es, ex, hd, q⟩ => ?_
  subst ex
  obtain rfl : u = Value.ref d := rx
  obtain ⟨hs, hgd, hx, ents, ep, hdt, hsz, ent⟩ := frzN I1 hd
  refine iter_keys hs hgd hx hdt (pi_one (tk := s1.toks) I1 _ (turn_keysN _ hdt) ⟨_, Heap.get?_push_size _ rfl, rfl, ?_⟩ q)
  rw [hsz] <;> rfl
theorem walk_keysN {P : Program} {w : World} {d : Addr} {o : Obj} {es : List Ent} : L2.Walk (ItN P w d o es) es.length (fun H => H d = some (.frz o (DX P w d es)))
    (fun i H x H' => H' = H ∧ ∃ e, es[i]? = some e ∧ x = .ref e.2.1) :=
  ⟨fun _ _ hi q => ⟨q, hi⟩, fun _ q => ⟨q, Nat.le_refl _⟩, fun _ _ _ _ _ _ y => y⟩

/-! ### the same, the program and the world told -/
section
variable {X : Cx} {o i e value : Expr} {pos pos' : Pos} {td ty tv : TE} (P : Program) (w : World)
theorem qe_nget (hP : X.prog = P) (hw : X.w = w) (hu : X.A.units + 9 < cLine) (ho : PE X o td) (hi : PE X i ty) (hs : NoSl i) : PE X (.Subscript o i pos) (tNGet P w td ty) := by subst hP hw; exact pe_nget hu ho hi hs
theorem qc_nnotin (hP : X.prog = P) (hw : X.w = w) (hu : X.A.units + 9 < cLine) (hi : PE X i ty) (ho : PE X o td) : PC X .NotIn i o (tNNotIn P w ty td) := by subst hP hw; exact pc_nnotin hu hi ho
theorem qs_nput (hP : X.prog = P) (hw : X.w = w) (hu : X.A.units + 9 < cLine) (ho : PE X o td) (hi : PE X i ty) (hv : PE X value tv) (hs : swapsWith value (some (.Subscript o i pos')) pos.line X.env = pure false) :
    PS X (.Assign [.Subscript o i pos'] value pos) (sNPut P w td ty tv) := by subst hP hw; exact ps_nput hu ho hi hv hs
theorem qe_nnew (hP : X.prog = P) (hw : X.w = w) : PE X (.Dict [] [] pos) (tNNew P w) := by subst hP hw; exact pe_nnew
theorem qe_ndisp {k v : Expr} {tk tv : TE} (hP : X.prog = P) (hw : X.w = w) (hu : X.A.units + 9 < cLine) (hk : PE X k tk) (hv : PE X v tv) : PE X (.Dict [some k] [v] pos) (tNDisp P w tk tv) := by subst hP hw; exact pe_ndisp hu hk hv
theorem q_len_dx (hP : X.prog = P) (hw : X.w = w) : CallR X (.builtin "len") (rLenN P w) := by subst hP hw; exact call_len_dx
theorem qi_keysN {tg : Expr} (hP : X.prog = P) (hw : X.w = w) (he : PE X e td) : PI X tg e (iKeysN P w td) := by subst hP hw; exact pi_keysN he
end
end Tb
/-! list.extend by a tuple; max with a default. -/
namespace Tb
open PySem PySem.Spec PyProof.Rows L2

theorem list_extend_tupleW (l : Addr) (items : Array Value) (n : Nat) (b : Addr) (items2 : Array Value) (n2 : Nat) (dd : Option Addr) (sl : Array (Option Value)) (hs0 : ¬(!items.isEmpty && Builtin.List.listTooLong (items.size + items2.size)) = true) (hs1 : items.size ≤ sizeLine) (hs2 : items.size + items2.size ≤ sizeLine + 1) :
    Meets (Builtin.«list.extend» ⟨[.ref l, .ref b], []⟩) (fun _ R s => s.heap.get? l = some { cls := .type "list", dict := none, data := .seq items n, slots := #[] } ∧ s.heap.get? b = some { cls := .type "tuple", dict := dd, data := .seq items2 n2, slots := sl } ∧ R (.ok (.ret Value.none)) { s with heap := s.heap.update l (Obj.mapSeq fun x => x ++ items2), toks := s.toks }) :=
  .of_wp fun prog w A R s h => by
    obtain ⟨hp, g, d, tk, os⟩ := s; obtain ⟨hl, hb, h⟩ := h; have f1 := AutoSeq1.idx_int; have f2 := AutoSeq1.sub_tuple_tuple; have f3 := AutoSeq1.sub_list_list; have f4 := AutoSeq1.sub_tuple_list; have f5 := AutoSeq1.sub_list_tuple;
    have hz' : (items ++ items2).size ≤ sizeLine + 1 := by rw [Array.size_append]; exact hs2
    wp_walk using (wpAny_updateSeq hl rfl (hz := hs1) (_hz' := hz')), wpAny_loadPart' hl, wpAny_loadPart' hb; exact ⟨_, rfl, h⟩
def rExtT (K : PySem.W.Frag) : V → List V → Hp → VK → Prop := fun x vs H Q => ∃ l b xs zs, x = .ref l ∧ vs = [.ref b] ∧ H l = some (.lst xs) ∧ SqT K H b zs ∧ xs.length + zs.length ≤ sizeLine ∧ Q .non (upd H l (.lst (xs ++ zs)))
theorem mt_extT {X : Cx} : MtM X "list.extend" (rExtT X.K) := by
  intro pins s σ H x vs v us Q I rx rv h
  obtain ⟨l, b, xs, zs, rfl, rfl, hH, hB, hz, q⟩ := h
  cases rx
  obtain ⟨u, rfl, ru⟩ := rv.one
  cases ru
  obtain ⟨z, its, n, r, hl, e⟩ := I.lstM hH
  obtain ⟨its2, r2, ⟨⟨cls, dd, data, sl⟩, ho, hc, n2, hd⟩, z2⟩ := I.tuple hB
  simp only at hc hd
  subst hc hd
  have hl2 : zs.length = its2.length := r2.length
  have hsz : its.toArray.size + its2.toArray.size ≤ sizeLine := by rw [List.size_toArray, List.size_toArray]; omega
  have hlong : ¬ (!its.toArray.isEmpty && Builtin.List.listTooLong (its.toArray.size + its2.toArray.size)) = true := by
    rw [notLongL hsz, Bool.and_false]
    exact Bool.false_ne_true
  refine call_meets F.slot_list_extend ⟨_, e, rfl⟩ F.entry_list_extend (F.args_list_extend_2 _ _)
    (list_extend_tupleW l its.toArray n b its2.toArray n2 dd sl hlong (by rw [List.size_toArray]; omega) (by omega)) ⟨e, ho, ?_⟩
  refine ⟨.non, _, I.lset (its' := its ++ its2) hH e (by simp) (r.append r2) ?_, rfl, q⟩
  rw [List.length_append]
  omega
def rExtA (K : PySem.W.Frag) : V → List V → Hp → VK → Prop := fun x vs H Q => rExtend x vs H Q ∨ rExtT K x vs H Q
theorem mt_extA {X : Cx} : MtM X "list.extend" (rExtA X.K) := by
  intro pins s σ H x vs v us Q I rx rv h
  rcases h with h | h
  · exact mt_extend pins s σ H x vs v us Q I rx rv h
  · exact mt_extT pins s σ H x vs v us Q I rx rv h

theorem maxOf_spec : ∀ (ys : List Int) (y : Int), PySem.W.maxOf y ys ∈ y :: ys ∧ ∀ z, z ∈ y :: ys → z ≤ PySem.W.maxOf y ys
  | [], y => ⟨List.mem_cons_self, fun z hz => by
    rcases List.mem_cons.mp hz with rfl | q
    · exact Int.le_refl _
    · cases q⟩
  | x :: ys, y => by
    have e : PySem.W.maxOf y (x :: ys) = PySem.W.maxOf (if decide (y < x) = true then x else y) ys := rfl
    rw [e]
    obtain ⟨h1, h2⟩ := maxOf_spec ys (if decide (y < x) = true then x else y)
    have h3 := h2 _ List.mem_cons_self
    refine ⟨?_, fun z hz => ?_⟩
    · rcases List.mem_cons.mp h1 with q | q
      · rw [q]
        split
        · exact List.mem_cons_of_mem _ List.mem_cons_self
        · exact List.mem_cons_self
      · exact List.mem_cons_of_mem _ (List.mem_cons_of_mem _ q)
    · rcases List.mem_cons.mp hz with rfl | hz
      · refine Int.le_trans ?_ h3
        split <;> rename_i c <;> simp only [decide_eq_true_eq] at c <;> omega
      · rcases List.mem_cons.mp hz with rfl | hz
        · refine Int.le_trans ?_ h3
          split <;> rename_i c <;> simp only [decide_eq_true_eq] at c <;> omega
        · exact h2 z (List.mem_cons_of_mem _ hz)
/-- max(xs, default=d) of a list of whole numbers -/
def rMaxD (K : PySem.W.Frag) : List V → List V → Hp → VK → Prop := fun vs zs H Q => ∃ (a : Addr) (ns : List Int) (d : Int), vs = [V.ref a] ∧ zs = [V.int d] ∧ SqL K H a (ns.map V.int) ∧ ∀ m, ((ns = [] ∧ m = d) ∨ (m ∈ ns ∧ ∀ y, y ∈ ns → y ≤ m)) → Q (.int m) H
theorem cr_maxD {X : Cx} (hc : X.calm = true) {k : Nat} (hr : Room k X.A) : CallRK X (.builtin "max") [Str.ofString "default"] (rMaxD X.K) := by
  intro pins s σ H xs zs us ws Q I r1 r2 h
  obtain ⟨a, ns, d, rfl, rfl, hs, q1⟩ := h
  obtain ⟨its, rv, hl, _⟩ := I.list hs
  rw [Vals.ref1 r1]
  obtain ⟨wd, rfl, rd⟩ := r2.one
  have hh := PySem.W.HoldAll.of_ints (h := s.heap) rv.ints
  show wpAny _ _ (call (.builtin "max") [.ref a] [(Str.ofString "default", wd)]) _ _ _
  refine PySem.W.max_list_datum_default (α := Int) (I.ok.hd hc) hl.isList (by simpa using hh) (by have := hr.units; show X.A.units + 1 + 0 < cLine; omega) (fun e h' tk hk => ?_) fun y ys i v h' tk e hi hv hk => ?_
  · exact ⟨.int d, H, I.kept hk, rd, q1 d (.inl ⟨e, rfl⟩)⟩
  · obtain ⟨t, rfl⟩ := PySem.W.int_of_holds hv
    have hm := maxOf_spec ys y
    refine ⟨.int (PySem.W.maxOf y ys), H, I.kept hk, ⟨t, rfl⟩, q1 _ (.inr ⟨?_, ?_⟩)⟩
    · rw [e]; exact hm.1
    · rw [e]; exact hm.2
def rLenS (K : PySem.W.Frag) : List V → Hp → VK → Prop := fun xs H Q => ∃ p ys, xs = [V.ref p] ∧ (SqL K H p ys ∨ SqT K H p ys) ∧ Q (.int ys.length) H
/-- len(xs), the written part told -/
theorem q_len {X : Cx} (K : PySem.W.Frag) (hK : X.K = K) : CallR X (.builtin "len") (rLenS K) := by subst hK; exact call_len_seq
end Tb
/-! The small defs: pouring.py -/
namespace Tb
open PySem PySem.Spec PyProof.Rows L2

def topS (i : Nat) : Stmt := PySem.Challenge.pw_tubedrops_s01_answers.main.body.getD i (.Pass ⟨0, 0, 0, 0⟩)

/-! ### a def that may be called by its name -/
structure Has (P : Program) (w : World) (K : PySem.W.Frag) (mg : Str → Option Value) (base : Heap) (k : Nat) (x : Str) (ps : List Str) (sp : Sp) : Prop where
  ex : ∃ (f : Addr) (fd : FuncData), mg x = some (.ref f) ∧ PySem.W.keepIn K (.ref f) = true ∧ Binds K fd ps [] ∧ FnOk P w K mg base CX0 k f fd ps sp
theorem pe_has {X : Cx} {k : Nat} {x : Str} {ps : List Str} {sp : Sp} {p pos : Pos} {e : Expr} {es : List Expr} {t : TA} (G : Has X.prog X.w X.K X.mg X.base k x ps sp) (hr : Room k X.A) (hg : Gl X x) (ha : PA X (e :: es) t)
    (hdb : (x == ("__debug__" : Str)) = false := by decide) (he : starEach (e :: es) X.env = (false, eval e X.env) :: starEach es X.env := by rfl) (hpl : (backTo pos (starEach es X.env)).any (·.1) = false := by rfl) :
    PE X (.Call (.Name x p) (e :: es) [] pos) (tCall sp [] E0 t) := by
  obtain ⟨f, fd, hm, kp, hb, F⟩ := G.ex
  exact pe_call F hr hg hm kp hb .nil pass0 ha hdb he hpl
/-- a method of the class at C -/
structure HasM (P : Program) (w : World) (K : PySem.W.Frag) (mg : Str → Option Value) (base : Heap) (C : Addr) (k : Nat) (m : Str) (ps : List Str) (sp : Sp) : Prop where
  ex : ∃ (f : Addr) (fd : FuncData), Meth K C m f ∧ Binds K fd ps [] ∧ FnOk P w K mg base CX0 k f fd ps sp
theorem Has.of {P : Program} {w : World} {K : PySem.W.Frag} {mg : Str → Option Value} {base : Heap} {k : Nat} {x : Str} {f : Addr} {fd : FuncData} {st : Stmt} {qual : Str} {ps : List Str} {sp : Sp} (F : Fun K x qual st f fd) (hm : mg x = some (.ref f)) (b : Binds K fd ps [])
    (G : FnOk P w K mg base CX0 k f fd ps sp) : Has P w K mg base k x ps sp := ⟨f, fd, hm, F.kp, b, G⟩

/-- the names that the defs read -/
structure Txt (mg : Str → Option Value) : Prop where
  list : mg "list" = none
  tuple : mg "tuple" = none
  reversed : mg "reversed" = none
  min : mg "min" = none
  max : mg "max" = none
  len : mg "len" = none
  range : mg "range" = none
  sum : mg "sum" = none

/-! ### promises -/
/-- with_tube: the items but one -/
def spWith : Sp := fun vs H Q _ => ∃ (p : Addr) (i : Nat) (xs : List V) (v : V), vs = [.ref p, .int i, v] ∧ H p = some (.tup xs) ∧ i < xs.length ∧ xs.length ≤ 1000 ∧
  ∀ (H' : Hp) (q : Addr), Same H H' → H' q = some (.tup (xs.set i v)) → Q (.ref q) H'
def spTop : Sp := fun vs H Q _ => ∃ (p : Addr) (t : List Nat), vs = [.ref p] ∧ TubeAt H p t ∧ ∀ H' : Hp, Same H H' → Q (.int (Sy71.top t : Nat)) H'
def spGoing : Sp := fun vs H Q _ => ∃ (p : Addr) (r : Sy71.Rack) (n i j : Nat), vs = [.ref p, .int n, .int i, .int j] ∧ RackAt H p r ∧ ROk n r ∧ i < r.length ∧ j < r.length ∧
  ∀ H' : Hp, Same H H' → Q (.int (gng n r i j : Nat)) H'
def spPoured : Sp := fun vs H Q _ => ∃ (p : Addr) (r : Sy71.Rack) (n i j k : Nat), vs = [.ref p, .int i, .int j, .int k] ∧ RackAt H p r ∧ ROk n r ∧ i < r.length ∧ j < r.length ∧ 0 < k ∧ k ≤ (r.getD i []).length ∧ i ≠ j ∧
  ∀ (H' : Hp) (q : Addr), Same H H' → RackAt H' q (pset r i j k) → Q (.ref q) H'
def spSorted : Sp := fun vs H Q _ => ∃ (p : Addr) (r : Sy71.Rack) (n : Nat), vs = [.ref p] ∧ RackAt H p r ∧ ROk n r ∧ ∀ H' : Hp, Same H H' → Q (.bl (Sy71.sorted r)) H'

/-! ### heaps -/
theorem same_new {H : Hp} {p : Addr} {o : HO} (h : H p = none) : Same H (upd H p o) := fun b u e => by rw [upd_ne (ne_of_none e h)]; exact e
theorem same_upd {H H1 : Hp} {p : Addr} {o : HO} (s : Same H H1) (h : H p = none) : Same H (upd H1 p o) := fun b u e => by rw [upd_ne (ne_of_none e h)]; exact s b u e

section
variable {P : Program} {w : World} {K : PySem.W.Frag} {mg : Str → Option Value} {base : Heap}
/-! ### with_tube -/
theorem scWith : FnScope ["rack", "tube", "drops", "changed"] ["rack", "tube", "drops"] (defScope (topS 1)) := ⟨rfl, rfl, rfl, by decide +kernel, rfl, by decide +kernel, by decide +kernel⟩
theorem ok_with {f : Addr} {fd : FuncData} (F : Fun K "with_tube" "with_tube" (topS 1) f fd) (T : Txt mg) : FnOk P w K mg base CX0 1 f fd ["rack", "tube", "drops"] spWith := by
  refine F.ok scWith (fun vs H Q E h => ?_) (fun cdv A outer s H vs Q E hr h => ?_)
  · obtain ⟨p, i, xs, v, rfl, _⟩ := h
    rfl
  · refine ⟨_, pss_cons (ps_set (i := 3) scWith.nd rfl (Or.inl rfl) (pe_callTy call_list_of (by rfl) T.list (by decide +kernel) (pa_cons (pv 0) pa_nil)))
      (pss_cons (ps_asg (pv 2) (pg_sub (pv 3) (pv 1) set_list))
      (pss_one (ps_ret (pe_callTy call_tuple_of (by rfl) T.tuple (by decide +kernel) (pa_cons (pv 3) pa_nil))))), ?_⟩
    obtain ⟨p, i, xs, v, rfl, hp, hi, hl, k⟩ := h
    refine ⟨_, rfl, p, xs, rfl, .inr (SqT.of hp), fun l hl' => ?_⟩
    refine ⟨_, rfl, _, rfl, _, rfl, l, xs, i, i, rfl, rfl, upd_same, (by unfold ixN; rw [if_pos (by omega), if_pos (by omega)]; simp), ?_⟩
    refine ⟨_, rfl, l, _, rfl, .inl ⟨SqL.of upd_same, fun q hq => ?_⟩⟩
    have hq' : H q = none := by
      cases e : H q with
      | none => rfl
      | some u =>
        by_cases z : q = l
        · subst z; rw [e] at hl'; cases hl'
        · rw [upd_ne z, upd_ne z, e] at hq; cases hq
    exact k _ q (same_upd (same_upd (same_new hl') hl') hq') upd_same

/-! ### together_on_top -/
theorem tw_len {c : Nat} : ∀ {l : List Nat} {i : Nat}, i ≤ l.length → (∀ j, j < i → l[j]? = some c) → (i < l.length → l[i]? ≠ some c) → (l.takeWhile fun (d : Nat) => d == c).length = i
  | [], i, h, _, _ => by
    have : i = 0 := by simpa using h
    subst this
    rfl
  | a :: l, 0, _, _, h => by
    have : a ≠ c := fun e => h (by simp) (by simp [e])
    rw [List.takeWhile_cons, if_neg (by simpa using this)]
    rfl
  | a :: l, i + 1, h, h1, h2 => by
    have ha : a = c := by simpa using h1 0 (by omega)
    subst ha
    rw [List.takeWhile_cons, if_pos (by simp), List.length_cons, tw_len (l := l) (i := i) (by simpa using h) (fun j hj => by simpa using h1 (j + 1) (by omega)) (fun hi q => h2 (by simpa using hi) (by simpa using q))]
theorem top_len {t : List Nat} {c i : Nat} (hc : t.head? = some c) (h0 : i ≤ t.length) (h1 : ∀ j, j < i → t[j]? = some c) (h2 : i < t.length → t[i]? ≠ some c) : Sy71.top t = i := by
  cases t with
  | nil => cases hc
  | cons a l =>
    have : a = c := by simpa using hc
    subst this
    have := tw_len h0 h1 h2
    rw [List.takeWhile_cons, if_pos (by simp), List.length_cons] at this
    show 1 + (l.takeWhile fun (d : Nat) => d == a).length = i
    omega
theorem colV_len (t : List Nat) : (colV t).length = t.length := by unfold colV; rw [List.length_map, List.length_reverse]
theorem colV_rev {t : List Nat} {i : Nat} (h : i < t.length) : (colV t)[t.length - 1 - i]? = some (.int (t[i] : Nat)) := by
  unfold colV
  rw [List.getElem?_map, List.getElem?_reverse (by omega)]
  have : t.length - 1 - (t.length - 1 - i) = i := by omega
  rw [this, List.getElem?_eq_getElem h]
  rfl
theorem colV_last {c : Nat} {l : List Nat} : atI (colV (c :: l)) (-1) = some (.int (c : Nat)) := by
  unfold colV
  rw [List.reverse_cons, List.map_append]
  exact atI_last _ _
theorem scTop : FnScope ["drops", "together", "colour"] ["drops"] (defScope (topS 2)) := ⟨rfl, rfl, rfl, by decide +kernel, rfl, by decide +kernel, by decide +kernel⟩
theorem ok_top {f : Addr} {fd : FuncData} (F : Fun K "together_on_top" "together_on_top" (topS 2) f fd) (T : Txt mg) : FnOk P w K mg base CX0 1 f fd ["drops"] spTop := by
  refine F.ok scTop (fun vs H Q E h => ?_) (fun cdv A outer s H vs Q E hr h => ?_)
  · obtain ⟨p, t, rfl, _⟩ := h
    rfl
  · refine ⟨_, pss_cons (ps_set (i := 1) scTop.nd rfl (Or.inl rfl) pe_int)
      (pss_cons (ps_for PassesOwn.never rfl (RT.pi_revA (by rfl) T.reversed (pv 0)) (pg_name (i := 2) scTop.nd rfl (Or.inl rfl))
        (pss_cons (ps_if (pt_cmpR op_ne (pv 2) (pe_ix ix_tup (pv 0) (pe_un un_neg pe_int) (fun _ _ => rfl)) (nomark _)) (pss_one ps_break) pss_nil)
        (pss_one (ps_aug (i := 1) scTop.nd rfl (Or.inl rfl) pe_int ip_add))))
      (pss_one (ps_ret (pv 1)))), ?_⟩
    obtain ⟨p, t, rfl, hp, k⟩ := h
    have hS : SqT K H p (colV t) := SqT.of hp
    refine ⟨_, rfl, p, colV t, rfl, .inr ⟨hS, ?_⟩⟩
    refine RT.for_ItvT (K := K) (a := p) (xs := colV t) (fun i σ H' => ∃ v : Option V, H' = H ∧ σ = [some (.ref p), some (.int (i : Nat)), v] ∧ ∀ j, j < i → t[j]? = t.head?) ⟨none, rfl, rfl, fun j hj => absurd hj (by omega)⟩ (fun i σ H' ⟨v, e, _, _⟩ => by rw [e]; exact hS) (fun i x σ H' hi hx ⟨v, e, e2, h1⟩ => ?_) (fun σ H' ⟨v, e, e2, h1⟩ => ?_)
    · subst e e2
      rw [colV_len] at hi hx
      rw [colV_rev hi] at hx
      have hx' := Option.some.inj hx
      subst hx'
      cases t with
      | nil => simp at hi
      | cons c l =>
        refine ⟨_, rfl, _, rfl, _, rfl, p, _, _, _, rfl, rfl, hS, colV_last, rfl, _, rfl, ?_⟩
        refine ite2 (fun hc => ?_) (fun hc => ?_)
        · refine ⟨_, rfl, ?_⟩
          have ne : (c :: l)[i] ≠ c := fun z => by rw [z] at hc; simp at hc
          have e : Sy71.top (c :: l) = i := top_len (c := c) rfl (by omega) h1 (fun hi' q => by rw [List.getElem?_eq_getElem hi'] at q; exact ne (Option.some.inj q))
          have := k _ (Same.refl _)
          rw [e] at this
          exact this
        · have eq : (c :: l)[i] = c := by
            refine Decidable.byContradiction fun z => hc ?_
            have : ¬ V.int ((c :: l)[i] : Nat) = V.int (c : Nat) := fun q => by
              injection q with q
              omega
            simp [this]
          refine ⟨_, rfl, _, _, rfl, rfl, ?_⟩
          refine ⟨_, rfl, rfl, fun j hj => ?_⟩
          by_cases z : j = i
          · subst z
            rw [List.getElem?_eq_getElem hi, eq]
            rfl
          · exact h1 j (by omega)
    · subst e e2
      rw [colV_len] at h1 ⊢
      refine ⟨_, rfl, ?_⟩
      have e : Sy71.top t = t.length := by
        cases t with
        | nil => rfl
        | cons c l => exact top_len (c := c) rfl (Nat.le_refl _) h1 (fun q => absurd q (by omega))
      have := k _ (Same.refl _)
      rw [e] at this
      exact this

/-! ### drops_going -/
theorem paired_ix {α β : Type} {G : α → β → Prop} : ∀ {l : List α} {m : List β} {i : Nat}, Paired G l m → (h : i < m.length) → ∃ a, l[i]? = some a ∧ G a m[i]
  | _, _, _, .nil, h => by simp at h
  | _, _, 0, .cons r _, _ => ⟨_, rfl, r⟩
  | _, _, i + 1, .cons _ t, h => by
    obtain ⟨a, e, g⟩ := paired_ix (i := i) t (by simpa using h)
    exact ⟨a, by simpa using e, by simpa using g⟩
theorem rack_item {H : Hp} {qs : List Addr} {r : Sy71.Rack} {i : Nat} (pr : Paired (TubeAt H) qs r) (h : i < r.length) : ∃ q, atI (qs.map V.ref) (i : Int) = some (.ref q) ∧ TubeAt H q (r.getD i []) := by
  obtain ⟨q, e, g⟩ := paired_ix pr h
  refine ⟨q, atI_nat (by rw [List.getElem?_map, e]; rfl), ?_⟩
  rw [getD_ix h]
  exact g
theorem scGo : FnScope ["rack", "holds", "tube", "other", "drops", "below"] ["rack", "holds", "tube", "other"] (defScope (topS 3)) := ⟨rfl, rfl, rfl, by decide +kernel, rfl, by decide +kernel, by decide +kernel⟩
theorem ok_going {f : Addr} {fd : FuncData} (F : Fun K "drops_going" "drops_going" (topS 3) f fd) (T : Txt mg) (GT : Has P w K mg base 1 "together_on_top" ["drops"] spTop) : FnOk P w K mg base CX0 2 f fd ["rack", "holds", "tube", "other"] spGoing := by
  refine F.ok scGo (fun vs H Q E h => ?_) (fun cdv A outer s H vs Q E hr h => ?_)
  · obtain ⟨p, r, n, i, j, rfl, _⟩ := h
    rfl
  · refine ⟨_, pss_cons (ps_set (i := 4) scGo.nd rfl (Or.inl rfl) (pe_ix ix_tup (pv 0) (pv 2) (fun _ _ => rfl)))
      (pss_cons (ps_set (i := 5) scGo.nd rfl (Or.inl rfl) (pe_ix ix_tup (pv 0) (pv 3) (fun _ _ => rfl)))
      (pss_cons (ps_if (PW.pt (pw_or (pt_cmpR op_eq (pv 2) (pv 3) (nomark _)) (pw_or1 (pt_not (pt_truth (pv 4) (by intro _; rfl)))))) (pss_one (ps_ret pe_int)) pss_nil)
      (pss_cons (ps_if (PW.pt (pw_and (pt_truth (pv 5) (by intro _; rfl)) (pw_and1 (pt_cmpR op_ne (pe_ix ix_tup (pv 5) (pe_un un_neg pe_int) (fun _ _ => rfl)) (pe_ix ix_tup (pv 4) (pe_un un_neg pe_int) (fun _ _ => rfl)) (nomark _))))) (pss_one (ps_ret pe_int)) pss_nil)
      (pss_one (ps_ret (pe_callB (call_min2 rfl) (by rfl) T.min (by decide +kernel) (pa_cons (pe_has GT (hr.mono (by decide)) (by rfl) (pa_cons (pv 4) pa_nil))
        (pa_cons (pe_op op_sub (pv 1) (pe_callB call_len_seq (by rfl) T.len (by decide +kernel) (pa_cons (pv 5) pa_nil))) pa_nil)))))))), ?_⟩
    obtain ⟨p, r, n, i, j, rfl, ⟨qs, hp, pr⟩, ro, hi, hj, k⟩ := h
    obtain ⟨a, ea, ha⟩ := rack_item pr hi
    obtain ⟨b, eb, hb⟩ := rack_item pr hj
    have fb := ro.fit _ (getD_mem hj)
    have hS := SqT.of (K := K) hp
    have hSa : SqT K H a _ := SqT.of ha
    have hSb : SqT K H b _ := SqT.of hb
    have kk := k _ (Same.refl _)
    unfold gng at kk k
    generalize r.getD i [] = ta at *
    generalize r.getD j [] = tb at *
    refine ⟨_, rfl, _, rfl, p, _, _, _, rfl, rfl, hS, ea, ?_⟩
    refine ⟨_, rfl, _, rfl, p, _, _, _, rfl, rfl, hS, eb, ?_⟩
    refine ⟨_, rfl, _, rfl, rfl, _, rfl, ?_⟩
    refine ite2 (fun hc => ?_) (fun hc => ?_)
    · have e : i = j := by
        have := of_decide_eq_true hc
        injection this with this
        omega
      rw [if_pos e] at kk
      exact iteT kk
    · have ne : ¬ i = j := fun e => hc (by rw [e]; simp)
      rw [if_neg ne] at kk k
      refine ⟨_, rfl, !(colV ta).isEmpty, .inr (.inl ⟨_, hSa, rfl⟩), ?_⟩
      cases ta with
      | nil => exact iteT kk
      | cons c l =>
        have e1 : (colV (c :: l)).isEmpty = false := by
          have := colV_len (c :: l)
          cases h : colV (c :: l) with
          | nil => rw [h] at this; cases this
          | cons _ _ => rfl
        rw [e1]
        refine iteF ?_
        refine ⟨_, rfl, !(colV tb).isEmpty, .inr (.inl ⟨_, hSb, rfl⟩), ?_⟩
        have go : ∀ tb : List Nat, TubeAt H b tb → tb.length ≤ n → (∀ H' : Hp, Same H H' → Q (.int (min (Sy71.top (c :: l)) (n - tb.length) : Nat)) H') →
            spTop [.ref a] H (fun x H1 => tOp (rI0 fun i j => .int (i - j)) (tVar 1) (fun σ H Q => ∃ v, σ[5]? = some (some v) ∧ ∃ p ys, [v] = [.ref p] ∧ (SqL K H p ys ∨ SqT K H p ys) ∧ Q (.int ys.length) H) [some (V.ref p), some (.int n), some (.int i), some (.int j), some (.ref a), some (.ref b)] H1
              fun y H2 => ∃ i j, [x, y] = [.int i, .int j] ∧ Q (.int (if j < i then j else i)) H2) E0 := fun tb hb fb kk => by
          refine ⟨a, c :: l, rfl, ha, fun H' sm => ?_⟩
          refine ⟨_, rfl, _, rfl, b, _, rfl, .inr (SqT.of (sm _ _ hb)), _, _, rfl, rfl, _, _, rfl, ?_⟩
          have := kk H' sm
          rw [colV_len]
          have e : (if (n : Int) - (tb.length : Nat) < (Sy71.top (c :: l) : Nat) then (n : Int) - (tb.length : Nat) else (Sy71.top (c :: l) : Nat)) = ((min (Sy71.top (c :: l)) (n - tb.length) : Nat) : Int) := by
            split <;> omega
          rw [e]
          exact this
        cases tb with
        | nil =>
          refine iteF ?_
          refine iteF ?_
          exact ⟨_, rfl, go [] hb (Nat.zero_le _) k⟩
        | cons d m =>
          have e2 : (colV (d :: m)).isEmpty = false := by
            have := colV_len (d :: m)
            cases h : colV (d :: m) with
            | nil => rw [h] at this; cases this
            | cons _ _ => rfl
          rw [e2]
          refine iteT ?_
          refine ⟨_, rfl, _, rfl, b, _, _, _, rfl, rfl, hSb, colV_last, _, rfl, _, rfl, a, _, _, _, rfl, rfl, hSa, colV_last, rfl, _, rfl, ?_⟩
          refine ite2 (fun hc => ?_) (fun hc => ?_)
          · have ne2 : d ≠ c := fun z => by rw [z] at hc; simp at hc
            have e : Sy71.goes n (c :: l) (d :: m) = 0 := if_neg (by simp [ne2])
            rw [e] at kk
            exact kk
          · have eq : d = c := by
              refine Decidable.byContradiction fun z => hc ?_
              have : ¬ V.int (d : Nat) = V.int (c : Nat) := fun q => by
                injection q with q
                omega
              simp [this]
            have e : Sy71.goes n (c :: l) (d :: m) = min (Sy71.top (c :: l)) (n - (d :: m).length) := if_pos (by simp [eq])
            rw [e] at k
            exact ⟨_, rfl, go (d :: m) hb fb k⟩

/-! ### poured -/
theorem sl_head {H : Hp} {p : Addr} {a : List Nat} {k : Nat} {Q : VK} (h : TubeAt H p a) (hk : k ≤ a.length) (hQ : ∀ (H' : Hp) (q : Addr), Same H H' → TubeAt H' q (a.drop k) → Q (.ref q) H') : rSlA K (.ref p) none (some ((a.length : Int) - (k : Int))) H Q := by
  have e : (a.length : Int) - (k : Int) = ((a.length - k : Nat) : Int) := by omega
  rw [e]
  have ec : (colV a).take (a.length - k) = colV (a.drop k) := by
    unfold colV
    rw [← List.map_take, List.take_reverse]
    congr 3
    omega
  refine ⟨p, colV a, rfl, SqT.of h, fun hw => ?_, fun hw q hq => ?_⟩
  · rw [HT.sIx_nat, colV_len] at hw
    refine hQ H p (Same.refl H) ?_
    have : colV (a.drop k) = colV a := by
      rw [← ec, List.take_of_length_le]
      rw [colV_len]
      omega
    show H p = some (.tup (colV (a.drop k)))
    rw [this]
    exact h
  · refine hQ _ q (same_new hq) ?_
    show upd H q _ q = _
    rw [upd_same]
    unfold cutV
    rw [HT.sIx_none, HT.sIx_nat, colV_len, List.drop_zero, Nat.sub_zero, Nat.min_eq_left (Nat.sub_le _ _), ec]
theorem sl_tail {H : Hp} {p : Addr} {a : List Nat} {k : Nat} {Q : VK} (h : TubeAt H p a) (hk : k ≤ a.length) (hQ : ∀ (H' : Hp) (q : Addr), Same H H' → TubeAt H' q (a.take k) → Q (.ref q) H') : rSlA K (.ref p) (some ((a.length : Int) - (k : Int))) none H Q := by
  have e : (a.length : Int) - (k : Int) = ((a.length - k : Nat) : Int) := by omega
  rw [e]
  have ec : (colV a).drop (a.length - k) = colV (a.take k) := by
    unfold colV
    rw [← List.map_drop, List.drop_reverse]
    congr 3
    omega
  refine ⟨p, colV a, rfl, SqT.of h, fun hw => ?_, fun hw q hq => ?_⟩
  · rw [HT.sIx_nat, colV_len] at hw
    refine hQ H p (Same.refl H) ?_
    have : colV (a.take k) = colV a := by
      rw [← ec]
      have : a.length - k = 0 := by omega
      rw [this, List.drop_zero]
    show H p = some (.tup (colV (a.take k)))
    rw [this]
    exact h
  · refine hQ _ q (same_new hq) ?_
    show upd H q _ q = _
    rw [upd_same]
    unfold cutV
    rw [HT.sIx_none, HT.sIx_nat, colV_len, Nat.min_eq_left (Nat.sub_le _ _), ec, List.take_of_length_le]
    rw [colV_len, List.length_take]
    omega
theorem at_none {σ : L2.St} {H : Hp} {Q : Option Int → Hp → Prop} (h : Q none H) : tNoPart σ H Q := h
theorem cat_tubes {H : Hp} {p q : Addr} {b c : List Nat} {Q : VK} (hb : TubeAt H p b) (hc : TubeAt H q c) (hz : b.length + c.length ≤ 1000) (hQ : ∀ (H' : Hp) (x : Addr), Same H H' → TubeAt H' x (c ++ b) → Q (.ref x) H') : rCatA K (.ref p) (.ref q) H Q := by
  have ec : colV (c ++ b) = colV b ++ colV c := by
    unfold colV
    rw [List.reverse_append, List.map_append]
  have z : (colV b).length + (colV c).length ≤ sizeLine := by
    rw [colV_len, colV_len]
    exact Nat.le_trans hz (by decide)
  refine ⟨p, q, colV b, colV c, rfl, rfl, SqT.of hb, SqT.of hc, z, fun e => ?_, fun _ e => ?_, fun _ _ x hx => ?_⟩
  · refine hQ H q (Same.refl H) ?_
    show H q = _
    rw [ec, e]
    exact hc
  · refine hQ H p (Same.refl H) ?_
    show H p = _
    rw [ec, e, List.append_nil]
    exact hb
  · refine hQ _ x (same_new hx) ?_
    show upd H x _ x = _
    rw [upd_same, ec]
theorem paired_set {α β : Type} {G : α → β → Prop} {a : α} {b : β} (g : G a b) : ∀ {l : List α} {m : List β} (i : Nat), Paired G l m → Paired G (l.set i a) (m.set i b)
  | _, _, _, .nil => .nil
  | _, _, 0, .cons _ t => .cons g t
  | _, _, i + 1, .cons r t => .cons r (paired_set g i t)
theorem rack_set {H H' : Hp} {q x : Addr} {r : Sy71.Rack} {t : List Nat} {i : Nat} {qs : List Addr} (sm : TupSame H H') (pr : Paired (TubeAt H) qs r) (hx : TubeAt H' x t) (hq : H' q = some (.tup ((qs.map V.ref).set i (.ref x)))) : RackAt H' q (r.set i t) ∧ Paired (TubeAt H') (qs.set i x) (r.set i t) ∧ H' q = some (.tup ((qs.set i x).map V.ref)) := by
  have e : (qs.map V.ref).set i (.ref x) = (qs.set i x).map V.ref := by rw [List.map_set]
  rw [e] at hq
  have p2 := paired_set hx i (Paired.mapP pr fun _ _ z => z.keep sm)
  exact ⟨⟨_, hq, p2⟩, p2, hq⟩
theorem scPour : FnScope ["rack", "tube", "other", "going", "drops", "left", "emptied"] ["rack", "tube", "other", "going"] (defScope (topS 4)) := ⟨rfl, rfl, rfl, by decide +kernel, rfl, by decide +kernel, by decide +kernel⟩
theorem ok_poured {f : Addr} {fd : FuncData} (F : Fun K "poured" "poured" (topS 4) f fd) (T : Txt mg) (GW : Has P w K mg base 1 "with_tube" ["rack", "tube", "drops"] spWith) : FnOk P w K mg base CX0 2 f fd ["rack", "tube", "other", "going"] spPoured := by
  refine F.ok scPour (fun vs H Q E h => ?_) (fun cdv A outer s H vs Q E hr h => ?_)
  · obtain ⟨p, r, n, i, j, k, rfl, _⟩ := h
    rfl
  · refine ⟨_, pss_cons (ps_set (i := 4) scPour.nd rfl (Or.inl rfl) (pe_ix ix_tup (pv 0) (pv 1) (fun _ _ => rfl)))
      (pss_cons (ps_set (i := 5) scPour.nd rfl (Or.inl rfl) (pe_op op_sub (pe_callB call_len_seq (by rfl) T.len (by decide +kernel) (pa_cons (pv 4) pa_nil)) (pv 3)))
      (pss_cons (ps_set (i := 6) scPour.nd rfl (Or.inl rfl) (pe_has GW (hr.mono (by decide)) (by rfl) (pa_cons (pv 0) (pa_cons (pv 1) (pa_cons (pe_slice sl_tupA (pv 4) po_none (po_some (pv 5))) pa_nil)))))
      (pss_one (ps_ret (pe_has GW (hr.mono (by decide)) (by rfl) (pa_cons (pv 6) (pa_cons (pv 2) (pa_cons (pe_op op_catA (pe_ix ix_tup (pv 0) (pv 2) (fun _ _ => rfl)) (pe_slice sl_tupA (pv 4) (po_some (pv 5)) po_none)) pa_nil)))))))), ?_⟩
    obtain ⟨p, r, n, i, j, g, rfl, ⟨qs, hp, pr⟩, ro, hi, hj, g0, gl, ne, k⟩ := h
    obtain ⟨a, ea, ha⟩ := rack_item pr hi
    obtain ⟨b, eb, hb⟩ := rack_item pr hj
    have fa := ro.fit _ (getD_mem hi)
    have fb := ro.fit _ (getD_mem hj)
    have n4 := ro.n4
    have l5 := ro.l5
    have lq : qs.length = r.length := Paired.length pr
    have hS := SqT.of (K := K) hp
    have hSa : SqT K H a _ := SqT.of ha
    unfold pset at k
    generalize r.getD i [] = ta at *
    generalize r.getD j [] = tb at *
    refine ⟨_, rfl, _, rfl, p, _, _, _, rfl, rfl, hS, ea, ?_⟩
    refine ⟨_, rfl, a, _, rfl, .inr hSa, _, rfl, _, _, rfl, rfl, ?_⟩
    rw [colV_len]
    refine ⟨_, rfl, _, rfl, _, rfl, _, rfl, _, rfl, ?_⟩
    refine sl_head ha gl fun H1 x1 s1 hx1 => ?_
    refine ⟨p, i, _, _, rfl, s1 _ _ hp, by rw [List.length_map]; omega, by rw [List.length_map]; omega, fun H2 q2 s2 hq2 => ?_⟩
    have s02 := s1.trans s2
    obtain ⟨_, pr2, hq2'⟩ := rack_set (TupSame.of s02) pr (hx1.keep (TupSame.of s2)) hq2
    refine ⟨_, rfl, _, rfl, _, rfl, _, rfl, p, _, _, _, rfl, rfl, SqT.of (s02 _ _ hp), eb, _, rfl, _, rfl, _, rfl, ?_⟩
    refine at_none ?_
    refine sl_tail (s02 _ _ ha) gl fun H3 x3 s3 hx3 => ?_
    have s03 := s02.trans s3
    refine cat_tubes (s03 _ _ hb) hx3 (by rw [List.length_take]; omega) fun H4 x4 s4 hx4 => ?_
    have s04 := s03.trans s4
    refine ⟨q2, j, _, _, rfl, (s3.trans s4) _ _ hq2', by rw [List.length_map, List.length_set]; omega, by rw [List.length_map, List.length_set]; omega, fun H5 q5 s5 hq5 => ?_⟩
    obtain ⟨ra, _, _⟩ := rack_set (TupSame.of ((s3.trans s4).trans s5)) pr2 (hx4.keep (TupSame.of s5)) hq5
    exact k H5 q5 (s04.trans s5) ra

/-! ### is_sorted -/
theorem inV_ints (c : Nat) : ∀ cs : List Nat, inV (.int (c : Nat)) (cs.map fun (c : Nat) => V.int (c : Int)) = cs.contains c
  | [] => rfl
  | a :: cs => by
    have ih := inV_ints c cs
    unfold inV at ih ⊢
    rw [List.map_cons, List.any_cons, ih, List.contains_cons]
    have e1 : eqV (V.int (a : Int)) (V.int (c : Int)) = (c == a) := by
      show ((a : Int) == (c : Int)) = (c == a)
      by_cases e : a = c
      · subst e; rw [beq_self_eq_true, beq_self_eq_true]
      · rw [beq_eq_false_iff_ne.mpr (show (a : Int) ≠ (c : Int) by omega), beq_eq_false_iff_ne.mpr (show c ≠ a from fun z => e z.symm)]
    rw [e1]
theorem srt_cons (t : List Nat) (r : Sy71.Rack) (cs : List Nat) : srt (t :: r) cs = (match t.reverse with
    | [] => srt r cs
    | b :: _ => if cs.contains b = true ∨ Sy71.top t ≠ t.length then false else srt r (cs ++ [b])) := rfl
theorem flat_ints : ∀ cs : List Nat, (cs.map fun (c : Nat) => V.int (c : Int)).all flatV = true
  | [] => rfl
  | a :: cs => by rw [List.map_cons, List.all_cons, flat_ints cs]; rfl
theorem scSort : FnScope ["rack", "colours", "drops"] ["rack"] (defScope (topS 5)) := ⟨rfl, rfl, rfl, by decide +kernel, rfl, by decide +kernel, by decide +kernel⟩
theorem ok_sorted {f : Addr} {fd : FuncData} (F : Fun K "is_sorted" "is_sorted" (topS 5) f fd) (T : Txt mg) (GT : Has P w K mg base 1 "together_on_top" ["drops"] spTop) : FnOk P w K mg base CX0 2 f fd ["rack"] spSorted := by
  refine F.ok scSort (fun vs H Q E h => ?_) (fun cdv A outer s H vs Q E hr h => ?_)
  · obtain ⟨p, r, n, rfl, _⟩ := h
    rfl
  · refine ⟨_, pss_cons (ps_set (i := 1) scSort.nd rfl (Or.inl rfl) (pe_lst pa_nil))
      (pss_cons (ps_for PassesOwn.never rfl (pi_tup (pv 0)) (pg_name (i := 2) scSort.nd rfl (Or.inl rfl))
        (pss_cons (ps_if (pt_not (pt_truth (pv 2) (by intro _; rfl))) (pss_one ps_continue) pss_nil)
        (pss_cons (ps_if (PW.pt (pw_or (pt_cmpR op_in_seq (pe_ix ix_tup (pv 2) pe_int (fun _ _ => rfl)) (pv 1) (by rfl))
            (pw_or1 (pt_cmpR op_ne (pe_has GT (hr.mono (by decide)) (by rfl) (pa_cons (pv 2) pa_nil)) (pe_callB call_len_seq (by rfl) T.len (by decide +kernel) (pa_cons (pv 2) pa_nil)) (nomark _)))))
          (pss_one (ps_ret pe_bl)) pss_nil)
        (pss_one (ps_expr (pe_bm PySem.F.plainAttrs_list PySem.F.slot_list_append PySem.F.type_list_append mt_append (pv 1) (pa_cons (pe_ix ix_tup (pv 2) pe_int (fun _ _ => rfl)) pa_nil)))))))
      (pss_one (ps_ret pe_bl))), ?_⟩
    obtain ⟨p, r, n, rfl, ⟨qs, hp, pr⟩, ro, k⟩ := h
    rw [← srt_is] at k
    have lq : qs.length = r.length := Paired.length pr
    refine ⟨(by show 0 ≤ sizeLine; exact Nat.zero_le _), fun l hl => ?_⟩
    refine ⟨_, rfl, p, rfl, ⟨_, SqT.of (same_new hl _ _ hp)⟩, ?_⟩
    refine for_tup (K := K) (a := p) (xs := qs.map V.ref) (fun i σ H' => ∃ (v : Option V) (cs : List Nat), Same H H' ∧ H' l = some (.lst (cs.map fun (c : Nat) => V.int (c : Int))) ∧ cs.length ≤ i ∧ σ = [some (.ref p), some (.ref l), v] ∧ srt (r.drop i) cs = srt r [])
      ⟨none, [], same_new hl, upd_same, Nat.le_refl _, rfl, rfl⟩ (fun i σ H' _ ⟨v, cs, sm, _⟩ => SqT.of (sm _ _ hp)) (fun i x σ H' hx ⟨v, cs, sm, hl', lc, e, hs⟩ => ?_) (fun σ H' ⟨v, cs, sm, hl', lc, e, hs⟩ => ?_)
    · subst e
      have hir : i < r.length := by
        have := (List.getElem?_eq_some_iff.mp hx).1
        rw [List.length_map] at this
        omega
      obtain ⟨q, eq, hq⟩ := paired_ix pr hir
      rw [List.getElem?_map, eq] at hx
      have hx' := Option.some.inj hx
      subst hx'
      have hd : r.drop i = r[i] :: r.drop (i + 1) := List.drop_eq_getElem_cons hir
      have ft := ro.fit _ (List.getElem_mem hir)
      rw [hd] at hs
      generalize r[i] = t at *
      have hSq : SqT K H' q (colV t) := SqT.of (sm _ _ hq)
      refine ⟨_, rfl, !(colV t).isEmpty, .inr (.inl ⟨_, hSq, rfl⟩), ?_⟩
      rw [srt_cons] at hs
      cases hrev : t.reverse with
      | nil =>
        rw [hrev] at hs
        have e : (colV t).isEmpty = true := by unfold colV; rw [hrev]; rfl
        rw [e]
        refine iteT ?_
        exact ⟨_, cs, sm, hl', by omega, rfl, hs⟩
      | cons b bs =>
        rw [hrev] at hs
        have ec : colV t = V.int (b : Nat) :: bs.map fun (c : Nat) => V.int (c : Int) := by unfold colV; rw [hrev]; rfl
        have e : (colV t).isEmpty = false := by rw [ec]; rfl
        rw [e]
        refine iteF ?_
        have a0 : atI (colV t) 0 = some (.int (b : Nat)) := by rw [ec]; exact atI_nat (j := 0) rfl
        refine ⟨_, rfl, q, _, _, _, rfl, rfl, hSq, a0, _, rfl, l, _, rfl, .inl (SqL.of hl'), rfl, flat_ints cs, _, rfl, ?_⟩
        rw [inV_ints]
        have hs' : (if cs.contains b = true ∨ Sy71.top t ≠ t.length then false else srt (r.drop (i + 1)) (cs ++ [b])) = srt r [] := hs
        refine ite2 (fun hc => ?_) (fun hc => ?_)
        · refine iteT ?_
          rw [if_pos (.inl hc)] at hs'
          rw [← hs'] at k
          exact k H' sm
        · refine ⟨_, rfl, q, t, rfl, sm _ _ hq, fun H1 s1 => ?_⟩
          have sm1 := sm.trans s1
          refine ⟨_, rfl, q, _, rfl, .inr (SqT.of (sm1 _ _ hq)), rfl, _, rfl, ?_⟩
          rw [colV_len]
          refine ite2 (fun hc2 => ?_) (fun hc2 => ?_)
          · have ne : Sy71.top t ≠ t.length := fun z => by rw [z] at hc2; simp at hc2
            rw [if_pos (.inr ne)] at hs'
            rw [← hs'] at k
            exact k H1 sm1
          · have eq2 : Sy71.top t = t.length := by
              refine Decidable.byContradiction fun z => hc2 ?_
              have : ¬ V.int (Sy71.top t : Nat) = V.int (t.length : Nat) := fun q => by
                injection q with q
                omega
              simp [this]
            rw [if_neg (fun z => z.elim hc (fun y => y eq2))] at hs'
            have hl1 := s1 _ _ hl'
            refine ⟨_, rfl, .inl ⟨rfl, _, SqL.of hl1⟩, _, rfl, q, _, _, _, rfl, rfl, SqT.of (sm1 _ _ hq), a0, l, _, _, rfl, rfl, hl1, ?_, ?_⟩
            · rw [List.length_map]
              have := ro.l5
              exact Nat.lt_of_le_of_lt (show cs.length ≤ 5 by omega) (by decide)
            · refine ⟨_, cs ++ [b], same_upd sm1 hl, ?_, by rw [List.length_append]; simp; omega, rfl, hs'⟩
              rw [upd_same, List.map_append]
              rfl
    · subst e
      rw [List.length_map, lq, List.drop_length] at hs
      have hs' : true = srt r [] := hs
      rw [← hs'] at k
      exact k H' sm
end
end Tb
/-! ahead.py: pourings_on, ways_to_each, pourings_of, plan_among -/
namespace Tb
open PySem PySem.Spec PyProof.Rows L2

/-! ### heaps -/
theorem tup_upd {H H1 : Hp} {p : Addr} {o : HO} (h : TupSame H H1) (hn : ∀ xs, H p ≠ some (.tup xs)) : TupSame H (upd H1 p o) := fun b xs e => by
  rw [upd_ne (fun z : b = p => hn xs (by rw [← z]; exact e))]
  exact h b xs e
theorem lst_not {H : Hp} {p : Addr} {ys : List V} (h : H p = some (.lst ys)) : ∀ xs, H p ≠ some (.tup xs) := fun xs e => by rw [h] at e; cases e
theorem dx_not {P : Program} {w : World} {H : Hp} {p d : Addr} {es : List Ent} (h : H p = some (DX P w d es)) : ∀ xs, H p ≠ some (.tup xs) := fun xs e => by rw [h] at e; cases e
theorem none_not {H : Hp} {p : Addr} (h : H p = none) : ∀ xs, H p ≠ some (.tup xs) := fun xs e => by rw [h] at e; cases e
theorem none_upd {H : Hp} {d a : Addr} {o : HO} (h : upd H d o a = none) : a ≠ d ∧ H a = none := by
  have ne : a ≠ d := fun z => by rw [z, upd_same] at h; cases h
  exact ⟨ne, by rw [upd_ne ne] at h; exact h⟩
theorem none_of {H H1 : Hp} {p : Addr} (s : Same H H1) (h : H1 p = none) : H p = none := s.free h
/-- a paired list under tuples that stay -/
theorem paired_keep {α β : Type} {G G' : α → β → Prop} {l : List α} {m : List β} (p : Paired G l m) (k : ∀ a b, G a b → G' a b) : Paired G' l m := Paired.mapP p k
theorem paired_snoc {α β : Type} {G : α → β → Prop} {l : List α} {m : List β} {a : α} {b : β} (p : Paired G l m) (g : G a b) : Paired G (l ++ [a]) (m ++ [b]) := Paired.snoc p g

/-! ### promises -/
def EltAt (H : Hp) (a : Addr) (x : Mv × Sy71.Rack) : Prop := ∃ q, H a = some (.tup [.int (x.1.1 : Nat), .int (x.1.2 : Nat), .ref q]) ∧ RackAt H q x.2
theorem EltAt.keep {H H' : Hp} (k : TupSame H H') {a : Addr} {x : Mv × Sy71.Rack} (h : EltAt H a x) : EltAt H' a x := let ⟨q, e, r⟩ := h; ⟨q, k _ _ e, r.keep k⟩
def OutsAt (H : Hp) (l : Addr) (xs : List (Mv × Sy71.Rack)) : Prop := ∃ ts : List Addr, H l = some (.lst (ts.map V.ref)) ∧ Paired (EltAt H) ts xs
def spOuts : Sp := fun vs H Q _ => ∃ (p : Addr) (r : Sy71.Rack) (n : Nat), vs = [.ref p, .int n] ∧ RackAt H p r ∧ ROk n r ∧
  ∀ (H' : Hp) (l : Addr), Same H H' → H l = none → OutsAt H' l (outs n r) → Q (.ref l) H'

section
variable {P : Program} {w : World} {K : PySem.W.Frag} {mg : Str → Option Value} {base : Heap}
/-! ### pourings_on -/
def upTo (L i : Nat) : List Mv := (List.range i).flatMap fun i => (List.range L).map fun j => (i, j)
def outF (n : Nat) (r : Sy71.Rack) (x : Mv) : Option (Mv × Sy71.Rack) := (Sy71.poured n r x.1 x.2).map fun u => (x, u)
theorem outs_eq (n : Nat) (r : Sy71.Rack) : outs n r = (upTo r.length r.length).filterMap (outF n r) := rfl
theorem upTo_succ (L i : Nat) : upTo L (i + 1) = upTo L i ++ (List.range L).map fun j => (i, j) := by
  unfold upTo
  rw [List.range_succ, List.flatMap_append]
  simp
theorem outF_some {n : Nat} {r : Sy71.Rack} {i j : Nat} (hi : i < r.length) (hj : j < r.length) : outF n r (i, j) = if gng n r i j = 0 then none else some ((i, j), pset r i j (gng n r i j)) := by
  unfold outF
  rw [poured_gng hi hj]
  split <;> rfl
theorem outs_len (n : Nat) {r : Sy71.Rack} (h : r.length ≤ 5) : (outs n r).length ≤ 25 := by
  unfold outs
  refine Nat.le_trans (List.length_filterMap_le _ _) ?_
  unfold Sy71.moves
  rw [List.length_flatMap]
  have : ∀ m : Nat, ((List.range m).map fun i => ((List.range r.length).map fun j => (i, j)).length).sum = m * r.length := by
    intro m
    induction m with
    | zero => simp
    | succ m ih => rw [List.range_succ, List.map_append, List.sum_append, ih]; simp [Nat.succ_mul]
  rw [this]
  exact Nat.mul_le_mul h h
theorem scOuts : FnScope ["rack", "holds", "pourings", "tube", "other", "going"] ["rack", "holds"] (defScope (topS 8)) := ⟨rfl, rfl, rfl, by decide +kernel, rfl, by decide +kernel, by decide +kernel⟩
theorem ok_outs {f : Addr} {fd : FuncData} (F : Fun K "pourings_on" "pourings_on" (topS 8) f fd) (T : Txt mg) (GG : Has P w K mg base 2 "drops_going" ["rack", "holds", "tube", "other"] spGoing)
    (GP : Has P w K mg base 2 "poured" ["rack", "tube", "other", "going"] spPoured) : FnOk P w K mg base CX0 3 f fd ["rack", "holds"] spOuts := by
  refine F.ok scOuts (fun vs H Q E h => ?_) (fun cdv A outer s H vs Q E hr h => ?_)
  · obtain ⟨p, r, n, rfl, _⟩ := h
    rfl
  · refine ⟨_, pss_cons (ps_set (i := 2) scOuts.nd rfl (Or.inl rfl) (pe_lst pa_nil))
      (pss_cons (ps_for PassesOwn.never rfl (pi_range1 (by rfl) T.range (pa_cons (pe_callB call_len_seq (by rfl) T.len (by decide +kernel) (pa_cons (pv 0) pa_nil)) pa_nil)) (pg_name (i := 3) scOuts.nd rfl (Or.inl rfl))
        (pss_one (ps_for PassesOwn.never rfl (pi_range1 (by rfl) T.range (pa_cons (pe_callB call_len_seq (by rfl) T.len (by decide +kernel) (pa_cons (pv 0) pa_nil)) pa_nil)) (pg_name (i := 4) scOuts.nd rfl (Or.inl rfl))
          (pss_cons (ps_set (i := 5) scOuts.nd rfl (Or.inl rfl) (pe_has GG (hr.mono (by decide)) (by rfl) (pa_cons (pv 0) (pa_cons (pv 1) (pa_cons (pv 3) (pa_cons (pv 4) pa_nil))))))
          (pss_one (ps_if (pt_cmpR op_gt (pv 5) pe_int (nomark _))
            (pss_one (ps_expr (pe_bm PySem.F.plainAttrs_list PySem.F.slot_list_append PySem.F.type_list_append mt_append (pv 2)
              (pa_cons (pe_tup (pa_cons (pv 3) (pa_cons (pv 4) (pa_cons (pe_has GP (hr.mono (by decide)) (by rfl) (pa_cons (pv 0) (pa_cons (pv 3) (pa_cons (pv 4) (pa_cons (pv 5) pa_nil))))) pa_nil)))) pa_nil)))) pss_nil))))))
      (pss_one (ps_ret (pv 2)))), ?_⟩
    obtain ⟨p, r, n, rfl, hR, ro, k⟩ := h
    obtain ⟨qs, hp, pr⟩ := id hR
    have lq : qs.length = r.length := Paired.length pr
    have l5 := ro.l5
    refine ⟨Nat.zero_le _, fun l hl => ?_⟩
    have sl := same_new (o := .lst []) hl
    refine ⟨_, rfl, p, _, rfl, .inr (SqT.of (sl _ _ hp)), _, rfl, by omega, by rw [List.length_map]; omega, ?_⟩
    rw [List.length_map, lq, Int.toNat_natCast]
    refine for_range (lo := 0) (n := r.length) (fun i σ H' => ∃ (v3 v4 v5 : Option V) (ts : List Addr), σ = [some (.ref p), some (.int n), some (.ref l), v3, v4, v5] ∧ Same H H' ∧ H' l = some (.lst (ts.map V.ref)) ∧ Paired (EltAt H') ts ((upTo r.length i).filterMap (outF n r)) ∧ ts.length ≤ i * r.length)
      ⟨none, none, none, [], rfl, sl, upd_same, .nil, Nat.zero_le _⟩ (fun i σ H1 hi ⟨v3, v4, v5, ts, e, s1, hl1, pr1, z1⟩ => ?_) (fun σ H1 ⟨v3, v4, v5, ts, e, s1, hl1, pr1, z1⟩ => ?_)
    · subst e
      refine ⟨_, rfl, p, _, rfl, .inr (SqT.of (s1 _ _ hp)), _, rfl, by omega, by rw [List.length_map]; omega, ?_⟩
      rw [List.length_map, lq, Int.toNat_natCast, Int.zero_add]
      refine for_range (lo := 0) (n := r.length) (fun j σ H' => ∃ (v4 v5 : Option V) (ts : List Addr), σ = [some (.ref p), some (.int n), some (.ref l), some (.int (i : Nat)), v4, v5] ∧ Same H H' ∧ H' l = some (.lst (ts.map V.ref)) ∧
          Paired (EltAt H') ts ((upTo r.length i ++ (List.range j).map fun j => (i, j)).filterMap (outF n r)) ∧ ts.length ≤ i * r.length + j)
        ⟨v4, v5, ts, rfl, s1, hl1, by simpa using pr1, by omega⟩ (fun j σ H2 hj ⟨v4, v5, ts2, e, s2, hl2, pr2, z2⟩ => ?_) (fun σ H2 ⟨v4, v5, ts2, e, s2, hl2, pr2, z2⟩ => ?_)
      · subst e
        rw [Int.zero_add]
        have step : (upTo r.length i ++ (List.range (j + 1)).map fun j => (i, j)).filterMap (outF n r) = (upTo r.length i ++ (List.range j).map fun j => (i, j)).filterMap (outF n r) ++ (if gng n r i j = 0 then [] else [((i, j), pset r i j (gng n r i j))]) := by
          rw [List.range_succ, List.map_append, ← List.append_assoc, List.filterMap_append]
          congr 1
          rw [List.map_cons, List.map_nil, List.filterMap_cons, outF_some hi hj]
          split
          · rename_i h; split at h <;> simp_all
          · rename_i h; split at h <;> simp_all
        refine ⟨_, rfl, _, rfl, _, rfl, _, rfl, p, r, n, i, j, rfl, hR.keep (TupSame.of s2), ro, hi, hj, fun H3 s3 => ?_⟩
        have s03 := s2.trans s3
        have pr3 := paired_keep pr2 fun a b z => z.keep (TupSame.of s3)
        refine ⟨_, rfl, _, _, rfl, rfl, _, rfl, ?_⟩
        refine ite2 (fun hc => ?_) (fun hc => ?_)
        · have g0 : 0 < gng n r i j := by
            have := of_decide_eq_true hc
            omega
          have ne : i ≠ j := fun e => by
            have : gng n r i j = 0 := if_pos e
            omega
          rw [if_neg (by omega)] at step
          refine ⟨_, rfl, .inl ⟨rfl, _, SqL.of (s3 _ _ hl2)⟩, _, rfl, _, rfl, _, rfl, _, rfl, _, rfl, _, rfl, p, r, n, i, j, gng n r i j, rfl, hR.keep (TupSame.of s03), ro, hi, hj, g0, gng_le, ne, fun H4 q4 s4 r4 => ?_⟩
          have s04 := s03.trans s4
          refine ⟨(by show 3 ≤ sizeLine; decide), fun a ha => ?_⟩
          have s45 := same_new (o := .tup [.int (i : Nat), .int (j : Nat), .ref q4]) ha
          have hl4 := s45 _ _ (s4 _ _ (s3 _ _ hl2))
          refine ⟨l, _, _, rfl, rfl, hl4, ?_, ?_⟩
          · rw [List.length_map]
            have : i * r.length ≤ 5 * 5 := Nat.mul_le_mul (by omega) l5
            exact Nat.lt_of_le_of_lt (show ts2.length ≤ 100 by omega) (by decide)
          · have ts5 : TupSame (upd H4 a (.tup [.int (i : Nat), .int (j : Nat), .ref q4])) (upd (upd H4 a (.tup [.int (i : Nat), .int (j : Nat), .ref q4])) l (.lst (ts2.map V.ref ++ [.ref a]))) := tup_upd (TupSame.refl _) (lst_not hl4)
            refine ⟨some (.int j), some (.int (gng n r i j : Nat)), ts2 ++ [a], rfl, same_upd (s04.trans s45) hl, ?_, ?_, ?_⟩
            · rw [upd_same, List.map_append]
              rfl
            · rw [step]
              refine paired_snoc (paired_keep pr3 fun b x z => z.keep (((TupSame.of s4).trans (TupSame.of s45)).trans ts5)) ?_
              exact ⟨q4, ts5 _ _ upd_same, r4.keep ((TupSame.of s45).trans ts5)⟩
            · rw [List.length_append, List.length_singleton]
              omega
        · have g0 : gng n r i j = 0 := by
            have : ¬ (0 : Int) < (gng n r i j : Nat) := fun z => hc (decide_eq_true z)
            omega
          rw [if_pos g0, List.append_nil] at step
          refine ⟨some (.int j), some (.int (gng n r i j : Nat)), ts2, rfl, s03, s3 _ _ hl2, ?_, by omega⟩
          rw [step]
          exact pr3
      · subst e
        refine ⟨some (.int i), v4, v5, ts2, rfl, s2, hl2, ?_, ?_⟩
        · rw [upTo_succ]
          exact pr2
        · rw [Nat.succ_mul]
          exact z2
    · subst e
      refine ⟨_, rfl, ?_⟩
      refine k H1 l s1 hl ⟨ts, hl1, ?_⟩
      rw [outs_eq]
      exact pr1

theorem cat_any {H : Hp} {p q : Addr} {xs ys : List V} {Q : VK} (ha : H p = some (.tup xs)) (hb : H q = some (.tup ys)) (hz : xs.length + ys.length ≤ sizeLine) (hQ : ∀ (H' : Hp) (x : Addr), Same H H' → H' x = some (.tup (xs ++ ys)) → Q (.ref x) H') : rCatA K (.ref p) (.ref q) H Q := by
  refine ⟨p, q, xs, ys, rfl, rfl, SqT.of ha, SqT.of hb, hz, fun e => ?_, fun _ e => ?_, fun _ _ x hx => ?_⟩
  · exact hQ H q (Same.refl H) (by rw [e]; exact hb)
  · exact hQ H p (Same.refl H) (by rw [e, List.append_nil]; exact ha)
  · exact hQ _ x (same_new hx) upd_same
/-! ### ways_to_each -/
def wayV (Q : Path) : List V := Q.flatMap fun x => [V.int (x.1 : Nat), V.int (x.2 : Nat)]
def WayAt (H : Hp) (v : V) (Q : Path) : Prop := ∃ a, v = .ref a ∧ H a = some (.tup (wayV Q))
theorem WayAt.keep {H H' : Hp} (k : TupSame H H') {v : V} {Q : Path} (h : WayAt H v Q) : WayAt H' v Q := let ⟨a, e, x⟩ := h; ⟨a, e, k _ _ x⟩
theorem wayV_len (Q : Path) : (wayV Q).length = 2 * Q.length := by
  unfold wayV
  induction Q with
  | nil => rfl
  | cons x Q ih => rw [List.flatMap_cons, List.length_append, ih, List.length_cons]; simp; omega
theorem wayV_snoc (Q : Path) (x : Mv) : wayV (Q ++ [x]) = wayV Q ++ [V.int (x.1 : Nat), V.int (x.2 : Nat)] := by
  unfold wayV
  rw [List.flatMap_append]
  simp
/-- entry by entry: the rack, where it stands, its way -/
def EW (H : Hp) (es : List Ent) (W : Ways) : Prop := Paired (fun (e : Ent) (p : Sy71.Rack × Path) => e.1 = p.1 ∧ RackAt H e.2.1 e.1 ∧ WayAt H e.2.2 p.2) es W
theorem EW.keep {H H' : Hp} (k : TupSame H H') {es : List Ent} {W : Ways} (h : EW H es W) : EW H' es W := paired_keep h fun _ _ z => ⟨z.1, z.2.1.keep k, z.2.2.keep k⟩
theorem EW.keys {H : Hp} {es : List Ent} {W : Ways} (h : EW H es W) : KeysAt H es := by
  unfold EW at h
  induction h with
  | nil => intro e he; cases he
  | cons a b ih =>
    intro e he
    rcases List.mem_cons.mp he with rfl | he
    · exact a.2.1
    · exact ih e he
theorem EW.fst {H : Hp} {es : List Ent} {W : Ways} (h : EW H es W) : es.map (·.1) = W.map (·.1) := by
  unfold EW at h
  induction h with
  | nil => rfl
  | cons a b ih => rw [List.map_cons, List.map_cons, ih, a.1]
theorem EW.at {H : Hp} {es : List Ent} {W : Ways} {p : Sy71.Rack × Path} (h : EW H es W) (hn : (W.map (·.1)).Nodup) (hp : p ∈ W) : ∃ v, look es p.1 = some v ∧ WayAt H v p.2 := by
  have hn' : (es.map (·.1)).Nodup := by rw [h.fst]; exact hn
  unfold EW at h
  obtain ⟨j, hj, ej⟩ := List.mem_iff_getElem.mp hp
  obtain ⟨e, he, g1, g2, g3⟩ := paired_ix h hj
  rw [ej] at g1 g3
  have hm : e ∈ es := List.mem_of_getElem? he
  have := look_some hn' hm
  rw [g1] at this
  exact ⟨_, this, g3⟩
theorem EW.known {H : Hp} {es : List Ent} {W : Ways} (h : EW H es W) (r : Sy71.Rack) : (look es r).isSome = known W r := by
  rw [look_isSome, h.fst]
  rfl
def WaysAt (P : Program) (w : World) (H : Hp) (d : Addr) (W : Ways) : Prop := ∃ es, H d = some (DX P w d es) ∧ EW H es W
def spWays (P : Program) (w : World) : Sp := fun vs H Q _ => ∃ (p : Addr) (r : Sy71.Rack) (n : Nat), vs = [.ref p, .int n] ∧ RackAt H p r ∧ ROk n r ∧
  (ways n r = none → ∀ H' : Hp, Same H H' → Q .non H') ∧ (∀ W, ways n r = some W → ∀ (H' : Hp) (d : Addr), Same H H' → WaysAt P w H' d W → Q (.ref d) H')
theorem fold_pre {n : Nat} {r0 : Sy71.Rack} {W : Ways} {g : Nat} {p : Sy71.Rack × Path} (b : Bf n r0 W g) (hp : W[g]? = some p) (i : Nat) :
    ∃ N, ((outs n p.1).take i).foldl (add1 p.2) W = W ++ N ∧ ((W ++ N).map (·.1)).Nodup ∧ N.length ≤ i := by
  have hm : p ∈ W := List.mem_of_getElem? hp
  have gl : g < W.length := (List.getElem?_eq_some_iff.mp hp).1
  obtain ⟨N, h1, h2, h3, h4, h5⟩ := fold_add p.2 ((outs n p.1).take i) W ((outs_inc n p.1).sublist (List.take_sublist _ _)) b.inc b.nod fun a ha x _ => by
    rcases b.src a ha with e | ⟨j, q, y, hj, hq, e⟩
    · rw [e]; exact .inl (by simp)
    · rw [e]
      refine slt_snoc _ _ ?_
      have := List.pairwise_iff_getElem.mp b.inc j g (by omega) gl hj
      rw [List.getElem?_eq_some_iff] at hq hp
      obtain ⟨_, hq⟩ := hq
      obtain ⟨_, hp⟩ := hp
      rw [hq, hp] at this
      exact this
  refine ⟨N, h1, h3, ?_⟩
  have : ∀ (l : List (Mv × Sy71.Rack)) (V : Ways), (l.foldl (add1 p.2) V).length ≤ V.length + l.length := by
    intro l
    induction l with
    | nil => intro V; exact Nat.le_refl _
    | cons x l ih =>
      intro V
      rw [List.foldl_cons, List.length_cons]
      refine Nat.le_trans (ih _) ?_
      have : (add1 p.2 V x).length ≤ V.length + 1 := by
        unfold add1
        split
        · omega
        · simp
      omega
  have := this ((outs n p.1).take i) W
  rw [h1, List.length_append, List.length_take] at this
  omega
theorem fold_step {n : Nat} {u : Sy71.Rack} {Q : Path} {W : Ways} {i : Nat} {x : Mv × Sy71.Rack} (h : (outs n u)[i]? = some x) : ((outs n u).take (i + 1)).foldl (add1 Q) W = add1 Q (((outs n u).take i).foldl (add1 Q) W) x := by
  rw [List.take_add_one, h, List.foldl_append]
  rfl
theorem path_len {n : Nat} {r0 : Sy71.Rack} {W : Ways} {g : Nat} (b : Bf n r0 W g) (hg : g ≤ W.length) : ∀ (j : Nat) (q : Sy71.Rack × Path), W[j]? = some q → q.2.length ≤ j := by
  intro j
  induction j using Nat.strongRecOn with
  | ind j ih =>
    intro q hq
    have hm := List.mem_of_getElem? hq
    rcases b.src q hm with e | ⟨j', q', x, hj, hq', e⟩
    · rw [e]; exact Nat.zero_le _
    · have lt : j' < j := by
        refine Decidable.byContradiction fun z => ?_
        have s1 : slt q'.2 q.2 := by rw [e]; exact .inl (by simp)
        by_cases e2 : j' = j
        · subst e2
          rw [hq] at hq'
          cases hq'
          exact slt_irrefl s1
        · obtain ⟨h1, e1⟩ := List.getElem?_eq_some_iff.mp hq
          obtain ⟨h2, e3⟩ := List.getElem?_eq_some_iff.mp hq'
          have := List.pairwise_iff_getElem.mp b.inc j j' h1 h2 (by omega)
          rw [e1, e3] at this
          exact slt_irrefl (slt_trans s1 this)
      have := ih j' lt q' hq'
      rw [e, List.length_append, List.length_singleton]
      omega
theorem expand_len {n : Nat} {W : Ways} {r : Sy71.Rack} : W.length ≤ (expand n W r).length := by
  unfold expand
  have : ∀ (l : List (Mv × Sy71.Rack)) (Q : Path) (V : Ways), V.length ≤ (l.foldl (add1 Q) V).length := by
    intro l Q
    induction l with
    | nil => intro V; exact Nat.le_refl _
    | cons x l ih =>
      intro V
      rw [List.foldl_cons]
      refine Nat.le_trans ?_ (ih _)
      unfold add1
      split
      · exact Nat.le_refl _
      · simp
  exact this _ _ _
theorem scWays : FnScope ["rack", "holds", "ways", "reached", "gone_through", "here", "tube", "other", "there"] ["rack", "holds"] (defScope (topS 9)) := ⟨rfl, rfl, rfl, by decide +kernel, rfl, by decide +kernel, by decide +kernel⟩
theorem ok_ways {f : Addr} {fd : FuncData} {t300 : Tok} (F : Fun K "ways_to_each" "ways_to_each" (topS 9) f fd) (T : Txt mg) (m300 : mg "MOST_RACKS" = some (.int 300 t300)) (GO : Has P w K mg base 3 "pourings_on" ["rack", "holds"] spOuts) : FnOk P w K mg base CX0 4 f fd ["rack", "holds"] (spWays P w) := by
  refine F.ok scWays (fun vs H Q E h => ?_) (fun cdv A outer s H vs Q E hr h => ?_)
  · obtain ⟨p, r, n, rfl, _⟩ := h
    rfl
  · have hu := room8 hr
    refine ⟨_, pss_cons (ps_set (i := 2) scWays.nd rfl (Or.inl rfl) (qe_ndisp P w rfl rfl hu (pv 0) (pe_tup pa_nil)))
      (pss_cons (ps_set (i := 3) scWays.nd rfl (Or.inl rfl) (pe_lst (pa_cons (pv 0) pa_nil)))
      (pss_cons (ps_set (i := 4) scWays.nd rfl (Or.inl rfl) pe_int)
      (pss_cons (ps_while PassesOwn.never (pt_cmpR op_lt (pv 4) (pe_callB call_len_seq (by rfl) T.len (by decide +kernel) (pa_cons (pv 3) pa_nil)) (nomark _))
        (pss_cons (ps_set (i := 5) scWays.nd rfl (Or.inl rfl) (pe_ix ix_list (pv 3) (pv 4) (fun _ _ => rfl)))
        (pss_cons (ps_aug (i := 4) scWays.nd rfl (Or.inl rfl) pe_int ip_add)
        (pss_cons (ps_for PassesOwn.never rfl (pi_list (pe_has GO (hr.mono (by decide)) (by rfl) (pa_cons (pv 5) (pa_cons (pv 1) pa_nil)))) (pg_tup rfl (pgs_cons (pg_name (i := 6) scWays.nd rfl (Or.inl rfl)) (pgs_cons (pg_name (i := 7) scWays.nd rfl (Or.inl rfl)) (pgs_cons (pg_name (i := 8) scWays.nd rfl (Or.inl rfl)) pgs_nil))))
          (pss_one (ps_if (pt_cmp (qc_nnotin P w rfl rfl hu (pv 8) (pv 2)) (by rfl))
            (pss_cons (qs_nput P w rfl rfl hu (pv 2) (pv 8) (pe_op op_catA (qe_nget P w rfl rfl hu (pv 2) (pv 5) (fun _ _ => rfl)) (pe_tup (pa_cons (pv 6) (pa_cons (pv 7) pa_nil)))) rfl)
            (pss_one (ps_expr (pe_bm PySem.F.plainAttrs_list PySem.F.slot_list_append PySem.F.type_list_append mt_append (pv 3) (pa_cons (pv 8) pa_nil))))) pss_nil)))
        (pss_one (ps_if (pt_cmpR op_gt (pe_callB call_len_seq (by rfl) T.len (by decide +kernel) (pa_cons (pv 3) pa_nil)) (pe_glob (v := .int 300) (by rfl) m300 ⟨_, rfl⟩) (nomark _))
          (pss_one (ps_ret pe_non)) pss_nil))))))
      (pss_one (ps_ret (pv 2)))))), ?_⟩
    obtain ⟨p, r, n, rfl, hR, ro, k0, k1⟩ := h
    intro d hd
    refine ⟨_, rfl, ?_⟩
    refine ⟨Nat.zero_le _, fun a ha => ?_⟩
    obtain ⟨nad, ha0⟩ := none_upd ha
    have hd1 : upd (upd H d (DX P w d [])) a (.tup []) d = some (DX P w d []) := by rw [upd_ne (fun z => nad z.symm), upd_same]
    refine ⟨hd1, p, r, rfl, hR.keep (TupSame.of (same_upd (same_new hd) ha0)), ?_⟩
    have s2 : Same H (upd (upd (upd H d (DX P w d [])) a (.tup [])) d (DX P w d [(r, p, .ref a)])) := same_upd (same_upd (same_new hd) ha0) hd
    have hd2 : upd (upd (upd H d (DX P w d [])) a (.tup [])) d (DX P w d [(r, p, .ref a)]) d = some (DX P w d [(r, p, .ref a)]) := upd_same
    have ha2 : upd (upd (upd H d (DX P w d [])) a (.tup [])) d (DX P w d [(r, p, .ref a)]) a = some (.tup (wayV [])) := by rw [upd_ne nad, upd_same]; rfl
    generalize upd (upd (upd H d (DX P w d [])) a (.tup [])) d (DX P w d [(r, p, .ref a)]) = H2 at *
    refine ⟨_, rfl, (by show 1 ≤ sizeLine; decide), fun l hl => ?_⟩
    have hl0 : H l = none := s2.free hl
    have s23 := same_new (o := .lst [.ref p]) hl
    have s3 := s2.trans s23
    have hl3 : upd H2 l (.lst [.ref p]) l = some (.lst [.ref p]) := upd_same
    have hd3 := s23 _ _ hd2
    have ha3 := s23 _ _ ha2
    generalize upd H2 l (.lst [.ref p]) = H3 at *
    have nld : l ≠ d := fun z => by rw [z, hd2] at hl; cases hl
    refine ⟨fun m σ H' => ∃ (v5 v6 v7 v8 : Option V) (es : List Ent) (Y : Ways) (g : Nat), m = 302 - g ∧ σ = [some (.ref p), some (.int n), some (.ref d), some (.ref l), some (.int g), v5, v6, v7, v8] ∧ Same H H' ∧ H' d = some (DX P w d es) ∧
      H' l = some (.lst (es.map fun e => .ref e.2.1)) ∧ EW H' es Y ∧ Bf n r Y g ∧ g ≤ Y.length ∧ Y.length ≤ 300 ∧ search n (302 - g) Y g = ways n r,
      ⟨302, none, none, none, none, [(r, p, .ref a)], [(r, [])], 0, rfl, rfl, s3, hd3, hl3, .cons ⟨rfl, hR.keep (TupSame.of s3), a, rfl, ha3⟩ .nil, .start n r, by simp, by simp, rfl⟩, ?_⟩
    rintro m σ H4 ⟨v5, v6, v7, v8, es, Y, g, rfl, rfl, s4, hd4, hl4, ew, b, hg, hV, hs⟩
    have le : es.length = Y.length := Paired.length ew
    refine ⟨_, rfl, _, rfl, l, _, rfl, .inl (SqL.of hl4), _, _, rfl, rfl, _, rfl, ?_⟩
    rw [List.length_map, le]
    refine ite2 (fun hc => ?_) (fun hc => ?_)
    · have hlt : g < Y.length := by
        have := of_decide_eq_true hc
        omega
      obtain ⟨pp, hpp⟩ : ∃ pp, Y[g]? = some pp := ⟨Y[g], List.getElem?_eq_getElem hlt⟩
      obtain ⟨e, he, eg1, eg2, eg3⟩ := paired_ix ew hlt
      have ev : Y[g] = pp := by
        rw [List.getElem?_eq_getElem hlt] at hpp
        exact Option.some.inj hpp
      rw [ev] at eg1 eg3
      have hppm : pp ∈ Y := List.mem_of_getElem? hpp
      have rop : ROk n pp.1 := ro.runs (b.val pp hppm)
      have pl := path_len b hg g pp hpp
      refine ⟨fun σ' H' => ∃ m', m' < 302 - g ∧ ∃ (v5 v6 v7 v8 : Option V) (es : List Ent) (Y : Ways) (g : Nat), m' = 302 - g ∧ σ' = [some (.ref p), some (.int n), some (.ref d), some (.ref l), some (.int g), v5, v6, v7, v8] ∧ Same H H' ∧ H' d = some (DX P w d es) ∧
        H' l = some (.lst (es.map fun e => .ref e.2.1)) ∧ EW H' es Y ∧ Bf n r Y g ∧ g ≤ Y.length ∧ Y.length ≤ 300 ∧ search n (302 - g) Y g = ways n r, fun σ' H' h => h, ?_⟩
      refine ⟨_, rfl, _, rfl, l, _, _, .ref e.2.1, rfl, rfl, SqL.of hl4, atI_nat (by rw [List.getElem?_map, he]; rfl), ?_⟩
      refine ⟨_, rfl, _, _, rfl, rfl, ?_⟩
      refine ⟨_, rfl, _, rfl, e.2.1, pp.1, n, rfl, by rw [← eg1]; exact eg2, rop, fun H5 ol s5 hol0 ⟨ts, hol, prt⟩ => ?_⟩
      have lts : ts.length = (outs n pp.1).length := Paired.length prt
      have lo := outs_len n rop.l5
      have nold : ol ≠ d := fun z => by rw [z, hd4] at hol0; cases hol0
      have noll : ol ≠ l := fun z => by rw [z, hl4] at hol0; cases hol0
      have hol00 : H ol = none := s4.free hol0
      refine ⟨ol, rfl, ⟨_, SqL.of hol⟩, ?_⟩
      refine for_list (K := K) (a := ol) (xs := ts.map V.ref) (fun i σ H' => ∃ (v6 v7 v8 : Option V) (es' : List Ent), σ = [some (.ref p), some (.int n), some (.ref d), some (.ref l), some (.int (g + 1 : Nat)), some (.ref e.2.1), v6, v7, v8] ∧ Same H H' ∧ H' d = some (DX P w d es') ∧
        H' l = some (.lst (es'.map fun e => .ref e.2.1)) ∧ H' ol = some (.lst (ts.map V.ref)) ∧ Paired (EltAt H') ts (outs n pp.1) ∧ RackAt H' e.2.1 pp.1 ∧ EW H' es' (((outs n pp.1).take i).foldl (add1 pp.2) Y))
        ⟨v6, v7, v8, es, rfl, s4.trans s5, s5 _ _ hd4, s5 _ _ hl4, hol, prt, by rw [← eg1]; exact eg2.keep (TupSame.of s5), ew.keep (TupSame.of s5)⟩
        (fun i σ H' _ ⟨_, _, _, _, _, _, _, _, h, _⟩ => SqL.of h) (fun i x σ H6 hx ⟨v6, v7, v8, es6, e6, s6, hd6, hl6, hol6, prt6, hr6, ew6⟩ => ?_) (fun σ H6 ⟨v6, v7, v8, es6, e6, s6, hd6, hl6, hol6, prt6, hr6, ew6⟩ => ?_)
      · subst e6
        have hi : i < (outs n pp.1).length := by
          have := (List.getElem?_eq_some_iff.mp hx).1
          rw [List.length_map] at this
          omega
        obtain ⟨ta, hta, q, htq, hq⟩ := paired_ix prt6 hi
        rw [List.getElem?_map, hta] at hx
        have hx' := Option.some.inj hx
        subst hx'
        have hxi : (outs n pp.1)[i]? = some (outs n pp.1)[i] := List.getElem?_eq_getElem hi
        generalize (outs n pp.1)[i] = x at *
        obtain ⟨N, hN, ndN, lN⟩ := fold_pre b hpp i
        have stp := fold_step (Q := pp.2) (W := Y) hxi
        rw [hN] at ew6 stp
        have le6 : es6.length = (Y ++ N).length := Paired.length ew6
        rw [List.length_append] at le6
        refine ⟨ta, _, rfl, SqT.of htq, rfl, _, _, rfl, _, _, rfl, _, _, rfl, rfl, ?_⟩
        refine ⟨_, rfl, _, rfl, d, es6, q, x.2, rfl, rfl, .inl hd6, ew6.keys, hq, _, rfl, ?_⟩
        rw [ew6.known]
        cases hk : known (Y ++ N) x.2 with
        | true =>
          refine iteF ?_
          have e1 : add1 pp.2 (Y ++ N) x = Y ++ N := if_pos hk
          refine ⟨_, _, _, es6, rfl, s6, hd6, hl6, hol6, prt6, hr6, ?_⟩
          rw [stp, e1]
          exact ew6
        | false =>
          refine iteT ?_
          have e1 : add1 pp.2 (Y ++ N) x = Y ++ N ++ [(x.2, pp.2 ++ [x.1])] := if_neg (by rw [hk]; exact Bool.false_ne_true)
          obtain ⟨wv, hw, wa, ewa, hwa⟩ := ew6.at ndN (List.mem_append_left N hppm)
          have ln : look es6 x.2 = none := by
            have := ew6.known x.2
            rw [hk] at this
            cases z : look es6 x.2 with
            | none => rfl
            | some _ => rw [z] at this; cases this
          have fin : ∀ (H7 : Hp) (y : Addr), Same H6 H7 → H7 y = some (.tup (wayV (pp.2 ++ [x.1]))) →
              (H7 d = some (DX P w d es6) ∧ KeysAt H7 es6 ∧ RackAt H7 q x.2 ∧ look es6 x.2 = none ∧ es6.length < sizeLine) ∧
              ∃ es', es' = es6 ++ [(x.2, q, V.ref y)] ∧ upd H7 d (DX P w d es') l = some (.lst (es6.map fun e => .ref e.2.1)) ∧ (es6.map fun e => V.ref e.2.1).length < sizeLine ∧
              ∃ H8, H8 = upd (upd H7 d (DX P w d es')) l (.lst ((es6.map fun e => V.ref e.2.1) ++ [.ref q])) ∧ Same H H8 ∧ H8 d = some (DX P w d es') ∧ H8 l = some (.lst (es'.map fun e => .ref e.2.1)) ∧ H8 ol = some (.lst (ts.map V.ref)) ∧ Paired (EltAt H8) ts (outs n pp.1) ∧
              RackAt H8 e.2.1 pp.1 ∧ EW H8 es' (((outs n pp.1).take (i + 1)).foldl (add1 pp.2) Y) := fun H7 y s7 hy => by
            have s07 := s6.trans s7
            have hd7 := s7 _ _ hd6
            have hl7 := s7 _ _ hl6
            have z6 : es6.length < sizeLine := Nat.lt_of_le_of_lt (show es6.length ≤ 400 by omega) (by decide)
            refine ⟨⟨hd7, ew6.keys.keep (TupSame.of s7), hq.keep (TupSame.of s7), ln, z6⟩, _, rfl, by rw [upd_ne nld]; exact hl7, by rw [List.length_map]; exact z6, _, rfl, ?_⟩
            have tk : TupSame H7 (upd (upd H7 d (DX P w d (es6 ++ [(x.2, q, V.ref y)]))) l (.lst ((es6.map fun e => V.ref e.2.1) ++ [.ref q]))) := tup_upd (tup_upd (TupSame.refl _) (dx_not hd7)) (lst_not hl7)
            have tk6 := (TupSame.of s7).trans tk
            refine ⟨same_upd (same_upd s07 hd) hl0, by rw [upd_ne (fun z => nld z.symm), upd_same], by rw [upd_same, List.map_append]; rfl, by rw [upd_ne noll, upd_ne nold]; exact s7 _ _ hol6, paired_keep prt6 fun _ _ z => z.keep tk6, hr6.keep tk6, ?_⟩
            rw [stp, e1]
            exact paired_snoc (ew6.keep tk6) ⟨rfl, hq.keep tk6, y, rfl, tk _ _ hy⟩
          subst ewa
          refine ⟨_, rfl, _, rfl, d, es6, e.2.1, pp.1, _, rfl, rfl, .inl hd6, ew6.keys, hr6, hw, ?_⟩
          refine ⟨_, rfl, _, rfl, (by show 2 ≤ sizeLine; decide), fun t2 ht2 => ?_⟩
          have st2 := same_new (o := .tup [.int (x.1.1 : Nat), .int (x.1.2 : Nat)]) ht2
          refine cat_any (st2 _ _ hwa) upd_same ?_ fun H7 y s7 hy => ?_
          · rw [wayV_len]
            exact Nat.le_trans (show 2 * pp.2.length + 2 ≤ 1000 by omega) (by decide)
          · rw [← wayV_snoc] at hy
            obtain ⟨⟨g1, g2, g3, g4, g5⟩, es', ees, g6, g7, H8, eH8, g8⟩ := fin H7 y (st2.trans s7) hy
            subst ees
            refine ⟨_, rfl, _, rfl, d, es6, q, x.2, rfl, rfl, g1, g2, g3, g4, g5, ?_⟩
            refine ⟨_, rfl, .inl ⟨rfl, _, SqL.of g6⟩, _, rfl, l, _, _, rfl, rfl, g6, g7, ?_⟩
            rw [← eH8]
            exact ⟨_, _, _, _, rfl, g8⟩
      · subst e6
        rw [List.length_map, lts, List.take_length] at ew6
        have ee : (outs n pp.1).foldl (add1 pp.2) Y = expand n Y pp.1 := by
          unfold expand
          rw [wayOf_mem b.nod hppm]
        rw [ee] at ew6
        have le6 : es6.length = (expand n Y pp.1).length := Paired.length ew6
        have el := expand_len (n := n) (W := Y) (r := pp.1)
        have hs' : (if 300 < (expand n Y pp.1).length then none else search n (302 - (g + 1)) (expand n Y pp.1) (g + 1)) = ways n r := by
          rw [← hs]
          have : 302 - g = (302 - (g + 1)) + 1 := by omega
          rw [this, search, hpp]
        refine ⟨_, rfl, l, _, rfl, .inl (SqL.of hl6), _, _, rfl, rfl, _, rfl, ?_⟩
        rw [List.length_map, le6]
        refine ite2 (fun hc2 => ?_) (fun hc2 => ?_)
        · have c : 300 < (expand n Y pp.1).length := by
            have := of_decide_eq_true hc2
            omega
          rw [if_pos c] at hs'
          exact k0 hs'.symm H6 s6
        · have c : ¬ 300 < (expand n Y pp.1).length := fun z => hc2 (decide_eq_true (by omega))
          rw [if_neg c] at hs'
          exact ⟨302 - (g + 1), by omega, _, _, _, _, es6, _, g + 1, rfl, rfl, s6, hd6, hl6, ew6, b.turn hpp, by omega, by omega, hs'⟩
    · have hge : g = Y.length := by
        have : ¬ (g : Int) < (Y.length : Nat) := fun z => hc (decide_eq_true z)
        omega
      have hn : Y[g]? = none := List.getElem?_eq_none (by omega)
      have hs' : some Y = ways n r := by
        rw [← hs]
        have : 302 - g = (302 - (g + 1)) + 1 := by omega
        rw [this, search, hn]
      refine ⟨_, rfl, ?_⟩
      exact k1 Y hs'.symm H4 d s4 ⟨es, hd4, ew⟩
end
end Tb
/-! ahead.py: pourings_of, plan_among, racks_ahead_of_each, how_many_lead_on -/
namespace Tb
open PySem PySem.Spec PyProof.Rows L2

def spOf : Sp := fun vs H Q _ => ∃ (a : Addr) (p : Path), vs = [.ref a] ∧ H a = some (.tup (wayV p)) ∧ p.length ≤ 1000 ∧ ∀ H' : Hp, Same H H' → Q (.int (p.length : Nat)) H'
def spPlan (P : Program) (w : World) : Sp := fun vs H Q _ => ∃ (d : Addr) (W : Ways) (n : Nat), vs = [.ref d] ∧ WaysAt P w H d W ∧ (W.map (·.1)).Nodup ∧ (∀ p ∈ W, ROk n p.1) ∧
  (planAmong W = none → ∀ H' : Hp, Same H H' → Q .non H') ∧ (∀ p, planAmong W = some p → ∀ (H' : Hp) (a : Addr), Same H H' → H' a = some (.tup (wayV p)) → Q (.ref a) H')

theorem same_unlock {H H' : Hp} {d : Addr} {u : HO} {od : Obj} (h : H d = some u) (s : Same (upd H d (.frz od u)) H') : Same H (upd H' d u) := fun b o e => by
  by_cases z : b = d
  · rw [z, upd_same, ← h, ← z]
    exact e.symm ▸ rfl
  · rw [upd_ne z]
    exact s b o (by rw [upd_ne z]; exact e)
theorem tup_lock {P : Program} {w : World} {H H' : Hp} {d : Addr} {es : List Ent} {o : HO} (h : H d = some (DX P w d es)) (s : Same (upd H d o) H') : TupSame H H' := (tup_upd (TupSame.refl H) (dx_not h)).trans (TupSame.of s)
theorem tup_unlock {H : Hp} {d : Addr} {od : Obj} {u : HO} {o : HO} (h : H d = some (.frz od u)) : TupSame H (upd H d o) := tup_upd (TupSame.refl H) fun xs e => by rw [h] at e; cases e

theorem find_here {α : Type} {p : α → Bool} : ∀ {l : List α} {i : Nat} (h : i < l.length), (l.take i).find? p = none → p l[i] = true → l.find? p = some l[i]
  | [], _, h, _, _ => by simp at h
  | a :: l, 0, _, _, q => by
    rw [List.find?_cons]
    have q' : p a = true := q
    rw [q']
    rfl
  | a :: l, i + 1, h, hf, q => by
    rw [List.take_succ_cons, List.find?_cons] at hf
    rw [List.find?_cons]
    cases e : p a with
    | true => rw [e] at hf; cases hf
    | false =>
      rw [e] at hf
      exact find_here (l := l) (i := i) (by simpa using h) hf q
section
variable {P : Program} {w : World} {K : PySem.W.Frag} {mg : Str → Option Value} {base : Heap}
/-! ### pourings_of -/
theorem scOf : FnScope ["way"] ["way"] (defScope (topS 10)) := ⟨rfl, rfl, rfl, by decide +kernel, rfl, by decide +kernel, by decide +kernel⟩
theorem ok_of {f : Addr} {fd : FuncData} (F : Fun K "pourings_of" "pourings_of" (topS 10) f fd) (T : Txt mg) : FnOk P w K mg base CX0 1 f fd ["way"] spOf := by
  refine F.ok scOf (fun vs H Q E h => ?_) (fun cdv A outer s H vs Q E hr h => ?_)
  · obtain ⟨a, p, rfl, _⟩ := h
    rfl
  · refine ⟨_, pss_one (ps_ret (pe_op op_fdiv (pe_callB call_len_seq (by rfl) T.len (by decide +kernel) (pa_cons (pv 0) pa_nil)) pe_int)), ?_⟩
    obtain ⟨a, p, rfl, ha, _, k⟩ := h
    refine ⟨_, rfl, a, _, rfl, .inr (SqT.of ha), _, _, rfl, rfl, ⟨by decide, by decide⟩, ?_⟩
    have := k H (Same.refl H)
    rw [wayV_len]
    have e : ((2 * p.length : Nat) : Int) / 2 = (p.length : Nat) := by omega
    show Q (.int (((2 * p.length : Nat) : Int) / 2)) H
    rw [e]
    exact this

/-! ### plan_among -/
theorem scPlan : FnScope ["ways", "there"] ["ways"] (defScope (topS 11)) := ⟨rfl, rfl, rfl, by decide +kernel, rfl, by decide +kernel, by decide +kernel⟩
theorem ok_plan {f : Addr} {fd : FuncData} (F : Fun K "plan_among" "plan_among" (topS 11) f fd) (T : Txt mg) (GS : Has P w K mg base 2 "is_sorted" ["rack"] spSorted) : FnOk P w K mg base CX0 3 f fd ["ways"] (spPlan P w) := by
  refine F.ok scPlan (fun vs H Q E h => ?_) (fun cdv A outer s H vs Q E hr h => ?_)
  · obtain ⟨d, W, n, rfl, _⟩ := h
    rfl
  · have hu := room8 hr
    refine ⟨_, pss_cons (ps_lock (ps_for PassesOwn.never rfl (qi_keysN P w rfl rfl (pv 0)) (pg_name (i := 1) scPlan.nd rfl (Or.inl rfl))
        (pss_one (ps_if (pt_val (pe_has GS (hr.mono (by decide)) (by rfl) (pa_cons (pv 1) pa_nil)) (by intro _; rfl)) (pss_one (ps_ret (qe_nget P w rfl rfl hu (pv 0) (pv 1) (fun _ _ => rfl)))) pss_nil))))
      (pss_one (ps_ret pe_non)), ?_⟩
    obtain ⟨d, W, n, rfl, ⟨es, hd, ew⟩, nd, ro, k0, k1⟩ := h
    have le : es.length = W.length := Paired.length ew
    refine ⟨d, DX P w d es, hd, True.intro, fun od => ?_⟩
    have hd1 : upd H d (.frz od (DX P w d es)) d = some (.frz od (DX P w d es)) := upd_same
    refine ⟨_, rfl, d, od, es, rfl, hd1, ?_⟩
    refine for_it walk_keysN (fun i σ H' => ∃ v : Option V, σ = [some (.ref d), v] ∧ Same (upd H d (.frz od (DX P w d es))) H' ∧ (W.take i).find? (fun p => Sy71.sorted p.1) = none)
      ⟨none, rfl, Same.refl _, rfl⟩ (fun i σ H' _ ⟨v, _, s1, _⟩ => s1 _ _ hd1) (fun i x σ H1 H2 hi ⟨v, e, s1, hf⟩ ⟨e2, en, hen, ex⟩ => ?_) (fun σ H1 ⟨v, e, s1, hf⟩ => ?_)
    · subst e e2 ex
      obtain ⟨e', he', g1, g2, g3⟩ := paired_ix ew (i := i) (by omega)
      rw [hen] at he'
      cases he'
      have hm : W[i] ∈ W := List.getElem_mem _
      have tk := tup_lock hd s1
      refine ⟨_, rfl, en.2.1, en.1, n, rfl, g2.keep tk, by rw [g1]; exact ro _ hm, fun H3 s3 => ?_⟩
      have s03 := s1.trans s3
      have hd3 := s03 _ _ hd1
      refine ⟨_, rfl, ?_⟩
      have tw : W.take (i + 1) = W.take i ++ [W[i]] := by
        rw [List.take_add_one, List.getElem?_eq_getElem (by omega)]
        rfl
      cases hs : Sy71.sorted en.1 with
      | true =>
        refine iteT ?_
        have hp : planAmong W = some (W[i]).2 := by
          unfold planAmong
          have : W.find? (fun p => Sy71.sorted p.1) = some W[i] := find_here _ hf (by rw [← g1]; exact hs)
          rw [this]
          rfl
        obtain ⟨v', hl, a, ea, ha⟩ := ew.at nd hm
        subst ea
        rw [← g1] at hl
        have tk3 := tup_lock hd s03
        refine ⟨_, rfl, _, rfl, d, es, en.2.1, en.1, _, rfl, rfl, .inr ⟨od, hd3⟩, ew.keys.keep tk3, g2.keep tk3, hl, hd3, ?_⟩
        exact k1 _ hp _ a (same_unlock hd s03) (tup_unlock hd3 _ _ (tk3 _ _ ha))
      | false =>
        refine iteF ?_
        refine ⟨_, rfl, s03, ?_⟩
        rw [tw, List.find?_append, hf, Option.none_or, List.find?_cons, ← g1, hs]
        rfl
    · subst e
      rw [le, List.take_length] at hf
      refine ⟨s1 _ _ hd1, ?_⟩
      exact k0 (by unfold planAmong; rw [hf]; rfl) _ (same_unlock hd s1)

/-! ### racks_ahead_of_each -/
def LstAt (H : Hp) (l : Addr) (rs : List Sy71.Rack) : Prop := ∃ qs : List Addr, H l = some (.lst (qs.map V.ref)) ∧ Paired (RackAt H) qs rs
/-- behind each rack a list of its own, new, of the racks that F tells -/
structure AH (H0 H : Hp) (es : List Ent) (F : Sy71.Rack → List Sy71.Rack) : Prop where
  at' : ∀ e ∈ es, ∃ l, e.2.2 = .ref l ∧ H0 l = none ∧ LstAt H l (F e.1)
  inj : ∀ e ∈ es, ∀ e' ∈ es, e.2.2 = e'.2.2 → e.1 = e'.1
theorem LstAt.keep {H H' : Hp} {l : Addr} {rs : List Sy71.Rack} (h : LstAt H l rs) (k : ∀ xs, H l = some (.lst xs) → H' l = some (.lst xs)) (t : TupSame H H') : LstAt H' l rs := by
  obtain ⟨qs, e, pr⟩ := h
  exact ⟨qs, k _ e, paired_keep pr fun _ _ z => z.keep t⟩
theorem AH.keep {H0 H H' : Hp} {es : List Ent} {F : Sy71.Rack → List Sy71.Rack} (h : AH H0 H es F) (k : ∀ e ∈ es, ∀ l xs, e.2.2 = .ref l → H l = some (.lst xs) → H' l = some (.lst xs)) (t : TupSame H H') : AH H0 H' es F :=
  ⟨fun e he => let ⟨l, a, b, c⟩ := h.at' e he; ⟨l, a, b, c.keep (fun xs q => k e he l xs a q) t⟩, h.inj⟩
theorem AH.same {H0 H H' : Hp} {es : List Ent} {F : Sy71.Rack → List Sy71.Rack} (h : AH H0 H es F) (s : Same H H') : AH H0 H' es F := h.keep (fun _ _ _ _ _ q => s _ _ q) (TupSame.of s)
theorem AH.ne {H0 H : Hp} {es : List Ent} {F : Sy71.Rack → List Sy71.Rack} (h : AH H0 H es F) {x : Addr} (hx : ∀ xs, H x ≠ some (.lst xs)) : ∀ e ∈ es, e.2.2 ≠ .ref x := fun e he z => by
  obtain ⟨l, a, b, qs, c, _⟩ := h.at' e he
  rw [a] at z
  injection z with z
  subst z
  exact hx _ c
theorem AH.congr {H0 H : Hp} {es : List Ent} {F G : Sy71.Rack → List Sy71.Rack} (h : AH H0 H es F) (e : ∀ r, F r = G r) : AH H0 H es G := by
  have : F = G := funext e
  subst this
  exact h
def spAhead (P : Program) (w : World) : Sp := fun vs H Q _ => ∃ (d : Addr) (n : Nat) (es : List Ent), vs = [.ref d, .int n] ∧ H d = some (DX P w d es) ∧ KeysAt H es ∧ (es.map (·.1)).Nodup ∧ (∀ r ∈ es.map (·.1), ROk n r) ∧ Closed n (es.map (·.1)) ∧ es.length ≤ 300 ∧
  ∀ (H' : Hp) (d2 : Addr) (es2 : List Ent), Same H H' → H' d2 = some (DX P w d2 es2) → es2.map (·.1) = es.map (·.1) → KeysAt H' es2 → AH H H' es2 (aheadOf n (es.map (·.1))) → Q (.ref d2) H'
theorem same_lock {H H' : Hp} {d : Addr} {o : HO} (s : Same H H') : Same (upd H d o) (upd H' d o) := fun b u e => by
  by_cases z : b = d
  · rw [z, upd_same] at e ⊢
    exact e
  · rw [upd_ne z] at e ⊢
    exact s b u e
/-- what's new of a heap stays what it is when a thing that stood is locked -/
theorem same_lock_upd {H H1 : Hp} {d p : Addr} {o u : HO} (s : Same (upd H d o) H1) (hp : H p = none) (ne : p ≠ d) : Same (upd H d o) (upd H1 p u) := same_upd s (by rw [upd_ne ne]; exact hp)
def aheadK (n : Nat) (here : Sy71.Rack) (k : Nat) (u : Sy71.Rack) : List Sy71.Rack := (((outs n here).take k).filter fun x => x.2 == u).map fun _ => here
theorem aheadOf_snoc (n : Nat) (keys : List Sy71.Rack) (h u : Sy71.Rack) : aheadOf n (keys ++ [h]) u = aheadOf n keys u ++ aheadK n h (outs n h).length u := by
  unfold aheadOf aheadK
  rw [List.flatMap_append, List.take_length]
  simp
theorem aheadK_step {n : Nat} {h u : Sy71.Rack} {k : Nat} {x : Mv × Sy71.Rack} (e : (outs n h)[k]? = some x) : aheadK n h (k + 1) u = aheadK n h k u ++ (if x.2 = u then [h] else []) := by
  unfold aheadK
  rw [List.take_add_one, e, List.filter_append, List.map_append]
  congr 1
  by_cases c : x.2 = u
  · simp [c]
  · simp [c]
theorem aheadOf_len {n : Nat} {u : Sy71.Rack} : ∀ {keys : List Sy71.Rack}, (∀ r ∈ keys, ROk n r) → (aheadOf n keys u).length ≤ 25 * keys.length
  | [], _ => Nat.le_refl _
  | h :: keys, ro => by
    have ih := aheadOf_len (u := u) (keys := keys) fun r hr => ro r (List.mem_cons_of_mem _ hr)
    unfold aheadOf at ih ⊢
    rw [List.flatMap_cons, List.length_append, List.length_map, List.length_cons]
    have := List.length_filter_le (fun (x : Mv × Sy71.Rack) => x.2 == u) (outs n h)
    have := outs_len n (ro h List.mem_cons_self).l5
    omega
theorem aheadK_len {n : Nat} {h u : Sy71.Rack} {k : Nat} (ro : ROk n h) : (aheadK n h k u).length ≤ 25 := by
  unfold aheadK
  rw [List.length_map]
  have := List.length_filter_le (fun (x : Mv × Sy71.Rack) => x.2 == u) ((outs n h).take k)
  have := outs_len n ro.l5
  have := List.length_take_le k (outs n h)
  rw [List.length_take] at *
  omega
theorem scAhead : FnScope ["racks", "holds", "ahead", "rack", "here", "pouring"] ["racks", "holds"] (defScope (topS 12)) := ⟨rfl, rfl, rfl, by decide +kernel, rfl, by decide +kernel, by decide +kernel⟩
theorem ok_ahead {f : Addr} {fd : FuncData} (F : Fun K "racks_ahead_of_each" "racks_ahead_of_each" (topS 12) f fd) (T : Txt mg) (GO : Has P w K mg base 3 "pourings_on" ["rack", "holds"] spOuts) : FnOk P w K mg base CX0 4 f fd ["racks", "holds"] (spAhead P w) := by
  refine F.ok scAhead (fun vs H Q E h => ?_) (fun cdv A outer s H vs Q E hr h => ?_)
  · obtain ⟨d, n, es, rfl, _⟩ := h
    rfl
  · have hu := room8 hr
    refine ⟨_, pss_cons (ps_set (i := 2) scAhead.nd rfl (Or.inl rfl) (qe_nnew P w rfl rfl))
      (pss_cons (ps_lock (ps_for PassesOwn.never rfl (qi_keysN P w rfl rfl (pv 0)) (pg_name (i := 3) scAhead.nd rfl (Or.inl rfl))
        (pss_one (qs_nput P w rfl rfl hu (pv 2) (pv 3) (pe_lst pa_nil) rfl))))
      (pss_cons (ps_lock (ps_for PassesOwn.never rfl (qi_keysN P w rfl rfl (pv 0)) (pg_name (i := 4) scAhead.nd rfl (Or.inl rfl))
        (pss_one (ps_for PassesOwn.never rfl (pi_list (pe_has GO (hr.mono (by decide)) (by rfl) (pa_cons (pv 4) (pa_cons (pv 1) pa_nil)))) (pg_name (i := 5) scAhead.nd rfl (Or.inl rfl))
          (pss_one (ps_expr (pe_bm PySem.F.plainAttrs_list PySem.F.slot_list_append PySem.F.type_list_append mt_append (qe_nget P w rfl rfl hu (pv 2) (pe_ix ix_tup (pv 5) pe_int (fun _ _ => rfl)) (fun _ _ => rfl)) (pa_cons (pv 4) pa_nil))))))))
      (pss_one (ps_ret (pv 2))))), ?_⟩
    obtain ⟨d, n, es, rfl, hd, hk, nd, ro, cl, z, k⟩ := h
    intro d2 hd2
    have ned : d2 ≠ d := fun e => by rw [e, hd] at hd2; cases hd2
    have sA := same_new (o := DX P w d2 []) hd2
    have hdA := sA _ _ hd
    refine ⟨d, DX P w d es, hdA, True.intro, fun od => ?_⟩
    have sL := (same_lock (d := d) (o := .frz od (DX P w d es)) sA)
    have hL : upd H d (.frz od (DX P w d es)) d = some (.frz od (DX P w d es)) := upd_same
    refine ⟨_, rfl, d, od, es, rfl, sL _ _ hL, ?_⟩
    refine for_it walk_keysN (fun i σ H' => ∃ (v3 : Option V) (es2 : List Ent), σ = [some (.ref d), some (.int n), some (.ref d2), v3, none, none] ∧ Same (upd H d (.frz od (DX P w d es))) H' ∧ H' d2 = some (DX P w d2 es2) ∧ es2.map (·.1) = (es.map (·.1)).take i ∧
        KeysAt H' es2 ∧ AH H H' es2 (fun _ => []))
      ⟨none, [], rfl, sL, by rw [upd_ne ned, upd_same], rfl, (fun e he => by cases he), ⟨(fun e he => by cases he), (fun e he => by cases he)⟩⟩
      (fun i σ H' _ ⟨v3, es2, _, s1, _⟩ => s1 _ _ hL) (fun i x σ H1 H2 hi ⟨v3, es2, e, s1, h2, ek, kk, ah⟩ ⟨e2, en, hen, ex⟩ => ?_) (fun σ H1 ⟨v3, es2, e, s1, h2, ek, kk, ah⟩ => ?_)
    · subst e e2 ex
      have tk := tup_lock hd s1
      have hm : en ∈ es := List.mem_of_getElem? hen
      refine ⟨Nat.zero_le _, fun l hl => ?_⟩
      have sl := same_new (o := .lst []) hl
      have nl : l ≠ d := fun z => by rw [z, s1 _ _ hL] at hl; cases hl
      have hl0 : H l = none := by
        have := s1.free hl
        rw [upd_ne nl] at this
        exact this
      have keyi : (es.map (·.1))[i]? = some en.1 := by rw [List.getElem?_map, hen]; rfl
      have lnone : look es2 en.1 = none := by
        rw [look_none, ek]
        intro q
        obtain ⟨j, hj, ej⟩ := List.mem_iff_getElem.mp q
        rw [List.length_take] at hj
        rw [List.getElem_take] at ej
        have := (List.getElem?_eq_some_iff.mp keyi).1
        have hh := List.pairwise_iff_getElem.mp nd j i (by omega) this (by omega)
        rw [ej] at hh
        obtain ⟨_, e3⟩ := List.getElem?_eq_some_iff.mp keyi
        exact hh e3.symm
      have l2 : es2.length ≤ 300 := by
        have := congrArg List.length ek
        rw [List.length_map, List.length_take, List.length_map] at this
        omega
      have h2' := sl _ _ h2
      have tku : TupSame (upd H2 l (.lst [])) (upd (upd H2 l (.lst [])) d2 (DX P w d2 (es2 ++ [(en.1, en.2.1, .ref l)]))) := tup_upd (TupSame.refl _) (dx_not h2')
      have nl2 : l ≠ d2 := fun z => by rw [z, h2] at hl; cases hl
      refine ⟨_, rfl, _, rfl, d2, es2, en.2.1, en.1, rfl, rfl, h2', kk.keep (TupSame.of sl), (hk en hm).keep (tk.trans (TupSame.of sl)), lnone, Nat.lt_of_le_of_lt l2 (by decide), ?_⟩
      refine ⟨_, _, rfl, same_lock_upd (s1.trans sl) hd2 ned, upd_same, ?_, ?_, ?_⟩
      · rw [List.map_append, ek, List.take_add_one, keyi]
        rfl
      · intro e he
        rcases List.mem_append.mp he with he | he
        · exact ((kk e he).keep (TupSame.of sl)).keep tku
        · have : e = (en.1, en.2.1, V.ref l) := by simpa using he
          subst this
          exact ((hk en hm).keep (tk.trans (TupSame.of sl))).keep tku
      · have ne2 := ah.ne (x := d2) fun xs z => by rw [h2] at z; cases z
        have nel := ah.ne (x := l) fun xs z => by rw [hl] at z; cases z
        refine ⟨fun e he => ?_, fun e he e' he' q => ?_⟩
        · rcases List.mem_append.mp he with he | he
          · obtain ⟨l', a, b, c⟩ := ah.at' e he
            refine ⟨l', a, b, c.keep (fun xs q => ?_) ((TupSame.of sl).trans tku)⟩
            rw [upd_ne (fun z => ne2 e he (by rw [a, z]))]
            exact sl _ _ q
          · have : e = (en.1, en.2.1, V.ref l) := by simpa using he
            subst this
            exact ⟨l, rfl, hl0, [], by rw [upd_ne nl2, upd_same]; rfl, .nil⟩
        · rcases List.mem_append.mp he with he | he
          · rcases List.mem_append.mp he' with he' | he'
            · exact ah.inj e he e' he' q
            · have : e' = (en.1, en.2.1, V.ref l) := by simpa using he'
              subst this
              exact absurd q (nel e he)
          · have : e = (en.1, en.2.1, V.ref l) := by simpa using he
            subst this
            rcases List.mem_append.mp he' with he' | he'
            · exact absurd q.symm (nel e' he')
            · have : e' = (en.1, en.2.1, V.ref l) := by simpa using he'
              subst this
              rfl
    · subst e
      refine ⟨s1 _ _ hL, ?_⟩
      have hfr := s1 _ _ hL
      have ek' : es2.map (·.1) = es.map (·.1) := by
        rw [ek, List.take_of_length_le]
        rw [List.length_map]
        exact Nat.le_refl _
      have sS := same_unlock hd s1
      have tku : TupSame H1 (upd H1 d (DX P w d es)) := tup_unlock hfr
      have h2S : upd H1 d (DX P w d es) d2 = some (DX P w d2 es2) := by rw [upd_ne ned]; exact h2
      have hdS : upd H1 d (DX P w d es) d = some (DX P w d es) := upd_same
      have kkS : KeysAt (upd H1 d (DX P w d es)) es2 := kk.keep tku
      have ahS : AH H (upd H1 d (DX P w d es)) es2 (fun _ => []) := ah.keep (fun e he l xs q q' => by
        rw [upd_ne (fun z => by rw [z, hfr] at q'; cases q')]
        exact q') tku
      generalize upd H1 d (DX P w d es) = Hs at *
      have nd2 : (es2.map (·.1)).Nodup := by rw [ek']; exact nd
      refine ⟨d, DX P w d es, hdS, True.intro, fun od' => ?_⟩
      have sM := (same_lock (d := d) (o := .frz od' (DX P w d es)) sS)
      have hM : upd H d (.frz od' (DX P w d es)) d = some (.frz od' (DX P w d es)) := upd_same
      have kM := tup_lock hdS (Same.refl (upd Hs d (.frz od' (DX P w d es))))
      refine ⟨_, rfl, d, od', es, rfl, sM _ _ hM, ?_⟩
      refine for_it walk_keysN (fun i σ H' => ∃ (v3 v4 v5 : Option V), σ = [some (.ref d), some (.int n), some (.ref d2), v3, v4, v5] ∧ Same (upd H d (.frz od' (DX P w d es))) H' ∧ H' d2 = some (DX P w d2 es2) ∧
          KeysAt H' es2 ∧ AH H H' es2 (aheadOf n ((es.map (·.1)).take i)))
        ⟨v3, none, none, rfl, sM, by rw [upd_ne ned]; exact h2S, kkS.keep kM, ahS.keep (fun e he l xs q q' => by
          rw [upd_ne (fun z => by rw [z, hdS] at q'; cases q')]
          exact q') kM⟩
        (fun i σ H' _ ⟨_, _, _, _, s1, _⟩ => s1 _ _ hM) (fun i x σ H3 H4 hi ⟨v3, v4, v5, e, s3, h3, kk3, ah3⟩ ⟨e2, en, hen, ex⟩ => ?_) (fun σ H3 ⟨v3, v4, v5, e, s3, h3, kk3, ah3⟩ => ?_)
      · subst e e2 ex
        have tk := tup_lock hd s3
        have hm : en ∈ es := List.mem_of_getElem? hen
        have hmk : en.1 ∈ es.map (·.1) := List.mem_map_of_mem hm
        have keyi : (es.map (·.1))[i]? = some en.1 := by rw [List.getElem?_map, hen]; rfl
        have ron := ro _ hmk
        refine ⟨_, rfl, _, rfl, en.2.1, en.1, n, rfl, (hk en hm).keep tk, ron, fun H5 ol s5 hol0 ⟨ts, hol, prt⟩ => ?_⟩
        have lts : ts.length = (outs n en.1).length := Paired.length prt
        have neol := ah3.ne (x := ol) fun xs z => by rw [hol0] at z; cases z
        have nol2 : ol ≠ d2 := fun z => by rw [z, h3] at hol0; cases hol0
        have nold : ol ≠ d := fun z => by rw [z, s3 _ _ hM] at hol0; cases hol0
        refine ⟨ol, rfl, ⟨_, SqL.of hol⟩, ?_⟩
        refine for_list (K := K) (a := ol) (xs := ts.map V.ref) (fun j σ H' => ∃ (v5 : Option V), σ = [some (.ref d), some (.int n), some (.ref d2), v3, some (.ref en.2.1), v5] ∧ Same (upd H d (.frz od' (DX P w d es))) H' ∧ H' d2 = some (DX P w d2 es2) ∧
            KeysAt H' es2 ∧ AH H H' es2 (fun u => aheadOf n ((es.map (·.1)).take i) u ++ aheadK n en.1 j u) ∧ H' ol = some (.lst (ts.map V.ref)) ∧ Paired (EltAt H') ts (outs n en.1))
          ⟨v5, rfl, s3.trans s5, s5 _ _ h3, kk3.keep (TupSame.of s5), (ah3.same s5).congr fun r => by unfold aheadK; simp, hol, prt⟩
          (fun j σ H' _ ⟨_, _, _, _, _, _, q, _⟩ => SqL.of q) (fun j x σ H6 hx ⟨v5, e6, s6, h6, kk6, ah6, hol6, prt6⟩ => ?_) (fun σ H6 ⟨v5, e6, s6, h6, kk6, ah6, hol6, prt6⟩ => ?_)
        · subst e6
          have hj : j < (outs n en.1).length := by
            have := (List.getElem?_eq_some_iff.mp hx).1
            rw [List.length_map] at this
            omega
          obtain ⟨ta, hta, q, htq, hq⟩ := paired_ix prt6 hj
          rw [List.getElem?_map, hta] at hx
          have hx' := Option.some.inj hx
          subst hx'
          have hxj : (outs n en.1)[j]? = some (outs n en.1)[j] := List.getElem?_eq_getElem hj
          generalize (outs n en.1)[j] = x at *
          have hu2 : x.2 ∈ es2.map (·.1) := by
            rw [ek']
            exact cl _ hmk _ (mem_nexts.mpr ⟨x.1, mem_outs.mp (List.mem_of_getElem? hxj)⟩)
          obtain ⟨ex, hex, exe⟩ := List.mem_map.mp hu2
          have lk := look_some nd2 hex
          rw [exe] at lk
          obtain ⟨l, hl, hl0, qs, hlq, prq⟩ := ah6.at' ex hex
          rw [hl] at lk
          rw [exe] at prq
          have lqs : qs.length = (aheadOf n ((es.map (·.1)).take i) x.2 ++ aheadK n en.1 j x.2).length := Paired.length prq
          have zq : qs.length ≤ 25 * 300 + 25 := by
            rw [lqs, List.length_append]
            have a1 := aheadOf_len (n := n) (u := x.2) (keys := (es.map (·.1)).take i) fun r hr => ro r (List.mem_of_mem_take hr)
            have a2 := aheadK_len (h := en.1) (u := x.2) (k := j) ron
            have a3 : ((es.map (·.1)).take i).length ≤ 300 := by
              rw [List.length_take, List.length_map]
              omega
            omega
          have nld : l ≠ d := fun z => by rw [z, hd] at hl0; cases hl0
          have nl2 : l ≠ d2 := fun z => by rw [z, h6] at hlq; cases hlq
          have nlo : l ≠ ol := fun z => neol ex hex (by rw [hl, z])
          have a2 : atI [V.int (x.1.1 : Nat), V.int (x.1.2 : Nat), V.ref q] 2 = some (.ref q) := atI_nat (j := 2) rfl
          have tk6 := tup_lock hd s6
          refine ⟨_, rfl, _, rfl, ta, _, _, _, rfl, rfl, SqT.of htq, a2, d2, es2, q, x.2, .ref l, rfl, rfl, .inl h6, kk6, hq, lk, .inl ⟨rfl, _, SqL.of hlq⟩, _, rfl, l, _, _, rfl, rfl, hlq, ?_, ?_⟩
          · rw [List.length_map]
            exact Nat.lt_of_le_of_lt zq (by decide)
          · have tl : TupSame H6 (upd H6 l (.lst (qs.map V.ref ++ [.ref en.2.1]))) := tup_upd (TupSame.refl _) (lst_not hlq)
            refine ⟨_, rfl, same_lock_upd s6 hl0 nld, by rw [upd_ne nl2.symm]; exact h6, kk6.keep tl, ⟨fun e he => ?_, ah6.inj⟩, by rw [upd_ne nlo.symm]; exact hol6, paired_keep prt6 fun _ _ z => z.keep tl⟩
            obtain ⟨l', a, b, qs', c, pr'⟩ := ah6.at' e he
            by_cases eq : e.1 = x.2
            · have e3 : e.2.2 = ex.2.2 := by
                have q1 := look_some nd2 he
                have q2 := look_some nd2 hex
                rw [eq, ← exe, q2] at q1
                exact (Option.some.inj q1).symm
              rw [hl] at e3
              refine ⟨l, e3, hl0, qs ++ [en.2.1], by rw [upd_same, List.map_append]; rfl, ?_⟩
              rw [eq]
              show Paired _ _ (aheadOf n ((es.map (·.1)).take i) x.2 ++ aheadK n en.1 (j + 1) x.2)
              rw [aheadK_step hxj, if_pos rfl, ← List.append_assoc]
              exact paired_snoc (paired_keep prq fun _ _ z => z.keep tl) (((hk en hm).keep tk6).keep tl)
            · have nll : l' ≠ l := fun z => eq (by rw [← exe]; exact ah6.inj e he ex hex (by rw [a, hl, z]))
              refine ⟨l', a, b, qs', by rw [upd_ne nll]; exact c, ?_⟩
              show Paired _ _ (aheadOf n ((es.map (·.1)).take i) e.1 ++ aheadK n en.1 (j + 1) e.1)
              rw [aheadK_step hxj, if_neg (fun z => eq z.symm), List.append_nil]
              exact paired_keep pr' fun _ _ z => z.keep tl
        · subst e6
          refine ⟨v3, _, v5, rfl, s6, h6, kk6, ah6.congr fun r => ?_⟩
          rw [List.length_map, lts, List.take_add_one, keyi]
          show _ = aheadOf n ((es.map (·.1)).take i ++ [en.1]) r
          rw [aheadOf_snoc]
      · subst e
        have hfr3 := s3 _ _ hM
        refine ⟨hfr3, ?_⟩
        have tk3 : TupSame H3 (upd H3 d (DX P w d es)) := tup_unlock hfr3
        refine ⟨_, rfl, ?_⟩
        refine k _ d2 es2 (same_unlock hd s3) (by rw [upd_ne ned]; exact h3) ek' (kk3.keep tk3) ((ah3.keep (fun e he l xs q q' => by
          rw [upd_ne (fun z => by rw [z, hfr3] at q'; cases q')]
          exact q') tk3).congr fun r => ?_)
        rw [List.take_of_length_le]
        rw [List.length_map]
        exact Nat.le_refl _
end
end Tb
/-! ahead.py: how_many_lead_on -/
namespace Tb
open PySem PySem.Spec PyProof.Rows L2
def spLead (P : Program) (w : World) : Sp := fun vs H Q _ => ∃ (d : Addr) (n : Nat) (es : List Ent), vs = [.ref d, .int n] ∧ H d = some (DX P w d es) ∧ KeysAt H es ∧ (es.map (·.1)).Nodup ∧ (∀ r ∈ es.map (·.1), ROk n r) ∧ Closed n (es.map (·.1)) ∧ es.length ≤ 300 ∧
  ∀ (H' : Hp), Same H H' → Q (.int ((leadOn n (es.map (·.1))).length : Nat)) H'
/-- a dict whose racks are these -/
def SetAt (P : Program) (w : World) (H : Hp) (d : Addr) (rs : List Sy71.Rack) : Prop := ∃ es, H d = some (DX P w d es) ∧ KeysAt H es ∧ es.map (·.1) = rs
section
variable {P : Program} {w : World} {K : PySem.W.Frag} {mg : Str → Option Value} {base : Heap}
theorem back_step {n : Nat} {keys M : List Sy71.Rack} {f g : Nat} {u : Sy71.Rack} (h : M[g]? = some u) : back n keys (f + 1) M g = back n keys f ((aheadOf n keys u).foldl add2 M) (g + 1) := by
  rw [back, h]
theorem back_end {n : Nat} {keys M : List Sy71.Rack} {f g : Nat} (h : M[g]? = none) : back n keys (f + 1) M g = M := by
  rw [back, h]
theorem fold2_step {rs M : List Sy71.Rack} {k : Nat} {r : Sy71.Rack} (h : rs[k]? = some r) : (rs.take (k + 1)).foldl add2 M = add2 ((rs.take k).foldl add2 M) r := by
  rw [List.take_add_one, h, List.foldl_append]
  rfl
theorem fold2_len : ∀ (l M : List Sy71.Rack), (l.foldl add2 M).length ≤ M.length + l.length
  | [], M => Nat.le_refl _
  | r :: l, M => by
    rw [List.foldl_cons, List.length_cons]
    have := fold2_len l (add2 M r)
    have : (add2 M r).length ≤ M.length + 1 := by
      unfold add2
      split
      · omega
      · simp
    omega
theorem nd_take {α : Type} {l : List α} {i : Nat} {x : α} (nd : l.Nodup) (h : l[i]? = some x) : x ∉ l.take i := fun q => by
  obtain ⟨j, hj, ej⟩ := List.mem_iff_getElem.mp q
  rw [List.length_take] at hj
  rw [List.getElem_take] at ej
  obtain ⟨hi, e3⟩ := List.getElem?_eq_some_iff.mp h
  have hh := List.pairwise_iff_getElem.mp nd j i (by omega) hi (by omega)
  rw [ej, e3] at hh
  exact hh rfl
abbrev nmLead : List Str := ["racks", "holds", "ahead", "rack", "leading", "known", "gone_through", "here"]
theorem scLead : FnScope nmLead ["racks", "holds"] (defScope (topS 13)) := ⟨rfl, rfl, rfl, by decide +kernel, rfl, by decide +kernel, by decide +kernel⟩
theorem ok_lead {f : Addr} {fd : FuncData} (F : Fun K "how_many_lead_on" "how_many_lead_on" (topS 13) f fd) (T : Txt mg) (GA : Has P w K mg base 4 "racks_ahead_of_each" ["racks", "holds"] (spAhead P w)) (GS : Has P w K mg base 2 "is_sorted" ["rack"] spSorted) :
    FnOk P w K mg base CX0 5 f fd ["racks", "holds"] (spLead P w) := by
  refine F.ok scLead (fun vs H Q E h => ?_) (fun cdv A outer s H vs Q E hr h => ?_)
  · obtain ⟨d, n, es, rfl, _⟩ := h
    rfl
  · have hu := room8 hr
    refine ⟨_, pss_cons (ps_set (i := 2) scLead.nd rfl (Or.inl rfl) (pe_has GA (hr.mono (by decide)) (by rfl) (pa_cons (pv 0) (pa_cons (pv 1) pa_nil))))
      (pss_cons (ps_lock (ps_setLc (i := 4) (own := [("rack", 3)]) (g := gName 3) rfl scLead.nd rfl rfl (sw_true rfl rfl rfl (by decide +kernel)) (qi_keysN P w rfl rfl (pv 0)) (blkOk_by (own := [("rack", 3)]) (N := nmLead) (sc := defScope (topS 13)) (by decide +kernel))
          (fun _ _ _ _ _ => pg_name (i := 3) scLead.nd rfl (Or.inl rfl)) (fun _ _ _ _ _ => pts_one (pt_val (pe_has GS (hr.mono (by decide)) (by rfl) (pa_cons (pv 3) pa_nil)) (by intro _; rfl))) (fun _ _ _ _ _ => pv 3)))
      (pss_cons (ps_set (i := 5) scLead.nd rfl (Or.inl rfl) (qe_nnew P w rfl rfl))
      (pss_cons (ps_for PassesOwn.never rfl (pi_list (pv 4)) (pg_name (i := 3) scLead.nd rfl (Or.inl rfl)) (pss_one (qs_nput P w rfl rfl hu (pv 5) (pv 3) pe_bl rfl)))
      (pss_cons (ps_set (i := 6) scLead.nd rfl (Or.inl rfl) pe_int)
      (pss_cons (ps_while PassesOwn.never (pt_cmpR op_lt (pv 6) (pe_callB call_len_seq (by rfl) T.len (by decide +kernel) (pa_cons (pv 4) pa_nil)) (nomark _))
        (pss_cons (ps_set (i := 7) scLead.nd rfl (Or.inl rfl) (pe_ix ix_list (pv 4) (pv 6) (fun _ _ => rfl)))
        (pss_cons (ps_aug (i := 6) scLead.nd rfl (Or.inl rfl) pe_int ip_add)
        (pss_one (ps_for PassesOwn.never rfl (pi_list (qe_nget P w rfl rfl hu (pv 2) (pv 7) (fun _ _ => rfl))) (pg_name (i := 3) scLead.nd rfl (Or.inl rfl))
          (pss_one (ps_if (pt_cmp (qc_nnotin P w rfl rfl hu (pv 3) (pv 5)) (by rfl))
            (pss_cons (qs_nput P w rfl rfl hu (pv 5) (pv 3) pe_bl rfl)
            (pss_one (ps_expr (pe_bm PySem.F.plainAttrs_list PySem.F.slot_list_append PySem.F.type_list_append mt_append (pv 4) (pa_cons (pv 3) pa_nil))))) pss_nil)))))))
      (pss_one (ps_ret (pe_callB call_len_seq (by rfl) T.len (by decide +kernel) (pa_cons (pv 4) pa_nil))))))))), ?_⟩
    obtain ⟨d, n, es, rfl, hd, hk, nd, ro, cl, z, k⟩ := h
    refine ⟨_, rfl, _, rfl, d, n, es, rfl, hd, hk, nd, ro, cl, z, fun H1 d2 es2 s1 h2 ek2 kk2 ah => ?_⟩
    have hd1 := s1 _ _ hd
    have lk : es.length = (es.map (·.1)).length := by rw [List.length_map]
    -- leading
    refine ⟨d, DX P w d es, hd1, True.intro, fun od => ?_⟩
    have hL : upd H1 d (.frz od (DX P w d es)) d = some (.frz od (DX P w d es)) := upd_same
    refine ⟨_, rfl, d, od, es, rfl, hL, fun D hD => ?_⟩
    have nDd : D ≠ d := fun e => by rw [e, hL] at hD; cases hD
    have hD1 : H1 D = none := by rw [upd_ne nDd] at hD; exact hD
    refine lc_it walk_keysN (fun i H' => Same (upd H1 d (.frz od (DX P w d es))) H' ∧ ∃ qs : List Addr, H' D = some (.lst (qs.map V.ref)) ∧ Paired (RackAt H') qs (((es.map (·.1)).take i).filter Sy71.sorted) ∧ qs.length ≤ i)
      ⟨same_new hD, [], upd_same, .nil, Nat.le_refl _⟩ (fun i H' _ ⟨q, _⟩ => q _ _ hL) (fun i x H2 H3 hi ⟨s2, qs, hq, pr, lq⟩ ⟨e2, en, hen, ex⟩ => ?_) (fun H2 ⟨s2, qs, hq, pr, lq⟩ => ?_)
    · subst e2 ex
      have hm : en ∈ es := List.mem_of_getElem? hen
      have tk := tup_lock hd1 s2
      have rk := (hk en hm).keep ((TupSame.of s1).trans tk)
      have keyi : (es.map (·.1))[i]? = some en.1 := by rw [List.getElem?_map, hen]; rfl
      have tw : ((es.map (·.1)).take (i + 1)).filter Sy71.sorted = ((es.map (·.1)).take i).filter Sy71.sorted ++ (if Sy71.sorted en.1 = true then [en.1] else []) := by
        rw [List.take_add_one, keyi, List.filter_append]
        congr 1
        show List.filter Sy71.sorted [en.1] = _
        rw [List.filter_cons]
        split <;> rfl
      refine ⟨rfl, _, rfl, en.2.1, en.1, n, rfl, rk, ro _ (List.mem_map_of_mem hm), fun H4 s4 => ?_⟩
      have pr4 := paired_keep pr fun _ _ z => z.keep (TupSame.of s4)
      refine ⟨_, rfl, ?_⟩
      cases hs : Sy71.sorted en.1 with
      | true =>
        rw [hs, if_pos rfl] at tw
        refine iteT ?_
        have hq4 := s4 _ _ hq
        refine ⟨_, rfl, _, hq4, ?_, same_lock_upd (s2.trans s4) hD1 nDd, qs ++ [en.2.1], by rw [upd_same, List.map_append]; rfl, ?_, by rw [List.length_append, List.length_singleton]; omega⟩
        · rw [List.length_map]
          exact Nat.lt_of_le_of_lt (show qs.length ≤ 300 by omega) (by decide)
        · rw [tw]
          have tl : TupSame H4 (upd H4 D (.lst (qs.map V.ref ++ [.ref en.2.1]))) := tup_upd (TupSame.refl _) (lst_not hq4)
          exact paired_snoc (paired_keep pr4 fun _ _ z => z.keep tl) ((rk.keep (TupSame.of s4)).keep tl)
      | false =>
        rw [hs, if_neg Bool.false_ne_true, List.append_nil] at tw
        refine iteF ?_
        refine ⟨s2.trans s4, qs, s4 _ _ hq, ?_, by omega⟩
        rw [tw]
        exact pr4
    · have hfr := s2 _ _ hL
      refine ⟨hfr, ?_⟩
      have tu : TupSame H2 (upd H2 d (DX P w d es)) := tup_unlock hfr
      have sU := same_unlock hd1 s2
      have hqU : upd H2 d (DX P w d es) D = some (.lst (qs.map V.ref)) := by rw [upd_ne nDd]; exact hq
      rw [lk, List.take_length] at pr
      have prU := paired_keep pr fun _ _ z => z.keep tu
      generalize upd H2 d (DX P w d es) = H3 at *
      generalize hM : (es.map (·.1)).filter Sy71.sorted = M0 at *
      have ndM : M0.Nodup := by rw [← hM]; exact nd.filter _
      have lqM : qs.length = M0.length := Paired.length prU
      -- known
      intro dk hdk
      have nkD : dk ≠ D := fun e => by rw [e, hqU] at hdk; cases hdk
      have hdk1 : H1 dk = none := sU.free hdk
      have sk := same_new (o := DX P w dk []) hdk
      refine ⟨_, rfl, D, rfl, ⟨_, SqL.of (sk _ _ hqU)⟩, ?_⟩
      refine for_list (K := K) (a := D) (xs := qs.map V.ref) (fun i σ H' => ∃ v3 : Option V, σ = [some (.ref d), some (.int n), some (.ref d2), v3, some (.ref D), some (.ref dk), none, none] ∧ Same H1 H' ∧ H' D = some (.lst (qs.map V.ref)) ∧ Paired (RackAt H') qs M0 ∧ SetAt P w H' dk (M0.take i))
        ⟨none, rfl, sU.trans sk, sk _ _ hqU, paired_keep prU fun _ _ z => z.keep (TupSame.of sk), [], upd_same, (fun e he => by cases he), rfl⟩ (fun i σ H' _ ⟨_, _, _, q, _⟩ => SqL.of q)
        (fun i x σ H4 hx ⟨v3, e, s4, hq4, pr4, esk, hek, kk, ek⟩ => ?_) (fun σ H4 ⟨v3, e, s4, hq4, pr4, esk, hek, kk, ek⟩ => ?_)
      · subst e
        have hi : i < M0.length := by
          have := (List.getElem?_eq_some_iff.mp hx).1
          rw [List.length_map] at this
          omega
        obtain ⟨q, eq, hR⟩ := paired_ix pr4 hi
        rw [List.getElem?_map, eq] at hx
        have hx' := Option.some.inj hx
        subst hx'
        have mi : M0[i]? = some M0[i] := List.getElem?_eq_getElem hi
        have ln : look esk M0[i] = none := look_none.mpr (by rw [ek]; exact nd_take ndM mi)
        have z2 : M0.length ≤ 300 := by
          rw [← hM]
          have := List.length_filter_le Sy71.sorted (es.map (·.1))
          omega
        have zk : esk.length ≤ 300 := by
          have := congrArg List.length ek
          rw [List.length_map, List.length_take] at this
          omega
        refine ⟨_, rfl, _, rfl, dk, esk, q, M0[i], rfl, rfl, hek, kk, hR, ln, Nat.lt_of_le_of_lt zk (by decide), ?_⟩
        have tl : TupSame H4 (upd H4 dk (DX P w dk (esk ++ [(M0[i], q, .bl true)]))) := tup_upd (TupSame.refl _) (dx_not hek)
        refine ⟨_, rfl, same_upd s4 hdk1, by rw [upd_ne nkD.symm]; exact hq4, paired_keep pr4 fun _ _ z => z.keep tl, _, upd_same, fun e he => ?_, ?_⟩
        · rcases List.mem_append.mp he with he | he
          · exact (kk e he).keep tl
          · have : e = (M0[i], q, V.bl true) := by simpa using he
            subst this
            exact hR.keep tl
        · rw [List.map_append, ek, List.take_add_one, mi]
          rfl
      · subst e
        rw [List.length_map, lqM, List.take_length] at ek
        -- while
        refine ⟨fun m σ H' => ∃ (v3 v7 : Option V) (M : List Sy71.Rack) (g : Nat), m = (es.map (·.1)).length + 1 - g ∧ σ = [some (.ref d), some (.int n), some (.ref d2), v3, some (.ref D), some (.ref dk), some (.int g), v7] ∧ Same H1 H' ∧ LstAt H' D M ∧ SetAt P w H' dk M ∧
          Bk n (es.map (·.1)) M g ∧ g ≤ M.length ∧ back n (es.map (·.1)) ((es.map (·.1)).length + 1 - g) M g = leadOn n (es.map (·.1)),
          ⟨_, v3, none, M0, 0, rfl, rfl, s4, ⟨qs, hq4, pr4⟩, ⟨esk, hek, kk, ek⟩, by rw [← hM]; exact .start nd, Nat.zero_le _, by rw [← hM]; rfl⟩, ?_⟩
        rintro m σ H5 ⟨v3, v7, M, g, rfl, rfl, s5, ⟨ps, hps, prp⟩, ⟨esm, hem, km, em⟩, bk, hg, hb⟩
        have lps : ps.length = M.length := Paired.length prp
        have lM : M.length ≤ (es.map (·.1)).length := List.Nodup.length_le_of_subset bk.nod fun r hr => (bk.sub r hr).1
        refine ⟨_, rfl, _, rfl, D, _, rfl, .inl (SqL.of hps), _, _, rfl, rfl, _, rfl, ?_⟩
        have ll : (ps.map V.ref).length = M.length := by rw [List.length_map, lps]
        rw [ll]
        refine ite2 (fun hc => ?_) (fun hc => ?_)
        · have hlt : g < M.length := by
            have := of_decide_eq_true hc
            omega
          have mg' : M[g]? = some M[g] := List.getElem?_eq_getElem hlt
          have hu := (bk.sub _ (List.getElem_mem hlt)).1
          obtain ⟨q, eq, hRq⟩ := paired_ix prp hlt
          generalize M[g] = u at *
          have hu2 : u ∈ es2.map (·.1) := by rw [ek2]; exact hu
          obtain ⟨ex, hex, exe⟩ := List.mem_map.mp hu2
          have lk2 := look_some (by rw [ek2]; exact nd) hex
          obtain ⟨l, hl, hl0, qs', hlq, prq⟩ := ah.at' ex hex
          rw [exe] at lk2 prq
          rw [hl] at lk2
          have lqs : qs'.length = (aheadOf n (es.map (·.1)) u).length := Paired.length prq
          have za := aheadOf_len (n := n) (u := u) (keys := es.map (·.1)) ro
          refine ⟨fun σ' H' => ∃ m', m' < (es.map (·.1)).length + 1 - g ∧ ∃ (v3 v7 : Option V) (M : List Sy71.Rack) (g : Nat), m' = (es.map (·.1)).length + 1 - g ∧ σ' = [some (.ref d), some (.int n), some (.ref d2), v3, some (.ref D), some (.ref dk), some (.int g), v7] ∧ Same H1 H' ∧ LstAt H' D M ∧ SetAt P w H' dk M ∧
            Bk n (es.map (·.1)) M g ∧ g ≤ M.length ∧ back n (es.map (·.1)) ((es.map (·.1)).length + 1 - g) M g = leadOn n (es.map (·.1)), fun σ' H' h => h, ?_⟩
          refine ⟨_, rfl, _, rfl, D, _, _, .ref q, rfl, rfl, SqL.of hps, atI_nat (by rw [List.getElem?_map, eq]; rfl), ?_⟩
          refine ⟨_, rfl, _, _, rfl, rfl, ?_⟩
          refine ⟨_, rfl, _, rfl, d2, es2, q, u, .ref l, rfl, rfl, .inl (s5 _ _ h2), kk2.keep (TupSame.of s5), hRq, lk2, l, rfl, ⟨_, SqL.of (s5 _ _ hlq)⟩, ?_⟩
          refine for_list (K := K) (a := l) (xs := qs'.map V.ref) (fun j σ H' => ∃ v3 : Option V, σ = [some (.ref d), some (.int n), some (.ref d2), v3, some (.ref D), some (.ref dk), some (.int (g + 1 : Nat)), some (.ref q)] ∧ Same H1 H' ∧
              LstAt H' D (((aheadOf n (es.map (·.1)) u).take j).foldl add2 M) ∧ SetAt P w H' dk (((aheadOf n (es.map (·.1)) u).take j).foldl add2 M))
            ⟨v3, rfl, s5, ⟨ps, hps, prp⟩, ⟨esm, hem, km, em⟩⟩ (fun j σ H' _ ⟨_, _, q, _⟩ => SqL.of (q _ _ hlq))
            (fun j x σ H6 hx ⟨v3, e6, s6, ⟨qs6, hq6, pr6⟩, ⟨es6, he6, k6, e6'⟩⟩ => ?_) (fun σ H6 ⟨v3, e6, s6, l6, m6⟩ => ?_)
          · subst e6
            have hj : j < (aheadOf n (es.map (·.1)) u).length := by
              have := (List.getElem?_eq_some_iff.mp hx).1
              rw [List.length_map] at this
              omega
            obtain ⟨b, eb, hRb⟩ := paired_ix prq hj
            rw [List.getElem?_map, eb] at hx
            have hx' := Option.some.inj hx
            subst hx'
            have aj : (aheadOf n (es.map (·.1)) u)[j]? = some (aheadOf n (es.map (·.1)) u)[j] := List.getElem?_eq_getElem hj
            have stp := fold2_step (M := M) aj
            have flen := fold2_len ((aheadOf n (es.map (·.1)) u).take j) M
            rw [List.length_take] at flen
            generalize (aheadOf n (es.map (·.1)) u)[j] = r at *
            have hRb6 := hRb.keep (TupSame.of s6)
            generalize ((aheadOf n (es.map (·.1)) u).take j).foldl add2 M = Mj at *
            have l6 : es6.length = Mj.length := by rw [← e6', List.length_map]
            have lq6 : qs6.length = Mj.length := Paired.length pr6
            have zj : Mj.length ≤ 20000 := by omega
            refine ⟨_, rfl, _, rfl, dk, es6, b, r, rfl, rfl, .inl he6, k6, hRb6, _, rfl, ?_⟩
            rw [look_isSome, e6']
            cases hc2 : Mj.contains r with
            | true =>
              have e1 : add2 Mj r = Mj := if_pos hc2
              refine iteF ?_
              refine ⟨_, rfl, s6, ?_, ?_⟩
              · rw [stp, e1]; exact ⟨qs6, hq6, pr6⟩
              · rw [stp, e1]; exact ⟨es6, he6, k6, e6'⟩
            | false =>
              have e1 : add2 Mj r = Mj ++ [r] := if_neg (by rw [hc2]; exact Bool.false_ne_true)
              refine iteT ?_
              have ln : look es6 r = none := look_none.mpr (by
                rw [e6']
                intro q
                have : Mj.contains r = true := by simpa using q
                rw [this] at hc2
                cases hc2)
              have t1 : TupSame H6 (upd H6 dk (DX P w dk (es6 ++ [(r, b, .bl true)]))) := tup_upd (TupSame.refl _) (dx_not he6)
              have hq7 : upd H6 dk (DX P w dk (es6 ++ [(r, b, .bl true)])) D = some (.lst (qs6.map V.ref)) := by rw [upd_ne nkD.symm]; exact hq6
              refine ⟨_, rfl, _, rfl, dk, es6, b, r, rfl, rfl, he6, k6, hRb6, ln, Nat.lt_of_le_of_lt (show es6.length ≤ 20000 by omega) (by decide), ?_⟩
              refine ⟨_, rfl, .inl ⟨rfl, _, SqL.of hq7⟩, _, rfl, D, _, _, rfl, rfl, hq7, by rw [List.length_map]; exact Nat.lt_of_le_of_lt (show qs6.length ≤ 20000 by omega) (by decide), ?_⟩
              have t2 := t1.trans (tup_upd (p := D) (o := .lst (qs6.map V.ref ++ [.ref b])) (TupSame.refl _) (lst_not hq7))
              refine ⟨_, rfl, same_upd (same_upd s6 hdk1) hD1, ?_, ?_⟩
              · rw [stp, e1]
                exact ⟨qs6 ++ [b], by rw [upd_same, List.map_append]; rfl, paired_snoc (paired_keep pr6 fun _ _ z => z.keep t2) (hRb6.keep t2)⟩
              · rw [stp, e1]
                refine ⟨es6 ++ [(r, b, .bl true)], by rw [upd_ne nkD, upd_same], fun e he => ?_, by rw [List.map_append, e6']; rfl⟩
                rcases List.mem_append.mp he with he | he
                · exact (k6 e he).keep t2
                · have : e = (r, b, V.bl true) := by simpa using he
                  subst this
                  exact hRb6.keep t2
          · subst e6
            rw [List.length_map, lqs, List.take_length] at l6 m6
            obtain ⟨bk', lb⟩ := bk.turn mg'
            have hb' : back n (es.map (·.1)) ((es.map (·.1)).length + 1 - (g + 1)) ((aheadOf n (es.map (·.1)) u).foldl add2 M) (g + 1) = leadOn n (es.map (·.1)) := by
              rw [← hb]
              have : (es.map (·.1)).length + 1 - g = ((es.map (·.1)).length + 1 - (g + 1)) + 1 := by omega
              rw [this, back_step mg']
            exact ⟨(es.map (·.1)).length + 1 - (g + 1), by omega, _, _, _, g + 1, rfl, rfl, s6, l6, m6, bk', by omega, hb'⟩
        · have hge : g = M.length := by
            have : ¬ (g : Int) < (M.length : Nat) := fun z => hc (decide_eq_true z)
            omega
          have hn : M[g]? = none := List.getElem?_eq_none (by omega)
          have hb' : M = leadOn n (es.map (·.1)) := by
            rw [← hb]
            have : (es.map (·.1)).length + 1 - g = ((es.map (·.1)).length - g) + 1 := by omega
            rw [this, back_end hn]
          refine ⟨_, rfl, D, _, rfl, .inl (SqL.of hps), ?_⟩
          have ll2 : (ps.map V.ref).length = (leadOn n (es.map (·.1))).length := by rw [List.length_map, lps, ← hb']
          rw [ll2]
          exact k H5 (s1.trans s5)
end
end Tb
/-! the class Tubes: __init__, begins, fill, pour, may, sortedness -/
namespace Tb
open PySem PySem.Spec PyProof.Rows L2
theorem lk_here {k : Str} {v : V} {r : List (Str × V)} : List.lookup k ((k, v) :: r) = some v := by
  have e : (k == k) = true := beq_self_eq_true k
  simp only [List.lookup, e]
theorem lk_past {k g : Str} {v : V} {r : List (Str × V)} (h : (k == g) = false) : List.lookup k ((g, v) :: r) = List.lookup k r := by
  simp only [List.lookup, h]
theorem put_here {f : Str} {v x : V} {r : List (Str × V)} : putF f v ((f, x) :: r) = (f, v) :: r := if_pos rfl
theorem put_past {f g : Str} {v x : V} {r : List (Str × V)} (h : ¬ g = f) : putF f v ((g, x) :: r) = (g, x) :: putF f v r := if_neg h
/-! ### the object -/
def jF (n : Nat) (p : Addr) (k : Nat) : List (Str × V) := [("holds", .int n), ("rack", .ref p), ("done", .int k)]
theorem jF_holds (n : Nat) (p : Addr) (k : Nat) : (jF n p k).lookup ("holds" : Str) = some (.int n) := lk_here
theorem jF_rack (n : Nat) (p : Addr) (k : Nat) : (jF n p k).lookup ("rack" : Str) = some (.ref p) := (lk_past (by decide +kernel)).trans lk_here
theorem jF_done (n : Nat) (p : Addr) (k : Nat) : (jF n p k).lookup ("done" : Str) = some (.int k) := (lk_past (by decide +kernel)).trans ((lk_past (by decide +kernel)).trans lk_here)
theorem jF_none {m : Str} (h1 : (m == ("holds" : Str)) = false) (h2 : (m == ("rack" : Str)) = false) (h3 : (m == ("done" : Str)) = false) (n : Nat) (p : Addr) (k : Nat) : (jF n p k).lookup m = none := (lk_past h1).trans ((lk_past h2).trans ((lk_past h3).trans rfl))
theorem put_holds (n m : Nat) (p : Addr) (k : Nat) : putF "holds" (.int m) (jF n p k) = jF m p k := put_here
theorem put_rack (n : Nat) (p q : Addr) (k : Nat) : putF "rack" (.ref q) (jF n p k) = jF n q k := (put_past (by decide +kernel)).trans (congrArg _ put_here)
theorem put_done (n : Nat) (p : Addr) (k m : Nat) : putF "done" (.int m) (jF n p k) = jF n p m := (put_past (by decide +kernel)).trans (congrArg _ ((put_past (by decide +kernel)).trans (congrArg _ put_here)))
theorem put_new (n : Nat) (p : Addr) (k : Nat) : putF "done" (.int k) (putF "rack" (.ref p) (putF "holds" (.int n) [])) = jF n p k := by
  have e1 : putF "holds" (.int n) [] = [(("holds" : Str), V.int n)] := rfl
  have e2 : putF "rack" (.ref p) [(("holds" : Str), V.int n)] = [(("holds" : Str), V.int n), (("rack" : Str), V.ref p)] := (put_past (by decide +kernel)).trans rfl
  have e3 : putF "done" (.int k) [(("holds" : Str), V.int n), (("rack" : Str), V.ref p)] = jF n p k := (put_past (by decide +kernel)).trans (congrArg _ ((put_past (by decide +kernel)).trans rfl))
  rw [e1, e2, e3]
def TubesAt (C : Addr) (H : Hp) (a : Addr) (s : Sy71.St) : Prop := ∃ dx p, H a = some (.ins C dx (jF s.holds p s.done)) ∧ RackAt H p s.rack
/-- all but the object at a is as it was -/
def Rest (a : Addr) (H H' : Hp) : Prop := ∀ b o, H b = some o → b ≠ a → H' b = some o
theorem Rest.of {a : Addr} {H H' : Hp} (s : Same H H') : Rest a H H' := fun b o e _ => s b o e
theorem Rest.trans {a : Addr} {H H1 H2 : Hp} (x : Rest a H H1) (y : Rest a H1 H2) : Rest a H H2 := fun b o e n => y b o (x b o e n) n
theorem Rest.upd {a : Addr} {H H1 : Hp} {o : HO} (x : Rest a H H1) : Rest a H (upd H1 a o) := fun b u e n => by rw [upd_ne n]; exact x b u e n
theorem TubesAt.same {C a : Addr} {H H' : Hp} {s : Sy71.St} (h : TubesAt C H a s) (k : Same H H') : TubesAt C H' a s := let ⟨dx, p, e, r⟩ := h; ⟨dx, p, k _ _ e, r.keep (TupSame.of k)⟩
theorem ins_not {H : Hp} {a C dx : Addr} {fs : List (Str × V)} (h : H a = some (.ins C dx fs)) : ∀ xs, H a ≠ some (.tup xs) := fun xs e => by rw [h] at e; cases e
theorem Rest.tup {C a : Addr} {H H' : Hp} {s : Sy71.St} (x : Rest a H H') (h : TubesAt C H a s) : TupSame H H' := fun b xs e => by
  obtain ⟨dx, p, ha, _⟩ := h
  exact x b _ e fun z => by rw [z, ha] at e; cases e

structure TxtC (K : PySem.W.Frag) (mg : Str → Option Value) (C : Addr) : Prop where
  cl : Cls K C
  nH : NoAttr K C "holds"
  nR : NoAttr K C "rack"
  nD : NoAttr K C "done"
  m1 : ∃ t, mg "NOT_ALLOWED" = some (.int (-1) t)
  m2 : ∃ t, mg "NO_SUCH_TUBE" = some (.int (-2) t)
  m4 : ∃ t, mg "NOTHING_LEADS_ON" = some (.int (-4) t)
  m6 : ∃ t, mg "CANNOT_BE" = some (.int (-6) t)
  m9 : ∃ t, mg "TOO_MANY_RACKS" = some (.int (-9) t)
  h5 : ∃ t, mg "HIGHEST_COLOUR" = some (.int 5 t)

/-! ### promises -/
def spInit (C : Addr) : Sp := fun vs H Q _ => ∃ (p dx : Addr), vs = [.ref p] ∧ H p = some (.ins C dx []) ∧ ∀ H' : Hp, TubesAt C H' p Sy71.init → Rest p H H' → Q .non H'
/-- a method that answers a number: mk tells what is handed over, and which call of the document it is -/
def spM (C : Addr) (mk : Hp → List V → Sy71.Call → Prop) : Sp := fun vs H Q _ => ∃ (a : Addr) (s : Sy71.St) (args : List V) (x : Sy71.Call), vs = .ref a :: args ∧ mk H args x ∧ TubesAt C H a s ∧ SOk s ∧
  ∀ H' : Hp, TubesAt C H' a (Sy71.step s x).1 → Rest a H H' → Q (.int (Sy71.step s x).2.v) H'
def mkBegins : Hp → List V → Sy71.Call → Prop := fun _ args x => ∃ n k : Nat, args = [.int n, .int k] ∧ n < 4294967296 ∧ k < 4294967296 ∧ x = .begins n k
def mkFill : Hp → List V → Sy71.Call → Prop := fun H args x => ∃ (i : Nat) (l : List Nat) (b : Addr), args = [.int i, .ref b] ∧ H b = some (.lst (l.map fun (c : Nat) => V.int (c : Int))) ∧ l.length ≤ 60 ∧ x = .fill i l
def mkPour : Hp → List V → Sy71.Call → Prop := fun _ args x => ∃ i j : Nat, args = [.int i, .int j] ∧ x = .pour i j
def mkMay : Hp → List V → Sy71.Call → Prop := fun _ args x => ∃ i j : Nat, args = [.int i, .int j] ∧ x = .may i j
def mkNone (y : Sy71.Call) : Hp → List V → Sy71.Call → Prop := fun _ args x => args = [] ∧ x = y

theorem chain_ok {σ : L2.St} {H : Hp} {Q : Bool → Hp → Prop} {j : Nat} {lo hi m : Int} (hj : σ[j]? = some (some (.int m))) (h : Q (decide (lo ≤ m) && decide (m ≤ hi)) H) :
    tTest (tChain (rI0 fun i j => .bl (decide (i ≤ j))) (rI0 fun i j => .bl (decide (i ≤ j))) (tC (.int lo)) (tVar j) (tC (.int hi))) σ H Q := by
  refine ⟨_, hj, _, _, rfl, rfl, _, rfl, ?_⟩
  by_cases c : lo ≤ m
  · rw [decide_eq_true c] at h ⊢
    exact iteT ⟨_, _, rfl, rfl, _, rfl, by simpa using h⟩
  · rw [decide_eq_false c] at h ⊢
    exact iteF ⟨_, rfl, by simpa using h⟩
theorem yes_T {σ : L2.St} {H : Hp} {A B : Hp → Prop} (h : A H) : tYes σ H (fun b H3 => if b = true then A H3 else B H3) := by
  show if true = true then A H else B H
  exact iteT h
theorem paired_rep {α β : Type} {G : α → β → Prop} {a : α} {b : β} (g : G a b) : ∀ n : Nat, Paired G (List.replicate n a) (List.replicate n b)
  | 0 => .nil
  | n + 1 => .cons g (paired_rep g n)
section
variable {P : Program} {w : World} {K : PySem.W.Frag} {mg : Str → Option Value} {base : Heap} {C : Addr}
abbrev mS (j : Nat) : Stmt := inClass (topS 32) j
/-! ### __init__ -/
theorem scInit : FnScope ["self"] ["self"] (defScope (mS 0)) := ⟨rfl, rfl, rfl, by decide +kernel, rfl, by decide +kernel, by decide +kernel⟩
theorem ok_init {f : Addr} {fd : FuncData} (F : Fun K "__init__" "Tubes.__init__" (mS 0) f fd) (T : TxtC K mg C) : FnOk P w K mg base CX0 1 f fd ["self"] (spInit C) := by
  refine F.ok scInit (fun vs H Q E h => ?_) (fun cdv A outer s H vs Q E hr h => ?_)
  · obtain ⟨p, dx, rfl, _⟩ := h
    rfl
  · refine ⟨_, pss_cons (ps_fld (pv 0) pe_int rfl) (pss_cons (ps_fld (pv 0) (pe_tup (pa_cons (pe_tup pa_nil) (pa_cons (pe_tup pa_nil) pa_nil))) rfl) (pss_one (ps_fld (pv 0) pe_int rfl))), ?_⟩
    obtain ⟨a, dx, rfl, ha, k⟩ := h
    refine ⟨_, rfl, a, C, dx, [], rfl, ha, T.cl, T.nH, (by show 0 < 1000; decide), ?_⟩
    refine ⟨Nat.zero_le _, fun q1 h1 => ⟨Nat.zero_le _, fun q2 h2 => ⟨(by show 2 ≤ sizeLine; decide), fun q3 h3 => ?_⟩⟩⟩
    have s1 := same_new (o := .tup []) h1
    have s2 := same_new (o := .tup []) h2
    have s3 := same_new (o := .tup [.ref q1, .ref q2]) h3
    have a1 := (s1.trans (s2.trans s3)) _ _ (upd_same (H := H) (a := a) (o := .ins C dx (putF "holds" (.int 1) [])))
    have r1 := s3 _ _ (s2 _ _ (upd_same (H := upd H a (.ins C dx (putF "holds" (.int 1) []))) (a := q1) (o := .tup [])))
    have r2 := s3 _ _ (upd_same (H := upd (upd H a (.ins C dx (putF "holds" (.int 1) []))) q1 (.tup [])) (a := q2) (o := .tup []))
    have ne1 : q1 ≠ a := fun z => by rw [z, upd_same] at h1; cases h1
    have ne3 : q3 ≠ a := fun z => by rw [z, s2 _ _ (s1 _ _ upd_same)] at h3; cases h3
    have ne2 : q2 ≠ a := fun z => by rw [z, s1 _ _ upd_same] at h2; cases h2
    have rs : Rest a H (upd (upd (upd (upd H a (.ins C dx (putF "holds" (.int 1) []))) q1 (.tup [])) q2 (.tup [])) q3 (.tup [.ref q1, .ref q2])) := fun b o e n => (s1.trans (s2.trans s3)) b o (by rw [upd_ne n]; exact e)
    have r3 : (upd (upd (upd (upd H a (.ins C dx (putF "holds" (.int 1) []))) q1 (.tup [])) q2 (.tup [])) q3 (.tup [.ref q1, .ref q2])) q3 = some (.tup [.ref q1, .ref q2]) := upd_same
    refine ⟨_, rfl, a, C, dx, _, rfl, a1, T.cl, T.nR, (by show 1 < 1000; decide), ?_⟩
    refine ⟨_, rfl, a, C, dx, _, rfl, upd_same, T.cl, T.nD, (by show 2 < 1000; decide), ?_⟩
    refine k _ ⟨dx, q3, ?_, [q1, q2], ?_, ?_⟩ rs.upd.upd
    · rw [upd_same]
      exact congrArg (fun z => some (HO.ins C dx z)) (put_new 1 q3 0)
    · rw [upd_ne ne3, upd_ne ne3]
      exact r3
    · exact .cons (by show upd (upd _ a _) a _ q1 = _; rw [upd_ne ne1, upd_ne ne1]; exact r1) (.cons (by show upd (upd _ a _) a _ q2 = _; rw [upd_ne ne2, upd_ne ne2]; exact r2) .nil)

/-! ### begins -/
theorem scBegins : FnScope ["self", "holds", "tubes"] ["self", "holds", "tubes"] (defScope (mS 1)) := ⟨rfl, rfl, rfl, by decide +kernel, rfl, by decide +kernel, by decide +kernel⟩
theorem ok_begins {f : Addr} {fd : FuncData} (F : Fun K "begins" "Tubes.begins" (mS 1) f fd) (T : TxtC K mg C) : FnOk P w K mg base CX0 1 f fd ["self", "holds", "tubes"] (spM C mkBegins) := by
  refine F.ok scBegins (fun vs H Q E h => ?_) (fun cdv A outer s H vs Q E hr h => ?_)
  · obtain ⟨a, s, args, x, rfl, ⟨n, k, rfl, _⟩, _⟩ := h
    rfl
  · obtain ⟨t1, m1⟩ := T.m1
    refine ⟨_, pss_cons (ps_if (PW.pt (pw_or (pt_not (pt_chain op_le op_le pe_int (pv 1) pe_int)) (pw_or1 (pt_not (pt_chain op_le op_le pe_int (pv 2) pe_int))))) (pss_one (ps_ret (pe_glob (v := .int (-1)) (by rfl) m1 ⟨_, rfl⟩))) pss_nil)
      (pss_cons (ps_fld (pv 0) (pv 1) rfl)
      (pss_cons (ps_fld (pv 0) (pe_op op_repT (pe_tup (pa_cons (pe_tup pa_nil) pa_nil)) (pv 2)) rfl)
      (pss_cons (ps_fld (pv 0) pe_int rfl)
      (pss_one (ps_ret (pe_op op_mul (pv 1) (pv 2))))))), ?_⟩
    obtain ⟨a, st, args, x, rfl, ⟨n, k, rfl, hn, hk, rfl⟩, ht, so, kk⟩ := h
    have bad : (n < 1 ∨ 4 < n ∨ k < 2 ∨ 5 < k) → Q (.int (-1)) H := fun c => by
      have := kk H
      unfold Sy71.step at this
      simp only [c, if_true] at this
      exact this ht (Rest.of (Same.refl H))
    obtain ⟨dx, p, ha, hr'⟩ := id ht
    refine chain_ok (m := n) (lo := 1) (hi := 4) rfl ?_
    cases c1 : (decide ((1 : Int) ≤ (n : Int)) && decide ((n : Int) ≤ 4)) with
    | false =>
      refine iteT (iteT ?_)
      refine bad ?_
      by_cases z1 : (1 : Int) ≤ n
      · by_cases z2 : (n : Int) ≤ 4
        · simp [z1, z2] at c1
        · omega
      · omega
    | true =>
      rw [Bool.and_eq_true, decide_eq_true_iff, decide_eq_true_iff] at c1
      refine iteF ?_
      refine chain_ok (m := k) (lo := 2) (hi := 5) rfl ?_
      cases c2 : (decide ((2 : Int) ≤ (k : Int)) && decide ((k : Int) ≤ 5)) with
      | false =>
        refine iteT ?_
        refine bad ?_
        by_cases z1 : (2 : Int) ≤ k
        · by_cases z2 : (k : Int) ≤ 5
          · simp [z1, z2] at c2
          · omega
        · omega
      | true =>
        rw [Bool.and_eq_true, decide_eq_true_iff, decide_eq_true_iff] at c2
        refine iteF ?_
        have c : ¬ (n < 1 ∨ 4 < n ∨ k < 2 ∨ 5 < k) := by omega
        unfold Sy71.step at kk
        simp only [c, if_false] at kk
        refine ⟨_, rfl, _, rfl, a, C, dx, _, rfl, ha, T.cl, T.nH, (by show 3 < 1000; decide), ?_⟩
        rw [put_holds]
        refine ⟨Nat.zero_le _, fun q1 h1 => ⟨(by show 1 ≤ sizeLine; decide), fun q2 h2 => ⟨_, rfl, q2, k, _, rfl, rfl, SqT.of upd_same, (by simp), by omega, by omega, (by show 1 ≤ 1000; decide), fun q3 h3 => ?_⟩⟩⟩
        have ef : (List.replicate (k : Int).toNat [V.ref q1]).flatten = (List.replicate k q1).map V.ref := by
          rw [Int.toNat_natCast, List.map_replicate]
          have : ∀ m : Nat, (List.replicate m [V.ref q1]).flatten = List.replicate m (V.ref q1) := by
            intro m
            induction m with
            | zero => rfl
            | succ m ih => rw [List.replicate_succ, List.replicate_succ, List.flatten_cons, ih]; rfl
          exact this k
        rw [ef]
        have s1 := same_new (o := .tup []) h1
        have s2 := same_new (o := .tup [.ref q1]) h2
        have s3 := same_new (o := .tup ((List.replicate k q1).map V.ref)) h3
        have a3 := (s1.trans (s2.trans s3)) _ _ (upd_same (H := H) (a := a) (o := .ins C dx (jF n p st.done)))
        have r1 := s3 _ _ (s2 _ _ (upd_same (H := upd H a (.ins C dx (jF n p st.done))) (a := q1) (o := .tup [])))
        have r3 : upd (upd (upd (upd H a (.ins C dx (jF n p st.done))) q1 (.tup [])) q2 (.tup [.ref q1])) q3 (.tup ((List.replicate k q1).map V.ref)) q3 = some (.tup ((List.replicate k q1).map V.ref)) := upd_same
        have ne1 : q1 ≠ a := fun z => by rw [z, upd_same] at h1; cases h1
        have ne3 : q3 ≠ a := fun z => by rw [z, s2 _ _ (s1 _ _ upd_same)] at h3; cases h3
        have rs : Rest a H (upd (upd (upd (upd H a (.ins C dx (jF n p st.done))) q1 (.tup [])) q2 (.tup [.ref q1])) q3 (.tup ((List.replicate k q1).map V.ref))) := fun b o e nb => (s1.trans (s2.trans s3)) b o (by rw [upd_ne nb]; exact e)
        generalize upd (upd (upd (upd H a (.ins C dx (jF n p st.done))) q1 (.tup [])) q2 (.tup [.ref q1])) q3 (.tup ((List.replicate k q1).map V.ref)) = H3 at *
        refine ⟨_, rfl, a, C, dx, _, rfl, a3, T.cl, T.nR, (by show 3 < 1000; decide), ?_⟩
        rw [put_rack]
        refine ⟨_, rfl, a, C, dx, _, rfl, upd_same, T.cl, T.nD, (by show 3 < 1000; decide), ?_⟩
        refine ⟨_, rfl, _, rfl, _, _, rfl, rfl, .inl ⟨by omega, by omega⟩, ?_⟩
        have fin := kk (upd (upd H3 a (.ins C dx (jF n q3 st.done))) a (.ins C dx (putF "done" (.int 0) (jF n q3 st.done)))) ⟨dx, q3, ?_, List.replicate k q1, ?_, ?_⟩ rs.upd.upd
        · have e : (n : Int) * (k : Int) = ((n * k : Nat) : Int) := by simp
          show Q (.int ((n : Int) * (k : Int))) _
          rw [e]
          exact fin
        · rw [upd_same]
          exact congrArg (fun z => some (HO.ins C dx z)) (put_done n q3 st.done 0)
        · rw [upd_ne ne3, upd_ne ne3]
          exact r3
        · have g : TubeAt (upd (upd H3 a (.ins C dx (jF n q3 st.done))) a (.ins C dx (putF "done" (.int 0) (jF n q3 st.done)))) q1 [] := by
            show upd (upd H3 a _) a _ q1 = _
            rw [upd_ne ne1, upd_ne ne1]
            exact r1
          exact paired_rep g k

/-! ### fill -/
abbrev nmFill : List Str := ["self", "tube", "colours", "drops"]
theorem scFill : FnScope nmFill ["self", "tube", "colours"] (defScope (mS 2)) := ⟨rfl, rfl, rfl, by decide +kernel, rfl, by decide +kernel, by decide +kernel⟩
theorem sum_cast : ∀ l : List Nat, (l.map fun (c : Nat) => (c : Int)).sum = ((l.sum : Nat) : Int)
  | [] => rfl
  | a :: l => by rw [List.map_cons, List.sum_cons, List.sum_cons, sum_cast l]; omega
theorem ok_fill {f : Addr} {fd : FuncData} (F : Fun K "fill" "Tubes.fill" (mS 2) f fd) (TT : Txt mg) (T : TxtC K mg C) (GW : Has P w K mg base 1 "with_tube" ["rack", "tube", "drops"] spWith) : FnOk P w K mg base CX0 2 f fd ["self", "tube", "colours"] (spM C mkFill) := by
  refine F.ok scFill (fun vs H Q E h => ?_) (fun cdv A outer s H vs Q E hr h => ?_)
  · obtain ⟨a, s, args, x, rfl, ⟨i, l, b, rfl, _⟩, _⟩ := h
    rfl
  · obtain ⟨t1, m1⟩ := T.m1
    obtain ⟨t2, m2⟩ := T.m2
    obtain ⟨t5, h5⟩ := T.h5
    refine ⟨_, pss_cons (ps_if (pt_cmpR op_ge (pv 1) (pe_callB call_len_seq (by rfl) TT.len (by decide +kernel) (pa_cons (pe_fld (pv 0) rfl) pa_nil)) (nomark _)) (pss_one (ps_ret (pe_glob (v := .int (-2)) (by rfl) m2 ⟨_, rfl⟩))) pss_nil)
      (pss_cons (ps_if (PW.pt (pw_or (pt_cmpR op_gt (pe_callB call_len_seq (by rfl) TT.len (by decide +kernel) (pa_cons (pv 2) pa_nil)) (pe_fld (pv 0) rfl) (nomark _))
          (pw_or1 (pt_cmpR op_gt (pe_callBK (cr_maxD rfl hr) (by rfl) TT.max (by decide +kernel) (pa_cons (pv 2) pa_nil) (pk_cons pe_int pk_nil)) (pe_glob (v := .int 5) (by rfl) h5 ⟨_, rfl⟩) (nomark _)))))
        (pss_one (ps_ret (pe_glob (v := .int (-1)) (by rfl) m1 ⟨_, rfl⟩))) pss_nil)
      (pss_cons (ps_fld (pv 0) (pe_has GW (hr.mono (by decide)) (by rfl) (pa_cons (pe_fld (pv 0) rfl) (pa_cons (pv 1) (pa_cons (pe_callTy call_tuple_of (by rfl) TT.tuple (by decide +kernel) (pa_cons (pv 2) pa_nil)) pa_nil)))) rfl)
      (pss_one (ps_ret (pe_callB (cr_sum rfl) (by rfl) TT.sum (by decide +kernel) (pa_cons (pe_lc (own := [("drops", 3)]) (g := gName 3) rfl scFill.nd (pi_tup (pe_fld (pv 0) rfl)) (blkOk_by (own := [("drops", 3)]) (N := nmFill) (sc := defScope (mS 2)) (by decide +kernel))
        (fun _ _ _ _ _ => pg_name (i := 3) scFill.nd rfl (Or.inl rfl)) (fun _ _ _ _ _ => pts_nil) (fun _ _ _ _ _ => pe_callB (id := "len") (r := rLenS K) (q_len K rfl) (by rfl) TT.len (by decide +kernel) (pa_cons (pv 3) pa_nil))) pa_nil)))))), ?_⟩
    obtain ⟨a, st, args, x, rfl, ⟨i, l, b, rfl, hb, hl, rfl⟩, ht, so, kk⟩ := h
    obtain ⟨dx, p, ha, hR⟩ := id ht
    obtain ⟨qs, hp, pr⟩ := id hR
    have lq : qs.length = st.rack.length := Paired.length pr
    have l5 := so.rk.l5
    refine ⟨_, rfl, _, rfl, a, C, dx, _, _, rfl, ha, T.cl, T.nR, jF_rack _ _ _, p, _, rfl, .inr (SqT.of hp), _, _, rfl, rfl, _, rfl, ?_⟩
    rw [List.length_map, lq]
    unfold Sy71.step at kk
    refine ite2 (fun hc => ?_) (fun hc => ?_)
    · have c : st.rack.length ≤ i := by
        have := of_decide_eq_true hc
        omega
      simp only [c, if_true] at kk
      exact kk H ht (Rest.of (Same.refl H))
    · have c : ¬ st.rack.length ≤ i := fun z => hc (decide_eq_true (by omega))
      simp only [c, if_false] at kk
      have bad : (st.holds < l.length ∨ l.any (fun (c : Nat) => decide (5 < c)) = true) → Q (.int (-1)) H := fun c => by
        have := kk H
        simp only [c, if_true] at this
        exact this ht (Rest.of (Same.refl H))
      refine ⟨_, rfl, b, _, rfl, .inl (SqL.of hb), _, rfl, a, C, dx, _, _, rfl, ha, T.cl, T.nH, jF_holds _ _ _, _, _, rfl, rfl, _, rfl, ?_⟩
      rw [List.length_map]
      refine ite2 (fun hc2 => ?_) (fun hc2 => ?_)
      · refine iteT (bad (.inl ?_))
        have := of_decide_eq_true hc2
        omega
      · have c2 : ¬ st.holds < l.length := fun z => hc2 (decide_eq_true (by omega))
        refine ⟨_, rfl, b, l.map fun (c : Nat) => (c : Int), 0, rfl, rfl, SqL.of (by rw [hb, List.map_map]; rfl), fun m hm => ?_⟩
        refine ⟨_, _, rfl, rfl, _, rfl, ?_⟩
        have eqv : 5 < m ↔ l.any (fun (c : Nat) => decide (5 < c)) = true := by
          rw [List.any_eq_true]
          rcases hm with ⟨e, rfl⟩ | ⟨hm, hall⟩
          · have : l = [] := List.map_eq_nil_iff.mp e
            subst this
            simp
          · obtain ⟨c, hc', rfl⟩ := List.mem_map.mp hm
            constructor
            · intro z
              exact ⟨c, hc', decide_eq_true (by omega)⟩
            · rintro ⟨y, hy, hy2⟩
              have := hall y (List.mem_map_of_mem hy)
              have := of_decide_eq_true hy2
              omega
        refine ite2 (fun hc3 => ?_) (fun hc3 => ?_)
        · exact bad (.inr (eqv.mp (of_decide_eq_true hc3)))
        · have c3 : ¬ l.any (fun (c : Nat) => decide (5 < c)) = true := fun z => hc3 (decide_eq_true (eqv.mpr z))
          have c4 : ¬ (st.holds < l.length ∨ l.any (fun (c : Nat) => decide (5 < c)) = true) := fun z => z.elim c2 c3
          simp only [c4, if_false] at kk
          refine ⟨_, rfl, a, C, dx, _, _, rfl, ha, T.cl, T.nR, jF_rack _ _ _, _, rfl, _, rfl, b, _, rfl, .inl ⟨SqL.of hb, fun q hq => ?_⟩⟩
          have s1 := same_new (o := .tup (l.map fun (c : Nat) => V.int (c : Int))) hq
          refine ⟨p, i, _, _, rfl, s1 _ _ hp, by rw [List.length_map]; omega, by rw [List.length_map]; omega, fun H2 q2 s2 hq2 => ?_⟩
          have s02 := s1.trans s2
          have tq : TubeAt H2 q l.reverse := by
            have := s2 _ _ (upd_same (H := H) (a := q) (o := .tup (l.map fun (c : Nat) => V.int (c : Int))))
            show H2 q = some (.tup (colV l.reverse))
            unfold colV
            rw [List.reverse_reverse]
            exact this
          obtain ⟨rA, pr2, hq2'⟩ := rack_set (TupSame.of s02) pr tq hq2
          have ha2 := s02 _ _ ha
          refine ⟨_, rfl, a, C, dx, _, rfl, ha2, T.cl, T.nR, (by show 3 < 1000; decide), ?_⟩
          rw [put_rack]
          have tk : TupSame H2 (upd H2 a (.ins C dx (jF st.holds q2 st.done))) := tup_upd (TupSame.refl _) (ins_not ha2)
          have rs : Rest a H (upd H2 a (.ins C dx (jF st.holds q2 st.done))) := (Rest.of s02).upd
          have h3 : TubesAt C (upd H2 a (.ins C dx (jF st.holds q2 st.done))) a { st with rack := st.rack.set i l.reverse } := ⟨dx, q2, upd_same, rA.keep tk⟩
          have ha3 : upd H2 a (.ins C dx (jF st.holds q2 st.done)) a = some (.ins C dx (jF st.holds q2 st.done)) := upd_same
          have hq3 := tk _ _ hq2'
          have pr3 := paired_keep pr2 fun _ _ z => z.keep tk
          generalize upd H2 a (.ins C dx (jF st.holds q2 st.done)) = H3 at *
          generalize hr' : st.rack.set i l.reverse = r' at *
          generalize qs.set i q = qs' at *
          have lr' : r'.length ≤ 5 := by rw [← hr', List.length_set]; exact l5
          have lq' : qs'.length = r'.length := Paired.length pr3
          refine ⟨_, rfl, a, C, dx, _, _, rfl, ha3, T.cl, T.nR, jF_rack _ _ _, q2, rfl, ⟨_, SqT.of hq3⟩, fun D hD => ?_⟩
          refine lc_tup (K := K) (a := q2) (xs := qs'.map V.ref) (fun j H' => Same H3 H' ∧ H' D = some (.lst ((((r'.take j).map List.length).map fun (c : Nat) => (c : Int)).map V.int)))
            ⟨same_new hD, upd_same⟩ (fun j H' _ ⟨sm, _⟩ => SqT.of (sm _ _ hq3)) (fun j x H4 hx ⟨s4, h4⟩ => ?_) (fun H4 ⟨s4, h4⟩ => ?_)
          · have hj : j < r'.length := by
              have := (List.getElem?_eq_some_iff.mp hx).1
              rw [List.length_map] at this
              omega
            obtain ⟨c, ec, hc'⟩ := paired_ix pr3 hj
            rw [List.getElem?_map, ec] at hx
            have hx' := Option.some.inj hx
            subst hx'
            refine ⟨rfl, yes_T ?_⟩
            refine ⟨_, rfl, c, _, rfl, .inr (SqT.of (s4 _ _ hc')), _, h4, ?_, same_upd s4 hD, ?_⟩
            · rw [List.length_map, List.length_map, List.length_map, List.length_take]
              exact Nat.lt_of_le_of_lt (show _ ≤ 5 by omega) (by decide)
            · rw [upd_same, colV_len, List.take_add_one, List.getElem?_eq_getElem hj, List.map_append, List.map_append, List.map_append]
              rfl
          · rw [List.length_map, lq', List.take_length] at h4
            refine ⟨D, _, rfl, SqL.of h4, ?_⟩
            rw [sum_cast]
            refine kk H4 (h3.same s4) (rs.trans (Rest.of s4))

/-! ### pour -/
theorem scPour2 : FnScope ["self", "tube", "other", "going"] ["self", "tube", "other"] (defScope (mS 3)) := ⟨rfl, rfl, rfl, by decide +kernel, rfl, by decide +kernel, by decide +kernel⟩
theorem ok_pour {f : Addr} {fd : FuncData} (F : Fun K "pour" "Tubes.pour" (mS 3) f fd) (TT : Txt mg) (T : TxtC K mg C) (GG : Has P w K mg base 2 "drops_going" ["rack", "holds", "tube", "other"] spGoing)
    (GP : Has P w K mg base 2 "poured" ["rack", "tube", "other", "going"] spPoured) : FnOk P w K mg base CX0 3 f fd ["self", "tube", "other"] (spM C mkPour) := by
  refine F.ok scPour2 (fun vs H Q E h => ?_) (fun cdv A outer s H vs Q E hr h => ?_)
  · obtain ⟨a, s, args, x, rfl, ⟨i, j, rfl, _⟩, _⟩ := h
    rfl
  · obtain ⟨t2, m2⟩ := T.m2
    obtain ⟨t6, m6⟩ := T.m6
    refine ⟨_, pss_cons (ps_if (pt_cmpR op_ge (pe_callB (call_max2 rfl) (by rfl) TT.max (by decide +kernel) (pa_cons (pv 1) (pa_cons (pv 2) pa_nil))) (pe_callB call_len_seq (by rfl) TT.len (by decide +kernel) (pa_cons (pe_fld (pv 0) rfl) pa_nil)) (nomark _)) (pss_one (ps_ret (pe_glob (v := .int (-2)) (by rfl) m2 ⟨_, rfl⟩))) pss_nil)
      (pss_cons (ps_set (i := 3) scPour2.nd rfl (Or.inl rfl) (pe_has GG (hr.mono (by decide)) (by rfl) (pa_cons (pe_fld (pv 0) rfl) (pa_cons (pe_fld (pv 0) rfl) (pa_cons (pv 1) (pa_cons (pv 2) pa_nil))))))
      (pss_cons (ps_if (pt_cmpR op_eq (pv 3) pe_int (nomark _)) (pss_one (ps_ret (pe_glob (v := .int (-6)) (by rfl) m6 ⟨_, rfl⟩))) pss_nil)
      (pss_cons (ps_fld (pv 0) (pe_has GP (hr.mono (by decide)) (by rfl) (pa_cons (pe_fld (pv 0) rfl) (pa_cons (pv 1) (pa_cons (pv 2) (pa_cons (pv 3) pa_nil))))) rfl)
      (pss_cons (ps_fldaug (pv 0) pe_int in_add)
      (pss_one (ps_ret (pv 3))))))), ?_⟩
    obtain ⟨a, st, args, x, rfl, ⟨i, j, rfl, rfl⟩, ht, so, kk⟩ := h
    obtain ⟨dx, p, ha, hR⟩ := id ht
    obtain ⟨qs, hp, pr⟩ := id hR
    have lq : qs.length = st.rack.length := Paired.length pr
    refine ⟨_, rfl, _, rfl, _, _, rfl, _, rfl, a, C, dx, _, _, rfl, ha, T.cl, T.nR, jF_rack _ _ _, p, _, rfl, .inr (SqT.of hp), _, _, rfl, rfl, _, rfl, ?_⟩
    rw [List.length_map, lq]
    unfold Sy71.step at kk
    refine ite2 (fun hc => ?_) (fun hc => ?_)
    · have c : st.rack.length ≤ i ∨ st.rack.length ≤ j := by
        have := of_decide_eq_true hc
        split at this <;> omega
      simp only [c, if_true] at kk
      exact kk H ht (Rest.of (Same.refl H))
    · have c : ¬ (st.rack.length ≤ i ∨ st.rack.length ≤ j) := fun z => hc (decide_eq_true (by split <;> omega))
      have hi : i < st.rack.length := by omega
      have hj : j < st.rack.length := by omega
      simp only [c, if_false] at kk
      rw [poured_gng hi hj] at kk
      refine ⟨_, rfl, a, C, dx, _, _, rfl, ha, T.cl, T.nR, jF_rack _ _ _, _, rfl, a, C, dx, _, _, rfl, ha, T.cl, T.nH, jF_holds _ _ _, _, rfl, _, rfl, p, st.rack, st.holds, i, j, rfl, hR, so.rk, hi, hj, fun H1 s1 => ?_⟩
      refine ⟨_, rfl, rfl, _, rfl, ?_⟩
      have ha1 := s1 _ _ ha
      refine ite2 (fun hc2 => ?_) (fun hc2 => ?_)
      · have g0 : gng st.holds st.rack i j = 0 := by
          have := of_decide_eq_true hc2
          injection this with this
          omega
        simp only [g0, if_true] at kk
        exact kk H1 (ht.same s1) (Rest.of s1)
      · have g0 : ¬ gng st.holds st.rack i j = 0 := fun z => hc2 (by rw [z]; simp)
        have ne : i ≠ j := fun z => g0 (if_pos z)
        simp only [g0, if_false] at kk
        refine ⟨_, rfl, a, C, dx, _, _, rfl, ha1, T.cl, T.nR, jF_rack _ _ _, _, rfl, _, rfl, _, rfl, p, st.rack, st.holds, i, j, _, rfl, hR.keep (TupSame.of s1), so.rk, hi, hj, by omega, gng_le, ne, fun H2 q2 s2 r2 => ?_⟩
        have s02 := s1.trans s2
        have ha2 := s2 _ _ ha1
        refine ⟨_, rfl, a, C, dx, _, rfl, ha2, T.cl, T.nR, (by show 3 < 1000; decide), ?_⟩
        rw [put_rack]
        have tk : TupSame H2 (upd H2 a (.ins C dx (jF st.holds q2 st.done))) := tup_upd (TupSame.refl _) (ins_not ha2)
        refine ⟨_, rfl, a, C, dx, _, _, rfl, upd_same, T.cl, T.nD, jF_done _ _ _, _, _, rfl, rfl, dx, _, upd_same, (by show 3 < 1000; decide), ?_⟩
        refine ⟨_, rfl, ?_⟩
        have e : V.int ((st.done : Int) + 1) = V.int ((st.done + 1 : Nat) : Int) := by
          congr 1
        have fin := kk (upd (upd H2 a (.ins C dx (jF st.holds q2 st.done))) a (.ins C dx (putF "done" (.int ((st.done : Int) + 1)) (jF st.holds q2 st.done)))) ⟨dx, q2, ?_, ?_⟩ (Rest.of s02).upd.upd
        · have eg : gng st.holds st.rack i j = Sy71.goes st.holds (st.rack.getD i []) (st.rack.getD j []) := if_neg ne
          rw [← eg] at fin
          exact fin
        · rw [upd_same, e]
          exact congrArg (fun z => some (HO.ins C dx z)) (put_done st.holds q2 st.done (st.done + 1))
        · exact r2.keep (tk.trans (tup_upd (TupSame.refl _) (ins_not upd_same)))

/-! ### may -/
theorem scMay : FnScope ["self", "tube", "other"] ["self", "tube", "other"] (defScope (mS 4)) := ⟨rfl, rfl, rfl, by decide +kernel, rfl, by decide +kernel, by decide +kernel⟩
theorem ok_may {f : Addr} {fd : FuncData} (F : Fun K "may" "Tubes.may" (mS 4) f fd) (TT : Txt mg) (T : TxtC K mg C) (GG : Has P w K mg base 2 "drops_going" ["rack", "holds", "tube", "other"] spGoing) : FnOk P w K mg base CX0 3 f fd ["self", "tube", "other"] (spM C mkMay) := by
  refine F.ok scMay (fun vs H Q E h => ?_) (fun cdv A outer s H vs Q E hr h => ?_)
  · obtain ⟨a, s, args, x, rfl, ⟨i, j, rfl, _⟩, _⟩ := h
    rfl
  · obtain ⟨t1, m1⟩ := T.m1
    obtain ⟨t2, m2⟩ := T.m2
    refine ⟨_, pss_cons (ps_if (pt_cmpR op_ge (pe_callB (call_max2 rfl) (by rfl) TT.max (by decide +kernel) (pa_cons (pv 1) (pa_cons (pv 2) pa_nil))) (pe_callB call_len_seq (by rfl) TT.len (by decide +kernel) (pa_cons (pe_fld (pv 0) rfl) pa_nil)) (nomark _)) (pss_one (ps_ret (pe_glob (v := .int (-2)) (by rfl) m2 ⟨_, rfl⟩))) pss_nil)
      (pss_cons (ps_if (pt_cmpR op_eq (pv 1) (pv 2) (nomark _)) (pss_one (ps_ret (pe_glob (v := .int (-1)) (by rfl) m1 ⟨_, rfl⟩))) pss_nil)
      (pss_one (ps_ret (pe_has GG (hr.mono (by decide)) (by rfl) (pa_cons (pe_fld (pv 0) rfl) (pa_cons (pe_fld (pv 0) rfl) (pa_cons (pv 1) (pa_cons (pv 2) pa_nil)))))))), ?_⟩
    obtain ⟨a, st, args, x, rfl, ⟨i, j, rfl, rfl⟩, ht, so, kk⟩ := h
    obtain ⟨dx, p, ha, hR⟩ := id ht
    obtain ⟨qs, hp, pr⟩ := id hR
    have lq : qs.length = st.rack.length := Paired.length pr
    refine ⟨_, rfl, _, rfl, _, _, rfl, _, rfl, a, C, dx, _, _, rfl, ha, T.cl, T.nR, jF_rack _ _ _, p, _, rfl, .inr (SqT.of hp), _, _, rfl, rfl, _, rfl, ?_⟩
    rw [List.length_map, lq]
    unfold Sy71.step at kk
    refine ite2 (fun hc => ?_) (fun hc => ?_)
    · have c : st.rack.length ≤ i ∨ st.rack.length ≤ j := by
        have := of_decide_eq_true hc
        split at this <;> omega
      simp only [c, if_true] at kk
      exact kk H ht (Rest.of (Same.refl H))
    · have c : ¬ (st.rack.length ≤ i ∨ st.rack.length ≤ j) := fun z => hc (decide_eq_true (by split <;> omega))
      have hi : i < st.rack.length := by omega
      have hj : j < st.rack.length := by omega
      simp only [c, if_false] at kk
      refine ⟨_, rfl, _, rfl, rfl, _, rfl, ?_⟩
      refine ite2 (fun hc2 => ?_) (fun hc2 => ?_)
      · have e : i = j := by
          have := of_decide_eq_true hc2
          injection this with this
          omega
        simp only [e, if_true] at kk
        exact kk H ht (Rest.of (Same.refl H))
      · have e : ¬ i = j := fun z => hc2 (by rw [z]; simp)
        simp only [e, if_false] at kk
        refine ⟨_, rfl, a, C, dx, _, _, rfl, ha, T.cl, T.nR, jF_rack _ _ _, _, rfl, a, C, dx, _, _, rfl, ha, T.cl, T.nH, jF_holds _ _ _, _, rfl, _, rfl, p, st.rack, st.holds, i, j, rfl, hR, so.rk, hi, hj, fun H1 s1 => ?_⟩
        have eg : gng st.holds st.rack i j = Sy71.goes st.holds (st.rack.getD i []) (st.rack.getD j []) := if_neg e
        have fin := kk H1 (ht.same s1) (Rest.of s1)
        rw [← eg] at fin
        exact fin

/-! ### sortedness -/
theorem scSd : FnScope ["self"] ["self"] (defScope (mS 5)) := ⟨rfl, rfl, rfl, by decide +kernel, rfl, by decide +kernel, by decide +kernel⟩
theorem ok_sd {f : Addr} {fd : FuncData} (F : Fun K "sortedness" "Tubes.sortedness" (mS 5) f fd) (T : TxtC K mg C) (GS : Has P w K mg base 2 "is_sorted" ["rack"] spSorted) : FnOk P w K mg base CX0 3 f fd ["self"] (spM C (mkNone .sorted)) := by
  refine F.ok scSd (fun vs H Q E h => ?_) (fun cdv A outer s H vs Q E hr h => ?_)
  · obtain ⟨a, s, args, x, rfl, ⟨rfl, _⟩, _⟩ := h
    rfl
  · refine ⟨_, pss_one (ps_ret (pe_ifExp (pt_val (pe_has GS (hr.mono (by decide)) (by rfl) (pa_cons (pe_fld (pv 0) rfl) pa_nil)) (by intro _; rfl)) pe_int pe_int)), ?_⟩
    obtain ⟨a, st, args, x, rfl, ⟨rfl, rfl⟩, ht, so, kk⟩ := h
    obtain ⟨dx, p, ha, hR⟩ := id ht
    refine ⟨_, rfl, a, C, dx, _, _, rfl, ha, T.cl, T.nR, jF_rack _ _ _, p, st.rack, st.holds, rfl, hR, so.rk, fun H1 s1 => ⟨_, rfl, ?_⟩⟩
    have fin := kk H1 (ht.same s1) (Rest.of s1)
    unfold Sy71.step at fin
    cases e : Sy71.sorted st.rack with
    | true =>
      rw [e] at fin
      exact iteT fin
    | false =>
      rw [e] at fin
      exact iteF fin
end
end Tb
/-! the class Tubes: plan, fewest, reach, lost, drops_in, state -/
namespace Tb
open PySem PySem.Spec PyProof.Rows L2
theorem pe_hasM {X : Cx} {k : Nat} {C : Addr} {m : Str} {ps : List Str} {sp : Sp} {pos apos : Pos} {o e : Expr} {es : List Expr} {ta : TE} {t : TA} {pl : Sem Bool} (G : HasM X.prog X.w X.K X.mg X.base C k m ps sp) (hr : Room k X.A) (c : Cls X.K C) (he : PE X o ta) (ha : PA X (e :: es) t)
    (hst : starEach (e :: es) X.env = (false, eval e X.env) :: starEach es X.env := by rfl) (hpl : (backTo pos (starEach es X.env)).any (·.1) = false := by rfl)
    (ht : eval (.Call (.Attribute o m apos) (e :: es) [] pos) X.env = (do
      let ov ← eval o X.env
      standAt apos.atName
      let (f, first) ← holding [ov] (getMethod ov m pl)
      callWith pos f first (backTo pos (starEach (e :: es) X.env)) (backToKw pos (keywordEach [] X.env))) := by rfl) :
    PE X (.Call (.Attribute o m apos) (e :: es) [] pos) (tMeth C m sp [] E0 ta t) := by
  obtain ⟨f, fd, hm, hb, F⟩ := G.ex
  exact pe_meth he c hm F hr hb .nil pass0 ha hst hpl ht
theorem pe_hasM0 {X : Cx} {k : Nat} {C : Addr} {m : Str} {ps : List Str} {sp : Sp} {pos apos : Pos} {o : Expr} {ta : TE} {pl : Sem Bool} (G : HasM X.prog X.w X.K X.mg X.base C k m ps sp) (hr : Room k X.A) (c : Cls X.K C) (he : PE X o ta)
    (ht : eval (.Call (.Attribute o m apos) [] [] pos) X.env = (do
      let ov ← eval o X.env
      standAt apos.atName
      let (f, first) ← holding [ov] (getMethod ov m pl)
      callWith pos f first (backTo pos (starEach [] X.env)) (backToKw pos (keywordEach [] X.env))) := by rfl) :
    PE X (.Call (.Attribute o m apos) [] [] pos) (tMeth C m sp [] E0 ta tNil) := by
  obtain ⟨f, fd, hm, hb, F⟩ := G.ex
  exact pe_meth0 he c hm F hr hb .nil pass0 ht

/-! ### answers with lists -/
def RowAt (H : Hp) (p : Addr) (row : List Int) : Prop := H p = some (.tup (row.map V.int)) ∨ H p = some (.lst (row.map V.int))
def AnsAt (H : Hp) (q : Addr) (A : Sy71.Ans) : Prop := ∃ (ls : Addr) (rs : List Addr), H q = some (.tup [.int A.v, .ref ls]) ∧ H ls = some (.tup (rs.map V.ref)) ∧ Paired (RowAt H) rs A.l
/-- a method that answers a number and lists -/
def spL (C : Addr) (mk : Hp → List V → Sy71.Call → Prop) : Sp := fun vs H Q _ => ∃ (a : Addr) (s : Sy71.St) (args : List V) (x : Sy71.Call), vs = .ref a :: args ∧ mk H args x ∧ TubesAt C H a s ∧ SOk s ∧
  ∀ (H' : Hp) (q : Addr), TubesAt C H' a (Sy71.step s x).1 → Rest a H H' → AnsAt H' q (Sy71.step s x).2 → Q (.ref q) H'
def mkLost : Hp → List V → Sy71.Call → Prop := fun _ args x => ∃ i j : Nat, args = [.int i, .int j] ∧ x = .lost i j
def mkTube : Hp → List V → Sy71.Call → Prop := fun _ args x => ∃ i : Nat, args = [.int i] ∧ x = .tube i
theorem ret_none {σ : L2.St} {H : Hp} {Q : VK} {v : Int} (h : ∀ (H' : Hp) (q : Addr), Same H H' → AnsAt H' q ⟨v, []⟩ → Q (.ref q) H') : tTup (tCons (tC (.int v)) (tCons (tTup tNil) tNil)) σ H Q := by
  refine ⟨Nat.zero_le _, fun q1 h1 => ⟨(by show 2 ≤ sizeLine; decide), fun q2 h2 => ?_⟩⟩
  have s1 := same_new (o := .tup []) h1
  have s2 := same_new (o := .tup [.int v, .ref q1]) h2
  exact h _ q2 (s1.trans s2) ⟨q1, [], upd_same, s2 _ _ upd_same, .nil⟩
/-- a tuple of one list -/
theorem ret_one {H : Hp} {Q : VK} {v : Int} {p : Addr} {row : List Int} (hp : RowAt H p row) (h : ∀ (H' : Hp) (q : Addr), Same H H' → AnsAt H' q ⟨v, [row]⟩ → Q (.ref q) H') :
    [V.ref p].length ≤ sizeLine ∧ ∀ q1, H q1 = none → ∃ H1, H1 = upd H q1 (.tup [.ref p]) ∧ [V.int v, V.ref q1].length ≤ sizeLine ∧ ∀ q2, H1 q2 = none → Q (.ref q2) (upd H1 q2 (.tup [.int v, .ref q1])) := by
  refine ⟨(by show 1 ≤ sizeLine; decide), fun q1 h1 => ⟨_, rfl, (by show 2 ≤ sizeLine; decide), fun q2 h2 => ?_⟩⟩
  have s1 := same_new (o := .tup [.ref p]) h1
  have s2 := same_new (o := .tup [.int v, .ref q1]) h2
  refine h _ q2 (s1.trans s2) ⟨q1, [p], upd_same, s2 _ _ upd_same, .cons ?_ .nil⟩
  rcases hp with hp | hp
  · exact .inl (s2 _ _ (s1 _ _ hp))
  · exact .inr (s2 _ _ (s1 _ _ hp))
theorem wayV_ints (p : Path) : wayV p = (Sy71.ints (p.flatMap fun (x : Nat × Nat) => [x.1, x.2])).map V.int := by
  unfold wayV Sy71.ints
  induction p with
  | nil => rfl
  | cons x p ih => rw [List.flatMap_cons, List.flatMap_cons, List.map_append, List.map_append, ih]; rfl
theorem waysat_facts {n : Nat} {r : Sy71.Rack} {W : Ways} (ro : ROk n r) (h : ways n r = some W) : (W.map (·.1)).Nodup ∧ (∀ p ∈ W, ROk n p.1) ∧ W.length ≤ 300 ∧ ∀ p ∈ W, p.2.length ≤ 300 := by
  obtain ⟨b, l⟩ := ways_some h
  refine ⟨b.nod, fun p hp => ro.runs (b.val p hp), l, fun p hp => ?_⟩
  obtain ⟨j, hj, ej⟩ := List.mem_iff_getElem.mp hp
  have := path_len b (Nat.le_refl _) j p (by rw [List.getElem?_eq_getElem hj, ej])
  omega
theorem planAmong_mem {W : Ways} {p : Path} (h : planAmong W = some p) : ∃ q ∈ W, q.2 = p := by
  unfold planAmong at h
  obtain ⟨q, hq, e⟩ := Option.map_eq_some_iff.mp h
  exact ⟨q, List.mem_of_find?_eq_some hq, e⟩

section
variable {P : Program} {w : World} {K : PySem.W.Frag} {mg : Str → Option Value} {base : Heap} {C : Addr}
/-! ### plan -/
theorem scPlan2 : FnScope ["self", "ways", "way"] ["self"] (defScope (mS 7)) := ⟨rfl, rfl, rfl, by decide +kernel, rfl, by decide +kernel, by decide +kernel⟩
theorem ok_plan2 {f : Addr} {fd : FuncData} (F : Fun K "plan" "Tubes.plan" (mS 7) f fd) (T : TxtC K mg C) (GW : Has P w K mg base 4 "ways_to_each" ["rack", "holds"] (spWays P w)) (GP : Has P w K mg base 3 "plan_among" ["ways"] (spPlan P w)) (GO : Has P w K mg base 1 "pourings_of" ["way"] spOf) :
    FnOk P w K mg base CX0 5 f fd ["self"] (spL C (mkNone .plan)) := by
  refine F.ok scPlan2 (fun vs H Q E h => ?_) (fun cdv A outer s H vs Q E hr h => ?_)
  · obtain ⟨a, s, args, x, rfl, ⟨rfl, _⟩, _⟩ := h
    rfl
  · obtain ⟨t9, m9⟩ := T.m9
    obtain ⟨t6, m6⟩ := T.m6
    refine ⟨_, pss_cons (ps_set (i := 1) scPlan2.nd rfl (Or.inl rfl) (pe_has GW (hr.mono (by decide)) (by rfl) (pa_cons (pe_fld (pv 0) rfl) (pa_cons (pe_fld (pv 0) rfl) pa_nil))))
      (pss_cons (ps_if (pt_cmp (pc_isN (pv 1))) (pss_one (ps_ret (pe_tup (pa_cons (pe_glob (v := .int (-9)) (by rfl) m9 ⟨_, rfl⟩) (pa_cons (pe_tup pa_nil) pa_nil))))) pss_nil)
      (pss_cons (ps_set (i := 2) scPlan2.nd rfl (Or.inl rfl) (pe_has GP (hr.mono (by decide)) (by rfl) (pa_cons (pv 1) pa_nil)))
      (pss_cons (ps_if (pt_cmp (pc_isN (pv 2))) (pss_one (ps_ret (pe_tup (pa_cons (pe_glob (v := .int (-6)) (by rfl) m6 ⟨_, rfl⟩) (pa_cons (pe_tup pa_nil) pa_nil))))) pss_nil)
      (pss_one (ps_ret (pe_tup (pa_cons (pe_has GO (hr.mono (by decide)) (by rfl) (pa_cons (pv 2) pa_nil)) (pa_cons (pe_tup (pa_cons (pv 2) pa_nil)) pa_nil)))))))), ?_⟩
    obtain ⟨a, st, args, x, rfl, ⟨rfl, rfl⟩, ht, so, kk⟩ := h
    obtain ⟨dx, p, ha, hR⟩ := id ht
    unfold Sy71.step at kk
    refine ⟨_, rfl, a, C, dx, _, _, rfl, ha, T.cl, T.nR, jF_rack _ _ _, _, rfl, a, C, dx, _, _, rfl, ha, T.cl, T.nH, jF_holds _ _ _, p, st.rack, st.holds, rfl, hR, so.rk, fun hn H1 s1 => ?_, fun W hW H1 d s1 hd => ?_⟩
    · refine ⟨_, rfl, _, rfl, ?_⟩
      refine iteT (ret_none fun H2 q2 s2 h2 => ?_)
      have c := (ways_none_iff st).mp hn
      simp only [c, if_true] at kk
      exact kk H2 q2 (ht.same (s1.trans s2)) (Rest.of (s1.trans s2)) h2
    · refine ⟨_, rfl, _, rfl, ?_⟩
      refine iteF ?_
      obtain ⟨nd, rk, lW, lp⟩ := waysat_facts so.rk hW
      have c : Sy71.tooMany st = false := by
        cases z : Sy71.tooMany st with
        | false => rfl
        | true => rw [(ways_none_iff st).mpr z] at hW; cases hW
      simp only [c, Bool.false_eq_true, if_false] at kk
      refine ⟨_, rfl, d, W, st.holds, rfl, hd, nd, rk, fun hn H2 s2 => ?_, fun pp hp H2 b s2 hb => ?_⟩
      · refine ⟨_, rfl, _, rfl, ?_⟩
        refine iteT (ret_none fun H3 q3 s3 h3 => ?_)
        have e := plan_none c hW hn
        simp only [e] at kk
        have sm := s1.trans (s2.trans s3)
        exact kk H3 q3 (ht.same sm) (Rest.of sm) h3
      · refine ⟨_, rfl, _, rfl, ?_⟩
        refine iteF ?_
        obtain ⟨e1, e2⟩ := plan_is c hW hp
        simp only [e1, e2] at kk
        obtain ⟨pq, hpq, epq⟩ := planAmong_mem hp
        have lpp := lp pq hpq
        rw [epq] at lpp
        refine ⟨_, rfl, b, pp, rfl, hb, by omega, fun H3 s3 => ?_⟩
        obtain ⟨r1, r2⟩ := ret_one (H := H3) (Q := Q) (v := (pp.length : Nat)) (p := b) (row := Sy71.ints (pp.flatMap fun (x : Nat × Nat) => [x.1, x.2])) (.inl (by rw [← wayV_ints]; exact s3 _ _ hb)) fun H4 q4 s4 h4 => by
          have sm := s1.trans (s2.trans (s3.trans s4))
          exact kk H4 q4 (ht.same sm) (Rest.of sm) h4
        refine ⟨_, rfl, r1, fun q1 h1 => ?_⟩
        obtain ⟨H5, e5, r3, r4⟩ := r2 q1 h1
        rw [e5] at r4
        exact ⟨r3, r4⟩

/-! ### fewest -/
theorem scFew : FnScope ["self"] ["self"] (defScope (mS 6)) := ⟨rfl, rfl, rfl, by decide +kernel, rfl, by decide +kernel, by decide +kernel⟩
theorem ok_few {f : Addr} {fd : FuncData} (F : Fun K "fewest" "Tubes.fewest" (mS 6) f fd) (T : TxtC K mg C) (GM : HasM P w K mg base C 5 "plan" ["self"] (spL C (mkNone .plan))) : FnOk P w K mg base CX0 6 f fd ["self"] (spM C (mkNone .fewest)) := by
  refine F.ok scFew (fun vs H Q E h => ?_) (fun cdv A outer s H vs Q E hr h => ?_)
  · obtain ⟨a, s, args, x, rfl, ⟨rfl, _⟩, _⟩ := h
    rfl
  · refine ⟨_, pss_one (ps_ret (pe_ix ix_tup (pe_hasM0 GM (hr.mono (by decide)) T.cl (pv 0)) pe_int (fun _ _ => rfl))), ?_⟩
    obtain ⟨a, st, args, x, rfl, ⟨rfl, rfl⟩, ht, so, kk⟩ := h
    obtain ⟨dx, p, ha, hR⟩ := id ht
    refine ⟨_, rfl, a, dx, _, rfl, ha, jF_none (by decide +kernel) (by decide +kernel) (by decide +kernel) _ _ _, a, st, [], .plan, rfl, ⟨rfl, rfl⟩, ht, so, fun H1 q h1 rs ⟨ls, rss, hq, _⟩ => ?_⟩
    refine ⟨q, _, 0, _, rfl, rfl, SqT.of hq, atI_nat (j := 0) rfl, ?_⟩
    have e : (Sy71.step st .fewest).2.v = (Sy71.step st .plan).2.v := by
      unfold Sy71.step
      cases Sy71.tooMany st with
      | true => rfl
      | false =>
        simp only [Bool.false_eq_true, if_false]
        cases Sy71.distance (Sy71.ends st) st.rack <;> rfl
    have := kk H1 h1 rs
    rw [e] at this
    exact this

/-! ### reach -/
abbrev nmReach : List Str := ["self", "ways", "in_order", "rack"]
theorem scReach : FnScope nmReach ["self"] (defScope (mS 8)) := ⟨rfl, rfl, rfl, by decide +kernel, rfl, by decide +kernel, by decide +kernel⟩
theorem ok_reach {f : Addr} {fd : FuncData} (F : Fun K "reach" "Tubes.reach" (mS 8) f fd) (TT : Txt mg) (T : TxtC K mg C) (GW : Has P w K mg base 4 "ways_to_each" ["rack", "holds"] (spWays P w)) (GS : Has P w K mg base 2 "is_sorted" ["rack"] spSorted) (GL : Has P w K mg base 5 "how_many_lead_on" ["racks", "holds"] (spLead P w)) :
    FnOk P w K mg base CX0 6 f fd ["self"] (spL C (mkNone .reach)) := by
  refine F.ok scReach (fun vs H Q E h => ?_) (fun cdv A outer s H vs Q E hr h => ?_)
  · obtain ⟨a, s, args, x, rfl, ⟨rfl, _⟩, _⟩ := h
    rfl
  · obtain ⟨t9, m9⟩ := T.m9
    refine ⟨_, pss_cons (ps_set (i := 1) scReach.nd rfl (Or.inl rfl) (pe_has GW (hr.mono (by decide)) (by rfl) (pa_cons (pe_fld (pv 0) rfl) (pa_cons (pe_fld (pv 0) rfl) pa_nil))))
      (pss_cons (ps_if (pt_cmp (pc_isN (pv 1))) (pss_one (ps_ret (pe_tup (pa_cons (pe_glob (v := .int (-9)) (by rfl) m9 ⟨_, rfl⟩) (pa_cons (pe_tup pa_nil) pa_nil))))) pss_nil)
      (pss_cons (ps_lock (ps_set (i := 2) scReach.nd rfl (Or.inl rfl) (pe_callB call_len_seq (by rfl) TT.len (by decide +kernel) (pa_cons (pe_lc (own := [("rack", 3)]) (g := gName 3) rfl scReach.nd (qi_keysN P w rfl rfl (pv 1)) (blkOk_by (own := [("rack", 3)]) (N := nmReach) (sc := defScope (mS 8)) (by decide +kernel))
          (fun _ _ _ _ _ => pg_name (i := 3) scReach.nd rfl (Or.inl rfl)) (fun _ _ _ _ _ => pts_one (pt_val (pe_has GS (hr.mono (by decide)) (by rfl) (pa_cons (pv 3) pa_nil)) (by intro _; rfl))) (fun _ _ _ _ _ => pv 3)) pa_nil))))
      (pss_one (ps_ret (pe_tup (pa_cons (pe_callB (id := "len") (q_len_dx P w rfl rfl) (by rfl) TT.len (by decide +kernel) (pa_cons (pv 1) pa_nil)) (pa_cons (pe_tup (pa_cons (pe_tup (pa_cons (pv 2)
        (pa_cons (pe_op op_sub (pe_callB (id := "len") (q_len_dx P w rfl rfl) (by rfl) TT.len (by decide +kernel) (pa_cons (pv 1) pa_nil)) (pe_has GL (hr.mono (by decide)) (by rfl) (pa_cons (pv 1) (pa_cons (pe_fld (pv 0) rfl) pa_nil)))) pa_nil))) pa_nil)) pa_nil))))))), ?_⟩
    obtain ⟨a, st, args, x, rfl, ⟨rfl, rfl⟩, ht, so, kk⟩ := h
    obtain ⟨dx, p, ha, hR⟩ := id ht
    unfold Sy71.step at kk
    refine ⟨_, rfl, a, C, dx, _, _, rfl, ha, T.cl, T.nR, jF_rack _ _ _, _, rfl, a, C, dx, _, _, rfl, ha, T.cl, T.nH, jF_holds _ _ _, p, st.rack, st.holds, rfl, hR, so.rk, fun hn H1 s1 => ?_, fun W hW H1 d s1 hd => ?_⟩
    · refine ⟨_, rfl, _, rfl, ?_⟩
      refine iteT (ret_none fun H2 q2 s2 h2 => ?_)
      have c := (ways_none_iff st).mp hn
      simp only [c, if_true] at kk
      exact kk H2 q2 (ht.same (s1.trans s2)) (Rest.of (s1.trans s2)) h2
    · refine ⟨_, rfl, _, rfl, ?_⟩
      refine iteF ?_
      obtain ⟨nd, rk, lW, lp⟩ := waysat_facts so.rk hW
      have c : Sy71.tooMany st = false := by
        cases z : Sy71.tooMany st with
        | false => rfl
        | true => rw [(ways_none_iff st).mpr z] at hW; cases hW
      simp only [c, Bool.false_eq_true, if_false] at kk
      obtain ⟨es, hde, ew⟩ := hd
      have ek := ew.fst
      have le : es.length = W.length := Paired.length ew
      have roK : ∀ r ∈ es.map (·.1), ROk st.holds r := fun r hr => by
        rw [ek] at hr
        obtain ⟨q, hq, rfl⟩ := List.mem_map.mp hr
        exact rk q hq
      have clo : Closed st.holds (es.map (·.1)) := by rw [ek]; exact (ways_some hW).1.closed
      have ndE : (es.map (·.1)).Nodup := by rw [ek]; exact nd
      -- in_order
      refine ⟨d, DX P w d es, hde, True.intro, fun od => ?_⟩
      have hL : upd H1 d (.frz od (DX P w d es)) d = some (.frz od (DX P w d es)) := upd_same
      refine ⟨_, rfl, d, od, es, rfl, hL, fun D hD => ?_⟩
      have nDd : D ≠ d := fun e => by rw [e, hL] at hD; cases hD
      have hD1 : H1 D = none := by rw [upd_ne nDd] at hD; exact hD
      refine lc_it walk_keysN (fun i H' => Same (upd H1 d (.frz od (DX P w d es))) H' ∧ ∃ acc : List V, H' D = some (.lst acc) ∧ acc.length = (((es.map (·.1)).take i).filter Sy71.sorted).length ∧ acc.length ≤ i)
        ⟨same_new hD, [], upd_same, rfl, Nat.le_refl _⟩ (fun i H' _ ⟨q, _⟩ => q _ _ hL) (fun i x H2 H3 hi ⟨s2, acc, hq, la, lq⟩ ⟨e2, en, hen, ex⟩ => ?_) (fun H2 ⟨s2, acc, hq, la, lq⟩ => ?_)
      · subst e2 ex
        have hm : en ∈ es := List.mem_of_getElem? hen
        have tk := tup_lock hde s2
        have rkk := (ew.keys en hm).keep tk
        have keyi : (es.map (·.1))[i]? = some en.1 := by rw [List.getElem?_map, hen]; rfl
        have tw : ((es.map (·.1)).take (i + 1)).filter Sy71.sorted = ((es.map (·.1)).take i).filter Sy71.sorted ++ (if Sy71.sorted en.1 = true then [en.1] else []) := by
          rw [List.take_add_one, keyi, List.filter_append]
          congr 1
          show List.filter Sy71.sorted [en.1] = _
          rw [List.filter_cons]
          split <;> rfl
        refine ⟨rfl, _, rfl, en.2.1, en.1, st.holds, rfl, rkk, roK _ (List.mem_map_of_mem hm), fun H4 s4 => ?_⟩
        refine ⟨_, rfl, ?_⟩
        cases hs : Sy71.sorted en.1 with
        | true =>
          rw [hs, if_pos rfl] at tw
          refine iteT ?_
          have hq4 := s4 _ _ hq
          refine ⟨_, rfl, _, hq4, ?_, same_lock_upd (s2.trans s4) hD1 nDd, acc ++ [.ref en.2.1], upd_same, ?_, by rw [List.length_append, List.length_singleton]; omega⟩
          · exact Nat.lt_of_le_of_lt (show acc.length ≤ 300 by omega) (by decide)
          · rw [tw, List.length_append, List.length_append, la]
            rfl
        | false =>
          rw [hs, if_neg Bool.false_ne_true, List.append_nil] at tw
          refine iteF ?_
          refine ⟨s2.trans s4, acc, s4 _ _ hq, ?_, by omega⟩
          rw [tw, la]
      · have lk : es.length = (es.map (·.1)).length := by rw [List.length_map]
        rw [lk, List.take_length] at la
        refine ⟨D, acc, rfl, .inl (SqL.of hq), ?_⟩
        have hfr := s2 _ _ hL
        refine ⟨hfr, ?_⟩
        have sU := same_unlock hde s2
        have hdU : upd H2 d (DX P w d es) d = some (DX P w d es) := upd_same
        generalize upd H2 d (DX P w d es) = H3 at *
        have s03 := s1.trans sU
        have kU := ew.keys.keep (TupSame.of sU)
        obtain ⟨r1, r2, r3⟩ := reach_is c hW
        rw [r1, r2, r3, ← ek, ← le] at kk
        refine ⟨_, rfl, d, es, rfl, .inl hdU, kU, _, rfl, _, rfl, d, es, rfl, .inl hdU, kU, _, rfl, _, rfl, a, C, dx, _, _, rfl, s03 _ _ ha, T.cl, T.nH, jF_holds _ _ _, d, st.holds, es, rfl, hdU, kU, ndE, roK, clo, by omega, fun H4 s4 => ?_⟩
        refine ⟨_, _, rfl, rfl, ?_⟩
        have lead : (leadOn st.holds (es.map (·.1))).length ≤ es.length := by
          have := List.Nodup.length_le_of_subset (leadOn_mem ndE clo).1 fun r hr => (((leadOn_mem ndE clo).2 r).mp hr).1
          rw [List.length_map] at this
          exact this
        refine ⟨(by show 2 ≤ sizeLine; decide), fun q0 h0 => ?_⟩
        have s5 := same_new (o := .tup [.int (acc.length : Nat), .int ((es.length : Nat) - ((leadOn st.holds (es.map (·.1))).length : Nat) : Int)]) h0
        have e1 : ((es.length : Nat) : Int) - ((leadOn st.holds (es.map (·.1))).length : Nat) = ((es.length - (leadOn st.holds (es.map (·.1))).length : Nat) : Int) := by omega
        obtain ⟨g1, g2⟩ := ret_one (H := upd H4 q0 (.tup [.int (acc.length : Nat), .int ((es.length : Nat) - ((leadOn st.holds (es.map (·.1))).length : Nat) : Int)])) (Q := Q) (v := (es.length : Nat)) (p := q0) (row := Sy71.ints [((es.map (·.1)).filter Sy71.sorted).length, es.length - (leadOn st.holds (es.map (·.1))).length])
          (.inl (by rw [upd_same, e1, la]; rfl)) fun H6 q6 s6 h6 => by
            have sm := s03.trans (s4.trans (s5.trans s6))
            exact kk H6 q6 (ht.same sm) (Rest.of sm) h6
        refine ⟨g1, fun q1 h1 => ?_⟩
        obtain ⟨H5, e5, g3, g4⟩ := g2 q1 h1
        rw [e5] at g4
        exact ⟨g3, g4⟩

/-! ### lost -/
theorem scLost : FnScope ["self", "tube", "other", "ways", "going", "way"] ["self", "tube", "other"] (defScope (mS 9)) := ⟨rfl, rfl, rfl, by decide +kernel, rfl, by decide +kernel, by decide +kernel⟩
theorem ok_lost {f : Addr} {fd : FuncData} (F : Fun K "lost" "Tubes.lost" (mS 9) f fd) (TT : Txt mg) (T : TxtC K mg C) (GW : Has P w K mg base 4 "ways_to_each" ["rack", "holds"] (spWays P w)) (GG : Has P w K mg base 2 "drops_going" ["rack", "holds", "tube", "other"] spGoing)
    (GP : Has P w K mg base 3 "plan_among" ["ways"] (spPlan P w)) (GR : Has P w K mg base 2 "poured" ["rack", "tube", "other", "going"] spPoured) (GO : Has P w K mg base 1 "pourings_of" ["way"] spOf) : FnOk P w K mg base CX0 5 f fd ["self", "tube", "other"] (spL C mkLost) := by
  refine F.ok scLost (fun vs H Q E h => ?_) (fun cdv A outer s H vs Q E hr h => ?_)
  · obtain ⟨a, s, args, x, rfl, ⟨i, j, rfl, _⟩, _⟩ := h
    rfl
  · obtain ⟨t2, m2⟩ := T.m2
    obtain ⟨t9, m9⟩ := T.m9
    obtain ⟨t6, m6⟩ := T.m6
    obtain ⟨t4, m4⟩ := T.m4
    refine ⟨_, pss_cons (ps_if (pt_cmpR op_ge (pe_callB (call_max2 rfl) (by rfl) TT.max (by decide +kernel) (pa_cons (pv 1) (pa_cons (pv 2) pa_nil))) (pe_callB call_len_seq (by rfl) TT.len (by decide +kernel) (pa_cons (pe_fld (pv 0) rfl) pa_nil)) (nomark _)) (pss_one (ps_ret (pe_tup (pa_cons (pe_glob (v := .int (-2)) (by rfl) m2 ⟨_, rfl⟩) (pa_cons (pe_tup pa_nil) pa_nil))))) pss_nil)
      (pss_cons (ps_set (i := 3) scLost.nd rfl (Or.inl rfl) (pe_has GW (hr.mono (by decide)) (by rfl) (pa_cons (pe_fld (pv 0) rfl) (pa_cons (pe_fld (pv 0) rfl) pa_nil))))
      (pss_cons (ps_if (pt_cmp (pc_isN (pv 3))) (pss_one (ps_ret (pe_tup (pa_cons (pe_glob (v := .int (-9)) (by rfl) m9 ⟨_, rfl⟩) (pa_cons (pe_tup pa_nil) pa_nil))))) pss_nil)
      (pss_cons (ps_set (i := 4) scLost.nd rfl (Or.inl rfl) (pe_has GG (hr.mono (by decide)) (by rfl) (pa_cons (pe_fld (pv 0) rfl) (pa_cons (pe_fld (pv 0) rfl) (pa_cons (pv 1) (pa_cons (pv 2) pa_nil))))))
      (pss_cons (ps_if (pt_cmpR op_eq (pv 4) pe_int (nomark _)) (pss_one (ps_ret (pe_tup (pa_cons (pe_glob (v := .int (-6)) (by rfl) m6 ⟨_, rfl⟩) (pa_cons (pe_tup pa_nil) pa_nil))))) pss_nil)
      (pss_cons (ps_if (pt_cmp (pc_isN (pe_has GP (hr.mono (by decide)) (by rfl) (pa_cons (pv 3) pa_nil)))) (pss_one (ps_ret (pe_tup (pa_cons (pe_glob (v := .int (-4)) (by rfl) m4 ⟨_, rfl⟩) (pa_cons (pe_tup pa_nil) pa_nil))))) pss_nil)
      (pss_cons (ps_set (i := 5) scLost.nd rfl (Or.inl rfl) (pe_has GP (hr.mono (by decide)) (by rfl) (pa_cons (pe_has GW (hr.mono (by decide)) (by rfl) (pa_cons (pe_has GR (hr.mono (by decide)) (by rfl) (pa_cons (pe_fld (pv 0) rfl) (pa_cons (pv 1) (pa_cons (pv 2) (pa_cons (pv 4) pa_nil))))) (pa_cons (pe_fld (pv 0) rfl) pa_nil))) pa_nil)))
      (pss_cons (ps_if (pt_cmp (pc_isN (pv 5))) (pss_one (ps_ret (pe_tup (pa_cons pe_int (pa_cons (pe_tup pa_nil) pa_nil))))) pss_nil)
      (pss_one (ps_ret (pe_tup (pa_cons pe_int (pa_cons (pe_tup (pa_cons (pe_tup (pa_cons (pe_has GO (hr.mono (by decide)) (by rfl) (pa_cons (pv 5) pa_nil)) pa_nil)) pa_nil)) pa_nil)))))))))))), ?_⟩
    obtain ⟨a, st, args, x, rfl, ⟨i, j, rfl, rfl⟩, ht, so, kk⟩ := h
    obtain ⟨dx, p, ha, hR⟩ := id ht
    obtain ⟨qs, hp, pr⟩ := id hR
    have lq : qs.length = st.rack.length := Paired.length pr
    refine ⟨_, rfl, _, rfl, _, _, rfl, _, rfl, a, C, dx, _, _, rfl, ha, T.cl, T.nR, jF_rack _ _ _, p, _, rfl, .inr (SqT.of hp), _, _, rfl, rfl, _, rfl, ?_⟩
    rw [List.length_map, lq]
    unfold Sy71.step at kk
    refine ite2 (fun hc => ?_) (fun hc => ?_)
    · have c : st.rack.length ≤ i ∨ st.rack.length ≤ j := by
        have := of_decide_eq_true hc
        split at this <;> omega
      simp only [c, if_true] at kk
      exact ret_none fun H2 q2 s2 h2 => kk H2 q2 (ht.same s2) (Rest.of s2) h2
    · have c : ¬ (st.rack.length ≤ i ∨ st.rack.length ≤ j) := fun z => hc (decide_eq_true (by split <;> omega))
      have hi : i < st.rack.length := by omega
      have hj : j < st.rack.length := by omega
      simp only [c, if_false] at kk
      refine ⟨_, rfl, a, C, dx, _, _, rfl, ha, T.cl, T.nR, jF_rack _ _ _, _, rfl, a, C, dx, _, _, rfl, ha, T.cl, T.nH, jF_holds _ _ _, p, st.rack, st.holds, rfl, hR, so.rk, fun hn H1 s1 => ?_, fun W hW H1 d s1 hd => ?_⟩
      · refine ⟨_, rfl, _, rfl, ?_⟩
        refine iteT (ret_none fun H2 q2 s2 h2 => ?_)
        have c9 := (ways_none_iff st).mp hn
        simp only [c9, if_true] at kk
        exact kk H2 q2 (ht.same (s1.trans s2)) (Rest.of (s1.trans s2)) h2
      · refine ⟨_, rfl, _, rfl, ?_⟩
        refine iteF ?_
        obtain ⟨nd, rk, lW, lp⟩ := waysat_facts so.rk hW
        have c9 : Sy71.tooMany st = false := by
          cases z : Sy71.tooMany st with
          | false => rfl
          | true => rw [(ways_none_iff st).mpr z] at hW; cases hW
        simp only [c9, Bool.false_eq_true, if_false] at kk
        rw [poured_gng hi hj] at kk
        have ha1 := s1 _ _ ha
        refine ⟨_, rfl, a, C, dx, _, _, rfl, ha1, T.cl, T.nR, jF_rack _ _ _, _, rfl, a, C, dx, _, _, rfl, ha1, T.cl, T.nH, jF_holds _ _ _, _, rfl, _, rfl, p, st.rack, st.holds, i, j, rfl, hR.keep (TupSame.of s1), so.rk, hi, hj, fun H2 s2 => ?_⟩
        have s02 := s1.trans s2
        refine ⟨_, rfl, rfl, _, rfl, ?_⟩
        refine ite2 (fun hc2 => ?_) (fun hc2 => ?_)
        · have g0 : gng st.holds st.rack i j = 0 := by
            have := of_decide_eq_true hc2
            injection this with this
            omega
          simp only [g0, if_true] at kk
          exact ret_none fun H3 q3 s3 h3 => kk H3 q3 (ht.same (s02.trans s3)) (Rest.of (s02.trans s3)) h3
        · have g0 : ¬ gng st.holds st.rack i j = 0 := fun z => hc2 (by rw [z]; simp)
          have ne : i ≠ j := fun z => g0 (if_pos z)
          simp only [g0, if_false] at kk
          have hpo : Sy71.poured st.holds st.rack i j = some (pset st.rack i j (gng st.holds st.rack i j)) := by rw [poured_gng hi hj, if_neg g0]
          have hmem := poured_mem c9 hpo
          have roU := so.rk.poured hpo
          obtain ⟨W2, hW2⟩ := ways_isSome c9 hmem
          obtain ⟨es, hde, ew⟩ := hd
          refine ⟨_, rfl, d, W, st.holds, rfl, ⟨es, s2 _ _ hde, ew.keep (TupSame.of s2)⟩, nd, rk, fun hn H3 s3 => ?_, fun pp hpp H3 b s3 hb => ?_⟩
          · refine ⟨_, rfl, ?_⟩
            have e := plan_none c9 hW hn
            simp only [e] at kk
            have s03 := s02.trans s3
            exact iteT (ret_none fun H4 q4 s4 h4 => kk H4 q4 (ht.same (s03.trans s4)) (Rest.of (s03.trans s4)) h4)
          · refine ⟨_, rfl, ?_⟩
            refine iteF ?_
            obtain ⟨e1, _⟩ := plan_is c9 hW hpp
            simp only [e1] at kk
            have s03 := s02.trans s3
            have ha3 := s03 _ _ ha
            refine ⟨_, rfl, a, C, dx, _, _, rfl, ha3, T.cl, T.nR, jF_rack _ _ _, _, rfl, _, rfl, _, rfl, p, st.rack, st.holds, i, j, _, rfl, hR.keep (TupSame.of s03), so.rk, hi, hj, by omega, gng_le, ne, fun H4 q4 s4 r4 => ?_⟩
            have s04 := s03.trans s4
            refine ⟨_, rfl, a, C, dx, _, _, rfl, s4 _ _ ha3, T.cl, T.nH, jF_holds _ _ _, q4, _, st.holds, rfl, r4, roU, fun hn5 => (by rw [hW2] at hn5; cases hn5), fun W' hW' H5 d5 s5 hd5 => ?_⟩
            rw [hW2] at hW'
            cases hW'
            obtain ⟨nd2, rk2, lW2, lp2⟩ := waysat_facts roU hW2
            have s05 := s04.trans s5
            refine ⟨d5, W2, st.holds, rfl, hd5, nd2, rk2, fun hn6 H6 s6 => ?_, fun p6 hp6 H6 b6 s6 hb6 => ?_⟩
            · refine ⟨_, rfl, _, rfl, ?_⟩
              have e := lost_none c9 hmem hW2 hn6
              simp only [e] at kk
              have s06 := s05.trans s6
              exact iteT (ret_none fun H7 q7 s7 h7 => kk H7 q7 (ht.same (s06.trans s7)) (Rest.of (s06.trans s7)) h7)
            · refine ⟨_, rfl, _, rfl, ?_⟩
              have e := lost_some c9 hmem hW2 hp6
              simp only [e] at kk
              have s06 := s05.trans s6
              obtain ⟨pq, hpq, epq⟩ := planAmong_mem hp6
              have lpp := lp2 pq hpq
              rw [epq] at lpp
              refine iteF ?_
              refine ⟨_, rfl, b6, p6, rfl, hb6, by omega, fun H7 s7 => ?_⟩
              refine ⟨(by show 1 ≤ sizeLine; decide), fun q0 h0 => ?_⟩
              have s8 := same_new (o := .tup [.int (p6.length : Nat)]) h0
              obtain ⟨g1, g2⟩ := ret_one (H := upd H7 q0 (.tup [.int (p6.length : Nat)])) (Q := Q) (v := 0) (p := q0) (row := [(p6.length : Int)]) (.inl upd_same) fun H9 q9 s9 h9 => by
                have sm := s06.trans (s7.trans (s8.trans s9))
                exact kk H9 q9 (ht.same sm) (Rest.of sm) h9
              refine ⟨g1, fun q1 h1 => ?_⟩
              obtain ⟨H5', e5, g3, g4⟩ := g2 q1 h1
              rw [e5] at g4
              exact ⟨g3, g4⟩

/-! ### drops_in -/
theorem scIn : FnScope ["self", "tube"] ["self", "tube"] (defScope (mS 10)) := ⟨rfl, rfl, rfl, by decide +kernel, rfl, by decide +kernel, by decide +kernel⟩
theorem ok_in {f : Addr} {fd : FuncData} (F : Fun K "drops_in" "Tubes.drops_in" (mS 10) f fd) (TT : Txt mg) (T : TxtC K mg C) : FnOk P w K mg base CX0 1 f fd ["self", "tube"] (spL C mkTube) := by
  refine F.ok scIn (fun vs H Q E h => ?_) (fun cdv A outer s H vs Q E hr h => ?_)
  · obtain ⟨a, s, args, x, rfl, ⟨i, rfl, _⟩, _⟩ := h
    rfl
  · obtain ⟨t2, m2⟩ := T.m2
    refine ⟨_, pss_cons (ps_if (pt_cmpR op_ge (pv 1) (pe_callB call_len_seq (by rfl) TT.len (by decide +kernel) (pa_cons (pe_fld (pv 0) rfl) pa_nil)) (nomark _)) (pss_one (ps_ret (pe_tup (pa_cons (pe_glob (v := .int (-2)) (by rfl) m2 ⟨_, rfl⟩) (pa_cons (pe_tup pa_nil) pa_nil))))) pss_nil)
      (pss_one (ps_ret (pe_tup (pa_cons (pe_callB call_len_seq (by rfl) TT.len (by decide +kernel) (pa_cons (pe_ix ix_tup (pe_fld (pv 0) rfl) (pv 1) (fun _ _ => rfl)) pa_nil)) (pa_cons (pe_tup (pa_cons (pe_ix ix_tup (pe_fld (pv 0) rfl) (pv 1) (fun _ _ => rfl)) pa_nil)) pa_nil))))), ?_⟩
    obtain ⟨a, st, args, x, rfl, ⟨i, rfl, rfl⟩, ht, so, kk⟩ := h
    obtain ⟨dx, p, ha, hR⟩ := id ht
    obtain ⟨qs, hp, pr⟩ := id hR
    have lq : qs.length = st.rack.length := Paired.length pr
    refine ⟨_, rfl, _, rfl, a, C, dx, _, _, rfl, ha, T.cl, T.nR, jF_rack _ _ _, p, _, rfl, .inr (SqT.of hp), _, _, rfl, rfl, _, rfl, ?_⟩
    rw [List.length_map, lq]
    unfold Sy71.step at kk
    refine ite2 (fun hc => ?_) (fun hc => ?_)
    · have c : st.rack.length ≤ i := by
        have := of_decide_eq_true hc
        omega
      have e : st.rack[i]? = none := List.getElem?_eq_none c
      simp only [e] at kk
      exact ret_none fun H2 q2 s2 h2 => kk H2 q2 (ht.same s2) (Rest.of s2) h2
    · have c : i < st.rack.length := by
        refine Decidable.byContradiction fun z => hc (decide_eq_true (by omega))
      have e : st.rack[i]? = some st.rack[i] := List.getElem?_eq_getElem c
      simp only [e] at kk
      obtain ⟨q, eq, hq⟩ := paired_ix pr c
      have at' : atI (qs.map V.ref) (i : Int) = some (.ref q) := atI_nat (by rw [List.getElem?_map, eq]; rfl)
      refine ⟨_, rfl, a, C, dx, _, _, rfl, ha, T.cl, T.nR, jF_rack _ _ _, _, rfl, p, _, _, _, rfl, rfl, SqT.of hp, at', q, _, rfl, .inr (SqT.of hq), _, rfl, a, C, dx, _, _, rfl, ha, T.cl, T.nR, jF_rack _ _ _, _, rfl, p, _, _, _, rfl, rfl, SqT.of hp, at', ?_⟩
      rw [colV_len]
      obtain ⟨g1, g2⟩ := ret_one (H := H) (Q := Q) (v := (st.rack[i].length : Nat)) (p := q) (row := Sy71.ints st.rack[i].reverse) (.inl (by rw [hq]; unfold colV Sy71.ints; rw [List.map_map]; rfl)) fun H4 q4 s4 h4 => kk H4 q4 (ht.same s4) (Rest.of s4) h4
      refine ⟨g1, fun q1 h1 => ?_⟩
      obtain ⟨H5, e5, g3, g4⟩ := g2 q1 h1
      rw [e5] at g4
      exact ⟨g3, g4⟩

/-! ### state -/
theorem scState : FnScope ["self", "contents", "drops"] ["self"] (defScope (mS 11)) := ⟨rfl, rfl, rfl, by decide +kernel, rfl, by decide +kernel, by decide +kernel⟩
def cont (r : Sy71.Rack) : List Nat := r.flatMap fun (l : List Nat) => l.length :: l.reverse
theorem cont_len {n : Nat} {r : Sy71.Rack} (ro : ROk n r) : (cont r).length ≤ 25 := by
  have : ∀ r : Sy71.Rack, (∀ t ∈ r, t.length ≤ 4) → (cont r).length ≤ 5 * r.length := by
    intro r
    induction r with
    | nil => intro _; exact Nat.le_refl _
    | cons t r ih =>
      intro h
      have := ih fun u hu => h u (List.mem_cons_of_mem _ hu)
      have := h t List.mem_cons_self
      unfold cont at *
      rw [List.flatMap_cons, List.length_append, List.length_cons, List.length_cons, List.length_reverse]
      omega
  have := this r fun t ht => Nat.le_trans (ro.fit t ht) ro.n4
  have := ro.l5
  omega
theorem ok_state {f : Addr} {fd : FuncData} (F : Fun K "state" "Tubes.state" (mS 11) f fd) (TT : Txt mg) (T : TxtC K mg C) : FnOk P w K mg base CX0 1 f fd ["self"] (spL C (mkNone .state)) := by
  refine F.ok scState (fun vs H Q E h => ?_) (fun cdv A outer s H vs Q E hr h => ?_)
  · obtain ⟨a, s, args, x, rfl, ⟨rfl, _⟩, _⟩ := h
    rfl
  · refine ⟨_, pss_cons (ps_set (i := 1) scState.nd rfl (Or.inl rfl) (pe_lst pa_nil))
      (pss_cons (ps_for PassesOwn.never rfl (pi_tup (pe_fld (pv 0) rfl)) (pg_name (i := 2) scState.nd rfl (Or.inl rfl))
        (pss_cons (ps_expr (pe_bm PySem.F.plainAttrs_list PySem.F.slot_list_append PySem.F.type_list_append mt_append (pv 1) (pa_cons (pe_callB call_len_seq (by rfl) TT.len (by decide +kernel) (pa_cons (pv 2) pa_nil)) pa_nil)))
        (pss_one (ps_expr (pe_bm PySem.F.plainAttrs_list PySem.F.slot_list_extend PySem.F.type_list_extend mt_extA (pv 1) (pa_cons (pv 2) pa_nil))))))
      (pss_one (ps_ret (pe_tup (pa_cons (pe_fld (pv 0) rfl) (pa_cons (pe_tup (pa_cons (pe_tup (pa_cons (pe_fld (pv 0) rfl) (pa_cons (pe_callB call_len_seq (by rfl) TT.len (by decide +kernel) (pa_cons (pe_fld (pv 0) rfl) pa_nil)) pa_nil))) (pa_cons (pv 1) pa_nil))) pa_nil)))))), ?_⟩
    obtain ⟨a, st, args, x, rfl, ⟨rfl, rfl⟩, ht, so, kk⟩ := h
    obtain ⟨dx, p, ha, hR⟩ := id ht
    obtain ⟨qs, hp, pr⟩ := id hR
    have lq : qs.length = st.rack.length := Paired.length pr
    unfold Sy71.step at kk
    refine ⟨Nat.zero_le _, fun l hl => ?_⟩
    have s1 := same_new (o := .lst []) hl
    refine ⟨_, rfl, a, C, dx, _, _, rfl, s1 _ _ ha, T.cl, T.nR, jF_rack _ _ _, p, rfl, ⟨_, SqT.of (s1 _ _ hp)⟩, ?_⟩
    refine for_tup (K := K) (a := p) (xs := qs.map V.ref) (fun i σ H' => ∃ v2 : Option V, σ = [some (.ref a), some (.ref l), v2] ∧ Same H H' ∧ H' l = some (.lst ((Sy71.ints (cont (st.rack.take i))).map V.int)))
      ⟨none, rfl, s1, upd_same⟩ (fun i σ H' _ ⟨_, _, q, _⟩ => SqT.of (q _ _ hp)) (fun i x σ H2 hx ⟨v2, e, s2, h2⟩ => ?_) (fun σ H2 ⟨v2, e, s2, h2⟩ => ?_)
    · subst e
      have hi : i < st.rack.length := by
        have := (List.getElem?_eq_some_iff.mp hx).1
        rw [List.length_map] at this
        omega
      obtain ⟨q, eq, hq⟩ := paired_ix pr hi
      rw [List.getElem?_map, eq] at hx
      have hx' := Option.some.inj hx
      subst hx'
      have hq2 := s2 _ _ hq
      have ft := Nat.le_trans (so.rk.fit _ (List.getElem_mem hi)) so.rk.n4
      have z : (cont (st.rack.take i)).length ≤ 25 := by
        have h1 := cont_len so.rk
        have h2 : cont st.rack = cont (st.rack.take i) ++ cont (st.rack.drop i) := by
          unfold cont
          rw [← List.flatMap_append, List.take_append_drop]
        rw [h2, List.length_append] at h1
        omega
      have stp : (Sy71.ints (cont (st.rack.take (i + 1)))).map V.int = (Sy71.ints (cont (st.rack.take i))).map V.int ++ [V.int (st.rack[i].length : Nat)] ++ colV st.rack[i] := by
        unfold cont Sy71.ints colV
        rw [List.take_add_one, List.getElem?_eq_getElem hi, List.flatMap_append, List.map_append, List.map_append, List.append_assoc]
        congr 1
        simp
      have lz : ((Sy71.ints (cont (st.rack.take i))).map V.int).length = (cont (st.rack.take i)).length := by
        unfold Sy71.ints
        rw [List.length_map, List.length_map]
      refine ⟨_, rfl, .inl ⟨rfl, _, SqL.of h2⟩, _, rfl, q, _, rfl, .inr (SqT.of hq2), l, _, _, rfl, rfl, h2, ?_, ?_⟩
      · rw [lz]
        exact Nat.lt_of_le_of_lt z (by decide)
      · rw [colV_len]
        have nql : q ≠ l := fun z => by rw [z, h2] at hq2; cases hq2
        refine ⟨_, rfl, .inl ⟨rfl, _, SqL.of upd_same⟩, _, rfl, .inr ⟨l, q, _, _, rfl, rfl, upd_same, SqT.of (by rw [upd_ne nql]; exact hq2), ?_, ?_⟩⟩
        · rw [List.length_append, lz, colV_len, List.length_singleton]
          exact Nat.le_trans (show _ ≤ 100 by omega) (by decide)
        · refine ⟨_, rfl, same_upd (same_upd s2 hl) hl, ?_⟩
          rw [upd_same, stp]
    · subst e
      rw [List.length_map, lq, List.take_length] at h2
      have ha2 := s2 _ _ ha
      refine ⟨_, rfl, a, C, dx, _, _, rfl, ha2, T.cl, T.nD, jF_done _ _ _, _, rfl, a, C, dx, _, _, rfl, ha2, T.cl, T.nH, jF_holds _ _ _, _, rfl, a, C, dx, _, _, rfl, ha2, T.cl, T.nR, jF_rack _ _ _, p, _, rfl, .inr (SqT.of (s2 _ _ hp)), ?_⟩
      rw [List.length_map, lq]
      refine ⟨(by show 2 ≤ sizeLine; decide), fun q0 h0 => ?_⟩
      have s3 := same_new (o := .tup [.int (st.holds : Nat), .int (st.rack.length : Nat)]) h0
      refine ⟨_, rfl, (by show 2 ≤ sizeLine; decide), fun q1 h1 => ?_⟩
      have s4 := same_new (o := .tup [.ref q0, .ref l]) h1
      refine ⟨(by show 2 ≤ sizeLine; decide), fun q2 h2' => ?_⟩
      have s5 := same_new (o := .tup [.int (st.done : Nat), .ref q1]) h2'
      have sm := s2.trans (s3.trans (s4.trans s5))
      refine kk _ q2 (ht.same sm) (Rest.of sm) ⟨q1, [q0, l], upd_same, s5 _ _ upd_same, .cons (.inl ?_) (.cons (.inr ?_) .nil)⟩
      · exact s5 _ _ (s4 _ _ upd_same)
      · exact (s3.trans (s4.trans s5)) _ _ h2
end
end Tb
/-! behind_call, number_alone, number_and_lists, laid_out -/
namespace Tb
open PySem PySem.Spec PyProof.Rows L2
theorem if_true_of {c : Bool} {A B : Prop} (hc : c = true) (h : A) : if c = true then A else B := by
  rw [if_pos hc]
  exact h
theorem if_false_of {c : Bool} {A B : Prop} (hc : c = false) (h : B) : if c = true then A else B := by
  rw [hc, if_neg Bool.false_ne_true]
  exact h
def wnV : List V := [.int 2, .int 1, .int 2, .int 2, .int 0, .int 0, .int 0, .int 0, .int 2, .int 1, .int 0]
structure TxtN (K : PySem.W.Frag) (mg : Str → Option Value) : Prop where
  n0 : ∃ t, mg "BEGINS" = some (.int 0 t)
  n1 : ∃ t, mg "FILL" = some (.int 1 t)
  n2 : ∃ t, mg "POUR" = some (.int 2 t)
  n3 : ∃ t, mg "MAY" = some (.int 3 t)
  n4 : ∃ t, mg "SORTED" = some (.int 4 t)
  n5 : ∃ t, mg "FEWEST" = some (.int 5 t)
  n6 : ∃ t, mg "PLAN" = some (.int 6 t)
  n7 : ∃ t, mg "REACH" = some (.int 7 t)
  n8 : ∃ t, mg "LOST" = some (.int 8 t)
  n9 : ∃ t, mg "TUBE" = some (.int 9 t)
  wn : ∃ a, mg "WHOLE_NUMBERS" = some (.ref a) ∧ ∀ H : Hp, SqT K H a wnV
/-! ### the place of a call -/
theorem drop_at {ns cl : List Int} {i j : Nat} (h : ns.drop i = cl ++ ns.drop (i + cl.length)) (hj : j < cl.length) : ns[i + j]? = cl[j]? := by
  have : (ns.drop i)[j]? = ns[i + j]? := by rw [List.getElem?_drop]
  rw [← this, h, List.getElem?_append_left hj]
theorem form_pos {cl : List Int} {x : Sy71.Call} (h : Form cl x) : 0 < cl.length := by cases h <;> simp
def spBehind (K : PySem.W.Frag) : Sp := fun vs H Q _ => ∃ (c : Addr) (ns : List Int) (i : Nat) (cl : List Int) (x : Sy71.Call), vs = [.ref c, .int i] ∧ SqL K H c (ns.map V.int) ∧ Form cl x ∧ ns.drop i = cl ++ ns.drop (i + cl.length) ∧
  ∀ H' : Hp, Same H H' → Q (.int (i + cl.length : Nat)) H'
def spAlone (C : Addr) : Sp := fun vs H Q _ => ∃ (a c : Addr) (s : Sy71.St) (cl : List Int) (x : Sy71.Call), vs = [.ref a, .ref c] ∧ TubesAt C H a s ∧ SOk s ∧ H c = some (.lst (cl.map V.int)) ∧ Form cl x ∧ (∃ k : Int, cl[0]? = some k ∧ k ≤ 5) ∧
  ∀ H' : Hp, TubesAt C H' a (Sy71.step s x).1 → Rest a H H' → Q (.int (Sy71.step s x).2.v) H'
def spLists (C : Addr) : Sp := fun vs H Q _ => ∃ (a c : Addr) (s : Sy71.St) (cl : List Int) (x : Sy71.Call), vs = [.ref a, .ref c] ∧ TubesAt C H a s ∧ SOk s ∧ H c = some (.lst (cl.map V.int)) ∧ Form cl x ∧
  ∀ (H' : Hp) (q : Addr), TubesAt C H' a (Sy71.step s x).1 → Rest a H H' → AnsAt H' q (Sy71.step s x).2 → Q (.ref q) H'
def spLaid : Sp := fun vs H Q _ => ∃ (A : Sy71.Ans) (ls : Addr) (rs : List Addr), vs = [.int A.v, .ref ls] ∧ H ls = some (.tup (rs.map V.ref)) ∧ Paired (RowAt H) rs A.l ∧ (Sy71Neutral.out A).length ≤ 10000000 ∧
  ∀ (H' : Hp) (l : Addr), Same H H' → H l = none → H' l = some (.lst ((((Sy71Neutral.out A).length : Int) :: Sy71Neutral.out A).map V.int)) → Q (.ref l) H'
section
variable {P : Program} {w : World} {K : PySem.W.Frag} {mg : Str → Option Value} {base : Heap} {C : Addr}
/-! ### behind_call -/
theorem scBehind : FnScope ["calls", "at", "end"] ["calls", "at"] (defScope (topS 33)) := ⟨rfl, rfl, rfl, by decide +kernel, rfl, by decide +kernel, by decide +kernel⟩
theorem ok_behind {f : Addr} {fd : FuncData} (F : Fun K "behind_call" "behind_call" (topS 33) f fd) (N : TxtN K mg) : FnOk P w K mg base CX0 1 f fd ["calls", "at"] (spBehind K) := by
  refine F.ok scBehind (fun vs H Q E h => ?_) (fun cdv A outer s H vs Q E hr h => ?_)
  · obtain ⟨c, ns, i, cl, x, rfl, _⟩ := h
    rfl
  · obtain ⟨aw, mw, hw⟩ := N.wn
    obtain ⟨t1, m1⟩ := N.n1
    refine ⟨_, pss_cons (ps_set (i := 2) scBehind.nd rfl (Or.inl rfl) (pe_op op_add (pe_op op_add (pv 1) pe_int) (pe_ix ix_tup (pe_glob (v := .ref aw) (by rfl) mw rfl) (pe_ix ix_list (pv 0) (pv 1) (fun _ _ => rfl)) (fun _ _ => rfl))))
      (pss_cons (ps_if (pt_cmpR op_eq (pe_ix ix_list (pv 0) (pv 1) (fun _ _ => rfl)) (pe_glob (v := .int 1) (by rfl) m1 ⟨_, rfl⟩) (nomark _))
        (pss_one (ps_ret (pe_op op_add (pe_op op_add (pv 2) pe_int) (pe_ix ix_list (pv 0) (pv 2) (fun _ _ => rfl))))) pss_nil)
      (pss_one (ps_ret (pv 2)))), ?_⟩
    obtain ⟨c, ns, i, cl, x, rfl, hS, fm, hd, k⟩ := h
    have at' : ∀ j v, j < cl.length → cl[j]? = some v → atI (ns.map V.int) ((i + j : Nat) : Int) = some (.int v) := fun j v hj e => atI_nat (by rw [List.getElem?_map, drop_at hd hj, e]; rfl)
    have fin := k H (Same.refl H)
    have p0 := form_pos fm
    cases fm with
    | fill j cs hj hl hc =>
      refine ⟨_, rfl, _, _, rfl, rfl, _, rfl, _, rfl, c, _, _, _, rfl, rfl, hS, at' 0 1 (by simp) rfl, aw, _, _, .int 1, rfl, rfl, hw _, atI_nat (j := 1) rfl, _, _, rfl, rfl, ?_⟩
      refine ⟨_, rfl, _, rfl, c, _, _, _, rfl, rfl, hS, at' 0 1 (by simp) rfl, rfl, _, rfl, ?_⟩
      refine if_true_of (by decide) ?_
      have e2 : ((i : Int) + 1 + 1) = ((i + 2 : Nat) : Int) := by omega
      refine ⟨_, rfl, _, _, rfl, rfl, _, rfl, _, rfl, c, _, _, _, rfl, rfl, hS, (by rw [e2]; exact at' 2 cs.length (by simp) rfl), _, _, rfl, rfl, ?_⟩
      have e3 : ((i : Int) + 1 + 1 + 1 + (cs.length : Nat)) = ((i + (1 :: (j : Int) :: (cs.length : Int) :: cs.map fun (c : Nat) => (c : Int)).length : Nat) : Int) := by
        simp only [List.length_cons, List.length_map]
        omega
      show Q (.int ((i : Int) + 1 + 1 + 1 + (cs.length : Nat))) H
      rw [e3]
      exact fin
    | begins n m hn hm =>
      refine ⟨_, rfl, _, _, rfl, rfl, _, rfl, _, rfl, c, _, _, _, rfl, rfl, hS, at' 0 0 (by simp) rfl, aw, _, _, .int 2, rfl, rfl, hw _, atI_nat (j := 0) rfl, _, _, rfl, rfl, ?_⟩
      refine ⟨_, rfl, _, rfl, c, _, _, _, rfl, rfl, hS, at' 0 0 (by simp) rfl, rfl, _, rfl, ?_⟩
      exact if_false_of (by decide) ⟨_, rfl, fin⟩
    | pour n m hn hm =>
      refine ⟨_, rfl, _, _, rfl, rfl, _, rfl, _, rfl, c, _, _, _, rfl, rfl, hS, at' 0 2 (by simp) rfl, aw, _, _, .int 2, rfl, rfl, hw _, atI_nat (j := 2) rfl, _, _, rfl, rfl, ?_⟩
      refine ⟨_, rfl, _, rfl, c, _, _, _, rfl, rfl, hS, at' 0 2 (by simp) rfl, rfl, _, rfl, ?_⟩
      exact if_false_of (by decide) ⟨_, rfl, fin⟩
    | may n m hn hm =>
      refine ⟨_, rfl, _, _, rfl, rfl, _, rfl, _, rfl, c, _, _, _, rfl, rfl, hS, at' 0 3 (by simp) rfl, aw, _, _, .int 2, rfl, rfl, hw _, atI_nat (j := 3) rfl, _, _, rfl, rfl, ?_⟩
      refine ⟨_, rfl, _, rfl, c, _, _, _, rfl, rfl, hS, at' 0 3 (by simp) rfl, rfl, _, rfl, ?_⟩
      exact if_false_of (by decide) ⟨_, rfl, fin⟩
    | sorted =>
      refine ⟨_, rfl, _, _, rfl, rfl, _, rfl, _, rfl, c, _, _, _, rfl, rfl, hS, at' 0 4 (by simp) rfl, aw, _, _, .int 0, rfl, rfl, hw _, atI_nat (j := 4) rfl, _, _, rfl, rfl, ?_⟩
      refine ⟨_, rfl, _, rfl, c, _, _, _, rfl, rfl, hS, at' 0 4 (by simp) rfl, rfl, _, rfl, ?_⟩
      exact if_false_of (by decide) ⟨_, rfl, by simpa using fin⟩
    | fewest =>
      refine ⟨_, rfl, _, _, rfl, rfl, _, rfl, _, rfl, c, _, _, _, rfl, rfl, hS, at' 0 5 (by simp) rfl, aw, _, _, .int 0, rfl, rfl, hw _, atI_nat (j := 5) rfl, _, _, rfl, rfl, ?_⟩
      refine ⟨_, rfl, _, rfl, c, _, _, _, rfl, rfl, hS, at' 0 5 (by simp) rfl, rfl, _, rfl, ?_⟩
      exact if_false_of (by decide) ⟨_, rfl, by simpa using fin⟩
    | plan =>
      refine ⟨_, rfl, _, _, rfl, rfl, _, rfl, _, rfl, c, _, _, _, rfl, rfl, hS, at' 0 6 (by simp) rfl, aw, _, _, .int 0, rfl, rfl, hw _, atI_nat (j := 6) rfl, _, _, rfl, rfl, ?_⟩
      refine ⟨_, rfl, _, rfl, c, _, _, _, rfl, rfl, hS, at' 0 6 (by simp) rfl, rfl, _, rfl, ?_⟩
      exact if_false_of (by decide) ⟨_, rfl, by simpa using fin⟩
    | reach =>
      refine ⟨_, rfl, _, _, rfl, rfl, _, rfl, _, rfl, c, _, _, _, rfl, rfl, hS, at' 0 7 (by simp) rfl, aw, _, _, .int 0, rfl, rfl, hw _, atI_nat (j := 7) rfl, _, _, rfl, rfl, ?_⟩
      refine ⟨_, rfl, _, rfl, c, _, _, _, rfl, rfl, hS, at' 0 7 (by simp) rfl, rfl, _, rfl, ?_⟩
      exact if_false_of (by decide) ⟨_, rfl, by simpa using fin⟩
    | lost n m hn hm =>
      refine ⟨_, rfl, _, _, rfl, rfl, _, rfl, _, rfl, c, _, _, _, rfl, rfl, hS, at' 0 8 (by simp) rfl, aw, _, _, .int 2, rfl, rfl, hw _, atI_nat (j := 8) rfl, _, _, rfl, rfl, ?_⟩
      refine ⟨_, rfl, _, rfl, c, _, _, _, rfl, rfl, hS, at' 0 8 (by simp) rfl, rfl, _, rfl, ?_⟩
      exact if_false_of (by decide) ⟨_, rfl, fin⟩
    | tube n hn =>
      refine ⟨_, rfl, _, _, rfl, rfl, _, rfl, _, rfl, c, _, _, _, rfl, rfl, hS, at' 0 9 (by simp) rfl, aw, _, _, .int 1, rfl, rfl, hw _, atI_nat (j := 9) rfl, _, _, rfl, rfl, ?_⟩
      refine ⟨_, rfl, _, rfl, c, _, _, _, rfl, rfl, hS, at' 0 9 (by simp) rfl, rfl, _, rfl, ?_⟩
      exact if_false_of (by decide) ⟨_, rfl, fin⟩
    | state =>
      refine ⟨_, rfl, _, _, rfl, rfl, _, rfl, _, rfl, c, _, _, _, rfl, rfl, hS, at' 0 10 (by simp) rfl, aw, _, _, .int 0, rfl, rfl, hw _, atI_nat (j := 10) rfl, _, _, rfl, rfl, ?_⟩
      refine ⟨_, rfl, _, rfl, c, _, _, _, rfl, rfl, hS, at' 0 10 (by simp) rfl, rfl, _, rfl, ?_⟩
      exact if_false_of (by decide) ⟨_, rfl, by simpa using fin⟩

/-! ### number_alone -/
theorem TubesAt.ins {C a : Addr} {H : Hp} {s : Sy71.St} (h : TubesAt C H a s) : ∃ dx fs, H a = some (.ins C dx fs) ∧ ∀ m : Str, (m == ("holds" : Str)) = false → (m == ("rack" : Str)) = false → (m == ("done" : Str)) = false → fs.lookup m = none := by
  obtain ⟨dx, p, ha, _⟩ := h
  exact ⟨dx, _, ha, fun m h1 h2 h3 => jF_none h1 h2 h3 _ _ _⟩
theorem scAlone : FnScope ["tubes", "call"] ["tubes", "call"] (defScope (topS 34)) := ⟨rfl, rfl, rfl, by decide +kernel, rfl, by decide +kernel, by decide +kernel⟩
theorem ok_alone {f : Addr} {fd : FuncData} (F : Fun K "number_alone" "number_alone" (topS 34) f fd) (T : TxtC K mg C) (N : TxtN K mg)
    (G0 : HasM P w K mg base C 1 "begins" ["self", "holds", "tubes"] (spM C mkBegins)) (G1 : HasM P w K mg base C 2 "fill" ["self", "tube", "colours"] (spM C mkFill)) (G2 : HasM P w K mg base C 3 "pour" ["self", "tube", "other"] (spM C mkPour))
    (G3 : HasM P w K mg base C 3 "may" ["self", "tube", "other"] (spM C mkMay)) (G4 : HasM P w K mg base C 3 "sortedness" ["self"] (spM C (mkNone .sorted))) (G5 : HasM P w K mg base C 6 "fewest" ["self"] (spM C (mkNone .fewest))) :
    FnOk P w K mg base CX0 7 f fd ["tubes", "call"] (spAlone C) := by
  refine F.ok scAlone (fun vs H Q E h => ?_) (fun cdv A outer s H vs Q E hr h => ?_)
  · obtain ⟨a, c, s, cl, x, rfl, _⟩ := h
    rfl
  · obtain ⟨t0, m0⟩ := N.n0
    obtain ⟨t1, m1⟩ := N.n1
    obtain ⟨t2, m2⟩ := N.n2
    obtain ⟨t3, m3⟩ := N.n3
    obtain ⟨t4, m4⟩ := N.n4
    refine ⟨_, pss_cons (ps_if (pt_cmpR op_eq (pe_ix ix_list (pv 1) pe_int (fun _ _ => rfl)) (pe_glob (v := .int 0) (by rfl) m0 ⟨_, rfl⟩) (nomark _)) (pss_one (ps_ret (pe_hasM G0 (hr.mono (by decide)) T.cl (pv 0) (pa_cons (pe_ix ix_list (pv 1) pe_int (fun _ _ => rfl)) (pa_cons (pe_ix ix_list (pv 1) pe_int (fun _ _ => rfl)) pa_nil))))) pss_nil)
      (pss_cons (ps_if (pt_cmpR op_eq (pe_ix ix_list (pv 1) pe_int (fun _ _ => rfl)) (pe_glob (v := .int 1) (by rfl) m1 ⟨_, rfl⟩) (nomark _)) (pss_one (ps_ret (pe_hasM G1 (hr.mono (by decide)) T.cl (pv 0) (pa_cons (pe_ix ix_list (pv 1) pe_int (fun _ _ => rfl)) (pa_cons (pe_slice sl_list (pv 1) (po_some pe_int) po_none) pa_nil))))) pss_nil)
      (pss_cons (ps_if (pt_cmpR op_eq (pe_ix ix_list (pv 1) pe_int (fun _ _ => rfl)) (pe_glob (v := .int 2) (by rfl) m2 ⟨_, rfl⟩) (nomark _)) (pss_one (ps_ret (pe_hasM G2 (hr.mono (by decide)) T.cl (pv 0) (pa_cons (pe_ix ix_list (pv 1) pe_int (fun _ _ => rfl)) (pa_cons (pe_ix ix_list (pv 1) pe_int (fun _ _ => rfl)) pa_nil))))) pss_nil)
      (pss_cons (ps_if (pt_cmpR op_eq (pe_ix ix_list (pv 1) pe_int (fun _ _ => rfl)) (pe_glob (v := .int 3) (by rfl) m3 ⟨_, rfl⟩) (nomark _)) (pss_one (ps_ret (pe_hasM G3 (hr.mono (by decide)) T.cl (pv 0) (pa_cons (pe_ix ix_list (pv 1) pe_int (fun _ _ => rfl)) (pa_cons (pe_ix ix_list (pv 1) pe_int (fun _ _ => rfl)) pa_nil))))) pss_nil)
      (pss_cons (ps_if (pt_cmpR op_eq (pe_ix ix_list (pv 1) pe_int (fun _ _ => rfl)) (pe_glob (v := .int 4) (by rfl) m4 ⟨_, rfl⟩) (nomark _)) (pss_one (ps_ret (pe_hasM0 G4 (hr.mono (by decide)) T.cl (pv 0)))) pss_nil)
      (pss_one (ps_ret (pe_hasM0 G5 (hr.mono (by decide)) T.cl (pv 0)))))))), ?_⟩
    obtain ⟨a, c, st, cl, x, rfl, ht, so, hc, fm, ⟨k, hk, hk5⟩, kk⟩ := h
    obtain ⟨dx, fs, ha, lk⟩ := ht.ins
    have at' : ∀ (j : Nat) v, cl[j]? = some v → atI (cl.map V.int) (j : Int) = some (.int v) := fun j v e => atI_nat (by rw [List.getElem?_map, e]; rfl)
    have hS : SqL K H c (cl.map V.int) := SqL.of hc
    cases fm with
    | begins n m hn hm =>
      refine ⟨_, rfl, c, _, _, _, rfl, rfl, hS, at' 0 0 rfl, rfl, _, rfl, ?_⟩
      refine if_true_of (by decide) ?_
      exact ⟨_, rfl, a, dx, fs, rfl, ha, lk _ (by decide +kernel) (by decide +kernel) (by decide +kernel), _, rfl, c, _, _, _, rfl, rfl, hS, at' 1 n rfl, _, rfl, c, _, _, _, rfl, rfl, hS, at' 2 m rfl,
        a, st, _, _, rfl, ⟨n, m, rfl, hn, hm, rfl⟩, ht, so, kk⟩
    | fill i cs hi hl hcs =>
      refine ⟨_, rfl, c, _, _, _, rfl, rfl, hS, at' 0 1 rfl, rfl, _, rfl, ?_⟩
      refine if_false_of (by decide) ?_
      refine ⟨_, rfl, c, _, _, _, rfl, rfl, hS, at' 0 1 rfl, rfl, _, rfl, ?_⟩
      refine if_true_of (by decide) ?_
      refine ⟨_, rfl, a, dx, fs, rfl, ha, lk _ (by decide +kernel) (by decide +kernel) (by decide +kernel), _, rfl, c, _, _, _, rfl, rfl, hS, at' 1 i rfl, _, rfl, _, rfl, ?_⟩
      refine at_none ?_
      refine ⟨c, _, rfl, hS, fun q hq => ?_⟩
      have s1 := same_new (o := .lst (cutV ((1 :: (i : Int) :: (cs.length : Int) :: cs.map fun (c : Nat) => (c : Int)).map V.int) (some 3) none)) hq
      have ec : cutV ((1 :: (i : Int) :: (cs.length : Int) :: cs.map fun (c : Nat) => (c : Int)).map V.int) (some 3) none = cs.map fun (c : Nat) => V.int (c : Int) := by
        unfold cutV
        have e3 : HT.sIx ((1 :: (i : Int) :: (cs.length : Int) :: cs.map fun (c : Nat) => (c : Int)).map V.int).length 0 (some 3) = 3 := by
          have := HT.sIx_nat ((1 :: (i : Int) :: (cs.length : Int) :: cs.map fun (c : Nat) => (c : Int)).map V.int).length 0 3
          refine Eq.trans this (Nat.min_eq_left ?_)
          simp
        rw [e3, HT.sIx_none, List.take_of_length_le]
        · show (((1 :: (i : Int) :: (cs.length : Int) :: cs.map fun (c : Nat) => (c : Int)).drop 3).map V.int) = _
          simp
        · rw [List.length_drop]
          exact Nat.le_refl _
      rw [ec] at s1 ⊢
      exact ⟨a, st, _, _, rfl, ⟨i, cs, q, rfl, upd_same, hl, rfl⟩, ht.same s1, so, fun H' h1 r1 => kk H' h1 ((Rest.of s1).trans r1)⟩
    | pour n m hn hm =>
      refine ⟨_, rfl, c, _, _, _, rfl, rfl, hS, at' 0 2 rfl, rfl, _, rfl, ?_⟩
      refine if_false_of (by decide) ?_
      refine ⟨_, rfl, c, _, _, _, rfl, rfl, hS, at' 0 2 rfl, rfl, _, rfl, ?_⟩
      refine if_false_of (by decide) ?_
      refine ⟨_, rfl, c, _, _, _, rfl, rfl, hS, at' 0 2 rfl, rfl, _, rfl, ?_⟩
      refine if_true_of (by decide) ?_
      exact ⟨_, rfl, a, dx, fs, rfl, ha, lk _ (by decide +kernel) (by decide +kernel) (by decide +kernel), _, rfl, c, _, _, _, rfl, rfl, hS, at' 1 n rfl, _, rfl, c, _, _, _, rfl, rfl, hS, at' 2 m rfl,
        a, st, _, _, rfl, ⟨n, m, rfl, rfl⟩, ht, so, kk⟩
    | may n m hn hm =>
      refine ⟨_, rfl, c, _, _, _, rfl, rfl, hS, at' 0 3 rfl, rfl, _, rfl, ?_⟩
      refine if_false_of (by decide) ?_
      refine ⟨_, rfl, c, _, _, _, rfl, rfl, hS, at' 0 3 rfl, rfl, _, rfl, ?_⟩
      refine if_false_of (by decide) ?_
      refine ⟨_, rfl, c, _, _, _, rfl, rfl, hS, at' 0 3 rfl, rfl, _, rfl, ?_⟩
      refine if_false_of (by decide) ?_
      refine ⟨_, rfl, c, _, _, _, rfl, rfl, hS, at' 0 3 rfl, rfl, _, rfl, ?_⟩
      refine if_true_of (by decide) ?_
      exact ⟨_, rfl, a, dx, fs, rfl, ha, lk _ (by decide +kernel) (by decide +kernel) (by decide +kernel), _, rfl, c, _, _, _, rfl, rfl, hS, at' 1 n rfl, _, rfl, c, _, _, _, rfl, rfl, hS, at' 2 m rfl,
        a, st, _, _, rfl, ⟨n, m, rfl, rfl⟩, ht, so, kk⟩
    | sorted =>
      refine ⟨_, rfl, c, _, _, _, rfl, rfl, hS, at' 0 4 rfl, rfl, _, rfl, ?_⟩
      refine if_false_of (by decide) ?_
      refine ⟨_, rfl, c, _, _, _, rfl, rfl, hS, at' 0 4 rfl, rfl, _, rfl, ?_⟩
      refine if_false_of (by decide) ?_
      refine ⟨_, rfl, c, _, _, _, rfl, rfl, hS, at' 0 4 rfl, rfl, _, rfl, ?_⟩
      refine if_false_of (by decide) ?_
      refine ⟨_, rfl, c, _, _, _, rfl, rfl, hS, at' 0 4 rfl, rfl, _, rfl, ?_⟩
      refine if_false_of (by decide) ?_
      refine ⟨_, rfl, c, _, _, _, rfl, rfl, hS, at' 0 4 rfl, rfl, _, rfl, ?_⟩
      refine if_true_of (by decide) ?_
      exact ⟨_, rfl, a, dx, fs, rfl, ha, lk _ (by decide +kernel) (by decide +kernel) (by decide +kernel), a, st, _, _, rfl, ⟨rfl, rfl⟩, ht, so, kk⟩
    | fewest =>
      refine ⟨_, rfl, c, _, _, _, rfl, rfl, hS, at' 0 5 rfl, rfl, _, rfl, ?_⟩
      refine if_false_of (by decide) ?_
      refine ⟨_, rfl, c, _, _, _, rfl, rfl, hS, at' 0 5 rfl, rfl, _, rfl, ?_⟩
      refine if_false_of (by decide) ?_
      refine ⟨_, rfl, c, _, _, _, rfl, rfl, hS, at' 0 5 rfl, rfl, _, rfl, ?_⟩
      refine if_false_of (by decide) ?_
      refine ⟨_, rfl, c, _, _, _, rfl, rfl, hS, at' 0 5 rfl, rfl, _, rfl, ?_⟩
      refine if_false_of (by decide) ?_
      refine ⟨_, rfl, c, _, _, _, rfl, rfl, hS, at' 0 5 rfl, rfl, _, rfl, ?_⟩
      refine if_false_of (by decide) ?_
      exact ⟨_, rfl, a, dx, fs, rfl, ha, lk _ (by decide +kernel) (by decide +kernel) (by decide +kernel), a, st, _, _, rfl, ⟨rfl, rfl⟩, ht, so, kk⟩
    | plan => exact absurd (Option.some.inj hk) (by intro e; omega)
    | reach => exact absurd (Option.some.inj hk) (by intro e; omega)
    | lost n m _ _ => exact absurd (Option.some.inj hk) (by intro e; omega)
    | tube n _ => exact absurd (Option.some.inj hk) (by intro e; omega)
    | state => exact absurd (Option.some.inj hk) (by intro e; omega)

/-! ### number_and_lists -/
theorem scLists : FnScope ["tubes", "call"] ["tubes", "call"] (defScope (topS 35)) := ⟨rfl, rfl, rfl, by decide +kernel, rfl, by decide +kernel, by decide +kernel⟩
theorem step_none {s : Sy71.St} {cl : List Int} {x : Sy71.Call} (fm : Form cl x) (h : ∃ k : Int, cl[0]? = some k ∧ k ≤ 5) : (Sy71.step s x).2 = ⟨(Sy71.step s x).2.v, []⟩ := by
  obtain ⟨k, hk, hk5⟩ := h
  cases fm with
  | begins n m _ _ => unfold Sy71.step; dsimp only; split <;> rfl
  | fill i l _ _ _ => unfold Sy71.step; dsimp only; split <;> (try split) <;> rfl
  | pour i j _ _ =>
    unfold Sy71.step
    dsimp only
    split
    · rfl
    · cases Sy71.poured s.holds s.rack i j <;> rfl
  | may i j _ _ => unfold Sy71.step; dsimp only; split <;> (try split) <;> rfl
  | sorted => rfl
  | fewest =>
    unfold Sy71.step
    dsimp only
    split
    · rfl
    · cases Sy71.distance (Sy71.ends s) s.rack <;> rfl
  | plan => exact absurd (Option.some.inj hk) (by intro e; omega)
  | reach => exact absurd (Option.some.inj hk) (by intro e; omega)
  | lost n m _ _ => exact absurd (Option.some.inj hk) (by intro e; omega)
  | tube n _ => exact absurd (Option.some.inj hk) (by intro e; omega)
  | state => exact absurd (Option.some.inj hk) (by intro e; omega)
theorem ok_lists {f : Addr} {fd : FuncData} (F : Fun K "number_and_lists" "number_and_lists" (topS 35) f fd) (T : TxtC K mg C) (N : TxtN K mg) (GA : Has P w K mg base 7 "number_alone" ["tubes", "call"] (spAlone C))
    (G6 : HasM P w K mg base C 5 "plan" ["self"] (spL C (mkNone .plan))) (G7 : HasM P w K mg base C 6 "reach" ["self"] (spL C (mkNone .reach))) (G8 : HasM P w K mg base C 5 "lost" ["self", "tube", "other"] (spL C mkLost))
    (G9 : HasM P w K mg base C 1 "drops_in" ["self", "tube"] (spL C mkTube)) (G10 : HasM P w K mg base C 1 "state" ["self"] (spL C (mkNone .state))) : FnOk P w K mg base CX0 8 f fd ["tubes", "call"] (spLists C) := by
  refine F.ok scLists (fun vs H Q E h => ?_) (fun cdv A outer s H vs Q E hr h => ?_)
  · obtain ⟨a, c, s, cl, x, rfl, _⟩ := h
    rfl
  · obtain ⟨t5, m5⟩ := N.n5
    obtain ⟨t6, m6⟩ := N.n6
    obtain ⟨t7, m7⟩ := N.n7
    obtain ⟨t8, m8⟩ := N.n8
    obtain ⟨t9, m9⟩ := N.n9
    refine ⟨_, pss_cons (ps_if (pt_cmpR op_le (pe_ix ix_list (pv 1) pe_int (fun _ _ => rfl)) (pe_glob (v := .int 5) (by rfl) m5 ⟨_, rfl⟩) (nomark _)) (pss_one (ps_ret (pe_tup (pa_cons (pe_has GA (hr.mono (by decide)) (by rfl) (pa_cons (pv 0) (pa_cons (pv 1) pa_nil))) (pa_cons (pe_tup pa_nil) pa_nil))))) pss_nil)
      (pss_cons (ps_if (pt_cmpR op_eq (pe_ix ix_list (pv 1) pe_int (fun _ _ => rfl)) (pe_glob (v := .int 6) (by rfl) m6 ⟨_, rfl⟩) (nomark _)) (pss_one (ps_ret (pe_hasM0 G6 (hr.mono (by decide)) T.cl (pv 0)))) pss_nil)
      (pss_cons (ps_if (pt_cmpR op_eq (pe_ix ix_list (pv 1) pe_int (fun _ _ => rfl)) (pe_glob (v := .int 7) (by rfl) m7 ⟨_, rfl⟩) (nomark _)) (pss_one (ps_ret (pe_hasM0 G7 (hr.mono (by decide)) T.cl (pv 0)))) pss_nil)
      (pss_cons (ps_if (pt_cmpR op_eq (pe_ix ix_list (pv 1) pe_int (fun _ _ => rfl)) (pe_glob (v := .int 8) (by rfl) m8 ⟨_, rfl⟩) (nomark _)) (pss_one (ps_ret (pe_hasM G8 (hr.mono (by decide)) T.cl (pv 0) (pa_cons (pe_ix ix_list (pv 1) pe_int (fun _ _ => rfl)) (pa_cons (pe_ix ix_list (pv 1) pe_int (fun _ _ => rfl)) pa_nil))))) pss_nil)
      (pss_cons (ps_if (pt_cmpR op_eq (pe_ix ix_list (pv 1) pe_int (fun _ _ => rfl)) (pe_glob (v := .int 9) (by rfl) m9 ⟨_, rfl⟩) (nomark _)) (pss_one (ps_ret (pe_hasM G9 (hr.mono (by decide)) T.cl (pv 0) (pa_cons (pe_ix ix_list (pv 1) pe_int (fun _ _ => rfl)) pa_nil)))) pss_nil)
      (pss_one (ps_ret (pe_hasM0 G10 (hr.mono (by decide)) T.cl (pv 0)))))))), ?_⟩
    obtain ⟨a, c, st, cl, x, rfl, ht, so, hc, fm, kk⟩ := h
    obtain ⟨dx, fs, ha, lk⟩ := ht.ins
    have at' : ∀ (j : Nat) v, cl[j]? = some v → atI (cl.map V.int) (j : Int) = some (.int v) := fun j v e => atI_nat (by rw [List.getElem?_map, e]; rfl)
    have hS : SqL K H c (cl.map V.int) := SqL.of hc
    obtain ⟨k, hk⟩ : ∃ k, cl[0]? = some k := ⟨cl[0]'(form_pos fm), List.getElem?_eq_getElem (form_pos fm)⟩
    by_cases hk5 : k ≤ 5
    · refine ⟨_, rfl, c, _, _, _, rfl, rfl, hS, at' 0 k hk, _, _, rfl, rfl, _, rfl, ?_⟩
      refine if_true_of (decide_eq_true hk5) ?_
      refine ⟨_, rfl, _, rfl, a, c, st, cl, x, rfl, ht, so, hc, fm, ⟨k, hk, hk5⟩, fun H1 h1 r1 => ?_⟩
      refine ⟨Nat.zero_le _, fun q1 g1 => ⟨(by show 2 ≤ sizeLine; decide), fun q2 g2 => ?_⟩⟩
      have s1 := same_new (o := .tup []) g1
      have s2 := same_new (o := .tup [.int (Sy71.step st x).2.v, .ref q1]) g2
      refine kk _ q2 (h1.same (s1.trans s2)) (r1.trans (Rest.of (s1.trans s2))) ?_
      rw [step_none fm ⟨k, hk, hk5⟩]
      exact ⟨q1, [], upd_same, s2 _ _ upd_same, .nil⟩
    · refine ⟨_, rfl, c, _, _, _, rfl, rfl, hS, at' 0 k hk, _, _, rfl, rfl, _, rfl, ?_⟩
      refine if_false_of (decide_eq_false hk5) ?_
      cases fm with
      | begins n m _ _ => exact absurd (Option.some.inj hk) (by intro e; omega)
      | fill i l _ _ _ => exact absurd (Option.some.inj hk) (by intro e; omega)
      | pour n m _ _ => exact absurd (Option.some.inj hk) (by intro e; omega)
      | may n m _ _ => exact absurd (Option.some.inj hk) (by intro e; omega)
      | sorted => exact absurd (Option.some.inj hk) (by intro e; omega)
      | fewest => exact absurd (Option.some.inj hk) (by intro e; omega)
      | plan =>
        refine ⟨_, rfl, c, _, _, _, rfl, rfl, hS, at' 0 6 rfl, rfl, _, rfl, ?_⟩
        refine if_true_of (by decide) ?_
        exact ⟨_, rfl, a, dx, fs, rfl, ha, lk _ (by decide +kernel) (by decide +kernel) (by decide +kernel), a, st, _, _, rfl, ⟨rfl, rfl⟩, ht, so, kk⟩
      | reach =>
        refine ⟨_, rfl, c, _, _, _, rfl, rfl, hS, at' 0 7 rfl, rfl, _, rfl, ?_⟩
        refine if_false_of (by decide) ?_
        refine ⟨_, rfl, c, _, _, _, rfl, rfl, hS, at' 0 7 rfl, rfl, _, rfl, ?_⟩
        refine if_true_of (by decide) ?_
        exact ⟨_, rfl, a, dx, fs, rfl, ha, lk _ (by decide +kernel) (by decide +kernel) (by decide +kernel), a, st, _, _, rfl, ⟨rfl, rfl⟩, ht, so, kk⟩
      | lost n m _ _ =>
        refine ⟨_, rfl, c, _, _, _, rfl, rfl, hS, at' 0 8 rfl, rfl, _, rfl, ?_⟩
        refine if_false_of (by decide) ?_
        refine ⟨_, rfl, c, _, _, _, rfl, rfl, hS, at' 0 8 rfl, rfl, _, rfl, ?_⟩
        refine if_false_of (by decide) ?_
        refine ⟨_, rfl, c, _, _, _, rfl, rfl, hS, at' 0 8 rfl, rfl, _, rfl, ?_⟩
        refine if_true_of (by decide) ?_
        exact ⟨_, rfl, a, dx, fs, rfl, ha, lk _ (by decide +kernel) (by decide +kernel) (by decide +kernel), _, rfl, c, _, _, _, rfl, rfl, hS, at' 1 n rfl, _, rfl, c, _, _, _, rfl, rfl, hS, at' 2 m rfl,
          a, st, _, _, rfl, ⟨n, m, rfl, rfl⟩, ht, so, kk⟩
      | tube n _ =>
        refine ⟨_, rfl, c, _, _, _, rfl, rfl, hS, at' 0 9 rfl, rfl, _, rfl, ?_⟩
        refine if_false_of (by decide) ?_
        refine ⟨_, rfl, c, _, _, _, rfl, rfl, hS, at' 0 9 rfl, rfl, _, rfl, ?_⟩
        refine if_false_of (by decide) ?_
        refine ⟨_, rfl, c, _, _, _, rfl, rfl, hS, at' 0 9 rfl, rfl, _, rfl, ?_⟩
        refine if_false_of (by decide) ?_
        refine ⟨_, rfl, c, _, _, _, rfl, rfl, hS, at' 0 9 rfl, rfl, _, rfl, ?_⟩
        refine if_true_of (by decide) ?_
        exact ⟨_, rfl, a, dx, fs, rfl, ha, lk _ (by decide +kernel) (by decide +kernel) (by decide +kernel), _, rfl, c, _, _, _, rfl, rfl, hS, at' 1 n rfl,
          a, st, _, _, rfl, ⟨n, rfl, rfl⟩, ht, so, kk⟩
      | state =>
        refine ⟨_, rfl, c, _, _, _, rfl, rfl, hS, at' 0 10 rfl, rfl, _, rfl, ?_⟩
        refine if_false_of (by decide) ?_
        refine ⟨_, rfl, c, _, _, _, rfl, rfl, hS, at' 0 10 rfl, rfl, _, rfl, ?_⟩
        refine if_false_of (by decide) ?_
        refine ⟨_, rfl, c, _, _, _, rfl, rfl, hS, at' 0 10 rfl, rfl, _, rfl, ?_⟩
        refine if_false_of (by decide) ?_
        refine ⟨_, rfl, c, _, _, _, rfl, rfl, hS, at' 0 10 rfl, rfl, _, rfl, ?_⟩
        refine if_false_of (by decide) ?_
        exact ⟨_, rfl, a, dx, fs, rfl, ha, lk _ (by decide +kernel) (by decide +kernel) (by decide +kernel), a, st, _, _, rfl, ⟨rfl, rfl⟩, ht, so, kk⟩

/-! ### laid_out -/
theorem scLaid : FnScope ["number", "lists", "numbers", "row"] ["number", "lists"] (defScope (topS 36)) := ⟨rfl, rfl, rfl, by decide +kernel, rfl, by decide +kernel, by decide +kernel⟩
theorem out_take {A : Sy71.Ans} {i : Nat} {row : List Int} (h : A.l[i]? = some row) : Sy71Neutral.out ⟨A.v, A.l.take (i + 1)⟩ = Sy71Neutral.out ⟨A.v, A.l.take i⟩ ++ [(row.length : Int)] ++ row := by
  unfold Sy71Neutral.out
  simp only
  rw [List.take_add_one, h, List.flatMap_append]
  simp
theorem out_le {A : Sy71.Ans} {i : Nat} : (Sy71Neutral.out ⟨A.v, A.l.take i⟩).length ≤ (Sy71Neutral.out A).length := by
  unfold Sy71Neutral.out
  simp only [List.length_cons]
  have : A.l.flatMap (fun (w : List Int) => (w.length : Int) :: w) = (A.l.take i).flatMap (fun (w : List Int) => (w.length : Int) :: w) ++ (A.l.drop i).flatMap (fun (w : List Int) => (w.length : Int) :: w) := by
    rw [← List.flatMap_append, List.take_append_drop]
  rw [this, List.length_append]
  omega
theorem ok_laid {f : Addr} {fd : FuncData} (F : Fun K "laid_out" "laid_out" (topS 36) f fd) (TT : Txt mg) : FnOk P w K mg base CX0 1 f fd ["number", "lists"] spLaid := by
  refine F.ok scLaid (fun vs H Q E h => ?_) (fun cdv A outer s H vs Q E hr h => ?_)
  · obtain ⟨A, ls, rs, rfl, _⟩ := h
    rfl
  · refine ⟨_, pss_cons (ps_set (i := 2) scLaid.nd rfl (Or.inl rfl) (pe_lst (pa_cons (pv 0) pa_nil)))
      (pss_cons (ps_for PassesOwn.never rfl (pi_tup (pv 1)) (pg_name (i := 3) scLaid.nd rfl (Or.inl rfl))
        (pss_cons (ps_expr (pe_bm PySem.F.plainAttrs_list PySem.F.slot_list_append PySem.F.type_list_append mt_append (pv 2) (pa_cons (pe_callB call_len_seq (by rfl) TT.len (by decide +kernel) (pa_cons (pv 3) pa_nil)) pa_nil)))
        (pss_one (ps_expr (pe_bm PySem.F.plainAttrs_list PySem.F.slot_list_extend PySem.F.type_list_extend mt_extA (pv 2) (pa_cons (pv 3) pa_nil))))))
      (pss_one (ps_ret (pe_op op_cat (pe_lst (pa_cons (pe_callB call_len_seq (by rfl) TT.len (by decide +kernel) (pa_cons (pv 2) pa_nil)) pa_nil)) (pv 2))))), ?_⟩
    obtain ⟨R, ls, rs, rfl, hls, pr, hz, kk⟩ := h
    have lr : rs.length = R.l.length := Paired.length pr
    refine ⟨_, rfl, (by show 1 ≤ sizeLine; decide), fun l hl => ?_⟩
    have s1 := same_new (o := .lst [.int R.v]) hl
    refine ⟨_, rfl, ls, rfl, ⟨_, SqT.of (s1 _ _ hls)⟩, ?_⟩
    refine for_tup (K := K) (a := ls) (xs := rs.map V.ref) (fun i σ H' => ∃ v3 : Option V, σ = [some (.int R.v), some (.ref ls), some (.ref l), v3] ∧ Same H H' ∧ H' l = some (.lst ((Sy71Neutral.out ⟨R.v, R.l.take i⟩).map V.int)))
      ⟨none, rfl, s1, upd_same⟩ (fun i σ H' _ ⟨_, _, q, _⟩ => SqT.of (q _ _ hls)) (fun i x σ H2 hx ⟨v3, e, s2, h2⟩ => ?_) (fun σ H2 ⟨v3, e, s2, h2⟩ => ?_)
    · subst e
      have hi : i < R.l.length := by
        have := (List.getElem?_eq_some_iff.mp hx).1
        rw [List.length_map] at this
        omega
      obtain ⟨q, eq, hq⟩ := paired_ix pr hi
      rw [List.getElem?_map, eq] at hx
      have hx' := Option.some.inj hx
      subst hx'
      have hli : R.l[i]? = some R.l[i] := List.getElem?_eq_getElem hi
      generalize R.l[i] = row at *
      have stp := out_take hli
      have le1 := out_le (A := R) (i := i + 1)
      rw [stp, List.length_append, List.length_append, List.length_singleton] at le1
      have nql : q ≠ l := fun z => by
        rcases hq with hq | hq <;> (rw [z, hl] at hq; cases hq)
      have z2 : ((Sy71Neutral.out ⟨R.v, R.l.take i⟩).map V.int).length = (Sy71Neutral.out ⟨R.v, R.l.take i⟩).length := List.length_map _
      have lrow : ∃ ys : List V, ys.length = row.length ∧ ys = row.map V.int ∧ (SqL K H2 q ys ∨ SqT K H2 q ys) := ⟨_, List.length_map _, rfl, by
        rcases hq with hq | hq
        · exact .inr (SqT.of (s2 _ _ hq))
        · exact .inl (SqL.of (s2 _ _ hq))⟩
      obtain ⟨ys, ly, ey, hy⟩ := lrow
      have big : (10000000 : Nat) < sizeLine := by decide
      refine ⟨_, rfl, .inl ⟨rfl, _, SqL.of h2⟩, _, rfl, q, ys, rfl, hy, l, _, _, rfl, rfl, h2, by rw [z2]; omega, ?_⟩
      rw [ly]
      have fin : ∃ v3 : Option V, ([some (V.int R.v), some (.ref ls), some (.ref l), some (.ref q)] : L2.St) = [some (.int R.v), some (.ref ls), some (.ref l), v3] ∧ Same H (upd (upd H2 l (.lst ((Sy71Neutral.out ⟨R.v, R.l.take i⟩).map V.int ++ [V.int (row.length : Nat)]))) l (.lst ((Sy71Neutral.out ⟨R.v, R.l.take i⟩).map V.int ++ [V.int (row.length : Nat)] ++ row.map V.int))) ∧
          upd (upd H2 l (.lst ((Sy71Neutral.out ⟨R.v, R.l.take i⟩).map V.int ++ [V.int (row.length : Nat)]))) l (.lst ((Sy71Neutral.out ⟨R.v, R.l.take i⟩).map V.int ++ [V.int (row.length : Nat)] ++ row.map V.int)) l = some (.lst ((Sy71Neutral.out ⟨R.v, R.l.take (i + 1)⟩).map V.int)) := by
        refine ⟨_, rfl, same_upd (same_upd s2 hl) hl, ?_⟩
        rw [upd_same, stp, List.map_append, List.map_append]
        rfl
      rcases hq with hq | hq
      · refine ⟨_, rfl, .inl ⟨rfl, _, SqL.of upd_same⟩, _, rfl, .inr ⟨l, q, _, row.map V.int, rfl, rfl, upd_same, SqT.of (by rw [upd_ne nql]; exact s2 _ _ hq), ?_, fin⟩⟩
        rw [List.length_append, z2, List.length_map, List.length_singleton]
        omega
      · refine ⟨_, rfl, .inl ⟨rfl, _, SqL.of upd_same⟩, _, rfl, .inl ⟨l, q, _, row.map V.int, rfl, rfl, upd_same, by rw [upd_ne nql]; exact s2 _ _ hq, ?_, fin⟩⟩
        rw [List.length_append, z2, List.length_map, List.length_singleton]
        omega
    · subst e
      rw [List.length_map, lr, List.take_length] at h2
      have h2' : H2 l = some (.lst ((Sy71Neutral.out R).map V.int)) := h2
      have big : (10000000 : Nat) < sizeLine := by decide
      refine ⟨_, rfl, l, _, rfl, .inl (SqL.of h2'), ?_⟩
      rw [List.length_map]
      refine ⟨(by show 1 ≤ sizeLine; decide), fun q hq => ?_⟩
      have s3 := same_new (o := .lst [.int ((Sy71Neutral.out R).length : Nat)]) hq
      refine ⟨_, rfl, q, l, _, _, rfl, rfl, upd_same, s3 _ _ h2', ?_, fun r hr => ?_⟩
      · rw [List.length_map, List.length_singleton]
        omega
      · have s4 := same_new (o := .lst ([.int ((Sy71Neutral.out R).length : Nat)] ++ (Sy71Neutral.out R).map V.int)) hr
        have sm := s2.trans (s3.trans s4)
        refine kk _ r sm (s2.free (s3.free hr)) ?_
        rw [upd_same]
        rfl
end
end Tb
/-! answers -/
namespace Tb
open PySem PySem.Spec PyProof.Rows L2
def spAns (K : PySem.W.Frag) : Sp := fun vs H Q _ => ∃ (c : Addr) (ns : List Int), vs = [.ref c] ∧ SqL K H c (ns.map V.int) ∧ PySy71.answers_asked ns = true ∧ ns.length ≤ 5040 ∧
  ∀ (H' : Hp) (p : Addr), H' p = some (.lst ((PySy71.answers ns).map V.int)) → Q (.ref p) H'
section
variable {P : Program} {w : World} {K : PySem.W.Frag} {mg : Str → Option Value} {base : Heap} {C : Addr}
theorem cut_call {ns cl : List Int} {i : Nat} (hd : ns.drop i = cl ++ ns.drop (i + cl.length)) (hi : i + cl.length ≤ ns.length) : cutV (ns.map V.int) (some (i : Int)) (some ((i + cl.length : Nat) : Int)) = cl.map V.int := by
  unfold cutV
  rw [HT.sIx_nat, HT.sIx_nat, List.length_map, Nat.min_eq_left hi, Nat.min_eq_left (show i ≤ ns.length by omega), ← List.map_drop, ← List.map_take]
  congr 1
  rw [hd, show i + cl.length - i = cl.length by omega, List.take_left]
theorem scAns : FnScope ["calls", "tubes", "answered", "at", "end", "number", "lists"] ["calls"] (defScope (topS 37)) := ⟨rfl, rfl, rfl, by decide +kernel, rfl, by decide +kernel, by decide +kernel⟩
theorem ok_ans {f fI : Addr} {fd fdI : FuncData} (F : Fun K "answers" "answers" (topS 37) f fd) (TT : Txt mg) (gC : mg "Tubes" = some (.ref C)) (M : Mk K C fI) (GI : FnOk P w K mg base CX0 1 fI fdI ["self"] (spInit C)) (bI : Binds K fdI ["self"] [])
    (GB : Has P w K mg base 1 "behind_call" ["calls", "at"] (spBehind K)) (GN : Has P w K mg base 8 "number_and_lists" ["tubes", "call"] (spLists C)) (GL : Has P w K mg base 1 "laid_out" ["number", "lists"] spLaid) : FnOk P w K mg base CX0 9 f fd ["calls"] (spAns K) := by
  refine F.ok scAns (fun vs H Q E h => ?_) (fun cdv A outer s H vs Q E hr h => ?_)
  · obtain ⟨c, ns, rfl, _⟩ := h
    rfl
  · refine ⟨_, pss_cons (ps_set (i := 1) scAns.nd rfl (Or.inl rfl) (pe_make0 M GI (hr.mono (by decide)) (by rfl) gC bI .nil pass0))
      (pss_cons (ps_set (i := 2) scAns.nd rfl (Or.inl rfl) (pe_lst pa_nil))
      (pss_cons (ps_set (i := 3) scAns.nd rfl (Or.inl rfl) pe_int)
      (pss_cons (ps_while PassesOwn.never (pt_cmpR op_lt (pv 3) (pe_callB call_len_seq (by rfl) TT.len (by decide +kernel) (pa_cons (pv 0) pa_nil)) (nomark _))
        (pss_cons (ps_set (i := 4) scAns.nd rfl (Or.inl rfl) (pe_has GB (hr.mono (by decide)) (by rfl) (pa_cons (pv 0) (pa_cons (pv 3) pa_nil))))
        (pss_cons (ps_asg (pe_has GN (hr.mono (by decide)) (by rfl) (pa_cons (pv 1) (pa_cons (pe_slice sl_list (pv 0) (po_some (pv 3)) (po_some (pv 4))) pa_nil))) (pg_tup rfl (pgs_cons (pg_name (i := 5) scAns.nd rfl (Or.inl rfl)) (pgs_cons (pg_name (i := 6) scAns.nd rfl (Or.inl rfl)) pgs_nil))))
        (pss_cons (ps_expr (pe_bm PySem.F.plainAttrs_list PySem.F.slot_list_extend PySem.F.type_list_extend mt_extend (pv 2) (pa_cons (pe_has GL (hr.mono (by decide)) (by rfl) (pa_cons (pv 5) (pa_cons (pv 6) pa_nil))) pa_nil)))
        (pss_one (ps_set (i := 3) scAns.nd rfl (Or.inl rfl) (pv 4)))))))
      (pss_one (ps_ret (pv 2)))))), ?_⟩
    obtain ⟨c, ns, rfl, hS, hask, hlen, k⟩ := h
    intro a dx na nd ne
    refine ⟨a, dx, rfl, upd_same, fun H1 h1 r1 => ⟨rfl, ?_⟩⟩
    have s1 : Same H H1 := fun b o e => by
      have nb : b ≠ a := fun z => by rw [z, na] at e; cases e
      refine r1 b o ?_ nb
      rw [upd_ne nb, upd_ne (fun z => by rw [z, nd] at e; cases e)]
      exact e
    refine ⟨Nat.zero_le _, fun l hl => ?_⟩
    have s12 := same_new (o := .lst []) hl
    have hl0 : H l = none := s1.free hl
    have nal : a ≠ l := fun z => by
      obtain ⟨_, _, q, _⟩ := h1
      rw [z, hl] at q
      cases q
    refine ⟨fun m σ H' => ∃ (v4 v5 v6 : Option V) (st : Sy71.St) (A : List Int) (i : Nat), m = ns.length - i ∧ σ = [some (.ref c), some (.ref a), some (.ref l), some (.int i), v4, v5, v6] ∧ Same H H' ∧ TubesAt C H' a st ∧ SOk st ∧ H' l = some (.lst (A.map V.int)) ∧ Due ns st A i,
      ⟨_, none, none, none, Sy71.init, [], 0, rfl, rfl, s1.trans s12, h1.same s12, .init, upd_same, due_start hask⟩, ?_⟩
    rintro m σ H2 ⟨v4, v5, v6, st, A, i, rfl, rfl, s2, ht, so, hA, due⟩
    have hS2 : SqL K H2 c (ns.map V.int) := s2.seq hS
    refine ⟨_, rfl, _, rfl, c, _, rfl, .inl hS2, _, _, rfl, rfl, _, rfl, ?_⟩
    rw [List.length_map]
    refine ite2 (fun hc => ?_) (fun hc => ?_)
    · have hi : i < ns.length := by
        have := of_decide_eq_true hc
        omega
      obtain ⟨cl, x, fm, hd, hle, due'⟩ := due_turn due hi
      have p0 := form_pos fm
      have dl := Nat.le_trans (due_len due') (asked_short hask)
      rw [List.length_append, List.length_cons] at dl
      have big : (10000000 : Nat) < sizeLine := by decide
      refine ⟨fun σ' H' => ∃ m', m' < ns.length - i ∧ ∃ (v4 v5 v6 : Option V) (st : Sy71.St) (A : List Int) (i : Nat), m' = ns.length - i ∧ σ' = [some (.ref c), some (.ref a), some (.ref l), some (.int i), v4, v5, v6] ∧ Same H H' ∧ TubesAt C H' a st ∧ SOk st ∧ H' l = some (.lst (A.map V.int)) ∧ Due ns st A i,
        fun σ' H' h => h, ?_⟩
      refine ⟨_, rfl, _, rfl, c, ns, i, cl, x, rfl, hS2, fm, hd, fun H3 s3 => ?_⟩
      have s03 := s2.trans s3
      refine ⟨_, rfl, _, rfl, _, rfl, _, rfl, _, rfl, _, rfl, c, _, rfl, s03.seq hS, fun q hq => ?_⟩
      rw [cut_call hd hle]
      have s4 := same_new (o := .lst (cl.map V.int)) hq
      refine ⟨a, q, st, cl, x, rfl, (ht.same s3).same s4, so, upd_same, fm, fun H5 r ht5 r5 ⟨ls, rs, hr5, hls, prs⟩ => ?_⟩
      have hA5 : H5 l = some (.lst (A.map V.int)) := r5 _ _ (s4 _ _ (s3 _ _ hA)) nal.symm
      have s05 : Same H H5 := fun b o e => r5 b o ((s03.trans s4) b o e) fun z => by rw [z, na] at e; cases e
      refine ⟨r, _, rfl, SqT.of hr5, rfl, _, _, rfl, _, _, rfl, rfl, ?_⟩
      refine ⟨_, rfl, .inl ⟨rfl, _, SqL.of hA5⟩, _, rfl, _, rfl, (Sy71.step st x).2, ls, rs, rfl, hls, prs, by omega, fun H6 lo s6 nlo hlo => ?_⟩
      have hA6 := s6 _ _ hA5
      refine ⟨l, lo, _, _, rfl, rfl, hA6, hlo, ?_, ?_⟩
      · rw [List.length_map, List.length_map, List.length_cons]
        omega
      · have s06 := s05.trans s6
        have ht6 := ht5.same s6
        have tk : TupSame H6 (upd H6 l (.lst (A.map V.int ++ (((Sy71Neutral.out (Sy71.step st x).2).length : Int) :: Sy71Neutral.out (Sy71.step st x).2).map V.int))) := tup_upd (TupSame.refl _) (lst_not hA6)
        refine ⟨_, rfl, ?_⟩
        refine ⟨ns.length - (i + cl.length), by omega, _, _, _, _, _, i + cl.length, rfl, rfl, same_upd s06 hl0, ?_, so.step x, ?_, due'⟩
        · obtain ⟨dx6, p6, e6, r6⟩ := ht6
          exact ⟨dx6, p6, by rw [upd_ne nal]; exact e6, r6.keep tk⟩
        · rw [upd_same, List.map_append]
    · have hge : ns.length ≤ i := by
        have : ¬ (i : Int) < (ns.length : Nat) := fun z => hc (decide_eq_true z)
        omega
      have e := due_end due hge
      refine ⟨_, rfl, ?_⟩
      refine k H2 l ?_
      rw [← e]
      exact hA
end
end Tb
/-! the end: what the top has written -/
namespace Tb
open PySem PySem.Spec PyProof.Rows L2
def TopDef (K : PySem.W.Frag) (x : Str) (st : Stmt) : Prop := ∃ (f : Addr) (oc : Value) (od an : Option Addr) (sl : Array (Option Value)) (kV dc pm cd ct : Value),
  PySem.W.nsIn K mainGlobals x = some (some (.ref f)) ∧ K.lookup f = some ⟨oc, od, .func (PySem.W.fnOf x x (defArgs st) (defBody st) (defScope st) .none kV dc pm an cd ct), sl⟩ ∧ PySem.W.codeIn K cd x = true ∧ PySem.W.keepIn K (.ref f) = true
theorem TopDef.mk {K : PySem.W.Frag} {x : Str} {st : Stmt} {f : Addr} {oc : Value} {od an : Option Addr} {sl : Array (Option Value)} {kV dc pm cd ct : Value}
    (a : PySem.W.nsIn K mainGlobals x = some (some (.ref f))) (l : K.lookup f = some ⟨oc, od, .func (PySem.W.fnOf x x (defArgs st) (defBody st) (defScope st) .none kV dc pm an cd ct), sl⟩) (c : PySem.W.codeIn K cd x = true) (k : PySem.W.keepIn K (.ref f) = true) : TopDef K x st :=
  ⟨f, oc, od, an, sl, kV, dc, pm, cd, ct, a, l, c, k⟩
def MethDef (K : PySem.W.Frag) (C : Addr) (x qual : Str) (st : Stmt) : Prop := ∃ (f : Addr) (oc : Value) (od an : Option Addr) (sl : Array (Option Value)) (kV dc pm cd ct : Value),
  PySem.W.findIn K (.ref C) x = some (some (.ref f)) ∧ PySem.W.isFn K (.ref f) = true ∧ K.lookup f = some ⟨oc, od, .func (PySem.W.fnOf x qual (defArgs st) (defBody st) (defScope st) .none kV dc pm an cd ct), sl⟩ ∧ PySem.W.codeIn K cd qual = true ∧ PySem.W.keepIn K (.ref f) = true
theorem MethDef.mk {K : PySem.W.Frag} {C : Addr} {x qual : Str} {st : Stmt} {f : Addr} {oc : Value} {od an : Option Addr} {sl : Array (Option Value)} {kV dc pm cd ct : Value}
    (a : PySem.W.findIn K (.ref C) x = some (some (.ref f))) (i : PySem.W.isFn K (.ref f) = true) (l : K.lookup f = some ⟨oc, od, .func (PySem.W.fnOf x qual (defArgs st) (defBody st) (defScope st) .none kV dc pm an cd ct), sl⟩) (c : PySem.W.codeIn K cd qual = true) (k : PySem.W.keepIn K (.ref f) = true) : MethDef K C x qual st :=
  ⟨f, oc, od, an, sl, kV, dc, pm, cd, ct, a, i, l, c, k⟩
def IntDef (K : PySem.W.Frag) (x : Str) (n : Int) : Prop := ∃ t : Tok, PySem.W.nsIn K mainGlobals x = some (some (.int n t))
theorem IntDef.mk {K : PySem.W.Frag} {x : Str} {n : Int} {t : Tok} (a : PySem.W.nsIn K mainGlobals x = some (some (.int n t))) : IntDef K x n := ⟨t, a⟩
def TupDef (K : PySem.W.Frag) (x : Str) (vs : List V) : Prop := ∃ (a : Addr) (o : Obj) (its : Array Value) (n : Nat), PySem.W.nsIn K mainGlobals x = some (some (.ref a)) ∧ K.lookup a = some o ∧ o.cls = .type "tuple" ∧ o.data = .seq its n ∧ its.size ≤ sizeLine ∧ Vals vs its.toList
theorem TupDef.mk {K : PySem.W.Frag} {x : Str} {vs : List V} {a : Addr} {o : Obj} {its : Array Value} {n : Nat} (h1 : PySem.W.nsIn K mainGlobals x = some (some (.ref a))) (h2 : K.lookup a = some o) (h3 : o.cls = .type "tuple") (h4 : o.data = .seq its n) (h5 : its.size ≤ sizeLine) (h6 : Vals vs its.toList) : TupDef K x vs :=
  ⟨a, o, its, n, h1, h2, h3, h4, h5, h6⟩
section
variable {K : PySem.W.Frag} {h : Heap} {mg : Str → Option Value}
theorem TopDef.fn {x : Str} {st : Stmt} (d : TopDef K x st) (X : K.In h) (G : h.Ns mainGlobals mg) : ∃ (f : Addr) (fd : FuncData), mg x = some (.ref f) ∧ Fun K x x st f fd := by
  obtain ⟨f, oc, od, an, sl, kV, dc, pm, cd, ct, a, l, c, k⟩ := d
  exact ⟨f, _, PySem.W.mg_of X G a, fun_mk (st := st) l c k⟩
theorem MethDef.fn {C : Addr} {x qual : Str} {st : Stmt} (d : MethDef K C x qual st) : ∃ (f : Addr) (fd : FuncData), PySem.W.findIn K (.ref C) x = some (some (.ref f)) ∧ PySem.W.isFn K (.ref f) = true ∧ Fun K x qual st f fd := by
  obtain ⟨f, oc, od, an, sl, kV, dc, pm, cd, ct, a, i, l, c, k⟩ := d
  exact ⟨f, _, a, i, fun_mk (st := st) l c k⟩
theorem IntDef.fn {x : Str} {n : Int} (d : IntDef K x n) (X : K.In h) (G : h.Ns mainGlobals mg) : ∃ t, mg x = some (.int n t) := let ⟨t, a⟩ := d; ⟨t, PySem.W.mg_of X G a⟩
theorem TupDef.fn {x : Str} {vs : List V} (d : TupDef K x vs) (X : K.In h) (G : h.Ns mainGlobals mg) : ∃ a, mg x = some (.ref a) ∧ ∀ H : Hp, SqT K H a vs := by
  obtain ⟨a, o, its, n, h1, h2, h3, h4, h5, h6⟩ := d
  exact ⟨a, PySem.W.mg_of X G h1, fun H => .inr ⟨o, its, n, h2, h3, h4, h5, h6⟩⟩
end

theorem bindsAns {K : PySem.W.Frag} {f : Addr} {fd : FuncData} (F : Fun K "answers" "answers" (topS 37) f fd) (s : Shared) (us : List Value) (hu : us.length = (["calls"] : List Str).length) : BindsTo s fd ⟨us, []⟩ ((["calls"] : List Str).zip us) := by
  obtain ⟨oc, od, kV, doc, pm, an, cdv, ct, osl, rfl, lk, hcd⟩ := F.ex
  match us, hu with
  | [_], _ => exact .of_eq rfl
theorem all_mk {P : Program} {w : World} {K : PySem.W.Frag} {h : Heap} {mg : Str → Option Value} {fa C : Addr} (X : K.In h) (G : h.Ns mainGlobals mg) (hfa : mg "answers" = some (.ref fa))
    (aC : PySem.W.nsIn K mainGlobals "Tubes" = some (some (.ref C)))
    (t_with_tube : TopDef K "with_tube" (topS 1))
    (t_together_on_top : TopDef K "together_on_top" (topS 2))
    (t_drops_going : TopDef K "drops_going" (topS 3))
    (t_poured : TopDef K "poured" (topS 4))
    (t_is_sorted : TopDef K "is_sorted" (topS 5))
    (t_pourings_on : TopDef K "pourings_on" (topS 8))
    (t_ways_to_each : TopDef K "ways_to_each" (topS 9))
    (t_pourings_of : TopDef K "pourings_of" (topS 10))
    (t_plan_among : TopDef K "plan_among" (topS 11))
    (t_racks_ahead_of_each : TopDef K "racks_ahead_of_each" (topS 12))
    (t_how_many_lead_on : TopDef K "how_many_lead_on" (topS 13))
    (t_behind_call : TopDef K "behind_call" (topS 33))
    (t_number_alone : TopDef K "number_alone" (topS 34))
    (t_number_and_lists : TopDef K "number_and_lists" (topS 35))
    (t_laid_out : TopDef K "laid_out" (topS 36))
    (t_answers : TopDef K "answers" (topS 37))
    (m_init : MethDef K C "__init__" "Tubes.__init__" (mS 0))
    (m_begins : MethDef K C "begins" "Tubes.begins" (mS 1))
    (m_fill : MethDef K C "fill" "Tubes.fill" (mS 2))
    (m_pour : MethDef K C "pour" "Tubes.pour" (mS 3))
    (m_may : MethDef K C "may" "Tubes.may" (mS 4))
    (m_sortedness : MethDef K C "sortedness" "Tubes.sortedness" (mS 5))
    (m_fewest : MethDef K C "fewest" "Tubes.fewest" (mS 6))
    (m_plan : MethDef K C "plan" "Tubes.plan" (mS 7))
    (m_reach : MethDef K C "reach" "Tubes.reach" (mS 8))
    (m_lost : MethDef K C "lost" "Tubes.lost" (mS 9))
    (m_drops_in : MethDef K C "drops_in" "Tubes.drops_in" (mS 10))
    (m_state : MethDef K C "state" "Tubes.state" (mS 11))
    (i_NOT_ALLOWED : IntDef K "NOT_ALLOWED" (-1))
    (i_NO_SUCH_TUBE : IntDef K "NO_SUCH_TUBE" (-2))
    (i_NOTHING_LEADS_ON : IntDef K "NOTHING_LEADS_ON" (-4))
    (i_CANNOT_BE : IntDef K "CANNOT_BE" (-6))
    (i_TOO_MANY_RACKS : IntDef K "TOO_MANY_RACKS" (-9))
    (i_HIGHEST_COLOUR : IntDef K "HIGHEST_COLOUR" (5))
    (i_BEGINS : IntDef K "BEGINS" (0))
    (i_FILL : IntDef K "FILL" (1))
    (i_POUR : IntDef K "POUR" (2))
    (i_MAY : IntDef K "MAY" (3))
    (i_SORTED : IntDef K "SORTED" (4))
    (i_FEWEST : IntDef K "FEWEST" (5))
    (i_PLAN : IntDef K "PLAN" (6))
    (i_REACH : IntDef K "REACH" (7))
    (i_LOST : IntDef K "LOST" (8))
    (i_TUBE : IntDef K "TUBE" (9))
    (i_MOST_RACKS : IntDef K "MOST_RACKS" (300))
    (wW : TupDef K "WHOLE_NUMBERS" wnV)
    (z_list : PySem.W.nsIn K mainGlobals "list" = some none)
    (z_tuple : PySem.W.nsIn K mainGlobals "tuple" = some none)
    (z_reversed : PySem.W.nsIn K mainGlobals "reversed" = some none)
    (z_min : PySem.W.nsIn K mainGlobals "min" = some none)
    (z_max : PySem.W.nsIn K mainGlobals "max" = some none)
    (z_len : PySem.W.nsIn K mainGlobals "len" = some none)
    (z_range : PySem.W.nsIn K mainGlobals "range" = some none)
    (z_sum : PySem.W.nsIn K mainGlobals "sum" = some none)
    (pg : PySem.W.plainGet K C Str.empty = true)
    (hd : PySem.W.hasDictIn K C = true)
    (po : PySem.W.plainOver K C = true)
    (sa : PySem.W.findIn K (.ref C) "__setattr__" = some (some (.builtin "object.__setattr__")))
    (mk : PySem.W.makesIn K C = true)
    (kc : PySem.W.keepIn K (.ref C) = true)
    (nH : PySem.W.findIn K (.ref C) "holds" = some none)
    (nR : PySem.W.findIn K (.ref C) "rack" = some none)
    (nD : PySem.W.findIn K (.ref C) "done" = some none) :
    ∃ fd : FuncData, (∀ (s : Shared) (us : List Value), us.length = (["calls"] : List Str).length → BindsTo s fd ⟨us, []⟩ ((["calls"] : List Str).zip us)) ∧ ∀ base : Heap, K.In base → base.Ns mainGlobals mg → FnOk P w K mg base CX0 9 fa fd ["calls"] (spAns K) := by
  have TT : Txt mg := ⟨PySem.W.mg_none_of X G z_list, PySem.W.mg_none_of X G z_tuple, PySem.W.mg_none_of X G z_reversed, PySem.W.mg_none_of X G z_min, PySem.W.mg_none_of X G z_max, PySem.W.mg_none_of X G z_len, PySem.W.mg_none_of X G z_range, PySem.W.mg_none_of X G z_sum⟩
  have T : TxtC K mg C := ⟨⟨pg, hd, po, sa⟩, nH, nR, nD, i_NOT_ALLOWED.fn X G, i_NO_SUCH_TUBE.fn X G, i_NOTHING_LEADS_ON.fn X G, i_CANNOT_BE.fn X G, i_TOO_MANY_RACKS.fn X G, i_HIGHEST_COLOUR.fn X G⟩
  have N : TxtN K mg := ⟨i_BEGINS.fn X G, i_FILL.fn X G, i_POUR.fn X G, i_MAY.fn X G, i_SORTED.fn X G, i_FEWEST.fn X G, i_PLAN.fn X G, i_REACH.fn X G, i_LOST.fn X G, i_TUBE.fn X G, wW.fn X G⟩
  obtain ⟨t300, m300⟩ := i_MOST_RACKS.fn X G
  obtain ⟨f_with_tube, fd_with_tube, g_with_tube, F_with_tube⟩ := t_with_tube.fn X G
  have b_with_tube := F_with_tube.binds (ps := ["rack", "tube", "drops"]) fun _ _ _ _ _ _ us hl => match us, hl with | [_, _, _], _ => rfl
  obtain ⟨f_together_on_top, fd_together_on_top, g_together_on_top, F_together_on_top⟩ := t_together_on_top.fn X G
  have b_together_on_top := F_together_on_top.binds (ps := ["drops"]) fun _ _ _ _ _ _ us hl => match us, hl with | [_], _ => rfl
  obtain ⟨f_drops_going, fd_drops_going, g_drops_going, F_drops_going⟩ := t_drops_going.fn X G
  have b_drops_going := F_drops_going.binds (ps := ["rack", "holds", "tube", "other"]) fun _ _ _ _ _ _ us hl => match us, hl with | [_, _, _, _], _ => rfl
  obtain ⟨f_poured, fd_poured, g_poured, F_poured⟩ := t_poured.fn X G
  have b_poured := F_poured.binds (ps := ["rack", "tube", "other", "going"]) fun _ _ _ _ _ _ us hl => match us, hl with | [_, _, _, _], _ => rfl
  obtain ⟨f_is_sorted, fd_is_sorted, g_is_sorted, F_is_sorted⟩ := t_is_sorted.fn X G
  have b_is_sorted := F_is_sorted.binds (ps := ["rack"]) fun _ _ _ _ _ _ us hl => match us, hl with | [_], _ => rfl
  obtain ⟨f_pourings_on, fd_pourings_on, g_pourings_on, F_pourings_on⟩ := t_pourings_on.fn X G
  have b_pourings_on := F_pourings_on.binds (ps := ["rack", "holds"]) fun _ _ _ _ _ _ us hl => match us, hl with | [_, _], _ => rfl
  obtain ⟨f_ways_to_each, fd_ways_to_each, g_ways_to_each, F_ways_to_each⟩ := t_ways_to_each.fn X G
  have b_ways_to_each := F_ways_to_each.binds (ps := ["rack", "holds"]) fun _ _ _ _ _ _ us hl => match us, hl with | [_, _], _ => rfl
  obtain ⟨f_pourings_of, fd_pourings_of, g_pourings_of, F_pourings_of⟩ := t_pourings_of.fn X G
  have b_pourings_of := F_pourings_of.binds (ps := ["way"]) fun _ _ _ _ _ _ us hl => match us, hl with | [_], _ => rfl
  obtain ⟨f_plan_among, fd_plan_among, g_plan_among, F_plan_among⟩ := t_plan_among.fn X G
  have b_plan_among := F_plan_among.binds (ps := ["ways"]) fun _ _ _ _ _ _ us hl => match us, hl with | [_], _ => rfl
  obtain ⟨f_racks_ahead_of_each, fd_racks_ahead_of_each, g_racks_ahead_of_each, F_racks_ahead_of_each⟩ := t_racks_ahead_of_each.fn X G
  have b_racks_ahead_of_each := F_racks_ahead_of_each.binds (ps := ["racks", "holds"]) fun _ _ _ _ _ _ us hl => match us, hl with | [_, _], _ => rfl
  obtain ⟨f_how_many_lead_on, fd_how_many_lead_on, g_how_many_lead_on, F_how_many_lead_on⟩ := t_how_many_lead_on.fn X G
  have b_how_many_lead_on := F_how_many_lead_on.binds (ps := ["racks", "holds"]) fun _ _ _ _ _ _ us hl => match us, hl with | [_, _], _ => rfl
  obtain ⟨f_behind_call, fd_behind_call, g_behind_call, F_behind_call⟩ := t_behind_call.fn X G
  have b_behind_call := F_behind_call.binds (ps := ["calls", "at"]) fun _ _ _ _ _ _ us hl => match us, hl with | [_, _], _ => rfl
  obtain ⟨f_number_alone, fd_number_alone, g_number_alone, F_number_alone⟩ := t_number_alone.fn X G
  have b_number_alone := F_number_alone.binds (ps := ["tubes", "call"]) fun _ _ _ _ _ _ us hl => match us, hl with | [_, _], _ => rfl
  obtain ⟨f_number_and_lists, fd_number_and_lists, g_number_and_lists, F_number_and_lists⟩ := t_number_and_lists.fn X G
  have b_number_and_lists := F_number_and_lists.binds (ps := ["tubes", "call"]) fun _ _ _ _ _ _ us hl => match us, hl with | [_, _], _ => rfl
  obtain ⟨f_laid_out, fd_laid_out, g_laid_out, F_laid_out⟩ := t_laid_out.fn X G
  have b_laid_out := F_laid_out.binds (ps := ["number", "lists"]) fun _ _ _ _ _ _ us hl => match us, hl with | [_, _], _ => rfl
  obtain ⟨f_answers, fd_answers, g_answers, F_answers⟩ := t_answers.fn X G
  have b_answers := F_answers.binds (ps := ["calls"]) fun _ _ _ _ _ _ us hl => match us, hl with | [_], _ => rfl
  obtain ⟨e_init, ed_init, h_init, i_init, E_init⟩ := m_init.fn
  have c_init := E_init.binds (ps := ["self"]) fun _ _ _ _ _ _ us hl => match us, hl with | [_], _ => rfl
  obtain ⟨e_begins, ed_begins, h_begins, i_begins, E_begins⟩ := m_begins.fn
  have c_begins := E_begins.binds (ps := ["self", "holds", "tubes"]) fun _ _ _ _ _ _ us hl => match us, hl with | [_, _, _], _ => rfl
  obtain ⟨e_fill, ed_fill, h_fill, i_fill, E_fill⟩ := m_fill.fn
  have c_fill := E_fill.binds (ps := ["self", "tube", "colours"]) fun _ _ _ _ _ _ us hl => match us, hl with | [_, _, _], _ => rfl
  obtain ⟨e_pour, ed_pour, h_pour, i_pour, E_pour⟩ := m_pour.fn
  have c_pour := E_pour.binds (ps := ["self", "tube", "other"]) fun _ _ _ _ _ _ us hl => match us, hl with | [_, _, _], _ => rfl
  obtain ⟨e_may, ed_may, h_may, i_may, E_may⟩ := m_may.fn
  have c_may := E_may.binds (ps := ["self", "tube", "other"]) fun _ _ _ _ _ _ us hl => match us, hl with | [_, _, _], _ => rfl
  obtain ⟨e_sortedness, ed_sortedness, h_sortedness, i_sortedness, E_sortedness⟩ := m_sortedness.fn
  have c_sortedness := E_sortedness.binds (ps := ["self"]) fun _ _ _ _ _ _ us hl => match us, hl with | [_], _ => rfl
  obtain ⟨e_fewest, ed_fewest, h_fewest, i_fewest, E_fewest⟩ := m_fewest.fn
  have c_fewest := E_fewest.binds (ps := ["self"]) fun _ _ _ _ _ _ us hl => match us, hl with | [_], _ => rfl
  obtain ⟨e_plan, ed_plan, h_plan, i_plan, E_plan⟩ := m_plan.fn
  have c_plan := E_plan.binds (ps := ["self"]) fun _ _ _ _ _ _ us hl => match us, hl with | [_], _ => rfl
  obtain ⟨e_reach, ed_reach, h_reach, i_reach, E_reach⟩ := m_reach.fn
  have c_reach := E_reach.binds (ps := ["self"]) fun _ _ _ _ _ _ us hl => match us, hl with | [_], _ => rfl
  obtain ⟨e_lost, ed_lost, h_lost, i_lost, E_lost⟩ := m_lost.fn
  have c_lost := E_lost.binds (ps := ["self", "tube", "other"]) fun _ _ _ _ _ _ us hl => match us, hl with | [_, _, _], _ => rfl
  obtain ⟨e_drops_in, ed_drops_in, h_drops_in, i_drops_in, E_drops_in⟩ := m_drops_in.fn
  have c_drops_in := E_drops_in.binds (ps := ["self", "tube"]) fun _ _ _ _ _ _ us hl => match us, hl with | [_, _], _ => rfl
  obtain ⟨e_state, ed_state, h_state, i_state, E_state⟩ := m_state.fn
  have c_state := E_state.binds (ps := ["self"]) fun _ _ _ _ _ _ us hl => match us, hl with | [_], _ => rfl
  have ea := hfa.symm.trans g_answers
  cases ea
  refine ⟨fd_answers, fun s us hu => ?_, fun base _ _ => ?_⟩
  · exact bindsAns F_answers s us hu
  · have H_with_tube := Has.of (P := P) (w := w) (base := base) F_with_tube g_with_tube b_with_tube (ok_with F_with_tube TT)
    have H_together_on_top := Has.of (P := P) (w := w) (base := base) F_together_on_top g_together_on_top b_together_on_top (ok_top F_together_on_top TT)
    have H_drops_going := Has.of (P := P) (w := w) (base := base) F_drops_going g_drops_going b_drops_going (ok_going F_drops_going TT H_together_on_top)
    have H_poured := Has.of (P := P) (w := w) (base := base) F_poured g_poured b_poured (ok_poured F_poured TT H_with_tube)
    have H_is_sorted := Has.of (P := P) (w := w) (base := base) F_is_sorted g_is_sorted b_is_sorted (ok_sorted F_is_sorted TT H_together_on_top)
    have H_pourings_on := Has.of (P := P) (w := w) (base := base) F_pourings_on g_pourings_on b_pourings_on (ok_outs F_pourings_on TT H_drops_going H_poured)
    have H_ways_to_each := Has.of (P := P) (w := w) (base := base) F_ways_to_each g_ways_to_each b_ways_to_each (ok_ways F_ways_to_each TT m300 H_pourings_on)
    have H_pourings_of := Has.of (P := P) (w := w) (base := base) F_pourings_of g_pourings_of b_pourings_of (ok_of F_pourings_of TT)
    have H_plan_among := Has.of (P := P) (w := w) (base := base) F_plan_among g_plan_among b_plan_among (ok_plan F_plan_among TT H_is_sorted)
    have H_racks_ahead_of_each := Has.of (P := P) (w := w) (base := base) F_racks_ahead_of_each g_racks_ahead_of_each b_racks_ahead_of_each (ok_ahead F_racks_ahead_of_each TT H_pourings_on)
    have H_how_many_lead_on := Has.of (P := P) (w := w) (base := base) F_how_many_lead_on g_how_many_lead_on b_how_many_lead_on (ok_lead F_how_many_lead_on TT H_racks_ahead_of_each H_is_sorted)
    have M_begins := HasM.mk ⟨e_begins, ed_begins, ⟨h_begins, i_begins, E_begins.kp⟩, c_begins, ok_begins (P := P) (w := w) (base := base) E_begins T⟩
    have M_fill := HasM.mk ⟨e_fill, ed_fill, ⟨h_fill, i_fill, E_fill.kp⟩, c_fill, ok_fill (P := P) (w := w) (base := base) E_fill TT T H_with_tube⟩
    have M_pour := HasM.mk ⟨e_pour, ed_pour, ⟨h_pour, i_pour, E_pour.kp⟩, c_pour, ok_pour (P := P) (w := w) (base := base) E_pour TT T H_drops_going H_poured⟩
    have M_may := HasM.mk ⟨e_may, ed_may, ⟨h_may, i_may, E_may.kp⟩, c_may, ok_may (P := P) (w := w) (base := base) E_may TT T H_drops_going⟩
    have M_sortedness := HasM.mk ⟨e_sortedness, ed_sortedness, ⟨h_sortedness, i_sortedness, E_sortedness.kp⟩, c_sortedness, ok_sd (P := P) (w := w) (base := base) E_sortedness T H_is_sorted⟩
    have M_plan := HasM.mk ⟨e_plan, ed_plan, ⟨h_plan, i_plan, E_plan.kp⟩, c_plan, ok_plan2 (P := P) (w := w) (base := base) E_plan T H_ways_to_each H_plan_among H_pourings_of⟩
    have M_fewest := HasM.mk ⟨e_fewest, ed_fewest, ⟨h_fewest, i_fewest, E_fewest.kp⟩, c_fewest, ok_few (P := P) (w := w) (base := base) E_fewest T M_plan⟩
    have M_reach := HasM.mk ⟨e_reach, ed_reach, ⟨h_reach, i_reach, E_reach.kp⟩, c_reach, ok_reach (P := P) (w := w) (base := base) E_reach TT T H_ways_to_each H_is_sorted H_how_many_lead_on⟩
    have M_lost := HasM.mk ⟨e_lost, ed_lost, ⟨h_lost, i_lost, E_lost.kp⟩, c_lost, ok_lost (P := P) (w := w) (base := base) E_lost TT T H_ways_to_each H_drops_going H_plan_among H_poured H_pourings_of⟩
    have M_drops_in := HasM.mk ⟨e_drops_in, ed_drops_in, ⟨h_drops_in, i_drops_in, E_drops_in.kp⟩, c_drops_in, ok_in (P := P) (w := w) (base := base) E_drops_in TT T⟩
    have M_state := HasM.mk ⟨e_state, ed_state, ⟨h_state, i_state, E_state.kp⟩, c_state, ok_state (P := P) (w := w) (base := base) E_state TT T⟩
    have H_behind_call := Has.of (P := P) (w := w) (base := base) F_behind_call g_behind_call b_behind_call (ok_behind F_behind_call N)
    have H_number_alone := Has.of (P := P) (w := w) (base := base) F_number_alone g_number_alone b_number_alone (ok_alone F_number_alone T N M_begins M_fill M_pour M_may M_sortedness M_fewest)
    have H_number_and_lists := Has.of (P := P) (w := w) (base := base) F_number_and_lists g_number_and_lists b_number_and_lists (ok_lists F_number_and_lists T N H_number_alone M_plan M_reach M_lost M_drops_in M_state)
    have H_laid_out := Has.of (P := P) (w := w) (base := base) F_laid_out g_laid_out b_laid_out (ok_laid F_laid_out TT)
    exact ok_ans F_answers TT (PySem.W.mg_of X G aC) ⟨mk, h_init, i_init, kc⟩ (ok_init E_init T) c_init H_behind_call H_number_and_lists H_laid_out
end Tb
open PySem PySem.W PyProof.Rows
set_option maxRecDepth 100000 in
set_option maxHeartbeats 8000000 in
theorem PySem.Challenge.cw_tubedrops_s01_answers_holds : PySem.Challenge.rw_tubedrops_s01_answers.Holds := by
  w_on; k_headS; (case hw => exact ⟨[.list [.int 10]], by decide +kernel, by decide +kernel⟩)
  k_fillS
  refine L2.walk_specK (r := PySem.Challenge.rw_tubedrops_s01_answers) (k := 9) (CX := L2.CX0) (ps := ["calls"]) (sp := Tb.spAns) (by decide +kernel) rfl rfl ⟨rfl, by decide, by decide⟩ (fun w h Y => PySem.W.kIn_of Y) ?F ?S (fun _ _ _ _ z => z)
  case F =>
    intro w mg fa h Y KX G hmg
    refine' Tb.all_mk KX G hmg ?aC ?t_with_tube ?t_together_on_top ?t_drops_going ?t_poured ?t_is_sorted ?t_pourings_on ?t_ways_to_each ?t_pourings_of ?t_plan_among ?t_racks_ahead_of_each ?t_how_many_lead_on ?t_behind_call ?t_number_alone ?t_number_and_lists ?t_laid_out ?t_answers ?m_init ?m_begins ?m_fill ?m_pour ?m_may ?m_sortedness ?m_fewest ?m_plan ?m_reach ?m_lost ?m_drops_in ?m_state ?i_NOT_ALLOWED ?i_NO_SUCH_TUBE ?i_NOTHING_LEADS_ON ?i_CANNOT_BE ?i_TOO_MANY_RACKS ?i_HIGHEST_COLOUR ?i_BEGINS ?i_FILL ?i_POUR ?i_MAY ?i_SORTED ?i_FEWEST ?i_PLAN ?i_REACH ?i_LOST ?i_TUBE ?i_MOST_RACKS ?wW ?z_list ?z_tuple ?z_reversed ?z_min ?z_max ?z_len ?z_range ?z_sum ?pg ?hd ?po ?sa ?mk ?kc ?nH ?nR ?nD
    (case aC => k_is)
    (case t_with_tube => (refine' Tb.TopDef.mk ?a ?l ?c ?k; (case a => k_is); (case l => k_is); (case c => k_is); (case k => k_is)))
    (case t_together_on_top => (refine' Tb.TopDef.mk ?a ?l ?c ?k; (case a => k_is); (case l => k_is); (case c => k_is); (case k => k_is)))
    (case t_drops_going => (refine' Tb.TopDef.mk ?a ?l ?c ?k; (case a => k_is); (case l => k_is); (case c => k_is); (case k => k_is)))
    (case t_poured => (refine' Tb.TopDef.mk ?a ?l ?c ?k; (case a => k_is); (case l => k_is); (case c => k_is); (case k => k_is)))
    (case t_is_sorted => (refine' Tb.TopDef.mk ?a ?l ?c ?k; (case a => k_is); (case l => k_is); (case c => k_is); (case k => k_is)))
    (case t_pourings_on => (refine' Tb.TopDef.mk ?a ?l ?c ?k; (case a => k_is); (case l => k_is); (case c => k_is); (case k => k_is)))
    (case t_ways_to_each => (refine' Tb.TopDef.mk ?a ?l ?c ?k; (case a => k_is); (case l => k_is); (case c => k_is); (case k => k_is)))
    (case t_pourings_of => (refine' Tb.TopDef.mk ?a ?l ?c ?k; (case a => k_is); (case l => k_is); (case c => k_is); (case k => k_is)))
    (case t_plan_among => (refine' Tb.TopDef.mk ?a ?l ?c ?k; (case a => k_is); (case l => k_is); (case c => k_is); (case k => k_is)))
    (case t_racks_ahead_of_each => (refine' Tb.TopDef.mk ?a ?l ?c ?k; (case a => k_is); (case l => k_is); (case c => k_is); (case k => k_is)))
    (case t_how_many_lead_on => (refine' Tb.TopDef.mk ?a ?l ?c ?k; (case a => k_is); (case l => k_is); (case c => k_is); (case k => k_is)))
    (case t_behind_call => (refine' Tb.TopDef.mk ?a ?l ?c ?k; (case a => k_is); (case l => k_is); (case c => k_is); (case k => k_is)))
    (case t_number_alone => (refine' Tb.TopDef.mk ?a ?l ?c ?k; (case a => k_is); (case l => k_is); (case c => k_is); (case k => k_is)))
    (case t_number_and_lists => (refine' Tb.TopDef.mk ?a ?l ?c ?k; (case a => k_is); (case l => k_is); (case c => k_is); (case k => k_is)))
    (case t_laid_out => (refine' Tb.TopDef.mk ?a ?l ?c ?k; (case a => k_is); (case l => k_is); (case c => k_is); (case k => k_is)))
    (case t_answers => (refine' Tb.TopDef.mk ?a ?l ?c ?k; (case a => k_is); (case l => k_is); (case c => k_is); (case k => k_is)))
    (case m_init => (refine' Tb.MethDef.mk ?a ?i ?l ?c ?k; (case a => k_is); (case i => k_is); (case l => k_is); (case c => k_is); (case k => k_is)))
    (case m_begins => (refine' Tb.MethDef.mk ?a ?i ?l ?c ?k; (case a => k_is); (case i => k_is); (case l => k_is); (case c => k_is); (case k => k_is)))
    (case m_fill => (refine' Tb.MethDef.mk ?a ?i ?l ?c ?k; (case a => k_is); (case i => k_is); (case l => k_is); (case c => k_is); (case k => k_is)))
    (case m_pour => (refine' Tb.MethDef.mk ?a ?i ?l ?c ?k; (case a => k_is); (case i => k_is); (case l => k_is); (case c => k_is); (case k => k_is)))
    (case m_may => (refine' Tb.MethDef.mk ?a ?i ?l ?c ?k; (case a => k_is); (case i => k_is); (case l => k_is); (case c => k_is); (case k => k_is)))
    (case m_sortedness => (refine' Tb.MethDef.mk ?a ?i ?l ?c ?k; (case a => k_is); (case i => k_is); (case l => k_is); (case c => k_is); (case k => k_is)))
    (case m_fewest => (refine' Tb.MethDef.mk ?a ?i ?l ?c ?k; (case a => k_is); (case i => k_is); (case l => k_is); (case c => k_is); (case k => k_is)))
    (case m_plan => (refine' Tb.MethDef.mk ?a ?i ?l ?c ?k; (case a => k_is); (case i => k_is); (case l => k_is); (case c => k_is); (case k => k_is)))
    (case m_reach => (refine' Tb.MethDef.mk ?a ?i ?l ?c ?k; (case a => k_is); (case i => k_is); (case l => k_is); (case c => k_is); (case k => k_is)))
    (case m_lost => (refine' Tb.MethDef.mk ?a ?i ?l ?c ?k; (case a => k_is); (case i => k_is); (case l => k_is); (case c => k_is); (case k => k_is)))
    (case m_drops_in => (refine' Tb.MethDef.mk ?a ?i ?l ?c ?k; (case a => k_is); (case i => k_is); (case l => k_is); (case c => k_is); (case k => k_is)))
    (case m_state => (refine' Tb.MethDef.mk ?a ?i ?l ?c ?k; (case a => k_is); (case i => k_is); (case l => k_is); (case c => k_is); (case k => k_is)))
    (case i_NOT_ALLOWED => (refine' Tb.IntDef.mk ?a; (case a => k_is)))
    (case i_NO_SUCH_TUBE => (refine' Tb.IntDef.mk ?a; (case a => k_is)))
    (case i_NOTHING_LEADS_ON => (refine' Tb.IntDef.mk ?a; (case a => k_is)))
    (case i_CANNOT_BE => (refine' Tb.IntDef.mk ?a; (case a => k_is)))
    (case i_TOO_MANY_RACKS => (refine' Tb.IntDef.mk ?a; (case a => k_is)))
    (case i_HIGHEST_COLOUR => (refine' Tb.IntDef.mk ?a; (case a => k_is)))
    (case i_BEGINS => (refine' Tb.IntDef.mk ?a; (case a => k_is)))
    (case i_FILL => (refine' Tb.IntDef.mk ?a; (case a => k_is)))
    (case i_POUR => (refine' Tb.IntDef.mk ?a; (case a => k_is)))
    (case i_MAY => (refine' Tb.IntDef.mk ?a; (case a => k_is)))
    (case i_SORTED => (refine' Tb.IntDef.mk ?a; (case a => k_is)))
    (case i_FEWEST => (refine' Tb.IntDef.mk ?a; (case a => k_is)))
    (case i_PLAN => (refine' Tb.IntDef.mk ?a; (case a => k_is)))
    (case i_REACH => (refine' Tb.IntDef.mk ?a; (case a => k_is)))
    (case i_LOST => (refine' Tb.IntDef.mk ?a; (case a => k_is)))
    (case i_TUBE => (refine' Tb.IntDef.mk ?a; (case a => k_is)))
    (case i_MOST_RACKS => (refine' Tb.IntDef.mk ?a; (case a => k_is)))
    (case wW => (refine' Tb.TupDef.mk ?h1 ?h2 ?h3 ?h4 ?h5 ?h6; (case h1 => k_is); (case h2 => k_is); (case h3 => rfl); (case h4 => rfl); (case h5 => decide +kernel); (case h6 => exact (.cons ⟨_, rfl⟩ (.cons ⟨_, rfl⟩ (.cons ⟨_, rfl⟩ (.cons ⟨_, rfl⟩ (.cons ⟨_, rfl⟩ (.cons ⟨_, rfl⟩ (.cons ⟨_, rfl⟩ (.cons ⟨_, rfl⟩ (.cons ⟨_, rfl⟩ (.cons ⟨_, rfl⟩ (.cons ⟨_, rfl⟩ .nil))))))))))))))
    (case z_list => k_is)
    (case z_tuple => k_is)
    (case z_reversed => k_is)
    (case z_min => k_is)
    (case z_max => k_is)
    (case z_len => k_is)
    (case z_range => k_is)
    (case z_sum => k_is)
    (case pg => k_is)
    (case hd => k_is)
    (case po => k_is)
    (case sa => k_is)
    (case mk => k_is)
    (case kc => k_is)
    (case nH => k_is)
    (case nR => k_is)
    (case nD => k_is)
  case S =>
    intro K H xs a hO hwi hask hx
    cases hx with
    | cons h1 h2 =>
      cases h2
      cases h1 with
      | lst hs ha =>
        have e := L2.ints_dw a.1 _ ha
        subst e
        have q : ((Codec.inLen 0 5040 a.1 && a.1.all (Codec.inInt 0 4294967295)) && true) = true := hwi
        rw [Bool.and_eq_true, Bool.and_eq_true] at q
        exact ⟨_, a.1, rfl, hs, hask, (Codec.inNat_iff.mp q.1.1).2, fun H' p hp => .lst (L2.SqL.of hp) (L2.dw_ints _)⟩
