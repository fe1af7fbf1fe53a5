import PyProof.Rows.All
import Wide.All
import OpenK.AllK
import Wide.FinOn
import Open.SpecLaws
import KE.OsGo
import HandS.ForSpec
import HandS.ForMost
import PySem.Challenge.RW_gluetilesdesk_s01_answers
import HandS.Codes
import HandS.Conv
import HandS.SetFor
import HandS.Walk
set_option Elab.async false
set_option linter.all false
set_option maxRecDepth 100000
set_option maxHeartbeats 4000000
/-! Mathematics: the specification's own functions, no program here. -/
namespace Gt
open Krbp

/-! ### encoding of a grid -/
def encT : Option Nat → Int
  | none => 0
  | some i => (i : Int) + 1
def encG (g : Grid) : List Int := g.map encT
theorem encG_length (g : Grid) : (encG g).length = g.length := List.length_map ..
theorem encT_zero (t : Option Nat) : encT t = 0 ↔ t = none := by
  cases t with
  | none => exact ⟨fun _ => rfl, fun _ => rfl⟩
  | some i => exact ⟨fun h => by simp only [encT] at h; omega, fun h => by cases h⟩
theorem encT_inj {a b : Option Nat} (h : encT a = encT b) : a = b := by
  cases a <;> cases b <;> simp only [encT] at h
  · rfl
  · omega
  · omega
  · congr 1; omega
theorem encG_inj : ∀ {a b : Grid}, encG a = encG b → a = b
  | [], [], _ => rfl
  | [], _ :: _, h => by cases h
  | _ :: _, [], h => by cases h
  | x :: a, y :: b, h => by
    have h' : encT x :: encG a = encT y :: encG b := h
    injection h' with h1 h2
    rw [encT_inj h1, encG_inj h2]
theorem encG_get {g : Grid} {p : Nat} (h : p < g.length) : (encG g)[p]? = some (encT (tileAt g p)) := by
  unfold encG tileAt
  rw [List.getElem?_map, List.getElem?_eq_getElem h, List.getD_eq_getElem?_getD, List.getElem?_eq_getElem h]
  rfl
theorem encG_place (g : Grid) (p i : Nat) : encG (place g p i) = (encG g).set p ((i : Int) + 1) := by
  unfold encG place
  rw [List.map_set]
  rfl
theorem encG_replicate (n : Nat) : encG (List.replicate n none) = List.replicate n 0 := by
  unfold encG
  rw [List.map_replicate]
  rfl
theorem place_length (g : Grid) (p i : Nat) : (place g p i).length = g.length := List.length_set ..
theorem placeAll_nil (g : Grid) : placeAll g [] = g := rfl
theorem placeAll_cons (g : Grid) (x : Nat × Nat) (l : List (Nat × Nat)) : placeAll g (x :: l) = placeAll (place g x.1 x.2) l := rfl
theorem placeAll_append (g : Grid) (l m : List (Nat × Nat)) : placeAll g (l ++ m) = placeAll (placeAll g l) m := List.foldl_append ..
theorem placeAll_length (g : Grid) (l : List (Nat × Nat)) : (placeAll g l).length = g.length := by
  induction l generalizing g with
  | nil => rfl
  | cons x l ih => rw [placeAll_cons, ih, place_length]
theorem tileAt_place {g : Grid} {p i q : Nat} (h : p < g.length) : tileAt (place g p i) q = if q = p then some i else tileAt g q := by
  unfold tileAt place
  rw [List.getD_eq_getElem?_getD, List.getD_eq_getElem?_getD]
  by_cases c : q = p
  · subst c
    rw [if_pos rfl, List.getElem?_set_self h]
    rfl
  · rw [if_neg c, List.getElem?_set_ne (fun e => c e.symm)]
theorem tileAt_none_of_ge {g : Grid} {p : Nat} (h : g.length ≤ p) : tileAt g p = none := by
  unfold tileAt
  rw [List.getD_eq_getElem?_getD, List.getElem?_eq_none h]
  rfl
theorem lt_of_tileAt {g : Grid} {p i : Nat} (h : tileAt g p = some i) : p < g.length := by
  refine Nat.lt_of_not_le fun c => ?_
  rw [tileAt_none_of_ge c] at h
  cases h

/-! ### grids that fit a system -/
structure GOk (s : TileSystem) (g : Grid) : Prop where
  len : g.length = s.size
  ty : ∀ p i, tileAt g p = some i → i < s.tileTypes.length
theorem GOk.place {s : TileSystem} {g : Grid} (h : GOk s g) {p i : Nat} (hp : p < s.size) (hi : i < s.tileTypes.length) : GOk s (Krbp.place g p i) := by
  refine ⟨by rw [place_length]; exact h.len, fun q j e => ?_⟩
  rw [tileAt_place (by rw [h.len]; exact hp)] at e
  by_cases c : q = p
  · rw [if_pos c] at e
    cases e
    exact hi
  · rw [if_neg c] at e
    exact h.ty q j e
theorem GOk.placeAll {s : TileSystem} : ∀ {l : List (Nat × Nat)} {g : Grid}, GOk s g → (∀ x ∈ l, x.1 < s.size ∧ x.2 < s.tileTypes.length) → GOk s (Krbp.placeAll g l)
  | [], _, h, _ => h
  | x :: l, g, h, hl => by
    rw [placeAll_cons]
    have hx := hl x (List.mem_cons_self ..)
    exact GOk.placeAll (h.place hx.1 hx.2) fun y hy => hl y (List.mem_cons_of_mem _ hy)
theorem GOk.empty (s : TileSystem) : GOk s (List.replicate s.size none) := by
  refine ⟨List.length_replicate .., fun p i e => ?_⟩
  unfold tileAt at e
  rw [List.getD_eq_getElem?_getD, List.getElem?_replicate] at e
  by_cases c : p < s.size
  · rw [if_pos c] at e
    cases e
  · rw [if_neg c] at e
    cases e

/-! ### how many places are empty -/
def emp (g : Grid) : Nat := g.countP (·.isNone)
theorem emp_le (g : Grid) : emp g ≤ g.length := List.countP_le_length
theorem emp_place {g : Grid} {p i : Nat} (hp : p < g.length) (h : tileAt g p = none) : emp (place g p i) + 1 = emp g := by
  unfold tileAt at h
  rw [List.getD_eq_getElem?_getD, List.getElem?_eq_getElem hp] at h
  have hn : g[p] = none := h
  have hpos : 0 < g.countP (·.isNone) := List.countP_pos_iff.mpr ⟨g[p], List.getElem_mem hp, by rw [hn]; rfl⟩
  unfold emp place
  rw [List.countP_set hp, hn]
  simp
  omega

/-! ### the first in a range -/
theorem range_split {n p : Nat} (h : p < n) : ∃ r, List.range n = List.range p ++ p :: r := by
  obtain ⟨m, rfl⟩ : ∃ m, n = p + (m + 1) := ⟨n - p - 1, by omega⟩
  refine ⟨(List.range m).map (fun x => p + (x + 1)), ?_⟩
  rw [List.range_add, List.range_succ_eq_map]
  simp [Function.comp_def]
theorem findSome_range_some {α : Type} {f : Nat → Option α} {n p : Nat} {x : α} (hp : p < n) (hx : f p = some x) (hb : ∀ j, j < p → f j = none) : (List.range n).findSome? f = some x := by
  obtain ⟨r, e⟩ := range_split hp
  rw [e, List.findSome?_append, List.findSome?_eq_none_iff.mpr fun j hj => hb j (List.mem_range.mp hj)]
  simp [hx]
theorem findSome_range_none {α : Type} {f : Nat → Option α} {n : Nat} (hb : ∀ j, j < n → f j = none) : (List.range n).findSome? f = none :=
  List.findSome?_eq_none_iff.mpr fun j hj => hb j (List.mem_range.mp hj)
theorem head_filter_some {f : Nat → Bool} {n i : Nat} (hi : i < n) (hf : f i = true) (hb : ∀ j, j < i → f j = false) : ((List.range n).filter f).head? = some i := by
  obtain ⟨r, e⟩ := range_split hi
  have e0 : (List.range i).filter f = [] := List.filter_eq_nil_iff.mpr fun j hj => by
    rw [hb j (List.mem_range.mp hj)]
    exact Bool.false_ne_true
  rw [e, List.filter_append, e0, List.nil_append, List.filter_cons_of_pos hf]
  rfl
theorem head_filter_none {f : Nat → Bool} {n : Nat} (hb : ∀ j, j < n → f j = false) : ((List.range n).filter f).head? = none := by
  rw [List.filter_eq_nil_iff.mpr fun j hj => by rw [hb j (List.mem_range.mp hj)]; exact Bool.false_ne_true]
  rfl
theorem head_filter_of {f : Nat → Bool} {n i : Nat} (h : ((List.range n).filter f).head? = some i) : i < n ∧ f i = true := by
  have m := List.mem_of_head? h
  rw [List.mem_filter] at m
  exact ⟨List.mem_range.mp m.1, m.2⟩

/-! ### attaching -/
theorem can_iff {s : TileSystem} {g : Grid} {p i : Nat} : s.canAttach g p i = true ↔ tileAt g p = none ∧ s.threshold ≤ s.bindingStrength g p i := by
  unfold TileSystem.canAttach
  rw [Bool.and_eq_true, decide_eq_true_iff]
  cases tileAt g p <;> simp
theorem kind_of {s : TileSystem} {g : Grid} {p i : Nat} (h : (s.attachableTypes g p).head? = some i) : i < s.tileTypes.length ∧ s.canAttach g p i = true := head_filter_of h
theorem first_of {s : TileSystem} {g : Grid} {p i : Nat} (h : s.firstAttachment g = some (p, i)) : p < s.size ∧ i < s.tileTypes.length ∧ s.canAttach g p i = true := by
  unfold TileSystem.firstAttachment at h
  obtain ⟨q, hq, e⟩ := List.exists_of_findSome?_eq_some h
  cases c : (s.attachableTypes g q).head? with
  | none =>
    rw [c] at e
    cases e
  | some j =>
    rw [c] at e
    cases e
    exact ⟨List.mem_range.mp hq, kind_of c⟩
theorem first_empty {s : TileSystem} {g : Grid} {p i : Nat} (h : s.firstAttachment g = some (p, i)) : tileAt g p = none := (can_iff.mp (first_of h).2.2).1
theorem growth_stop {s : TileSystem} {g : Grid} (h : s.firstAttachment g = none) : ∀ n, s.growth n g = []
  | 0 => rfl
  | n + 1 => by
    show (match s.firstAttachment g with | none => [] | some (p, i) => (p, i) :: TileSystem.growth s n (place g p i)) = []
    rw [h]
theorem growth_step {s : TileSystem} {g : Grid} {p i : Nat} (h : s.firstAttachment g = some (p, i)) (n : Nat) : s.growth (n + 1) g = (p, i) :: s.growth n (place g p i) := by
  show (match s.firstAttachment g with | none => [] | some (p, i) => (p, i) :: TileSystem.growth s n (place g p i)) = _
  rw [h]
theorem growth_ok {s : TileSystem} : ∀ (n : Nat) (g : Grid), ∀ x ∈ s.growth n g, x.1 < s.size ∧ x.2 < s.tileTypes.length
  | 0, g, x, h => by cases h
  | n + 1, g, x, h => by
    cases e : s.firstAttachment g with
    | none =>
      rw [growth_stop e] at h
      cases h
    | some y =>
      obtain ⟨p, i⟩ := y
      rw [growth_step e] at h
      rcases List.mem_cons.mp h with rfl | h
      · exact ⟨(first_of e).1, (first_of e).2.1⟩
      · exact growth_ok n _ x h
theorem growth_length {s : TileSystem} : ∀ (n : Nat) (g : Grid), (s.growth n g).length ≤ n
  | 0, g => Nat.le_refl _
  | n + 1, g => by
    cases e : s.firstAttachment g with
    | none => rw [growth_stop e]; exact Nat.zero_le _
    | some y =>
      obtain ⟨p, i⟩ := y
      rw [growth_step e]
      exact Nat.succ_le_succ (growth_length n _)
theorem GOk.grown {s : TileSystem} {g : Grid} (h : GOk s g) : GOk s (s.grown g) := h.placeAll (growth_ok _ _)

/-! ### neighbours and bonds -/
def nbrL (w h p : Nat) : List (Nat × Nat × Nat) :=
  (if p / w + 1 < h then [(p + w, 0, 2)] else []) ++ ((if p % w + 1 < w then [(p + 1, 1, 3)] else []) ++ ((if 0 < p / w then [(p - w, 2, 0)] else []) ++ (if 0 < p % w then [(p - 1, 3, 1)] else [])))
def bondOf (s : TileSystem) (g : Grid) (t : Nat) (x : Nat × Nat × Nat) : Nat := match tileAt g x.1 with
  | none => 0
  | some o => if s.glueOf t x.2.1 = s.glueOf o x.2.2 then s.strengthOf (s.glueOf t x.2.1) else 0
theorem binding_nbr (s : TileSystem) (g : Grid) (p t : Nat) : s.bindingStrength g p t = (nbrL s.width s.height p).foldl (fun a x => a + bondOf s g t x) 0 := by
  have e : s.bindingStrength g p t = ((0 + s.bond g p t 0) + s.bond g p t 1) + s.bond g p t 2 + s.bond g p t 3 := rfl
  rw [e]
  have b (d q : Nat) (h : s.neighbour p d = some q) : s.bond g p t d = bondOf s g t (q, d, opposite d) := by
    unfold TileSystem.bond bondOf
    rw [h]
    dsimp only
    cases tileAt g q with
    | none => rfl
    | some o => simp only [beq_iff_eq]
  have b0 (d : Nat) (h : s.neighbour p d = none) : s.bond g p t d = 0 := by
    unfold TileSystem.bond
    rw [h]
  have n0 : s.bond g p t 0 = if p / s.width + 1 < s.height then bondOf s g t (p + s.width, 0, 2) else 0 := by
    split
    · rename_i c; exact b 0 _ (by simp [TileSystem.neighbour, c])
    · rename_i c; exact b0 0 (by simp [TileSystem.neighbour, c])
  have n1 : s.bond g p t 1 = if p % s.width + 1 < s.width then bondOf s g t (p + 1, 1, 3) else 0 := by
    split
    · rename_i c; exact b 1 _ (by simp [TileSystem.neighbour, c])
    · rename_i c; exact b0 1 (by simp [TileSystem.neighbour, c])
  have n2 : s.bond g p t 2 = if 0 < p / s.width then bondOf s g t (p - s.width, 2, 0) else 0 := by
    split
    · rename_i c; exact b 2 _ (by unfold TileSystem.neighbour; rw [if_neg (by decide), if_neg (by decide), if_pos rfl]; exact if_pos c)
    · rename_i c; exact b0 2 (by unfold TileSystem.neighbour; rw [if_neg (by decide), if_neg (by decide), if_pos rfl]; exact if_neg c)
  have n3 : s.bond g p t 3 = if 0 < p % s.width then bondOf s g t (p - 1, 3, 1) else 0 := by
    split
    · rename_i c; exact b 3 _ (by unfold TileSystem.neighbour; rw [if_neg (by decide), if_neg (by decide), if_neg (by decide)]; exact if_pos c)
    · rename_i c; exact b0 3 (by unfold TileSystem.neighbour; rw [if_neg (by decide), if_neg (by decide), if_neg (by decide)]; exact if_neg c)
  rw [n0, n1, n2, n3]
  unfold nbrL
  by_cases c0 : p / s.width + 1 < s.height <;> by_cases c1 : p % s.width + 1 < s.width <;> by_cases c2 : 0 < p / s.width <;> by_cases c3 : 0 < p % s.width <;>
    simp only [c0, c1, c2, c3, if_true, if_false, List.nil_append, List.cons_append, List.append_nil, List.foldl_cons, List.foldl_nil, Nat.add_zero, Nat.zero_add]
theorem nbr_lt {w h p : Nat} (hp : p < w * h) : ∀ x ∈ nbrL w h p, x.1 < w * h ∧ x.2.1 < 4 ∧ x.2.2 < 4 := by
  intro x hx
  have hw : 0 < w := Nat.pos_of_ne_zero fun e => by rw [e, Nat.zero_mul] at hp; omega
  have hd := Nat.div_add_mod p w
  have hm := Nat.mod_lt p hw
  unfold nbrL at hx
  rcases List.mem_append.mp hx with hx | hx
  · split at hx
    · rename_i c
      rw [List.mem_singleton] at hx
      subst hx
      refine ⟨?_, by simp, by simp⟩
      show p + w < w * h
      have h1 : w * (p / w + 2) ≤ w * h := Nat.mul_le_mul_left _ (by omega)
      rw [Nat.mul_add] at h1
      omega
    · cases hx
  rcases List.mem_append.mp hx with hx | hx
  · split at hx
    · rename_i c
      rw [List.mem_singleton] at hx
      subst hx
      refine ⟨?_, by simp, by simp⟩
      show p + 1 < w * h
      have h0 : p / w < h := Nat.div_lt_of_lt_mul hp
      have h1 : w * (p / w + 1) ≤ w * h := Nat.mul_le_mul_left _ (by omega)
      rw [Nat.mul_add] at h1
      omega
    · cases hx
  rcases List.mem_append.mp hx with hx | hx
  · split at hx
    · rw [List.mem_singleton] at hx
      subst hx
      exact ⟨by show p - w < w * h; omega, by simp, by simp⟩
    · cases hx
  · split at hx
    · rw [List.mem_singleton] at hx
      subst hx
      exact ⟨by show p - 1 < w * h; omega, by simp, by simp⟩
    · cases hx
theorem nbr_length (w h p : Nat) : (nbrL w h p).length ≤ 4 := by
  unfold nbrL
  simp only [List.length_append]
  split <;> split <;> split <;> split <;> simp

/-! ### one parallel round -/
def stepAt (s : TileSystem) (g : Grid) (p : Nat) : Option (Nat × Nat) := (s.attachableTypes g p).head?.map fun i => (p, i)
def stepL (s : TileSystem) (g : Grid) (n : Nat) : List (Nat × Nat) := (List.range n).filterMap (stepAt s g)
theorem stepL_succ (s : TileSystem) (g : Grid) (n : Nat) : stepL s g (n + 1) = stepL s g n ++ (stepAt s g n).toList := by
  unfold stepL
  rw [List.range_succ, List.filterMap_append]
  cases h : stepAt s g n <;> simp [h]
theorem parallelStep_eq (s : TileSystem) (g : Grid) : s.parallelStep g = placeAll g (stepL s g s.size) := rfl
theorem step_ok {s : TileSystem} {g : Grid} (h : GOk s g) : ∀ n, n ≤ s.size → GOk s (placeAll g (stepL s g n)) ∧ (∀ q, n ≤ q → tileAt (placeAll g (stepL s g n)) q = tileAt g q) ∧ emp (placeAll g (stepL s g n)) + (stepL s g n).length = emp g
  | 0, _ => ⟨h, fun _ _ => rfl, rfl⟩
  | n + 1, hn => by
    obtain ⟨h1, h2, h3⟩ := step_ok h n (by omega)
    rw [stepL_succ]
    unfold stepAt
    cases e : (s.attachableTypes g n).head? with
    | none =>
      simp only [Option.map_none, Option.toList_none, List.append_nil]
      exact ⟨h1, fun q hq => h2 q (by omega), h3⟩
    | some i =>
      simp only [Option.map_some, Option.toList_some]
      obtain ⟨hi, hc⟩ := kind_of e
      have hl : n < (placeAll g (stepL s g n)).length := by rw [h1.len]; omega
      have et : tileAt (placeAll g (stepL s g n)) n = none := by rw [h2 n (Nat.le_refl _)]; exact (can_iff.mp hc).1
      have e1 : placeAll g (stepL s g n ++ [(n, i)]) = place (placeAll g (stepL s g n)) n i := by
        rw [placeAll_append]
        rfl
      rw [e1]
      refine ⟨h1.place (by omega) hi, fun q hq => ?_, ?_⟩
      · rw [tileAt_place hl, if_neg (by omega)]
        exact h2 q (by omega)
      · have := emp_place (i := i) hl et
        rw [List.length_append, List.length_singleton]
        omega
theorem GOk.step {s : TileSystem} {g : Grid} (h : GOk s g) : GOk s (s.parallelStep g) := (step_ok h s.size (Nat.le_refl _)).1
theorem step_emp {s : TileSystem} {g : Grid} (h : GOk s g) : emp (s.parallelStep g) + (stepL s g s.size).length = emp g := (step_ok h s.size (Nat.le_refl _)).2.2
theorem terminal_iff {s : TileSystem} {g : Grid} : s.isTerminal g = true ↔ stepL s g s.size = [] := by
  unfold TileSystem.isTerminal TileSystem.firstAttachment stepL
  rw [Option.isNone_iff_eq_none, List.findSome?_eq_none_iff, List.filterMap_eq_nil_iff]
  exact Iff.rfl
theorem terminal_step {s : TileSystem} {g : Grid} (h : s.isTerminal g = true) : s.parallelStep g = g := by
  rw [parallelStep_eq, terminal_iff.mp h]
  rfl
theorem not_terminal_emp {s : TileSystem} {g : Grid} (ok : GOk s g) (h : s.isTerminal g = false) : emp (s.parallelStep g) < emp g := by
  have e := step_emp ok
  have : stepL s g s.size ≠ [] := fun z => by
    rw [terminal_iff.mpr z] at h
    cases h
  have : 0 < (stepL s g s.size).length := List.length_pos_iff.mpr this
  omega
theorem step_ne {s : TileSystem} {g : Grid} (ok : GOk s g) : (s.parallelStep g = g) ↔ s.isTerminal g = true := by
  refine ⟨fun h => ?_, terminal_step⟩
  cases e : s.isTerminal g with
  | true => rfl
  | false =>
    have := not_terminal_emp ok e
    rw [h] at this
    omega
theorem rounds_zero {s : TileSystem} {g : Grid} (h : s.isTerminal g = true) : ∀ n, s.parallelRounds n g = 0
  | 0 => rfl
  | n + 1 => if_pos h
theorem rounds_succ {s : TileSystem} {g : Grid} (h : s.isTerminal g = false) (n : Nat) : s.parallelRounds (n + 1) g = s.parallelRounds n (s.parallelStep g) + 1 := if_neg (by rw [h]; exact Bool.false_ne_true)
theorem empty_of_terminal {s : TileSystem} {g : Grid} (ok : GOk s g) (h : s.isTerminal g = false) : 1 ≤ emp g := by
  have := not_terminal_emp ok h
  omega
end Gt

/-! What the specification's operations give, way by way. -/
namespace Gt
open Krbp
theorem tile_placeAll : ∀ {l : List (Nat × Nat)} {g : Grid} {q : Nat}, (∀ x ∈ l, x.1 < g.length) → ((tileAt (placeAll g l) q).isSome = true ↔ (tileAt g q).isSome = true ∨ q ∈ l.map (·.1))
  | [], g, q, _ => by simp [placeAll_nil]
  | x :: l, g, q, h => by
    rw [placeAll_cons, tile_placeAll (g := place g x.1 x.2) (fun y hy => by rw [place_length]; exact h y (List.mem_cons_of_mem _ hy)), tileAt_place (h x (List.mem_cons_self ..)), List.map_cons, List.mem_cons]
    by_cases c : q = x.1
    · rw [if_pos c]
      simp [c]
    · rw [if_neg c]
      simp [c]
theorem tile_empty (n q : Nat) : tileAt (List.replicate n none) q = none := by
  unfold tileAt
  rw [List.getD_eq_getElem?_getD, List.getElem?_replicate]
  by_cases c : q < n
  · rw [if_pos c]
    rfl
  · rw [if_neg c]
    rfl
theorem filter_all {l : List (Nat × Nat)} {p : Nat} (h : p ∉ l.map (·.1)) : (l.filter fun z => z.1 != p) = l := by
  refine List.filter_eq_self.mpr fun x hx => ?_
  rw [bne_iff_ne]
  exact fun z => h (List.mem_map.mpr ⟨x, hx, z⟩)
theorem filter_len : ∀ {l : List (Nat × Nat)} {p : Nat}, (l.map (·.1)).Nodup → p ∈ l.map (·.1) → (l.filter fun z => z.1 != p).length + 1 = l.length
  | [], _, _, h => by cases h
  | x :: l, p, hn, hp => by
    rw [List.map_cons, List.nodup_cons] at hn
    by_cases c : x.1 = p
    · rw [List.filter_cons_of_neg (by simp [c]), filter_all (c ▸ hn.1)]
      rfl
    · rw [List.filter_cons_of_pos (by simp [c]), List.length_cons, List.length_cons, filter_len hn.2 ((List.mem_cons.mp hp).resolve_left fun z => c z.symm)]
section
variable {b : Instance}
theorem seed_some (hs : ∀ x ∈ b.seeds, x.1 < b.system.size) (q : Nat) : (tileAt b.seedGrid q).isSome = decide (q ∈ b.seeds.map (·.1)) := by
  have e := tile_placeAll (l := b.seeds) (g := List.replicate b.system.size none) (q := q) (fun x hx => by rw [List.length_replicate]; exact hs x hx)
  rw [tile_empty] at e
  rw [Bool.eq_iff_iff, decide_eq_true_iff]
  exact e.trans ⟨fun z => z.resolve_left (by simp), .inr⟩
theorem pos_some {s : TileSystem} {x y : Nat} (h : x < s.width ∧ y < s.height) : s.positionOf x y = some (y * s.width + x) := if_pos h
theorem pos_none {s : TileSystem} {x y : Nat} (h : ¬ (x < s.width ∧ y < s.height)) : s.positionOf x y = none := if_neg h
theorem pos_lt {w h x y : Nat} (hx : x < w) (hy : y < h) : y * w + x < w * h := by
  have : y * w + w ≤ h * w := by
    rw [← Nat.succ_mul]
    exact Nat.mul_le_mul_right _ hy
  rw [Nat.mul_comm w h]
  omega
-- create
theorem ex_create_bad {st : State} {w h t : Nat} (c : (isSide w && isSide h && isThreshold t) = false) : execute st (.create w h t) = (st, ⟨-22, []⟩) := by
  show (if (!isSide w || !isSide h || !isThreshold t) = true then _ else _) = _
  rw [if_pos]
  · rfl
  · revert c
    cases isSide w <;> cases isSide h <;> cases isThreshold t <;> simp
theorem ex_create_ok {st : State} {w h t : Nat} (c : (isSide w && isSide h && isThreshold t) = true) : execute st (.create w h t) = (some ⟨⟨w, h, t, List.replicate 9 1, []⟩, [], []⟩, ⟨0, []⟩) := by
  show (if (!isSide w || !isSide h || !isThreshold t) = true then _ else _) = _
  rw [if_neg]
  · rfl
  · revert c
    cases isSide w <;> cases isSide h <;> cases isThreshold t <;> simp
-- add_tile_type
theorem ex_add_bad {l : List Nat} (h : l.length ≠ 4 ∨ ∃ x ∈ l, 9 < x) : execute (some b) (.addTileType l) = (some b, ⟨-22, []⟩) := by
  show (if (decide (l.length ≠ 4) || !(l.all fun x => decide (x ≤ maxGlue))) = true then _ else _) = _
  rw [if_pos]
  · rfl
  · rcases h with h | ⟨x, hx, h⟩
    · rw [decide_eq_true h]
      rfl
    · rw [Bool.or_eq_true]
      refine .inr ?_
      rw [Bool.not_eq_true', List.all_eq_false]
      exact ⟨x, hx, by rw [decide_eq_true_iff]; exact Nat.not_le.mpr h⟩
theorem add_good {l : List Nat} (h4 : l.length = 4) (h9 : ∀ x ∈ l, x ≤ 9) : ¬ ((decide (l.length ≠ 4) || !(l.all fun x => decide (x ≤ maxGlue))) = true) := by
  have e : (l.all fun x => decide (x ≤ maxGlue)) = true := List.all_eq_true.mpr fun x hx => decide_eq_true (h9 x hx)
  rw [e, decide_eq_false (fun z => z h4)]
  exact Bool.false_ne_true
theorem ex_add_full {l : List Nat} (h4 : l.length = 4) (h9 : ∀ x ∈ l, x ≤ 9) (h : 12 ≤ b.system.tileTypes.length) : execute (some b) (.addTileType l) = (some b, ⟨-28, []⟩) := by
  show (if (decide (l.length ≠ 4) || !(l.all fun x => decide (x ≤ maxGlue))) = true then _ else if maxTileTypes ≤ b.system.tileTypes.length then _ else _) = _
  rw [if_neg (add_good h4 h9), if_pos (show maxTileTypes ≤ _ from h)]
  rfl
theorem ex_add_ok {l : List Nat} (h4 : l.length = 4) (h9 : ∀ x ∈ l, x ≤ 9) (h : ¬ 12 ≤ b.system.tileTypes.length) :
    execute (some b) (.addTileType l) = (some { b with system := { b.system with tileTypes := b.system.tileTypes ++ [l] }, attached := [] }, ⟨b.system.tileTypes.length, []⟩) := by
  show (if (decide (l.length ≠ 4) || !(l.all fun x => decide (x ≤ maxGlue))) = true then _ else if maxTileTypes ≤ b.system.tileTypes.length then _ else _) = _
  rw [if_neg (add_good h4 h9), if_neg (show ¬ maxTileTypes ≤ _ from h)]
  rfl
-- set_strength
theorem ex_str_bad {x v : Nat} (h : x = 0 ∨ 9 < x ∨ 3 < v) : execute (some b) (.setStrength x v) = (some b, ⟨-22, []⟩) := by
  show (if (decide (x = 0) || decide (maxGlue < x) || decide (maxStrength < v)) = true then _ else _) = _
  rw [if_pos]
  · rfl
  · rcases h with h | h | h
    · rw [decide_eq_true h]
      rfl
    · rw [decide_eq_true (show maxGlue < x from h)]
      simp
    · rw [decide_eq_true (show maxStrength < v from h)]
      simp
theorem ex_str_ok {x v : Nat} (h1 : 1 ≤ x) (h9 : x ≤ 9) (h3 : v ≤ 3) : execute (some b) (.setStrength x v) = (some { b with system := { b.system with strengths := b.system.strengths.set (x - 1) v }, attached := [] }, ⟨b.system.strengthOf x, []⟩) := by
  show (if (decide (x = 0) || decide (maxGlue < x) || decide (maxStrength < v)) = true then _ else _) = _
  rw [if_neg]
  · rfl
  · rw [decide_eq_false (show ¬ x = 0 by omega), decide_eq_false (show ¬ maxGlue < x from Nat.not_lt.mpr h9), decide_eq_false (show ¬ maxStrength < v from Nat.not_lt.mpr h3)]
    simp
-- set_threshold
theorem ex_thr_bad {t : Nat} (h : t < 1 ∨ 4 < t) : execute (some b) (.setThreshold t) = (some b, ⟨-22, []⟩) := by
  show (if (!isThreshold t) = true then _ else _) = _
  rw [if_pos]
  · rfl
  · unfold isThreshold maxThreshold
    rw [Bool.not_eq_true', Bool.and_eq_false_iff]
    rcases h with h | h
    · exact .inl (decide_eq_false (by omega))
    · exact .inr (decide_eq_false (by omega))
theorem ex_thr_ok {t : Nat} (h1 : 1 ≤ t) (h4 : t ≤ 4) : execute (some b) (.setThreshold t) = (some { b with system := { b.system with threshold := t }, attached := [] }, ⟨b.system.threshold, []⟩) := by
  show (if (!isThreshold t) = true then _ else _) = _
  rw [if_neg]
  · rfl
  · unfold isThreshold maxThreshold
    rw [decide_eq_true h1, decide_eq_true h4]
    simp
-- add_seed
theorem ex_seed_pos {x y i : Nat} (h : ¬ (x < b.system.width ∧ y < b.system.height)) : execute (some b) (.addSeed x y i) = (some b, ⟨-2, []⟩) := by
  simp only [execute, pos_none h]
  rfl
theorem ex_seed_kind {x y i : Nat} (h : x < b.system.width ∧ y < b.system.height) (hi : ¬ i < b.system.tileTypes.length) : execute (some b) (.addSeed x y i) = (some b, ⟨-2, []⟩) := by
  simp only [execute, pos_some h, decide_eq_true (Nat.not_lt.mp hi), if_true]
  rfl
theorem ex_seed_occ {x y i : Nat} (h : x < b.system.width ∧ y < b.system.height) (hi : i < b.system.tileTypes.length) (hs : (tileAt b.seedGrid (y * b.system.width + x)).isSome = true) : execute (some b) (.addSeed x y i) = (some b, ⟨-17, []⟩) := by
  simp only [execute, pos_some h, decide_eq_false (Nat.not_le.mpr hi), hs, if_true]
  rfl
theorem ex_seed_ok {x y i : Nat} (h : x < b.system.width ∧ y < b.system.height) (hi : i < b.system.tileTypes.length) (hs : (tileAt b.seedGrid (y * b.system.width + x)).isSome = false) :
    execute (some b) (.addSeed x y i) = (some { b with seeds := b.seeds ++ [(y * b.system.width + x, i)], attached := [] }, ⟨((b.seeds.length + 1 : Nat) : Int), []⟩) := by
  simp only [execute, pos_some h, decide_eq_false (Nat.not_le.mpr hi), hs]
  rfl
-- remove_seed
theorem ex_rem_pos {x y : Nat} (h : ¬ (x < b.system.width ∧ y < b.system.height)) : execute (some b) (.removeSeed x y) = (some b, ⟨-2, []⟩) := by
  simp only [execute, pos_none h]
  rfl
theorem ex_rem_no {x y : Nat} (h : x < b.system.width ∧ y < b.system.height) (hs : (tileAt b.seedGrid (y * b.system.width + x)).isSome = false) : execute (some b) (.removeSeed x y) = (some b, ⟨-33, []⟩) := by
  have hn : (tileAt b.seedGrid (y * b.system.width + x)).isNone = true := by
    rw [← Option.not_isSome, hs]
    rfl
  simp only [execute, pos_some h, hn, if_true]
  rfl
theorem ex_rem_ok {x y : Nat} (h : x < b.system.width ∧ y < b.system.height) (hs : (tileAt b.seedGrid (y * b.system.width + x)).isSome = true) :
    execute (some b) (.removeSeed x y) = (some { b with seeds := b.seeds.filter fun z => z.1 != y * b.system.width + x, attached := [] }, ⟨((b.seeds.length - 1 : Nat) : Int), []⟩) := by
  have hn : (tileAt b.seedGrid (y * b.system.width + x)).isNone = false := by
    rw [← Option.not_isSome, hs]
    rfl
  simp only [execute, pos_some h, hn]
  rfl
-- attach
theorem ex_att_pos {x y i : Nat} (h : ¬ (x < b.system.width ∧ y < b.system.height)) : execute (some b) (.attach x y i) = (some b, ⟨-2, []⟩) := by
  simp only [execute, pos_none h]
  rfl
theorem ex_att_kind {x y i : Nat} (h : x < b.system.width ∧ y < b.system.height) (hi : ¬ i < b.system.tileTypes.length) : execute (some b) (.attach x y i) = (some b, ⟨-2, []⟩) := by
  simp only [execute, pos_some h, decide_eq_true (Nat.not_lt.mp hi), if_true]
  rfl
theorem ex_att_occ {x y i : Nat} (h : x < b.system.width ∧ y < b.system.height) (hi : i < b.system.tileTypes.length) (hs : (tileAt b.grid (y * b.system.width + x)).isSome = true) : execute (some b) (.attach x y i) = (some b, ⟨-17, []⟩) := by
  simp only [execute, pos_some h, decide_eq_false (Nat.not_le.mpr hi), hs, if_true]
  rfl
theorem ex_att_weak {x y i : Nat} (h : x < b.system.width ∧ y < b.system.height) (hi : i < b.system.tileTypes.length) (hs : (tileAt b.grid (y * b.system.width + x)).isSome = false) (hc : b.system.canAttach b.grid (y * b.system.width + x) i = false) :
    execute (some b) (.attach x y i) = (some b, ⟨-14, []⟩) := by
  simp only [execute, pos_some h, decide_eq_false (Nat.not_le.mpr hi), hs, hc]
  rfl
theorem ex_att_ok {x y i : Nat} (h : x < b.system.width ∧ y < b.system.height) (hi : i < b.system.tileTypes.length) (hs : (tileAt b.grid (y * b.system.width + x)).isSome = false) (hc : b.system.canAttach b.grid (y * b.system.width + x) i = true) :
    execute (some b) (.attach x y i) = (some { b with attached := b.attached ++ [(y * b.system.width + x, i)] }, ⟨b.system.bindingStrength b.grid (y * b.system.width + x) i, []⟩) := by
  simp only [execute, pos_some h, decide_eq_false (Nat.not_le.mpr hi), hs, hc]
  rfl
-- undo_attach, clear_attached, grow, parallel_rounds
theorem ex_undo_no (h : b.attached = []) : execute (some b) .undoAttach = (some b, ⟨-6, []⟩) := by
  simp only [execute, h, List.isEmpty_nil, if_true]
  rfl
theorem ex_undo_ok (h : b.attached ≠ []) : execute (some b) .undoAttach = (some { b with attached := b.attached.dropLast }, ⟨((b.attached.length - 1 : Nat) : Int), []⟩) := by
  have e : b.attached.isEmpty = false := by
    cases c : b.attached with
    | nil => exact absurd c h
    | cons _ _ => rfl
  simp only [execute, e]
  rfl
theorem ex_clear : execute (some b) .clearAttached = (some { b with attached := [] }, ⟨b.attached.length, []⟩) := rfl
theorem ex_grow : execute (some b) .grow = (some { b with attached := b.attached ++ b.system.growth b.system.size b.grid }, ⟨(b.system.growth b.system.size b.grid).length, []⟩) := rfl
theorem ex_rounds : execute (some b) .parallelRounds = (some b, ⟨b.system.parallelRounds b.system.size b.grid, []⟩) := rfl
end
end Gt

/-! Growth without a position, and what is reckoned from it: the specification's side. -/
namespace Gt
open Krbp
/-- the attachment that growing towards the target takes at a place -/
def candAt (s : TileSystem) (target : Grid) (p : Nat) (g : Grid) (q : Nat) : Option (Nat × Nat) := if q == p then none else match tileAt target q with
  | none => none
  | some i => if s.canAttach g q i then some (q, i) else none
def nextWithin (s : TileSystem) (target : Grid) (p : Nat) (g : Grid) : Option (Nat × Nat) := s.positions.findSome? (candAt s target p g)
section
variable {s : TileSystem} {target g : Grid} {p : Nat}
theorem within_succ (n : Nat) : Krbq.growthWithin s target p (n + 1) g = match nextWithin s target p g with
    | none => []
    | some (q, i) => (q, i) :: Krbq.growthWithin s target p n (place g q i) := rfl
theorem within_stop (h : nextWithin s target p g = none) : ∀ n, Krbq.growthWithin s target p n g = []
  | 0 => rfl
  | n + 1 => by rw [within_succ, h]
theorem within_step {q i : Nat} (h : nextWithin s target p g = some (q, i)) (n : Nat) : Krbq.growthWithin s target p (n + 1) g = (q, i) :: Krbq.growthWithin s target p n (place g q i) := by
  rw [within_succ, h]
theorem cand_of {q : Nat} {x : Nat × Nat} (h : candAt s target p g q = some x) : x.1 = q ∧ q ≠ p ∧ tileAt target q = some x.2 ∧ s.canAttach g q x.2 = true := by
  unfold candAt at h
  by_cases c : q = p
  · rw [if_pos (by simp [c])] at h
    cases h
  · rw [if_neg (by simp [c])] at h
    cases e : tileAt target q with
    | none =>
      rw [e] at h
      cases h
    | some i =>
      rw [e] at h
      dsimp only at h
      by_cases d : s.canAttach g q i = true
      · rw [if_pos d] at h
        cases h
        exact ⟨rfl, c, rfl, d⟩
      · rw [if_neg d] at h
        cases h
theorem cand_some {q i : Nat} (hq : q ≠ p) (ht : tileAt target q = some i) (hc : s.canAttach g q i = true) : candAt s target p g q = some (q, i) := by
  unfold candAt
  rw [if_neg (by simp [hq]), ht]
  exact if_pos hc
theorem cand_self : candAt s target p g p = none := if_pos (by simp)
theorem cand_empty {q : Nat} (ht : tileAt target q = none) : candAt s target p g q = none := by
  unfold candAt
  rw [ht]
  split <;> rfl
theorem cand_cannot {q i : Nat} (ht : tileAt target q = some i) (hc : s.canAttach g q i = false) : candAt s target p g q = none := by
  unfold candAt
  rw [ht]
  dsimp only
  rw [hc]
  split <;> rfl
theorem next_of {q i : Nat} (h : nextWithin s target p g = some (q, i)) : q < s.size ∧ q ≠ p ∧ tileAt target q = some i ∧ s.canAttach g q i = true := by
  unfold nextWithin at h
  obtain ⟨r, hr, e⟩ := List.exists_of_findSome?_eq_some h
  obtain ⟨e1, e2, e3, e4⟩ := cand_of e
  subst e1
  exact ⟨List.mem_range.mp hr, e2, e3, e4⟩
theorem next_some {q : Nat} {x : Nat × Nat} (hq : q < s.size) (hx : candAt s target p g q = some x) (hb : ∀ j, j < q → candAt s target p g j = none) : nextWithin s target p g = some x := findSome_range_some hq hx hb
theorem next_none (hb : ∀ j, j < s.size → candAt s target p g j = none) : nextWithin s target p g = none := findSome_range_none hb
end
theorem within_ok {s : TileSystem} {target : Grid} {p : Nat} (ht : GOk s target) : ∀ (n : Nat) (g : Grid), ∀ x ∈ Krbq.growthWithin s target p n g, x.1 < s.size ∧ x.2 < s.tileTypes.length
  | 0, g, x, h => by cases h
  | n + 1, g, x, h => by
    cases e : nextWithin s target p g with
    | none =>
      rw [within_stop e] at h
      cases h
    | some y =>
      obtain ⟨q, i⟩ := y
      rw [within_step e] at h
      obtain ⟨h1, _, h3, _⟩ := next_of e
      rcases List.mem_cons.mp h with rfl | h
      · exact ⟨h1, ht.ty _ _ h3⟩
      · exact within_ok ht n _ x h
theorem within_length {s : TileSystem} {target : Grid} {p : Nat} : ∀ (n : Nat) (g : Grid), (Krbq.growthWithin s target p n g).length ≤ n
  | 0, g => Nat.le_refl _
  | n + 1, g => by
    cases e : nextWithin s target p g with
    | none => rw [within_stop e]; exact Nat.zero_le _
    | some y =>
      obtain ⟨q, i⟩ := y
      rw [within_step e]
      exact Nat.succ_le_succ (within_length n _)
theorem GOk.without {s : TileSystem} {g : Grid} (h : GOk s g) (p : Nat) : GOk s (Krbq.gridWithout s g p) := h.placeAll (within_ok h.grown _ _)
/-! ### loops over a range that filter, map, append -/
theorem filter_succ (f : Nat → Bool) (n : Nat) : (List.range (n + 1)).filter f = (List.range n).filter f ++ (if f n = true then [n] else []) := by
  rw [List.range_succ, List.filter_append]
  by_cases c : f n = true
  · rw [if_pos c, List.filter_cons_of_pos c]
    rfl
  · rw [if_neg c, List.filter_cons_of_neg c]
    rfl
theorem flatMap_succ {α : Type} (f : Nat → List α) (n : Nat) : (List.range (n + 1)).flatMap f = (List.range n).flatMap f ++ f n := by
  rw [List.range_succ, List.flatMap_append]
  simp
/-! ### results -/
def cnt (g : Grid) : Nat := (g.filter fun x => x.isSome).length
theorem ret_grid (g : Grid) : returnGrid g = ⟨(cnt g : Int), encG g⟩ := by
  unfold returnGrid toInts encG
  rw [List.map_map]
  congr 1
  refine List.map_congr_left fun x _ => ?_
  cases x <;> rfl
theorem cnt_le (g : Grid) : cnt g ≤ g.length := List.length_filter_le ..
end Gt

/-! Growing by a choice of kinds for each place; what is reckoned from grids without a place. The specification's side. -/
namespace Gt
open Krbp
/-! ### growing by a choice -/
/-- the first kind of the choice that is attachable at a place -/
def kindIn (s : TileSystem) (ch : Nat → List Nat) (g : Grid) (q : Nat) : Option Nat := ((ch q).filter fun i => s.canAttach g q i).head?
def pickAt (s : TileSystem) (ch : Nat → List Nat) (g : Grid) (q : Nat) : Option (Nat × Nat) := (kindIn s ch g q).map fun i => (q, i)
def nextCh (s : TileSystem) (ch : Nat → List Nat) (g : Grid) : Option (Nat × Nat) := s.positions.findSome? (pickAt s ch g)
def growCh (s : TileSystem) (ch : Nat → List Nat) : Nat → Grid → List (Nat × Nat)
  | 0, _ => []
  | n + 1, g => match nextCh s ch g with
    | none => []
    | some (q, i) => (q, i) :: growCh s ch n (place g q i)
/-- all kinds everywhere -/
def chAll (s : TileSystem) : Nat → List Nat := fun _ => List.range s.tileTypes.length
/-- the target's kinds, but at p -/
def chTo (target : Grid) (p : Nat) : Nat → List Nat := fun q => if q = p then [] else match tileAt target q with
  | none => []
  | some i => [i]
structure ChOk (s : TileSystem) (ch : Nat → List Nat) : Prop where
  lt : ∀ q, q < s.size → ∀ i ∈ ch q, i < s.tileTypes.length
theorem chAll_ok (s : TileSystem) : ChOk s (chAll s) := ⟨fun _ _ _ h => List.mem_range.mp h⟩
theorem chTo_ok {s : TileSystem} {target : Grid} (h : GOk s target) (p : Nat) : ChOk s (chTo target p) := by
  refine ⟨fun q _ i hi => ?_⟩
  unfold chTo at hi
  split at hi
  · cases hi
  · split at hi
    · cases hi
    · rename_i j e
      rw [List.mem_singleton] at hi
      subst hi
      exact h.ty _ _ e
section
variable {s : TileSystem} {ch : Nat → List Nat} {g : Grid}
theorem kindIn_of {q i : Nat} (h : kindIn s ch g q = some i) : i ∈ ch q ∧ s.canAttach g q i = true := by
  have m := List.mem_of_head? h
  rw [List.mem_filter] at m
  exact m
theorem pick_some {q i : Nat} (h : kindIn s ch g q = some i) : pickAt s ch g q = some (q, i) := by
  unfold pickAt
  rw [h]
  rfl
theorem pick_none {q : Nat} (h : kindIn s ch g q = none) : pickAt s ch g q = none := by
  unfold pickAt
  rw [h]
  rfl
theorem nextCh_some {q i : Nat} (hq : q < s.size) (hi : kindIn s ch g q = some i) (hb : ∀ j, j < q → kindIn s ch g j = none) : nextCh s ch g = some (q, i) :=
  findSome_range_some hq (pick_some hi) fun j hj => pick_none (hb j hj)
theorem nextCh_none (hb : ∀ j, j < s.size → kindIn s ch g j = none) : nextCh s ch g = none := findSome_range_none fun j hj => pick_none (hb j hj)
theorem findSome_first {α : Type} {f : Nat → Option α} : ∀ {n : Nat} {x : α}, (List.range n).findSome? f = some x → ∃ q, q < n ∧ f q = some x ∧ ∀ j, j < q → f j = none
  | 0, x, h => by cases h
  | n + 1, x, h => by
    rw [List.range_succ, List.findSome?_append] at h
    cases e : (List.range n).findSome? f with
    | some y =>
      rw [e] at h
      have h : y = x := by simpa using h
      subst h
      obtain ⟨q, h1, h2, h3⟩ := findSome_first e
      exact ⟨q, by omega, h2, h3⟩
    | none =>
      rw [e] at h
      have h : f n = some x := by
        cases e2 : f n with
        | none =>
          simp [List.findSome?, e2] at h
        | some y =>
          simp [List.findSome?, e2] at h
          rw [h]
      refine ⟨n, by omega, h, fun j hj => ?_⟩
      exact List.findSome?_eq_none_iff.mp e j (List.mem_range.mpr hj)
theorem nextCh_of {q i : Nat} (h : nextCh s ch g = some (q, i)) : q < s.size ∧ i ∈ ch q ∧ s.canAttach g q i = true ∧ ∀ j, j < q → kindIn s ch g j = none := by
  obtain ⟨r, h1, h2, h3⟩ := findSome_first h
  unfold pickAt at h2
  cases e : kindIn s ch g r with
  | none =>
    rw [e] at h2
    cases h2
  | some j =>
    rw [e] at h2
    cases h2
    obtain ⟨a, b⟩ := kindIn_of e
    refine ⟨h1, a, b, fun j hj => ?_⟩
    have z := h3 j hj
    unfold pickAt at z
    cases e2 : kindIn s ch g j with
    | none => rfl
    | some k =>
      rw [e2] at z
      cases z
theorem growCh_stop (h : nextCh s ch g = none) : ∀ n, growCh s ch n g = []
  | 0 => rfl
  | n + 1 => by
    unfold growCh
    rw [h]
theorem growCh_step {q i : Nat} (h : nextCh s ch g = some (q, i)) (n : Nat) : growCh s ch (n + 1) g = (q, i) :: growCh s ch n (place g q i) := by
  rw [growCh, h]
end
theorem growCh_length {s : TileSystem} {ch : Nat → List Nat} : ∀ (n : Nat) (g : Grid), (growCh s ch n g).length ≤ n
  | 0, g => Nat.le_refl _
  | n + 1, g => by
    cases e : nextCh s ch g with
    | none => rw [growCh_stop e]; exact Nat.zero_le _
    | some y =>
      obtain ⟨q, i⟩ := y
      rw [growCh_step e]
      exact Nat.succ_le_succ (growCh_length n _)
/-! ### the two choices -/
theorem next_all (s : TileSystem) (g : Grid) : nextCh s (chAll s) g = s.firstAttachment g := rfl
theorem grow_all (s : TileSystem) : ∀ (n : Nat) (g : Grid), growCh s (chAll s) n g = s.growth n g
  | 0, _ => rfl
  | n + 1, g => by
    cases e : s.firstAttachment g with
    | none => rw [growth_stop e, growCh_stop (by rw [next_all]; exact e)]
    | some y =>
      obtain ⟨q, i⟩ := y
      rw [growth_step e, growCh_step (by rw [next_all]; exact e), grow_all s n]
theorem kind_all (s : TileSystem) (g : Grid) (q : Nat) : kindIn s (chAll s) g q = (s.attachableTypes g q).head? := rfl
theorem pick_to (s : TileSystem) (target : Grid) (p : Nat) (g : Grid) (q : Nat) : pickAt s (chTo target p) g q = candAt s target p g q := by
  unfold pickAt kindIn chTo
  by_cases c : q = p
  · subst c
    rw [cand_self, if_pos rfl]
    rfl
  · rw [if_neg c]
    cases e : tileAt target q with
    | none =>
      rw [cand_empty e]
      rfl
    | some i =>
      dsimp only
      cases d : s.canAttach g q i with
      | true =>
        rw [cand_some c e d, List.filter_cons_of_pos d]
        rfl
      | false =>
        rw [cand_cannot e d, List.filter_cons_of_neg (by rw [d]; exact Bool.false_ne_true)]
        rfl
theorem next_to (s : TileSystem) (target : Grid) (p : Nat) (g : Grid) : nextCh s (chTo target p) g = nextWithin s target p g := by
  unfold nextCh nextWithin
  congr 1
  exact funext fun q => pick_to s target p g q
theorem grow_to (s : TileSystem) (target : Grid) (p : Nat) : ∀ (n : Nat) (g : Grid), growCh s (chTo target p) n g = Krbq.growthWithin s target p n g
  | 0, _ => rfl
  | n + 1, g => by
    cases e : nextWithin s target p g with
    | none => rw [within_stop e, growCh_stop (by rw [next_to]; exact e)]
    | some y =>
      obtain ⟨q, i⟩ := y
      rw [within_step e, growCh_step (by rw [next_to]; exact e), grow_to s target p n]
/-! ### a new tile helps its neighbours alone -/
theorem nbr_top {w h q : Nat} : ∀ x ∈ nbrL w h q, x.1 ≤ q + w ∨ x.1 ≤ q + 1 ∧ q % w + 1 < w := by
  intro x hx
  unfold nbrL at hx
  rcases List.mem_append.mp hx with hx | hx
  · split at hx
    · rw [List.mem_singleton] at hx
      subst hx
      exact .inl (Nat.le_refl _)
    · cases hx
  rcases List.mem_append.mp hx with hx | hx
  · split at hx
    · rename_i c
      rw [List.mem_singleton] at hx
      subst hx
      exact .inr ⟨Nat.le_refl _, c⟩
    · cases hx
  rcases List.mem_append.mp hx with hx | hx
  · split at hx
    · rw [List.mem_singleton] at hx
      subst hx
      exact .inl (by show q - w ≤ q + w; omega)
    · cases hx
  · split at hx
    · rw [List.mem_singleton] at hx
      subst hx
      exact .inl (by show q - 1 ≤ q + w; omega)
    · cases hx
theorem foldl_same {α : Type} {f h : Nat → α → Nat} : ∀ (l : List α) (a : Nat), (∀ x ∈ l, ∀ a, f a x = h a x) → l.foldl f a = l.foldl h a
  | [], _, _ => rfl
  | x :: l, a, e => by
    rw [List.foldl_cons, List.foldl_cons, e x (List.mem_cons_self ..)]
    exact foldl_same l _ fun y hy => e y (List.mem_cons_of_mem _ hy)
theorem binding_far {s : TileSystem} {g : Grid} {p i q t : Nat} (hp : p < g.length) (hq : q + s.width < p) (hw : 1 ≤ s.width) : s.bindingStrength (place g p i) q t = s.bindingStrength g q t := by
  rw [binding_nbr, binding_nbr]
  refine foldl_same _ _ fun x hx a => ?_
  have hne : x.1 ≠ p := by
    rcases nbr_top x hx with z | z <;> omega
  unfold bondOf
  rw [tileAt_place hp, if_neg hne]
theorem can_far {s : TileSystem} {g : Grid} {p i q t : Nat} (hp : p < g.length) (hq : q + s.width < p) (hw : 1 ≤ s.width) : s.canAttach (place g p i) q t = s.canAttach g q t := by
  unfold TileSystem.canAttach
  rw [binding_far hp hq hw, tileAt_place hp, if_neg (by omega)]
theorem kind_far {s : TileSystem} {ch : Nat → List Nat} {g : Grid} {p i q : Nat} (hp : p < g.length) (hq : q + s.width < p) (hw : 1 ≤ s.width) : kindIn s ch (place g p i) q = kindIn s ch g q := by
  unfold kindIn
  congr 1
  exact List.filter_congr fun t _ => can_far hp hq hw
/-! ### alternatives -/
def altKinds (s : TileSystem) (g : Grid) (p : Nat) : List Nat := ((List.range s.tileTypes.length).filter fun i => tileAt (s.grown g) p != some i).filter fun i => s.canAttach (Krbq.gridWithout s g p) p i
def altAt (s : TileSystem) (g : Grid) (p : Nat) : List (Nat × Nat) := (altKinds s g p).map fun i => (p, i)
def altIf (s : TileSystem) (g : Grid) (p : Nat) : List (Nat × Nat) := if (tileAt g p).isSome then [] else altAt s g p
theorem alternatives_eq (s : TileSystem) (g : Grid) : Krbq.alternatives s g = s.positions.flatMap (altIf s g) := by
  unfold Krbq.alternatives
  congr 1
  funext p
  unfold altIf altAt altKinds
  split
  · rfl
  · congr 1
    unfold TileSystem.attachableTypes
    rw [List.filter_filter, List.filter_filter]
    exact List.filter_congr fun i _ => Bool.and_comm ..
theorem alt_ok {s : TileSystem} {g : Grid} {p : Nat} : ∀ x ∈ altIf s g p, x.1 = p ∧ x.2 < s.tileTypes.length := by
  intro x hx
  unfold altIf at hx
  split at hx
  · cases hx
  · obtain ⟨i, hi, rfl⟩ := List.mem_map.mp hx
    exact ⟨rfl, List.mem_range.mp (List.mem_filter.mp (List.mem_filter.mp hi).1).1⟩
theorem altKinds_length (s : TileSystem) (g : Grid) (p : Nat) : (altKinds s g p).length ≤ s.tileTypes.length := by
  unfold altKinds
  refine Nat.le_trans (List.length_filter_le ..) (Nat.le_trans (List.length_filter_le ..) ?_)
  rw [List.length_range]
  exact Nat.le_refl _
theorem altIf_length (s : TileSystem) (g : Grid) (p : Nat) : (altIf s g p).length ≤ s.tileTypes.length := by
  unfold altIf altAt
  split
  · exact Nat.zero_le _
  · rw [List.length_map]
    exact altKinds_length s g p
theorem flat_length {s : TileSystem} {g : Grid} : ∀ n, ((List.range n).flatMap (altIf s g)).length ≤ n * s.tileTypes.length
  | 0 => Nat.zero_le _
  | n + 1 => by
    rw [flatMap_succ, List.length_append, Nat.succ_mul]
    exact Nat.add_le_add (flat_length n) (altIf_length s g n)
theorem head_alts_some {s : TileSystem} {g : Grid} {p : Nat} {x : Nat × Nat} (hp : p < s.size) (hx : (altIf s g p).head? = some x) (hb : ∀ j, j < p → altIf s g j = []) : (Krbq.alternatives s g).head? = some x := by
  rw [alternatives_eq]
  unfold TileSystem.positions
  rw [List.head?_flatMap]
  exact findSome_range_some hp hx fun j hj => by rw [hb j hj]; rfl
theorem head_alts_none {s : TileSystem} {g : Grid} (hb : ∀ j, j < s.size → altIf s g j = []) : Krbq.alternatives s g = [] := by
  rw [alternatives_eq]
  exact List.flatMap_eq_nil_iff.mpr fun j hj => hb j (List.mem_range.mp hj)
/-! ### what growing fills -/
def fillB (s : TileSystem) (g : Grid) (q : Nat) : Bool := (tileAt g q).isNone && (tileAt (s.grown g) q).isSome
def fillTo (s : TileSystem) (g : Grid) (n : Nat) : List Nat := (List.range n).filter (fillB s g)
def fillL (s : TileSystem) (g : Grid) : List Nat := fillTo s g s.size
theorem fill_succ (s : TileSystem) (g : Grid) (n : Nat) : fillTo s g (n + 1) = fillTo s g n ++ (if fillB s g n = true then [n] else []) := filter_succ _ n
theorem fill_mem {s : TileSystem} {g : Grid} {n q : Nat} : q ∈ fillTo s g n ↔ q < n ∧ fillB s g q = true := by
  unfold fillTo
  rw [List.mem_filter, List.mem_range]
theorem fill_length (s : TileSystem) (g : Grid) (n : Nat) : (fillTo s g n).length ≤ n := by
  unfold fillTo
  refine Nat.le_trans (List.length_filter_le ..) ?_
  rw [List.length_range]
  exact Nat.le_refl _
theorem fill_nodup (s : TileSystem) (g : Grid) (n : Nat) : (fillTo s g n).Nodup := (List.nodup_range).filter _
def preB (s : TileSystem) (g : Grid) (p q : Nat) : Bool := q != p && (tileAt (Krbq.gridWithout s g q) p).isNone
theorem pre_eq (s : TileSystem) (g : Grid) (p : Nat) : Krbq.prerequisites s g p = (fillL s g).filter (preB s g p) := by
  unfold Krbq.prerequisites fillL fillTo TileSystem.positions
  rw [List.filter_filter]
  refine List.filter_congr fun q _ => ?_
  unfold preB fillB
  cases (q != p) <;> cases (tileAt g q).isNone <;> cases (tileAt (s.grown g) q).isSome <;> cases (tileAt (Krbq.gridWithout s g q) p).isNone <;> rfl
theorem indep_eq (s : TileSystem) (g : Grid) : (s.positions.filter fun p => (tileAt g p).isNone && ((tileAt (s.grown g) p).isSome && (Krbq.prerequisites s g p).isEmpty)) = (fillL s g).filter fun p => (Krbq.prerequisites s g p).isEmpty := by
  unfold fillL fillTo TileSystem.positions
  rw [List.filter_filter]
  refine List.filter_congr fun q _ => ?_
  unfold fillB
  cases (tileAt g q).isNone <;> cases (tileAt (s.grown g) q).isSome <;> cases (Krbq.prerequisites s g q).isEmpty <;> rfl
theorem maxPre_eq (s : TileSystem) (g : Grid) : Krbq.maxPrerequisites s g = ((fillL s g).map fun p => (Krbq.prerequisites s g p).length).foldl max 0 := rfl
theorem foldl_max : ∀ (l : List Nat) (a : Nat), l.foldl max a ∈ a :: l ∧ ∀ x ∈ a :: l, x ≤ l.foldl max a
  | [], a => ⟨List.mem_singleton.mpr rfl, fun x hx => by rw [List.mem_singleton.mp hx]; exact Nat.le_refl _⟩
  | y :: l, a => by
    obtain ⟨h1, h2⟩ := foldl_max l (max a y)
    rw [List.foldl_cons]
    refine ⟨?_, fun x hx => ?_⟩
    · rcases List.mem_cons.mp h1 with z | z
      · rw [z]
        rcases Nat.le_total a y with c | c
        · rw [Nat.max_eq_right c]
          exact List.mem_cons_of_mem _ (List.mem_cons_self ..)
        · rw [Nat.max_eq_left c]
          exact List.mem_cons_self ..
      · exact List.mem_cons_of_mem _ (List.mem_cons_of_mem _ z)
    · have hm := h2 (max a y) (List.mem_cons_self ..)
      rcases List.mem_cons.mp hx with z | hx
      · rw [z]
        exact Nat.le_trans (Nat.le_max_left ..) hm
      · rcases List.mem_cons.mp hx with z | hx
        · rw [z]
          exact Nat.le_trans (Nat.le_max_right ..) hm
        · exact h2 x (List.mem_cons_of_mem _ hx)
theorem max_is {l : List Nat} {m : Nat} (h1 : m ∈ 0 :: l) (h2 : ∀ x ∈ 0 :: l, x ≤ m) : l.foldl max 0 = m := by
  obtain ⟨a, b⟩ := foldl_max l 0
  exact Nat.le_antisymm (h2 _ a) (b _ h1)
/-! ### results -/
theorem cnt_count : ∀ g : Grid, (encG g).count 0 + cnt g = g.length
  | [] => rfl
  | x :: g => by
    have ih := cnt_count g
    unfold encG cnt at ih ⊢
    rw [List.map_cons, List.count_cons, List.length_cons]
    cases x with
    | none =>
      rw [List.filter_cons_of_neg (by simp)]
      show List.count 0 (List.map encT g) + (if (encT none == 0) = true then 1 else 0) + _ = _
      rw [if_pos (by rfl)]
      omega
    | some i =>
      rw [List.filter_cons_of_pos (by simp), List.length_cons]
      have : (encT (some i) == 0) = false := by
        show (((i : Int) + 1) == 0) = false
        rw [beq_eq_false_iff_ne]
        omega
      rw [this]
      simp only [Bool.false_eq_true, if_false]
      omega
def flatP (l : List (Nat × Nat)) : List Nat := l.flatMap fun x => [x.1, x.2]
theorem flatP_append (l m : List (Nat × Nat)) : flatP (l ++ m) = flatP l ++ flatP m := List.flatMap_append ..
theorem flatP_length : ∀ l : List (Nat × Nat), (flatP l).length = 2 * l.length
  | [] => rfl
  | x :: l => by
    have := flatP_length l
    have e : flatP (x :: l) = x.1 :: x.2 :: flatP l := rfl
    rw [e, List.length_cons, List.length_cons, List.length_cons]
    omega
/-! ### what the reporting operations give -/
section
variable {b : Instance}
theorem rp_base {op : Krbp.Operation} : Krbq.execute (some b) (.base op) = Krbp.execute (some b) op := rfl
theorem rp_grid : Krbq.execute (some b) (.base .getGrid) = (some b, returnGrid b.grid) := rfl
theorem rp_kind_no {i : Nat} (h : ¬ i < b.system.tileTypes.length) : Krbq.execute (some b) (.base (.getTileType i)) = (some b, ⟨-2, []⟩) := by
  simp only [Krbq.execute, Krbp.execute, decide_eq_true (Nat.not_lt.mp h), if_true]
  rfl
theorem rp_kind {i : Nat} (h : i < b.system.tileTypes.length) : Krbq.execute (some b) (.base (.getTileType i)) = (some b, ⟨4, toInts (b.system.tileTypes.getD i [])⟩) := by
  simp only [Krbq.execute, Krbp.execute, decide_eq_false (Nat.not_le.mpr h)]
  rfl
theorem rp_status : Krbq.execute (some b) (.base .status) = (some b, ⟨b.system.tileTypes.length, toInts ([b.system.width, b.system.height, b.system.threshold, b.seeds.length, b.attached.length] ++ b.system.strengths)⟩) := rfl
theorem rp_unique_yes (h : Krbq.alternatives b.system b.grid = []) : Krbq.execute (some b) .isUnique = (some b, ⟨1, []⟩) := by
  show (some b, returnBool (Krbq.isUnique b.system b.grid)) = _
  unfold Krbq.isUnique
  rw [h]
  rfl
theorem rp_unique_no (h : Krbq.alternatives b.system b.grid ≠ []) : Krbq.execute (some b) .isUnique = (some b, ⟨0, []⟩) := by
  show (some b, returnBool (Krbq.isUnique b.system b.grid)) = _
  unfold Krbq.isUnique
  cases e : Krbq.alternatives b.system b.grid with
  | nil => exact absurd e h
  | cons _ _ => rfl
theorem rp_first_no (h : Krbq.alternatives b.system b.grid = []) : Krbq.execute (some b) .firstAlternative = (some b, ⟨-33, []⟩) := by
  show (some b, match (Krbq.alternatives b.system b.grid).head? with | none => failure (-33) | some (p, i) => returnPairs (Krbq.growthWithin b.system (b.system.grown b.grid) p b.system.size b.grid ++ [(p, i)])) = _
  rw [h]
  rfl
theorem rp_first {p i : Nat} (h : (Krbq.alternatives b.system b.grid).head? = some (p, i)) :
    Krbq.execute (some b) .firstAlternative = (some b, returnPairs (Krbq.growthWithin b.system (b.system.grown b.grid) p b.system.size b.grid ++ [(p, i)])) := by
  show (some b, match (Krbq.alternatives b.system b.grid).head? with | none => failure (-33) | some (p, i) => returnPairs (Krbq.growthWithin b.system (b.system.grown b.grid) p b.system.size b.grid ++ [(p, i)])) = _
  rw [h]
theorem rp_alts : Krbq.execute (some b) .alternatives = (some b, returnPairs (Krbq.alternatives b.system b.grid)) := rfl
theorem rp_term : Krbq.execute (some b) .terminalGrid = (some b, returnGrid (b.system.grown b.grid)) := rfl
theorem rp_wo_pos {x y : Nat} (h : ¬ (x < b.system.width ∧ y < b.system.height)) : Krbq.execute (some b) (.gridWithout x y) = (some b, ⟨-2, []⟩) := by
  simp only [Krbq.execute, pos_none h]
  rfl
theorem rp_wo_occ {x y : Nat} (h : x < b.system.width ∧ y < b.system.height) (ho : (tileAt b.grid (y * b.system.width + x)).isSome = true) : Krbq.execute (some b) (.gridWithout x y) = (some b, ⟨-17, []⟩) := by
  simp only [Krbq.execute, pos_some h, ho, if_true]
  rfl
theorem rp_wo {x y : Nat} (h : x < b.system.width ∧ y < b.system.height) (ho : (tileAt b.grid (y * b.system.width + x)).isSome = false) :
    Krbq.execute (some b) (.gridWithout x y) = (some b, returnGrid (Krbq.gridWithout b.system b.grid (y * b.system.width + x))) := by
  simp only [Krbq.execute, pos_some h, ho]
  rfl
theorem rp_pre_pos {x y : Nat} (h : ¬ (x < b.system.width ∧ y < b.system.height)) : Krbq.execute (some b) (.prerequisites x y) = (some b, ⟨-2, []⟩) := by
  simp only [Krbq.execute, pos_none h]
  rfl
theorem rp_pre_occ {x y : Nat} (h : x < b.system.width ∧ y < b.system.height) (ho : (tileAt b.grid (y * b.system.width + x)).isSome = true) : Krbq.execute (some b) (.prerequisites x y) = (some b, ⟨-17, []⟩) := by
  simp only [Krbq.execute, pos_some h, ho, if_true]
  rfl
theorem rp_pre_no {x y : Nat} (h : x < b.system.width ∧ y < b.system.height) (ho : (tileAt b.grid (y * b.system.width + x)).isSome = false) (hg : (tileAt (b.system.grown b.grid) (y * b.system.width + x)).isSome = false) :
    Krbq.execute (some b) (.prerequisites x y) = (some b, ⟨-33, []⟩) := by
  have hn : (tileAt (b.system.grown b.grid) (y * b.system.width + x)).isNone = true := by
    rw [← Option.not_isSome, hg]
    rfl
  simp only [Krbq.execute, pos_some h, ho, hn, if_true]
  rfl
theorem rp_pre {x y : Nat} (h : x < b.system.width ∧ y < b.system.height) (ho : (tileAt b.grid (y * b.system.width + x)).isSome = false) (hg : (tileAt (b.system.grown b.grid) (y * b.system.width + x)).isSome = true) :
    Krbq.execute (some b) (.prerequisites x y) = (some b, returnList (Krbq.prerequisites b.system b.grid (y * b.system.width + x))) := by
  have hn : (tileAt (b.system.grown b.grid) (y * b.system.width + x)).isNone = false := by
    rw [← Option.not_isSome, hg]
    rfl
  simp only [Krbq.execute, pos_some h, ho, hn]
  rfl
theorem rp_max : Krbq.execute (some b) .maxPrerequisites = (some b, ⟨(Krbq.maxPrerequisites b.system b.grid : Nat), []⟩) := rfl
theorem rp_indep : Krbq.execute (some b) .independentPositions = (some b, returnList ((fillL b.system b.grid).filter fun p => (Krbq.prerequisites b.system b.grid p).isEmpty)) := by
  rw [← indep_eq]
  rfl
end
end Gt

/-! How a list of calls is read: the specification's side. -/
namespace Gt
/-- how many whole numbers are given to a call -/
def gvL : List Nat := [3, 0, 2, 1, 3, 2, 3, 0, 0, 0, 0, 0, 1, 0, 0, 0, 0, 0, 2, 2, 0, 0]
def gvn (k : Nat) : Nat := gvL.getD k 0
theorem shape_cases {p : Int} {n k : Nat} (h : PyKrbq.shape p = some (n, k)) : (p = 1 ∧ n = 0 ∧ k = 1) ∨ ∃ m : Nat, m ≤ 21 ∧ p = (m : Int) ∧ m ≠ 1 ∧ n = gvn m ∧ k = 0 := by
  unfold PyKrbq.shape at h
  by_cases c1 : p = 1
  · subst c1
    simp at h
    exact .inl ⟨rfl, h.1.symm, h.2.symm⟩
  · refine .inr ?_
    have key : ∀ m : Nat, m ≤ 21 → m ≠ 1 → p = (m : Int) → (if p = 0 then some (3, 0) else if p = 1 then some (0, 1) else if p = 2 then some (2, 0) else if p = 3 then some (1, 0) else if p = 4 then some (3, 0) else if p = 5 then some (2, 0) else if p = 6 then some (3, 0) else if p = 7 then some (0, 0) else if p = 8 then some (0, 0) else if p = 9 then some (0, 0) else if p = 10 then some (0, 0) else if p = 11 then some (0, 0) else if p = 12 then some (1, 0) else if p = 13 then some (0, 0) else if p = 14 then some (0, 0) else if p = 15 then some (0, 0) else if p = 16 then some (0, 0) else if p = 17 then some (0, 0) else if p = 18 then some (2, 0) else if p = 19 then some (2, 0) else if p = 20 then some (0, 0) else if p = 21 then some (0, 0) else (none : Option (Nat × Nat))) = some (gvn m, 0) := by
      intro m hm h1 e
      subst e
      match m, hm, h1 with
      | 0, _, _ => rfl
      | 1, _, h1 => exact absurd rfl h1
      | 2, _, _ => rfl
      | 3, _, _ => rfl
      | 4, _, _ => rfl
      | 5, _, _ => rfl
      | 6, _, _ => rfl
      | 7, _, _ => rfl
      | 8, _, _ => rfl
      | 9, _, _ => rfl
      | 10, _, _ => rfl
      | 11, _, _ => rfl
      | 12, _, _ => rfl
      | 13, _, _ => rfl
      | 14, _, _ => rfl
      | 15, _, _ => rfl
      | 16, _, _ => rfl
      | 17, _, _ => rfl
      | 18, _, _ => rfl
      | 19, _, _ => rfl
      | 20, _, _ => rfl
      | 21, _, _ => rfl
      | m + 22, hm, _ => exact absurd hm (by omega)
    by_cases hr : 0 ≤ p ∧ p ≤ 21
    · have e : p = ((p.toNat : Nat) : Int) := by omega
      have q := key p.toNat (by omega) (by omega) e
      rw [q] at h
      injection h with h
      injection h with h1 h2
      exact ⟨p.toNat, by omega, e, by omega, h1.symm, h2.symm⟩
    · exfalso
      simp only [show ¬ p = 0 by omega, show ¬ p = 1 by omega, show ¬ p = 2 by omega, show ¬ p = 3 by omega, show ¬ p = 4 by omega, show ¬ p = 5 by omega, show ¬ p = 6 by omega, show ¬ p = 7 by omega, show ¬ p = 8 by omega, show ¬ p = 9 by omega, show ¬ p = 10 by omega, show ¬ p = 11 by omega, show ¬ p = 12 by omega, show ¬ p = 13 by omega, show ¬ p = 14 by omega, show ¬ p = 15 by omega, show ¬ p = 16 by omega, show ¬ p = 17 by omega, show ¬ p = 18 by omega, show ¬ p = 19 by omega, show ¬ p = 20 by omega, show ¬ p = 21 by omega, if_false] at h
      cases h
/-- one call at the head of a list, and how many numbers it takes -/
inductive Head : List Int → Nat → List (List Int) → Prop
  | row {m : Int} {r : List Int} (h0 : 0 ≤ m) (hl : m.toNat ≤ r.length) : Head (1 :: m :: r) (2 + m.toNat) [[1], r.take m.toNat]
  | nums {k : Nat} {r : List Int} (hk : k ≤ 21) (h1 : k ≠ 1) (hl : gvn k ≤ r.length) : Head ((k : Int) :: r) (1 + gvn k) [(k : Int) :: r.take (gvn k)]
theorem call_head {l : List Int} {c : List (List Int)} {t : List Int} (h : PyFlat.call PyKrbq.shape l = some (c, t)) : ∃ n, Head l n c ∧ t = l.drop n ∧ n ≤ l.length ∧ 1 ≤ n := by
  cases l with
  | nil => cases h
  | cons p r =>
    unfold PyFlat.call at h
    dsimp only at h
    cases e : PyKrbq.shape p with
    | none =>
      rw [e] at h
      cases h
    | some x =>
      obtain ⟨n, k⟩ := x
      rw [e] at h
      dsimp only at h
      rcases shape_cases e with ⟨rfl, rfl, rfl⟩ | ⟨m, hm, rfl, h1, rfl, rfl⟩
      · rw [if_neg (Nat.not_lt_zero _), List.drop_zero] at h
        unfold PyFlat.rows at h
        cases r with
        | nil => cases h
        | cons m r' =>
          unfold PyFlat.row at h
          dsimp only at h
          by_cases c0 : 0 ≤ m ∧ m.toNat ≤ r'.length
          · rw [if_pos c0] at h
            simp only [PyFlat.rows, List.take_zero] at h
            cases h
            refine ⟨2 + m.toNat, .row c0.1 c0.2, ?_, ?_, by omega⟩
            · rw [Nat.add_comm 2, List.drop_succ_cons, List.drop_succ_cons]
            · rw [List.length_cons, List.length_cons]
              omega
          · rw [if_neg c0] at h
            cases h
      · by_cases c0 : r.length < gvn m
        · rw [if_pos c0] at h
          cases h
        · rw [if_neg c0] at h
          simp only [PyFlat.rows] at h
          cases h
          refine ⟨1 + gvn m, .nums hm h1 (by omega), ?_, ?_, by omega⟩
          · rw [Nat.add_comm 1, List.drop_succ_cons]
          · rw [List.length_cons]
            omega
theorem calls_nil {f : Nat} {raw : List (List (List Int))} (h : PyFlat.calls PyKrbq.shape f [] = some raw) : raw = [] := by
  cases f <;> cases h <;> rfl
theorem calls_step {f : Nat} {l : List Int} {raw : List (List (List Int))} (hl : l ≠ []) (h : PyFlat.calls PyKrbq.shape f l = some raw) :
    ∃ f' n c cs, Head l n c ∧ n ≤ l.length ∧ 1 ≤ n ∧ raw = c :: cs ∧ PyFlat.calls PyKrbq.shape f' (l.drop n) = some cs := by
  cases l with
  | nil => exact absurd rfl hl
  | cons p r =>
    cases f with
    | zero => cases h
    | succ f =>
      unfold PyFlat.calls at h
      cases e : PyFlat.call PyKrbq.shape (p :: r) with
      | none =>
        rw [e] at h
        cases h
      | some x =>
        obtain ⟨c, t⟩ := x
        rw [e] at h
        dsimp only at h
        cases e2 : PyFlat.calls PyKrbq.shape f t with
        | none =>
          rw [e2] at h
          cases h
        | some cs =>
          rw [e2] at h
          cases h
          obtain ⟨n, hh, rfl, hn, h1⟩ := call_head e
          exact ⟨f, n, c, cs, hh, hn, h1, rfl, e2⟩
theorem whole_id (c : List (List Int)) : PyKrbq.whole c = c := by
  unfold PyKrbq.whole
  split <;> rfl
theorem map_whole (cs : List (List (List Int))) : cs.map PyKrbq.whole = cs := by
  rw [List.map_congr_left (g := id) fun c _ => whole_id c, List.map_id]
theorem answers_eq {l : List Int} {raw : List (List (List Int))} (h : PyFlat.calls PyKrbq.shape l.length l = some raw) : PyKrbq.answers l = PyFlat.told (PyFlat.played KrbqNeutral.step KrbqNeutral.start raw) := by
  unfold PyKrbq.answers PyKrbq.calls
  rw [h]
  dsimp only
  rw [map_whole]
theorem asked_of {l : List Int} (h : PyKrbq.answers_asked l = true) : ∃ raw, PyFlat.calls PyKrbq.shape l.length l = some raw ∧ raw.length ≤ 40 ∧ (PyKrbq.answers l).length ≤ 10000000 := by
  unfold PyKrbq.answers_asked at h
  cases e : PyFlat.calls PyKrbq.shape l.length l with
  | none =>
    rw [e] at h
    cases h
  | some raw =>
    rw [e] at h
    dsimp only at h
    rw [Bool.and_eq_true, Bool.and_eq_true, Bool.and_eq_true] at h
    exact ⟨raw, rfl, of_decide_eq_true h.1.1.1, of_decide_eq_true h.2⟩
/-- the operation of a call's number and what is given to it -/
def opOf (k : Nat) (xs : List Nat) : Krbq.Operation := match k with
  | 0 => .base (.create (xs.getD 0 0) (xs.getD 1 0) (xs.getD 2 0))
  | 1 => .base (.addTileType xs)
  | 2 => .base (.setStrength (xs.getD 0 0) (xs.getD 1 0))
  | 3 => .base (.setThreshold (xs.getD 0 0))
  | 4 => .base (.addSeed (xs.getD 0 0) (xs.getD 1 0) (xs.getD 2 0))
  | 5 => .base (.removeSeed (xs.getD 0 0) (xs.getD 1 0))
  | 6 => .base (.attach (xs.getD 0 0) (xs.getD 1 0) (xs.getD 2 0))
  | 7 => .base .undoAttach
  | 8 => .base .clearAttached
  | 9 => .base .grow
  | 10 => .base .parallelRounds
  | 11 => .base .getGrid
  | 12 => .base (.getTileType (xs.getD 0 0))
  | 13 => .base .status
  | 14 => .isUnique
  | 15 => .firstAlternative
  | 16 => .alternatives
  | 17 => .terminalGrid
  | 18 => .gridWithout (xs.getD 0 0) (xs.getD 1 0)
  | 19 => .prerequisites (xs.getD 0 0) (xs.getD 1 0)
  | 20 => .maxPrerequisites
  | _ => .independentPositions
theorem getD_toNat (l : List Int) (i : Nat) : (l.getD i 0).toNat = (l.map Int.toNat).getD i 0 := by
  rw [List.getD_eq_getElem?_getD, List.getD_eq_getElem?_getD, List.getElem?_map]
  cases l[i]? <;> rfl
theorem op_row (x : List Int) : KrbqNeutral.operation [[1], x] = opOf 1 (x.map Int.toNat) := rfl
theorem natAt_succ (p : Int) (l : List Int) (i : Nat) : KrbqNeutral.natAt [p :: l] (i + 1) = (l.map Int.toNat).getD i 0 := getD_toNat l i
theorem op_nums {k : Nat} (hk : k ≤ 21) (h1 : k ≠ 1) (l : List Int) : KrbqNeutral.operation [(k : Int) :: l] = opOf k (l.map Int.toNat) := by
  have n1 (p : Int) : KrbqNeutral.natAt [p :: l] 1 = (l.map Int.toNat).getD 0 0 := natAt_succ p l 0
  have n2 (p : Int) : KrbqNeutral.natAt [p :: l] 2 = (l.map Int.toNat).getD 1 0 := natAt_succ p l 1
  have n3 (p : Int) : KrbqNeutral.natAt [p :: l] 3 = (l.map Int.toNat).getD 2 0 := natAt_succ p l 2
  have n0 : KrbqNeutral.natAt [(k : Int) :: l] 0 = k := Int.toNat_natCast k
  unfold KrbqNeutral.operation
  rw [n0, n1, n2, n3]
  match k, hk, h1 with
  | 0, _, _ => rfl
  | 1, _, h1 => exact absurd rfl h1
  | 2, _, _ => rfl
  | 3, _, _ => rfl
  | 4, _, _ => rfl
  | 5, _, _ => rfl
  | 6, _, _ => rfl
  | 7, _, _ => rfl
  | 8, _, _ => rfl
  | 9, _, _ => rfl
  | 10, _, _ => rfl
  | 11, _, _ => rfl
  | 12, _, _ => rfl
  | 13, _, _ => rfl
  | 14, _, _ => rfl
  | 15, _, _ => rfl
  | 16, _, _ => rfl
  | 17, _, _ => rfl
  | 18, _, _ => rfl
  | 19, _, _ => rfl
  | 20, _, _ => rfl
  | 21, _, _ => rfl
  | m + 22, hm, _ => exact absurd hm (by omega)
/-- the attached tiles grow by at most 36 a call, where the grid has at most 36 places -/
def attLen (st : Krbp.State) : Nat := match st with
  | none => 0
  | some b => b.attached.length
theorem att_keep {st st' : Krbp.State} {b' : Krbp.Instance} (e : st' = some b') (h : st' = st) : b'.attached.length ≤ attLen st + 36 := by
  subst h
  subst e
  exact Nat.le_add_right _ _
theorem att_base {st : Krbp.State} {op : Krbp.Operation} {b' : Krbp.Instance} (hs : ∀ b, st = some b → b.system.size ≤ 36) (h : (Krbp.execute st op).1 = some b') : b'.attached.length ≤ attLen st + 36 := by
  have z : ∀ {b : Krbp.Instance}, b.attached = [] → some b = some b' → b'.attached.length ≤ attLen st + 36 := fun {b} e e2 => by
    injection e2 with e2
    subst e2
    rw [e]
    exact Nat.zero_le _
  cases op with
  | create w h' t =>
    simp only [Krbp.execute] at h
    split at h
    · exact att_keep h rfl
    · exact z rfl h
  | _ =>
    cases st with
    | none =>
      simp only [Krbp.execute] at h
      cases h
    | some b =>
      simp only [Krbp.execute] at h
      repeat' split at h
      all_goals first
        | exact att_keep h rfl
        | exact z rfl h
        | (injection h with h
           subst h
           simp only [attLen, List.length_append, List.length_dropLast, List.length_singleton]
           have := growth_length (s := b.system) b.system.size b.grid
           have := hs b rfl
           omega)
theorem att_step {st : Krbp.State} {op : Krbq.Operation} {b' : Krbp.Instance} (hs : ∀ b, st = some b → b.system.size ≤ 36) (h : (Krbq.execute st op).1 = some b') : b'.attached.length ≤ attLen st + 36 := by
  cases op with
  | base op => exact att_base hs h
  | _ =>
    cases st with
    | none => cases h
    | some b => exact att_keep h rfl
end Gt

namespace Gt
open PySem PySem.Spec PyProof.Rows L2

/-! ### the text by places -/
def top (i : Nat) : Stmt := PySem.Challenge.pw_gluetilesdesk_s01_answers.main.body.getD i (.Pass ⟨0, 0, 0, 0⟩)

/-! ### names of the top -/
/-- a whole number of the top -/
def GI (mg : Str → Option Value) (x : Str) (n : Int) : Prop := ∃ t, mg x = some (.int n t)
theorem pe_gi {X : Cx} {x : Str} {pos : Pos} {n : Int} (hg : Gl X x) (h : GI X.mg x n) (hd : (x == ("__debug__" : Str)) = false := by decide) : PE X (.Name x pos) (tC (.int n)) := by
  obtain ⟨t, h⟩ := h
  exact pe_glob hg h ⟨t, rfl⟩ hd
theorem pe_gr {X : Cx} {x : Str} {pos : Pos} {a : Addr} (hg : Gl X x) (h : X.mg x = some (.ref a)) (hd : (x == ("__debug__" : Str)) = false := by decide) : PE X (.Name x pos) (tC (.ref a)) := pe_glob (v := .ref a) hg h rfl hd
/-- a def of the top as it stands there -/
structure Df (K : PySem.W.Frag) (mg : Str → Option Value) (x : Str) (st : Stmt) (ps : List Str) : Prop where
  ex : ∃ (f : Addr) (fd : FuncData), mg x = some (.ref f) ∧ Fun K x x st f fd ∧ Binds K fd ps []
/-- a def of the top that keeps its promise -/
structure Fd (P : Program) (w : World) (K : PySem.W.Frag) (mg : Str → Option Value) (base : Heap) (x : Str) (ps : List Str) (k : Nat) (sp : Sp) : Prop where
  ex : ∃ (f : Addr) (fd : FuncData), mg x = some (.ref f) ∧ PySem.W.keepIn K (.ref f) = true ∧ Binds K fd ps [] ∧ FnOk P w K mg base CX0 k f fd ps sp
theorem pe_fn {X : Cx} {k : Nat} {x : Str} {ps : List Str} {sp : Sp} {e : Expr} {es : List Expr} {t : TA} {p pos : Pos} (F : Fd X.prog X.w X.K X.mg X.base x ps k sp) (hr : Room k X.A) (hg : Gl X x) (ha : PA X (e :: es) t)
    (hdb : (x == ("__debug__" : Str)) = false := by decide) (hst : starEach (e :: es) X.env = (false, eval e X.env) :: starEach es X.env := by rfl) (hpl : (backTo pos (starEach es X.env)).any (·.1) = false := by rfl) :
    PE X (.Call (.Name x p) (e :: es) [] pos) (tCall sp [] E0 t) := by
  obtain ⟨f, fd, hm, hk, hb, G⟩ := F.ex
  exact pe_call G hr hg hm hk hb .nil pass0 ha hdb hst hpl
theorem Df.ok {P : Program} {w : World} {K : PySem.W.Frag} {mg : Str → Option Value} {base : Heap} {x : Str} {st : Stmt} {N ps : List Str} {k : Nat} {sp : Sp} (F : Df K mg x st ps) (S : FnScope N ps (defScope st)) (len : ∀ vs H Q E, sp vs H Q E → vs.length = ps.length)
    (hbody : ∀ (f : Addr) (cdv : Value) (A : Around) (outer : List Env) (s : Shared) (H : Hp) (vs : List V) (Q : VK) (E : XK), Room k (A.deeper (envOfC x (defScope st) s.heap.objs.size f cdv)) → sp vs H Q E →
      ∃ t, PSs (cxOf CX0 P w K mg base N x (defScope st) f cdv A outer s H E).nox (defBody st) t ∧ t { nx := fun _ H' => Q .non H', rt := Q } (start N vs) H) : Fd P w K mg base x ps (k + 1) sp := by
  obtain ⟨f, fd, hm, hF, hb⟩ := F.ex
  exact ⟨f, fd, hm, hF.kp, hb, hF.ok S len (hbody f)⟩

/-- a class of the top that makes instances, and its __init__ -/
structure MkC (P : Program) (w : World) (K : PySem.W.Frag) (mg : Str → Option Value) (base : Heap) (x : Str) (C : Addr) (ps : List Str) (k : Nat) (sp : Sp) : Prop where
  ex : ∃ (f : Addr) (fd : FuncData), Mk K C f ∧ mg x = some (.ref C) ∧ Binds K fd ps [] ∧ FnOk P w K mg base CX0 k f fd ps sp
theorem pe_mk {X : Cx} {k : Nat} {x : Str} {C : Addr} {ps : List Str} {sp : Sp} {e : Expr} {es : List Expr} {t : TA} {p pos : Pos} (M : MkC X.prog X.w X.K X.mg X.base x C ps k sp) (hr : Room (k + 1) X.A) (hg : Gl X x) (ha : PA X (e :: es) t)
    (hdb : (x == ("__debug__" : Str)) = false := by decide) (hst : starEach (e :: es) X.env = (false, eval e X.env) :: starEach es X.env := by rfl) (hpl : (backTo pos (starEach es X.env)).any (·.1) = false := by rfl) :
    PE X (.Call (.Name x p) (e :: es) [] pos) (tMake C sp [] E0 t) := by
  obtain ⟨f, fd, mk, hm, hb, G⟩ := M.ex
  exact pe_make mk G hr hg hm hb .nil pass0 ha hdb hst hpl
theorem pe_mk0 {X : Cx} {k : Nat} {x : Str} {C : Addr} {ps : List Str} {sp : Sp} {p pos : Pos} (M : MkC X.prog X.w X.K X.mg X.base x C ps k sp) (hr : Room (k + 1) X.A) (hg : Gl X x) (hdb : (x == ("__debug__" : Str)) = false := by decide) :
    PE X (.Call (.Name x p) [] [] pos) (tMake C sp [] E0 tNil) := by
  obtain ⟨f, fd, mk, hm, hb, G⟩ := M.ex
  exact pe_make0 mk G hr hg hm hb .nil pass0 hdb

/-! ### small facts -/
theorem ifT {c : Bool} {A B : Prop} (e : c = true) (a : A) : if c = true then A else B := by
  subst e
  exact a
theorem ifF {c : Bool} {A B : Prop} (e : c = false) (a : B) : if c = true then A else B := by
  subst e
  exact a
theorem ifB {c : Bool} {A B : Prop} (h1 : c = true → A) (h2 : c = false → B) : if c = true then A else B := by
  cases c with
  | true => exact ifT rfl (h1 rfl)
  | false => exact ifF rfl (h2 rfl)
theorem Same.new {H : Hp} {p : Addr} {o : HO} (h : H p = none) : Same H (upd H p o) := fun a u e => by
  rw [upd_ne (ne_of_none e h)]
  exact e
theorem Same.mut {H H' : Hp} {p : Addr} {o : HO} (e : Same H H') (h : H p = none) : Same H (upd H' p o) := fun a u ha => by
  rw [upd_ne (ne_of_none ha h)]
  exact e a u ha

/-! ### data -/
abbrev tN (n : Nat) : V := .int (n : Int)
def nums (l : List Nat) : List V := l.map tN
def gV (g : Krbp.Grid) : List V := (encG g).map V.int
theorem gV_get {g : Krbp.Grid} {p : Nat} (h : p < g.length) : (gV g)[p]? = some (.int (encT (Krbp.tileAt g p))) := by
  unfold gV
  rw [List.getElem?_map, encG_get h]
  rfl
theorem gV_length (g : Krbp.Grid) : (gV g).length = g.length := by
  unfold gV
  rw [List.length_map, encG_length]
theorem gV_place (g : Krbp.Grid) (p i : Nat) : gV (Krbp.place g p i) = (gV g).set p (.int ((i : Int) + 1)) := by
  unfold gV
  rw [encG_place, List.map_set]
theorem nums_get {l : List Nat} {i : Nat} (h : i < l.length) : (nums l)[i]? = some (tN (l.getD i 0)) := by
  unfold nums
  rw [List.getElem?_map, List.getElem?_eq_getElem h, List.getD_eq_getElem?_getD, List.getElem?_eq_getElem h]
  rfl
theorem nums_length (l : List Nat) : (nums l).length = l.length := List.length_map ..
theorem map_lt {α β : Type} {f : α → β} {l : List α} {i : Nat} {y : β} (h : (l.map f)[i]? = some y) : i < l.length := by
  have := (List.getElem?_eq_some_iff.mp h).1
  rw [List.length_map] at this
  exact this
inductive All2 {α β : Type} (R : α → β → Prop) : List α → List β → Prop
  | nil : All2 R [] []
  | cons {a : α} {b : β} {as : List α} {bs : List β} : R a b → All2 R as bs → All2 R (a :: as) (b :: bs)
theorem All2.length {α β : Type} {R : α → β → Prop} {as : List α} {bs : List β} (h : All2 R as bs) : as.length = bs.length := by
  induction h with
  | nil => rfl
  | cons _ _ ih => rw [List.length_cons, List.length_cons, ih]
theorem All2.get {α β : Type} {R : α → β → Prop} : ∀ {as : List α} {bs : List β}, All2 R as bs → ∀ {i : Nat} {b : β}, bs[i]? = some b → ∃ a, as[i]? = some a ∧ R a b
  | _, _, .nil, i, b, h => by simp at h
  | _, _, .cons r _, 0, b, h => by
    cases h
    exact ⟨_, rfl, r⟩
  | _, _, .cons _ t, i + 1, b, h => t.get (i := i) h
theorem All2.mono {α β : Type} {R S : α → β → Prop} {as : List α} {bs : List β} (h : All2 R as bs) (f : ∀ a b, R a b → S a b) : All2 S as bs := by
  induction h with
  | nil => exact .nil
  | cons r _ ih => exact .cons (f _ _ r) ih
theorem All2.append {α β : Type} {R : α → β → Prop} {as cs : List α} {bs ds : List β} (h : All2 R as bs) (k : All2 R cs ds) : All2 R (as ++ cs) (bs ++ ds) := by
  induction h with
  | nil => exact k
  | cons r _ ih => exact .cons r ih
theorem All2.dropLast {α β : Type} {R : α → β → Prop} : ∀ {as : List α} {bs : List β}, All2 R as bs → All2 R as.dropLast bs.dropLast
  | _, _, .nil => .nil
  | _, _, .cons _ .nil => .nil
  | _, _, .cons r (.cons r2 t) => .cons r (All2.dropLast (.cons r2 t))

/-! ### a well formed instance -/
structure WF (b : Krbp.Instance) : Prop where
  w1 : 1 ≤ b.system.width
  w6 : b.system.width ≤ 6
  h1 : 1 ≤ b.system.height
  h6 : b.system.height ≤ 6
  t1 : 1 ≤ b.system.threshold
  t4 : b.system.threshold ≤ 4
  sl : b.system.strengths.length = 9
  s3 : ∀ x ∈ b.system.strengths, x ≤ 3
  kl : b.system.tileTypes.length ≤ 12
  k4 : ∀ l ∈ b.system.tileTypes, l.length = 4 ∧ ∀ x ∈ l, x ≤ 9
  sn : (b.seeds.map (·.1)).Nodup
  so : ∀ x ∈ b.seeds, x.1 < b.system.size ∧ x.2 < b.system.tileTypes.length
  ao : ∀ x ∈ b.attached, x.1 < b.system.size ∧ x.2 < b.system.tileTypes.length

/-! ### how an instance lies in the heap -/
/-- the addresses of what may change: the object, its strengths, kinds, seeds, attached -/
structure Foot where
  a : Addr
  aS : Addr
  aK : Addr
  aD : Addr
  aT : Addr
  /-- where tile kinds may lie: read, never changed -/
  kk : Addr → Prop
def flds (w h t : Nat) (F : Foot) : List (Str × V) :=
  [("width", tN w), ("height", tN h), ("threshold", tN t), ("strengths", .ref F.aS), ("kinds", .ref F.aK), ("seeds", .ref F.aD), ("attached", .ref F.aT)]
def seedsV (l : List (Nat × Nat)) : List (Key × V) := l.map fun x => (Sum.inl (x.1 : Int), tN x.2)
def KindAt (H : Hp) (F : Foot) (a : Addr) (l : List Nat) : Prop := H a = some (.lst (nums l)) ∧ a ≠ F.aS ∧ a ≠ F.aK ∧ a ≠ F.aT ∧ F.kk a
def PairAt (H : Hp) (a : Addr) (x : Nat × Nat) : Prop := H a = some (.tup [tN x.1, tN x.2])
structure InstAt (C : Addr) (H : Hp) (F : Foot) (b : Krbp.Instance) : Prop where
  ob : ∃ dx, H F.a = some (.ins C dx (flds b.system.width b.system.height b.system.threshold F))
  st : H F.aS = some (.lst (nums (0 :: b.system.strengths)))
  kd : ∃ ks : List Addr, H F.aK = some (.lst (ks.map V.ref)) ∧ All2 (KindAt H F) ks b.system.tileTypes
  sd : H F.aD = some (.dK (seedsV b.seeds))
  at_ : ∃ ts : List Addr, H F.aT = some (.lst (ts.map V.ref)) ∧ All2 (PairAt H) ts b.attached
  dSK : F.aS ≠ F.aK
  dST : F.aS ≠ F.aT
  dKT : F.aK ≠ F.aT
  wf : WF b
theorem InstAt.same {C : Addr} {H H' : Hp} {F : Foot} {b : Krbp.Instance} (I : InstAt C H F b) (s : Same H H') : InstAt C H' F b := by
  obtain ⟨⟨dx, ob⟩, st, ⟨ks, hk, ka⟩, sd, ⟨ts, ht, ta⟩, d1, d2, d3, wf⟩ := I
  exact ⟨⟨dx, s _ _ ob⟩, s _ _ st, ⟨ks, s _ _ hk, ka.mono fun _ _ r => ⟨s _ _ r.1, r.2⟩⟩, s _ _ sd, ⟨ts, s _ _ ht, ta.mono fun _ _ r => s _ _ r⟩, d1, d2, d3, wf⟩
theorem lk_here {n : Str} {y : V} {l : List (Str × V)} : ((n, y) :: l).lookup n = some y := by
  rw [List.lookup_cons, beq_self_eq_true]
theorem put_here {n : Str} {y z : V} {l : List (Str × V)} : putF n y ((n, z) :: l) = (n, y) :: l := by
  unfold putF
  rw [if_pos rfl]
theorem put_past {n m : Str} {y z : V} {l : List (Str × V)} (ne : ¬ m = n) : putF n y ((m, z) :: l) = (m, z) :: putF n y l := by
  rw [putF, if_neg ne]
theorem lk_past {n m : Str} {y : V} {l : List (Str × V)} (ne : (n == m) = false) : ((m, y) :: l).lookup n = l.lookup n := by
  rw [List.lookup_cons, ne]
section
variable (w h t : Nat) (F : Foot)
theorem fl_width : (flds w h t F).lookup ("width" : Str) = some (tN w) := lk_here
theorem fl_height : (flds w h t F).lookup ("height" : Str) = some (tN h) := (lk_past (by decide +kernel)).trans lk_here
theorem fl_threshold : (flds w h t F).lookup ("threshold" : Str) = some (tN t) := (lk_past (by decide +kernel)).trans ((lk_past (by decide +kernel)).trans lk_here)
theorem fl_strengths : (flds w h t F).lookup ("strengths" : Str) = some (.ref F.aS) := (lk_past (by decide +kernel)).trans ((lk_past (by decide +kernel)).trans ((lk_past (by decide +kernel)).trans lk_here))
theorem fl_kinds : (flds w h t F).lookup ("kinds" : Str) = some (.ref F.aK) := (lk_past (by decide +kernel)).trans ((lk_past (by decide +kernel)).trans ((lk_past (by decide +kernel)).trans ((lk_past (by decide +kernel)).trans lk_here)))
theorem fl_seeds : (flds w h t F).lookup ("seeds" : Str) = some (.ref F.aD) := (lk_past (by decide +kernel)).trans ((lk_past (by decide +kernel)).trans ((lk_past (by decide +kernel)).trans ((lk_past (by decide +kernel)).trans ((lk_past (by decide +kernel)).trans lk_here))))
theorem fl_attached : (flds w h t F).lookup ("attached" : Str) = some (.ref F.aT) := (lk_past (by decide +kernel)).trans ((lk_past (by decide +kernel)).trans ((lk_past (by decide +kernel)).trans ((lk_past (by decide +kernel)).trans ((lk_past (by decide +kernel)).trans ((lk_past (by decide +kernel)).trans lk_here)))))
end
/-- what the top has written -/
structure Txt (K : PySem.W.Frag) (mg : Str → Option Value) (C : Addr) : Prop where
  ci : Cls K C
  n_width : NoAttr K C "width"
  n_height : NoAttr K C "height"
  n_threshold : NoAttr K C "threshold"
  n_strengths : NoAttr K C "strengths"
  n_kinds : NoAttr K C "kinds"
  n_seeds : NoAttr K C "seeds"
  n_attached : NoAttr K C "attached"
  g_EMPTY : GI mg "EMPTY" 0
  g_MOST_GLUE : GI mg "MOST_GLUE" 9
  g_NORTH : GI mg "NORTH" 0
  g_EAST : GI mg "EAST" 1
  g_SOUTH : GI mg "SOUTH" 2
  g_WEST : GI mg "WEST" 3
  g_NO_SUCH : GI mg "NO_SUCH" (-2)
  g_NOTHING_ATTACHED : GI mg "NOTHING_ATTACHED" (-6)
  g_NO_INSTANCE : GI mg "NO_INSTANCE" (-11)
  g_NOT_ATTACHABLE : GI mg "NOT_ATTACHABLE" (-14)
  g_OCCUPIED : GI mg "OCCUPIED" (-17)
  g_OUT_OF_LIMITS : GI mg "OUT_OF_LIMITS" (-22)
  g_KINDS_FULL : GI mg "KINDS_FULL" (-28)
  g_NOT_THERE : GI mg "NOT_THERE" (-33)
  g_MOST_SIDE : GI mg "MOST_SIDE" 6
  g_MOST_THRESHOLD : GI mg "MOST_THRESHOLD" 4
  g_MOST_STRENGTH : GI mg "MOST_STRENGTH" 3
  g_MOST_KINDS : GI mg "MOST_KINDS" 12
  g_SIDES : GI mg "SIDES" 4
  g_CREATE : GI mg "CREATE" 0
  g_ADD_TILE_KIND : GI mg "ADD_TILE_KIND" 1
  g_SET_STRENGTH : GI mg "SET_STRENGTH" 2
  g_SET_THRESHOLD : GI mg "SET_THRESHOLD" 3
  g_ADD_SEED : GI mg "ADD_SEED" 4
  g_REMOVE_SEED : GI mg "REMOVE_SEED" 5
  g_ATTACH : GI mg "ATTACH" 6
  g_UNDO_ATTACH : GI mg "UNDO_ATTACH" 7
  g_CLEAR_ATTACHED : GI mg "CLEAR_ATTACHED" 8
  g_GROW : GI mg "GROW" 9
  g_PARALLEL_ROUNDS : GI mg "PARALLEL_ROUNDS" 10
  g_GET_GRID : GI mg "GET_GRID" 11
  g_GET_TILE_KIND : GI mg "GET_TILE_KIND" 12
  g_STATUS : GI mg "STATUS" 13
  g_IS_UNIQUE : GI mg "IS_UNIQUE" 14
  g_FIRST_ALTERNATIVE : GI mg "FIRST_ALTERNATIVE" 15
  g_ALTERNATIVES : GI mg "ALTERNATIVES" 16
  g_TERMINAL_GRID : GI mg "TERMINAL_GRID" 17
  g_GRID_WITHOUT : GI mg "GRID_WITHOUT" 18
  g_PREREQUISITES : GI mg "PREREQUISITES" 19
  g_MAX_PREREQUISITES : GI mg "MAX_PREREQUISITES" 20
  b_len : mg "len" = none
  b_list : mg "list" = none
  b_max : mg "max" = none
  b_range : mg "range" = none
/-! ### reading a field -/
section
variable {K : PySem.W.Frag} {mg : Str → Option Value} {C : Addr} {H : Hp} {F : Foot} {b : Krbp.Instance} {σ : L2.St} {i : Nat} {Q : VK}
theorem rd_width (T : Txt K mg C) (I : InstAt C H F b) (hs : σ[i]? = some (some (.ref F.a))) (q : Q (tN b.system.width) H) : tFld K (tVar i) "width" σ H Q := by
  obtain ⟨dx, ob⟩ := I.ob
  exact ⟨_, hs, F.a, C, dx, _, _, rfl, ob, T.ci, T.n_width, fl_width .., q⟩
theorem rd_height (T : Txt K mg C) (I : InstAt C H F b) (hs : σ[i]? = some (some (.ref F.a))) (q : Q (tN b.system.height) H) : tFld K (tVar i) "height" σ H Q := by
  obtain ⟨dx, ob⟩ := I.ob
  exact ⟨_, hs, F.a, C, dx, _, _, rfl, ob, T.ci, T.n_height, fl_height .., q⟩
theorem rd_threshold (T : Txt K mg C) (I : InstAt C H F b) (hs : σ[i]? = some (some (.ref F.a))) (q : Q (tN b.system.threshold) H) : tFld K (tVar i) "threshold" σ H Q := by
  obtain ⟨dx, ob⟩ := I.ob
  exact ⟨_, hs, F.a, C, dx, _, _, rfl, ob, T.ci, T.n_threshold, fl_threshold .., q⟩
theorem rd_strengths (T : Txt K mg C) (I : InstAt C H F b) (hs : σ[i]? = some (some (.ref F.a))) (q : Q (.ref F.aS) H) : tFld K (tVar i) "strengths" σ H Q := by
  obtain ⟨dx, ob⟩ := I.ob
  exact ⟨_, hs, F.a, C, dx, _, _, rfl, ob, T.ci, T.n_strengths, fl_strengths .., q⟩
theorem rd_kinds (T : Txt K mg C) (I : InstAt C H F b) (hs : σ[i]? = some (some (.ref F.a))) (q : Q (.ref F.aK) H) : tFld K (tVar i) "kinds" σ H Q := by
  obtain ⟨dx, ob⟩ := I.ob
  exact ⟨_, hs, F.a, C, dx, _, _, rfl, ob, T.ci, T.n_kinds, fl_kinds .., q⟩
theorem rd_seeds (T : Txt K mg C) (I : InstAt C H F b) (hs : σ[i]? = some (some (.ref F.a))) (q : Q (.ref F.aD) H) : tFld K (tVar i) "seeds" σ H Q := by
  obtain ⟨dx, ob⟩ := I.ob
  exact ⟨_, hs, F.a, C, dx, _, _, rfl, ob, T.ci, T.n_seeds, fl_seeds .., q⟩
theorem rd_attached (T : Txt K mg C) (I : InstAt C H F b) (hs : σ[i]? = some (some (.ref F.a))) (q : Q (.ref F.aT) H) : tFld K (tVar i) "attached" σ H Q := by
  obtain ⟨dx, ob⟩ := I.ob
  exact ⟨_, hs, F.a, C, dx, _, _, rfl, ob, T.ci, T.n_attached, fl_attached .., q⟩
end
end Gt

namespace Gt
open PySem PySem.Spec PyProof.Rows L2
section
variable {P : Program} {w : World} {K : PySem.W.Frag} {mg : Str → Option Value} {base : Heap} {C : Addr}

/-! ### has_position, has_kind, position_number -/
abbrev s_has_position : Stmt := top 5
theorem sc_has_position : FnScope ["instance", "x", "y"] ["instance", "x", "y"] (defScope s_has_position) := ⟨rfl, rfl, rfl, by decide +kernel, rfl, by decide +kernel, by decide +kernel⟩
abbrev p_has_position : List Str := ["instance", "x", "y"]
def spHasPos (C : Addr) : Sp := fun vs H Q _ => ∃ (F : Foot) (b : Krbp.Instance) (x y : Nat), vs = [.ref F.a, tN x, tN y] ∧ InstAt C H F b ∧
  Q (.bl (decide (x < b.system.width) && decide (y < b.system.height))) H
theorem qv {Q : VK} {v v' : V} {H : Hp} (e : v = v') (h : Q v' H) : Q v H := by
  rw [e]
  exact h
theorem dlt (a b : Nat) : decide ((a : Int) < (b : Int)) = decide (a < b) := by
  by_cases c : a < b
  · rw [decide_eq_true c, decide_eq_true (by omega)]
  · rw [decide_eq_false c, decide_eq_false (by omega)]
theorem dle (a b : Nat) : decide ((a : Int) ≤ (b : Int)) = decide (a ≤ b) := by
  by_cases c : a ≤ b
  · rw [decide_eq_true c, decide_eq_true (by omega)]
  · rw [decide_eq_false c, decide_eq_false (by omega)]
theorem ok_has_position (T : Txt K mg C) (D : Df K mg "has_position" s_has_position p_has_position) : Fd P w K mg base "has_position" p_has_position 1 (spHasPos C) := by
  refine D.ok sc_has_position (fun vs H Q E h => ?_) (fun f cdv A outer s H vs Q E hr h => ?_)
  · obtain ⟨F, b, x, y, rfl, _⟩ := h
    rfl
  · obtain ⟨F, b, x, y, rfl, I, q⟩ := h
    refine ⟨_, (pss_one (ps_ret (pe_and (pe_cmpR op_lt (pv 1) (pe_fld (pv 0) rfl) (nomark _)) (pe_one (pe_cmpR op_lt (pv 2) (pe_fld (pv 0) rfl) (nomark _)))))), ?_⟩
    refine ⟨_, rfl, rd_width T I rfl ⟨_, _, rfl, rfl, _, rfl, ?_⟩⟩
    rw [dlt]
    refine ifB (fun c => ?_) (fun c => ?_)
    · refine ⟨_, rfl, rd_height T I rfl ⟨_, _, rfl, rfl, ?_⟩⟩
      rw [c, Bool.true_and] at q
      exact qv (congrArg V.bl (dlt ..)) q
    · rw [c, Bool.false_and] at q
      exact q
abbrev s_has_kind : Stmt := top 6
theorem sc_has_kind : FnScope ["instance", "kind"] ["instance", "kind"] (defScope s_has_kind) := ⟨rfl, rfl, rfl, by decide +kernel, rfl, by decide +kernel, by decide +kernel⟩
abbrev p_has_kind : List Str := ["instance", "kind"]
def spHasKind (C : Addr) : Sp := fun vs H Q _ => ∃ (F : Foot) (b : Krbp.Instance) (k : Nat), vs = [.ref F.a, tN k] ∧ InstAt C H F b ∧
  Q (.bl (decide (k < b.system.tileTypes.length))) H
theorem ok_has_kind (T : Txt K mg C) (D : Df K mg "has_kind" s_has_kind p_has_kind) : Fd P w K mg base "has_kind" p_has_kind 1 (spHasKind C) := by
  refine D.ok sc_has_kind (fun vs H Q E h => ?_) (fun f cdv A outer s H vs Q E hr h => ?_)
  · obtain ⟨F, b, x, rfl, _⟩ := h
    rfl
  · obtain ⟨F, b, k, rfl, I, q⟩ := h
    refine ⟨_, (pss_one (ps_ret (pe_cmpR op_lt (pv 1) (pe_callB call_len_seq (by rfl) T.b_len PySem.boot_len (pa_cons (pe_fld (pv 0) rfl) pa_nil)) (nomark _)))), ?_⟩
    obtain ⟨ks, hk, ka⟩ := I.kd
    refine ⟨_, rfl, rd_kinds T I rfl ⟨F.aK, _, rfl, .inl (SqL.of hk), _, _, rfl, rfl, ?_⟩⟩
    rw [List.length_map, ka.length]
    exact qv (congrArg V.bl (dlt ..)) q
abbrev s_position_number : Stmt := top 7
theorem sc_position_number : FnScope ["instance", "x", "y"] ["instance", "x", "y"] (defScope s_position_number) := ⟨rfl, rfl, rfl, by decide +kernel, rfl, by decide +kernel, by decide +kernel⟩
abbrev p_position_number : List Str := ["instance", "x", "y"]
def spPosNum (C : Addr) : Sp := fun vs H Q _ => ∃ (F : Foot) (b : Krbp.Instance) (x y : Nat), vs = [.ref F.a, tN x, tN y] ∧ InstAt C H F b ∧ y < b.system.height ∧
  Q (tN (y * b.system.width + x)) H
theorem ok_position_number (T : Txt K mg C) (D : Df K mg "position_number" s_position_number p_position_number) : Fd P w K mg base "position_number" p_position_number 1 (spPosNum C) := by
  refine D.ok sc_position_number (fun vs H Q E h => ?_) (fun f cdv A outer s H vs Q E hr h => ?_)
  · obtain ⟨F, b, x, y, rfl, _⟩ := h
    rfl
  · obtain ⟨F, b, x, y, rfl, I, hy, q⟩ := h
    refine ⟨_, (pss_one (ps_ret (pe_op op_add (pe_op op_mul (pv 2) (pe_fld (pv 0) rfl)) (pv 1)))), ?_⟩
    have h6 := I.wf.h6
    refine ⟨_, rfl, rd_width T I rfl ⟨_, _, rfl, rfl, .inl ⟨by omega, by omega⟩, _, rfl, _, _, rfl, rfl, ?_⟩⟩
    exact qv (congrArg V.int (by rw [Int.natCast_add, Int.natCast_mul])) q

/-! ### neighbours -/
abbrev s_neighbours : Stmt := top 14
theorem sc_neighbours : FnScope ["instance", "position", "width", "x", "y", "found"] ["instance", "position"] (defScope s_neighbours) := ⟨rfl, rfl, rfl, by decide +kernel, rfl, by decide +kernel, by decide +kernel⟩
abbrev p_neighbours : List Str := ["instance", "position"]
def TripAt (H : Hp) (a : Addr) (x : Nat × Nat × Nat) : Prop := H a = some (.tup [tN x.1, tN x.2.1, tN x.2.2])
def spNbr (C : Addr) : Sp := fun vs H Q _ => ∃ (F : Foot) (b : Krbp.Instance) (p : Nat), vs = [.ref F.a, tN p] ∧ InstAt C H F b ∧
  ∀ (H' : Hp) (l : Addr) (ts : List Addr), Same H H' → H l = none → H' l = some (.lst (ts.map V.ref)) → All2 (TripAt H') ts (nbrL b.system.width b.system.height p) → Q (.ref l) H'
theorem emod_cast (p w : Nat) : ((p : Int) % (w : Int)) = ((p % w : Nat) : Int) := by rw [Int.natCast_emod]
theorem ediv_cast (p w : Nat) : ((p : Int) / (w : Int)) = ((p / w : Nat) : Int) := by rw [Int.natCast_ediv]
/-- one possible neighbour more -/
theorem nbr_more {H H1 : Hp} {l t : Addr} {ts : List Addr} {L : List (Nat × Nat × Nat)} {x : Nat × Nat × Nat} (s : Same H H1) (nl : H l = none) (hl : H1 l = some (.lst (ts.map V.ref))) (ha : All2 (TripAt H1) ts L) (nt : H1 t = none) {v : V} (hv : v = tN x.1) :
    let H2 := upd (upd H1 t (.tup [v, tN x.2.1, tN x.2.2])) l (.lst (ts.map V.ref ++ [V.ref t]))
    Same H H2 ∧ H2 l = some (.lst ((ts ++ [t]).map V.ref)) ∧ All2 (TripAt H2) (ts ++ [t]) (L ++ [x]) := by
  subst hv
  have ntl : t ≠ l := (ne_of_none hl nt).symm
  refine ⟨Same.mut (s.trans (Same.new nt)) nl, by rw [upd_same, List.map_append]; rfl, All2.append (ha.mono fun a y r => ?_) (.cons ?_ .nil)⟩
  · have e : a ≠ l := ne_of r hl (by intro z; cases z)
    show _ = _
    rw [upd_ne e, upd_ne (ne_of_none r nt)]
    exact r
  · show _ = _
    rw [upd_ne ntl, upd_same]
def NbI (F : Foot) (b : Krbp.Instance) (p : Nat) (l : Addr) (H : Hp) (L : List (Nat × Nat × Nat)) : L2.St → Hp → Prop := fun σ H1 => ∃ ts : List Addr,
  σ = [some (.ref F.a), some (tN p), some (tN b.system.width), some (tN (p % b.system.width)), some (tN (p / b.system.width)), some (.ref l)] ∧ Same H H1 ∧ H1 l = some (.lst (ts.map V.ref)) ∧ All2 (TripAt H1) ts L
theorem sz4 {ts : List Addr} {n : Nat} (h : ts.length = n) (hn : n ≤ 100) : (ts.map V.ref).length < sizeLine := by
  rw [List.length_map, h]
  exact Nat.lt_of_le_of_lt hn (by decide)
theorem ok_neighbours (T : Txt K mg C) (D : Df K mg "neighbours" s_neighbours p_neighbours) : Fd P w K mg base "neighbours" p_neighbours 1 (spNbr C) := by
  refine D.ok sc_neighbours (fun vs H Q E h => ?_) (fun f cdv A outer s H vs Q E hr h => ?_)
  · obtain ⟨F, b, p, rfl, _⟩ := h
    rfl
  · obtain ⟨F, b, p, rfl, I, q⟩ := h
    refine ⟨_, (pss_cons (ps_set (i := 2) sc_neighbours.nd rfl (Or.inl rfl) (pe_fld (pv 0) rfl))
      (pss_cons (ps_set (i := 3) sc_neighbours.nd rfl (Or.inl rfl) (pe_op op_mod (pv 1) (pv 2)))
      (pss_cons (ps_set (i := 4) sc_neighbours.nd rfl (Or.inl rfl) (pe_op op_fdiv (pv 1) (pv 2)))
      (pss_cons (ps_set (i := 5) sc_neighbours.nd rfl (Or.inl rfl) (pe_lst pa_nil))
      (C8.pss_cut (ps_if (pt_cmpR op_lt (pe_op op_add (pv 4) pe_int) (pe_fld (pv 0) rfl) (nomark _))
      (pss_one (ps_expr (pe_bm PySem.F.plainAttrs_list PySem.F.slot_list_append PySem.F.type_list_append mt_append (pv 5) (pa_cons (pe_tup (pa_cons (pe_op op_add (pv 1) (pv 2)) (pa_cons (pe_gi rfl T.g_NORTH) (pa_cons (pe_gi rfl T.g_SOUTH) pa_nil)))) pa_nil))))
      pss_nil)
      (C8.pss_cut (ps_if (pt_cmpR op_lt (pe_op op_add (pv 3) pe_int) (pv 2) (nomark _))
      (pss_one (ps_expr (pe_bm PySem.F.plainAttrs_list PySem.F.slot_list_append PySem.F.type_list_append mt_append (pv 5) (pa_cons (pe_tup (pa_cons (pe_op op_add (pv 1) pe_int) (pa_cons (pe_gi rfl T.g_EAST) (pa_cons (pe_gi rfl T.g_WEST) pa_nil)))) pa_nil))))
      pss_nil)
      (C8.pss_cut (ps_if (pt_cmpR op_gt (pv 4) pe_int (nomark _))
      (pss_one (ps_expr (pe_bm PySem.F.plainAttrs_list PySem.F.slot_list_append PySem.F.type_list_append mt_append (pv 5) (pa_cons (pe_tup (pa_cons (pe_op op_sub (pv 1) (pv 2)) (pa_cons (pe_gi rfl T.g_SOUTH) (pa_cons (pe_gi rfl T.g_NORTH) pa_nil)))) pa_nil))))
      pss_nil)
      (C8.pss_cut (ps_if (pt_cmpR op_gt (pv 3) pe_int (nomark _))
      (pss_one (ps_expr (pe_bm PySem.F.plainAttrs_list PySem.F.slot_list_append PySem.F.type_list_append mt_append (pv 5) (pa_cons (pe_tup (pa_cons (pe_op op_sub (pv 1) pe_int) (pa_cons (pe_gi rfl T.g_WEST) (pa_cons (pe_gi rfl T.g_EAST) pa_nil)))) pa_nil))))
      pss_nil)
      (pss_one (ps_ret (pv 5))))))))))), ?_⟩
    have w1 := I.wf.w1
    have w6 := I.wf.w6
    refine rd_width T I rfl ?_
    refine ⟨_, rfl, _, rfl, _, _, rfl, rfl, (show (0 : Int) < _ by omega), ?_⟩
    refine ⟨_, rfl, _, rfl, _, _, rfl, rfl, (show _ ∧ _ from ⟨by omega, by omega⟩), ?_⟩
    refine ⟨Nat.zero_le _, fun l nl => ?_⟩
    -- if y + 1 < instance.height
    refine ⟨NbI F b p l H (if p / b.system.width + 1 < b.system.height then [(p + b.system.width, 0, 2)] else []), ?_, ?_⟩
    · refine ⟨_, rfl, _, _, rfl, rfl, rd_height T (I.same (Same.new nl)) rfl ⟨_, _, rfl, rfl, _, rfl, ?_⟩⟩
      have hl : upd H l (.lst []) l = some (.lst (([] : List Addr).map V.ref)) := upd_same
      refine ifB (fun c => ?_) (fun c => ?_)
      · have c := of_decide_eq_true c
        have c' : p / b.system.width + 1 < b.system.height := by rw [ediv_cast] at c; omega
        refine ⟨_, rfl, .inl ⟨rfl, _, SqL.of hl⟩, _, rfl, _, rfl, _, _, rfl, rfl, (by show 3 ≤ sizeLine; decide), fun t nt => ?_⟩
        obtain ⟨s2, h2, a2⟩ := nbr_more (x := (p + b.system.width, 0, 2)) (Same.new nl) nl hl .nil nt rfl
        refine ⟨l, _, _, rfl, rfl, (by rw [upd_ne (ne_of_none hl nt)]; exact hl), sz4 (n := 0) rfl (by omega), ?_⟩
        rw [if_pos c']
        exact ⟨[t], rfl, s2, h2, a2⟩
      · have c := of_decide_eq_false c
        have c' : ¬ p / b.system.width + 1 < b.system.height := by rw [ediv_cast] at c; omega
        rw [if_neg c']
        exact ⟨[], rfl, Same.new nl, hl, .nil⟩
    rintro _ H1 ⟨ts, rfl, s1, hl, ha⟩
    -- if x + 1 < width
    refine ⟨NbI F b p l H ((if p / b.system.width + 1 < b.system.height then [(p + b.system.width, 0, 2)] else []) ++ (if p % b.system.width + 1 < b.system.width then [(p + 1, 1, 3)] else [])), ?_, ?_⟩
    · refine ⟨_, rfl, _, _, rfl, rfl, _, rfl, _, _, rfl, rfl, _, rfl, ?_⟩
      refine ifB (fun c => ?_) (fun c => ?_)
      · have c := of_decide_eq_true c
        have c' : p % b.system.width + 1 < b.system.width := by omega
        refine ⟨_, rfl, .inl ⟨rfl, _, SqL.of hl⟩, _, rfl, _, _, rfl, rfl, (by show 3 ≤ sizeLine; decide), fun t nt => ?_⟩
        obtain ⟨s2, h2, a2⟩ := nbr_more (x := (p + 1, 1, 3)) s1 nl hl ha nt rfl
        refine ⟨l, _, _, rfl, rfl, (by rw [upd_ne (ne_of_none hl nt)]; exact hl), sz4 ha.length (by split <;> simp), ?_⟩
        rw [if_pos c']
        exact ⟨ts ++ [t], rfl, s2, h2, a2⟩
      · have c := of_decide_eq_false c
        have c' : ¬ p % b.system.width + 1 < b.system.width := by omega
        rw [if_neg c', List.append_nil]
        exact ⟨ts, rfl, s1, hl, ha⟩
    clear s1 hl ha
    rintro _ H1 ⟨ts, rfl, s1, hl, ha⟩
    -- if y > 0
    refine ⟨NbI F b p l H (((if p / b.system.width + 1 < b.system.height then [(p + b.system.width, 0, 2)] else []) ++ (if p % b.system.width + 1 < b.system.width then [(p + 1, 1, 3)] else [])) ++ (if 0 < p / b.system.width then [(p - b.system.width, 2, 0)] else [])), ?_, ?_⟩
    · refine ⟨_, rfl, _, _, rfl, rfl, _, rfl, ?_⟩
      refine ifB (fun c => ?_) (fun c => ?_)
      · have c := of_decide_eq_true c
        have c' : 0 < p / b.system.width := by omega
        have hle : b.system.width ≤ p := (Nat.div_pos_iff.mp c').2
        refine ⟨_, rfl, .inl ⟨rfl, _, SqL.of hl⟩, _, rfl, _, rfl, _, _, rfl, rfl, (by show 3 ≤ sizeLine; decide), fun t nt => ?_⟩
        have e : (p : Int) - (b.system.width : Int) = ((p - b.system.width : Nat) : Int) := by omega
        obtain ⟨s2, h2, a2⟩ := nbr_more (x := (p - b.system.width, 2, 0)) s1 nl hl ha nt (congrArg V.int e)
        refine ⟨l, _, _, rfl, rfl, (by rw [upd_ne (ne_of_none hl nt)]; exact hl), sz4 ha.length (by split <;> split <;> simp), ?_⟩
        rw [if_pos c']
        exact ⟨ts ++ [t], rfl, s2, h2, a2⟩
      · have c := of_decide_eq_false c
        have c' : ¬ 0 < p / b.system.width := by omega
        rw [if_neg c', List.append_nil]
        exact ⟨ts, rfl, s1, hl, ha⟩
    clear s1 hl ha
    rintro _ H1 ⟨ts, rfl, s1, hl, ha⟩
    -- if x > 0
    refine ⟨NbI F b p l H ((((if p / b.system.width + 1 < b.system.height then [(p + b.system.width, 0, 2)] else []) ++ (if p % b.system.width + 1 < b.system.width then [(p + 1, 1, 3)] else [])) ++ (if 0 < p / b.system.width then [(p - b.system.width, 2, 0)] else [])) ++ (if 0 < p % b.system.width then [(p - 1, 3, 1)] else [])), ?_, ?_⟩
    · refine ⟨_, rfl, _, _, rfl, rfl, _, rfl, ?_⟩
      refine ifB (fun c => ?_) (fun c => ?_)
      · have c := of_decide_eq_true c
        have c' : 0 < p % b.system.width := by omega
        have hle : 1 ≤ p := Nat.le_trans c' (Nat.mod_le ..)
        refine ⟨_, rfl, .inl ⟨rfl, _, SqL.of hl⟩, _, rfl, _, _, rfl, rfl, (by show 3 ≤ sizeLine; decide), fun t nt => ?_⟩
        have e : (p : Int) - 1 = ((p - 1 : Nat) : Int) := by omega
        obtain ⟨s2, h2, a2⟩ := nbr_more (x := (p - 1, 3, 1)) s1 nl hl ha nt (congrArg V.int e)
        refine ⟨l, _, _, rfl, rfl, (by rw [upd_ne (ne_of_none hl nt)]; exact hl), sz4 ha.length (by split <;> split <;> split <;> simp), ?_⟩
        rw [if_pos c']
        exact ⟨ts ++ [t], rfl, s2, h2, a2⟩
      · have c := of_decide_eq_false c
        have c' : ¬ 0 < p % b.system.width := by omega
        rw [if_neg c', List.append_nil]
        exact ⟨ts, rfl, s1, hl, ha⟩
    clear s1 hl ha
    rintro _ H1 ⟨ts, rfl, s1, hl, ha⟩
    refine ⟨_, rfl, q H1 l ts s1 nl hl ?_⟩
    rw [List.append_assoc, List.append_assoc] at ha
    exact ha
end
end Gt

namespace Gt
open PySem PySem.Spec PyProof.Rows L2
section
variable {P : Program} {w : World} {K : PySem.W.Frag} {mg : Str → Option Value} {base : Heap} {C : Addr}

/-! ### bond -/
abbrev s_bond : Stmt := top 15
theorem sc_bond : FnScope ["instance", "glue", "facing_glue"] ["instance", "glue", "facing_glue"] (defScope s_bond) := ⟨rfl, rfl, rfl, by decide +kernel, rfl, by decide +kernel, by decide +kernel⟩
abbrev p_bond : List Str := ["instance", "glue", "facing_glue"]
def spBond (C : Addr) : Sp := fun vs H Q _ => ∃ (F : Foot) (b : Krbp.Instance) (g1 g2 : Nat), vs = [.ref F.a, tN g1, tN g2] ∧ InstAt C H F b ∧ g1 ≤ 9 ∧
  Q (tN (if g1 = g2 then b.system.strengthOf g1 else 0)) H
theorem strength_get {s : Krbp.TileSystem} (hl : s.strengths.length = 9) {g : Nat} (hg : g ≤ 9) : (nums (0 :: s.strengths))[g]? = some (tN (s.strengthOf g)) := by
  rw [nums_get (by rw [List.length_cons]; omega)]
  cases g with
  | zero => rfl
  | succ n => rfl
theorem ok_bond (T : Txt K mg C) (D : Df K mg "bond" s_bond p_bond) : Fd P w K mg base "bond" p_bond 1 (spBond C) := by
  refine D.ok sc_bond (fun vs H Q E h => ?_) (fun f cdv A outer s H vs Q E hr h => ?_)
  · obtain ⟨F, b, x, y, rfl, _⟩ := h
    rfl
  · obtain ⟨F, b, g1, g2, rfl, I, hg, q⟩ := h
    refine ⟨_, (pss_cons (ps_if (pt_cmpR op_ne (pv 1) (pv 2) (nomark _))
      (pss_one (ps_ret pe_int))
      pss_nil)
      (pss_one (ps_ret (pe_ix ix_list (pe_fld (pv 0) rfl) (pv 1) (fun _ _ => rfl))))), ?_⟩
    refine ⟨_, rfl, _, rfl, rfl, _, rfl, ?_⟩
    by_cases c : g1 = g2
    · subst c
      rw [if_pos rfl] at q
      refine iteNS rfl ?_
      obtain ⟨dx, ob⟩ := I.ob
      exact ⟨_, rfl, F.a, C, _, _, _, rfl, ob, T.ci, T.n_strengths, fl_strengths .., _, rfl, F.aS, _, _, _, rfl, rfl, SqL.of I.st, atI_nat (strength_get I.wf.sl hg), q⟩
    · rw [if_neg c] at q
      refine ifT (by simp; omega) ?_
      exact q

/-! ### binding_strength -/
abbrev s_binding_strength : Stmt := top 16
theorem sc_binding_strength : FnScope ["instance", "grid", "position", "kind", "glues", "total", "place", "side", "facing_side", "facing_glues"] ["instance", "grid", "position", "kind"] (defScope s_binding_strength) := ⟨rfl, rfl, rfl, by decide +kernel, rfl, by decide +kernel, by decide +kernel⟩
abbrev p_binding_strength : List Str := ["instance", "grid", "position", "kind"]
def spBinding (C : Addr) : Sp := fun vs H Q _ => ∃ (F : Foot) (b : Krbp.Instance) (ga : Addr) (g : Krbp.Grid) (p k : Nat), vs = [.ref F.a, .ref ga, tN p, tN k] ∧ InstAt C H F b ∧ H ga = some (.lst (gV g)) ∧ GOk b.system g ∧
  p < b.system.size ∧ k < b.system.tileTypes.length ∧ ∀ H', Same H H' → Q (tN (b.system.bindingStrength g p k)) H'
theorem enc_ne (t : Option Nat) : (!decide (V.int (encT t) = V.int 0)) = t.isSome := by
  cases t with
  | none => rfl
  | some i => simp [encT]; omega
theorem kind_at {H : Hp} {F : Foot} {ks : List Addr} {tt : List (List Nat)} (ka : All2 (KindAt H F) ks tt) {k : Nat} (hk : k < tt.length) : ∃ a, (ks.map V.ref)[k]? = some (.ref a) ∧ H a = some (.lst (nums (tt.getD k []))) := by
  obtain ⟨a, e, r⟩ := ka.get (i := k) (List.getElem?_eq_getElem hk)
  refine ⟨a, by rw [List.getElem?_map, e]; rfl, ?_⟩
  rw [List.getD_eq_getElem?_getD, List.getElem?_eq_getElem hk]
  exact r.1
theorem glue_get {b : Krbp.Instance} (wf : WF b) {k d : Nat} (hk : k < b.system.tileTypes.length) (hd : d < 4) : (nums (b.system.tileTypes.getD k []))[d]? = some (tN (b.system.glueOf k d)) ∧ b.system.glueOf k d ≤ 9 := by
  have hm : b.system.tileTypes.getD k [] ∈ b.system.tileTypes := by
    rw [List.getD_eq_getElem?_getD, List.getElem?_eq_getElem hk]
    exact List.getElem_mem hk
  obtain ⟨h4, h9⟩ := wf.k4 _ hm
  have hd' : d < (b.system.tileTypes.getD k []).length := by rw [h4]; exact hd
  refine ⟨nums_get hd', ?_⟩
  refine h9 _ ?_
  show (b.system.tileTypes.getD k []).getD d 0 ∈ _
  rw [List.getD_eq_getElem?_getD (l := b.system.tileTypes.getD k []), List.getElem?_eq_getElem hd']
  exact List.getElem_mem hd'
theorem ok_binding_strength (T : Txt K mg C) (D : Df K mg "binding_strength" s_binding_strength p_binding_strength) (F_neighbours : Fd P w K mg base "neighbours" p_neighbours 1 (spNbr C)) (F_bond : Fd P w K mg base "bond" p_bond 1 (spBond C)) :
    Fd P w K mg base "binding_strength" p_binding_strength 2 (spBinding C) := by
  refine D.ok sc_binding_strength (fun vs H Q E h => ?_) (fun f cdv A outer s H vs Q E hr h => ?_)
  · obtain ⟨F, b, ga, g, p, k, rfl, _⟩ := h
    rfl
  · obtain ⟨F, b, ga, g, p, k, rfl, I, hg, ok, hp, hk, q⟩ := h
    refine ⟨_, (pss_cons (ps_set (i := 4) sc_binding_strength.nd rfl (Or.inl rfl) (pe_ix ix_list (pe_fld (pv 0) rfl) (pv 3) (fun _ _ => rfl)))
      (pss_cons (ps_set (i := 5) sc_binding_strength.nd rfl (Or.inl rfl) pe_int)
      (pss_cons (ps_for PassesOwn.never rfl (pi_list (pe_fn F_neighbours (hr.mono (by decide)) rfl (pa_cons (pv 0) (pa_cons (pv 2) pa_nil)))) (pg_tup rfl (pgs_cons (pg_name (i := 6) sc_binding_strength.nd rfl (Or.inl rfl)) (pgs_cons (pg_name (i := 7) sc_binding_strength.nd rfl (Or.inl rfl)) (pgs_cons (pg_name (i := 8) sc_binding_strength.nd rfl (Or.inl rfl)) pgs_nil))))
      (pss_one (ps_if (pt_cmpR op_ne (pe_ix ix_list (pv 1) (pv 6) (fun _ _ => rfl)) (pe_gi rfl T.g_EMPTY) (nomark _))
        (pss_cons (ps_set (i := 9) sc_binding_strength.nd rfl (Or.inl rfl) (pe_ix ix_list (pe_fld (pv 0) rfl) (pe_op op_sub (pe_ix ix_list (pv 1) (pv 6) (fun _ _ => rfl)) pe_int) (fun _ _ => rfl)))
          (pss_one (ps_aug (i := 5) sc_binding_strength.nd rfl (Or.inl rfl) (pe_fn F_bond (hr.mono (by decide)) rfl (pa_cons (pv 0) (pa_cons (pe_ix ix_list (pv 4) (pv 7) (fun _ _ => rfl)) (pa_cons (pe_ix ix_list (pv 9) (pv 8) (fun _ _ => rfl)) pa_nil)))) ip_add)))
        pss_nil)))
      (pss_one (ps_ret (pv 5)))))), ?_⟩
    obtain ⟨ks, hks, ka⟩ := id I.kd
    obtain ⟨gk, egk, hgk⟩ := kind_at ka hk
    obtain ⟨dx, ob⟩ := id I.ob
    refine ⟨_, rfl, F.a, C, _, _, _, rfl, ob, T.ci, T.n_kinds, fl_kinds .., _, rfl, F.aK, _, _, _, rfl, rfl, SqL.of hks, atI_nat egk, ?_⟩
    refine ⟨_, rfl, ?_⟩
    refine ⟨_, rfl, F, b, p, rfl, I, fun H1 l ts s1 nl hl ha => ?_⟩
    refine ⟨l, rfl, ⟨_, SqL.of hl⟩, for_list (K := K) (a := l) (xs := ts.map V.ref) (fun i σ H' => ∃ (v6 v7 v8 v9 : Option V), σ = [some (.ref F.a), some (.ref ga), some (tN p), some (tN k), some (.ref gk), some (tN (((nbrL b.system.width b.system.height p).take i).foldl (fun a x => a + bondOf b.system g k x) 0)), v6, v7, v8, v9] ∧ Same H1 H')
      ⟨none, none, none, none, rfl, Same.refl _⟩ (fun i σ H' _ ⟨_, _, _, _, _, s5⟩ => SqL.of (s5 _ _ hl)) ?_ ?_⟩
    · rintro i y σ H' hi ⟨v6, v7, v8, v9, rfl, s5⟩
      have s' : Same H H' := s1.trans s5
      have hil : i < (nbrL b.system.width b.system.height p).length := by
        rw [← ha.length]
        exact map_lt hi
      obtain ⟨t, et, ht⟩ := ha.get (List.getElem?_eq_getElem hil)
      rw [List.getElem?_map, et] at hi
      cases hi
      have mem := nbr_lt (h := b.system.height) hp _ (List.getElem_mem hil)
      have step : ((nbrL b.system.width b.system.height p).take (i + 1)).foldl (fun a x => a + bondOf b.system g k x) 0 = ((nbrL b.system.width b.system.height p).take i).foldl (fun a x => a + bondOf b.system g k x) 0 + bondOf b.system g k (nbrL b.system.width b.system.height p)[i] := by
        rw [List.take_succ_eq_append_getElem hil, List.foldl_append]
        rfl
      generalize (nbrL b.system.width b.system.height p)[i] = x at ht mem step
      generalize ((nbrL b.system.width b.system.height p).take i).foldl (fun a x => a + bondOf b.system g k x) 0 = tot at step ⊢
      obtain ⟨q0, d, d'⟩ := x
      obtain ⟨m1, m2, m3⟩ := mem
      have hlen : q0 < g.length := by rw [ok.len]; exact m1
      refine ⟨t, _, rfl, SqT.of (s5 _ _ ht), rfl, _, _, rfl, _, _, rfl, _, _, rfl, rfl, ?_⟩
      refine ⟨_, rfl, _, rfl, ga, _, _, _, rfl, rfl, SqL.of (s' _ _ hg), atI_nat (gV_get hlen), rfl, _, rfl, ?_⟩
      rw [enc_ne]
      cases e : Krbp.tileAt g q0 with
      | none =>
        refine iteF ?_
        rw [step]
        have z : bondOf b.system g k (q0, d, d') = 0 := by
          unfold bondOf
          rw [e]
        rw [z]
        exact ⟨_, _, _, _, rfl, s5⟩
      | some o =>
        refine iteT ?_
        have ho := ok.ty _ _ e
        obtain ⟨gf, egf, hgf⟩ := kind_at ka ho
        refine ⟨_, rfl, F.a, C, _, _, _, rfl, s' _ _ ob, T.ci, T.n_kinds, fl_kinds .., _, rfl, _, rfl, ga, _, _, _, rfl, rfl, SqL.of (s' _ _ hg), atI_nat (gV_get hlen), _, _, rfl, rfl, F.aK, _, _, _, rfl, rfl, SqL.of (s' _ _ hks), at_of (j := o) (by rw [e]; show (o : Int) + 1 - 1 = o; omega) egf, ?_⟩
        have g1 := glue_get I.wf hk m2
        have g2 := glue_get I.wf ho m3
        refine ⟨_, rfl, _, rfl, _, rfl, _, rfl, gk, _, _, _, rfl, rfl, SqL.of (s' _ _ hgk), atI_nat g1.1, _, rfl, _, rfl, gf, _, _, _, rfl, rfl, SqL.of (s' _ _ hgf), atI_nat g2.1, ?_⟩
        refine ⟨F, b, _, _, rfl, I.same s', g1.2, ?_⟩
        refine ⟨_, _, rfl, rfl, ?_⟩
        rw [step]
        have z : bondOf b.system g k (q0, d, d') = if b.system.glueOf k d = b.system.glueOf o d' then b.system.strengthOf (b.system.glueOf k d) else 0 := by
          unfold bondOf
          rw [e]
        rw [z]
        exact ⟨_, _, _, _, rfl, s5⟩
    · rintro σ H' ⟨v6, v7, v8, v9, rfl, s5⟩
      refine ⟨_, rfl, ?_⟩
      rw [List.length_map, ha.length, List.take_length, ← binding_nbr]
      exact q H' (s1.trans s5)
end
end Gt

namespace Gt
open PySem PySem.Spec PyProof.Rows L2
section
variable {P : Program} {w : World} {K : PySem.W.Frag} {mg : Str → Option Value} {base : Heap} {C : Addr}

/-! ### is_attachable -/
abbrev s_is_attachable : Stmt := top 17
theorem sc_is_attachable : FnScope ["instance", "grid", "position", "kind"] ["instance", "grid", "position", "kind"] (defScope s_is_attachable) := ⟨rfl, rfl, rfl, by decide +kernel, rfl, by decide +kernel, by decide +kernel⟩
abbrev p_is_attachable : List Str := ["instance", "grid", "position", "kind"]
def spAtt (C : Addr) : Sp := fun vs H Q _ => ∃ (F : Foot) (b : Krbp.Instance) (ga : Addr) (g : Krbp.Grid) (p k : Nat), vs = [.ref F.a, .ref ga, tN p, tN k] ∧ InstAt C H F b ∧ H ga = some (.lst (gV g)) ∧ GOk b.system g ∧
  p < b.system.size ∧ k < b.system.tileTypes.length ∧ ∀ H', Same H H' → Q (.bl (b.system.canAttach g p k)) H'
theorem ok_is_attachable (T : Txt K mg C) (D : Df K mg "is_attachable" s_is_attachable p_is_attachable) (F_binding_strength : Fd P w K mg base "binding_strength" p_binding_strength 2 (spBinding C)) :
    Fd P w K mg base "is_attachable" p_is_attachable 3 (spAtt C) := by
  refine D.ok sc_is_attachable (fun vs H Q E h => ?_) (fun f cdv A outer s H vs Q E hr h => ?_)
  · obtain ⟨F, b, ga, g, p, k, rfl, _⟩ := h
    rfl
  · obtain ⟨F, b, ga, g, p, k, rfl, I, hg, ok, hp, hk, q⟩ := h
    refine ⟨_, (pss_cons (ps_if (pt_cmpR op_ne (pe_ix ix_list (pv 1) (pv 2) (fun _ _ => rfl)) (pe_gi rfl T.g_EMPTY) (nomark _))
      (pss_one (ps_ret pe_bl))
      pss_nil)
      (pss_one (ps_ret (pe_cmpR op_ge (pe_fn F_binding_strength (hr.mono (by decide)) rfl (pa_cons (pv 0) (pa_cons (pv 1) (pa_cons (pv 2) (pa_cons (pv 3) pa_nil))))) (pe_fld (pv 0) rfl) (nomark _))))), ?_⟩
    have hlen : p < g.length := by rw [ok.len]; exact hp
    refine ⟨_, rfl, _, rfl, ga, _, _, _, rfl, rfl, SqL.of hg, atI_nat (gV_get hlen), rfl, _, rfl, ?_⟩
    rw [enc_ne]
    cases e : Krbp.tileAt g p with
    | some o =>
      refine iteT ?_
      have z : b.system.canAttach g p k = false := by
        unfold Krbp.TileSystem.canAttach
        rw [e]
        rfl
      have q := q H (Same.refl _)
      rw [z] at q
      exact q
    | none =>
      refine iteF ?_
      refine ⟨_, rfl, _, rfl, _, rfl, _, rfl, F, b, ga, g, p, k, rfl, I, hg, ok, hp, hk, fun H' s' => ?_⟩
      obtain ⟨dx, ob⟩ := I.ob
      refine ⟨_, rfl, F.a, C, _, _, _, rfl, s' _ _ ob, T.ci, T.n_threshold, fl_threshold .., _, _, rfl, rfl, ?_⟩
      have z : b.system.canAttach g p k = decide (b.system.threshold ≤ b.system.bindingStrength g p k) := by
        unfold Krbp.TileSystem.canAttach
        rw [e]
        rfl
      have q := q H' s'
      rw [z] at q
      exact qv (congrArg V.bl (dle ..)) q

/-! ### smallest_kind -/
abbrev s_smallest_kind : Stmt := top 18
theorem sc_smallest_kind : FnScope ["instance", "grid", "position", "kinds", "kind"] ["instance", "grid", "position", "kinds"] (defScope s_smallest_kind) := ⟨rfl, rfl, rfl, by decide +kernel, rfl, by decide +kernel, by decide +kernel⟩
abbrev p_smallest_kind : List Str := ["instance", "grid", "position", "kinds"]
def optN : Option Nat → V
  | none => .non
  | some k => tN k
theorem head_filter_take {f : Nat → Bool} {l : List Nat} {i : Nat} (hi : i < l.length) (hf : f l[i] = true) (hb : ∀ j ∈ l.take i, f j = false) : (l.filter f).head? = some l[i] := by
  have e : l = l.take i ++ l[i] :: l.drop (i + 1) := by
    rw [← List.drop_eq_getElem_cons hi, List.take_append_drop]
  have e0 : (l.take i).filter f = [] := List.filter_eq_nil_iff.mpr fun j hj => by
    rw [hb j hj]
    exact Bool.false_ne_true
  have e2 : l.filter f = l[i] :: (l.drop (i + 1)).filter f := by
    conv => lhs; rw [e]
    rw [List.filter_append, e0, List.nil_append, List.filter_cons_of_pos hf]
  rw [e2]
  rfl
theorem head_filter_nil {f : Nat → Bool} {l : List Nat} (hb : ∀ j ∈ l, f j = false) : (l.filter f).head? = none := by
  rw [List.filter_eq_nil_iff.mpr fun j hj => by rw [hb j hj]; exact Bool.false_ne_true]
  rfl
theorem mem_take_succ {α : Type} {l : List α} {i : Nat} {j : α} (hi : i < l.length) (h : j ∈ l.take (i + 1)) : j ∈ l.take i ∨ j = l[i] := by
  rw [List.take_succ_eq_append_getElem hi] at h
  rcases List.mem_append.mp h with z | z
  · exact .inl z
  · exact .inr (List.mem_singleton.mp z)
theorem nums_at {l : List Nat} {i : Nat} {y : V} (h : (nums l)[i]? = some y) : ∃ hi : i < l.length, y = tN l[i] := by
  have hi : i < l.length := map_lt h
  refine ⟨hi, ?_⟩
  unfold nums at h
  rw [List.getElem?_map, List.getElem?_eq_getElem hi] at h
  cases h
  rfl
def spSmall (C : Addr) : Sp := fun vs H Q _ => ∃ (F : Foot) (b : Krbp.Instance) (ga : Addr) (g : Krbp.Grid) (p : Nat) (ka : Addr) (l : List Nat), vs = [.ref F.a, .ref ga, tN p, .ref ka] ∧ InstAt C H F b ∧ H ga = some (.lst (gV g)) ∧ GOk b.system g ∧
  p < b.system.size ∧ H ka = some (.lst (nums l)) ∧ (∀ i ∈ l, i < b.system.tileTypes.length) ∧ ∀ H', Same H H' → Q (optN (l.filter fun i => b.system.canAttach g p i).head?) H'
theorem ok_smallest_kind (T : Txt K mg C) (D : Df K mg "smallest_kind" s_smallest_kind p_smallest_kind) (F_is_attachable : Fd P w K mg base "is_attachable" p_is_attachable 3 (spAtt C)) :
    Fd P w K mg base "smallest_kind" p_smallest_kind 4 (spSmall C) := by
  refine D.ok sc_smallest_kind (fun vs H Q E h => ?_) (fun f cdv A outer s H vs Q E hr h => ?_)
  · obtain ⟨F, b, ga, g, p, ka, l, rfl, _⟩ := h
    rfl
  · obtain ⟨F, b, ga, g, p, ka, l, rfl, I, hg, ok, hp, hk, hl, q⟩ := h
    refine ⟨_, (pss_cons (ps_for PassesOwn.never rfl (pi_list (pv 3)) (pg_name (i := 4) sc_smallest_kind.nd rfl (Or.inl rfl))
      (pss_one (ps_if (pt_val (pe_fn F_is_attachable (hr.mono (by decide)) rfl (pa_cons (pv 0) (pa_cons (pv 1) (pa_cons (pv 2) (pa_cons (pv 4) pa_nil))))))
        (pss_one (ps_ret (pv 4)))
        pss_nil)))
      (pss_one (ps_ret pe_non))), ?_⟩
    refine ⟨_, rfl, ka, rfl, ⟨_, SqL.of hk⟩, for_list (K := K) (a := ka) (xs := nums l) (fun i σ H' => ∃ v4 : Option V, σ = [some (.ref F.a), some (.ref ga), some (tN p), some (.ref ka), v4] ∧ Same H H' ∧ ∀ j ∈ l.take i, b.system.canAttach g p j = false)
      ⟨none, rfl, Same.refl _, fun j hj => by simp at hj⟩ (fun i σ H' _ ⟨_, _, s', _⟩ => SqL.of (s' _ _ hk)) ?_ ?_⟩
    · rintro i y σ H' hi ⟨v4, rfl, s', hb⟩
      obtain ⟨hi2, rfl⟩ := nums_at hi
      refine ⟨_, rfl, _, rfl, _, rfl, _, rfl, F, b, ga, g, p, l[i], rfl, I.same s', s' _ _ hg, ok, hp, hl _ (List.getElem_mem hi2), fun H2 s2 => ⟨_, rfl, ?_⟩⟩
      refine ifB (fun c => ?_) (fun c => ?_)
      · refine ⟨_, rfl, ?_⟩
        have q := q H2 (s'.trans s2)
        rw [head_filter_take hi2 c hb] at q
        exact q
      · refine ⟨_, rfl, s'.trans s2, fun j hj => ?_⟩
        rcases mem_take_succ hi2 hj with h | h
        · exact hb j h
        · rw [h]; exact c
    · rintro σ H' ⟨v4, rfl, s', hb⟩
      have q := q H' s'
      rw [nums_length, List.take_length] at hb
      rw [head_filter_nil hb] at q
      exact q

/-! ### free_choice -/
abbrev s_free_choice : Stmt := top 19
theorem sc_free_choice : FnScope ["instance", "kinds"] ["instance"] (defScope s_free_choice) := ⟨rfl, rfl, rfl, by decide +kernel, rfl, by decide +kernel, by decide +kernel⟩
abbrev p_free_choice : List Str := ["instance"]
/-- how a choice lies in the heap: a list of lists of kinds -/
def ChAt (H : Hp) (ca : Addr) (ch : Nat → List Nat) (n : Nat) : Prop := ∃ cs : List Addr, H ca = some (.lst (cs.map V.ref)) ∧ cs.length = n ∧ ∀ (q : Nat) (a : Addr), cs[q]? = some a → H a = some (.lst (nums (ch q)))
theorem ChAt.same {H H' : Hp} {ca : Addr} {ch : Nat → List Nat} {n : Nat} (h : ChAt H ca ch n) (s : Same H H') : ChAt H' ca ch n := by
  obtain ⟨cs, h1, h2, h3⟩ := h
  exact ⟨cs, s _ _ h1, h2, fun q a e => s _ _ (h3 q a e)⟩
theorem ChAt.get {H : Hp} {ca : Addr} {ch : Nat → List Nat} {n q : Nat} (h : ChAt H ca ch n) (hq : q < n) : ∃ (cs : List Addr) (a : Addr), H ca = some (.lst (cs.map V.ref)) ∧ (cs.map V.ref)[q]? = some (.ref a) ∧ H a = some (.lst (nums (ch q))) := by
  obtain ⟨cs, h1, h2, h3⟩ := h
  subst h2
  refine ⟨cs, cs[q], h1, ?_, h3 q _ (List.getElem?_eq_getElem hq)⟩
  rw [List.getElem?_map, List.getElem?_eq_getElem hq]
  rfl
theorem rg_nums (k : Nat) : rgV 0 (k : Int) = nums (List.range k) := by
  unfold rgV nums
  rw [show ((k : Int) - 0).toNat = k by omega]
  refine List.map_congr_left fun i _ => ?_
  show V.int (0 + (i : Int)) = V.int (i : Int)
  rw [Int.zero_add]
theorem size_le {b : Krbp.Instance} (wf : WF b) : b.system.size ≤ 36 := Nat.mul_le_mul wf.w6 wf.h6
theorem flatten_ones (n : Nat) (v : V) : (List.replicate n [v]).flatten = List.replicate n v := by
  induction n with
  | zero => rfl
  | succ n ih => rw [List.replicate_succ, List.flatten_cons, ih]; rfl
def spFree (C : Addr) : Sp := fun vs H Q _ => ∃ (F : Foot) (b : Krbp.Instance), vs = [.ref F.a] ∧ InstAt C H F b ∧
  ∀ (H' : Hp) (l : Addr), Same H H' → H l = none → ChAt H' l (chAll b.system) b.system.size → Q (.ref l) H'
theorem ok_free_choice (T : Txt K mg C) (D : Df K mg "free_choice" s_free_choice p_free_choice) : Fd P w K mg base "free_choice" p_free_choice 1 (spFree C) := by
  refine D.ok sc_free_choice (fun vs H Q E h => ?_) (fun f cdv A outer s H vs Q E hr h => ?_)
  · obtain ⟨F, b, rfl, _⟩ := h
    rfl
  · obtain ⟨F, b, rfl, I, q⟩ := h
    refine ⟨_, (pss_cons (ps_set (i := 1) sc_free_choice.nd rfl (Or.inl rfl) (pe_listRg rfl rfl T.b_list (prg_1 rfl T.b_range (pe_callB call_len_seq (by rfl) T.b_len PySem.boot_len (pa_cons (pe_fld (pv 0) rfl) pa_nil)))))
      (pss_one (ps_ret (pe_op op_rep (pe_lst (pa_cons (pv 1) pa_nil)) (pe_op op_mul (pe_fld (pv 0) rfl) (pe_fld (pv 0) rfl)))))), ?_⟩
    obtain ⟨dx, ob⟩ := id I.ob
    obtain ⟨ks, hks, ka⟩ := id I.kd
    have kl := I.wf.kl
    have w6 := I.wf.w6
    have h6 := I.wf.h6
    have h36 := size_le I.wf
    have esz : ((b.system.width : Int) * (b.system.height : Int)) = (b.system.size : Int) := (Int.natCast_mul ..).symm
    have ek : (ks.map V.ref).length = b.system.tileTypes.length := by rw [List.length_map, ka.length]
    refine ⟨_, rfl, F.a, C, _, _, _, rfl, ob, T.ci, T.n_kinds, fl_kinds .., F.aK, _, rfl, .inl (SqL.of hks), _, rfl, RgOk.of_le (by omega) (by omega) (by omega) (by omega), fun l1 n1 => ?_⟩
    rw [ek, rg_nums]
    have s1 : Same H (upd H l1 (.lst (nums (List.range b.system.tileTypes.length)))) := Same.new n1
    refine ⟨_, rfl, (by show 1 ≤ sizeLine; decide), fun l0 n0 => ?_⟩
    have s0 : Same H (upd (upd H l1 (.lst (nums (List.range b.system.tileTypes.length)))) l0 (.lst [V.ref l1])) := s1.trans (Same.new n0)
    refine ⟨_, rfl, F.a, C, _, _, _, rfl, s0 _ _ ob, T.ci, T.n_width, fl_width .., _, rfl, F.a, C, _, _, _, rfl, s0 _ _ ob, T.ci, T.n_height, fl_height .., _, _, rfl, rfl, .inl ⟨by omega, by omega⟩, l0, _, _, rfl, rfl, upd_same, by rw [esz]; omega, by rw [esz]; omega, ?_, fun l2 n2 => ?_⟩
    · rw [esz, Int.toNat_natCast, List.length_singleton]
      show 1 * b.system.size ≤ 2 ^ 24
      omega
    have e0 : (List.replicate ((b.system.width : Int) * (b.system.height : Int)).toNat [V.ref l1]).flatten = (List.replicate b.system.size l1).map V.ref := by
      rw [esz, Int.toNat_natCast, flatten_ones, List.map_replicate]
    rw [e0]
    have d10 : l1 ≠ l0 := ne_of_none upd_same n0
    have h1 : (upd (upd H l1 (.lst (nums (List.range b.system.tileTypes.length)))) l0 (.lst [V.ref l1])) l1 = some (.lst (nums (List.range b.system.tileTypes.length))) := by rw [upd_ne d10, upd_same]
    refine q _ l2 (s0.trans (Same.new n2)) (s0.free n2) ⟨List.replicate b.system.size l1, upd_same, List.length_replicate, fun q a e => ?_⟩
    have ea : a = l1 := List.eq_of_mem_replicate (List.mem_of_getElem? e)
    rw [ea]
    exact (Same.new n2) _ _ h1

/-! ### first_attachment -/
abbrev s_first_attachment : Stmt := top 20
theorem sc_first_attachment : FnScope ["instance", "grid", "choice", "begin", "position", "kind"] ["instance", "grid", "choice", "begin"] (defScope s_first_attachment) := ⟨rfl, rfl, rfl, by decide +kernel, rfl, by decide +kernel, by decide +kernel⟩
abbrev p_first_attachment : List Str := ["instance", "grid", "choice", "begin"]
/-- what stands for the next attachment -/
def NextIs (H : Hp) (o : Option (Nat × Nat)) (v : V) : Prop := (o = none ∧ v = .non) ∨ ∃ x t, o = some x ∧ v = .ref t ∧ PairAt H t x
def spFirst (C : Addr) : Sp := fun vs H Q _ => ∃ (F : Foot) (b : Krbp.Instance) (ga : Addr) (g : Krbp.Grid) (ca : Addr) (ch : Nat → List Nat) (bg : Nat) (z : Int), vs = [.ref F.a, .ref ga, .ref ca, .int z] ∧ z = (bg : Int) ∧ InstAt C H F b ∧ H ga = some (.lst (gV g)) ∧ GOk b.system g ∧
  ChAt H ca ch b.system.size ∧ ChOk b.system ch ∧ bg ≤ b.system.size ∧ (∀ j, j < bg → kindIn b.system ch g j = none) ∧ ∀ (H' : Hp) (v : V), Same H H' → NextIs H' (nextCh b.system ch g) v → Q v H'
theorem ok_first_attachment (T : Txt K mg C) (D : Df K mg "first_attachment" s_first_attachment p_first_attachment) (F_smallest_kind : Fd P w K mg base "smallest_kind" p_smallest_kind 4 (spSmall C)) :
    Fd P w K mg base "first_attachment" p_first_attachment 5 (spFirst C) := by
  refine D.ok sc_first_attachment (fun vs H Q E h => ?_) (fun f cdv A outer s H vs Q E hr h => ?_)
  · obtain ⟨F, b, ga, g, ca, ch, bg, z, rfl, _⟩ := h
    rfl
  · obtain ⟨F, b, ga, g, ca, ch, bg, z, rfl, rfl, I, hg, ok, hc, ck, hbg, h0, q⟩ := h
    refine ⟨_, (pss_cons (ps_for PassesOwn.never rfl (pi_range2 rfl T.b_range (pa_cons (pv 3) (pa_cons (pe_callB call_len_seq (by rfl) T.b_len PySem.boot_len (pa_cons (pv 1) pa_nil)) pa_nil))) (pg_name (i := 4) sc_first_attachment.nd rfl (Or.inl rfl))
      (pss_cons (ps_set (i := 5) sc_first_attachment.nd rfl (Or.inl rfl) (pe_fn F_smallest_kind (hr.mono (by decide)) rfl (pa_cons (pv 0) (pa_cons (pv 1) (pa_cons (pv 4) (pa_cons (pe_ix ix_list (pv 2) (pv 4) (fun _ _ => rfl)) pa_nil))))))
        (pss_one (ps_if (pt_cmpR op_notN (pv 5) pe_non (nomark _))
        (pss_one (ps_ret (pe_tup (pa_cons (pv 4) (pa_cons (pv 5) pa_nil)))))
        pss_nil))))
      (pss_one (ps_ret pe_non))), ?_⟩
    have h36 := size_le I.wf
    refine ⟨_, rfl, _, rfl, ga, _, rfl, .inl (SqL.of hg), _, _, rfl, ?_⟩
    rw [gV_length, ok.len]
    refine ⟨⟨by omega, by omega, by omega, by omega⟩, ?_⟩
    rw [show ((b.system.size : Int) - (bg : Int)).toNat = b.system.size - bg by omega]
    refine for_range (lo := (bg : Int)) (n := b.system.size - bg) (fun i σ H' => ∃ v4 v5 : Option V, σ = [some (.ref F.a), some (.ref ga), some (.ref ca), some (tN bg), v4, v5] ∧ Same H H' ∧ ∀ j, j < bg + i → kindIn b.system ch g j = none) ⟨none, none, rfl, Same.refl _, fun j hj => h0 j (by omega)⟩ ?_ ?_
    · rintro i σ H' hi ⟨v4, v5, rfl, s', hb⟩
      have hlt : bg + i < b.system.size := by omega
      rw [show ((bg : Int) + (i : Int)) = ((bg + i : Nat) : Int) from (Int.natCast_add ..).symm]
      obtain ⟨cs, ka, e1, e2, e3⟩ := (hc.same s').get hlt
      refine ⟨_, rfl, _, rfl, _, rfl, _, rfl, _, rfl, ca, _, _, _, rfl, rfl, SqL.of e1, atI_nat e2, F, b, ga, g, bg + i, ka, ch (bg + i), rfl, I.same s', s' _ _ hg, ok, hlt, e3, ck.lt _ hlt, fun H2 s2 => ?_⟩
      refine ⟨_, rfl, rfl, _, rfl, ?_⟩
      cases e : kindIn b.system ch g (bg + i) with
      | some k =>
        have e' : ((ch (bg + i)).filter fun j => b.system.canAttach g (bg + i) j).head? = some k := e
        rw [e']
        refine ifT rfl ?_
        refine ⟨_, rfl, _, rfl, (by show 2 ≤ sizeLine; decide), fun t nt => ?_⟩
        exact q _ _ ((s'.trans s2).trans (Same.new nt)) (.inr ⟨_, t, nextCh_some hlt e hb, rfl, upd_same⟩)
      | none =>
        have e' : ((ch (bg + i)).filter fun j => b.system.canAttach g (bg + i) j).head? = none := e
        rw [e']
        refine ifF rfl ?_
        refine ⟨_, _, rfl, s'.trans s2, fun j hj => ?_⟩
        rcases Nat.lt_succ_iff_lt_or_eq.mp (show j < (bg + i) + 1 by omega) with h | h
        · exact hb j h
        · rw [h]; exact e
    · rintro σ H' ⟨v4, v5, rfl, s', hb⟩
      exact q H' _ s' (.inl ⟨nextCh_none fun j hj => hb j (by omega), rfl⟩)
end
end Gt

namespace Gt
open PySem PySem.Spec PyProof.Rows L2
section
variable {P : Program} {w : World} {K : PySem.W.Frag} {mg : Str → Option Value} {base : Heap} {C : Addr}
theorem ixn {n j : Nat} (hj : j < n) : ixN n (j : Int) = some j := by
  have h0 : (0 : Int) ≤ (j : Int) := by omega
  have h1 : (j : Int) < (n : Int) := by omega
  simp only [ixN, if_pos h0, if_pos h1, Int.toNat_natCast]

/-! ### chosen_steps -/
abbrev s_chosen_steps : Stmt := top 21
theorem sc_chosen_steps : FnScope ["instance", "grid", "choice", "grown", "attachments", "attachment", "begin"] ["instance", "grid", "choice"] (defScope s_chosen_steps) := ⟨rfl, rfl, rfl, by decide +kernel, rfl, by decide +kernel, by decide +kernel⟩
abbrev p_chosen_steps : List Str := ["instance", "grid", "choice"]
def spChosen (C : Addr) : Sp := fun vs H Q _ => ∃ (F : Foot) (b : Krbp.Instance) (ga : Addr) (g : Krbp.Grid) (ca : Addr) (ch : Nat → List Nat), vs = [.ref F.a, .ref ga, .ref ca] ∧ InstAt C H F b ∧ H ga = some (.lst (gV g)) ∧ GOk b.system g ∧
  ChAt H ca ch b.system.size ∧ ChOk b.system ch ∧
  ∀ (H' : Hp) (l : Addr) (ts : List Addr), Same H H' → H l = none → H' l = some (.lst (ts.map V.ref)) → All2 (PairAt H') ts (growCh b.system ch b.system.size g) → Q (.ref l) H'
def GrW (F : Foot) (b : Krbp.Instance) (ga ca l3 l4 : Addr) (ch : Nat → List Nat) (H : Hp) (g : Krbp.Grid) : Nat → L2.St → Hp → Prop := fun m σ H' => ∃ (gr : Krbp.Grid) (ts : List Addr) (done : List (Nat × Nat)) (v : V) (v6 : Option V) (r : Nat),
  m = emp gr ∧ σ = [some (.ref F.a), some (.ref ga), some (.ref ca), some (.ref l3), some (.ref l4), some v, v6] ∧ Same H H' ∧ H' l3 = some (.lst (gV gr)) ∧ GOk b.system gr ∧ H' l4 = some (.lst (ts.map V.ref)) ∧ All2 (PairAt H') ts done ∧
  emp gr ≤ r ∧ growCh b.system ch b.system.size g = done ++ growCh b.system ch r gr ∧ NextIs H' (nextCh b.system ch gr) v
theorem max_cut (p w : Nat) : (if (0 : Int) > (p : Int) - (w : Int) then 0 else (p : Int) - (w : Int)) = ((p - w : Nat) : Int) := by
  split <;> omega
theorem ok_chosen_steps (T : Txt K mg C) (D : Df K mg "chosen_steps" s_chosen_steps p_chosen_steps) (F_first_attachment : Fd P w K mg base "first_attachment" p_first_attachment 5 (spFirst C)) :
    Fd P w K mg base "chosen_steps" p_chosen_steps 6 (spChosen C) := by
  refine D.ok sc_chosen_steps (fun vs H Q E h => ?_) (fun f cdv A outer s H vs Q E hr h => ?_)
  · obtain ⟨F, b, ga, g, ca, ch, rfl, _⟩ := h
    rfl
  · obtain ⟨F, b, ga, g, ca, ch, rfl, I, hg, ok, hch, ck, q⟩ := h
    refine ⟨_, (pss_cons (ps_set (i := 3) sc_chosen_steps.nd rfl (Or.inl rfl) (pe_callTy call_list_of (by rfl) T.b_list (by decide +kernel) (pa_cons (pv 1) pa_nil)))
      (pss_cons (ps_set (i := 4) sc_chosen_steps.nd rfl (Or.inl rfl) (pe_lst pa_nil))
      (pss_cons (ps_set (i := 5) sc_chosen_steps.nd rfl (Or.inl rfl) (pe_fn F_first_attachment (hr.mono (by decide)) rfl (pa_cons (pv 0) (pa_cons (pv 3) (pa_cons (pv 2) (pa_cons pe_int pa_nil))))))
      (pss_cons (ps_while PassesOwn.never (pt_cmpR op_notN (pv 5) pe_non (nomark _))
      (pss_cons (ps_expr (pe_bm PySem.F.plainAttrs_list PySem.F.slot_list_append PySem.F.type_list_append mt_append (pv 4) (pa_cons (pv 5) pa_nil)))
        (pss_cons (ps_asg (pe_op op_add (pe_ix ix_tup (pv 5) pe_int (fun _ _ => rfl)) pe_int) (pg_sub (pv 3) (pe_ix ix_tup (pv 5) pe_int (fun _ _ => rfl)) set_list))
        (pss_cons (ps_set (i := 6) sc_chosen_steps.nd rfl (Or.inl rfl) (pe_callB (call_max2 rfl) (by rfl) T.b_max (by decide +kernel) (pa_cons (pe_op op_sub (pe_ix ix_tup (pv 5) pe_int (fun _ _ => rfl)) (pe_fld (pv 0) rfl)) (pa_cons pe_int pa_nil))))
        (pss_one (ps_set (i := 5) sc_chosen_steps.nd rfl (Or.inl rfl) (pe_fn F_first_attachment (hr.mono (by decide)) rfl (pa_cons (pv 0) (pa_cons (pv 3) (pa_cons (pv 2) (pa_cons (pv 6) pa_nil)))))))))))
      (pss_one (ps_ret (pv 4))))))), ?_⟩
    have h36 := size_le I.wf
    refine ⟨_, rfl, ga, _, rfl, .inl (SqL.of hg), fun l3 n3 => ?_⟩
    refine ⟨Nat.zero_le _, fun l4 n4 => ?_⟩
    have s3 : Same H (upd H l3 (.lst (gV g))) := Same.new n3
    have s4 : Same H (upd (upd H l3 (.lst (gV g))) l4 (.lst [])) := s3.trans (Same.new n4)
    have m4 : H l4 = none := s3.free n4
    have d34 : l3 ≠ l4 := ne_of_none upd_same n4
    have hl3 : (upd (upd H l3 (.lst (gV g))) l4 (.lst [])) l3 = some (.lst (gV g)) := by rw [upd_ne d34, upd_same]
    refine ⟨_, rfl, _, rfl, _, rfl, F, b, l3, g, ca, ch, 0, _, rfl, rfl, I.same s4, hl3, ok, hch.same s4, ck, Nat.zero_le _, fun j hj => absurd hj (Nat.not_lt_zero _), fun H1 v s1 nx => ?_⟩
    refine ⟨GrW F b ga ca l3 l4 ch H g, ⟨_, g, [], [], v, none, b.system.size, rfl, rfl, s4.trans s1, s1 _ _ hl3, ok, s1 _ _ upd_same, .nil, by rw [← ok.len]; exact emp_le g, rfl, nx⟩, ?_⟩
    rintro _ _ H2 ⟨gr, ts, done, v, v6, r, rfl, rfl, sH, h3, okr, h4, ha, hr', eq, nx⟩
    have hdone : done.length ≤ 36 := by
      have e := congrArg List.length eq
      rw [List.length_append] at e
      have := growCh_length (s := b.system) (ch := ch) b.system.size g
      omega
    refine ⟨_, rfl, rfl, _, rfl, ?_⟩
    rcases nx with ⟨e, rfl⟩ | ⟨⟨p, i⟩, t, e, rfl, ht⟩
    · refine ifF rfl ?_
      refine ⟨_, rfl, q H2 l4 ts sH m4 h4 ?_⟩
      rw [eq, growCh_stop e, List.append_nil]
      exact ha
    · refine ifT rfl ?_
      obtain ⟨hp, him, hc, hbef⟩ := nextCh_of e
      have hi := ck.lt p hp i him
      have ep := (can_iff.mp hc).1
      have hpl : p < gr.length := by rw [okr.len]; exact hp
      have em := emp_place (i := i) hpl ep
      refine ⟨fun σ' H' => ∃ m', m' < emp gr ∧ GrW F b ga ca l3 l4 ch H g m' σ' H', fun _ _ h => h, ?_⟩
      -- attachments.append(attachment)
      have dt4 : t ≠ l4 := ne_of ht h4 (by intro z; cases z)
      have dt3 : t ≠ l3 := ne_of ht h3 (by intro z; cases z)
      refine ⟨_, rfl, .inl ⟨rfl, _, SqL.of h4⟩, _, rfl, l4, _, _, rfl, rfl, h4, sz4 ha.length (by omega), ?_⟩
      have ht' : ∀ o, (upd H2 l4 o) t = some (.tup [tN p, tN i]) := fun o => by rw [upd_ne dt4]; exact ht
      have h3' : ∀ o, (upd H2 l4 o) l3 = some (.lst (gV gr)) := fun o => by rw [upd_ne d34]; exact h3
      -- grown[attachment[0]] = attachment[1] + 1
      refine ⟨_, rfl, t, _, _, _, rfl, rfl, SqT.of (ht' _), at_of (j := 1) rfl rfl, _, _, rfl, rfl, _, rfl, _, rfl, t, _, _, _, rfl, rfl, SqT.of (ht' _), at_of (j := 0) rfl rfl, l3, _, _, p, rfl, rfl, h3' _, ixn (by rw [gV_length]; exact hpl), ?_⟩
      have s5 : Same H (upd (upd H2 l4 (.lst (ts.map V.ref ++ [V.ref t]))) l3 (.lst ((gV gr).set p (.int ((i : Int) + 1))))) := Same.mut (Same.mut sH m4) n3
      have hg3 : (upd (upd H2 l4 (.lst (ts.map V.ref ++ [V.ref t]))) l3 (.lst ((gV gr).set p (.int ((i : Int) + 1))))) l3 = some (.lst (gV (Krbp.place gr p i))) := by rw [upd_same, gV_place]
      have ht5 : (upd (upd H2 l4 (.lst (ts.map V.ref ++ [V.ref t]))) l3 (.lst ((gV gr).set p (.int ((i : Int) + 1))))) t = some (.tup [tN p, tN i]) := by rw [upd_ne dt3]; exact ht' _
      obtain ⟨dx, ob⟩ := id (I.same s5).ob
      -- begin = max(attachment[0] - instance.width, 0)
      refine ⟨_, rfl, t, _, _, _, rfl, rfl, SqT.of ht5, at_of (j := 0) rfl rfl, _, rfl, F.a, C, _, _, _, rfl, ob, T.ci, T.n_width, fl_width .., _, _, rfl, rfl, _, _, rfl, ?_⟩
      -- attachment = first_attachment(instance, grown, choice, begin)
      refine ⟨_, rfl, _, rfl, _, rfl, _, rfl, F, b, l3, Krbp.place gr p i, ca, ch, p - b.system.width, _, rfl, max_cut p b.system.width, I.same s5, hg3, okr.place hp hi, hch.same s5, ck, by omega, fun j hj => ?_, fun H5 v5 s6 nx5 => ?_⟩
      · rw [kind_far hpl (by omega) I.wf.w1]
        exact hbef j (by omega)
      refine ⟨emp (Krbp.place gr p i), by omega, Krbp.place gr p i, ts ++ [t], done ++ [(p, i)], v5, _, r - 1, rfl, rfl, s5.trans s6, s6 _ _ hg3, okr.place hp hi, s6 _ _ ?_, ?_, by omega, ?_, nx5⟩
      · rw [upd_ne d34.symm, upd_same, List.map_append]
        rfl
      · refine All2.append (ha.mono fun a x hx => s6 _ _ ?_) (.cons (s6 _ _ ht5) .nil)
        rw [upd_ne (ne_of hx h3 (by intro z; cases z)), upd_ne (ne_of hx h4 (by intro z; cases z))]
        exact hx
      · obtain ⟨r', rfl⟩ : ∃ r', r = r' + 1 := ⟨r - 1, by omega⟩
        rw [eq, growCh_step e, List.append_assoc]
        rfl

/-! ### growth_steps, after_steps -/
abbrev s_growth_steps : Stmt := top 22
theorem sc_growth_steps : FnScope ["instance", "grid"] ["instance", "grid"] (defScope s_growth_steps) := ⟨rfl, rfl, rfl, by decide +kernel, rfl, by decide +kernel, by decide +kernel⟩
abbrev p_growth_steps : List Str := ["instance", "grid"]
def spGrowth (C : Addr) : Sp := fun vs H Q _ => ∃ (F : Foot) (b : Krbp.Instance) (ga : Addr) (g : Krbp.Grid), vs = [.ref F.a, .ref ga] ∧ InstAt C H F b ∧ H ga = some (.lst (gV g)) ∧ GOk b.system g ∧
  ∀ (H' : Hp) (l : Addr) (ts : List Addr), Same H H' → H l = none → H' l = some (.lst (ts.map V.ref)) → All2 (PairAt H') ts (b.system.growth b.system.size g) → Q (.ref l) H'
theorem ok_growth_steps (T : Txt K mg C) (D : Df K mg "growth_steps" s_growth_steps p_growth_steps) (F_chosen_steps : Fd P w K mg base "chosen_steps" p_chosen_steps 6 (spChosen C)) (F_free_choice : Fd P w K mg base "free_choice" p_free_choice 1 (spFree C)) :
    Fd P w K mg base "growth_steps" p_growth_steps 7 (spGrowth C) := by
  refine D.ok sc_growth_steps (fun vs H Q E h => ?_) (fun f cdv A outer s H vs Q E hr h => ?_)
  · obtain ⟨F, b, ga, g, rfl, _⟩ := h
    rfl
  · obtain ⟨F, b, ga, g, rfl, I, hg, ok, q⟩ := h
    refine ⟨_, (pss_one (ps_ret (pe_fn F_chosen_steps (hr.mono (by decide)) rfl (pa_cons (pv 0) (pa_cons (pv 1) (pa_cons (pe_fn F_free_choice (hr.mono (by decide)) rfl (pa_cons (pv 0) pa_nil)) pa_nil)))))), ?_⟩
    refine ⟨_, rfl, _, rfl, _, rfl, F, b, rfl, I, fun H1 l1 s1 n1 c1 => ?_⟩
    refine ⟨F, b, ga, g, l1, chAll b.system, rfl, I.same s1, s1 _ _ hg, ok, c1, chAll_ok _, fun H2 l2 ts s2 n2 h2 ha => ?_⟩
    rw [grow_all] at ha
    exact q H2 l2 ts (s1.trans s2) (s1.free n2) h2 ha
abbrev s_after_steps : Stmt := top 23
theorem sc_after_steps : FnScope ["grid", "attachments", "later", "position", "kind"] ["grid", "attachments"] (defScope s_after_steps) := ⟨rfl, rfl, rfl, by decide +kernel, rfl, by decide +kernel, by decide +kernel⟩
abbrev p_after_steps : List Str := ["grid", "attachments"]
def spAfterSt : Sp := fun vs H Q _ => ∃ (ga la : Addr) (g : Krbp.Grid) (ts : List Addr) (L : List (Nat × Nat)), vs = [.ref ga, .ref la] ∧ H ga = some (.lst (gV g)) ∧ H la = some (.lst (ts.map V.ref)) ∧ All2 (PairAt H) ts L ∧ (∀ x ∈ L, x.1 < g.length) ∧
  ∀ (H' : Hp) (l : Addr), Same H H' → H l = none → H' l = some (.lst (gV (Krbp.placeAll g L))) → Q (.ref l) H'
theorem placeAll_take {g : Krbp.Grid} {l : List (Nat × Nat)} {i : Nat} (h : i < l.length) : Krbp.placeAll g (l.take (i + 1)) = Krbp.place (Krbp.placeAll g (l.take i)) l[i].1 l[i].2 := by
  rw [List.take_succ_eq_append_getElem h, placeAll_append]
  rfl
theorem ok_after_steps (T : Txt K mg C) (D : Df K mg "after_steps" s_after_steps p_after_steps) : Fd P w K mg base "after_steps" p_after_steps 1 spAfterSt := by
  refine D.ok sc_after_steps (fun vs H Q E h => ?_) (fun f cdv A outer s H vs Q E hr h => ?_)
  · obtain ⟨ga, la, g, ts, L, rfl, _⟩ := h
    rfl
  · obtain ⟨ga, la, g, ts, L, rfl, hg, hl, ta, hL, q⟩ := h
    refine ⟨_, (pss_cons (ps_set (i := 2) sc_after_steps.nd rfl (Or.inl rfl) (pe_callTy call_list_of (by rfl) T.b_list (by decide +kernel) (pa_cons (pv 0) pa_nil)))
      (pss_cons (ps_for PassesOwn.never rfl (pi_list (pv 1)) (pg_tup rfl (pgs_cons (pg_name (i := 3) sc_after_steps.nd rfl (Or.inl rfl)) (pgs_cons (pg_name (i := 4) sc_after_steps.nd rfl (Or.inl rfl)) pgs_nil)))
      (pss_one (ps_asg (pe_op op_add (pv 4) pe_int) (pg_sub (pv 2) (pv 3) set_list))))
      (pss_one (ps_ret (pv 2))))), ?_⟩
    refine ⟨_, rfl, ga, _, rfl, .inl (SqL.of hg), fun l2 n2 => ?_⟩
    have s2 : Same H (upd H l2 (.lst (gV g))) := Same.new n2
    refine ⟨_, rfl, la, rfl, ⟨_, SqL.of (s2 _ _ hl)⟩, for_list (K := K) (a := la) (xs := ts.map V.ref) (fun i σ H' => ∃ v3 v4 : Option V, σ = [some (.ref ga), some (.ref la), some (.ref l2), v3, v4] ∧ Same H H' ∧ H' l2 = some (.lst (gV (Krbp.placeAll g (L.take i)))))
      ⟨none, none, rfl, s2, upd_same⟩ (fun i σ H' _ ⟨_, _, _, h, _⟩ => SqL.of (h _ _ hl)) ?_ ?_⟩
    · rintro i y σ H4 hi ⟨v3, v4, rfl, s4, h4⟩
      have hi' : i < L.length := by
        rw [← ta.length]
        exact map_lt hi
      obtain ⟨t, et, hp⟩ := ta.get (List.getElem?_eq_getElem hi')
      rw [List.getElem?_map, et] at hi
      cases hi
      refine ⟨t, _, rfl, SqT.of (s4 _ _ hp), rfl, _, _, rfl, _, _, rfl, rfl, ?_⟩
      refine ⟨_, rfl, _, _, rfl, rfl, _, rfl, _, rfl, l2, _, _, L[i].1, rfl, rfl, h4, ixn (by rw [gV_length, placeAll_length]; exact hL _ (List.getElem_mem hi')), ?_⟩
      refine ⟨_, _, rfl, Same.mut s4 n2, ?_⟩
      rw [upd_same, placeAll_take hi', gV_place]
    · rintro σ H4 ⟨v3, v4, rfl, s4, h4⟩
      rw [List.length_map, ta.length, List.take_length] at h4
      exact ⟨_, rfl, q H4 l2 s4 n2 h4⟩
end
end Gt

namespace Gt
open PySem PySem.Spec PyProof.Rows L2
section
variable {P : Program} {w : World} {K : PySem.W.Frag} {mg : Str → Option Value} {base : Heap} {C : Addr}

/-! ### after_round -/
abbrev s_after_round : Stmt := top 24
theorem sc_after_round : FnScope ["instance", "grid", "choice", "later", "position", "kind"] ["instance", "grid"] (defScope s_after_round) := ⟨rfl, rfl, rfl, by decide +kernel, rfl, by decide +kernel, by decide +kernel⟩
abbrev p_after_round : List Str := ["instance", "grid"]
def spRound (C : Addr) : Sp := fun vs H Q _ => ∃ (F : Foot) (b : Krbp.Instance) (ga : Addr) (g : Krbp.Grid), vs = [.ref F.a, .ref ga] ∧ InstAt C H F b ∧ H ga = some (.lst (gV g)) ∧ GOk b.system g ∧
  ∀ (H' : Hp) (l : Addr), Same H H' → H l = none → H' l = some (.lst (gV (b.system.parallelStep g))) → Q (.ref l) H'
theorem ok_after_round (T : Txt K mg C) (D : Df K mg "after_round" s_after_round p_after_round) (F_smallest_kind : Fd P w K mg base "smallest_kind" p_smallest_kind 4 (spSmall C)) (F_free_choice : Fd P w K mg base "free_choice" p_free_choice 1 (spFree C)) :
    Fd P w K mg base "after_round" p_after_round 5 (spRound C) := by
  refine D.ok sc_after_round (fun vs H Q E h => ?_) (fun f cdv A outer s H vs Q E hr h => ?_)
  · obtain ⟨F, b, ga, g, rfl, _⟩ := h
    rfl
  · obtain ⟨F, b, ga, g, rfl, I, hg, ok, q⟩ := h
    refine ⟨_, (pss_cons (ps_set (i := 2) sc_after_round.nd rfl (Or.inl rfl) (pe_fn F_free_choice (hr.mono (by decide)) rfl (pa_cons (pv 0) pa_nil)))
      (pss_cons (ps_set (i := 3) sc_after_round.nd rfl (Or.inl rfl) (pe_callTy call_list_of (by rfl) T.b_list (by decide +kernel) (pa_cons (pv 1) pa_nil)))
      (pss_cons (ps_for PassesOwn.never rfl (pi_range1 rfl T.b_range (pa_cons (pe_callB call_len_seq (by rfl) T.b_len PySem.boot_len (pa_cons (pv 1) pa_nil)) pa_nil)) (pg_name (i := 4) sc_after_round.nd rfl (Or.inl rfl))
      (pss_cons (ps_set (i := 5) sc_after_round.nd rfl (Or.inl rfl) (pe_fn F_smallest_kind (hr.mono (by decide)) rfl (pa_cons (pv 0) (pa_cons (pv 1) (pa_cons (pv 4) (pa_cons (pe_ix ix_list (pv 2) (pv 4) (fun _ _ => rfl)) pa_nil))))))
        (pss_one (ps_if (pt_cmpR op_notN (pv 5) pe_non (nomark _))
        (pss_one (ps_asg (pe_op op_add (pv 5) pe_int) (pg_sub (pv 3) (pv 4) set_list)))
        pss_nil))))
      (pss_one (ps_ret (pv 3)))))), ?_⟩
    have h36 := size_le I.wf
    refine ⟨_, rfl, F, b, rfl, I, fun H1 ca s1 n1 c1 => ?_⟩
    refine ⟨_, rfl, ga, _, rfl, .inl (SqL.of (s1 _ _ hg)), fun l2 n2' => ?_⟩
    have s2 : Same H1 (upd H1 l2 (.lst (gV g))) := Same.new n2'
    refine ⟨_, rfl, ga, _, rfl, .inl (SqL.of (s2 _ _ (s1 _ _ hg))), _, rfl, ?_⟩
    rw [gV_length, ok.len]
    refine ⟨by omega, by omega, for_range (n := b.system.size) (fun i σ H' => ∃ v3 v4 : Option V, σ = [some (.ref F.a), some (.ref ga), some (.ref ca), some (.ref l2), v3, v4] ∧ Same H1 H' ∧ H' l2 = some (.lst (gV (Krbp.placeAll g (stepL b.system g i))))) ⟨none, none, rfl, s2, upd_same⟩ ?_ ?_⟩
    · rintro i σ H' hi ⟨v3, v4, rfl, s', hl⟩
      rw [Int.zero_add]
      obtain ⟨cs, ka, e1, e2, e3⟩ := (c1.same s').get hi
      refine ⟨_, rfl, _, rfl, _, rfl, _, rfl, _, rfl, ca, _, _, _, rfl, rfl, SqL.of e1, atI_nat e2, F, b, ga, g, i, ka, _, rfl, I.same (s1.trans s'), s' _ _ (s1 _ _ hg), ok, hi, e3, (chAll_ok b.system).lt i hi, fun H3 s3 => ?_⟩
      refine ⟨_, rfl, rfl, _, rfl, ?_⟩
      have st := stepL_succ b.system g i
      unfold stepAt at st
      obtain ⟨o1, _, _⟩ := step_ok ok i (Nat.le_of_lt hi)
      cases e : (b.system.attachableTypes g i).head? with
      | some k =>
        rw [e] at st
        have e' : ((chAll b.system i).filter fun j => b.system.canAttach g i j).head? = some k := e
        rw [e']
        refine ifT rfl ?_
        refine ⟨_, rfl, _, _, rfl, rfl, _, rfl, _, rfl, l2, _, _, i, rfl, rfl, s3 _ _ hl, ixn (by rw [gV_length, o1.len]; exact hi), ?_⟩
        refine ⟨_, _, rfl, Same.mut (s'.trans s3) n2', ?_⟩
        rw [st]
        show _ = some (HO.lst (gV (Krbp.placeAll g (stepL b.system g i ++ [(i, k)]))))
        rw [placeAll_append]
        show _ = some (HO.lst (gV (Krbp.place (Krbp.placeAll g (stepL b.system g i)) i k)))
        rw [gV_place, upd_same]
      | none =>
        rw [e] at st
        have e' : ((chAll b.system i).filter fun j => b.system.canAttach g i j).head? = none := e
        rw [e']
        refine ifF rfl ?_
        refine ⟨_, _, rfl, s'.trans s3, ?_⟩
        rw [st]
        show _ = some (HO.lst (gV (Krbp.placeAll g (stepL b.system g i ++ []))))
        rw [List.append_nil]
        exact s3 _ _ hl
    · rintro σ H' ⟨v3, v4, rfl, s', hl⟩
      exact ⟨_, rfl, q H' l2 (s1.trans s') (s1.free n2') hl⟩

/-! ### count_rounds -/
abbrev s_count_rounds : Stmt := top 25
theorem sc_count_rounds : FnScope ["instance", "grid", "rounds", "earlier", "later"] ["instance", "grid"] (defScope s_count_rounds) := ⟨rfl, rfl, rfl, by decide +kernel, rfl, by decide +kernel, by decide +kernel⟩
abbrev p_count_rounds : List Str := ["instance", "grid"]
theorem dp_ints {H : Hp} : ∀ ns : List Int, DpAll K H (ns.map V.int) (ns.map PyData.int)
  | [] => .nil
  | n :: r => .cons (.int n) (dp_ints r)
theorem lay_ints : ∀ ns : List Int, PyData.canLayAll0 (ns.map PyData.int) = true
  | [] => rfl
  | n :: r => by
    show (true && PyData.canLayAll0 (r.map PyData.int)) = true
    rw [lay_ints r]
    rfl
theorem deep_ints : ∀ ns : List Int, PyData.depthAll (ns.map PyData.int) = 0
  | [] => rfl
  | n :: r => by
    show max 0 (PyData.depthAll (r.map PyData.int)) = 0
    rw [deep_ints r]
    rfl
theorem shaped_nums (ns : List Int) : SeqAt.shaped (.list (ns.map PyData.int)) = true := by
  show (PyData.canLayAll0 (ns.map PyData.int) && decide (PyData.depthAll (ns.map PyData.int) + 1 ≤ 64)) = true
  rw [lay_ints, deep_ints]
  rfl
theorem eqv_nums : ∀ a b : List Int, PyData.eqvAll (a.map PyData.int) (b.map PyData.int) = decide (a = b)
  | [], [] => rfl
  | [], _ :: _ => rfl
  | _ :: _, [] => rfl
  | x :: a, y :: b => by
    show ((x == y) && PyData.eqvAll (a.map PyData.int) (b.map PyData.int)) = decide (x :: a = y :: b)
    rw [eqv_nums a b]
    by_cases h1 : x = y <;> by_cases h2 : a = b <;> simp [h1, h2]
def spRounds (C : Addr) : Sp := fun vs H Q _ => ∃ (F : Foot) (b : Krbp.Instance) (ga : Addr) (g : Krbp.Grid), vs = [.ref F.a, .ref ga] ∧ InstAt C H F b ∧ H ga = some (.lst (gV g)) ∧ GOk b.system g ∧
  ∀ H', Same H H' → Q (tN (b.system.parallelRounds b.system.size g)) H'
def RdW (F : Foot) (b : Krbp.Instance) (ga : Addr) (H : Hp) (g : Krbp.Grid) : Nat → L2.St → Hp → Prop := fun m σ H' => ∃ (ge : Krbp.Grid) (r n : Nat) (l3 l4 : Addr),
  m = emp ge ∧ σ = [some (.ref F.a), some (.ref ga), some (tN r), some (.ref l3), some (.ref l4)] ∧ Same H H' ∧ H' l3 = some (.lst (gV ge)) ∧ H' l4 = some (.lst (gV (b.system.parallelStep ge))) ∧ GOk b.system ge ∧
  emp ge ≤ n ∧ b.system.parallelRounds b.system.size g = r + b.system.parallelRounds n ge
theorem ok_count_rounds (T : Txt K mg C) (D : Df K mg "count_rounds" s_count_rounds p_count_rounds) (F_after_round : Fd P w K mg base "after_round" p_after_round 5 (spRound C)) :
    Fd P w K mg base "count_rounds" p_count_rounds 6 (spRounds C) := by
  refine D.ok sc_count_rounds (fun vs H Q E h => ?_) (fun f cdv A outer s H vs Q E hr h => ?_)
  · obtain ⟨F, b, ga, g, rfl, _⟩ := h
    rfl
  · obtain ⟨F, b, ga, g, rfl, I, hg, ok, q⟩ := h
    refine ⟨_, (pss_cons (ps_set (i := 2) sc_count_rounds.nd rfl (Or.inl rfl) pe_int)
      (pss_cons (ps_set (i := 3) sc_count_rounds.nd rfl (Or.inl rfl) (pv 1))
      (pss_cons (ps_set (i := 4) sc_count_rounds.nd rfl (Or.inl rfl) (pe_fn F_after_round (hr.mono (by decide)) rfl (pa_cons (pv 0) (pa_cons (pv 3) pa_nil))))
      (pss_cons (ps_while PassesOwn.never (pt_cmpR (op_neD hr.units) (pv 4) (pv 3) (nomark _))
      (pss_cons (ps_aug (i := 2) sc_count_rounds.nd rfl (Or.inl rfl) pe_int ip_add)
        (pss_cons (ps_set (i := 3) sc_count_rounds.nd rfl (Or.inl rfl) (pv 4))
        (pss_one (ps_set (i := 4) sc_count_rounds.nd rfl (Or.inl rfl) (pe_fn F_after_round (hr.mono (by decide)) rfl (pa_cons (pv 0) (pa_cons (pv 3) pa_nil))))))))
      (pss_one (ps_ret (pv 2))))))), ?_⟩
    refine ⟨_, rfl, _, rfl, _, rfl, F, b, ga, g, rfl, I, hg, ok, fun H1 l4 s1 _ h4 => ?_⟩
    refine ⟨RdW F b ga H g, ⟨_, g, 0, b.system.size, ga, l4, rfl, rfl, s1, s1 _ _ hg, h4, ok, by rw [← ok.len]; exact emp_le g, (Nat.zero_add _).symm⟩, ?_⟩
    rintro _ _ H2 ⟨ge, r, n, l3, l4, rfl, rfl, sH, h3, h4, oke, hn, eq⟩
    refine ⟨_, rfl, _, rfl, _, _, .lst (SqL.of h4) (dp_ints _), .lst (SqL.of h3) (dp_ints _), shaped_nums _, shaped_nums _, _, rfl, ?_⟩
    have ec : PyData.eqv (.list ((encG (b.system.parallelStep ge)).map PyData.int)) (.list ((encG ge).map PyData.int)) = b.system.isTerminal ge := by
      show PyData.eqvAll _ _ = _
      rw [eqv_nums]
      cases e : b.system.isTerminal ge with
      | true => exact decide_eq_true (congrArg encG (terminal_step e))
      | false =>
        refine decide_eq_false fun z => ?_
        rw [(step_ne oke).mp (encG_inj z)] at e
        cases e
    rw [ec]
    cases e : b.system.isTerminal ge with
    | true =>
      refine ifF rfl ?_
      refine ⟨_, rfl, ?_⟩
      have q := q H2 sH
      rw [eq, rounds_zero e, Nat.add_zero] at q
      exact q
    | false =>
      refine ifT rfl ?_
      have hlt := not_terminal_emp oke e
      refine ⟨fun σ' H' => ∃ m', m' < emp ge ∧ RdW F b ga H g m' σ' H', fun _ _ h => h, ?_⟩
      refine ⟨_, rfl, _, _, rfl, rfl, _, rfl, _, rfl, _, rfl, F, b, l4, b.system.parallelStep ge, rfl, I.same sH, h4, oke.step, fun H5 l5 s5 _ h5 => ?_⟩
      refine ⟨emp (b.system.parallelStep ge), hlt, b.system.parallelStep ge, r + 1, n - 1, l4, l5, rfl, rfl, sH.trans s5, s5 _ _ h4, h5, oke.step, by omega, ?_⟩
      obtain ⟨n', rfl⟩ : ∃ n', n = n' + 1 := ⟨n - 1, by omega⟩
      rw [eq, rounds_succ e]
      show r + (b.system.parallelRounds n' (b.system.parallelStep ge) + 1) = r + 1 + b.system.parallelRounds n' (b.system.parallelStep ge)
      omega

/-! ### current_grid -/
abbrev s_current_grid : Stmt := top 8
theorem sc_current_grid : FnScope ["instance", "grid", "position", "kind"] ["instance"] (defScope s_current_grid) := ⟨rfl, rfl, rfl, by decide +kernel, rfl, by decide +kernel, by decide +kernel⟩
abbrev p_current_grid : List Str := ["instance"]
def spGrid (C : Addr) : Sp := fun vs H Q _ => ∃ (F : Foot) (b : Krbp.Instance), vs = [.ref F.a] ∧ InstAt C H F b ∧
  ∀ (H' : Hp) (l : Addr), Same H H' → H l = none → H' l = some (.lst (gV b.grid)) → Q (.ref l) H'
theorem seedGrid_ok {b : Krbp.Instance} (wf : WF b) : GOk b.system b.seedGrid := (GOk.empty _).placeAll wf.so
theorem grid_ok {b : Krbp.Instance} (wf : WF b) : GOk b.system b.grid := (seedGrid_ok wf).placeAll wf.ao
theorem take_ok {s : Krbp.TileSystem} {g : Krbp.Grid} {l : List (Nat × Nat)} (h : GOk s g) (hl : ∀ x ∈ l, x.1 < s.size ∧ x.2 < s.tileTypes.length) (i : Nat) : GOk s (Krbp.placeAll g (l.take i)) := h.placeAll fun x hx => hl x (List.mem_of_mem_take hx)
theorem ok_current_grid (T : Txt K mg C) (D : Df K mg "current_grid" s_current_grid p_current_grid) : Fd P w K mg base "current_grid" p_current_grid 1 (spGrid C) := by
  refine D.ok sc_current_grid (fun vs H Q E h => ?_) (fun f cdv A outer s H vs Q E hr h => ?_)
  · obtain ⟨F, b, rfl, _⟩ := h
    rfl
  · obtain ⟨F, b, rfl, I, q⟩ := h
    refine ⟨_, (pss_cons (ps_set (i := 1) sc_current_grid.nd rfl (Or.inl rfl) (pe_op op_rep (pe_lst (pa_cons (pe_gi rfl T.g_EMPTY) pa_nil)) (pe_op op_mul (pe_fld (pv 0) rfl) (pe_fld (pv 0) rfl))))
      (pss_cons (ps_lock (ps_for PassesOwn.never rfl (pi_items (pe_fld (pv 0) rfl)) (pg_tup rfl (pgs_cons (pg_name (i := 2) sc_current_grid.nd rfl (Or.inl rfl)) (pgs_cons (pg_name (i := 3) sc_current_grid.nd rfl (Or.inl rfl)) pgs_nil)))
      (pss_one (ps_asg (pe_op op_add (pv 3) pe_int) (pg_sub (pv 1) (pv 2) set_list)))))
      (pss_cons (ps_for PassesOwn.never rfl (pi_list (pe_fld (pv 0) rfl)) (pg_tup rfl (pgs_cons (pg_name (i := 2) sc_current_grid.nd rfl (Or.inl rfl)) (pgs_cons (pg_name (i := 3) sc_current_grid.nd rfl (Or.inl rfl)) pgs_nil)))
      (pss_one (ps_asg (pe_op op_add (pv 3) pe_int) (pg_sub (pv 1) (pv 2) set_list))))
      (pss_one (ps_ret (pv 1)))))), ?_⟩
    obtain ⟨dx, ob⟩ := id I.ob
    have w6 := I.wf.w6
    have h6 := I.wf.h6
    have h36 := size_le I.wf
    have esz : ((b.system.width : Int) * (b.system.height : Int)) = (b.system.size : Int) := (Int.natCast_mul ..).symm
    refine ⟨(by show 1 ≤ sizeLine; decide), fun l0 n0 => ?_⟩
    have s0 : Same H (upd H l0 (.lst [V.int 0])) := Same.new n0
    refine ⟨_, rfl, F.a, C, _, _, _, rfl, s0 _ _ ob, T.ci, T.n_width, fl_width .., _, rfl, F.a, C, _, _, _, rfl, s0 _ _ ob, T.ci, T.n_height, fl_height .., _, _, rfl, rfl, .inl ⟨by omega, by omega⟩, l0, _, _, rfl, rfl, upd_same, by rw [esz]; omega, by rw [esz]; omega, ?_, fun l1 n1 => ?_⟩
    · rw [esz, Int.toNat_natCast, List.length_singleton]
      show 1 * b.system.size ≤ 2 ^ 24
      omega
    have e0 : (List.replicate ((b.system.width : Int) * (b.system.height : Int)).toNat [V.int 0]).flatten = gV (Krbp.placeAll b.emptyGrid (b.seeds.take 0)) := by
      rw [esz, Int.toNat_natCast, List.take_zero]
      show _ = gV (List.replicate b.system.size none)
      unfold gV
      rw [encG_replicate, List.map_replicate]
      exact flatten_ones _ _
    rw [e0]
    clear e0
    have s1 : Same H (upd (upd H l0 (.lst [V.int 0])) l1 (.lst (gV (Krbp.placeAll b.emptyGrid (b.seeds.take 0))))) := s0.trans (Same.new n1)
    have m1 : H l1 = none := s0.free n1
    have d1 : F.aD ≠ l1 := ne_of_none I.sd m1
    refine ⟨F.aD, _, s1 _ _ I.sd, trivial, fun od => ?_⟩
    have dao : F.a ≠ F.aD := ne_of ob I.sd (by intro z; cases z)
    refine ⟨_, rfl, F.a, C, _, _, _, rfl, (upd_ne dao).trans (s1 _ _ ob), T.ci, T.n_seeds, fl_seeds .., F.aD, _, _, rfl, upd_same, for_it walk_items (fun i σ H' => ∃ v2 v3 : Option V, σ = [some (.ref F.a), some (.ref l1), v2, v3] ∧ (∀ c o, H c = some o → c ≠ F.aD → H' c = some o) ∧ H' F.aD = some (.frz od (.dK (seedsV b.seeds))) ∧ H' l1 = some (.lst (gV (Krbp.placeAll b.emptyGrid (b.seeds.take i)))))
      ⟨none, none, rfl, fun c o h hc => by rw [upd_ne hc]; exact s1 _ _ h, upd_same, by rw [upd_ne d1.symm, upd_same]⟩ (fun i σ H' _ ⟨_, _, _, _, h, _⟩ => h) ?_ ?_⟩
    · rintro i x σ H' H2 hi ⟨v2, v3, rfl, kp, hf, hl⟩ ⟨T', x1, x2, rfl, nT, rfl, hx, hy⟩
      have hi' : i < b.seeds.length := by
        unfold seedsV at hi
        rw [List.length_map] at hi
        exact hi
      have ek : (seedsV b.seeds)[i]? = some (Sum.inl ((b.seeds[i].1 : Nat) : Int), tN b.seeds[i].2) := by
        unfold seedsV
        rw [List.getElem?_map, List.getElem?_eq_getElem hi']
        rfl
      dsimp only at hx hy
      rw [ek] at hx hy
      cases hx
      cases hy
      have m := I.wf.so _ (List.getElem_mem hi')
      have okp := take_ok (GOk.empty b.system) I.wf.so i
      have dT : l1 ≠ T' := ne_of_none hl nT
      refine ⟨T', _, rfl, SqT.of upd_same, rfl, _, _, rfl, _, _, rfl, rfl, ?_⟩
      refine ⟨_, rfl, _, _, rfl, rfl, _, rfl, _, rfl, l1, _, _, b.seeds[i].1, rfl, rfl, by rw [upd_ne dT]; exact hl, ixn (by rw [gV_length]; exact (show _ < _ by rw [show (Krbp.placeAll b.emptyGrid (b.seeds.take i)).length = b.system.size from okp.len]; exact m.1)), ?_⟩
      refine ⟨_, _, rfl, fun c o h hc => ?_, ?_, ?_⟩
      · rw [upd_ne (ne_of_none h m1), upd_ne (ne_of_none (kp c o h hc) nT)]
        exact kp c o h hc
      · rw [upd_ne d1, upd_ne (ne_of_none hf nT)]
        exact hf
      · rw [upd_same, placeAll_take hi', gV_place]
    · rintro σ H' ⟨v2, v3, rfl, kp, hf, hl⟩
      refine ⟨hf, ?_⟩
      have eL : (seedsV b.seeds).length = b.seeds.length := List.length_map ..
      rw [eL, List.take_length] at hl
      have sH : Same H (upd H' F.aD (.dK (seedsV b.seeds))) := fun c o h => by
        by_cases hc : c = F.aD
        · subst hc
          rw [upd_same, ← I.sd]
          exact h
        · rw [upd_ne hc]
          exact kp c o h hc
      have hl' : (upd H' F.aD (.dK (seedsV b.seeds))) l1 = some (.lst (gV b.seedGrid)) := by
        rw [upd_ne d1.symm]
        exact hl
      generalize upd H' F.aD (.dK (seedsV b.seeds)) = H3 at sH hl'
      obtain ⟨ts, ht, ta⟩ := id I.at_
      refine ⟨_, rfl, F.a, C, _, _, _, rfl, sH _ _ ob, T.ci, T.n_attached, fl_attached .., F.aT, rfl, ⟨_, SqL.of (sH _ _ ht)⟩, for_list (K := K) (a := F.aT) (xs := ts.map V.ref) (fun i σ H' => ∃ v2 v3 : Option V, σ = [some (.ref F.a), some (.ref l1), v2, v3] ∧ Same H H' ∧ H' l1 = some (.lst (gV (Krbp.placeAll b.seedGrid (b.attached.take i)))))
        ⟨_, _, rfl, sH, hl'⟩ (fun i σ H' _ ⟨_, _, _, h, _⟩ => SqL.of (h _ _ ht)) ?_ ?_⟩
      · rintro i y σ H4 hi ⟨v2, v3, rfl, s4, h4⟩
        have hi' : i < b.attached.length := by
          rw [← ta.length]
          exact map_lt hi
        obtain ⟨t, et, hp⟩ := ta.get (List.getElem?_eq_getElem hi')
        rw [List.getElem?_map, et] at hi
        cases hi
        have m := I.wf.ao _ (List.getElem_mem hi')
        have okp := take_ok (seedGrid_ok I.wf) I.wf.ao i
        refine ⟨t, _, rfl, SqT.of (s4 _ _ hp), rfl, _, _, rfl, _, _, rfl, rfl, ?_⟩
        refine ⟨_, rfl, _, _, rfl, rfl, _, rfl, _, rfl, l1, _, _, b.attached[i].1, rfl, rfl, h4, ixn (by rw [gV_length, okp.len]; exact m.1), ?_⟩
        refine ⟨_, _, rfl, Same.mut s4 m1, ?_⟩
        rw [upd_same, placeAll_take hi', gV_place]
      · rintro σ H4 ⟨v2, v3, rfl, s4, h4⟩
        rw [List.length_map, ta.length, List.take_length] at h4
        exact ⟨_, rfl, q H4 l1 s4 m1 h4⟩
end
end Gt

namespace Gt
open PySem PySem.Spec PyProof.Rows L2

/-! ### what an operation may touch -/
def Foot.has (F : Foot) (c : Addr) : Prop := c = F.a ∨ c = F.aS ∨ c = F.aK ∨ c = F.aD ∨ c = F.aT
/-- .. and the tile kinds -/
def Foot.own (F : Foot) (c : Addr) : Prop := F.has c ∨ F.kk c
/-- what is tracked stays tracked -/
def Stay (H H' : Hp) : Prop := ∀ c o, H c = some o → ∃ o', H' c = some o'
theorem Stay.upd {H H1 : Hp} {p : Addr} {o : HO} (s : Stay H H1) : Stay H (upd H1 p o) := fun c x h => by
  by_cases e : c = p
  · subst e
    exact ⟨o, upd_same⟩
  · obtain ⟨x', h'⟩ := s c x h
    exact ⟨x', (upd_ne e).trans h'⟩
theorem Stay.refl (H : Hp) : Stay H H := fun _ o h => ⟨o, h⟩
theorem Stay.free {H H1 : Hp} (s : Stay H H1) {p : Addr} (n : H1 p = none) : H p = none := by
  cases e : H p with
  | none => rfl
  | some o =>
    obtain ⟨o', h⟩ := s p o e
    rw [n] at h
    cases h
structure Frame (H : Hp) (F : Foot) (H' : Hp) (F' : Foot) : Prop where
  kp : ∀ c o, H c = some o → ¬ F.own c → H' c = some o
  nw : ∀ c, F'.own c → F.own c ∨ H c = none
  st : Stay H H'
theorem Frame.same {H H' : Hp} {F : Foot} (s : Same H H') : Frame H F H' F := ⟨fun c o h _ => s c o h, fun _ h => .inl h, fun c o h => ⟨o, s c o h⟩⟩
theorem Frame.trans {H H1 H2 : Hp} {F F1 F2 : Foot} (a : Frame H F H1 F1) (b : Frame H1 F1 H2 F2) : Frame H F H2 F2 := by
  refine ⟨fun c o h n => b.kp c o (a.kp c o h n) fun z => ?_, fun c h => ?_, fun c o h => ?_⟩
  · rcases a.nw c z with z | z
    · exact n z
    · rw [z] at h
      cases h
  · rcases b.nw c h with z | z
    · exact a.nw c z
    · by_cases n : F.own c
      · exact .inl n
      · refine .inr ?_
        cases e : H c with
        | none => rfl
        | some o =>
          rw [a.kp c o e n] at z
          cases z
  · obtain ⟨o1, h1⟩ := a.st c o h
    exact b.st c o1 h1
theorem Frame.new {H H1 : Hp} {F F1 : Foot} {p : Addr} {o : HO} (a : Frame H F H1 F1) (n : H1 p = none) : Frame H F (upd H1 p o) F1 := a.trans (Frame.same (Same.new n))
section
variable {C : Addr} {H H' : Hp} {F : Foot} {b : Krbp.Instance}
structure Nes (F : Foot) : Prop where
  aS : F.a ≠ F.aS
  aK : F.a ≠ F.aK
  aD : F.a ≠ F.aD
  aT : F.a ≠ F.aT
  DS : F.aD ≠ F.aS
  DK : F.aD ≠ F.aK
  DT : F.aD ≠ F.aT
theorem InstAt.nes (I : InstAt C H F b) : Nes F := by
  obtain ⟨⟨dx, ob⟩, st, ⟨ks, hk, ka⟩, sd, ⟨ts, ht, ta⟩, d1, d2, d3, wf⟩ := I
  refine ⟨ne_of ob st ?_, ne_of ob hk ?_, ne_of ob sd ?_, ne_of ob ht ?_, ne_of sd st ?_, ne_of sd hk ?_, ne_of sd ht ?_⟩ <;> (intro z; cases z)
/-- nothing of the footprint is free -/
theorem InstAt.has_some (I : InstAt C H F b) {c : Addr} (h : F.has c) : ∃ o, H c = some o := by
  obtain ⟨⟨dx, ob⟩, st, ⟨ks, hk, ka⟩, sd, ⟨ts, ht, ta⟩, d1, d2, d3, wf⟩ := I
  rcases h with rfl | rfl | rfl | rfl | rfl
  · exact ⟨_, ob⟩
  · exact ⟨_, st⟩
  · exact ⟨_, hk⟩
  · exact ⟨_, sd⟩
  · exact ⟨_, ht⟩
theorem InstAt.free (I : InstAt C H F b) {p : Addr} (n : H p = none) : ¬ F.has p := fun h => by
  obtain ⟨o, e⟩ := I.has_some h
  rw [n] at e
  cases e
theorem pair_ne {t c : Addr} {x : Nat × Nat} {o : HO} (h : PairAt H t x) (hc : H c = some o) (hn : ∀ l, o ≠ .tup l) : t ≠ c := ne_of h hc fun z => hn _ z.symm
/-- a new list of attached tiles -/
theorem put_attached (w h t : Nat) (F : Foot) (p : Addr) : putF "attached" (.ref p) (flds w h t F) = flds w h t { F with aT := p } := by
  unfold flds
  repeat first
    | rw [put_past (by decide +kernel)]
    | rw [put_here]
theorem put_threshold (w h t t' : Nat) (F : Foot) : putF "threshold" (tN t') (flds w h t F) = flds w h t' F := by
  unfold flds
  repeat first
    | rw [put_past (by decide +kernel)]
    | rw [put_here]
theorem kinds_upd {ks : List Addr} {tt : List (List Nat)} {F' : Foot} {c : Addr} {o : HO} (ka : All2 (KindAt H F) ks tt) (hc : ∀ a l, KindAt H F a l → a ≠ c ∧ a ≠ F'.aS ∧ a ≠ F'.aK ∧ a ≠ F'.aT ∧ F'.kk a) : All2 (KindAt (upd H c o) F') ks tt :=
  ka.mono fun a l r => ⟨by rw [upd_ne (hc a l r).1]; exact r.1, (hc a l r).2⟩
theorem pairs_upd {ts : List Addr} {l : List (Nat × Nat)} {c : Addr} {o o' : HO} (ta : All2 (PairAt H) ts l) (hc : H c = some o') (hn : ∀ l, o' ≠ .tup l) : All2 (PairAt (upd H c o)) ts l :=
  ta.mono fun t x r => (upd_ne (pair_ne r hc hn)).trans r
/-- instance.attached = [] -/
theorem InstAt.dropT (I : InstAt C H F b) {p : Addr} (n : H p = none) :
    ∀ {dx : Addr}, H F.a = some (.ins C dx (flds b.system.width b.system.height b.system.threshold F)) →
    let H' := upd (upd H p (.lst [])) F.a (.ins C dx (putF "attached" (.ref p) (flds b.system.width b.system.height b.system.threshold F)))
    InstAt C H' { F with aT := p } { b with attached := [] } ∧ Frame H F H' { F with aT := p } := by
  intro dx ob
  have N := I.nes
  obtain ⟨_, st, ⟨ks, hk, ka⟩, sd, ⟨ts, ht, ta⟩, d1, d2, d3, wf⟩ := I
  have np : ∀ {c : Addr} {o : HO}, H c = some o → c ≠ p := fun h => ne_of_none h n
  have s1 : Same H (upd H p (.lst [])) := Same.new n
  dsimp only
  rw [put_attached]
  refine ⟨⟨⟨dx, upd_same⟩, (upd_ne N.aS.symm).trans (s1 _ _ st), ⟨ks, (upd_ne N.aK.symm).trans (s1 _ _ hk), ka.mono fun a l r => ⟨(upd_ne (ne_of r.1 ob (by intro z; cases z))).trans (s1 _ _ r.1), r.2.1, r.2.2.1, np r.1, r.2.2.2.2⟩⟩, (upd_ne N.aD.symm).trans (s1 _ _ sd), ⟨[], (upd_ne (np ob).symm).trans upd_same, .nil⟩, d1, np st, np hk, ?_⟩, ?_⟩
  · exact ⟨wf.w1, wf.w6, wf.h1, wf.h6, wf.t1, wf.t4, wf.sl, wf.s3, wf.kl, wf.k4, wf.sn, wf.so, fun x hx => by cases hx⟩
  · refine ⟨fun c o h hc => (upd_ne fun z => hc (.inl (.inl z))).trans (s1 _ _ h), fun c hc => ?_, (Stay.refl H).upd.upd⟩
    rcases hc with (z | z | z | z | z) | z
    · exact .inl (.inl (.inl z))
    · exact .inl (.inl (.inr (.inl z)))
    · exact .inl (.inl (.inr (.inr (.inl z))))
    · exact .inl (.inl (.inr (.inr (.inr (.inl z)))))
    · have z : c = p := z
      rw [z]
      exact .inr n
    · exact .inl (.inr z)
/-- instance.threshold = t -/
theorem InstAt.setThr (I : InstAt C H F b) {t : Nat} (h1 : 1 ≤ t) (h4 : t ≤ 4) :
    ∀ {dx : Addr}, H F.a = some (.ins C dx (flds b.system.width b.system.height b.system.threshold F)) →
    let H' := upd H F.a (.ins C dx (putF "threshold" (tN t) (flds b.system.width b.system.height b.system.threshold F)))
    InstAt C H' F { b with system := { b.system with threshold := t } } ∧ Frame H F H' F := by
  intro dx ob
  have N := I.nes
  obtain ⟨_, st, ⟨ks, hk, ka⟩, sd, ⟨ts, ht, ta⟩, d1, d2, d3, wf⟩ := I
  dsimp only
  rw [put_threshold]
  refine ⟨⟨⟨dx, upd_same⟩, (upd_ne N.aS.symm).trans st, ⟨ks, (upd_ne N.aK.symm).trans hk, kinds_upd ka fun a l r => ⟨ne_of r.1 ob (by intro z; cases z), r.2⟩⟩, (upd_ne N.aD.symm).trans sd, ⟨ts, (upd_ne N.aT.symm).trans ht, pairs_upd ta ob (by intro l z; cases z)⟩, d1, d2, d3, ?_⟩, ?_⟩
  · exact ⟨wf.w1, wf.w6, wf.h1, wf.h6, h1, h4, wf.sl, wf.s3, wf.kl, wf.k4, wf.sn, wf.so, wf.ao⟩
  · exact ⟨fun c o h hc => (upd_ne fun z => hc (.inl (.inl z))).trans h, fun c hc => .inl hc, (Stay.refl H).upd⟩
/-- instance.strengths[g] = v -/
theorem InstAt.setS (I : InstAt C H F b) {g v : Nat} (hg : 1 ≤ g) (hv : v ≤ 3) :
    let H' := upd H F.aS (.lst ((nums (0 :: b.system.strengths)).set g (tN v)))
    InstAt C H' F { b with system := { b.system with strengths := b.system.strengths.set (g - 1) v } } ∧ Frame H F H' F := by
  have N := I.nes
  obtain ⟨⟨dx, ob⟩, st, ⟨ks, hk, ka⟩, sd, ⟨ts, ht, ta⟩, d1, d2, d3, wf⟩ := I
  have e : (nums (0 :: b.system.strengths)).set g (tN v) = nums (0 :: b.system.strengths.set (g - 1) v) := by
    obtain ⟨n, rfl⟩ : ∃ n, g = n + 1 := ⟨g - 1, by omega⟩
    unfold nums
    rw [List.map_cons, List.set_cons_succ, List.map_cons, List.map_set]
    rfl
  dsimp only
  rw [e]
  refine ⟨⟨⟨dx, (upd_ne N.aS).trans ob⟩, upd_same, ⟨ks, (upd_ne d1.symm).trans hk, kinds_upd ka fun a l r => ⟨r.2.1, r.2⟩⟩, (upd_ne N.DS).trans sd, ⟨ts, (upd_ne d2.symm).trans ht, pairs_upd ta st (by intro l z; cases z)⟩, d1, d2, d3, ?_⟩, ?_⟩
  · refine ⟨wf.w1, wf.w6, wf.h1, wf.h6, wf.t1, wf.t4, by rw [List.length_set]; exact wf.sl, fun x hx => ?_, wf.kl, wf.k4, wf.sn, wf.so, wf.ao⟩
    rcases List.mem_or_eq_of_mem_set hx with z | z
    · exact wf.s3 x z
    · rw [z]
      exact hv
  · exact ⟨fun c o h hc => (upd_ne fun z => hc (.inl (.inr (.inl z)))).trans h, fun c hc => .inl hc, (Stay.refl H).upd⟩
/-- instance.kinds.append(list(glues)) -/
theorem InstAt.addK (I : InstAt C H F b) {p : Addr} (n : H p = none) {l : List Nat} (h4 : l.length = 4) (h9 : ∀ x ∈ l, x ≤ 9) (hk12 : b.system.tileTypes.length < 12) :
    ∀ {ks : List Addr}, H F.aK = some (.lst (ks.map V.ref)) →
    let H' := upd (upd H p (.lst (nums l))) F.aK (.lst (ks.map V.ref ++ [V.ref p]))
    InstAt C H' { F with kk := fun c => F.kk c ∨ c = p } { b with system := { b.system with tileTypes := b.system.tileTypes ++ [l] } } ∧ Frame H F H' { F with kk := fun c => F.kk c ∨ c = p } := by
  intro ks hk
  have N := I.nes
  obtain ⟨⟨dx, ob⟩, st, ⟨ks', hk', ka⟩, sd, ⟨ts, ht, ta⟩, d1, d2, d3, wf⟩ := I
  have eks : ks' = ks := by
    rw [hk] at hk'
    injection hk' with z
    injection z with z
    exact (List.map_inj_right (fun _ _ z => by injection z)).mp z.symm
  subst eks
  have np : ∀ {c : Addr} {o : HO}, H c = some o → c ≠ p := fun h => ne_of_none h n
  have s1 : Same H (upd H p (.lst (nums l))) := Same.new n
  refine ⟨⟨⟨dx, (upd_ne N.aK).trans (s1 _ _ ob)⟩, (upd_ne d1).trans (s1 _ _ st), ⟨ks' ++ [p], by rw [upd_same, List.map_append]; rfl, All2.append (ka.mono fun a l r => ⟨(upd_ne r.2.2.1).trans (s1 _ _ r.1), r.2.1, r.2.2.1, r.2.2.2.1, .inl r.2.2.2.2⟩) (.cons ⟨(upd_ne (np hk).symm).trans upd_same, (np st).symm, (np hk).symm, (np ht).symm, .inr rfl⟩ .nil)⟩, (upd_ne N.DK).trans (s1 _ _ sd), ⟨ts, (upd_ne d3.symm).trans (s1 _ _ ht), pairs_upd (ta.mono fun _ _ r => s1 _ _ r) (s1 _ _ hk) (by intro l z; cases z)⟩, d1, d2, d3, ?_⟩, ?_⟩
  · refine ⟨wf.w1, wf.w6, wf.h1, wf.h6, wf.t1, wf.t4, wf.sl, wf.s3, ?_, ?_, wf.sn, ?_, ?_⟩
    · show (b.system.tileTypes ++ [l]).length ≤ 12
      rw [List.length_append, List.length_singleton]
      omega
    · intro m hm
      rcases List.mem_append.mp hm with z | z
      · exact wf.k4 m z
      · rw [List.mem_singleton.mp z]
        exact ⟨h4, h9⟩
    · intro x hx
      refine ⟨(wf.so x hx).1, ?_⟩
      show x.2 < (b.system.tileTypes ++ [l]).length
      rw [List.length_append]
      exact Nat.lt_add_right _ (wf.so x hx).2
    · intro x hx
      refine ⟨(wf.ao x hx).1, ?_⟩
      show x.2 < (b.system.tileTypes ++ [l]).length
      rw [List.length_append]
      exact Nat.lt_add_right _ (wf.ao x hx).2
  · refine ⟨fun c o h hc => (upd_ne fun z => hc (.inl (.inr (.inr (.inl z))))).trans (s1 _ _ h), fun c hc => ?_, (Stay.refl H).upd.upd⟩
    rcases hc with z | z | z
    · exact .inl (.inl z)
    · exact .inl (.inr z)
    · rw [z]
      exact .inr n
/-- another dict of seeds -/
theorem InstAt.setD (I : InstAt C H F b) {l : List (Nat × Nat)} (hn : (l.map (·.1)).Nodup) (ho : ∀ x ∈ l, x.1 < b.system.size ∧ x.2 < b.system.tileTypes.length) :
    let H' := upd H F.aD (.dK (seedsV l))
    InstAt C H' F { b with seeds := l } ∧ Frame H F H' F := by
  have N := I.nes
  obtain ⟨⟨dx, ob⟩, st, ⟨ks, hk, ka⟩, sd, ⟨ts, ht, ta⟩, d1, d2, d3, wf⟩ := I
  refine ⟨⟨⟨dx, (upd_ne N.aD).trans ob⟩, (upd_ne N.DS.symm).trans st, ⟨ks, (upd_ne N.DK.symm).trans hk, kinds_upd ka fun a l r => ⟨ne_of r.1 sd (by intro z; cases z), r.2⟩⟩, upd_same, ⟨ts, (upd_ne N.DT.symm).trans ht, pairs_upd ta sd (by intro l z; cases z)⟩, d1, d2, d3, ?_⟩, ?_⟩
  · exact ⟨wf.w1, wf.w6, wf.h1, wf.h6, wf.t1, wf.t4, wf.sl, wf.s3, wf.kl, wf.k4, hn, ho, wf.ao⟩
  · exact ⟨fun c o h hc => (upd_ne fun z => hc (.inl (.inr (.inr (.inr (.inl z)))))).trans h, fun c hc => .inl hc, (Stay.refl H).upd⟩
/-- other attached tiles in the same list -/
theorem InstAt.setT (I : InstAt C H F b) {ts : List Addr} {l : List (Nat × Nat)} (hl : All2 (PairAt H) ts l) (ho : ∀ x ∈ l, x.1 < b.system.size ∧ x.2 < b.system.tileTypes.length) :
    let H' := upd H F.aT (.lst (ts.map V.ref))
    InstAt C H' F { b with attached := l } ∧ Frame H F H' F := by
  have N := I.nes
  obtain ⟨⟨dx, ob⟩, st, ⟨ks, hk, ka⟩, sd, ⟨ts', ht, ta⟩, d1, d2, d3, wf⟩ := I
  refine ⟨⟨⟨dx, (upd_ne N.aT).trans ob⟩, (upd_ne d2).trans st, ⟨ks, (upd_ne d3).trans hk, kinds_upd ka fun a l r => ⟨r.2.2.2.1, r.2⟩⟩, (upd_ne N.DT).trans sd, ⟨ts, upd_same, pairs_upd hl ht (by intro l z; cases z)⟩, d1, d2, d3, ?_⟩, ?_⟩
  · exact ⟨wf.w1, wf.w6, wf.h1, wf.h6, wf.t1, wf.t4, wf.sl, wf.s3, wf.kl, wf.k4, wf.sn, wf.so, ho⟩
  · exact ⟨fun c o h hc => (upd_ne fun z => hc (.inl (.inr (.inr (.inr (.inr z)))))).trans h, fun c hc => .inl hc, (Stay.refl H).upd⟩
/-- a change outside of the footprint, of no tuple -/
theorem InstAt.upd_out (I : InstAt C H F b) {c : Addr} {o o' : HO} (hc : ¬ F.own c) (h0 : H c = some o') (hn : ∀ l, o' ≠ .tup l) : InstAt C (upd H c o) F b := by
  obtain ⟨⟨dx, ob⟩, st, ⟨ks, hk, ka⟩, sd, ⟨ts, ht, ta⟩, d1, d2, d3, wf⟩ := I
  have hc' : ¬ F.has c := fun z => hc (.inl z)
  refine ⟨⟨dx, (upd_ne fun z => hc' (.inl z.symm)).trans ob⟩, (upd_ne fun z => hc' (.inr (.inl z.symm))).trans st, ⟨ks, (upd_ne fun z => hc' (.inr (.inr (.inl z.symm)))).trans hk, kinds_upd ka fun a l r => ⟨fun z => hc (.inr (z ▸ r.2.2.2.2)), r.2⟩⟩, (upd_ne fun z => hc' (.inr (.inr (.inr (.inl z.symm))))).trans sd, ⟨ts, (upd_ne fun z => hc' (.inr (.inr (.inr (.inr z.symm))))).trans ht, pairs_upd ta h0 hn⟩, d1, d2, d3, wf⟩
end
end Gt

namespace Gt
open PySem PySem.Spec PyProof.Rows L2

/-! ### what an operation hands back -/
def encR (r : Krbp.Result) : List Int := r.code :: r.values
def After (C : Addr) (H : Hp) (F : Foot) (out : Krbp.State × Krbp.Result) (Q : VK) : Prop := ∀ (H' : Hp) (F' : Foot) (b' : Krbp.Instance) (l : Addr),
  F'.a = F.a → out.1 = some b' → InstAt C H' F' b' → Frame H F H' F' → H l = none → H' l = some (.lst ((encR out.2).map V.int)) → Q (.ref l) H'
section
variable {C : Addr} {H H1 : Hp} {F F1 : Foot} {b b1 : Krbp.Instance} {out : Krbp.State × Krbp.Result} {Q : VK}
/-- a list of one number, behind a change of state -/
theorem After.one (k : After C H F out Q) (e : F1.a = F.a) (I1 : InstAt C H1 F1 b1) (fr : Frame H F H1 F1) {c : Int} (ho : out = (some b1, ⟨c, []⟩)) :
    ([V.int c].length ≤ sizeLine ∧ ∀ p, H1 p = none → Q (.ref p) (upd H1 p (.lst [V.int c]))) := by
  refine ⟨(by show 1 ≤ sizeLine; decide), fun p n => ?_⟩
  subst ho
  exact k _ F1 b1 p e rfl (I1.same (Same.new n)) (fr.new n) (fr.st.free n) upd_same
/-- the state as it was -/
theorem After.err (k : After C H F out Q) (I : InstAt C H F b) (s : Same H H1) {c : Int} (ho : out = (some b, ⟨c, []⟩)) :
    ([V.int c].length ≤ sizeLine ∧ ∀ p, H1 p = none → Q (.ref p) (upd H1 p (.lst [V.int c]))) :=
  k.one rfl (I.same s) (Frame.same s) ho
end
section
variable {P : Program} {w : World} {K : PySem.W.Frag} {mg : Str → Option Value} {base : Heap} {C : Addr}
/-! ### outside, drop_attached -/
abbrev s_outside : Stmt := top 40
theorem sc_outside : FnScope ["value", "low", "high"] ["value", "low", "high"] (defScope s_outside) := ⟨rfl, rfl, rfl, by decide +kernel, rfl, by decide +kernel, by decide +kernel⟩
abbrev p_outside : List Str := ["value", "low", "high"]
def spOutside : Sp := fun vs H Q _ => ∃ v lo hi : Nat, vs = [tN v, tN lo, tN hi] ∧ Q (.bl (decide (v < lo) || decide (hi < v))) H
theorem ok_outside (D : Df K mg "outside" s_outside p_outside) : Fd P w K mg base "outside" p_outside 1 spOutside := by
  refine D.ok sc_outside (fun vs H Q E h => ?_) (fun f cdv A outer s H vs Q E hr h => ?_)
  · obtain ⟨x, y, z, rfl, _⟩ := h
    rfl
  · obtain ⟨v, lo, hi, rfl, q⟩ := h
    refine ⟨_, (pss_one (ps_ret (pe_or (pe_cmpR op_lt (pv 0) (pv 1) (nomark _)) (pe_one (pe_cmpR op_gt (pv 0) (pv 2) (nomark _)))))), ?_⟩
    refine ⟨_, rfl, _, rfl, _, _, rfl, rfl, _, rfl, ?_⟩
    rw [dlt]
    refine ifB (fun c => ?_) (fun c => ?_)
    · rw [c, Bool.true_or] at q
      exact q
    · rw [c, Bool.false_or] at q
      exact ⟨_, rfl, _, rfl, _, _, rfl, rfl, qv (congrArg V.bl (dlt ..)) q⟩
abbrev s_drop_attached : Stmt := top 41
theorem sc_drop_attached : FnScope ["instance"] ["instance"] (defScope s_drop_attached) := ⟨rfl, rfl, rfl, by decide +kernel, rfl, by decide +kernel, by decide +kernel⟩
abbrev p_drop_attached : List Str := ["instance"]
def spDrop (C : Addr) : Sp := fun vs H Q _ => ∃ (F : Foot) (b : Krbp.Instance), vs = [.ref F.a] ∧ InstAt C H F b ∧
  ∀ (H' : Hp) (F' : Foot), F'.a = F.a → InstAt C H' F' { b with attached := [] } → Frame H F H' F' → (F'.aS = F.aS ∧ F'.aK = F.aK ∧ F'.aD = F.aD) → Q .non H'
theorem ok_drop_attached (T : Txt K mg C) (D : Df K mg "drop_attached" s_drop_attached p_drop_attached) : Fd P w K mg base "drop_attached" p_drop_attached 1 (spDrop C) := by
  refine D.ok sc_drop_attached (fun vs H Q E h => ?_) (fun f cdv A outer s H vs Q E hr h => ?_)
  · obtain ⟨F, b, rfl, _⟩ := h
    rfl
  · obtain ⟨F, b, rfl, I, q⟩ := h
    refine ⟨_, (pss_one (ps_fld (pv 0) (pe_lst pa_nil) rfl)), ?_⟩
    refine ⟨Nat.zero_le _, fun p n => ?_⟩
    obtain ⟨dx, ob⟩ := id I.ob
    obtain ⟨I', fr⟩ := I.dropT n ob
    exact ⟨_, rfl, F.a, C, dx, _, rfl, (Same.new n) _ _ ob, T.ci, T.n_attached, (by show 7 < 1000; decide), q _ { F with aT := p } rfl I' fr ⟨rfl, rfl, rfl⟩⟩
/-! ### add_tile_kind -/
abbrev s_add_tile_kind : Stmt := top 43
theorem sc_add_tile_kind : FnScope ["instance", "glues"] ["instance", "glues"] (defScope s_add_tile_kind) := ⟨rfl, rfl, rfl, by decide +kernel, rfl, by decide +kernel, by decide +kernel⟩
abbrev p_add_tile_kind : List Str := ["instance", "glues"]
def spAddKind (C : Addr) : Sp := fun vs H Q _ => ∃ (F : Foot) (b : Krbp.Instance) (ga : Addr) (l : List Nat), vs = [.ref F.a, .ref ga] ∧ InstAt C H F b ∧ H ga = some (.lst (nums l)) ∧ After C H F (Krbp.execute (some b) (.addTileType l)) Q
theorem ok_add_tile_kind (T : Txt K mg C) (D : Df K mg "add_tile_kind" s_add_tile_kind p_add_tile_kind) (F_drop_attached : Fd P w K mg base "drop_attached" p_drop_attached 1 (spDrop C)) :
    Fd P w K mg base "add_tile_kind" p_add_tile_kind 2 (spAddKind C) := by
  refine D.ok sc_add_tile_kind (fun vs H Q E h => ?_) (fun f cdv A outer s H vs Q E hr h => ?_)
  · obtain ⟨F, b, ga, l, rfl, _⟩ := h
    rfl
  · obtain ⟨F, b, ga, l, rfl, I, hg, k⟩ := h
    refine ⟨_, (pss_cons (ps_if (PW.pt (pw_or (pt_cmpR op_ne (pe_callB call_len_seq (by rfl) T.b_len PySem.boot_len (pa_cons (pv 1) pa_nil)) (pe_gi rfl T.g_SIDES) (nomark _)) (pw_or1 (pt_cmpR op_gt (pe_callB (cr_max rfl) (by rfl) T.b_max (by decide +kernel) (pa_cons (pv 1) pa_nil)) (pe_gi rfl T.g_MOST_GLUE) (nomark _)))))
      (pss_one (ps_ret (pe_lst (pa_cons (pe_gi rfl T.g_OUT_OF_LIMITS) pa_nil))))
      pss_nil)
      (pss_cons (ps_if (pt_cmpR op_eq (pe_callB call_len_seq (by rfl) T.b_len PySem.boot_len (pa_cons (pe_fld (pv 0) rfl) pa_nil)) (pe_gi rfl T.g_MOST_KINDS) (nomark _))
      (pss_one (ps_ret (pe_lst (pa_cons (pe_gi rfl T.g_KINDS_FULL) pa_nil))))
      pss_nil)
      (pss_cons (ps_expr (pe_bm PySem.F.plainAttrs_list PySem.F.slot_list_append PySem.F.type_list_append mt_append (pe_fld (pv 0) rfl) (pa_cons (pe_callTy call_list_of (by rfl) T.b_list (by decide +kernel) (pa_cons (pv 1) pa_nil)) pa_nil)))
      (pss_cons (ps_expr (pe_fn F_drop_attached (hr.mono (by decide)) rfl (pa_cons (pv 0) pa_nil)))
      (pss_one (ps_ret (pe_lst (pa_cons (pe_op op_sub (pe_callB call_len_seq (by rfl) T.b_len PySem.boot_len (pa_cons (pe_fld (pv 0) rfl) pa_nil)) pe_int) pa_nil)))))))), ?_⟩
    obtain ⟨dx, ob⟩ := id I.ob
    obtain ⟨ks, hks, ka⟩ := id I.kd
    have enum : nums l = (l.map fun n : Nat => (n : Int)).map V.int := by
      unfold nums
      rw [List.map_map]
      rfl
    refine ⟨_, rfl, ga, _, rfl, .inl (SqL.of hg), rfl, _, rfl, ?_⟩
    rw [nums_length]
    by_cases c4 : l.length = 4
    · refine iteNS (by rw [c4]; rfl) ?_
      refine ⟨_, rfl, ga, l.map (fun n : Nat => (n : Int)), rfl, SqL.of (by rw [← enum]; exact hg), by rw [List.length_map]; omega, fun m hm hle => ?_⟩
      refine ⟨_, _, rfl, rfl, _, rfl, ?_⟩
      refine ifB (fun c => ?_) (fun c => ?_)
      · obtain ⟨x, hx, rfl⟩ := List.mem_map.mp hm
        have c := of_decide_eq_true c
        exact k.err I (Same.refl _) (ex_add_bad (.inr ⟨x, hx, by omega⟩))
      · have c := of_decide_eq_false c
        have h9 : ∀ x ∈ l, x ≤ 9 := fun x hx => by
          have := hle (x : Int) (List.mem_map.mpr ⟨x, hx, rfl⟩)
          omega
        refine ⟨_, rfl, F.a, C, _, _, _, rfl, ob, T.ci, T.n_kinds, fl_kinds .., F.aK, _, rfl, .inl (SqL.of hks), rfl, _, rfl, ?_⟩
        rw [List.length_map, ka.length]
        have kl := I.wf.kl
        refine ifB (fun c => ?_) (fun c => ?_)
        · have c := of_decide_eq_true c
          have c : ((b.system.tileTypes.length : Nat) : Int) = 12 := by injection c
          exact k.err I (Same.refl _) (ex_add_full c4 h9 (by omega))
        · have c := of_decide_eq_false c
          have c : b.system.tileTypes.length < 12 := by
            refine Nat.lt_of_le_of_ne kl fun z => c ?_
            rw [z]
            rfl
          refine ⟨_, rfl, F.a, C, _, _, _, rfl, ob, T.ci, T.n_kinds, fl_kinds .., .inl ⟨rfl, _, SqL.of hks⟩, _, rfl, ga, _, rfl, .inl (SqL.of hg), fun p n => ?_⟩
          obtain ⟨I1, fr1⟩ := I.addK n c4 h9 c hks
          refine ⟨F.aK, _, _, rfl, rfl, (Same.new n) _ _ hks, sz4 ka.length (by omega), ?_⟩
          refine ⟨_, rfl, { F with kk := fun c => F.kk c ∨ c = p }, _, rfl, I1, fun H2 F2 e2 I2 fr2 _ => ?_⟩
          obtain ⟨a2, aS, aK, aD, aT, kk⟩ := F2
          have e2 : a2 = F.a := e2
          subst e2
          obtain ⟨dx2, ob2⟩ := id I2.ob
          obtain ⟨ks2, hks2, ka2⟩ := id I2.kd
          refine ⟨_, rfl, F.a, C, _, _, _, rfl, ob2, T.ci, T.n_kinds, fl_kinds .., aK, _, rfl, .inl (SqL.of hks2), _, _, rfl, rfl, ?_⟩
          have e : (((ks2.map V.ref).length : Nat) : Int) - 1 = (b.system.tileTypes.length : Int) := by
            rw [List.length_map, ka2.length]
            show (((b.system.tileTypes ++ [l]).length : Nat) : Int) - 1 = _
            rw [List.length_append, List.length_singleton]
            omega
          show [V.int ((((ks2.map V.ref).length : Nat) : Int) - 1)].length ≤ sizeLine ∧ _
          exact k.one (F1 := ⟨F.a, aS, aK, aD, aT, kk⟩) rfl I2 (fr1.trans fr2) (by rw [e]; exact ex_add_ok c4 h9 (by omega))
    · refine ifT (by simp; omega) ?_
      exact k.err I (Same.refl _) (ex_add_bad (.inl c4))
/-! ### set_strength -/
abbrev s_set_strength : Stmt := top 44
theorem sc_set_strength : FnScope ["instance", "glue", "strength", "previous"] ["instance", "glue", "strength"] (defScope s_set_strength) := ⟨rfl, rfl, rfl, by decide +kernel, rfl, by decide +kernel, by decide +kernel⟩
abbrev p_set_strength : List Str := ["instance", "glue", "strength"]
def spSetStr (C : Addr) : Sp := fun vs H Q _ => ∃ (F : Foot) (b : Krbp.Instance) (x v : Nat), vs = [.ref F.a, tN x, tN v] ∧ InstAt C H F b ∧ After C H F (Krbp.execute (some b) (.setStrength x v)) Q
theorem ok_set_strength (T : Txt K mg C) (D : Df K mg "set_strength" s_set_strength p_set_strength) (F_outside : Fd P w K mg base "outside" p_outside 1 spOutside) (F_drop_attached : Fd P w K mg base "drop_attached" p_drop_attached 1 (spDrop C)) :
    Fd P w K mg base "set_strength" p_set_strength 2 (spSetStr C) := by
  refine D.ok sc_set_strength (fun vs H Q E h => ?_) (fun f cdv A outer s H vs Q E hr h => ?_)
  · obtain ⟨F, b, x, v, rfl, _⟩ := h
    rfl
  · obtain ⟨F, b, x, v, rfl, I, k⟩ := h
    refine ⟨_, (pss_cons (ps_if (PW.pt (pw_or (pt_val (pe_fn F_outside (hr.mono (by decide)) rfl (pa_cons (pv 1) (pa_cons pe_int (pa_cons (pe_gi rfl T.g_MOST_GLUE) pa_nil))))) (pw_or1 (pt_cmpR op_gt (pv 2) (pe_gi rfl T.g_MOST_STRENGTH) (nomark _)))))
      (pss_one (ps_ret (pe_lst (pa_cons (pe_gi rfl T.g_OUT_OF_LIMITS) pa_nil))))
      pss_nil)
      (pss_cons (ps_set (i := 3) sc_set_strength.nd rfl (Or.inl rfl) (pe_ix ix_list (pe_fld (pv 0) rfl) (pv 1) (fun _ _ => rfl)))
      (pss_cons (ps_asg (pv 2) (pg_sub (pe_fld (pv 0) rfl) (pv 1) set_list))
      (pss_cons (ps_expr (pe_fn F_drop_attached (hr.mono (by decide)) rfl (pa_cons (pv 0) pa_nil)))
      (pss_one (ps_ret (pe_lst (pa_cons (pv 3) pa_nil)))))))), ?_⟩
    obtain ⟨dx, ob⟩ := id I.ob
    refine ⟨_, rfl, x, 1, 9, rfl, _, rfl, ?_⟩
    refine ifB (fun c => ?_) (fun c => ?_)
    · refine k.err I (Same.refl _) (ex_str_bad ?_)
      rw [Bool.or_eq_true, decide_eq_true_iff, decide_eq_true_iff] at c
      omega
    · rw [Bool.or_eq_false_iff, decide_eq_false_iff_not, decide_eq_false_iff_not] at c
      refine ⟨_, rfl, _, _, rfl, rfl, _, rfl, ?_⟩
      refine ifB (fun d => ?_) (fun d => ?_)
      · have d := of_decide_eq_true d
        exact k.err I (Same.refl _) (ex_str_bad (by omega))
      · have d := of_decide_eq_false d
        have hx : (nums (0 :: b.system.strengths))[x]? = some (tN (b.system.strengthOf x)) := strength_get I.wf.sl (by omega)
        refine ⟨_, rfl, F.a, C, _, _, _, rfl, ob, T.ci, T.n_strengths, fl_strengths .., _, rfl, F.aS, _, _, _, rfl, rfl, SqL.of I.st, atI_nat hx, ?_⟩
        obtain ⟨I1, fr1⟩ := I.setS (g := x) (v := v) (by omega) (by omega)
        refine ⟨_, rfl, _, rfl, F.a, C, _, _, _, rfl, ob, T.ci, T.n_strengths, fl_strengths .., _, rfl, F.aS, _, _, x, rfl, rfl, I.st, ixn (by rw [nums_length, List.length_cons, I.wf.sl]; omega), ?_⟩
        refine ⟨_, rfl, F, _, rfl, I1, fun H2 F2 e2 I2 fr2 _ => ?_⟩
        refine ⟨_, rfl, ?_⟩
        exact k.one e2 I2 (fr1.trans fr2) (ex_str_ok (by omega) (by omega) (by omega))
/-! ### set_threshold -/
abbrev s_set_threshold : Stmt := top 45
theorem sc_set_threshold : FnScope ["instance", "threshold", "previous"] ["instance", "threshold"] (defScope s_set_threshold) := ⟨rfl, rfl, rfl, by decide +kernel, rfl, by decide +kernel, by decide +kernel⟩
abbrev p_set_threshold : List Str := ["instance", "threshold"]
def spSetThr (C : Addr) : Sp := fun vs H Q _ => ∃ (F : Foot) (b : Krbp.Instance) (t : Nat), vs = [.ref F.a, tN t] ∧ InstAt C H F b ∧ After C H F (Krbp.execute (some b) (.setThreshold t)) Q
theorem ok_set_threshold (T : Txt K mg C) (D : Df K mg "set_threshold" s_set_threshold p_set_threshold) (F_outside : Fd P w K mg base "outside" p_outside 1 spOutside) (F_drop_attached : Fd P w K mg base "drop_attached" p_drop_attached 1 (spDrop C)) :
    Fd P w K mg base "set_threshold" p_set_threshold 2 (spSetThr C) := by
  refine D.ok sc_set_threshold (fun vs H Q E h => ?_) (fun f cdv A outer s H vs Q E hr h => ?_)
  · obtain ⟨F, b, t, rfl, _⟩ := h
    rfl
  · obtain ⟨F, b, t, rfl, I, k⟩ := h
    refine ⟨_, (pss_cons (ps_if (pt_val (pe_fn F_outside (hr.mono (by decide)) rfl (pa_cons (pv 1) (pa_cons pe_int (pa_cons (pe_gi rfl T.g_MOST_THRESHOLD) pa_nil)))))
      (pss_one (ps_ret (pe_lst (pa_cons (pe_gi rfl T.g_OUT_OF_LIMITS) pa_nil))))
      pss_nil)
      (pss_cons (ps_set (i := 2) sc_set_threshold.nd rfl (Or.inl rfl) (pe_fld (pv 0) rfl))
      (pss_cons (ps_fld (pv 0) (pv 1) rfl)
      (pss_cons (ps_expr (pe_fn F_drop_attached (hr.mono (by decide)) rfl (pa_cons (pv 0) pa_nil)))
      (pss_one (ps_ret (pe_lst (pa_cons (pv 2) pa_nil)))))))), ?_⟩
    obtain ⟨dx, ob⟩ := id I.ob
    refine ⟨_, rfl, t, 1, 4, rfl, _, rfl, ?_⟩
    refine ifB (fun c => ?_) (fun c => ?_)
    · rw [Bool.or_eq_true, decide_eq_true_iff, decide_eq_true_iff] at c
      exact k.err I (Same.refl _) (ex_thr_bad c)
    · rw [Bool.or_eq_false_iff, decide_eq_false_iff_not, decide_eq_false_iff_not] at c
      refine ⟨_, rfl, F.a, C, _, _, _, rfl, ob, T.ci, T.n_threshold, fl_threshold .., ?_⟩
      obtain ⟨I1, fr1⟩ := I.setThr (t := t) (by omega) (by omega) ob
      refine ⟨_, rfl, _, rfl, F.a, C, dx, _, rfl, ob, T.ci, T.n_threshold, (by show 7 < 1000; decide), ?_⟩
      refine ⟨_, rfl, F, _, rfl, I1, fun H2 F2 e2 I2 fr2 _ => ?_⟩
      refine ⟨_, rfl, ?_⟩
      exact k.one e2 I2 (fr1.trans fr2) (ex_thr_ok (by omega) (by omega))
end
end Gt

namespace Gt
open PySem PySem.Spec PyProof.Rows L2
theorem val_seeds : ∀ (l : List (Nat × Nat)) (p : Nat), (valV (seedsV l) (Sum.inl (p : Int) : Key)).isSome = decide (p ∈ l.map (·.1))
  | [], p => rfl
  | x :: l, p => by
    by_cases c : x.1 = p
    · have e : valV (seedsV (x :: l)) (Sum.inl (p : Int) : Key) = some (tN x.2) := valV_pos (by show (Sum.inl (x.1 : Int) : Key) = _; rw [c])
      rw [e, decide_eq_true (by rw [List.map_cons, c]; exact List.mem_cons_self ..)]
      rfl
    · have ne : ¬ ((Sum.inl (x.1 : Int) : Key) = Sum.inl (p : Int)) := fun z => c (by injection z with z; exact Int.ofNat.inj z)
      have e : valV (seedsV (x :: l)) (Sum.inl (p : Int) : Key) = valV (seedsV l) (Sum.inl (p : Int) : Key) := by
        show ((((Sum.inl (x.1 : Int) : Key), tN x.2) :: seedsV l).find? fun kv => decide (kv.1 = (Sum.inl (p : Int) : Key))).map (·.2) = _
        rw [List.find?_cons, decide_eq_false ne]
        rfl
      rw [e, val_seeds l p]
      refine decide_eq_decide.mpr ?_
      rw [List.map_cons, List.mem_cons]
      exact ⟨.inr, fun z => z.resolve_left fun z => c z.symm⟩
theorem drop_seeds (l : List (Nat × Nat)) (p : Nat) : dropK (seedsV l) (Sum.inl (p : Int) : Key) = seedsV (l.filter fun z => z.1 != p) := by
  unfold dropK seedsV
  rw [List.filter_map]
  congr 1
  refine List.filter_congr fun x _ => ?_
  show decide ((Sum.inl (x.1 : Int) : Key) ≠ Sum.inl (p : Int)) = (x.1 != p)
  by_cases c : x.1 = p
  · rw [c]
    simp
  · have ne : (Sum.inl (x.1 : Int) : Key) ≠ Sum.inl (p : Int) := fun z => c (by injection z with z; exact Int.ofNat.inj z)
    rw [decide_eq_true ne]
    simp [c]
theorem nodup_le : ∀ {n : Nat} {l : List Nat}, l.Nodup → (∀ x ∈ l, x < n) → l.length ≤ n
  | 0, l, _, hl => by
    cases l with
    | nil => exact Nat.le_refl _
    | cons a r => exact absurd (hl a (List.mem_cons_self ..)) (Nat.not_lt_zero _)
  | n + 1, l, hn, hl => by
    have h := nodup_le (n := n) (l := l.erase n) (hn.erase n) fun x hx => by
      have h1 := (hn.mem_erase_iff.mp hx)
      have h2 := hl x h1.2
      omega
    rw [List.length_erase] at h
    split at h <;> omega
theorem seeds_36 {b : Krbp.Instance} (wf : WF b) : b.seeds.length ≤ 36 := by
  have h := nodup_le wf.sn fun x hx => by
    obtain ⟨y, hy, rfl⟩ := List.mem_map.mp hx
    exact (wf.so y hy).1
  rw [List.length_map] at h
  exact Nat.le_trans h (size_le wf)
theorem seeds_len (l : List (Nat × Nat)) : (seedsV l).length = l.length := List.length_map ..
section
variable {P : Program} {w : World} {K : PySem.W.Frag} {mg : Str → Option Value} {base : Heap} {C : Addr}
/-! ### add_seed -/
abbrev s_add_seed : Stmt := top 46
theorem sc_add_seed : FnScope ["instance", "x", "y", "kind", "position"] ["instance", "x", "y", "kind"] (defScope s_add_seed) := ⟨rfl, rfl, rfl, by decide +kernel, rfl, by decide +kernel, by decide +kernel⟩
abbrev p_add_seed : List Str := ["instance", "x", "y", "kind"]
def spAddSeed (C : Addr) : Sp := fun vs H Q _ => ∃ (F : Foot) (b : Krbp.Instance) (x y i : Nat), vs = [.ref F.a, tN x, tN y, tN i] ∧ InstAt C H F b ∧ After C H F (Krbp.execute (some b) (.addSeed x y i)) Q
theorem and_true {p q : Prop} [Decidable p] [Decidable q] (h : p ∧ q) : (decide p && decide q) = true := by rw [decide_eq_true h.1, decide_eq_true h.2]; rfl
theorem and_false {p q : Prop} [Decidable p] [Decidable q] (h : ¬ (p ∧ q)) : (decide p && decide q) = false := by
  rw [Bool.and_eq_false_iff, decide_eq_false_iff_not, decide_eq_false_iff_not]
  by_cases hp : p
  · exact .inr fun hq => h ⟨hp, hq⟩
  · exact .inl hp
theorem ok_add_seed (T : Txt K mg C) (D : Df K mg "add_seed" s_add_seed p_add_seed) (F_has_position : Fd P w K mg base "has_position" p_has_position 1 (spHasPos C)) (F_has_kind : Fd P w K mg base "has_kind" p_has_kind 1 (spHasKind C))
    (F_position_number : Fd P w K mg base "position_number" p_position_number 1 (spPosNum C)) (F_drop_attached : Fd P w K mg base "drop_attached" p_drop_attached 1 (spDrop C)) : Fd P w K mg base "add_seed" p_add_seed 2 (spAddSeed C) := by
  refine D.ok sc_add_seed (fun vs H Q E h => ?_) (fun f cdv A outer s H vs Q E hr h => ?_)
  · obtain ⟨F, b, x, y, i, rfl, _⟩ := h
    rfl
  · obtain ⟨F, b, x, y, i, rfl, I, k⟩ := h
    refine ⟨_, (pss_cons (ps_if (PW.pt (pw_or (pt_not (pt_val (pe_fn F_has_position (hr.mono (by decide)) rfl (pa_cons (pv 0) (pa_cons (pv 1) (pa_cons (pv 2) pa_nil)))))) (pw_or1 (pt_not (pt_val (pe_fn F_has_kind (hr.mono (by decide)) rfl (pa_cons (pv 0) (pa_cons (pv 3) pa_nil))))))))
      (pss_one (ps_ret (pe_lst (pa_cons (pe_gi rfl T.g_NO_SUCH) pa_nil))))
      pss_nil)
      (pss_cons (ps_set (i := 4) sc_add_seed.nd rfl (Or.inl rfl) (pe_fn F_position_number (hr.mono (by decide)) rfl (pa_cons (pv 0) (pa_cons (pv 1) (pa_cons (pv 2) pa_nil)))))
      (pss_cons (ps_if (pt_cmp (pc_din (hu_of hr) (pv 4) (pe_fld (pv 0) rfl)))
      (pss_one (ps_ret (pe_lst (pa_cons (pe_gi rfl T.g_OCCUPIED) pa_nil))))
      pss_nil)
      (pss_cons (ps_dput (hu_of hr) (pe_fld (pv 0) rfl) (pv 4) (pv 3) rfl)
      (pss_cons (ps_expr (pe_fn F_drop_attached (hr.mono (by decide)) rfl (pa_cons (pv 0) pa_nil)))
      (pss_one (ps_ret (pe_lst (pa_cons (pe_callB call_lenD (by rfl) T.b_len PySem.boot_len (pa_cons (pe_fld (pv 0) rfl) pa_nil)) pa_nil))))))))), ?_⟩
    obtain ⟨dx, ob⟩ := id I.ob
    refine ⟨_, rfl, _, rfl, _, rfl, F, b, x, y, rfl, I, _, rfl, ?_⟩
    by_cases hp : x < b.system.width ∧ y < b.system.height
    · rw [and_true hp]
      refine iteF ?_
      refine ⟨_, rfl, _, rfl, F, b, i, rfl, I, _, rfl, ?_⟩
      by_cases hi : i < b.system.tileTypes.length
      · rw [decide_eq_true hi]
        refine iteF ?_
        refine ⟨_, rfl, _, rfl, _, rfl, F, b, x, y, rfl, I, hp.2, ?_⟩
        have hs := seed_some (fun x hx => (I.wf.so x hx).1) (y * b.system.width + x)
        refine ⟨_, rfl, _, rfl, F.a, C, _, _, _, rfl, ob, T.ci, T.n_seeds, fl_seeds .., F.aD, _, rfl, DGet.k (k := Sum.inl ((y * b.system.width + x : Nat) : Int)) I.sd, _, rfl, ?_⟩
        rw [val_seeds, ← hs]
        refine ifB (fun c => ?_) (fun c => ?_)
        · exact k.err I (Same.refl _) (ex_seed_occ hp hi c)
        · have nm : y * b.system.width + x ∉ b.seeds.map (·.1) := by
            rw [hs] at c
            exact of_decide_eq_false c
          have vn : valV (seedsV b.seeds) (Sum.inl ((y * b.system.width + x : Nat) : Int) : Key) = none := by
            have := val_seeds b.seeds (y * b.system.width + x)
            rw [decide_eq_false nm] at this
            exact Option.isSome_eq_false_iff.mp this |> fun z => by simpa using z
          have s36 : b.seeds.length ≤ 36 := seeds_36 I.wf
          refine ⟨_, rfl, _, rfl, F.a, C, _, _, _, rfl, ob, T.ci, T.n_seeds, fl_seeds .., _, rfl, F.aD, _, rfl, DPut.k (k := Sum.inl ((y * b.system.width + x : Nat) : Int)) I.sd (small1000 (by rw [seeds_len]; omega)), ?_⟩
          have ep : putK (seedsV b.seeds) (Sum.inl ((y * b.system.width + x : Nat) : Int) : Key) (tN i) = seedsV (b.seeds ++ [(y * b.system.width + x, i)]) := by
            rw [putK_new _ vn]
            unfold seedsV
            rw [List.map_append]
            rfl
          rw [ep]
          obtain ⟨I1, fr1⟩ := I.setD (l := b.seeds ++ [(y * b.system.width + x, i)]) (by rw [List.map_append]; exact nd_snoc I.wf.sn nm) (fun z hz => by
            rcases List.mem_append.mp hz with z' | z'
            · exact I.wf.so z z'
            · rw [List.mem_singleton.mp z']
              exact ⟨pos_lt hp.1 hp.2, hi⟩)
          refine ⟨_, rfl, F, _, rfl, I1, fun H2 F2 e2 I2 fr2 _ => ?_⟩
          obtain ⟨a2, aS, aK, aD, aT, kk⟩ := F2
          have e2 : a2 = F.a := e2
          subst e2
          obtain ⟨dx2, ob2⟩ := id I2.ob
          refine ⟨_, rfl, F.a, C, _, _, _, rfl, ob2, T.ci, T.n_seeds, fl_seeds .., aD, _, rfl, I2.sd, ?_⟩
          have e : ((seedsV (b.seeds ++ [(y * b.system.width + x, i)])).length : Int) = ((b.seeds.length + 1 : Nat) : Int) := by
            rw [seeds_len, List.length_append]
            rfl
          exact k.one (F1 := ⟨F.a, aS, aK, aD, aT, kk⟩) rfl I2 (fr1.trans fr2) (by rw [e]; exact ex_seed_ok hp hi c)
      · rw [decide_eq_false hi]
        refine iteT ?_
        exact k.err I (Same.refl _) (ex_seed_kind hp hi)
    · rw [and_false hp]
      refine iteT ?_
      exact k.err I (Same.refl _) (ex_seed_pos hp)
/-! ### remove_seed -/
abbrev s_remove_seed : Stmt := top 47
theorem sc_remove_seed : FnScope ["instance", "x", "y", "position"] ["instance", "x", "y"] (defScope s_remove_seed) := ⟨rfl, rfl, rfl, by decide +kernel, rfl, by decide +kernel, by decide +kernel⟩
abbrev p_remove_seed : List Str := ["instance", "x", "y"]
def spRemSeed (C : Addr) : Sp := fun vs H Q _ => ∃ (F : Foot) (b : Krbp.Instance) (x y : Nat), vs = [.ref F.a, tN x, tN y] ∧ InstAt C H F b ∧ After C H F (Krbp.execute (some b) (.removeSeed x y)) Q
theorem ok_remove_seed (T : Txt K mg C) (D : Df K mg "remove_seed" s_remove_seed p_remove_seed) (F_has_position : Fd P w K mg base "has_position" p_has_position 1 (spHasPos C))
    (F_position_number : Fd P w K mg base "position_number" p_position_number 1 (spPosNum C)) (F_drop_attached : Fd P w K mg base "drop_attached" p_drop_attached 1 (spDrop C)) : Fd P w K mg base "remove_seed" p_remove_seed 2 (spRemSeed C) := by
  refine D.ok sc_remove_seed (fun vs H Q E h => ?_) (fun f cdv A outer s H vs Q E hr h => ?_)
  · obtain ⟨F, b, x, y, rfl, _⟩ := h
    rfl
  · obtain ⟨F, b, x, y, rfl, I, k⟩ := h
    refine ⟨_, (pss_cons (ps_if (pt_not (pt_val (pe_fn F_has_position (hr.mono (by decide)) rfl (pa_cons (pv 0) (pa_cons (pv 1) (pa_cons (pv 2) pa_nil))))))
      (pss_one (ps_ret (pe_lst (pa_cons (pe_gi rfl T.g_NO_SUCH) pa_nil))))
      pss_nil)
      (pss_cons (ps_set (i := 3) sc_remove_seed.nd rfl (Or.inl rfl) (pe_fn F_position_number (hr.mono (by decide)) rfl (pa_cons (pv 0) (pa_cons (pv 1) (pa_cons (pv 2) pa_nil)))))
      (pss_cons (ps_if (pt_cmp (pc_dnotin (hu_of hr) (pv 3) (pe_fld (pv 0) rfl)))
      (pss_one (ps_ret (pe_lst (pa_cons (pe_gi rfl T.g_NOT_THERE) pa_nil))))
      pss_nil)
      (pss_cons (ps_expr (pe_dpop1 (pe_fld (pv 0) rfl) (pv 3) ⟨rfl, rfl, rfl, rfl⟩))
      (pss_cons (ps_expr (pe_fn F_drop_attached (hr.mono (by decide)) rfl (pa_cons (pv 0) pa_nil)))
      (pss_one (ps_ret (pe_lst (pa_cons (pe_callB call_lenD (by rfl) T.b_len PySem.boot_len (pa_cons (pe_fld (pv 0) rfl) pa_nil)) pa_nil))))))))), ?_⟩
    obtain ⟨dx, ob⟩ := id I.ob
    refine ⟨_, rfl, _, rfl, _, rfl, F, b, x, y, rfl, I, _, rfl, ?_⟩
    by_cases hp : x < b.system.width ∧ y < b.system.height
    · rw [and_true hp]
      refine iteF ?_
      refine ⟨_, rfl, _, rfl, _, rfl, F, b, x, y, rfl, I, hp.2, ?_⟩
      have hs := seed_some (fun x hx => (I.wf.so x hx).1) (y * b.system.width + x)
      refine ⟨_, rfl, _, rfl, F.a, C, _, _, _, rfl, ob, T.ci, T.n_seeds, fl_seeds .., F.aD, _, rfl, DGet.k (k := Sum.inl ((y * b.system.width + x : Nat) : Int)) I.sd, _, rfl, ?_⟩
      rw [val_seeds, ← hs]
      cases c : (Krbp.tileAt b.seedGrid (y * b.system.width + x)).isSome with
      | false =>
        refine iteT ?_
        exact k.err I (Same.refl _) (ex_rem_no hp c)
      | true =>
        refine iteF ?_
        have nm : y * b.system.width + x ∈ b.seeds.map (·.1) := by
          rw [hs] at c
          exact of_decide_eq_true c
        obtain ⟨v, hv⟩ : ∃ v, valV (seedsV b.seeds) (Sum.inl ((y * b.system.width + x : Nat) : Int) : Key) = some v := by
          have := val_seeds b.seeds (y * b.system.width + x)
          rw [decide_eq_true nm] at this
          exact Option.isSome_iff_exists.mp this
        refine ⟨_, rfl, F.a, C, _, _, _, rfl, ob, T.ci, T.n_seeds, fl_seeds .., F.aD, rfl, .inl ⟨_, .inl I.sd⟩, _, rfl, _, Sum.inl ((y * b.system.width + x : Nat) : Int), v, I.sd, rfl, hv, ?_⟩
        rw [drop_seeds]
        obtain ⟨I1, fr1⟩ := I.setD (l := b.seeds.filter fun z => z.1 != y * b.system.width + x) (List.Nodup.sublist (List.filter_sublist.map _) I.wf.sn) (fun z hz => I.wf.so z (List.mem_filter.mp hz).1)
        refine ⟨_, rfl, F, _, rfl, I1, fun H2 F2 e2 I2 fr2 _ => ?_⟩
        obtain ⟨a2, aS, aK, aD, aT, kk⟩ := F2
        have e2 : a2 = F.a := e2
        subst e2
        obtain ⟨dx2, ob2⟩ := id I2.ob
        refine ⟨_, rfl, F.a, C, _, _, _, rfl, ob2, T.ci, T.n_seeds, fl_seeds .., aD, _, rfl, I2.sd, ?_⟩
        have e : ((seedsV (b.seeds.filter fun z => z.1 != y * b.system.width + x)).length : Int) = ((b.seeds.length - 1 : Nat) : Int) := by
          have := filter_len I.wf.sn nm
          rw [seeds_len]
          omega
        exact k.one (F1 := ⟨F.a, aS, aK, aD, aT, kk⟩) rfl I2 (fr1.trans fr2) (by rw [e]; exact ex_rem_ok hp c)
    · rw [and_false hp]
      refine iteT ?_
      exact k.err I (Same.refl _) (ex_rem_pos hp)
end
end Gt

namespace Gt
open PySem PySem.Spec PyProof.Rows L2
section
variable {P : Program} {w : World} {K : PySem.W.Frag} {mg : Str → Option Value} {base : Heap} {C : Addr}
/-! ### attach -/
abbrev s_attach : Stmt := top 48
theorem sc_attach : FnScope ["instance", "x", "y", "kind", "position", "grid", "strength"] ["instance", "x", "y", "kind"] (defScope s_attach) := ⟨rfl, rfl, rfl, by decide +kernel, rfl, by decide +kernel, by decide +kernel⟩
abbrev p_attach : List Str := ["instance", "x", "y", "kind"]
def spAttach (C : Addr) : Sp := fun vs H Q _ => ∃ (F : Foot) (b : Krbp.Instance) (x y i : Nat), vs = [.ref F.a, tN x, tN y, tN i] ∧ InstAt C H F b ∧ b.attached.length ≤ 100000 ∧ After C H F (Krbp.execute (some b) (.attach x y i)) Q
theorem szb {ts : List Addr} {n : Nat} (h : ts.length = n) (hn : n ≤ 100000) : (ts.map V.ref).length < sizeLine := by
  rw [List.length_map, h]
  exact Nat.lt_of_le_of_lt hn (by decide)
theorem ok_attach (T : Txt K mg C) (D : Df K mg "attach" s_attach p_attach) (F_has_position : Fd P w K mg base "has_position" p_has_position 1 (spHasPos C)) (F_has_kind : Fd P w K mg base "has_kind" p_has_kind 1 (spHasKind C))
    (F_position_number : Fd P w K mg base "position_number" p_position_number 1 (spPosNum C)) (F_current_grid : Fd P w K mg base "current_grid" p_current_grid 1 (spGrid C)) (F_binding_strength : Fd P w K mg base "binding_strength" p_binding_strength 2 (spBinding C)) :
    Fd P w K mg base "attach" p_attach 3 (spAttach C) := by
  refine D.ok sc_attach (fun vs H Q E h => ?_) (fun f cdv A outer s H vs Q E hr h => ?_)
  · obtain ⟨F, b, x, y, i, rfl, _⟩ := h
    rfl
  · obtain ⟨F, b, x, y, i, rfl, I, hl, k⟩ := h
    refine ⟨_, (pss_cons (ps_if (PW.pt (pw_or (pt_not (pt_val (pe_fn F_has_position (hr.mono (by decide)) rfl (pa_cons (pv 0) (pa_cons (pv 1) (pa_cons (pv 2) pa_nil)))))) (pw_or1 (pt_not (pt_val (pe_fn F_has_kind (hr.mono (by decide)) rfl (pa_cons (pv 0) (pa_cons (pv 3) pa_nil))))))))
      (pss_one (ps_ret (pe_lst (pa_cons (pe_gi rfl T.g_NO_SUCH) pa_nil))))
      pss_nil)
      (pss_cons (ps_set (i := 4) sc_attach.nd rfl (Or.inl rfl) (pe_fn F_position_number (hr.mono (by decide)) rfl (pa_cons (pv 0) (pa_cons (pv 1) (pa_cons (pv 2) pa_nil)))))
      (pss_cons (ps_set (i := 5) sc_attach.nd rfl (Or.inl rfl) (pe_fn F_current_grid (hr.mono (by decide)) rfl (pa_cons (pv 0) pa_nil)))
      (pss_cons (ps_if (pt_cmpR op_ne (pe_ix ix_list (pv 5) (pv 4) (fun _ _ => rfl)) (pe_gi rfl T.g_EMPTY) (nomark _))
      (pss_one (ps_ret (pe_lst (pa_cons (pe_gi rfl T.g_OCCUPIED) pa_nil))))
      pss_nil)
      (pss_cons (ps_set (i := 6) sc_attach.nd rfl (Or.inl rfl) (pe_fn F_binding_strength (hr.mono (by decide)) rfl (pa_cons (pv 0) (pa_cons (pv 5) (pa_cons (pv 4) (pa_cons (pv 3) pa_nil))))))
      (pss_cons (ps_if (pt_cmpR op_lt (pv 6) (pe_fld (pv 0) rfl) (nomark _))
      (pss_one (ps_ret (pe_lst (pa_cons (pe_gi rfl T.g_NOT_ATTACHABLE) pa_nil))))
      pss_nil)
      (pss_cons (ps_expr (pe_bm PySem.F.plainAttrs_list PySem.F.slot_list_append PySem.F.type_list_append mt_append (pe_fld (pv 0) rfl) (pa_cons (pe_tup (pa_cons (pv 4) (pa_cons (pv 3) pa_nil))) pa_nil)))
      (pss_one (ps_ret (pe_lst (pa_cons (pv 6) pa_nil))))))))))), ?_⟩
    obtain ⟨dx, ob⟩ := id I.ob
    refine ⟨_, rfl, _, rfl, _, rfl, F, b, x, y, rfl, I, _, rfl, ?_⟩
    by_cases hp : x < b.system.width ∧ y < b.system.height
    · rw [and_true hp]
      refine iteF ?_
      refine ⟨_, rfl, _, rfl, F, b, i, rfl, I, _, rfl, ?_⟩
      by_cases hi : i < b.system.tileTypes.length
      · rw [decide_eq_true hi]
        refine iteF ?_
        refine ⟨_, rfl, _, rfl, _, rfl, F, b, x, y, rfl, I, hp.2, ?_⟩
        refine ⟨_, rfl, F, b, rfl, I, fun H1 l1 s1 n1 h1 => ?_⟩
        have okg := grid_ok I.wf
        have hpl : y * b.system.width + x < b.system.size := pos_lt hp.1 hp.2
        refine ⟨_, rfl, _, rfl, l1, _, _, _, rfl, rfl, SqL.of h1, atI_nat (gV_get (by rw [okg.len]; exact hpl)), rfl, _, rfl, ?_⟩
        rw [enc_ne]
        cases c : (Krbp.tileAt b.grid (y * b.system.width + x)).isSome with
        | true =>
          refine iteT ?_
          exact k.err I s1 (ex_att_occ hp hi c)
        | false =>
          refine iteF ?_
          refine ⟨_, rfl, _, rfl, _, rfl, _, rfl, F, b, l1, b.grid, _, i, rfl, I.same s1, h1, okg, hpl, hi, fun H2 s2 => ?_⟩
          have s12 := s1.trans s2
          refine ⟨_, rfl, _, rfl, F.a, C, _, _, _, rfl, s12 _ _ ob, T.ci, T.n_threshold, fl_threshold .., _, _, rfl, rfl, _, rfl, ?_⟩
          rw [dlt]
          have hc : b.system.canAttach b.grid (y * b.system.width + x) i = decide (b.system.threshold ≤ b.system.bindingStrength b.grid (y * b.system.width + x) i) := by
            unfold Krbp.TileSystem.canAttach
            rw [← Option.not_isSome, c]
            rfl
          refine ifB (fun d => ?_) (fun d => ?_)
          · have d := of_decide_eq_true d
            refine k.err I s12 (ex_att_weak hp hi c ?_)
            rw [hc]
            exact decide_eq_false (by omega)
          · have d := of_decide_eq_false d
            obtain ⟨ts, ht, ta⟩ := id I.at_
            refine ⟨_, rfl, F.a, C, _, _, _, rfl, s12 _ _ ob, T.ci, T.n_attached, fl_attached .., .inl ⟨rfl, _, SqL.of (s12 _ _ ht)⟩, _, rfl, _, rfl, (by show 2 ≤ sizeLine; decide), fun t n => ?_⟩
            have s3 := s12.trans (Same.new (o := .tup [tN (y * b.system.width + x), tN i]) n)
            refine ⟨F.aT, _, _, rfl, rfl, s3 _ _ ht, szb ta.length hl, ?_⟩
            obtain ⟨I1, fr1⟩ := (I.same s3).setT (ts := ts ++ [t]) (l := b.attached ++ [(y * b.system.width + x, i)]) (All2.append (ta.mono fun _ _ r => s3 _ _ r) (.cons upd_same .nil)) (fun z hz => by
              rcases List.mem_append.mp hz with z' | z'
              · exact I.wf.ao z z'
              · rw [List.mem_singleton.mp z']
                exact ⟨hpl, hi⟩)
            rw [List.map_append] at I1 fr1
            refine ⟨_, rfl, ?_⟩
            exact k.one rfl I1 ((Frame.same s3).trans fr1) (ex_att_ok hp hi c (by rw [hc]; exact decide_eq_true (by omega)))
      · rw [decide_eq_false hi]
        refine iteT ?_
        exact k.err I (Same.refl _) (ex_att_kind hp hi)
    · rw [and_false hp]
      refine iteT ?_
      exact k.err I (Same.refl _) (ex_att_pos hp)
/-! ### undo_attach, clear_attached -/
abbrev s_undo_attach : Stmt := top 49
theorem sc_undo_attach : FnScope ["instance"] ["instance"] (defScope s_undo_attach) := ⟨rfl, rfl, rfl, by decide +kernel, rfl, by decide +kernel, by decide +kernel⟩
abbrev p_undo_attach : List Str := ["instance"]
def spUndo (C : Addr) : Sp := fun vs H Q _ => ∃ (F : Foot) (b : Krbp.Instance), vs = [.ref F.a] ∧ InstAt C H F b ∧ After C H F (Krbp.execute (some b) .undoAttach) Q
theorem ok_undo_attach (T : Txt K mg C) (D : Df K mg "undo_attach" s_undo_attach p_undo_attach) : Fd P w K mg base "undo_attach" p_undo_attach 1 (spUndo C) := by
  refine D.ok sc_undo_attach (fun vs H Q E h => ?_) (fun f cdv A outer s H vs Q E hr h => ?_)
  · obtain ⟨F, b, rfl, _⟩ := h
    rfl
  · obtain ⟨F, b, rfl, I, k⟩ := h
    refine ⟨_, (pss_cons (ps_if (pt_cmpR op_eq (pe_callB call_len_seq (by rfl) T.b_len PySem.boot_len (pa_cons (pe_fld (pv 0) rfl) pa_nil)) pe_int (nomark _))
      (pss_one (ps_ret (pe_lst (pa_cons (pe_gi rfl T.g_NOTHING_ATTACHED) pa_nil))))
      pss_nil)
      (pss_cons (ps_expr (pe_bm0 PySem.F.plainAttrs_list PySem.F.slot_list_pop PySem.F.type_list_pop mt_pop (pe_fld (pv 0) rfl)))
      (pss_one (ps_ret (pe_lst (pa_cons (pe_callB call_len_seq (by rfl) T.b_len PySem.boot_len (pa_cons (pe_fld (pv 0) rfl) pa_nil)) pa_nil)))))), ?_⟩
    obtain ⟨dx, ob⟩ := id I.ob
    obtain ⟨ts, ht, ta⟩ := id I.at_
    refine ⟨_, rfl, F.a, C, _, _, _, rfl, ob, T.ci, T.n_attached, fl_attached .., F.aT, _, rfl, .inl (SqL.of ht), rfl, _, rfl, ?_⟩
    rw [List.length_map, ta.length]
    by_cases c : b.attached = []
    · refine ifT (by rw [c]; rfl) ?_
      exact k.err I (Same.refl _) (ex_undo_no c)
    · have hpos : 0 < b.attached.length := List.length_pos_iff.mpr c
      refine ifF (decide_eq_false fun z => by injection z with z; omega) ?_
      have htl : 0 < ts.length := by rw [ta.length]; exact hpos
      have hlast : (ts.map V.ref)[(ts.map V.ref).length - 1]? = some (V.ref (ts[ts.length - 1]'(by omega))) := by
        rw [List.length_map, List.getElem?_map, List.getElem?_eq_getElem (show ts.length - 1 < ts.length by omega)]
        rfl
      refine ⟨_, rfl, F.a, C, _, _, _, rfl, ob, T.ci, T.n_attached, fl_attached .., .inl ⟨rfl, _, SqL.of ht⟩, F.aT, _, _, rfl, rfl, ht, hlast, ?_⟩
      obtain ⟨I1, fr1⟩ := I.setT (ts := ts.dropLast) (l := b.attached.dropLast) ta.dropLast (fun z hz => I.wf.ao z (List.dropLast_subset _ hz))
      rw [← List.map_dropLast]
      obtain ⟨dx1, ob1⟩ := id I1.ob
      obtain ⟨ts1, ht1, ta1⟩ := id I1.at_
      refine ⟨_, rfl, F.a, C, _, _, _, rfl, ob1, T.ci, T.n_attached, fl_attached .., F.aT, _, rfl, .inl (SqL.of ht1), ?_⟩
      have e : (((ts1.map V.ref).length : Nat) : Int) = ((b.attached.length - 1 : Nat) : Int) := by
        rw [List.length_map, ta1.length]
        show ((b.attached.dropLast.length : Nat) : Int) = _
        rw [List.length_dropLast]
      exact k.one rfl I1 fr1 (by rw [e]; exact ex_undo_ok c)
abbrev s_clear_attached : Stmt := top 50
theorem sc_clear_attached : FnScope ["instance", "removed"] ["instance"] (defScope s_clear_attached) := ⟨rfl, rfl, rfl, by decide +kernel, rfl, by decide +kernel, by decide +kernel⟩
abbrev p_clear_attached : List Str := ["instance"]
def spClear (C : Addr) : Sp := fun vs H Q _ => ∃ (F : Foot) (b : Krbp.Instance), vs = [.ref F.a] ∧ InstAt C H F b ∧ After C H F (Krbp.execute (some b) .clearAttached) Q
theorem ok_clear_attached (T : Txt K mg C) (D : Df K mg "clear_attached" s_clear_attached p_clear_attached) (F_drop_attached : Fd P w K mg base "drop_attached" p_drop_attached 1 (spDrop C)) :
    Fd P w K mg base "clear_attached" p_clear_attached 2 (spClear C) := by
  refine D.ok sc_clear_attached (fun vs H Q E h => ?_) (fun f cdv A outer s H vs Q E hr h => ?_)
  · obtain ⟨F, b, rfl, _⟩ := h
    rfl
  · obtain ⟨F, b, rfl, I, k⟩ := h
    refine ⟨_, (pss_cons (ps_set (i := 1) sc_clear_attached.nd rfl (Or.inl rfl) (pe_callB call_len_seq (by rfl) T.b_len PySem.boot_len (pa_cons (pe_fld (pv 0) rfl) pa_nil)))
      (pss_cons (ps_expr (pe_fn F_drop_attached (hr.mono (by decide)) rfl (pa_cons (pv 0) pa_nil)))
      (pss_one (ps_ret (pe_lst (pa_cons (pv 1) pa_nil)))))), ?_⟩
    obtain ⟨dx, ob⟩ := id I.ob
    obtain ⟨ts, ht, ta⟩ := id I.at_
    refine ⟨_, rfl, F.a, C, _, _, _, rfl, ob, T.ci, T.n_attached, fl_attached .., F.aT, _, rfl, .inl (SqL.of ht), ?_⟩
    refine ⟨_, rfl, F, b, rfl, I, fun H2 F2 e2 I2 fr2 _ => ?_⟩
    refine ⟨_, rfl, ?_⟩
    have e : (((ts.map V.ref).length : Nat) : Int) = (b.attached.length : Int) := by rw [List.length_map, ta.length]
    exact k.one e2 I2 fr2 (by rw [e]; exact ex_clear)
/-! ### grow, parallel_rounds -/
abbrev s_grow : Stmt := top 51
theorem sc_grow : FnScope ["instance", "attachments"] ["instance"] (defScope s_grow) := ⟨rfl, rfl, rfl, by decide +kernel, rfl, by decide +kernel, by decide +kernel⟩
abbrev p_grow : List Str := ["instance"]
def spGrow (C : Addr) : Sp := fun vs H Q _ => ∃ (F : Foot) (b : Krbp.Instance), vs = [.ref F.a] ∧ InstAt C H F b ∧ b.attached.length ≤ 100000 ∧ After C H F (Krbp.execute (some b) .grow) Q
theorem ok_grow (T : Txt K mg C) (D : Df K mg "grow" s_grow p_grow) (F_current_grid : Fd P w K mg base "current_grid" p_current_grid 1 (spGrid C)) (F_growth_steps : Fd P w K mg base "growth_steps" p_growth_steps 7 (spGrowth C)) :
    Fd P w K mg base "grow" p_grow 8 (spGrow C) := by
  refine D.ok sc_grow (fun vs H Q E h => ?_) (fun f cdv A outer s H vs Q E hr h => ?_)
  · obtain ⟨F, b, rfl, _⟩ := h
    rfl
  · obtain ⟨F, b, rfl, I, hl, k⟩ := h
    refine ⟨_, (pss_cons (ps_set (i := 1) sc_grow.nd rfl (Or.inl rfl) (pe_fn F_growth_steps (hr.mono (by decide)) rfl (pa_cons (pv 0) (pa_cons (pe_fn F_current_grid (hr.mono (by decide)) rfl (pa_cons (pv 0) pa_nil)) pa_nil))))
      (pss_cons (ps_expr (pe_bm PySem.F.plainAttrs_list PySem.F.slot_list_extend PySem.F.type_list_extend mt_extend (pe_fld (pv 0) rfl) (pa_cons (pv 1) pa_nil)))
      (pss_one (ps_ret (pe_lst (pa_cons (pe_callB call_len_seq (by rfl) T.b_len PySem.boot_len (pa_cons (pv 1) pa_nil)) pa_nil)))))), ?_⟩
    obtain ⟨dx, ob⟩ := id I.ob
    obtain ⟨ts, ht, ta⟩ := id I.at_
    refine ⟨_, rfl, _, rfl, F, b, rfl, I, fun H1 l1 s1 n1 h1 => ?_⟩
    refine ⟨F, b, l1, b.grid, rfl, I.same s1, h1, grid_ok I.wf, fun H2 l2 us s2 n2 h2 ua => ?_⟩
    have s12 := s1.trans s2
    have h36 := size_le I.wf
    have gl := growth_length (s := b.system) b.system.size b.grid
    refine ⟨_, rfl, F.a, C, _, _, _, rfl, s12 _ _ ob, T.ci, T.n_attached, fl_attached .., .inl ⟨rfl, _, SqL.of (s12 _ _ ht)⟩, _, rfl, F.aT, l2, _, _, rfl, rfl, s12 _ _ ht, h2, ?_, ?_⟩
    · rw [List.length_map, List.length_map, ta.length, ua.length]
      show _ ≤ 2 ^ 24
      omega
    obtain ⟨I1, fr1⟩ := (I.same s12).setT (ts := ts ++ us) (l := b.attached ++ b.system.growth b.system.size b.grid) (All2.append (ta.mono fun _ _ r => s12 _ _ r) ua) (fun z hz => by
      rcases List.mem_append.mp hz with z' | z'
      · exact I.wf.ao z z'
      · exact growth_ok _ _ z z')
    rw [List.map_append] at I1 fr1
    have n2' : l2 ≠ F.aT := (ne_of_none (s1 _ _ ht) n2).symm
    refine ⟨_, rfl, l2, _, rfl, .inl (SqL.of ((upd_ne n2').trans h2)), ?_⟩
    have e : (((us.map V.ref).length : Nat) : Int) = ((b.system.growth b.system.size b.grid).length : Int) := by rw [List.length_map, ua.length]
    exact k.one rfl I1 ((Frame.same s12).trans fr1) (by rw [e]; exact ex_grow)
abbrev s_parallel_rounds : Stmt := top 91
theorem sc_parallel_rounds : FnScope ["instance"] ["instance"] (defScope s_parallel_rounds) := ⟨rfl, rfl, rfl, by decide +kernel, rfl, by decide +kernel, by decide +kernel⟩
abbrev p_parallel_rounds : List Str := ["instance"]
def spPar (C : Addr) : Sp := fun vs H Q _ => ∃ (F : Foot) (b : Krbp.Instance), vs = [.ref F.a] ∧ InstAt C H F b ∧ After C H F (Krbp.execute (some b) .parallelRounds) Q
theorem ok_parallel_rounds (T : Txt K mg C) (D : Df K mg "parallel_rounds" s_parallel_rounds p_parallel_rounds) (F_current_grid : Fd P w K mg base "current_grid" p_current_grid 1 (spGrid C)) (F_count_rounds : Fd P w K mg base "count_rounds" p_count_rounds 6 (spRounds C)) :
    Fd P w K mg base "parallel_rounds" p_parallel_rounds 7 (spPar C) := by
  refine D.ok sc_parallel_rounds (fun vs H Q E h => ?_) (fun f cdv A outer s H vs Q E hr h => ?_)
  · obtain ⟨F, b, rfl, _⟩ := h
    rfl
  · obtain ⟨F, b, rfl, I, k⟩ := h
    refine ⟨_, (pss_one (ps_ret (pe_lst (pa_cons (pe_fn F_count_rounds (hr.mono (by decide)) rfl (pa_cons (pv 0) (pa_cons (pe_fn F_current_grid (hr.mono (by decide)) rfl (pa_cons (pv 0) pa_nil)) pa_nil))) pa_nil)))), ?_⟩
    refine ⟨_, rfl, _, rfl, F, b, rfl, I, fun H1 l1 s1 n1 h1 => ?_⟩
    refine ⟨F, b, l1, b.grid, rfl, I.same s1, h1, grid_ok I.wf, fun H2 s2 => ?_⟩
    exact k.err I (s1.trans s2) ex_rounds
end
end Gt

namespace Gt
open PySem PySem.Spec PyProof.Rows L2
/-! ### the classes -/
/-- a method as it stands -/
structure Me (K : PySem.W.Frag) (mg : Str → Option Value) (x : Str) (C : Addr) (qual : Str) (st : Stmt) (ps : List Str) : Prop where
  ex : ∃ (f : Addr) (fd : FuncData), Mk K C f ∧ mg x = some (.ref C) ∧ Fun K "__init__" qual st f fd ∧ Binds K fd ps []
theorem Me.ok {P : Program} {w : World} {K : PySem.W.Frag} {mg : Str → Option Value} {base : Heap} {x : Str} {C : Addr} {qual : Str} {st : Stmt} {N ps : List Str} {k : Nat} {sp : Sp} (M : Me K mg x C qual st ps) (S : FnScope N ps (defScope st)) (len : ∀ vs H Q E, sp vs H Q E → vs.length = ps.length)
    (hbody : ∀ (f : Addr) (cdv : Value) (A : Around) (outer : List Env) (s : Shared) (H : Hp) (vs : List V) (Q : VK) (E : XK), Room k (A.deeper (envOfC qual (defScope st) s.heap.objs.size f cdv)) → sp vs H Q E →
      ∃ t, PSs (cxOf CX0 P w K mg base N qual (defScope st) f cdv A outer s H E).nox (defBody st) t ∧ t { nx := fun _ H' => Q .non H', rt := Q } (start N vs) H) : MkC P w K mg base x C ps (k + 1) sp := by
  obtain ⟨f, fd, mk, hm, hF, hb⟩ := M.ex
  exact ⟨f, fd, mk, hm, hb, hF.ok S len (hbody f)⟩
section
variable {P : Program} {w : World} {K : PySem.W.Frag} {mg : Str → Option Value} {base : Heap} {C : Addr}
abbrev s_Instance_init : Stmt := inClass (top 3) 0
theorem sc_Instance_init : FnScope ["self", "width", "height", "threshold"] ["self", "width", "height", "threshold"] (defScope s_Instance_init) := ⟨rfl, rfl, rfl, by decide +kernel, rfl, by decide +kernel, by decide +kernel⟩
abbrev p_Instance_init : List Str := ["self", "width", "height", "threshold"]
def freshI (w h t : Nat) : Krbp.Instance := ⟨⟨w, h, t, List.replicate 9 1, []⟩, [], []⟩
def spInitI (C : Addr) : Sp := fun vs H Q _ => ∃ (p dx : Addr) (w h t : Nat), vs = [.ref p, tN w, tN h, tN t] ∧ H p = some (.ins C dx []) ∧ (1 ≤ w ∧ w ≤ 6 ∧ 1 ≤ h ∧ h ≤ 6 ∧ 1 ≤ t ∧ t ≤ 4) ∧
  ∀ (H' : Hp) (F : Foot), F.a = p → InstAt C H' F (freshI w h t) → (∀ c o, H c = some o → c ≠ p → H' c = some o) → (∀ c, F.own c → c = p ∨ H c = none) → Q .non H'
theorem put_end {n : Str} {y : V} : putF n y [] = [(n, y)] := rfl
theorem ok_Instance (T : Txt K mg C) (M : Me K mg "Instance" C "Instance.__init__" s_Instance_init p_Instance_init) : MkC P w K mg base "Instance" C p_Instance_init 1 (spInitI C) := by
  refine M.ok sc_Instance_init (fun vs H Q E h => ?_) (fun f cdv A outer s H vs Q E hr h => ?_)
  · obtain ⟨p, dx, w, h, t, rfl, _⟩ := h
    rfl
  · obtain ⟨p, dx, w, h, t, rfl, hp, bd, q⟩ := h
    refine ⟨_, (pss_cons (ps_fld (pv 0) (pv 1) rfl)
      (pss_cons (ps_fld (pv 0) (pv 2) rfl)
      (pss_cons (ps_fld (pv 0) (pv 3) rfl)
      (pss_cons (ps_fld (pv 0) (pe_op op_cat (pe_lst (pa_cons pe_int pa_nil)) (pe_op op_rep (pe_lst (pa_cons pe_int pa_nil)) (pe_gi rfl T.g_MOST_GLUE))) rfl)
      (pss_cons (ps_fld (pv 0) (pe_lst pa_nil) rfl)
      (pss_cons (ps_fld (pv 0) pe_dnewK rfl)
      (pss_one (ps_fld (pv 0) (pe_lst pa_nil) rfl)))))))), ?_⟩
    refine ⟨_, rfl, _, rfl, p, C, dx, _, rfl, hp, T.ci, T.n_width, (by show 0 < 1000; decide), ?_⟩
    refine ⟨_, rfl, _, rfl, p, C, dx, _, rfl, upd_same, T.ci, T.n_height, (by show 1 < 1000; decide), ?_⟩
    rw [put_end, put_past (by decide +kernel), put_end]
    refine ⟨_, rfl, _, rfl, p, C, dx, _, rfl, upd_same, T.ci, T.n_threshold, (by show 2 < 1000; decide), ?_⟩
    rw [put_past (by decide +kernel), put_past (by decide +kernel), put_end]
    have hp3 : ∀ o, (upd (upd (upd H p (.ins C dx [("width", tN w)])) p (.ins C dx [("width", tN w), ("height", tN h)])) p o) p = some o := fun o => upd_same
    have kp3 : ∀ c o, H c = some o → c ≠ p → (upd (upd (upd H p (.ins C dx [("width", tN w)])) p (.ins C dx [("width", tN w), ("height", tN h)])) p (.ins C dx [("width", tN w), ("height", tN h), ("threshold", tN t)])) c = some o := fun c o e hc => by rw [upd_ne hc, upd_ne hc, upd_ne hc]; exact e
    have hp3 := hp3 (.ins C dx [("width", tN w), ("height", tN h), ("threshold", tN t)])
    revert kp3 hp3
    generalize upd (upd (upd H p (.ins C dx [("width", tN w)])) p (.ins C dx [("width", tN w), ("height", tN h)])) p (.ins C dx [("width", tN w), ("height", tN h), ("threshold", tN t)]) = H3
    intro kp3 hp3
    have fr3 : ∀ {c : Addr}, H3 c = none → H c = none := fun {c} n => by
      cases e : H c with
      | none => rfl
      | some o =>
        by_cases z : c = p
        · rw [z, hp3] at n
          cases n
        · rw [kp3 c o e z] at n
          cases n
    refine ⟨(by show 1 ≤ sizeLine; decide), fun l0 n0 => ⟨(by show 1 ≤ sizeLine; decide), fun l1 n1 => ⟨l1, _, _, rfl, rfl, upd_same, by decide, by decide, (by show 1 * 9 ≤ sizeLine; decide), fun l2 n2 => ?_⟩⟩⟩
    have d02 : l0 ≠ l2 := ne_of_none ((upd_ne (ne_of_none upd_same n1)).trans upd_same) n2
    refine ⟨l0, l2, _, _, rfl, rfl, (upd_ne d02).trans ((upd_ne (ne_of_none upd_same n1)).trans upd_same), upd_same, (by show 10 ≤ sizeLine; decide), fun lS nS => ?_⟩
    have s0 : Same H3 _ := ((Same.new (o := .lst [V.int 0]) n0).trans (Same.new (o := .lst [V.int 1]) n1)).trans (Same.new (o := .lst (List.replicate (9 : Int).toNat [V.int 1]).flatten) n2)
    have nS3 : H3 lS = none := s0.free nS
    have s1 : Same H3 _ := s0.trans (Same.new (o := .lst ([V.int 0] ++ (List.replicate (9 : Int).toNat [V.int 1]).flatten)) nS)
    have hS : upd (upd (upd (upd H3 l0 (.lst [V.int 0])) l1 (.lst [V.int 1])) l2 (.lst (List.replicate (9 : Int).toNat [V.int 1]).flatten)) lS (.lst ([V.int 0] ++ (List.replicate (9 : Int).toNat [V.int 1]).flatten)) lS = some (.lst (nums (0 :: List.replicate 9 1))) := upd_same
    revert s1 hS
    generalize upd (upd (upd (upd H3 l0 (.lst [V.int 0])) l1 (.lst [V.int 1])) l2 (.lst (List.replicate (9 : Int).toNat [V.int 1]).flatten)) lS (.lst ([V.int 0] ++ (List.replicate (9 : Int).toNat [V.int 1]).flatten)) = H4
    intro s1 hS
    clear s0
    have dS : lS ≠ p := (ne_of_none hp3 nS3).symm
    refine ⟨_, rfl, p, C, dx, _, rfl, s1 _ _ hp3, T.ci, T.n_strengths, (by show 3 < 1000; decide), ?_⟩
    rw [put_past (by decide +kernel), put_past (by decide +kernel), put_past (by decide +kernel), put_end]
    -- kinds, seeds, attached
    refine ⟨Nat.zero_le _, fun lK nK => ?_⟩
    have dKp : lK ≠ p := (ne_of_none upd_same nK).symm
    have nK4 : H4 lK = none := by rw [upd_ne dKp] at nK; exact nK
    refine ⟨_, rfl, p, C, dx, _, rfl, (upd_ne dKp.symm).trans upd_same, T.ci, T.n_kinds, (by show 4 < 1000; decide), ?_⟩
    rw [put_past (by decide +kernel), put_past (by decide +kernel), put_past (by decide +kernel), put_past (by decide +kernel), put_end]
    intro lD nD
    have dDp : lD ≠ p := (ne_of_none upd_same nD).symm
    have dDK : lD ≠ lK := fun z => by
      rw [upd_ne dDp, z, upd_same] at nD
      cases nD
    have nD4 : H4 lD = none := by rw [upd_ne dDp, upd_ne dDK, upd_ne dDp] at nD; exact nD
    refine ⟨_, rfl, p, C, dx, _, rfl, (upd_ne dDp.symm).trans upd_same, T.ci, T.n_seeds, (by show 5 < 1000; decide), ?_⟩
    rw [put_past (by decide +kernel), put_past (by decide +kernel), put_past (by decide +kernel), put_past (by decide +kernel), put_past (by decide +kernel), put_end]
    refine ⟨Nat.zero_le _, fun lT nT => ?_⟩
    have dTp : lT ≠ p := (ne_of_none upd_same nT).symm
    have dTD : lT ≠ lD := fun z => by
      rw [upd_ne dTp, z, upd_same] at nT
      cases nT
    have dTK : lT ≠ lK := fun z => by
      rw [upd_ne dTp, upd_ne dTD, upd_ne dTp, z, upd_same] at nT
      cases nT
    have nT4 : H4 lT = none := by rw [upd_ne dTp, upd_ne dTD, upd_ne dTp, upd_ne dTK, upd_ne dTp] at nT; exact nT
    refine ⟨_, rfl, p, C, dx, _, rfl, (upd_ne dTp.symm).trans upd_same, T.ci, T.n_attached, (by show 6 < 1000; decide), ?_⟩
    rw [put_past (by decide +kernel), put_past (by decide +kernel), put_past (by decide +kernel), put_past (by decide +kernel), put_past (by decide +kernel), put_past (by decide +kernel), put_end]
    have dSK : lS ≠ lK := ne_of_none hS nK4
    have dSD : lS ≠ lD := ne_of_none hS nD4
    have dST : lS ≠ lT := ne_of_none hS nT4
    obtain ⟨b1, b2, b3, b4, b5, b6⟩ := bd
    refine q _ ⟨p, lS, lK, lD, lT, fun _ => False⟩ rfl ⟨⟨dx, upd_same⟩, ?_, ⟨[], ?_, .nil⟩, ?_, ⟨[], ?_, .nil⟩, dSK, dST, dTK.symm, ?_⟩ (fun c o e hc => ?_) (fun c hc => ?_)
    · show _ = some (HO.lst (nums (0 :: List.replicate 9 1)))
      rw [upd_ne dS, upd_ne dST, upd_ne dS, upd_ne dSD, upd_ne dS, upd_ne dSK, upd_ne dS]
      exact hS
    · show _ = some (HO.lst [])
      rw [upd_ne dKp, upd_ne dTK.symm, upd_ne dKp, upd_ne dDK.symm, upd_ne dKp, upd_same]
    · show _ = some (HO.dK [])
      rw [upd_ne dDp, upd_ne dTD.symm, upd_ne dDp, upd_same]
    · show _ = some (HO.lst [])
      rw [upd_ne dTp, upd_same]
    · refine ⟨b1, b2, b3, b4, b5, b6, rfl, fun x hx => ?_, Nat.zero_le _, (fun l hl => by cases hl), List.nodup_nil, (fun x hx => by cases hx), (fun x hx => by cases hx)⟩
      have hx : x ∈ List.replicate 9 1 := hx
      rw [List.eq_of_mem_replicate hx]
      decide
    · have e4 : H4 c = some o := s1 _ _ (kp3 c o e hc)
      rw [upd_ne hc, upd_ne (ne_of_none e4 nT4), upd_ne hc, upd_ne (ne_of_none e4 nD4), upd_ne hc, upd_ne (ne_of_none e4 nK4), upd_ne hc]
      exact e4
    · rcases hc with (z | z | z | z | z) | z
      · exact .inl z
      · have z : c = lS := z
        rw [z]; exact .inr (fr3 nS3)
      · have z : c = lK := z
        rw [z]; exact .inr (fr3 (s1.free nK4))
      · have z : c = lD := z
        rw [z]; exact .inr (fr3 (s1.free nD4))
      · have z : c = lT := z
        rw [z]; exact .inr (fr3 (s1.free nT4))
      · exact z.elim
/-! ### the session -/
structure TxtS (K : PySem.W.Frag) (mg : Str → Option Value) (CS : Addr) : Prop where
  cs : Cls K CS
  n_instance : NoAttr K CS "instance"
variable {CS : Addr}
abbrev s_Session_init : Stmt := inClass (top 4) 0
theorem sc_Session_init : FnScope ["self"] ["self"] (defScope s_Session_init) := ⟨rfl, rfl, rfl, by decide +kernel, rfl, by decide +kernel, by decide +kernel⟩
abbrev p_Session_init : List Str := ["self"]
def spInitS (CS : Addr) : Sp := fun vs H Q _ => ∃ (p dx : Addr), vs = [.ref p] ∧ H p = some (.ins CS dx []) ∧
  ∀ (H' : Hp), H' p = some (.ins CS dx [("instance", .non)]) → (∀ c o, H c = some o → c ≠ p → H' c = some o) → Q .non H'
theorem ok_Session (S : TxtS K mg CS) (M : Me K mg "Session" CS "Session.__init__" s_Session_init p_Session_init) : MkC P w K mg base "Session" CS p_Session_init 1 (spInitS CS) := by
  refine M.ok sc_Session_init (fun vs H Q E h => ?_) (fun f cdv A outer s H vs Q E hr h => ?_)
  · obtain ⟨p, dx, rfl, _⟩ := h
    rfl
  · obtain ⟨p, dx, rfl, hp, q⟩ := h
    refine ⟨_, (pss_one (ps_fld (pv 0) pe_non rfl)), ?_⟩
    refine ⟨_, rfl, p, CS, dx, _, rfl, hp, S.cs, S.n_instance, (by show 0 < 1000; decide), ?_⟩
    exact q _ upd_same fun c o e hc => (upd_ne hc).trans e
/-- a session and what it holds; the footprint of what may change -/
inductive SessAt (CS C : Addr) (H : Hp) (ss : Addr) : (Addr → Prop) → Krbp.State → Prop
  | no {dx : Addr} (h : H ss = some (.ins CS dx [("instance", .non)])) : SessAt CS C H ss (fun c => c = ss) none
  | yes {dx : Addr} {F : Foot} {b : Krbp.Instance} (h : H ss = some (.ins CS dx [("instance", .ref F.a)])) (I : InstAt C H F b) (hn : ¬ F.own ss) : SessAt CS C H ss (fun c => c = ss ∨ F.own c) (some b)
/-- all but the footprint stands, and a footprint's new addresses were free -/
structure FrameS (H : Hp) (f : Addr → Prop) (H' : Hp) (f' : Addr → Prop) : Prop where
  kp : ∀ c o, H c = some o → ¬ f c → H' c = some o
  nw : ∀ c, f' c → f c ∨ H c = none
  st : Stay H H'
def AfterS (CS C : Addr) (H : Hp) (ss : Addr) (f : Addr → Prop) (out : Krbp.State × Krbp.Result) (Q : VK) : Prop := ∀ (H' : Hp) (f' : Addr → Prop) (l : Addr),
  SessAt CS C H' ss f' out.1 → FrameS H f H' f' → H l = none → H' l = some (.lst ((encR out.2).map V.int)) → Q (.ref l) H'
theorem SessAt.same {H H' : Hp} {ss : Addr} {f : Addr → Prop} {st : Krbp.State} (h : SessAt CS C H ss f st) (s : Same H H') : SessAt CS C H' ss f st := by
  cases h with
  | no h => exact .no (s _ _ h)
  | yes h I hn => exact .yes (s _ _ h) (I.same s) hn
theorem FrameS.same {H H' : Hp} {f : Addr → Prop} (s : Same H H') : FrameS H f H' f := ⟨fun c o h _ => s c o h, fun _ h => .inl h, fun c o h => ⟨o, s c o h⟩⟩
/-- an error: the session as it was -/
theorem AfterS.err {H H1 : Hp} {ss : Addr} {f : Addr → Prop} {out : Krbp.State × Krbp.Result} {Q : VK} {st : Krbp.State} (k : AfterS CS C H ss f out Q) (S : SessAt CS C H ss f st) (s : Same H H1) {c : Int} (ho : out = (st, ⟨c, []⟩)) :
    ([V.int c].length ≤ sizeLine ∧ ∀ p, H1 p = none → Q (.ref p) (upd H1 p (.lst [V.int c]))) := by
  refine ⟨(by show 1 ≤ sizeLine; decide), fun p n => ?_⟩
  subst ho
  exact k _ f p (S.same (s.trans (Same.new n))) (FrameS.same (s.trans (Same.new n))) (s.free n) upd_same
abbrev s_create : Stmt := top 42
theorem sc_create : FnScope ["session", "width", "height", "threshold"] ["session", "width", "height", "threshold"] (defScope s_create) := ⟨rfl, rfl, rfl, by decide +kernel, rfl, by decide +kernel, by decide +kernel⟩
abbrev p_create : List Str := ["session", "width", "height", "threshold"]
def spCreate (CS C : Addr) : Sp := fun vs H Q _ => ∃ (ss : Addr) (f : Addr → Prop) (st : Krbp.State) (w h t : Nat), vs = [.ref ss, tN w, tN h, tN t] ∧ SessAt CS C H ss f st ∧ AfterS CS C H ss f (Krbp.execute st (.create w h t)) Q
theorem side_iff (w : Nat) : Krbp.isSide w = !(decide (w < 1) || decide (6 < w)) := by
  unfold Krbp.isSide Krbp.maxSide
  rw [Bool.not_or, ← decide_not, ← decide_not]
  congr 1 <;> exact decide_eq_decide.mpr (by omega)
theorem thr_iff (t : Nat) : Krbp.isThreshold t = !(decide (t < 1) || decide (4 < t)) := by
  unfold Krbp.isThreshold Krbp.maxThreshold
  rw [Bool.not_or, ← decide_not, ← decide_not]
  congr 1 <;> exact decide_eq_decide.mpr (by omega)
theorem ok_create (T : Txt K mg C) (S : TxtS K mg CS) (D : Df K mg "create" s_create p_create) (F_outside : Fd P w K mg base "outside" p_outside 1 spOutside) (M_Instance : MkC P w K mg base "Instance" C p_Instance_init 1 (spInitI C)) :
    Fd P w K mg base "create" p_create 3 (spCreate CS C) := by
  refine D.ok sc_create (fun vs H Q E h => ?_) (fun f cdv A outer s H vs Q E hr h => ?_)
  · obtain ⟨ss, f, st, w, h, t, rfl, _⟩ := h
    rfl
  · obtain ⟨ss, ft, st, w, h, t, rfl, Se, k⟩ := h
    refine ⟨_, (pss_cons (ps_if (PW.pt (pw_or (pt_val (pe_fn F_outside (hr.mono (by decide)) rfl (pa_cons (pv 1) (pa_cons pe_int (pa_cons (pe_gi rfl T.g_MOST_SIDE) pa_nil))))) (pw_or1 (pt_val (pe_fn F_outside (hr.mono (by decide)) rfl (pa_cons (pv 2) (pa_cons pe_int (pa_cons (pe_gi rfl T.g_MOST_SIDE) pa_nil))))))))
      (pss_one (ps_ret (pe_lst (pa_cons (pe_gi rfl T.g_OUT_OF_LIMITS) pa_nil))))
      pss_nil)
      (pss_cons (ps_if (pt_val (pe_fn F_outside (hr.mono (by decide)) rfl (pa_cons (pv 3) (pa_cons pe_int (pa_cons (pe_gi rfl T.g_MOST_THRESHOLD) pa_nil)))))
      (pss_one (ps_ret (pe_lst (pa_cons (pe_gi rfl T.g_OUT_OF_LIMITS) pa_nil))))
      pss_nil)
      (pss_cons (ps_fld (pv 0) (pe_mk M_Instance (hr.mono (by decide)) rfl (pa_cons (pv 1) (pa_cons (pv 2) (pa_cons (pv 3) pa_nil)))) rfl)
      (pss_one (ps_ret (pe_lst (pa_cons pe_int pa_nil))))))), ?_⟩
    refine ⟨_, rfl, w, 1, 6, rfl, _, rfl, ?_⟩
    have ew := side_iff w
    have eh := side_iff h
    have et := thr_iff t
    refine ifB (fun c => ?_) (fun c => ?_)
    · rw [c] at ew
      exact k.err Se (Same.refl _) (ex_create_bad (by rw [ew]; rfl))
    rw [c] at ew
    have c1 := Bool.or_eq_false_iff.mp c
    refine ⟨_, rfl, h, 1, 6, rfl, _, rfl, ?_⟩
    refine ifB (fun c => ?_) (fun c => ?_)
    · rw [c] at eh
      exact k.err Se (Same.refl _) (ex_create_bad (by rw [ew, eh]; rfl))
    rw [c] at eh
    have c2 := Bool.or_eq_false_iff.mp c
    refine ⟨_, rfl, t, 1, 4, rfl, _, rfl, ?_⟩
    refine ifB (fun c => ?_) (fun c => ?_)
    · rw [c] at et
      exact k.err Se (Same.refl _) (ex_create_bad (by rw [ew, eh, et]; rfl))
    rw [c] at et
    have c3 := Bool.or_eq_false_iff.mp c
    have ho : Krbp.execute st (.create w h t) = (some (freshI w h t), ⟨0, []⟩) := ex_create_ok (by rw [ew, eh, et]; rfl)
    have a1 := of_decide_eq_false c1.1
    have a2 := of_decide_eq_false c1.2
    have a3 := of_decide_eq_false c2.1
    have a4 := of_decide_eq_false c2.2
    have a5 := of_decide_eq_false c3.1
    have a6 := of_decide_eq_false c3.2
    refine ⟨_, rfl, _, rfl, _, rfl, fun x dx nx ndx ne => ?_⟩
    refine ⟨x, dx, w, h, t, rfl, upd_same, ⟨by omega, by omega, by omega, by omega, by omega, by omega⟩, fun H1 F1 e1 I1 kp1 nw1 => ⟨rfl, ?_⟩⟩
    have s1 : Same H H1 := Same.made nx ndx kp1
    have nS : ∃ dS v, H ss = some (.ins CS dS [("instance", v)]) := by
      cases Se with
      | no h => exact ⟨_, _, h⟩
      | yes h _ _ => exact ⟨_, _, h⟩
    obtain ⟨dS, v0, hS⟩ := nS
    refine ⟨_, rfl, ss, CS, dS, _, rfl, s1 _ _ hS, S.cs, S.n_instance, (by show 1 < 1000; decide), ?_⟩
    rw [put_here]
    have fss : ∀ c, F1.own c → H c = none := fun c hc => by
      rcases nw1 c hc with z | z
      · rw [z]; exact nx
      · cases e : H c with
        | none => rfl
        | some o =>
          rw [upd_ne (ne_of_none e nx), upd_ne (ne_of_none e ndx), e] at z
          cases z
    have hns : ¬ F1.own ss := fun z => by
      rw [fss ss z] at hS
      cases hS
    refine ⟨(by show 1 ≤ sizeLine; decide), fun p n => ?_⟩
    rw [ho] at k
    subst e1
    have I2 : InstAt C (upd H1 ss (.ins CS dS [("instance", V.ref F1.a)])) F1 (freshI w h t) := I1.upd_out hns (s1 _ _ hS) (by intro l z; cases z)
    refine k _ (fun c => c = ss ∨ F1.own c) p (.yes ((Same.new n) _ _ upd_same) (I2.same (Same.new n)) hns) ⟨fun c o e hf => ?_, fun c hc => ?_, ?_⟩ ?_ upd_same
    · have hcs : c ≠ ss := fun z => hf (by cases Se with | no h => exact z | yes h _ _ => exact .inl z)
      exact (Same.new n) _ _ ((upd_ne hcs).trans (s1 _ _ e))
    · rcases hc with z | z
      · refine .inl ?_
        cases Se with
        | no h => exact z
        | yes h _ _ => exact .inl z
      · exact .inr (fss c z)
    · refine Stay.upd (Stay.upd fun c o e => ⟨o, s1 _ _ e⟩)
    · exact (Stay.upd (fun c o e => ⟨o, s1 _ _ e⟩)).free n
end
end Gt

namespace Gt
open PySem PySem.Spec PyProof.Rows L2
section
variable {P : Program} {w : World} {K : PySem.W.Frag} {mg : Str → Option Value} {base : Heap} {C CS aG : Addr}
/-! ### given_begin, given_end -/
/-- the table of how many numbers are given -/
structure TxtG (K : PySem.W.Frag) (mg : Str → Option Value) (aG : Addr) : Prop where
  g_GIVEN : mg "GIVEN" = some (.ref aG)
  seq : ∀ H, SqT K H aG (nums gvL)
theorem head_lt {l : List Int} {n : Nat} {c : List (List Int)} (h : Head l n c) : ∃ p r, l = p :: r := by
  cases h <;> exact ⟨_, _, rfl⟩
theorem drop_get {l : List Int} {i : Nat} {p : Int} {r : List Int} (h : l.drop i = p :: r) : (l.map V.int)[i]? = some (.int p) := by
  rw [List.getElem?_map]
  have e := congrArg (fun z => z[0]?) h
  rw [List.getElem?_drop, Nat.add_zero] at e
  rw [e]
  rfl
theorem drop_get1 {l : List Int} {i : Nat} {p q : Int} {r : List Int} (h : l.drop i = p :: q :: r) : (l.map V.int)[i + 1]? = some (.int q) := by
  rw [List.getElem?_map]
  have e := congrArg (fun z => z[1]?) h
  rw [List.getElem?_drop] at e
  rw [e]
  rfl
abbrev s_given_begin : Stmt := top 75
theorem sc_given_begin : FnScope ["calls", "at"] ["calls", "at"] (defScope s_given_begin) := ⟨rfl, rfl, rfl, by decide +kernel, rfl, by decide +kernel, by decide +kernel⟩
abbrev p_given_begin : List Str := ["calls", "at"]
/-- where what is given begins -/
def skip (l : List Int) : Nat := if l.head? = some 1 then 2 else 1
def spBegin (K : PySem.W.Frag) : Sp := fun vs H Q _ => ∃ (ca : Addr) (ns : List Int) (i n : Nat) (c : List (List Int)), vs = [.ref ca, tN i] ∧ SqL K H ca (ns.map V.int) ∧ Head (ns.drop i) n c ∧ Q (tN (i + skip (ns.drop i))) H
theorem ok_given_begin (T : Txt K mg C) (D : Df K mg "given_begin" s_given_begin p_given_begin) : Fd P w K mg base "given_begin" p_given_begin 1 (spBegin K) := by
  refine D.ok sc_given_begin (fun vs H Q E h => ?_) (fun f cdv A outer s H vs Q E hr h => ?_)
  · obtain ⟨ca, ns, i, n, c, rfl, _⟩ := h
    rfl
  · obtain ⟨ca, ns, i, n, c, rfl, hS, hh, q⟩ := h
    refine ⟨_, (pss_cons (ps_if (pt_cmpR op_eq (pe_ix ix_list (pv 0) (pv 1) (fun _ _ => rfl)) (pe_gi rfl T.g_ADD_TILE_KIND) (nomark _))
      (pss_one (ps_ret (pe_op op_add (pv 1) pe_int)))
      pss_nil)
      (pss_one (ps_ret (pe_op op_add (pv 1) pe_int)))), ?_⟩
    obtain ⟨p, r, e⟩ := head_lt hh
    refine ⟨_, rfl, _, rfl, ca, _, _, _, rfl, rfl, hS, atI_nat (drop_get e), rfl, _, rfl, ?_⟩
    rw [e] at q
    by_cases c1 : p = 1
    · subst c1
      refine ifT rfl ?_
      exact ⟨_, rfl, _, _, rfl, rfl, q⟩
    · refine ifF (decide_eq_false fun z => c1 (by injection z)) ?_
      have es : skip (p :: r) = 1 := if_neg (by simp [c1])
      rw [es] at q
      exact ⟨_, rfl, _, _, rfl, rfl, q⟩
abbrev s_given_end : Stmt := top 76
theorem sc_given_end : FnScope ["calls", "at"] ["calls", "at"] (defScope s_given_end) := ⟨rfl, rfl, rfl, by decide +kernel, rfl, by decide +kernel, by decide +kernel⟩
abbrev p_given_end : List Str := ["calls", "at"]
def spEnd (K : PySem.W.Frag) : Sp := fun vs H Q _ => ∃ (ca : Addr) (ns : List Int) (i n : Nat) (c : List (List Int)), vs = [.ref ca, tN i] ∧ SqL K H ca (ns.map V.int) ∧ Head (ns.drop i) n c ∧ Q (tN (i + n)) H
theorem ok_given_end (T : Txt K mg C) (G : TxtG K mg aG) (D : Df K mg "given_end" s_given_end p_given_end) : Fd P w K mg base "given_end" p_given_end 1 (spEnd K) := by
  refine D.ok sc_given_end (fun vs H Q E h => ?_) (fun f cdv A outer s H vs Q E hr h => ?_)
  · obtain ⟨ca, ns, i, n, c, rfl, _⟩ := h
    rfl
  · obtain ⟨ca, ns, i, n, c, rfl, hS, hh, q⟩ := h
    refine ⟨_, (pss_cons (ps_if (pt_cmpR op_eq (pe_ix ix_list (pv 0) (pv 1) (fun _ _ => rfl)) (pe_gi rfl T.g_ADD_TILE_KIND) (nomark _))
      (pss_one (ps_ret (pe_op op_add (pe_op op_add (pv 1) pe_int) (pe_ix ix_list (pv 0) (pe_op op_add (pv 1) pe_int) (fun _ _ => rfl)))))
      pss_nil)
      (pss_one (ps_ret (pe_op op_add (pe_op op_add (pv 1) pe_int) (pe_ix ix_tup (pe_gr rfl G.g_GIVEN) (pe_ix ix_list (pv 0) (pv 1) (fun _ _ => rfl)) (fun _ _ => rfl)))))), ?_⟩
    generalize el : ns.drop i = l at hh
    cases hh with
    | row h0 hl =>
      rename_i m r
      refine ⟨_, rfl, _, rfl, ca, _, _, _, rfl, rfl, hS, atI_nat (drop_get el), rfl, _, rfl, ?_⟩
      refine ifT rfl ?_
      refine ⟨_, rfl, _, _, rfl, rfl, _, rfl, _, rfl, _, _, rfl, rfl, ca, _, _, _, rfl, rfl, hS, at_of (j := i + 1) rfl (drop_get1 el), _, _, rfl, rfl, ?_⟩
      exact qv (congrArg V.int (by omega)) q
    | nums hk h1 hl =>
      rename_i k r
      refine ⟨_, rfl, _, rfl, ca, _, _, _, rfl, rfl, hS, atI_nat (drop_get el), rfl, _, rfl, ?_⟩
      refine ifF (decide_eq_false fun z => h1 (by injection z with z; omega)) ?_
      refine ⟨_, rfl, _, _, rfl, rfl, _, rfl, _, rfl, ca, _, _, _, rfl, rfl, hS, atI_nat (drop_get el), aG, _, _, _, rfl, rfl, G.seq _, atI_nat (nums_get (by show k < 22; omega)), _, _, rfl, rfl, ?_⟩
      exact qv (congrArg V.int (by show ((i : Int) + 1) + (gvn k : Int) = ((i + (1 + gvn k) : Nat) : Int); omega)) q
end
end Gt

namespace Gt
open PySem PySem.Spec PyProof.Rows L2
section
variable {P : Program} {w : World} {K : PySem.W.Frag} {mg : Str → Option Value} {base : Heap} {C : Addr}

/-! ### rules within a comprehension: the kit's K by its name -/
theorem ix_listK {X : Cx} {K : PySem.W.Frag} (h : X.K = K) : IxR X (rIxL K) := h ▸ ix_list
def lenS (K : PySem.W.Frag) : List V → Hp → VK → Prop := fun xs H Q => ∃ (p : Addr) (ys : List V), xs = [.ref p] ∧ (SqL K H p ys ∨ SqT K H p ys) ∧ Q (.int ys.length) H
theorem call_len_seqK {X : Cx} {K : PySem.W.Frag} (h : X.K = K) : CallR X (.builtin "len") (lenS K) := by
  subst h
  exact call_len_seq
/-! ### grown_grid -/
abbrev s_grown_grid : Stmt := top 78
theorem sc_grown_grid : FnScope ["instance", "grid"] ["instance", "grid"] (defScope s_grown_grid) := ⟨rfl, rfl, rfl, by decide +kernel, rfl, by decide +kernel, by decide +kernel⟩
abbrev p_grown_grid : List Str := ["instance", "grid"]
def spGrown (C : Addr) : Sp := fun vs H Q _ => ∃ (F : Foot) (b : Krbp.Instance) (ga : Addr) (g : Krbp.Grid), vs = [.ref F.a, .ref ga] ∧ InstAt C H F b ∧ H ga = some (.lst (gV g)) ∧ GOk b.system g ∧
  ∀ (H' : Hp) (l : Addr), Same H H' → H l = none → H' l = some (.lst (gV (b.system.grown g))) → Q (.ref l) H'
theorem ok_grown_grid (T : Txt K mg C) (D : Df K mg "grown_grid" s_grown_grid p_grown_grid) (F_growth_steps : Fd P w K mg base "growth_steps" p_growth_steps 7 (spGrowth C)) (F_after_steps : Fd P w K mg base "after_steps" p_after_steps 1 spAfterSt) :
    Fd P w K mg base "grown_grid" p_grown_grid 8 (spGrown C) := by
  refine D.ok sc_grown_grid (fun vs H Q E h => ?_) (fun f cdv A outer s H vs Q E hr h => ?_)
  · obtain ⟨F, b, ga, g, rfl, _⟩ := h
    rfl
  · obtain ⟨F, b, ga, g, rfl, I, hg, ok, q⟩ := h
    refine ⟨_, (pss_one (ps_ret (pe_fn F_after_steps (hr.mono (by decide)) rfl (pa_cons (pv 1) (pa_cons (pe_fn F_growth_steps (hr.mono (by decide)) rfl (pa_cons (pv 0) (pa_cons (pv 1) pa_nil))) pa_nil))))), ?_⟩
    refine ⟨_, rfl, _, rfl, _, rfl, F, b, ga, g, rfl, I, hg, ok, fun H1 l1 ts s1 n1 h1 ta => ?_⟩
    exact ⟨ga, l1, g, ts, _, rfl, s1 _ _ hg, h1, ta, fun x hx => by rw [ok.len]; exact (growth_ok _ _ x hx).1, fun H2 l2 s2 n2 h2 => q H2 l2 (s1.trans s2) (s1.free n2) h2⟩

/-! ### choice_without -/
abbrev s_choice_without : Stmt := top 79
theorem sc_choice_without : FnScope ["grown", "position", "choice", "tile"] ["grown", "position"] (defScope s_choice_without) := ⟨rfl, rfl, rfl, by decide +kernel, rfl, by decide +kernel, by decide +kernel⟩
abbrev p_choice_without : List Str := ["grown", "position"]
def chG (gr : Krbp.Grid) (q : Nat) : List Nat := match Krbp.tileAt gr q with
  | none => []
  | some i => [i]
def spChoice : Sp := fun vs H Q _ => ∃ (ra : Addr) (gr : Krbp.Grid) (p : Nat), vs = [.ref ra, tN p] ∧ H ra = some (.lst (gV gr)) ∧ p < gr.length ∧ gr.length ≤ 36 ∧
  ∀ (H' : Hp) (l : Addr), Same H H' → H l = none → ChAt H' l (chTo gr p) gr.length → Q (.ref l) H'
theorem yesT {σ : L2.St} {H : Hp} {A B : Hp → Prop} (a : A H) : tYes σ H (fun b H3 => if b = true then A H3 else B H3) := a
theorem ch_more {H H' : Hp} {D t : Addr} {cs : List Addr} {f : Nat → List Nat} {xs : List V} {i : Nat} (s' : Same H H') (nD : H D = none) (hD : H' D = some (.lst (cs.map V.ref))) (hl : cs.length = i)
    (hc : ∀ (q : Nat) (a : Addr), cs[q]? = some a → a ≠ D ∧ H' a = some (.lst (nums (f q)))) (nt : H' t = none) (hv : xs = nums (f i)) :
    let H2 := upd (upd H' t (.lst xs)) D (.lst (cs.map V.ref ++ [V.ref t]))
    Same H H2 ∧ ∃ cs' : List Addr, H2 D = some (.lst (cs'.map V.ref)) ∧ cs'.length = i + 1 ∧ ∀ (q : Nat) (a : Addr), cs'[q]? = some a → a ≠ D ∧ H2 a = some (.lst (nums (f q))) := by
  subst hv
  have dt : t ≠ D := (ne_of_none hD nt).symm
  refine ⟨Same.mut (s'.trans (Same.new nt)) nD, cs ++ [t], by rw [upd_same, List.map_append]; rfl, by rw [List.length_append, hl]; rfl, fun q a e => ?_⟩
  by_cases c : q < cs.length
  · rw [List.getElem?_append_left c] at e
    obtain ⟨h1, h2⟩ := hc q a e
    exact ⟨h1, by rw [upd_ne h1, upd_ne (ne_of_none h2 nt)]; exact h2⟩
  · have e0 := (List.getElem?_eq_some_iff.mp e).1
    rw [List.length_append, List.length_singleton] at e0
    have e1 : q = cs.length := by omega
    rw [e1, List.getElem?_append_right (Nat.le_refl _), Nat.sub_self] at e
    have e2 : t = a := by simpa using e
    subst e2
    refine ⟨dt, ?_⟩
    rw [upd_ne dt, upd_same, e1, hl]
theorem ok_choice_without (T : Txt K mg C) (D : Df K mg "choice_without" s_choice_without p_choice_without) : Fd P w K mg base "choice_without" p_choice_without 1 spChoice := by
  refine D.ok sc_choice_without (fun vs H Q E h => ?_) (fun f cdv A outer s H vs Q E hr h => ?_)
  · obtain ⟨ra, gr, p, rfl, _⟩ := h
    rfl
  · obtain ⟨ra, gr, p, rfl, hra, hp, h36, q⟩ := h
    refine ⟨_, (pss_cons (ps_setLc (i := 2) (own := [("tile", 3)]) (g := gName 3) rfl sc_choice_without.nd rfl rfl (sw_true rfl rfl rfl (by decide +kernel)) (pi_list (pv 0)) (blkOk_by (own := [("tile", 3)]) (N := ["grown", "position", "choice", "tile"]) (sc := defScope s_choice_without) (by decide +kernel)) (fun _ _ _ _ _ => (pg_name (i := 3) sc_choice_without.nd rfl (Or.inl rfl))) (fun _ _ _ _ _ => pts_nil) (fun _ _ _ _ _ => (pe_ifExp (pt_cmpR op_eq (pv 3) (pe_gi rfl T.g_EMPTY) (nomark _)) (pe_lst pa_nil) (pe_lst (pa_cons (pe_op op_sub (pv 3) pe_int) pa_nil)))))
      (pss_cons (ps_asg (pe_lst pa_nil) (pg_sub (pv 2) (pv 1) set_list))
      (pss_one (ps_ret (pv 2))))), ?_⟩
    refine ⟨_, rfl, ra, rfl, ⟨_, SqL.of hra⟩, fun D nD => lc_list (K := K) (a := ra) (xs := gV gr) (fun i H' => Same H H' ∧ ∃ cs : List Addr, H' D = some (.lst (cs.map V.ref)) ∧ cs.length = i ∧ ∀ (q : Nat) (a : Addr), cs[q]? = some a → a ≠ D ∧ H' a = some (.lst (nums (chG gr q))))
      ⟨Same.new nD, [], upd_same, rfl, fun q a e => by simp at e⟩ (fun i H' _ ⟨s', _⟩ => SqL.of (s' _ _ hra)) ?_ ?_⟩
    · rintro i x H' hi ⟨s', cs, hD, hl, hc⟩
      have hi' : i < gr.length := by
        have := (List.getElem?_eq_some_iff.mp hi).1
        rw [gV_length] at this
        exact this
      rw [gV_get hi'] at hi
      cases hi
      have sz : cs.length ≤ 100 := by omega
      refine ⟨rfl, ?_⟩
      refine yesT ?_
      refine ⟨_, rfl, rfl, _, rfl, ?_⟩
      cases e : Krbp.tileAt gr i with
      | none =>
        refine ifT rfl ?_
        refine ⟨Nat.zero_le _, fun t nt => ?_⟩
        have dt : t ≠ D := (ne_of_none hD nt).symm
        exact ⟨_, (upd_ne dt.symm).trans hD, sz4 rfl sz, ch_more (f := chG gr) s' nD hD hl hc nt (by unfold chG; rw [e]; rfl)⟩
      | some k =>
        refine ifF (by simp [encT]; omega) ?_
        refine ⟨_, rfl, _, _, rfl, rfl, (by show 1 ≤ sizeLine; decide), fun t nt => ?_⟩
        have dt : t ≠ D := (ne_of_none hD nt).symm
        exact ⟨_, (upd_ne dt.symm).trans hD, sz4 rfl sz, ch_more (f := chG gr) s' nD hD hl hc nt (by
          unfold chG
          rw [e]
          show [V.int (((k : Int) + 1) - 1)] = [V.int (k : Int)]
          rw [show ((k : Int) + 1) - 1 = (k : Int) by omega])⟩
    · rintro H1 ⟨s1, cs, hD, hl, hc⟩
      rw [gV_length] at hl
      refine ⟨Nat.zero_le _, fun e0 n0 => ?_⟩
      have d0 : e0 ≠ D := (ne_of_none hD n0).symm
      refine ⟨_, rfl, _, rfl, D, _, _, p, rfl, rfl, (upd_ne d0.symm).trans hD, ixn (by rw [List.length_map, hl]; exact hp), ?_⟩
      refine ⟨_, rfl, q _ D (Same.mut (s1.trans (Same.new n0)) nD) nD ⟨cs.set p e0, by rw [upd_same, List.map_set], by rw [List.length_set]; exact hl, fun r a e => ?_⟩⟩
      by_cases c : r = p
      · subst c
        rw [List.getElem?_set_self (by rw [hl]; exact hp)] at e
        cases e
        rw [upd_ne d0, upd_same]
        unfold chTo
        rw [if_pos rfl]
        rfl
      · rw [List.getElem?_set_ne (fun z => c z.symm)] at e
        obtain ⟨h1, h2⟩ := hc r a e
        rw [upd_ne h1, upd_ne (ne_of_none h2 n0), h2]
        unfold chTo
        rw [if_neg c]
        rfl

/-! ### steps_without, part_without -/
abbrev s_steps_without : Stmt := top 80
theorem sc_steps_without : FnScope ["instance", "grid", "grown", "position"] ["instance", "grid", "grown", "position"] (defScope s_steps_without) := ⟨rfl, rfl, rfl, by decide +kernel, rfl, by decide +kernel, by decide +kernel⟩
abbrev p_steps_without : List Str := ["instance", "grid", "grown", "position"]
/-- the four that these defs are given: the instance, the grid, the grown grid, a place -/
def WoAt (C : Addr) (H : Hp) (F : Foot) (b : Krbp.Instance) (ga ra : Addr) (g : Krbp.Grid) : Prop := InstAt C H F b ∧ H ga = some (.lst (gV g)) ∧ GOk b.system g ∧ H ra = some (.lst (gV (b.system.grown g)))
theorem WoAt.same {H H' : Hp} {F : Foot} {b : Krbp.Instance} {ga ra : Addr} {g : Krbp.Grid} (h : WoAt C H F b ga ra g) (s : Same H H') : WoAt C H' F b ga ra g := ⟨h.1.same s, s _ _ h.2.1, h.2.2.1, s _ _ h.2.2.2⟩
def spSteps (C : Addr) : Sp := fun vs H Q _ => ∃ (F : Foot) (b : Krbp.Instance) (ga ra : Addr) (g : Krbp.Grid) (p : Nat), vs = [.ref F.a, .ref ga, .ref ra, tN p] ∧ WoAt C H F b ga ra g ∧ p < b.system.size ∧
  ∀ (H' : Hp) (l : Addr) (ts : List Addr), Same H H' → H l = none → H' l = some (.lst (ts.map V.ref)) → All2 (PairAt H') ts (Krbq.growthWithin b.system (b.system.grown g) p b.system.size g) → Q (.ref l) H'
theorem ok_steps_without (T : Txt K mg C) (D : Df K mg "steps_without" s_steps_without p_steps_without) (F_chosen_steps : Fd P w K mg base "chosen_steps" p_chosen_steps 6 (spChosen C)) (F_choice_without : Fd P w K mg base "choice_without" p_choice_without 1 spChoice) :
    Fd P w K mg base "steps_without" p_steps_without 7 (spSteps C) := by
  refine D.ok sc_steps_without (fun vs H Q E h => ?_) (fun f cdv A outer s H vs Q E hr h => ?_)
  · obtain ⟨F, b, ga, ra, g, p, rfl, _⟩ := h
    rfl
  · obtain ⟨F, b, ga, ra, g, p, rfl, ⟨I, hg, ok, hra⟩, hp, q⟩ := h
    refine ⟨_, (pss_one (ps_ret (pe_fn F_chosen_steps (hr.mono (by decide)) rfl (pa_cons (pv 0) (pa_cons (pv 1) (pa_cons (pe_fn F_choice_without (hr.mono (by decide)) rfl (pa_cons (pv 2) (pa_cons (pv 3) pa_nil))) pa_nil)))))), ?_⟩
    have okr := ok.grown
    refine ⟨_, rfl, _, rfl, _, rfl, _, rfl, ra, _, p, rfl, hra, by rw [okr.len]; exact hp, by rw [okr.len]; exact size_le I.wf, fun H1 l1 s1 n1 c1 => ?_⟩
    rw [okr.len] at c1
    refine ⟨F, b, ga, g, l1, _, rfl, I.same s1, s1 _ _ hg, ok, c1, chTo_ok okr p, fun H2 l2 ts s2 n2 h2 ta => ?_⟩
    rw [grow_to] at ta
    exact q H2 l2 ts (s1.trans s2) (s1.free n2) h2 ta
abbrev s_part_without : Stmt := top 81
theorem sc_part_without : FnScope ["instance", "grid", "grown", "position"] ["instance", "grid", "grown", "position"] (defScope s_part_without) := ⟨rfl, rfl, rfl, by decide +kernel, rfl, by decide +kernel, by decide +kernel⟩
abbrev p_part_without : List Str := ["instance", "grid", "grown", "position"]
def spPart (C : Addr) : Sp := fun vs H Q _ => ∃ (F : Foot) (b : Krbp.Instance) (ga ra : Addr) (g : Krbp.Grid) (p : Nat), vs = [.ref F.a, .ref ga, .ref ra, tN p] ∧ WoAt C H F b ga ra g ∧ p < b.system.size ∧
  ∀ (H' : Hp) (l : Addr), Same H H' → H l = none → H' l = some (.lst (gV (Krbq.gridWithout b.system g p))) → Q (.ref l) H'
theorem ok_part_without (T : Txt K mg C) (D : Df K mg "part_without" s_part_without p_part_without) (F_steps_without : Fd P w K mg base "steps_without" p_steps_without 7 (spSteps C)) (F_after_steps : Fd P w K mg base "after_steps" p_after_steps 1 spAfterSt) :
    Fd P w K mg base "part_without" p_part_without 8 (spPart C) := by
  refine D.ok sc_part_without (fun vs H Q E h => ?_) (fun f cdv A outer s H vs Q E hr h => ?_)
  · obtain ⟨F, b, ga, ra, g, p, rfl, _⟩ := h
    rfl
  · obtain ⟨F, b, ga, ra, g, p, rfl, W, hp, q⟩ := h
    refine ⟨_, (pss_one (ps_ret (pe_fn F_after_steps (hr.mono (by decide)) rfl (pa_cons (pv 1) (pa_cons (pe_fn F_steps_without (hr.mono (by decide)) rfl (pa_cons (pv 0) (pa_cons (pv 1) (pa_cons (pv 2) (pa_cons (pv 3) pa_nil))))) pa_nil))))), ?_⟩
    refine ⟨_, rfl, _, rfl, _, rfl, _, rfl, _, rfl, F, b, ga, ra, g, p, rfl, W, hp, fun H1 l1 ts s1 n1 h1 ta => ?_⟩
    exact ⟨ga, l1, g, ts, _, rfl, s1 _ _ W.2.1, h1, ta, fun x hx => by rw [W.2.2.1.len]; exact (within_ok W.2.2.1.grown _ _ x hx).1, fun H2 l2 s2 n2 h2 => q H2 l2 (s1.trans s2) (s1.free n2) h2⟩
end
end Gt

namespace Gt
open PySem PySem.Spec PyProof.Rows L2
section
variable {P : Program} {w : World} {K : PySem.W.Frag} {mg : Str → Option Value} {base : Heap} {C : Addr}

/-! ### alternatives_at -/
abbrev s_alternatives_at : Stmt := top 82
theorem sc_alternatives_at : FnScope ["instance", "grid", "grown", "position", "part", "others", "kind"] ["instance", "grid", "grown", "position"] (defScope s_alternatives_at) := ⟨rfl, rfl, rfl, by decide +kernel, rfl, by decide +kernel, by decide +kernel⟩
abbrev p_alternatives_at : List Str := ["instance", "grid", "grown", "position"]
def spAlts (C : Addr) : Sp := fun vs H Q _ => ∃ (F : Foot) (b : Krbp.Instance) (ga ra : Addr) (g : Krbp.Grid) (p : Nat), vs = [.ref F.a, .ref ga, .ref ra, tN p] ∧ WoAt C H F b ga ra g ∧ p < b.system.size ∧
  ∀ (H' : Hp) (l : Addr) (ts : List Addr), Same H H' → H l = none → H' l = some (.lst (ts.map V.ref)) → All2 (PairAt H') ts (altAt b.system g p) → Q (.ref l) H'
theorem enc_ne2 (t : Option Nat) (i : Nat) : (!decide (V.int (encT t) = V.int ((i : Int) + 1))) = (t != some i) := by
  cases t with
  | none =>
    have : ¬ (V.int (encT none) = V.int ((i : Int) + 1)) := fun z => by
      injection z with z
      have z : (0 : Int) = (i : Int) + 1 := z
      omega
    rw [decide_eq_false this]
    rfl
  | some k =>
    by_cases c : k = i
    · subst c
      have : V.int (encT (some k)) = V.int ((k : Int) + 1) := rfl
      rw [decide_eq_true this]
      simp
    · have : ¬ (V.int (encT (some k)) = V.int ((i : Int) + 1)) := fun z => by
        injection z with z
        have z : (k : Int) + 1 = (i : Int) + 1 := z
        omega
      rw [decide_eq_false this]
      simp [c]
theorem nums_app (l : List Nat) (n : Nat) : nums l ++ [tN n] = nums (l ++ [n]) := by
  unfold nums
  rw [List.map_append]
  rfl
theorem szn {l : List Nat} (h : l.length ≤ 100000) : (nums l).length < sizeLine := by
  rw [nums_length]
  exact Nat.lt_of_le_of_lt h (by decide)
/-- a new pair at the end of a list of pairs that is being made -/
theorem pair_more {H H1 : Hp} {D t : Addr} {ts : List Addr} {L : List (Nat × Nat)} {x : Nat × Nat} (s : Same H H1) (nD : H D = none) (hD : H1 D = some (.lst (ts.map V.ref))) (ta : All2 (PairAt H1) ts L) (nt : H1 t = none) :
    let H2 := upd (upd H1 t (.tup [tN x.1, tN x.2])) D (.lst (ts.map V.ref ++ [V.ref t]))
    Same H H2 ∧ ∃ ts' : List Addr, H2 D = some (.lst (ts'.map V.ref)) ∧ All2 (PairAt H2) ts' (L ++ [x]) := by
  have dt : t ≠ D := (ne_of_none hD nt).symm
  refine ⟨Same.mut (s.trans (Same.new nt)) nD, ts ++ [t], by rw [upd_same, List.map_append]; rfl, All2.append (ta.mono fun a y r => ?_) (.cons ?_ .nil)⟩
  · have e : a ≠ D := ne_of r hD (by intro z; cases z)
    show _ = _
    rw [upd_ne e, upd_ne (ne_of_none r nt)]
    exact r
  · show _ = _
    rw [upd_ne dt, upd_same]
theorem ok_alternatives_at (T : Txt K mg C) (D : Df K mg "alternatives_at" s_alternatives_at p_alternatives_at) (F_part_without : Fd P w K mg base "part_without" p_part_without 8 (spPart C)) (F_is_attachable : Fd P w K mg base "is_attachable" p_is_attachable 3 (spAtt C)) :
    Fd P w K mg base "alternatives_at" p_alternatives_at 9 (spAlts C) := by
  refine D.ok sc_alternatives_at (fun vs H Q E h => ?_) (fun f cdv A outer s H vs Q E hr h => ?_)
  · obtain ⟨F, b, ga, ra, g, p, rfl, _⟩ := h
    rfl
  · obtain ⟨F, b, ga, ra, g, p, rfl, W, hp, q⟩ := h
    refine ⟨_, (pss_cons (ps_set (i := 4) sc_alternatives_at.nd rfl (Or.inr rfl) (pe_fn F_part_without (hr.mono (by decide)) rfl (pa_cons (pv 0) (pa_cons (pv 1) (pa_cons (pv 2) (pa_cons (pv 3) pa_nil))))))
      (pss_cons (ps_setLc (i := 5) (own := [("kind", 6)]) (g := gName 6) rfl sc_alternatives_at.nd rfl rfl (sw_true rfl rfl rfl (by decide +kernel)) (pi_range1 rfl T.b_range (pa_cons (pe_callB call_len_seq (by rfl) T.b_len PySem.boot_len (pa_cons (pe_fld (pv 0) rfl) pa_nil)) pa_nil)) (blkOk_by (own := [("kind", 6)]) (N := ["instance", "grid", "grown", "position", "part", "others", "kind"]) (sc := defScope s_alternatives_at) (by decide +kernel)) (fun _ _ _ _ _ => (pg_name (i := 6) sc_alternatives_at.nd rfl (Or.inl rfl))) (fun _ _ _ _ _ => (pts_one (pt_cmpR op_ne (pe_ix (ix_listK (K := K) rfl) (pv 2) (pv 3) (fun _ _ => rfl)) (pe_op op_add (pv 6) pe_int) (nomark _)))) (fun _ _ _ _ _ => (pv 6)))
      (pss_one (ps_ret (pe_lc (own := [("kind", 6)]) (g := gName 6) rfl sc_alternatives_at.nd (pi_list (pv 5)) (blkOk_by (own := [("kind", 6)]) (N := ["instance", "grid", "grown", "position", "part", "others", "kind"]) (sc := defScope s_alternatives_at) (by decide +kernel)) (fun _ _ _ _ _ => (pg_name (i := 6) sc_alternatives_at.nd rfl (Or.inl rfl))) (fun _ _ _ _ _ => (pts_one (pt_val (pe_fn F_is_attachable (hr.mono (by decide)) rfl (pa_cons (pv 0) (pa_cons (pv 4) (pa_cons (pv 3) (pa_cons (pv 6) pa_nil)))))))) (fun _ _ _ _ _ => (pe_tup (pa_cons (pv 3) (pa_cons (pv 6) pa_nil))))))))), ?_⟩
    have kl := W.1.wf.kl
    have okr := W.2.2.1.grown
    have okw := W.2.2.1.without p
    refine ⟨_, rfl, _, rfl, _, rfl, _, rfl, F, b, ga, ra, g, p, rfl, W, hp, fun H1 l4 s1 n1 h4 => ?_⟩
    have W1 := W.same s1
    obtain ⟨dx, ob⟩ := id W1.1.ob
    obtain ⟨ks, hks, ka⟩ := id W1.1.kd
    -- others
    refine ⟨_, rfl, F.a, C, _, _, _, rfl, ob, T.ci, T.n_kinds, fl_kinds .., F.aK, _, rfl, .inl (SqL.of hks), _, rfl, ?_⟩
    rw [List.length_map, ka.length]
    refine ⟨by omega, by omega, fun D5 n5 => lc_range (lo := 0) (n := b.system.tileTypes.length) (fun i H' => Same H1 H' ∧ H' D5 = some (.lst (nums ((List.range i).filter fun k => Krbp.tileAt (b.system.grown g) p != some k))))
      ⟨Same.new n5, upd_same⟩ ?_ ?_⟩
    · rintro i H' hi ⟨s', hD⟩
      rw [Int.zero_add]
      refine ⟨rfl, ?_⟩
      refine ⟨_, rfl, _, rfl, ra, _, _, _, rfl, rfl, SqL.of (s' _ _ W1.2.2.2), atI_nat (gV_get (by rw [okr.len]; exact hp)), _, rfl, _, _, rfl, rfl, rfl, _, rfl, ?_⟩
      rw [enc_ne2]
      have fs := filter_succ (fun k => Krbp.tileAt (b.system.grown g) p != some k) i
      refine ifB (fun c => ?_) (fun c => ?_)
      · rw [if_pos c] at fs
        have le : ((List.range i).filter fun k => Krbp.tileAt (b.system.grown g) p != some k).length ≤ 100000 := by
          refine Nat.le_trans (List.length_filter_le ..) ?_
          rw [List.length_range]
          omega
        refine ⟨_, rfl, _, hD, szn le, Same.mut s' n5, ?_⟩
        rw [upd_same, fs, ← nums_app]
      · rw [if_neg (by rw [c]; exact Bool.false_ne_true), List.append_nil] at fs
        refine ⟨s', ?_⟩
        rw [fs]
        exact hD
    · rintro H2 ⟨s2, hD5⟩
      -- the pairs
      have W2 := W1.same s2
      have h42 := s2 _ _ h4
      have dO : ∀ k ∈ (List.range b.system.tileTypes.length).filter fun k => Krbp.tileAt (b.system.grown g) p != some k, k < b.system.tileTypes.length := fun k hk => List.mem_range.mp (List.mem_filter.mp hk).1
      have lO : ((List.range b.system.tileTypes.length).filter fun k => Krbp.tileAt (b.system.grown g) p != some k).length ≤ 12 := by
        refine Nat.le_trans (List.length_filter_le ..) ?_
        rw [List.length_range]
        exact kl
      have eA : altAt b.system g p = (((List.range b.system.tileTypes.length).filter fun k => Krbp.tileAt (b.system.grown g) p != some k).filter fun i => b.system.canAttach (Krbq.gridWithout b.system g p) p i).map fun i => (p, i) := rfl
      rw [eA] at q
      generalize (List.range b.system.tileTypes.length).filter (fun k => Krbp.tileAt (b.system.grown g) p != some k) = O at hD5 dO lO q
      refine ⟨_, rfl, D5, rfl, ⟨_, SqL.of hD5⟩, fun D6 n6 => lc_list (K := K) (a := D5) (xs := nums O) (fun i H' => Same H2 H' ∧ ∃ ts : List Addr, H' D6 = some (.lst (ts.map V.ref)) ∧ All2 (PairAt H') ts (((O.take i).filter fun i => b.system.canAttach (Krbq.gridWithout b.system g p) p i).map fun i => (p, i)))
        ⟨Same.new n6, [], upd_same, .nil⟩ (fun i H' _ ⟨s', _⟩ => SqL.of (s' _ _ hD5)) ?_ ?_⟩
      · rintro i y H' hi ⟨s', ts, hD, ta⟩
        obtain ⟨hlt, rfl⟩ := nums_at hi
        have et := List.take_succ_eq_append_getElem hlt
        have hk := dO _ (List.getElem_mem hlt)
        refine ⟨rfl, ?_⟩
        refine ⟨_, rfl, _, rfl, _, rfl, _, rfl, F, b, l4, _, p, O[i], rfl, W2.1.same s', s' _ _ h42, okw, hp, hk, fun H3 s3 => ⟨_, rfl, ?_⟩⟩
        have ta3 := ta.mono fun a x r => s3 _ _ r
        have hD3 := s3 _ _ hD
        refine ifB (fun c => ?_) (fun c => ?_)
        · refine ⟨_, rfl, _, rfl, (by show 2 ≤ sizeLine; decide), fun t nt => ?_⟩
          have dt : t ≠ D6 := (ne_of_none hD3 nt).symm
          have lt : ts.length ≤ 100 := by
            rw [ta.length, List.length_map]
            refine Nat.le_trans (List.length_filter_le ..) ?_
            rw [List.length_take]
            omega
          refine ⟨_, (upd_ne dt.symm).trans hD3, sz4 rfl lt, ?_⟩
          have pm := pair_more (x := (p, O[i])) (s'.trans s3) n6 hD3 ta3 nt
          rw [et, List.filter_append, List.map_append, List.filter_cons_of_pos c]
          exact pm
        · refine ⟨s'.trans s3, ts, hD3, ?_⟩
          rw [et, List.filter_append, List.map_append, List.filter_cons_of_neg (by rw [c]; exact Bool.false_ne_true)]
          rw [List.filter_nil, List.map_nil, List.append_nil]
          exact ta3
      · rintro H3 ⟨s3, ts, hD, ta⟩
        rw [nums_length, List.take_length] at ta
        exact q H3 D6 ts ((s1.trans s2).trans s3) (s1.free (s2.free n6)) hD ta

/-! ### all_alternatives, first_of_alternatives -/
abbrev s_all_alternatives : Stmt := top 83
theorem sc_all_alternatives : FnScope ["instance", "grid", "grown", "found", "position"] ["instance", "grid", "grown"] (defScope s_all_alternatives) := ⟨rfl, rfl, rfl, by decide +kernel, rfl, by decide +kernel, by decide +kernel⟩
abbrev p_all_alternatives : List Str := ["instance", "grid", "grown"]
theorem enc_eq0 (t : Option Nat) : decide (V.int (encT t) = V.int 0) = t.isNone := by
  have e := enc_ne t
  cases t with
  | none => rfl
  | some i =>
    have e : (!decide (V.int (encT (some i)) = V.int 0)) = true := e
    show decide (V.int (encT (some i)) = V.int 0) = false
    simpa using e
def spAllAlts (C : Addr) : Sp := fun vs H Q _ => ∃ (F : Foot) (b : Krbp.Instance) (ga ra : Addr) (g : Krbp.Grid), vs = [.ref F.a, .ref ga, .ref ra] ∧ WoAt C H F b ga ra g ∧
  ∀ (H' : Hp) (l : Addr) (ts : List Addr), Same H H' → H l = none → H' l = some (.lst (ts.map V.ref)) → All2 (PairAt H') ts (Krbq.alternatives b.system g) → Q (.ref l) H'
theorem ok_all_alternatives (T : Txt K mg C) (D : Df K mg "all_alternatives" s_all_alternatives p_all_alternatives) (F_alternatives_at : Fd P w K mg base "alternatives_at" p_alternatives_at 9 (spAlts C)) :
    Fd P w K mg base "all_alternatives" p_all_alternatives 10 (spAllAlts C) := by
  refine D.ok sc_all_alternatives (fun vs H Q E h => ?_) (fun f cdv A outer s H vs Q E hr h => ?_)
  · obtain ⟨F, b, ga, ra, g, rfl, _⟩ := h
    rfl
  · obtain ⟨F, b, ga, ra, g, rfl, W, q⟩ := h
    refine ⟨_, (pss_cons (ps_set (i := 3) sc_all_alternatives.nd rfl (Or.inl rfl) (pe_lst pa_nil))
      (pss_cons (ps_for PassesOwn.never rfl (pi_range1 rfl T.b_range (pa_cons (pe_callB call_len_seq (by rfl) T.b_len PySem.boot_len (pa_cons (pv 1) pa_nil)) pa_nil)) (pg_name (i := 4) sc_all_alternatives.nd rfl (Or.inl rfl))
      (pss_one (ps_if (pt_cmpR op_eq (pe_ix ix_list (pv 1) (pv 4) (fun _ _ => rfl)) (pe_gi rfl T.g_EMPTY) (nomark _))
        (pss_one (ps_expr (pe_bm PySem.F.plainAttrs_list PySem.F.slot_list_extend PySem.F.type_list_extend mt_extend (pv 3) (pa_cons (pe_fn F_alternatives_at (hr.mono (by decide)) rfl (pa_cons (pv 0) (pa_cons (pv 1) (pa_cons (pv 2) (pa_cons (pv 4) pa_nil))))) pa_nil))))
        pss_nil)))
      (pss_one (ps_ret (pv 3))))), ?_⟩
    have h36 := size_le W.1.wf
    have kl := W.1.wf.kl
    have ok := W.2.2.1
    rw [alternatives_eq] at q
    refine ⟨Nat.zero_le _, fun l3 n3 => ?_⟩
    refine ⟨_, rfl, ga, _, rfl, .inl (SqL.of ((Same.new n3) _ _ W.2.1)), _, rfl, ?_⟩
    rw [gV_length, ok.len]
    refine ⟨by omega, by omega, for_range (n := b.system.size) (fun i σ H' => ∃ v4 : Option V, σ = [some (.ref F.a), some (.ref ga), some (.ref ra), some (.ref l3), v4] ∧ Same H H' ∧ ∃ ts : List Addr, H' l3 = some (.lst (ts.map V.ref)) ∧ All2 (PairAt H') ts ((List.range i).flatMap (altIf b.system g)))
      ⟨none, rfl, Same.new n3, [], upd_same, .nil⟩ ?_ ?_⟩
    · rintro i σ H' hi ⟨v4, rfl, s', ts, h3, ta⟩
      rw [Int.zero_add]
      have W' := W.same s'
      refine ⟨_, rfl, _, rfl, ga, _, _, _, rfl, rfl, SqL.of W'.2.1, atI_nat (gV_get (by rw [ok.len]; exact hi)), rfl, _, rfl, ?_⟩
      rw [enc_eq0]
      rw [flatMap_succ]
      cases e : Krbp.tileAt g i with
      | none =>
        refine ifT rfl ?_
        have ea : altIf b.system g i = altAt b.system g i := by
          unfold altIf
          rw [e]
          rfl
        have fl := flat_length (s := b.system) (g := g) i
        have al := altIf_length b.system g i
        have ml : i * b.system.tileTypes.length ≤ 36 * 12 := Nat.mul_le_mul (by omega) kl
        refine ⟨_, rfl, .inl ⟨rfl, _, SqL.of h3⟩, _, rfl, _, rfl, _, rfl, _, rfl, F, b, ga, ra, g, i, rfl, W', hi, fun H5 l5 us s5 n5 h5 ua => ?_⟩
        rw [← ea] at ua
        have h35 := s5 _ _ h3
        refine ⟨l3, l5, _, _, rfl, rfl, h35, h5, ?_, ?_⟩
        · rw [List.length_map, List.length_map, ta.length, ua.length]
          show _ ≤ 2 ^ 24
          omega
        refine ⟨_, rfl, Same.mut (s'.trans s5) n3, ts ++ us, by rw [upd_same, List.map_append], ?_⟩
        have al2 := All2.append (ta.mono fun a x r => s5 _ _ r) ua
        exact al2.mono fun a x r => (upd_ne (ne_of r h35 (by intro z; cases z))).trans r
      | some k =>
        refine ifF rfl ?_
        have ea : altIf b.system g i = [] := by
          unfold altIf
          rw [e]
          rfl
        rw [ea, List.append_nil]
        exact ⟨_, rfl, s', ts, h3, ta⟩
    · rintro σ H' ⟨v4, rfl, s', ts, h3, ta⟩
      exact ⟨_, rfl, q H' l3 ts s' n3 h3 ta⟩
abbrev s_first_of_alternatives : Stmt := top 84
theorem sc_first_of_alternatives : FnScope ["instance", "grid", "grown", "position", "found"] ["instance", "grid", "grown"] (defScope s_first_of_alternatives) := ⟨rfl, rfl, rfl, by decide +kernel, rfl, by decide +kernel, by decide +kernel⟩
abbrev p_first_of_alternatives : List Str := ["instance", "grid", "grown"]
def spFirstAlt (C : Addr) : Sp := fun vs H Q _ => ∃ (F : Foot) (b : Krbp.Instance) (ga ra : Addr) (g : Krbp.Grid), vs = [.ref F.a, .ref ga, .ref ra] ∧ WoAt C H F b ga ra g ∧
  ∀ (H' : Hp) (v : V), Same H H' → NextIs H' (Krbq.alternatives b.system g).head? v → Q v H'
theorem ok_first_of_alternatives (T : Txt K mg C) (D : Df K mg "first_of_alternatives" s_first_of_alternatives p_first_of_alternatives) (F_alternatives_at : Fd P w K mg base "alternatives_at" p_alternatives_at 9 (spAlts C)) :
    Fd P w K mg base "first_of_alternatives" p_first_of_alternatives 10 (spFirstAlt C) := by
  refine D.ok sc_first_of_alternatives (fun vs H Q E h => ?_) (fun f cdv A outer s H vs Q E hr h => ?_)
  · obtain ⟨F, b, ga, ra, g, rfl, _⟩ := h
    rfl
  · obtain ⟨F, b, ga, ra, g, rfl, W, q⟩ := h
    refine ⟨_, (pss_cons (ps_for PassesOwn.never rfl (pi_range1 rfl T.b_range (pa_cons (pe_callB call_len_seq (by rfl) T.b_len PySem.boot_len (pa_cons (pv 1) pa_nil)) pa_nil)) (pg_name (i := 3) sc_first_of_alternatives.nd rfl (Or.inl rfl))
      (pss_one (ps_if (pt_cmpR op_eq (pe_ix ix_list (pv 1) (pv 3) (fun _ _ => rfl)) (pe_gi rfl T.g_EMPTY) (nomark _))
        (pss_cons (ps_set (i := 4) sc_first_of_alternatives.nd rfl (Or.inl rfl) (pe_fn F_alternatives_at (hr.mono (by decide)) rfl (pa_cons (pv 0) (pa_cons (pv 1) (pa_cons (pv 2) (pa_cons (pv 3) pa_nil))))))
          (pss_one (ps_if (pt_cmpR op_gt (pe_callB call_len_seq (by rfl) T.b_len PySem.boot_len (pa_cons (pv 4) pa_nil)) pe_int (nomark _))
          (pss_one (ps_ret (pe_ix ix_list (pv 4) pe_int (fun _ _ => rfl))))
          pss_nil)))
        pss_nil)))
      (pss_one (ps_ret pe_non))), ?_⟩
    have h36 := size_le W.1.wf
    have ok := W.2.2.1
    refine ⟨_, rfl, ga, _, rfl, .inl (SqL.of W.2.1), _, rfl, ?_⟩
    rw [gV_length, ok.len]
    refine ⟨by omega, by omega, for_range (n := b.system.size) (fun i σ H' => ∃ v3 v4 : Option V, σ = [some (.ref F.a), some (.ref ga), some (.ref ra), v3, v4] ∧ Same H H' ∧ ∀ j, j < i → altIf b.system g j = [])
      ⟨none, none, rfl, Same.refl _, fun j hj => absurd hj (Nat.not_lt_zero _)⟩ ?_ ?_⟩
    · rintro i σ H' hi ⟨v3, v4, rfl, s', hb⟩
      rw [Int.zero_add]
      have W' := W.same s'
      have more : altIf b.system g i = [] → ∀ j, j < i + 1 → altIf b.system g j = [] := fun e j hj => by
        rcases Nat.lt_succ_iff_lt_or_eq.mp hj with h | h
        · exact hb j h
        · rw [h]; exact e
      refine ⟨_, rfl, _, rfl, ga, _, _, _, rfl, rfl, SqL.of W'.2.1, atI_nat (gV_get (by rw [ok.len]; exact hi)), rfl, _, rfl, ?_⟩
      rw [enc_eq0]
      cases e : Krbp.tileAt g i with
      | none =>
        refine ifT rfl ?_
        have ea : altIf b.system g i = altAt b.system g i := by
          unfold altIf
          rw [e]
          rfl
        refine ⟨_, rfl, _, rfl, _, rfl, _, rfl, F, b, ga, ra, g, i, rfl, W', hi, fun H5 l5 us s5 n5 h5 ua => ?_⟩
        rw [← ea] at ua
        refine ⟨_, rfl, l5, _, rfl, .inl (SqL.of h5), _, _, rfl, rfl, _, rfl, ?_⟩
        rw [List.length_map, ua.length]
        cases ec : altIf b.system g i with
        | nil =>
          refine ifF rfl ?_
          exact ⟨_, _, rfl, s'.trans s5, more ec⟩
        | cons x r =>
          refine ifT (decide_eq_true (by show (0 : Int) < ((r.length + 1 : Nat) : Int); omega)) ?_
          rw [ec] at ua
          cases ua with
          | cons rp _ =>
            refine ⟨_, rfl, l5, _, _, _, rfl, rfl, SqL.of h5, at_of (j := 0) rfl rfl, ?_⟩
            exact q H5 _ (s'.trans s5) (.inr ⟨x, _, head_alts_some hi (by rw [ec]; rfl) hb, rfl, rp⟩)
      | some k =>
        refine ifF rfl ?_
        exact ⟨_, _, rfl, s', more (by unfold altIf; rw [e]; rfl)⟩
    · rintro σ H' ⟨v3, v4, rfl, s', hb⟩
      exact q H' _ s' (.inl ⟨by rw [head_alts_none hb]; rfl, rfl⟩)
end
end Gt

namespace Gt
open PySem PySem.Spec PyProof.Rows L2
/-! ### a dict of parts, by place -/
def partsV : List Nat → List Addr → List (Key × V)
  | q :: ps, a :: as => (Sum.inl (q : Int), V.ref a) :: partsV ps as
  | _, _ => []
/-- the grid without a place, at an address -/
def PartAt (s : Krbp.TileSystem) (g : Krbp.Grid) (H : Hp) (a : Addr) (q : Nat) : Prop := H a = some (.lst (gV (Krbq.gridWithout s g q)))
theorem key_ne {q p : Nat} (h : q ≠ p) : ¬ ((Sum.inl (q : Int) : Key) = Sum.inl (p : Int)) := fun z => h (by injection z with z; exact Int.ofNat.inj z)
theorem parts_val {R : Addr → Nat → Prop} : ∀ {as : List Addr} {ps : List Nat}, All2 R as ps → ∀ {p : Nat}, p ∈ ps → ∃ a, valV (partsV ps as) (Sum.inl (p : Int) : Key) = some (.ref a) ∧ R a p
  | _, _, .nil, p, h => by cases h
  | a :: as, q :: ps, .cons r t, p, h => by
    by_cases c : q = p
    · subst c
      exact ⟨a, valV_pos rfl, r⟩
    · obtain ⟨a', e, r'⟩ := parts_val t ((List.mem_cons.mp h).resolve_left fun z => c z.symm)
      refine ⟨a', ?_, r'⟩
      rw [← e]
      exact valV_neg (key_ne c)
theorem parts_not {R : Addr → Nat → Prop} : ∀ {as : List Addr} {ps : List Nat}, All2 R as ps → ∀ {p : Nat}, p ∉ ps → valV (partsV ps as) (Sum.inl (p : Int) : Key) = none
  | _, _, .nil, p, h => rfl
  | a :: as, q :: ps, .cons r t, p, h => by
    have c : q ≠ p := fun z => h (z ▸ List.mem_cons_self ..)
    rw [← parts_not t fun z => h (List.mem_cons_of_mem _ z)]
    exact valV_neg (key_ne c)
theorem parts_snoc {R : Addr → Nat → Prop} : ∀ {as : List Addr} {ps : List Nat}, All2 R as ps → ∀ (p : Nat) (a : Addr), partsV ps as ++ [(Sum.inl (p : Int), V.ref a)] = partsV (ps ++ [p]) (as ++ [a])
  | _, _, .nil, p, a => rfl
  | _ :: as, _ :: ps, .cons r t, p, a => by
    show _ :: (partsV ps as ++ _) = _ :: partsV (ps ++ [p]) (as ++ [a])
    rw [parts_snoc t p a]
theorem parts_len {R : Addr → Nat → Prop} : ∀ {as : List Addr} {ps : List Nat}, All2 R as ps → (partsV ps as).length = ps.length
  | _, _, .nil => rfl
  | _ :: as, _ :: ps, .cons r t => by
    show (partsV ps as).length + 1 = ps.length + 1
    rw [parts_len t]
theorem parts_get {R : Addr → Nat → Prop} : ∀ {as : List Addr} {ps : List Nat}, All2 R as ps → ∀ {i : Nat} {k : Key} {v : V}, (partsV ps as)[i]? = some (k, v) → ∃ hi : i < ps.length, k = Sum.inl ((ps[i] : Nat) : Int)
  | _, _, .nil, i, k, v, h => by
    have h : ([] : List (Key × V))[i]? = some (k, v) := h
    simp at h
  | _ :: as, q :: ps, .cons r t, 0, k, v, h => by
    have h : some ((Sum.inl (q : Int) : Key), V.ref _) = some (k, v) := h
    cases h
    exact ⟨Nat.succ_pos _, rfl⟩
  | _ :: as, q :: ps, .cons r t, i + 1, k, v, h => by
    have h : (partsV ps as)[i]? = some (k, v) := h
    obtain ⟨hi, e⟩ := parts_get t h
    exact ⟨Nat.succ_lt_succ hi, e⟩
section
variable {P : Program} {w : World} {K : PySem.W.Frag} {mg : Str → Option Value} {base : Heap} {C : Addr}

/-! ### parts_of_growth -/
abbrev s_parts_of_growth : Stmt := top 85
theorem sc_parts_of_growth : FnScope ["instance", "grid", "grown", "parts", "position"] ["instance", "grid", "grown"] (defScope s_parts_of_growth) := ⟨rfl, rfl, rfl, by decide +kernel, rfl, by decide +kernel, by decide +kernel⟩
abbrev p_parts_of_growth : List Str := ["instance", "grid", "grown"]
def spParts (C : Addr) : Sp := fun vs H Q _ => ∃ (F : Foot) (b : Krbp.Instance) (ga ra : Addr) (g : Krbp.Grid), vs = [.ref F.a, .ref ga, .ref ra] ∧ WoAt C H F b ga ra g ∧
  ∀ (H' : Hp) (d : Addr) (as : List Addr), Same H H' → H d = none → H' d = some (.dK (partsV (fillL b.system g) as)) → All2 (PartAt b.system g H') as (fillL b.system g) → Q (.ref d) H'
theorem ok_parts_of_growth (T : Txt K mg C) (D : Df K mg "parts_of_growth" s_parts_of_growth p_parts_of_growth) (F_part_without : Fd P w K mg base "part_without" p_part_without 8 (spPart C)) :
    Fd P w K mg base "parts_of_growth" p_parts_of_growth 9 (spParts C) := by
  refine D.ok sc_parts_of_growth (fun vs H Q E h => ?_) (fun f cdv A outer s H vs Q E hr h => ?_)
  · obtain ⟨F, b, ga, ra, g, rfl, _⟩ := h
    rfl
  · obtain ⟨F, b, ga, ra, g, rfl, W, q⟩ := h
    refine ⟨_, (pss_cons (ps_set (i := 3) sc_parts_of_growth.nd rfl (Or.inl rfl) pe_dnewK)
      (pss_cons (ps_for PassesOwn.never rfl (pi_range1 rfl T.b_range (pa_cons (pe_callB call_len_seq (by rfl) T.b_len PySem.boot_len (pa_cons (pv 1) pa_nil)) pa_nil)) (pg_name (i := 4) sc_parts_of_growth.nd rfl (Or.inl rfl))
      (pss_one (ps_if (PW.pt (pw_and (pt_cmpR op_eq (pe_ix ix_list (pv 1) (pv 4) (fun _ _ => rfl)) (pe_gi rfl T.g_EMPTY) (nomark _)) (pw_and1 (pt_cmpR op_ne (pe_ix ix_list (pv 2) (pv 4) (fun _ _ => rfl)) (pe_gi rfl T.g_EMPTY) (nomark _)))))
        (pss_one (ps_dput (hu_of hr) (pv 3) (pv 4) (pe_fn F_part_without (hr.mono (by decide)) rfl (pa_cons (pv 0) (pa_cons (pv 1) (pa_cons (pv 2) (pa_cons (pv 4) pa_nil))))) rfl))
        pss_nil)))
      (pss_one (ps_ret (pv 3))))), ?_⟩
    have h36 := size_le W.1.wf
    have ok := W.2.2.1
    intro l3 n3
    refine ⟨_, rfl, ga, _, rfl, .inl (SqL.of ((Same.new n3) _ _ W.2.1)), _, rfl, ?_⟩
    rw [gV_length, ok.len]
    refine ⟨by omega, by omega, for_range (n := b.system.size) (fun i σ H' => ∃ v4 : Option V, σ = [some (.ref F.a), some (.ref ga), some (.ref ra), some (.ref l3), v4] ∧ Same H H' ∧ ∃ as : List Addr, H' l3 = some (.dK (partsV (fillTo b.system g i) as)) ∧ All2 (PartAt b.system g H') as (fillTo b.system g i))
      ⟨none, rfl, Same.new n3, [], upd_same, .nil⟩ ?_ ?_⟩
    · rintro i σ H' hi ⟨v4, rfl, s', as, h3, pa⟩
      rw [Int.zero_add]
      have W' := W.same s'
      have fs := fill_succ b.system g i
      have fl := fill_length b.system g i
      refine ⟨_, rfl, _, rfl, ga, _, _, _, rfl, rfl, SqL.of W'.2.1, atI_nat (gV_get (by rw [ok.len]; exact hi)), rfl, _, rfl, ?_⟩
      rw [enc_eq0]
      cases e : (Krbp.tileAt g i).isNone with
      | false =>
        refine iteF ?_
        have ff : fillB b.system g i = false := by
          unfold fillB
          rw [e]
          rfl
        rw [ff, if_neg Bool.false_ne_true, List.append_nil] at fs
        rw [fs]
        exact ⟨_, rfl, s', as, h3, pa⟩
      | true =>
        refine iteT ?_
        refine ⟨_, rfl, _, rfl, ra, _, _, _, rfl, rfl, SqL.of W'.2.2.2, atI_nat (gV_get (by rw [ok.grown.len]; exact hi)), rfl, _, rfl, ?_⟩
        rw [enc_ne]
        have ff : fillB b.system g i = (Krbp.tileAt (b.system.grown g) i).isSome := by
          unfold fillB
          rw [e]
          rfl
        cases e2 : (Krbp.tileAt (b.system.grown g) i).isSome with
        | false =>
          refine iteF ?_
          rw [ff, e2, if_neg Bool.false_ne_true, List.append_nil] at fs
          rw [fs]
          exact ⟨_, rfl, s', as, h3, pa⟩
        | true =>
          refine iteT ?_
          rw [ff, e2, if_pos rfl] at fs
          rw [fs]
          refine ⟨_, rfl, _, rfl, _, rfl, _, rfl, F, b, ga, ra, g, i, rfl, W', hi, fun H5 l5 s5 n5 h5 => ?_⟩
          have pa5 := pa.mono fun a q r => s5 _ _ r
          have vn : valV (partsV (fillTo b.system g i) as) (Sum.inl (i : Int) : Key) = none := parts_not pa fun z => Nat.lt_irrefl _ (fill_mem.mp z).1
          have h35 := s5 _ _ h3
          refine ⟨_, rfl, _, rfl, l3, _, rfl, DPut.k (k := Sum.inl (i : Int)) h35 (small1000 (by rw [parts_len pa]; omega)), ?_⟩
          rw [putK_new _ vn]
          refine ⟨_, rfl, Same.mut (s'.trans s5) n3, as ++ [l5], by rw [upd_same, parts_snoc pa], ?_⟩
          have al := All2.append pa5 (All2.cons (R := PartAt b.system g H5) (b := i) h5 .nil)
          exact al.mono fun a x r => (upd_ne (ne_of r h35 (by intro z; cases z))).trans r
    · rintro σ H' ⟨v4, rfl, s', as, h3, pa⟩
      exact ⟨_, rfl, q H' l3 as s' n3 h3 pa⟩

/-! ### prerequisites_in: over a dict that is locked -/
abbrev s_prerequisites_in : Stmt := top 86
theorem sc_prerequisites_in : FnScope ["parts", "position", "other"] ["parts", "position"] (defScope s_prerequisites_in) := ⟨rfl, rfl, rfl, by decide +kernel, rfl, by decide +kernel, by decide +kernel⟩
abbrev p_prerequisites_in : List Str := ["parts", "position"]
def spPreIn : Sp := fun vs H Q _ => ∃ (d : Addr) (od : Obj) (s : Krbp.TileSystem) (g : Krbp.Grid) (as : List Addr) (p : Nat), vs = [.ref d, tN p] ∧ H d = some (.frz od (.dK (partsV (fillL s g) as))) ∧ All2 (PartAt s g H) as (fillL s g) ∧ GOk s g ∧ s.size ≤ 36 ∧ p < s.size ∧
  ∀ (H' : Hp) (l : Addr), Same H H' → H l = none → H' l = some (.lst (nums (Krbq.prerequisites s g p))) → Q (.ref l) H'
theorem int_ne (a b : Nat) : (!decide (V.int (a : Int) = V.int (b : Int))) = (a != b) := by
  by_cases c : a = b
  · subst c
    rw [decide_eq_true rfl]
    simp
  · rw [decide_eq_false fun z => c (by injection z with z; exact Int.ofNat.inj z)]
    simp [c]
theorem ok_prerequisites_in (T : Txt K mg C) (D : Df K mg "prerequisites_in" s_prerequisites_in p_prerequisites_in) : Fd P w K mg base "prerequisites_in" p_prerequisites_in 1 spPreIn := by
  refine D.ok sc_prerequisites_in (fun vs H Q E h => ?_) (fun f cdv A outer sh H vs Q E hr h => ?_)
  · obtain ⟨d, od, s, g, as, p, rfl, _⟩ := h
    rfl
  · obtain ⟨d, od, s, g, as, p, rfl, hd, pa, ok, h36, hp, q⟩ := h
    refine ⟨_, (pss_one (ps_ret (pe_lc (own := [("other", 2)]) (g := gName 2) rfl sc_prerequisites_in.nd (pi_keys (pv 0)) (blkOk_by (own := [("other", 2)]) (N := ["parts", "position", "other"]) (sc := defScope s_prerequisites_in) (by decide +kernel)) (fun _ _ _ _ _ => (pg_name (i := 2) sc_prerequisites_in.nd rfl (Or.inl rfl))) (fun _ _ _ _ _ => (pts_one (PW.pt (pw_and (pt_cmpR op_ne (pv 2) (pv 1) (nomark _)) (pw_and1 (pt_cmpR op_eq (pe_ix (ix_listK (K := K) rfl) (pe_dget (hu_of hr) (pv 0) (pv 2) (fun _ _ => rfl)) (pv 1) (fun _ _ => rfl)) (pe_gi rfl T.g_EMPTY) (nomark _))))))) (fun _ _ _ _ _ => (pv 2))))), ?_⟩
    rw [pre_eq] at q
    have fl : (fillL s g).length ≤ 36 := Nat.le_trans (fill_length s g s.size) h36
    refine ⟨_, rfl, d, od, rfl, .inl ⟨_, hd, fun D nD => lc_it walk_keys (fun i H' => Same H H' ∧ H' D = some (.lst (nums (((fillL s g).take i).filter (preB s g p))))) ⟨Same.new nD, upd_same⟩ (fun i H' _ ⟨s', _⟩ => s' _ _ hd) ?_ ?_⟩⟩
    · rintro i x H' H2 hi ⟨s', hD⟩ ⟨rfl, k, v, ek, rfl⟩
      obtain ⟨hlt, rfl⟩ := parts_get pa ek
      have et := List.take_succ_eq_append_getElem hlt
      have hm : (fillL s g)[i] ∈ fillL s g := List.getElem_mem hlt
      generalize (fillL s g)[i] = o at et hm ⊢
      obtain ⟨a, ev, ra⟩ := parts_val pa hm
      have lt : ((((fillL s g).take i).filter (preB s g p))).length ≤ 100000 := by
        refine Nat.le_trans (List.length_filter_le ..) ?_
        rw [List.length_take]
        omega
      refine ⟨rfl, ?_⟩
      have skip : preB s g p o = false → Same H H2 ∧ H2 D = some (.lst (nums (((fillL s g).take (i + 1)).filter (preB s g p)))) := fun c => by
        refine ⟨s', ?_⟩
        rw [et, List.filter_append, List.filter_cons_of_neg (by rw [c]; exact Bool.false_ne_true), List.filter_nil, List.append_nil]
        exact hD
      refine ⟨_, rfl, _, rfl, rfl, _, rfl, ?_⟩
      show if (!decide (V.int (o : Int) = V.int (p : Int))) = true then _ else _
      rw [int_ne]
      cases c1 : (o != p) with
      | false =>
        refine iteF ?_
        refine iteF ?_
        exact skip (by unfold preB; rw [c1]; rfl)
      | true =>
        refine iteT ?_
        have okw := ok.without o
        refine ⟨_, rfl, _, rfl, d, _, rfl, .inl ⟨_, Sum.inl (o : Int), .inr ⟨od, s' _ _ hd⟩, rfl, ev.symm⟩, _, rfl, a, _, _, _, rfl, rfl, SqL.of (s' _ _ ra), atI_nat (gV_get (by rw [okw.len]; exact hp)), rfl, _, rfl, ?_⟩
        rw [enc_eq0]
        cases c2 : (Krbp.tileAt (Krbq.gridWithout s g o) p).isNone with
        | false =>
          refine iteF ?_
          exact skip (by unfold preB; rw [c2, Bool.and_false])
        | true =>
          refine iteT ?_
          refine ⟨_, rfl, _, hD, szn lt, Same.mut s' nD, ?_⟩
          rw [upd_same, et, List.filter_append, List.filter_cons_of_pos (by unfold preB; rw [c1, c2]; rfl), List.filter_nil, ← nums_app]
          rfl
    · rintro H' ⟨s', hD⟩
      rw [parts_len pa, List.take_length] at hD
      exact q H' D s' nD hD
end
end Gt

namespace Gt
open PySem PySem.Spec PyProof.Rows L2
/-! ### a report: the state as it was, any list of numbers -/
theorem After.rd {C : Addr} {H H1 : Hp} {F : Foot} {b : Krbp.Instance} {out : Krbp.State × Krbp.Result} {Q : VK} {r : Krbp.Result} {l : Addr} {xs : List V} (k : After C H F out Q) (I : InstAt C H F b) (s : Same H H1) (n : H l = none) (hl : H1 l = some (.lst xs))
    (ho : out = (some b, r)) (e : xs = (encR r).map V.int) : Q (.ref l) H1 := by
  subst ho
  subst e
  exact k H1 F b l rfl rfl (I.same s) (Frame.same s) n hl
theorem ints_nums (l : List Nat) : (Krbp.toInts l).map V.int = nums l := by
  unfold Krbp.toInts nums
  rw [List.map_map]
  rfl
theorem enc_list (l : List Nat) : nums (l.length :: l) = (encR (Krbp.returnList l)).map V.int := by
  show _ = V.int (l.length : Int) :: (Krbp.toInts l).map V.int
  rw [ints_nums]
  rfl
theorem enc_pairs (l : List (Nat × Nat)) : nums (l.length :: flatP l) = (encR (Krbp.returnPairs l)).map V.int := by
  show _ = V.int (l.length : Int) :: (Krbp.toInts (flatP l)).map V.int
  rw [ints_nums]
  rfl
theorem enc_grid (g : Krbp.Grid) : V.int (cnt g : Int) :: gV g = (encR (Krbp.returnGrid g)).map V.int := by
  rw [ret_grid]
  rfl
/-- a lock taken off again -/
theorem Same.unlock {H H1 : Hp} {d : Addr} {u v : HO} (hd : H d = some u) (s : Same (upd H d v) H1) : Same H (upd H1 d u) := fun c o h => by
  by_cases e : c = d
  · subst e
    rw [upd_same, ← hd]
    exact h
  · rw [upd_ne e]
    exact s _ _ ((upd_ne e).trans h)
theorem Same.lock_free {H H1 : Hp} {d l : Addr} {v : HO} (s : Same (upd H d v) H1) (n : H1 l = none) : H l = none := by
  have := s.free n
  by_cases e : l = d
  · rw [e, upd_same] at this
    cases this
  · rw [upd_ne e] at this
    exact this
section
variable {P : Program} {w : World} {K : PySem.W.Frag} {mg : Str → Option Value} {base : Heap} {C : Addr}
/-! ### written_grid, written_pairs, written_list -/
abbrev s_written_grid : Stmt := top 88
theorem sc_written_grid : FnScope ["grid"] ["grid"] (defScope s_written_grid) := ⟨rfl, rfl, rfl, by decide +kernel, rfl, by decide +kernel, by decide +kernel⟩
abbrev p_written_grid : List Str := ["grid"]
def spWGrid : Sp := fun vs H Q _ => ∃ (ga : Addr) (g : Krbp.Grid), vs = [.ref ga] ∧ H ga = some (.lst (gV g)) ∧ g.length ≤ 36 ∧ ∀ (H' : Hp) (l : Addr), Same H H' → H l = none → H' l = some (.lst (V.int (cnt g : Int) :: gV g)) → Q (.ref l) H'
theorem ok_written_grid (T : Txt K mg C) (D : Df K mg "written_grid" s_written_grid p_written_grid) : Fd P w K mg base "written_grid" p_written_grid 1 spWGrid := by
  refine D.ok sc_written_grid (fun vs H Q E h => ?_) (fun f cdv A outer s H vs Q E hr h => ?_)
  · obtain ⟨ga, g, rfl, _⟩ := h
    rfl
  · obtain ⟨ga, g, rfl, hg, h36, q⟩ := h
    refine ⟨_, (pss_one (ps_ret (pe_op op_cat (pe_lst (pa_cons (pe_op op_sub (pe_callB call_len_seq (by rfl) T.b_len PySem.boot_len (pa_cons (pv 0) pa_nil)) (pe_bm PySem.F.plainAttrs_list PySem.F.slot_list_count PySem.F.type_list_count mt_lcount (pv 0) (pa_cons (pe_gi rfl T.g_EMPTY) pa_nil))) pa_nil)) (pv 0)))), ?_⟩
    have hg' : H ga = some (.lst ((encG g).map V.int)) := hg
    have e : (((gV g).length : Nat) : Int) - (((encG g).count 0 : Nat) : Int) = (cnt g : Int) := by
      have := cnt_count g
      rw [gV_length]
      omega
    refine ⟨_, rfl, ga, _, rfl, .inl (SqL.of hg), _, rfl, .inl ⟨rfl, _, SqL.of hg⟩, ga, encG g, 0, rfl, rfl, SqL.of hg', _, _, rfl, rfl, (by show 1 ≤ sizeLine; decide), fun l1 n1 => ?_⟩
    refine ⟨_, rfl, l1, ga, _, _, rfl, rfl, upd_same, (Same.new n1) _ _ hg, ?_, fun l2 n2 => ?_⟩
    · rw [gV_length]
      show 1 + _ ≤ 2 ^ 24
      omega
    refine q _ l2 ((Same.new n1).trans (Same.new n2)) ((Same.new n1).free n2) ?_
    rw [upd_same]
    show some (HO.lst (V.int ((((gV g).length : Nat) : Int) - (((encG g).count 0 : Nat) : Int)) :: gV g)) = _
    rw [e]
abbrev s_written_pairs : Stmt := top 89
theorem sc_written_pairs : FnScope ["pairs", "written", "position", "kind"] ["pairs"] (defScope s_written_pairs) := ⟨rfl, rfl, rfl, by decide +kernel, rfl, by decide +kernel, by decide +kernel⟩
abbrev p_written_pairs : List Str := ["pairs"]
def spWPairs : Sp := fun vs H Q _ => ∃ (la : Addr) (ts : List Addr) (L : List (Nat × Nat)), vs = [.ref la] ∧ H la = some (.lst (ts.map V.ref)) ∧ All2 (PairAt H) ts L ∧ L.length ≤ 1000 ∧ ∀ (H' : Hp) (l : Addr), Same H H' → H l = none → H' l = some (.lst (nums (L.length :: flatP L))) → Q (.ref l) H'
theorem ok_written_pairs (T : Txt K mg C) (D : Df K mg "written_pairs" s_written_pairs p_written_pairs) : Fd P w K mg base "written_pairs" p_written_pairs 1 spWPairs := by
  refine D.ok sc_written_pairs (fun vs H Q E h => ?_) (fun f cdv A outer s H vs Q E hr h => ?_)
  · obtain ⟨la, ts, L, rfl, _⟩ := h
    rfl
  · obtain ⟨la, ts, L, rfl, hl, ta, hlen, q⟩ := h
    refine ⟨_, (pss_cons (ps_set (i := 1) sc_written_pairs.nd rfl (Or.inl rfl) (pe_lst (pa_cons (pe_callB call_len_seq (by rfl) T.b_len PySem.boot_len (pa_cons (pv 0) pa_nil)) pa_nil)))
      (pss_cons (ps_for PassesOwn.never rfl (pi_list (pv 0)) (pg_tup rfl (pgs_cons (pg_name (i := 2) sc_written_pairs.nd rfl (Or.inl rfl)) (pgs_cons (pg_name (i := 3) sc_written_pairs.nd rfl (Or.inl rfl)) pgs_nil)))
      (pss_cons (ps_expr (pe_bm PySem.F.plainAttrs_list PySem.F.slot_list_append PySem.F.type_list_append mt_append (pv 1) (pa_cons (pv 2) pa_nil)))
        (pss_one (ps_expr (pe_bm PySem.F.plainAttrs_list PySem.F.slot_list_append PySem.F.type_list_append mt_append (pv 1) (pa_cons (pv 3) pa_nil))))))
      (pss_one (ps_ret (pv 1))))), ?_⟩
    refine ⟨_, rfl, la, _, rfl, .inl (SqL.of hl), (by show 1 ≤ sizeLine; decide), fun l1 n1 => ?_⟩
    rw [List.length_map, ta.length]
    have s1 : Same H (upd H l1 (.lst [V.int (L.length : Int)])) := Same.new n1
    refine ⟨_, rfl, la, rfl, ⟨_, SqL.of (s1 _ _ hl)⟩, for_list (K := K) (a := la) (xs := ts.map V.ref) (fun i σ H' => ∃ v2 v3 : Option V, σ = [some (.ref la), some (.ref l1), v2, v3] ∧ Same H H' ∧ H' l1 = some (.lst (nums (L.length :: flatP (L.take i)))))
      ⟨none, none, rfl, s1, upd_same⟩ (fun i σ H' _ ⟨_, _, _, h, _⟩ => SqL.of (h _ _ hl)) ?_ ?_⟩
    · rintro i y σ H4 hi ⟨v2, v3, rfl, s4, h4⟩
      have hi' : i < L.length := by
        rw [← ta.length]
        exact map_lt hi
      obtain ⟨t, et, hp⟩ := ta.get (List.getElem?_eq_getElem hi')
      rw [List.getElem?_map, et] at hi
      cases hi
      have fl : (flatP (L.take i)).length ≤ 2000 := by
        rw [flatP_length, List.length_take]
        omega
      refine ⟨t, _, rfl, SqT.of (s4 _ _ hp), rfl, _, _, rfl, _, _, rfl, rfl, ?_⟩
      refine ⟨_, rfl, .inl ⟨rfl, _, SqL.of h4⟩, _, rfl, l1, _, _, rfl, rfl, h4, szn (by rw [List.length_cons]; omega), ?_⟩
      rw [nums_app]
      refine ⟨_, rfl, .inl ⟨rfl, _, SqL.of upd_same⟩, _, rfl, l1, _, _, rfl, rfl, upd_same, szn (by rw [List.length_append, List.length_cons, List.length_singleton]; omega), ?_⟩
      rw [nums_app]
      refine ⟨_, _, rfl, Same.mut (Same.mut s4 n1) n1, ?_⟩
      rw [upd_same, List.take_succ_eq_append_getElem hi', flatP_append]
      show some (HO.lst (nums (((L.length :: flatP (L.take i)) ++ [L[i].1]) ++ [L[i].2]))) = some (HO.lst (nums (L.length :: (flatP (L.take i) ++ [L[i].1, L[i].2]))))
      rw [List.append_assoc]
      rfl
    · rintro σ H4 ⟨v2, v3, rfl, s4, h4⟩
      rw [List.length_map, ta.length, List.take_length] at h4
      exact ⟨_, rfl, q H4 l1 s4 n1 h4⟩
abbrev s_written_list : Stmt := top 90
theorem sc_written_list : FnScope ["numbers"] ["numbers"] (defScope s_written_list) := ⟨rfl, rfl, rfl, by decide +kernel, rfl, by decide +kernel, by decide +kernel⟩
abbrev p_written_list : List Str := ["numbers"]
def spWList : Sp := fun vs H Q _ => ∃ (la : Addr) (L : List Nat), vs = [.ref la] ∧ H la = some (.lst (nums L)) ∧ L.length ≤ 1000 ∧ ∀ (H' : Hp) (l : Addr), Same H H' → H l = none → H' l = some (.lst (nums (L.length :: L))) → Q (.ref l) H'
theorem ok_written_list (T : Txt K mg C) (D : Df K mg "written_list" s_written_list p_written_list) : Fd P w K mg base "written_list" p_written_list 1 spWList := by
  refine D.ok sc_written_list (fun vs H Q E h => ?_) (fun f cdv A outer s H vs Q E hr h => ?_)
  · obtain ⟨la, L, rfl, _⟩ := h
    rfl
  · obtain ⟨la, L, rfl, hl, hlen, q⟩ := h
    refine ⟨_, (pss_one (ps_ret (pe_op op_cat (pe_lst (pa_cons (pe_callB call_len_seq (by rfl) T.b_len PySem.boot_len (pa_cons (pv 0) pa_nil)) pa_nil)) (pv 0)))), ?_⟩
    refine ⟨_, rfl, la, _, rfl, .inl (SqL.of hl), (by show 1 ≤ sizeLine; decide), fun l1 n1 => ?_⟩
    rw [nums_length]
    refine ⟨_, rfl, l1, la, _, _, rfl, rfl, upd_same, (Same.new n1) _ _ hl, ?_, fun l2 n2 => ?_⟩
    · rw [nums_length]
      show 1 + _ ≤ 2 ^ 24
      omega
    exact q _ l2 ((Same.new n1).trans (Same.new n2)) ((Same.new n1).free n2) upd_same
/-! ### get_grid, get_tile_kind, status, terminal_grid -/
abbrev s_get_grid : Stmt := top 92
theorem sc_get_grid : FnScope ["instance"] ["instance"] (defScope s_get_grid) := ⟨rfl, rfl, rfl, by decide +kernel, rfl, by decide +kernel, by decide +kernel⟩
abbrev p_get_grid : List Str := ["instance"]
def spGetGrid (C : Addr) : Sp := fun vs H Q _ => ∃ (F : Foot) (b : Krbp.Instance), vs = [.ref F.a] ∧ InstAt C H F b ∧ After C H F (Krbq.execute (some b) (.base .getGrid)) Q
theorem ok_get_grid (T : Txt K mg C) (D : Df K mg "get_grid" s_get_grid p_get_grid) (F_current_grid : Fd P w K mg base "current_grid" p_current_grid 1 (spGrid C)) (F_written_grid : Fd P w K mg base "written_grid" p_written_grid 1 spWGrid) :
    Fd P w K mg base "get_grid" p_get_grid 2 (spGetGrid C) := by
  refine D.ok sc_get_grid (fun vs H Q E h => ?_) (fun f cdv A outer s H vs Q E hr h => ?_)
  · obtain ⟨F, b, rfl, _⟩ := h
    rfl
  · obtain ⟨F, b, rfl, I, k⟩ := h
    refine ⟨_, (pss_one (ps_ret (pe_fn F_written_grid (hr.mono (by decide)) rfl (pa_cons (pe_fn F_current_grid (hr.mono (by decide)) rfl (pa_cons (pv 0) pa_nil)) pa_nil)))), ?_⟩
    have okg := grid_ok I.wf
    refine ⟨_, rfl, F, b, rfl, I, fun H1 l1 s1 n1 h1 => ?_⟩
    exact ⟨l1, b.grid, rfl, h1, by rw [okg.len]; exact size_le I.wf, fun H2 l2 s2 n2 h2 => k.rd I (s1.trans s2) (s1.free n2) h2 rp_grid (enc_grid _)⟩
abbrev s_get_tile_kind : Stmt := top 93
theorem sc_get_tile_kind : FnScope ["instance", "kind"] ["instance", "kind"] (defScope s_get_tile_kind) := ⟨rfl, rfl, rfl, by decide +kernel, rfl, by decide +kernel, by decide +kernel⟩
abbrev p_get_tile_kind : List Str := ["instance", "kind"]
def spGetKind (C : Addr) : Sp := fun vs H Q _ => ∃ (F : Foot) (b : Krbp.Instance) (i : Nat), vs = [.ref F.a, tN i] ∧ InstAt C H F b ∧ After C H F (Krbq.execute (some b) (.base (.getTileType i))) Q
theorem ok_get_tile_kind (T : Txt K mg C) (D : Df K mg "get_tile_kind" s_get_tile_kind p_get_tile_kind) (F_has_kind : Fd P w K mg base "has_kind" p_has_kind 1 (spHasKind C)) (F_written_list : Fd P w K mg base "written_list" p_written_list 1 spWList) :
    Fd P w K mg base "get_tile_kind" p_get_tile_kind 2 (spGetKind C) := by
  refine D.ok sc_get_tile_kind (fun vs H Q E h => ?_) (fun f cdv A outer s H vs Q E hr h => ?_)
  · obtain ⟨F, b, i, rfl, _⟩ := h
    rfl
  · obtain ⟨F, b, i, rfl, I, k⟩ := h
    refine ⟨_, (pss_cons (ps_if (pt_not (pt_val (pe_fn F_has_kind (hr.mono (by decide)) rfl (pa_cons (pv 0) (pa_cons (pv 1) pa_nil)))))
      (pss_one (ps_ret (pe_lst (pa_cons (pe_gi rfl T.g_NO_SUCH) pa_nil))))
      pss_nil)
      (pss_one (ps_ret (pe_fn F_written_list (hr.mono (by decide)) rfl (pa_cons (pe_ix ix_list (pe_fld (pv 0) rfl) (pv 1) (fun _ _ => rfl)) pa_nil))))), ?_⟩
    obtain ⟨dx, ob⟩ := id I.ob
    obtain ⟨ks, hks, ka⟩ := id I.kd
    refine ⟨_, rfl, _, rfl, F, b, i, rfl, I, _, rfl, ?_⟩
    by_cases hi : i < b.system.tileTypes.length
    · rw [decide_eq_true hi]
      refine iteF ?_
      obtain ⟨gk, egk, hgk⟩ := kind_at ka hi
      have hm : b.system.tileTypes.getD i [] ∈ b.system.tileTypes := by
        rw [List.getD_eq_getElem?_getD, List.getElem?_eq_getElem hi]
        exact List.getElem_mem hi
      have h4 := (I.wf.k4 _ hm).1
      refine ⟨_, rfl, F.a, C, _, _, _, rfl, ob, T.ci, T.n_kinds, fl_kinds .., _, rfl, F.aK, _, _, _, rfl, rfl, SqL.of hks, atI_nat egk, gk, _, rfl, hgk, by omega, fun H1 l1 s1 n1 h1 => ?_⟩
      refine k.rd I s1 n1 h1 (rp_kind hi) ?_
      rw [h4]
      show _ = V.int 4 :: (Krbp.toInts (b.system.tileTypes.getD i [])).map V.int
      rw [ints_nums]
      rfl
    · rw [decide_eq_false hi]
      refine iteT ?_
      exact k.err I (Same.refl _) (rp_kind_no hi)
abbrev s_status : Stmt := top 94
theorem sc_status : FnScope ["instance", "counts"] ["instance"] (defScope s_status) := ⟨rfl, rfl, rfl, by decide +kernel, rfl, by decide +kernel, by decide +kernel⟩
abbrev p_status : List Str := ["instance"]
def spStatus (C : Addr) : Sp := fun vs H Q _ => ∃ (F : Foot) (b : Krbp.Instance), vs = [.ref F.a] ∧ InstAt C H F b ∧ After C H F (Krbq.execute (some b) (.base .status)) Q
theorem cut_one (l : List Nat) : cutV (nums (0 :: l)) (some ((1 : Nat) : Int)) none = nums l := by
  unfold cutV
  rw [HT.sIx_nat, HT.sIx_none, nums_length, List.length_cons, Nat.min_eq_left (by omega)]
  show ((nums l).drop 0).take (l.length + 1 - 1) = nums l
  rw [List.drop_zero, Nat.add_sub_cancel, List.take_of_length_le (by rw [nums_length]; exact Nat.le_refl _)]
theorem ok_status (T : Txt K mg C) (D : Df K mg "status" s_status p_status) : Fd P w K mg base "status" p_status 1 (spStatus C) := by
  refine D.ok sc_status (fun vs H Q E h => ?_) (fun f cdv A outer s H vs Q E hr h => ?_)
  · obtain ⟨F, b, rfl, _⟩ := h
    rfl
  · obtain ⟨F, b, rfl, I, k⟩ := h
    refine ⟨_, (pss_cons (ps_set (i := 1) sc_status.nd rfl (Or.inl rfl) (pe_lst (pa_cons (pe_callB call_len_seq (by rfl) T.b_len PySem.boot_len (pa_cons (pe_fld (pv 0) rfl) pa_nil)) (pa_cons (pe_fld (pv 0) rfl) (pa_cons (pe_fld (pv 0) rfl) (pa_cons (pe_fld (pv 0) rfl) pa_nil))))))
      (pss_cons (ps_expr (pe_bm PySem.F.plainAttrs_list PySem.F.slot_list_append PySem.F.type_list_append mt_append (pv 1) (pa_cons (pe_callB call_lenD (by rfl) T.b_len PySem.boot_len (pa_cons (pe_fld (pv 0) rfl) pa_nil)) pa_nil)))
      (pss_cons (ps_expr (pe_bm PySem.F.plainAttrs_list PySem.F.slot_list_append PySem.F.type_list_append mt_append (pv 1) (pa_cons (pe_callB call_len_seq (by rfl) T.b_len PySem.boot_len (pa_cons (pe_fld (pv 0) rfl) pa_nil)) pa_nil)))
      (pss_one (ps_ret (pe_op op_cat (pv 1) (pe_slice sl_list (pe_fld (pv 0) rfl) (po_some pe_int) po_none))))))), ?_⟩
    obtain ⟨dx, ob⟩ := id I.ob
    obtain ⟨ks, hks, ka⟩ := id I.kd
    obtain ⟨ts, ht, ta⟩ := id I.at_
    refine ⟨_, rfl, F.a, C, _, _, _, rfl, ob, T.ci, T.n_kinds, fl_kinds .., F.aK, _, rfl, .inl (SqL.of hks), _, rfl, F.a, C, _, _, _, rfl, ob, T.ci, T.n_width, fl_width .., _, rfl, F.a, C, _, _, _, rfl, ob, T.ci, T.n_height, fl_height .., _, rfl, F.a, C, _, _, _, rfl, ob, T.ci, T.n_threshold, fl_threshold .., (by show 4 ≤ sizeLine; decide), fun l1 n1 => ?_⟩
    rw [List.length_map, ka.length]
    have s1 : Same H (upd H l1 (.lst [tN b.system.tileTypes.length, tN b.system.width, tN b.system.height, tN b.system.threshold])) := Same.new n1
    refine ⟨_, rfl, .inl ⟨rfl, _, SqL.of upd_same⟩, _, rfl, F.a, C, _, _, _, rfl, s1 _ _ ob, T.ci, T.n_seeds, fl_seeds .., F.aD, _, rfl, s1 _ _ I.sd, l1, _, _, rfl, rfl, upd_same, (by show 4 < sizeLine; decide), ?_⟩
    rw [seeds_len]
    have s2 : Same H (upd (upd H l1 (.lst [tN b.system.tileTypes.length, tN b.system.width, tN b.system.height, tN b.system.threshold])) l1 (.lst ([tN b.system.tileTypes.length, tN b.system.width, tN b.system.height, tN b.system.threshold] ++ [tN b.seeds.length]))) := Same.mut s1 n1
    refine ⟨_, rfl, .inl ⟨rfl, _, SqL.of upd_same⟩, _, rfl, F.a, C, _, _, _, rfl, s2 _ _ ob, T.ci, T.n_attached, fl_attached .., F.aT, _, rfl, .inl (SqL.of (s2 _ _ ht)), l1, _, _, rfl, rfl, upd_same, (by show 5 < sizeLine; decide), ?_⟩
    rw [List.length_map, ta.length]
    generalize hH2 : upd (upd H l1 (.lst [tN b.system.tileTypes.length, tN b.system.width, tN b.system.height, tN b.system.threshold])) l1 (.lst ([tN b.system.tileTypes.length, tN b.system.width, tN b.system.height, tN b.system.threshold] ++ [tN b.seeds.length])) = H2 at s2
    have s3 : Same H (upd H2 l1 (.lst (([tN b.system.tileTypes.length, tN b.system.width, tN b.system.height, tN b.system.threshold] ++ [tN b.seeds.length]) ++ [tN b.attached.length]))) := Same.mut s2 n1
    refine ⟨_, rfl, _, rfl, F.a, C, _, _, _, rfl, s3 _ _ ob, T.ci, T.n_strengths, fl_strengths .., _, rfl, F.aS, _, rfl, SqL.of (s3 _ _ I.st), fun l2 n2 => ?_⟩
    have d12 : l1 ≠ l2 := ne_of_none upd_same n2
    rw [show ((1 : Int)) = ((1 : Nat) : Int) from rfl, cut_one]
    refine ⟨l1, l2, _, _, rfl, rfl, (upd_ne d12).trans upd_same, upd_same, ?_, fun l3 n3 => ?_⟩
    · rw [nums_length, I.wf.sl]
      show 6 + 9 ≤ 2 ^ 24
      omega
    refine k.rd I ((s3.trans (Same.new n2)).trans (Same.new n3)) (s3.free ((Same.new n2).free n3)) upd_same rp_status ?_
    show _ = V.int (b.system.tileTypes.length : Int) :: (Krbp.toInts ([b.system.width, b.system.height, b.system.threshold, b.seeds.length, b.attached.length] ++ b.system.strengths)).map V.int
    rw [ints_nums]
    rfl
abbrev s_terminal_grid : Stmt := top 98
theorem sc_terminal_grid : FnScope ["instance"] ["instance"] (defScope s_terminal_grid) := ⟨rfl, rfl, rfl, by decide +kernel, rfl, by decide +kernel, by decide +kernel⟩
abbrev p_terminal_grid : List Str := ["instance"]
def spTerm (C : Addr) : Sp := fun vs H Q _ => ∃ (F : Foot) (b : Krbp.Instance), vs = [.ref F.a] ∧ InstAt C H F b ∧ After C H F (Krbq.execute (some b) .terminalGrid) Q
theorem ok_terminal_grid (T : Txt K mg C) (D : Df K mg "terminal_grid" s_terminal_grid p_terminal_grid) (F_current_grid : Fd P w K mg base "current_grid" p_current_grid 1 (spGrid C)) (F_grown_grid : Fd P w K mg base "grown_grid" p_grown_grid 8 (spGrown C)) (F_written_grid : Fd P w K mg base "written_grid" p_written_grid 1 spWGrid) :
    Fd P w K mg base "terminal_grid" p_terminal_grid 9 (spTerm C) := by
  refine D.ok sc_terminal_grid (fun vs H Q E h => ?_) (fun f cdv A outer s H vs Q E hr h => ?_)
  · obtain ⟨F, b, rfl, _⟩ := h
    rfl
  · obtain ⟨F, b, rfl, I, k⟩ := h
    refine ⟨_, (pss_one (ps_ret (pe_fn F_written_grid (hr.mono (by decide)) rfl (pa_cons (pe_fn F_grown_grid (hr.mono (by decide)) rfl (pa_cons (pv 0) (pa_cons (pe_fn F_current_grid (hr.mono (by decide)) rfl (pa_cons (pv 0) pa_nil)) pa_nil))) pa_nil)))), ?_⟩
    have okg := grid_ok I.wf
    refine ⟨_, rfl, _, rfl, F, b, rfl, I, fun H1 l1 s1 n1 h1 => ?_⟩
    refine ⟨F, b, l1, b.grid, rfl, I.same s1, h1, okg, fun H2 l2 s2 n2 h2 => ?_⟩
    exact ⟨l2, _, rfl, h2, by rw [okg.grown.len]; exact size_le I.wf, fun H3 l3 s3 n3 h3 => k.rd I ((s1.trans s2).trans s3) (s1.free (s2.free n3)) h3 rp_term (enc_grid _)⟩
end
end Gt

namespace Gt
open PySem PySem.Spec PyProof.Rows L2
section
variable {P : Program} {w : World} {K : PySem.W.Frag} {mg : Str → Option Value} {base : Heap} {C : Addr}
/-! ### is_unique, first_alternative, alternatives -/
abbrev s_is_unique : Stmt := top 95
theorem sc_is_unique : FnScope ["instance", "grid"] ["instance"] (defScope s_is_unique) := ⟨rfl, rfl, rfl, by decide +kernel, rfl, by decide +kernel, by decide +kernel⟩
abbrev p_is_unique : List Str := ["instance"]
def spUnique (C : Addr) : Sp := fun vs H Q _ => ∃ (F : Foot) (b : Krbp.Instance), vs = [.ref F.a] ∧ InstAt C H F b ∧ After C H F (Krbq.execute (some b) .isUnique) Q
theorem head_nil {α : Type} {l : List α} (h : l.head? = none) : l = [] := List.head?_eq_none_iff.mp h
theorem ok_is_unique (T : Txt K mg C) (D : Df K mg "is_unique" s_is_unique p_is_unique) (F_current_grid : Fd P w K mg base "current_grid" p_current_grid 1 (spGrid C)) (F_grown_grid : Fd P w K mg base "grown_grid" p_grown_grid 8 (spGrown C)) (F_first_of_alternatives : Fd P w K mg base "first_of_alternatives" p_first_of_alternatives 10 (spFirstAlt C)) :
    Fd P w K mg base "is_unique" p_is_unique 11 (spUnique C) := by
  refine D.ok sc_is_unique (fun vs H Q E h => ?_) (fun f cdv A outer s H vs Q E hr h => ?_)
  · obtain ⟨F, b, rfl, _⟩ := h
    rfl
  · obtain ⟨F, b, rfl, I, k⟩ := h
    refine ⟨_, (pss_cons (ps_set (i := 1) sc_is_unique.nd rfl (Or.inl rfl) (pe_fn F_current_grid (hr.mono (by decide)) rfl (pa_cons (pv 0) pa_nil)))
      (pss_cons (ps_if (pt_cmpR op_isN (pe_fn F_first_of_alternatives (hr.mono (by decide)) rfl (pa_cons (pv 0) (pa_cons (pv 1) (pa_cons (pe_fn F_grown_grid (hr.mono (by decide)) rfl (pa_cons (pv 0) (pa_cons (pv 1) pa_nil))) pa_nil)))) pe_non (nomark _))
      (pss_one (ps_ret (pe_lst (pa_cons pe_int pa_nil))))
      pss_nil)
      (pss_one (ps_ret (pe_lst (pa_cons pe_int pa_nil)))))), ?_⟩
    have okg := grid_ok I.wf
    refine ⟨_, rfl, F, b, rfl, I, fun H1 l1 s1 n1 h1 => ?_⟩
    refine ⟨_, rfl, _, rfl, _, rfl, _, rfl, F, b, l1, b.grid, rfl, I.same s1, h1, okg, fun H2 l2 s2 n2 h2 => ?_⟩
    have W : WoAt C H2 F b l1 l2 b.grid := ⟨I.same (s1.trans s2), s2 _ _ h1, okg, h2⟩
    refine ⟨F, b, l1, l2, b.grid, rfl, W, fun H3 v s3 nx => ?_⟩
    refine ⟨rfl, _, rfl, ?_⟩
    have sH := (s1.trans s2).trans s3
    rcases nx with ⟨e, rfl⟩ | ⟨x, t, e, rfl, ht⟩
    · refine ifT rfl ?_
      exact k.err I sH (rp_unique_yes (head_nil e))
    · refine ifF rfl ?_
      exact k.err I sH (rp_unique_no fun z => by rw [z] at e; cases e)
abbrev s_first_alternative : Stmt := top 96
theorem sc_first_alternative : FnScope ["instance", "grid", "grown", "alternative"] ["instance"] (defScope s_first_alternative) := ⟨rfl, rfl, rfl, by decide +kernel, rfl, by decide +kernel, by decide +kernel⟩
abbrev p_first_alternative : List Str := ["instance"]
def spFirstA (C : Addr) : Sp := fun vs H Q _ => ∃ (F : Foot) (b : Krbp.Instance), vs = [.ref F.a] ∧ InstAt C H F b ∧ After C H F (Krbq.execute (some b) .firstAlternative) Q
theorem alts_ok {s : Krbp.TileSystem} {g : Krbp.Grid} {x : Nat × Nat} (h : x ∈ Krbq.alternatives s g) : x.1 < s.size ∧ x.2 < s.tileTypes.length := by
  rw [alternatives_eq] at h
  obtain ⟨p, hp, hx⟩ := List.mem_flatMap.mp h
  obtain ⟨e, h2⟩ := alt_ok x hx
  exact ⟨by rw [e]; exact List.mem_range.mp hp, h2⟩
theorem ok_first_alternative (T : Txt K mg C) (D : Df K mg "first_alternative" s_first_alternative p_first_alternative) (F_current_grid : Fd P w K mg base "current_grid" p_current_grid 1 (spGrid C)) (F_grown_grid : Fd P w K mg base "grown_grid" p_grown_grid 8 (spGrown C))
    (F_first_of_alternatives : Fd P w K mg base "first_of_alternatives" p_first_of_alternatives 10 (spFirstAlt C)) (F_steps_without : Fd P w K mg base "steps_without" p_steps_without 7 (spSteps C)) (F_written_pairs : Fd P w K mg base "written_pairs" p_written_pairs 1 spWPairs) :
    Fd P w K mg base "first_alternative" p_first_alternative 11 (spFirstA C) := by
  refine D.ok sc_first_alternative (fun vs H Q E h => ?_) (fun f cdv A outer s H vs Q E hr h => ?_)
  · obtain ⟨F, b, rfl, _⟩ := h
    rfl
  · obtain ⟨F, b, rfl, I, k⟩ := h
    refine ⟨_, (pss_cons (ps_set (i := 1) sc_first_alternative.nd rfl (Or.inl rfl) (pe_fn F_current_grid (hr.mono (by decide)) rfl (pa_cons (pv 0) pa_nil)))
      (pss_cons (ps_set (i := 2) sc_first_alternative.nd rfl (Or.inl rfl) (pe_fn F_grown_grid (hr.mono (by decide)) rfl (pa_cons (pv 0) (pa_cons (pv 1) pa_nil))))
      (pss_cons (ps_set (i := 3) sc_first_alternative.nd rfl (Or.inl rfl) (pe_fn F_first_of_alternatives (hr.mono (by decide)) rfl (pa_cons (pv 0) (pa_cons (pv 1) (pa_cons (pv 2) pa_nil)))))
      (pss_cons (ps_if (pt_cmpR op_isN (pv 3) pe_non (nomark _))
      (pss_one (ps_ret (pe_lst (pa_cons (pe_gi rfl T.g_NOT_THERE) pa_nil))))
      pss_nil)
      (pss_one (ps_ret (pe_fn F_written_pairs (hr.mono (by decide)) rfl (pa_cons (pe_op op_cat (pe_fn F_steps_without (hr.mono (by decide)) rfl (pa_cons (pv 0) (pa_cons (pv 1) (pa_cons (pv 2) (pa_cons (pe_ix ix_tup (pv 3) pe_int (fun _ _ => rfl)) pa_nil))))) (pe_lst (pa_cons (pv 3) pa_nil))) pa_nil)))))))), ?_⟩
    have okg := grid_ok I.wf
    have h36 := size_le I.wf
    refine ⟨_, rfl, F, b, rfl, I, fun H1 l1 s1 n1 h1 => ?_⟩
    refine ⟨_, rfl, _, rfl, F, b, l1, b.grid, rfl, I.same s1, h1, okg, fun H2 l2 s2 n2 h2 => ?_⟩
    have W : WoAt C H2 F b l1 l2 b.grid := ⟨I.same (s1.trans s2), s2 _ _ h1, okg, h2⟩
    refine ⟨_, rfl, _, rfl, _, rfl, F, b, l1, l2, b.grid, rfl, W, fun H3 v s3 nx => ?_⟩
    refine ⟨_, rfl, rfl, _, rfl, ?_⟩
    have sH := (s1.trans s2).trans s3
    rcases nx with ⟨e, rfl⟩ | ⟨⟨p, i⟩, t, e, rfl, ht⟩
    · refine ifT rfl ?_
      exact k.err I sH (rp_first_no (head_nil e))
    · refine ifF rfl ?_
      have hp := (alts_ok (List.mem_of_head? e)).1
      refine ⟨_, rfl, _, rfl, _, rfl, _, rfl, t, _, _, _, rfl, rfl, SqT.of ht, at_of (j := 0) rfl rfl, F, b, l1, l2, b.grid, p, rfl, W.same s3, hp, fun H4 l4 ts s4 n4 h4 ta => ?_⟩
      refine ⟨_, rfl, (by show 1 ≤ sizeLine; decide), fun l5 n5 => ?_⟩
      have d45 : l4 ≠ l5 := ne_of_none h4 n5
      have wl := within_length (s := b.system) (target := b.system.grown b.grid) (p := p) b.system.size b.grid
      refine ⟨l4, l5, _, _, rfl, rfl, (Same.new n5) _ _ h4, upd_same, ?_, fun l6 n6 => ?_⟩
      · rw [List.length_map, ta.length]
        show _ + 1 ≤ 2 ^ 24
        omega
      have s6 : Same H4 (upd (upd H4 l5 (.lst [V.ref t])) l6 (.lst (ts.map V.ref ++ [V.ref t]))) := (Same.new n5).trans (Same.new n6)
      refine ⟨l6, ts ++ [t], Krbq.growthWithin b.system (b.system.grown b.grid) p b.system.size b.grid ++ [(p, i)], rfl, by rw [upd_same, List.map_append]; rfl, All2.append (ta.mono fun a x r => s6 _ _ r) (.cons (s6 _ _ (s4 _ _ ht)) .nil), ?_, fun H7 l7 s7 n7 h7 => ?_⟩
      · rw [List.length_append, List.length_singleton]
        omega
      exact k.rd I (((sH.trans s4).trans s6).trans s7) (sH.free (s4.free (s6.free n7))) h7 (rp_first e) (enc_pairs _)
abbrev s_alternatives : Stmt := top 97
theorem sc_alternatives : FnScope ["instance", "grid"] ["instance"] (defScope s_alternatives) := ⟨rfl, rfl, rfl, by decide +kernel, rfl, by decide +kernel, by decide +kernel⟩
abbrev p_alternatives : List Str := ["instance"]
def spAltsA (C : Addr) : Sp := fun vs H Q _ => ∃ (F : Foot) (b : Krbp.Instance), vs = [.ref F.a] ∧ InstAt C H F b ∧ After C H F (Krbq.execute (some b) .alternatives) Q
theorem alts_length {b : Krbp.Instance} (wf : WF b) : (Krbq.alternatives b.system b.grid).length ≤ 432 := by
  rw [alternatives_eq]
  refine Nat.le_trans (flat_length b.system.size) ?_
  exact Nat.mul_le_mul (size_le wf) wf.kl
theorem ok_alternatives (T : Txt K mg C) (D : Df K mg "alternatives" s_alternatives p_alternatives) (F_current_grid : Fd P w K mg base "current_grid" p_current_grid 1 (spGrid C)) (F_grown_grid : Fd P w K mg base "grown_grid" p_grown_grid 8 (spGrown C)) (F_all_alternatives : Fd P w K mg base "all_alternatives" p_all_alternatives 10 (spAllAlts C))
    (F_written_pairs : Fd P w K mg base "written_pairs" p_written_pairs 1 spWPairs) : Fd P w K mg base "alternatives" p_alternatives 11 (spAltsA C) := by
  refine D.ok sc_alternatives (fun vs H Q E h => ?_) (fun f cdv A outer s H vs Q E hr h => ?_)
  · obtain ⟨F, b, rfl, _⟩ := h
    rfl
  · obtain ⟨F, b, rfl, I, k⟩ := h
    refine ⟨_, (pss_cons (ps_set (i := 1) sc_alternatives.nd rfl (Or.inl rfl) (pe_fn F_current_grid (hr.mono (by decide)) rfl (pa_cons (pv 0) pa_nil)))
      (pss_one (ps_ret (pe_fn F_written_pairs (hr.mono (by decide)) rfl (pa_cons (pe_fn F_all_alternatives (hr.mono (by decide)) rfl (pa_cons (pv 0) (pa_cons (pv 1) (pa_cons (pe_fn F_grown_grid (hr.mono (by decide)) rfl (pa_cons (pv 0) (pa_cons (pv 1) pa_nil))) pa_nil)))) pa_nil))))), ?_⟩
    have okg := grid_ok I.wf
    have al := alts_length I.wf
    refine ⟨_, rfl, F, b, rfl, I, fun H1 l1 s1 n1 h1 => ?_⟩
    refine ⟨_, rfl, _, rfl, _, rfl, _, rfl, F, b, l1, b.grid, rfl, I.same s1, h1, okg, fun H2 l2 s2 n2 h2 => ?_⟩
    have W : WoAt C H2 F b l1 l2 b.grid := ⟨I.same (s1.trans s2), s2 _ _ h1, okg, h2⟩
    refine ⟨F, b, l1, l2, b.grid, rfl, W, fun H3 l3 ts s3 n3 h3 ta => ?_⟩
    have sH := (s1.trans s2).trans s3
    refine ⟨l3, ts, _, rfl, h3, ta, by omega, fun H4 l4 s4 n4 h4 => ?_⟩
    exact k.rd I (sH.trans s4) (sH.free n4) h4 rp_alts (enc_pairs _)
/-! ### current_parts, refusal_at -/
abbrev s_current_parts : Stmt := top 99
theorem sc_current_parts : FnScope ["instance", "grid"] ["instance"] (defScope s_current_parts) := ⟨rfl, rfl, rfl, by decide +kernel, rfl, by decide +kernel, by decide +kernel⟩
abbrev p_current_parts : List Str := ["instance"]
def spCurParts (C : Addr) : Sp := fun vs H Q _ => ∃ (F : Foot) (b : Krbp.Instance), vs = [.ref F.a] ∧ InstAt C H F b ∧
  ∀ (H' : Hp) (d : Addr) (as : List Addr), Same H H' → H d = none → H' d = some (.dK (partsV (fillL b.system b.grid) as)) → All2 (PartAt b.system b.grid H') as (fillL b.system b.grid) → Q (.ref d) H'
theorem ok_current_parts (T : Txt K mg C) (D : Df K mg "current_parts" s_current_parts p_current_parts) (F_current_grid : Fd P w K mg base "current_grid" p_current_grid 1 (spGrid C)) (F_grown_grid : Fd P w K mg base "grown_grid" p_grown_grid 8 (spGrown C)) (F_parts_of_growth : Fd P w K mg base "parts_of_growth" p_parts_of_growth 9 (spParts C)) :
    Fd P w K mg base "current_parts" p_current_parts 10 (spCurParts C) := by
  refine D.ok sc_current_parts (fun vs H Q E h => ?_) (fun f cdv A outer s H vs Q E hr h => ?_)
  · obtain ⟨F, b, rfl, _⟩ := h
    rfl
  · obtain ⟨F, b, rfl, I, q⟩ := h
    refine ⟨_, (pss_cons (ps_set (i := 1) sc_current_parts.nd rfl (Or.inl rfl) (pe_fn F_current_grid (hr.mono (by decide)) rfl (pa_cons (pv 0) pa_nil)))
      (pss_one (ps_ret (pe_fn F_parts_of_growth (hr.mono (by decide)) rfl (pa_cons (pv 0) (pa_cons (pv 1) (pa_cons (pe_fn F_grown_grid (hr.mono (by decide)) rfl (pa_cons (pv 0) (pa_cons (pv 1) pa_nil))) pa_nil))))))), ?_⟩
    have okg := grid_ok I.wf
    refine ⟨_, rfl, F, b, rfl, I, fun H1 l1 s1 n1 h1 => ?_⟩
    refine ⟨_, rfl, _, rfl, _, rfl, _, rfl, F, b, l1, b.grid, rfl, I.same s1, h1, okg, fun H2 l2 s2 n2 h2 => ?_⟩
    have W : WoAt C H2 F b l1 l2 b.grid := ⟨I.same (s1.trans s2), s2 _ _ h1, okg, h2⟩
    exact ⟨F, b, l1, l2, b.grid, rfl, W, fun H3 d as s3 n3 h3 pa => q H3 d as ((s1.trans s2).trans s3) (s1.free (s2.free n3)) h3 pa⟩
abbrev s_refusal_at : Stmt := top 100
theorem sc_refusal_at : FnScope ["instance", "x", "y"] ["instance", "x", "y"] (defScope s_refusal_at) := ⟨rfl, rfl, rfl, by decide +kernel, rfl, by decide +kernel, by decide +kernel⟩
abbrev p_refusal_at : List Str := ["instance", "x", "y"]
/-- why a place can't be asked for -/
def RefIs (b : Krbp.Instance) (x y : Nat) (v : V) : Prop :=
  (¬ (x < b.system.width ∧ y < b.system.height) ∧ v = .int (-2)) ∨ ((x < b.system.width ∧ y < b.system.height) ∧ (Krbp.tileAt b.grid (y * b.system.width + x)).isSome = true ∧ v = .int (-17)) ∨
  ((x < b.system.width ∧ y < b.system.height) ∧ (Krbp.tileAt b.grid (y * b.system.width + x)).isSome = false ∧ v = .non)
def spRefusal (C : Addr) : Sp := fun vs H Q _ => ∃ (F : Foot) (b : Krbp.Instance) (x y : Nat), vs = [.ref F.a, tN x, tN y] ∧ InstAt C H F b ∧ ∀ (H' : Hp) (v : V), Same H H' → RefIs b x y v → Q v H'
theorem ok_refusal_at (T : Txt K mg C) (D : Df K mg "refusal_at" s_refusal_at p_refusal_at) (F_has_position : Fd P w K mg base "has_position" p_has_position 1 (spHasPos C)) (F_position_number : Fd P w K mg base "position_number" p_position_number 1 (spPosNum C)) (F_current_grid : Fd P w K mg base "current_grid" p_current_grid 1 (spGrid C)) :
    Fd P w K mg base "refusal_at" p_refusal_at 2 (spRefusal C) := by
  refine D.ok sc_refusal_at (fun vs H Q E h => ?_) (fun f cdv A outer s H vs Q E hr h => ?_)
  · obtain ⟨F, b, x, y, rfl, _⟩ := h
    rfl
  · obtain ⟨F, b, x, y, rfl, I, q⟩ := h
    refine ⟨_, (pss_cons (ps_if (pt_not (pt_val (pe_fn F_has_position (hr.mono (by decide)) rfl (pa_cons (pv 0) (pa_cons (pv 1) (pa_cons (pv 2) pa_nil))))))
      (pss_one (ps_ret (pe_gi rfl T.g_NO_SUCH)))
      pss_nil)
      (pss_cons (ps_if (pt_cmpR op_ne (pe_ix ix_list (pe_fn F_current_grid (hr.mono (by decide)) rfl (pa_cons (pv 0) pa_nil)) (pe_fn F_position_number (hr.mono (by decide)) rfl (pa_cons (pv 0) (pa_cons (pv 1) (pa_cons (pv 2) pa_nil)))) (fun _ _ => rfl)) (pe_gi rfl T.g_EMPTY) (nomark _))
      (pss_one (ps_ret (pe_gi rfl T.g_OCCUPIED)))
      pss_nil)
      (pss_one (ps_ret pe_non)))), ?_⟩
    have okg := grid_ok I.wf
    refine ⟨_, rfl, _, rfl, _, rfl, F, b, x, y, rfl, I, _, rfl, ?_⟩
    by_cases hp : x < b.system.width ∧ y < b.system.height
    · rw [and_true hp]
      refine iteF ?_
      have hpl : y * b.system.width + x < b.system.size := pos_lt hp.1 hp.2
      refine ⟨_, rfl, F, b, rfl, I, fun H1 l1 s1 n1 h1 => ?_⟩
      refine ⟨_, rfl, _, rfl, _, rfl, F, b, x, y, rfl, I.same s1, hp.2, l1, _, _, _, rfl, rfl, SqL.of h1, atI_nat (gV_get (by rw [okg.len]; exact hpl)), rfl, _, rfl, ?_⟩
      rw [enc_ne]
      cases c : (Krbp.tileAt b.grid (y * b.system.width + x)).isSome with
      | true =>
        refine iteT ?_
        exact q H1 _ s1 (.inr (.inl ⟨hp, c, rfl⟩))
      | false =>
        refine iteF ?_
        exact q H1 _ s1 (.inr (.inr ⟨hp, c, rfl⟩))
    · rw [and_false hp]
      refine iteT ?_
      exact q H _ (Same.refl _) (.inl ⟨hp, rfl⟩)
/-! ### grid_without -/
abbrev s_grid_without : Stmt := top 101
theorem sc_grid_without : FnScope ["instance", "x", "y", "refusal", "grid", "grown"] ["instance", "x", "y"] (defScope s_grid_without) := ⟨rfl, rfl, rfl, by decide +kernel, rfl, by decide +kernel, by decide +kernel⟩
abbrev p_grid_without : List Str := ["instance", "x", "y"]
def spWithout (C : Addr) : Sp := fun vs H Q _ => ∃ (F : Foot) (b : Krbp.Instance) (x y : Nat), vs = [.ref F.a, tN x, tN y] ∧ InstAt C H F b ∧ After C H F (Krbq.execute (some b) (.gridWithout x y)) Q
theorem ok_grid_without (T : Txt K mg C) (D : Df K mg "grid_without" s_grid_without p_grid_without) (F_refusal_at : Fd P w K mg base "refusal_at" p_refusal_at 2 (spRefusal C)) (F_current_grid : Fd P w K mg base "current_grid" p_current_grid 1 (spGrid C)) (F_grown_grid : Fd P w K mg base "grown_grid" p_grown_grid 8 (spGrown C))
    (F_part_without : Fd P w K mg base "part_without" p_part_without 8 (spPart C)) (F_position_number : Fd P w K mg base "position_number" p_position_number 1 (spPosNum C)) (F_written_grid : Fd P w K mg base "written_grid" p_written_grid 1 spWGrid) :
    Fd P w K mg base "grid_without" p_grid_without 9 (spWithout C) := by
  refine D.ok sc_grid_without (fun vs H Q E h => ?_) (fun f cdv A outer s H vs Q E hr h => ?_)
  · obtain ⟨F, b, x, y, rfl, _⟩ := h
    rfl
  · obtain ⟨F, b, x, y, rfl, I, k⟩ := h
    refine ⟨_, (pss_cons (ps_set (i := 3) sc_grid_without.nd rfl (Or.inl rfl) (pe_fn F_refusal_at (hr.mono (by decide)) rfl (pa_cons (pv 0) (pa_cons (pv 1) (pa_cons (pv 2) pa_nil)))))
      (pss_cons (ps_if (pt_cmpR op_notN (pv 3) pe_non (nomark _))
      (pss_one (ps_ret (pe_lst (pa_cons (pv 3) pa_nil))))
      pss_nil)
      (pss_cons (ps_set (i := 4) sc_grid_without.nd rfl (Or.inl rfl) (pe_fn F_current_grid (hr.mono (by decide)) rfl (pa_cons (pv 0) pa_nil)))
      (pss_cons (ps_set (i := 5) sc_grid_without.nd rfl (Or.inl rfl) (pe_fn F_grown_grid (hr.mono (by decide)) rfl (pa_cons (pv 0) (pa_cons (pv 4) pa_nil))))
      (pss_one (ps_ret (pe_fn F_written_grid (hr.mono (by decide)) rfl (pa_cons (pe_fn F_part_without (hr.mono (by decide)) rfl (pa_cons (pv 0) (pa_cons (pv 4) (pa_cons (pv 5) (pa_cons (pe_fn F_position_number (hr.mono (by decide)) rfl (pa_cons (pv 0) (pa_cons (pv 1) (pa_cons (pv 2) pa_nil)))) pa_nil))))) pa_nil)))))))), ?_⟩
    have okg := grid_ok I.wf
    refine ⟨_, rfl, _, rfl, _, rfl, F, b, x, y, rfl, I, fun H0 v s0 rv => ?_⟩
    refine ⟨_, rfl, rfl, _, rfl, ?_⟩
    rcases rv with ⟨hp, rfl⟩ | ⟨hp, c, rfl⟩ | ⟨hp, c, rfl⟩
    · refine ifT rfl ?_
      exact ⟨_, rfl, k.err I s0 (rp_wo_pos hp)⟩
    · refine ifT rfl ?_
      exact ⟨_, rfl, k.err I s0 (rp_wo_occ hp c)⟩
    · refine ifF rfl ?_
      have hpl : y * b.system.width + x < b.system.size := pos_lt hp.1 hp.2
      refine ⟨_, rfl, F, b, rfl, I.same s0, fun H1 l1 s1 n1 h1 => ?_⟩
      have s01 := s0.trans s1
      refine ⟨_, rfl, _, rfl, F, b, l1, b.grid, rfl, I.same s01, h1, okg, fun H2 l2 s2 n2 h2 => ?_⟩
      have W : WoAt C H2 F b l1 l2 b.grid := ⟨I.same (s01.trans s2), s2 _ _ h1, okg, h2⟩
      refine ⟨_, rfl, _, rfl, _, rfl, _, rfl, _, rfl, _, rfl, F, b, x, y, rfl, W.1, hp.2, ?_⟩
      refine ⟨F, b, l1, l2, b.grid, _, rfl, W, hpl, fun H3 l3 s3 n3 h3 => ?_⟩
      have sH := (s01.trans s2).trans s3
      exact ⟨l3, _, rfl, h3, by rw [(okg.without _).len]; exact size_le I.wf, fun H4 l4 s4 n4 h4 => k.rd I (sH.trans s4) (sH.free n4) h4 (rp_wo hp c) (enc_grid _)⟩
end
end Gt

namespace Gt
open PySem PySem.Spec PyProof.Rows L2
/-- the parts under a lock of their dict -/
theorem parts_lock {s : Krbp.TileSystem} {g : Krbp.Grid} {H : Hp} {d : Addr} {kvs : List (Key × V)} {o : HO} {as : List Addr} {ps : List Nat} (hd : H d = some (.dK kvs)) (pa : All2 (PartAt s g H) as ps) : All2 (PartAt s g (upd H d o)) as ps :=
  pa.mono fun _ _ r => (upd_ne (ne_of r hd (by intro z; cases z))).trans r
section
variable {P : Program} {w : World} {K : PySem.W.Frag} {mg : Str → Option Value} {base : Heap} {C : Addr}
/-! ### prerequisites -/
abbrev s_prerequisites : Stmt := top 102
theorem sc_prerequisites : FnScope ["instance", "x", "y", "refusal", "parts", "position"] ["instance", "x", "y"] (defScope s_prerequisites) := ⟨rfl, rfl, rfl, by decide +kernel, rfl, by decide +kernel, by decide +kernel⟩
abbrev p_prerequisites : List Str := ["instance", "x", "y"]
def spPre (C : Addr) : Sp := fun vs H Q _ => ∃ (F : Foot) (b : Krbp.Instance) (x y : Nat), vs = [.ref F.a, tN x, tN y] ∧ InstAt C H F b ∧ After C H F (Krbq.execute (some b) (.prerequisites x y)) Q
theorem pre_length {s : Krbp.TileSystem} {g : Krbp.Grid} {p : Nat} : (Krbq.prerequisites s g p).length ≤ s.size := by
  rw [pre_eq]
  exact Nat.le_trans (List.length_filter_le ..) (fill_length s g s.size)
theorem ok_prerequisites (T : Txt K mg C) (D : Df K mg "prerequisites" s_prerequisites p_prerequisites) (F_refusal_at : Fd P w K mg base "refusal_at" p_refusal_at 2 (spRefusal C)) (F_current_parts : Fd P w K mg base "current_parts" p_current_parts 10 (spCurParts C))
    (F_position_number : Fd P w K mg base "position_number" p_position_number 1 (spPosNum C)) (F_prerequisites_in : Fd P w K mg base "prerequisites_in" p_prerequisites_in 1 spPreIn) (F_written_list : Fd P w K mg base "written_list" p_written_list 1 spWList) :
    Fd P w K mg base "prerequisites" p_prerequisites 11 (spPre C) := by
  refine D.ok sc_prerequisites (fun vs H Q E h => ?_) (fun f cdv A outer s H vs Q E hr h => ?_)
  · obtain ⟨F, b, x, y, rfl, _⟩ := h
    rfl
  · obtain ⟨F, b, x, y, rfl, I, k⟩ := h
    refine ⟨_, (pss_cons (ps_set (i := 3) sc_prerequisites.nd rfl (Or.inl rfl) (pe_fn F_refusal_at (hr.mono (by decide)) rfl (pa_cons (pv 0) (pa_cons (pv 1) (pa_cons (pv 2) pa_nil)))))
      (pss_cons (ps_if (pt_cmpR op_notN (pv 3) pe_non (nomark _))
      (pss_one (ps_ret (pe_lst (pa_cons (pv 3) pa_nil))))
      pss_nil)
      (pss_cons (ps_set (i := 4) sc_prerequisites.nd rfl (Or.inl rfl) (pe_fn F_current_parts (hr.mono (by decide)) rfl (pa_cons (pv 0) pa_nil)))
      (pss_cons (ps_set (i := 5) sc_prerequisites.nd rfl (Or.inl rfl) (pe_fn F_position_number (hr.mono (by decide)) rfl (pa_cons (pv 0) (pa_cons (pv 1) (pa_cons (pv 2) pa_nil)))))
      (pss_cons (ps_if (pt_cmp (pc_dnotin (hu_of hr) (pv 5) (pv 4)))
      (pss_one (ps_ret (pe_lst (pa_cons (pe_gi rfl T.g_NOT_THERE) pa_nil))))
      pss_nil)
      (pss_one (ps_ret (pe_fn F_written_list (hr.mono (by decide)) rfl (pa_cons (pe_lock (pe_fn F_prerequisites_in (hr.mono (by decide)) rfl (pa_cons (pv 4) (pa_cons (pv 5) pa_nil)))) pa_nil))))))))), ?_⟩
    have okg := grid_ok I.wf
    have h36 := size_le I.wf
    refine ⟨_, rfl, _, rfl, _, rfl, F, b, x, y, rfl, I, fun H0 v s0 rv => ?_⟩
    refine ⟨_, rfl, rfl, _, rfl, ?_⟩
    rcases rv with ⟨hp, rfl⟩ | ⟨hp, c, rfl⟩ | ⟨hp, c, rfl⟩
    · refine ifT rfl ?_
      exact ⟨_, rfl, k.err I s0 (rp_pre_pos hp)⟩
    · refine ifT rfl ?_
      exact ⟨_, rfl, k.err I s0 (rp_pre_occ hp c)⟩
    · refine ifF rfl ?_
      have hpl : y * b.system.width + x < b.system.size := pos_lt hp.1 hp.2
      refine ⟨_, rfl, F, b, rfl, I.same s0, fun H1 d as s1 n1 hd pa => ?_⟩
      have s01 := s0.trans s1
      refine ⟨_, rfl, _, rfl, _, rfl, F, b, x, y, rfl, I.same s01, hp.2, ?_⟩
      refine ⟨_, rfl, _, rfl, d, _, rfl, DGet.k (k := Sum.inl ((y * b.system.width + x : Nat) : Int)) hd, _, rfl, ?_⟩
      have cn : (Krbp.tileAt b.grid (y * b.system.width + x)).isNone = true := by
        rw [← Option.not_isSome, c]
        rfl
      cases c2 : (Krbp.tileAt (b.system.grown b.grid) (y * b.system.width + x)).isSome with
      | false =>
        have nm : y * b.system.width + x ∉ fillL b.system b.grid := fun z => by
          have := (fill_mem.mp z).2
          unfold fillB at this
          rw [c2, Bool.and_false] at this
          cases this
        rw [parts_not pa nm]
        refine ifT rfl ?_
        exact k.err I s01 (rp_pre_no hp c c2)
      | true =>
        have hm : y * b.system.width + x ∈ fillL b.system b.grid := fill_mem.mpr ⟨hpl, by unfold fillB; rw [cn, c2]; rfl⟩
        obtain ⟨a, ev, _⟩ := parts_val pa hm
        rw [ev]
        refine ifF rfl ?_
        refine ⟨d, _, hd, trivial, fun od => ?_⟩
        refine ⟨_, rfl, _, rfl, d, od, b.system, b.grid, as, _, rfl, upd_same, parts_lock hd pa, okg, h36, hpl, fun H5 l5 s5 n5 h5 => ⟨s5 _ _ upd_same, ?_⟩⟩
        have s6 := Same.unlock hd s5
        have d5 : l5 ≠ d := fun z => by
          rw [z, upd_same] at n5
          cases n5
        refine ⟨l5, _, rfl, (upd_ne d5).trans h5, Nat.le_trans pre_length (by omega), fun H7 l7 s7 n7 h7 => ?_⟩
        exact k.rd I ((s01.trans s6).trans s7) (s01.free (s6.free n7)) h7 (rp_pre hp c c2) (enc_list _)
/-! ### max_prerequisites, independent_positions -/
abbrev s_max_prerequisites : Stmt := top 103
theorem sc_max_prerequisites : FnScope ["instance", "parts", "position"] ["instance"] (defScope s_max_prerequisites) := ⟨rfl, rfl, rfl, by decide +kernel, rfl, by decide +kernel, by decide +kernel⟩
abbrev p_max_prerequisites : List Str := ["instance"]
def spMaxPre (C : Addr) : Sp := fun vs H Q _ => ∃ (F : Foot) (b : Krbp.Instance), vs = [.ref F.a] ∧ InstAt C H F b ∧ After C H F (Krbq.execute (some b) .maxPrerequisites) Q
theorem ok_max_prerequisites (T : Txt K mg C) (D : Df K mg "max_prerequisites" s_max_prerequisites p_max_prerequisites) (F_current_parts : Fd P w K mg base "current_parts" p_current_parts 10 (spCurParts C)) (F_prerequisites_in : Fd P w K mg base "prerequisites_in" p_prerequisites_in 1 spPreIn) :
    Fd P w K mg base "max_prerequisites" p_max_prerequisites 11 (spMaxPre C) := by
  refine D.ok sc_max_prerequisites (fun vs H Q E h => ?_) (fun f cdv A outer s H vs Q E hr h => ?_)
  · obtain ⟨F, b, rfl, _⟩ := h
    rfl
  · obtain ⟨F, b, rfl, I, k⟩ := h
    refine ⟨_, (pss_cons (ps_set (i := 1) sc_max_prerequisites.nd rfl (Or.inr rfl) (pe_fn F_current_parts (hr.mono (by decide)) rfl (pa_cons (pv 0) pa_nil)))
      (pss_one (ps_ret (pe_lst (pa_cons (pe_callB (cr_max rfl) (by rfl) T.b_max (by decide +kernel) (pa_cons (pe_op op_cat (pe_lst (pa_cons pe_int pa_nil)) (pe_lock (pe_lc (own := [("position", 2)]) (g := gName 2) rfl sc_max_prerequisites.nd (pi_keys (pv 1)) (blkOk_by (own := [("position", 2)]) (N := ["instance", "parts", "position"]) (sc := defScope s_max_prerequisites) (by decide +kernel)) (fun _ _ _ _ _ => (pg_name (i := 2) sc_max_prerequisites.nd rfl (Or.inl rfl))) (fun _ _ _ _ _ => pts_nil) (fun _ _ _ _ _ => (pe_callB (call_len_seqK (K := K) rfl) (by rfl) T.b_len PySem.boot_len (pa_cons (pe_fn F_prerequisites_in (hr.mono (by decide)) rfl (pa_cons (pv 1) (pa_cons (pv 2) pa_nil))) pa_nil)))))) pa_nil)) pa_nil))))), ?_⟩
    have okg := grid_ok I.wf
    have h36 := size_le I.wf
    have fl : (fillL b.system b.grid).length ≤ 36 := Nat.le_trans (fill_length b.system b.grid b.system.size) h36
    refine ⟨_, rfl, F, b, rfl, I, fun H1 d as s1 n1 hd pa => ?_⟩
    refine ⟨(by show 1 ≤ sizeLine; decide), fun l0 n0 => ?_⟩
    have s2 : Same H1 (upd H1 l0 (.lst [V.int 0])) := Same.new n0
    have hd2 := s2 _ _ hd
    have d0 : l0 ≠ d := (ne_of_none hd n0).symm
    refine ⟨d, _, hd2, trivial, fun od => ?_⟩
    have pa3 := parts_lock (o := .frz od (.dK (partsV (fillL b.system b.grid) as))) hd2 (pa.mono fun _ _ r => s2 _ _ r)
    refine ⟨_, rfl, d, od, rfl, .inl ⟨_, upd_same, fun D nD => lc_it walk_keys (fun i H' => Same (upd (upd H1 l0 (.lst [V.int 0])) d (.frz od (.dK (partsV (fillL b.system b.grid) as)))) H' ∧ H' D = some (.lst (nums (((fillL b.system b.grid).take i).map fun p => (Krbq.prerequisites b.system b.grid p).length)))) ⟨Same.new nD, upd_same⟩ (fun i H' _ ⟨s', _⟩ => s' _ _ upd_same) ?_ ?_⟩⟩
    · rintro i x H' H2 hi ⟨s', hD⟩ ⟨rfl, kk, v, ek, rfl⟩
      obtain ⟨hlt, rfl⟩ := parts_get pa ek
      have et := List.take_succ_eq_append_getElem hlt
      have hm : (fillL b.system b.grid)[i] ∈ fillL b.system b.grid := List.getElem_mem hlt
      generalize (fillL b.system b.grid)[i] = o at et hm ⊢
      have ho := (fill_mem.mp hm).1
      refine ⟨rfl, ?_⟩
      refine yesT ?_
      refine ⟨_, rfl, _, rfl, d, od, b.system, b.grid, as, o, rfl, s' _ _ upd_same, pa3.mono fun _ _ r => s' _ _ r, okg, h36, ho, fun H5 l5 s5 n5 h5 => ?_⟩
      refine ⟨l5, _, rfl, .inl (SqL.of h5), _, s5 _ _ hD, szn ?_, Same.mut (s'.trans s5) nD, ?_⟩
      · rw [List.length_map, List.length_take]
        omega
      · rw [upd_same, et, List.map_append, List.map_cons, List.map_nil, ← nums_app, nums_length]
    · rintro H4 ⟨s4, hD⟩
      rw [parts_len pa, List.take_length] at hD
      refine ⟨s4 _ _ upd_same, ?_⟩
      have s5 := Same.unlock hd2 s4
      have dD : D ≠ d := fun z => by
        rw [z, upd_same] at nD
        cases nD
      have hl0 := s5 _ _ (show (upd H1 l0 (.lst [V.int 0])) l0 = some (.lst [V.int 0]) from upd_same)
      refine ⟨l0, D, _, _, rfl, rfl, hl0, (upd_ne dD).trans hD, ?_, fun l6 n6 => ?_⟩
      · rw [nums_length, List.length_map]
        show 1 + _ ≤ 2 ^ 24
        omega
      have e6 : [V.int 0] ++ nums ((fillL b.system b.grid).map fun p => (Krbq.prerequisites b.system b.grid p).length) = ((0 :: (fillL b.system b.grid).map fun p => (Krbq.prerequisites b.system b.grid p).length).map fun n : Nat => (n : Int)).map V.int := by
        rw [List.map_map]
        rfl
      refine ⟨l6, _, rfl, SqL.of (by rw [upd_same, e6]), by rw [List.length_map]; exact Nat.succ_pos _, fun m hm hle => ?_⟩
      obtain ⟨m', hm', rfl⟩ := List.mem_map.mp hm
      have em : Krbq.maxPrerequisites b.system b.grid = m' := by
        rw [maxPre_eq]
        refine max_is hm' fun x hx => ?_
        have := hle (x : Int) (List.mem_map.mpr ⟨x, hx, rfl⟩)
        omega
      exact k.err I ((s1.trans (s2.trans s5)).trans (Same.new n6)) (by rw [← em]; exact rp_max)
abbrev s_independent_positions : Stmt := top 104
theorem sc_independent_positions : FnScope ["instance", "parts", "position"] ["instance"] (defScope s_independent_positions) := ⟨rfl, rfl, rfl, by decide +kernel, rfl, by decide +kernel, by decide +kernel⟩
abbrev p_independent_positions : List Str := ["instance"]
def spIndep (C : Addr) : Sp := fun vs H Q _ => ∃ (F : Foot) (b : Krbp.Instance), vs = [.ref F.a] ∧ InstAt C H F b ∧ After C H F (Krbq.execute (some b) .independentPositions) Q
theorem len_eq0 (l : List Nat) : decide (V.int ((l.length : Nat) : Int) = V.int 0) = l.isEmpty := by
  cases l with
  | nil => rfl
  | cons x r =>
    refine decide_eq_false fun z => ?_
    injection z with z
    have z : ((r.length + 1 : Nat) : Int) = 0 := z
    omega
theorem ok_independent_positions (T : Txt K mg C) (D : Df K mg "independent_positions" s_independent_positions p_independent_positions) (F_current_parts : Fd P w K mg base "current_parts" p_current_parts 10 (spCurParts C)) (F_prerequisites_in : Fd P w K mg base "prerequisites_in" p_prerequisites_in 1 spPreIn)
    (F_written_list : Fd P w K mg base "written_list" p_written_list 1 spWList) : Fd P w K mg base "independent_positions" p_independent_positions 11 (spIndep C) := by
  refine D.ok sc_independent_positions (fun vs H Q E h => ?_) (fun f cdv A outer s H vs Q E hr h => ?_)
  · obtain ⟨F, b, rfl, _⟩ := h
    rfl
  · obtain ⟨F, b, rfl, I, k⟩ := h
    refine ⟨_, (pss_cons (ps_set (i := 1) sc_independent_positions.nd rfl (Or.inr rfl) (pe_fn F_current_parts (hr.mono (by decide)) rfl (pa_cons (pv 0) pa_nil)))
      (pss_one (ps_ret (pe_fn F_written_list (hr.mono (by decide)) rfl (pa_cons (pe_lock (pe_lc (own := [("position", 2)]) (g := gName 2) rfl sc_independent_positions.nd (pi_keys (pv 1)) (blkOk_by (own := [("position", 2)]) (N := ["instance", "parts", "position"]) (sc := defScope s_independent_positions) (by decide +kernel)) (fun _ _ _ _ _ => (pg_name (i := 2) sc_independent_positions.nd rfl (Or.inl rfl))) (fun _ _ _ _ _ => (pts_one (pt_cmpR op_eq (pe_callB (call_len_seqK (K := K) rfl) (by rfl) T.b_len PySem.boot_len (pa_cons (pe_fn F_prerequisites_in (hr.mono (by decide)) rfl (pa_cons (pv 1) (pa_cons (pv 2) pa_nil))) pa_nil)) pe_int (nomark _)))) (fun _ _ _ _ _ => (pv 2)))) pa_nil))))), ?_⟩
    have okg := grid_ok I.wf
    have h36 := size_le I.wf
    have fl : (fillL b.system b.grid).length ≤ 36 := Nat.le_trans (fill_length b.system b.grid b.system.size) h36
    refine ⟨_, rfl, F, b, rfl, I, fun H1 d as s1 n1 hd pa => ?_⟩
    refine ⟨d, _, hd, trivial, fun od => ?_⟩
    have pa3 := parts_lock (o := .frz od (.dK (partsV (fillL b.system b.grid) as))) hd pa
    refine ⟨_, rfl, d, od, rfl, .inl ⟨_, upd_same, fun D nD => lc_it walk_keys (fun i H' => Same (upd H1 d (.frz od (.dK (partsV (fillL b.system b.grid) as)))) H' ∧ H' D = some (.lst (nums (((fillL b.system b.grid).take i).filter fun p => (Krbq.prerequisites b.system b.grid p).isEmpty)))) ⟨Same.new nD, upd_same⟩ (fun i H' _ ⟨s', _⟩ => s' _ _ upd_same) ?_ ?_⟩⟩
    · rintro i x H' H2 hi ⟨s', hD⟩ ⟨rfl, kk, v, ek, rfl⟩
      obtain ⟨hlt, rfl⟩ := parts_get pa ek
      have et := List.take_succ_eq_append_getElem hlt
      have hm : (fillL b.system b.grid)[i] ∈ fillL b.system b.grid := List.getElem_mem hlt
      generalize (fillL b.system b.grid)[i] = o at et hm ⊢
      have ho := (fill_mem.mp hm).1
      refine ⟨rfl, ?_⟩
      refine ⟨_, rfl, _, rfl, d, od, b.system, b.grid, as, o, rfl, s' _ _ upd_same, pa3.mono fun _ _ r => s' _ _ r, okg, h36, ho, fun H5 l5 s5 n5 h5 => ?_⟩
      refine ⟨l5, _, rfl, .inl (SqL.of h5), rfl, _, rfl, ?_⟩
      rw [nums_length, len_eq0]
      refine ifB (fun c => ?_) (fun c => ?_)
      · refine ⟨_, rfl, _, s5 _ _ hD, szn ?_, Same.mut (s'.trans s5) nD, ?_⟩
        · refine Nat.le_trans (List.length_filter_le ..) ?_
          rw [List.length_take]
          omega
        · rw [upd_same, et, List.filter_append, List.filter_cons_of_pos (p := fun p => (Krbq.prerequisites b.system b.grid p).isEmpty) c, List.filter_nil, ← nums_app]
          rfl
      · refine ⟨s'.trans s5, ?_⟩
        rw [et, List.filter_append, List.filter_cons_of_neg (p := fun p => (Krbq.prerequisites b.system b.grid p).isEmpty) (by rw [c]; exact Bool.false_ne_true), List.filter_nil, List.append_nil]
        exact s5 _ _ hD
    · rintro H4 ⟨s4, hD⟩
      rw [parts_len pa, List.take_length] at hD
      refine ⟨s4 _ _ upd_same, ?_⟩
      have s5 := Same.unlock hd s4
      have dD : D ≠ d := fun z => by
        rw [z, upd_same] at nD
        cases nD
      refine ⟨D, _, rfl, (upd_ne dD).trans hD, Nat.le_trans (List.length_filter_le ..) (by omega), fun H7 l7 s7 n7 h7 => ?_⟩
      exact k.rd I ((s1.trans s5).trans s7) (s1.free (s5.free n7)) h7 rp_indep (enc_list _)
end
end Gt

namespace Gt
open PySem PySem.Spec PyProof.Rows L2
section
variable {P : Program} {w : World} {K : PySem.W.Frag} {mg : Str → Option Value} {base : Heap} {C CS aG : Addr}
/-! ### answer_call's promise -/
def Given (k : Nat) (xs : List Nat) : Prop := k ≤ 21 ∧ (k ≠ 1 → xs.length = gvn k)
def spCall (CS C : Addr) : Sp := fun vs H Q _ => ∃ (ss gl : Addr) (f : Addr → Prop) (st : Krbp.State) (k : Nat) (xs : List Nat), vs = [.ref ss, tN k, .ref gl] ∧ SessAt CS C H ss f st ∧ H gl = some (.lst (nums xs)) ∧ Given k xs ∧ attLen st ≤ 100000 ∧
  AfterS CS C H ss f (Krbq.execute st (opOf k xs)) Q
abbrev s_answer_change : Stmt := top 106
theorem sc_answer_change : FnScope ["instance", "number", "given"] ["instance", "number", "given"] (defScope s_answer_change) := ⟨rfl, rfl, rfl, by decide +kernel, rfl, by decide +kernel, by decide +kernel⟩
abbrev p_answer_change : List Str := ["instance", "number", "given"]
def spChange (C : Addr) : Sp := fun vs H Q _ => ∃ (F : Foot) (b : Krbp.Instance) (gl : Addr) (k : Nat) (xs : List Nat), vs = [.ref F.a, tN k, .ref gl] ∧ InstAt C H F b ∧ H gl = some (.lst (nums xs)) ∧ Given k xs ∧ 1 ≤ k ∧ k ≤ 9 ∧ b.attached.length ≤ 100000 ∧
  After C H F (Krbq.execute (some b) (opOf k xs)) Q
theorem ok_answer_change (T : Txt K mg C) (D : Df K mg "answer_change" s_answer_change p_answer_change) (F_add_tile_kind : Fd P w K mg base "add_tile_kind" p_add_tile_kind 2 (spAddKind C)) (F_set_strength : Fd P w K mg base "set_strength" p_set_strength 2 (spSetStr C))
    (F_set_threshold : Fd P w K mg base "set_threshold" p_set_threshold 2 (spSetThr C)) (F_add_seed : Fd P w K mg base "add_seed" p_add_seed 2 (spAddSeed C)) (F_remove_seed : Fd P w K mg base "remove_seed" p_remove_seed 2 (spRemSeed C)) (F_attach : Fd P w K mg base "attach" p_attach 3 (spAttach C))
    (F_undo_attach : Fd P w K mg base "undo_attach" p_undo_attach 1 (spUndo C)) (F_clear_attached : Fd P w K mg base "clear_attached" p_clear_attached 2 (spClear C)) (F_grow : Fd P w K mg base "grow" p_grow 8 (spGrow C)) : Fd P w K mg base "answer_change" p_answer_change 9 (spChange C) := by
  refine D.ok sc_answer_change (fun vs H Q E h => ?_) (fun f cdv A outer s H vs Q E hr h => ?_)
  · obtain ⟨F, b, gl, k, xs, rfl, _⟩ := h
    rfl
  · obtain ⟨F, b, gl, k, xs, rfl, I, hg, ⟨_, hx⟩, h1, h9, hatt, q⟩ := h
    refine ⟨_, (pss_cons (ps_if (pt_cmpR op_eq (pv 1) (pe_gi rfl T.g_ADD_TILE_KIND) (nomark _))
      (pss_one (ps_ret (pe_fn F_add_tile_kind (hr.mono (by decide)) rfl (pa_cons (pv 0) (pa_cons (pv 2) pa_nil)))))
      pss_nil)
      (pss_cons (ps_if (pt_cmpR op_eq (pv 1) (pe_gi rfl T.g_SET_STRENGTH) (nomark _))
      (pss_one (ps_ret (pe_fn F_set_strength (hr.mono (by decide)) rfl (pa_cons (pv 0) (pa_cons (pe_ix ix_list (pv 2) pe_int (fun _ _ => rfl)) (pa_cons (pe_ix ix_list (pv 2) pe_int (fun _ _ => rfl)) pa_nil))))))
      pss_nil)
      (pss_cons (ps_if (pt_cmpR op_eq (pv 1) (pe_gi rfl T.g_SET_THRESHOLD) (nomark _))
      (pss_one (ps_ret (pe_fn F_set_threshold (hr.mono (by decide)) rfl (pa_cons (pv 0) (pa_cons (pe_ix ix_list (pv 2) pe_int (fun _ _ => rfl)) pa_nil)))))
      pss_nil)
      (pss_cons (ps_if (pt_cmpR op_eq (pv 1) (pe_gi rfl T.g_ADD_SEED) (nomark _))
      (pss_one (ps_ret (pe_fn F_add_seed (hr.mono (by decide)) rfl (pa_cons (pv 0) (pa_cons (pe_ix ix_list (pv 2) pe_int (fun _ _ => rfl)) (pa_cons (pe_ix ix_list (pv 2) pe_int (fun _ _ => rfl)) (pa_cons (pe_ix ix_list (pv 2) pe_int (fun _ _ => rfl)) pa_nil)))))))
      pss_nil)
      (pss_cons (ps_if (pt_cmpR op_eq (pv 1) (pe_gi rfl T.g_REMOVE_SEED) (nomark _))
      (pss_one (ps_ret (pe_fn F_remove_seed (hr.mono (by decide)) rfl (pa_cons (pv 0) (pa_cons (pe_ix ix_list (pv 2) pe_int (fun _ _ => rfl)) (pa_cons (pe_ix ix_list (pv 2) pe_int (fun _ _ => rfl)) pa_nil))))))
      pss_nil)
      (pss_cons (ps_if (pt_cmpR op_eq (pv 1) (pe_gi rfl T.g_ATTACH) (nomark _))
      (pss_one (ps_ret (pe_fn F_attach (hr.mono (by decide)) rfl (pa_cons (pv 0) (pa_cons (pe_ix ix_list (pv 2) pe_int (fun _ _ => rfl)) (pa_cons (pe_ix ix_list (pv 2) pe_int (fun _ _ => rfl)) (pa_cons (pe_ix ix_list (pv 2) pe_int (fun _ _ => rfl)) pa_nil)))))))
      pss_nil)
      (pss_cons (ps_if (pt_cmpR op_eq (pv 1) (pe_gi rfl T.g_UNDO_ATTACH) (nomark _))
      (pss_one (ps_ret (pe_fn F_undo_attach (hr.mono (by decide)) rfl (pa_cons (pv 0) pa_nil))))
      pss_nil)
      (pss_cons (ps_if (pt_cmpR op_eq (pv 1) (pe_gi rfl T.g_CLEAR_ATTACHED) (nomark _))
      (pss_one (ps_ret (pe_fn F_clear_attached (hr.mono (by decide)) rfl (pa_cons (pv 0) pa_nil))))
      pss_nil)
      (pss_one (ps_ret (pe_fn F_grow (hr.mono (by decide)) rfl (pa_cons (pv 0) pa_nil)))))))))))), ?_⟩
    match k, h1, h9, hx, q with
    | 1, _, _, _, q => exact ⟨_, rfl, rfl, _, rfl, ifT rfl ⟨_, rfl, _, rfl, F, b, gl, xs, rfl, I, hg, q⟩⟩
    | 2, _, _, hx, q =>
      have hl := hx (by decide)
      refine ⟨_, rfl, rfl, _, rfl, ifF (by decide) ?_⟩
      refine ⟨_, rfl, rfl, _, rfl, ifT rfl ?_⟩
      exact ⟨_, rfl, _, rfl, gl, _, _, _, rfl, rfl, SqL.of hg, at_of (j := 0) rfl (nums_get (by rw [hl]; decide)), _, rfl, gl, _, _, _, rfl, rfl, SqL.of hg, at_of (j := 1) rfl (nums_get (by rw [hl]; decide)), F, b, _, _, rfl, I, q⟩
    | 3, _, _, hx, q =>
      have hl := hx (by decide)
      refine ⟨_, rfl, rfl, _, rfl, ifF (by decide) ?_⟩
      refine ⟨_, rfl, rfl, _, rfl, ifF (by decide) ?_⟩
      refine ⟨_, rfl, rfl, _, rfl, ifT rfl ?_⟩
      exact ⟨_, rfl, _, rfl, gl, _, _, _, rfl, rfl, SqL.of hg, at_of (j := 0) rfl (nums_get (by rw [hl]; decide)), F, b, _, rfl, I, q⟩
    | 4, _, _, hx, q =>
      have hl := hx (by decide)
      refine ⟨_, rfl, rfl, _, rfl, ifF (by decide) ?_⟩
      refine ⟨_, rfl, rfl, _, rfl, ifF (by decide) ?_⟩
      refine ⟨_, rfl, rfl, _, rfl, ifF (by decide) ?_⟩
      refine ⟨_, rfl, rfl, _, rfl, ifT rfl ?_⟩
      exact ⟨_, rfl, _, rfl, gl, _, _, _, rfl, rfl, SqL.of hg, at_of (j := 0) rfl (nums_get (by rw [hl]; decide)), _, rfl, gl, _, _, _, rfl, rfl, SqL.of hg, at_of (j := 1) rfl (nums_get (by rw [hl]; decide)), _, rfl, gl, _, _, _, rfl, rfl, SqL.of hg, at_of (j := 2) rfl (nums_get (by rw [hl]; decide)), F, b, _, _, _, rfl, I, q⟩
    | 5, _, _, hx, q =>
      have hl := hx (by decide)
      refine ⟨_, rfl, rfl, _, rfl, ifF (by decide) ?_⟩
      refine ⟨_, rfl, rfl, _, rfl, ifF (by decide) ?_⟩
      refine ⟨_, rfl, rfl, _, rfl, ifF (by decide) ?_⟩
      refine ⟨_, rfl, rfl, _, rfl, ifF (by decide) ?_⟩
      refine ⟨_, rfl, rfl, _, rfl, ifT rfl ?_⟩
      exact ⟨_, rfl, _, rfl, gl, _, _, _, rfl, rfl, SqL.of hg, at_of (j := 0) rfl (nums_get (by rw [hl]; decide)), _, rfl, gl, _, _, _, rfl, rfl, SqL.of hg, at_of (j := 1) rfl (nums_get (by rw [hl]; decide)), F, b, _, _, rfl, I, q⟩
    | 6, _, _, hx, q =>
      have hl := hx (by decide)
      refine ⟨_, rfl, rfl, _, rfl, ifF (by decide) ?_⟩
      refine ⟨_, rfl, rfl, _, rfl, ifF (by decide) ?_⟩
      refine ⟨_, rfl, rfl, _, rfl, ifF (by decide) ?_⟩
      refine ⟨_, rfl, rfl, _, rfl, ifF (by decide) ?_⟩
      refine ⟨_, rfl, rfl, _, rfl, ifF (by decide) ?_⟩
      refine ⟨_, rfl, rfl, _, rfl, ifT rfl ?_⟩
      exact ⟨_, rfl, _, rfl, gl, _, _, _, rfl, rfl, SqL.of hg, at_of (j := 0) rfl (nums_get (by rw [hl]; decide)), _, rfl, gl, _, _, _, rfl, rfl, SqL.of hg, at_of (j := 1) rfl (nums_get (by rw [hl]; decide)), _, rfl, gl, _, _, _, rfl, rfl, SqL.of hg, at_of (j := 2) rfl (nums_get (by rw [hl]; decide)), F, b, _, _, _, rfl, I, hatt, q⟩
    | 7, _, _, _, q =>
      refine ⟨_, rfl, rfl, _, rfl, ifF (by decide) ?_⟩
      refine ⟨_, rfl, rfl, _, rfl, ifF (by decide) ?_⟩
      refine ⟨_, rfl, rfl, _, rfl, ifF (by decide) ?_⟩
      refine ⟨_, rfl, rfl, _, rfl, ifF (by decide) ?_⟩
      refine ⟨_, rfl, rfl, _, rfl, ifF (by decide) ?_⟩
      refine ⟨_, rfl, rfl, _, rfl, ifF (by decide) ?_⟩
      refine ⟨_, rfl, rfl, _, rfl, ifT rfl ?_⟩
      exact ⟨_, rfl, F, b, rfl, I, q⟩
    | 8, _, _, _, q =>
      refine ⟨_, rfl, rfl, _, rfl, ifF (by decide) ?_⟩
      refine ⟨_, rfl, rfl, _, rfl, ifF (by decide) ?_⟩
      refine ⟨_, rfl, rfl, _, rfl, ifF (by decide) ?_⟩
      refine ⟨_, rfl, rfl, _, rfl, ifF (by decide) ?_⟩
      refine ⟨_, rfl, rfl, _, rfl, ifF (by decide) ?_⟩
      refine ⟨_, rfl, rfl, _, rfl, ifF (by decide) ?_⟩
      refine ⟨_, rfl, rfl, _, rfl, ifF (by decide) ?_⟩
      refine ⟨_, rfl, rfl, _, rfl, ifT rfl ?_⟩
      exact ⟨_, rfl, F, b, rfl, I, q⟩
    | 9, _, _, _, q =>
      refine ⟨_, rfl, rfl, _, rfl, ifF (by decide) ?_⟩
      refine ⟨_, rfl, rfl, _, rfl, ifF (by decide) ?_⟩
      refine ⟨_, rfl, rfl, _, rfl, ifF (by decide) ?_⟩
      refine ⟨_, rfl, rfl, _, rfl, ifF (by decide) ?_⟩
      refine ⟨_, rfl, rfl, _, rfl, ifF (by decide) ?_⟩
      refine ⟨_, rfl, rfl, _, rfl, ifF (by decide) ?_⟩
      refine ⟨_, rfl, rfl, _, rfl, ifF (by decide) ?_⟩
      refine ⟨_, rfl, rfl, _, rfl, ifF (by decide) ?_⟩
      exact ⟨_, rfl, F, b, rfl, I, hatt, q⟩
    | k + 10, _, h9, _, _ => exact absurd h9 (by omega)
/-! ### answer_report -/
abbrev s_answer_report : Stmt := top 107
theorem sc_answer_report : FnScope ["instance", "number", "given"] ["instance", "number", "given"] (defScope s_answer_report) := ⟨rfl, rfl, rfl, by decide +kernel, rfl, by decide +kernel, by decide +kernel⟩
abbrev p_answer_report : List Str := ["instance", "number", "given"]
def spReport (C : Addr) : Sp := fun vs H Q _ => ∃ (F : Foot) (b : Krbp.Instance) (gl : Addr) (k : Nat) (xs : List Nat), vs = [.ref F.a, tN k, .ref gl] ∧ InstAt C H F b ∧ H gl = some (.lst (nums xs)) ∧ Given k xs ∧ 10 ≤ k ∧
  After C H F (Krbq.execute (some b) (opOf k xs)) Q
theorem ok_answer_report (T : Txt K mg C) (D : Df K mg "answer_report" s_answer_report p_answer_report)
    (F_parallel_rounds : Fd P w K mg base "parallel_rounds" p_parallel_rounds 7 (spPar C))
    (F_get_grid : Fd P w K mg base "get_grid" p_get_grid 2 (spGetGrid C))
    (F_get_tile_kind : Fd P w K mg base "get_tile_kind" p_get_tile_kind 2 (spGetKind C))
    (F_status : Fd P w K mg base "status" p_status 1 (spStatus C))
    (F_is_unique : Fd P w K mg base "is_unique" p_is_unique 11 (spUnique C))
    (F_first_alternative : Fd P w K mg base "first_alternative" p_first_alternative 11 (spFirstA C))
    (F_alternatives : Fd P w K mg base "alternatives" p_alternatives 11 (spAltsA C))
    (F_terminal_grid : Fd P w K mg base "terminal_grid" p_terminal_grid 9 (spTerm C))
    (F_grid_without : Fd P w K mg base "grid_without" p_grid_without 9 (spWithout C))
    (F_prerequisites : Fd P w K mg base "prerequisites" p_prerequisites 11 (spPre C))
    (F_max_prerequisites : Fd P w K mg base "max_prerequisites" p_max_prerequisites 11 (spMaxPre C))
    (F_independent_positions : Fd P w K mg base "independent_positions" p_independent_positions 11 (spIndep C)) :
    Fd P w K mg base "answer_report" p_answer_report 12 (spReport C) := by
  refine D.ok sc_answer_report (fun vs H Q E h => ?_) (fun f cdv A outer s H vs Q E hr h => ?_)
  · obtain ⟨F, b, gl, k, xs, rfl, _⟩ := h
    rfl
  · obtain ⟨F, b, gl, k, xs, rfl, I, hg, ⟨h21, hx⟩, h10, q⟩ := h
    refine ⟨_, (pss_cons (ps_if (pt_cmpR op_eq (pv 1) (pe_gi rfl T.g_PARALLEL_ROUNDS) (nomark _))
      (pss_one (ps_ret (pe_fn F_parallel_rounds (hr.mono (by decide)) rfl (pa_cons (pv 0) pa_nil))))
      pss_nil)
      (pss_cons (ps_if (pt_cmpR op_eq (pv 1) (pe_gi rfl T.g_GET_GRID) (nomark _))
      (pss_one (ps_ret (pe_fn F_get_grid (hr.mono (by decide)) rfl (pa_cons (pv 0) pa_nil))))
      pss_nil)
      (pss_cons (ps_if (pt_cmpR op_eq (pv 1) (pe_gi rfl T.g_GET_TILE_KIND) (nomark _))
      (pss_one (ps_ret (pe_fn F_get_tile_kind (hr.mono (by decide)) rfl (pa_cons (pv 0) (pa_cons (pe_ix ix_list (pv 2) pe_int (fun _ _ => rfl)) pa_nil)))))
      pss_nil)
      (pss_cons (ps_if (pt_cmpR op_eq (pv 1) (pe_gi rfl T.g_STATUS) (nomark _))
      (pss_one (ps_ret (pe_fn F_status (hr.mono (by decide)) rfl (pa_cons (pv 0) pa_nil))))
      pss_nil)
      (pss_cons (ps_if (pt_cmpR op_eq (pv 1) (pe_gi rfl T.g_IS_UNIQUE) (nomark _))
      (pss_one (ps_ret (pe_fn F_is_unique (hr.mono (by decide)) rfl (pa_cons (pv 0) pa_nil))))
      pss_nil)
      (pss_cons (ps_if (pt_cmpR op_eq (pv 1) (pe_gi rfl T.g_FIRST_ALTERNATIVE) (nomark _))
      (pss_one (ps_ret (pe_fn F_first_alternative (hr.mono (by decide)) rfl (pa_cons (pv 0) pa_nil))))
      pss_nil)
      (pss_cons (ps_if (pt_cmpR op_eq (pv 1) (pe_gi rfl T.g_ALTERNATIVES) (nomark _))
      (pss_one (ps_ret (pe_fn F_alternatives (hr.mono (by decide)) rfl (pa_cons (pv 0) pa_nil))))
      pss_nil)
      (pss_cons (ps_if (pt_cmpR op_eq (pv 1) (pe_gi rfl T.g_TERMINAL_GRID) (nomark _))
      (pss_one (ps_ret (pe_fn F_terminal_grid (hr.mono (by decide)) rfl (pa_cons (pv 0) pa_nil))))
      pss_nil)
      (pss_cons (ps_if (pt_cmpR op_eq (pv 1) (pe_gi rfl T.g_GRID_WITHOUT) (nomark _))
      (pss_one (ps_ret (pe_fn F_grid_without (hr.mono (by decide)) rfl (pa_cons (pv 0) (pa_cons (pe_ix ix_list (pv 2) pe_int (fun _ _ => rfl)) (pa_cons (pe_ix ix_list (pv 2) pe_int (fun _ _ => rfl)) pa_nil))))))
      pss_nil)
      (pss_cons (ps_if (pt_cmpR op_eq (pv 1) (pe_gi rfl T.g_PREREQUISITES) (nomark _))
      (pss_one (ps_ret (pe_fn F_prerequisites (hr.mono (by decide)) rfl (pa_cons (pv 0) (pa_cons (pe_ix ix_list (pv 2) pe_int (fun _ _ => rfl)) (pa_cons (pe_ix ix_list (pv 2) pe_int (fun _ _ => rfl)) pa_nil))))))
      pss_nil)
      (pss_cons (ps_if (pt_cmpR op_eq (pv 1) (pe_gi rfl T.g_MAX_PREREQUISITES) (nomark _))
      (pss_one (ps_ret (pe_fn F_max_prerequisites (hr.mono (by decide)) rfl (pa_cons (pv 0) pa_nil))))
      pss_nil)
      (pss_one (ps_ret (pe_fn F_independent_positions (hr.mono (by decide)) rfl (pa_cons (pv 0) pa_nil))))))))))))))), ?_⟩
    match k, h21, h10, hx, q with
    | 0, _, h, _, _ | 1, _, h, _, _ | 2, _, h, _, _ | 3, _, h, _, _ | 4, _, h, _, _ | 5, _, h, _, _ | 6, _, h, _, _ | 7, _, h, _, _ | 8, _, h, _, _ | 9, _, h, _, _ => exact absurd h (by decide)
    | 10, _, _, hx, q =>
      refine ⟨_, rfl, rfl, _, rfl, ifT rfl ?_⟩
      exact ⟨_, rfl, F, b, rfl, I, q⟩
    | 11, _, _, hx, q =>
      refine ⟨_, rfl, rfl, _, rfl, ifF (by decide) ?_⟩
      refine ⟨_, rfl, rfl, _, rfl, ifT rfl ?_⟩
      exact ⟨_, rfl, F, b, rfl, I, q⟩
    | 12, _, _, hx, q =>
      have hl := hx (by decide)
      refine ⟨_, rfl, rfl, _, rfl, ifF (by decide) ?_⟩
      refine ⟨_, rfl, rfl, _, rfl, ifF (by decide) ?_⟩
      refine ⟨_, rfl, rfl, _, rfl, ifT rfl ?_⟩
      exact ⟨_, rfl, _, rfl, gl, _, _, _, rfl, rfl, SqL.of hg, at_of (j := 0) rfl (nums_get (by rw [hl]; decide)), F, b, _, rfl, I, q⟩
    | 13, _, _, hx, q =>
      refine ⟨_, rfl, rfl, _, rfl, ifF (by decide) ?_⟩
      refine ⟨_, rfl, rfl, _, rfl, ifF (by decide) ?_⟩
      refine ⟨_, rfl, rfl, _, rfl, ifF (by decide) ?_⟩
      refine ⟨_, rfl, rfl, _, rfl, ifT rfl ?_⟩
      exact ⟨_, rfl, F, b, rfl, I, q⟩
    | 14, _, _, hx, q =>
      refine ⟨_, rfl, rfl, _, rfl, ifF (by decide) ?_⟩
      refine ⟨_, rfl, rfl, _, rfl, ifF (by decide) ?_⟩
      refine ⟨_, rfl, rfl, _, rfl, ifF (by decide) ?_⟩
      refine ⟨_, rfl, rfl, _, rfl, ifF (by decide) ?_⟩
      refine ⟨_, rfl, rfl, _, rfl, ifT rfl ?_⟩
      exact ⟨_, rfl, F, b, rfl, I, q⟩
    | 15, _, _, hx, q =>
      refine ⟨_, rfl, rfl, _, rfl, ifF (by decide) ?_⟩
      refine ⟨_, rfl, rfl, _, rfl, ifF (by decide) ?_⟩
      refine ⟨_, rfl, rfl, _, rfl, ifF (by decide) ?_⟩
      refine ⟨_, rfl, rfl, _, rfl, ifF (by decide) ?_⟩
      refine ⟨_, rfl, rfl, _, rfl, ifF (by decide) ?_⟩
      refine ⟨_, rfl, rfl, _, rfl, ifT rfl ?_⟩
      exact ⟨_, rfl, F, b, rfl, I, q⟩
    | 16, _, _, hx, q =>
      refine ⟨_, rfl, rfl, _, rfl, ifF (by decide) ?_⟩
      refine ⟨_, rfl, rfl, _, rfl, ifF (by decide) ?_⟩
      refine ⟨_, rfl, rfl, _, rfl, ifF (by decide) ?_⟩
      refine ⟨_, rfl, rfl, _, rfl, ifF (by decide) ?_⟩
      refine ⟨_, rfl, rfl, _, rfl, ifF (by decide) ?_⟩
      refine ⟨_, rfl, rfl, _, rfl, ifF (by decide) ?_⟩
      refine ⟨_, rfl, rfl, _, rfl, ifT rfl ?_⟩
      exact ⟨_, rfl, F, b, rfl, I, q⟩
    | 17, _, _, hx, q =>
      refine ⟨_, rfl, rfl, _, rfl, ifF (by decide) ?_⟩
      refine ⟨_, rfl, rfl, _, rfl, ifF (by decide) ?_⟩
      refine ⟨_, rfl, rfl, _, rfl, ifF (by decide) ?_⟩
      refine ⟨_, rfl, rfl, _, rfl, ifF (by decide) ?_⟩
      refine ⟨_, rfl, rfl, _, rfl, ifF (by decide) ?_⟩
      refine ⟨_, rfl, rfl, _, rfl, ifF (by decide) ?_⟩
      refine ⟨_, rfl, rfl, _, rfl, ifF (by decide) ?_⟩
      refine ⟨_, rfl, rfl, _, rfl, ifT rfl ?_⟩
      exact ⟨_, rfl, F, b, rfl, I, q⟩
    | 18, _, _, hx, q =>
      have hl := hx (by decide)
      refine ⟨_, rfl, rfl, _, rfl, ifF (by decide) ?_⟩
      refine ⟨_, rfl, rfl, _, rfl, ifF (by decide) ?_⟩
      refine ⟨_, rfl, rfl, _, rfl, ifF (by decide) ?_⟩
      refine ⟨_, rfl, rfl, _, rfl, ifF (by decide) ?_⟩
      refine ⟨_, rfl, rfl, _, rfl, ifF (by decide) ?_⟩
      refine ⟨_, rfl, rfl, _, rfl, ifF (by decide) ?_⟩
      refine ⟨_, rfl, rfl, _, rfl, ifF (by decide) ?_⟩
      refine ⟨_, rfl, rfl, _, rfl, ifF (by decide) ?_⟩
      refine ⟨_, rfl, rfl, _, rfl, ifT rfl ?_⟩
      exact ⟨_, rfl, _, rfl, gl, _, _, _, rfl, rfl, SqL.of hg, at_of (j := 0) rfl (nums_get (by rw [hl]; decide)), _, rfl, gl, _, _, _, rfl, rfl, SqL.of hg, at_of (j := 1) rfl (nums_get (by rw [hl]; decide)), F, b, _, _, rfl, I, q⟩
    | 19, _, _, hx, q =>
      have hl := hx (by decide)
      refine ⟨_, rfl, rfl, _, rfl, ifF (by decide) ?_⟩
      refine ⟨_, rfl, rfl, _, rfl, ifF (by decide) ?_⟩
      refine ⟨_, rfl, rfl, _, rfl, ifF (by decide) ?_⟩
      refine ⟨_, rfl, rfl, _, rfl, ifF (by decide) ?_⟩
      refine ⟨_, rfl, rfl, _, rfl, ifF (by decide) ?_⟩
      refine ⟨_, rfl, rfl, _, rfl, ifF (by decide) ?_⟩
      refine ⟨_, rfl, rfl, _, rfl, ifF (by decide) ?_⟩
      refine ⟨_, rfl, rfl, _, rfl, ifF (by decide) ?_⟩
      refine ⟨_, rfl, rfl, _, rfl, ifF (by decide) ?_⟩
      refine ⟨_, rfl, rfl, _, rfl, ifT rfl ?_⟩
      exact ⟨_, rfl, _, rfl, gl, _, _, _, rfl, rfl, SqL.of hg, at_of (j := 0) rfl (nums_get (by rw [hl]; decide)), _, rfl, gl, _, _, _, rfl, rfl, SqL.of hg, at_of (j := 1) rfl (nums_get (by rw [hl]; decide)), F, b, _, _, rfl, I, q⟩
    | 20, _, _, hx, q =>
      refine ⟨_, rfl, rfl, _, rfl, ifF (by decide) ?_⟩
      refine ⟨_, rfl, rfl, _, rfl, ifF (by decide) ?_⟩
      refine ⟨_, rfl, rfl, _, rfl, ifF (by decide) ?_⟩
      refine ⟨_, rfl, rfl, _, rfl, ifF (by decide) ?_⟩
      refine ⟨_, rfl, rfl, _, rfl, ifF (by decide) ?_⟩
      refine ⟨_, rfl, rfl, _, rfl, ifF (by decide) ?_⟩
      refine ⟨_, rfl, rfl, _, rfl, ifF (by decide) ?_⟩
      refine ⟨_, rfl, rfl, _, rfl, ifF (by decide) ?_⟩
      refine ⟨_, rfl, rfl, _, rfl, ifF (by decide) ?_⟩
      refine ⟨_, rfl, rfl, _, rfl, ifF (by decide) ?_⟩
      refine ⟨_, rfl, rfl, _, rfl, ifT rfl ?_⟩
      exact ⟨_, rfl, F, b, rfl, I, q⟩
    | 21, _, _, hx, q =>
      refine ⟨_, rfl, rfl, _, rfl, ifF (by decide) ?_⟩
      refine ⟨_, rfl, rfl, _, rfl, ifF (by decide) ?_⟩
      refine ⟨_, rfl, rfl, _, rfl, ifF (by decide) ?_⟩
      refine ⟨_, rfl, rfl, _, rfl, ifF (by decide) ?_⟩
      refine ⟨_, rfl, rfl, _, rfl, ifF (by decide) ?_⟩
      refine ⟨_, rfl, rfl, _, rfl, ifF (by decide) ?_⟩
      refine ⟨_, rfl, rfl, _, rfl, ifF (by decide) ?_⟩
      refine ⟨_, rfl, rfl, _, rfl, ifF (by decide) ?_⟩
      refine ⟨_, rfl, rfl, _, rfl, ifF (by decide) ?_⟩
      refine ⟨_, rfl, rfl, _, rfl, ifF (by decide) ?_⟩
      refine ⟨_, rfl, rfl, _, rfl, ifF (by decide) ?_⟩
      exact ⟨_, rfl, F, b, rfl, I, q⟩
    | k + 22, h, _, _, _ => exact absurd h (by omega)
/-! ### answer_call -/
abbrev s_answer_call : Stmt := top 108
theorem sc_answer_call : FnScope ["session", "number", "given"] ["session", "number", "given"] (defScope s_answer_call) := ⟨rfl, rfl, rfl, by decide +kernel, rfl, by decide +kernel, by decide +kernel⟩
abbrev p_answer_call : List Str := ["session", "number", "given"]
theorem ex_none {k : Nat} (h : k ≤ 21) (h0 : k ≠ 0) (xs : List Nat) : Krbq.execute none (opOf k xs) = (none, ⟨-11, []⟩) := by
  match k, h, h0 with
  | 0, _, h0 => exact absurd rfl h0
  | 1, _, _ => rfl
  | 2, _, _ => rfl
  | 3, _, _ => rfl
  | 4, _, _ => rfl
  | 5, _, _ => rfl
  | 6, _, _ => rfl
  | 7, _, _ => rfl
  | 8, _, _ => rfl
  | 9, _, _ => rfl
  | 10, _, _ => rfl
  | 11, _, _ => rfl
  | 12, _, _ => rfl
  | 13, _, _ => rfl
  | 14, _, _ => rfl
  | 15, _, _ => rfl
  | 16, _, _ => rfl
  | 17, _, _ => rfl
  | 18, _, _ => rfl
  | 19, _, _ => rfl
  | 20, _, _ => rfl
  | 21, _, _ => rfl
  | k + 22, h, _ => exact absurd h (by omega)
/-- what holds behind a session's operation holds behind its instance's -/
theorem AfterS.inst {H : Hp} {ss dx : Addr} {F : Foot} {out : Krbp.State × Krbp.Result} {Q : VK} (k : AfterS CS C H ss (fun c => c = ss ∨ F.own c) out Q) (h : H ss = some (.ins CS dx [("instance", .ref F.a)])) (hn : ¬ F.own ss) : After C H F out Q := by
  intro H' F' b' l eF eo I' fr n hl
  have hn' : ¬ F'.own ss := fun z => by
    rcases fr.nw ss z with z | z
    · exact hn z
    · rw [h] at z
      cases z
  obtain ⟨st, res⟩ := out
  have eo : st = some b' := eo
  subst eo
  refine k H' (fun c => c = ss ∨ F'.own c) l (.yes (by rw [eF]; exact fr.kp _ _ h hn) I' hn') ⟨fun c o e hf => fr.kp c o e fun z => hf (.inr z), fun c hc => ?_, fr.st⟩ n hl
  rcases hc with z | z
  · exact .inl (.inl z)
  · rcases fr.nw c z with z | z
    · exact .inl (.inr z)
    · exact .inr z
theorem ok_answer_call (T : Txt K mg C) (S : TxtS K mg CS) (D : Df K mg "answer_call" s_answer_call p_answer_call) (F_create : Fd P w K mg base "create" p_create 3 (spCreate CS C)) (F_answer_change : Fd P w K mg base "answer_change" p_answer_change 9 (spChange C))
    (F_answer_report : Fd P w K mg base "answer_report" p_answer_report 12 (spReport C)) : Fd P w K mg base "answer_call" p_answer_call 13 (spCall CS C) := by
  refine D.ok sc_answer_call (fun vs H Q E h => ?_) (fun f cdv A outer s H vs Q E hr h => ?_)
  · obtain ⟨ss, gl, f, st, k, xs, rfl, _⟩ := h
    rfl
  · obtain ⟨ss, gl, ft, st, k, xs, rfl, Se, hg, gv, hatt, q⟩ := h
    refine ⟨_, (pss_cons (ps_if (pt_cmpR op_eq (pv 1) (pe_gi rfl T.g_CREATE) (nomark _))
      (pss_one (ps_ret (pe_fn F_create (hr.mono (by decide)) rfl (pa_cons (pv 0) (pa_cons (pe_ix ix_list (pv 2) pe_int (fun _ _ => rfl)) (pa_cons (pe_ix ix_list (pv 2) pe_int (fun _ _ => rfl)) (pa_cons (pe_ix ix_list (pv 2) pe_int (fun _ _ => rfl)) pa_nil)))))))
      pss_nil)
      (pss_cons (ps_if (pt_cmpR op_isN (pe_fld (pv 0) rfl) pe_non (nomark _))
      (pss_one (ps_ret (pe_lst (pa_cons (pe_gi rfl T.g_NO_INSTANCE) pa_nil))))
      pss_nil)
      (pss_cons (ps_if (pt_cmpR op_le (pv 1) (pe_gi rfl T.g_GROW) (nomark _))
      (pss_one (ps_ret (pe_fn F_answer_change (hr.mono (by decide)) rfl (pa_cons (pe_fld (pv 0) rfl) (pa_cons (pv 1) (pa_cons (pv 2) pa_nil))))))
      pss_nil)
      (pss_one (ps_ret (pe_fn F_answer_report (hr.mono (by decide)) rfl (pa_cons (pe_fld (pv 0) rfl) (pa_cons (pv 1) (pa_cons (pv 2) pa_nil))))))))), ?_⟩
    refine ⟨_, rfl, rfl, _, rfl, ?_⟩
    by_cases h0 : k = 0
    · subst h0
      have hl := gv.2 (by decide)
      refine ifT rfl ?_
      exact ⟨_, rfl, _, rfl, gl, _, _, _, rfl, rfl, SqL.of hg, at_of (j := 0) rfl (nums_get (by rw [hl]; decide)), _, rfl, gl, _, _, _, rfl, rfl, SqL.of hg, at_of (j := 1) rfl (nums_get (by rw [hl]; decide)), _, rfl, gl, _, _, _, rfl, rfl, SqL.of hg, at_of (j := 2) rfl (nums_get (by rw [hl]; decide)), ss, ft, st, _, _, _, rfl, Se, q⟩
    · refine ifF (decide_eq_false fun z => h0 (by injection z with z; exact Int.ofNat.inj z)) ?_
      cases Se with
      | no h =>
        refine ⟨_, rfl, ss, CS, _, _, _, rfl, h, S.cs, S.n_instance, lk_here, rfl, _, rfl, ifT rfl ?_⟩
        exact q.err (.no h) (Same.refl _) (ex_none gv.1 h0 xs)
      | yes h I hn =>
        rename_i dx F b
        refine ⟨_, rfl, ss, CS, _, _, _, rfl, h, S.cs, S.n_instance, lk_here, rfl, _, rfl, ifF rfl ?_⟩
        refine ⟨_, rfl, _, _, rfl, rfl, _, rfl, ?_⟩
        have q' := AfterS.inst q h hn
        refine ifB (fun c => ?_) (fun c => ?_)
        · have c := of_decide_eq_true c
          exact ⟨_, rfl, ss, CS, _, _, _, rfl, h, S.cs, S.n_instance, lk_here, _, rfl, _, rfl, F, b, gl, k, xs, rfl, I, hg, gv, by omega, by omega, hatt, q'⟩
        · have c := of_decide_eq_false c
          exact ⟨_, rfl, ss, CS, _, _, _, rfl, h, S.cs, S.n_instance, lk_here, _, rfl, _, rfl, F, b, gl, k, xs, rfl, I, hg, gv, by omega, q'⟩
/-! ### the list that is handed in stands -/
def CallsAt (K : PySem.W.Frag) (H : Hp) (f : Addr → Prop) (a : Addr) (xs : List V) : Prop := (∃ o, H a = some (.frz o (.lst xs)) ∧ ¬ f a) ∨ ∀ H', SqL K H' a xs
theorem CallsAt.sq {H : Hp} {f : Addr → Prop} {a : Addr} {xs : List V} (h : CallsAt K H f a xs) : SqL K H a xs := by
  rcases h with ⟨o, h, _⟩ | h
  · exact .inl (.inr ⟨o, h⟩)
  · exact h H
theorem CallsAt.of {H : Hp} {a : Addr} {xs : List V} (h : SqL K H a xs) (hO : OnlyF H) : CallsAt K H (fun _ => False) a xs := by
  rcases h with (h | ⟨o, h⟩) | h
  · rcases hO a with z | ⟨o, u, z⟩
    · rw [h] at z
      cases z
    · rw [h] at z
      cases z
  · exact .inl ⟨o, h, fun z => z⟩
  · exact .inr fun _ => .inr h
theorem CallsAt.same {H H' : Hp} {f : Addr → Prop} {a : Addr} {xs : List V} (h : CallsAt K H f a xs) (s : Same H H') : CallsAt K H' f a xs := by
  rcases h with ⟨o, h, n⟩ | h
  · exact .inl ⟨o, s _ _ h, n⟩
  · exact .inr h
theorem CallsAt.frame {H H' : Hp} {f f' : Addr → Prop} {a : Addr} {xs : List V} (h : CallsAt K H f a xs) (s : FrameS H f H' f') : CallsAt K H' f' a xs := by
  rcases h with ⟨o, h, n⟩ | h
  · refine .inl ⟨o, s.kp _ _ h n, fun z => ?_⟩
    rcases s.nw a z with z | z
    · exact n z
    · rw [h] at z
      cases z
  · exact .inr h
theorem CallsAt.upd {H : Hp} {f : Addr → Prop} {a c : Addr} {xs ys : List V} {o : HO} (h : CallsAt K H f a xs) (hc : H c = some (.lst ys)) : CallsAt K (upd H c o) f a xs := by
  rcases h with ⟨o', h, n⟩ | h
  · exact .inl ⟨o', (upd_ne (ne_of h hc (by intro z; cases z))).trans h, n⟩
  · exact .inr h
theorem SessAt.upd {H : Hp} {ss c : Addr} {f : Addr → Prop} {st : Krbp.State} {xs : List V} {o : HO} (h : SessAt CS C H ss f st) (hf : ¬ f c) (hc : H c = some (.lst xs)) : SessAt CS C (upd H c o) ss f st := by
  cases h with
  | no h => exact .no ((upd_ne (ne_of h hc (by intro z; cases z))).trans h)
  | yes h I hn => exact .yes ((upd_ne (ne_of h hc (by intro z; cases z))).trans h) (I.upd_out (fun z => hf (.inr z)) hc (by intro l z; cases z)) hn
theorem SessAt.size {H : Hp} {ss : Addr} {f : Addr → Prop} {st : Krbp.State} (h : SessAt CS C H ss f st) : ∀ b, st = some b → b.system.size ≤ 36 := by
  intro b e
  cases h with
  | no h => cases e
  | yes h I hn =>
    cases e
    exact size_le I.wf
theorem cut_take {l : List Int} {i j : Nat} (h : j ≤ l.length) (hij : i ≤ j) : cutV (l.map V.int) (some (i : Int)) (some (j : Int)) = ((l.drop i).take (j - i)).map V.int := by
  unfold cutV
  rw [HT.sIx_nat, HT.sIx_nat, List.length_map, Nat.min_eq_left h, Nat.min_eq_left (Nat.le_trans hij h), List.map_take, List.map_drop]
theorem toNat_nums {l : List Int} (h : ∀ x ∈ l, 0 ≤ x) : l.map V.int = nums (l.map Int.toNat) := by
  unfold nums
  rw [List.map_map]
  refine List.map_congr_left fun x hx => ?_
  have := h x hx
  show V.int x = V.int ((x.toNat : Nat) : Int)
  rw [Int.toNat_of_nonneg this]
/-- what a head says: the number, the numbers given, the operation -/
theorem head_says {l : List Int} {n : Nat} {c : List (List Int)} (h : Head l n c) (h0 : ∀ x ∈ l, 0 ≤ x) : ∃ (k : Nat) (r ys : List Int), l = (k : Int) :: r ∧ (l.drop (skip l)).take (n - skip l) = ys ∧ (∀ x ∈ ys, 0 ≤ x) ∧ Given k (ys.map Int.toNat) ∧ KrbqNeutral.operation c = opOf k (ys.map Int.toNat) ∧ skip l ≤ n := by
  cases h with
  | row hm hl =>
    rename_i m r
    refine ⟨1, m :: r, r.take m.toNat, rfl, ?_, fun x hx => h0 x (List.mem_cons_of_mem _ (List.mem_cons_of_mem _ (List.mem_of_mem_take hx))), ⟨by omega, fun z => absurd rfl z⟩, op_row _, ?_⟩
    · have e : skip (1 :: m :: r) = 2 := rfl
      rw [e, Nat.add_sub_cancel_left]
      rfl
    · have e : skip (1 :: m :: r) = 2 := rfl
      omega
  | nums hk h1 hl =>
    rename_i k r
    have e : skip ((k : Int) :: r) = 1 := if_neg (by simp; omega)
    refine ⟨k, r, r.take (gvn k), rfl, ?_, fun x hx => h0 x (List.mem_cons_of_mem _ (List.mem_of_mem_take hx)), ⟨hk, fun _ => ?_⟩, op_nums hk h1 _, by omega⟩
    · rw [e, Nat.add_sub_cancel_left]
      rfl
    · rw [List.length_map, List.length_take, Nat.min_eq_left hl]
theorem enc_eq (r : Krbp.Result) : KrbqNeutral.encodeResult r = encR r := rfl
/-! ### answers -/
abbrev s_answers : Stmt := top 109
theorem sc_answers : FnScope ["calls", "session", "written", "at", "end", "answered"] ["calls"] (defScope s_answers) := ⟨rfl, rfl, rfl, by decide +kernel, rfl, by decide +kernel, by decide +kernel⟩
abbrev p_answers : List Str := ["calls"]
def spAnswers (K : PySem.W.Frag) : Sp := fun vs H Q _ => ∃ (a : Addr) (ns : List Int), vs = [.ref a] ∧ SqL K H a (ns.map V.int) ∧ OnlyF H ∧ (∀ x ∈ ns, 0 ≤ x) ∧ PyKrbq.answers_asked ns = true ∧
  ∀ (H' : Hp) (p : Addr), H' p = some (.lst ((PyKrbq.answers ns).map V.int)) → Q (.ref p) H'
def AnW (K : PySem.W.Frag) (CS C a ss wl : Addr) (ns : List Int) : Nat → L2.St → Hp → Prop := fun m σ H' => ∃ (i fuel : Nat) (st : Krbp.State) (raw : List (List (List Int))) (wr : List Int) (f : Addr → Prop) (v4 v5 : Option V),
  m = ns.length - i ∧ i ≤ ns.length ∧ σ = [some (.ref a), some (.ref ss), some (.ref wl), some (tN i), v4, v5] ∧ CallsAt K H' f a (ns.map V.int) ∧ SessAt CS C H' ss f st ∧ H' wl = some (.lst (wr.map V.int)) ∧ ¬ f wl ∧
  PyFlat.calls PyKrbq.shape fuel (ns.drop i) = some raw ∧ PyKrbq.answers ns = wr ++ PyFlat.told (PyFlat.played KrbqNeutral.step st raw) ∧ attLen st + 36 * raw.length ≤ 1440
theorem ok_answers {f : Addr} {fd : FuncData} (T : Txt K mg C) (D : Fun K "answers" "answers" s_answers f fd) (M_Session : MkC P w K mg base "Session" CS p_Session_init 1 (spInitS CS)) (F_given_end : Fd P w K mg base "given_end" p_given_end 1 (spEnd K)) (F_given_begin : Fd P w K mg base "given_begin" p_given_begin 1 (spBegin K))
    (F_answer_call : Fd P w K mg base "answer_call" p_answer_call 13 (spCall CS C)) : FnOk P w K mg base CX0 14 f fd p_answers (spAnswers K) := by
  refine D.ok sc_answers (fun vs H Q E h => ?_) (fun cdv A outer s H vs Q E hr h => ?_)
  · obtain ⟨a, ns, rfl, _⟩ := h
    rfl
  · obtain ⟨a, ns, rfl, hS, hO, h0, hask, q⟩ := h
    refine ⟨_, (pss_cons (ps_set (i := 1) sc_answers.nd rfl (Or.inl rfl) (pe_mk0 M_Session (hr.mono (by decide)) rfl))
      (pss_cons (ps_set (i := 2) sc_answers.nd rfl (Or.inl rfl) (pe_lst pa_nil))
      (pss_cons (ps_set (i := 3) sc_answers.nd rfl (Or.inl rfl) pe_int)
      (pss_cons (ps_while PassesOwn.never (pt_cmpR op_lt (pv 3) (pe_callB call_len_seq (by rfl) T.b_len PySem.boot_len (pa_cons (pv 0) pa_nil)) (nomark _))
      (pss_cons (ps_set (i := 4) sc_answers.nd rfl (Or.inl rfl) (pe_fn F_given_end (hr.mono (by decide)) rfl (pa_cons (pv 0) (pa_cons (pv 3) pa_nil))))
        (pss_cons (ps_set (i := 5) sc_answers.nd rfl (Or.inl rfl) (pe_fn F_answer_call (hr.mono (by decide)) rfl (pa_cons (pv 1) (pa_cons (pe_ix ix_list (pv 0) (pv 3) (fun _ _ => rfl)) (pa_cons (pe_slice sl_list (pv 0) (po_some (pe_fn F_given_begin (hr.mono (by decide)) rfl (pa_cons (pv 0) (pa_cons (pv 3) pa_nil)))) (po_some (pv 4))) pa_nil)))))
        (pss_cons (ps_expr (pe_bm PySem.F.plainAttrs_list PySem.F.slot_list_append PySem.F.type_list_append mt_append (pv 2) (pa_cons (pe_callB call_len_seq (by rfl) T.b_len PySem.boot_len (pa_cons (pv 5) pa_nil)) pa_nil)))
        (pss_cons (ps_expr (pe_bm PySem.F.plainAttrs_list PySem.F.slot_list_extend PySem.F.type_list_extend mt_extend (pv 2) (pa_cons (pv 5) pa_nil)))
        (pss_one (ps_set (i := 3) sc_answers.nd rfl (Or.inl rfl) (pv 4))))))))
      (pss_one (ps_ret (pv 2))))))), ?_⟩
    obtain ⟨raw0, eraw, h40, hshort⟩ := asked_of hask
    -- session = Session()
    intro ss dS nS ndS ne
    refine ⟨ss, dS, rfl, upd_same, fun H1 hss kp1 => ⟨rfl, ?_⟩⟩
    have s1 : Same H H1 := Same.made nS ndS kp1
    -- written = []
    refine ⟨Nat.zero_le _, fun wl nW => ?_⟩
    have dws : wl ≠ ss := (ne_of_none hss nW).symm
    have c0 : CallsAt K (upd H1 wl (.lst [])) (fun c => c = ss) a (ns.map V.int) := by
      rcases CallsAt.of hS hO with ⟨o, h, _⟩ | h
      · exact .inl ⟨o, (s1.trans (Same.new nW)) _ _ h, ne_of_none h nS⟩
      · exact .inr h
    refine ⟨AnW K CS C a ss wl ns, ⟨_, 0, ns.length, none, raw0, [], _, none, none, rfl, Nat.zero_le _, rfl, c0, .no ((Same.new nW) _ _ hss), upd_same, dws, eraw, answers_eq eraw, by show 0 + 36 * raw0.length ≤ 1440; omega⟩, ?_⟩
    rintro _ _ H2 ⟨i, fuel, st, raw, wr, f2, v4, v5, rfl, hi, rfl, hc, hs, hw, nfw, ecalls, eans, hatt⟩
    refine ⟨_, rfl, _, rfl, a, _, rfl, .inl hc.sq, _, _, rfl, rfl, _, rfl, ?_⟩
    rw [List.length_map, dlt]
    by_cases hlt : i < ns.length
    · rw [decide_eq_true hlt]
      refine ifT rfl ?_
      refine ⟨fun σ' H' => ∃ m', m' < ns.length - i ∧ AnW K CS C a ss wl ns m' σ' H', fun _ _ h => h, ?_⟩
      have hne : ns.drop i ≠ [] := fun z => by
        have := congrArg List.length z
        rw [List.length_drop] at this
        have : ns.length - i = 0 := this
        omega
      obtain ⟨fuel', n, c, cs, hh, hn, hn1, rfl, ecs⟩ := calls_step hne ecalls
      rw [List.length_drop] at hn
      obtain ⟨k, r, ys, el, eys, hy0, hgv, eop, hsk⟩ := head_says hh fun x hx => h0 x (List.mem_of_mem_drop hx)
      -- end = given_end(calls, at)
      refine ⟨_, rfl, _, rfl, a, ns, i, n, c, rfl, hc.sq, hh, ?_⟩
      -- answered = answer_call(session, calls[at], calls[given_begin(calls, at):end])
      refine ⟨_, rfl, _, rfl, _, rfl, a, _, _, _, rfl, rfl, hc.sq, atI_nat (drop_get el), ?_⟩
      refine ⟨_, rfl, _, rfl, _, rfl, a, ns, i, n, c, rfl, hc.sq, hh, _, rfl, _, rfl, _, rfl, a, _, rfl, hc.sq, fun gl nG => ?_⟩
      have ecut : cutV (ns.map V.int) (some ((i + skip (ns.drop i) : Nat) : Int)) (some ((i + n : Nat) : Int)) = nums (ys.map Int.toNat) := by
        rw [cut_take (by omega) (by omega), ← List.drop_drop, Nat.add_sub_add_left, eys, toNat_nums hy0]
      have estep : KrbqNeutral.step st c = ((Krbq.execute st (opOf k (ys.map Int.toNat))).1, encR (Krbq.execute st (opOf k (ys.map Int.toNat))).2) := by
        unfold KrbqNeutral.step
        rw [eop]
        rfl
      have eplay : PyFlat.told (PyFlat.played KrbqNeutral.step st (c :: cs)) = ((encR (Krbq.execute st (opOf k (ys.map Int.toNat))).2).length : Int) :: (encR (Krbq.execute st (opOf k (ys.map Int.toNat))).2 ++ PyFlat.told (PyFlat.played KrbqNeutral.step (Krbq.execute st (opOf k (ys.map Int.toNat))).1 cs)) := by
        show PyFlat.told ((KrbqNeutral.step st c).2 :: PyFlat.played KrbqNeutral.step (KrbqNeutral.step st c).1 cs) = _
        rw [estep]
        rfl
      have hatt' : attLen st + 36 * (cs.length + 1) ≤ 1440 := hatt
      refine ⟨ss, gl, f2, st, k, ys.map Int.toNat, rfl, hs.same (Same.new nG), by rw [upd_same, ecut], hgv, by omega, ?_⟩
      have hstep : ∀ b', (Krbq.execute st (opOf k (ys.map Int.toNat))).1 = some b' → b'.attached.length ≤ attLen st + 36 := fun b' => att_step (op := opOf k (ys.map Int.toNat)) hs.size
      generalize Krbq.execute st (opOf k (ys.map Int.toNat)) = out at eplay hstep ⊢
      obtain ⟨st', res⟩ := out
      intro H3 f3 l hs3 fr3 nl hl
      have hw3 : H3 wl = some (.lst (wr.map V.int)) := fr3.kp _ _ ((Same.new nG) _ _ hw) nfw
      have nf3 : ¬ f3 wl := fun z => by
        rcases fr3.nw wl z with z | z
        · exact nfw z
        · rw [(Same.new nG) _ _ hw] at z
          cases z
      have dlw : l ≠ wl := (ne_of_none ((Same.new nG) _ _ hw) nl).symm
      have hlen : wr.length + (1 + (encR res).length) ≤ 10000000 := by
        have e := congrArg List.length eans
        rw [eplay, List.length_append, List.length_cons, List.length_append] at e
        dsimp only at e
        omega
      -- written.append(len(answered)); written.extend(answered); at = end
      refine ⟨_, rfl, .inl ⟨rfl, _, SqL.of hw3⟩, _, rfl, l, _, rfl, .inl (SqL.of hl), wl, _, _, rfl, rfl, hw3, ?_, ?_⟩
      · rw [List.length_map]
        show _ < 2 ^ 24
        omega
      refine ⟨_, rfl, .inl ⟨rfl, _, SqL.of upd_same⟩, _, rfl, wl, l, _, _, rfl, rfl, upd_same, (upd_ne dlw).trans hl, ?_, ?_⟩
      · rw [List.length_append, List.length_map, List.length_map]
        show _ + 1 + _ ≤ 2 ^ 24
        dsimp only
        omega
      refine ⟨_, rfl, ?_⟩
      refine ⟨ns.length - (i + n), by omega, i + n, fuel', st', cs, wr ++ ((encR res).length : Int) :: encR res, f3, _, _, rfl, by omega, rfl, (((hc.same (Same.new nG)).frame fr3).upd hw3).upd upd_same, (hs3.upd nf3 hw3).upd nf3 upd_same, ?_, nf3, by rw [← List.drop_drop]; exact ecs, ?_, ?_⟩
      · rw [upd_same, List.map_append, List.length_map, List.append_assoc]
        rfl
      · rw [eans, eplay, List.append_assoc]
        rfl
      · have : attLen st' ≤ attLen st + 36 := by
          cases st' with
          | none => exact Nat.zero_le _
          | some b' => exact hstep b' rfl
        omega
    · rw [decide_eq_false hlt]
      refine ifF rfl ?_
      have ei : i = ns.length := by omega
      subst ei
      rw [List.drop_length] at ecalls
      have := calls_nil ecalls
      subst this
      rw [show PyFlat.told (PyFlat.played KrbqNeutral.step st []) = [] from rfl, List.append_nil] at eans
      refine ⟨_, rfl, q H2 wl ?_⟩
      rw [eans]
      exact hw
end
end Gt

namespace Gt
open PySem PySem.Spec PyProof.Rows L2
theorem df_mk {K : PySem.W.Frag} {mg : Str → Option Value} {h : Heap} {x : Str} {st : Stmt} {ps : List Str} {f : Addr} {od an : Option Addr} {sl : Array (Option Value)} {oc kV dc pm cd ct : Value} (X : K.In h) (G : h.Ns mainGlobals mg)
    (a : PySem.W.nsIn K mainGlobals x = some (some (.ref f))) (l : K.lookup f = some ⟨oc, od, .func (PySem.W.fnOf x x (defArgs st) (defBody st) (defScope st) .none kV dc pm an cd ct), sl⟩) (c : PySem.W.codeIn K cd x = true) (k : PySem.W.keepIn K (.ref f) = true)
    (b : ∀ (kV doc pm : Value) (an : Option Addr) (cdv ct : Value) (us : List Value), us.length = ps.length → bindArgs (PySem.W.fnOf x x (defArgs st) (defBody st) (defScope st) .none kV doc pm an cdv ct) ⟨us, []⟩ = pure (ps.zip us)) : Df K mg x st ps := by
  have F := fun_mk (st := st) l c k
  exact ⟨f, _, PySem.W.mg_of X G a, F, F.binds b⟩
/-- a whole number that the top has written -/
def GIr (K : PySem.W.Frag) (x : Str) (n : Int) : Prop := ∃ t, PySem.W.nsIn K mainGlobals x = some (some (.int n t))
theorem gir_mk {K : PySem.W.Frag} {x : Str} {n : Int} {t : Tok} (a : PySem.W.nsIn K mainGlobals x = some (some (.int n t))) : GIr K x n := ⟨t, a⟩
theorem GIr.gi {K : PySem.W.Frag} {mg : Str → Option Value} {h : Heap} {x : Str} {n : Int} (X : K.In h) (G : h.Ns mainGlobals mg) (a : GIr K x n) : GI mg x n := by
  obtain ⟨t, a⟩ := a
  exact ⟨t, PySem.W.mg_of X G a⟩
theorem finish {P : Program} {w : World} {K : PySem.W.Frag} {h : Heap} {mg : Str → Option Value} {fa : Addr}
    {C fI : Addr} {odI anI : Option Addr} {slI : Array (Option Value)} {ocI kVI dcI pmI cdI ctI : Value}
    {CS fS : Addr} {odS anS : Option Addr} {slS : Array (Option Value)} {ocS kVS dcS pmS cdS ctS : Value}
    {aG : Addr} {ocG : Value} {odG : Option Addr} {itsG : Array Value} {nG : Nat} {slG : Array (Option Value)}
    {fA : Addr} {odA anA : Option Addr} {slA : Array (Option Value)} {ocA kVA dcA pmA cdA ctA : Value}
    (X : K.In h) (G : h.Ns mainGlobals mg) (hfa : mg "answers" = some (.ref fa))
    (aI : PySem.W.nsIn K mainGlobals "Instance" = some (some (.ref C)))
    (pgI : PySem.W.plainGet K C Str.empty = true)
    (hdI : PySem.W.hasDictIn K C = true)
    (poI : PySem.W.plainOver K C = true)
    (saI : PySem.W.findIn K (.ref C) "__setattr__" = some (some (.builtin "object.__setattr__")))
    (nI_width : PySem.W.findIn K (.ref C) "width" = some none)
    (nI_height : PySem.W.findIn K (.ref C) "height" = some none)
    (nI_threshold : PySem.W.findIn K (.ref C) "threshold" = some none)
    (nI_strengths : PySem.W.findIn K (.ref C) "strengths" = some none)
    (nI_kinds : PySem.W.findIn K (.ref C) "kinds" = some none)
    (nI_seeds : PySem.W.findIn K (.ref C) "seeds" = some none)
    (nI_attached : PySem.W.findIn K (.ref C) "attached" = some none)
    (mkI : PySem.W.makesIn K C = true)
    (kcI : PySem.W.keepIn K (.ref C) = true)
    (inI : PySem.W.findIn K (.ref C) "__init__" = some (some (.ref fI)))
    (fnI : PySem.W.isFn K (.ref fI) = true)
    (lI : K.lookup fI = some ⟨ocI, odI, .func (PySem.W.fnOf "__init__" "Instance.__init__" (defArgs s_Instance_init) (defBody s_Instance_init) (defScope s_Instance_init) .none kVI dcI pmI anI cdI ctI), slI⟩)
    (cI : PySem.W.codeIn K cdI "Instance.__init__" = true)
    (kI : PySem.W.keepIn K (.ref fI) = true)
    (aS : PySem.W.nsIn K mainGlobals "Session" = some (some (.ref CS)))
    (pgS : PySem.W.plainGet K CS Str.empty = true)
    (hdS : PySem.W.hasDictIn K CS = true)
    (poS : PySem.W.plainOver K CS = true)
    (saS : PySem.W.findIn K (.ref CS) "__setattr__" = some (some (.builtin "object.__setattr__")))
    (nS_instance : PySem.W.findIn K (.ref CS) "instance" = some none)
    (mkS : PySem.W.makesIn K CS = true)
    (kcS : PySem.W.keepIn K (.ref CS) = true)
    (inS : PySem.W.findIn K (.ref CS) "__init__" = some (some (.ref fS)))
    (fnS : PySem.W.isFn K (.ref fS) = true)
    (lS : K.lookup fS = some ⟨ocS, odS, .func (PySem.W.fnOf "__init__" "Session.__init__" (defArgs s_Session_init) (defBody s_Session_init) (defScope s_Session_init) .none kVS dcS pmS anS cdS ctS), slS⟩)
    (cS : PySem.W.codeIn K cdS "Session.__init__" = true)
    (kS : PySem.W.keepIn K (.ref fS) = true)
    (aGv : PySem.W.nsIn K mainGlobals "GIVEN" = some (some (.ref aG)))
    (lG : K.lookup aG = some ⟨ocG, odG, .seq itsG nG, slG⟩)
    (oG : ocG = .type "tuple")
    (vG : Vals (nums gvL) itsG.toList)
    (c_EMPTY : GIr K "EMPTY" 0)
    (c_MOST_GLUE : GIr K "MOST_GLUE" 9)
    (c_NORTH : GIr K "NORTH" 0)
    (c_EAST : GIr K "EAST" 1)
    (c_SOUTH : GIr K "SOUTH" 2)
    (c_WEST : GIr K "WEST" 3)
    (c_NO_SUCH : GIr K "NO_SUCH" (-2))
    (c_NOTHING_ATTACHED : GIr K "NOTHING_ATTACHED" (-6))
    (c_NO_INSTANCE : GIr K "NO_INSTANCE" (-11))
    (c_NOT_ATTACHABLE : GIr K "NOT_ATTACHABLE" (-14))
    (c_OCCUPIED : GIr K "OCCUPIED" (-17))
    (c_OUT_OF_LIMITS : GIr K "OUT_OF_LIMITS" (-22))
    (c_KINDS_FULL : GIr K "KINDS_FULL" (-28))
    (c_NOT_THERE : GIr K "NOT_THERE" (-33))
    (c_MOST_SIDE : GIr K "MOST_SIDE" 6)
    (c_MOST_THRESHOLD : GIr K "MOST_THRESHOLD" 4)
    (c_MOST_STRENGTH : GIr K "MOST_STRENGTH" 3)
    (c_MOST_KINDS : GIr K "MOST_KINDS" 12)
    (c_SIDES : GIr K "SIDES" 4)
    (c_CREATE : GIr K "CREATE" 0)
    (c_ADD_TILE_KIND : GIr K "ADD_TILE_KIND" 1)
    (c_SET_STRENGTH : GIr K "SET_STRENGTH" 2)
    (c_SET_THRESHOLD : GIr K "SET_THRESHOLD" 3)
    (c_ADD_SEED : GIr K "ADD_SEED" 4)
    (c_REMOVE_SEED : GIr K "REMOVE_SEED" 5)
    (c_ATTACH : GIr K "ATTACH" 6)
    (c_UNDO_ATTACH : GIr K "UNDO_ATTACH" 7)
    (c_CLEAR_ATTACHED : GIr K "CLEAR_ATTACHED" 8)
    (c_GROW : GIr K "GROW" 9)
    (c_PARALLEL_ROUNDS : GIr K "PARALLEL_ROUNDS" 10)
    (c_GET_GRID : GIr K "GET_GRID" 11)
    (c_GET_TILE_KIND : GIr K "GET_TILE_KIND" 12)
    (c_STATUS : GIr K "STATUS" 13)
    (c_IS_UNIQUE : GIr K "IS_UNIQUE" 14)
    (c_FIRST_ALTERNATIVE : GIr K "FIRST_ALTERNATIVE" 15)
    (c_ALTERNATIVES : GIr K "ALTERNATIVES" 16)
    (c_TERMINAL_GRID : GIr K "TERMINAL_GRID" 17)
    (c_GRID_WITHOUT : GIr K "GRID_WITHOUT" 18)
    (c_PREREQUISITES : GIr K "PREREQUISITES" 19)
    (c_MAX_PREREQUISITES : GIr K "MAX_PREREQUISITES" 20)
    (z_len : PySem.W.nsIn K mainGlobals "len" = some none)
    (z_list : PySem.W.nsIn K mainGlobals "list" = some none)
    (z_max : PySem.W.nsIn K mainGlobals "max" = some none)
    (z_range : PySem.W.nsIn K mainGlobals "range" = some none)
    (aA : PySem.W.nsIn K mainGlobals "answers" = some (some (.ref fA)))
    (lA : K.lookup fA = some ⟨ocA, odA, .func (PySem.W.fnOf "answers" "answers" (defArgs s_answers) (defBody s_answers) (defScope s_answers) .none kVA dcA pmA anA cdA ctA), slA⟩)
    (cA : PySem.W.codeIn K cdA "answers" = true)
    (kA : PySem.W.keepIn K (.ref fA) = true)
    (D_has_position : Df K mg "has_position" s_has_position p_has_position)
    (D_has_kind : Df K mg "has_kind" s_has_kind p_has_kind)
    (D_position_number : Df K mg "position_number" s_position_number p_position_number)
    (D_current_grid : Df K mg "current_grid" s_current_grid p_current_grid)
    (D_neighbours : Df K mg "neighbours" s_neighbours p_neighbours)
    (D_bond : Df K mg "bond" s_bond p_bond)
    (D_binding_strength : Df K mg "binding_strength" s_binding_strength p_binding_strength)
    (D_is_attachable : Df K mg "is_attachable" s_is_attachable p_is_attachable)
    (D_smallest_kind : Df K mg "smallest_kind" s_smallest_kind p_smallest_kind)
    (D_free_choice : Df K mg "free_choice" s_free_choice p_free_choice)
    (D_first_attachment : Df K mg "first_attachment" s_first_attachment p_first_attachment)
    (D_chosen_steps : Df K mg "chosen_steps" s_chosen_steps p_chosen_steps)
    (D_growth_steps : Df K mg "growth_steps" s_growth_steps p_growth_steps)
    (D_after_steps : Df K mg "after_steps" s_after_steps p_after_steps)
    (D_after_round : Df K mg "after_round" s_after_round p_after_round)
    (D_count_rounds : Df K mg "count_rounds" s_count_rounds p_count_rounds)
    (D_outside : Df K mg "outside" s_outside p_outside)
    (D_drop_attached : Df K mg "drop_attached" s_drop_attached p_drop_attached)
    (D_create : Df K mg "create" s_create p_create)
    (D_add_tile_kind : Df K mg "add_tile_kind" s_add_tile_kind p_add_tile_kind)
    (D_set_strength : Df K mg "set_strength" s_set_strength p_set_strength)
    (D_set_threshold : Df K mg "set_threshold" s_set_threshold p_set_threshold)
    (D_add_seed : Df K mg "add_seed" s_add_seed p_add_seed)
    (D_remove_seed : Df K mg "remove_seed" s_remove_seed p_remove_seed)
    (D_attach : Df K mg "attach" s_attach p_attach)
    (D_undo_attach : Df K mg "undo_attach" s_undo_attach p_undo_attach)
    (D_clear_attached : Df K mg "clear_attached" s_clear_attached p_clear_attached)
    (D_grow : Df K mg "grow" s_grow p_grow)
    (D_given_begin : Df K mg "given_begin" s_given_begin p_given_begin)
    (D_given_end : Df K mg "given_end" s_given_end p_given_end)
    (D_grown_grid : Df K mg "grown_grid" s_grown_grid p_grown_grid)
    (D_choice_without : Df K mg "choice_without" s_choice_without p_choice_without)
    (D_steps_without : Df K mg "steps_without" s_steps_without p_steps_without)
    (D_part_without : Df K mg "part_without" s_part_without p_part_without)
    (D_alternatives_at : Df K mg "alternatives_at" s_alternatives_at p_alternatives_at)
    (D_all_alternatives : Df K mg "all_alternatives" s_all_alternatives p_all_alternatives)
    (D_first_of_alternatives : Df K mg "first_of_alternatives" s_first_of_alternatives p_first_of_alternatives)
    (D_parts_of_growth : Df K mg "parts_of_growth" s_parts_of_growth p_parts_of_growth)
    (D_prerequisites_in : Df K mg "prerequisites_in" s_prerequisites_in p_prerequisites_in)
    (D_written_grid : Df K mg "written_grid" s_written_grid p_written_grid)
    (D_written_pairs : Df K mg "written_pairs" s_written_pairs p_written_pairs)
    (D_written_list : Df K mg "written_list" s_written_list p_written_list)
    (D_parallel_rounds : Df K mg "parallel_rounds" s_parallel_rounds p_parallel_rounds)
    (D_get_grid : Df K mg "get_grid" s_get_grid p_get_grid)
    (D_get_tile_kind : Df K mg "get_tile_kind" s_get_tile_kind p_get_tile_kind)
    (D_status : Df K mg "status" s_status p_status)
    (D_is_unique : Df K mg "is_unique" s_is_unique p_is_unique)
    (D_first_alternative : Df K mg "first_alternative" s_first_alternative p_first_alternative)
    (D_alternatives : Df K mg "alternatives" s_alternatives p_alternatives)
    (D_terminal_grid : Df K mg "terminal_grid" s_terminal_grid p_terminal_grid)
    (D_current_parts : Df K mg "current_parts" s_current_parts p_current_parts)
    (D_refusal_at : Df K mg "refusal_at" s_refusal_at p_refusal_at)
    (D_grid_without : Df K mg "grid_without" s_grid_without p_grid_without)
    (D_prerequisites : Df K mg "prerequisites" s_prerequisites p_prerequisites)
    (D_max_prerequisites : Df K mg "max_prerequisites" s_max_prerequisites p_max_prerequisites)
    (D_independent_positions : Df K mg "independent_positions" s_independent_positions p_independent_positions)
    (D_answer_change : Df K mg "answer_change" s_answer_change p_answer_change)
    (D_answer_report : Df K mg "answer_report" s_answer_report p_answer_report)
    (D_answer_call : Df K mg "answer_call" s_answer_call p_answer_call)
    : ∃ fd : FuncData, (∀ (s : Shared) (us : List Value), us.length = (["calls"] : List Str).length → BindsTo s fd ⟨us, []⟩ ((["calls"] : List Str).zip us)) ∧ ∀ base : Heap, K.In base → base.Ns mainGlobals mg → FnOk P w K mg base CX0 14 fa fd ["calls"] (spAnswers K) := by
  have e := hfa.symm.trans (PySem.W.mg_of X G aA)
  cases e
  have T : Txt K mg C := ⟨⟨pgI, hdI, poI, saI⟩, nI_width, nI_height, nI_threshold, nI_strengths, nI_kinds, nI_seeds, nI_attached, c_EMPTY.gi X G, c_MOST_GLUE.gi X G, c_NORTH.gi X G, c_EAST.gi X G, c_SOUTH.gi X G, c_WEST.gi X G, c_NO_SUCH.gi X G, c_NOTHING_ATTACHED.gi X G, c_NO_INSTANCE.gi X G, c_NOT_ATTACHABLE.gi X G, c_OCCUPIED.gi X G, c_OUT_OF_LIMITS.gi X G, c_KINDS_FULL.gi X G, c_NOT_THERE.gi X G, c_MOST_SIDE.gi X G, c_MOST_THRESHOLD.gi X G, c_MOST_STRENGTH.gi X G, c_MOST_KINDS.gi X G, c_SIDES.gi X G, c_CREATE.gi X G, c_ADD_TILE_KIND.gi X G, c_SET_STRENGTH.gi X G, c_SET_THRESHOLD.gi X G, c_ADD_SEED.gi X G, c_REMOVE_SEED.gi X G, c_ATTACH.gi X G, c_UNDO_ATTACH.gi X G, c_CLEAR_ATTACHED.gi X G, c_GROW.gi X G, c_PARALLEL_ROUNDS.gi X G, c_GET_GRID.gi X G, c_GET_TILE_KIND.gi X G, c_STATUS.gi X G, c_IS_UNIQUE.gi X G, c_FIRST_ALTERNATIVE.gi X G, c_ALTERNATIVES.gi X G, c_TERMINAL_GRID.gi X G, c_GRID_WITHOUT.gi X G, c_PREREQUISITES.gi X G, c_MAX_PREREQUISITES.gi X G, PySem.W.mg_none_of X G z_len, PySem.W.mg_none_of X G z_list, PySem.W.mg_none_of X G z_max, PySem.W.mg_none_of X G z_range⟩
  have S : TxtS K mg CS := ⟨⟨pgS, hdS, poS, saS⟩, nS_instance⟩
  have I1 := fun_mk (st := s_Instance_init) lI cI kI
  have MI : Me K mg "Instance" C "Instance.__init__" s_Instance_init p_Instance_init := ⟨fI, _, ⟨mkI, inI, fnI, kcI⟩, PySem.W.mg_of X G aI, I1, I1.binds fun _ _ _ _ _ _ us hl => match us, hl with | [_, _, _, _], _ => rfl⟩
  have I2 := fun_mk (st := s_Session_init) lS cS kS
  have MS : Me K mg "Session" CS "Session.__init__" s_Session_init p_Session_init := ⟨fS, _, ⟨mkS, inS, fnS, kcS⟩, PySem.W.mg_of X G aS, I2, I2.binds fun _ _ _ _ _ _ us hl => match us, hl with | [_], _ => rfl⟩
  have GG : TxtG K mg aG := ⟨PySem.W.mg_of X G aGv, fun _ => .inr ⟨_, itsG, nG, lG, oG, rfl, (by have z : (22 : Nat) = itsG.toList.length := vG.length; rw [Array.length_toList] at z; rw [← z]; decide), vG⟩⟩
  have FA := fun_mk (st := s_answers) lA cA kA
  refine ⟨PySem.W.fnOf "answers" "answers" (defArgs s_answers) (defBody s_answers) (defScope s_answers) .none kVA dcA pmA anA cdA ctA, fun s us hu => match us, hu with | [_], _ => .of_eq rfl, fun base _ _ => ?_⟩
  have M_Session : MkC P w K mg base "Session" CS p_Session_init 1 (spInitS CS) := ok_Session S MS
  have F_given_end : Fd P w K mg base "given_end" p_given_end 1 (spEnd K) := ok_given_end T GG D_given_end
  have F_given_begin : Fd P w K mg base "given_begin" p_given_begin 1 (spBegin K) := ok_given_begin T D_given_begin
  have F_outside : Fd P w K mg base "outside" p_outside 1 spOutside := ok_outside D_outside
  have M_Instance : MkC P w K mg base "Instance" C p_Instance_init 1 (spInitI C) := ok_Instance T MI
  have F_create : Fd P w K mg base "create" p_create 3 (spCreate CS C) := ok_create T S D_create F_outside M_Instance
  have F_drop_attached : Fd P w K mg base "drop_attached" p_drop_attached 1 (spDrop C) := ok_drop_attached T D_drop_attached
  have F_add_tile_kind : Fd P w K mg base "add_tile_kind" p_add_tile_kind 2 (spAddKind C) := ok_add_tile_kind T D_add_tile_kind F_drop_attached
  have F_set_strength : Fd P w K mg base "set_strength" p_set_strength 2 (spSetStr C) := ok_set_strength T D_set_strength F_outside F_drop_attached
  have F_set_threshold : Fd P w K mg base "set_threshold" p_set_threshold 2 (spSetThr C) := ok_set_threshold T D_set_threshold F_outside F_drop_attached
  have F_has_position : Fd P w K mg base "has_position" p_has_position 1 (spHasPos C) := ok_has_position T D_has_position
  have F_has_kind : Fd P w K mg base "has_kind" p_has_kind 1 (spHasKind C) := ok_has_kind T D_has_kind
  have F_position_number : Fd P w K mg base "position_number" p_position_number 1 (spPosNum C) := ok_position_number T D_position_number
  have F_add_seed : Fd P w K mg base "add_seed" p_add_seed 2 (spAddSeed C) := ok_add_seed T D_add_seed F_has_position F_has_kind F_position_number F_drop_attached
  have F_remove_seed : Fd P w K mg base "remove_seed" p_remove_seed 2 (spRemSeed C) := ok_remove_seed T D_remove_seed F_has_position F_position_number F_drop_attached
  have F_current_grid : Fd P w K mg base "current_grid" p_current_grid 1 (spGrid C) := ok_current_grid T D_current_grid
  have F_neighbours : Fd P w K mg base "neighbours" p_neighbours 1 (spNbr C) := ok_neighbours T D_neighbours
  have F_bond : Fd P w K mg base "bond" p_bond 1 (spBond C) := ok_bond T D_bond
  have F_binding_strength : Fd P w K mg base "binding_strength" p_binding_strength 2 (spBinding C) := ok_binding_strength T D_binding_strength F_neighbours F_bond
  have F_attach : Fd P w K mg base "attach" p_attach 3 (spAttach C) := ok_attach T D_attach F_has_position F_has_kind F_position_number F_current_grid F_binding_strength
  have F_undo_attach : Fd P w K mg base "undo_attach" p_undo_attach 1 (spUndo C) := ok_undo_attach T D_undo_attach
  have F_clear_attached : Fd P w K mg base "clear_attached" p_clear_attached 2 (spClear C) := ok_clear_attached T D_clear_attached F_drop_attached
  have F_is_attachable : Fd P w K mg base "is_attachable" p_is_attachable 3 (spAtt C) := ok_is_attachable T D_is_attachable F_binding_strength
  have F_smallest_kind : Fd P w K mg base "smallest_kind" p_smallest_kind 4 (spSmall C) := ok_smallest_kind T D_smallest_kind F_is_attachable
  have F_first_attachment : Fd P w K mg base "first_attachment" p_first_attachment 5 (spFirst C) := ok_first_attachment T D_first_attachment F_smallest_kind
  have F_chosen_steps : Fd P w K mg base "chosen_steps" p_chosen_steps 6 (spChosen C) := ok_chosen_steps T D_chosen_steps F_first_attachment
  have F_free_choice : Fd P w K mg base "free_choice" p_free_choice 1 (spFree C) := ok_free_choice T D_free_choice
  have F_growth_steps : Fd P w K mg base "growth_steps" p_growth_steps 7 (spGrowth C) := ok_growth_steps T D_growth_steps F_chosen_steps F_free_choice
  have F_grow : Fd P w K mg base "grow" p_grow 8 (spGrow C) := ok_grow T D_grow F_current_grid F_growth_steps
  have F_answer_change : Fd P w K mg base "answer_change" p_answer_change 9 (spChange C) := ok_answer_change T D_answer_change F_add_tile_kind F_set_strength F_set_threshold F_add_seed F_remove_seed F_attach F_undo_attach F_clear_attached F_grow
  have F_after_round : Fd P w K mg base "after_round" p_after_round 5 (spRound C) := ok_after_round T D_after_round F_smallest_kind F_free_choice
  have F_count_rounds : Fd P w K mg base "count_rounds" p_count_rounds 6 (spRounds C) := ok_count_rounds T D_count_rounds F_after_round
  have F_parallel_rounds : Fd P w K mg base "parallel_rounds" p_parallel_rounds 7 (spPar C) := ok_parallel_rounds T D_parallel_rounds F_current_grid F_count_rounds
  have F_written_grid : Fd P w K mg base "written_grid" p_written_grid 1 spWGrid := ok_written_grid T D_written_grid
  have F_get_grid : Fd P w K mg base "get_grid" p_get_grid 2 (spGetGrid C) := ok_get_grid T D_get_grid F_current_grid F_written_grid
  have F_written_list : Fd P w K mg base "written_list" p_written_list 1 spWList := ok_written_list T D_written_list
  have F_get_tile_kind : Fd P w K mg base "get_tile_kind" p_get_tile_kind 2 (spGetKind C) := ok_get_tile_kind T D_get_tile_kind F_has_kind F_written_list
  have F_status : Fd P w K mg base "status" p_status 1 (spStatus C) := ok_status T D_status
  have F_after_steps : Fd P w K mg base "after_steps" p_after_steps 1 spAfterSt := ok_after_steps T D_after_steps
  have F_grown_grid : Fd P w K mg base "grown_grid" p_grown_grid 8 (spGrown C) := ok_grown_grid T D_grown_grid F_growth_steps F_after_steps
  have F_choice_without : Fd P w K mg base "choice_without" p_choice_without 1 spChoice := ok_choice_without T D_choice_without
  have F_steps_without : Fd P w K mg base "steps_without" p_steps_without 7 (spSteps C) := ok_steps_without T D_steps_without F_chosen_steps F_choice_without
  have F_part_without : Fd P w K mg base "part_without" p_part_without 8 (spPart C) := ok_part_without T D_part_without F_steps_without F_after_steps
  have F_alternatives_at : Fd P w K mg base "alternatives_at" p_alternatives_at 9 (spAlts C) := ok_alternatives_at T D_alternatives_at F_part_without F_is_attachable
  have F_first_of_alternatives : Fd P w K mg base "first_of_alternatives" p_first_of_alternatives 10 (spFirstAlt C) := ok_first_of_alternatives T D_first_of_alternatives F_alternatives_at
  have F_is_unique : Fd P w K mg base "is_unique" p_is_unique 11 (spUnique C) := ok_is_unique T D_is_unique F_current_grid F_grown_grid F_first_of_alternatives
  have F_written_pairs : Fd P w K mg base "written_pairs" p_written_pairs 1 spWPairs := ok_written_pairs T D_written_pairs
  have F_first_alternative : Fd P w K mg base "first_alternative" p_first_alternative 11 (spFirstA C) := ok_first_alternative T D_first_alternative F_current_grid F_grown_grid F_first_of_alternatives F_steps_without F_written_pairs
  have F_all_alternatives : Fd P w K mg base "all_alternatives" p_all_alternatives 10 (spAllAlts C) := ok_all_alternatives T D_all_alternatives F_alternatives_at
  have F_alternatives : Fd P w K mg base "alternatives" p_alternatives 11 (spAltsA C) := ok_alternatives T D_alternatives F_current_grid F_grown_grid F_all_alternatives F_written_pairs
  have F_terminal_grid : Fd P w K mg base "terminal_grid" p_terminal_grid 9 (spTerm C) := ok_terminal_grid T D_terminal_grid F_current_grid F_grown_grid F_written_grid
  have F_refusal_at : Fd P w K mg base "refusal_at" p_refusal_at 2 (spRefusal C) := ok_refusal_at T D_refusal_at F_has_position F_position_number F_current_grid
  have F_grid_without : Fd P w K mg base "grid_without" p_grid_without 9 (spWithout C) := ok_grid_without T D_grid_without F_refusal_at F_current_grid F_grown_grid F_part_without F_position_number F_written_grid
  have F_parts_of_growth : Fd P w K mg base "parts_of_growth" p_parts_of_growth 9 (spParts C) := ok_parts_of_growth T D_parts_of_growth F_part_without
  have F_current_parts : Fd P w K mg base "current_parts" p_current_parts 10 (spCurParts C) := ok_current_parts T D_current_parts F_current_grid F_grown_grid F_parts_of_growth
  have F_prerequisites_in : Fd P w K mg base "prerequisites_in" p_prerequisites_in 1 spPreIn := ok_prerequisites_in T D_prerequisites_in
  have F_prerequisites : Fd P w K mg base "prerequisites" p_prerequisites 11 (spPre C) := ok_prerequisites T D_prerequisites F_refusal_at F_current_parts F_position_number F_prerequisites_in F_written_list
  have F_max_prerequisites : Fd P w K mg base "max_prerequisites" p_max_prerequisites 11 (spMaxPre C) := ok_max_prerequisites T D_max_prerequisites F_current_parts F_prerequisites_in
  have F_independent_positions : Fd P w K mg base "independent_positions" p_independent_positions 11 (spIndep C) := ok_independent_positions T D_independent_positions F_current_parts F_prerequisites_in F_written_list
  have F_answer_report : Fd P w K mg base "answer_report" p_answer_report 12 (spReport C) := ok_answer_report T D_answer_report F_parallel_rounds F_get_grid F_get_tile_kind F_status F_is_unique F_first_alternative F_alternatives F_terminal_grid F_grid_without F_prerequisites F_max_prerequisites F_independent_positions
  have F_answer_call : Fd P w K mg base "answer_call" p_answer_call 13 (spCall CS C) := ok_answer_call T S D_answer_call F_create F_answer_change F_answer_report
  exact ok_answers T FA M_Session F_given_end F_given_begin F_answer_call
end Gt

open PySem PySem.W PyProof.Rows
set_option maxRecDepth 100000 in
set_option maxHeartbeats 0 in
theorem PySem.Challenge.cw_gluetilesdesk_s01_answers_holds : PySem.Challenge.rw_gluetilesdesk_s01_answers.Holds := by
  w_on; k_headS; (case hw => exact ⟨[.list []], by decide +kernel, by decide +kernel⟩)
  k_fillS
  refine L2.walk_specK (r := PySem.Challenge.rw_gluetilesdesk_s01_answers) (k := 14) (CX := L2.CX0) (ps := ["calls"]) (sp := Gt.spAnswers) (by decide +kernel) rfl rfl ⟨rfl, by decide, by decide⟩ (fun w h Y => PySem.W.kIn_of Y) ?F ?S (fun _ _ _ _ z => z)
  case F =>
    intro w mg fa h Y KX G hmg
    refine' Gt.finish KX G hmg ?aI ?pgI ?hdI ?poI ?saI ?nI_width ?nI_height ?nI_threshold ?nI_strengths ?nI_kinds ?nI_seeds ?nI_attached ?mkI ?kcI ?inI ?fnI ?lI ?cI ?kI ?aS ?pgS ?hdS ?poS ?saS ?nS_instance ?mkS ?kcS ?inS ?fnS ?lS ?cS ?kS ?aGv ?lG ?oG ?vG ?c_EMPTY ?c_MOST_GLUE ?c_NORTH ?c_EAST ?c_SOUTH ?c_WEST ?c_NO_SUCH ?c_NOTHING_ATTACHED ?c_NO_INSTANCE ?c_NOT_ATTACHABLE ?c_OCCUPIED ?c_OUT_OF_LIMITS ?c_KINDS_FULL ?c_NOT_THERE ?c_MOST_SIDE ?c_MOST_THRESHOLD ?c_MOST_STRENGTH ?c_MOST_KINDS ?c_SIDES ?c_CREATE ?c_ADD_TILE_KIND ?c_SET_STRENGTH ?c_SET_THRESHOLD ?c_ADD_SEED ?c_REMOVE_SEED ?c_ATTACH ?c_UNDO_ATTACH ?c_CLEAR_ATTACHED ?c_GROW ?c_PARALLEL_ROUNDS ?c_GET_GRID ?c_GET_TILE_KIND ?c_STATUS ?c_IS_UNIQUE ?c_FIRST_ALTERNATIVE ?c_ALTERNATIVES ?c_TERMINAL_GRID ?c_GRID_WITHOUT ?c_PREREQUISITES ?c_MAX_PREREQUISITES ?z_len ?z_list ?z_max ?z_range ?aA ?lA ?cA ?kA ?D_has_position ?D_has_kind ?D_position_number ?D_current_grid ?D_neighbours ?D_bond ?D_binding_strength ?D_is_attachable ?D_smallest_kind ?D_free_choice ?D_first_attachment ?D_chosen_steps ?D_growth_steps ?D_after_steps ?D_after_round ?D_count_rounds ?D_outside ?D_drop_attached ?D_create ?D_add_tile_kind ?D_set_strength ?D_set_threshold ?D_add_seed ?D_remove_seed ?D_attach ?D_undo_attach ?D_clear_attached ?D_grow ?D_given_begin ?D_given_end ?D_grown_grid ?D_choice_without ?D_steps_without ?D_part_without ?D_alternatives_at ?D_all_alternatives ?D_first_of_alternatives ?D_parts_of_growth ?D_prerequisites_in ?D_written_grid ?D_written_pairs ?D_written_list ?D_parallel_rounds ?D_get_grid ?D_get_tile_kind ?D_status ?D_is_unique ?D_first_alternative ?D_alternatives ?D_terminal_grid ?D_current_parts ?D_refusal_at ?D_grid_without ?D_prerequisites ?D_max_prerequisites ?D_independent_positions ?D_answer_change ?D_answer_report ?D_answer_call
    case aI => k_is
    case pgI => k_is
    case hdI => k_is
    case poI => k_is
    case saI => k_is
    case nI_width => k_is
    case nI_height => k_is
    case nI_threshold => k_is
    case nI_strengths => k_is
    case nI_kinds => k_is
    case nI_seeds => k_is
    case nI_attached => k_is
    case mkI => k_is
    case kcI => k_is
    case inI => k_is
    case fnI => k_is
    case lI => k_is
    case cI => k_is
    case kI => k_is
    case aS => k_is
    case pgS => k_is
    case hdS => k_is
    case poS => k_is
    case saS => k_is
    case nS_instance => k_is
    case mkS => k_is
    case kcS => k_is
    case inS => k_is
    case fnS => k_is
    case lS => k_is
    case cS => k_is
    case kS => k_is
    case aGv => k_is
    case lG => k_is
    case oG => rfl
    case vG => repeat (first | exact .nil | refine .cons ⟨_, rfl⟩ ?_)
    case c_EMPTY => (refine' Gt.gir_mk ?z; case z => k_is)
    case c_MOST_GLUE => (refine' Gt.gir_mk ?z; case z => k_is)
    case c_NORTH => (refine' Gt.gir_mk ?z; case z => k_is)
    case c_EAST => (refine' Gt.gir_mk ?z; case z => k_is)
    case c_SOUTH => (refine' Gt.gir_mk ?z; case z => k_is)
    case c_WEST => (refine' Gt.gir_mk ?z; case z => k_is)
    case c_NO_SUCH => (refine' Gt.gir_mk ?z; case z => k_is)
    case c_NOTHING_ATTACHED => (refine' Gt.gir_mk ?z; case z => k_is)
    case c_NO_INSTANCE => (refine' Gt.gir_mk ?z; case z => k_is)
    case c_NOT_ATTACHABLE => (refine' Gt.gir_mk ?z; case z => k_is)
    case c_OCCUPIED => (refine' Gt.gir_mk ?z; case z => k_is)
    case c_OUT_OF_LIMITS => (refine' Gt.gir_mk ?z; case z => k_is)
    case c_KINDS_FULL => (refine' Gt.gir_mk ?z; case z => k_is)
    case c_NOT_THERE => (refine' Gt.gir_mk ?z; case z => k_is)
    case c_MOST_SIDE => (refine' Gt.gir_mk ?z; case z => k_is)
    case c_MOST_THRESHOLD => (refine' Gt.gir_mk ?z; case z => k_is)
    case c_MOST_STRENGTH => (refine' Gt.gir_mk ?z; case z => k_is)
    case c_MOST_KINDS => (refine' Gt.gir_mk ?z; case z => k_is)
    case c_SIDES => (refine' Gt.gir_mk ?z; case z => k_is)
    case c_CREATE => (refine' Gt.gir_mk ?z; case z => k_is)
    case c_ADD_TILE_KIND => (refine' Gt.gir_mk ?z; case z => k_is)
    case c_SET_STRENGTH => (refine' Gt.gir_mk ?z; case z => k_is)
    case c_SET_THRESHOLD => (refine' Gt.gir_mk ?z; case z => k_is)
    case c_ADD_SEED => (refine' Gt.gir_mk ?z; case z => k_is)
    case c_REMOVE_SEED => (refine' Gt.gir_mk ?z; case z => k_is)
    case c_ATTACH => (refine' Gt.gir_mk ?z; case z => k_is)
    case c_UNDO_ATTACH => (refine' Gt.gir_mk ?z; case z => k_is)
    case c_CLEAR_ATTACHED => (refine' Gt.gir_mk ?z; case z => k_is)
    case c_GROW => (refine' Gt.gir_mk ?z; case z => k_is)
    case c_PARALLEL_ROUNDS => (refine' Gt.gir_mk ?z; case z => k_is)
    case c_GET_GRID => (refine' Gt.gir_mk ?z; case z => k_is)
    case c_GET_TILE_KIND => (refine' Gt.gir_mk ?z; case z => k_is)
    case c_STATUS => (refine' Gt.gir_mk ?z; case z => k_is)
    case c_IS_UNIQUE => (refine' Gt.gir_mk ?z; case z => k_is)
    case c_FIRST_ALTERNATIVE => (refine' Gt.gir_mk ?z; case z => k_is)
    case c_ALTERNATIVES => (refine' Gt.gir_mk ?z; case z => k_is)
    case c_TERMINAL_GRID => (refine' Gt.gir_mk ?z; case z => k_is)
    case c_GRID_WITHOUT => (refine' Gt.gir_mk ?z; case z => k_is)
    case c_PREREQUISITES => (refine' Gt.gir_mk ?z; case z => k_is)
    case c_MAX_PREREQUISITES => (refine' Gt.gir_mk ?z; case z => k_is)
    case z_len => k_is
    case z_list => k_is
    case z_max => k_is
    case z_range => k_is
    case aA => k_is
    case lA => k_is
    case cA => k_is
    case kA => k_is
    case D_has_position =>
      refine' Gt.df_mk KX G ?a ?l ?c ?k (fun _ _ _ _ _ _ us hl => match us, hl with | [_, _, _], _ => rfl)
      (case a => k_is); (case l => k_is); (case c => k_is); (case k => k_is)
    case D_has_kind =>
      refine' Gt.df_mk KX G ?a ?l ?c ?k (fun _ _ _ _ _ _ us hl => match us, hl with | [_, _], _ => rfl)
      (case a => k_is); (case l => k_is); (case c => k_is); (case k => k_is)
    case D_position_number =>
      refine' Gt.df_mk KX G ?a ?l ?c ?k (fun _ _ _ _ _ _ us hl => match us, hl with | [_, _, _], _ => rfl)
      (case a => k_is); (case l => k_is); (case c => k_is); (case k => k_is)
    case D_current_grid =>
      refine' Gt.df_mk KX G ?a ?l ?c ?k (fun _ _ _ _ _ _ us hl => match us, hl with | [_], _ => rfl)
      (case a => k_is); (case l => k_is); (case c => k_is); (case k => k_is)
    case D_neighbours =>
      refine' Gt.df_mk KX G ?a ?l ?c ?k (fun _ _ _ _ _ _ us hl => match us, hl with | [_, _], _ => rfl)
      (case a => k_is); (case l => k_is); (case c => k_is); (case k => k_is)
    case D_bond =>
      refine' Gt.df_mk KX G ?a ?l ?c ?k (fun _ _ _ _ _ _ us hl => match us, hl with | [_, _, _], _ => rfl)
      (case a => k_is); (case l => k_is); (case c => k_is); (case k => k_is)
    case D_binding_strength =>
      refine' Gt.df_mk KX G ?a ?l ?c ?k (fun _ _ _ _ _ _ us hl => match us, hl with | [_, _, _, _], _ => rfl)
      (case a => k_is); (case l => k_is); (case c => k_is); (case k => k_is)
    case D_is_attachable =>
      refine' Gt.df_mk KX G ?a ?l ?c ?k (fun _ _ _ _ _ _ us hl => match us, hl with | [_, _, _, _], _ => rfl)
      (case a => k_is); (case l => k_is); (case c => k_is); (case k => k_is)
    case D_smallest_kind =>
      refine' Gt.df_mk KX G ?a ?l ?c ?k (fun _ _ _ _ _ _ us hl => match us, hl with | [_, _, _, _], _ => rfl)
      (case a => k_is); (case l => k_is); (case c => k_is); (case k => k_is)
    case D_free_choice =>
      refine' Gt.df_mk KX G ?a ?l ?c ?k (fun _ _ _ _ _ _ us hl => match us, hl with | [_], _ => rfl)
      (case a => k_is); (case l => k_is); (case c => k_is); (case k => k_is)
    case D_first_attachment =>
      refine' Gt.df_mk KX G ?a ?l ?c ?k (fun _ _ _ _ _ _ us hl => match us, hl with | [_, _, _, _], _ => rfl)
      (case a => k_is); (case l => k_is); (case c => k_is); (case k => k_is)
    case D_chosen_steps =>
      refine' Gt.df_mk KX G ?a ?l ?c ?k (fun _ _ _ _ _ _ us hl => match us, hl with | [_, _, _], _ => rfl)
      (case a => k_is); (case l => k_is); (case c => k_is); (case k => k_is)
    case D_growth_steps =>
      refine' Gt.df_mk KX G ?a ?l ?c ?k (fun _ _ _ _ _ _ us hl => match us, hl with | [_, _], _ => rfl)
      (case a => k_is); (case l => k_is); (case c => k_is); (case k => k_is)
    case D_after_steps =>
      refine' Gt.df_mk KX G ?a ?l ?c ?k (fun _ _ _ _ _ _ us hl => match us, hl with | [_, _], _ => rfl)
      (case a => k_is); (case l => k_is); (case c => k_is); (case k => k_is)
    case D_after_round =>
      refine' Gt.df_mk KX G ?a ?l ?c ?k (fun _ _ _ _ _ _ us hl => match us, hl with | [_, _], _ => rfl)
      (case a => k_is); (case l => k_is); (case c => k_is); (case k => k_is)
    case D_count_rounds =>
      refine' Gt.df_mk KX G ?a ?l ?c ?k (fun _ _ _ _ _ _ us hl => match us, hl with | [_, _], _ => rfl)
      (case a => k_is); (case l => k_is); (case c => k_is); (case k => k_is)
    case D_outside =>
      refine' Gt.df_mk KX G ?a ?l ?c ?k (fun _ _ _ _ _ _ us hl => match us, hl with | [_, _, _], _ => rfl)
      (case a => k_is); (case l => k_is); (case c => k_is); (case k => k_is)
    case D_drop_attached =>
      refine' Gt.df_mk KX G ?a ?l ?c ?k (fun _ _ _ _ _ _ us hl => match us, hl with | [_], _ => rfl)
      (case a => k_is); (case l => k_is); (case c => k_is); (case k => k_is)
    case D_create =>
      refine' Gt.df_mk KX G ?a ?l ?c ?k (fun _ _ _ _ _ _ us hl => match us, hl with | [_, _, _, _], _ => rfl)
      (case a => k_is); (case l => k_is); (case c => k_is); (case k => k_is)
    case D_add_tile_kind =>
      refine' Gt.df_mk KX G ?a ?l ?c ?k (fun _ _ _ _ _ _ us hl => match us, hl with | [_, _], _ => rfl)
      (case a => k_is); (case l => k_is); (case c => k_is); (case k => k_is)
    case D_set_strength =>
      refine' Gt.df_mk KX G ?a ?l ?c ?k (fun _ _ _ _ _ _ us hl => match us, hl with | [_, _, _], _ => rfl)
      (case a => k_is); (case l => k_is); (case c => k_is); (case k => k_is)
    case D_set_threshold =>
      refine' Gt.df_mk KX G ?a ?l ?c ?k (fun _ _ _ _ _ _ us hl => match us, hl with | [_, _], _ => rfl)
      (case a => k_is); (case l => k_is); (case c => k_is); (case k => k_is)
    case D_add_seed =>
      refine' Gt.df_mk KX G ?a ?l ?c ?k (fun _ _ _ _ _ _ us hl => match us, hl with | [_, _, _, _], _ => rfl)
      (case a => k_is); (case l => k_is); (case c => k_is); (case k => k_is)
    case D_remove_seed =>
      refine' Gt.df_mk KX G ?a ?l ?c ?k (fun _ _ _ _ _ _ us hl => match us, hl with | [_, _, _], _ => rfl)
      (case a => k_is); (case l => k_is); (case c => k_is); (case k => k_is)
    case D_attach =>
      refine' Gt.df_mk KX G ?a ?l ?c ?k (fun _ _ _ _ _ _ us hl => match us, hl with | [_, _, _, _], _ => rfl)
      (case a => k_is); (case l => k_is); (case c => k_is); (case k => k_is)
    case D_undo_attach =>
      refine' Gt.df_mk KX G ?a ?l ?c ?k (fun _ _ _ _ _ _ us hl => match us, hl with | [_], _ => rfl)
      (case a => k_is); (case l => k_is); (case c => k_is); (case k => k_is)
    case D_clear_attached =>
      refine' Gt.df_mk KX G ?a ?l ?c ?k (fun _ _ _ _ _ _ us hl => match us, hl with | [_], _ => rfl)
      (case a => k_is); (case l => k_is); (case c => k_is); (case k => k_is)
    case D_grow =>
      refine' Gt.df_mk KX G ?a ?l ?c ?k (fun _ _ _ _ _ _ us hl => match us, hl with | [_], _ => rfl)
      (case a => k_is); (case l => k_is); (case c => k_is); (case k => k_is)
    case D_given_begin =>
      refine' Gt.df_mk KX G ?a ?l ?c ?k (fun _ _ _ _ _ _ us hl => match us, hl with | [_, _], _ => rfl)
      (case a => k_is); (case l => k_is); (case c => k_is); (case k => k_is)
    case D_given_end =>
      refine' Gt.df_mk KX G ?a ?l ?c ?k (fun _ _ _ _ _ _ us hl => match us, hl with | [_, _], _ => rfl)
      (case a => k_is); (case l => k_is); (case c => k_is); (case k => k_is)
    case D_grown_grid =>
      refine' Gt.df_mk KX G ?a ?l ?c ?k (fun _ _ _ _ _ _ us hl => match us, hl with | [_, _], _ => rfl)
      (case a => k_is); (case l => k_is); (case c => k_is); (case k => k_is)
    case D_choice_without =>
      refine' Gt.df_mk KX G ?a ?l ?c ?k (fun _ _ _ _ _ _ us hl => match us, hl with | [_, _], _ => rfl)
      (case a => k_is); (case l => k_is); (case c => k_is); (case k => k_is)
    case D_steps_without =>
      refine' Gt.df_mk KX G ?a ?l ?c ?k (fun _ _ _ _ _ _ us hl => match us, hl with | [_, _, _, _], _ => rfl)
      (case a => k_is); (case l => k_is); (case c => k_is); (case k => k_is)
    case D_part_without =>
      refine' Gt.df_mk KX G ?a ?l ?c ?k (fun _ _ _ _ _ _ us hl => match us, hl with | [_, _, _, _], _ => rfl)
      (case a => k_is); (case l => k_is); (case c => k_is); (case k => k_is)
    case D_alternatives_at =>
      refine' Gt.df_mk KX G ?a ?l ?c ?k (fun _ _ _ _ _ _ us hl => match us, hl with | [_, _, _, _], _ => rfl)
      (case a => k_is); (case l => k_is); (case c => k_is); (case k => k_is)
    case D_all_alternatives =>
      refine' Gt.df_mk KX G ?a ?l ?c ?k (fun _ _ _ _ _ _ us hl => match us, hl with | [_, _, _], _ => rfl)
      (case a => k_is); (case l => k_is); (case c => k_is); (case k => k_is)
    case D_first_of_alternatives =>
      refine' Gt.df_mk KX G ?a ?l ?c ?k (fun _ _ _ _ _ _ us hl => match us, hl with | [_, _, _], _ => rfl)
      (case a => k_is); (case l => k_is); (case c => k_is); (case k => k_is)
    case D_parts_of_growth =>
      refine' Gt.df_mk KX G ?a ?l ?c ?k (fun _ _ _ _ _ _ us hl => match us, hl with | [_, _, _], _ => rfl)
      (case a => k_is); (case l => k_is); (case c => k_is); (case k => k_is)
    case D_prerequisites_in =>
      refine' Gt.df_mk KX G ?a ?l ?c ?k (fun _ _ _ _ _ _ us hl => match us, hl with | [_, _], _ => rfl)
      (case a => k_is); (case l => k_is); (case c => k_is); (case k => k_is)
    case D_written_grid =>
      refine' Gt.df_mk KX G ?a ?l ?c ?k (fun _ _ _ _ _ _ us hl => match us, hl with | [_], _ => rfl)
      (case a => k_is); (case l => k_is); (case c => k_is); (case k => k_is)
    case D_written_pairs =>
      refine' Gt.df_mk KX G ?a ?l ?c ?k (fun _ _ _ _ _ _ us hl => match us, hl with | [_], _ => rfl)
      (case a => k_is); (case l => k_is); (case c => k_is); (case k => k_is)
    case D_written_list =>
      refine' Gt.df_mk KX G ?a ?l ?c ?k (fun _ _ _ _ _ _ us hl => match us, hl with | [_], _ => rfl)
      (case a => k_is); (case l => k_is); (case c => k_is); (case k => k_is)
    case D_parallel_rounds =>
      refine' Gt.df_mk KX G ?a ?l ?c ?k (fun _ _ _ _ _ _ us hl => match us, hl with | [_], _ => rfl)
      (case a => k_is); (case l => k_is); (case c => k_is); (case k => k_is)
    case D_get_grid =>
      refine' Gt.df_mk KX G ?a ?l ?c ?k (fun _ _ _ _ _ _ us hl => match us, hl with | [_], _ => rfl)
      (case a => k_is); (case l => k_is); (case c => k_is); (case k => k_is)
    case D_get_tile_kind =>
      refine' Gt.df_mk KX G ?a ?l ?c ?k (fun _ _ _ _ _ _ us hl => match us, hl with | [_, _], _ => rfl)
      (case a => k_is); (case l => k_is); (case c => k_is); (case k => k_is)
    case D_status =>
      refine' Gt.df_mk KX G ?a ?l ?c ?k (fun _ _ _ _ _ _ us hl => match us, hl with | [_], _ => rfl)
      (case a => k_is); (case l => k_is); (case c => k_is); (case k => k_is)
    case D_is_unique =>
      refine' Gt.df_mk KX G ?a ?l ?c ?k (fun _ _ _ _ _ _ us hl => match us, hl with | [_], _ => rfl)
      (case a => k_is); (case l => k_is); (case c => k_is); (case k => k_is)
    case D_first_alternative =>
      refine' Gt.df_mk KX G ?a ?l ?c ?k (fun _ _ _ _ _ _ us hl => match us, hl with | [_], _ => rfl)
      (case a => k_is); (case l => k_is); (case c => k_is); (case k => k_is)
    case D_alternatives =>
      refine' Gt.df_mk KX G ?a ?l ?c ?k (fun _ _ _ _ _ _ us hl => match us, hl with | [_], _ => rfl)
      (case a => k_is); (case l => k_is); (case c => k_is); (case k => k_is)
    case D_terminal_grid =>
      refine' Gt.df_mk KX G ?a ?l ?c ?k (fun _ _ _ _ _ _ us hl => match us, hl with | [_], _ => rfl)
      (case a => k_is); (case l => k_is); (case c => k_is); (case k => k_is)
    case D_current_parts =>
      refine' Gt.df_mk KX G ?a ?l ?c ?k (fun _ _ _ _ _ _ us hl => match us, hl with | [_], _ => rfl)
      (case a => k_is); (case l => k_is); (case c => k_is); (case k => k_is)
    case D_refusal_at =>
      refine' Gt.df_mk KX G ?a ?l ?c ?k (fun _ _ _ _ _ _ us hl => match us, hl with | [_, _, _], _ => rfl)
      (case a => k_is); (case l => k_is); (case c => k_is); (case k => k_is)
    case D_grid_without =>
      refine' Gt.df_mk KX G ?a ?l ?c ?k (fun _ _ _ _ _ _ us hl => match us, hl with | [_, _, _], _ => rfl)
      (case a => k_is); (case l => k_is); (case c => k_is); (case k => k_is)
    case D_prerequisites =>
      refine' Gt.df_mk KX G ?a ?l ?c ?k (fun _ _ _ _ _ _ us hl => match us, hl with | [_, _, _], _ => rfl)
      (case a => k_is); (case l => k_is); (case c => k_is); (case k => k_is)
    case D_max_prerequisites =>
      refine' Gt.df_mk KX G ?a ?l ?c ?k (fun _ _ _ _ _ _ us hl => match us, hl with | [_], _ => rfl)
      (case a => k_is); (case l => k_is); (case c => k_is); (case k => k_is)
    case D_independent_positions =>
      refine' Gt.df_mk KX G ?a ?l ?c ?k (fun _ _ _ _ _ _ us hl => match us, hl with | [_], _ => rfl)
      (case a => k_is); (case l => k_is); (case c => k_is); (case k => k_is)
    case D_answer_change =>
      refine' Gt.df_mk KX G ?a ?l ?c ?k (fun _ _ _ _ _ _ us hl => match us, hl with | [_, _, _], _ => rfl)
      (case a => k_is); (case l => k_is); (case c => k_is); (case k => k_is)
    case D_answer_report =>
      refine' Gt.df_mk KX G ?a ?l ?c ?k (fun _ _ _ _ _ _ us hl => match us, hl with | [_, _, _], _ => rfl)
      (case a => k_is); (case l => k_is); (case c => k_is); (case k => k_is)
    case D_answer_call =>
      refine' Gt.df_mk KX G ?a ?l ?c ?k (fun _ _ _ _ _ _ us hl => match us, hl with | [_, _, _], _ => rfl)
      (case a => k_is); (case l => k_is); (case c => k_is); (case k => k_is)
  case S =>
    intro K H xs a hO hwi hask hx
    cases hx with
    | cons h1 h2 =>
      cases h2
      cases h1 with
      | lst hs ha =>
        have e := L2.ints_dw a.1 _ ha
        subst e
        have q : ((Codec.inLen 0 10280 a.1 && a.1.all (Codec.inInt 0 4294967295)) && true) = true := hwi
        rw [Bool.and_eq_true, Bool.and_eq_true] at q
        refine ⟨_, a.1, rfl, hs, hO, fun x hx => ?_, hask, fun H' p hp => .lst (L2.SqL.of hp) (L2.dw_ints _)⟩
        exact (Codec.inInt_iff.mp (List.all_eq_true.mp q.1.2 x hx)).1
