import PyProof.Rows.All
import Wide.All
import OpenK.AllK
import Wide.FinOn
import Open.SpecLaws
import KE.OsGo
import HandS.ForSpec
import HandS.Comp
import HandS.Iter
import HandS.TupLe
import HandS.TupSets
import PySem.Challenge.RW_towerorwalk_s05_colours
set_option Elab.async false
set_option linter.all false
set_option maxRecDepth 100000
set_option maxHeartbeats 2000000
namespace Tow
open Ks547 (Graph has graphOf pairsOf)
open Ks551 (canWalk onward deep)

/-! ### the mirror of what is read -/
def pairUp : List Int → List (Int × Int)
  | a :: b :: r => (a, b) :: pairUp r
  | _ => []
def lt2 (p q : Int × Int) : Bool := if p.1 = q.1 then decide (p.2 < q.2) else decide (p.1 < q.1)
def rising : List (Int × Int) → Bool
  | p :: q :: r => lt2 p q && rising (q :: r)
  | _ => true
def isGraph (n : Int) (ns : List Int) : Bool :=
  decide (1 ≤ n) && decide (n ≤ 5) && decide (ns.length % 2 = 0) && ns.all (fun x => decide (0 ≤ x) && decide (x < n)) && rising (pairUp ns)
def natP (p : Int × Int) : Nat × Nat := (p.1.toNat, p.2.toNat)
def gr (n : Int) (ns : List Int) : Graph := ⟨n.toNat, (pairUp ns).map natP⟩

theorem pairUp_len : ∀ ns : List Int, (pairUp ns).length = ns.length / 2
  | [] => rfl
  | [_] => by simp [pairUp]
  | a :: b :: r => by
    have h := pairUp_len r
    simp only [pairUp, List.length_cons, h]
    omega
theorem pairUp_at : ∀ (ns : List Int) (i : Nat), 2 * i + 1 < ns.length → (pairUp ns)[i]? = some (ns.getD (2 * i) 0, ns.getD (2 * i + 1) 0)
  | [], i, h => by simp at h
  | [_], i, h => by simp at h
  | a :: b :: r, 0, h => by simp [pairUp]
  | a :: b :: r, i + 1, h => by
    have ih := pairUp_at r i (by simp only [List.length_cons] at h; omega)
    simp only [pairUp, List.getElem?_cons_succ, ih]
    rw [show 2 * (i + 1) = 2 * i + 1 + 1 by omega]
    simp [List.getD_cons_succ]
theorem pairUp_mem : ∀ (ns : List Int) (p : Int × Int), p ∈ pairUp ns → p.1 ∈ ns ∧ p.2 ∈ ns
  | [], p, h => by simp [pairUp] at h
  | [_], p, h => by simp [pairUp] at h
  | a :: b :: r, p, h => by
    simp only [pairUp, List.mem_cons] at h
    rcases h with rfl | h
    · simp
    · have := pairUp_mem r p h
      simp [this.1, this.2]

theorem pairsOf_eq (n : Nat) : ∀ ns : List Int, (∀ x ∈ ns, 0 ≤ x) → pairsOf n (ns.map Int.toNat) =
    if (ns.length % 2 = 0 ∧ (∀ x ∈ ns, x < n) ∧ rising (pairUp ns) = true) then some ((pairUp ns).map natP) else none
  | [], _ => by simp [pairsOf, pairUp, rising]
  | [a], _ => by simp [pairsOf]
  | a :: b :: r, hp => by
    have ih := pairsOf_eq n r (fun x hx => hp x (by simp [hx]))
    have ha := hp a (by simp)
    have hb := hp b (by simp)
    have hl : (a :: b :: r).length % 2 = r.length % 2 := by simp only [List.length_cons]; omega
    simp only [List.map_cons, pairsOf, ih, hl, List.mem_cons, forall_eq_or_imp]
    by_cases c1 : n ≤ a.toNat ∨ n ≤ b.toNat
    · rw [if_pos c1, if_neg]
      rintro ⟨_, ⟨h1, h2, _⟩, _⟩
      omega
    · rw [if_neg c1]
      have h1 : a < n := by omega
      have h2 : b < n := by omega
      by_cases c2 : r.length % 2 = 0 ∧ (∀ x ∈ r, x < (n : Int)) ∧ rising (pairUp r) = true
      · rw [if_pos c2]
        obtain ⟨e1, e2, e3⟩ := c2
        have key : ∀ q : List (Int × Int), q = pairUp r → (match q.map natP with
            | [] => some [(a.toNat, b.toNat)]
            | p :: _ => if a.toNat < p.1 ∨ (a.toNat = p.1 ∧ b.toNat < p.2) then some ((a.toNat, b.toNat) :: q.map natP) else none) =
            if rising ((a, b) :: q) = true then some (natP (a, b) :: q.map natP) else none := by
          intro q hq
          cases q with
          | nil => simp [rising, natP]
          | cons p q' =>
            have hm := pairUp_mem r p (by rw [← hq]; simp)
            have p1 := hp p.1 (by simp [hm.1])
            have p2 := hp p.2 (by simp [hm.2])
            rw [← hq] at e3
            have er : rising ((a, b) :: p :: q') = (lt2 (a, b) p && rising (p :: q')) := rfl
            simp only [List.map_cons, er, e3, Bool.and_true]
            have hq : (a.toNat < p.1.toNat ∨ (a.toNat = p.1.toNat ∧ b.toNat < p.2.toNat)) ↔ lt2 (a, b) p = true := by
              unfold lt2
              by_cases z : a = p.1
              · rw [if_pos z, decide_eq_true_eq]
                constructor <;> intro <;> omega
              · rw [if_neg z, decide_eq_true_eq]
                constructor <;> intro <;> omega
            show (if a.toNat < p.1.toNat ∨ (a.toNat = p.1.toNat ∧ b.toNat < p.2.toNat) then _ else _) = _
            by_cases c3 : lt2 (a, b) p = true
            · rw [if_pos (hq.mpr c3), if_pos c3]; rfl
            · rw [if_neg (fun z => c3 (hq.mp z)), if_neg c3]
        have k := key (pairUp r) rfl
        have fin : (if (r.length % 2 = 0 ∧ (a < ↑n ∧ b < ↑n ∧ ∀ x ∈ r, x < (n : Int)) ∧ rising (pairUp (a :: b :: r)) = true) then some ((pairUp (a :: b :: r)).map natP) else none) = if rising ((a, b) :: pairUp r) = true then some (natP (a, b) :: (pairUp r).map natP) else none := by
          by_cases c4 : rising ((a, b) :: pairUp r) = true
          · rw [if_pos c4, if_pos ⟨e1, ⟨h1, h2, e2⟩, c4⟩]; rfl
          · rw [if_neg c4, if_neg (fun z => c4 z.2.2)]
        rw [fin, ← k]
        rfl
      · rw [if_neg c2, if_neg]
        rintro ⟨z1, ⟨_, _, z2⟩, z3⟩
        refine c2 ⟨z1, z2, ?_⟩
        simp only [pairUp] at z3
        cases hr : pairUp r with
        | nil => rfl
        | cons p q =>
          rw [hr] at z3
          have er : rising ((a, b) :: p :: q) = (lt2 (a, b) p && rising (p :: q)) := rfl
          rw [er, Bool.and_eq_true] at z3
          exact z3.2
theorem graphOf_eq (n : Int) (ns : List Int) (hn : 0 ≤ n) (hp : ∀ x ∈ ns, 0 ≤ x) : graphOf n.toNat (ns.map Int.toNat) = if isGraph n ns = true then some (gr n ns) else none := by
  unfold graphOf
  rw [pairsOf_eq n.toNat ns hp]
  have hb : isGraph n ns = true ↔ (1 ≤ n ∧ n ≤ 5 ∧ ns.length % 2 = 0 ∧ (∀ x ∈ ns, x < ((n.toNat : Nat) : Int)) ∧ rising (pairUp ns) = true) := by
    unfold isGraph
    simp only [Bool.and_eq_true, decide_eq_true_eq, List.all_eq_true, and_assoc]
    constructor
    · rintro ⟨h1, h2, h3, h4, h5⟩
      exact ⟨h1, h2, h3, fun x hx => by have := (h4 x hx).2; omega, h5⟩
    · rintro ⟨h1, h2, h3, h4, h5⟩
      exact ⟨h1, h2, h3, fun x hx => ⟨hp x hx, by have := h4 x hx; omega⟩, h5⟩
  have hP : Ks547.PLACES = 5 := rfl
  by_cases c : n.toNat < 1 ∨ Ks547.PLACES < n.toNat
  · rw [if_pos c, if_neg]
    intro z
    have := hb.mp z
    omega
  · rw [if_neg c]
    by_cases c2 : isGraph n ns = true
    · rw [if_pos c2, if_pos (hb.mp c2).2.2]
      rfl
    · rw [if_neg c2, if_neg]
      · rfl
      · intro z
        refine c2 (hb.mpr ⟨by omega, by omega, z⟩)

/-! ### graphs that are as told -/
structure Wf (g : Graph) : Prop where
  lo : 1 ≤ g.n
  hi : g.n ≤ 5
  inn : ∀ p ∈ g.arrows, p.1 < g.n ∧ p.2 < g.n
def nlt (p q : Nat × Nat) : Prop := p.1 < q.1 ∨ (p.1 = q.1 ∧ p.2 < q.2)
theorem has_iff {g : Graph} {u v : Nat} : has g u v = true ↔ (u, v) ∈ g.arrows := by
  unfold has
  exact List.contains_iff_mem
theorem isGraph_iff {n : Int} {ns : List Int} : isGraph n ns = true ↔ (1 ≤ n ∧ n ≤ 5 ∧ ns.length % 2 = 0 ∧ (∀ x ∈ ns, 0 ≤ x ∧ x < n) ∧ rising (pairUp ns) = true) := by
  unfold isGraph
  simp only [Bool.and_eq_true, decide_eq_true_eq, List.all_eq_true, and_assoc]
theorem gr_wf {n : Int} {ns : List Int} (h : isGraph n ns = true) : Wf (gr n ns) := by
  obtain ⟨h1, h2, h3, h4, h5⟩ := isGraph_iff.mp h
  refine ⟨by show 1 ≤ n.toNat; omega, by show n.toNat ≤ 5; omega, fun p hp => ?_⟩
  obtain ⟨q, hq, rfl⟩ := List.mem_map.mp hp
  have hm := pairUp_mem ns q hq
  have a1 := h4 _ hm.1
  have a2 := h4 _ hm.2
  show q.1.toNat < n.toNat ∧ q.2.toNat < n.toNat
  omega
theorem rising_head : ∀ (ps : List (Int × Int)) (p : Int × Int), rising (p :: ps) = true → ∀ q ∈ ps, lt2 p q = true
  | [], p, _, q, hq => by simp at hq
  | a :: r, p, h, q, hq => by
    have er : rising (p :: a :: r) = (lt2 p a && rising (a :: r)) := rfl
    rw [er, Bool.and_eq_true] at h
    rcases List.mem_cons.mp hq with rfl | hq
    · exact h.1
    · have ih := rising_head r a h.2 q hq
      have h1 := h.1
      unfold lt2 at ih h1 ⊢
      by_cases c1 : p.1 = a.1
      · rw [if_pos c1, decide_eq_true_eq] at h1
        by_cases c2 : a.1 = q.1
        · rw [if_pos c2, decide_eq_true_eq] at ih
          rw [if_pos (c1.trans c2), decide_eq_true_eq]; omega
        · rw [if_neg c2, decide_eq_true_eq] at ih
          rw [if_neg (by omega), decide_eq_true_eq]; omega
      · rw [if_neg c1, decide_eq_true_eq] at h1
        by_cases c2 : a.1 = q.1
        · rw [if_pos c2, decide_eq_true_eq] at ih
          rw [if_neg (by omega), decide_eq_true_eq]; omega
        · rw [if_neg c2, decide_eq_true_eq] at ih
          rw [if_neg (by omega), decide_eq_true_eq]; omega
theorem rising_pair : ∀ (ps : List (Int × Int)), rising ps = true → ps.Pairwise (fun p q => lt2 p q = true)
  | [], _ => .nil
  | p :: r, h => by
    refine List.Pairwise.cons (rising_head r p h) (rising_pair r ?_)
    cases r with
    | nil => rfl
    | cons a r =>
      have er : rising (p :: a :: r) = (lt2 p a && rising (a :: r)) := rfl
      rw [er, Bool.and_eq_true] at h
      exact h.2
theorem gr_rise {n : Int} {ns : List Int} (h : isGraph n ns = true) : (gr n ns).arrows.Pairwise nlt := by
  obtain ⟨h1, h2, h3, h4, h5⟩ := isGraph_iff.mp h
  refine List.pairwise_map.mpr (List.Pairwise.imp_of_mem ?_ (rising_pair _ h5))
  intro p q hp hq hl
  have hm := pairUp_mem ns p hp
  have hm' := pairUp_mem ns q hq
  have a1 := h4 _ hm.1
  have a2 := h4 _ hm.2
  have a3 := h4 _ hm'.1
  have a4 := h4 _ hm'.2
  show p.1.toNat < q.1.toNat ∨ (p.1.toNat = q.1.toNat ∧ p.2.toNat < q.2.toNat)
  unfold lt2 at hl
  by_cases c : p.1 = q.1
  · rw [if_pos c, decide_eq_true_eq] at hl; omega
  · rw [if_neg c, decide_eq_true_eq] at hl; omega
/-- each number of it is none below 0 -/
theorem gr_back {n : Int} {ns : List Int} (h : isGraph n ns = true) : pairUp ns = (gr n ns).arrows.map (fun p => ((p.1 : Int), (p.2 : Int))) := by
  obtain ⟨h1, h2, h3, h4, h5⟩ := isGraph_iff.mp h
  show pairUp ns = ((pairUp ns).map natP).map _
  rw [List.map_map]
  conv => lhs; rw [← List.map_id (pairUp ns)]
  refine List.map_congr_left fun p hp => ?_
  have hm := pairUp_mem ns p hp
  have a1 := h4 _ hm.1
  have a2 := h4 _ hm.2
  show p = (((p.1.toNat : Nat) : Int), ((p.2.toNat : Nat) : Int))
  rw [Int.toNat_of_nonneg a1.1, Int.toNat_of_nonneg a2.1]
end Tow
namespace Tow
open Ks547 (Graph has graphOf pairsOf)
open Ks551 (canWalk onward deep)
/-! ### walks -/
def stp (c : Nat → Bool) (ps : List (Nat × Nat)) (u : Nat) : Bool := ps.any fun p => p.1 == u && c p.2
theorem stp_all {g : Graph} (W : Wf g) (c : Nat → Bool) (u : Nat) : stp c g.arrows u = (List.range g.n).any (fun v => has g u v && c v) := by
  rw [Bool.eq_iff_iff]
  unfold stp
  simp only [List.any_eq_true, Bool.and_eq_true, beq_iff_eq, List.mem_range, has_iff]
  constructor
  · rintro ⟨⟨a, b⟩, hp, rfl, hc⟩
    exact ⟨b, (W.inn _ hp).2, hp, hc⟩
  · rintro ⟨v, hv, hp, hc⟩
    exact ⟨(u, v), hp, rfl, hc⟩
theorem canWalk_succ {g : Graph} (W : Wf g) (k u : Nat) : canWalk g (k + 1) u = stp (canWalk g k) g.arrows u := (stp_all W _ u).symm
theorem canWalk_iff {g : Graph} (W : Wf g) {k u : Nat} : canWalk g (k + 1) u = true ↔ ∃ v, (u, v) ∈ g.arrows ∧ canWalk g k v = true := by
  rw [canWalk_succ W]
  unfold stp
  simp only [List.any_eq_true, Bool.and_eq_true, beq_iff_eq]
  constructor
  · rintro ⟨⟨a, b⟩, hp, rfl, hc⟩
    exact ⟨b, hp, hc⟩
  · rintro ⟨v, hp, hc⟩
    exact ⟨(u, v), hp, rfl, hc⟩
theorem stp_nil (c : Nat → Bool) (u : Nat) : stp c [] u = false := rfl
theorem stp_snoc (c : Nat → Bool) (ps : List (Nat × Nat)) (p : Nat × Nat) (u : Nat) : stp c (ps ++ [p]) u = (stp c ps u || (p.1 == u && c p.2)) := by
  unfold stp
  rw [List.any_append]
  simp
/-- one turn of the inner loop of starts_by_length -/
theorem row_turn {n : Nat} (c : Nat → Bool) {ps : List (Nat × Nat)} {p : Nat × Nat} (hc : c p.2 = true) :
    ((List.range n).map (stp c ps)).set p.1 true = (List.range n).map (stp c (ps ++ [p])) := by
  refine List.ext_getElem? fun i => ?_
  rw [List.getElem?_set]
  simp only [List.length_map, List.length_range, List.getElem?_map]
  by_cases hi : i < n
  · rw [List.getElem?_range hi]
    simp only [Option.map_some, stp_snoc, hc, Bool.and_true]
    by_cases e : p.1 = i
    · subst e; simp [hi]
    · simp [e]
  · have : (List.range n)[i]? = none := by simp; omega
    rw [this]
    by_cases e : p.1 = i
    · subst e; simp [hi]
    · simp [e]
theorem row_skip {n : Nat} (c : Nat → Bool) {ps : List (Nat × Nat)} {p : Nat × Nat} (hc : c p.2 = false) :
    (List.range n).map (stp c ps) = (List.range n).map (stp c (ps ++ [p])) := by
  refine List.map_congr_left fun u _ => ?_
  rw [stp_snoc, hc]
  simp
theorem row_start {n : Nat} (c : Nat → Bool) : List.replicate n false = (List.range n).map (stp c []) := by
  refine List.ext_getElem (by simp) fun i h1 h2 => ?_
  simp [stp_nil]
theorem row_zero (g : Graph) (n : Nat) : List.replicate n true = (List.range n).map (canWalk g 0) := by
  refine List.ext_getElem (by simp) fun i h1 h2 => ?_
  simp [canWalk]
theorem row_end {g : Graph} (W : Wf g) (l n : Nat) : (List.range n).map (stp (canWalk g l) g.arrows) = (List.range n).map (canWalk g (l + 1)) :=
  List.map_congr_left fun u _ => (canWalk_succ W l u).symm
theorem canWalk_less {g : Graph} (W : Wf g) : ∀ (k u : Nat), canWalk g (k + 1) u = true → canWalk g k u = true
  | 0, _, _ => rfl
  | k + 1, u, h => by
    obtain ⟨v, hv, hc⟩ := (canWalk_iff W).mp h
    exact (canWalk_iff W).mpr ⟨v, hv, canWalk_less W k v hc⟩
/-! ### how deep -/
theorem le_foldl_max : ∀ (l : List Nat) (a : Nat), a ≤ l.foldl max a ∧ ∀ x ∈ l, x ≤ l.foldl max a
  | [], a => ⟨Nat.le_refl _, fun x h => by simp at h⟩
  | y :: r, a => by
    have ih := le_foldl_max r (max a y)
    simp only [List.foldl_cons]
    refine ⟨by have := ih.1; omega, fun x hx => ?_⟩
    rcases List.mem_cons.mp hx with rfl | hx
    · have := ih.1; omega
    · exact ih.2 x hx
theorem foldl_max_le : ∀ (l : List Nat) (a m : Nat), a ≤ m → (∀ x ∈ l, x ≤ m) → l.foldl max a ≤ m
  | [], a, m, h, _ => h
  | y :: r, a, m, h, hl => by
    simp only [List.foldl_cons]
    refine foldl_max_le r _ m ?_ fun x hx => hl x (by simp [hx])
    have := hl y (by simp)
    omega
theorem deep_ge {g : Graph} (W : Wf g) {k u v : Nat} (h : (u, v) ∈ g.arrows) : deep g k u + 1 ≤ deep g (k + 1) v := by
  show _ ≤ List.foldl max 0 _
  refine (le_foldl_max _ 0).2 _ (List.mem_map.mpr ⟨u, List.mem_range.mpr (W.inn _ h).1, ?_⟩)
  rw [if_pos (has_iff.mpr h)]
theorem deep_le {g : Graph} {k v m : Nat} (h : ∀ u, (u, v) ∈ g.arrows → deep g k u + 1 ≤ m) : deep g (k + 1) v ≤ m := by
  show List.foldl max 0 _ ≤ m
  refine foldl_max_le _ 0 m (Nat.zero_le _) fun x hx => ?_
  obtain ⟨u, _, rfl⟩ := List.mem_map.mp hx
  by_cases c : has g u v = true
  · rw [if_pos c]; exact h u (has_iff.mp c)
  · rw [if_neg c]; exact Nat.zero_le _
/-- where it isn't 0 some arrow tells why -/
theorem deep_by {g : Graph} {k v j : Nat} (h : j + 1 ≤ deep g (k + 1) v) : ∃ u, (u, v) ∈ g.arrows ∧ j ≤ deep g k u := by
  apply Classical.byContradiction
  intro hn
  have : deep g (k + 1) v ≤ j := deep_le fun u hu => by
    have : ¬ j ≤ deep g k u := fun z => hn ⟨u, hu, z⟩
    omega
  omega
theorem deep_mono {g : Graph} (W : Wf g) : ∀ (k v : Nat), deep g k v ≤ deep g (k + 1) v
  | 0, v => Nat.zero_le _
  | k + 1, v => deep_le fun u hu => Nat.le_trans (Nat.succ_le_succ (deep_mono W k u)) (deep_ge W hu)
theorem deep_new {g : Graph} (W : Wf g) : ∀ (k v : Nat), deep g (k + 1) v = deep g k v ∨ k + 1 ≤ deep g (k + 1) v
  | 0, v => by
    rcases Nat.eq_zero_or_pos (deep g 1 v) with h | h
    · left; exact h
    · right; exact h
  | k + 1, v => by
    by_cases c : deep g (k + 1 + 1) v = deep g (k + 1) v
    · exact .inl c
    · right
      have m := deep_mono W (k + 1) v
      obtain ⟨u, hu, hd⟩ := deep_by (g := g) (k := k + 1) (v := v) (j := deep g (k + 1) v) (by omega)
      rcases deep_new W k u with e | e
      · have := deep_ge W (k := k) hu
        omega
      · have := deep_ge W (k := k + 1) hu
        omega
/-- a walk behind, a walk ahead -/
theorem deep_walk {g : Graph} (W : Wf g) : ∀ (j k v m : Nat), v < g.n → j ≤ deep g k v → canWalk g m v = true → ∃ u, u < g.n ∧ canWalk g (j + m) u = true
  | 0, _, v, m, hv, _, hc => ⟨v, hv, by rw [Nat.zero_add]; exact hc⟩
  | j + 1, 0, v, m, hv, hd, _ => by simp [deep] at hd
  | j + 1, k + 1, v, m, hv, hd, hc => by
    obtain ⟨u, hu, h⟩ := deep_by hd
    obtain ⟨x, hx, hw⟩ := deep_walk W j k u (m + 1) (W.inn _ hu).1 h ((canWalk_iff W).mpr ⟨v, hu, hc⟩)
    exact ⟨x, hx, by rw [show j + 1 + m = j + (m + 1) by omega]; exact hw⟩
def NoWalk (g : Graph) (k : Nat) : Prop := ∀ u, u < g.n → canWalk g k u = false
theorem deep_lt {g : Graph} (W : Wf g) {k : Nat} (h : NoWalk g k) {j v : Nat} (hv : v < g.n) : deep g j v < k := by
  rcases Nat.lt_or_ge (deep g j v) k with q | q
  · exact q
  · obtain ⟨u, hu, hc⟩ := deep_walk W k j v 0 hv q rfl
    rw [Nat.add_zero, h u hu] at hc
    cases hc
theorem deep_fix {g : Graph} (W : Wf g) {k : Nat} (h : NoWalk g k) {v : Nat} (hv : v < g.n) : deep g (k + 1) v = deep g k v := by
  rcases deep_new W k v with e | e
  · exact e
  · have := deep_lt W h (j := k + 1) hv
    omega
theorem nodup_small : ∀ (n : Nat) (l : List Nat), l.Nodup → (∀ x ∈ l, x < n) → l.length ≤ n
  | 0, l, _, h => by
    cases l with
    | nil => exact Nat.le_refl _
    | cons x r => exact absurd (h x (by simp)) (Nat.not_lt_zero _)
  | n + 1, l, hd, h => by
    have ih := nodup_small n (l.erase n) (hd.erase n) fun x hx => by
      have h1 := (hd.mem_erase_iff).mp hx
      have := h x h1.2
      have := h1.1
      omega
    by_cases c : n ∈ l
    · rw [List.length_erase_of_mem c] at ih
      omega
    · rw [List.erase_of_not_mem c] at ih
      omega
theorem walk_list {g : Graph} (W : Wf g) (h : Nat → Nat) (hh : ∀ u v, (u, v) ∈ g.arrows → h u < h v) : ∀ (m u : Nat), u < g.n → canWalk g m u = true →
    ∃ l : List Nat, l.length = m + 1 ∧ (∀ x ∈ l, x < g.n) ∧ (∀ x ∈ l, h u ≤ h x) ∧ l.Nodup
  | 0, u, hu, _ => ⟨[u], rfl, by simpa using hu, by simp, by simp⟩
  | m + 1, u, hu, hc => by
    obtain ⟨v, hv, hw⟩ := (canWalk_iff W).mp hc
    obtain ⟨l, e1, e2, e3, e4⟩ := walk_list W h hh m v (W.inn _ hv).2 hw
    have := hh u v hv
    refine ⟨u :: l, by simp [e1], ?_, ?_, ?_⟩
    · intro x hx
      rcases List.mem_cons.mp hx with rfl | hx
      · exact hu
      · exact e2 x hx
    · intro x hx
      rcases List.mem_cons.mp hx with rfl | hx
      · exact Nat.le_refl _
      · have := e3 x hx; omega
    · refine List.nodup_cons.mpr ⟨fun hx => ?_, e4⟩
      have := e3 u hx
      omega
theorem noWalk_n {g : Graph} (W : Wf g) {k : Nat} (h : NoWalk g k) : NoWalk g g.n := by
  intro u hu
  cases hc : canWalk g g.n u with
  | false => rfl
  | true =>
    obtain ⟨l, e1, e2, _, e4⟩ := walk_list W (deep g k) (fun a b hab => by
      have h1 := deep_ge W (k := k) hab
      rw [deep_fix W h (W.inn _ hab).2] at h1
      exact h1) g.n u hu hc
    have := nodup_small g.n l e4 e2
    omega
/-! ### the heights -/
structure Hts (g : Graph) (r : Nat) (done : List (Nat × Nat)) (h : List Nat) : Prop where
  len : h.length = g.n
  lo : ∀ v, v < g.n → deep g r v ≤ h.getD v 0
  hi : ∀ v, v < g.n → h.getD v 0 ≤ deep g g.n v
  got : ∀ p ∈ done, deep g r p.1 + 1 ≤ h.getD p.2 0
theorem hts_zero (g : Graph) : Hts g 0 [] (List.replicate g.n 0) := by
  refine ⟨by simp, fun v _ => Nat.zero_le _, fun v hv => ?_, fun p hp => by simp at hp⟩
  have e : (List.replicate g.n 0).getD v 0 = 0 := by simp [hv]
  rw [e]
  exact Nat.zero_le _
theorem getD_set {l : List Nat} {i j x : Nat} (hi : i < l.length) : (l.set i x).getD j 0 = if i = j then x else l.getD j 0 := by
  simp only [List.getD_eq_getElem?_getD, List.getElem?_set]
  by_cases e : i = j
  · subst e; simp [hi]
  · simp [e]
theorem hts_turn {g : Graph} (W : Wf g) (N : NoWalk g g.n) {r : Nat} {done : List (Nat × Nat)} {h : List Nat} (s : Hts g r done h) {p : Nat × Nat} (hp : p ∈ g.arrows) :
    Hts g r (done ++ [p]) (h.set p.2 (max (h.getD p.2 0) (h.getD p.1 0 + 1))) := by
  obtain ⟨h1, h2⟩ := W.inn p hp
  have hl : p.2 < h.length := by rw [s.len]; exact h2
  refine ⟨by rw [List.length_set]; exact s.len, fun v hv => ?_, fun v hv => ?_, fun q hq => ?_⟩
  · rw [getD_set hl]
    have := s.lo v hv
    by_cases e : p.2 = v
    · rw [if_pos e]; subst e; omega
    · rw [if_neg e]; exact this
  · rw [getD_set hl]
    have := s.hi v hv
    by_cases e : p.2 = v
    · rw [if_pos e]; subst e
      have a := s.hi p.1 h1
      have b : deep g g.n p.1 + 1 ≤ deep g (g.n + 1) p.2 := deep_ge W hp
      rw [deep_fix W N h2] at b
      omega
    · rw [if_neg e]; exact this
  · rw [getD_set hl]
    rcases List.mem_append.mp hq with hq | hq
    · have := s.got q hq
      by_cases e : p.2 = q.2
      · rw [if_pos e, e]; omega
      · rw [if_neg e]; exact this
    · have e : q = p := by simpa using hq
      subst e
      rw [if_pos rfl]
      have := s.lo q.1 h1
      omega
theorem hts_round {g : Graph} {r : Nat} {h : List Nat} (s : Hts g r g.arrows h) : Hts g (r + 1) [] h :=
  ⟨s.len, fun v _ => deep_le fun u hu => s.got (u, v) hu, s.hi, fun p hp => by simp at hp⟩
theorem hts_end {g : Graph} {h : List Nat} (s : Hts g g.n [] h) : h = Ks551.lift g := by
  refine List.ext_getElem (by rw [s.len]; simp [Ks551.lift]) fun i h1 h2 => ?_
  have hi : i < g.n := by rw [← s.len]; exact h1
  have a := s.lo i hi
  have b := s.hi i hi
  have e : h.getD i 0 = h[i] := by simp [h1]
  have e2 : (Ks551.lift g)[i] = deep g g.n i := by simp [Ks551.lift]
  rw [e] at a b
  rw [e2]
  omega
end Tow
namespace Tow
open Ks547 (Graph has graphOf pairsOf rows keeps maps)
open Ks551 (canWalk onward deep lift round walk)
/-! ### round, longest -/
theorem find_none_iff {g : Graph} {k : Nat} : (List.range g.n).find? (canWalk g k) = none ↔ NoWalk g k := by
  rw [List.find?_eq_none]
  constructor
  · intro h u hu
    have := h u (List.mem_range.mpr hu)
    simpa using this
  · intro h u hu
    have := h u (List.mem_range.mp hu)
    simp [this]
theorem walk_none_iff {g : Graph} {k : Nat} : walk g k = none ↔ NoWalk g k := by
  unfold walk
  rw [Option.map_eq_none_iff]
  exact find_none_iff
theorem any_false_iff {g : Graph} {k : Nat} : ((List.range g.n).map (canWalk g k)).any id = false ↔ NoWalk g k := by
  rw [List.any_map]
  simp only [List.any_eq_false, List.mem_range, Function.comp, id]
  constructor
  · intro h u hu
    have := h u hu
    simpa using this
  · intro h u hu
    simp [h u hu]
theorem round_eq (g : Graph) : round g = ((List.range g.n).map (canWalk g g.n)).any id := by
  unfold round
  cases hw : walk g g.n with
  | none =>
    rw [any_false_iff.mpr (walk_none_iff.mp hw)]
    rfl
  | some l =>
    cases ha : ((List.range g.n).map (canWalk g g.n)).any id with
    | true => rfl
    | false =>
      rw [walk_none_iff.mpr (any_false_iff.mp ha)] at hw
      cases hw
theorem noWalk_of_round {g : Graph} (h : round g = false) : NoWalk g g.n := by
  rw [round_eq] at h
  exact any_false_iff.mp h
theorem foldl_max_is {l : List Nat} {m : Nat} (hm : m ∈ l) (hle : ∀ x ∈ l, x ≤ m) : l.foldl max 0 = m :=
  Nat.le_antisymm (foldl_max_le l 0 m (Nat.zero_le _) hle) ((le_foldl_max l 0).2 m hm)
/-! ### into the tower -/
theorem head_range {α : Type} (F : Nat → List α) (y : α) : ∀ (m x0 : Nat), x0 < m → (∀ x, x < x0 → F x = []) → (F x0).head? = some y → ((List.range m).flatMap F).head? = some y
  | 0, x0, h, _, _ => absurd h (Nat.not_lt_zero _)
  | m + 1, x0, h, h0, hy => by
    rw [List.range_succ, List.flatMap_append, List.head?_append]
    by_cases c : x0 < m
    · rw [head_range F y m x0 c h0 hy]
      rfl
    · have e : x0 = m := by omega
      subst e
      have z : (List.range x0).flatMap F = [] := by
        rw [List.flatMap_eq_nil_iff]
        intro x hx
        exact h0 x (List.mem_range.mp hx)
      rw [z]
      simp [hy]
theorem head_rows (m : Nat) : ∀ (n : Nat) (P : List Nat → Bool) (d : List Nat), d.length = n → (∀ x ∈ d, x < m) → P d = true → (∀ f, f.length = n → P f = true → ∀ i, i < n → d.getD i 0 ≤ f.getD i 0) → ((rows m n).filter P).head? = some d
  | 0, P, d, hl, _, hP, _ => by
    have e : d = [] := List.length_eq_zero_iff.mp hl
    subst e
    simp [rows, hP]
  | n + 1, P, [], hl, _, _, _ => by simp at hl
  | n + 1, P, x0 :: d, hl, hm, hP, hle => by
    have hl' : d.length = n := by simpa using hl
    show (((List.range m).flatMap fun x => (rows m n).map fun r => x :: r).filter P).head? = _
    rw [List.filter_flatMap]
    have hlen : ∀ (n : Nat) (r : List Nat), r ∈ rows m n → r.length = n := by
      intro n
      induction n with
      | zero => intro r hr; simp [rows] at hr; simp [hr]
      | succ n ih =>
        intro r hr
        simp only [rows, List.mem_flatMap, List.mem_map] at hr
        obtain ⟨x, _, r', hr', rfl⟩ := hr
        simp [ih r' hr']
    refine head_range _ _ m x0 (hm x0 (by simp)) (fun x hx => ?_) ?_
    · rw [List.filter_eq_nil_iff]
      intro f hf hPf
      obtain ⟨r, hr, rfl⟩ := List.mem_map.mp hf
      have := hle (x :: r) (by simp [hlen n r hr]) hPf 0 (by omega)
      simp at this
      omega
    · rw [List.filter_map, List.head?_map]
      have ih := head_rows m n (P ∘ fun r => x0 :: r) d hl' (fun x hx => hm x (by simp [hx])) hP fun f hf hPf i hi => by
        have := hle (x0 :: f) (by simp [hf]) hPf (i + 1) (by omega)
        simpa using this
      rw [ih]
      rfl
theorem has_tower {k u v : Nat} : has (Ks551.tower k) u v = true ↔ u < v ∧ v < k := by
  rw [has_iff]
  show (u, v) ∈ (List.range k).flatMap _ ↔ _
  simp only [List.mem_flatMap, List.mem_map, List.mem_filter, List.mem_range, decide_eq_true_eq, Prod.mk.injEq]
  constructor
  · rintro ⟨a, ha, b, ⟨hb, hab⟩, rfl, rfl⟩
    exact ⟨hab, hb⟩
  · rintro ⟨h1, h2⟩
    exact ⟨u, by omega, v, ⟨h2, h1⟩, rfl, rfl⟩
theorem keeps_iff {g : Graph} {k : Nat} {f : List Nat} : keeps g (Ks551.tower k) f = true ↔ f.length = g.n ∧ (∀ x ∈ f, x < k) ∧ ∀ p ∈ g.arrows, f.getD p.1 0 < f.getD p.2 0 ∧ f.getD p.2 0 < k := by
  unfold keeps
  simp only [Bool.and_eq_true, beq_iff_eq, List.all_eq_true, decide_eq_true_eq, has_tower, and_assoc]
  rfl
theorem lift_len (g : Graph) : (lift g).length = g.n := by simp [lift]
theorem lift_at {g : Graph} {v : Nat} (h : v < g.n) : (lift g).getD v 0 = deep g g.n v := by
  unfold lift
  simp [h]
theorem keeps_ge {g : Graph} (W : Wf g) {k : Nat} {f : List Nat} (hf : keeps g (Ks551.tower k) f = true) : ∀ (j v : Nat), deep g j v ≤ f.getD v 0
  | 0, _ => Nat.zero_le _
  | j + 1, v => deep_le fun u hu => by
    have h1 : f.getD u 0 < f.getD v 0 := ((keeps_iff.mp hf).2.2 (u, v) hu).1
    have h2 := keeps_ge W hf j u
    omega
theorem tower_some {g : Graph} (W : Wf g) {k : Nat} (h : NoWalk g k) : (maps g (Ks551.tower k)).head? = some (lift g) := by
  have N := noWalk_n W h
  unfold maps
  refine head_rows _ _ _ _ (lift_len g) ?_ ?_ ?_
  · intro x hx
    obtain ⟨v, hv, rfl⟩ := List.mem_map.mp hx
    exact deep_lt W h (List.mem_range.mp hv)
  · refine keeps_iff.mpr ⟨lift_len g, ?_, fun p hp => ?_⟩
    · intro x hx
      obtain ⟨v, hv, rfl⟩ := List.mem_map.mp hx
      exact deep_lt W h (List.mem_range.mp hv)
    · obtain ⟨h1, h2⟩ := W.inn p hp
      rw [lift_at h1, lift_at h2]
      have a := deep_ge W (k := g.n) hp
      rw [deep_fix W N h2] at a
      exact ⟨a, deep_lt W h h2⟩
  · intro f hf hP i hi
    rw [lift_at hi]
    exact keeps_ge W hP g.n i
theorem keeps_walk {g : Graph} (W : Wf g) {k : Nat} {f : List Nat} (hf : keeps g (Ks551.tower k) f = true) : ∀ (j u : Nat), u < g.n → canWalk g j u = true → f.getD u 0 + j < k
  | 0, u, hu, _ => by
    obtain ⟨h1, h2, _⟩ := keeps_iff.mp hf
    have hl : u < f.length := by omega
    have e : f.getD u 0 = f[u] := by simp [hl]
    rw [e]
    exact h2 _ (List.getElem_mem hl)
  | j + 1, u, hu, hc => by
    obtain ⟨v, hv, hw⟩ := (canWalk_iff W).mp hc
    have := keeps_walk W hf j v (W.inn _ hv).2 hw
    have := ((keeps_iff.mp hf).2.2 (u, v) hv).1
    simp only at this
    omega
theorem tower_none {g : Graph} (W : Wf g) {k u : Nat} (hu : u < g.n) (hc : canWalk g k u = true) : (maps g (Ks551.tower k)).head? = none := by
  unfold maps
  rw [List.head?_eq_none_iff, List.filter_eq_nil_iff]
  intro f _ hf
  have := keeps_walk W hf k u hu hc
  omega
/-! ### the first walk -/
/-- of the arrows that rise the first that leads on is the least -/
theorem first_target {g : Graph} (W : Wf g) (R : g.arrows.Pairwise nlt) (c : Nat → Bool) (u : Nat) :
    ((g.arrows.filter fun p => p.1 == u && c p.2).map (·.2)).head? = (List.range g.n).find? fun v => has g u v && c v := by
  cases hh : ((g.arrows.filter fun p => p.1 == u && c p.2)) with
  | nil =>
    simp only [List.map_nil, List.head?_nil]
    symm
    rw [List.find?_eq_none]
    intro v hv hb
    rw [Bool.and_eq_true, has_iff] at hb
    have : (u, v) ∈ g.arrows.filter fun p => p.1 == u && c p.2 := List.mem_filter.mpr ⟨hb.1, by simp [hb.2]⟩
    rw [hh] at this
    simp at this
  | cons p r =>
    simp only [List.map_cons, List.head?_cons]
    symm
    have hp : p ∈ g.arrows.filter fun p => p.1 == u && c p.2 := by rw [hh]; simp
    obtain ⟨hp1, hp2⟩ := List.mem_filter.mp hp
    rw [Bool.and_eq_true, beq_iff_eq] at hp2
    have hpw : (p :: r).Pairwise nlt := by rw [← hh]; exact R.filter _
    rw [List.find?_range_eq_some]
    refine ⟨?_, ?_, ?_⟩
    · rw [Bool.and_eq_true, has_iff, ← hp2.1]
      exact ⟨hp1, hp2.2⟩
    · exact List.mem_range.mpr (W.inn p hp1).2
    · intro j hj
      cases hb : (has g u j && c j) with
      | false => rfl
      | true =>
        exfalso
        rw [Bool.and_eq_true, has_iff] at hb
        have hm : (u, j) ∈ g.arrows.filter fun p => p.1 == u && c p.2 := List.mem_filter.mpr ⟨hb.1, by simp [hb.2]⟩
        rw [hh] at hm
        rcases List.mem_cons.mp hm with e | hm
        · have e2 : j = p.2 := congrArg Prod.snd e
          omega
        · have h3 : nlt p (u, j) := (List.pairwise_cons.mp hpw).1 _ hm
          have h4 : p.1 < u ∨ (p.1 = u ∧ p.2 < j) := h3
          omega
/-- the walk told so far, from u on, l places still to be told -/
theorem onward_step {g : Graph} (W : Wf g) (R : g.arrows.Pairwise nlt) {k u : Nat} (hc : canWalk g (k + 1) u = true) :
    ∃ v, v < g.n ∧ canWalk g k v = true ∧ ((g.arrows.filter fun p => p.1 == u && canWalk g k p.2).map (·.2)).head? = some v ∧ onward g (k + 1) u = u :: onward g k v := by
  rw [first_target W R (canWalk g k) u]
  cases hf : (List.range g.n).find? (fun v => has g u v && canWalk g k v) with
  | none =>
    exfalso
    obtain ⟨v, hv, hw⟩ := (canWalk_iff W).mp hc
    rw [List.find?_eq_none] at hf
    refine hf v (List.mem_range.mpr (W.inn _ hv).2) ?_
    rw [Bool.and_eq_true, has_iff]
    exact ⟨hv, hw⟩
  | some v =>
    have h1 := List.mem_range.mp (List.mem_of_find?_eq_some hf)
    have h2 := List.find?_some hf
    rw [Bool.and_eq_true] at h2
    refine ⟨v, h1, h2.2, rfl, ?_⟩
    show (match (List.range g.n).find? fun v => has g u v && canWalk g k v with
      | none => [u]
      | some v => u :: onward g k v) = _
    rw [hf]
theorem onward_len {g : Graph} (W : Wf g) (R : g.arrows.Pairwise nlt) : ∀ (k u : Nat), canWalk g k u = true → (onward g k u).length = k + 1
  | 0, _, _ => rfl
  | k + 1, u, h => by
    obtain ⟨v, _, hc, _, e⟩ := onward_step W R h
    rw [e, List.length_cons, onward_len W R k v hc]
/-- where it starts: the first from which it may be walked -/
theorem start_head {g : Graph} {k : Nat} : ((List.range g.n).filter (canWalk g k)).head? = (List.range g.n).find? (canWalk g k) := by
  rw [List.head?_filter]
theorem walk_eq {g : Graph} {k u : Nat} (h : ((List.range g.n).filter (canWalk g k)).head? = some u) : walk g k = some (onward g k u) ∧ u < g.n ∧ canWalk g k u = true := by
  rw [start_head] at h
  refine ⟨?_, List.mem_range.mp (List.mem_of_find?_eq_some h), List.find?_some h⟩
  unfold walk
  rw [h]
  rfl
theorem start_none {g : Graph} {k : Nat} (h : (List.range g.n).filter (canWalk g k) = []) : NoWalk g k := by
  rw [← find_none_iff, ← start_head, h]
  rfl
/-! ### what is due -/
def outI (r : Int) (l : List Nat) : List Int := r :: l.map Int.ofNat
theorem longest_due {n : Int} {ns : List Int} (hn : 0 ≤ n) (hp : ∀ x ∈ ns, 0 ≤ x) : PyKs551.longest n ns =
    if isGraph n ns = true then (if round (gr n ns) = true then [-33] else [(((lift (gr n ns)).foldl max 0 : Nat) : Int)]) else [-22] := by
  show Ks551Neutral.out (Ks551.answer (.longest n.toNat (ns.map Int.toNat))) = _
  show Ks551Neutral.out (Ks547.graph n.toNat (ns.map Int.toNat) _) = _
  unfold Ks547.graph
  rw [graphOf_eq n ns hn hp]
  by_cases c : isGraph n ns = true
  · rw [if_pos c, if_pos c]
    show Ks551Neutral.out (if round (gr n ns) = true then _ else _) = _
    by_cases c2 : round (gr n ns) = true
    · rw [if_pos c2, if_pos c2]; rfl
    · rw [if_neg c2, if_neg c2]; rfl
  · rw [if_neg c, if_neg c]; rfl
theorem tower_due {n k : Int} {ns : List Int} (hn : 0 ≤ n) (hk : 0 ≤ k) (hp : ∀ x ∈ ns, 0 ≤ x) : PyKs551.tower n k ns =
    if isGraph n ns = true ∧ 1 ≤ k ∧ k ≤ 6 then (match walk (gr n ns) k.toNat with | none => outI 1 (lift (gr n ns)) | some w => outI 0 w) else [-22] := by
  show Ks551Neutral.out (Ks551.answer (.tower n.toNat k.toNat (ns.map Int.toNat))) = _
  show Ks551Neutral.out (Ks547.graph n.toNat (ns.map Int.toNat) _) = _
  unfold Ks547.graph
  rw [graphOf_eq n ns hn hp]
  by_cases c : isGraph n ns = true
  · rw [if_pos c]
    show Ks551Neutral.out (if k.toNat < 1 ∨ 6 < k.toNat then _ else _) = _
    by_cases c2 : 1 ≤ k ∧ k ≤ 6
    · rw [if_neg (by omega), if_pos ⟨c, c2⟩]
      have W := gr_wf c
      cases hw : walk (gr n ns) k.toNat with
      | none =>
        rw [tower_some W (walk_none_iff.mp hw)]
        rfl
      | some w =>
        have hN : ∃ u, u < (gr n ns).n ∧ canWalk (gr n ns) k.toNat u = true := by
          apply Classical.byContradiction
          intro hn
          have : NoWalk (gr n ns) k.toNat := fun u hu => by
            cases hc : canWalk (gr n ns) k.toNat u with
            | false => rfl
            | true => exact absurd ⟨u, hu, hc⟩ hn
          rw [walk_none_iff.mpr this] at hw
          cases hw
        obtain ⟨u, hu, hc⟩ := hN
        rw [tower_none W hu hc]
        rfl
    · rw [if_pos (by omega), if_neg (fun z => c2 z.2)]; rfl
  · rw [if_neg c, if_neg (fun z => c z.1)]; rfl
theorem lift_due {n : Int} {ns : List Int} (hn : 0 ≤ n) (hp : ∀ x ∈ ns, 0 ≤ x) : PyKs551.lift n ns =
    if isGraph n ns = true then (if round (gr n ns) = true then [-33] else outI n (lift (gr n ns))) else [-22] := by
  show Ks551Neutral.out (Ks551.answer (.lift n.toNat (ns.map Int.toNat))) = _
  show Ks551Neutral.out (Ks547.graph n.toNat (ns.map Int.toNat) _) = _
  unfold Ks547.graph
  rw [graphOf_eq n ns hn hp]
  by_cases c : isGraph n ns = true
  · rw [if_pos c, if_pos c]
    show Ks551Neutral.out (if round (gr n ns) = true then _ else _) = _
    by_cases c2 : round (gr n ns) = true
    · rw [if_pos c2, if_pos c2]; rfl
    · rw [if_neg c2, if_neg c2]
      show (((lift (gr n ns)).length : Nat) : Int) :: _ = n :: _
      rw [lift_len]
      show ((n.toNat : Nat) : Int) :: _ = _
      rw [Int.toNat_of_nonneg hn]
      rfl
  · rw [if_neg c, if_neg c]; rfl
theorem walk_due {n k : Int} {ns : List Int} (hn : 0 ≤ n) (hk : 0 ≤ k) (hp : ∀ x ∈ ns, 0 ≤ x) : PyKs551.walk n k ns =
    if isGraph n ns = true ∧ k ≤ 12 then (match walk (gr n ns) k.toNat with | none => [-33] | some w => outI w.length w) else [-22] := by
  show Ks551Neutral.out (Ks551.answer (.walk n.toNat k.toNat (ns.map Int.toNat))) = _
  show Ks551Neutral.out (Ks547.graph n.toNat (ns.map Int.toNat) _) = _
  unfold Ks547.graph
  rw [graphOf_eq n ns hn hp]
  by_cases c : isGraph n ns = true
  · rw [if_pos c]
    show Ks551Neutral.out (if 12 < k.toNat then _ else _) = _
    by_cases c2 : k ≤ 12
    · rw [if_neg (by omega), if_pos ⟨c, c2⟩]
      cases hw : walk (gr n ns) k.toNat with
      | none => rfl
      | some w => rfl
    · rw [if_pos (by omega), if_neg (fun z => c2 z.2)]; rfl
  · rw [if_neg c, if_neg (fun z => c z.1)]; rfl
end Tow
namespace Tow
open Ks547 (Graph has)
open Ks551 (canWalk onward walk round)
/-! ### walks to one of the ends -/
def canEnd (g : Graph) (e : Nat → Bool) : Nat → Nat → Bool
  | 0, u => e u
  | k + 1, u => stp (canEnd g e k) g.arrows u
def owEnd (g : Graph) (e : Nat → Bool) : Nat → Nat → List Nat
  | 0, u => [u]
  | k + 1, u => match (List.range g.n).find? fun v => has g u v && canEnd g e k v with
    | none => [u]
    | some v => u :: owEnd g e k v
theorem canEnd_iff {g : Graph} {e : Nat → Bool} {k u : Nat} : canEnd g e (k + 1) u = true ↔ ∃ v, (u, v) ∈ g.arrows ∧ canEnd g e k v = true := by
  show stp (canEnd g e k) g.arrows u = true ↔ _
  unfold stp
  simp only [List.any_eq_true, Bool.and_eq_true, beq_iff_eq]
  constructor
  · rintro ⟨⟨a, b⟩, hp, rfl, hc⟩
    exact ⟨b, hp, hc⟩
  · rintro ⟨v, hp, hc⟩
    exact ⟨(u, v), hp, rfl, hc⟩
theorem canEnd_walk {g : Graph} (W : Wf g) : ∀ k u, canEnd g (fun _ => true) k u = canWalk g k u
  | 0, u => rfl
  | k + 1, u => by
    rw [canWalk_succ W, show canWalk g k = canEnd g (fun _ => true) k from (funext fun v => canEnd_walk W k v).symm]
    rfl
theorem owEnd_walk {g : Graph} (W : Wf g) : ∀ k u, owEnd g (fun _ => true) k u = onward g k u
  | 0, u => rfl
  | k + 1, u => by
    show (match (List.range g.n).find? fun v => has g u v && canEnd g (fun _ => true) k v with | none => [u] | some v => u :: owEnd g (fun _ => true) k v) =
      (match (List.range g.n).find? fun v => has g u v && canWalk g k v with | none => [u] | some v => u :: onward g k v)
    rw [show (fun v => has g u v && canEnd g (fun _ => true) k v) = fun v => has g u v && canWalk g k v from funext fun v => by rw [canEnd_walk W k v]]
    cases (List.range g.n).find? fun v => has g u v && canWalk g k v with
    | none => rfl
    | some v => show u :: owEnd g (fun _ => true) k v = _; rw [owEnd_walk W k v]
theorem rowE_end (g : Graph) (e : Nat → Bool) (l n : Nat) : (List.range n).map (stp (canEnd g e l) g.arrows) = (List.range n).map (canEnd g e (l + 1)) := rfl
/-- the walk told so far, from u on -/
theorem end_step {g : Graph} (W : Wf g) (R : g.arrows.Pairwise nlt) {e : Nat → Bool} {k u : Nat} (hc : canEnd g e (k + 1) u = true) :
    ∃ v, v < g.n ∧ canEnd g e k v = true ∧ ((g.arrows.filter fun p => p.1 == u && canEnd g e k p.2).map (·.2)).head? = some v ∧ owEnd g e (k + 1) u = u :: owEnd g e k v := by
  rw [first_target W R (canEnd g e k) u]
  cases hf : (List.range g.n).find? (fun v => has g u v && canEnd g e k v) with
  | none =>
    exfalso
    obtain ⟨v, hv, hw⟩ := canEnd_iff.mp hc
    rw [List.find?_eq_none] at hf
    refine hf v (List.mem_range.mpr (W.inn _ hv).2) ?_
    rw [Bool.and_eq_true, has_iff]
    exact ⟨hv, hw⟩
  | some v =>
    have h1 := List.mem_range.mp (List.mem_of_find?_eq_some hf)
    have h2 := List.find?_some hf
    rw [Bool.and_eq_true] at h2
    refine ⟨v, h1, h2.2, rfl, ?_⟩
    show (match (List.range g.n).find? fun v => has g u v && canEnd g e k v with
      | none => [u]
      | some v => u :: owEnd g e k v) = _
    rw [hf]
theorem owEnd_len {g : Graph} (W : Wf g) (R : g.arrows.Pairwise nlt) {e : Nat → Bool} : ∀ (k u : Nat), canEnd g e k u = true → (owEnd g e k u).length = k + 1
  | 0, _, _ => rfl
  | k + 1, u, h => by
    obtain ⟨v, _, hc, _, e⟩ := end_step W R h
    rw [e, List.length_cons, owEnd_len W R k v hc]
/-- the first of 0, 1 .. that keeps P -/
theorem find_lt {P : Nat → Bool} : ∀ {m x0 : Nat}, x0 < m → (∀ x, x < x0 → P x = false) → P x0 = true → (List.range m).find? P = some x0
  | 0, x0, h, _, _ => by omega
  | m + 1, x0, h, hl, hy => by
    rw [List.range_succ, List.find?_append]
    by_cases c : x0 < m
    · rw [find_lt c hl hy]
      rfl
    · have e : x0 = m := by omega
      subst e
      have : (List.range x0).find? P = none := by
        rw [List.find?_eq_none]
        intro x hx
        rw [hl x (List.mem_range.mp hx)]
        exact Bool.false_ne_true
      rw [this, List.find?_cons_of_pos hy]
      rfl
theorem find_no {P : Nat → Bool} {m : Nat} (h : ∀ x, x < m → P x = false) : (List.range m).find? P = none := by
  rw [List.find?_eq_none]
  intro x hx
  rw [h x (List.mem_range.mp hx)]
  exact Bool.false_ne_true
theorem walk_is {g : Graph} (W : Wf g) {k u : Nat} (hu : u < g.n) (hl : ∀ x, x < u → canEnd g (fun _ => true) k x = false) (h : canEnd g (fun _ => true) k u = true) : walk g k = some (owEnd g (fun _ => true) k u) := by
  unfold walk
  rw [find_lt hu (fun x hx => by rw [← canEnd_walk W]; exact hl x hx) (by rw [← canEnd_walk W]; exact h), owEnd_walk W]
  rfl
theorem walk_no {g : Graph} (W : Wf g) {k : Nat} (hl : ∀ x, x < g.n → canEnd g (fun _ => true) k x = false) : walk g k = none := by
  unfold walk
  rw [find_no (fun x hx => by rw [← canEnd_walk W]; exact hl x hx)]
  rfl
theorem walk_len {g : Graph} (W : Wf g) (R : g.arrows.Pairwise nlt) {k : Nat} {v : List Nat} (h : walk g k = some v) : v.length = k + 1 := by
  unfold walk at h
  cases e : (List.range g.n).find? (canWalk g k) with
  | none => rw [e] at h; cases h
  | some u =>
    rw [e] at h
    have h1 := List.find?_some e
    rw [← Option.some.inj h]
    exact onward_len W R _ _ h1
end Tow
namespace Tow
open Ks547 (Graph has keeps maps rows)
open Ks551 (beside canBack back odd colours least pair)

/-! ### neighbours and walks by them -/
theorem beside_iff {g : Graph} {u v : Nat} : beside g u v = true ↔ (u, v) ∈ g.arrows ∨ (v, u) ∈ g.arrows := by
  unfold beside
  rw [Bool.or_eq_true, has_iff, has_iff]
theorem beside_symm {g : Graph} {u v : Nat} (h : beside g u v = true) : beside g v u = true :=
  beside_iff.mpr (beside_iff.mp h).symm
theorem beside_lt {g : Graph} (W : Wf g) {u v : Nat} (h : beside g u v = true) : u < g.n ∧ v < g.n := by
  rcases beside_iff.mp h with h | h
  · exact W.inn _ h
  · exact (W.inn _ h).symm
theorem canBack_iff {g : Graph} (W : Wf g) {w k u : Nat} : canBack g w (k + 1) u = true ↔ ∃ v, beside g u v = true ∧ canBack g w k v = true := by
  show ((List.range g.n).any fun v => beside g u v && canBack g w k v) = true ↔ _
  rw [List.any_eq_true]
  constructor
  · rintro ⟨v, _, h⟩
    rw [Bool.and_eq_true] at h
    exact ⟨v, h⟩
  · rintro ⟨v, h1, h2⟩
    exact ⟨v, List.mem_range.mpr (beside_lt W h1).2, by rw [Bool.and_eq_true]; exact ⟨h1, h2⟩⟩
theorem canBack_zero {g : Graph} {w u : Nat} : canBack g w 0 u = true ↔ u = w := by
  unfold canBack
  exact beq_iff_eq
theorem canBack_add {g : Graph} (W : Wf g) {m w k : Nat} (h2 : canBack g w k m = true) : ∀ (j u : Nat), canBack g m j u = true → canBack g w (j + k) u = true
  | 0, u, h => by
    rw [canBack_zero.mp h, Nat.zero_add]
    exact h2
  | j + 1, u, h => by
    obtain ⟨v, h3, h4⟩ := (canBack_iff W).mp h
    rw [Nat.add_right_comm]
    exact (canBack_iff W).mpr ⟨v, h3, canBack_add W h2 j v h4⟩
theorem canBack_one {g : Graph} (W : Wf g) {u w : Nat} (h : beside g u w = true) : canBack g w 1 u = true :=
  (canBack_iff W).mpr ⟨w, h, canBack_zero.mpr rfl⟩
theorem canBack_symm {g : Graph} (W : Wf g) : ∀ (k u w : Nat), canBack g w k u = true → canBack g u k w = true
  | 0, u, w, h => canBack_zero.mpr (canBack_zero.mp h).symm
  | k + 1, u, w, h => by
    obtain ⟨v, h3, h4⟩ := (canBack_iff W).mp h
    exact canBack_add W (canBack_one W (beside_symm h3)) k w (canBack_symm W k v w h4)
theorem canBack_lt {g : Graph} (W : Wf g) {w k u : Nat} (hw : w < g.n) (h : canBack g w k u = true) : u < g.n := by
  cases k with
  | zero => rw [canBack_zero.mp h]; exact hw
  | succ k =>
    obtain ⟨v, h3, _⟩ := (canBack_iff W).mp h
    exact (beside_lt W h3).1
/-! the places of a walk -/
theorem canBack_places {g : Graph} (W : Wf g) : ∀ (k u w : Nat), canBack g w k u = true → ∃ p : Nat → Nat, p 0 = u ∧ p k = w ∧ ∀ i, i < k → beside g (p i) (p (i + 1)) = true
  | 0, u, w, h => ⟨fun _ => u, rfl, canBack_zero.mp h, fun i hi => absurd hi (Nat.not_lt_zero _)⟩
  | k + 1, u, w, h => by
    obtain ⟨v, h3, h4⟩ := (canBack_iff W).mp h
    obtain ⟨p, p0, pk, ps⟩ := canBack_places W k v w h4
    refine ⟨fun i => match i with | 0 => u | i + 1 => p i, rfl, pk, fun i hi => ?_⟩
    cases i with
    | zero => show beside g u (p 0) = true; rw [p0]; exact h3
    | succ i => exact ps i (by omega)
theorem places_seg {g : Graph} (W : Wf g) {p : Nat → Nat} {k : Nat} (ps : ∀ i, i < k → beside g (p i) (p (i + 1)) = true) : ∀ d a, a + d ≤ k → canBack g (p (a + d)) d (p a) = true
  | 0, a, _ => canBack_zero.mpr rfl
  | d + 1, a, h => (canBack_iff W).mpr ⟨p (a + 1), ps a (by omega), by
      have := places_seg W ps d (a + 1) (by omega)
      rw [show a + (d + 1) = a + 1 + d by omega]
      exact this⟩
theorem twice {n k : Nat} (p : Nat → Nat) (hp : ∀ i, i < k → p i < n) (hk : n < k) : ∃ a b, a < b ∧ b < k ∧ p a = p b := by
  apply Classical.byContradiction
  intro hn
  have nd : ((List.range k).map p).Nodup := by
    unfold List.Nodup
    rw [List.pairwise_iff_getElem]
    intro i j hi hj hij e
    simp only [List.length_map, List.length_range] at hi hj
    simp only [List.getElem_map, List.getElem_range] at e
    exact hn ⟨i, j, hij, hj, e⟩
  have := nodup_small n _ nd (by
    intro x hx
    obtain ⟨i, hi, rfl⟩ := List.mem_map.mp hx
    exact hp i (List.mem_range.mp hi))
  rw [List.length_map, List.length_range] at this
  omega
/-- A closed walk of an odd number of steps, more than there are places: a shorter one is there. -/
theorem odd_cut {g : Graph} (W : Wf g) {k u : Nat} (hk : g.n < k) (ho : k % 2 = 1) (h : canBack g u k u = true) : ∃ j v, j < k ∧ j % 2 = 1 ∧ v < g.n ∧ canBack g v j v = true := by
  obtain ⟨p, p0, pk, ps⟩ := canBack_places W k u u h
  obtain ⟨a, b, hab, hb, e⟩ := twice p (fun i hi => (beside_lt W (ps i hi)).1) hk
  have s1 := places_seg W ps (b - a) a (by omega)
  rw [show a + (b - a) = b by omega, ← e] at s1
  have s2 := places_seg W ps a 0 (by omega)
  rw [Nat.zero_add, p0] at s2
  have s3 := places_seg W ps (k - b) b (by omega)
  rw [show b + (k - b) = k by omega, pk, ← e] at s3
  have s4 := canBack_add W s3 _ _ s2
  by_cases c : (b - a) % 2 = 1
  · exact ⟨b - a, p a, by omega, c, (beside_lt W (ps a (by omega))).1, s1⟩
  · refine ⟨a + (k - b), u, by omega, by omega, ?_, s4⟩
    have := (beside_lt W (ps 0 (by omega))).1
    rw [p0] at this
    exact this
theorem odd_short {g : Graph} (W : Wf g) (no : ∀ j v, j ≤ g.n → j % 2 = 1 → v < g.n → canBack g v j v = false) : ∀ (m k : Nat), k ≤ m → k % 2 = 1 → ∀ u, u < g.n → canBack g u k u = false
  | 0, k, h, ho, u, hu => by omega
  | m + 1, k, h, ho, u, hu => by
    by_cases c : k ≤ g.n
    · exact no k u c ho hu
    · cases e : canBack g u k u with
      | false => rfl
      | true =>
        obtain ⟨j, v, hj, jo, hv, hc⟩ := odd_cut W (by omega) ho e
        rw [odd_short W no m j (by omega) jo v hv] at hc
        cases hc
/-! ### colours -/
structure Col (g : Graph) (k : Nat) (f : List Nat) : Prop where
  len : f.length = g.n
  lt : ∀ x ∈ f, x < k
  ne : ∀ p ∈ g.arrows, f.getD p.1 0 ≠ f.getD p.2 0
theorem has_pair {u v : Nat} : has pair u v = true ↔ (u = 0 ∧ v = 1) ∨ (u = 1 ∧ v = 0) := by
  rw [has_iff]
  unfold pair
  simp
theorem has_all {k u v : Nat} : has (Ks551.all k) u v = true ↔ u < k ∧ v < k ∧ u ≠ v := by
  rw [has_iff]
  unfold Ks551.all
  simp only [List.mem_flatMap, List.mem_map, List.mem_filter, List.mem_range]
  constructor
  · rintro ⟨a, ha, b, ⟨hb, hab⟩, e⟩
    cases e
    exact ⟨ha, hb, by simpa using hab⟩
  · rintro ⟨ha, hb, hab⟩
    exact ⟨u, ha, v, ⟨hb, by simpa using hab⟩, rfl⟩
theorem getD_mem {f : List Nat} {i : Nat} (h : i < f.length) : f.getD i 0 ∈ f := by
  rw [List.getD_eq_getElem?_getD, List.getElem?_eq_getElem h]
  exact List.getElem_mem h
theorem keeps_all {g : Graph} (W : Wf g) {k : Nat} {f : List Nat} : keeps g (Ks551.all k) f = true ↔ Col g k f := by
  unfold keeps
  rw [Bool.and_eq_true, Bool.and_eq_true, beq_iff_eq, List.all_eq_true, List.all_eq_true]
  constructor
  · rintro ⟨⟨h1, h2⟩, h3⟩
    exact ⟨h1, fun x hx => of_decide_eq_true (h2 x hx), fun p hp => (has_all.mp (h3 p hp)).2.2⟩
  · rintro ⟨h1, h2, h3⟩
    refine ⟨⟨h1, fun x hx => decide_eq_true (h2 x hx)⟩, fun p hp => has_all.mpr ⟨h2 _ (getD_mem ?_), h2 _ (getD_mem ?_), h3 p hp⟩⟩
    · rw [h1]; exact (W.inn p hp).1
    · rw [h1]; exact (W.inn p hp).2
theorem keeps_pair {g : Graph} (W : Wf g) {f : List Nat} : keeps g pair f = true ↔ Col g 2 f := by
  rw [← keeps_all W]
  unfold keeps
  have e : ∀ u v, has pair u v = has (Ks551.all 2) u v := fun u v => by
    rw [Bool.eq_iff_iff, has_pair, has_all]
    omega
  rw [show (fun p : Nat × Nat => has pair (f.getD p.1 0) (f.getD p.2 0)) = fun p => has (Ks551.all 2) (f.getD p.1 0) (f.getD p.2 0) from funext fun p => e _ _]
  rfl
/-! the first of the rows, by the first place at which they differ -/
inductive Lx : List Nat → List Nat → Prop
  | here {a b : Nat} {l m : List Nat} : a < b → Lx (a :: l) (b :: m)
  | on {a : Nat} {l m : List Nat} : Lx l m → Lx (a :: l) (a :: m)
theorem rows_mem {m : Nat} : ∀ {n : Nat} {f : List Nat}, f ∈ rows m n ↔ f.length = n ∧ ∀ x ∈ f, x < m
  | 0, f => by
    unfold rows
    rw [List.mem_singleton]
    constructor
    · rintro rfl
      exact ⟨rfl, fun x hx => absurd hx List.not_mem_nil⟩
    · rintro ⟨h, _⟩
      exact List.length_eq_zero_iff.mp h
  | n + 1, f => by
    unfold rows
    rw [List.mem_flatMap]
    constructor
    · rintro ⟨x, hx, h⟩
      obtain ⟨r, hr, rfl⟩ := List.mem_map.mp h
      obtain ⟨h1, h2⟩ := rows_mem.mp hr
      refine ⟨by rw [List.length_cons, h1], fun y hy => ?_⟩
      rcases List.mem_cons.mp hy with rfl | hy
      · exact List.mem_range.mp hx
      · exact h2 y hy
    · rintro ⟨h1, h2⟩
      cases f with
      | nil => cases h1
      | cons x r =>
        exact ⟨x, List.mem_range.mpr (h2 x List.mem_cons_self), List.mem_map.mpr ⟨r, rows_mem.mpr ⟨by rw [List.length_cons] at h1; omega, fun y hy => h2 y (List.mem_cons_of_mem _ hy)⟩, rfl⟩⟩
theorem rows_lx (m : Nat) : ∀ n, (rows m n).Pairwise Lx
  | 0 => List.pairwise_singleton _ _
  | n + 1 => by
    unfold rows
    rw [List.flatMap_def, List.pairwise_flatten]
    constructor
    · intro l hl
      obtain ⟨x, _, rfl⟩ := List.mem_map.mp hl
      rw [List.pairwise_map]
      exact (rows_lx m n).imp fun h => .on h
    · rw [List.pairwise_map]
      exact List.pairwise_lt_range.imp fun {a b} hab x hx y hy => by
        obtain ⟨r, _, rfl⟩ := List.mem_map.mp hx
        obtain ⟨s, _, rfl⟩ := List.mem_map.mp hy
        exact .here hab
theorem lx_irr : ∀ {f d : List Nat}, Lx f d → Lx d f → False
  | _, _, .here h, k => by
    cases k with
    | here k => omega
    | on k => omega
  | _, _, .on h, k => by
    cases k with
    | here k => omega
    | on k => exact lx_irr h k
theorem first_of {α : Type} {R : α → α → Prop} (irr : ∀ a b, R a b → R b a → False) {P : α → Bool} : ∀ {L : List α} {d : α}, L.Pairwise R → d ∈ L → P d = true → (∀ f ∈ L, P f = true → f = d ∨ R d f) → (L.filter P).head? = some d
  | [], d, _, hd, _, _ => absurd hd List.not_mem_nil
  | x :: L, d, hL, hd, hP, hall => by
    rw [List.pairwise_cons] at hL
    by_cases c : P x = true
    · rw [List.filter_cons_of_pos c, List.head?_cons]
      rcases hall x List.mem_cons_self c with e | e
      · rw [e]
      · rcases List.mem_cons.mp hd with e2 | e2
        · rw [e2]
        · exact (irr _ _ (hL.1 d e2) e).elim
    · rw [List.filter_cons_of_neg c]
      rcases List.mem_cons.mp hd with e2 | e2
      · rw [e2] at hP
        exact absurd hP c
      · exact first_of irr hL.2 e2 hP fun f hf => hall f (List.mem_cons_of_mem _ hf)
theorem maps_none {g h : Graph} (no : ∀ f, keeps g h f = true → False) : (maps g h).head? = none := by
  unfold maps
  cases e : (rows h.n g.n).filter (keeps g h) with
  | nil => rfl
  | cons f L =>
    have : f ∈ (rows h.n g.n).filter (keeps g h) := by rw [e]; exact List.mem_cons_self
    exact (no f (List.mem_filter.mp this).2).elim
theorem maps_some {g h : Graph} {d : List Nat} (hd : keeps g h d = true) (hall : ∀ f, keeps g h f = true → f = d ∨ Lx d f) : (maps g h).head? = some d := by
  have hd' := hd
  unfold keeps at hd'
  rw [Bool.and_eq_true, Bool.and_eq_true, beq_iff_eq, List.all_eq_true] at hd'
  exact first_of (R := Lx) (fun _ _ => lx_irr) (rows_lx _ _) (rows_mem.mpr ⟨hd'.1.1, fun x hx => of_decide_eq_true (hd'.1.2 x hx)⟩) hd fun f _ hf => hall f hf
theorem maps_head {g h : Graph} {d : List Nat} (e : (maps g h).head? = some d) : keeps g h d = true := by
  have : d ∈ maps g h := List.mem_of_mem_head? (by rw [e]; rfl)
  exact (List.mem_filter.mp this).2
theorem maps_head_none {g h : Graph} (e : (maps g h).head? = none) {f : List Nat} (hf : keeps g h f = true) : False := by
  have hd' := hf
  unfold keeps at hd'
  rw [Bool.and_eq_true, Bool.and_eq_true, beq_iff_eq, List.all_eq_true] at hd'
  have : f ∈ maps g h := List.mem_filter.mpr ⟨rows_mem.mpr ⟨hd'.1.1, fun x hx => of_decide_eq_true (hd'.1.2 x hx)⟩, hf⟩
  rw [List.head?_eq_none_iff] at e
  rw [e] at this
  exact absurd this List.not_mem_nil
/-! ### two colours or an odd closed walk -/
theorem col_beside {g : Graph} {k : Nat} {f : List Nat} (c : Col g k f) {u v : Nat} (h : beside g u v = true) : f.getD u 0 ≠ f.getD v 0 := by
  rcases beside_iff.mp h with h | h
  · exact c.ne _ h
  · exact (c.ne _ h).symm
theorem col_lt {g : Graph} {k : Nat} {f : List Nat} (c : Col g k f) {u : Nat} (h : u < g.n) : f.getD u 0 < k := c.lt _ (getD_mem (by rw [c.len]; exact h))
theorem col_parity {g : Graph} (W : Wf g) {f : List Nat} (c : Col g 2 f) {w : Nat} (hw : w < g.n) : ∀ (k u : Nat), canBack g w k u = true → f.getD u 0 = (f.getD w 0 + k) % 2
  | 0, u, h => by
    have := col_lt c hw
    rw [canBack_zero.mp h]
    omega
  | k + 1, u, h => by
    obtain ⟨v, h3, h4⟩ := (canBack_iff W).mp h
    have h5 := col_parity W c hw k v h4
    have h6 := col_beside c h3
    have h7 := beside_lt W h3
    have := col_lt c h7.1
    have := col_lt c h7.2
    omega
theorem col_no_odd {g : Graph} (W : Wf g) {f : List Nat} (c : Col g 2 f) {k u : Nat} (hu : u < g.n) (ho : k % 2 = 1) : canBack g u k u = false := by
  cases e : canBack g u k u with
  | false => rfl
  | true =>
    have := col_parity W c hu k u e
    have := col_lt c hu
    omega
def Reach (g : Graph) (u v : Nat) : Prop := ∃ k, canBack g u k v = true
open Classical in
noncomputable def root (g : Graph) (v : Nat) : Nat := ((List.range g.n).find? fun r => decide (Reach g r v)).getD 0
theorem reach_self (g : Graph) (v : Nat) : Reach g v v := ⟨0, canBack_zero.mpr rfl⟩
theorem reach_symm {g : Graph} (W : Wf g) {u v : Nat} (h : Reach g u v) : Reach g v u := h.imp fun k h => canBack_symm W k _ _ h
theorem reach_trans {g : Graph} (W : Wf g) {u v w : Nat} (h : Reach g u v) (h2 : Reach g v w) : Reach g u w := by
  obtain ⟨k, h⟩ := h
  obtain ⟨j, h2⟩ := h2
  exact ⟨j + k, canBack_add W h j w h2⟩
open Classical in
theorem root_reach {g : Graph} {v : Nat} (hv : v < g.n) : Reach g (root g v) v ∧ root g v < g.n := by
  unfold root
  cases e : (List.range g.n).find? fun r => decide (Reach g r v) with
  | none =>
    have := List.find?_eq_none.mp e v (List.mem_range.mpr hv)
    exact absurd (decide_eq_true (reach_self g v)) this
  | some r =>
    have h1 := List.find?_some e
    exact ⟨of_decide_eq_true h1, List.mem_range.mp (List.mem_of_find?_eq_some e)⟩
open Classical in
theorem root_eq {g : Graph} (W : Wf g) {u v : Nat} (h : Reach g u v) : root g u = root g v := by
  unfold root
  have e : (fun r => decide (Reach g r u)) = fun r => decide (Reach g r v) := by
    funext r
    rw [Bool.eq_iff_iff, decide_eq_true_eq, decide_eq_true_eq]
    exact ⟨fun z => reach_trans W z h, fun z => reach_trans W z (reach_symm W h)⟩
  rw [e]
open Classical in
theorem col_of_no_odd {g : Graph} (W : Wf g) (no : ∀ j v, j ≤ g.n → j % 2 = 1 → v < g.n → canBack g v j v = false) : ∃ f, Col g 2 f := by
  have none : ∀ k, k % 2 = 1 → ∀ u, u < g.n → canBack g u k u = false := fun k ho u hu => odd_short W no k k (Nat.le_refl _) ho u hu
  let c : Nat → Nat := fun v => if (∃ k, k % 2 = 0 ∧ canBack g (root g v) k v = true) then 0 else 1
  have hc2 : ∀ v, c v < 2 := fun v => by
    show (if _ then 0 else 1) < 2
    split <;> omega
  have at_ : ∀ v, v < g.n → ((List.range g.n).map c).getD v 0 = c v := fun v hv => by
    rw [List.getD_eq_getElem?_getD, List.getElem?_map, List.getElem?_range hv]
    rfl
  refine ⟨(List.range g.n).map c, ⟨by simp, ?_, ?_⟩⟩
  · intro x hx
    obtain ⟨v, _, rfl⟩ := List.mem_map.mp hx
    exact hc2 v
  · rintro ⟨u, v⟩ hp
    have hin := W.inn _ hp
    have hb : beside g u v = true := beside_iff.mpr (.inl hp)
    have hr : root g u = root g v := root_eq W ⟨1, canBack_one W (beside_symm hb)⟩
    obtain ⟨⟨kv, hkv⟩, hrn⟩ := root_reach hin.2
    obtain ⟨⟨ku, hku⟩, _⟩ := root_reach hin.1
    rw [hr] at hku
    -- no walks of like parity
    have key : ∀ a b, canBack g (root g v) a u = true → canBack g (root g v) b v = true → (a + b) % 2 = 0 → False := fun a b ha hb2 e => by
      have t1 := canBack_symm W _ _ _ ha
      have t2 := canBack_add W hb2 1 u (canBack_one W hb)
      have t3 := canBack_add W t2 a _ t1
      rw [none (a + (1 + b)) (by omega) _ hrn] at t3
      cases t3
    show ((List.range g.n).map c).getD u 0 ≠ ((List.range g.n).map c).getD v 0
    rw [at_ u hin.1, at_ v hin.2]
    show (if (∃ k, k % 2 = 0 ∧ canBack g (root g u) k u = true) then 0 else 1) ≠ (if (∃ k, k % 2 = 0 ∧ canBack g (root g v) k v = true) then 0 else 1)
    rw [hr]
    by_cases c1 : ∃ k, k % 2 = 0 ∧ canBack g (root g v) k u = true
    · by_cases c2 : ∃ k, k % 2 = 0 ∧ canBack g (root g v) k v = true
      · obtain ⟨a, ha, ha2⟩ := c1
        obtain ⟨b, hb1, hb2⟩ := c2
        exact (key a b ha2 hb2 (by omega)).elim
      · rw [if_pos c1, if_neg c2]
        omega
    · by_cases c2 : ∃ k, k % 2 = 0 ∧ canBack g (root g v) k v = true
      · rw [if_neg c1, if_pos c2]
        omega
      · have o1 : ku % 2 = 1 := by
          rcases Nat.mod_two_eq_zero_or_one ku with z | z
          · exact absurd ⟨ku, z, hku⟩ c1
          · exact z
        have o2 : kv % 2 = 1 := by
          rcases Nat.mod_two_eq_zero_or_one kv with z | z
          · exact absurd ⟨kv, z, hkv⟩ c2
          · exact z
        exact (key ku kv hku hkv (by omega)).elim
/-- The first way to give two colours: a place that no lesser one reaches gets 0. -/
theorem first_lx : ∀ {n : Nat} {d f : List Nat}, d.length = n → f.length = n → (∀ i, i < n → (∀ j, j < i → d.getD j 0 = f.getD j 0) → d.getD i 0 ≤ f.getD i 0) → f = d ∨ Lx d f
  | 0, d, f, hd, hf, _ => by
    rw [List.length_eq_zero_iff.mp hd, List.length_eq_zero_iff.mp hf]
    exact .inl rfl
  | n + 1, d, f, hd, hf, h => by
    cases d with
    | nil => cases hd
    | cons x d => cases f with
      | nil => cases hf
      | cons y f =>
        have h0 := h 0 (by omega) (fun j hj => absurd hj (Nat.not_lt_zero _))
        rw [List.getD_cons_zero, List.getD_cons_zero] at h0
        by_cases e : x = y
        · subst e
          rcases first_lx (n := n) (d := d) (f := f) (by rw [List.length_cons] at hd; omega) (by rw [List.length_cons] at hf; omega) (fun i hi hj => by
            have := h (i + 1) (by omega) (fun j hj2 => by
              cases j with
              | zero => rfl
              | succ j =>
                rw [List.getD_cons_succ, List.getD_cons_succ]
                exact hj j (by omega))
            rw [List.getD_cons_succ, List.getD_cons_succ] at this
            exact this) with z | z
          · rw [z]; exact .inl rfl
          · exact .inr (.on z)
        · exact .inr (.here (by omega))
theorem colours_some {g : Graph} (W : Wf g) {d : List Nat} (c : Col g 2 d) (h0 : ∀ v, v < g.n → (∀ u, u < v → ¬ Reach g u v) → d.getD v 0 = 0) : colours g = some d := by
  refine maps_some ((keeps_pair W).mpr c) fun f hf => ?_
  have cf := (keeps_pair W).mp hf
  refine first_lx c.len cf.len fun i hi hj => ?_
  by_cases z : ∀ u, u < i → ¬ Reach g u i
  · rw [h0 i hi z]
    exact Nat.zero_le _
  · obtain ⟨u, z⟩ := Classical.not_forall.mp z
    have hui : u < i := Classical.byContradiction fun y => z fun y2 => absurd y2 y
    have hr : Reach g u i := Classical.byContradiction fun y => z fun _ => y
    obtain ⟨k, hk⟩ := hr
    have e1 := col_parity W c (by omega) k i hk
    have e2 := col_parity W cf (by omega) k i hk
    rw [e1, e2, hj u hui]
    exact Nat.le_refl _
theorem colours_none {g : Graph} (W : Wf g) {k u : Nat} (hu : u < g.n) (ho : k % 2 = 1) (h : canBack g u k u = true) : colours g = none :=
  maps_none fun f hf => by
    rw [col_no_odd W ((keeps_pair W).mp hf) hu ho] at h
    cases h
theorem colours_none_iff {g : Graph} (W : Wf g) : colours g = none ↔ ∃ k u, k ≤ g.n ∧ k % 2 = 1 ∧ u < g.n ∧ canBack g u k u = true := by
  constructor
  · intro h
    apply Classical.byContradiction
    intro hn
    obtain ⟨f, hf⟩ := col_of_no_odd W (fun j v hj ho hv => by
      cases e : canBack g v j v with
      | false => rfl
      | true => exact (hn ⟨j, v, hj, ho, hv, e⟩).elim)
    exact maps_head_none h ((keeps_pair W).mpr hf)
  · rintro ⟨k, u, _, ho, hu, h⟩
    exact colours_none W hu ho h
/-! ### the first of the shortest odd closed walks -/
theorem findSome_range {α : Type} (F : Nat → Option α) (y : α) : ∀ (m x0 : Nat), x0 < m → (∀ x, x < x0 → F x = none) → F x0 = some y → (List.range m).findSome? F = some y
  | 0, x0, h, _, _ => by omega
  | m + 1, x0, h, hl, hy => by
    rw [List.range_succ, List.findSome?_append]
    by_cases c : x0 < m
    · rw [findSome_range F y m x0 c hl hy]
      rfl
    · have e : x0 = m := by omega
      subst e
      have : (List.range x0).findSome? F = none := by
        rw [List.findSome?_eq_none_iff]
        intro x hx
        exact hl x (List.mem_range.mp hx)
      rw [this, List.findSome?_cons, hy]
      rfl
theorem find_range {P : Nat → Bool} : ∀ {m x0 : Nat}, x0 < m → (∀ x, x < x0 → P x = false) → P x0 = true → (List.range m).find? P = some x0
  | 0, x0, h, _, _ => by omega
  | m + 1, x0, h, hl, hy => by
    rw [List.range_succ, List.find?_append]
    by_cases c : x0 < m
    · rw [find_range c hl hy]
      rfl
    · have e : x0 = m := by omega
      subst e
      have : (List.range x0).find? P = none := by
        rw [List.find?_eq_none]
        intro x hx
        rw [hl x (List.mem_range.mp hx)]
        exact Bool.false_ne_true
      rw [this, List.find?_cons_of_pos hy]
      rfl
theorem odd_some {g : Graph} {i u : Nat} (hi : i ≤ g.n) (hu : u < g.n) (h : canBack g u (2 * i + 1) u = true) (hs : ∀ j, j < i → ∀ v, v < g.n → canBack g v (2 * j + 1) v = false) (hf : ∀ v, v < u → canBack g v (2 * i + 1) v = false) :
    odd g = some (back g u (2 * i + 1) u) := by
  unfold odd
  refine findSome_range _ _ (g.n + 1) i (by omega) (fun j hj => ?_) ?_
  · show ((List.range g.n).find? fun u => canBack g u (2 * j + 1) u).map _ = none
    rw [Option.map_eq_none_iff, List.find?_eq_none]
    intro v hv
    rw [hs j hj v (List.mem_range.mp hv)]
    exact Bool.false_ne_true
  · show ((List.range g.n).find? fun u => canBack g u (2 * i + 1) u).map _ = _
    rw [find_range (P := fun u => canBack g u (2 * i + 1) u) hu hf h]
    rfl
theorem back_step {g : Graph} {w k u v : Nat} (hv : v < g.n) (h : beside g u v = true) (h2 : canBack g w k v = true) (hf : ∀ x, x < v → beside g u x = true → canBack g w k x = false) : back g w (k + 1) u = u :: back g w k v := by
  have e := find_range (P := fun v => beside g u v && canBack g w k v) hv (fun x hx => by
    cases c : beside g u x with
    | false => rw [Bool.false_and]
    | true => rw [Bool.true_and]; exact hf x hx c) (by rw [h, h2]; rfl)
  show (match (List.range g.n).find? fun v => beside g u v && canBack g w k v with | none => [u] | some v => u :: back g w k v) = _
  rw [e]
theorem back_len {g : Graph} (W : Wf g) {w : Nat} : ∀ (k u : Nat), canBack g w k u = true → (back g w k u).length = k + 1
  | 0, u, _ => rfl
  | k + 1, u, h => by
    obtain ⟨v, h1, h2⟩ := (canBack_iff W).mp h
    show (match (List.range g.n).find? fun v => beside g u v && canBack g w k v with | none => [u] | some v => u :: back g w k v).length = _
    cases e : (List.range g.n).find? fun v => beside g u v && canBack g w k v with
    | none =>
      have := List.find?_eq_none.mp e v (List.mem_range.mpr (beside_lt W h1).2)
      rw [h1, h2] at this
      exact absurd rfl this
    | some x =>
      have := List.find?_some e
      rw [Bool.and_eq_true] at this
      show (u :: back g w k x).length = _
      rw [List.length_cons, back_len W k x this.2]
/-! ### how few colours -/
theorem least_none {g : Graph} (W : Wf g) {u : Nat} (h : (u, u) ∈ g.arrows) : least g = none := by
  unfold least
  rw [List.findSome?_eq_none_iff]
  intro i _
  rw [maps_none (fun f hf => ((keeps_all W).mp hf).ne _ h rfl)]
  rfl
theorem col_id {g : Graph} (W : Wf g) (h : ∀ u, (u, u) ∉ g.arrows) : Col g g.n (List.range g.n) := by
  refine ⟨List.length_range, fun x hx => List.mem_range.mp hx, ?_⟩
  rintro ⟨u, v⟩ hp
  have hin := W.inn _ hp
  rw [List.getD_eq_getElem?_getD, List.getD_eq_getElem?_getD, List.getElem?_range hin.1, List.getElem?_range hin.2]
  intro e
  have e : u = v := e
  subst e
  exact h u hp
theorem least_some {g : Graph} (W : Wf g) {k : Nat} {d : List Nat} (hk : 1 ≤ k) (hkn : k ≤ g.n) (hl : ∀ j, j < k → ∀ f, ¬ Col g j f) (hd : (maps g (Ks551.all k)).head? = some d) : least g = some (k, d) := by
  unfold least
  refine findSome_range _ _ g.n (k - 1) (by omega) (fun j hj => ?_) ?_
  · rw [maps_none (fun f hf => hl (j + 1) (by omega) f ((keeps_all W).mp hf))]
    rfl
  · rw [show k - 1 + 1 = k by omega, hd]
    rfl
end Tow
namespace Tow
open Ks547 (Graph has keeps maps rows)
open Ks551 (beside canBack back odd colours least pair)
theorem colours_due {n : Int} {ns : List Int} (hn : 0 ≤ n) (hp : ∀ x ∈ ns, 0 ≤ x) : PyKs551.colours n ns =
    if isGraph n ns = true then (match colours (gr n ns), odd (gr n ns) with | some f, _ => outI 1 f | none, some w => outI 0 (w.length :: w) | none, none => [-33]) else [-22] := by
  show Ks551Neutral.out (Ks551.answer (.colours n.toNat (ns.map Int.toNat))) = _
  show Ks551Neutral.out (Ks547.graph n.toNat (ns.map Int.toNat) _) = _
  unfold Ks547.graph
  rw [graphOf_eq n ns hn hp]
  by_cases c : isGraph n ns = true
  · rw [if_pos c, if_pos c]
    show Ks551Neutral.out (match colours (gr n ns), odd (gr n ns) with | some f, _ => _ | none, some w => _ | none, none => _) = _
    cases colours (gr n ns) with
    | some f => rfl
    | none =>
      cases odd (gr n ns) with
      | some w => rfl
      | none => rfl
  · rw [if_neg c, if_neg c]
    rfl
theorem least_due {n : Int} {ns : List Int} (hn : 0 ≤ n) (hp : ∀ x ∈ ns, 0 ≤ x) : PyKs551.least n ns =
    if isGraph n ns = true then (match least (gr n ns) with | some (k, f) => outI k f | none => [-33]) else [-22] := by
  show Ks551Neutral.out (Ks551.answer (.least n.toNat (ns.map Int.toNat))) = _
  show Ks551Neutral.out (Ks547.graph n.toNat (ns.map Int.toNat) _) = _
  unfold Ks547.graph
  rw [graphOf_eq n ns hn hp]
  by_cases c : isGraph n ns = true
  · rw [if_pos c, if_pos c]
    dsimp only
    cases least (gr n ns) with
    | some p => rfl
    | none => rfl
  · rw [if_neg c, if_neg c]
    rfl
end Tow
namespace Tow
open Ks547 (Graph has keeps maps rows)
open Ks551 (beside canBack back odd colours least pair)
/-! ### the rows, grown at their end, and by counting -/
theorem rows_snoc (m : Nat) : ∀ n, rows m (n + 1) = (rows m n).flatMap fun r => (List.range m).map fun x => r ++ [x]
  | 0 => by
    show (List.range m).flatMap (fun x => ([[]] : List (List Nat)).map fun r => x :: r) = ([[]] : List (List Nat)).flatMap _
    simp [List.flatMap_def, List.map_map]
    induction List.range m with
    | nil => rfl
    | cons a l ih => simp [ih]
  | n + 1 => by
    show (List.range m).flatMap (fun x => (rows m (n + 1)).map fun r => x :: r) = ((List.range m).flatMap fun x => (rows m n).map fun r => x :: r).flatMap _
    rw [rows_snoc m n, List.flatMap_assoc]
    congr 1
    funext x
    rw [List.map_flatMap, List.flatMap_map]
    congr 1
    funext r
    rw [List.map_map]
    rfl
def digits (m : Nat) : Nat → Nat → List Nat
  | 0, _ => []
  | n + 1, c => digits m n (c / m) ++ [c % m]
theorem range_mul (m : Nat) : ∀ n, List.range (n * m) = (List.range n).flatMap fun q => (List.range m).map fun r => q * m + r
  | 0 => by simp
  | n + 1 => by
    rw [List.range_succ, List.flatMap_append, ← range_mul m n, Nat.succ_mul, List.range_add]
    simp
theorem rows_digits (m : Nat) (hm : 0 < m) : ∀ n, rows m n = (List.range (m ^ n)).map (digits m n)
  | 0 => by simp [rows, digits]
  | n + 1 => by
    rw [rows_snoc, rows_digits m hm n, Nat.pow_succ, range_mul, List.map_flatMap, List.flatMap_map]
    congr 1
    funext q
    rw [List.map_map]
    apply List.map_congr_left
    intro r hr
    have hr := List.mem_range.mp hr
    show _ = digits m n ((q * m + r) / m) ++ [(q * m + r) % m]
    rw [show (q * m + r) / m = q by rw [Nat.add_comm, Nat.add_mul_div_right _ _ hm, Nat.div_eq_of_lt hr, Nat.zero_add], show (q * m + r) % m = r by rw [Nat.add_comm, Nat.add_mul_mod_self_right, Nat.mod_eq_of_lt hr]]
/-! ### the first of the closed walks -/
inductive Wk (g : Graph) (w : Nat) : Nat → Nat → List Nat → Prop
  | stop : Wk g w 0 w [w]
  | step {k u v : Nat} {l : List Nat} : beside g u v = true → Wk g w k v l → Wk g w (k + 1) u (u :: l)
theorem wk_can {g : Graph} (W : Wf g) {w : Nat} : ∀ {k u : Nat} {l : List Nat}, Wk g w k u l → canBack g w k u = true
  | _, _, _, .stop => canBack_zero.mpr rfl
  | _, _, _, .step h k => (canBack_iff W).mpr ⟨_, h, wk_can W k⟩
theorem wk_len {g : Graph} {w : Nat} : ∀ {k u : Nat} {l : List Nat}, Wk g w k u l → l.length = k + 1
  | _, _, _, .stop => rfl
  | _, _, _, .step h k => by rw [List.length_cons, wk_len k]
theorem wk_head {g : Graph} {w : Nat} : ∀ {k u : Nat} {l : List Nat}, Wk g w k u l → ∃ r, l = u :: r
  | _, _, _, .stop => ⟨_, rfl⟩
  | _, _, _, .step h k => ⟨_, rfl⟩
theorem find_range_spec {P : Nat → Bool} {m x : Nat} (h : (List.range m).find? P = some x) : x < m ∧ P x = true ∧ ∀ y, y < x → P y = false := by
  have hP := List.find?_some h
  have hm := List.mem_range.mp (List.mem_of_find?_eq_some h)
  refine ⟨hm, hP, fun y hy => ?_⟩
  cases e : P y with
  | false => rfl
  | true =>
    exfalso
    rw [List.find?_range_eq_some] at h
    have := h.2.2 y hy
    rw [e] at this
    cases this
theorem back_wk {g : Graph} (W : Wf g) {w : Nat} : ∀ (k u : Nat), canBack g w k u = true → Wk g w k u (back g w k u) ∧ ∀ l, Wk g w k u l → l = back g w k u ∨ Lx (back g w k u) l
  | 0, u, h => by
    have e := canBack_zero.mp h
    subst e
    refine ⟨.stop, fun l hl => ?_⟩
    cases hl
    exact .inl rfl
  | k + 1, u, h => by
    obtain ⟨v, h1, h2⟩ := (canBack_iff W).mp h
    cases e : (List.range g.n).find? fun v => beside g u v && canBack g w k v with
    | none =>
      have := List.find?_eq_none.mp e v (List.mem_range.mpr (beside_lt W h1).2)
      rw [h1, h2] at this
      exact absurd rfl this
    | some x =>
      obtain ⟨hx, hP, hl⟩ := find_range_spec e
      rw [Bool.and_eq_true] at hP
      have eb : back g w (k + 1) u = u :: back g w k x := by
        show (match (List.range g.n).find? fun v => beside g u v && canBack g w k v with | none => [u] | some v => u :: back g w k v) = _
        rw [e]
      obtain ⟨b1, b2⟩ := back_wk W k x hP.2
      rw [eb]
      refine ⟨.step hP.1 b1, fun l hw => ?_⟩
      cases hw with
      | step h3 h4 =>
        rename_i v2 l2
        by_cases c : v2 = x
        · subst c
          rcases b2 l2 h4 with z | z
          · rw [z]; exact .inl rfl
          · exact .inr (.on z)
        · have hge : ¬ v2 < x := fun z => by
            have := hl v2 z
            rw [h3, wk_can W h4] at this
            cases this
          obtain ⟨r1, e1⟩ := wk_head h4
          obtain ⟨r2, e2⟩ := wk_head b1
          rw [e1, e2]
          exact .inr (.on (.here (by omega)))
end Tow
namespace Tow
open Ks547 (Graph has keeps maps rows)
open Ks551 (beside canBack back odd colours least pair)
/-! ### closed walks -/
def closed (g : Graph) (k : Nat) : Option (List Nat) := ((List.range g.n).find? fun u => canEnd g (· == u) k u).map fun u => owEnd g (· == u) k u
def oddIn (g : Graph) : Option (List Nat) := (List.range ((g.n + 1) / 2)).findSome? fun i => closed g (2 * i + 1)
theorem closed_is {g : Graph} {k u : Nat} (hu : u < g.n) (hl : ∀ x, x < u → canEnd g (· == x) k x = false) (h : canEnd g (· == u) k u = true) : closed g k = some (owEnd g (· == u) k u) := by
  unfold closed
  rw [find_lt (P := fun u => canEnd g (· == u) k u) hu hl h]
  rfl
theorem closed_no {g : Graph} {k : Nat} (hl : ∀ x, x < g.n → canEnd g (· == x) k x = false) : closed g k = none := by
  unfold closed
  rw [find_no (P := fun u => canEnd g (· == u) k u) hl]
  rfl
theorem closed_len {g : Graph} (W : Wf g) (R : g.arrows.Pairwise nlt) {k : Nat} {v : List Nat} (h : closed g k = some v) : v.length = k + 1 := by
  unfold closed at h
  cases e : (List.range g.n).find? fun u => canEnd g (· == u) k u with
  | none => rw [e] at h; cases h
  | some u =>
    rw [e] at h
    have h1 := List.find?_some e
    rw [← Option.some.inj h]
    exact owEnd_len W R _ _ h1
theorem oddIn_is {g : Graph} {i : Nat} {v : List Nat} (hi : i < (g.n + 1) / 2) (hl : ∀ j, j < i → closed g (2 * j + 1) = none) (h : closed g (2 * i + 1) = some v) : oddIn g = some v :=
  findSome_range (fun i => closed g (2 * i + 1)) v _ i hi hl h
theorem oddIn_no {g : Graph} (hl : ∀ j, j < (g.n + 1) / 2 → closed g (2 * j + 1) = none) : oddIn g = none := by
  unfold oddIn
  rw [List.findSome?_eq_none_iff]
  intro x hx
  exact hl x (List.mem_range.mp hx)
theorem oddIn_len {g : Graph} (W : Wf g) (R : g.arrows.Pairwise nlt) {v : List Nat} (h : oddIn g = some v) : v.length ≤ g.n + 1 := by
  unfold oddIn at h
  obtain ⟨i, hi, e⟩ := List.exists_of_findSome?_eq_some h
  have := List.mem_range.mp hi
  rw [closed_len W R e]
  omega
/-! ### the steps to each neighbour -/
structure Both (g h : Graph) : Prop where
  n : h.n = g.n
  mem : ∀ u v, (u, v) ∈ h.arrows ↔ beside g u v = true
  rise : h.arrows.Pairwise nlt
theorem Both.wf {g h : Graph} (B : Both g h) (W : Wf g) : Wf h := ⟨by rw [B.n]; exact W.lo, by rw [B.n]; exact W.hi, fun p hp => by
  have := beside_lt W ((B.mem p.1 p.2).mp hp)
  rw [B.n]
  exact this⟩
theorem Both.can {g h : Graph} (B : Both g h) (W : Wf g) (w : Nat) : ∀ k u, canEnd h (· == w) k u = canBack g w k u
  | 0, u => rfl
  | k + 1, u => by
    rw [Bool.eq_iff_iff, canEnd_iff, canBack_iff W]
    constructor
    · rintro ⟨v, h1, h2⟩
      exact ⟨v, (B.mem _ _).mp h1, by rw [← B.can W w k v]; exact h2⟩
    · rintro ⟨v, h1, h2⟩
      exact ⟨v, (B.mem _ _).mpr h1, by rw [B.can W w k v]; exact h2⟩
theorem Both.has {g h : Graph} (B : Both g h) (u v : Nat) : has h u v = beside g u v := by
  rw [Bool.eq_iff_iff, has_iff]
  exact B.mem u v
theorem Both.ow {g h : Graph} (B : Both g h) (W : Wf g) (w : Nat) : ∀ k u, owEnd h (· == w) k u = back g w k u
  | 0, u => rfl
  | k + 1, u => by
    show (match (List.range h.n).find? fun v => Ks547.has h u v && canEnd h (· == w) k v with | none => [u] | some v => u :: owEnd h (· == w) k v) =
      (match (List.range g.n).find? fun v => beside g u v && canBack g w k v with | none => [u] | some v => u :: back g w k v)
    rw [show (fun v => Ks547.has h u v && canEnd h (· == w) k v) = fun v => beside g u v && canBack g w k v from funext fun v => by rw [B.has, B.can W w k v], B.n]
    cases (List.range g.n).find? fun v => beside g u v && canBack g w k v with
    | none => rfl
    | some v => show u :: owEnd h (· == w) k v = _; rw [B.ow W w k v]
theorem Both.closed {g h : Graph} (B : Both g h) (W : Wf g) (k : Nat) : closed h k = ((List.range g.n).find? fun u => canBack g u k u).map fun u => back g u k u := by
  unfold Tow.closed
  rw [B.n, show (fun u => canEnd h (· == u) k u) = fun u => canBack g u k u from funext fun u => B.can W u k u, show (fun u => owEnd h (· == u) k u) = fun u => back g u k u from funext fun u => B.ow W u k u]
theorem Both.odd {g h : Graph} (B : Both g h) (W : Wf g) (hc : colours g = none) : ∃ w, oddIn h = some w ∧ odd g = some w := by
  obtain ⟨k, u, hk, ho, hu, hb⟩ := (colours_none_iff W).mp hc
  have hs : oddIn h ≠ none := by
    intro z
    unfold oddIn at z
    rw [List.findSome?_eq_none_iff] at z
    have z1 := z (k / 2) (List.mem_range.mpr (by rw [B.n]; omega))
    rw [show 2 * (k / 2) + 1 = k by omega, B.closed W k, Option.map_eq_none_iff, List.find?_eq_none] at z1
    exact z1 u (List.mem_range.mpr hu) hb
  cases e : oddIn h with
  | none => exact absurd e hs
  | some w =>
    refine ⟨w, rfl, ?_⟩
    unfold oddIn at e
    unfold Ks551.odd
    rw [show g.n + 1 = (g.n + 1) / 2 + (g.n + 1 - (g.n + 1) / 2) by omega, List.range_add, List.findSome?_append]
    rw [B.n, show (fun i => Tow.closed h (2 * i + 1)) = fun i => ((List.range g.n).find? fun u => canBack g u (2 * i + 1) u).map fun u => back g u (2 * i + 1) u from funext fun i => B.closed W _] at e
    show ((List.range ((g.n + 1) / 2)).findSome? fun i => ((List.range g.n).find? fun u => canBack g u (2 * i + 1) u).map fun u => back g u (2 * i + 1) u).or _ = _
    rw [e]
    rfl
/-! ### ways to give colours, place by place -/
def clashB (p : Nat × Nat) (f : List Nat) : Bool := decide (max p.1 p.2 < f.length) && (f.getD p.1 0 == f.getD p.2 0)
def okP (ps : List (Nat × Nat)) (f : List Nat) : Bool := !ps.any fun p => clashB p f
def ext (ps : List (Nat × Nat)) (m : Nat) (r : List Nat) : List (List Nat) := ((List.range m).map fun x => r ++ [x]).filter (okP ps)
def ways (ps : List (Nat × Nat)) (m : Nat) : Nat → List (List Nat)
  | 0 => [[]]
  | i + 1 => (ways ps m i).flatMap (ext ps m)
theorem okP_iff {ps : List (Nat × Nat)} {f : List Nat} : okP ps f = true ↔ ∀ p ∈ ps, ¬ (max p.1 p.2 < f.length ∧ f.getD p.1 0 = f.getD p.2 0) := by
  unfold okP clashB
  rw [Bool.not_eq_true', List.any_eq_false]
  constructor
  · intro h p hp z
    refine h p hp ?_
    rw [Bool.and_eq_true, decide_eq_true_eq, beq_iff_eq]
    exact z
  · intro h p hp z
    rw [Bool.and_eq_true, decide_eq_true_eq, beq_iff_eq] at z
    exact h p hp z
theorem okP_less {ps : List (Nat × Nat)} {r : List Nat} {x : Nat} (h : okP ps (r ++ [x]) = true) : okP ps r = true := by
  rw [okP_iff] at h ⊢
  rintro p hp ⟨h1, h2⟩
  refine h p hp ⟨by rw [List.length_append]; omega, ?_⟩
  rw [List.getD_eq_getElem?_getD, List.getD_eq_getElem?_getD, List.getElem?_append_left (by omega), List.getElem?_append_left (by omega), ← List.getD_eq_getElem?_getD, ← List.getD_eq_getElem?_getD]
  exact h2
theorem ext_nil {ps : List (Nat × Nat)} {m : Nat} {r : List Nat} (h : okP ps r = false) : ext ps m r = [] := by
  unfold ext
  rw [List.filter_eq_nil_iff]
  intro f hf hk
  obtain ⟨x, _, rfl⟩ := List.mem_map.mp hf
  rw [okP_less hk] at h
  cases h
theorem flat_filter {α β : Type} {P : α → Bool} {F : α → List β} : ∀ {l : List α}, (∀ r, P r = false → F r = []) → l.flatMap F = (l.filter P).flatMap F
  | [], _ => rfl
  | a :: l, h => by
    rw [List.flatMap_cons, flat_filter (l := l) h]
    cases c : P a with
    | true => rw [List.filter_cons_of_pos c, List.flatMap_cons]
    | false => rw [List.filter_cons_of_neg (by rw [c]; exact Bool.false_ne_true), h a c, List.nil_append]
theorem ways_rows (ps : List (Nat × Nat)) (m : Nat) : ∀ i, ways ps m i = (rows m i).filter (okP ps)
  | 0 => by
    show [[]] = [[]].filter (okP ps)
    have : okP ps [] = true := by
      rw [okP_iff]
      rintro p hp ⟨h1, _⟩
      exact absurd h1 (Nat.not_lt_zero _)
    rw [List.filter_cons_of_pos this]
    rfl
  | i + 1 => by
    show (ways ps m i).flatMap (ext ps m) = _
    rw [ways_rows ps m i, rows_snoc, List.filter_flatMap, ← flat_filter (fun r hr => ext_nil hr)]
    rfl
theorem ways_maps {g : Graph} (W : Wf g) (m : Nat) : ways g.arrows m g.n = maps g (Ks551.all m) := by
  rw [ways_rows]
  unfold maps
  refine List.filter_congr fun f hf => ?_
  obtain ⟨h1, h2⟩ := rows_mem.mp hf
  rw [Bool.eq_iff_iff, keeps_all W, okP_iff]
  constructor
  · intro h
    refine ⟨h1, h2, fun p hp e => h p hp ⟨?_, e⟩⟩
    have := W.inn p hp
    rw [h1]
    omega
  · rintro ⟨_, _, h⟩ p hp ⟨_, e⟩
    exact h p hp e
theorem maps_pair {g : Graph} (W : Wf g) : maps g pair = maps g (Ks551.all 2) := by
  show (rows 2 g.n).filter _ = (rows 2 g.n).filter _
  refine List.filter_congr fun f _ => ?_
  rw [Bool.eq_iff_iff, keeps_pair W, keeps_all W]
def firstCol (g : Graph) (m : Nat) : Option (List Nat) := (maps g (Ks551.all m)).head?
theorem colours_first {g : Graph} (W : Wf g) : colours g = firstCol g 2 := by
  unfold colours firstCol
  rw [maps_pair W]
theorem firstCol_col {g : Graph} (W : Wf g) {m : Nat} {d : List Nat} (h : firstCol g m = some d) : Col g m d := (keeps_all W).mp (maps_head h)
theorem firstCol_none {g : Graph} (W : Wf g) {m : Nat} (h : firstCol g m = none) (f : List Nat) : ¬ Col g m f := fun c => maps_head_none h ((keeps_all W).mpr c)
theorem firstCol_ways {g : Graph} (W : Wf g) {m : Nat} : firstCol g m = (ways g.arrows m g.n).head? := by
  rw [ways_maps W]
  rfl
theorem ext_len (ps : List (Nat × Nat)) (m : Nat) (r : List Nat) : (ext ps m r).length ≤ m := by
  have := List.length_filter_le (okP ps) ((List.range m).map fun x => r ++ [x])
  rw [List.length_map, List.length_range] at this
  exact this
theorem flat_len {α β : Type} {F : α → List β} {m : Nat} (hF : ∀ r, (F r).length ≤ m) : ∀ l : List α, (l.flatMap F).length ≤ l.length * m
  | [] => Nat.zero_le _
  | a :: l => by
    rw [List.flatMap_cons, List.length_append, List.length_cons, Nat.succ_mul]
    have := hF a
    have := flat_len hF l
    omega
theorem ways_len (ps : List (Nat × Nat)) (m : Nat) : ∀ i, (ways ps m i).length ≤ m ^ i
  | 0 => Nat.le_refl _
  | i + 1 => by
    have h1 := flat_len (ext_len ps m) (ways ps m i)
    have h2 := ways_len ps m i
    show ((ways ps m i).flatMap (ext ps m)).length ≤ _
    rw [Nat.pow_succ]
    exact Nat.le_trans h1 (Nat.mul_le_mul_right _ h2)
theorem pow_small {m i : Nat} (hm : m ≤ 5) (hi : i ≤ 5) : m ^ i ≤ 3125 := by
  have h1 : m ^ i ≤ 5 ^ i := Nat.pow_le_pow_left hm i
  have h2 : 5 ^ i ≤ 5 ^ 5 := Nat.pow_le_pow_right (by decide) hi
  have h3 : (5 : Nat) ^ 5 = 3125 := by decide
  omega
theorem ways_at {ps : List (Nat × Nat)} {m : Nat} : ∀ {i : Nat} {f : List Nat}, f ∈ ways ps m i → f.length = i := by
  intro i f h
  rw [ways_rows] at h
  exact (rows_mem.mp (List.mem_filter.mp h).1).1
/-! ### how few -/
theorem no_zero {g : Graph} (W : Wf g) (f : List Nat) : ¬ Col g 0 f := fun c => by
  have := W.lo
  have h := c.len
  cases f with
  | nil => simp at h; omega
  | cons x f => exact absurd (c.lt x (by simp)) (Nat.not_lt_zero _)
theorem self_any {g : Graph} : (g.arrows.map fun p => p.1 == p.2).any id = true ↔ ∃ u, (u, u) ∈ g.arrows := by
  rw [List.any_map, List.any_eq_true]
  constructor
  · rintro ⟨⟨u, v⟩, h, e⟩
    have e : u = v := by simpa using e
    subst e
    exact ⟨u, h⟩
  · rintro ⟨u, h⟩
    exact ⟨(u, u), h, by simp⟩
end Tow
namespace Tow
open PySem PySem.Spec PyProof.Rows L2
open Ks547 (Graph has)
/-! ### t >= u of two tuples of whole numbers -/
def geTup (ns ms : List Int) : Bool := Ob.lexAt (fun j => decide (ns.getD j 0 = ms.getD j 0)) (fun j => decide (ms.getD j 0 ≤ ns.getD j 0)) (decide (ns.length ≥ ms.length)) 0 (min ns.length ms.length)
def rGeTup (K : PySem.W.Frag) : R2 := fun x y H Q => ∃ (a b : Addr) (ns ms : List Int), x = .ref a ∧ y = .ref b ∧ SqT K H a (ns.map V.int) ∧ SqT K H b (ms.map V.int) ∧ Q (.bl (geTup ns ms)) H
theorem op_geTup {X : Cx} (room : X.A.units < cLine) : OpR X (compareOp .GtE) (rGeTup X.K) := by
  intro pins s σ H x y v u Q I relx rely hyp
  obtain ⟨a, b, ns, ms, rfl, rfl, ta, tb, fin⟩ := hyp
  cases relx
  cases rely
  obtain ⟨us, ru, pu, _⟩ := I.tuple ta
  obtain ⟨vs, rv, pvv, _⟩ := I.tuple tb
  have iu : IntsAre us ns := Vals.ints ru
  have iv : IntsAre vs ms := Vals.ints rv
  have su : us.toArray.size = ns.length := by
    rw [List.size_toArray]; exact iu.length
  have sv : vs.toArray.size = ms.length := by
    rw [List.size_toArray]; exact iv.length
  have gu : ∀ j (hj : j < us.toArray.size), ∃ t, us.toArray[j] = .int (ns.getD j 0) t := fun j hj =>
    PyProof.Rows.IntsAre.int_at iu _ _ (by simp at hj; simp [hj])
  have gv : ∀ j (hj : j < vs.toArray.size), ∃ t, vs.toArray[j] = .int (ms.getD j 0) t := fun j hj =>
    PyProof.Rows.IntsAre.int_at iv _ _ (by simp at hj; simp [hj])
  have cmp := Ob.RcOp.tuples_ge (A := X.A) (s := s) (e := fun j => decide (ns.getD j 0 = ms.getD j 0)) (r := fun j => decide (ms.getD j 0 ≤ ns.getD j 0)) pu pvv room
    (fun j h1 h2 => by
      obtain ⟨t1, e1⟩ := gu j h1
      obtain ⟨t2, e2⟩ := gv j h2
      rw [e1, e2]
      have bq : (ns.getD j 0 == ms.getD j 0) = decide (ns.getD j 0 = ms.getD j 0) := by
        rw [Bool.eq_iff_iff, beq_iff_eq, decide_eq_true_eq]
      rw [← bq]
      exact SeqAt.EqAt.int_int _ _ _ _)
    (fun j h1 h2 _ => by
      obtain ⟨t1, e1⟩ := gu j h1
      obtain ⟨t2, e2⟩ := gv j h2
      rw [e1, e2]
      exact Ob.RcOp.ge_int _ _ _ _)
  rw [su, sv] at cmp
  exact (cmp X.prog X.w X.xe (EP X pins σ Q) ⟨.bl _, H, I, rfl, fin⟩ : wpAny (model X.prog X.w) X.A (compareOp .GtE (.ref a) (.ref b)) (EP X pins σ Q) X.xe s)
theorem geTup_two (p q : Int × Int) : geTup [p.1, p.2] [q.1, q.2] = !lt2 p q := by
  show Ob.lexAt _ _ _ 0 2 = _
  rw [Ob.lexAt_succ, Ob.lexAt_succ, Ob.lexAt_zero]
  show (if decide (p.1 = q.1) = true then (if decide (p.2 = q.2) = true then decide (2 ≥ 2) else decide (q.2 ≤ p.2)) else decide (q.1 ≤ p.1)) = _
  unfold lt2
  by_cases c1 : p.1 = q.1
  · rw [if_pos (decide_eq_true c1), if_pos c1]
    by_cases c2 : p.2 = q.2
    · rw [if_pos (decide_eq_true c2), decide_eq_false (show ¬ p.2 < q.2 by omega)]; rfl
    · rw [if_neg (by simpa using c2)]
      by_cases c3 : p.2 < q.2
      · rw [decide_eq_true c3, decide_eq_false (by omega)]; rfl
      · rw [decide_eq_false c3, decide_eq_true (by omega)]; rfl
  · rw [if_neg (by simpa using c1), if_neg c1]
    by_cases c3 : p.1 < q.1
    · rw [decide_eq_true c3, decide_eq_false (by omega)]; rfl
    · rw [decide_eq_false c3, decide_eq_true (by omega)]; rfl
/-! ### heaps -/
theorem same_new {H H' : Hp} {p : Addr} {o : HO} (s : Same H H') (h : H p = none) : Same H (upd H' p o) := fun b x e => by
  rw [upd_ne (ne_of_none e h)]
  exact s b x e
theorem same_fresh {H H' : Hp} {p : Addr} (s : Same H H') (h : H' p = none) : H p = none := s.free h
/-- at a a list of pairs -/
def Arr (H : Hp) (a : Addr) (ps : List (Int × Int)) : Prop := ∃ ts : List Addr, H a = some (.lst (ts.map V.ref)) ∧ ts.length = ps.length ∧
  ∀ (i : Nat) (t : Addr) (p : Int × Int), ts[i]? = some t → ps[i]? = some p → H t = some (.tup [.int p.1, .int p.2])
theorem Arr.same {H H' : Hp} {a : Addr} {ps : List (Int × Int)} (A : Arr H a ps) (s : Same H H') : Arr H' a ps := by
  obtain ⟨ts, h1, h2, h3⟩ := A
  exact ⟨ts, s _ _ h1, h2, fun i t p e1 e2 => s _ _ (h3 i t p e1 e2)⟩
theorem Arr.nil {H : Hp} {a : Addr} (h : H a = some (.lst [])) : Arr H a [] := ⟨[], h, rfl, fun i t p e => by simp at e⟩
theorem Arr.push {H : Hp} {a : Addr} {ps : List (Int × Int)} (A : Arr H a ps) {t : Addr} {p : Int × Int} (ht : H t = some (.tup [.int p.1, .int p.2])) :
    ∃ acc, H a = some (.lst acc) ∧ acc.length = ps.length ∧ Arr (upd H a (.lst (acc ++ [.ref t]))) a (ps ++ [p]) := by
  obtain ⟨ts, h1, h2, h3⟩ := A
  refine ⟨ts.map V.ref, h1, by simp [h2], ts ++ [t], by rw [upd_same, List.map_append]; rfl, by simp [h2], fun i t' p' e1 e2 => ?_⟩
  have ne : ∀ (b : Addr) (l : List V), H b = some (.tup l) → b ≠ a := fun b l hb => ne_of hb h1 (by intro z; cases z)
  rcases Nat.lt_or_ge i ts.length with c | c
  · rw [List.getElem?_append_left c] at e1
    rw [List.getElem?_append_left (h2 ▸ c)] at e2
    have q := h3 i t' p' e1 e2
    rw [upd_ne (ne _ _ q)]
    exact q
  · rw [List.getElem?_append_right c] at e1
    rw [List.getElem?_append_right (h2 ▸ c)] at e2
    have hi : i - ts.length = 0 := by
      rcases Nat.eq_zero_or_pos (i - ts.length) with z | z
      · exact z
      · rw [List.getElem?_eq_none (by simp; omega)] at e1; cases e1
    rw [hi] at e1
    rw [show i - ps.length = 0 by omega] at e2
    simp at e1 e2
    subst e1 e2
    rw [upd_ne (ne _ _ ht)]
    exact ht
/-- the i-th of them -/
theorem Arr.item {H : Hp} {a : Addr} {ps : List (Int × Int)} (A : Arr H a ps) : ∃ xs : List V, H a = some (.lst xs) ∧ xs.length = ps.length ∧
    ∀ (i : Nat) (x : V), xs[i]? = some x → ∃ (t : Addr) (p : Int × Int), x = .ref t ∧ ps[i]? = some p ∧ H t = some (.tup [.int p.1, .int p.2]) := by
  obtain ⟨ts, h1, h2, h3⟩ := A
  refine ⟨ts.map V.ref, h1, by simp [h2], fun i x hx => ?_⟩
  rw [List.getElem?_map] at hx
  cases e : ts[i]? with
  | none => rw [e] at hx; cases hx
  | some t =>
    rw [e] at hx
    have hi : i < ts.length := (List.getElem?_eq_some_iff.mp e).1
    refine ⟨t, ps[i]'(h2 ▸ hi), (Option.some.inj hx).symm, List.getElem?_eq_getElem (h2 ▸ hi), ?_⟩
    exact h3 i t _ e (List.getElem?_eq_getElem (h2 ▸ hi))
theorem small {n : Nat} (h : n ≤ 1000) : n < sizeLine := small1000 h
/-! ### range(0, L, 2) -/
theorem rg2 {L : Nat} (h : L ≤ 60) (e : L % 2 = 0) : RgC 0 (L : Int) 2 (L / 2) := by
  have hs : Builtin.Range.rangeSize 0 (L : Int) 2 = ((L / 2 : Nat) : Int) := by
    unfold Builtin.Range.rangeSize
    rw [if_pos (by decide)]
    split <;> omega
  refine ⟨by decide, by decide, ?_, hs⟩
  unfold Builtin.Range.small
  rw [hs]
  have f : ∀ i : Int, 0 ≤ i → i ≤ 100 → Builtin.Range.rangeFitsLong i = true := fun i a b => by
    unfold Builtin.Range.rangeFitsLong
    rw [Bool.and_eq_true, decide_eq_true_eq, decide_eq_true_eq]
    omega
  rw [f 0 (by omega) (by omega), f L (by omega) (by omega), f 2 (by omega) (by omega), f ((L / 2 : Nat) : Int) (by omega) (by omega), if_pos (by decide), f ((L : Int) + (2 - 1)) (by omega) (by omega), Bool.or_true]
  rfl
end Tow
namespace Tow
open PySem PySem.Spec PyProof.Rows L2
open Ks547 (Graph has)
open Ks551 (canWalk deep)
/-! ### the text -/
def topS (i : Nat) : Stmt := PySem.Challenge.pw_towerorwalk_s05_colours.main.body.getD i (.Pass ⟨0, 0, 0, 0⟩)
abbrev sIsG : Stmt := topS 4
abbrev sRis : Stmt := topS 5
abbrev sPair : Stmt := topS 6
abbrev sSta : Stmt := topS 8
abbrev sHei : Stmt := topS 999
theorem scPair : FnScope ["first", "index"] ["first"] (defScope sPair) := ⟨rfl, rfl, rfl, by decide +kernel, rfl, by decide +kernel, by decide +kernel⟩
theorem scRis : FnScope ["arrows", "index"] ["arrows"] (defScope sRis) := ⟨rfl, rfl, rfl, by decide +kernel, rfl, by decide +kernel, by decide +kernel⟩
theorem scIsG : FnScope ["n", "first", "place"] ["n", "first"] (defScope sIsG) := ⟨rfl, rfl, rfl, by decide +kernel, rfl, by decide +kernel, by decide +kernel⟩
section
variable {P : Program} {w : World} {K : PySem.W.Frag} {mg : Str → Option Value} {base : Heap}
/-! ### pair_up -/
def spPair (K : PySem.W.Frag) : Sp := fun vs H Q _ => ∃ (a : Addr) (ns : List Int), vs = [.ref a] ∧ SqL K H a (ns.map V.int) ∧ ns.length ≤ 60 ∧ ns.length % 2 = 0 ∧
  ∀ H' p, Same H H' → H p = none → Arr H' p (pairUp ns) → Q (.ref p) H'
theorem take_next {α : Type} {l : List α} {i : Nat} {x : α} (h : l[i]? = some x) : l.take (i + 1) = l.take i ++ [x] := by
  rw [List.take_add_one, h]
  rfl
theorem int_at {ns : List Int} {j : Nat} (h : j < ns.length) : (ns.map V.int)[j]? = some (.int (ns.getD j 0)) := by
  rw [List.getElem?_map, List.getElem?_eq_getElem h, List.getD_eq_getElem?_getD, List.getElem?_eq_getElem h]
  rfl
theorem ok_pair {f : Addr} {fd : FuncData} {k : Nat} (F : Fun K "pair_up" "pair_up" sPair f fd) (mr : mg "range" = none) (ml : mg "len" = none) : FnOk P w K mg base CX0 (k + 1) f fd ["first"] (spPair K) := by
  refine F.ok scPair (fun vs H Q E h => ?_) (fun cdv A outer s H vs Q E hr h => ?_)
  · obtain ⟨a, ns, rfl, _⟩ := h
    rfl
  · obtain ⟨a, ns, rfl, hS, hlen, hev, q⟩ := h
    refine ⟨_, pss_one (ps_ret (pe_lc (own := [("index", 1)]) (g := gName 1) (by rfl) scPair.nd
      (pi_range3 rfl mr (pa_cons pe_int (pa_cons (pe_callB call_len_seq (by rfl) ml PySem.boot_len (pa_cons (pv 0) pa_nil)) (pa_cons pe_int pa_nil))))
      (blkOk_by (own := [("index", 1)]) (N := ["first", "index"]) (sc := defScope sPair) (by decide +kernel))
      (fun _ _ _ _ _ => pg_name (i := 1) scPair.nd rfl (Or.inl rfl)) (fun _ _ _ _ _ => pts_nil)
      (fun _ _ _ _ _ => pe_tup (pa_cons (pe_ix (r := rIxL K) ix_list (pv 0) (pv 1) (fun _ _ => rfl)) (pa_cons (pe_ix (r := rIxL K) ix_list (pv 0) (pe_op op_add (pv 1) pe_int) (fun _ _ => rfl)) pa_nil))))), ?_⟩
    refine ⟨.ref a, rfl, a, ns.map V.int, rfl, .inl hS, 0, (ns.length : Int), 2, ns.length / 2, ?_, rg2 hlen hev, fun D nD => ?_⟩
    · rw [List.length_map]
    · refine ⟨fun i m H' => m = ns.length / 2 - i ∧ i ≤ ns.length / 2 ∧ Same H H' ∧ Arr H' D ((pairUp ns).take i), ⟨ns.length / 2, rfl, Nat.zero_le _, same_new (Same.refl H) nD, Arr.nil upd_same⟩, ?_⟩
      rintro i m H' ⟨rfl, hi, sm, ar⟩
      by_cases hlt : i < ns.length / 2
      · refine .inr ⟨hlt, fun H2 => Same H H2 ∧ Arr H2 D ((pairUp ns).take (i + 1)), fun H2 z => ⟨_, by omega, rfl, hlt, z.1, z.2⟩, ?_⟩
        rintro x H2 ⟨rfl, rfl⟩
        have g1 := int_at (ns := ns) (j := 2 * i) (by omega)
        have g2 := int_at (ns := ns) (j := 2 * i + 1) (by omega)
        refine ⟨rfl, ?_⟩
        dsimp only [tYes]
        rw [if_pos rfl]
        refine ⟨.ref a, rfl, _, rfl, a, _, _, _, rfl, rfl, sm.seq hS, at_of (j := 2 * i) (by omega) g1, ?_⟩
        refine ⟨.ref a, rfl, _, rfl, _, _, rfl, rfl, a, _, _, _, rfl, rfl, sm.seq hS, at_of (j := 2 * i + 1) (by omega) g2, ?_⟩
        refine ⟨by show 2 ≤ sizeLine; decide, fun t nt => ?_⟩
        have pa := pairUp_at ns i (by omega)
        have s2 : Same H2 (upd H2 t (.tup [.int (ns.getD (2 * i) 0), .int (ns.getD (2 * i + 1) 0)])) := same_new (Same.refl H2) nt
        obtain ⟨acc, e1, e2, e3⟩ := (ar.same s2).push (t := t) (p := (ns.getD (2 * i) 0, ns.getD (2 * i + 1) 0)) upd_same
        refine ⟨acc, e1, small ?_, same_new (sm.trans s2) nD, ?_⟩
        · rw [e2, List.length_take]; omega
        · rw [take_next pa]; exact e3
      · have e : i = ns.length / 2 := by omega
        subst e
        refine .inl ⟨Nat.le_refl _, q H' D sm nD ?_⟩
        rw [List.take_of_length_le (by rw [pairUp_len]; exact Nat.le_refl _)] at ar
        exact ar
/-! ### is_rising -/
def spRis : Sp := fun vs H Q _ => ∃ (a : Addr) (ps : List (Int × Int)), vs = [.ref a] ∧ Arr H a ps ∧ ps.length ≤ 30 ∧ Q (.bl (rising ps)) H
theorem rising_no : ∀ {ps : List (Int × Int)} {i : Nat} {p q : Int × Int}, ps[i]? = some p → ps[i + 1]? = some q → lt2 p q = false → rising ps = false
  | [], i, p, q, h, _, _ => by simp at h
  | [a], 0, p, q, _, h, _ => by simp at h
  | [a], i + 1, p, q, h, _, _ => by simp at h
  | a :: b :: r, 0, p, q, h1, h2, hl => by
    have e1 : a = p := Option.some.inj h1
    have e2 : b = q := Option.some.inj h2
    subst e1 e2
    show (lt2 a b && rising (b :: r)) = false
    rw [hl]; rfl
  | a :: b :: r, i + 1, p, q, h1, h2, hl => by
    show (lt2 a b && rising (b :: r)) = false
    rw [rising_no (ps := b :: r) (i := i) h1 h2 hl, Bool.and_false]
theorem rising_yes : ∀ {ps : List (Int × Int)}, (∀ (i : Nat) (p q : Int × Int), ps[i]? = some p → ps[i + 1]? = some q → lt2 p q = true) → rising ps = true
  | [], _ => rfl
  | [_], _ => rfl
  | a :: b :: r, h => by
    show (lt2 a b && rising (b :: r)) = true
    rw [h 0 a b rfl rfl, rising_yes (ps := b :: r) (fun i p q e1 e2 => h (i + 1) p q e1 e2)]
    rfl
theorem ok_ris {f : Addr} {fd : FuncData} {k : Nat} (F : Fun K "is_rising" "is_rising" sRis f fd) (mr : mg "range" = none) (ml : mg "len" = none) : FnOk P w K mg base CX0 (k + 1) f fd ["arrows"] spRis := by
  refine F.ok scRis (fun vs H Q E h => ?_) (fun cdv A outer s H vs Q E hr h => ?_)
  · obtain ⟨a, ns, rfl, _⟩ := h
    rfl
  · obtain ⟨a, ps, rfl, ar, hlen, q⟩ := h
    obtain ⟨xs, hx, hxl, hit⟩ := ar.item
    refine ⟨_, pss_cons (ps_for PassesOwn.never rfl (pi_range2 (by rfl) mr (pa_cons pe_int (pa_cons (pe_callB call_len_seq (by rfl) ml PySem.boot_len (pa_cons (pv 0) pa_nil)) pa_nil))) (pg_name (i := 1) scRis.nd rfl (Or.inl rfl))
        (pss_one (ps_if (pt_cmpR (op_geTup hr.units0) (pe_ix ix_list (pv 0) (pe_op op_sub (pv 1) pe_int) (fun _ _ => rfl)) (pe_ix ix_list (pv 0) (pv 1) (fun _ _ => rfl)) (nomark _))
          (pss_one (ps_ret pe_bl)) pss_nil)))
      (pss_one (ps_ret pe_bl)), ?_⟩
    refine ⟨.ref a, rfl, a, xs, rfl, .inl (SqL.of hx), 1, (xs.length : Int), rfl, ⟨by decide, by decide, by omega, by omega⟩, ?_⟩
    refine for_range (lo := 1) (n := ((xs.length : Int) - 1).toNat) (fun i σ H' => ∃ v : Option V, σ = [some (.ref a), v] ∧ H' = H ∧ ∀ (j : Nat) (p r : Int × Int), j < i → ps[j]? = some p → ps[j + 1]? = some r → lt2 p r = true)
      ⟨none, rfl, rfl, fun j _ _ hj => absurd hj (Nat.not_lt_zero _)⟩ ?_ ?_
    · rintro i σ H' hi ⟨v, rfl, rfl, inv⟩
      have h1 : i < xs.length := by omega
      have h2 : i + 1 < xs.length := by omega
      obtain ⟨t1, p1, e1, ep1, ht1⟩ := hit i _ (List.getElem?_eq_getElem h1)
      obtain ⟨t2, p2, e2, ep2, ht2⟩ := hit (i + 1) _ (List.getElem?_eq_getElem h2)
      refine ⟨.ref a, rfl, _, rfl, _, _, rfl, rfl, a, xs, _, .ref t1, rfl, rfl, SqL.of hx, at_of (j := i) (by omega) (by rw [List.getElem?_eq_getElem h1, e1]), ?_⟩
      refine ⟨.ref a, rfl, _, rfl, a, xs, _, .ref t2, rfl, rfl, SqL.of hx, at_of (j := i + 1) (by omega) (by rw [List.getElem?_eq_getElem h2, e2]), ?_⟩
      refine ⟨t1, t2, [p1.1, p1.2], [p2.1, p2.2], rfl, rfl, SqT.of ht1, SqT.of ht2, _, rfl, ?_⟩
      rw [geTup_two]
      cases hl : lt2 p1 p2 with
      | false =>
        refine iteT ?_
        rw [rising_no ep1 ep2 hl] at q
        exact q
      | true =>
        refine iteF ?_
        refine ⟨some _, rfl, rfl, fun j p r hj ej1 ej2 => ?_⟩
        rcases Nat.lt_or_ge j i with c | c
        · exact inv j p r c ej1 ej2
        · have ej : j = i := by omega
          subst ej
          rw [ep1] at ej1
          rw [ep2] at ej2
          cases ej1
          cases ej2
          exact hl
    · rintro σ H' ⟨v, rfl, rfl, inv⟩
      have er : rising ps = true := rising_yes fun i p r e1 e2 => inv i p r (by
        have := (List.getElem?_eq_some_iff.mp e2).1
        omega) e1 e2
      rw [er] at q
      exact q
end
end Tow
namespace Tow
open PySem PySem.Spec PyProof.Rows L2
open Ks547 (Graph has)
open Ks551 (canWalk deep)
section
variable {P : Program} {w : World} {K : PySem.W.Frag} {mg : Str → Option Value} {base : Heap}
/-! ### is_graph -/
def spIsG (K : PySem.W.Frag) : Sp := fun vs H Q _ => ∃ (n : Int) (a : Addr) (ns : List Int), vs = [.int n, .ref a] ∧ SqL K H a (ns.map V.int) ∧ ns.length ≤ 60 ∧ ∀ H', Same H H' → Q (.bl (isGraph n ns)) H'
theorem isGraph_not {n : Int} {ns : List Int} (h : ¬ (1 ≤ n ∧ n ≤ 5 ∧ ns.length % 2 = 0 ∧ (∀ x ∈ ns, 0 ≤ x ∧ x < n) ∧ rising (pairUp ns) = true)) : isGraph n ns = false := by
  cases e : isGraph n ns with
  | false => rfl
  | true => exact absurd (isGraph_iff.mp e) h
theorem isGraph_ris {n : Int} {ns : List Int} (h1 : 1 ≤ n) (h2 : n ≤ 5) (h3 : ns.length % 2 = 0) (h4 : ∀ x ∈ ns, 0 ≤ x ∧ x < n) : isGraph n ns = rising (pairUp ns) := by
  cases e : rising (pairUp ns) with
  | true => exact isGraph_iff.mpr ⟨h1, h2, h3, h4, e⟩
  | false =>
    refine isGraph_not fun z => ?_
    rw [e] at z
    exact Bool.noConfusion z.2.2.2.2
theorem ok_isG {f fP fR : Addr} {fd fdP fdR : FuncData} {k : Nat} (F : Fun K "is_graph" "is_graph" sIsG f fd) (FP : Fun K "pair_up" "pair_up" sPair fP fdP) (FR : Fun K "is_rising" "is_rising" sRis fR fdR)
    (bP : Binds K fdP ["first"] []) (bR : Binds K fdR ["arrows"] []) (gP : mg "pair_up" = some (.ref fP)) (gR : mg "is_rising" = some (.ref fR)) {tok : Tok} (gM : mg "MOST_PLACES" = some (.int 5 tok))
    (mr : mg "range" = none) (ml : mg "len" = none) : FnOk P w K mg base CX0 (k + 2) f fd ["n", "first"] (spIsG K) := by
  have GP : FnOk P w K mg base CX0 (k + 1) fP fdP ["first"] (spPair K) := ok_pair FP mr ml
  have GR : FnOk P w K mg base CX0 (k + 1) fR fdR ["arrows"] spRis := ok_ris FR mr ml
  refine F.ok scIsG (fun vs H Q E h => ?_) (fun cdv A outer s H vs Q E hr h => ?_)
  · obtain ⟨n, a, ns, rfl, _⟩ := h
    rfl
  · obtain ⟨n, a, ns, rfl, hS, hlen, q⟩ := h
    refine ⟨_, pss_cons (ps_if (PW.pt (pw_or (pt_cmpR op_lt (pv 0) pe_int (nomark _)) (pw_or (pt_cmpR op_gt (pv 0) (pe_glob (v := .int 5) rfl gM ⟨_, rfl⟩) (nomark _))
          (pw_or1 (pt_cmpR op_ne (pe_op op_mod (pe_callB call_len_seq (by rfl) ml PySem.boot_len (pa_cons (pv 1) pa_nil)) pe_int) pe_int (nomark _))))))
        (pss_one (ps_ret pe_bl)) pss_nil)
      (pss_cons (ps_for PassesOwn.never rfl (pi_list (pv 1)) (pg_name (i := 2) scIsG.nd rfl (Or.inl rfl))
        (pss_one (ps_if (PW.pt (pw_or (pt_cmpR op_lt (pv 2) pe_int (nomark _)) (pw_or1 (pt_cmpR op_ge (pv 2) (pv 0) (nomark _))))) (pss_one (ps_ret pe_bl)) pss_nil)))
      (pss_one (ps_ret (pe_call GR hr (by rfl) gR FR.kp bR .nil pass0 (pa_cons (pe_call GP hr (by rfl) gP FP.kp bP .nil pass0 (pa_cons (pv 1) pa_nil)) pa_nil))))), ?_⟩
    refine ⟨.int n, rfl, n, 1, rfl, rfl, _, rfl, ite2 (fun c => ?_) (fun c => ?_)⟩
    · refine iteT ?_
      have := of_decide_eq_true c
      have e := q H (Same.refl H)
      rw [isGraph_not (fun z => by omega)] at e
      exact e
    · have c1 : ¬ n < 1 := fun z => c (decide_eq_true z)
      refine ⟨.int n, rfl, n, 5, rfl, rfl, _, rfl, ite2 (fun c => ?_) (fun c => ?_)⟩
      · refine iteT ?_
        have := of_decide_eq_true c
        have e := q H (Same.refl H)
        rw [isGraph_not (fun z => by omega)] at e
        exact e
      · have c2 : ¬ 5 < n := fun z => c (decide_eq_true z)
        refine ⟨.ref a, rfl, a, _, rfl, .inl hS, _, 2, rfl, rfl, (by show (0 : Int) < 2; decide), rfl, _, rfl, ite2 (fun c => ?_) (fun c => ?_)⟩
        · rw [Bool.not_eq_true', decide_eq_false_iff_not, List.length_map] at c
          have e := q H (Same.refl H)
          rw [isGraph_not (fun z => c (congrArg V.int (by omega)))] at e
          exact e
        · rw [Bool.not_eq_true', decide_eq_false_iff_not, Classical.not_not, List.length_map] at c
          have c3 : ns.length % 2 = 0 := by
            have := V.int.inj c
            omega
          refine ⟨.ref a, rfl, a, rfl, ⟨_, hS⟩, for_list (K := K) (a := a) (xs := ns.map V.int) (fun i σ H' => ∃ v : Option V, σ = [some (.int n), some (.ref a), v] ∧ H' = H ∧ ∀ x ∈ ns.take i, 0 ≤ x ∧ x < n)
            ⟨none, rfl, rfl, fun x hx => by simp at hx⟩ (fun i σ H' _ ⟨_, _, e, _⟩ => e ▸ hS) ?_ ?_⟩
          · rintro i x σ H' hi ⟨v, rfl, rfl, inv⟩
            obtain ⟨z, hz, rfl⟩ : ∃ z, ns[i]? = some z ∧ V.int z = x := by
              rw [List.getElem?_map] at hi
              cases e : ns[i]? with
              | none => rw [e] at hi; cases hi
              | some z => rw [e] at hi; exact ⟨z, rfl, Option.some.inj hi⟩
            have zm : z ∈ ns := List.mem_of_getElem? hz
            have bad : ¬ (0 ≤ z ∧ z < n) → Q (.bl false) H' := fun hb => by
              have e := q H' (Same.refl H')
              rw [isGraph_not (fun w => hb (w.2.2.2.1 z zm))] at e
              exact e
            refine ⟨.int z, rfl, z, 0, rfl, rfl, _, rfl, ite2 (fun c => ?_) (fun c => ?_)⟩
            · refine iteT ?_
              have := of_decide_eq_true c
              exact bad (by omega)
            · have d1 : ¬ z < 0 := fun w => c (decide_eq_true w)
              refine ⟨.int z, rfl, .int n, rfl, z, n, rfl, rfl, _, rfl, ite2 (fun c => ?_) (fun c => ?_)⟩
              · have := of_decide_eq_true c
                exact bad (by omega)
              · have d2 : ¬ n ≤ z := fun w => c (decide_eq_true w)
                refine ⟨some (.int z), rfl, rfl, fun y hy => ?_⟩
                rw [take_next hz, List.mem_append] at hy
                rcases hy with hy | hy
                · exact inv y hy
                · have e : y = z := by simpa using hy
                  subst e
                  omega
          · rintro σ H' ⟨v, rfl, rfl, inv⟩
            rw [List.length_map, List.take_length] at inv
            refine ⟨.ref a, rfl, a, ns, rfl, hS, hlen, c3, fun H1 p sm np ar => ?_⟩
            refine ⟨p, pairUp ns, rfl, ar, by rw [pairUp_len]; omega, ?_⟩
            have e := q H1 sm
            rw [isGraph_ris (by omega) (by omega) c3 inv] at e
            exact e
/-! ### pairs of places -/
def castP (l : List (Nat × Nat)) : List (Int × Int) := l.map fun p => ((p.1 : Int), (p.2 : Int))
theorem rep_one (n : Nat) (v : V) : (List.replicate n [v]).flatten = List.replicate n v := by
  induction n with
  | zero => rfl
  | succ n ih => rw [List.replicate_succ, List.flatten_cons, ih, List.replicate_succ]; rfl
theorem castP_at {l : List (Nat × Nat)} {i : Nat} {p : Int × Int} (h : (castP l)[i]? = some p) : ∃ q : Nat × Nat, l[i]? = some q ∧ p = ((q.1 : Int), (q.2 : Int)) := by
  unfold castP at h
  rw [List.getElem?_map] at h
  cases e : l[i]? with
  | none => rw [e] at h; cases h
  | some q => rw [e] at h; exact ⟨q, rfl, (Option.some.inj h).symm⟩
theorem castP_len (l : List (Nat × Nat)) : (castP l).length = l.length := List.length_map _
theorem ixN_nat {n j : Nat} (h : j < n) : ixN n (j : Int) = some j := by
  unfold ixN
  rw [if_pos (by omega), if_pos (by omega)]
  rfl
theorem bool_at {n : Nat} (c : Nat → Bool) {u : Nat} (h : u < n) : (((List.range n).map c).map V.bl)[u]? = some (.bl (c u)) := by
  rw [List.getElem?_map, List.getElem?_map, List.getElem?_range h]
  rfl
end
end Tow
namespace Tow
open PySem PySem.Spec PyProof.Rows L2
/-! ### lists of whole numbers in the heap -/
def natV (l : List Nat) : List V := l.map fun (x : Nat) => V.int (x : Int)
theorem natV_at {l : List Nat} {j : Nat} (h : j < l.length) : (natV l)[j]? = some (.int ((l.getD j 0 : Nat) : Int)) := by
  unfold natV
  rw [List.getElem?_map, List.getElem?_eq_getElem h, List.getD_eq_getElem?_getD, List.getElem?_eq_getElem h]
  rfl
theorem natV_set (l : List Nat) (j x : Nat) : (natV l).set j (.int (x : Int)) = natV (l.set j x) := by
  unfold natV
  rw [List.map_set]
theorem natV_len (l : List Nat) : (natV l).length = l.length := List.length_map _
theorem natV_ints (l : List Nat) : natV l = (l.map fun (x : Nat) => (x : Int)).map V.int := by
  unfold natV
  rw [List.map_map]
  rfl
theorem natV_outI (r : Int) (l : List Nat) : [V.int r] ++ natV l = (outI r l).map V.int := by
  unfold natV outI
  rw [List.map_cons, List.map_map]
  rfl
theorem natV_app (l : List Nat) (x : Nat) : natV l ++ [.int (x : Int)] = natV (l ++ [x]) := by
  unfold natV
  rw [List.map_append]
  rfl
end Tow
namespace Tow
open PySem PySem.Spec PyProof.Rows L2
open PySem.W (Codec)
open Ks547 (Graph has)
abbrev sCla : Stmt := topS 13
section
variable {P : Program} {w : World} {K : PySem.W.Frag} {mg : Str → Option Value} {base : Heap}
/-! ### clashes -/
def spCla (K : PySem.W.Frag) : Sp := fun vs H Q _ => ∃ (ps : List (Nat × Nat)) (f : List Nat) (b a : Addr), vs = [.ref b, .ref a] ∧ SqL K H b (natV f) ∧ Arr H a (castP ps) ∧ Q (.bl (!okP ps f)) H
theorem scCla : FnScope ["given", "arrows", "source", "target"] ["given", "arrows"] (defScope sCla) := ⟨rfl, rfl, rfl, by decide +kernel, rfl, by decide +kernel, by decide +kernel⟩
theorem max_two (x y : Nat) : (if (y : Int) > (x : Int) then (y : Int) else (x : Int)) = ((max x y : Nat) : Int) := by
  by_cases c : (y : Int) > (x : Int)
  · rw [if_pos c]; omega
  · rw [if_neg c]; omega
theorem okP_no {ps : List (Nat × Nat)} {f : List Nat} {p : Nat × Nat} (hp : p ∈ ps) (h : clashB p f = true) : okP ps f = false := by
  unfold okP
  rw [List.any_eq_true.mpr ⟨p, hp, h⟩]
  rfl
theorem okP_yes {ps : List (Nat × Nat)} {f : List Nat} (h : ∀ p ∈ ps, clashB p f = false) : okP ps f = true := by
  unfold okP
  rw [List.any_eq_false.mpr fun p hp => by rw [h p hp]; exact Bool.false_ne_true]
  rfl
theorem ok_cla {f : Addr} {fd : FuncData} {k : Nat} (F : Fun K "clashes" "clashes" sCla f fd) (ml : mg "len" = none) (mm : mg "max" = none) : FnOk P w K mg base CX0 (k + 1) f fd ["given", "arrows"] (spCla K) := by
  refine F.ok scCla (fun vs H Q E h => ?_) (fun cdv A outer s H vs Q E hr h => ?_)
  · obtain ⟨ps, f, b, a, rfl, _⟩ := h
    rfl
  · obtain ⟨ps, f, b, a, rfl, hS, ar, q⟩ := h
    obtain ⟨xs, hx, hxl, hit⟩ := ar.item
    have hxg : xs.length = ps.length := by rw [hxl]; exact List.length_map _
    refine ⟨_, pss_cons (ps_for PassesOwn.never rfl (pi_list (pv 1)) (pg_tup rfl (pgs_cons (pg_name (i := 2) scCla.nd rfl (.inl rfl)) (pgs_cons (pg_name (i := 3) scCla.nd rfl (.inl rfl)) pgs_nil)))
        (pss_one (ps_if (PW.pt (pw_and (pt_cmpR op_lt (pe_callB (call_max2 rfl) (by rfl) mm (by decide +kernel) (pa_cons (pv 2) (pa_cons (pv 3) pa_nil))) (pe_callB call_len_seq (by rfl) ml PySem.boot_len (pa_cons (pv 0) pa_nil)) (nomark _))
            (pw_and1 (pt_cmpR op_eq (pe_ix ix_list (pv 0) (pv 2) (fun _ _ => rfl)) (pe_ix ix_list (pv 0) (pv 3) (fun _ _ => rfl)) (nomark _)))))
          (pss_one (ps_ret pe_bl)) pss_nil)))
      (pss_one (ps_ret pe_bl)), ?_⟩
    refine ⟨.ref a, rfl, a, rfl, ⟨_, SqL.of hx⟩, for_list (K := K) (a := a) (xs := xs) (fun i σ H' => ∃ v2 v3 : Option V, σ = [some (.ref b), some (.ref a), v2, v3] ∧ H' = H ∧ ∀ p ∈ ps.take i, clashB p f = false)
      ⟨none, none, rfl, rfl, fun p hp => by simp at hp⟩ (fun i σ H' _ ⟨_, _, _, e, _⟩ => e ▸ SqL.of hx) ?_ ?_⟩
    · rintro i x σ H' hi ⟨v2, v3, rfl, rfl, inv⟩
      obtain ⟨t, pp, rfl, epp, htt⟩ := hit i x hi
      obtain ⟨⟨u, v⟩, eq, rfl⟩ := castP_at epp
      have next : clashB (u, v) f = false → ∀ p ∈ ps.take (i + 1), clashB p f = false := fun z p hp => by
        rw [take_next eq, List.mem_append] at hp
        rcases hp with hp | hp
        · exact inv p hp
        · rw [List.mem_singleton.mp hp]
          exact z
      refine ⟨t, _, rfl, SqT.of htt, rfl, _, _, rfl, _, _, rfl, rfl, ?_⟩
      refine ⟨.int u, rfl, .int v, rfl, _, _, rfl, ?_⟩
      rw [max_two]
      refine ⟨.ref b, rfl, b, _, rfl, .inl hS, _, _, rfl, rfl, _, rfl, ite2 (fun c => ?_) (fun c => ?_)⟩
      · have hm : max u v < f.length := by
          have := of_decide_eq_true c
          rw [natV_len] at this
          omega
        refine ⟨.ref b, rfl, .int u, rfl, b, _, _, _, rfl, rfl, hS, at_of (j := u) rfl (natV_at (by omega)), .ref b, rfl, .int v, rfl, b, _, _, _, rfl, rfl, hS, at_of (j := v) rfl (natV_at (by omega)), rfl, _, rfl, ite2 (fun d => ?_) (fun d => ?_)⟩
        · have e1 : f.getD u 0 = f.getD v 0 := by
            have := V.int.inj (of_decide_eq_true d)
            omega
          have e2 : clashB (u, v) f = true := by
            unfold clashB
            rw [Bool.and_eq_true, decide_eq_true_eq, beq_iff_eq]
            exact ⟨hm, e1⟩
          rw [okP_no (List.mem_of_getElem? eq) e2] at q
          exact q
        · refine ⟨_, _, rfl, rfl, next ?_⟩
          unfold clashB
          rw [Bool.and_eq_false_iff]
          refine .inr ?_
          rw [beq_eq_false_iff_ne]
          intro z
          exact d (decide_eq_true (by rw [z]))
      · refine iteF ?_
        refine ⟨_, _, rfl, rfl, next ?_⟩
        unfold clashB
        rw [Bool.and_eq_false_iff]
        refine .inl ?_
        rw [decide_eq_false_iff_not]
        intro z
        refine c (decide_eq_true ?_)
        rw [natV_len]
        show ((max u v : Nat) : Int) < f.length
        have z2 : max u v < f.length := z
        omega
    · rintro σ H' ⟨v2, v3, rfl, rfl, inv⟩
      rw [hxg, List.take_length] at inv
      rw [okP_yes inv] at q
      exact q
end
end Tow
namespace Tow
open PySem PySem.Spec PyProof.Rows L2
open PySem.W (Codec)
open Ks547 (Graph has)
abbrev sCol : Stmt := topS 12
section
variable {P : Program} {w : World} {K : PySem.W.Frag} {mg : Str → Option Value} {base : Heap}
/-! ### first_colouring -/
/-- at a a list of ways -/
def Wys (H : Hp) (a : Addr) (ws : List (List Nat)) : Prop := ∃ ts : List Addr, H a = some (.lst (ts.map V.ref)) ∧ ts.length = ws.length ∧
  ∀ (i : Nat) (t : Addr) (w : List Nat), ts[i]? = some t → ws[i]? = some w → H t = some (.lst (natV w))
theorem Wys.same {H H' : Hp} {a : Addr} {ws : List (List Nat)} (A : Wys H a ws) (s : Same H H') : Wys H' a ws := by
  obtain ⟨ts, h1, h2, h3⟩ := A
  exact ⟨ts, s _ _ h1, h2, fun i t p e1 e2 => s _ _ (h3 i t p e1 e2)⟩
theorem Wys.nil {H : Hp} {a : Addr} (h : H a = some (.lst [])) : Wys H a [] := ⟨[], h, rfl, fun i t p e => by simp at e⟩
theorem way_ne {H : Hp} {a t : Addr} {ts : List Addr} {w : List Nat} (h1 : H a = some (.lst (ts.map V.ref))) (hm : t ∈ ts) (ht : H t = some (.lst (natV w))) : t ≠ a := fun e => by
  rw [e, h1] at ht
  have e2 : ts.map V.ref = natV w := HO.lst.inj (Option.some.inj ht)
  cases ts with
  | nil => exact absurd hm List.not_mem_nil
  | cons x r =>
    cases w with
    | nil => cases e2
    | cons y z =>
      have e3 : V.ref x = V.int y := (List.cons.inj e2).1
      cases e3
theorem Wys.push {H : Hp} {a : Addr} {ws : List (List Nat)} (A : Wys H a ws) {t : Addr} {w : List Nat} (ht : H t = some (.lst (natV w))) (ne : t ≠ a) :
    ∃ acc, H a = some (.lst acc) ∧ acc.length = ws.length ∧ Wys (upd H a (.lst (acc ++ [.ref t]))) a (ws ++ [w]) := by
  obtain ⟨ts, h1, h2, h3⟩ := A
  refine ⟨ts.map V.ref, h1, by simp [h2], ts ++ [t], by rw [upd_same, List.map_append]; rfl, by simp [h2], fun i t' p' e1 e2 => ?_⟩
  rcases Nat.lt_or_ge i ts.length with c | c
  · rw [List.getElem?_append_left c] at e1
    rw [List.getElem?_append_left (h2 ▸ c)] at e2
    have q := h3 i t' p' e1 e2
    rw [upd_ne (way_ne h1 (List.mem_of_getElem? e1) q)]
    exact q
  · rw [List.getElem?_append_right c] at e1
    rw [List.getElem?_append_right (h2 ▸ c)] at e2
    have hi : i - ts.length = 0 := by
      rcases Nat.eq_zero_or_pos (i - ts.length) with z | z
      · exact z
      · rw [List.getElem?_eq_none (by simp; omega)] at e1; cases e1
    rw [hi] at e1
    rw [show i - ws.length = 0 by omega] at e2
    simp at e1 e2
    subst e1 e2
    rw [upd_ne ne]
    exact ht
theorem Wys.item {H : Hp} {a : Addr} {ws : List (List Nat)} (A : Wys H a ws) : ∃ xs : List V, H a = some (.lst xs) ∧ xs.length = ws.length ∧
    ∀ (i : Nat) (x : V), xs[i]? = some x → ∃ (t : Addr) (w : List Nat), x = .ref t ∧ ws[i]? = some w ∧ H t = some (.lst (natV w)) := by
  obtain ⟨ts, h1, h2, h3⟩ := A
  refine ⟨ts.map V.ref, h1, by simp [h2], fun i x hx => ?_⟩
  rw [List.getElem?_map] at hx
  cases e : ts[i]? with
  | none => rw [e] at hx; cases hx
  | some t =>
    rw [e] at hx
    have hi : i < ts.length := (List.getElem?_eq_some_iff.mp e).1
    refine ⟨t, ws[i]'(h2 ▸ hi), (Option.some.inj hx).symm, List.getElem?_eq_getElem (h2 ▸ hi), ?_⟩
    exact h3 i t _ e (List.getElem?_eq_getElem (h2 ▸ hi))
theorem ext_next (ps : List (Nat × Nat)) (c : Nat) (r : List Nat) : ext ps (c + 1) r = ext ps c r ++ (if okP ps (r ++ [c]) = true then [r ++ [c]] else []) := by
  unfold ext
  rw [List.range_succ, List.map_append, List.filter_append]
  congr 1
  cases h : okP ps (r ++ [c]) <;> simp [h]
theorem flat_next {α β : Type} {F : α → List β} {l : List α} {j : Nat} {w : α} (h : l[j]? = some w) : (l.take (j + 1)).flatMap F = (l.take j).flatMap F ++ F w := by
  rw [take_next h, List.flatMap_append]
  simp
theorem small4 {n : Nat} (h : n ≤ 100000) : n < sizeLine := Nat.lt_of_le_of_lt h (by decide)
def spCol : Sp := fun vs H Q _ => ∃ (g : Graph) (m : Nat) (a : Addr), vs = [.int g.n, .int m, .ref a] ∧ Arr H a (castP g.arrows) ∧ Wf g ∧ m ≤ 5 ∧ ∀ H' p, Same H H' → H' p = some (.lst (natV ((firstCol g m).getD []))) → Q (.ref p) H'
theorem scCol : FnScope ["n", "count", "arrows", "ways", "place", "longer_ways", "way", "colour", "longer"] ["n", "count", "arrows"] (defScope sCol) := ⟨rfl, rfl, rfl, by decide +kernel, rfl, by decide +kernel, by decide +kernel⟩
theorem ok_col {f fC : Addr} {fd fdC : FuncData} {k : Nat} (F : Fun K "first_colouring" "first_colouring" sCol f fd) (FC : Fun K "clashes" "clashes" sCla fC fdC) (bC : Binds K fdC ["given", "arrows"] []) (gC : mg "clashes" = some (.ref fC))
    (mr : mg "range" = none) (ml : mg "len" = none) (mm : mg "max" = none) : FnOk P w K mg base CX0 (k + 2) f fd ["n", "count", "arrows"] spCol := by
  have GC : FnOk P w K mg base CX0 (k + 1) fC fdC ["given", "arrows"] (spCla K) := ok_cla FC ml mm
  refine F.ok scCol (fun vs H Q E h => ?_) (fun cdv A outer s H vs Q E hr h => ?_)
  · obtain ⟨g, m, a, rfl, _⟩ := h
    rfl
  · obtain ⟨g, m, a, rfl, ar, W, hm, q⟩ := h
    have hn5 : g.n ≤ 5 := W.hi
    refine ⟨_, pss_cons (ps_set (i := 3) scCol.nd rfl (.inl rfl) (pe_lst (pa_cons (pe_lst pa_nil) pa_nil)))
      (pss_cons (ps_for PassesOwn.never rfl (pi_range1 (by rfl) mr (pa_cons (pv 0) pa_nil)) (pg_name (i := 4) scCol.nd rfl (.inl rfl))
        (pss_cons (ps_set (i := 5) scCol.nd rfl (.inl rfl) (pe_lst pa_nil))
        (pss_cons (ps_for PassesOwn.never rfl (pi_list (pv 3)) (pg_name (i := 6) scCol.nd rfl (.inl rfl))
          (pss_one (ps_for PassesOwn.never rfl (pi_range1 (by rfl) mr (pa_cons (pv 1) pa_nil)) (pg_name (i := 7) scCol.nd rfl (.inl rfl))
            (pss_cons (ps_set (i := 8) scCol.nd rfl (.inl rfl) (pe_op op_cat (pv 6) (pe_lst (pa_cons (pv 7) pa_nil))))
            (pss_one (ps_if (pt_not (pt_val (pe_call GC hr (by rfl) gC FC.kp bC .nil pass0 (pa_cons (pv 8) (pa_cons (pv 2) pa_nil)))))
              (pss_one (ps_expr (pe_bm PySem.F.plainAttrs_list PySem.F.slot_list_append PySem.F.type_list_append mt_append (pv 5) (pa_cons (pv 8) pa_nil)))) pss_nil))))))
        (pss_one (ps_set (i := 3) scCol.nd rfl (.inl rfl) (pv 5))))))
      (pss_cons (ps_if (pt_cmpR op_eq (pe_callB call_len_seq (by rfl) ml PySem.boot_len (pa_cons (pv 3) pa_nil)) pe_int (nomark _)) (pss_one (ps_ret (pe_lst pa_nil))) pss_nil)
      (pss_one (ps_ret (pe_ix ix_list (pv 3) pe_int (fun _ _ => rfl)))))), ?_⟩
    -- ways = [[]]
    refine ⟨by show 0 ≤ sizeLine; exact Nat.zero_le _, fun e0 ne0 => ⟨by show 1 ≤ sizeLine; decide, fun p0 np0 => ?_⟩⟩
    have s0 : Same H (upd H e0 (.lst [])) := same_new (Same.refl H) ne0
    have np0H : H p0 = none := s0.free np0
    have nep : e0 ≠ p0 := fun e => by
      rw [← e, upd_same] at np0
      cases np0
    have w0 : Wys (upd (upd H e0 (.lst [])) p0 (.lst [.ref e0])) p0 (ways g.arrows m 0) := by
      refine ⟨[e0], upd_same, rfl, fun i t w e1 e2 => ?_⟩
      cases i with
      | succ i => simp at e1
      | zero =>
        have e3 : e0 = t := Option.some.inj e1
        have e4 : [] = w := Option.some.inj e2
        subst e3 e4
        rw [upd_ne nep, upd_same]
        rfl
    refine ⟨.int g.n, rfl, (g.n : Int), rfl, by omega, by omega, ?_⟩
    refine for_range (lo := 0) (n := ((g.n : Int)).toNat) (fun i σ H' => ∃ (v4 v5 v6 v7 v8 : Option V) (pw : Addr), σ = [some (.int g.n), some (.int m), some (.ref a), some (.ref pw), v4, v5, v6, v7, v8] ∧ Same H H' ∧ Wys H' pw (ways g.arrows m i))
      ⟨none, none, none, none, none, p0, rfl, same_new s0 np0H, w0⟩ ?_ ?_
    · rintro i σ H1 hi ⟨v4, v5, v6, v7, v8, pw, rfl, s1, hW⟩
      have hi5 : i ≤ 5 := by omega
      have hwl := Nat.le_trans (ways_len g.arrows m i) (pow_small hm hi5)
      -- longer_ways = []
      refine ⟨by show 0 ≤ sizeLine; exact Nat.zero_le _, fun lw nlw => ?_⟩
      have s2 : Same H1 (upd H1 lw (.lst [])) := same_new (Same.refl H1) nlw
      have hW2 := hW.same s2
      obtain ⟨xs, hx, hxl, hit⟩ := hW.item
      refine ⟨.ref pw, rfl, pw, rfl, ⟨_, SqL.of (s2 _ _ hx)⟩, for_list (K := K) (a := pw) (xs := xs) (fun j σ H2 => ∃ v6 v7 v8 : Option V, σ = [some (.int g.n), some (.int m), some (.ref a), some (.ref pw), some (.int (0 + i)), some (.ref lw), v6, v7, v8] ∧ Same H1 H2 ∧
          Wys H2 lw (((ways g.arrows m i).take j).flatMap (ext g.arrows m)))
        ⟨v6, v7, v8, rfl, s2, Wys.nil upd_same⟩ (fun j σ H2 _ ⟨_, _, _, _, s5, _⟩ => SqL.of (s5 _ _ hx)) ?_ ?_⟩
      · rintro j x σ H2 hj ⟨w6, w7, w8, rfl, s3, hL⟩
        obtain ⟨t, r, rfl, er, htr⟩ := hit j x hj
        have hjl : j < (ways g.arrows m i).length := (List.getElem?_eq_some_iff.mp er).1
        have hrl : r.length = i := ways_at (List.mem_of_getElem? er)
        have hbl : (((ways g.arrows m i).take j).flatMap (ext g.arrows m)).length ≤ 3125 * 5 := by
          refine Nat.le_trans (flat_len (ext_len g.arrows m) _) (Nat.mul_le_mul ?_ hm)
          rw [List.length_take]
          omega
        refine ⟨.int m, rfl, (m : Int), rfl, by omega, by omega, ?_⟩
        refine for_range (lo := 0) (n := ((m : Int)).toNat) (fun c σ H3 => ∃ v7 v8 : Option V, σ = [some (.int g.n), some (.int m), some (.ref a), some (.ref pw), some (.int (0 + i)), some (.ref lw), some (.ref t), v7, v8] ∧ Same H1 H3 ∧
            Wys H3 lw (((ways g.arrows m i).take j).flatMap (ext g.arrows m) ++ ext g.arrows c r))
          ⟨w7, w8, rfl, s3, by rw [show ext g.arrows 0 r = [] from rfl, List.append_nil]; exact hL⟩ ?_ ?_
        · rintro c σ H3 hc ⟨y7, y8, rfl, s4, hL3⟩
          have hc' : c < m := by omega
          -- longer = way + [colour]
          refine ⟨.ref t, rfl, .int (0 + c), rfl, by show 1 ≤ sizeLine; decide, fun l nl => ?_⟩
          have z1 : Same H3 (upd H3 l (.lst [.int (0 + c)])) := same_new (Same.refl H3) nl
          refine ⟨t, l, _, _, rfl, rfl, z1 _ _ (s4 _ _ htr), upd_same, ?_, fun z nz => ?_⟩
          · show (natV r).length + 1 ≤ sizeLine
            rw [natV_len]
            exact Nat.le_of_lt (small (by omega))
          have nz3 : H3 z = none := z1.free nz
          have z2 := same_new (o := .lst (natV r ++ [.int (0 + c)])) z1 nz3
          have ez : natV r ++ [V.int (0 + c)] = natV (r ++ [c]) := by
            rw [← natV_app, show (0 : Int) + c = c by omega]
          have hz : (upd (upd H3 l (.lst [.int (0 + c)])) z (.lst (natV r ++ [.int (0 + c)]))) z = some (.lst (natV (r ++ [c]))) := by
            rw [upd_same, ez]
          have s5 := s4.trans z2
          have hnlw : z ≠ lw := fun e => by
            obtain ⟨ts, h1, _⟩ := hL3
            rw [e, h1] at nz3
            cases nz3
          -- if not clashes(longer, arrows)
          refine ⟨.ref z, rfl, .ref a, rfl, g.arrows, r ++ [c], z, a, rfl, SqL.of hz, (ar.same s1).same s5, _, rfl, ?_⟩
          cases hok : okP g.arrows (r ++ [c]) with
          | true =>
            refine iteT ?_
            obtain ⟨acc, h1, h2, h3⟩ := (hL3.same z2).push hz hnlw
            refine ⟨.ref lw, rfl, .inl ⟨rfl, _, SqL.of h1⟩, .ref z, rfl, lw, acc, _, rfl, rfl, h1, ?_, ?_⟩
            · rw [h2, List.length_append]
              have := ext_len g.arrows c r
              exact small4 (by omega)
            · refine ⟨_, _, rfl, same_new s5 nlw, ?_⟩
              rw [ext_next, if_pos hok, ← List.append_assoc]
              exact h3
          | false =>
            refine iteF ?_
            refine ⟨_, _, rfl, s5, ?_⟩
            rw [ext_next, if_neg (by rw [hok]; exact Bool.false_ne_true), List.append_nil]
            exact hL3.same z2
        · rintro σ H3 ⟨y7, y8, rfl, s4, hL3⟩
          rw [show ((m : Int)).toNat = m by omega] at hL3
          refine ⟨_, _, _, rfl, s4, ?_⟩
          rw [flat_next er]
          exact hL3
      · rintro σ H2 ⟨w6, w7, w8, rfl, s3, hL⟩
        rw [hxl, List.take_length] at hL
        exact ⟨.ref lw, rfl, _, _, _, _, _, lw, rfl, s1.trans s3, hL⟩
    · rintro σ H1 ⟨v4, v5, v6, v7, v8, pw, rfl, s1, hW⟩
      rw [show ((g.n : Int)).toNat = g.n by omega] at hW
      obtain ⟨xs, hx, hxl, hit⟩ := hW.item
      refine ⟨.ref pw, rfl, pw, xs, rfl, .inl (SqL.of hx), rfl, _, rfl, ite2 (fun c => ?_) (fun c => ?_)⟩
      · have e0 := V.int.inj (of_decide_eq_true c)
        have e1 : ways g.arrows m g.n = [] := List.length_eq_zero_iff.mp (by omega)
        refine ⟨by show 0 ≤ sizeLine; exact Nat.zero_le _, fun t nt => q _ t (same_new s1 (s1.free nt)) ?_⟩
        rw [upd_same, firstCol_ways W, e1]
        rfl
      · cases hw : ways g.arrows m g.n with
        | nil =>
          exfalso
          rw [hw] at hxl
          refine c (decide_eq_true ?_)
          rw [hxl]
          rfl
        | cons w0 rest =>
          rw [hw] at hxl hit
          have h0 : 0 < xs.length := by rw [hxl]; exact Nat.zero_lt_succ _
          obtain ⟨t, r, e1, e2, e3⟩ := hit 0 _ (List.getElem?_eq_getElem h0)
          have e4 : w0 = r := Option.some.inj e2
          subst e4
          refine ⟨.ref pw, rfl, pw, xs, 0, .ref t, rfl, rfl, SqL.of hx, atI_nat (j := 0) (by rw [List.getElem?_eq_getElem h0, e1]), q H1 t s1 ?_⟩
          rw [firstCol_ways W, hw]
          exact e3
end
end Tow
namespace Tow
open PySem PySem.Spec PyProof.Rows L2
open PySem.W (Codec)
open Ks547 (Graph has)
open Ks551 (beside)
abbrev sBo : Stmt := topS 7
/-! ### both_ways -/
theorem Arr.keys {H : Hp} {a : Addr} {ps : List (Int × Int)} (A : Arr H a ps) : ∃ ks : List (Addr × (Int × Int)), H a = some (.lst (ks.map fun k => V.ref k.1)) ∧ ks.map (·.2) = ps ∧ ∀ k ∈ ks, H k.1 = some (.tup [.int k.2.1, .int k.2.2]) := by
  obtain ⟨ts, h1, h2, h3⟩ := A
  refine ⟨ts.zip ps, ?_, List.map_snd_zip (by omega), fun k hk => ?_⟩
  · rw [h1]
    congr 2
    have e : (ts.zip ps).map (fun k => V.ref k.1) = ((ts.zip ps).map (·.1)).map V.ref := by rw [List.map_map]; rfl
    rw [e, List.map_fst_zip (by omega)]
  · obtain ⟨i, hi⟩ := List.mem_iff_getElem?.mp hk
    obtain ⟨e1, e2⟩ := List.getElem?_zip_eq_some.mp hi
    exact h3 i _ _ e1 e2
def key (k : Addr × (Int × Int)) : Addr × List Int := (k.1, [k.2.1, k.2.2])
def nat2 (q : Addr × List Int) : Nat × Nat := ((q.2.getD 0 0).toNat, (q.2.getD 1 0).toNat)
theorem arr_of {H : Hp} {a : Addr} {L : List (Addr × List Int)} (h : H a = some (.lst (L.map fun q => V.ref q.1))) (hL : ∀ q ∈ L, ∃ x y : Nat, q.2 = [(x : Int), (y : Int)] ∧ H q.1 = some (.tup [.int x, .int y])) : Arr H a (castP (L.map nat2)) := by
  refine ⟨L.map (·.1), by rw [h, List.map_map]; rfl, by rw [castP_len, List.length_map, List.length_map], fun i t p e1 e2 => ?_⟩
  unfold castP at e2
  rw [List.getElem?_map] at e1
  rw [List.getElem?_map, List.getElem?_map] at e2
  cases e : L[i]? with
  | none => rw [e] at e1; cases e1
  | some q =>
    rw [e] at e1 e2
    obtain ⟨x, y, hq, hh⟩ := hL q (List.mem_of_getElem? e)
    have e3 : q.1 = t := Option.some.inj e1
    have e4 : (((nat2 q).1 : Int), ((nat2 q).2 : Int)) = p := Option.some.inj e2
    have e5 : nat2 q = (x, y) := by
      unfold nat2
      rw [hq]
      rfl
    rw [e5] at e4
    subst e3 e4
    exact hh
theorem both_mk {g : Graph} (W : Wf g) {L : List (Addr × List Int)} (hm : ∀ x : List Int, x ∈ L.map (·.2) ↔ ∃ u v : Nat, x = [(u : Int), (v : Int)] ∧ beside g u v = true) (nd : (L.map (·.2)).Nodup) (pw : L.Pairwise fun q r => TS.code 64 q.2 ≤ TS.code 64 r.2) : Both g ⟨g.n, L.map nat2⟩ := by
  have pairs : ∀ q ∈ L, ∃ u v : Nat, q.2 = [(u : Int), (v : Int)] ∧ beside g u v = true := fun q hq => (hm q.2).mp (List.mem_map.mpr ⟨q, hq, rfl⟩)
  have n2 : ∀ (q : Addr × List Int) (u v : Nat), q.2 = [(u : Int), (v : Int)] → nat2 q = (u, v) := fun q u v e => by
    unfold nat2
    rw [e]
    rfl
  refine ⟨rfl, fun u v => ?_, ?_⟩
  · constructor
    · intro h
      obtain ⟨q, hq, e⟩ := List.mem_map.mp h
      obtain ⟨x, y, e2, hb⟩ := pairs q hq
      rw [n2 q x y e2] at e
      cases e
      exact hb
    · intro h
      obtain ⟨q, hq, e⟩ := List.mem_map.mp ((hm [(u : Int), (v : Int)]).mpr ⟨u, v, rfl, h⟩)
      exact List.mem_map.mpr ⟨q, hq, n2 q u v e⟩
  · refine List.pairwise_map.mpr ?_
    have nd2 : L.Pairwise fun q r => q.2 ≠ r.2 := List.pairwise_map.mp nd
    refine List.Pairwise.imp_of_mem ?_ (pw.and nd2)
    rintro q r hq hr ⟨h1, h2⟩
    obtain ⟨x, y, e1, b1⟩ := pairs q hq
    obtain ⟨x', y', e2, b2⟩ := pairs r hr
    rw [n2 q x y e1, n2 r x' y' e2]
    rw [e1, e2] at h1 h2
    have l1 := beside_lt W b1
    have l2 := beside_lt W b2
    have h5 := W.hi
    have := pair_lt h1 h2 (by omega) (by omega) (by omega) (by omega)
    show x < x' ∨ (x = x' ∧ y < y')
    omega
section
variable {P : Program} {w : World} {K : PySem.W.Frag} {mg : Str → Option Value} {base : Heap}
def spBo : Sp := fun vs H Q _ => ∃ (g : Graph) (a : Addr), vs = [.ref a] ∧ Arr H a (castP g.arrows) ∧ g.arrows.length ≤ 30 ∧ Wf g ∧ ∀ H' p h, Same H H' → Both g h → Arr H' p (castP h.arrows) → h.arrows.length ≤ 64 → Q (.ref p) H'
abbrev nBo : List Str := ["arrows", "source", "target"]
theorem scBo : FnScope nBo ["arrows"] (defScope sBo) := ⟨rfl, rfl, rfl, by decide +kernel, rfl, by decide +kernel, by decide +kernel⟩
def swp (p : Nat × Nat) : Nat × Nat := (p.2, p.1)
theorem ok_bo {f : Addr} {fd : FuncData} {k : Nat} (F : Fun K "both_ways" "both_ways" sBo f fd) (ms : mg "sorted" = none) (mt : mg "set" = none) : FnOk P w K mg base CX0 (k + 1) f fd ["arrows"] spBo := by
  refine F.ok scBo (fun vs H Q E h => ?_) (fun cdv A outer s H vs Q E hr h => ?_)
  · obtain ⟨g, a, rfl, _⟩ := h
    rfl
  · obtain ⟨g, a, rfl, ar, hal, W, q⟩ := h
    obtain ⟨xs, hx, hxl, hit⟩ := ar.item
    have hxg : xs.length = g.arrows.length := by rw [hxl]; exact List.length_map _
    refine ⟨_, pss_one (ps_ret (pe_callB (cr_sortedT rfl) (by rfl) ms (by decide +kernel) (pa_cons (pe_callTy (cr_setOfT rfl hr.units) (by rfl) mt (by decide +kernel) (pa_cons (pe_op op_cat (pv 0)
      (pe_lc (own := [("source", 1), ("target", 2)]) (g := gTup K 2 (gCons (gName 1) (gCons (gName 2) gNil))) (by rfl) scBo.nd
        (pi_list (pv 0))
        (blkOk_by (own := [("source", 1), ("target", 2)]) (N := nBo) (sc := defScope sBo) (by decide +kernel))
        (fun _ _ _ _ _ => pg_tup rfl (pgs_cons (pg_name (i := 1) scBo.nd rfl (.inl rfl)) (pgs_cons (pg_name (i := 2) scBo.nd rfl (.inl rfl)) pgs_nil)))
        (fun _ _ _ _ _ => pts_nil)
        (fun _ _ _ _ _ => pe_tup (pa_cons (pv 2) (pa_cons (pv 1) pa_nil))))) pa_nil)) pa_nil))), ?_⟩
    refine ⟨.ref a, rfl, .ref a, rfl, a, rfl, ⟨_, SqL.of hx⟩, fun D nD => ?_⟩
    refine lc_list (K := K) (a := a) (xs := xs) (fun j H4 => Same H H4 ∧ Arr H4 D (castP ((g.arrows.take j).map swp)))
      ⟨same_new (Same.refl H) nD, Arr.nil upd_same⟩ (fun j H4 _ z => SqL.of (z.1 _ _ hx)) ?_ ?_
    · rintro j x H4 hj ⟨s4, hD⟩
      obtain ⟨t, pp, rfl, epp, htt⟩ := hit j x hj
      obtain ⟨⟨y, z⟩, eq, rfl⟩ := castP_at epp
      have hjl : j < g.arrows.length := (List.getElem?_eq_some_iff.mp eq).1
      refine ⟨t, _, rfl, SqT.of (s4 _ _ htt), rfl, _, _, rfl, _, _, rfl, rfl, rfl, ?_⟩
      dsimp only [tYes]
      rw [if_pos rfl]
      refine ⟨.int z, rfl, .int y, rfl, by show 2 ≤ sizeLine; decide, fun t2 nt2 => ?_⟩
      have s5 : Same H4 (upd H4 t2 (.tup [.int z, .int y])) := same_new (Same.refl H4) nt2
      obtain ⟨acc, e1, e2, e3⟩ := (hD.same s5).push (t := t2) (p := ((z : Int), (y : Int))) upd_same
      refine ⟨acc, e1, ?_, same_new (s4.trans s5) nD, ?_⟩
      · rw [e2, castP_len, List.length_map, List.length_take]
        exact small (by omega)
      · rw [take_next eq, List.map_append]
        unfold castP at e3 ⊢
        rw [List.map_append]
        exact e3
    · rintro H4 ⟨s4, hD⟩
      rw [hxg, List.take_length] at hD
      obtain ⟨k1, ha1, hm1, ht1⟩ := (ar.same s4).keys
      obtain ⟨k2, ha2, hm2, ht2⟩ := hD.keys
      have l1 : k1.length = g.arrows.length := by
        have := congrArg List.length hm1
        rw [List.length_map, castP_len] at this
        exact this
      have l2 : k2.length = g.arrows.length := by
        have := congrArg List.length hm2
        rw [List.length_map, castP_len, List.length_map] at this
        exact this
      -- arrows + [..]
      refine ⟨a, D, _, _, rfl, rfl, ha1, ha2, ?_, fun z nz => ?_⟩
      · rw [List.length_map, List.length_map, l1, l2]
        exact Nat.le_of_lt (small (by omega))
      have s5 := same_new (o := .lst ((k1.map fun k => V.ref k.1) ++ k2.map fun k => V.ref k.1)) (Same.refl H4) nz
      have htt : ∀ k ∈ k1 ++ k2, H4 k.1 = some (.tup [.int k.2.1, .int k.2.2]) := fun k hk => by
        rcases List.mem_append.mp hk with h | h
        · exact ht1 k h
        · exact ht2 k h
      have hks : ∀ {H' : Hp}, Same H4 H' → ∀ p ∈ (k1 ++ k2).map key, SqT K H' p.1 (p.2.map V.int) := fun sm p hp => by
        obtain ⟨k, hk, rfl⟩ := List.mem_map.mp hp
        exact SqT.of (sm _ _ (htt k hk))
      have kin : ∀ x : List Int, x ∈ ((k1 ++ k2).map key).map (·.2) ↔ ∃ u v : Nat, x = [(u : Int), (v : Int)] ∧ beside g u v = true := fun x => by
        have e1 : ((k1 ++ k2).map key).map (·.2) = (castP g.arrows ++ castP (g.arrows.map swp)).map fun p => [p.1, p.2] := by
          rw [← hm1, ← hm2, ← List.map_append, List.map_map, List.map_map]
          rfl
        rw [e1, List.mem_map]
        unfold castP
        constructor
        · rintro ⟨p, hp, rfl⟩
          rcases List.mem_append.mp hp with h | h
          · obtain ⟨⟨u, v⟩, hh, rfl⟩ := List.mem_map.mp h
            exact ⟨u, v, rfl, beside_iff.mpr (.inl hh)⟩
          · obtain ⟨r, hh, rfl⟩ := List.mem_map.mp h
            obtain ⟨⟨u, v⟩, hh2, rfl⟩ := List.mem_map.mp hh
            exact ⟨v, u, rfl, beside_iff.mpr (.inr hh2)⟩
        · rintro ⟨u, v, rfl, hb⟩
          refine ⟨((u : Int), (v : Int)), List.mem_append.mpr ?_, rfl⟩
          rcases beside_iff.mp hb with h | h
          · exact .inl (List.mem_map.mpr ⟨(u, v), h, rfl⟩)
          · exact .inr (List.mem_map.mpr ⟨(u, v), List.mem_map.mpr ⟨(v, u), h, rfl⟩, rfl⟩)
      -- set(..)
      refine ⟨z, (k1 ++ k2).map key, rfl, SqL.of ?_, hks s5, ?_, fun S L nS hsub hall => ?_⟩
      · rw [upd_same, List.map_map, List.map_append]
        rfl
      · rw [List.length_map, List.length_append, l1, l2]
        omega
      have s6 := same_new (o := SetTO P w S L) s5 (s5.free nS)
      have Lin : ∀ x : List Int, x ∈ L.map (·.2) ↔ ∃ u v : Nat, x = [(u : Int), (v : Int)] ∧ beside g u v = true := fun x => by
        rw [← kin x]
        constructor
        · intro h
          obtain ⟨p, hp, rfl⟩ := List.mem_map.mp h
          exact List.mem_map.mpr ⟨p, hsub p hp, rfl⟩
        · intro h
          obtain ⟨p, hp, rfl⟩ := List.mem_map.mp h
          exact hall p hp
      -- sorted(..)
      refine ⟨S, L, 2, 64, rfl, upd_same, fun p hp => hks s6 p (hsub p hp), by decide, fun p hp => ?_, fun L' y pm nd lt pw ny => ?_⟩
      · obtain ⟨u, v, e, hb⟩ := (Lin p.2).mp (List.mem_map.mpr ⟨p, hp, rfl⟩)
        have hb2 := beside_lt W hb
        have h5 := W.hi
        rw [e]
        refine ⟨rfl, fun m hm => ?_⟩
        rcases List.mem_cons.mp hm with e | hm
        · omega
        · have := List.mem_singleton.mp hm
          omega
      have s7 := same_new (o := .lst (L'.map fun q => V.ref q.1)) s6 (s6.free ny)
      have B : Both g ⟨g.n, L'.map nat2⟩ := both_mk W (fun x => (pm.map (·.2)).mem_iff.trans (Lin x)) nd pw
      refine q _ y ⟨g.n, L'.map nat2⟩ (s4.trans s7) B (arr_of upd_same fun p hp => ?_) ?_
      · have hp2 := hsub p (pm.mem_iff.mp hp)
        obtain ⟨u, v, e, hb⟩ := (Lin p.2).mp (List.mem_map.mpr ⟨p, pm.mem_iff.mp hp, rfl⟩)
        obtain ⟨k, hk, rfl⟩ := List.mem_map.mp hp2
        refine ⟨u, v, e, ?_⟩
        have e2 : [k.2.1, k.2.2] = [(u : Int), (v : Int)] := e
        have e3 := (List.cons.inj e2).1
        have e4 := (List.cons.inj (List.cons.inj e2).2).1
        rw [← e3, ← e4]
        exact s7 _ _ (htt k hk)
      · show (L'.map nat2).length ≤ 64
        rw [List.length_map]
        omega
end
end Tow
namespace Tow
open PySem PySem.Spec PyProof.Rows L2
open PySem.W (Codec)
open Ks547 (Graph has)
section
variable {P : Program} {w : World} {K : PySem.W.Frag} {mg : Str → Option Value} {base : Heap}
/-! ### starts_by_length -/
/-- at p the rows of 0 to k -/
def RowsE (H : Hp) (p : Addr) (g : Graph) (e : Nat → Bool) (k : Nat) : Prop := ∃ rs : List Addr, H p = some (.lst (rs.map V.ref)) ∧ rs.length = k ∧ p ∉ rs ∧
  ∀ (i : Nat) (r : Addr), rs[i]? = some r → H r = some (.lst (((List.range g.n).map (canEnd g e i)).map V.bl))
theorem RowsE.same {H H' : Hp} {p : Addr} {g : Graph} {e : Nat → Bool} {k : Nat} (R : RowsE H p g e k) (s : Same H H') : RowsE H' p g e k := by
  obtain ⟨rs, h1, h2, h3, h4⟩ := R
  exact ⟨rs, s _ _ h1, h2, h3, fun i r hr => s _ _ (h4 i r hr)⟩
theorem RowsE.row {H : Hp} {p : Addr} {g : Graph} {e : Nat → Bool} {k : Nat} (R : RowsE H p g e k) : ∃ l : List V, H p = some (.lst l) ∧ ∀ j, j < k → ∃ r, l[j]? = some (.ref r) ∧ H r = some (.lst (((List.range g.n).map (canEnd g e j)).map V.bl)) := by
  obtain ⟨rs, h1, h2, h3, h4⟩ := R
  refine ⟨_, h1, fun j hj => ?_⟩
  have hl : j < rs.length := by omega
  exact ⟨rs[j], by rw [List.getElem?_map, List.getElem?_eq_getElem hl]; rfl, h4 j _ (List.getElem?_eq_getElem hl)⟩
theorem ends_all (n : Nat) : List.replicate n (V.bl true) = ((List.range n).map fun _ => true).map V.bl := by
  refine List.ext_getElem (by simp) fun i h1 h2 => ?_
  simp
def spSta (K : PySem.W.Frag) : Sp := fun vs H Q _ => ∃ (g : Graph) (e : Nat → Bool) (k : Nat) (b a : Addr), vs = [.int k, .ref b, .ref a] ∧ SqL K H b (((List.range g.n).map e).map V.bl) ∧ Arr H a (castP g.arrows) ∧ Wf g ∧ k ≤ 12 ∧ ∀ H' p, Same H H' → H p = none → RowsE H' p g e (k + 1) → Q (.ref p) H'
theorem scSta : FnScope ["k", "ends", "arrows", "rows", "length", "shorter", "row", "source", "target"] ["k", "ends", "arrows"] (defScope sSta) := ⟨rfl, rfl, rfl, by decide +kernel, rfl, by decide +kernel, by decide +kernel⟩
theorem ok_sta {f : Addr} {fd : FuncData} {k : Nat} (F : Fun K "starts_by_length" "starts_by_length" sSta f fd) (mr : mg "range" = none) (ml : mg "len" = none) (mL : mg "list" = none) : FnOk P w K mg base CX0 (k + 1) f fd ["k", "ends", "arrows"] (spSta K) := by
  refine F.ok scSta (fun vs H Q E h => ?_) (fun cdv A outer s H vs Q E hr h => ?_)
  · obtain ⟨g, e, k, b, a, rfl, _⟩ := h
    rfl
  · obtain ⟨g, e, k, b, a, rfl, hS, ar, W, hk, q⟩ := h
    have hn5 : g.n ≤ 5 := W.hi
    have hlenE : ((((List.range g.n).map e).map V.bl).length : Int) = g.n := by simp
    refine ⟨_, pss_cons (ps_set (i := 3) scSta.nd rfl (.inl rfl) (pe_lst (pa_cons (pe_callTy call_list_of (by rfl) mL (by decide +kernel) (pa_cons (pv 1) pa_nil)) pa_nil)))
      (pss_cons (ps_for PassesOwn.never rfl (pi_range1 (by rfl) mr (pa_cons (pv 0) pa_nil)) (pg_name (i := 4) scSta.nd rfl (.inl rfl))
        (pss_cons (ps_set (i := 5) scSta.nd rfl (.inl rfl) (pe_ix ix_list (pv 3) (pv 4) (fun _ _ => rfl)))
        (pss_cons (ps_set (i := 6) scSta.nd rfl (.inl rfl) (pe_op op_rep (pe_lst (pa_cons pe_bl pa_nil)) (pe_callB call_len_seq (by rfl) ml PySem.boot_len (pa_cons (pv 1) pa_nil))))
        (pss_cons (ps_for PassesOwn.never rfl (pi_list (pv 2)) (pg_tup rfl (pgs_cons (pg_name (i := 7) scSta.nd rfl (.inl rfl)) (pgs_cons (pg_name (i := 8) scSta.nd rfl (.inl rfl)) pgs_nil)))
          (pss_one (ps_if (pt_val (pe_ix ix_list (pv 5) (pv 8) (fun _ _ => rfl))) (pss_one (ps_asg pe_bl (pg_sub (pv 6) (pv 7) set_list))) pss_nil)))
        (pss_one (ps_expr (pe_bm PySem.F.plainAttrs_list PySem.F.slot_list_append PySem.F.type_list_append mt_append (pv 3) (pa_cons (pv 6) pa_nil))))))))
      (pss_one (ps_ret (pv 3)))), ?_⟩
    -- rows = [list(ends)]
    refine ⟨.ref b, rfl, b, _, rfl, .inl hS, fun r0 nr0 => ⟨by show 1 ≤ sizeLine; decide, fun p np => ?_⟩⟩
    · have s1 : Same H (upd H r0 (.lst (((List.range g.n).map e).map V.bl))) := same_new (Same.refl H) nr0
      have npH : H p = none := s1.free np
      have s3 := same_new (o := .lst [.ref r0]) s1 npH
      refine ⟨.int k, rfl, (k : Int), rfl, by omega, by omega, ?_⟩
      refine for_range (lo := 0) (n := ((k : Int)).toNat) (fun l σ H' => ∃ v4 v5 v6 v7 v8 : Option V, σ = [some (.int k), some (.ref b), some (.ref a), some (.ref p), v4, v5, v6, v7, v8] ∧ Same H H' ∧ RowsE H' p g e (l + 1))
        ⟨none, none, none, none, none, rfl, s3, [r0], upd_same, rfl, ?_, fun i r hr => ?_⟩ ?_ ?_
      · intro z
        have e : p = r0 := by simpa using z
        rw [e, upd_same] at np
        cases np
      · have nrp : r0 ≠ p := fun e => by
          rw [e.symm, upd_same] at np
          cases np
        cases i with
        | succ i => simp at hr
        | zero =>
          have e : r0 = r := Option.some.inj hr
          subst e
          rw [upd_ne nrp, upd_same]
          rfl
      · rintro l σ H' hl ⟨v4, v5, v6, v7, v8, rfl, sm, rs, hp, hrl, hpn, hrs⟩
        have hl' : l < rs.length := by omega
        have hgl := hrs l _ (List.getElem?_eq_getElem hl')
        -- shorter = rows[length]
        refine ⟨.ref p, rfl, _, rfl, p, _, _, .ref rs[l], rfl, rfl, SqL.of hp, at_of (j := l) (by omega) (by rw [List.getElem?_map, List.getElem?_eq_getElem hl']; rfl), ?_⟩
        -- row = [False] * len(ends)
        refine ⟨by show 1 ≤ sizeLine; decide, fun t1 nt1 => ?_⟩
        have z1 : Same H' (upd H' t1 (.lst [.bl false])) := same_new (Same.refl H') nt1
        refine ⟨.ref b, rfl, b, _, rfl, .inl ((sm.trans z1).seq hS), t1, (g.n : Int), _, rfl, by rw [hlenE], upd_same, by omega, by omega, ?_, fun r nr => ?_⟩
        · show 1 * ((g.n : Int)).toNat ≤ sizeLine
          exact Nat.le_of_lt (small (by omega))
        · have nrH : H' r = none := z1.free nr
          have z2 := same_new (o := .lst (List.replicate ((g.n : Int)).toNat [V.bl false]).flatten) z1 nrH
          obtain ⟨xs, hx, hxl, hit⟩ := (ar.same sm).item
          have hrp : r ≠ p := fun e => by
            rw [e, hp] at nrH
            cases nrH
          have hrn : r ∉ rs := fun e => by
            obtain ⟨j, hj, ej⟩ := List.getElem_of_mem e
            have := hrs j r (by rw [List.getElem?_eq_getElem hj, ej])
            rw [this] at nrH
            cases nrH
          refine ⟨.ref a, rfl, a, rfl, ⟨_, SqL.of (z2 _ _ hx)⟩, for_list (K := K) (a := a) (xs := xs) (fun i σ H2 => ∃ v7 v8 : Option V, σ = [some (.int k), some (.ref b), some (.ref a), some (.ref p), some (.int (0 + l)), some (.ref rs[l]), some (.ref r), v7, v8] ∧ Same H' H2 ∧
              H2 r = some (.lst (((List.range g.n).map (stp (canEnd g e l) (g.arrows.take i))).map V.bl)))
            ⟨v7, v8, rfl, z2, ?_⟩ (fun i σ H2 _ ⟨_, _, _, s5, _⟩ => SqL.of (s5 _ _ hx)) ?_ ?_⟩
          · rw [upd_same, rep_one, List.take_zero, ← row_start, List.map_replicate]
            rfl
          · rintro i x σ H2 hi ⟨w7, w8, rfl, s5, hr2⟩
            obtain ⟨t, pp, rfl, epp, htt⟩ := hit i x hi
            obtain ⟨⟨u, v⟩, eq, rfl⟩ := castP_at epp
            have hin := W.inn (u, v) (List.mem_of_getElem? eq)
            have hu : u < g.n := hin.1
            have hv : v < g.n := hin.2
            refine ⟨t, _, rfl, SqT.of (s5 _ _ htt), rfl, _, _, rfl, _, _, rfl, rfl, ?_⟩
            refine ⟨.ref rs[l], rfl, .int v, rfl, rs[l], _, _, _, rfl, rfl, SqL.of (s5 _ _ hgl), at_of (j := v) rfl (bool_at _ hv), _, rfl, ?_⟩
            cases hc : canEnd g e l v with
            | true =>
              refine iteT ?_
              refine ⟨.ref r, rfl, .int u, rfl, r, _, u, u, rfl, rfl, hr2, ?_, some (.int u), some (.int v), rfl, same_new s5 nrH, ?_⟩
              · rw [List.length_map, List.length_map, List.length_range]
                exact ixN_nat hu
              · rw [upd_same, take_next eq, ← row_turn (canEnd g e l) (p := (u, v)) hc, List.map_set]
            | false =>
              refine iteF ?_
              refine ⟨some (.int u), some (.int v), rfl, s5, ?_⟩
              rw [take_next eq, ← row_skip (canEnd g e l) (p := (u, v)) hc]
              exact hr2
          · rintro σ H2 ⟨w7, w8, rfl, s5, hr2⟩
            have hxg : xs.length = g.arrows.length := by rw [hxl]; exact List.length_map _
            rw [hxg, List.take_length, rowE_end] at hr2
            -- rows.append(row)
            refine ⟨.ref p, rfl, .inl ⟨rfl, _, SqL.of (s5 _ _ hp)⟩, .ref r, rfl, p, _, _, rfl, rfl, s5 _ _ hp, ?_, ?_⟩
            · rw [List.length_map]
              exact small (by omega)
            · refine ⟨_, _, _, _, _, rfl, same_new (sm.trans s5) npH, rs ++ [r], ?_, by simp [hrl], ?_, fun i r' hr' => ?_⟩
              · rw [upd_same, List.map_append]
                rfl
              · rw [List.mem_append]
                rintro (z | z)
                · exact hpn z
                · exact hrp (List.mem_singleton.mp z).symm
              · have hr'p : r' ≠ p := fun e => by
                  have m := List.mem_of_getElem? hr'
                  rw [e, List.mem_append] at m
                  rcases m with z | z
                  · exact hpn z
                  · exact hrp (List.mem_singleton.mp z).symm
                rw [upd_ne hr'p]
                rcases Nat.lt_or_ge i rs.length with c | c
                · rw [List.getElem?_append_left c] at hr'
                  exact s5 _ _ (hrs i r' hr')
                · rw [List.getElem?_append_right c] at hr'
                  have hi0 : i - rs.length = 0 := by
                    rcases Nat.eq_zero_or_pos (i - rs.length) with z | z
                    · exact z
                    · rw [List.getElem?_eq_none (by simp; omega)] at hr'; cases hr'
                  rw [hi0] at hr'
                  have er : r = r' := Option.some.inj hr'
                  have ei : i = l + 1 := by omega
                  subst er ei
                  exact hr2
      · rintro σ H' ⟨v4, v5, v6, v7, v8, rfl, sm, R⟩
        have e : ((k : Int)).toNat = k := by omega
        rw [e] at R
        exact ⟨.ref p, rfl, q H' p sm npH R⟩
end
end Tow
namespace Tow
open PySem PySem.Spec PyProof.Rows L2
open PySem.W (Codec)
open Ks547 (Graph has)
abbrev sFwf : Stmt := topS 10
section
variable {P : Program} {w : World} {K : PySem.W.Frag} {mg : Str → Option Value} {base : Heap}
/-! ### first_walk_from -/
def spFwf : Sp := fun vs H Q _ => ∃ (g : Graph) (e : Nat → Bool) (k u0 : Nat) (p a : Addr), vs = [.int u0, .int k, .ref p, .ref a] ∧ RowsE H p g e (k + 1) ∧ Arr H a (castP g.arrows) ∧ g.arrows.length ≤ 100 ∧ Wf g ∧ g.arrows.Pairwise nlt ∧ k ≤ 12 ∧ u0 < g.n ∧ canEnd g e k u0 = true ∧
  ∀ H' z, Same H H' → H z = none → H' z = some (.lst (natV (owEnd g e k u0))) → Q (.ref z) H'
abbrev nFwf : List Str := ["start", "k", "rows", "arrows", "places", "left", "here", "choices", "source", "target"]
theorem scFwf : FnScope nFwf ["start", "k", "rows", "arrows"] (defScope sFwf) := ⟨rfl, rfl, rfl, by decide +kernel, rfl, by decide +kernel, by decide +kernel⟩
theorem ok_fwf {f : Addr} {fd : FuncData} {k : Nat} (F : Fun K "first_walk_from" "first_walk_from" sFwf f fd) (mr : mg "range" = none) : FnOk P w K mg base CX0 (k + 1) f fd ["start", "k", "rows", "arrows"] spFwf := by
  refine F.ok scFwf (fun vs H Q E h => ?_) (fun cdv A outer s H vs Q E hr h => ?_)
  · obtain ⟨g, e, k, u0, p, a, rfl, _⟩ := h
    rfl
  · obtain ⟨g, e, k, u0, p, a, rfl, RR, ar, hal, W, R, hk, hu0, hc0, q⟩ := h
    have hn5 : g.n ≤ 5 := W.hi
    obtain ⟨rl0, hp, row⟩ := RR.row
    refine ⟨_, pss_cons (ps_set (i := 4) scFwf.nd rfl (.inl rfl) (pe_lst (pa_cons (pv 0) pa_nil)))
      (pss_cons (ps_for PassesOwn.never rfl (pi_range3 rfl mr (pa_cons (pe_op op_sub (pv 1) pe_int) (pa_cons (pe_un un_neg pe_int) (pa_cons (pe_un un_neg pe_int) pa_nil)))) (pg_name (i := 5) scFwf.nd rfl (Or.inr rfl))
        (pss_cons (ps_set (i := 6) scFwf.nd rfl (.inr rfl) (pe_ix ix_list (pv 4) (pe_un un_neg pe_int) (fun _ _ => rfl)))
        (pss_cons (ps_setLc (i := 7) (own := [("source", 8), ("target", 9)]) (g := gTup K 2 (gCons (gName 8) (gCons (gName 9) gNil))) (by rfl) scFwf.nd rfl rfl (sw_true rfl rfl rfl (by decide +kernel))
          (pi_list (pv 3))
          (blkOk_by (own := [("source", 8), ("target", 9)]) (N := nFwf) (sc := defScope sFwf) (by decide +kernel))
          (fun _ _ _ _ _ => pg_tup rfl (pgs_cons (pg_name (i := 8) scFwf.nd rfl (.inl rfl)) (pgs_cons (pg_name (i := 9) scFwf.nd rfl (.inl rfl)) pgs_nil)))
          (fun _ _ _ _ _ => pts_one (PW.pt (pw_and (pt_cmpR op_eq (pv 8) (pv 6) (nomark _)) (pw_and1 (pt_val (pe_ix (r := rIxL K) ix_list (pe_ix (r := rIxL K) ix_list (pv 2) (pv 5) (fun _ _ => rfl)) (pv 9) (fun _ _ => rfl)))))))
          (fun _ _ _ _ _ => pv 9))
        (pss_one (ps_expr (pe_bm PySem.F.plainAttrs_list PySem.F.slot_list_append PySem.F.type_list_append mt_append (pv 4) (pa_cons (pe_ix ix_list (pv 7) pe_int (fun _ _ => rfl)) pa_nil)))))))
      (pss_one (ps_ret (pv 4)))), ?_⟩
    -- places = [start]
    refine ⟨.int u0, rfl, by show 1 ≤ sizeLine; decide, fun pl npl => ?_⟩
    -- the loop
    refine ⟨.int k, rfl, (k : Int), 1, rfl, rfl, 1, rfl, 1, rfl, (k : Int) - 1, -1, -1, _, rfl, RgC.neg (by omega) (by omega) (by decide) (by decide), ?_⟩
    refine for_rangeC (lo := (k : Int) - 1) (c := -1) (n := ((k : Int) - 1 - -1).toNat) (fun i σ H3 => ∃ (v5 v6 v7 v8 v9 : Option V) (done : List Nat) (u : Nat), σ = [some (.int u0), some (.int k), some (.ref p), some (.ref a), some (.ref pl), v5, v6, v7, v8, v9] ∧
        Same H H3 ∧ H3 pl = some (.lst (natV (done ++ [u]))) ∧ i ≤ k ∧ u < g.n ∧ canEnd g e (k - i) u = true ∧ done.length = i ∧ owEnd g e k u0 = done ++ owEnd g e (k - i) u)
      ⟨none, none, none, none, none, [], u0, rfl, same_new (Same.refl H) npl, upd_same, Nat.zero_le _, hu0, hc0, rfl, rfl⟩ ?_ ?_
    · rintro i σ H3 hi ⟨v5, v6, v7, v8, v9, done, u, rfl, s3, hpl, hik, hu, hcw, hdl, hon⟩
      have hik' : i < k := by omega
      have ek : k - i = (k - 1 - i) + 1 := by omega
      rw [ek] at hcw hon
      obtain ⟨v, hv, hcv, hhd, hstep⟩ := end_step W R hcw
      obtain ⟨rl, erl, hrl2⟩ := row (k - 1 - i) (by omega)
      obtain ⟨xs, hx, hxl, hit⟩ := ar.item
      have hxg : xs.length = g.arrows.length := by rw [hxl]; exact List.length_map _
      -- here = places[-1]
      have hlast : atI (natV (done ++ [u])) (-1) = some (.int u) := by
        rw [← natV_app]
        exact atI_last _ _
      refine ⟨.ref pl, rfl, 1, rfl, pl, _, -1, _, rfl, rfl, SqL.of hpl, hlast, ?_⟩
      -- choices
      refine ⟨.ref a, rfl, a, rfl, ⟨_, SqL.of (s3 _ _ hx)⟩, fun D2 nD2 => ?_⟩
      refine lc_list (K := K) (a := a) (xs := xs) (fun j H4 => Same H3 H4 ∧ H4 D2 = some (.lst (natV (((g.arrows.take j).filter fun p => p.1 == u && canEnd g e (k - 1 - i) p.2).map (·.2)))))
        ⟨same_new (Same.refl H3) nD2, upd_same⟩ (fun j H4 _ z => SqL.of (z.1 _ _ (s3 _ _ hx))) ?_ ?_
      · rintro j x H4 hj ⟨s4, hD2⟩
        obtain ⟨t, pp, rfl, epp, htt⟩ := hit j x hj
        obtain ⟨⟨y, z⟩, eq, rfl⟩ := castP_at epp
        have hin := W.inn (y, z) (List.mem_of_getElem? eq)
        have hz : z < g.n := hin.2
        have hjl : j < g.arrows.length := (List.getElem?_eq_some_iff.mp eq).1
        refine ⟨t, _, rfl, SqT.of (s4 _ _ (s3 _ _ htt)), rfl, _, _, rfl, _, _, rfl, rfl, rfl, ?_⟩
        refine ⟨.int y, rfl, .int u, rfl, rfl, _, rfl, ite2 (fun c => ?_) (fun c => ?_)⟩
        · have ey : y = u := by
            have := V.int.inj (of_decide_eq_true c)
            omega
          refine ⟨.ref p, rfl, _, rfl, p, _, _, .ref rl, rfl, rfl, SqL.of (s4 _ _ (s3 _ _ hp)), at_of (j := k - 1 - i) (by omega) erl, .int z, rfl, rl, _, _, _, rfl, rfl, SqL.of (s4 _ _ (s3 _ _ hrl2)), at_of (j := z) rfl (bool_at _ hz), _, rfl, ?_⟩
          cases hc : canEnd g e (k - 1 - i) z with
          | true =>
            rw [if_pos rfl]
            refine ⟨.int z, rfl, _, hD2, ?_, same_new s4 nD2, ?_⟩
            · rw [natV_len, List.length_map]
              refine small (Nat.le_trans (List.length_filter_le _ _) ?_)
              rw [List.length_take]
              omega
            · rw [upd_same, natV_app, take_next eq, List.filter_append, List.map_append]
              have ef : [(y, z)].filter (fun p => p.1 == u && canEnd g e (k - 1 - i) p.2) = [(y, z)] := by simp [ey, hc]
              rw [ef]
              rfl
          | false =>
            rw [if_neg Bool.false_ne_true]
            refine ⟨s4, ?_⟩
            have ef : [(y, z)].filter (fun p => p.1 == u && canEnd g e (k - 1 - i) p.2) = [] := by simp [hc]
            rw [take_next eq, List.filter_append, ef, List.append_nil]
            exact hD2
        · dsimp only
          rw [if_neg Bool.false_ne_true]
          refine ⟨s4, ?_⟩
          have ny : y ≠ u := fun e => c (decide_eq_true (by rw [e]))
          have ef : [(y, z)].filter (fun p => p.1 == u && canEnd g e (k - 1 - i) p.2) = [] := by simp [ny]
          rw [take_next eq, List.filter_append, ef, List.append_nil]
          exact hD2
      · rintro H4 ⟨s4, hD2⟩
        rw [hxg, List.take_length] at hD2
        obtain ⟨tl, etl⟩ : ∃ tl, (g.arrows.filter fun p => p.1 == u && canEnd g e (k - 1 - i) p.2).map (·.2) = v :: tl := by
          cases hz : (g.arrows.filter fun p => p.1 == u && canEnd g e (k - 1 - i) p.2).map (·.2) with
          | nil => rw [hz] at hhd; cases hhd
          | cons b tl => rw [hz] at hhd; cases hhd; exact ⟨tl, rfl⟩
        rw [etl] at hD2
        -- places.append(choices[0])
        refine ⟨.ref pl, rfl, .inl ⟨rfl, _, SqL.of (s4 _ _ hpl)⟩, .ref D2, rfl, D2, _, 0, .int v, rfl, rfl, SqL.of hD2, atI_nat (j := 0) rfl, pl, _, _, rfl, rfl, s4 _ _ hpl, ?_, ?_⟩
        · rw [natV_len, List.length_append, hdl]
          exact small (by show i + 1 ≤ 1000; omega)
        · refine ⟨_, _, _, _, _, done ++ [u], v, rfl, same_new (s3.trans s4) npl, ?_, hik', hv, ?_, by simp [hdl], ?_⟩
          · rw [upd_same, natV_app]
          · rw [show k - (i + 1) = k - 1 - i by omega]
            exact hcv
          · rw [hon, hstep, show k - (i + 1) = k - 1 - i by omega, List.append_assoc]
            rfl
    · rintro σ H3 ⟨v5, v6, v7, v8, v9, done, u, rfl, s3, hpl, hik, hu, hcw, hdl, hon⟩
      have ei : ((k : Int) - 1 - -1).toNat = k := by omega
      rw [ei, Nat.sub_self] at hon
      refine ⟨.ref pl, rfl, q H3 pl s3 npl ?_⟩
      rw [hon]
      exact hpl
end
end Tow
namespace Tow
open PySem PySem.Spec PyProof.Rows L2
open PySem.W (Codec)
open Ks547 (Graph has)
abbrev sFc : Stmt := topS 9
section
variable {P : Program} {w : World} {K : PySem.W.Frag} {mg : Str → Option Value} {base : Heap}
/-! ### first_closed_walk -/
def spFc : Sp := fun vs H Q _ => ∃ (g : Graph) (k : Nat) (a : Addr), vs = [.int g.n, .int k, .ref a] ∧ Arr H a (castP g.arrows) ∧ g.arrows.length ≤ 100 ∧ Wf g ∧ g.arrows.Pairwise nlt ∧ k ≤ 12 ∧
  ∀ H' p, Same H H' → H' p = some (.lst (natV ((closed g k).getD []))) → Q (.ref p) H'
abbrev nFc : List Str := ["n", "k", "arrows", "place", "rows", "other"]
theorem scFc : FnScope nFc ["n", "k", "arrows"] (defScope sFc) := ⟨rfl, rfl, rfl, by decide +kernel, rfl, by decide +kernel, by decide +kernel⟩
theorem ok_fc {f fS fO : Addr} {fd fdS fdO : FuncData} {k : Nat} (F : Fun K "first_closed_walk" "first_closed_walk" sFc f fd) (FS : Fun K "starts_by_length" "starts_by_length" sSta fS fdS) (bS : Binds K fdS ["k", "ends", "arrows"] []) (gS : mg "starts_by_length" = some (.ref fS))
    (FO : Fun K "first_walk_from" "first_walk_from" sFwf fO fdO) (bO : Binds K fdO ["start", "k", "rows", "arrows"] []) (gO : mg "first_walk_from" = some (.ref fO))
    (mr : mg "range" = none) (ml : mg "len" = none) (mL : mg "list" = none) : FnOk P w K mg base CX0 (k + 2) f fd ["n", "k", "arrows"] spFc := by
  have GS : FnOk P w K mg base CX0 (k + 1) fS fdS ["k", "ends", "arrows"] (spSta K) := ok_sta FS mr ml mL
  have GO : FnOk P w K mg base CX0 (k + 1) fO fdO ["start", "k", "rows", "arrows"] spFwf := ok_fwf FO mr
  refine F.ok scFc (fun vs H Q E h => ?_) (fun cdv A outer s H vs Q E hr h => ?_)
  · obtain ⟨g, k, a, rfl, _⟩ := h
    rfl
  · obtain ⟨g, k, a, rfl, ar, hal, W, R, hk, q⟩ := h
    have hn5 : g.n ≤ 5 := W.hi
    refine ⟨_, pss_cons (ps_for PassesOwn.never rfl (pi_range1 (by rfl) mr (pa_cons (pv 0) pa_nil)) (pg_name (i := 3) scFc.nd rfl (.inr rfl))
        (pss_cons (ps_set (i := 4) scFc.nd rfl (.inl rfl) (pe_call GS hr (by rfl) gS FS.kp bS .nil pass0 (pa_cons (pv 1) (pa_cons
          (pe_lc (own := [("other", 5)]) (g := gName 5) (by rfl) scFc.nd (pi_range1 (by rfl) mr (pa_cons (pv 0) pa_nil))
            (blkOk_by (own := [("other", 5)]) (N := nFc) (sc := defScope sFc) (by decide +kernel))
            (fun _ _ _ _ _ => pg_name (i := 5) scFc.nd rfl (Or.inl rfl)) (fun _ _ _ _ _ => pts_nil)
            (fun _ _ _ _ _ => pe_cmpR op_eq (pv 5) (pv 3) (nomark _))) (pa_cons (pv 2) pa_nil)))))
        (pss_one (ps_if (pt_val (pe_ix ix_list (pe_ix ix_list (pv 4) (pv 1) (fun _ _ => rfl)) (pv 3) (fun _ _ => rfl)))
          (pss_one (ps_ret (pe_call GO hr (by rfl) gO FO.kp bO .nil pass0 (pa_cons (pv 3) (pa_cons (pv 1) (pa_cons (pv 4) (pa_cons (pv 2) pa_nil))))))) pss_nil))))
      (pss_one (ps_ret (pe_lst pa_nil))), ?_⟩
    refine ⟨.int g.n, rfl, (g.n : Int), rfl, by omega, by omega, ?_⟩
    refine for_range (lo := 0) (n := ((g.n : Int)).toNat) (fun i σ H' => ∃ v3 v4 v5 : Option V, σ = [some (.int g.n), some (.int k), some (.ref a), v3, v4, v5] ∧ Same H H' ∧ ∀ x, x < i → canEnd g (· == x) k x = false)
      ⟨none, none, none, rfl, Same.refl H, fun x hx => absurd hx (Nat.not_lt_zero _)⟩ ?_ ?_
    · rintro i σ H1 hi ⟨v3, v4, v5, rfl, s1, inv⟩
      have hi' : i < g.n := by omega
      -- rows = starts_by_length(k, [other == place for other in range(n)], arrows)
      refine ⟨.int k, rfl, .int g.n, rfl, (g.n : Int), rfl, by omega, by omega, fun D nD => ?_⟩
      refine lc_range (lo := 0) (n := ((g.n : Int)).toNat) (fun j H2 => Same H1 H2 ∧ H2 D = some (.lst (((List.range j).map (· == i)).map V.bl)))
        ⟨same_new (Same.refl H1) nD, upd_same⟩ ?_ ?_
      · rintro j H2 hj ⟨s2, hD⟩
        refine ⟨rfl, ?_⟩
        dsimp only [tYes]
        rw [if_pos rfl]
        refine ⟨.int (0 + j), rfl, .int (0 + i), rfl, rfl, _, hD, ?_, same_new s2 nD, ?_⟩
        · rw [List.length_map, List.length_map, List.length_range]
          exact small (by omega)
        · rw [upd_same, List.range_succ, List.map_append, List.map_append]
          have ed : decide (V.int (0 + (j : Int)) = V.int (0 + (i : Int))) = (j == i) := by
            rw [Bool.eq_iff_iff, decide_eq_true_eq, beq_iff_eq]
            constructor
            · intro h
              have := V.int.inj h
              omega
            · intro h
              rw [h]
          rw [ed]
          rfl
      · rintro H2 ⟨s2, hD⟩
        rw [show ((g.n : Int)).toNat = g.n by omega] at hD
        refine ⟨.ref a, rfl, g, (· == i), k, D, a, rfl, SqL.of hD, ar.same (s1.trans s2), W, hk, fun H3 p s3 np RR => ?_⟩
        have sH3 := (s1.trans s2).trans s3
        obtain ⟨l, hl, row⟩ := RR.row
        obtain ⟨rk, erk, hrk⟩ := row k (by omega)
        refine ⟨.ref p, rfl, .int k, rfl, p, _, _, .ref rk, rfl, rfl, SqL.of hl, at_of (j := k) rfl erk, .int (0 + i), rfl, rk, _, _, _, rfl, rfl, SqL.of hrk, at_of (j := i) (by omega) (bool_at _ hi'), _, rfl, ?_⟩
        cases hc : canEnd g (· == i) k i with
        | true =>
          refine iteT ?_
          refine ⟨.int (0 + i), rfl, .int k, rfl, .ref p, rfl, .ref a, rfl, g, (· == i), k, i, p, a, by rw [show (0 : Int) + i = i by omega]; rfl, RR, ar.same sH3, hal, W, R, hk, hi', hc, fun H4 z s4 nz hz => ?_⟩
          refine q H4 z (sH3.trans s4) ?_
          rw [closed_is hi' inv hc]
          exact hz
        | false =>
          refine iteF ?_
          refine ⟨_, _, _, rfl, sH3, fun x hx => ?_⟩
          rcases Nat.lt_or_ge x i with c | c
          · exact inv x c
          · have : x = i := by omega
            rw [this]
            exact hc
    · rintro σ H1 ⟨v3, v4, v5, rfl, s1, inv⟩
      refine ⟨by show 0 ≤ sizeLine; exact Nat.zero_le _, fun t nt => q _ t (same_new s1 (s1.free nt)) ?_⟩
      rw [upd_same, closed_no (fun x hx => inv x (by omega))]
      rfl
end
end Tow
namespace Tow
open PySem PySem.Spec PyProof.Rows L2
open PySem.W (Codec)
open Ks547 (Graph has)
abbrev sSh : Stmt := topS 11
section
variable {P : Program} {w : World} {K : PySem.W.Frag} {mg : Str → Option Value} {base : Heap}
/-! ### shortest_odd_closed_walk -/
def spSh : Sp := fun vs H Q _ => ∃ (g : Graph) (a : Addr), vs = [.int g.n, .ref a] ∧ Arr H a (castP g.arrows) ∧ g.arrows.length ≤ 100 ∧ Wf g ∧ g.arrows.Pairwise nlt ∧
  ∀ H' p, Same H H' → H' p = some (.lst (natV ((oddIn g).getD []))) → Q (.ref p) H'
theorem scSh : FnScope ["n", "steps", "k", "found"] ["n", "steps"] (defScope sSh) := ⟨rfl, rfl, rfl, by decide +kernel, rfl, by decide +kernel, by decide +kernel⟩
theorem rgOdd {n : Nat} (h : n ≤ 5) : RgC 1 ((n : Int) + 1) 2 ((n + 1) / 2) := by
  have c : n = 0 ∨ n = 1 ∨ n = 2 ∨ n = 3 ∨ n = 4 ∨ n = 5 := by omega
  rcases c with rfl | rfl | rfl | rfl | rfl | rfl
  all_goals exact ⟨by decide, by decide, by decide +kernel, by decide +kernel⟩
theorem ok_sh {f fC fS fO : Addr} {fd fdC fdS fdO : FuncData} {k : Nat} (F : Fun K "shortest_odd_closed_walk" "shortest_odd_closed_walk" sSh f fd)
    (FC : Fun K "first_closed_walk" "first_closed_walk" sFc fC fdC) (bC : Binds K fdC ["n", "k", "arrows"] []) (gC : mg "first_closed_walk" = some (.ref fC))
    (FS : Fun K "starts_by_length" "starts_by_length" sSta fS fdS) (bS : Binds K fdS ["k", "ends", "arrows"] []) (gS : mg "starts_by_length" = some (.ref fS))
    (FO : Fun K "first_walk_from" "first_walk_from" sFwf fO fdO) (bO : Binds K fdO ["start", "k", "rows", "arrows"] []) (gO : mg "first_walk_from" = some (.ref fO))
    (mr : mg "range" = none) (ml : mg "len" = none) (mL : mg "list" = none) : FnOk P w K mg base CX0 (k + 3) f fd ["n", "steps"] spSh := by
  have GC : FnOk P w K mg base CX0 (k + 2) fC fdC ["n", "k", "arrows"] spFc := ok_fc FC FS bS gS FO bO gO mr ml mL
  refine F.ok scSh (fun vs H Q E h => ?_) (fun cdv A outer s H vs Q E hr h => ?_)
  · obtain ⟨g, a, rfl, _⟩ := h
    rfl
  · obtain ⟨g, a, rfl, ar, hal, W, R, q⟩ := h
    have hn5 : g.n ≤ 5 := W.hi
    refine ⟨_, pss_cons (ps_for PassesOwn.never rfl (pi_range3 rfl mr (pa_cons pe_int (pa_cons (pe_op op_add (pv 0) pe_int) (pa_cons pe_int pa_nil)))) (pg_name (i := 2) scSh.nd rfl (.inl rfl))
        (pss_cons (ps_set (i := 3) scSh.nd rfl (.inl rfl) (pe_call GC hr (by rfl) gC FC.kp bC .nil pass0 (pa_cons (pv 0) (pa_cons (pv 2) (pa_cons (pv 1) pa_nil)))))
        (pss_one (ps_if (pt_cmpR op_gt (pe_callB call_len_seq (by rfl) ml PySem.boot_len (pa_cons (pv 3) pa_nil)) pe_int (nomark _)) (pss_one (ps_ret (pv 3))) pss_nil))))
      (pss_one (ps_ret (pe_lst pa_nil))), ?_⟩
    refine ⟨.int g.n, rfl, (g.n : Int), 1, rfl, rfl, 1, (g.n : Int) + 1, 2, (g.n + 1) / 2, rfl, rgOdd hn5, ?_⟩
    refine for_rangeC (lo := 1) (c := 2) (n := (g.n + 1) / 2) (fun i σ H' => ∃ v2 v3 : Option V, σ = [some (.int g.n), some (.ref a), v2, v3] ∧ Same H H' ∧ ∀ j, j < i → closed g (2 * j + 1) = none)
      ⟨none, none, rfl, Same.refl H, fun x hx => absurd hx (Nat.not_lt_zero _)⟩ ?_ ?_
    · rintro i σ H1 hi ⟨v2, v3, rfl, s1, inv⟩
      refine ⟨.int g.n, rfl, .int (1 + (i : Nat) * 2), rfl, .ref a, rfl, g, 2 * i + 1, a, ?_, ar.same s1, hal, W, R, by omega, fun H2 p s2 hp => ?_⟩
      · rw [show (1 : Int) + (i : Nat) * 2 = ((2 * i + 1 : Nat) : Int) by omega]
        rfl
      refine ⟨.ref p, rfl, p, _, rfl, .inl (SqL.of hp), _, 0, rfl, rfl, _, rfl, ?_⟩
      cases hc : closed g (2 * i + 1) with
      | none =>
        rw [show decide ((0 : Int) < (natV ((none : Option (List Nat)).getD [])).length) = false from rfl]
        refine iteF ?_
        refine ⟨_, _, rfl, s1.trans s2, fun x hx => ?_⟩
        rcases Nat.lt_or_ge x i with c | c
        · exact inv x c
        · have : x = i := by omega
          rw [this]
          exact hc
      | some v =>
        rw [hc] at hp
        have ed : decide ((0 : Int) < (natV ((some v).getD [])).length) = true := by
          rw [natV_len]
          show decide ((0 : Int) < v.length) = true
          have := closed_len W R hc
          rw [decide_eq_true_eq]
          omega
        rw [ed]
        refine iteT ?_
        refine ⟨.ref p, rfl, q H2 p (s1.trans s2) ?_⟩
        rw [oddIn_is hi inv hc]
        exact hp
    · rintro σ H1 ⟨v2, v3, rfl, s1, inv⟩
      refine ⟨by show 0 ≤ sizeLine; exact Nat.zero_le _, fun t nt => q _ t (same_new s1 (s1.free nt)) ?_⟩
      rw [upd_same, oddIn_no inv]
      rfl
end
end Tow
namespace Tow
open PySem PySem.Spec PyProof.Rows L2
open PySem.W (Codec)
open Ks547 (Graph has)
open Ks551 (colours odd)
abbrev sCls : Stmt := topS 3
section
variable {P : Program} {w : World} {K : PySem.W.Frag} {mg : Str → Option Value} {base : Heap}
/-! ### colours -/
def spCls (K : PySem.W.Frag) : Sp := fun vs H Q _ => ∃ (n : Int) (a : Addr) (ns : List Int), vs = [.int n, .ref a] ∧ 0 ≤ n ∧ SqL K H a (ns.map V.int) ∧ ns.length ≤ 60 ∧ (∀ x ∈ ns, 0 ≤ x) ∧
  ∀ (H' : Hp) (p : Addr), H' p = some (.lst ((PyKs551.colours n ns).map V.int)) → Q (.ref p) H'
theorem scCls : FnScope ["n", "first", "arrows", "given", "found"] ["n", "first"] (defScope sCls) := ⟨rfl, rfl, rfl, by decide +kernel, rfl, by decide +kernel, by decide +kernel⟩
theorem ok_cls {f fG fP fR fC fL fB fH fW fS fO : Addr} {fd fdG fdP fdR fdC fdL fdB fdH fdW fdS fdO : FuncData} (F : Fun K "colours" "colours" sCls f fd)
    (FG : Fun K "is_graph" "is_graph" sIsG fG fdG) (bG : Binds K fdG ["n", "first"] []) (gG : mg "is_graph" = some (.ref fG))
    (FP : Fun K "pair_up" "pair_up" sPair fP fdP) (bP : Binds K fdP ["first"] []) (gP : mg "pair_up" = some (.ref fP))
    (FR : Fun K "is_rising" "is_rising" sRis fR fdR) (bR : Binds K fdR ["arrows"] []) (gR : mg "is_rising" = some (.ref fR))
    (FC : Fun K "first_colouring" "first_colouring" sCol fC fdC) (bC : Binds K fdC ["n", "count", "arrows"] []) (gC : mg "first_colouring" = some (.ref fC))
    (FL : Fun K "clashes" "clashes" sCla fL fdL) (bL : Binds K fdL ["given", "arrows"] []) (gL : mg "clashes" = some (.ref fL))
    (FB : Fun K "both_ways" "both_ways" sBo fB fdB) (bB : Binds K fdB ["arrows"] []) (gB : mg "both_ways" = some (.ref fB))
    (FH : Fun K "shortest_odd_closed_walk" "shortest_odd_closed_walk" sSh fH fdH) (bH : Binds K fdH ["n", "steps"] []) (gH : mg "shortest_odd_closed_walk" = some (.ref fH))
    (FW : Fun K "first_closed_walk" "first_closed_walk" sFc fW fdW) (bW : Binds K fdW ["n", "k", "arrows"] []) (gW : mg "first_closed_walk" = some (.ref fW))
    (FS : Fun K "starts_by_length" "starts_by_length" sSta fS fdS) (bS : Binds K fdS ["k", "ends", "arrows"] []) (gS : mg "starts_by_length" = some (.ref fS))
    (FO : Fun K "first_walk_from" "first_walk_from" sFwf fO fdO) (bO : Binds K fdO ["start", "k", "rows", "arrows"] []) (gO : mg "first_walk_from" = some (.ref fO))
    {tm tn : Tok} (gM : mg "MOST_PLACES" = some (.int 5 tm)) (gN : mg "NOT_AS_TOLD" = some (.int (-22) tn))
    (mr : mg "range" = none) (ml : mg "len" = none) (mL : mg "list" = none) (mm : mg "max" = none) (ms : mg "sorted" = none) (mt : mg "set" = none) : FnOk P w K mg base CX0 4 f fd ["n", "first"] (spCls K) := by
  have GG : FnOk P w K mg base CX0 3 fG fdG ["n", "first"] (spIsG K) := ok_isG FG FP FR bP bR gP gR gM mr ml
  have GP : FnOk P w K mg base CX0 3 fP fdP ["first"] (spPair K) := ok_pair FP mr ml
  have GC : FnOk P w K mg base CX0 3 fC fdC ["n", "count", "arrows"] spCol := ok_col FC FL bL gL mr ml mm
  have GB : FnOk P w K mg base CX0 3 fB fdB ["arrows"] spBo := ok_bo FB ms mt
  have GH : FnOk P w K mg base CX0 3 fH fdH ["n", "steps"] spSh := ok_sh FH FW bW gW FS bS gS FO bO gO mr ml mL
  refine F.ok scCls (fun vs H Q E h => ?_) (fun cdv A outer s H vs Q E hr h => ?_)
  · obtain ⟨n, a, ns, rfl, _⟩ := h
    rfl
  · obtain ⟨n, a, ns, rfl, hn, hS, hlen, hpos, q⟩ := h
    refine ⟨_, pss_cons (ps_if (pt_not (pt_val (pe_call GG hr (by rfl) gG FG.kp bG .nil pass0 (pa_cons (pv 0) (pa_cons (pv 1) pa_nil))))) (pss_one (ps_ret (pe_lst (pa_cons (pe_glob (v := .int (-22)) rfl gN ⟨_, rfl⟩) pa_nil)))) pss_nil)
      (pss_cons (ps_set (i := 2) scCls.nd rfl (.inl rfl) (pe_call GP hr (by rfl) gP FP.kp bP .nil pass0 (pa_cons (pv 1) pa_nil)))
      (pss_cons (ps_set (i := 3) scCls.nd rfl (.inl rfl) (pe_call GC hr (by rfl) gC FC.kp bC .nil pass0 (pa_cons (pv 0) (pa_cons pe_int (pa_cons (pv 2) pa_nil)))))
      (pss_cons (ps_if (pt_cmpR op_gt (pe_callB call_len_seq (by rfl) ml PySem.boot_len (pa_cons (pv 3) pa_nil)) pe_int (nomark _)) (pss_one (ps_ret (pe_op op_cat (pe_lst (pa_cons pe_int pa_nil)) (pv 3)))) pss_nil)
      (pss_cons (ps_set (i := 4) scCls.nd rfl (.inl rfl) (pe_call GH hr (by rfl) gH FH.kp bH .nil pass0 (pa_cons (pv 0) (pa_cons (pe_call GB hr (by rfl) gB FB.kp bB .nil pass0 (pa_cons (pv 2) pa_nil)) pa_nil))))
      (pss_one (ps_ret (pe_op op_cat (pe_lst (pa_cons pe_int (pa_cons (pe_callB call_len_seq (by rfl) ml PySem.boot_len (pa_cons (pv 4) pa_nil)) pa_nil))) (pv 4)))))))), ?_⟩
    rw [colours_due hn hpos] at q
    refine ⟨.int n, rfl, .ref a, rfl, n, a, ns, rfl, hS, hlen, fun H1 s1 => ⟨_, rfl, ?_⟩⟩
    cases c : isGraph n ns with
    | false =>
      rw [c, if_neg Bool.false_ne_true] at q
      refine iteT ?_
      exact ⟨by show 1 ≤ sizeLine; decide, fun p _ => q _ p upd_same⟩
    | true =>
      rw [c, if_pos rfl] at q
      refine iteF ?_
      have W := gr_wf c
      have hb := gr_back c
      have hnn : ((gr n ns).n : Int) = n := by
        show ((n.toNat : Nat) : Int) = n
        omega
      have hal : (gr n ns).arrows.length ≤ 30 := by
        show ((pairUp ns).map natP).length ≤ 30
        rw [List.length_map, pairUp_len]
        omega
      have hn5 := W.hi
      have hn1 := W.lo
      obtain ⟨_, _, hev, _, _⟩ := isGraph_iff.mp c
      refine ⟨.ref a, rfl, a, ns, rfl, s1.seq hS, hlen, hev, fun H2 t s2 nt ar => ?_⟩
      have ar' : Arr H2 t (castP (gr n ns).arrows) := by
        unfold castP
        rw [← hb]
        exact ar
      refine ⟨.int n, rfl, .ref t, rfl, gr n ns, 2, t, by rw [hnn]; rfl, ar', W, by decide, fun H3 p s3 hp => ?_⟩
      refine ⟨.ref p, rfl, p, _, rfl, .inl (SqL.of hp), _, 0, rfl, rfl, _, rfl, ?_⟩
      cases hw : firstCol (gr n ns) 2 with
      | none =>
        rw [show decide ((0 : Int) < (natV ((none : Option (List Nat)).getD [])).length) = false from rfl]
        refine iteF ?_
        have hcn : colours (gr n ns) = none := by rw [colours_first W, hw]
        refine ⟨.int n, rfl, .ref t, rfl, gr n ns, t, rfl, ar'.same s3, hal, W, fun H4 b h s4 B arb hbl => ?_⟩
        refine ⟨h, b, by rw [B.n, hnn]; rfl, arb, by omega, B.wf W, B.rise, fun H5 z s5 hz => ?_⟩
        obtain ⟨v, e1, e2⟩ := B.odd W hcn
        rw [hcn, e2] at q
        have hvl := oddIn_len (B.wf W) B.rise e1
        rw [B.n] at hvl
        rw [e1] at hz
        refine ⟨.ref z, rfl, z, _, rfl, .inl (SqL.of hz), by show 2 ≤ sizeLine; decide, fun l nl => ?_⟩
        have s6 := same_new (o := .lst [.int 0, .int ((natV ((some v).getD [])).length : Nat)]) (Same.refl H5) nl
        refine ⟨.ref z, rfl, l, z, _, _, rfl, rfl, upd_same, s6 _ _ hz, ?_, fun y ny => q _ y ?_⟩
        · show 2 + (natV v).length ≤ sizeLine
          rw [natV_len]
          exact Nat.le_of_lt (small (by omega))
        · rw [upd_same]
          show some (HO.lst ([V.int 0, V.int ((natV v).length : Nat)] ++ natV v)) = some (HO.lst ((outI 0 (v.length :: v)).map V.int))
          rw [← natV_outI, natV_len]
          rfl
      | some d =>
        have hcs : colours (gr n ns) = some d := by rw [colours_first W, hw]
        rw [hw] at hp
        have hdl := (firstCol_col W hw).len
        rw [hcs] at q
        have ed : decide ((0 : Int) < (natV ((some d).getD [])).length) = true := by
          rw [natV_len]
          show decide ((0 : Int) < d.length) = true
          rw [decide_eq_true_eq]
          omega
        rw [ed]
        refine iteT ?_
        refine ⟨by show 1 ≤ sizeLine; decide, fun l nl => ?_⟩
        have s4 := same_new (o := .lst [.int 1]) (Same.refl H3) nl
        refine ⟨.ref p, rfl, l, p, _, _, rfl, rfl, upd_same, s4 _ _ hp, ?_, fun z nz => q _ z ?_⟩
        · show 1 + (natV d).length ≤ sizeLine
          rw [natV_len]
          exact Nat.le_of_lt (small (by omega))
        · rw [upd_same]
          show some (HO.lst ([V.int 1] ++ natV d)) = some (HO.lst ((outI 1 d).map V.int))
          rw [natV_outI]
end
end Tow
namespace Tow
open PySem PySem.Spec PyProof.Rows L2
open PySem.W (Codec)
/-! ### what the top has written -/
theorem all_mk {P : Program} {w : World} {K : PySem.W.Frag} {h : Heap} {mg : Str → Option Value} {fa f1 f2 f3 f4 f5 f6 f7 f8 f9 f10 f11 : Addr} (X : K.In h) (G : h.Ns mainGlobals mg) (hfa : mg "colours" = some (.ref fa))
    {od1 an1 od2 an2 od3 an3 od4 an4 od5 an5 od6 an6 od7 an7 od8 an8 od9 an9 od10 an10 od11 an11 : Option Addr} {sl1 sl2 sl3 sl4 sl5 sl6 sl7 sl8 sl9 sl10 sl11 : Array (Option Value)} {oc1 kV1 dc1 pm1 cd1 ct1 oc2 kV2 dc2 pm2 cd2 ct2 oc3 kV3 dc3 pm3 cd3 ct3 oc4 kV4 dc4 pm4 cd4 ct4 oc5 kV5 dc5 pm5 cd5 ct5 oc6 kV6 dc6 pm6 cd6 ct6 oc7 kV7 dc7 pm7 cd7 ct7 oc8 kV8 dc8 pm8 cd8 ct8 oc9 kV9 dc9 pm9 cd9 ct9 oc10 kV10 dc10 pm10 cd10 ct10 oc11 kV11 dc11 pm11 cd11 ct11 : Value} {tM tN : Tok}
    (a1 : PySem.W.nsIn K mainGlobals "colours" = some (some (.ref f1))) (l1 : K.lookup f1 = some ⟨oc1, od1, .func (PySem.W.fnOf "colours" "colours" (defArgs sCls) (defBody sCls) (defScope sCls) .none kV1 dc1 pm1 an1 cd1 ct1), sl1⟩) (c1 : PySem.W.codeIn K cd1 "colours" = true) (k1 : PySem.W.keepIn K (.ref f1) = true)
    (a2 : PySem.W.nsIn K mainGlobals "is_graph" = some (some (.ref f2))) (l2 : K.lookup f2 = some ⟨oc2, od2, .func (PySem.W.fnOf "is_graph" "is_graph" (defArgs sIsG) (defBody sIsG) (defScope sIsG) .none kV2 dc2 pm2 an2 cd2 ct2), sl2⟩) (c2 : PySem.W.codeIn K cd2 "is_graph" = true) (k2 : PySem.W.keepIn K (.ref f2) = true)
    (a3 : PySem.W.nsIn K mainGlobals "is_rising" = some (some (.ref f3))) (l3 : K.lookup f3 = some ⟨oc3, od3, .func (PySem.W.fnOf "is_rising" "is_rising" (defArgs sRis) (defBody sRis) (defScope sRis) .none kV3 dc3 pm3 an3 cd3 ct3), sl3⟩) (c3 : PySem.W.codeIn K cd3 "is_rising" = true) (k3 : PySem.W.keepIn K (.ref f3) = true)
    (a4 : PySem.W.nsIn K mainGlobals "pair_up" = some (some (.ref f4))) (l4 : K.lookup f4 = some ⟨oc4, od4, .func (PySem.W.fnOf "pair_up" "pair_up" (defArgs sPair) (defBody sPair) (defScope sPair) .none kV4 dc4 pm4 an4 cd4 ct4), sl4⟩) (c4 : PySem.W.codeIn K cd4 "pair_up" = true) (k4 : PySem.W.keepIn K (.ref f4) = true)
    (a5 : PySem.W.nsIn K mainGlobals "first_colouring" = some (some (.ref f5))) (l5 : K.lookup f5 = some ⟨oc5, od5, .func (PySem.W.fnOf "first_colouring" "first_colouring" (defArgs sCol) (defBody sCol) (defScope sCol) .none kV5 dc5 pm5 an5 cd5 ct5), sl5⟩) (c5 : PySem.W.codeIn K cd5 "first_colouring" = true) (k5 : PySem.W.keepIn K (.ref f5) = true)
    (a6 : PySem.W.nsIn K mainGlobals "clashes" = some (some (.ref f6))) (l6 : K.lookup f6 = some ⟨oc6, od6, .func (PySem.W.fnOf "clashes" "clashes" (defArgs sCla) (defBody sCla) (defScope sCla) .none kV6 dc6 pm6 an6 cd6 ct6), sl6⟩) (c6 : PySem.W.codeIn K cd6 "clashes" = true) (k6 : PySem.W.keepIn K (.ref f6) = true)
    (a7 : PySem.W.nsIn K mainGlobals "both_ways" = some (some (.ref f7))) (l7 : K.lookup f7 = some ⟨oc7, od7, .func (PySem.W.fnOf "both_ways" "both_ways" (defArgs sBo) (defBody sBo) (defScope sBo) .none kV7 dc7 pm7 an7 cd7 ct7), sl7⟩) (c7 : PySem.W.codeIn K cd7 "both_ways" = true) (k7 : PySem.W.keepIn K (.ref f7) = true)
    (a8 : PySem.W.nsIn K mainGlobals "shortest_odd_closed_walk" = some (some (.ref f8))) (l8 : K.lookup f8 = some ⟨oc8, od8, .func (PySem.W.fnOf "shortest_odd_closed_walk" "shortest_odd_closed_walk" (defArgs sSh) (defBody sSh) (defScope sSh) .none kV8 dc8 pm8 an8 cd8 ct8), sl8⟩) (c8 : PySem.W.codeIn K cd8 "shortest_odd_closed_walk" = true) (k8 : PySem.W.keepIn K (.ref f8) = true)
    (a9 : PySem.W.nsIn K mainGlobals "first_closed_walk" = some (some (.ref f9))) (l9 : K.lookup f9 = some ⟨oc9, od9, .func (PySem.W.fnOf "first_closed_walk" "first_closed_walk" (defArgs sFc) (defBody sFc) (defScope sFc) .none kV9 dc9 pm9 an9 cd9 ct9), sl9⟩) (c9 : PySem.W.codeIn K cd9 "first_closed_walk" = true) (k9 : PySem.W.keepIn K (.ref f9) = true)
    (a10 : PySem.W.nsIn K mainGlobals "starts_by_length" = some (some (.ref f10))) (l10 : K.lookup f10 = some ⟨oc10, od10, .func (PySem.W.fnOf "starts_by_length" "starts_by_length" (defArgs sSta) (defBody sSta) (defScope sSta) .none kV10 dc10 pm10 an10 cd10 ct10), sl10⟩) (c10 : PySem.W.codeIn K cd10 "starts_by_length" = true) (k10 : PySem.W.keepIn K (.ref f10) = true)
    (a11 : PySem.W.nsIn K mainGlobals "first_walk_from" = some (some (.ref f11))) (l11 : K.lookup f11 = some ⟨oc11, od11, .func (PySem.W.fnOf "first_walk_from" "first_walk_from" (defArgs sFwf) (defBody sFwf) (defScope sFwf) .none kV11 dc11 pm11 an11 cd11 ct11), sl11⟩) (c11 : PySem.W.codeIn K cd11 "first_walk_from" = true) (k11 : PySem.W.keepIn K (.ref f11) = true)
    (gM : PySem.W.nsIn K mainGlobals "MOST_PLACES" = some (some (.int (5) tM)))
    (gN : PySem.W.nsIn K mainGlobals "NOT_AS_TOLD" = some (some (.int (-22) tN)))
    (zrange : PySem.W.nsIn K mainGlobals "range" = some none)
    (zlen : PySem.W.nsIn K mainGlobals "len" = some none)
    (zlist : PySem.W.nsIn K mainGlobals "list" = some none)
    (zmax : PySem.W.nsIn K mainGlobals "max" = some none)
    (zsorted : PySem.W.nsIn K mainGlobals "sorted" = some none)
    (zset : PySem.W.nsIn K mainGlobals "set" = some none)
    : ∃ fd : FuncData, (∀ (s : Shared) (us : List Value), us.length = (["n", "first"] : List Str).length → BindsTo s fd ⟨us, []⟩ ((["n", "first"] : List Str).zip us)) ∧ ∀ base : Heap, K.In base → base.Ns mainGlobals mg → FnOk P w K mg base CX0 4 fa fd ["n", "first"] (spCls K) := by
  have e := hfa.symm.trans (PySem.W.mg_of X G a1)
  cases e
  have F1 := fun_mk (st := sCls) l1 c1 k1
  have F2 := fun_mk (st := sIsG) l2 c2 k2
  have b2 := F2.binds (ps := ["n", "first"]) fun _ _ _ _ _ _ us hl => match us, hl with | [_, _], _ => rfl
  have F3 := fun_mk (st := sRis) l3 c3 k3
  have b3 := F3.binds (ps := ["arrows"]) fun _ _ _ _ _ _ us hl => match us, hl with | [_], _ => rfl
  have F4 := fun_mk (st := sPair) l4 c4 k4
  have b4 := F4.binds (ps := ["first"]) fun _ _ _ _ _ _ us hl => match us, hl with | [_], _ => rfl
  have F5 := fun_mk (st := sCol) l5 c5 k5
  have b5 := F5.binds (ps := ["n", "count", "arrows"]) fun _ _ _ _ _ _ us hl => match us, hl with | [_, _, _], _ => rfl
  have F6 := fun_mk (st := sCla) l6 c6 k6
  have b6 := F6.binds (ps := ["given", "arrows"]) fun _ _ _ _ _ _ us hl => match us, hl with | [_, _], _ => rfl
  have F7 := fun_mk (st := sBo) l7 c7 k7
  have b7 := F7.binds (ps := ["arrows"]) fun _ _ _ _ _ _ us hl => match us, hl with | [_], _ => rfl
  have F8 := fun_mk (st := sSh) l8 c8 k8
  have b8 := F8.binds (ps := ["n", "steps"]) fun _ _ _ _ _ _ us hl => match us, hl with | [_, _], _ => rfl
  have F9 := fun_mk (st := sFc) l9 c9 k9
  have b9 := F9.binds (ps := ["n", "k", "arrows"]) fun _ _ _ _ _ _ us hl => match us, hl with | [_, _, _], _ => rfl
  have F10 := fun_mk (st := sSta) l10 c10 k10
  have b10 := F10.binds (ps := ["k", "ends", "arrows"]) fun _ _ _ _ _ _ us hl => match us, hl with | [_, _, _], _ => rfl
  have F11 := fun_mk (st := sFwf) l11 c11 k11
  have b11 := F11.binds (ps := ["start", "k", "rows", "arrows"]) fun _ _ _ _ _ _ us hl => match us, hl with | [_, _, _, _], _ => rfl
  exact ⟨PySem.W.fnOf "colours" "colours" (defArgs sCls) (defBody sCls) (defScope sCls) .none kV1 dc1 pm1 an1 cd1 ct1, fun s us hu => match us, hu with | [_, _], _ => .of_eq rfl, fun base _ _ => ok_cls F1 F2 b2 (PySem.W.mg_of X G a2) F4 b4 (PySem.W.mg_of X G a4) F3 b3 (PySem.W.mg_of X G a3) F5 b5 (PySem.W.mg_of X G a5) F6 b6 (PySem.W.mg_of X G a6) F7 b7 (PySem.W.mg_of X G a7) F8 b8 (PySem.W.mg_of X G a8) F9 b9 (PySem.W.mg_of X G a9) F10 b10 (PySem.W.mg_of X G a10) F11 b11 (PySem.W.mg_of X G a11) (PySem.W.mg_of X G gM) (PySem.W.mg_of X G gN) (PySem.W.mg_none_of X G zrange) (PySem.W.mg_none_of X G zlen) (PySem.W.mg_none_of X G zlist) (PySem.W.mg_none_of X G zmax) (PySem.W.mg_none_of X G zsorted) (PySem.W.mg_none_of X G zset)⟩
end Tow
open PySem PySem.W PyProof.Rows
set_option maxRecDepth 100000 in
set_option maxHeartbeats 8000000 in
theorem PySem.Challenge.cw_towerorwalk_s05_colours_holds : PySem.Challenge.rw_towerorwalk_s05_colours.Holds := by
  w_on; k_headS; (case hw => exact ⟨[.int 1, .list []], by decide +kernel, by decide +kernel⟩)
  k_fillS
  refine L2.walk_specK (r := PySem.Challenge.rw_towerorwalk_s05_colours) (k := 4) (CX := L2.CX0) (ps := ["n", "first"]) (sp := Tow.spCls) (by decide +kernel) rfl rfl ⟨rfl, by decide, by decide⟩ (fun w h Y => PySem.W.kIn_of Y) ?F ?S (fun _ _ _ _ z => z)
  case F =>
    intro w mg fa h Y KX G hmg
    refine' Tow.all_mk KX G hmg ?a1 ?l1 ?c1 ?k1 ?a2 ?l2 ?c2 ?k2 ?a3 ?l3 ?c3 ?k3 ?a4 ?l4 ?c4 ?k4 ?a5 ?l5 ?c5 ?k5 ?a6 ?l6 ?c6 ?k6 ?a7 ?l7 ?c7 ?k7 ?a8 ?l8 ?c8 ?k8 ?a9 ?l9 ?c9 ?k9 ?a10 ?l10 ?c10 ?k10 ?a11 ?l11 ?c11 ?k11 ?gM ?gN ?zrange ?zlen ?zlist ?zmax ?zsorted ?zset
    (case a1 => k_is)
    (case l1 => k_is)
    (case c1 => k_is)
    (case k1 => k_is)
    (case a2 => k_is)
    (case l2 => k_is)
    (case c2 => k_is)
    (case k2 => k_is)
    (case a3 => k_is)
    (case l3 => k_is)
    (case c3 => k_is)
    (case k3 => k_is)
    (case a4 => k_is)
    (case l4 => k_is)
    (case c4 => k_is)
    (case k4 => k_is)
    (case a5 => k_is)
    (case l5 => k_is)
    (case c5 => k_is)
    (case k5 => k_is)
    (case a6 => k_is)
    (case l6 => k_is)
    (case c6 => k_is)
    (case k6 => k_is)
    (case a7 => k_is)
    (case l7 => k_is)
    (case c7 => k_is)
    (case k7 => k_is)
    (case a8 => k_is)
    (case l8 => k_is)
    (case c8 => k_is)
    (case k8 => k_is)
    (case a9 => k_is)
    (case l9 => k_is)
    (case c9 => k_is)
    (case k9 => k_is)
    (case a10 => k_is)
    (case l10 => k_is)
    (case c10 => k_is)
    (case k10 => k_is)
    (case a11 => k_is)
    (case l11 => k_is)
    (case c11 => k_is)
    (case k11 => k_is)
    (case gM => k_is)
    (case gN => k_is)
    (case zrange => k_is)
    (case zlen => k_is)
    (case zlist => k_is)
    (case zmax => k_is)
    (case zsorted => k_is)
    (case zset => k_is)
  case S =>
    intro K H xs a hO hwi hask hx
    cases hx with
    | cons h1 h2 =>
      cases h1
      cases h2 with
      | cons h1 h2 =>
        cases h2
        cases h1 with
        | lst hs ha =>
          have e := L2.ints_dw a.2.1 _ ha
          subst e
          have q : (Codec.inInt 0 4294967295 a.1 && ((Codec.inLen 0 60 a.2.1 && a.2.1.all (Codec.inInt 0 4294967295)) && true)) = true := hwi
          rw [Bool.and_eq_true, Bool.and_eq_true, Bool.and_eq_true, List.all_eq_true] at q
          exact ⟨a.1, _, a.2.1, rfl, (Codec.inInt_iff.mp q.1).1, hs, (Codec.inNat_iff.mp q.2.1.1).2, fun x hx => (Codec.inInt_iff.mp (q.2.1.2 x hx)).1, fun H' p hp => .lst (L2.SqL.of hp) (L2.dw_ints _)⟩
#print axioms PySem.Challenge.cw_towerorwalk_s05_colours_holds
