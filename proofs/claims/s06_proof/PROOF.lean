import PyProof.Rows.All
import Wide.All
import OpenK.AllK
import Wide.FinOn
import Open.SpecLaws
import KE.OsGo
import HandS.ForSpec
import HandS.Comp
import HandS.Iter
import HandS.TupLe
import PySem.Challenge.RW_towerorwalk_s06_least
set_option Elab.async false
set_option linter.all false
set_option maxRecDepth 100000
set_option maxHeartbeats 2000000
namespace Tow
open Ks547 (Graph has graphOf pairsOf)
open Ks551 (canWalk onward deep)

/-! ### the mirror of what is read -/
def pairUp : List Int → List (Int × Int)
  | a :: b :: r => (a, b) :: pairUp r
  | _ => []
def lt2 (p q : Int × Int) : Bool := if p.1 = q.1 then decide (p.2 < q.2) else decide (p.1 < q.1)
def rising : List (Int × Int) → Bool
  | p :: q :: r => lt2 p q && rising (q :: r)
  | _ => true
def isGraph (n : Int) (ns : List Int) : Bool :=
  decide (1 ≤ n) && decide (n ≤ 5) && decide (ns.length % 2 = 0) && ns.all (fun x => decide (0 ≤ x) && decide (x < n)) && rising (pairUp ns)
def natP (p : Int × Int) : Nat × Nat := (p.1.toNat, p.2.toNat)
def gr (n : Int) (ns : List Int) : Graph := ⟨n.toNat, (pairUp ns).map natP⟩

theorem pairUp_len : ∀ ns : List Int, (pairUp ns).length = ns.length / 2
  | [] => rfl
  | [_] => by simp [pairUp]
  | a :: b :: r => by
    have h := pairUp_len r
    simp only [pairUp, List.length_cons, h]
    omega
theorem pairUp_at : ∀ (ns : List Int) (i : Nat), 2 * i + 1 < ns.length → (pairUp ns)[i]? = some (ns.getD (2 * i) 0, ns.getD (2 * i + 1) 0)
  | [], i, h => by simp at h
  | [_], i, h => by simp at h
  | a :: b :: r, 0, h => by simp [pairUp]
  | a :: b :: r, i + 1, h => by
    have ih := pairUp_at r i (by simp only [List.length_cons] at h; omega)
    simp only [pairUp, List.getElem?_cons_succ, ih]
    rw [show 2 * (i + 1) = 2 * i + 1 + 1 by omega]
    simp [List.getD_cons_succ]
theorem pairUp_mem : ∀ (ns : List Int) (p : Int × Int), p ∈ pairUp ns → p.1 ∈ ns ∧ p.2 ∈ ns
  | [], p, h => by simp [pairUp] at h
  | [_], p, h => by simp [pairUp] at h
  | a :: b :: r, p, h => by
    simp only [pairUp, List.mem_cons] at h
    rcases h with rfl | h
    · simp
    · have := pairUp_mem r p h
      simp [this.1, this.2]

theorem pairsOf_eq (n : Nat) : ∀ ns : List Int, (∀ x ∈ ns, 0 ≤ x) → pairsOf n (ns.map Int.toNat) =
    if (ns.length % 2 = 0 ∧ (∀ x ∈ ns, x < n) ∧ rising (pairUp ns) = true) then some ((pairUp ns).map natP) else none
  | [], _ => by simp [pairsOf, pairUp, rising]
  | [a], _ => by simp [pairsOf]
  | a :: b :: r, hp => by
    have ih := pairsOf_eq n r (fun x hx => hp x (by simp [hx]))
    have ha := hp a (by simp)
    have hb := hp b (by simp)
    have hl : (a :: b :: r).length % 2 = r.length % 2 := by simp only [List.length_cons]; omega
    simp only [List.map_cons, pairsOf, ih, hl, List.mem_cons, forall_eq_or_imp]
    by_cases c1 : n ≤ a.toNat ∨ n ≤ b.toNat
    · rw [if_pos c1, if_neg]
      rintro ⟨_, ⟨h1, h2, _⟩, _⟩
      omega
    · rw [if_neg c1]
      have h1 : a < n := by omega
      have h2 : b < n := by omega
      by_cases c2 : r.length % 2 = 0 ∧ (∀ x ∈ r, x < (n : Int)) ∧ rising (pairUp r) = true
      · rw [if_pos c2]
        obtain ⟨e1, e2, e3⟩ := c2
        have key : ∀ q : List (Int × Int), q = pairUp r → (match q.map natP with
            | [] => some [(a.toNat, b.toNat)]
            | p :: _ => if a.toNat < p.1 ∨ (a.toNat = p.1 ∧ b.toNat < p.2) then some ((a.toNat, b.toNat) :: q.map natP) else none) =
            if rising ((a, b) :: q) = true then some (natP (a, b) :: q.map natP) else none := by
          intro q hq
          cases q with
          | nil => simp [rising, natP]
          | cons p q' =>
            have hm := pairUp_mem r p (by rw [← hq]; simp)
            have p1 := hp p.1 (by simp [hm.1])
            have p2 := hp p.2 (by simp [hm.2])
            rw [← hq] at e3
            have er : rising ((a, b) :: p :: q') = (lt2 (a, b) p && rising (p :: q')) := rfl
            simp only [List.map_cons, er, e3, Bool.and_true]
            have hq : (a.toNat < p.1.toNat ∨ (a.toNat = p.1.toNat ∧ b.toNat < p.2.toNat)) ↔ lt2 (a, b) p = true := by
              unfold lt2
              by_cases z : a = p.1
              · rw [if_pos z, decide_eq_true_eq]
                constructor <;> intro <;> omega
              · rw [if_neg z, decide_eq_true_eq]
                constructor <;> intro <;> omega
            show (if a.toNat < p.1.toNat ∨ (a.toNat = p.1.toNat ∧ b.toNat < p.2.toNat) then _ else _) = _
            by_cases c3 : lt2 (a, b) p = true
            · rw [if_pos (hq.mpr c3), if_pos c3]; rfl
            · rw [if_neg (fun z => c3 (hq.mp z)), if_neg c3]
        have k := key (pairUp r) rfl
        have fin : (if (r.length % 2 = 0 ∧ (a < ↑n ∧ b < ↑n ∧ ∀ x ∈ r, x < (n : Int)) ∧ rising (pairUp (a :: b :: r)) = true) then some ((pairUp (a :: b :: r)).map natP) else none) = if rising ((a, b) :: pairUp r) = true then some (natP (a, b) :: (pairUp r).map natP) else none := by
          by_cases c4 : rising ((a, b) :: pairUp r) = true
          · rw [if_pos c4, if_pos ⟨e1, ⟨h1, h2, e2⟩, c4⟩]; rfl
          · rw [if_neg c4, if_neg (fun z => c4 z.2.2)]
        rw [fin, ← k]
        rfl
      · rw [if_neg c2, if_neg]
        rintro ⟨z1, ⟨_, _, z2⟩, z3⟩
        refine c2 ⟨z1, z2, ?_⟩
        simp only [pairUp] at z3
        cases hr : pairUp r with
        | nil => rfl
        | cons p q =>
          rw [hr] at z3
          have er : rising ((a, b) :: p :: q) = (lt2 (a, b) p && rising (p :: q)) := rfl
          rw [er, Bool.and_eq_true] at z3
          exact z3.2
theorem graphOf_eq (n : Int) (ns : List Int) (hn : 0 ≤ n) (hp : ∀ x ∈ ns, 0 ≤ x) : graphOf n.toNat (ns.map Int.toNat) = if isGraph n ns = true then some (gr n ns) else none := by
  unfold graphOf
  rw [pairsOf_eq n.toNat ns hp]
  have hb : isGraph n ns = true ↔ (1 ≤ n ∧ n ≤ 5 ∧ ns.length % 2 = 0 ∧ (∀ x ∈ ns, x < ((n.toNat : Nat) : Int)) ∧ rising (pairUp ns) = true) := by
    unfold isGraph
    simp only [Bool.and_eq_true, decide_eq_true_eq, List.all_eq_true, and_assoc]
    constructor
    · rintro ⟨h1, h2, h3, h4, h5⟩
      exact ⟨h1, h2, h3, fun x hx => by have := (h4 x hx).2; omega, h5⟩
    · rintro ⟨h1, h2, h3, h4, h5⟩
      exact ⟨h1, h2, h3, fun x hx => ⟨hp x hx, by have := h4 x hx; omega⟩, h5⟩
  have hP : Ks547.PLACES = 5 := rfl
  by_cases c : n.toNat < 1 ∨ Ks547.PLACES < n.toNat
  · rw [if_pos c, if_neg]
    intro z
    have := hb.mp z
    omega
  · rw [if_neg c]
    by_cases c2 : isGraph n ns = true
    · rw [if_pos c2, if_pos (hb.mp c2).2.2]
      rfl
    · rw [if_neg c2, if_neg]
      · rfl
      · intro z
        refine c2 (hb.mpr ⟨by omega, by omega, z⟩)

/-! ### graphs that are as told -/
structure Wf (g : Graph) : Prop where
  lo : 1 ≤ g.n
  hi : g.n ≤ 5
  inn : ∀ p ∈ g.arrows, p.1 < g.n ∧ p.2 < g.n
def nlt (p q : Nat × Nat) : Prop := p.1 < q.1 ∨ (p.1 = q.1 ∧ p.2 < q.2)
theorem has_iff {g : Graph} {u v : Nat} : has g u v = true ↔ (u, v) ∈ g.arrows := by
  unfold has
  exact List.contains_iff_mem
theorem isGraph_iff {n : Int} {ns : List Int} : isGraph n ns = true ↔ (1 ≤ n ∧ n ≤ 5 ∧ ns.length % 2 = 0 ∧ (∀ x ∈ ns, 0 ≤ x ∧ x < n) ∧ rising (pairUp ns) = true) := by
  unfold isGraph
  simp only [Bool.and_eq_true, decide_eq_true_eq, List.all_eq_true, and_assoc]
theorem gr_wf {n : Int} {ns : List Int} (h : isGraph n ns = true) : Wf (gr n ns) := by
  obtain ⟨h1, h2, h3, h4, h5⟩ := isGraph_iff.mp h
  refine ⟨by show 1 ≤ n.toNat; omega, by show n.toNat ≤ 5; omega, fun p hp => ?_⟩
  obtain ⟨q, hq, rfl⟩ := List.mem_map.mp hp
  have hm := pairUp_mem ns q hq
  have a1 := h4 _ hm.1
  have a2 := h4 _ hm.2
  show q.1.toNat < n.toNat ∧ q.2.toNat < n.toNat
  omega
theorem rising_head : ∀ (ps : List (Int × Int)) (p : Int × Int), rising (p :: ps) = true → ∀ q ∈ ps, lt2 p q = true
  | [], p, _, q, hq => by simp at hq
  | a :: r, p, h, q, hq => by
    have er : rising (p :: a :: r) = (lt2 p a && rising (a :: r)) := rfl
    rw [er, Bool.and_eq_true] at h
    rcases List.mem_cons.mp hq with rfl | hq
    · exact h.1
    · have ih := rising_head r a h.2 q hq
      have h1 := h.1
      unfold lt2 at ih h1 ⊢
      by_cases c1 : p.1 = a.1
      · rw [if_pos c1, decide_eq_true_eq] at h1
        by_cases c2 : a.1 = q.1
        · rw [if_pos c2, decide_eq_true_eq] at ih
          rw [if_pos (c1.trans c2), decide_eq_true_eq]; omega
        · rw [if_neg c2, decide_eq_true_eq] at ih
          rw [if_neg (by omega), decide_eq_true_eq]; omega
      · rw [if_neg c1, decide_eq_true_eq] at h1
        by_cases c2 : a.1 = q.1
        · rw [if_pos c2, decide_eq_true_eq] at ih
          rw [if_neg (by omega), decide_eq_true_eq]; omega
        · rw [if_neg c2, decide_eq_true_eq] at ih
          rw [if_neg (by omega), decide_eq_true_eq]; omega
theorem rising_pair : ∀ (ps : List (Int × Int)), rising ps = true → ps.Pairwise (fun p q => lt2 p q = true)
  | [], _ => .nil
  | p :: r, h => by
    refine List.Pairwise.cons (rising_head r p h) (rising_pair r ?_)
    cases r with
    | nil => rfl
    | cons a r =>
      have er : rising (p :: a :: r) = (lt2 p a && rising (a :: r)) := rfl
      rw [er, Bool.and_eq_true] at h
      exact h.2
theorem gr_rise {n : Int} {ns : List Int} (h : isGraph n ns = true) : (gr n ns).arrows.Pairwise nlt := by
  obtain ⟨h1, h2, h3, h4, h5⟩ := isGraph_iff.mp h
  refine List.pairwise_map.mpr (List.Pairwise.imp_of_mem ?_ (rising_pair _ h5))
  intro p q hp hq hl
  have hm := pairUp_mem ns p hp
  have hm' := pairUp_mem ns q hq
  have a1 := h4 _ hm.1
  have a2 := h4 _ hm.2
  have a3 := h4 _ hm'.1
  have a4 := h4 _ hm'.2
  show p.1.toNat < q.1.toNat ∨ (p.1.toNat = q.1.toNat ∧ p.2.toNat < q.2.toNat)
  unfold lt2 at hl
  by_cases c : p.1 = q.1
  · rw [if_pos c, decide_eq_true_eq] at hl; omega
  · rw [if_neg c, decide_eq_true_eq] at hl; omega
/-- each number of it is none below 0 -/
theorem gr_back {n : Int} {ns : List Int} (h : isGraph n ns = true) : pairUp ns = (gr n ns).arrows.map (fun p => ((p.1 : Int), (p.2 : Int))) := by
  obtain ⟨h1, h2, h3, h4, h5⟩ := isGraph_iff.mp h
  show pairUp ns = ((pairUp ns).map natP).map _
  rw [List.map_map]
  conv => lhs; rw [← List.map_id (pairUp ns)]
  refine List.map_congr_left fun p hp => ?_
  have hm := pairUp_mem ns p hp
  have a1 := h4 _ hm.1
  have a2 := h4 _ hm.2
  show p = (((p.1.toNat : Nat) : Int), ((p.2.toNat : Nat) : Int))
  rw [Int.toNat_of_nonneg a1.1, Int.toNat_of_nonneg a2.1]
end Tow
namespace Tow
open Ks547 (Graph has graphOf pairsOf)
open Ks551 (canWalk onward deep)
/-! ### walks -/
def stp (c : Nat → Bool) (ps : List (Nat × Nat)) (u : Nat) : Bool := ps.any fun p => p.1 == u && c p.2
theorem stp_all {g : Graph} (W : Wf g) (c : Nat → Bool) (u : Nat) : stp c g.arrows u = (List.range g.n).any (fun v => has g u v && c v) := by
  rw [Bool.eq_iff_iff]
  unfold stp
  simp only [List.any_eq_true, Bool.and_eq_true, beq_iff_eq, List.mem_range, has_iff]
  constructor
  · rintro ⟨⟨a, b⟩, hp, rfl, hc⟩
    exact ⟨b, (W.inn _ hp).2, hp, hc⟩
  · rintro ⟨v, hv, hp, hc⟩
    exact ⟨(u, v), hp, rfl, hc⟩
theorem canWalk_succ {g : Graph} (W : Wf g) (k u : Nat) : canWalk g (k + 1) u = stp (canWalk g k) g.arrows u := (stp_all W _ u).symm
theorem canWalk_iff {g : Graph} (W : Wf g) {k u : Nat} : canWalk g (k + 1) u = true ↔ ∃ v, (u, v) ∈ g.arrows ∧ canWalk g k v = true := by
  rw [canWalk_succ W]
  unfold stp
  simp only [List.any_eq_true, Bool.and_eq_true, beq_iff_eq]
  constructor
  · rintro ⟨⟨a, b⟩, hp, rfl, hc⟩
    exact ⟨b, hp, hc⟩
  · rintro ⟨v, hp, hc⟩
    exact ⟨(u, v), hp, rfl, hc⟩
theorem stp_nil (c : Nat → Bool) (u : Nat) : stp c [] u = false := rfl
theorem stp_snoc (c : Nat → Bool) (ps : List (Nat × Nat)) (p : Nat × Nat) (u : Nat) : stp c (ps ++ [p]) u = (stp c ps u || (p.1 == u && c p.2)) := by
  unfold stp
  rw [List.any_append]
  simp
/-- one turn of the inner loop of starts_by_length -/
theorem row_turn {n : Nat} (c : Nat → Bool) {ps : List (Nat × Nat)} {p : Nat × Nat} (hc : c p.2 = true) :
    ((List.range n).map (stp c ps)).set p.1 true = (List.range n).map (stp c (ps ++ [p])) := by
  refine List.ext_getElem? fun i => ?_
  rw [List.getElem?_set]
  simp only [List.length_map, List.length_range, List.getElem?_map]
  by_cases hi : i < n
  · rw [List.getElem?_range hi]
    simp only [Option.map_some, stp_snoc, hc, Bool.and_true]
    by_cases e : p.1 = i
    · subst e; simp [hi]
    · simp [e]
  · have : (List.range n)[i]? = none := by simp; omega
    rw [this]
    by_cases e : p.1 = i
    · subst e; simp [hi]
    · simp [e]
theorem row_skip {n : Nat} (c : Nat → Bool) {ps : List (Nat × Nat)} {p : Nat × Nat} (hc : c p.2 = false) :
    (List.range n).map (stp c ps) = (List.range n).map (stp c (ps ++ [p])) := by
  refine List.map_congr_left fun u _ => ?_
  rw [stp_snoc, hc]
  simp
theorem row_start {n : Nat} (c : Nat → Bool) : List.replicate n false = (List.range n).map (stp c []) := by
  refine List.ext_getElem (by simp) fun i h1 h2 => ?_
  simp [stp_nil]
theorem row_zero (g : Graph) (n : Nat) : List.replicate n true = (List.range n).map (canWalk g 0) := by
  refine List.ext_getElem (by simp) fun i h1 h2 => ?_
  simp [canWalk]
theorem row_end {g : Graph} (W : Wf g) (l n : Nat) : (List.range n).map (stp (canWalk g l) g.arrows) = (List.range n).map (canWalk g (l + 1)) :=
  List.map_congr_left fun u _ => (canWalk_succ W l u).symm
theorem canWalk_less {g : Graph} (W : Wf g) : ∀ (k u : Nat), canWalk g (k + 1) u = true → canWalk g k u = true
  | 0, _, _ => rfl
  | k + 1, u, h => by
    obtain ⟨v, hv, hc⟩ := (canWalk_iff W).mp h
    exact (canWalk_iff W).mpr ⟨v, hv, canWalk_less W k v hc⟩
/-! ### how deep -/
theorem le_foldl_max : ∀ (l : List Nat) (a : Nat), a ≤ l.foldl max a ∧ ∀ x ∈ l, x ≤ l.foldl max a
  | [], a => ⟨Nat.le_refl _, fun x h => by simp at h⟩
  | y :: r, a => by
    have ih := le_foldl_max r (max a y)
    simp only [List.foldl_cons]
    refine ⟨by have := ih.1; omega, fun x hx => ?_⟩
    rcases List.mem_cons.mp hx with rfl | hx
    · have := ih.1; omega
    · exact ih.2 x hx
theorem foldl_max_le : ∀ (l : List Nat) (a m : Nat), a ≤ m → (∀ x ∈ l, x ≤ m) → l.foldl max a ≤ m
  | [], a, m, h, _ => h
  | y :: r, a, m, h, hl => by
    simp only [List.foldl_cons]
    refine foldl_max_le r _ m ?_ fun x hx => hl x (by simp [hx])
    have := hl y (by simp)
    omega
theorem deep_ge {g : Graph} (W : Wf g) {k u v : Nat} (h : (u, v) ∈ g.arrows) : deep g k u + 1 ≤ deep g (k + 1) v := by
  show _ ≤ List.foldl max 0 _
  refine (le_foldl_max _ 0).2 _ (List.mem_map.mpr ⟨u, List.mem_range.mpr (W.inn _ h).1, ?_⟩)
  rw [if_pos (has_iff.mpr h)]
theorem deep_le {g : Graph} {k v m : Nat} (h : ∀ u, (u, v) ∈ g.arrows → deep g k u + 1 ≤ m) : deep g (k + 1) v ≤ m := by
  show List.foldl max 0 _ ≤ m
  refine foldl_max_le _ 0 m (Nat.zero_le _) fun x hx => ?_
  obtain ⟨u, _, rfl⟩ := List.mem_map.mp hx
  by_cases c : has g u v = true
  · rw [if_pos c]; exact h u (has_iff.mp c)
  · rw [if_neg c]; exact Nat.zero_le _
/-- where it isn't 0 some arrow tells why -/
theorem deep_by {g : Graph} {k v j : Nat} (h : j + 1 ≤ deep g (k + 1) v) : ∃ u, (u, v) ∈ g.arrows ∧ j ≤ deep g k u := by
  apply Classical.byContradiction
  intro hn
  have : deep g (k + 1) v ≤ j := deep_le fun u hu => by
    have : ¬ j ≤ deep g k u := fun z => hn ⟨u, hu, z⟩
    omega
  omega
theorem deep_mono {g : Graph} (W : Wf g) : ∀ (k v : Nat), deep g k v ≤ deep g (k + 1) v
  | 0, v => Nat.zero_le _
  | k + 1, v => deep_le fun u hu => Nat.le_trans (Nat.succ_le_succ (deep_mono W k u)) (deep_ge W hu)
theorem deep_new {g : Graph} (W : Wf g) : ∀ (k v : Nat), deep g (k + 1) v = deep g k v ∨ k + 1 ≤ deep g (k + 1) v
  | 0, v => by
    rcases Nat.eq_zero_or_pos (deep g 1 v) with h | h
    · left; exact h
    · right; exact h
  | k + 1, v => by
    by_cases c : deep g (k + 1 + 1) v = deep g (k + 1) v
    · exact .inl c
    · right
      have m := deep_mono W (k + 1) v
      obtain ⟨u, hu, hd⟩ := deep_by (g := g) (k := k + 1) (v := v) (j := deep g (k + 1) v) (by omega)
      rcases deep_new W k u with e | e
      · have := deep_ge W (k := k) hu
        omega
      · have := deep_ge W (k := k + 1) hu
        omega
/-- a walk behind, a walk ahead -/
theorem deep_walk {g : Graph} (W : Wf g) : ∀ (j k v m : Nat), v < g.n → j ≤ deep g k v → canWalk g m v = true → ∃ u, u < g.n ∧ canWalk g (j + m) u = true
  | 0, _, v, m, hv, _, hc => ⟨v, hv, by rw [Nat.zero_add]; exact hc⟩
  | j + 1, 0, v, m, hv, hd, _ => by simp [deep] at hd
  | j + 1, k + 1, v, m, hv, hd, hc => by
    obtain ⟨u, hu, h⟩ := deep_by hd
    obtain ⟨x, hx, hw⟩ := deep_walk W j k u (m + 1) (W.inn _ hu).1 h ((canWalk_iff W).mpr ⟨v, hu, hc⟩)
    exact ⟨x, hx, by rw [show j + 1 + m = j + (m + 1) by omega]; exact hw⟩
def NoWalk (g : Graph) (k : Nat) : Prop := ∀ u, u < g.n → canWalk g k u = false
theorem deep_lt {g : Graph} (W : Wf g) {k : Nat} (h : NoWalk g k) {j v : Nat} (hv : v < g.n) : deep g j v < k := by
  rcases Nat.lt_or_ge (deep g j v) k with q | q
  · exact q
  · obtain ⟨u, hu, hc⟩ := deep_walk W k j v 0 hv q rfl
    rw [Nat.add_zero, h u hu] at hc
    cases hc
theorem deep_fix {g : Graph} (W : Wf g) {k : Nat} (h : NoWalk g k) {v : Nat} (hv : v < g.n) : deep g (k + 1) v = deep g k v := by
  rcases deep_new W k v with e | e
  · exact e
  · have := deep_lt W h (j := k + 1) hv
    omega
theorem nodup_small : ∀ (n : Nat) (l : List Nat), l.Nodup → (∀ x ∈ l, x < n) → l.length ≤ n
  | 0, l, _, h => by
    cases l with
    | nil => exact Nat.le_refl _
    | cons x r => exact absurd (h x (by simp)) (Nat.not_lt_zero _)
  | n + 1, l, hd, h => by
    have ih := nodup_small n (l.erase n) (hd.erase n) fun x hx => by
      have h1 := (hd.mem_erase_iff).mp hx
      have := h x h1.2
      have := h1.1
      omega
    by_cases c : n ∈ l
    · rw [List.length_erase_of_mem c] at ih
      omega
    · rw [List.erase_of_not_mem c] at ih
      omega
theorem walk_list {g : Graph} (W : Wf g) (h : Nat → Nat) (hh : ∀ u v, (u, v) ∈ g.arrows → h u < h v) : ∀ (m u : Nat), u < g.n → canWalk g m u = true →
    ∃ l : List Nat, l.length = m + 1 ∧ (∀ x ∈ l, x < g.n) ∧ (∀ x ∈ l, h u ≤ h x) ∧ l.Nodup
  | 0, u, hu, _ => ⟨[u], rfl, by simpa using hu, by simp, by simp⟩
  | m + 1, u, hu, hc => by
    obtain ⟨v, hv, hw⟩ := (canWalk_iff W).mp hc
    obtain ⟨l, e1, e2, e3, e4⟩ := walk_list W h hh m v (W.inn _ hv).2 hw
    have := hh u v hv
    refine ⟨u :: l, by simp [e1], ?_, ?_, ?_⟩
    · intro x hx
      rcases List.mem_cons.mp hx with rfl | hx
      · exact hu
      · exact e2 x hx
    · intro x hx
      rcases List.mem_cons.mp hx with rfl | hx
      · exact Nat.le_refl _
      · have := e3 x hx; omega
    · refine List.nodup_cons.mpr ⟨fun hx => ?_, e4⟩
      have := e3 u hx
      omega
theorem noWalk_n {g : Graph} (W : Wf g) {k : Nat} (h : NoWalk g k) : NoWalk g g.n := by
  intro u hu
  cases hc : canWalk g g.n u with
  | false => rfl
  | true =>
    obtain ⟨l, e1, e2, _, e4⟩ := walk_list W (deep g k) (fun a b hab => by
      have h1 := deep_ge W (k := k) hab
      rw [deep_fix W h (W.inn _ hab).2] at h1
      exact h1) g.n u hu hc
    have := nodup_small g.n l e4 e2
    omega
/-! ### the heights -/
structure Hts (g : Graph) (r : Nat) (done : List (Nat × Nat)) (h : List Nat) : Prop where
  len : h.length = g.n
  lo : ∀ v, v < g.n → deep g r v ≤ h.getD v 0
  hi : ∀ v, v < g.n → h.getD v 0 ≤ deep g g.n v
  got : ∀ p ∈ done, deep g r p.1 + 1 ≤ h.getD p.2 0
theorem hts_zero (g : Graph) : Hts g 0 [] (List.replicate g.n 0) := by
  refine ⟨by simp, fun v _ => Nat.zero_le _, fun v hv => ?_, fun p hp => by simp at hp⟩
  have e : (List.replicate g.n 0).getD v 0 = 0 := by simp [hv]
  rw [e]
  exact Nat.zero_le _
theorem getD_set {l : List Nat} {i j x : Nat} (hi : i < l.length) : (l.set i x).getD j 0 = if i = j then x else l.getD j 0 := by
  simp only [List.getD_eq_getElem?_getD, List.getElem?_set]
  by_cases e : i = j
  · subst e; simp [hi]
  · simp [e]
theorem hts_turn {g : Graph} (W : Wf g) (N : NoWalk g g.n) {r : Nat} {done : List (Nat × Nat)} {h : List Nat} (s : Hts g r done h) {p : Nat × Nat} (hp : p ∈ g.arrows) :
    Hts g r (done ++ [p]) (h.set p.2 (max (h.getD p.2 0) (h.getD p.1 0 + 1))) := by
  obtain ⟨h1, h2⟩ := W.inn p hp
  have hl : p.2 < h.length := by rw [s.len]; exact h2
  refine ⟨by rw [List.length_set]; exact s.len, fun v hv => ?_, fun v hv => ?_, fun q hq => ?_⟩
  · rw [getD_set hl]
    have := s.lo v hv
    by_cases e : p.2 = v
    · rw [if_pos e]; subst e; omega
    · rw [if_neg e]; exact this
  · rw [getD_set hl]
    have := s.hi v hv
    by_cases e : p.2 = v
    · rw [if_pos e]; subst e
      have a := s.hi p.1 h1
      have b : deep g g.n p.1 + 1 ≤ deep g (g.n + 1) p.2 := deep_ge W hp
      rw [deep_fix W N h2] at b
      omega
    · rw [if_neg e]; exact this
  · rw [getD_set hl]
    rcases List.mem_append.mp hq with hq | hq
    · have := s.got q hq
      by_cases e : p.2 = q.2
      · rw [if_pos e, e]; omega
      · rw [if_neg e]; exact this
    · have e : q = p := by simpa using hq
      subst e
      rw [if_pos rfl]
      have := s.lo q.1 h1
      omega
theorem hts_round {g : Graph} {r : Nat} {h : List Nat} (s : Hts g r g.arrows h) : Hts g (r + 1) [] h :=
  ⟨s.len, fun v _ => deep_le fun u hu => s.got (u, v) hu, s.hi, fun p hp => by simp at hp⟩
theorem hts_end {g : Graph} {h : List Nat} (s : Hts g g.n [] h) : h = Ks551.lift g := by
  refine List.ext_getElem (by rw [s.len]; simp [Ks551.lift]) fun i h1 h2 => ?_
  have hi : i < g.n := by rw [← s.len]; exact h1
  have a := s.lo i hi
  have b := s.hi i hi
  have e : h.getD i 0 = h[i] := by simp [h1]
  have e2 : (Ks551.lift g)[i] = deep g g.n i := by simp [Ks551.lift]
  rw [e] at a b
  rw [e2]
  omega
end Tow
namespace Tow
open Ks547 (Graph has graphOf pairsOf rows keeps maps)
open Ks551 (canWalk onward deep lift round walk)
/-! ### round, longest -/
theorem find_none_iff {g : Graph} {k : Nat} : (List.range g.n).find? (canWalk g k) = none ↔ NoWalk g k := by
  rw [List.find?_eq_none]
  constructor
  · intro h u hu
    have := h u (List.mem_range.mpr hu)
    simpa using this
  · intro h u hu
    have := h u (List.mem_range.mp hu)
    simp [this]
theorem walk_none_iff {g : Graph} {k : Nat} : walk g k = none ↔ NoWalk g k := by
  unfold walk
  rw [Option.map_eq_none_iff]
  exact find_none_iff
theorem any_false_iff {g : Graph} {k : Nat} : ((List.range g.n).map (canWalk g k)).any id = false ↔ NoWalk g k := by
  rw [List.any_map]
  simp only [List.any_eq_false, List.mem_range, Function.comp, id]
  constructor
  · intro h u hu
    have := h u hu
    simpa using this
  · intro h u hu
    simp [h u hu]
theorem round_eq (g : Graph) : round g = ((List.range g.n).map (canWalk g g.n)).any id := by
  unfold round
  cases hw : walk g g.n with
  | none =>
    rw [any_false_iff.mpr (walk_none_iff.mp hw)]
    rfl
  | some l =>
    cases ha : ((List.range g.n).map (canWalk g g.n)).any id with
    | true => rfl
    | false =>
      rw [walk_none_iff.mpr (any_false_iff.mp ha)] at hw
      cases hw
theorem noWalk_of_round {g : Graph} (h : round g = false) : NoWalk g g.n := by
  rw [round_eq] at h
  exact any_false_iff.mp h
theorem foldl_max_is {l : List Nat} {m : Nat} (hm : m ∈ l) (hle : ∀ x ∈ l, x ≤ m) : l.foldl max 0 = m :=
  Nat.le_antisymm (foldl_max_le l 0 m (Nat.zero_le _) hle) ((le_foldl_max l 0).2 m hm)
/-! ### into the tower -/
theorem head_range {α : Type} (F : Nat → List α) (y : α) : ∀ (m x0 : Nat), x0 < m → (∀ x, x < x0 → F x = []) → (F x0).head? = some y → ((List.range m).flatMap F).head? = some y
  | 0, x0, h, _, _ => absurd h (Nat.not_lt_zero _)
  | m + 1, x0, h, h0, hy => by
    rw [List.range_succ, List.flatMap_append, List.head?_append]
    by_cases c : x0 < m
    · rw [head_range F y m x0 c h0 hy]
      rfl
    · have e : x0 = m := by omega
      subst e
      have z : (List.range x0).flatMap F = [] := by
        rw [List.flatMap_eq_nil_iff]
        intro x hx
        exact h0 x (List.mem_range.mp hx)
      rw [z]
      simp [hy]
theorem head_rows (m : Nat) : ∀ (n : Nat) (P : List Nat → Bool) (d : List Nat), d.length = n → (∀ x ∈ d, x < m) → P d = true → (∀ f, f.length = n → P f = true → ∀ i, i < n → d.getD i 0 ≤ f.getD i 0) → ((rows m n).filter P).head? = some d
  | 0, P, d, hl, _, hP, _ => by
    have e : d = [] := List.length_eq_zero_iff.mp hl
    subst e
    simp [rows, hP]
  | n + 1, P, [], hl, _, _, _ => by simp at hl
  | n + 1, P, x0 :: d, hl, hm, hP, hle => by
    have hl' : d.length = n := by simpa using hl
    show (((List.range m).flatMap fun x => (rows m n).map fun r => x :: r).filter P).head? = _
    rw [List.filter_flatMap]
    have hlen : ∀ (n : Nat) (r : List Nat), r ∈ rows m n → r.length = n := by
      intro n
      induction n with
      | zero => intro r hr; simp [rows] at hr; simp [hr]
      | succ n ih =>
        intro r hr
        simp only [rows, List.mem_flatMap, List.mem_map] at hr
        obtain ⟨x, _, r', hr', rfl⟩ := hr
        simp [ih r' hr']
    refine head_range _ _ m x0 (hm x0 (by simp)) (fun x hx => ?_) ?_
    · rw [List.filter_eq_nil_iff]
      intro f hf hPf
      obtain ⟨r, hr, rfl⟩ := List.mem_map.mp hf
      have := hle (x :: r) (by simp [hlen n r hr]) hPf 0 (by omega)
      simp at this
      omega
    · rw [List.filter_map, List.head?_map]
      have ih := head_rows m n (P ∘ fun r => x0 :: r) d hl' (fun x hx => hm x (by simp [hx])) hP fun f hf hPf i hi => by
        have := hle (x0 :: f) (by simp [hf]) hPf (i + 1) (by omega)
        simpa using this
      rw [ih]
      rfl
theorem has_tower {k u v : Nat} : has (Ks551.tower k) u v = true ↔ u < v ∧ v < k := by
  rw [has_iff]
  show (u, v) ∈ (List.range k).flatMap _ ↔ _
  simp only [List.mem_flatMap, List.mem_map, List.mem_filter, List.mem_range, decide_eq_true_eq, Prod.mk.injEq]
  constructor
  · rintro ⟨a, ha, b, ⟨hb, hab⟩, rfl, rfl⟩
    exact ⟨hab, hb⟩
  · rintro ⟨h1, h2⟩
    exact ⟨u, by omega, v, ⟨h2, h1⟩, rfl, rfl⟩
theorem keeps_iff {g : Graph} {k : Nat} {f : List Nat} : keeps g (Ks551.tower k) f = true ↔ f.length = g.n ∧ (∀ x ∈ f, x < k) ∧ ∀ p ∈ g.arrows, f.getD p.1 0 < f.getD p.2 0 ∧ f.getD p.2 0 < k := by
  unfold keeps
  simp only [Bool.and_eq_true, beq_iff_eq, List.all_eq_true, decide_eq_true_eq, has_tower, and_assoc]
  rfl
theorem lift_len (g : Graph) : (lift g).length = g.n := by simp [lift]
theorem lift_at {g : Graph} {v : Nat} (h : v < g.n) : (lift g).getD v 0 = deep g g.n v := by
  unfold lift
  simp [h]
theorem keeps_ge {g : Graph} (W : Wf g) {k : Nat} {f : List Nat} (hf : keeps g (Ks551.tower k) f = true) : ∀ (j v : Nat), deep g j v ≤ f.getD v 0
  | 0, _ => Nat.zero_le _
  | j + 1, v => deep_le fun u hu => by
    have h1 : f.getD u 0 < f.getD v 0 := ((keeps_iff.mp hf).2.2 (u, v) hu).1
    have h2 := keeps_ge W hf j u
    omega
theorem tower_some {g : Graph} (W : Wf g) {k : Nat} (h : NoWalk g k) : (maps g (Ks551.tower k)).head? = some (lift g) := by
  have N := noWalk_n W h
  unfold maps
  refine head_rows _ _ _ _ (lift_len g) ?_ ?_ ?_
  · intro x hx
    obtain ⟨v, hv, rfl⟩ := List.mem_map.mp hx
    exact deep_lt W h (List.mem_range.mp hv)
  · refine keeps_iff.mpr ⟨lift_len g, ?_, fun p hp => ?_⟩
    · intro x hx
      obtain ⟨v, hv, rfl⟩ := List.mem_map.mp hx
      exact deep_lt W h (List.mem_range.mp hv)
    · obtain ⟨h1, h2⟩ := W.inn p hp
      rw [lift_at h1, lift_at h2]
      have a := deep_ge W (k := g.n) hp
      rw [deep_fix W N h2] at a
      exact ⟨a, deep_lt W h h2⟩
  · intro f hf hP i hi
    rw [lift_at hi]
    exact keeps_ge W hP g.n i
theorem keeps_walk {g : Graph} (W : Wf g) {k : Nat} {f : List Nat} (hf : keeps g (Ks551.tower k) f = true) : ∀ (j u : Nat), u < g.n → canWalk g j u = true → f.getD u 0 + j < k
  | 0, u, hu, _ => by
    obtain ⟨h1, h2, _⟩ := keeps_iff.mp hf
    have hl : u < f.length := by omega
    have e : f.getD u 0 = f[u] := by simp [hl]
    rw [e]
    exact h2 _ (List.getElem_mem hl)
  | j + 1, u, hu, hc => by
    obtain ⟨v, hv, hw⟩ := (canWalk_iff W).mp hc
    have := keeps_walk W hf j v (W.inn _ hv).2 hw
    have := ((keeps_iff.mp hf).2.2 (u, v) hv).1
    simp only at this
    omega
theorem tower_none {g : Graph} (W : Wf g) {k u : Nat} (hu : u < g.n) (hc : canWalk g k u = true) : (maps g (Ks551.tower k)).head? = none := by
  unfold maps
  rw [List.head?_eq_none_iff, List.filter_eq_nil_iff]
  intro f _ hf
  have := keeps_walk W hf k u hu hc
  omega
/-! ### the first walk -/
/-- of the arrows that rise the first that leads on is the least -/
theorem first_target {g : Graph} (W : Wf g) (R : g.arrows.Pairwise nlt) (c : Nat → Bool) (u : Nat) :
    ((g.arrows.filter fun p => p.1 == u && c p.2).map (·.2)).head? = (List.range g.n).find? fun v => has g u v && c v := by
  cases hh : ((g.arrows.filter fun p => p.1 == u && c p.2)) with
  | nil =>
    simp only [List.map_nil, List.head?_nil]
    symm
    rw [List.find?_eq_none]
    intro v hv hb
    rw [Bool.and_eq_true, has_iff] at hb
    have : (u, v) ∈ g.arrows.filter fun p => p.1 == u && c p.2 := List.mem_filter.mpr ⟨hb.1, by simp [hb.2]⟩
    rw [hh] at this
    simp at this
  | cons p r =>
    simp only [List.map_cons, List.head?_cons]
    symm
    have hp : p ∈ g.arrows.filter fun p => p.1 == u && c p.2 := by rw [hh]; simp
    obtain ⟨hp1, hp2⟩ := List.mem_filter.mp hp
    rw [Bool.and_eq_true, beq_iff_eq] at hp2
    have hpw : (p :: r).Pairwise nlt := by rw [← hh]; exact R.filter _
    rw [List.find?_range_eq_some]
    refine ⟨?_, ?_, ?_⟩
    · rw [Bool.and_eq_true, has_iff, ← hp2.1]
      exact ⟨hp1, hp2.2⟩
    · exact List.mem_range.mpr (W.inn p hp1).2
    · intro j hj
      cases hb : (has g u j && c j) with
      | false => rfl
      | true =>
        exfalso
        rw [Bool.and_eq_true, has_iff] at hb
        have hm : (u, j) ∈ g.arrows.filter fun p => p.1 == u && c p.2 := List.mem_filter.mpr ⟨hb.1, by simp [hb.2]⟩
        rw [hh] at hm
        rcases List.mem_cons.mp hm with e | hm
        · have e2 : j = p.2 := congrArg Prod.snd e
          omega
        · have h3 : nlt p (u, j) := (List.pairwise_cons.mp hpw).1 _ hm
          have h4 : p.1 < u ∨ (p.1 = u ∧ p.2 < j) := h3
          omega
/-- the walk told so far, from u on, l places still to be told -/
theorem onward_step {g : Graph} (W : Wf g) (R : g.arrows.Pairwise nlt) {k u : Nat} (hc : canWalk g (k + 1) u = true) :
    ∃ v, v < g.n ∧ canWalk g k v = true ∧ ((g.arrows.filter fun p => p.1 == u && canWalk g k p.2).map (·.2)).head? = some v ∧ onward g (k + 1) u = u :: onward g k v := by
  rw [first_target W R (canWalk g k) u]
  cases hf : (List.range g.n).find? (fun v => has g u v && canWalk g k v) with
  | none =>
    exfalso
    obtain ⟨v, hv, hw⟩ := (canWalk_iff W).mp hc
    rw [List.find?_eq_none] at hf
    refine hf v (List.mem_range.mpr (W.inn _ hv).2) ?_
    rw [Bool.and_eq_true, has_iff]
    exact ⟨hv, hw⟩
  | some v =>
    have h1 := List.mem_range.mp (List.mem_of_find?_eq_some hf)
    have h2 := List.find?_some hf
    rw [Bool.and_eq_true] at h2
    refine ⟨v, h1, h2.2, rfl, ?_⟩
    show (match (List.range g.n).find? fun v => has g u v && canWalk g k v with
      | none => [u]
      | some v => u :: onward g k v) = _
    rw [hf]
theorem onward_len {g : Graph} (W : Wf g) (R : g.arrows.Pairwise nlt) : ∀ (k u : Nat), canWalk g k u = true → (onward g k u).length = k + 1
  | 0, _, _ => rfl
  | k + 1, u, h => by
    obtain ⟨v, _, hc, _, e⟩ := onward_step W R h
    rw [e, List.length_cons, onward_len W R k v hc]
/-- where it starts: the first from which it may be walked -/
theorem start_head {g : Graph} {k : Nat} : ((List.range g.n).filter (canWalk g k)).head? = (List.range g.n).find? (canWalk g k) := by
  rw [List.head?_filter]
theorem walk_eq {g : Graph} {k u : Nat} (h : ((List.range g.n).filter (canWalk g k)).head? = some u) : walk g k = some (onward g k u) ∧ u < g.n ∧ canWalk g k u = true := by
  rw [start_head] at h
  refine ⟨?_, List.mem_range.mp (List.mem_of_find?_eq_some h), List.find?_some h⟩
  unfold walk
  rw [h]
  rfl
theorem start_none {g : Graph} {k : Nat} (h : (List.range g.n).filter (canWalk g k) = []) : NoWalk g k := by
  rw [← find_none_iff, ← start_head, h]
  rfl
/-! ### what is due -/
def outI (r : Int) (l : List Nat) : List Int := r :: l.map Int.ofNat
theorem longest_due {n : Int} {ns : List Int} (hn : 0 ≤ n) (hp : ∀ x ∈ ns, 0 ≤ x) : PyKs551.longest n ns =
    if isGraph n ns = true then (if round (gr n ns) = true then [-33] else [(((lift (gr n ns)).foldl max 0 : Nat) : Int)]) else [-22] := by
  show Ks551Neutral.out (Ks551.answer (.longest n.toNat (ns.map Int.toNat))) = _
  show Ks551Neutral.out (Ks547.graph n.toNat (ns.map Int.toNat) _) = _
  unfold Ks547.graph
  rw [graphOf_eq n ns hn hp]
  by_cases c : isGraph n ns = true
  · rw [if_pos c, if_pos c]
    show Ks551Neutral.out (if round (gr n ns) = true then _ else _) = _
    by_cases c2 : round (gr n ns) = true
    · rw [if_pos c2, if_pos c2]; rfl
    · rw [if_neg c2, if_neg c2]; rfl
  · rw [if_neg c, if_neg c]; rfl
theorem tower_due {n k : Int} {ns : List Int} (hn : 0 ≤ n) (hk : 0 ≤ k) (hp : ∀ x ∈ ns, 0 ≤ x) : PyKs551.tower n k ns =
    if isGraph n ns = true ∧ 1 ≤ k ∧ k ≤ 6 then (match walk (gr n ns) k.toNat with | none => outI 1 (lift (gr n ns)) | some w => outI 0 w) else [-22] := by
  show Ks551Neutral.out (Ks551.answer (.tower n.toNat k.toNat (ns.map Int.toNat))) = _
  show Ks551Neutral.out (Ks547.graph n.toNat (ns.map Int.toNat) _) = _
  unfold Ks547.graph
  rw [graphOf_eq n ns hn hp]
  by_cases c : isGraph n ns = true
  · rw [if_pos c]
    show Ks551Neutral.out (if k.toNat < 1 ∨ 6 < k.toNat then _ else _) = _
    by_cases c2 : 1 ≤ k ∧ k ≤ 6
    · rw [if_neg (by omega), if_pos ⟨c, c2⟩]
      have W := gr_wf c
      cases hw : walk (gr n ns) k.toNat with
      | none =>
        rw [tower_some W (walk_none_iff.mp hw)]
        rfl
      | some w =>
        have hN : ∃ u, u < (gr n ns).n ∧ canWalk (gr n ns) k.toNat u = true := by
          apply Classical.byContradiction
          intro hn
          have : NoWalk (gr n ns) k.toNat := fun u hu => by
            cases hc : canWalk (gr n ns) k.toNat u with
            | false => rfl
            | true => exact absurd ⟨u, hu, hc⟩ hn
          rw [walk_none_iff.mpr this] at hw
          cases hw
        obtain ⟨u, hu, hc⟩ := hN
        rw [tower_none W hu hc]
        rfl
    · rw [if_pos (by omega), if_neg (fun z => c2 z.2)]; rfl
  · rw [if_neg c, if_neg (fun z => c z.1)]; rfl
theorem lift_due {n : Int} {ns : List Int} (hn : 0 ≤ n) (hp : ∀ x ∈ ns, 0 ≤ x) : PyKs551.lift n ns =
    if isGraph n ns = true then (if round (gr n ns) = true then [-33] else outI n (lift (gr n ns))) else [-22] := by
  show Ks551Neutral.out (Ks551.answer (.lift n.toNat (ns.map Int.toNat))) = _
  show Ks551Neutral.out (Ks547.graph n.toNat (ns.map Int.toNat) _) = _
  unfold Ks547.graph
  rw [graphOf_eq n ns hn hp]
  by_cases c : isGraph n ns = true
  · rw [if_pos c, if_pos c]
    show Ks551Neutral.out (if round (gr n ns) = true then _ else _) = _
    by_cases c2 : round (gr n ns) = true
    · rw [if_pos c2, if_pos c2]; rfl
    · rw [if_neg c2, if_neg c2]
      show (((lift (gr n ns)).length : Nat) : Int) :: _ = n :: _
      rw [lift_len]
      show ((n.toNat : Nat) : Int) :: _ = _
      rw [Int.toNat_of_nonneg hn]
      rfl
  · rw [if_neg c, if_neg c]; rfl
theorem walk_due {n k : Int} {ns : List Int} (hn : 0 ≤ n) (hk : 0 ≤ k) (hp : ∀ x ∈ ns, 0 ≤ x) : PyKs551.walk n k ns =
    if isGraph n ns = true ∧ k ≤ 12 then (match walk (gr n ns) k.toNat with | none => [-33] | some w => outI w.length w) else [-22] := by
  show Ks551Neutral.out (Ks551.answer (.walk n.toNat k.toNat (ns.map Int.toNat))) = _
  show Ks551Neutral.out (Ks547.graph n.toNat (ns.map Int.toNat) _) = _
  unfold Ks547.graph
  rw [graphOf_eq n ns hn hp]
  by_cases c : isGraph n ns = true
  · rw [if_pos c]
    show Ks551Neutral.out (if 12 < k.toNat then _ else _) = _
    by_cases c2 : k ≤ 12
    · rw [if_neg (by omega), if_pos ⟨c, c2⟩]
      cases hw : walk (gr n ns) k.toNat with
      | none => rfl
      | some w => rfl
    · rw [if_pos (by omega), if_neg (fun z => c2 z.2)]; rfl
  · rw [if_neg c, if_neg (fun z => c z.1)]; rfl
end Tow
namespace Tow
open Ks547 (Graph has)
open Ks551 (canWalk onward walk round)
/-! ### walks to one of the ends -/
def canEnd (g : Graph) (e : Nat → Bool) : Nat → Nat → Bool
  | 0, u => e u
  | k + 1, u => stp (canEnd g e k) g.arrows u
def owEnd (g : Graph) (e : Nat → Bool) : Nat → Nat → List Nat
  | 0, u => [u]
  | k + 1, u => match (List.range g.n).find? fun v => has g u v && canEnd g e k v with
    | none => [u]
    | some v => u :: owEnd g e k v
theorem canEnd_iff {g : Graph} {e : Nat → Bool} {k u : Nat} : canEnd g e (k + 1) u = true ↔ ∃ v, (u, v) ∈ g.arrows ∧ canEnd g e k v = true := by
  show stp (canEnd g e k) g.arrows u = true ↔ _
  unfold stp
  simp only [List.any_eq_true, Bool.and_eq_true, beq_iff_eq]
  constructor
  · rintro ⟨⟨a, b⟩, hp, rfl, hc⟩
    exact ⟨b, hp, hc⟩
  · rintro ⟨v, hp, hc⟩
    exact ⟨(u, v), hp, rfl, hc⟩
theorem canEnd_walk {g : Graph} (W : Wf g) : ∀ k u, canEnd g (fun _ => true) k u = canWalk g k u
  | 0, u => rfl
  | k + 1, u => by
    rw [canWalk_succ W, show canWalk g k = canEnd g (fun _ => true) k from (funext fun v => canEnd_walk W k v).symm]
    rfl
theorem owEnd_walk {g : Graph} (W : Wf g) : ∀ k u, owEnd g (fun _ => true) k u = onward g k u
  | 0, u => rfl
  | k + 1, u => by
    show (match (List.range g.n).find? fun v => has g u v && canEnd g (fun _ => true) k v with | none => [u] | some v => u :: owEnd g (fun _ => true) k v) =
      (match (List.range g.n).find? fun v => has g u v && canWalk g k v with | none => [u] | some v => u :: onward g k v)
    rw [show (fun v => has g u v && canEnd g (fun _ => true) k v) = fun v => has g u v && canWalk g k v from funext fun v => by rw [canEnd_walk W k v]]
    cases (List.range g.n).find? fun v => has g u v && canWalk g k v with
    | none => rfl
    | some v => show u :: owEnd g (fun _ => true) k v = _; rw [owEnd_walk W k v]
theorem rowE_end (g : Graph) (e : Nat → Bool) (l n : Nat) : (List.range n).map (stp (canEnd g e l) g.arrows) = (List.range n).map (canEnd g e (l + 1)) := rfl
/-- the walk told so far, from u on -/
theorem end_step {g : Graph} (W : Wf g) (R : g.arrows.Pairwise nlt) {e : Nat → Bool} {k u : Nat} (hc : canEnd g e (k + 1) u = true) :
    ∃ v, v < g.n ∧ canEnd g e k v = true ∧ ((g.arrows.filter fun p => p.1 == u && canEnd g e k p.2).map (·.2)).head? = some v ∧ owEnd g e (k + 1) u = u :: owEnd g e k v := by
  rw [first_target W R (canEnd g e k) u]
  cases hf : (List.range g.n).find? (fun v => has g u v && canEnd g e k v) with
  | none =>
    exfalso
    obtain ⟨v, hv, hw⟩ := canEnd_iff.mp hc
    rw [List.find?_eq_none] at hf
    refine hf v (List.mem_range.mpr (W.inn _ hv).2) ?_
    rw [Bool.and_eq_true, has_iff]
    exact ⟨hv, hw⟩
  | some v =>
    have h1 := List.mem_range.mp (List.mem_of_find?_eq_some hf)
    have h2 := List.find?_some hf
    rw [Bool.and_eq_true] at h2
    refine ⟨v, h1, h2.2, rfl, ?_⟩
    show (match (List.range g.n).find? fun v => has g u v && canEnd g e k v with
      | none => [u]
      | some v => u :: owEnd g e k v) = _
    rw [hf]
theorem owEnd_len {g : Graph} (W : Wf g) (R : g.arrows.Pairwise nlt) {e : Nat → Bool} : ∀ (k u : Nat), canEnd g e k u = true → (owEnd g e k u).length = k + 1
  | 0, _, _ => rfl
  | k + 1, u, h => by
    obtain ⟨v, _, hc, _, e⟩ := end_step W R h
    rw [e, List.length_cons, owEnd_len W R k v hc]
/-- the first of 0, 1 .. that keeps P -/
theorem find_lt {P : Nat → Bool} : ∀ {m x0 : Nat}, x0 < m → (∀ x, x < x0 → P x = false) → P x0 = true → (List.range m).find? P = some x0
  | 0, x0, h, _, _ => by omega
  | m + 1, x0, h, hl, hy => by
    rw [List.range_succ, List.find?_append]
    by_cases c : x0 < m
    · rw [find_lt c hl hy]
      rfl
    · have e : x0 = m := by omega
      subst e
      have : (List.range x0).find? P = none := by
        rw [List.find?_eq_none]
        intro x hx
        rw [hl x (List.mem_range.mp hx)]
        exact Bool.false_ne_true
      rw [this, List.find?_cons_of_pos hy]
      rfl
theorem find_no {P : Nat → Bool} {m : Nat} (h : ∀ x, x < m → P x = false) : (List.range m).find? P = none := by
  rw [List.find?_eq_none]
  intro x hx
  rw [h x (List.mem_range.mp hx)]
  exact Bool.false_ne_true
theorem walk_is {g : Graph} (W : Wf g) {k u : Nat} (hu : u < g.n) (hl : ∀ x, x < u → canEnd g (fun _ => true) k x = false) (h : canEnd g (fun _ => true) k u = true) : walk g k = some (owEnd g (fun _ => true) k u) := by
  unfold walk
  rw [find_lt hu (fun x hx => by rw [← canEnd_walk W]; exact hl x hx) (by rw [← canEnd_walk W]; exact h), owEnd_walk W]
  rfl
theorem walk_no {g : Graph} (W : Wf g) {k : Nat} (hl : ∀ x, x < g.n → canEnd g (fun _ => true) k x = false) : walk g k = none := by
  unfold walk
  rw [find_no (fun x hx => by rw [← canEnd_walk W]; exact hl x hx)]
  rfl
theorem walk_len {g : Graph} (W : Wf g) (R : g.arrows.Pairwise nlt) {k : Nat} {v : List Nat} (h : walk g k = some v) : v.length = k + 1 := by
  unfold walk at h
  cases e : (List.range g.n).find? (canWalk g k) with
  | none => rw [e] at h; cases h
  | some u =>
    rw [e] at h
    have h1 := List.find?_some e
    rw [← Option.some.inj h]
    exact onward_len W R _ _ h1
end Tow
namespace Tow
open Ks547 (Graph has keeps maps rows)
open Ks551 (beside canBack back odd colours least pair)

/-! ### neighbours and walks by them -/
theorem beside_iff {g : Graph} {u v : Nat} : beside g u v = true ↔ (u, v) ∈ g.arrows ∨ (v, u) ∈ g.arrows := by
  unfold beside
  rw [Bool.or_eq_true, has_iff, has_iff]
theorem beside_symm {g : Graph} {u v : Nat} (h : beside g u v = true) : beside g v u = true :=
  beside_iff.mpr (beside_iff.mp h).symm
theorem beside_lt {g : Graph} (W : Wf g) {u v : Nat} (h : beside g u v = true) : u < g.n ∧ v < g.n := by
  rcases beside_iff.mp h with h | h
  · exact W.inn _ h
  · exact (W.inn _ h).symm
theorem canBack_iff {g : Graph} (W : Wf g) {w k u : Nat} : canBack g w (k + 1) u = true ↔ ∃ v, beside g u v = true ∧ canBack g w k v = true := by
  show ((List.range g.n).any fun v => beside g u v && canBack g w k v) = true ↔ _
  rw [List.any_eq_true]
  constructor
  · rintro ⟨v, _, h⟩
    rw [Bool.and_eq_true] at h
    exact ⟨v, h⟩
  · rintro ⟨v, h1, h2⟩
    exact ⟨v, List.mem_range.mpr (beside_lt W h1).2, by rw [Bool.and_eq_true]; exact ⟨h1, h2⟩⟩
theorem canBack_zero {g : Graph} {w u : Nat} : canBack g w 0 u = true ↔ u = w := by
  unfold canBack
  exact beq_iff_eq
theorem canBack_add {g : Graph} (W : Wf g) {m w k : Nat} (h2 : canBack g w k m = true) : ∀ (j u : Nat), canBack g m j u = true → canBack g w (j + k) u = true
  | 0, u, h => by
    rw [canBack_zero.mp h, Nat.zero_add]
    exact h2
  | j + 1, u, h => by
    obtain ⟨v, h3, h4⟩ := (canBack_iff W).mp h
    rw [Nat.add_right_comm]
    exact (canBack_iff W).mpr ⟨v, h3, canBack_add W h2 j v h4⟩
theorem canBack_one {g : Graph} (W : Wf g) {u w : Nat} (h : beside g u w = true) : canBack g w 1 u = true :=
  (canBack_iff W).mpr ⟨w, h, canBack_zero.mpr rfl⟩
theorem canBack_symm {g : Graph} (W : Wf g) : ∀ (k u w : Nat), canBack g w k u = true → canBack g u k w = true
  | 0, u, w, h => canBack_zero.mpr (canBack_zero.mp h).symm
  | k + 1, u, w, h => by
    obtain ⟨v, h3, h4⟩ := (canBack_iff W).mp h
    exact canBack_add W (canBack_one W (beside_symm h3)) k w (canBack_symm W k v w h4)
theorem canBack_lt {g : Graph} (W : Wf g) {w k u : Nat} (hw : w < g.n) (h : canBack g w k u = true) : u < g.n := by
  cases k with
  | zero => rw [canBack_zero.mp h]; exact hw
  | succ k =>
    obtain ⟨v, h3, _⟩ := (canBack_iff W).mp h
    exact (beside_lt W h3).1
/-! the places of a walk -/
theorem canBack_places {g : Graph} (W : Wf g) : ∀ (k u w : Nat), canBack g w k u = true → ∃ p : Nat → Nat, p 0 = u ∧ p k = w ∧ ∀ i, i < k → beside g (p i) (p (i + 1)) = true
  | 0, u, w, h => ⟨fun _ => u, rfl, canBack_zero.mp h, fun i hi => absurd hi (Nat.not_lt_zero _)⟩
  | k + 1, u, w, h => by
    obtain ⟨v, h3, h4⟩ := (canBack_iff W).mp h
    obtain ⟨p, p0, pk, ps⟩ := canBack_places W k v w h4
    refine ⟨fun i => match i with | 0 => u | i + 1 => p i, rfl, pk, fun i hi => ?_⟩
    cases i with
    | zero => show beside g u (p 0) = true; rw [p0]; exact h3
    | succ i => exact ps i (by omega)
theorem places_seg {g : Graph} (W : Wf g) {p : Nat → Nat} {k : Nat} (ps : ∀ i, i < k → beside g (p i) (p (i + 1)) = true) : ∀ d a, a + d ≤ k → canBack g (p (a + d)) d (p a) = true
  | 0, a, _ => canBack_zero.mpr rfl
  | d + 1, a, h => (canBack_iff W).mpr ⟨p (a + 1), ps a (by omega), by
      have := places_seg W ps d (a + 1) (by omega)
      rw [show a + (d + 1) = a + 1 + d by omega]
      exact this⟩
theorem twice {n k : Nat} (p : Nat → Nat) (hp : ∀ i, i < k → p i < n) (hk : n < k) : ∃ a b, a < b ∧ b < k ∧ p a = p b := by
  apply Classical.byContradiction
  intro hn
  have nd : ((List.range k).map p).Nodup := by
    unfold List.Nodup
    rw [List.pairwise_iff_getElem]
    intro i j hi hj hij e
    simp only [List.length_map, List.length_range] at hi hj
    simp only [List.getElem_map, List.getElem_range] at e
    exact hn ⟨i, j, hij, hj, e⟩
  have := nodup_small n _ nd (by
    intro x hx
    obtain ⟨i, hi, rfl⟩ := List.mem_map.mp hx
    exact hp i (List.mem_range.mp hi))
  rw [List.length_map, List.length_range] at this
  omega
/-- A closed walk of an odd number of steps, more than there are places: a shorter one is there. -/
theorem odd_cut {g : Graph} (W : Wf g) {k u : Nat} (hk : g.n < k) (ho : k % 2 = 1) (h : canBack g u k u = true) : ∃ j v, j < k ∧ j % 2 = 1 ∧ v < g.n ∧ canBack g v j v = true := by
  obtain ⟨p, p0, pk, ps⟩ := canBack_places W k u u h
  obtain ⟨a, b, hab, hb, e⟩ := twice p (fun i hi => (beside_lt W (ps i hi)).1) hk
  have s1 := places_seg W ps (b - a) a (by omega)
  rw [show a + (b - a) = b by omega, ← e] at s1
  have s2 := places_seg W ps a 0 (by omega)
  rw [Nat.zero_add, p0] at s2
  have s3 := places_seg W ps (k - b) b (by omega)
  rw [show b + (k - b) = k by omega, pk, ← e] at s3
  have s4 := canBack_add W s3 _ _ s2
  by_cases c : (b - a) % 2 = 1
  · exact ⟨b - a, p a, by omega, c, (beside_lt W (ps a (by omega))).1, s1⟩
  · refine ⟨a + (k - b), u, by omega, by omega, ?_, s4⟩
    have := (beside_lt W (ps 0 (by omega))).1
    rw [p0] at this
    exact this
theorem odd_short {g : Graph} (W : Wf g) (no : ∀ j v, j ≤ g.n → j % 2 = 1 → v < g.n → canBack g v j v = false) : ∀ (m k : Nat), k ≤ m → k % 2 = 1 → ∀ u, u < g.n → canBack g u k u = false
  | 0, k, h, ho, u, hu => by omega
  | m + 1, k, h, ho, u, hu => by
    by_cases c : k ≤ g.n
    · exact no k u c ho hu
    · cases e : canBack g u k u with
      | false => rfl
      | true =>
        obtain ⟨j, v, hj, jo, hv, hc⟩ := odd_cut W (by omega) ho e
        rw [odd_short W no m j (by omega) jo v hv] at hc
        cases hc
/-! ### colours -/
structure Col (g : Graph) (k : Nat) (f : List Nat) : Prop where
  len : f.length = g.n
  lt : ∀ x ∈ f, x < k
  ne : ∀ p ∈ g.arrows, f.getD p.1 0 ≠ f.getD p.2 0
theorem has_pair {u v : Nat} : has pair u v = true ↔ (u = 0 ∧ v = 1) ∨ (u = 1 ∧ v = 0) := by
  rw [has_iff]
  unfold pair
  simp
theorem has_all {k u v : Nat} : has (Ks551.all k) u v = true ↔ u < k ∧ v < k ∧ u ≠ v := by
  rw [has_iff]
  unfold Ks551.all
  simp only [List.mem_flatMap, List.mem_map, List.mem_filter, List.mem_range]
  constructor
  · rintro ⟨a, ha, b, ⟨hb, hab⟩, e⟩
    cases e
    exact ⟨ha, hb, by simpa using hab⟩
  · rintro ⟨ha, hb, hab⟩
    exact ⟨u, ha, v, ⟨hb, by simpa using hab⟩, rfl⟩
theorem getD_mem {f : List Nat} {i : Nat} (h : i < f.length) : f.getD i 0 ∈ f := by
  rw [List.getD_eq_getElem?_getD, List.getElem?_eq_getElem h]
  exact List.getElem_mem h
theorem keeps_all {g : Graph} (W : Wf g) {k : Nat} {f : List Nat} : keeps g (Ks551.all k) f = true ↔ Col g k f := by
  unfold keeps
  rw [Bool.and_eq_true, Bool.and_eq_true, beq_iff_eq, List.all_eq_true, List.all_eq_true]
  constructor
  · rintro ⟨⟨h1, h2⟩, h3⟩
    exact ⟨h1, fun x hx => of_decide_eq_true (h2 x hx), fun p hp => (has_all.mp (h3 p hp)).2.2⟩
  · rintro ⟨h1, h2, h3⟩
    refine ⟨⟨h1, fun x hx => decide_eq_true (h2 x hx)⟩, fun p hp => has_all.mpr ⟨h2 _ (getD_mem ?_), h2 _ (getD_mem ?_), h3 p hp⟩⟩
    · rw [h1]; exact (W.inn p hp).1
    · rw [h1]; exact (W.inn p hp).2
theorem keeps_pair {g : Graph} (W : Wf g) {f : List Nat} : keeps g pair f = true ↔ Col g 2 f := by
  rw [← keeps_all W]
  unfold keeps
  have e : ∀ u v, has pair u v = has (Ks551.all 2) u v := fun u v => by
    rw [Bool.eq_iff_iff, has_pair, has_all]
    omega
  rw [show (fun p : Nat × Nat => has pair (f.getD p.1 0) (f.getD p.2 0)) = fun p => has (Ks551.all 2) (f.getD p.1 0) (f.getD p.2 0) from funext fun p => e _ _]
  rfl
/-! the first of the rows, by the first place at which they differ -/
inductive Lx : List Nat → List Nat → Prop
  | here {a b : Nat} {l m : List Nat} : a < b → Lx (a :: l) (b :: m)
  | on {a : Nat} {l m : List Nat} : Lx l m → Lx (a :: l) (a :: m)
theorem rows_mem {m : Nat} : ∀ {n : Nat} {f : List Nat}, f ∈ rows m n ↔ f.length = n ∧ ∀ x ∈ f, x < m
  | 0, f => by
    unfold rows
    rw [List.mem_singleton]
    constructor
    · rintro rfl
      exact ⟨rfl, fun x hx => absurd hx List.not_mem_nil⟩
    · rintro ⟨h, _⟩
      exact List.length_eq_zero_iff.mp h
  | n + 1, f => by
    unfold rows
    rw [List.mem_flatMap]
    constructor
    · rintro ⟨x, hx, h⟩
      obtain ⟨r, hr, rfl⟩ := List.mem_map.mp h
      obtain ⟨h1, h2⟩ := rows_mem.mp hr
      refine ⟨by rw [List.length_cons, h1], fun y hy => ?_⟩
      rcases List.mem_cons.mp hy with rfl | hy
      · exact List.mem_range.mp hx
      · exact h2 y hy
    · rintro ⟨h1, h2⟩
      cases f with
      | nil => cases h1
      | cons x r =>
        exact ⟨x, List.mem_range.mpr (h2 x List.mem_cons_self), List.mem_map.mpr ⟨r, rows_mem.mpr ⟨by rw [List.length_cons] at h1; omega, fun y hy => h2 y (List.mem_cons_of_mem _ hy)⟩, rfl⟩⟩
theorem rows_lx (m : Nat) : ∀ n, (rows m n).Pairwise Lx
  | 0 => List.pairwise_singleton _ _
  | n + 1 => by
    unfold rows
    rw [List.flatMap_def, List.pairwise_flatten]
    constructor
    · intro l hl
      obtain ⟨x, _, rfl⟩ := List.mem_map.mp hl
      rw [List.pairwise_map]
      exact (rows_lx m n).imp fun h => .on h
    · rw [List.pairwise_map]
      exact List.pairwise_lt_range.imp fun {a b} hab x hx y hy => by
        obtain ⟨r, _, rfl⟩ := List.mem_map.mp hx
        obtain ⟨s, _, rfl⟩ := List.mem_map.mp hy
        exact .here hab
theorem lx_irr : ∀ {f d : List Nat}, Lx f d → Lx d f → False
  | _, _, .here h, k => by
    cases k with
    | here k => omega
    | on k => omega
  | _, _, .on h, k => by
    cases k with
    | here k => omega
    | on k => exact lx_irr h k
theorem first_of {α : Type} {R : α → α → Prop} (irr : ∀ a b, R a b → R b a → False) {P : α → Bool} : ∀ {L : List α} {d : α}, L.Pairwise R → d ∈ L → P d = true → (∀ f ∈ L, P f = true → f = d ∨ R d f) → (L.filter P).head? = some d
  | [], d, _, hd, _, _ => absurd hd List.not_mem_nil
  | x :: L, d, hL, hd, hP, hall => by
    rw [List.pairwise_cons] at hL
    by_cases c : P x = true
    · rw [List.filter_cons_of_pos c, List.head?_cons]
      rcases hall x List.mem_cons_self c with e | e
      · rw [e]
      · rcases List.mem_cons.mp hd with e2 | e2
        · rw [e2]
        · exact (irr _ _ (hL.1 d e2) e).elim
    · rw [List.filter_cons_of_neg c]
      rcases List.mem_cons.mp hd with e2 | e2
      · rw [e2] at hP
        exact absurd hP c
      · exact first_of irr hL.2 e2 hP fun f hf => hall f (List.mem_cons_of_mem _ hf)
theorem maps_none {g h : Graph} (no : ∀ f, keeps g h f = true → False) : (maps g h).head? = none := by
  unfold maps
  cases e : (rows h.n g.n).filter (keeps g h) with
  | nil => rfl
  | cons f L =>
    have : f ∈ (rows h.n g.n).filter (keeps g h) := by rw [e]; exact List.mem_cons_self
    exact (no f (List.mem_filter.mp this).2).elim
theorem maps_some {g h : Graph} {d : List Nat} (hd : keeps g h d = true) (hall : ∀ f, keeps g h f = true → f = d ∨ Lx d f) : (maps g h).head? = some d := by
  have hd' := hd
  unfold keeps at hd'
  rw [Bool.and_eq_true, Bool.and_eq_true, beq_iff_eq, List.all_eq_true] at hd'
  exact first_of (R := Lx) (fun _ _ => lx_irr) (rows_lx _ _) (rows_mem.mpr ⟨hd'.1.1, fun x hx => of_decide_eq_true (hd'.1.2 x hx)⟩) hd fun f _ hf => hall f hf
theorem maps_head {g h : Graph} {d : List Nat} (e : (maps g h).head? = some d) : keeps g h d = true := by
  have : d ∈ maps g h := List.mem_of_mem_head? (by rw [e]; rfl)
  exact (List.mem_filter.mp this).2
theorem maps_head_none {g h : Graph} (e : (maps g h).head? = none) {f : List Nat} (hf : keeps g h f = true) : False := by
  have hd' := hf
  unfold keeps at hd'
  rw [Bool.and_eq_true, Bool.and_eq_true, beq_iff_eq, List.all_eq_true] at hd'
  have : f ∈ maps g h := List.mem_filter.mpr ⟨rows_mem.mpr ⟨hd'.1.1, fun x hx => of_decide_eq_true (hd'.1.2 x hx)⟩, hf⟩
  rw [List.head?_eq_none_iff] at e
  rw [e] at this
  exact absurd this List.not_mem_nil
/-! ### two colours or an odd closed walk -/
theorem col_beside {g : Graph} {k : Nat} {f : List Nat} (c : Col g k f) {u v : Nat} (h : beside g u v = true) : f.getD u 0 ≠ f.getD v 0 := by
  rcases beside_iff.mp h with h | h
  · exact c.ne _ h
  · exact (c.ne _ h).symm
theorem col_lt {g : Graph} {k : Nat} {f : List Nat} (c : Col g k f) {u : Nat} (h : u < g.n) : f.getD u 0 < k := c.lt _ (getD_mem (by rw [c.len]; exact h))
theorem col_parity {g : Graph} (W : Wf g) {f : List Nat} (c : Col g 2 f) {w : Nat} (hw : w < g.n) : ∀ (k u : Nat), canBack g w k u = true → f.getD u 0 = (f.getD w 0 + k) % 2
  | 0, u, h => by
    have := col_lt c hw
    rw [canBack_zero.mp h]
    omega
  | k + 1, u, h => by
    obtain ⟨v, h3, h4⟩ := (canBack_iff W).mp h
    have h5 := col_parity W c hw k v h4
    have h6 := col_beside c h3
    have h7 := beside_lt W h3
    have := col_lt c h7.1
    have := col_lt c h7.2
    omega
theorem col_no_odd {g : Graph} (W : Wf g) {f : List Nat} (c : Col g 2 f) {k u : Nat} (hu : u < g.n) (ho : k % 2 = 1) : canBack g u k u = false := by
  cases e : canBack g u k u with
  | false => rfl
  | true =>
    have := col_parity W c hu k u e
    have := col_lt c hu
    omega
def Reach (g : Graph) (u v : Nat) : Prop := ∃ k, canBack g u k v = true
open Classical in
noncomputable def root (g : Graph) (v : Nat) : Nat := ((List.range g.n).find? fun r => decide (Reach g r v)).getD 0
theorem reach_self (g : Graph) (v : Nat) : Reach g v v := ⟨0, canBack_zero.mpr rfl⟩
theorem reach_symm {g : Graph} (W : Wf g) {u v : Nat} (h : Reach g u v) : Reach g v u := h.imp fun k h => canBack_symm W k _ _ h
theorem reach_trans {g : Graph} (W : Wf g) {u v w : Nat} (h : Reach g u v) (h2 : Reach g v w) : Reach g u w := by
  obtain ⟨k, h⟩ := h
  obtain ⟨j, h2⟩ := h2
  exact ⟨j + k, canBack_add W h j w h2⟩
open Classical in
theorem root_reach {g : Graph} {v : Nat} (hv : v < g.n) : Reach g (root g v) v ∧ root g v < g.n := by
  unfold root
  cases e : (List.range g.n).find? fun r => decide (Reach g r v) with
  | none =>
    have := List.find?_eq_none.mp e v (List.mem_range.mpr hv)
    exact absurd (decide_eq_true (reach_self g v)) this
  | some r =>
    have h1 := List.find?_some e
    exact ⟨of_decide_eq_true h1, List.mem_range.mp (List.mem_of_find?_eq_some e)⟩
open Classical in
theorem root_eq {g : Graph} (W : Wf g) {u v : Nat} (h : Reach g u v) : root g u = root g v := by
  unfold root
  have e : (fun r => decide (Reach g r u)) = fun r => decide (Reach g r v) := by
    funext r
    rw [Bool.eq_iff_iff, decide_eq_true_eq, decide_eq_true_eq]
    exact ⟨fun z => reach_trans W z h, fun z => reach_trans W z (reach_symm W h)⟩
  rw [e]
open Classical in
theorem col_of_no_odd {g : Graph} (W : Wf g) (no : ∀ j v, j ≤ g.n → j % 2 = 1 → v < g.n → canBack g v j v = false) : ∃ f, Col g 2 f := by
  have none : ∀ k, k % 2 = 1 → ∀ u, u < g.n → canBack g u k u = false := fun k ho u hu => odd_short W no k k (Nat.le_refl _) ho u hu
  let c : Nat → Nat := fun v => if (∃ k, k % 2 = 0 ∧ canBack g (root g v) k v = true) then 0 else 1
  have hc2 : ∀ v, c v < 2 := fun v => by
    show (if _ then 0 else 1) < 2
    split <;> omega
  have at_ : ∀ v, v < g.n → ((List.range g.n).map c).getD v 0 = c v := fun v hv => by
    rw [List.getD_eq_getElem?_getD, List.getElem?_map, List.getElem?_range hv]
    rfl
  refine ⟨(List.range g.n).map c, ⟨by simp, ?_, ?_⟩⟩
  · intro x hx
    obtain ⟨v, _, rfl⟩ := List.mem_map.mp hx
    exact hc2 v
  · rintro ⟨u, v⟩ hp
    have hin := W.inn _ hp
    have hb : beside g u v = true := beside_iff.mpr (.inl hp)
    have hr : root g u = root g v := root_eq W ⟨1, canBack_one W (beside_symm hb)⟩
    obtain ⟨⟨kv, hkv⟩, hrn⟩ := root_reach hin.2
    obtain ⟨⟨ku, hku⟩, _⟩ := root_reach hin.1
    rw [hr] at hku
    -- no walks of like parity
    have key : ∀ a b, canBack g (root g v) a u = true → canBack g (root g v) b v = true → (a + b) % 2 = 0 → False := fun a b ha hb2 e => by
      have t1 := canBack_symm W _ _ _ ha
      have t2 := canBack_add W hb2 1 u (canBack_one W hb)
      have t3 := canBack_add W t2 a _ t1
      rw [none (a + (1 + b)) (by omega) _ hrn] at t3
      cases t3
    show ((List.range g.n).map c).getD u 0 ≠ ((List.range g.n).map c).getD v 0
    rw [at_ u hin.1, at_ v hin.2]
    show (if (∃ k, k % 2 = 0 ∧ canBack g (root g u) k u = true) then 0 else 1) ≠ (if (∃ k, k % 2 = 0 ∧ canBack g (root g v) k v = true) then 0 else 1)
    rw [hr]
    by_cases c1 : ∃ k, k % 2 = 0 ∧ canBack g (root g v) k u = true
    · by_cases c2 : ∃ k, k % 2 = 0 ∧ canBack g (root g v) k v = true
      · obtain ⟨a, ha, ha2⟩ := c1
        obtain ⟨b, hb1, hb2⟩ := c2
        exact (key a b ha2 hb2 (by omega)).elim
      · rw [if_pos c1, if_neg c2]
        omega
    · by_cases c2 : ∃ k, k % 2 = 0 ∧ canBack g (root g v) k v = true
      · rw [if_neg c1, if_pos c2]
        omega
      · have o1 : ku % 2 = 1 := by
          rcases Nat.mod_two_eq_zero_or_one ku with z | z
          · exact absurd ⟨ku, z, hku⟩ c1
          · exact z
        have o2 : kv % 2 = 1 := by
          rcases Nat.mod_two_eq_zero_or_one kv with z | z
          · exact absurd ⟨kv, z, hkv⟩ c2
          · exact z
        exact (key ku kv hku hkv (by omega)).elim
/-- The first way to give two colours: a place that no lesser one reaches gets 0. -/
theorem first_lx : ∀ {n : Nat} {d f : List Nat}, d.length = n → f.length = n → (∀ i, i < n → (∀ j, j < i → d.getD j 0 = f.getD j 0) → d.getD i 0 ≤ f.getD i 0) → f = d ∨ Lx d f
  | 0, d, f, hd, hf, _ => by
    rw [List.length_eq_zero_iff.mp hd, List.length_eq_zero_iff.mp hf]
    exact .inl rfl
  | n + 1, d, f, hd, hf, h => by
    cases d with
    | nil => cases hd
    | cons x d => cases f with
      | nil => cases hf
      | cons y f =>
        have h0 := h 0 (by omega) (fun j hj => absurd hj (Nat.not_lt_zero _))
        rw [List.getD_cons_zero, List.getD_cons_zero] at h0
        by_cases e : x = y
        · subst e
          rcases first_lx (n := n) (d := d) (f := f) (by rw [List.length_cons] at hd; omega) (by rw [List.length_cons] at hf; omega) (fun i hi hj => by
            have := h (i + 1) (by omega) (fun j hj2 => by
              cases j with
              | zero => rfl
              | succ j =>
                rw [List.getD_cons_succ, List.getD_cons_succ]
                exact hj j (by omega))
            rw [List.getD_cons_succ, List.getD_cons_succ] at this
            exact this) with z | z
          · rw [z]; exact .inl rfl
          · exact .inr (.on z)
        · exact .inr (.here (by omega))
theorem colours_some {g : Graph} (W : Wf g) {d : List Nat} (c : Col g 2 d) (h0 : ∀ v, v < g.n → (∀ u, u < v → ¬ Reach g u v) → d.getD v 0 = 0) : colours g = some d := by
  refine maps_some ((keeps_pair W).mpr c) fun f hf => ?_
  have cf := (keeps_pair W).mp hf
  refine first_lx c.len cf.len fun i hi hj => ?_
  by_cases z : ∀ u, u < i → ¬ Reach g u i
  · rw [h0 i hi z]
    exact Nat.zero_le _
  · obtain ⟨u, z⟩ := Classical.not_forall.mp z
    have hui : u < i := Classical.byContradiction fun y => z fun y2 => absurd y2 y
    have hr : Reach g u i := Classical.byContradiction fun y => z fun _ => y
    obtain ⟨k, hk⟩ := hr
    have e1 := col_parity W c (by omega) k i hk
    have e2 := col_parity W cf (by omega) k i hk
    rw [e1, e2, hj u hui]
    exact Nat.le_refl _
theorem colours_none {g : Graph} (W : Wf g) {k u : Nat} (hu : u < g.n) (ho : k % 2 = 1) (h : canBack g u k u = true) : colours g = none :=
  maps_none fun f hf => by
    rw [col_no_odd W ((keeps_pair W).mp hf) hu ho] at h
    cases h
theorem colours_none_iff {g : Graph} (W : Wf g) : colours g = none ↔ ∃ k u, k ≤ g.n ∧ k % 2 = 1 ∧ u < g.n ∧ canBack g u k u = true := by
  constructor
  · intro h
    apply Classical.byContradiction
    intro hn
    obtain ⟨f, hf⟩ := col_of_no_odd W (fun j v hj ho hv => by
      cases e : canBack g v j v with
      | false => rfl
      | true => exact (hn ⟨j, v, hj, ho, hv, e⟩).elim)
    exact maps_head_none h ((keeps_pair W).mpr hf)
  · rintro ⟨k, u, _, ho, hu, h⟩
    exact colours_none W hu ho h
/-! ### the first of the shortest odd closed walks -/
theorem findSome_range {α : Type} (F : Nat → Option α) (y : α) : ∀ (m x0 : Nat), x0 < m → (∀ x, x < x0 → F x = none) → F x0 = some y → (List.range m).findSome? F = some y
  | 0, x0, h, _, _ => by omega
  | m + 1, x0, h, hl, hy => by
    rw [List.range_succ, List.findSome?_append]
    by_cases c : x0 < m
    · rw [findSome_range F y m x0 c hl hy]
      rfl
    · have e : x0 = m := by omega
      subst e
      have : (List.range x0).findSome? F = none := by
        rw [List.findSome?_eq_none_iff]
        intro x hx
        exact hl x (List.mem_range.mp hx)
      rw [this, List.findSome?_cons, hy]
      rfl
theorem find_range {P : Nat → Bool} : ∀ {m x0 : Nat}, x0 < m → (∀ x, x < x0 → P x = false) → P x0 = true → (List.range m).find? P = some x0
  | 0, x0, h, _, _ => by omega
  | m + 1, x0, h, hl, hy => by
    rw [List.range_succ, List.find?_append]
    by_cases c : x0 < m
    · rw [find_range c hl hy]
      rfl
    · have e : x0 = m := by omega
      subst e
      have : (List.range x0).find? P = none := by
        rw [List.find?_eq_none]
        intro x hx
        rw [hl x (List.mem_range.mp hx)]
        exact Bool.false_ne_true
      rw [this, List.find?_cons_of_pos hy]
      rfl
theorem odd_some {g : Graph} {i u : Nat} (hi : i ≤ g.n) (hu : u < g.n) (h : canBack g u (2 * i + 1) u = true) (hs : ∀ j, j < i → ∀ v, v < g.n → canBack g v (2 * j + 1) v = false) (hf : ∀ v, v < u → canBack g v (2 * i + 1) v = false) :
    odd g = some (back g u (2 * i + 1) u) := by
  unfold odd
  refine findSome_range _ _ (g.n + 1) i (by omega) (fun j hj => ?_) ?_
  · show ((List.range g.n).find? fun u => canBack g u (2 * j + 1) u).map _ = none
    rw [Option.map_eq_none_iff, List.find?_eq_none]
    intro v hv
    rw [hs j hj v (List.mem_range.mp hv)]
    exact Bool.false_ne_true
  · show ((List.range g.n).find? fun u => canBack g u (2 * i + 1) u).map _ = _
    rw [find_range (P := fun u => canBack g u (2 * i + 1) u) hu hf h]
    rfl
theorem back_step {g : Graph} {w k u v : Nat} (hv : v < g.n) (h : beside g u v = true) (h2 : canBack g w k v = true) (hf : ∀ x, x < v → beside g u x = true → canBack g w k x = false) : back g w (k + 1) u = u :: back g w k v := by
  have e := find_range (P := fun v => beside g u v && canBack g w k v) hv (fun x hx => by
    cases c : beside g u x with
    | false => rw [Bool.false_and]
    | true => rw [Bool.true_and]; exact hf x hx c) (by rw [h, h2]; rfl)
  show (match (List.range g.n).find? fun v => beside g u v && canBack g w k v with | none => [u] | some v => u :: back g w k v) = _
  rw [e]
theorem back_len {g : Graph} (W : Wf g) {w : Nat} : ∀ (k u : Nat), canBack g w k u = true → (back g w k u).length = k + 1
  | 0, u, _ => rfl
  | k + 1, u, h => by
    obtain ⟨v, h1, h2⟩ := (canBack_iff W).mp h
    show (match (List.range g.n).find? fun v => beside g u v && canBack g w k v with | none => [u] | some v => u :: back g w k v).length = _
    cases e : (List.range g.n).find? fun v => beside g u v && canBack g w k v with
    | none =>
      have := List.find?_eq_none.mp e v (List.mem_range.mpr (beside_lt W h1).2)
      rw [h1, h2] at this
      exact absurd rfl this
    | some x =>
      have := List.find?_some e
      rw [Bool.and_eq_true] at this
      show (u :: back g w k x).length = _
      rw [List.length_cons, back_len W k x this.2]
/-! ### how few colours -/
theorem least_none {g : Graph} (W : Wf g) {u : Nat} (h : (u, u) ∈ g.arrows) : least g = none := by
  unfold least
  rw [List.findSome?_eq_none_iff]
  intro i _
  rw [maps_none (fun f hf => ((keeps_all W).mp hf).ne _ h rfl)]
  rfl
theorem col_id {g : Graph} (W : Wf g) (h : ∀ u, (u, u) ∉ g.arrows) : Col g g.n (List.range g.n) := by
  refine ⟨List.length_range, fun x hx => List.mem_range.mp hx, ?_⟩
  rintro ⟨u, v⟩ hp
  have hin := W.inn _ hp
  rw [List.getD_eq_getElem?_getD, List.getD_eq_getElem?_getD, List.getElem?_range hin.1, List.getElem?_range hin.2]
  intro e
  have e : u = v := e
  subst e
  exact h u hp
theorem least_some {g : Graph} (W : Wf g) {k : Nat} {d : List Nat} (hk : 1 ≤ k) (hkn : k ≤ g.n) (hl : ∀ j, j < k → ∀ f, ¬ Col g j f) (hd : (maps g (Ks551.all k)).head? = some d) : least g = some (k, d) := by
  unfold least
  refine findSome_range _ _ g.n (k - 1) (by omega) (fun j hj => ?_) ?_
  · rw [maps_none (fun f hf => hl (j + 1) (by omega) f ((keeps_all W).mp hf))]
    rfl
  · rw [show k - 1 + 1 = k by omega, hd]
    rfl
end Tow
namespace Tow
open Ks547 (Graph has keeps maps rows)
open Ks551 (beside canBack back odd colours least pair)
theorem colours_due {n : Int} {ns : List Int} (hn : 0 ≤ n) (hp : ∀ x ∈ ns, 0 ≤ x) : PyKs551.colours n ns =
    if isGraph n ns = true then (match colours (gr n ns), odd (gr n ns) with | some f, _ => outI 1 f | none, some w => outI 0 (w.length :: w) | none, none => [-33]) else [-22] := by
  show Ks551Neutral.out (Ks551.answer (.colours n.toNat (ns.map Int.toNat))) = _
  show Ks551Neutral.out (Ks547.graph n.toNat (ns.map Int.toNat) _) = _
  unfold Ks547.graph
  rw [graphOf_eq n ns hn hp]
  by_cases c : isGraph n ns = true
  · rw [if_pos c, if_pos c]
    show Ks551Neutral.out (match colours (gr n ns), odd (gr n ns) with | some f, _ => _ | none, some w => _ | none, none => _) = _
    cases colours (gr n ns) with
    | some f => rfl
    | none =>
      cases odd (gr n ns) with
      | some w => rfl
      | none => rfl
  · rw [if_neg c, if_neg c]
    rfl
theorem least_due {n : Int} {ns : List Int} (hn : 0 ≤ n) (hp : ∀ x ∈ ns, 0 ≤ x) : PyKs551.least n ns =
    if isGraph n ns = true then (match least (gr n ns) with | some (k, f) => outI k f | none => [-33]) else [-22] := by
  show Ks551Neutral.out (Ks551.answer (.least n.toNat (ns.map Int.toNat))) = _
  show Ks551Neutral.out (Ks547.graph n.toNat (ns.map Int.toNat) _) = _
  unfold Ks547.graph
  rw [graphOf_eq n ns hn hp]
  by_cases c : isGraph n ns = true
  · rw [if_pos c, if_pos c]
    dsimp only
    cases least (gr n ns) with
    | some p => rfl
    | none => rfl
  · rw [if_neg c, if_neg c]
    rfl
end Tow
namespace Tow
open Ks547 (Graph has keeps maps rows)
open Ks551 (beside canBack back odd colours least pair)
/-! ### the rows, grown at their end, and by counting -/
theorem rows_snoc (m : Nat) : ∀ n, rows m (n + 1) = (rows m n).flatMap fun r => (List.range m).map fun x => r ++ [x]
  | 0 => by
    show (List.range m).flatMap (fun x => ([[]] : List (List Nat)).map fun r => x :: r) = ([[]] : List (List Nat)).flatMap _
    simp [List.flatMap_def, List.map_map]
    induction List.range m with
    | nil => rfl
    | cons a l ih => simp [ih]
  | n + 1 => by
    show (List.range m).flatMap (fun x => (rows m (n + 1)).map fun r => x :: r) = ((List.range m).flatMap fun x => (rows m n).map fun r => x :: r).flatMap _
    rw [rows_snoc m n, List.flatMap_assoc]
    congr 1
    funext x
    rw [List.map_flatMap, List.flatMap_map]
    congr 1
    funext r
    rw [List.map_map]
    rfl
def digits (m : Nat) : Nat → Nat → List Nat
  | 0, _ => []
  | n + 1, c => digits m n (c / m) ++ [c % m]
theorem range_mul (m : Nat) : ∀ n, List.range (n * m) = (List.range n).flatMap fun q => (List.range m).map fun r => q * m + r
  | 0 => by simp
  | n + 1 => by
    rw [List.range_succ, List.flatMap_append, ← range_mul m n, Nat.succ_mul, List.range_add]
    simp
theorem rows_digits (m : Nat) (hm : 0 < m) : ∀ n, rows m n = (List.range (m ^ n)).map (digits m n)
  | 0 => by simp [rows, digits]
  | n + 1 => by
    rw [rows_snoc, rows_digits m hm n, Nat.pow_succ, range_mul, List.map_flatMap, List.flatMap_map]
    congr 1
    funext q
    rw [List.map_map]
    apply List.map_congr_left
    intro r hr
    have hr := List.mem_range.mp hr
    show _ = digits m n ((q * m + r) / m) ++ [(q * m + r) % m]
    rw [show (q * m + r) / m = q by rw [Nat.add_comm, Nat.add_mul_div_right _ _ hm, Nat.div_eq_of_lt hr, Nat.zero_add], show (q * m + r) % m = r by rw [Nat.add_comm, Nat.add_mul_mod_self_right, Nat.mod_eq_of_lt hr]]
/-! ### the first of the closed walks -/
inductive Wk (g : Graph) (w : Nat) : Nat → Nat → List Nat → Prop
  | stop : Wk g w 0 w [w]
  | step {k u v : Nat} {l : List Nat} : beside g u v = true → Wk g w k v l → Wk g w (k + 1) u (u :: l)
theorem wk_can {g : Graph} (W : Wf g) {w : Nat} : ∀ {k u : Nat} {l : List Nat}, Wk g w k u l → canBack g w k u = true
  | _, _, _, .stop => canBack_zero.mpr rfl
  | _, _, _, .step h k => (canBack_iff W).mpr ⟨_, h, wk_can W k⟩
theorem wk_len {g : Graph} {w : Nat} : ∀ {k u : Nat} {l : List Nat}, Wk g w k u l → l.length = k + 1
  | _, _, _, .stop => rfl
  | _, _, _, .step h k => by rw [List.length_cons, wk_len k]
theorem wk_head {g : Graph} {w : Nat} : ∀ {k u : Nat} {l : List Nat}, Wk g w k u l → ∃ r, l = u :: r
  | _, _, _, .stop => ⟨_, rfl⟩
  | _, _, _, .step h k => ⟨_, rfl⟩
theorem find_range_spec {P : Nat → Bool} {m x : Nat} (h : (List.range m).find? P = some x) : x < m ∧ P x = true ∧ ∀ y, y < x → P y = false := by
  have hP := List.find?_some h
  have hm := List.mem_range.mp (List.mem_of_find?_eq_some h)
  refine ⟨hm, hP, fun y hy => ?_⟩
  cases e : P y with
  | false => rfl
  | true =>
    exfalso
    rw [List.find?_range_eq_some] at h
    have := h.2.2 y hy
    rw [e] at this
    cases this
theorem back_wk {g : Graph} (W : Wf g) {w : Nat} : ∀ (k u : Nat), canBack g w k u = true → Wk g w k u (back g w k u) ∧ ∀ l, Wk g w k u l → l = back g w k u ∨ Lx (back g w k u) l
  | 0, u, h => by
    have e := canBack_zero.mp h
    subst e
    refine ⟨.stop, fun l hl => ?_⟩
    cases hl
    exact .inl rfl
  | k + 1, u, h => by
    obtain ⟨v, h1, h2⟩ := (canBack_iff W).mp h
    cases e : (List.range g.n).find? fun v => beside g u v && canBack g w k v with
    | none =>
      have := List.find?_eq_none.mp e v (List.mem_range.mpr (beside_lt W h1).2)
      rw [h1, h2] at this
      exact absurd rfl this
    | some x =>
      obtain ⟨hx, hP, hl⟩ := find_range_spec e
      rw [Bool.and_eq_true] at hP
      have eb : back g w (k + 1) u = u :: back g w k x := by
        show (match (List.range g.n).find? fun v => beside g u v && canBack g w k v with | none => [u] | some v => u :: back g w k v) = _
        rw [e]
      obtain ⟨b1, b2⟩ := back_wk W k x hP.2
      rw [eb]
      refine ⟨.step hP.1 b1, fun l hw => ?_⟩
      cases hw with
      | step h3 h4 =>
        rename_i v2 l2
        by_cases c : v2 = x
        · subst c
          rcases b2 l2 h4 with z | z
          · rw [z]; exact .inl rfl
          · exact .inr (.on z)
        · have hge : ¬ v2 < x := fun z => by
            have := hl v2 z
            rw [h3, wk_can W h4] at this
            cases this
          obtain ⟨r1, e1⟩ := wk_head h4
          obtain ⟨r2, e2⟩ := wk_head b1
          rw [e1, e2]
          exact .inr (.on (.here (by omega)))
end Tow
namespace Tow
open Ks547 (Graph has keeps maps rows)
open Ks551 (beside canBack back odd colours least pair)
/-! ### closed walks -/
def closed (g : Graph) (k : Nat) : Option (List Nat) := ((List.range g.n).find? fun u => canEnd g (· == u) k u).map fun u => owEnd g (· == u) k u
def oddIn (g : Graph) : Option (List Nat) := (List.range ((g.n + 1) / 2)).findSome? fun i => closed g (2 * i + 1)
theorem closed_is {g : Graph} {k u : Nat} (hu : u < g.n) (hl : ∀ x, x < u → canEnd g (· == x) k x = false) (h : canEnd g (· == u) k u = true) : closed g k = some (owEnd g (· == u) k u) := by
  unfold closed
  rw [find_lt (P := fun u => canEnd g (· == u) k u) hu hl h]
  rfl
theorem closed_no {g : Graph} {k : Nat} (hl : ∀ x, x < g.n → canEnd g (· == x) k x = false) : closed g k = none := by
  unfold closed
  rw [find_no (P := fun u => canEnd g (· == u) k u) hl]
  rfl
theorem closed_len {g : Graph} (W : Wf g) (R : g.arrows.Pairwise nlt) {k : Nat} {v : List Nat} (h : closed g k = some v) : v.length = k + 1 := by
  unfold closed at h
  cases e : (List.range g.n).find? fun u => canEnd g (· == u) k u with
  | none => rw [e] at h; cases h
  | some u =>
    rw [e] at h
    have h1 := List.find?_some e
    rw [← Option.some.inj h]
    exact owEnd_len W R _ _ h1
theorem oddIn_is {g : Graph} {i : Nat} {v : List Nat} (hi : i < (g.n + 1) / 2) (hl : ∀ j, j < i → closed g (2 * j + 1) = none) (h : closed g (2 * i + 1) = some v) : oddIn g = some v :=
  findSome_range (fun i => closed g (2 * i + 1)) v _ i hi hl h
theorem oddIn_no {g : Graph} (hl : ∀ j, j < (g.n + 1) / 2 → closed g (2 * j + 1) = none) : oddIn g = none := by
  unfold oddIn
  rw [List.findSome?_eq_none_iff]
  intro x hx
  exact hl x (List.mem_range.mp hx)
theorem oddIn_len {g : Graph} (W : Wf g) (R : g.arrows.Pairwise nlt) {v : List Nat} (h : oddIn g = some v) : v.length ≤ g.n + 1 := by
  unfold oddIn at h
  obtain ⟨i, hi, e⟩ := List.exists_of_findSome?_eq_some h
  have := List.mem_range.mp hi
  rw [closed_len W R e]
  omega
/-! ### the steps to each neighbour -/
structure Both (g h : Graph) : Prop where
  n : h.n = g.n
  mem : ∀ u v, (u, v) ∈ h.arrows ↔ beside g u v = true
  rise : h.arrows.Pairwise nlt
theorem Both.wf {g h : Graph} (B : Both g h) (W : Wf g) : Wf h := ⟨by rw [B.n]; exact W.lo, by rw [B.n]; exact W.hi, fun p hp => by
  have := beside_lt W ((B.mem p.1 p.2).mp hp)
  rw [B.n]
  exact this⟩
theorem Both.can {g h : Graph} (B : Both g h) (W : Wf g) (w : Nat) : ∀ k u, canEnd h (· == w) k u = canBack g w k u
  | 0, u => rfl
  | k + 1, u => by
    rw [Bool.eq_iff_iff, canEnd_iff, canBack_iff W]
    constructor
    · rintro ⟨v, h1, h2⟩
      exact ⟨v, (B.mem _ _).mp h1, by rw [← B.can W w k v]; exact h2⟩
    · rintro ⟨v, h1, h2⟩
      exact ⟨v, (B.mem _ _).mpr h1, by rw [B.can W w k v]; exact h2⟩
theorem Both.has {g h : Graph} (B : Both g h) (u v : Nat) : has h u v = beside g u v := by
  rw [Bool.eq_iff_iff, has_iff]
  exact B.mem u v
theorem Both.ow {g h : Graph} (B : Both g h) (W : Wf g) (w : Nat) : ∀ k u, owEnd h (· == w) k u = back g w k u
  | 0, u => rfl
  | k + 1, u => by
    show (match (List.range h.n).find? fun v => Ks547.has h u v && canEnd h (· == w) k v with | none => [u] | some v => u :: owEnd h (· == w) k v) =
      (match (List.range g.n).find? fun v => beside g u v && canBack g w k v with | none => [u] | some v => u :: back g w k v)
    rw [show (fun v => Ks547.has h u v && canEnd h (· == w) k v) = fun v => beside g u v && canBack g w k v from funext fun v => by rw [B.has, B.can W w k v], B.n]
    cases (List.range g.n).find? fun v => beside g u v && canBack g w k v with
    | none => rfl
    | some v => show u :: owEnd h (· == w) k v = _; rw [B.ow W w k v]
theorem Both.closed {g h : Graph} (B : Both g h) (W : Wf g) (k : Nat) : closed h k = ((List.range g.n).find? fun u => canBack g u k u).map fun u => back g u k u := by
  unfold Tow.closed
  rw [B.n, show (fun u => canEnd h (· == u) k u) = fun u => canBack g u k u from funext fun u => B.can W u k u, show (fun u => owEnd h (· == u) k u) = fun u => back g u k u from funext fun u => B.ow W u k u]
theorem Both.odd {g h : Graph} (B : Both g h) (W : Wf g) (hc : colours g = none) : ∃ w, oddIn h = some w ∧ odd g = some w := by
  obtain ⟨k, u, hk, ho, hu, hb⟩ := (colours_none_iff W).mp hc
  have hs : oddIn h ≠ none := by
    intro z
    unfold oddIn at z
    rw [List.findSome?_eq_none_iff] at z
    have z1 := z (k / 2) (List.mem_range.mpr (by rw [B.n]; omega))
    rw [show 2 * (k / 2) + 1 = k by omega, B.closed W k, Option.map_eq_none_iff, List.find?_eq_none] at z1
    exact z1 u (List.mem_range.mpr hu) hb
  cases e : oddIn h with
  | none => exact absurd e hs
  | some w =>
    refine ⟨w, rfl, ?_⟩
    unfold oddIn at e
    unfold Ks551.odd
    rw [show g.n + 1 = (g.n + 1) / 2 + (g.n + 1 - (g.n + 1) / 2) by omega, List.range_add, List.findSome?_append]
    rw [B.n, show (fun i => Tow.closed h (2 * i + 1)) = fun i => ((List.range g.n).find? fun u => canBack g u (2 * i + 1) u).map fun u => back g u (2 * i + 1) u from funext fun i => B.closed W _] at e
    show ((List.range ((g.n + 1) / 2)).findSome? fun i => ((List.range g.n).find? fun u => canBack g u (2 * i + 1) u).map fun u => back g u (2 * i + 1) u).or _ = _
    rw [e]
    rfl
/-! ### ways to give colours, place by place -/
def clashB (p : Nat × Nat) (f : List Nat) : Bool := decide (max p.1 p.2 < f.length) && (f.getD p.1 0 == f.getD p.2 0)
def okP (ps : List (Nat × Nat)) (f : List Nat) : Bool := !ps.any fun p => clashB p f
def ext (ps : List (Nat × Nat)) (m : Nat) (r : List Nat) : List (List Nat) := ((List.range m).map fun x => r ++ [x]).filter (okP ps)
def ways (ps : List (Nat × Nat)) (m : Nat) : Nat → List (List Nat)
  | 0 => [[]]
  | i + 1 => (ways ps m i).flatMap (ext ps m)
theorem okP_iff {ps : List (Nat × Nat)} {f : List Nat} : okP ps f = true ↔ ∀ p ∈ ps, ¬ (max p.1 p.2 < f.length ∧ f.getD p.1 0 = f.getD p.2 0) := by
  unfold okP clashB
  rw [Bool.not_eq_true', List.any_eq_false]
  constructor
  · intro h p hp z
    refine h p hp ?_
    rw [Bool.and_eq_true, decide_eq_true_eq, beq_iff_eq]
    exact z
  · intro h p hp z
    rw [Bool.and_eq_true, decide_eq_true_eq, beq_iff_eq] at z
    exact h p hp z
theorem okP_less {ps : List (Nat × Nat)} {r : List Nat} {x : Nat} (h : okP ps (r ++ [x]) = true) : okP ps r = true := by
  rw [okP_iff] at h ⊢
  rintro p hp ⟨h1, h2⟩
  refine h p hp ⟨by rw [List.length_append]; omega, ?_⟩
  rw [List.getD_eq_getElem?_getD, List.getD_eq_getElem?_getD, List.getElem?_append_left (by omega), List.getElem?_append_left (by omega), ← List.getD_eq_getElem?_getD, ← List.getD_eq_getElem?_getD]
  exact h2
theorem ext_nil {ps : List (Nat × Nat)} {m : Nat} {r : List Nat} (h : okP ps r = false) : ext ps m r = [] := by
  unfold ext
  rw [List.filter_eq_nil_iff]
  intro f hf hk
  obtain ⟨x, _, rfl⟩ := List.mem_map.mp hf
  rw [okP_less hk] at h
  cases h
theorem flat_filter {α β : Type} {P : α → Bool} {F : α → List β} : ∀ {l : List α}, (∀ r, P r = false → F r = []) → l.flatMap F = (l.filter P).flatMap F
  | [], _ => rfl
  | a :: l, h => by
    rw [List.flatMap_cons, flat_filter (l := l) h]
    cases c : P a with
    | true => rw [List.filter_cons_of_pos c, List.flatMap_cons]
    | false => rw [List.filter_cons_of_neg (by rw [c]; exact Bool.false_ne_true), h a c, List.nil_append]
theorem ways_rows (ps : List (Nat × Nat)) (m : Nat) : ∀ i, ways ps m i = (rows m i).filter (okP ps)
  | 0 => by
    show [[]] = [[]].filter (okP ps)
    have : okP ps [] = true := by
      rw [okP_iff]
      rintro p hp ⟨h1, _⟩
      exact absurd h1 (Nat.not_lt_zero _)
    rw [List.filter_cons_of_pos this]
    rfl
  | i + 1 => by
    show (ways ps m i).flatMap (ext ps m) = _
    rw [ways_rows ps m i, rows_snoc, List.filter_flatMap, ← flat_filter (fun r hr => ext_nil hr)]
    rfl
theorem ways_maps {g : Graph} (W : Wf g) (m : Nat) : ways g.arrows m g.n = maps g (Ks551.all m) := by
  rw [ways_rows]
  unfold maps
  refine List.filter_congr fun f hf => ?_
  obtain ⟨h1, h2⟩ := rows_mem.mp hf
  rw [Bool.eq_iff_iff, keeps_all W, okP_iff]
  constructor
  · intro h
    refine ⟨h1, h2, fun p hp e => h p hp ⟨?_, e⟩⟩
    have := W.inn p hp
    rw [h1]
    omega
  · rintro ⟨_, _, h⟩ p hp ⟨_, e⟩
    exact h p hp e
theorem maps_pair {g : Graph} (W : Wf g) : maps g pair = maps g (Ks551.all 2) := by
  show (rows 2 g.n).filter _ = (rows 2 g.n).filter _
  refine List.filter_congr fun f _ => ?_
  rw [Bool.eq_iff_iff, keeps_pair W, keeps_all W]
def firstCol (g : Graph) (m : Nat) : Option (List Nat) := (maps g (Ks551.all m)).head?
theorem colours_first {g : Graph} (W : Wf g) : colours g = firstCol g 2 := by
  unfold colours firstCol
  rw [maps_pair W]
theorem firstCol_col {g : Graph} (W : Wf g) {m : Nat} {d : List Nat} (h : firstCol g m = some d) : Col g m d := (keeps_all W).mp (maps_head h)
theorem firstCol_none {g : Graph} (W : Wf g) {m : Nat} (h : firstCol g m = none) (f : List Nat) : ¬ Col g m f := fun c => maps_head_none h ((keeps_all W).mpr c)
theorem firstCol_ways {g : Graph} (W : Wf g) {m : Nat} : firstCol g m = (ways g.arrows m g.n).head? := by
  rw [ways_maps W]
  rfl
theorem ext_len (ps : List (Nat × Nat)) (m : Nat) (r : List Nat) : (ext ps m r).length ≤ m := by
  have := List.length_filter_le (okP ps) ((List.range m).map fun x => r ++ [x])
  rw [List.length_map, List.length_range] at this
  exact this
theorem flat_len {α β : Type} {F : α → List β} {m : Nat} (hF : ∀ r, (F r).length ≤ m) : ∀ l : List α, (l.flatMap F).length ≤ l.length * m
  | [] => Nat.zero_le _
  | a :: l => by
    rw [List.flatMap_cons, List.length_append, List.length_cons, Nat.succ_mul]
    have := hF a
    have := flat_len hF l
    omega
theorem ways_len (ps : List (Nat × Nat)) (m : Nat) : ∀ i, (ways ps m i).length ≤ m ^ i
  | 0 => Nat.le_refl _
  | i + 1 => by
    have h1 := flat_len (ext_len ps m) (ways ps m i)
    have h2 := ways_len ps m i
    show ((ways ps m i).flatMap (ext ps m)).length ≤ _
    rw [Nat.pow_succ]
    exact Nat.le_trans h1 (Nat.mul_le_mul_right _ h2)
theorem pow_small {m i : Nat} (hm : m ≤ 5) (hi : i ≤ 5) : m ^ i ≤ 3125 := by
  have h1 : m ^ i ≤ 5 ^ i := Nat.pow_le_pow_left hm i
  have h2 : 5 ^ i ≤ 5 ^ 5 := Nat.pow_le_pow_right (by decide) hi
  have h3 : (5 : Nat) ^ 5 = 3125 := by decide
  omega
theorem ways_at {ps : List (Nat × Nat)} {m : Nat} : ∀ {i : Nat} {f : List Nat}, f ∈ ways ps m i → f.length = i := by
  intro i f h
  rw [ways_rows] at h
  exact (rows_mem.mp (List.mem_filter.mp h).1).1
/-! ### how few -/
theorem no_zero {g : Graph} (W : Wf g) (f : List Nat) : ¬ Col g 0 f := fun c => by
  have := W.lo
  have h := c.len
  cases f with
  | nil => simp at h; omega
  | cons x f => exact absurd (c.lt x (by simp)) (Nat.not_lt_zero _)
theorem self_any {g : Graph} : (g.arrows.map fun p => p.1 == p.2).any id = true ↔ ∃ u, (u, u) ∈ g.arrows := by
  rw [List.any_map, List.any_eq_true]
  constructor
  · rintro ⟨⟨u, v⟩, h, e⟩
    have e : u = v := by simpa using e
    subst e
    exact ⟨u, h⟩
  · rintro ⟨u, h⟩
    exact ⟨(u, u), h, by simp⟩
end Tow
namespace Tow
open PySem PySem.Spec PyProof.Rows L2
open Ks547 (Graph has)
/-! ### t >= u of two tuples of whole numbers -/
def geTup (ns ms : List Int) : Bool := Ob.lexAt (fun j => decide (ns.getD j 0 = ms.getD j 0)) (fun j => decide (ms.getD j 0 ≤ ns.getD j 0)) (decide (ns.length ≥ ms.length)) 0 (min ns.length ms.length)
def rGeTup (K : PySem.W.Frag) : R2 := fun x y H Q => ∃ (a b : Addr) (ns ms : List Int), x = .ref a ∧ y = .ref b ∧ SqT K H a (ns.map V.int) ∧ SqT K H b (ms.map V.int) ∧ Q (.bl (geTup ns ms)) H
theorem op_geTup {X : Cx} (room : X.A.units < cLine) : OpR X (compareOp .GtE) (rGeTup X.K) := by
  intro pins s σ H x y v u Q I relx rely hyp
  obtain ⟨a, b, ns, ms, rfl, rfl, ta, tb, fin⟩ := hyp
  cases relx
  cases rely
  obtain ⟨us, ru, pu, _⟩ := I.tuple ta
  obtain ⟨vs, rv, pvv, _⟩ := I.tuple tb
  have iu : IntsAre us ns := Vals.ints ru
  have iv : IntsAre vs ms := Vals.ints rv
  have su : us.toArray.size = ns.length := by
    rw [List.size_toArray]; exact iu.length
  have sv : vs.toArray.size = ms.length := by
    rw [List.size_toArray]; exact iv.length
  have gu : ∀ j (hj : j < us.toArray.size), ∃ t, us.toArray[j] = .int (ns.getD j 0) t := fun j hj =>
    PyProof.Rows.IntsAre.int_at iu _ _ (by simp at hj; simp [hj])
  have gv : ∀ j (hj : j < vs.toArray.size), ∃ t, vs.toArray[j] = .int (ms.getD j 0) t := fun j hj =>
    PyProof.Rows.IntsAre.int_at iv _ _ (by simp at hj; simp [hj])
  have cmp := Ob.RcOp.tuples_ge (A := X.A) (s := s) (e := fun j => decide (ns.getD j 0 = ms.getD j 0)) (r := fun j => decide (ms.getD j 0 ≤ ns.getD j 0)) pu pvv room
    (fun j h1 h2 => by
      obtain ⟨t1, e1⟩ := gu j h1
      obtain ⟨t2, e2⟩ := gv j h2
      rw [e1, e2]
      have bq : (ns.getD j 0 == ms.getD j 0) = decide (ns.getD j 0 = ms.getD j 0) := by
        rw [Bool.eq_iff_iff, beq_iff_eq, decide_eq_true_eq]
      rw [← bq]
      exact SeqAt.EqAt.int_int _ _ _ _)
    (fun j h1 h2 _ => by
      obtain ⟨t1, e1⟩ := gu j h1
      obtain ⟨t2, e2⟩ := gv j h2
      rw [e1, e2]
      exact Ob.RcOp.ge_int _ _ _ _)
  rw [su, sv] at cmp
  exact (cmp X.prog X.w X.xe (EP X pins σ Q) ⟨.bl _, H, I, rfl, fin⟩ : wpAny (model X.prog X.w) X.A (compareOp .GtE (.ref a) (.ref b)) (EP X pins σ Q) X.xe s)
theorem geTup_two (p q : Int × Int) : geTup [p.1, p.2] [q.1, q.2] = !lt2 p q := by
  show Ob.lexAt _ _ _ 0 2 = _
  rw [Ob.lexAt_succ, Ob.lexAt_succ, Ob.lexAt_zero]
  show (if decide (p.1 = q.1) = true then (if decide (p.2 = q.2) = true then decide (2 ≥ 2) else decide (q.2 ≤ p.2)) else decide (q.1 ≤ p.1)) = _
  unfold lt2
  by_cases c1 : p.1 = q.1
  · rw [if_pos (decide_eq_true c1), if_pos c1]
    by_cases c2 : p.2 = q.2
    · rw [if_pos (decide_eq_true c2), decide_eq_false (show ¬ p.2 < q.2 by omega)]; rfl
    · rw [if_neg (by simpa using c2)]
      by_cases c3 : p.2 < q.2
      · rw [decide_eq_true c3, decide_eq_false (by omega)]; rfl
      · rw [decide_eq_false c3, decide_eq_true (by omega)]; rfl
  · rw [if_neg (by simpa using c1), if_neg c1]
    by_cases c3 : p.1 < q.1
    · rw [decide_eq_true c3, decide_eq_false (by omega)]; rfl
    · rw [decide_eq_false c3, decide_eq_true (by omega)]; rfl
/-! ### heaps -/
theorem same_new {H H' : Hp} {p : Addr} {o : HO} (s : Same H H') (h : H p = none) : Same H (upd H' p o) := fun b x e => by
  rw [upd_ne (ne_of_none e h)]
  exact s b x e
theorem same_fresh {H H' : Hp} {p : Addr} (s : Same H H') (h : H' p = none) : H p = none := s.free h
/-- at a a list of pairs -/
def Arr (H : Hp) (a : Addr) (ps : List (Int × Int)) : Prop := ∃ ts : List Addr, H a = some (.lst (ts.map V.ref)) ∧ ts.length = ps.length ∧
  ∀ (i : Nat) (t : Addr) (p : Int × Int), ts[i]? = some t → ps[i]? = some p → H t = some (.tup [.int p.1, .int p.2])
theorem Arr.same {H H' : Hp} {a : Addr} {ps : List (Int × Int)} (A : Arr H a ps) (s : Same H H') : Arr H' a ps := by
  obtain ⟨ts, h1, h2, h3⟩ := A
  exact ⟨ts, s _ _ h1, h2, fun i t p e1 e2 => s _ _ (h3 i t p e1 e2)⟩
theorem Arr.nil {H : Hp} {a : Addr} (h : H a = some (.lst [])) : Arr H a [] := ⟨[], h, rfl, fun i t p e => by simp at e⟩
theorem Arr.push {H : Hp} {a : Addr} {ps : List (Int × Int)} (A : Arr H a ps) {t : Addr} {p : Int × Int} (ht : H t = some (.tup [.int p.1, .int p.2])) :
    ∃ acc, H a = some (.lst acc) ∧ acc.length = ps.length ∧ Arr (upd H a (.lst (acc ++ [.ref t]))) a (ps ++ [p]) := by
  obtain ⟨ts, h1, h2, h3⟩ := A
  refine ⟨ts.map V.ref, h1, by simp [h2], ts ++ [t], by rw [upd_same, List.map_append]; rfl, by simp [h2], fun i t' p' e1 e2 => ?_⟩
  have ne : ∀ (b : Addr) (l : List V), H b = some (.tup l) → b ≠ a := fun b l hb => ne_of hb h1 (by intro z; cases z)
  rcases Nat.lt_or_ge i ts.length with c | c
  · rw [List.getElem?_append_left c] at e1
    rw [List.getElem?_append_left (h2 ▸ c)] at e2
    have q := h3 i t' p' e1 e2
    rw [upd_ne (ne _ _ q)]
    exact q
  · rw [List.getElem?_append_right c] at e1
    rw [List.getElem?_append_right (h2 ▸ c)] at e2
    have hi : i - ts.length = 0 := by
      rcases Nat.eq_zero_or_pos (i - ts.length) with z | z
      · exact z
      · rw [List.getElem?_eq_none (by simp; omega)] at e1; cases e1
    rw [hi] at e1
    rw [show i - ps.length = 0 by omega] at e2
    simp at e1 e2
    subst e1 e2
    rw [upd_ne (ne _ _ ht)]
    exact ht
/-- the i-th of them -/
theorem Arr.item {H : Hp} {a : Addr} {ps : List (Int × Int)} (A : Arr H a ps) : ∃ xs : List V, H a = some (.lst xs) ∧ xs.length = ps.length ∧
    ∀ (i : Nat) (x : V), xs[i]? = some x → ∃ (t : Addr) (p : Int × Int), x = .ref t ∧ ps[i]? = some p ∧ H t = some (.tup [.int p.1, .int p.2]) := by
  obtain ⟨ts, h1, h2, h3⟩ := A
  refine ⟨ts.map V.ref, h1, by simp [h2], fun i x hx => ?_⟩
  rw [List.getElem?_map] at hx
  cases e : ts[i]? with
  | none => rw [e] at hx; cases hx
  | some t =>
    rw [e] at hx
    have hi : i < ts.length := (List.getElem?_eq_some_iff.mp e).1
    refine ⟨t, ps[i]'(h2 ▸ hi), (Option.some.inj hx).symm, List.getElem?_eq_getElem (h2 ▸ hi), ?_⟩
    exact h3 i t _ e (List.getElem?_eq_getElem (h2 ▸ hi))
theorem small {n : Nat} (h : n ≤ 1000) : n < sizeLine := small1000 h
/-! ### range(0, L, 2) -/
theorem rg2 {L : Nat} (h : L ≤ 60) (e : L % 2 = 0) : RgC 0 (L : Int) 2 (L / 2) := by
  have hs : Builtin.Range.rangeSize 0 (L : Int) 2 = ((L / 2 : Nat) : Int) := by
    unfold Builtin.Range.rangeSize
    rw [if_pos (by decide)]
    split <;> omega
  refine ⟨by decide, by decide, ?_, hs⟩
  unfold Builtin.Range.small
  rw [hs]
  have f : ∀ i : Int, 0 ≤ i → i ≤ 100 → Builtin.Range.rangeFitsLong i = true := fun i a b => by
    unfold Builtin.Range.rangeFitsLong
    rw [Bool.and_eq_true, decide_eq_true_eq, decide_eq_true_eq]
    omega
  rw [f 0 (by omega) (by omega), f L (by omega) (by omega), f 2 (by omega) (by omega), f ((L / 2 : Nat) : Int) (by omega) (by omega), if_pos (by decide), f ((L : Int) + (2 - 1)) (by omega) (by omega), Bool.or_true]
  rfl
end Tow
namespace Tow
open PySem PySem.Spec PyProof.Rows L2
open Ks547 (Graph has)
open Ks551 (canWalk deep)
/-! ### the text -/
def topS (i : Nat) : Stmt := PySem.Challenge.pw_towerorwalk_s06_least.main.body.getD i (.Pass ⟨0, 0, 0, 0⟩)
abbrev sIsG : Stmt := topS 5
abbrev sRis : Stmt := topS 6
abbrev sPair : Stmt := topS 7
abbrev sSta : Stmt := topS 999
abbrev sHei : Stmt := topS 999
theorem scPair : FnScope ["first", "index"] ["first"] (defScope sPair) := ⟨rfl, rfl, rfl, by decide +kernel, rfl, by decide +kernel, by decide +kernel⟩
theorem scRis : FnScope ["arrows", "index"] ["arrows"] (defScope sRis) := ⟨rfl, rfl, rfl, by decide +kernel, rfl, by decide +kernel, by decide +kernel⟩
theorem scIsG : FnScope ["n", "first", "place"] ["n", "first"] (defScope sIsG) := ⟨rfl, rfl, rfl, by decide +kernel, rfl, by decide +kernel, by decide +kernel⟩
section
variable {P : Program} {w : World} {K : PySem.W.Frag} {mg : Str → Option Value} {base : Heap}
/-! ### pair_up -/
def spPair (K : PySem.W.Frag) : Sp := fun vs H Q _ => ∃ (a : Addr) (ns : List Int), vs = [.ref a] ∧ SqL K H a (ns.map V.int) ∧ ns.length ≤ 60 ∧ ns.length % 2 = 0 ∧
  ∀ H' p, Same H H' → H p = none → Arr H' p (pairUp ns) → Q (.ref p) H'
theorem take_next {α : Type} {l : List α} {i : Nat} {x : α} (h : l[i]? = some x) : l.take (i + 1) = l.take i ++ [x] := by
  rw [List.take_add_one, h]
  rfl
theorem int_at {ns : List Int} {j : Nat} (h : j < ns.length) : (ns.map V.int)[j]? = some (.int (ns.getD j 0)) := by
  rw [List.getElem?_map, List.getElem?_eq_getElem h, List.getD_eq_getElem?_getD, List.getElem?_eq_getElem h]
  rfl
theorem ok_pair {f : Addr} {fd : FuncData} {k : Nat} (F : Fun K "pair_up" "pair_up" sPair f fd) (mr : mg "range" = none) (ml : mg "len" = none) : FnOk P w K mg base CX0 (k + 1) f fd ["first"] (spPair K) := by
  refine F.ok scPair (fun vs H Q E h => ?_) (fun cdv A outer s H vs Q E hr h => ?_)
  · obtain ⟨a, ns, rfl, _⟩ := h
    rfl
  · obtain ⟨a, ns, rfl, hS, hlen, hev, q⟩ := h
    refine ⟨_, pss_one (ps_ret (pe_lc (own := [("index", 1)]) (g := gName 1) (by rfl) scPair.nd
      (pi_range3 rfl mr (pa_cons pe_int (pa_cons (pe_callB call_len_seq (by rfl) ml PySem.boot_len (pa_cons (pv 0) pa_nil)) (pa_cons pe_int pa_nil))))
      (blkOk_by (own := [("index", 1)]) (N := ["first", "index"]) (sc := defScope sPair) (by decide +kernel))
      (fun _ _ _ _ _ => pg_name (i := 1) scPair.nd rfl (Or.inl rfl)) (fun _ _ _ _ _ => pts_nil)
      (fun _ _ _ _ _ => pe_tup (pa_cons (pe_ix (r := rIxL K) ix_list (pv 0) (pv 1) (fun _ _ => rfl)) (pa_cons (pe_ix (r := rIxL K) ix_list (pv 0) (pe_op op_add (pv 1) pe_int) (fun _ _ => rfl)) pa_nil))))), ?_⟩
    refine ⟨.ref a, rfl, a, ns.map V.int, rfl, .inl hS, 0, (ns.length : Int), 2, ns.length / 2, ?_, rg2 hlen hev, fun D nD => ?_⟩
    · rw [List.length_map]
    · refine ⟨fun i m H' => m = ns.length / 2 - i ∧ i ≤ ns.length / 2 ∧ Same H H' ∧ Arr H' D ((pairUp ns).take i), ⟨ns.length / 2, rfl, Nat.zero_le _, same_new (Same.refl H) nD, Arr.nil upd_same⟩, ?_⟩
      rintro i m H' ⟨rfl, hi, sm, ar⟩
      by_cases hlt : i < ns.length / 2
      · refine .inr ⟨hlt, fun H2 => Same H H2 ∧ Arr H2 D ((pairUp ns).take (i + 1)), fun H2 z => ⟨_, by omega, rfl, hlt, z.1, z.2⟩, ?_⟩
        rintro x H2 ⟨rfl, rfl⟩
        have g1 := int_at (ns := ns) (j := 2 * i) (by omega)
        have g2 := int_at (ns := ns) (j := 2 * i + 1) (by omega)
        refine ⟨rfl, ?_⟩
        dsimp only [tYes]
        rw [if_pos rfl]
        refine ⟨.ref a, rfl, _, rfl, a, _, _, _, rfl, rfl, sm.seq hS, at_of (j := 2 * i) (by omega) g1, ?_⟩
        refine ⟨.ref a, rfl, _, rfl, _, _, rfl, rfl, a, _, _, _, rfl, rfl, sm.seq hS, at_of (j := 2 * i + 1) (by omega) g2, ?_⟩
        refine ⟨by show 2 ≤ sizeLine; decide, fun t nt => ?_⟩
        have pa := pairUp_at ns i (by omega)
        have s2 : Same H2 (upd H2 t (.tup [.int (ns.getD (2 * i) 0), .int (ns.getD (2 * i + 1) 0)])) := same_new (Same.refl H2) nt
        obtain ⟨acc, e1, e2, e3⟩ := (ar.same s2).push (t := t) (p := (ns.getD (2 * i) 0, ns.getD (2 * i + 1) 0)) upd_same
        refine ⟨acc, e1, small ?_, same_new (sm.trans s2) nD, ?_⟩
        · rw [e2, List.length_take]; omega
        · rw [take_next pa]; exact e3
      · have e : i = ns.length / 2 := by omega
        subst e
        refine .inl ⟨Nat.le_refl _, q H' D sm nD ?_⟩
        rw [List.take_of_length_le (by rw [pairUp_len]; exact Nat.le_refl _)] at ar
        exact ar
/-! ### is_rising -/
def spRis : Sp := fun vs H Q _ => ∃ (a : Addr) (ps : List (Int × Int)), vs = [.ref a] ∧ Arr H a ps ∧ ps.length ≤ 30 ∧ Q (.bl (rising ps)) H
theorem rising_no : ∀ {ps : List (Int × Int)} {i : Nat} {p q : Int × Int}, ps[i]? = some p → ps[i + 1]? = some q → lt2 p q = false → rising ps = false
  | [], i, p, q, h, _, _ => by simp at h
  | [a], 0, p, q, _, h, _ => by simp at h
  | [a], i + 1, p, q, h, _, _ => by simp at h
  | a :: b :: r, 0, p, q, h1, h2, hl => by
    have e1 : a = p := Option.some.inj h1
    have e2 : b = q := Option.some.inj h2
    subst e1 e2
    show (lt2 a b && rising (b :: r)) = false
    rw [hl]; rfl
  | a :: b :: r, i + 1, p, q, h1, h2, hl => by
    show (lt2 a b && rising (b :: r)) = false
    rw [rising_no (ps := b :: r) (i := i) h1 h2 hl, Bool.and_false]
theorem rising_yes : ∀ {ps : List (Int × Int)}, (∀ (i : Nat) (p q : Int × Int), ps[i]? = some p → ps[i + 1]? = some q → lt2 p q = true) → rising ps = true
  | [], _ => rfl
  | [_], _ => rfl
  | a :: b :: r, h => by
    show (lt2 a b && rising (b :: r)) = true
    rw [h 0 a b rfl rfl, rising_yes (ps := b :: r) (fun i p q e1 e2 => h (i + 1) p q e1 e2)]
    rfl
theorem ok_ris {f : Addr} {fd : FuncData} {k : Nat} (F : Fun K "is_rising" "is_rising" sRis f fd) (mr : mg "range" = none) (ml : mg "len" = none) : FnOk P w K mg base CX0 (k + 1) f fd ["arrows"] spRis := by
  refine F.ok scRis (fun vs H Q E h => ?_) (fun cdv A outer s H vs Q E hr h => ?_)
  · obtain ⟨a, ns, rfl, _⟩ := h
    rfl
  · obtain ⟨a, ps, rfl, ar, hlen, q⟩ := h
    obtain ⟨xs, hx, hxl, hit⟩ := ar.item
    refine ⟨_, pss_cons (ps_for PassesOwn.never rfl (pi_range2 (by rfl) mr (pa_cons pe_int (pa_cons (pe_callB call_len_seq (by rfl) ml PySem.boot_len (pa_cons (pv 0) pa_nil)) pa_nil))) (pg_name (i := 1) scRis.nd rfl (Or.inl rfl))
        (pss_one (ps_if (pt_cmpR (op_geTup hr.units0) (pe_ix ix_list (pv 0) (pe_op op_sub (pv 1) pe_int) (fun _ _ => rfl)) (pe_ix ix_list (pv 0) (pv 1) (fun _ _ => rfl)) (nomark _))
          (pss_one (ps_ret pe_bl)) pss_nil)))
      (pss_one (ps_ret pe_bl)), ?_⟩
    refine ⟨.ref a, rfl, a, xs, rfl, .inl (SqL.of hx), 1, (xs.length : Int), rfl, ⟨by decide, by decide, by omega, by omega⟩, ?_⟩
    refine for_range (lo := 1) (n := ((xs.length : Int) - 1).toNat) (fun i σ H' => ∃ v : Option V, σ = [some (.ref a), v] ∧ H' = H ∧ ∀ (j : Nat) (p r : Int × Int), j < i → ps[j]? = some p → ps[j + 1]? = some r → lt2 p r = true)
      ⟨none, rfl, rfl, fun j _ _ hj => absurd hj (Nat.not_lt_zero _)⟩ ?_ ?_
    · rintro i σ H' hi ⟨v, rfl, rfl, inv⟩
      have h1 : i < xs.length := by omega
      have h2 : i + 1 < xs.length := by omega
      obtain ⟨t1, p1, e1, ep1, ht1⟩ := hit i _ (List.getElem?_eq_getElem h1)
      obtain ⟨t2, p2, e2, ep2, ht2⟩ := hit (i + 1) _ (List.getElem?_eq_getElem h2)
      refine ⟨.ref a, rfl, _, rfl, _, _, rfl, rfl, a, xs, _, .ref t1, rfl, rfl, SqL.of hx, at_of (j := i) (by omega) (by rw [List.getElem?_eq_getElem h1, e1]), ?_⟩
      refine ⟨.ref a, rfl, _, rfl, a, xs, _, .ref t2, rfl, rfl, SqL.of hx, at_of (j := i + 1) (by omega) (by rw [List.getElem?_eq_getElem h2, e2]), ?_⟩
      refine ⟨t1, t2, [p1.1, p1.2], [p2.1, p2.2], rfl, rfl, SqT.of ht1, SqT.of ht2, _, rfl, ?_⟩
      rw [geTup_two]
      cases hl : lt2 p1 p2 with
      | false =>
        refine iteT ?_
        rw [rising_no ep1 ep2 hl] at q
        exact q
      | true =>
        refine iteF ?_
        refine ⟨some _, rfl, rfl, fun j p r hj ej1 ej2 => ?_⟩
        rcases Nat.lt_or_ge j i with c | c
        · exact inv j p r c ej1 ej2
        · have ej : j = i := by omega
          subst ej
          rw [ep1] at ej1
          rw [ep2] at ej2
          cases ej1
          cases ej2
          exact hl
    · rintro σ H' ⟨v, rfl, rfl, inv⟩
      have er : rising ps = true := rising_yes fun i p r e1 e2 => inv i p r (by
        have := (List.getElem?_eq_some_iff.mp e2).1
        omega) e1 e2
      rw [er] at q
      exact q
end
end Tow
namespace Tow
open PySem PySem.Spec PyProof.Rows L2
open Ks547 (Graph has)
open Ks551 (canWalk deep)
section
variable {P : Program} {w : World} {K : PySem.W.Frag} {mg : Str → Option Value} {base : Heap}
/-! ### is_graph -/
def spIsG (K : PySem.W.Frag) : Sp := fun vs H Q _ => ∃ (n : Int) (a : Addr) (ns : List Int), vs = [.int n, .ref a] ∧ SqL K H a (ns.map V.int) ∧ ns.length ≤ 60 ∧ ∀ H', Same H H' → Q (.bl (isGraph n ns)) H'
theorem isGraph_not {n : Int} {ns : List Int} (h : ¬ (1 ≤ n ∧ n ≤ 5 ∧ ns.length % 2 = 0 ∧ (∀ x ∈ ns, 0 ≤ x ∧ x < n) ∧ rising (pairUp ns) = true)) : isGraph n ns = false := by
  cases e : isGraph n ns with
  | false => rfl
  | true => exact absurd (isGraph_iff.mp e) h
theorem isGraph_ris {n : Int} {ns : List Int} (h1 : 1 ≤ n) (h2 : n ≤ 5) (h3 : ns.length % 2 = 0) (h4 : ∀ x ∈ ns, 0 ≤ x ∧ x < n) : isGraph n ns = rising (pairUp ns) := by
  cases e : rising (pairUp ns) with
  | true => exact isGraph_iff.mpr ⟨h1, h2, h3, h4, e⟩
  | false =>
    refine isGraph_not fun z => ?_
    rw [e] at z
    exact Bool.noConfusion z.2.2.2.2
theorem ok_isG {f fP fR : Addr} {fd fdP fdR : FuncData} {k : Nat} (F : Fun K "is_graph" "is_graph" sIsG f fd) (FP : Fun K "pair_up" "pair_up" sPair fP fdP) (FR : Fun K "is_rising" "is_rising" sRis fR fdR)
    (bP : Binds K fdP ["first"] []) (bR : Binds K fdR ["arrows"] []) (gP : mg "pair_up" = some (.ref fP)) (gR : mg "is_rising" = some (.ref fR)) {tok : Tok} (gM : mg "MOST_PLACES" = some (.int 5 tok))
    (mr : mg "range" = none) (ml : mg "len" = none) : FnOk P w K mg base CX0 (k + 2) f fd ["n", "first"] (spIsG K) := by
  have GP : FnOk P w K mg base CX0 (k + 1) fP fdP ["first"] (spPair K) := ok_pair FP mr ml
  have GR : FnOk P w K mg base CX0 (k + 1) fR fdR ["arrows"] spRis := ok_ris FR mr ml
  refine F.ok scIsG (fun vs H Q E h => ?_) (fun cdv A outer s H vs Q E hr h => ?_)
  · obtain ⟨n, a, ns, rfl, _⟩ := h
    rfl
  · obtain ⟨n, a, ns, rfl, hS, hlen, q⟩ := h
    refine ⟨_, pss_cons (ps_if (PW.pt (pw_or (pt_cmpR op_lt (pv 0) pe_int (nomark _)) (pw_or (pt_cmpR op_gt (pv 0) (pe_glob (v := .int 5) rfl gM ⟨_, rfl⟩) (nomark _))
          (pw_or1 (pt_cmpR op_ne (pe_op op_mod (pe_callB call_len_seq (by rfl) ml PySem.boot_len (pa_cons (pv 1) pa_nil)) pe_int) pe_int (nomark _))))))
        (pss_one (ps_ret pe_bl)) pss_nil)
      (pss_cons (ps_for PassesOwn.never rfl (pi_list (pv 1)) (pg_name (i := 2) scIsG.nd rfl (Or.inl rfl))
        (pss_one (ps_if (PW.pt (pw_or (pt_cmpR op_lt (pv 2) pe_int (nomark _)) (pw_or1 (pt_cmpR op_ge (pv 2) (pv 0) (nomark _))))) (pss_one (ps_ret pe_bl)) pss_nil)))
      (pss_one (ps_ret (pe_call GR hr (by rfl) gR FR.kp bR .nil pass0 (pa_cons (pe_call GP hr (by rfl) gP FP.kp bP .nil pass0 (pa_cons (pv 1) pa_nil)) pa_nil))))), ?_⟩
    refine ⟨.int n, rfl, n, 1, rfl, rfl, _, rfl, ite2 (fun c => ?_) (fun c => ?_)⟩
    · refine iteT ?_
      have := of_decide_eq_true c
      have e := q H (Same.refl H)
      rw [isGraph_not (fun z => by omega)] at e
      exact e
    · have c1 : ¬ n < 1 := fun z => c (decide_eq_true z)
      refine ⟨.int n, rfl, n, 5, rfl, rfl, _, rfl, ite2 (fun c => ?_) (fun c => ?_)⟩
      · refine iteT ?_
        have := of_decide_eq_true c
        have e := q H (Same.refl H)
        rw [isGraph_not (fun z => by omega)] at e
        exact e
      · have c2 : ¬ 5 < n := fun z => c (decide_eq_true z)
        refine ⟨.ref a, rfl, a, _, rfl, .inl hS, _, 2, rfl, rfl, (by show (0 : Int) < 2; decide), rfl, _, rfl, ite2 (fun c => ?_) (fun c => ?_)⟩
        · rw [Bool.not_eq_true', decide_eq_false_iff_not, List.length_map] at c
          have e := q H (Same.refl H)
          rw [isGraph_not (fun z => c (congrArg V.int (by omega)))] at e
          exact e
        · rw [Bool.not_eq_true', decide_eq_false_iff_not, Classical.not_not, List.length_map] at c
          have c3 : ns.length % 2 = 0 := by
            have := V.int.inj c
            omega
          refine ⟨.ref a, rfl, a, rfl, ⟨_, hS⟩, for_list (K := K) (a := a) (xs := ns.map V.int) (fun i σ H' => ∃ v : Option V, σ = [some (.int n), some (.ref a), v] ∧ H' = H ∧ ∀ x ∈ ns.take i, 0 ≤ x ∧ x < n)
            ⟨none, rfl, rfl, fun x hx => by simp at hx⟩ (fun i σ H' _ ⟨_, _, e, _⟩ => e ▸ hS) ?_ ?_⟩
          · rintro i x σ H' hi ⟨v, rfl, rfl, inv⟩
            obtain ⟨z, hz, rfl⟩ : ∃ z, ns[i]? = some z ∧ V.int z = x := by
              rw [List.getElem?_map] at hi
              cases e : ns[i]? with
              | none => rw [e] at hi; cases hi
              | some z => rw [e] at hi; exact ⟨z, rfl, Option.some.inj hi⟩
            have zm : z ∈ ns := List.mem_of_getElem? hz
            have bad : ¬ (0 ≤ z ∧ z < n) → Q (.bl false) H' := fun hb => by
              have e := q H' (Same.refl H')
              rw [isGraph_not (fun w => hb (w.2.2.2.1 z zm))] at e
              exact e
            refine ⟨.int z, rfl, z, 0, rfl, rfl, _, rfl, ite2 (fun c => ?_) (fun c => ?_)⟩
            · refine iteT ?_
              have := of_decide_eq_true c
              exact bad (by omega)
            · have d1 : ¬ z < 0 := fun w => c (decide_eq_true w)
              refine ⟨.int z, rfl, .int n, rfl, z, n, rfl, rfl, _, rfl, ite2 (fun c => ?_) (fun c => ?_)⟩
              · have := of_decide_eq_true c
                exact bad (by omega)
              · have d2 : ¬ n ≤ z := fun w => c (decide_eq_true w)
                refine ⟨some (.int z), rfl, rfl, fun y hy => ?_⟩
                rw [take_next hz, List.mem_append] at hy
                rcases hy with hy | hy
                · exact inv y hy
                · have e : y = z := by simpa using hy
                  subst e
                  omega
          · rintro σ H' ⟨v, rfl, rfl, inv⟩
            rw [List.length_map, List.take_length] at inv
            refine ⟨.ref a, rfl, a, ns, rfl, hS, hlen, c3, fun H1 p sm np ar => ?_⟩
            refine ⟨p, pairUp ns, rfl, ar, by rw [pairUp_len]; omega, ?_⟩
            have e := q H1 sm
            rw [isGraph_ris (by omega) (by omega) c3 inv] at e
            exact e
/-! ### pairs of places -/
def castP (l : List (Nat × Nat)) : List (Int × Int) := l.map fun p => ((p.1 : Int), (p.2 : Int))
theorem rep_one (n : Nat) (v : V) : (List.replicate n [v]).flatten = List.replicate n v := by
  induction n with
  | zero => rfl
  | succ n ih => rw [List.replicate_succ, List.flatten_cons, ih, List.replicate_succ]; rfl
theorem castP_at {l : List (Nat × Nat)} {i : Nat} {p : Int × Int} (h : (castP l)[i]? = some p) : ∃ q : Nat × Nat, l[i]? = some q ∧ p = ((q.1 : Int), (q.2 : Int)) := by
  unfold castP at h
  rw [List.getElem?_map] at h
  cases e : l[i]? with
  | none => rw [e] at h; cases h
  | some q => rw [e] at h; exact ⟨q, rfl, (Option.some.inj h).symm⟩
theorem castP_len (l : List (Nat × Nat)) : (castP l).length = l.length := List.length_map _
theorem ixN_nat {n j : Nat} (h : j < n) : ixN n (j : Int) = some j := by
  unfold ixN
  rw [if_pos (by omega), if_pos (by omega)]
  rfl
theorem bool_at {n : Nat} (c : Nat → Bool) {u : Nat} (h : u < n) : (((List.range n).map c).map V.bl)[u]? = some (.bl (c u)) := by
  rw [List.getElem?_map, List.getElem?_map, List.getElem?_range h]
  rfl
end
end Tow
namespace Tow
open PySem PySem.Spec PyProof.Rows L2
/-! ### lists of whole numbers in the heap -/
def natV (l : List Nat) : List V := l.map fun (x : Nat) => V.int (x : Int)
theorem natV_at {l : List Nat} {j : Nat} (h : j < l.length) : (natV l)[j]? = some (.int ((l.getD j 0 : Nat) : Int)) := by
  unfold natV
  rw [List.getElem?_map, List.getElem?_eq_getElem h, List.getD_eq_getElem?_getD, List.getElem?_eq_getElem h]
  rfl
theorem natV_set (l : List Nat) (j x : Nat) : (natV l).set j (.int (x : Int)) = natV (l.set j x) := by
  unfold natV
  rw [List.map_set]
theorem natV_len (l : List Nat) : (natV l).length = l.length := List.length_map _
theorem natV_ints (l : List Nat) : natV l = (l.map fun (x : Nat) => (x : Int)).map V.int := by
  unfold natV
  rw [List.map_map]
  rfl
theorem natV_outI (r : Int) (l : List Nat) : [V.int r] ++ natV l = (outI r l).map V.int := by
  unfold natV outI
  rw [List.map_cons, List.map_map]
  rfl
theorem natV_app (l : List Nat) (x : Nat) : natV l ++ [.int (x : Int)] = natV (l ++ [x]) := by
  unfold natV
  rw [List.map_append]
  rfl
end Tow
namespace Tow
open PySem PySem.Spec PyProof.Rows L2
open PySem.W (Codec)
open Ks547 (Graph has)
abbrev sCla : Stmt := topS 10
section
variable {P : Program} {w : World} {K : PySem.W.Frag} {mg : Str → Option Value} {base : Heap}
/-! ### clashes -/
def spCla (K : PySem.W.Frag) : Sp := fun vs H Q _ => ∃ (ps : List (Nat × Nat)) (f : List Nat) (b a : Addr), vs = [.ref b, .ref a] ∧ SqL K H b (natV f) ∧ Arr H a (castP ps) ∧ Q (.bl (!okP ps f)) H
theorem scCla : FnScope ["given", "arrows", "source", "target"] ["given", "arrows"] (defScope sCla) := ⟨rfl, rfl, rfl, by decide +kernel, rfl, by decide +kernel, by decide +kernel⟩
theorem max_two (x y : Nat) : (if (y : Int) > (x : Int) then (y : Int) else (x : Int)) = ((max x y : Nat) : Int) := by
  by_cases c : (y : Int) > (x : Int)
  · rw [if_pos c]; omega
  · rw [if_neg c]; omega
theorem okP_no {ps : List (Nat × Nat)} {f : List Nat} {p : Nat × Nat} (hp : p ∈ ps) (h : clashB p f = true) : okP ps f = false := by
  unfold okP
  rw [List.any_eq_true.mpr ⟨p, hp, h⟩]
  rfl
theorem okP_yes {ps : List (Nat × Nat)} {f : List Nat} (h : ∀ p ∈ ps, clashB p f = false) : okP ps f = true := by
  unfold okP
  rw [List.any_eq_false.mpr fun p hp => by rw [h p hp]; exact Bool.false_ne_true]
  rfl
theorem ok_cla {f : Addr} {fd : FuncData} {k : Nat} (F : Fun K "clashes" "clashes" sCla f fd) (ml : mg "len" = none) (mm : mg "max" = none) : FnOk P w K mg base CX0 (k + 1) f fd ["given", "arrows"] (spCla K) := by
  refine F.ok scCla (fun vs H Q E h => ?_) (fun cdv A outer s H vs Q E hr h => ?_)
  · obtain ⟨ps, f, b, a, rfl, _⟩ := h
    rfl
  · obtain ⟨ps, f, b, a, rfl, hS, ar, q⟩ := h
    obtain ⟨xs, hx, hxl, hit⟩ := ar.item
    have hxg : xs.length = ps.length := by rw [hxl]; exact List.length_map _
    refine ⟨_, pss_cons (ps_for PassesOwn.never rfl (pi_list (pv 1)) (pg_tup rfl (pgs_cons (pg_name (i := 2) scCla.nd rfl (.inl rfl)) (pgs_cons (pg_name (i := 3) scCla.nd rfl (.inl rfl)) pgs_nil)))
        (pss_one (ps_if (PW.pt (pw_and (pt_cmpR op_lt (pe_callB (call_max2 rfl) (by rfl) mm (by decide +kernel) (pa_cons (pv 2) (pa_cons (pv 3) pa_nil))) (pe_callB call_len_seq (by rfl) ml PySem.boot_len (pa_cons (pv 0) pa_nil)) (nomark _))
            (pw_and1 (pt_cmpR op_eq (pe_ix ix_list (pv 0) (pv 2) (fun _ _ => rfl)) (pe_ix ix_list (pv 0) (pv 3) (fun _ _ => rfl)) (nomark _)))))
          (pss_one (ps_ret pe_bl)) pss_nil)))
      (pss_one (ps_ret pe_bl)), ?_⟩
    refine ⟨.ref a, rfl, a, rfl, ⟨_, SqL.of hx⟩, for_list (K := K) (a := a) (xs := xs) (fun i σ H' => ∃ v2 v3 : Option V, σ = [some (.ref b), some (.ref a), v2, v3] ∧ H' = H ∧ ∀ p ∈ ps.take i, clashB p f = false)
      ⟨none, none, rfl, rfl, fun p hp => by simp at hp⟩ (fun i σ H' _ ⟨_, _, _, e, _⟩ => e ▸ SqL.of hx) ?_ ?_⟩
    · rintro i x σ H' hi ⟨v2, v3, rfl, rfl, inv⟩
      obtain ⟨t, pp, rfl, epp, htt⟩ := hit i x hi
      obtain ⟨⟨u, v⟩, eq, rfl⟩ := castP_at epp
      have next : clashB (u, v) f = false → ∀ p ∈ ps.take (i + 1), clashB p f = false := fun z p hp => by
        rw [take_next eq, List.mem_append] at hp
        rcases hp with hp | hp
        · exact inv p hp
        · rw [List.mem_singleton.mp hp]
          exact z
      refine ⟨t, _, rfl, SqT.of htt, rfl, _, _, rfl, _, _, rfl, rfl, ?_⟩
      refine ⟨.int u, rfl, .int v, rfl, _, _, rfl, ?_⟩
      rw [max_two]
      refine ⟨.ref b, rfl, b, _, rfl, .inl hS, _, _, rfl, rfl, _, rfl, ite2 (fun c => ?_) (fun c => ?_)⟩
      · have hm : max u v < f.length := by
          have := of_decide_eq_true c
          rw [natV_len] at this
          omega
        refine ⟨.ref b, rfl, .int u, rfl, b, _, _, _, rfl, rfl, hS, at_of (j := u) rfl (natV_at (by omega)), .ref b, rfl, .int v, rfl, b, _, _, _, rfl, rfl, hS, at_of (j := v) rfl (natV_at (by omega)), rfl, _, rfl, ite2 (fun d => ?_) (fun d => ?_)⟩
        · have e1 : f.getD u 0 = f.getD v 0 := by
            have := V.int.inj (of_decide_eq_true d)
            omega
          have e2 : clashB (u, v) f = true := by
            unfold clashB
            rw [Bool.and_eq_true, decide_eq_true_eq, beq_iff_eq]
            exact ⟨hm, e1⟩
          rw [okP_no (List.mem_of_getElem? eq) e2] at q
          exact q
        · refine ⟨_, _, rfl, rfl, next ?_⟩
          unfold clashB
          rw [Bool.and_eq_false_iff]
          refine .inr ?_
          rw [beq_eq_false_iff_ne]
          intro z
          exact d (decide_eq_true (by rw [z]))
      · refine iteF ?_
        refine ⟨_, _, rfl, rfl, next ?_⟩
        unfold clashB
        rw [Bool.and_eq_false_iff]
        refine .inl ?_
        rw [decide_eq_false_iff_not]
        intro z
        refine c (decide_eq_true ?_)
        rw [natV_len]
        show ((max u v : Nat) : Int) < f.length
        have z2 : max u v < f.length := z
        omega
    · rintro σ H' ⟨v2, v3, rfl, rfl, inv⟩
      rw [hxg, List.take_length] at inv
      rw [okP_yes inv] at q
      exact q
end
end Tow
namespace Tow
open PySem PySem.Spec PyProof.Rows L2
open PySem.W (Codec)
open Ks547 (Graph has)
abbrev sCol : Stmt := topS 9
section
variable {P : Program} {w : World} {K : PySem.W.Frag} {mg : Str → Option Value} {base : Heap}
/-! ### first_colouring -/
/-- at a a list of ways -/
def Wys (H : Hp) (a : Addr) (ws : List (List Nat)) : Prop := ∃ ts : List Addr, H a = some (.lst (ts.map V.ref)) ∧ ts.length = ws.length ∧
  ∀ (i : Nat) (t : Addr) (w : List Nat), ts[i]? = some t → ws[i]? = some w → H t = some (.lst (natV w))
theorem Wys.same {H H' : Hp} {a : Addr} {ws : List (List Nat)} (A : Wys H a ws) (s : Same H H') : Wys H' a ws := by
  obtain ⟨ts, h1, h2, h3⟩ := A
  exact ⟨ts, s _ _ h1, h2, fun i t p e1 e2 => s _ _ (h3 i t p e1 e2)⟩
theorem Wys.nil {H : Hp} {a : Addr} (h : H a = some (.lst [])) : Wys H a [] := ⟨[], h, rfl, fun i t p e => by simp at e⟩
theorem way_ne {H : Hp} {a t : Addr} {ts : List Addr} {w : List Nat} (h1 : H a = some (.lst (ts.map V.ref))) (hm : t ∈ ts) (ht : H t = some (.lst (natV w))) : t ≠ a := fun e => by
  rw [e, h1] at ht
  have e2 : ts.map V.ref = natV w := HO.lst.inj (Option.some.inj ht)
  cases ts with
  | nil => exact absurd hm List.not_mem_nil
  | cons x r =>
    cases w with
    | nil => cases e2
    | cons y z =>
      have e3 : V.ref x = V.int y := (List.cons.inj e2).1
      cases e3
theorem Wys.push {H : Hp} {a : Addr} {ws : List (List Nat)} (A : Wys H a ws) {t : Addr} {w : List Nat} (ht : H t = some (.lst (natV w))) (ne : t ≠ a) :
    ∃ acc, H a = some (.lst acc) ∧ acc.length = ws.length ∧ Wys (upd H a (.lst (acc ++ [.ref t]))) a (ws ++ [w]) := by
  obtain ⟨ts, h1, h2, h3⟩ := A
  refine ⟨ts.map V.ref, h1, by simp [h2], ts ++ [t], by rw [upd_same, List.map_append]; rfl, by simp [h2], fun i t' p' e1 e2 => ?_⟩
  rcases Nat.lt_or_ge i ts.length with c | c
  · rw [List.getElem?_append_left c] at e1
    rw [List.getElem?_append_left (h2 ▸ c)] at e2
    have q := h3 i t' p' e1 e2
    rw [upd_ne (way_ne h1 (List.mem_of_getElem? e1) q)]
    exact q
  · rw [List.getElem?_append_right c] at e1
    rw [List.getElem?_append_right (h2 ▸ c)] at e2
    have hi : i - ts.length = 0 := by
      rcases Nat.eq_zero_or_pos (i - ts.length) with z | z
      · exact z
      · rw [List.getElem?_eq_none (by simp; omega)] at e1; cases e1
    rw [hi] at e1
    rw [show i - ws.length = 0 by omega] at e2
    simp at e1 e2
    subst e1 e2
    rw [upd_ne ne]
    exact ht
theorem Wys.item {H : Hp} {a : Addr} {ws : List (List Nat)} (A : Wys H a ws) : ∃ xs : List V, H a = some (.lst xs) ∧ xs.length = ws.length ∧
    ∀ (i : Nat) (x : V), xs[i]? = some x → ∃ (t : Addr) (w : List Nat), x = .ref t ∧ ws[i]? = some w ∧ H t = some (.lst (natV w)) := by
  obtain ⟨ts, h1, h2, h3⟩ := A
  refine ⟨ts.map V.ref, h1, by simp [h2], fun i x hx => ?_⟩
  rw [List.getElem?_map] at hx
  cases e : ts[i]? with
  | none => rw [e] at hx; cases hx
  | some t =>
    rw [e] at hx
    have hi : i < ts.length := (List.getElem?_eq_some_iff.mp e).1
    refine ⟨t, ws[i]'(h2 ▸ hi), (Option.some.inj hx).symm, List.getElem?_eq_getElem (h2 ▸ hi), ?_⟩
    exact h3 i t _ e (List.getElem?_eq_getElem (h2 ▸ hi))
theorem ext_next (ps : List (Nat × Nat)) (c : Nat) (r : List Nat) : ext ps (c + 1) r = ext ps c r ++ (if okP ps (r ++ [c]) = true then [r ++ [c]] else []) := by
  unfold ext
  rw [List.range_succ, List.map_append, List.filter_append]
  congr 1
  cases h : okP ps (r ++ [c]) <;> simp [h]
theorem flat_next {α β : Type} {F : α → List β} {l : List α} {j : Nat} {w : α} (h : l[j]? = some w) : (l.take (j + 1)).flatMap F = (l.take j).flatMap F ++ F w := by
  rw [take_next h, List.flatMap_append]
  simp
theorem small4 {n : Nat} (h : n ≤ 100000) : n < sizeLine := Nat.lt_of_le_of_lt h (by decide)
def spCol : Sp := fun vs H Q _ => ∃ (g : Graph) (m : Nat) (a : Addr), vs = [.int g.n, .int m, .ref a] ∧ Arr H a (castP g.arrows) ∧ Wf g ∧ m ≤ 5 ∧ ∀ H' p, Same H H' → H' p = some (.lst (natV ((firstCol g m).getD []))) → Q (.ref p) H'
theorem scCol : FnScope ["n", "count", "arrows", "ways", "place", "longer_ways", "way", "colour", "longer"] ["n", "count", "arrows"] (defScope sCol) := ⟨rfl, rfl, rfl, by decide +kernel, rfl, by decide +kernel, by decide +kernel⟩
theorem ok_col {f fC : Addr} {fd fdC : FuncData} {k : Nat} (F : Fun K "first_colouring" "first_colouring" sCol f fd) (FC : Fun K "clashes" "clashes" sCla fC fdC) (bC : Binds K fdC ["given", "arrows"] []) (gC : mg "clashes" = some (.ref fC))
    (mr : mg "range" = none) (ml : mg "len" = none) (mm : mg "max" = none) : FnOk P w K mg base CX0 (k + 2) f fd ["n", "count", "arrows"] spCol := by
  have GC : FnOk P w K mg base CX0 (k + 1) fC fdC ["given", "arrows"] (spCla K) := ok_cla FC ml mm
  refine F.ok scCol (fun vs H Q E h => ?_) (fun cdv A outer s H vs Q E hr h => ?_)
  · obtain ⟨g, m, a, rfl, _⟩ := h
    rfl
  · obtain ⟨g, m, a, rfl, ar, W, hm, q⟩ := h
    have hn5 : g.n ≤ 5 := W.hi
    refine ⟨_, pss_cons (ps_set (i := 3) scCol.nd rfl (.inl rfl) (pe_lst (pa_cons (pe_lst pa_nil) pa_nil)))
      (pss_cons (ps_for PassesOwn.never rfl (pi_range1 (by rfl) mr (pa_cons (pv 0) pa_nil)) (pg_name (i := 4) scCol.nd rfl (.inl rfl))
        (pss_cons (ps_set (i := 5) scCol.nd rfl (.inl rfl) (pe_lst pa_nil))
        (pss_cons (ps_for PassesOwn.never rfl (pi_list (pv 3)) (pg_name (i := 6) scCol.nd rfl (.inl rfl))
          (pss_one (ps_for PassesOwn.never rfl (pi_range1 (by rfl) mr (pa_cons (pv 1) pa_nil)) (pg_name (i := 7) scCol.nd rfl (.inl rfl))
            (pss_cons (ps_set (i := 8) scCol.nd rfl (.inl rfl) (pe_op op_cat (pv 6) (pe_lst (pa_cons (pv 7) pa_nil))))
            (pss_one (ps_if (pt_not (pt_val (pe_call GC hr (by rfl) gC FC.kp bC .nil pass0 (pa_cons (pv 8) (pa_cons (pv 2) pa_nil)))))
              (pss_one (ps_expr (pe_bm PySem.F.plainAttrs_list PySem.F.slot_list_append PySem.F.type_list_append mt_append (pv 5) (pa_cons (pv 8) pa_nil)))) pss_nil))))))
        (pss_one (ps_set (i := 3) scCol.nd rfl (.inl rfl) (pv 5))))))
      (pss_cons (ps_if (pt_cmpR op_eq (pe_callB call_len_seq (by rfl) ml PySem.boot_len (pa_cons (pv 3) pa_nil)) pe_int (nomark _)) (pss_one (ps_ret (pe_lst pa_nil))) pss_nil)
      (pss_one (ps_ret (pe_ix ix_list (pv 3) pe_int (fun _ _ => rfl)))))), ?_⟩
    -- ways = [[]]
    refine ⟨by show 0 ≤ sizeLine; exact Nat.zero_le _, fun e0 ne0 => ⟨by show 1 ≤ sizeLine; decide, fun p0 np0 => ?_⟩⟩
    have s0 : Same H (upd H e0 (.lst [])) := same_new (Same.refl H) ne0
    have np0H : H p0 = none := s0.free np0
    have nep : e0 ≠ p0 := fun e => by
      rw [← e, upd_same] at np0
      cases np0
    have w0 : Wys (upd (upd H e0 (.lst [])) p0 (.lst [.ref e0])) p0 (ways g.arrows m 0) := by
      refine ⟨[e0], upd_same, rfl, fun i t w e1 e2 => ?_⟩
      cases i with
      | succ i => simp at e1
      | zero =>
        have e3 : e0 = t := Option.some.inj e1
        have e4 : [] = w := Option.some.inj e2
        subst e3 e4
        rw [upd_ne nep, upd_same]
        rfl
    refine ⟨.int g.n, rfl, (g.n : Int), rfl, by omega, by omega, ?_⟩
    refine for_range (lo := 0) (n := ((g.n : Int)).toNat) (fun i σ H' => ∃ (v4 v5 v6 v7 v8 : Option V) (pw : Addr), σ = [some (.int g.n), some (.int m), some (.ref a), some (.ref pw), v4, v5, v6, v7, v8] ∧ Same H H' ∧ Wys H' pw (ways g.arrows m i))
      ⟨none, none, none, none, none, p0, rfl, same_new s0 np0H, w0⟩ ?_ ?_
    · rintro i σ H1 hi ⟨v4, v5, v6, v7, v8, pw, rfl, s1, hW⟩
      have hi5 : i ≤ 5 := by omega
      have hwl := Nat.le_trans (ways_len g.arrows m i) (pow_small hm hi5)
      -- longer_ways = []
      refine ⟨by show 0 ≤ sizeLine; exact Nat.zero_le _, fun lw nlw => ?_⟩
      have s2 : Same H1 (upd H1 lw (.lst [])) := same_new (Same.refl H1) nlw
      have hW2 := hW.same s2
      obtain ⟨xs, hx, hxl, hit⟩ := hW.item
      refine ⟨.ref pw, rfl, pw, rfl, ⟨_, SqL.of (s2 _ _ hx)⟩, for_list (K := K) (a := pw) (xs := xs) (fun j σ H2 => ∃ v6 v7 v8 : Option V, σ = [some (.int g.n), some (.int m), some (.ref a), some (.ref pw), some (.int (0 + i)), some (.ref lw), v6, v7, v8] ∧ Same H1 H2 ∧
          Wys H2 lw (((ways g.arrows m i).take j).flatMap (ext g.arrows m)))
        ⟨v6, v7, v8, rfl, s2, Wys.nil upd_same⟩ (fun j σ H2 _ ⟨_, _, _, _, s5, _⟩ => SqL.of (s5 _ _ hx)) ?_ ?_⟩
      · rintro j x σ H2 hj ⟨w6, w7, w8, rfl, s3, hL⟩
        obtain ⟨t, r, rfl, er, htr⟩ := hit j x hj
        have hjl : j < (ways g.arrows m i).length := (List.getElem?_eq_some_iff.mp er).1
        have hrl : r.length = i := ways_at (List.mem_of_getElem? er)
        have hbl : (((ways g.arrows m i).take j).flatMap (ext g.arrows m)).length ≤ 3125 * 5 := by
          refine Nat.le_trans (flat_len (ext_len g.arrows m) _) (Nat.mul_le_mul ?_ hm)
          rw [List.length_take]
          omega
        refine ⟨.int m, rfl, (m : Int), rfl, by omega, by omega, ?_⟩
        refine for_range (lo := 0) (n := ((m : Int)).toNat) (fun c σ H3 => ∃ v7 v8 : Option V, σ = [some (.int g.n), some (.int m), some (.ref a), some (.ref pw), some (.int (0 + i)), some (.ref lw), some (.ref t), v7, v8] ∧ Same H1 H3 ∧
            Wys H3 lw (((ways g.arrows m i).take j).flatMap (ext g.arrows m) ++ ext g.arrows c r))
          ⟨w7, w8, rfl, s3, by rw [show ext g.arrows 0 r = [] from rfl, List.append_nil]; exact hL⟩ ?_ ?_
        · rintro c σ H3 hc ⟨y7, y8, rfl, s4, hL3⟩
          have hc' : c < m := by omega
          -- longer = way + [colour]
          refine ⟨.ref t, rfl, .int (0 + c), rfl, by show 1 ≤ sizeLine; decide, fun l nl => ?_⟩
          have z1 : Same H3 (upd H3 l (.lst [.int (0 + c)])) := same_new (Same.refl H3) nl
          refine ⟨t, l, _, _, rfl, rfl, z1 _ _ (s4 _ _ htr), upd_same, ?_, fun z nz => ?_⟩
          · show (natV r).length + 1 ≤ sizeLine
            rw [natV_len]
            exact Nat.le_of_lt (small (by omega))
          have nz3 : H3 z = none := z1.free nz
          have z2 := same_new (o := .lst (natV r ++ [.int (0 + c)])) z1 nz3
          have ez : natV r ++ [V.int (0 + c)] = natV (r ++ [c]) := by
            rw [← natV_app, show (0 : Int) + c = c by omega]
          have hz : (upd (upd H3 l (.lst [.int (0 + c)])) z (.lst (natV r ++ [.int (0 + c)]))) z = some (.lst (natV (r ++ [c]))) := by
            rw [upd_same, ez]
          have s5 := s4.trans z2
          have hnlw : z ≠ lw := fun e => by
            obtain ⟨ts, h1, _⟩ := hL3
            rw [e, h1] at nz3
            cases nz3
          -- if not clashes(longer, arrows)
          refine ⟨.ref z, rfl, .ref a, rfl, g.arrows, r ++ [c], z, a, rfl, SqL.of hz, (ar.same s1).same s5, _, rfl, ?_⟩
          cases hok : okP g.arrows (r ++ [c]) with
          | true =>
            refine iteT ?_
            obtain ⟨acc, h1, h2, h3⟩ := (hL3.same z2).push hz hnlw
            refine ⟨.ref lw, rfl, .inl ⟨rfl, _, SqL.of h1⟩, .ref z, rfl, lw, acc, _, rfl, rfl, h1, ?_, ?_⟩
            · rw [h2, List.length_append]
              have := ext_len g.arrows c r
              exact small4 (by omega)
            · refine ⟨_, _, rfl, same_new s5 nlw, ?_⟩
              rw [ext_next, if_pos hok, ← List.append_assoc]
              exact h3
          | false =>
            refine iteF ?_
            refine ⟨_, _, rfl, s5, ?_⟩
            rw [ext_next, if_neg (by rw [hok]; exact Bool.false_ne_true), List.append_nil]
            exact hL3.same z2
        · rintro σ H3 ⟨y7, y8, rfl, s4, hL3⟩
          rw [show ((m : Int)).toNat = m by omega] at hL3
          refine ⟨_, _, _, rfl, s4, ?_⟩
          rw [flat_next er]
          exact hL3
      · rintro σ H2 ⟨w6, w7, w8, rfl, s3, hL⟩
        rw [hxl, List.take_length] at hL
        exact ⟨.ref lw, rfl, _, _, _, _, _, lw, rfl, s1.trans s3, hL⟩
    · rintro σ H1 ⟨v4, v5, v6, v7, v8, pw, rfl, s1, hW⟩
      rw [show ((g.n : Int)).toNat = g.n by omega] at hW
      obtain ⟨xs, hx, hxl, hit⟩ := hW.item
      refine ⟨.ref pw, rfl, pw, xs, rfl, .inl (SqL.of hx), rfl, _, rfl, ite2 (fun c => ?_) (fun c => ?_)⟩
      · have e0 := V.int.inj (of_decide_eq_true c)
        have e1 : ways g.arrows m g.n = [] := List.length_eq_zero_iff.mp (by omega)
        refine ⟨by show 0 ≤ sizeLine; exact Nat.zero_le _, fun t nt => q _ t (same_new s1 (s1.free nt)) ?_⟩
        rw [upd_same, firstCol_ways W, e1]
        rfl
      · cases hw : ways g.arrows m g.n with
        | nil =>
          exfalso
          rw [hw] at hxl
          refine c (decide_eq_true ?_)
          rw [hxl]
          rfl
        | cons w0 rest =>
          rw [hw] at hxl hit
          have h0 : 0 < xs.length := by rw [hxl]; exact Nat.zero_lt_succ _
          obtain ⟨t, r, e1, e2, e3⟩ := hit 0 _ (List.getElem?_eq_getElem h0)
          have e4 : w0 = r := Option.some.inj e2
          subst e4
          refine ⟨.ref pw, rfl, pw, xs, 0, .ref t, rfl, rfl, SqL.of hx, atI_nat (j := 0) (by rw [List.getElem?_eq_getElem h0, e1]), q H1 t s1 ?_⟩
          rw [firstCol_ways W, hw]
          exact e3
end
end Tow
namespace Tow
open PySem PySem.Spec PyProof.Rows L2
open PySem.W (Codec)
open Ks547 (Graph has)
abbrev sHas : Stmt := topS 8
section
variable {P : Program} {w : World} {K : PySem.W.Frag} {mg : Str → Option Value} {base : Heap}
/-! ### has_arrow_to_itself -/
def spHas : Sp := fun vs H Q _ => ∃ (ps : List (Nat × Nat)) (a : Addr), vs = [.ref a] ∧ Arr H a (castP ps) ∧ ps.length ≤ 100 ∧ ∀ H', Same H H' → Q (.bl ((ps.map fun p => p.1 == p.2).any id)) H'
abbrev nHas : List Str := ["arrows", "source", "target"]
theorem scHas : FnScope nHas ["arrows"] (defScope sHas) := ⟨rfl, rfl, rfl, by decide +kernel, rfl, by decide +kernel, by decide +kernel⟩
theorem ok_has {f : Addr} {fd : FuncData} {k : Nat} (F : Fun K "has_arrow_to_itself" "has_arrow_to_itself" sHas f fd) (ma : mg "any" = none) : FnOk P w K mg base CX0 (k + 1) f fd ["arrows"] spHas := by
  refine F.ok scHas (fun vs H Q E h => ?_) (fun cdv A outer s H vs Q E hr h => ?_)
  · obtain ⟨ps, a, rfl, _⟩ := h
    rfl
  · obtain ⟨ps, a, rfl, ar, hal, q⟩ := h
    obtain ⟨xs, hx, hxl, hit⟩ := ar.item
    have hxg : xs.length = ps.length := by rw [hxl]; exact List.length_map _
    refine ⟨_, pss_one (ps_ret (pe_callB (cr_any rfl) (by rfl) ma (by decide +kernel) (pa_cons (pe_lc (own := [("source", 1), ("target", 2)]) (g := gTup K 2 (gCons (gName 1) (gCons (gName 2) gNil))) (by rfl) scHas.nd
        (pi_list (pv 0))
        (blkOk_by (own := [("source", 1), ("target", 2)]) (N := nHas) (sc := defScope sHas) (by decide +kernel))
        (fun _ _ _ _ _ => pg_tup rfl (pgs_cons (pg_name (i := 1) scHas.nd rfl (.inl rfl)) (pgs_cons (pg_name (i := 2) scHas.nd rfl (.inl rfl)) pgs_nil)))
        (fun _ _ _ _ _ => pts_nil)
        (fun _ _ _ _ _ => pe_cmpR op_eq (pv 1) (pv 2) (nomark _))) pa_nil))), ?_⟩
    refine ⟨.ref a, rfl, a, rfl, ⟨_, SqL.of hx⟩, fun D nD => ?_⟩
    refine lc_list (K := K) (a := a) (xs := xs) (fun j H4 => Same H H4 ∧ H4 D = some (.lst (((ps.take j).map fun p => p.1 == p.2).map V.bl)))
      ⟨same_new (Same.refl H) nD, upd_same⟩ (fun j H4 _ z => SqL.of (z.1 _ _ hx)) ?_ ?_
    · rintro j x H4 hj ⟨s4, hD⟩
      obtain ⟨t, pp, rfl, epp, htt⟩ := hit j x hj
      obtain ⟨⟨y, z⟩, eq, rfl⟩ := castP_at epp
      have hjl : j < ps.length := (List.getElem?_eq_some_iff.mp eq).1
      refine ⟨t, _, rfl, SqT.of (s4 _ _ htt), rfl, _, _, rfl, _, _, rfl, rfl, rfl, ?_⟩
      dsimp only [tYes]
      rw [if_pos rfl]
      refine ⟨.int y, rfl, .int z, rfl, rfl, _, hD, ?_, same_new s4 nD, ?_⟩
      · rw [List.length_map, List.length_map, List.length_take]
        exact small (by omega)
      · rw [upd_same, take_next eq, List.map_append, List.map_append]
        have ed : decide (V.int (y : Int) = V.int (z : Int)) = (y == z) := by
          rw [Bool.eq_iff_iff, decide_eq_true_eq, beq_iff_eq]
          constructor
          · intro h
            have := V.int.inj h
            omega
          · intro h
            rw [h]
        rw [ed]
        rfl
    · rintro H4 ⟨s4, hD⟩
      rw [hxg, List.take_length] at hD
      exact ⟨D, _, rfl, SqL.of hD, q H4 s4⟩
end
end Tow
namespace Tow
open PySem PySem.Spec PyProof.Rows L2
open PySem.W (Codec)
open Ks547 (Graph has)
open Ks551 (least)
abbrev sLea : Stmt := topS 4
section
variable {P : Program} {w : World} {K : PySem.W.Frag} {mg : Str → Option Value} {base : Heap}
/-! ### least -/
def spLea (K : PySem.W.Frag) : Sp := fun vs H Q _ => ∃ (n : Int) (a : Addr) (ns : List Int), vs = [.int n, .ref a] ∧ 0 ≤ n ∧ SqL K H a (ns.map V.int) ∧ ns.length ≤ 60 ∧ (∀ x ∈ ns, 0 ≤ x) ∧
  ∀ (H' : Hp) (p : Addr), H' p = some (.lst ((PyKs551.least n ns).map V.int)) → Q (.ref p) H'
theorem scLea : FnScope ["n", "first", "arrows", "count", "given"] ["n", "first"] (defScope sLea) := ⟨rfl, rfl, rfl, by decide +kernel, rfl, by decide +kernel, by decide +kernel⟩
def cntLeft (m : Nat) (σ : List (Option V)) : Nat := match σ[3]? with
  | some (some (V.int c)) => m - c.toNat
  | _ => 0
theorem ok_lea {f fG fP fR fC fL fI : Addr} {fd fdG fdP fdR fdC fdL fdI : FuncData} (F : Fun K "least" "least" sLea f fd)
    (FG : Fun K "is_graph" "is_graph" sIsG fG fdG) (bG : Binds K fdG ["n", "first"] []) (gG : mg "is_graph" = some (.ref fG))
    (FP : Fun K "pair_up" "pair_up" sPair fP fdP) (bP : Binds K fdP ["first"] []) (gP : mg "pair_up" = some (.ref fP))
    (FR : Fun K "is_rising" "is_rising" sRis fR fdR) (bR : Binds K fdR ["arrows"] []) (gR : mg "is_rising" = some (.ref fR))
    (FC : Fun K "first_colouring" "first_colouring" sCol fC fdC) (bC : Binds K fdC ["n", "count", "arrows"] []) (gC : mg "first_colouring" = some (.ref fC))
    (FL : Fun K "clashes" "clashes" sCla fL fdL) (bL : Binds K fdL ["given", "arrows"] []) (gL : mg "clashes" = some (.ref fL))
    (FI : Fun K "has_arrow_to_itself" "has_arrow_to_itself" sHas fI fdI) (bI : Binds K fdI ["arrows"] []) (gI : mg "has_arrow_to_itself" = some (.ref fI))
    {tm tn ti : Tok} (gM : mg "MOST_PLACES" = some (.int 5 tm)) (gN : mg "NOT_AS_TOLD" = some (.int (-22) tn)) (gA : mg "ARROW_TO_ITSELF" = some (.int (-33) ti))
    (mr : mg "range" = none) (ml : mg "len" = none) (mm : mg "max" = none) (ma : mg "any" = none) : FnOk P w K mg base CX0 3 f fd ["n", "first"] (spLea K) := by
  have GG : FnOk P w K mg base CX0 2 fG fdG ["n", "first"] (spIsG K) := ok_isG FG FP FR bP bR gP gR gM mr ml
  have GP : FnOk P w K mg base CX0 2 fP fdP ["first"] (spPair K) := ok_pair FP mr ml
  have GC : FnOk P w K mg base CX0 2 fC fdC ["n", "count", "arrows"] spCol := ok_col FC FL bL gL mr ml mm
  have GI : FnOk P w K mg base CX0 2 fI fdI ["arrows"] spHas := ok_has FI ma
  refine F.ok scLea (fun vs H Q E h => ?_) (fun cdv A outer s H vs Q E hr h => ?_)
  · obtain ⟨n, a, ns, rfl, _⟩ := h
    rfl
  · obtain ⟨n, a, ns, rfl, hn, hS, hlen, hpos, q⟩ := h
    refine ⟨_, pss_cons (ps_if (pt_not (pt_val (pe_call GG hr (by rfl) gG FG.kp bG .nil pass0 (pa_cons (pv 0) (pa_cons (pv 1) pa_nil))))) (pss_one (ps_ret (pe_lst (pa_cons (pe_glob (v := .int (-22)) rfl gN ⟨_, rfl⟩) pa_nil)))) pss_nil)
      (pss_cons (ps_set (i := 2) scLea.nd rfl (.inl rfl) (pe_call GP hr (by rfl) gP FP.kp bP .nil pass0 (pa_cons (pv 1) pa_nil)))
      (pss_cons (ps_if (pt_val (pe_call GI hr (by rfl) gI FI.kp bI .nil pass0 (pa_cons (pv 2) pa_nil))) (pss_one (ps_ret (pe_lst (pa_cons (pe_glob (v := .int (-33)) rfl gA ⟨_, rfl⟩) pa_nil)))) pss_nil)
      (pss_cons (ps_set (i := 3) scLea.nd rfl (.inl rfl) pe_int)
      (pss_cons (ps_set (i := 4) scLea.nd rfl (.inl rfl) (pe_call GC hr (by rfl) gC FC.kp bC .nil pass0 (pa_cons (pv 0) (pa_cons (pv 3) (pa_cons (pv 2) pa_nil)))))
      (pss_cons (ps_while PassesOwn.never (pt_cmpR op_eq (pe_callB call_len_seq (by rfl) ml PySem.boot_len (pa_cons (pv 4) pa_nil)) pe_int (nomark _))
        (pss_cons (ps_aug (i := 3) scLea.nd rfl (.inl rfl) pe_int ip_add)
        (pss_one (ps_set (i := 4) scLea.nd rfl (.inl rfl) (pe_call GC hr (by rfl) gC FC.kp bC .nil pass0 (pa_cons (pv 0) (pa_cons (pv 3) (pa_cons (pv 2) pa_nil))))))))
      (pss_one (ps_ret (pe_op op_cat (pe_lst (pa_cons (pv 3) pa_nil)) (pv 4))))))))), ?_⟩
    rw [least_due hn hpos] at q
    refine ⟨.int n, rfl, .ref a, rfl, n, a, ns, rfl, hS, hlen, fun H1 s1 => ⟨_, rfl, ?_⟩⟩
    cases c : isGraph n ns with
    | false =>
      rw [c, if_neg Bool.false_ne_true] at q
      refine iteT ?_
      exact ⟨by show 1 ≤ sizeLine; decide, fun p _ => q _ p upd_same⟩
    | true =>
      rw [c, if_pos rfl] at q
      refine iteF ?_
      have W := gr_wf c
      have hb := gr_back c
      have hnn : ((gr n ns).n : Int) = n := by
        show ((n.toNat : Nat) : Int) = n
        omega
      have hal : (gr n ns).arrows.length ≤ 30 := by
        show ((pairUp ns).map natP).length ≤ 30
        rw [List.length_map, pairUp_len]
        omega
      have hn5 := W.hi
      have hn1 := W.lo
      obtain ⟨_, _, hev, _, _⟩ := isGraph_iff.mp c
      refine ⟨.ref a, rfl, a, ns, rfl, s1.seq hS, hlen, hev, fun H2 t s2 nt ar => ?_⟩
      have ar' : Arr H2 t (castP (gr n ns).arrows) := by
        unfold castP
        rw [← hb]
        exact ar
      refine ⟨.ref t, rfl, (gr n ns).arrows, t, rfl, ar', by omega, fun H3 s3 => ⟨_, rfl, ?_⟩⟩
      cases hself : ((gr n ns).arrows.map fun p => p.1 == p.2).any id with
      | true =>
        obtain ⟨u, hu⟩ := self_any.mp hself
        rw [least_none W hu] at q
        refine iteT ?_
        exact ⟨by show 1 ≤ sizeLine; decide, fun p _ => q _ p upd_same⟩
      | false =>
        refine iteF ?_
        have noself : ∀ u, (u, u) ∉ (gr n ns).arrows := fun u hu => by
          rw [self_any.mpr ⟨u, hu⟩] at hself
          cases hself
        have ar3 := ar'.same s3
        refine ⟨.int n, rfl, .int 1, rfl, .ref t, rfl, gr n ns, 1, t, by rw [hnn]; rfl, ar3, W, by decide, fun H4 p s4 hp => ?_⟩
        refine while_by (fun σ H' => ∃ (m : Nat) (p : Addr), σ = [some (.int n), some (.ref a), some (.ref t), some (.int m), some (.ref p)] ∧ Same H3 H' ∧ H' p = some (.lst (natV ((firstCol (gr n ns) m).getD []))) ∧ 1 ≤ m ∧ m ≤ (gr n ns).n ∧ ∀ j, j < m → ∀ f, ¬ Col (gr n ns) j f)
          (fun σ _ => cntLeft (gr n ns).n σ) ⟨1, p, rfl, s4, hp, Nat.le_refl _, hn1, fun j hj f => by
            have : j = 0 := by omega
            subst this
            exact no_zero W f⟩ ?_ ?_
        · rintro σ H' ⟨m, p', rfl, s5, hp5, hm1, hmn, hno⟩
          refine ⟨.ref p', rfl, p', _, rfl, .inl (SqL.of hp5), rfl, _, rfl, ?_⟩
          cases hw : firstCol (gr n ns) m with
          | none =>
            rw [decide_eq_true (show V.int ((natV ((none : Option (List Nat)).getD [])).length : Int) = V.int 0 from rfl)]
            refine iteT ?_
            have hlt : m < (gr n ns).n := by
              rcases Nat.lt_or_ge m (gr n ns).n with z | z
              · exact z
              · have e : m = (gr n ns).n := by omega
                rw [e] at hw
                exact absurd (col_id W noself) (firstCol_none W hw _)
            refine ⟨.int m, rfl, m, 1, rfl, rfl, ?_⟩
            refine ⟨.int n, rfl, .int ((m : Int) + 1), rfl, .ref t, rfl, gr n ns, m + 1, t, by rw [hnn]; rfl, ar3.same s5, W, by omega, fun H6 p6 s6 hp6 => ?_⟩
            refine ⟨⟨m + 1, p6, rfl, s5.trans s6, hp6, by omega, hlt, fun j hj f => ?_⟩, ?_⟩
            · rcases Nat.lt_or_ge j m with z | z
              · exact hno j z f
              · have e : j = m := by omega
                subst e
                exact firstCol_none W hw f
            · show (gr n ns).n - ((m : Int) + 1).toNat < (gr n ns).n - ((m : Int)).toNat
              omega
          | some d =>
            rw [hw] at hp5
            have hdl := (firstCol_col W hw).len
            have ed : decide (V.int ((natV ((some d).getD [])).length : Int) = V.int 0) = false := by
              rw [natV_len, decide_eq_false_iff_not]
              intro z
              have z1 : (d.length : Int) = 0 := V.int.inj z
              omega
            rw [ed]
            refine iteF ?_
            rw [least_some W hm1 hmn hno hw] at q
            refine ⟨.int m, rfl, by show 1 ≤ sizeLine; decide, fun l nl => ?_⟩
            have s7 := same_new (o := .lst [.int m]) (Same.refl H') nl
            refine ⟨.ref p', rfl, l, p', _, _, rfl, rfl, upd_same, s7 _ _ hp5, ?_, fun z nz => q _ z ?_⟩
            · show 1 + (natV d).length ≤ sizeLine
              rw [natV_len]
              exact Nat.le_of_lt (small (by omega))
            · rw [upd_same]
              show some (HO.lst ([V.int m] ++ natV d)) = some (HO.lst ((outI m d).map V.int))
              rw [natV_outI]
        · rintro σ H' Q1 Q2 hQ ⟨v, h1, p1, xs, h2, h3, h4, b, h5, h6⟩
          exact ⟨v, h1, p1, xs, h2, h3, h4, b, h5, hQ _ _ h6⟩
end
end Tow
namespace Tow
open PySem PySem.Spec PyProof.Rows L2
open PySem.W (Codec)
/-! ### what the top has written -/
theorem all_mk {P : Program} {w : World} {K : PySem.W.Frag} {h : Heap} {mg : Str → Option Value} {fa f1 f2 f3 f4 f5 f6 f7 : Addr} (X : K.In h) (G : h.Ns mainGlobals mg) (hfa : mg "least" = some (.ref fa))
    {od1 an1 od2 an2 od3 an3 od4 an4 od5 an5 od6 an6 od7 an7 : Option Addr} {sl1 sl2 sl3 sl4 sl5 sl6 sl7 : Array (Option Value)} {oc1 kV1 dc1 pm1 cd1 ct1 oc2 kV2 dc2 pm2 cd2 ct2 oc3 kV3 dc3 pm3 cd3 ct3 oc4 kV4 dc4 pm4 cd4 ct4 oc5 kV5 dc5 pm5 cd5 ct5 oc6 kV6 dc6 pm6 cd6 ct6 oc7 kV7 dc7 pm7 cd7 ct7 : Value} {tM tN tA : Tok}
    (a1 : PySem.W.nsIn K mainGlobals "least" = some (some (.ref f1))) (l1 : K.lookup f1 = some ⟨oc1, od1, .func (PySem.W.fnOf "least" "least" (defArgs sLea) (defBody sLea) (defScope sLea) .none kV1 dc1 pm1 an1 cd1 ct1), sl1⟩) (c1 : PySem.W.codeIn K cd1 "least" = true) (k1 : PySem.W.keepIn K (.ref f1) = true)
    (a2 : PySem.W.nsIn K mainGlobals "is_graph" = some (some (.ref f2))) (l2 : K.lookup f2 = some ⟨oc2, od2, .func (PySem.W.fnOf "is_graph" "is_graph" (defArgs sIsG) (defBody sIsG) (defScope sIsG) .none kV2 dc2 pm2 an2 cd2 ct2), sl2⟩) (c2 : PySem.W.codeIn K cd2 "is_graph" = true) (k2 : PySem.W.keepIn K (.ref f2) = true)
    (a3 : PySem.W.nsIn K mainGlobals "is_rising" = some (some (.ref f3))) (l3 : K.lookup f3 = some ⟨oc3, od3, .func (PySem.W.fnOf "is_rising" "is_rising" (defArgs sRis) (defBody sRis) (defScope sRis) .none kV3 dc3 pm3 an3 cd3 ct3), sl3⟩) (c3 : PySem.W.codeIn K cd3 "is_rising" = true) (k3 : PySem.W.keepIn K (.ref f3) = true)
    (a4 : PySem.W.nsIn K mainGlobals "pair_up" = some (some (.ref f4))) (l4 : K.lookup f4 = some ⟨oc4, od4, .func (PySem.W.fnOf "pair_up" "pair_up" (defArgs sPair) (defBody sPair) (defScope sPair) .none kV4 dc4 pm4 an4 cd4 ct4), sl4⟩) (c4 : PySem.W.codeIn K cd4 "pair_up" = true) (k4 : PySem.W.keepIn K (.ref f4) = true)
    (a5 : PySem.W.nsIn K mainGlobals "first_colouring" = some (some (.ref f5))) (l5 : K.lookup f5 = some ⟨oc5, od5, .func (PySem.W.fnOf "first_colouring" "first_colouring" (defArgs sCol) (defBody sCol) (defScope sCol) .none kV5 dc5 pm5 an5 cd5 ct5), sl5⟩) (c5 : PySem.W.codeIn K cd5 "first_colouring" = true) (k5 : PySem.W.keepIn K (.ref f5) = true)
    (a6 : PySem.W.nsIn K mainGlobals "clashes" = some (some (.ref f6))) (l6 : K.lookup f6 = some ⟨oc6, od6, .func (PySem.W.fnOf "clashes" "clashes" (defArgs sCla) (defBody sCla) (defScope sCla) .none kV6 dc6 pm6 an6 cd6 ct6), sl6⟩) (c6 : PySem.W.codeIn K cd6 "clashes" = true) (k6 : PySem.W.keepIn K (.ref f6) = true)
    (a7 : PySem.W.nsIn K mainGlobals "has_arrow_to_itself" = some (some (.ref f7))) (l7 : K.lookup f7 = some ⟨oc7, od7, .func (PySem.W.fnOf "has_arrow_to_itself" "has_arrow_to_itself" (defArgs sHas) (defBody sHas) (defScope sHas) .none kV7 dc7 pm7 an7 cd7 ct7), sl7⟩) (c7 : PySem.W.codeIn K cd7 "has_arrow_to_itself" = true) (k7 : PySem.W.keepIn K (.ref f7) = true)
    (gM : PySem.W.nsIn K mainGlobals "MOST_PLACES" = some (some (.int (5) tM)))
    (gN : PySem.W.nsIn K mainGlobals "NOT_AS_TOLD" = some (some (.int (-22) tN)))
    (gA : PySem.W.nsIn K mainGlobals "ARROW_TO_ITSELF" = some (some (.int (-33) tA)))
    (zrange : PySem.W.nsIn K mainGlobals "range" = some none)
    (zlen : PySem.W.nsIn K mainGlobals "len" = some none)
    (zmax : PySem.W.nsIn K mainGlobals "max" = some none)
    (zany : PySem.W.nsIn K mainGlobals "any" = some none)
    : ∃ fd : FuncData, (∀ (s : Shared) (us : List Value), us.length = (["n", "first"] : List Str).length → BindsTo s fd ⟨us, []⟩ ((["n", "first"] : List Str).zip us)) ∧ ∀ base : Heap, K.In base → base.Ns mainGlobals mg → FnOk P w K mg base CX0 3 fa fd ["n", "first"] (spLea K) := by
  have e := hfa.symm.trans (PySem.W.mg_of X G a1)
  cases e
  have F1 := fun_mk (st := sLea) l1 c1 k1
  have F2 := fun_mk (st := sIsG) l2 c2 k2
  have b2 := F2.binds (ps := ["n", "first"]) fun _ _ _ _ _ _ us hl => match us, hl with | [_, _], _ => rfl
  have F3 := fun_mk (st := sRis) l3 c3 k3
  have b3 := F3.binds (ps := ["arrows"]) fun _ _ _ _ _ _ us hl => match us, hl with | [_], _ => rfl
  have F4 := fun_mk (st := sPair) l4 c4 k4
  have b4 := F4.binds (ps := ["first"]) fun _ _ _ _ _ _ us hl => match us, hl with | [_], _ => rfl
  have F5 := fun_mk (st := sCol) l5 c5 k5
  have b5 := F5.binds (ps := ["n", "count", "arrows"]) fun _ _ _ _ _ _ us hl => match us, hl with | [_, _, _], _ => rfl
  have F6 := fun_mk (st := sCla) l6 c6 k6
  have b6 := F6.binds (ps := ["given", "arrows"]) fun _ _ _ _ _ _ us hl => match us, hl with | [_, _], _ => rfl
  have F7 := fun_mk (st := sHas) l7 c7 k7
  have b7 := F7.binds (ps := ["arrows"]) fun _ _ _ _ _ _ us hl => match us, hl with | [_], _ => rfl
  exact ⟨PySem.W.fnOf "least" "least" (defArgs sLea) (defBody sLea) (defScope sLea) .none kV1 dc1 pm1 an1 cd1 ct1, fun s us hu => match us, hu with | [_, _], _ => .of_eq rfl, fun base _ _ => ok_lea F1 F2 b2 (PySem.W.mg_of X G a2) F4 b4 (PySem.W.mg_of X G a4) F3 b3 (PySem.W.mg_of X G a3) F5 b5 (PySem.W.mg_of X G a5) F6 b6 (PySem.W.mg_of X G a6) F7 b7 (PySem.W.mg_of X G a7) (PySem.W.mg_of X G gM) (PySem.W.mg_of X G gN) (PySem.W.mg_of X G gA) (PySem.W.mg_none_of X G zrange) (PySem.W.mg_none_of X G zlen) (PySem.W.mg_none_of X G zmax) (PySem.W.mg_none_of X G zany)⟩
end Tow
open PySem PySem.W PyProof.Rows
set_option maxRecDepth 100000 in
set_option maxHeartbeats 8000000 in
theorem PySem.Challenge.cw_towerorwalk_s06_least_holds : PySem.Challenge.rw_towerorwalk_s06_least.Holds := by
  w_on; k_headS; (case hw => exact ⟨[.int 1, .list []], by decide +kernel, by decide +kernel⟩)
  k_fillS
  refine L2.walk_specK (r := PySem.Challenge.rw_towerorwalk_s06_least) (k := 3) (CX := L2.CX0) (ps := ["n", "first"]) (sp := Tow.spLea) (by decide +kernel) rfl rfl ⟨rfl, by decide, by decide⟩ (fun w h Y => PySem.W.kIn_of Y) ?F ?S (fun _ _ _ _ z => z)
  case F =>
    intro w mg fa h Y KX G hmg
    refine' Tow.all_mk KX G hmg ?a1 ?l1 ?c1 ?k1 ?a2 ?l2 ?c2 ?k2 ?a3 ?l3 ?c3 ?k3 ?a4 ?l4 ?c4 ?k4 ?a5 ?l5 ?c5 ?k5 ?a6 ?l6 ?c6 ?k6 ?a7 ?l7 ?c7 ?k7 ?gM ?gN ?gA ?zrange ?zlen ?zmax ?zany
    (case a1 => k_is)
    (case l1 => k_is)
    (case c1 => k_is)
    (case k1 => k_is)
    (case a2 => k_is)
    (case l2 => k_is)
    (case c2 => k_is)
    (case k2 => k_is)
    (case a3 => k_is)
    (case l3 => k_is)
    (case c3 => k_is)
    (case k3 => k_is)
    (case a4 => k_is)
    (case l4 => k_is)
    (case c4 => k_is)
    (case k4 => k_is)
    (case a5 => k_is)
    (case l5 => k_is)
    (case c5 => k_is)
    (case k5 => k_is)
    (case a6 => k_is)
    (case l6 => k_is)
    (case c6 => k_is)
    (case k6 => k_is)
    (case a7 => k_is)
    (case l7 => k_is)
    (case c7 => k_is)
    (case k7 => k_is)
    (case gM => k_is)
    (case gN => k_is)
    (case gA => k_is)
    (case zrange => k_is)
    (case zlen => k_is)
    (case zmax => k_is)
    (case zany => k_is)
  case S =>
    intro K H xs a hO hwi hask hx
    cases hx with
    | cons h1 h2 =>
      cases h1
      cases h2 with
      | cons h1 h2 =>
        cases h2
        cases h1 with
        | lst hs ha =>
          have e := L2.ints_dw a.2.1 _ ha
          subst e
          have q : (Codec.inInt 0 4294967295 a.1 && ((Codec.inLen 0 60 a.2.1 && a.2.1.all (Codec.inInt 0 4294967295)) && true)) = true := hwi
          rw [Bool.and_eq_true, Bool.and_eq_true, Bool.and_eq_true, List.all_eq_true] at q
          exact ⟨a.1, _, a.2.1, rfl, (Codec.inInt_iff.mp q.1).1, hs, (Codec.inNat_iff.mp q.2.1.1).2, fun x hx => (Codec.inInt_iff.mp (q.2.1.2 x hx)).1, fun H' p hp => .lst (L2.SqL.of hp) (L2.dw_ints _)⟩
#print axioms PySem.Challenge.cw_towerorwalk_s06_least_holds
