import PyProof.Rows.All
import Wide.All
import OpenK.AllK
import Wide.FinOn
import Open.SpecLaws
import KE.OsGo
import HandS.ForSpec
import HandS.Comp
import HandS.Iter
import HandS.TupLe
import PySem.Challenge.RW_towerorwalk_s01_tower
set_option Elab.async false
set_option linter.all false
set_option maxRecDepth 100000
set_option maxHeartbeats 2000000
namespace Tow
open Ks547 (Graph has graphOf pairsOf)
open Ks551 (canWalk onward deep)

/-! ### the mirror of what is read -/
def pairUp : List Int → List (Int × Int)
  | a :: b :: r => (a, b) :: pairUp r
  | _ => []
def lt2 (p q : Int × Int) : Bool := if p.1 = q.1 then decide (p.2 < q.2) else decide (p.1 < q.1)
def rising : List (Int × Int) → Bool
  | p :: q :: r => lt2 p q && rising (q :: r)
  | _ => true
def isGraph (n : Int) (ns : List Int) : Bool :=
  decide (1 ≤ n) && decide (n ≤ 5) && decide (ns.length % 2 = 0) && ns.all (fun x => decide (0 ≤ x) && decide (x < n)) && rising (pairUp ns)
def natP (p : Int × Int) : Nat × Nat := (p.1.toNat, p.2.toNat)
def gr (n : Int) (ns : List Int) : Graph := ⟨n.toNat, (pairUp ns).map natP⟩

theorem pairUp_len : ∀ ns : List Int, (pairUp ns).length = ns.length / 2
  | [] => rfl
  | [_] => by simp [pairUp]
  | a :: b :: r => by
    have h := pairUp_len r
    simp only [pairUp, List.length_cons, h]
    omega
theorem pairUp_at : ∀ (ns : List Int) (i : Nat), 2 * i + 1 < ns.length → (pairUp ns)[i]? = some (ns.getD (2 * i) 0, ns.getD (2 * i + 1) 0)
  | [], i, h => by simp at h
  | [_], i, h => by simp at h
  | a :: b :: r, 0, h => by simp [pairUp]
  | a :: b :: r, i + 1, h => by
    have ih := pairUp_at r i (by simp only [List.length_cons] at h; omega)
    simp only [pairUp, List.getElem?_cons_succ, ih]
    rw [show 2 * (i + 1) = 2 * i + 1 + 1 by omega]
    simp [List.getD_cons_succ]
theorem pairUp_mem : ∀ (ns : List Int) (p : Int × Int), p ∈ pairUp ns → p.1 ∈ ns ∧ p.2 ∈ ns
  | [], p, h => by simp [pairUp] at h
  | [_], p, h => by simp [pairUp] at h
  | a :: b :: r, p, h => by
    simp only [pairUp, List.mem_cons] at h
    rcases h with rfl | h
    · simp
    · have := pairUp_mem r p h
      simp [this.1, this.2]

theorem pairsOf_eq (n : Nat) : ∀ ns : List Int, (∀ x ∈ ns, 0 ≤ x) → pairsOf n (ns.map Int.toNat) =
    if (ns.length % 2 = 0 ∧ (∀ x ∈ ns, x < n) ∧ rising (pairUp ns) = true) then some ((pairUp ns).map natP) else none
  | [], _ => by simp [pairsOf, pairUp, rising]
  | [a], _ => by simp [pairsOf]
  | a :: b :: r, hp => by
    have ih := pairsOf_eq n r (fun x hx => hp x (by simp [hx]))
    have ha := hp a (by simp)
    have hb := hp b (by simp)
    have hl : (a :: b :: r).length % 2 = r.length % 2 := by simp only [List.length_cons]; omega
    simp only [List.map_cons, pairsOf, ih, hl, List.mem_cons, forall_eq_or_imp]
    by_cases c1 : n ≤ a.toNat ∨ n ≤ b.toNat
    · rw [if_pos c1, if_neg]
      rintro ⟨_, ⟨h1, h2, _⟩, _⟩
      omega
    · rw [if_neg c1]
      have h1 : a < n := by omega
      have h2 : b < n := by omega
      by_cases c2 : r.length % 2 = 0 ∧ (∀ x ∈ r, x < (n : Int)) ∧ rising (pairUp r) = true
      · rw [if_pos c2]
        obtain ⟨e1, e2, e3⟩ := c2
        have key : ∀ q : List (Int × Int), q = pairUp r → (match q.map natP with
            | [] => some [(a.toNat, b.toNat)]
            | p :: _ => if a.toNat < p.1 ∨ (a.toNat = p.1 ∧ b.toNat < p.2) then some ((a.toNat, b.toNat) :: q.map natP) else none) =
            if rising ((a, b) :: q) = true then some (natP (a, b) :: q.map natP) else none := by
          intro q hq
          cases q with
          | nil => simp [rising, natP]
          | cons p q' =>
            have hm := pairUp_mem r p (by rw [← hq]; simp)
            have p1 := hp p.1 (by simp [hm.1])
            have p2 := hp p.2 (by simp [hm.2])
            rw [← hq] at e3
            have er : rising ((a, b) :: p :: q') = (lt2 (a, b) p && rising (p :: q')) := rfl
            simp only [List.map_cons, er, e3, Bool.and_true]
            have hq : (a.toNat < p.1.toNat ∨ (a.toNat = p.1.toNat ∧ b.toNat < p.2.toNat)) ↔ lt2 (a, b) p = true := by
              unfold lt2
              by_cases z : a = p.1
              · rw [if_pos z, decide_eq_true_eq]
                constructor <;> intro <;> omega
              · rw [if_neg z, decide_eq_true_eq]
                constructor <;> intro <;> omega
            show (if a.toNat < p.1.toNat ∨ (a.toNat = p.1.toNat ∧ b.toNat < p.2.toNat) then _ else _) = _
            by_cases c3 : lt2 (a, b) p = true
            · rw [if_pos (hq.mpr c3), if_pos c3]; rfl
            · rw [if_neg (fun z => c3 (hq.mp z)), if_neg c3]
        have k := key (pairUp r) rfl
        have fin : (if (r.length % 2 = 0 ∧ (a < ↑n ∧ b < ↑n ∧ ∀ x ∈ r, x < (n : Int)) ∧ rising (pairUp (a :: b :: r)) = true) then some ((pairUp (a :: b :: r)).map natP) else none) = if rising ((a, b) :: pairUp r) = true then some (natP (a, b) :: (pairUp r).map natP) else none := by
          by_cases c4 : rising ((a, b) :: pairUp r) = true
          · rw [if_pos c4, if_pos ⟨e1, ⟨h1, h2, e2⟩, c4⟩]; rfl
          · rw [if_neg c4, if_neg (fun z => c4 z.2.2)]
        rw [fin, ← k]
        rfl
      · rw [if_neg c2, if_neg]
        rintro ⟨z1, ⟨_, _, z2⟩, z3⟩
        refine c2 ⟨z1, z2, ?_⟩
        simp only [pairUp] at z3
        cases hr : pairUp r with
        | nil => rfl
        | cons p q =>
          rw [hr] at z3
          have er : rising ((a, b) :: p :: q) = (lt2 (a, b) p && rising (p :: q)) := rfl
          rw [er, Bool.and_eq_true] at z3
          exact z3.2
theorem graphOf_eq (n : Int) (ns : List Int) (hn : 0 ≤ n) (hp : ∀ x ∈ ns, 0 ≤ x) : graphOf n.toNat (ns.map Int.toNat) = if isGraph n ns = true then some (gr n ns) else none := by
  unfold graphOf
  rw [pairsOf_eq n.toNat ns hp]
  have hb : isGraph n ns = true ↔ (1 ≤ n ∧ n ≤ 5 ∧ ns.length % 2 = 0 ∧ (∀ x ∈ ns, x < ((n.toNat : Nat) : Int)) ∧ rising (pairUp ns) = true) := by
    unfold isGraph
    simp only [Bool.and_eq_true, decide_eq_true_eq, List.all_eq_true, and_assoc]
    constructor
    · rintro ⟨h1, h2, h3, h4, h5⟩
      exact ⟨h1, h2, h3, fun x hx => by have := (h4 x hx).2; omega, h5⟩
    · rintro ⟨h1, h2, h3, h4, h5⟩
      exact ⟨h1, h2, h3, fun x hx => ⟨hp x hx, by have := h4 x hx; omega⟩, h5⟩
  have hP : Ks547.PLACES = 5 := rfl
  by_cases c : n.toNat < 1 ∨ Ks547.PLACES < n.toNat
  · rw [if_pos c, if_neg]
    intro z
    have := hb.mp z
    omega
  · rw [if_neg c]
    by_cases c2 : isGraph n ns = true
    · rw [if_pos c2, if_pos (hb.mp c2).2.2]
      rfl
    · rw [if_neg c2, if_neg]
      · rfl
      · intro z
        refine c2 (hb.mpr ⟨by omega, by omega, z⟩)

/-! ### graphs that are as told -/
structure Wf (g : Graph) : Prop where
  lo : 1 ≤ g.n
  hi : g.n ≤ 5
  inn : ∀ p ∈ g.arrows, p.1 < g.n ∧ p.2 < g.n
def nlt (p q : Nat × Nat) : Prop := p.1 < q.1 ∨ (p.1 = q.1 ∧ p.2 < q.2)
theorem has_iff {g : Graph} {u v : Nat} : has g u v = true ↔ (u, v) ∈ g.arrows := by
  unfold has
  exact List.contains_iff_mem
theorem isGraph_iff {n : Int} {ns : List Int} : isGraph n ns = true ↔ (1 ≤ n ∧ n ≤ 5 ∧ ns.length % 2 = 0 ∧ (∀ x ∈ ns, 0 ≤ x ∧ x < n) ∧ rising (pairUp ns) = true) := by
  unfold isGraph
  simp only [Bool.and_eq_true, decide_eq_true_eq, List.all_eq_true, and_assoc]
theorem gr_wf {n : Int} {ns : List Int} (h : isGraph n ns = true) : Wf (gr n ns) := by
  obtain ⟨h1, h2, h3, h4, h5⟩ := isGraph_iff.mp h
  refine ⟨by show 1 ≤ n.toNat; omega, by show n.toNat ≤ 5; omega, fun p hp => ?_⟩
  obtain ⟨q, hq, rfl⟩ := List.mem_map.mp hp
  have hm := pairUp_mem ns q hq
  have a1 := h4 _ hm.1
  have a2 := h4 _ hm.2
  show q.1.toNat < n.toNat ∧ q.2.toNat < n.toNat
  omega
theorem rising_head : ∀ (ps : List (Int × Int)) (p : Int × Int), rising (p :: ps) = true → ∀ q ∈ ps, lt2 p q = true
  | [], p, _, q, hq => by simp at hq
  | a :: r, p, h, q, hq => by
    have er : rising (p :: a :: r) = (lt2 p a && rising (a :: r)) := rfl
    rw [er, Bool.and_eq_true] at h
    rcases List.mem_cons.mp hq with rfl | hq
    · exact h.1
    · have ih := rising_head r a h.2 q hq
      have h1 := h.1
      unfold lt2 at ih h1 ⊢
      by_cases c1 : p.1 = a.1
      · rw [if_pos c1, decide_eq_true_eq] at h1
        by_cases c2 : a.1 = q.1
        · rw [if_pos c2, decide_eq_true_eq] at ih
          rw [if_pos (c1.trans c2), decide_eq_true_eq]; omega
        · rw [if_neg c2, decide_eq_true_eq] at ih
          rw [if_neg (by omega), decide_eq_true_eq]; omega
      · rw [if_neg c1, decide_eq_true_eq] at h1
        by_cases c2 : a.1 = q.1
        · rw [if_pos c2, decide_eq_true_eq] at ih
          rw [if_neg (by omega), decide_eq_true_eq]; omega
        · rw [if_neg c2, decide_eq_true_eq] at ih
          rw [if_neg (by omega), decide_eq_true_eq]; omega
theorem rising_pair : ∀ (ps : List (Int × Int)), rising ps = true → ps.Pairwise (fun p q => lt2 p q = true)
  | [], _ => .nil
  | p :: r, h => by
    refine List.Pairwise.cons (rising_head r p h) (rising_pair r ?_)
    cases r with
    | nil => rfl
    | cons a r =>
      have er : rising (p :: a :: r) = (lt2 p a && rising (a :: r)) := rfl
      rw [er, Bool.and_eq_true] at h
      exact h.2
theorem gr_rise {n : Int} {ns : List Int} (h : isGraph n ns = true) : (gr n ns).arrows.Pairwise nlt := by
  obtain ⟨h1, h2, h3, h4, h5⟩ := isGraph_iff.mp h
  refine List.pairwise_map.mpr (List.Pairwise.imp_of_mem ?_ (rising_pair _ h5))
  intro p q hp hq hl
  have hm := pairUp_mem ns p hp
  have hm' := pairUp_mem ns q hq
  have a1 := h4 _ hm.1
  have a2 := h4 _ hm.2
  have a3 := h4 _ hm'.1
  have a4 := h4 _ hm'.2
  show p.1.toNat < q.1.toNat ∨ (p.1.toNat = q.1.toNat ∧ p.2.toNat < q.2.toNat)
  unfold lt2 at hl
  by_cases c : p.1 = q.1
  · rw [if_pos c, decide_eq_true_eq] at hl; omega
  · rw [if_neg c, decide_eq_true_eq] at hl; omega
/-- each number of it is none below 0 -/
theorem gr_back {n : Int} {ns : List Int} (h : isGraph n ns = true) : pairUp ns = (gr n ns).arrows.map (fun p => ((p.1 : Int), (p.2 : Int))) := by
  obtain ⟨h1, h2, h3, h4, h5⟩ := isGraph_iff.mp h
  show pairUp ns = ((pairUp ns).map natP).map _
  rw [List.map_map]
  conv => lhs; rw [← List.map_id (pairUp ns)]
  refine List.map_congr_left fun p hp => ?_
  have hm := pairUp_mem ns p hp
  have a1 := h4 _ hm.1
  have a2 := h4 _ hm.2
  show p = (((p.1.toNat : Nat) : Int), ((p.2.toNat : Nat) : Int))
  rw [Int.toNat_of_nonneg a1.1, Int.toNat_of_nonneg a2.1]
end Tow
namespace Tow
open Ks547 (Graph has graphOf pairsOf)
open Ks551 (canWalk onward deep)
/-! ### walks -/
def stp (c : Nat → Bool) (ps : List (Nat × Nat)) (u : Nat) : Bool := ps.any fun p => p.1 == u && c p.2
theorem stp_all {g : Graph} (W : Wf g) (c : Nat → Bool) (u : Nat) : stp c g.arrows u = (List.range g.n).any (fun v => has g u v && c v) := by
  rw [Bool.eq_iff_iff]
  unfold stp
  simp only [List.any_eq_true, Bool.and_eq_true, beq_iff_eq, List.mem_range, has_iff]
  constructor
  · rintro ⟨⟨a, b⟩, hp, rfl, hc⟩
    exact ⟨b, (W.inn _ hp).2, hp, hc⟩
  · rintro ⟨v, hv, hp, hc⟩
    exact ⟨(u, v), hp, rfl, hc⟩
theorem canWalk_succ {g : Graph} (W : Wf g) (k u : Nat) : canWalk g (k + 1) u = stp (canWalk g k) g.arrows u := (stp_all W _ u).symm
theorem canWalk_iff {g : Graph} (W : Wf g) {k u : Nat} : canWalk g (k + 1) u = true ↔ ∃ v, (u, v) ∈ g.arrows ∧ canWalk g k v = true := by
  rw [canWalk_succ W]
  unfold stp
  simp only [List.any_eq_true, Bool.and_eq_true, beq_iff_eq]
  constructor
  · rintro ⟨⟨a, b⟩, hp, rfl, hc⟩
    exact ⟨b, hp, hc⟩
  · rintro ⟨v, hp, hc⟩
    exact ⟨(u, v), hp, rfl, hc⟩
theorem stp_nil (c : Nat → Bool) (u : Nat) : stp c [] u = false := rfl
theorem stp_snoc (c : Nat → Bool) (ps : List (Nat × Nat)) (p : Nat × Nat) (u : Nat) : stp c (ps ++ [p]) u = (stp c ps u || (p.1 == u && c p.2)) := by
  unfold stp
  rw [List.any_append]
  simp
/-- one turn of the inner loop of starts_by_length -/
theorem row_turn {n : Nat} (c : Nat → Bool) {ps : List (Nat × Nat)} {p : Nat × Nat} (hc : c p.2 = true) :
    ((List.range n).map (stp c ps)).set p.1 true = (List.range n).map (stp c (ps ++ [p])) := by
  refine List.ext_getElem? fun i => ?_
  rw [List.getElem?_set]
  simp only [List.length_map, List.length_range, List.getElem?_map]
  by_cases hi : i < n
  · rw [List.getElem?_range hi]
    simp only [Option.map_some, stp_snoc, hc, Bool.and_true]
    by_cases e : p.1 = i
    · subst e; simp [hi]
    · simp [e]
  · have : (List.range n)[i]? = none := by simp; omega
    rw [this]
    by_cases e : p.1 = i
    · subst e; simp [hi]
    · simp [e]
theorem row_skip {n : Nat} (c : Nat → Bool) {ps : List (Nat × Nat)} {p : Nat × Nat} (hc : c p.2 = false) :
    (List.range n).map (stp c ps) = (List.range n).map (stp c (ps ++ [p])) := by
  refine List.map_congr_left fun u _ => ?_
  rw [stp_snoc, hc]
  simp
theorem row_start {n : Nat} (c : Nat → Bool) : List.replicate n false = (List.range n).map (stp c []) := by
  refine List.ext_getElem (by simp) fun i h1 h2 => ?_
  simp [stp_nil]
theorem row_zero (g : Graph) (n : Nat) : List.replicate n true = (List.range n).map (canWalk g 0) := by
  refine List.ext_getElem (by simp) fun i h1 h2 => ?_
  simp [canWalk]
theorem row_end {g : Graph} (W : Wf g) (l n : Nat) : (List.range n).map (stp (canWalk g l) g.arrows) = (List.range n).map (canWalk g (l + 1)) :=
  List.map_congr_left fun u _ => (canWalk_succ W l u).symm
theorem canWalk_less {g : Graph} (W : Wf g) : ∀ (k u : Nat), canWalk g (k + 1) u = true → canWalk g k u = true
  | 0, _, _ => rfl
  | k + 1, u, h => by
    obtain ⟨v, hv, hc⟩ := (canWalk_iff W).mp h
    exact (canWalk_iff W).mpr ⟨v, hv, canWalk_less W k v hc⟩
/-! ### how deep -/
theorem le_foldl_max : ∀ (l : List Nat) (a : Nat), a ≤ l.foldl max a ∧ ∀ x ∈ l, x ≤ l.foldl max a
  | [], a => ⟨Nat.le_refl _, fun x h => by simp at h⟩
  | y :: r, a => by
    have ih := le_foldl_max r (max a y)
    simp only [List.foldl_cons]
    refine ⟨by have := ih.1; omega, fun x hx => ?_⟩
    rcases List.mem_cons.mp hx with rfl | hx
    · have := ih.1; omega
    · exact ih.2 x hx
theorem foldl_max_le : ∀ (l : List Nat) (a m : Nat), a ≤ m → (∀ x ∈ l, x ≤ m) → l.foldl max a ≤ m
  | [], a, m, h, _ => h
  | y :: r, a, m, h, hl => by
    simp only [List.foldl_cons]
    refine foldl_max_le r _ m ?_ fun x hx => hl x (by simp [hx])
    have := hl y (by simp)
    omega
theorem deep_ge {g : Graph} (W : Wf g) {k u v : Nat} (h : (u, v) ∈ g.arrows) : deep g k u + 1 ≤ deep g (k + 1) v := by
  show _ ≤ List.foldl max 0 _
  refine (le_foldl_max _ 0).2 _ (List.mem_map.mpr ⟨u, List.mem_range.mpr (W.inn _ h).1, ?_⟩)
  rw [if_pos (has_iff.mpr h)]
theorem deep_le {g : Graph} {k v m : Nat} (h : ∀ u, (u, v) ∈ g.arrows → deep g k u + 1 ≤ m) : deep g (k + 1) v ≤ m := by
  show List.foldl max 0 _ ≤ m
  refine foldl_max_le _ 0 m (Nat.zero_le _) fun x hx => ?_
  obtain ⟨u, _, rfl⟩ := List.mem_map.mp hx
  by_cases c : has g u v = true
  · rw [if_pos c]; exact h u (has_iff.mp c)
  · rw [if_neg c]; exact Nat.zero_le _
/-- where it isn't 0 some arrow tells why -/
theorem deep_by {g : Graph} {k v j : Nat} (h : j + 1 ≤ deep g (k + 1) v) : ∃ u, (u, v) ∈ g.arrows ∧ j ≤ deep g k u := by
  apply Classical.byContradiction
  intro hn
  have : deep g (k + 1) v ≤ j := deep_le fun u hu => by
    have : ¬ j ≤ deep g k u := fun z => hn ⟨u, hu, z⟩
    omega
  omega
theorem deep_mono {g : Graph} (W : Wf g) : ∀ (k v : Nat), deep g k v ≤ deep g (k + 1) v
  | 0, v => Nat.zero_le _
  | k + 1, v => deep_le fun u hu => Nat.le_trans (Nat.succ_le_succ (deep_mono W k u)) (deep_ge W hu)
theorem deep_new {g : Graph} (W : Wf g) : ∀ (k v : Nat), deep g (k + 1) v = deep g k v ∨ k + 1 ≤ deep g (k + 1) v
  | 0, v => by
    rcases Nat.eq_zero_or_pos (deep g 1 v) with h | h
    · left; exact h
    · right; exact h
  | k + 1, v => by
    by_cases c : deep g (k + 1 + 1) v = deep g (k + 1) v
    · exact .inl c
    · right
      have m := deep_mono W (k + 1) v
      obtain ⟨u, hu, hd⟩ := deep_by (g := g) (k := k + 1) (v := v) (j := deep g (k + 1) v) (by omega)
      rcases deep_new W k u with e | e
      · have := deep_ge W (k := k) hu
        omega
      · have := deep_ge W (k := k + 1) hu
        omega
/-- a walk behind, a walk ahead -/
theorem deep_walk {g : Graph} (W : Wf g) : ∀ (j k v m : Nat), v < g.n → j ≤ deep g k v → canWalk g m v = true → ∃ u, u < g.n ∧ canWalk g (j + m) u = true
  | 0, _, v, m, hv, _, hc => ⟨v, hv, by rw [Nat.zero_add]; exact hc⟩
  | j + 1, 0, v, m, hv, hd, _ => by simp [deep] at hd
  | j + 1, k + 1, v, m, hv, hd, hc => by
    obtain ⟨u, hu, h⟩ := deep_by hd
    obtain ⟨x, hx, hw⟩ := deep_walk W j k u (m + 1) (W.inn _ hu).1 h ((canWalk_iff W).mpr ⟨v, hu, hc⟩)
    exact ⟨x, hx, by rw [show j + 1 + m = j + (m + 1) by omega]; exact hw⟩
def NoWalk (g : Graph) (k : Nat) : Prop := ∀ u, u < g.n → canWalk g k u = false
theorem deep_lt {g : Graph} (W : Wf g) {k : Nat} (h : NoWalk g k) {j v : Nat} (hv : v < g.n) : deep g j v < k := by
  rcases Nat.lt_or_ge (deep g j v) k with q | q
  · exact q
  · obtain ⟨u, hu, hc⟩ := deep_walk W k j v 0 hv q rfl
    rw [Nat.add_zero, h u hu] at hc
    cases hc
theorem deep_fix {g : Graph} (W : Wf g) {k : Nat} (h : NoWalk g k) {v : Nat} (hv : v < g.n) : deep g (k + 1) v = deep g k v := by
  rcases deep_new W k v with e | e
  · exact e
  · have := deep_lt W h (j := k + 1) hv
    omega
theorem nodup_small : ∀ (n : Nat) (l : List Nat), l.Nodup → (∀ x ∈ l, x < n) → l.length ≤ n
  | 0, l, _, h => by
    cases l with
    | nil => exact Nat.le_refl _
    | cons x r => exact absurd (h x (by simp)) (Nat.not_lt_zero _)
  | n + 1, l, hd, h => by
    have ih := nodup_small n (l.erase n) (hd.erase n) fun x hx => by
      have h1 := (hd.mem_erase_iff).mp hx
      have := h x h1.2
      have := h1.1
      omega
    by_cases c : n ∈ l
    · rw [List.length_erase_of_mem c] at ih
      omega
    · rw [List.erase_of_not_mem c] at ih
      omega
theorem walk_list {g : Graph} (W : Wf g) (h : Nat → Nat) (hh : ∀ u v, (u, v) ∈ g.arrows → h u < h v) : ∀ (m u : Nat), u < g.n → canWalk g m u = true →
    ∃ l : List Nat, l.length = m + 1 ∧ (∀ x ∈ l, x < g.n) ∧ (∀ x ∈ l, h u ≤ h x) ∧ l.Nodup
  | 0, u, hu, _ => ⟨[u], rfl, by simpa using hu, by simp, by simp⟩
  | m + 1, u, hu, hc => by
    obtain ⟨v, hv, hw⟩ := (canWalk_iff W).mp hc
    obtain ⟨l, e1, e2, e3, e4⟩ := walk_list W h hh m v (W.inn _ hv).2 hw
    have := hh u v hv
    refine ⟨u :: l, by simp [e1], ?_, ?_, ?_⟩
    · intro x hx
      rcases List.mem_cons.mp hx with rfl | hx
      · exact hu
      · exact e2 x hx
    · intro x hx
      rcases List.mem_cons.mp hx with rfl | hx
      · exact Nat.le_refl _
      · have := e3 x hx; omega
    · refine List.nodup_cons.mpr ⟨fun hx => ?_, e4⟩
      have := e3 u hx
      omega
theorem noWalk_n {g : Graph} (W : Wf g) {k : Nat} (h : NoWalk g k) : NoWalk g g.n := by
  intro u hu
  cases hc : canWalk g g.n u with
  | false => rfl
  | true =>
    obtain ⟨l, e1, e2, _, e4⟩ := walk_list W (deep g k) (fun a b hab => by
      have h1 := deep_ge W (k := k) hab
      rw [deep_fix W h (W.inn _ hab).2] at h1
      exact h1) g.n u hu hc
    have := nodup_small g.n l e4 e2
    omega
/-! ### the heights -/
structure Hts (g : Graph) (r : Nat) (done : List (Nat × Nat)) (h : List Nat) : Prop where
  len : h.length = g.n
  lo : ∀ v, v < g.n → deep g r v ≤ h.getD v 0
  hi : ∀ v, v < g.n → h.getD v 0 ≤ deep g g.n v
  got : ∀ p ∈ done, deep g r p.1 + 1 ≤ h.getD p.2 0
theorem hts_zero (g : Graph) : Hts g 0 [] (List.replicate g.n 0) := by
  refine ⟨by simp, fun v _ => Nat.zero_le _, fun v hv => ?_, fun p hp => by simp at hp⟩
  have e : (List.replicate g.n 0).getD v 0 = 0 := by simp [hv]
  rw [e]
  exact Nat.zero_le _
theorem getD_set {l : List Nat} {i j x : Nat} (hi : i < l.length) : (l.set i x).getD j 0 = if i = j then x else l.getD j 0 := by
  simp only [List.getD_eq_getElem?_getD, List.getElem?_set]
  by_cases e : i = j
  · subst e; simp [hi]
  · simp [e]
theorem hts_turn {g : Graph} (W : Wf g) (N : NoWalk g g.n) {r : Nat} {done : List (Nat × Nat)} {h : List Nat} (s : Hts g r done h) {p : Nat × Nat} (hp : p ∈ g.arrows) :
    Hts g r (done ++ [p]) (h.set p.2 (max (h.getD p.2 0) (h.getD p.1 0 + 1))) := by
  obtain ⟨h1, h2⟩ := W.inn p hp
  have hl : p.2 < h.length := by rw [s.len]; exact h2
  refine ⟨by rw [List.length_set]; exact s.len, fun v hv => ?_, fun v hv => ?_, fun q hq => ?_⟩
  · rw [getD_set hl]
    have := s.lo v hv
    by_cases e : p.2 = v
    · rw [if_pos e]; subst e; omega
    · rw [if_neg e]; exact this
  · rw [getD_set hl]
    have := s.hi v hv
    by_cases e : p.2 = v
    · rw [if_pos e]; subst e
      have a := s.hi p.1 h1
      have b : deep g g.n p.1 + 1 ≤ deep g (g.n + 1) p.2 := deep_ge W hp
      rw [deep_fix W N h2] at b
      omega
    · rw [if_neg e]; exact this
  · rw [getD_set hl]
    rcases List.mem_append.mp hq with hq | hq
    · have := s.got q hq
      by_cases e : p.2 = q.2
      · rw [if_pos e, e]; omega
      · rw [if_neg e]; exact this
    · have e : q = p := by simpa using hq
      subst e
      rw [if_pos rfl]
      have := s.lo q.1 h1
      omega
theorem hts_round {g : Graph} {r : Nat} {h : List Nat} (s : Hts g r g.arrows h) : Hts g (r + 1) [] h :=
  ⟨s.len, fun v _ => deep_le fun u hu => s.got (u, v) hu, s.hi, fun p hp => by simp at hp⟩
theorem hts_end {g : Graph} {h : List Nat} (s : Hts g g.n [] h) : h = Ks551.lift g := by
  refine List.ext_getElem (by rw [s.len]; simp [Ks551.lift]) fun i h1 h2 => ?_
  have hi : i < g.n := by rw [← s.len]; exact h1
  have a := s.lo i hi
  have b := s.hi i hi
  have e : h.getD i 0 = h[i] := by simp [h1]
  have e2 : (Ks551.lift g)[i] = deep g g.n i := by simp [Ks551.lift]
  rw [e] at a b
  rw [e2]
  omega
end Tow
namespace Tow
open Ks547 (Graph has graphOf pairsOf rows keeps maps)
open Ks551 (canWalk onward deep lift round walk)
/-! ### round, longest -/
theorem find_none_iff {g : Graph} {k : Nat} : (List.range g.n).find? (canWalk g k) = none ↔ NoWalk g k := by
  rw [List.find?_eq_none]
  constructor
  · intro h u hu
    have := h u (List.mem_range.mpr hu)
    simpa using this
  · intro h u hu
    have := h u (List.mem_range.mp hu)
    simp [this]
theorem walk_none_iff {g : Graph} {k : Nat} : walk g k = none ↔ NoWalk g k := by
  unfold walk
  rw [Option.map_eq_none_iff]
  exact find_none_iff
theorem any_false_iff {g : Graph} {k : Nat} : ((List.range g.n).map (canWalk g k)).any id = false ↔ NoWalk g k := by
  rw [List.any_map]
  simp only [List.any_eq_false, List.mem_range, Function.comp, id]
  constructor
  · intro h u hu
    have := h u hu
    simpa using this
  · intro h u hu
    simp [h u hu]
theorem round_eq (g : Graph) : round g = ((List.range g.n).map (canWalk g g.n)).any id := by
  unfold round
  cases hw : walk g g.n with
  | none =>
    rw [any_false_iff.mpr (walk_none_iff.mp hw)]
    rfl
  | some l =>
    cases ha : ((List.range g.n).map (canWalk g g.n)).any id with
    | true => rfl
    | false =>
      rw [walk_none_iff.mpr (any_false_iff.mp ha)] at hw
      cases hw
theorem noWalk_of_round {g : Graph} (h : round g = false) : NoWalk g g.n := by
  rw [round_eq] at h
  exact any_false_iff.mp h
theorem foldl_max_is {l : List Nat} {m : Nat} (hm : m ∈ l) (hle : ∀ x ∈ l, x ≤ m) : l.foldl max 0 = m :=
  Nat.le_antisymm (foldl_max_le l 0 m (Nat.zero_le _) hle) ((le_foldl_max l 0).2 m hm)
/-! ### into the tower -/
theorem head_range {α : Type} (F : Nat → List α) (y : α) : ∀ (m x0 : Nat), x0 < m → (∀ x, x < x0 → F x = []) → (F x0).head? = some y → ((List.range m).flatMap F).head? = some y
  | 0, x0, h, _, _ => absurd h (Nat.not_lt_zero _)
  | m + 1, x0, h, h0, hy => by
    rw [List.range_succ, List.flatMap_append, List.head?_append]
    by_cases c : x0 < m
    · rw [head_range F y m x0 c h0 hy]
      rfl
    · have e : x0 = m := by omega
      subst e
      have z : (List.range x0).flatMap F = [] := by
        rw [List.flatMap_eq_nil_iff]
        intro x hx
        exact h0 x (List.mem_range.mp hx)
      rw [z]
      simp [hy]
theorem head_rows (m : Nat) : ∀ (n : Nat) (P : List Nat → Bool) (d : List Nat), d.length = n → (∀ x ∈ d, x < m) → P d = true → (∀ f, f.length = n → P f = true → ∀ i, i < n → d.getD i 0 ≤ f.getD i 0) → ((rows m n).filter P).head? = some d
  | 0, P, d, hl, _, hP, _ => by
    have e : d = [] := List.length_eq_zero_iff.mp hl
    subst e
    simp [rows, hP]
  | n + 1, P, [], hl, _, _, _ => by simp at hl
  | n + 1, P, x0 :: d, hl, hm, hP, hle => by
    have hl' : d.length = n := by simpa using hl
    show (((List.range m).flatMap fun x => (rows m n).map fun r => x :: r).filter P).head? = _
    rw [List.filter_flatMap]
    have hlen : ∀ (n : Nat) (r : List Nat), r ∈ rows m n → r.length = n := by
      intro n
      induction n with
      | zero => intro r hr; simp [rows] at hr; simp [hr]
      | succ n ih =>
        intro r hr
        simp only [rows, List.mem_flatMap, List.mem_map] at hr
        obtain ⟨x, _, r', hr', rfl⟩ := hr
        simp [ih r' hr']
    refine head_range _ _ m x0 (hm x0 (by simp)) (fun x hx => ?_) ?_
    · rw [List.filter_eq_nil_iff]
      intro f hf hPf
      obtain ⟨r, hr, rfl⟩ := List.mem_map.mp hf
      have := hle (x :: r) (by simp [hlen n r hr]) hPf 0 (by omega)
      simp at this
      omega
    · rw [List.filter_map, List.head?_map]
      have ih := head_rows m n (P ∘ fun r => x0 :: r) d hl' (fun x hx => hm x (by simp [hx])) hP fun f hf hPf i hi => by
        have := hle (x0 :: f) (by simp [hf]) hPf (i + 1) (by omega)
        simpa using this
      rw [ih]
      rfl
theorem has_tower {k u v : Nat} : has (Ks551.tower k) u v = true ↔ u < v ∧ v < k := by
  rw [has_iff]
  show (u, v) ∈ (List.range k).flatMap _ ↔ _
  simp only [List.mem_flatMap, List.mem_map, List.mem_filter, List.mem_range, decide_eq_true_eq, Prod.mk.injEq]
  constructor
  · rintro ⟨a, ha, b, ⟨hb, hab⟩, rfl, rfl⟩
    exact ⟨hab, hb⟩
  · rintro ⟨h1, h2⟩
    exact ⟨u, by omega, v, ⟨h2, h1⟩, rfl, rfl⟩
theorem keeps_iff {g : Graph} {k : Nat} {f : List Nat} : keeps g (Ks551.tower k) f = true ↔ f.length = g.n ∧ (∀ x ∈ f, x < k) ∧ ∀ p ∈ g.arrows, f.getD p.1 0 < f.getD p.2 0 ∧ f.getD p.2 0 < k := by
  unfold keeps
  simp only [Bool.and_eq_true, beq_iff_eq, List.all_eq_true, decide_eq_true_eq, has_tower, and_assoc]
  rfl
theorem lift_len (g : Graph) : (lift g).length = g.n := by simp [lift]
theorem lift_at {g : Graph} {v : Nat} (h : v < g.n) : (lift g).getD v 0 = deep g g.n v := by
  unfold lift
  simp [h]
theorem keeps_ge {g : Graph} (W : Wf g) {k : Nat} {f : List Nat} (hf : keeps g (Ks551.tower k) f = true) : ∀ (j v : Nat), deep g j v ≤ f.getD v 0
  | 0, _ => Nat.zero_le _
  | j + 1, v => deep_le fun u hu => by
    have h1 : f.getD u 0 < f.getD v 0 := ((keeps_iff.mp hf).2.2 (u, v) hu).1
    have h2 := keeps_ge W hf j u
    omega
theorem tower_some {g : Graph} (W : Wf g) {k : Nat} (h : NoWalk g k) : (maps g (Ks551.tower k)).head? = some (lift g) := by
  have N := noWalk_n W h
  unfold maps
  refine head_rows _ _ _ _ (lift_len g) ?_ ?_ ?_
  · intro x hx
    obtain ⟨v, hv, rfl⟩ := List.mem_map.mp hx
    exact deep_lt W h (List.mem_range.mp hv)
  · refine keeps_iff.mpr ⟨lift_len g, ?_, fun p hp => ?_⟩
    · intro x hx
      obtain ⟨v, hv, rfl⟩ := List.mem_map.mp hx
      exact deep_lt W h (List.mem_range.mp hv)
    · obtain ⟨h1, h2⟩ := W.inn p hp
      rw [lift_at h1, lift_at h2]
      have a := deep_ge W (k := g.n) hp
      rw [deep_fix W N h2] at a
      exact ⟨a, deep_lt W h h2⟩
  · intro f hf hP i hi
    rw [lift_at hi]
    exact keeps_ge W hP g.n i
theorem keeps_walk {g : Graph} (W : Wf g) {k : Nat} {f : List Nat} (hf : keeps g (Ks551.tower k) f = true) : ∀ (j u : Nat), u < g.n → canWalk g j u = true → f.getD u 0 + j < k
  | 0, u, hu, _ => by
    obtain ⟨h1, h2, _⟩ := keeps_iff.mp hf
    have hl : u < f.length := by omega
    have e : f.getD u 0 = f[u] := by simp [hl]
    rw [e]
    exact h2 _ (List.getElem_mem hl)
  | j + 1, u, hu, hc => by
    obtain ⟨v, hv, hw⟩ := (canWalk_iff W).mp hc
    have := keeps_walk W hf j v (W.inn _ hv).2 hw
    have := ((keeps_iff.mp hf).2.2 (u, v) hv).1
    simp only at this
    omega
theorem tower_none {g : Graph} (W : Wf g) {k u : Nat} (hu : u < g.n) (hc : canWalk g k u = true) : (maps g (Ks551.tower k)).head? = none := by
  unfold maps
  rw [List.head?_eq_none_iff, List.filter_eq_nil_iff]
  intro f _ hf
  have := keeps_walk W hf k u hu hc
  omega
/-! ### the first walk -/
/-- of the arrows that rise the first that leads on is the least -/
theorem first_target {g : Graph} (W : Wf g) (R : g.arrows.Pairwise nlt) (c : Nat → Bool) (u : Nat) :
    ((g.arrows.filter fun p => p.1 == u && c p.2).map (·.2)).head? = (List.range g.n).find? fun v => has g u v && c v := by
  cases hh : ((g.arrows.filter fun p => p.1 == u && c p.2)) with
  | nil =>
    simp only [List.map_nil, List.head?_nil]
    symm
    rw [List.find?_eq_none]
    intro v hv hb
    rw [Bool.and_eq_true, has_iff] at hb
    have : (u, v) ∈ g.arrows.filter fun p => p.1 == u && c p.2 := List.mem_filter.mpr ⟨hb.1, by simp [hb.2]⟩
    rw [hh] at this
    simp at this
  | cons p r =>
    simp only [List.map_cons, List.head?_cons]
    symm
    have hp : p ∈ g.arrows.filter fun p => p.1 == u && c p.2 := by rw [hh]; simp
    obtain ⟨hp1, hp2⟩ := List.mem_filter.mp hp
    rw [Bool.and_eq_true, beq_iff_eq] at hp2
    have hpw : (p :: r).Pairwise nlt := by rw [← hh]; exact R.filter _
    rw [List.find?_range_eq_some]
    refine ⟨?_, ?_, ?_⟩
    · rw [Bool.and_eq_true, has_iff, ← hp2.1]
      exact ⟨hp1, hp2.2⟩
    · exact List.mem_range.mpr (W.inn p hp1).2
    · intro j hj
      cases hb : (has g u j && c j) with
      | false => rfl
      | true =>
        exfalso
        rw [Bool.and_eq_true, has_iff] at hb
        have hm : (u, j) ∈ g.arrows.filter fun p => p.1 == u && c p.2 := List.mem_filter.mpr ⟨hb.1, by simp [hb.2]⟩
        rw [hh] at hm
        rcases List.mem_cons.mp hm with e | hm
        · have e2 : j = p.2 := congrArg Prod.snd e
          omega
        · have h3 : nlt p (u, j) := (List.pairwise_cons.mp hpw).1 _ hm
          have h4 : p.1 < u ∨ (p.1 = u ∧ p.2 < j) := h3
          omega
/-- the walk told so far, from u on, l places still to be told -/
theorem onward_step {g : Graph} (W : Wf g) (R : g.arrows.Pairwise nlt) {k u : Nat} (hc : canWalk g (k + 1) u = true) :
    ∃ v, v < g.n ∧ canWalk g k v = true ∧ ((g.arrows.filter fun p => p.1 == u && canWalk g k p.2).map (·.2)).head? = some v ∧ onward g (k + 1) u = u :: onward g k v := by
  rw [first_target W R (canWalk g k) u]
  cases hf : (List.range g.n).find? (fun v => has g u v && canWalk g k v) with
  | none =>
    exfalso
    obtain ⟨v, hv, hw⟩ := (canWalk_iff W).mp hc
    rw [List.find?_eq_none] at hf
    refine hf v (List.mem_range.mpr (W.inn _ hv).2) ?_
    rw [Bool.and_eq_true, has_iff]
    exact ⟨hv, hw⟩
  | some v =>
    have h1 := List.mem_range.mp (List.mem_of_find?_eq_some hf)
    have h2 := List.find?_some hf
    rw [Bool.and_eq_true] at h2
    refine ⟨v, h1, h2.2, rfl, ?_⟩
    show (match (List.range g.n).find? fun v => has g u v && canWalk g k v with
      | none => [u]
      | some v => u :: onward g k v) = _
    rw [hf]
theorem onward_len {g : Graph} (W : Wf g) (R : g.arrows.Pairwise nlt) : ∀ (k u : Nat), canWalk g k u = true → (onward g k u).length = k + 1
  | 0, _, _ => rfl
  | k + 1, u, h => by
    obtain ⟨v, _, hc, _, e⟩ := onward_step W R h
    rw [e, List.length_cons, onward_len W R k v hc]
/-- where it starts: the first from which it may be walked -/
theorem start_head {g : Graph} {k : Nat} : ((List.range g.n).filter (canWalk g k)).head? = (List.range g.n).find? (canWalk g k) := by
  rw [List.head?_filter]
theorem walk_eq {g : Graph} {k u : Nat} (h : ((List.range g.n).filter (canWalk g k)).head? = some u) : walk g k = some (onward g k u) ∧ u < g.n ∧ canWalk g k u = true := by
  rw [start_head] at h
  refine ⟨?_, List.mem_range.mp (List.mem_of_find?_eq_some h), List.find?_some h⟩
  unfold walk
  rw [h]
  rfl
theorem start_none {g : Graph} {k : Nat} (h : (List.range g.n).filter (canWalk g k) = []) : NoWalk g k := by
  rw [← find_none_iff, ← start_head, h]
  rfl
/-! ### what is due -/
def outI (r : Int) (l : List Nat) : List Int := r :: l.map Int.ofNat
theorem longest_due {n : Int} {ns : List Int} (hn : 0 ≤ n) (hp : ∀ x ∈ ns, 0 ≤ x) : PyKs551.longest n ns =
    if isGraph n ns = true then (if round (gr n ns) = true then [-33] else [(((lift (gr n ns)).foldl max 0 : Nat) : Int)]) else [-22] := by
  show Ks551Neutral.out (Ks551.answer (.longest n.toNat (ns.map Int.toNat))) = _
  show Ks551Neutral.out (Ks547.graph n.toNat (ns.map Int.toNat) _) = _
  unfold Ks547.graph
  rw [graphOf_eq n ns hn hp]
  by_cases c : isGraph n ns = true
  · rw [if_pos c, if_pos c]
    show Ks551Neutral.out (if round (gr n ns) = true then _ else _) = _
    by_cases c2 : round (gr n ns) = true
    · rw [if_pos c2, if_pos c2]; rfl
    · rw [if_neg c2, if_neg c2]; rfl
  · rw [if_neg c, if_neg c]; rfl
theorem tower_due {n k : Int} {ns : List Int} (hn : 0 ≤ n) (hk : 0 ≤ k) (hp : ∀ x ∈ ns, 0 ≤ x) : PyKs551.tower n k ns =
    if isGraph n ns = true ∧ 1 ≤ k ∧ k ≤ 6 then (match walk (gr n ns) k.toNat with | none => outI 1 (lift (gr n ns)) | some w => outI 0 w) else [-22] := by
  show Ks551Neutral.out (Ks551.answer (.tower n.toNat k.toNat (ns.map Int.toNat))) = _
  show Ks551Neutral.out (Ks547.graph n.toNat (ns.map Int.toNat) _) = _
  unfold Ks547.graph
  rw [graphOf_eq n ns hn hp]
  by_cases c : isGraph n ns = true
  · rw [if_pos c]
    show Ks551Neutral.out (if k.toNat < 1 ∨ 6 < k.toNat then _ else _) = _
    by_cases c2 : 1 ≤ k ∧ k ≤ 6
    · rw [if_neg (by omega), if_pos ⟨c, c2⟩]
      have W := gr_wf c
      cases hw : walk (gr n ns) k.toNat with
      | none =>
        rw [tower_some W (walk_none_iff.mp hw)]
        rfl
      | some w =>
        have hN : ∃ u, u < (gr n ns).n ∧ canWalk (gr n ns) k.toNat u = true := by
          apply Classical.byContradiction
          intro hn
          have : NoWalk (gr n ns) k.toNat := fun u hu => by
            cases hc : canWalk (gr n ns) k.toNat u with
            | false => rfl
            | true => exact absurd ⟨u, hu, hc⟩ hn
          rw [walk_none_iff.mpr this] at hw
          cases hw
        obtain ⟨u, hu, hc⟩ := hN
        rw [tower_none W hu hc]
        rfl
    · rw [if_pos (by omega), if_neg (fun z => c2 z.2)]; rfl
  · rw [if_neg c, if_neg (fun z => c z.1)]; rfl
theorem lift_due {n : Int} {ns : List Int} (hn : 0 ≤ n) (hp : ∀ x ∈ ns, 0 ≤ x) : PyKs551.lift n ns =
    if isGraph n ns = true then (if round (gr n ns) = true then [-33] else outI n (lift (gr n ns))) else [-22] := by
  show Ks551Neutral.out (Ks551.answer (.lift n.toNat (ns.map Int.toNat))) = _
  show Ks551Neutral.out (Ks547.graph n.toNat (ns.map Int.toNat) _) = _
  unfold Ks547.graph
  rw [graphOf_eq n ns hn hp]
  by_cases c : isGraph n ns = true
  · rw [if_pos c, if_pos c]
    show Ks551Neutral.out (if round (gr n ns) = true then _ else _) = _
    by_cases c2 : round (gr n ns) = true
    · rw [if_pos c2, if_pos c2]; rfl
    · rw [if_neg c2, if_neg c2]
      show (((lift (gr n ns)).length : Nat) : Int) :: _ = n :: _
      rw [lift_len]
      show ((n.toNat : Nat) : Int) :: _ = _
      rw [Int.toNat_of_nonneg hn]
      rfl
  · rw [if_neg c, if_neg c]; rfl
theorem walk_due {n k : Int} {ns : List Int} (hn : 0 ≤ n) (hk : 0 ≤ k) (hp : ∀ x ∈ ns, 0 ≤ x) : PyKs551.walk n k ns =
    if isGraph n ns = true ∧ k ≤ 12 then (match walk (gr n ns) k.toNat with | none => [-33] | some w => outI w.length w) else [-22] := by
  show Ks551Neutral.out (Ks551.answer (.walk n.toNat k.toNat (ns.map Int.toNat))) = _
  show Ks551Neutral.out (Ks547.graph n.toNat (ns.map Int.toNat) _) = _
  unfold Ks547.graph
  rw [graphOf_eq n ns hn hp]
  by_cases c : isGraph n ns = true
  · rw [if_pos c]
    show Ks551Neutral.out (if 12 < k.toNat then _ else _) = _
    by_cases c2 : k ≤ 12
    · rw [if_neg (by omega), if_pos ⟨c, c2⟩]
      cases hw : walk (gr n ns) k.toNat with
      | none => rfl
      | some w => rfl
    · rw [if_pos (by omega), if_neg (fun z => c2 z.2)]; rfl
  · rw [if_neg c, if_neg (fun z => c z.1)]; rfl
end Tow
namespace Tow
open Ks547 (Graph has)
open Ks551 (canWalk onward walk round)
/-! ### walks to one of the ends -/
def canEnd (g : Graph) (e : Nat → Bool) : Nat → Nat → Bool
  | 0, u => e u
  | k + 1, u => stp (canEnd g e k) g.arrows u
def owEnd (g : Graph) (e : Nat → Bool) : Nat → Nat → List Nat
  | 0, u => [u]
  | k + 1, u => match (List.range g.n).find? fun v => has g u v && canEnd g e k v with
    | none => [u]
    | some v => u :: owEnd g e k v
theorem canEnd_iff {g : Graph} {e : Nat → Bool} {k u : Nat} : canEnd g e (k + 1) u = true ↔ ∃ v, (u, v) ∈ g.arrows ∧ canEnd g e k v = true := by
  show stp (canEnd g e k) g.arrows u = true ↔ _
  unfold stp
  simp only [List.any_eq_true, Bool.and_eq_true, beq_iff_eq]
  constructor
  · rintro ⟨⟨a, b⟩, hp, rfl, hc⟩
    exact ⟨b, hp, hc⟩
  · rintro ⟨v, hp, hc⟩
    exact ⟨(u, v), hp, rfl, hc⟩
theorem canEnd_walk {g : Graph} (W : Wf g) : ∀ k u, canEnd g (fun _ => true) k u = canWalk g k u
  | 0, u => rfl
  | k + 1, u => by
    rw [canWalk_succ W, show canWalk g k = canEnd g (fun _ => true) k from (funext fun v => canEnd_walk W k v).symm]
    rfl
theorem owEnd_walk {g : Graph} (W : Wf g) : ∀ k u, owEnd g (fun _ => true) k u = onward g k u
  | 0, u => rfl
  | k + 1, u => by
    show (match (List.range g.n).find? fun v => has g u v && canEnd g (fun _ => true) k v with | none => [u] | some v => u :: owEnd g (fun _ => true) k v) =
      (match (List.range g.n).find? fun v => has g u v && canWalk g k v with | none => [u] | some v => u :: onward g k v)
    rw [show (fun v => has g u v && canEnd g (fun _ => true) k v) = fun v => has g u v && canWalk g k v from funext fun v => by rw [canEnd_walk W k v]]
    cases (List.range g.n).find? fun v => has g u v && canWalk g k v with
    | none => rfl
    | some v => show u :: owEnd g (fun _ => true) k v = _; rw [owEnd_walk W k v]
theorem rowE_end (g : Graph) (e : Nat → Bool) (l n : Nat) : (List.range n).map (stp (canEnd g e l) g.arrows) = (List.range n).map (canEnd g e (l + 1)) := rfl
/-- the walk told so far, from u on -/
theorem end_step {g : Graph} (W : Wf g) (R : g.arrows.Pairwise nlt) {e : Nat → Bool} {k u : Nat} (hc : canEnd g e (k + 1) u = true) :
    ∃ v, v < g.n ∧ canEnd g e k v = true ∧ ((g.arrows.filter fun p => p.1 == u && canEnd g e k p.2).map (·.2)).head? = some v ∧ owEnd g e (k + 1) u = u :: owEnd g e k v := by
  rw [first_target W R (canEnd g e k) u]
  cases hf : (List.range g.n).find? (fun v => has g u v && canEnd g e k v) with
  | none =>
    exfalso
    obtain ⟨v, hv, hw⟩ := canEnd_iff.mp hc
    rw [List.find?_eq_none] at hf
    refine hf v (List.mem_range.mpr (W.inn _ hv).2) ?_
    rw [Bool.and_eq_true, has_iff]
    exact ⟨hv, hw⟩
  | some v =>
    have h1 := List.mem_range.mp (List.mem_of_find?_eq_some hf)
    have h2 := List.find?_some hf
    rw [Bool.and_eq_true] at h2
    refine ⟨v, h1, h2.2, rfl, ?_⟩
    show (match (List.range g.n).find? fun v => has g u v && canEnd g e k v with
      | none => [u]
      | some v => u :: owEnd g e k v) = _
    rw [hf]
theorem owEnd_len {g : Graph} (W : Wf g) (R : g.arrows.Pairwise nlt) {e : Nat → Bool} : ∀ (k u : Nat), canEnd g e k u = true → (owEnd g e k u).length = k + 1
  | 0, _, _ => rfl
  | k + 1, u, h => by
    obtain ⟨v, _, hc, _, e⟩ := end_step W R h
    rw [e, List.length_cons, owEnd_len W R k v hc]
/-- the first of 0, 1 .. that keeps P -/
theorem find_lt {P : Nat → Bool} : ∀ {m x0 : Nat}, x0 < m → (∀ x, x < x0 → P x = false) → P x0 = true → (List.range m).find? P = some x0
  | 0, x0, h, _, _ => by omega
  | m + 1, x0, h, hl, hy => by
    rw [List.range_succ, List.find?_append]
    by_cases c : x0 < m
    · rw [find_lt c hl hy]
      rfl
    · have e : x0 = m := by omega
      subst e
      have : (List.range x0).find? P = none := by
        rw [List.find?_eq_none]
        intro x hx
        rw [hl x (List.mem_range.mp hx)]
        exact Bool.false_ne_true
      rw [this, List.find?_cons_of_pos hy]
      rfl
theorem find_no {P : Nat → Bool} {m : Nat} (h : ∀ x, x < m → P x = false) : (List.range m).find? P = none := by
  rw [List.find?_eq_none]
  intro x hx
  rw [h x (List.mem_range.mp hx)]
  exact Bool.false_ne_true
theorem walk_is {g : Graph} (W : Wf g) {k u : Nat} (hu : u < g.n) (hl : ∀ x, x < u → canEnd g (fun _ => true) k x = false) (h : canEnd g (fun _ => true) k u = true) : walk g k = some (owEnd g (fun _ => true) k u) := by
  unfold walk
  rw [find_lt hu (fun x hx => by rw [← canEnd_walk W]; exact hl x hx) (by rw [← canEnd_walk W]; exact h), owEnd_walk W]
  rfl
theorem walk_no {g : Graph} (W : Wf g) {k : Nat} (hl : ∀ x, x < g.n → canEnd g (fun _ => true) k x = false) : walk g k = none := by
  unfold walk
  rw [find_no (fun x hx => by rw [← canEnd_walk W]; exact hl x hx)]
  rfl
theorem walk_len {g : Graph} (W : Wf g) (R : g.arrows.Pairwise nlt) {k : Nat} {v : List Nat} (h : walk g k = some v) : v.length = k + 1 := by
  unfold walk at h
  cases e : (List.range g.n).find? (canWalk g k) with
  | none => rw [e] at h; cases h
  | some u =>
    rw [e] at h
    have h1 := List.find?_some e
    rw [← Option.some.inj h]
    exact onward_len W R _ _ h1
end Tow
namespace Tow
open PySem PySem.Spec PyProof.Rows L2
open Ks547 (Graph has)
/-! ### t >= u of two tuples of whole numbers -/
def geTup (ns ms : List Int) : Bool := Ob.lexAt (fun j => decide (ns.getD j 0 = ms.getD j 0)) (fun j => decide (ms.getD j 0 ≤ ns.getD j 0)) (decide (ns.length ≥ ms.length)) 0 (min ns.length ms.length)
def rGeTup (K : PySem.W.Frag) : R2 := fun x y H Q => ∃ (a b : Addr) (ns ms : List Int), x = .ref a ∧ y = .ref b ∧ SqT K H a (ns.map V.int) ∧ SqT K H b (ms.map V.int) ∧ Q (.bl (geTup ns ms)) H
theorem op_geTup {X : Cx} (room : X.A.units < cLine) : OpR X (compareOp .GtE) (rGeTup X.K) := by
  intro pins s σ H x y v u Q I relx rely hyp
  obtain ⟨a, b, ns, ms, rfl, rfl, ta, tb, fin⟩ := hyp
  cases relx
  cases rely
  obtain ⟨us, ru, pu, _⟩ := I.tuple ta
  obtain ⟨vs, rv, pvv, _⟩ := I.tuple tb
  have iu : IntsAre us ns := Vals.ints ru
  have iv : IntsAre vs ms := Vals.ints rv
  have su : us.toArray.size = ns.length := by
    rw [List.size_toArray]; exact iu.length
  have sv : vs.toArray.size = ms.length := by
    rw [List.size_toArray]; exact iv.length
  have gu : ∀ j (hj : j < us.toArray.size), ∃ t, us.toArray[j] = .int (ns.getD j 0) t := fun j hj =>
    PyProof.Rows.IntsAre.int_at iu _ _ (by simp at hj; simp [hj])
  have gv : ∀ j (hj : j < vs.toArray.size), ∃ t, vs.toArray[j] = .int (ms.getD j 0) t := fun j hj =>
    PyProof.Rows.IntsAre.int_at iv _ _ (by simp at hj; simp [hj])
  have cmp := Ob.RcOp.tuples_ge (A := X.A) (s := s) (e := fun j => decide (ns.getD j 0 = ms.getD j 0)) (r := fun j => decide (ms.getD j 0 ≤ ns.getD j 0)) pu pvv room
    (fun j h1 h2 => by
      obtain ⟨t1, e1⟩ := gu j h1
      obtain ⟨t2, e2⟩ := gv j h2
      rw [e1, e2]
      have bq : (ns.getD j 0 == ms.getD j 0) = decide (ns.getD j 0 = ms.getD j 0) := by
        rw [Bool.eq_iff_iff, beq_iff_eq, decide_eq_true_eq]
      rw [← bq]
      exact SeqAt.EqAt.int_int _ _ _ _)
    (fun j h1 h2 _ => by
      obtain ⟨t1, e1⟩ := gu j h1
      obtain ⟨t2, e2⟩ := gv j h2
      rw [e1, e2]
      exact Ob.RcOp.ge_int _ _ _ _)
  rw [su, sv] at cmp
  exact (cmp X.prog X.w X.xe (EP X pins σ Q) ⟨.bl _, H, I, rfl, fin⟩ : wpAny (model X.prog X.w) X.A (compareOp .GtE (.ref a) (.ref b)) (EP X pins σ Q) X.xe s)
theorem geTup_two (p q : Int × Int) : geTup [p.1, p.2] [q.1, q.2] = !lt2 p q := by
  show Ob.lexAt _ _ _ 0 2 = _
  rw [Ob.lexAt_succ, Ob.lexAt_succ, Ob.lexAt_zero]
  show (if decide (p.1 = q.1) = true then (if decide (p.2 = q.2) = true then decide (2 ≥ 2) else decide (q.2 ≤ p.2)) else decide (q.1 ≤ p.1)) = _
  unfold lt2
  by_cases c1 : p.1 = q.1
  · rw [if_pos (decide_eq_true c1), if_pos c1]
    by_cases c2 : p.2 = q.2
    · rw [if_pos (decide_eq_true c2), decide_eq_false (show ¬ p.2 < q.2 by omega)]; rfl
    · rw [if_neg (by simpa using c2)]
      by_cases c3 : p.2 < q.2
      · rw [decide_eq_true c3, decide_eq_false (by omega)]; rfl
      · rw [decide_eq_false c3, decide_eq_true (by omega)]; rfl
  · rw [if_neg (by simpa using c1), if_neg c1]
    by_cases c3 : p.1 < q.1
    · rw [decide_eq_true c3, decide_eq_false (by omega)]; rfl
    · rw [decide_eq_false c3, decide_eq_true (by omega)]; rfl
/-! ### heaps -/
theorem same_new {H H' : Hp} {p : Addr} {o : HO} (s : Same H H') (h : H p = none) : Same H (upd H' p o) := fun b x e => by
  rw [upd_ne (ne_of_none e h)]
  exact s b x e
theorem same_fresh {H H' : Hp} {p : Addr} (s : Same H H') (h : H' p = none) : H p = none := s.free h
/-- at a a list of pairs -/
def Arr (H : Hp) (a : Addr) (ps : List (Int × Int)) : Prop := ∃ ts : List Addr, H a = some (.lst (ts.map V.ref)) ∧ ts.length = ps.length ∧
  ∀ (i : Nat) (t : Addr) (p : Int × Int), ts[i]? = some t → ps[i]? = some p → H t = some (.tup [.int p.1, .int p.2])
theorem Arr.same {H H' : Hp} {a : Addr} {ps : List (Int × Int)} (A : Arr H a ps) (s : Same H H') : Arr H' a ps := by
  obtain ⟨ts, h1, h2, h3⟩ := A
  exact ⟨ts, s _ _ h1, h2, fun i t p e1 e2 => s _ _ (h3 i t p e1 e2)⟩
theorem Arr.nil {H : Hp} {a : Addr} (h : H a = some (.lst [])) : Arr H a [] := ⟨[], h, rfl, fun i t p e => by simp at e⟩
theorem Arr.push {H : Hp} {a : Addr} {ps : List (Int × Int)} (A : Arr H a ps) {t : Addr} {p : Int × Int} (ht : H t = some (.tup [.int p.1, .int p.2])) :
    ∃ acc, H a = some (.lst acc) ∧ acc.length = ps.length ∧ Arr (upd H a (.lst (acc ++ [.ref t]))) a (ps ++ [p]) := by
  obtain ⟨ts, h1, h2, h3⟩ := A
  refine ⟨ts.map V.ref, h1, by simp [h2], ts ++ [t], by rw [upd_same, List.map_append]; rfl, by simp [h2], fun i t' p' e1 e2 => ?_⟩
  have ne : ∀ (b : Addr) (l : List V), H b = some (.tup l) → b ≠ a := fun b l hb => ne_of hb h1 (by intro z; cases z)
  rcases Nat.lt_or_ge i ts.length with c | c
  · rw [List.getElem?_append_left c] at e1
    rw [List.getElem?_append_left (h2 ▸ c)] at e2
    have q := h3 i t' p' e1 e2
    rw [upd_ne (ne _ _ q)]
    exact q
  · rw [List.getElem?_append_right c] at e1
    rw [List.getElem?_append_right (h2 ▸ c)] at e2
    have hi : i - ts.length = 0 := by
      rcases Nat.eq_zero_or_pos (i - ts.length) with z | z
      · exact z
      · rw [List.getElem?_eq_none (by simp; omega)] at e1; cases e1
    rw [hi] at e1
    rw [show i - ps.length = 0 by omega] at e2
    simp at e1 e2
    subst e1 e2
    rw [upd_ne (ne _ _ ht)]
    exact ht
/-- the i-th of them -/
theorem Arr.item {H : Hp} {a : Addr} {ps : List (Int × Int)} (A : Arr H a ps) : ∃ xs : List V, H a = some (.lst xs) ∧ xs.length = ps.length ∧
    ∀ (i : Nat) (x : V), xs[i]? = some x → ∃ (t : Addr) (p : Int × Int), x = .ref t ∧ ps[i]? = some p ∧ H t = some (.tup [.int p.1, .int p.2]) := by
  obtain ⟨ts, h1, h2, h3⟩ := A
  refine ⟨ts.map V.ref, h1, by simp [h2], fun i x hx => ?_⟩
  rw [List.getElem?_map] at hx
  cases e : ts[i]? with
  | none => rw [e] at hx; cases hx
  | some t =>
    rw [e] at hx
    have hi : i < ts.length := (List.getElem?_eq_some_iff.mp e).1
    refine ⟨t, ps[i]'(h2 ▸ hi), (Option.some.inj hx).symm, List.getElem?_eq_getElem (h2 ▸ hi), ?_⟩
    exact h3 i t _ e (List.getElem?_eq_getElem (h2 ▸ hi))
theorem small {n : Nat} (h : n ≤ 1000) : n < sizeLine := small1000 h
/-! ### range(0, L, 2) -/
theorem rg2 {L : Nat} (h : L ≤ 60) (e : L % 2 = 0) : RgC 0 (L : Int) 2 (L / 2) := by
  have hs : Builtin.Range.rangeSize 0 (L : Int) 2 = ((L / 2 : Nat) : Int) := by
    unfold Builtin.Range.rangeSize
    rw [if_pos (by decide)]
    split <;> omega
  refine ⟨by decide, by decide, ?_, hs⟩
  unfold Builtin.Range.small
  rw [hs]
  have f : ∀ i : Int, 0 ≤ i → i ≤ 100 → Builtin.Range.rangeFitsLong i = true := fun i a b => by
    unfold Builtin.Range.rangeFitsLong
    rw [Bool.and_eq_true, decide_eq_true_eq, decide_eq_true_eq]
    omega
  rw [f 0 (by omega) (by omega), f L (by omega) (by omega), f 2 (by omega) (by omega), f ((L / 2 : Nat) : Int) (by omega) (by omega), if_pos (by decide), f ((L : Int) + (2 - 1)) (by omega) (by omega), Bool.or_true]
  rfl
end Tow
namespace Tow
open PySem PySem.Spec PyProof.Rows L2
open Ks547 (Graph has)
open Ks551 (canWalk deep)
/-! ### the text -/
def topS (i : Nat) : Stmt := PySem.Challenge.pw_towerorwalk_s01_tower.main.body.getD i (.Pass ⟨0, 0, 0, 0⟩)
abbrev sIsG : Stmt := topS 5
abbrev sRis : Stmt := topS 6
abbrev sPair : Stmt := topS 7
abbrev sSta : Stmt := topS 8
abbrev sHei : Stmt := topS 11
theorem scPair : FnScope ["first", "index"] ["first"] (defScope sPair) := ⟨rfl, rfl, rfl, by decide +kernel, rfl, by decide +kernel, by decide +kernel⟩
theorem scRis : FnScope ["arrows", "index"] ["arrows"] (defScope sRis) := ⟨rfl, rfl, rfl, by decide +kernel, rfl, by decide +kernel, by decide +kernel⟩
theorem scIsG : FnScope ["n", "first", "place"] ["n", "first"] (defScope sIsG) := ⟨rfl, rfl, rfl, by decide +kernel, rfl, by decide +kernel, by decide +kernel⟩
section
variable {P : Program} {w : World} {K : PySem.W.Frag} {mg : Str → Option Value} {base : Heap}
/-! ### pair_up -/
def spPair (K : PySem.W.Frag) : Sp := fun vs H Q _ => ∃ (a : Addr) (ns : List Int), vs = [.ref a] ∧ SqL K H a (ns.map V.int) ∧ ns.length ≤ 60 ∧ ns.length % 2 = 0 ∧
  ∀ H' p, Same H H' → H p = none → Arr H' p (pairUp ns) → Q (.ref p) H'
theorem take_next {α : Type} {l : List α} {i : Nat} {x : α} (h : l[i]? = some x) : l.take (i + 1) = l.take i ++ [x] := by
  rw [List.take_add_one, h]
  rfl
theorem int_at {ns : List Int} {j : Nat} (h : j < ns.length) : (ns.map V.int)[j]? = some (.int (ns.getD j 0)) := by
  rw [List.getElem?_map, List.getElem?_eq_getElem h, List.getD_eq_getElem?_getD, List.getElem?_eq_getElem h]
  rfl
theorem ok_pair {f : Addr} {fd : FuncData} {k : Nat} (F : Fun K "pair_up" "pair_up" sPair f fd) (mr : mg "range" = none) (ml : mg "len" = none) : FnOk P w K mg base CX0 (k + 1) f fd ["first"] (spPair K) := by
  refine F.ok scPair (fun vs H Q E h => ?_) (fun cdv A outer s H vs Q E hr h => ?_)
  · obtain ⟨a, ns, rfl, _⟩ := h
    rfl
  · obtain ⟨a, ns, rfl, hS, hlen, hev, q⟩ := h
    refine ⟨_, pss_one (ps_ret (pe_lc (own := [("index", 1)]) (g := gName 1) (by rfl) scPair.nd
      (pi_range3 rfl mr (pa_cons pe_int (pa_cons (pe_callB call_len_seq (by rfl) ml PySem.boot_len (pa_cons (pv 0) pa_nil)) (pa_cons pe_int pa_nil))))
      (blkOk_by (own := [("index", 1)]) (N := ["first", "index"]) (sc := defScope sPair) (by decide +kernel))
      (fun _ _ _ _ _ => pg_name (i := 1) scPair.nd rfl (Or.inl rfl)) (fun _ _ _ _ _ => pts_nil)
      (fun _ _ _ _ _ => pe_tup (pa_cons (pe_ix (r := rIxL K) ix_list (pv 0) (pv 1) (fun _ _ => rfl)) (pa_cons (pe_ix (r := rIxL K) ix_list (pv 0) (pe_op op_add (pv 1) pe_int) (fun _ _ => rfl)) pa_nil))))), ?_⟩
    refine ⟨.ref a, rfl, a, ns.map V.int, rfl, .inl hS, 0, (ns.length : Int), 2, ns.length / 2, ?_, rg2 hlen hev, fun D nD => ?_⟩
    · rw [List.length_map]
    · refine ⟨fun i m H' => m = ns.length / 2 - i ∧ i ≤ ns.length / 2 ∧ Same H H' ∧ Arr H' D ((pairUp ns).take i), ⟨ns.length / 2, rfl, Nat.zero_le _, same_new (Same.refl H) nD, Arr.nil upd_same⟩, ?_⟩
      rintro i m H' ⟨rfl, hi, sm, ar⟩
      by_cases hlt : i < ns.length / 2
      · refine .inr ⟨hlt, fun H2 => Same H H2 ∧ Arr H2 D ((pairUp ns).take (i + 1)), fun H2 z => ⟨_, by omega, rfl, hlt, z.1, z.2⟩, ?_⟩
        rintro x H2 ⟨rfl, rfl⟩
        have g1 := int_at (ns := ns) (j := 2 * i) (by omega)
        have g2 := int_at (ns := ns) (j := 2 * i + 1) (by omega)
        refine ⟨rfl, ?_⟩
        dsimp only [tYes]
        rw [if_pos rfl]
        refine ⟨.ref a, rfl, _, rfl, a, _, _, _, rfl, rfl, sm.seq hS, at_of (j := 2 * i) (by omega) g1, ?_⟩
        refine ⟨.ref a, rfl, _, rfl, _, _, rfl, rfl, a, _, _, _, rfl, rfl, sm.seq hS, at_of (j := 2 * i + 1) (by omega) g2, ?_⟩
        refine ⟨by show 2 ≤ sizeLine; decide, fun t nt => ?_⟩
        have pa := pairUp_at ns i (by omega)
        have s2 : Same H2 (upd H2 t (.tup [.int (ns.getD (2 * i) 0), .int (ns.getD (2 * i + 1) 0)])) := same_new (Same.refl H2) nt
        obtain ⟨acc, e1, e2, e3⟩ := (ar.same s2).push (t := t) (p := (ns.getD (2 * i) 0, ns.getD (2 * i + 1) 0)) upd_same
        refine ⟨acc, e1, small ?_, same_new (sm.trans s2) nD, ?_⟩
        · rw [e2, List.length_take]; omega
        · rw [take_next pa]; exact e3
      · have e : i = ns.length / 2 := by omega
        subst e
        refine .inl ⟨Nat.le_refl _, q H' D sm nD ?_⟩
        rw [List.take_of_length_le (by rw [pairUp_len]; exact Nat.le_refl _)] at ar
        exact ar
/-! ### is_rising -/
def spRis : Sp := fun vs H Q _ => ∃ (a : Addr) (ps : List (Int × Int)), vs = [.ref a] ∧ Arr H a ps ∧ ps.length ≤ 30 ∧ Q (.bl (rising ps)) H
theorem rising_no : ∀ {ps : List (Int × Int)} {i : Nat} {p q : Int × Int}, ps[i]? = some p → ps[i + 1]? = some q → lt2 p q = false → rising ps = false
  | [], i, p, q, h, _, _ => by simp at h
  | [a], 0, p, q, _, h, _ => by simp at h
  | [a], i + 1, p, q, h, _, _ => by simp at h
  | a :: b :: r, 0, p, q, h1, h2, hl => by
    have e1 : a = p := Option.some.inj h1
    have e2 : b = q := Option.some.inj h2
    subst e1 e2
    show (lt2 a b && rising (b :: r)) = false
    rw [hl]; rfl
  | a :: b :: r, i + 1, p, q, h1, h2, hl => by
    show (lt2 a b && rising (b :: r)) = false
    rw [rising_no (ps := b :: r) (i := i) h1 h2 hl, Bool.and_false]
theorem rising_yes : ∀ {ps : List (Int × Int)}, (∀ (i : Nat) (p q : Int × Int), ps[i]? = some p → ps[i + 1]? = some q → lt2 p q = true) → rising ps = true
  | [], _ => rfl
  | [_], _ => rfl
  | a :: b :: r, h => by
    show (lt2 a b && rising (b :: r)) = true
    rw [h 0 a b rfl rfl, rising_yes (ps := b :: r) (fun i p q e1 e2 => h (i + 1) p q e1 e2)]
    rfl
theorem ok_ris {f : Addr} {fd : FuncData} {k : Nat} (F : Fun K "is_rising" "is_rising" sRis f fd) (mr : mg "range" = none) (ml : mg "len" = none) : FnOk P w K mg base CX0 (k + 1) f fd ["arrows"] spRis := by
  refine F.ok scRis (fun vs H Q E h => ?_) (fun cdv A outer s H vs Q E hr h => ?_)
  · obtain ⟨a, ns, rfl, _⟩ := h
    rfl
  · obtain ⟨a, ps, rfl, ar, hlen, q⟩ := h
    obtain ⟨xs, hx, hxl, hit⟩ := ar.item
    refine ⟨_, pss_cons (ps_for PassesOwn.never rfl (pi_range2 (by rfl) mr (pa_cons pe_int (pa_cons (pe_callB call_len_seq (by rfl) ml PySem.boot_len (pa_cons (pv 0) pa_nil)) pa_nil))) (pg_name (i := 1) scRis.nd rfl (Or.inl rfl))
        (pss_one (ps_if (pt_cmpR (op_geTup hr.units0) (pe_ix ix_list (pv 0) (pe_op op_sub (pv 1) pe_int) (fun _ _ => rfl)) (pe_ix ix_list (pv 0) (pv 1) (fun _ _ => rfl)) (nomark _))
          (pss_one (ps_ret pe_bl)) pss_nil)))
      (pss_one (ps_ret pe_bl)), ?_⟩
    refine ⟨.ref a, rfl, a, xs, rfl, .inl (SqL.of hx), 1, (xs.length : Int), rfl, ⟨by decide, by decide, by omega, by omega⟩, ?_⟩
    refine for_range (lo := 1) (n := ((xs.length : Int) - 1).toNat) (fun i σ H' => ∃ v : Option V, σ = [some (.ref a), v] ∧ H' = H ∧ ∀ (j : Nat) (p r : Int × Int), j < i → ps[j]? = some p → ps[j + 1]? = some r → lt2 p r = true)
      ⟨none, rfl, rfl, fun j _ _ hj => absurd hj (Nat.not_lt_zero _)⟩ ?_ ?_
    · rintro i σ H' hi ⟨v, rfl, rfl, inv⟩
      have h1 : i < xs.length := by omega
      have h2 : i + 1 < xs.length := by omega
      obtain ⟨t1, p1, e1, ep1, ht1⟩ := hit i _ (List.getElem?_eq_getElem h1)
      obtain ⟨t2, p2, e2, ep2, ht2⟩ := hit (i + 1) _ (List.getElem?_eq_getElem h2)
      refine ⟨.ref a, rfl, _, rfl, _, _, rfl, rfl, a, xs, _, .ref t1, rfl, rfl, SqL.of hx, at_of (j := i) (by omega) (by rw [List.getElem?_eq_getElem h1, e1]), ?_⟩
      refine ⟨.ref a, rfl, _, rfl, a, xs, _, .ref t2, rfl, rfl, SqL.of hx, at_of (j := i + 1) (by omega) (by rw [List.getElem?_eq_getElem h2, e2]), ?_⟩
      refine ⟨t1, t2, [p1.1, p1.2], [p2.1, p2.2], rfl, rfl, SqT.of ht1, SqT.of ht2, _, rfl, ?_⟩
      rw [geTup_two]
      cases hl : lt2 p1 p2 with
      | false =>
        refine iteT ?_
        rw [rising_no ep1 ep2 hl] at q
        exact q
      | true =>
        refine iteF ?_
        refine ⟨some _, rfl, rfl, fun j p r hj ej1 ej2 => ?_⟩
        rcases Nat.lt_or_ge j i with c | c
        · exact inv j p r c ej1 ej2
        · have ej : j = i := by omega
          subst ej
          rw [ep1] at ej1
          rw [ep2] at ej2
          cases ej1
          cases ej2
          exact hl
    · rintro σ H' ⟨v, rfl, rfl, inv⟩
      have er : rising ps = true := rising_yes fun i p r e1 e2 => inv i p r (by
        have := (List.getElem?_eq_some_iff.mp e2).1
        omega) e1 e2
      rw [er] at q
      exact q
end
end Tow
namespace Tow
open PySem PySem.Spec PyProof.Rows L2
open Ks547 (Graph has)
open Ks551 (canWalk deep)
section
variable {P : Program} {w : World} {K : PySem.W.Frag} {mg : Str → Option Value} {base : Heap}
/-! ### is_graph -/
def spIsG (K : PySem.W.Frag) : Sp := fun vs H Q _ => ∃ (n : Int) (a : Addr) (ns : List Int), vs = [.int n, .ref a] ∧ SqL K H a (ns.map V.int) ∧ ns.length ≤ 60 ∧ ∀ H', Same H H' → Q (.bl (isGraph n ns)) H'
theorem isGraph_not {n : Int} {ns : List Int} (h : ¬ (1 ≤ n ∧ n ≤ 5 ∧ ns.length % 2 = 0 ∧ (∀ x ∈ ns, 0 ≤ x ∧ x < n) ∧ rising (pairUp ns) = true)) : isGraph n ns = false := by
  cases e : isGraph n ns with
  | false => rfl
  | true => exact absurd (isGraph_iff.mp e) h
theorem isGraph_ris {n : Int} {ns : List Int} (h1 : 1 ≤ n) (h2 : n ≤ 5) (h3 : ns.length % 2 = 0) (h4 : ∀ x ∈ ns, 0 ≤ x ∧ x < n) : isGraph n ns = rising (pairUp ns) := by
  cases e : rising (pairUp ns) with
  | true => exact isGraph_iff.mpr ⟨h1, h2, h3, h4, e⟩
  | false =>
    refine isGraph_not fun z => ?_
    rw [e] at z
    exact Bool.noConfusion z.2.2.2.2
theorem ok_isG {f fP fR : Addr} {fd fdP fdR : FuncData} {k : Nat} (F : Fun K "is_graph" "is_graph" sIsG f fd) (FP : Fun K "pair_up" "pair_up" sPair fP fdP) (FR : Fun K "is_rising" "is_rising" sRis fR fdR)
    (bP : Binds K fdP ["first"] []) (bR : Binds K fdR ["arrows"] []) (gP : mg "pair_up" = some (.ref fP)) (gR : mg "is_rising" = some (.ref fR)) {tok : Tok} (gM : mg "MOST_PLACES" = some (.int 5 tok))
    (mr : mg "range" = none) (ml : mg "len" = none) : FnOk P w K mg base CX0 (k + 2) f fd ["n", "first"] (spIsG K) := by
  have GP : FnOk P w K mg base CX0 (k + 1) fP fdP ["first"] (spPair K) := ok_pair FP mr ml
  have GR : FnOk P w K mg base CX0 (k + 1) fR fdR ["arrows"] spRis := ok_ris FR mr ml
  refine F.ok scIsG (fun vs H Q E h => ?_) (fun cdv A outer s H vs Q E hr h => ?_)
  · obtain ⟨n, a, ns, rfl, _⟩ := h
    rfl
  · obtain ⟨n, a, ns, rfl, hS, hlen, q⟩ := h
    refine ⟨_, pss_cons (ps_if (PW.pt (pw_or (pt_cmpR op_lt (pv 0) pe_int (nomark _)) (pw_or (pt_cmpR op_gt (pv 0) (pe_glob (v := .int 5) rfl gM ⟨_, rfl⟩) (nomark _))
          (pw_or1 (pt_cmpR op_ne (pe_op op_mod (pe_callB call_len_seq (by rfl) ml PySem.boot_len (pa_cons (pv 1) pa_nil)) pe_int) pe_int (nomark _))))))
        (pss_one (ps_ret pe_bl)) pss_nil)
      (pss_cons (ps_for PassesOwn.never rfl (pi_list (pv 1)) (pg_name (i := 2) scIsG.nd rfl (Or.inl rfl))
        (pss_one (ps_if (PW.pt (pw_or (pt_cmpR op_lt (pv 2) pe_int (nomark _)) (pw_or1 (pt_cmpR op_ge (pv 2) (pv 0) (nomark _))))) (pss_one (ps_ret pe_bl)) pss_nil)))
      (pss_one (ps_ret (pe_call GR hr (by rfl) gR FR.kp bR .nil pass0 (pa_cons (pe_call GP hr (by rfl) gP FP.kp bP .nil pass0 (pa_cons (pv 1) pa_nil)) pa_nil))))), ?_⟩
    refine ⟨.int n, rfl, n, 1, rfl, rfl, _, rfl, ite2 (fun c => ?_) (fun c => ?_)⟩
    · refine iteT ?_
      have := of_decide_eq_true c
      have e := q H (Same.refl H)
      rw [isGraph_not (fun z => by omega)] at e
      exact e
    · have c1 : ¬ n < 1 := fun z => c (decide_eq_true z)
      refine ⟨.int n, rfl, n, 5, rfl, rfl, _, rfl, ite2 (fun c => ?_) (fun c => ?_)⟩
      · refine iteT ?_
        have := of_decide_eq_true c
        have e := q H (Same.refl H)
        rw [isGraph_not (fun z => by omega)] at e
        exact e
      · have c2 : ¬ 5 < n := fun z => c (decide_eq_true z)
        refine ⟨.ref a, rfl, a, _, rfl, .inl hS, _, 2, rfl, rfl, (by show (0 : Int) < 2; decide), rfl, _, rfl, ite2 (fun c => ?_) (fun c => ?_)⟩
        · rw [Bool.not_eq_true', decide_eq_false_iff_not, List.length_map] at c
          have e := q H (Same.refl H)
          rw [isGraph_not (fun z => c (congrArg V.int (by omega)))] at e
          exact e
        · rw [Bool.not_eq_true', decide_eq_false_iff_not, Classical.not_not, List.length_map] at c
          have c3 : ns.length % 2 = 0 := by
            have := V.int.inj c
            omega
          refine ⟨.ref a, rfl, a, rfl, ⟨_, hS⟩, for_list (K := K) (a := a) (xs := ns.map V.int) (fun i σ H' => ∃ v : Option V, σ = [some (.int n), some (.ref a), v] ∧ H' = H ∧ ∀ x ∈ ns.take i, 0 ≤ x ∧ x < n)
            ⟨none, rfl, rfl, fun x hx => by simp at hx⟩ (fun i σ H' _ ⟨_, _, e, _⟩ => e ▸ hS) ?_ ?_⟩
          · rintro i x σ H' hi ⟨v, rfl, rfl, inv⟩
            obtain ⟨z, hz, rfl⟩ : ∃ z, ns[i]? = some z ∧ V.int z = x := by
              rw [List.getElem?_map] at hi
              cases e : ns[i]? with
              | none => rw [e] at hi; cases hi
              | some z => rw [e] at hi; exact ⟨z, rfl, Option.some.inj hi⟩
            have zm : z ∈ ns := List.mem_of_getElem? hz
            have bad : ¬ (0 ≤ z ∧ z < n) → Q (.bl false) H' := fun hb => by
              have e := q H' (Same.refl H')
              rw [isGraph_not (fun w => hb (w.2.2.2.1 z zm))] at e
              exact e
            refine ⟨.int z, rfl, z, 0, rfl, rfl, _, rfl, ite2 (fun c => ?_) (fun c => ?_)⟩
            · refine iteT ?_
              have := of_decide_eq_true c
              exact bad (by omega)
            · have d1 : ¬ z < 0 := fun w => c (decide_eq_true w)
              refine ⟨.int z, rfl, .int n, rfl, z, n, rfl, rfl, _, rfl, ite2 (fun c => ?_) (fun c => ?_)⟩
              · have := of_decide_eq_true c
                exact bad (by omega)
              · have d2 : ¬ n ≤ z := fun w => c (decide_eq_true w)
                refine ⟨some (.int z), rfl, rfl, fun y hy => ?_⟩
                rw [take_next hz, List.mem_append] at hy
                rcases hy with hy | hy
                · exact inv y hy
                · have e : y = z := by simpa using hy
                  subst e
                  omega
          · rintro σ H' ⟨v, rfl, rfl, inv⟩
            rw [List.length_map, List.take_length] at inv
            refine ⟨.ref a, rfl, a, ns, rfl, hS, hlen, c3, fun H1 p sm np ar => ?_⟩
            refine ⟨p, pairUp ns, rfl, ar, by rw [pairUp_len]; omega, ?_⟩
            have e := q H1 sm
            rw [isGraph_ris (by omega) (by omega) c3 inv] at e
            exact e
/-! ### pairs of places -/
def castP (l : List (Nat × Nat)) : List (Int × Int) := l.map fun p => ((p.1 : Int), (p.2 : Int))
theorem rep_one (n : Nat) (v : V) : (List.replicate n [v]).flatten = List.replicate n v := by
  induction n with
  | zero => rfl
  | succ n ih => rw [List.replicate_succ, List.flatten_cons, ih, List.replicate_succ]; rfl
theorem castP_at {l : List (Nat × Nat)} {i : Nat} {p : Int × Int} (h : (castP l)[i]? = some p) : ∃ q : Nat × Nat, l[i]? = some q ∧ p = ((q.1 : Int), (q.2 : Int)) := by
  unfold castP at h
  rw [List.getElem?_map] at h
  cases e : l[i]? with
  | none => rw [e] at h; cases h
  | some q => rw [e] at h; exact ⟨q, rfl, (Option.some.inj h).symm⟩
theorem castP_len (l : List (Nat × Nat)) : (castP l).length = l.length := List.length_map _
theorem ixN_nat {n j : Nat} (h : j < n) : ixN n (j : Int) = some j := by
  unfold ixN
  rw [if_pos (by omega), if_pos (by omega)]
  rfl
theorem bool_at {n : Nat} (c : Nat → Bool) {u : Nat} (h : u < n) : (((List.range n).map c).map V.bl)[u]? = some (.bl (c u)) := by
  rw [List.getElem?_map, List.getElem?_map, List.getElem?_range h]
  rfl
end
end Tow
namespace Tow
open PySem PySem.Spec PyProof.Rows L2
/-! ### lists of whole numbers in the heap -/
def natV (l : List Nat) : List V := l.map fun (x : Nat) => V.int (x : Int)
theorem natV_at {l : List Nat} {j : Nat} (h : j < l.length) : (natV l)[j]? = some (.int ((l.getD j 0 : Nat) : Int)) := by
  unfold natV
  rw [List.getElem?_map, List.getElem?_eq_getElem h, List.getD_eq_getElem?_getD, List.getElem?_eq_getElem h]
  rfl
theorem natV_set (l : List Nat) (j x : Nat) : (natV l).set j (.int (x : Int)) = natV (l.set j x) := by
  unfold natV
  rw [List.map_set]
theorem natV_len (l : List Nat) : (natV l).length = l.length := List.length_map _
theorem natV_ints (l : List Nat) : natV l = (l.map fun (x : Nat) => (x : Int)).map V.int := by
  unfold natV
  rw [List.map_map]
  rfl
theorem natV_outI (r : Int) (l : List Nat) : [V.int r] ++ natV l = (outI r l).map V.int := by
  unfold natV outI
  rw [List.map_cons, List.map_map]
  rfl
theorem natV_app (l : List Nat) (x : Nat) : natV l ++ [.int (x : Int)] = natV (l ++ [x]) := by
  unfold natV
  rw [List.map_append]
  rfl
end Tow
namespace Tow
open PySem PySem.Spec PyProof.Rows L2
open Ks547 (Graph has)
open Ks551 (canWalk deep lift round walk onward)
section
variable {P : Program} {w : World} {K : PySem.W.Frag} {mg : Str → Option Value} {base : Heap}
/-! ### heights_of -/
def spHei : Sp := fun vs H Q _ => ∃ (g : Graph) (a : Addr), vs = [.int g.n, .ref a] ∧ Arr H a (castP g.arrows) ∧ g.arrows.length ≤ 30 ∧ Wf g ∧ NoWalk g g.n ∧ ∀ H' p, Same H H' → H p = none → H' p = some (.lst (natV (lift g))) → Q (.ref p) H'
theorem scHei : FnScope ["n", "arrows", "heights", "turn", "source", "target"] ["n", "arrows"] (defScope sHei) := ⟨rfl, rfl, rfl, by decide +kernel, rfl, by decide +kernel, by decide +kernel⟩
theorem max_if (x y : Nat) : (if ((y : Int) + 1) > (x : Int) then ((y : Int) + 1) else (x : Int)) = ((max x (y + 1) : Nat) : Int) := by
  by_cases c : ((y : Int) + 1) > (x : Int)
  · rw [if_pos c]; omega
  · rw [if_neg c]; omega
theorem ok_hei {f : Addr} {fd : FuncData} {k : Nat} (F : Fun K "heights_of" "heights_of" sHei f fd) (mr : mg "range" = none) (mm : mg "max" = none) : FnOk P w K mg base CX0 (k + 1) f fd ["n", "arrows"] spHei := by
  refine F.ok scHei (fun vs H Q E h => ?_) (fun cdv A outer s H vs Q E hr h => ?_)
  · obtain ⟨g, a, rfl, _⟩ := h
    rfl
  · obtain ⟨g, a, rfl, ar, hal, W, nw, q⟩ := h
    have hn5 : g.n ≤ 5 := W.hi
    refine ⟨_, pss_cons (ps_set (i := 2) scHei.nd rfl (.inl rfl) (pe_op op_rep (pe_lst (pa_cons pe_int pa_nil)) (pv 0)))
      (pss_cons (ps_for PassesOwn.never rfl (pi_range1 (by rfl) mr (pa_cons (pv 0) pa_nil)) (pg_name (i := 3) scHei.nd rfl (.inl rfl))
        (pss_one (ps_for PassesOwn.never rfl (pi_list (pv 1)) (pg_tup rfl (pgs_cons (pg_name (i := 4) scHei.nd rfl (.inl rfl)) (pgs_cons (pg_name (i := 5) scHei.nd rfl (.inl rfl)) pgs_nil)))
          (pss_one (ps_asg (pe_callB (call_max2 rfl) (by rfl) mm (by decide +kernel) (pa_cons (pe_ix ix_list (pv 2) (pv 5) (fun _ _ => rfl)) (pa_cons (pe_op op_add (pe_ix ix_list (pv 2) (pv 4) (fun _ _ => rfl)) pe_int) pa_nil))) (pg_sub (pv 2) (pv 5) set_list))))))
      (pss_one (ps_ret (pv 2)))), ?_⟩
    -- heights = [0] * n
    refine ⟨by show 1 ≤ sizeLine; decide, fun t0 nt0 => ⟨.int g.n, rfl, t0, g.n, _, rfl, rfl, upd_same, by omega, by omega, ?_, fun p np => ?_⟩⟩
    · show 1 * ((g.n : Int)).toNat ≤ sizeLine
      exact Nat.le_of_lt (small (by omega))
    · have s1 : Same H (upd H t0 (.lst [.int 0])) := same_new (Same.refl H) nt0
      have npH : H p = none := s1.free np
      have s2 := same_new (o := .lst (List.replicate ((g.n : Int)).toNat [V.int 0]).flatten) s1 npH
      obtain ⟨xs, hx, hxl, hit⟩ := ar.item
      have hxg : xs.length = g.arrows.length := by rw [hxl]; exact List.length_map _
      refine ⟨.int g.n, rfl, (g.n : Int), rfl, by omega, by omega, ?_⟩
      refine for_range (lo := 0) (n := ((g.n : Int)).toNat) (fun r σ H' => ∃ (v3 v4 v5 : Option V) (h : List Nat), σ = [some (.int g.n), some (.ref a), some (.ref p), v3, v4, v5] ∧ Same H H' ∧ H' p = some (.lst (natV h)) ∧ Hts g r [] h)
        ⟨none, none, none, List.replicate g.n 0, rfl, s2, ?_, hts_zero g⟩ ?_ ?_
      · rw [upd_same, rep_one]
        unfold natV
        rw [List.map_replicate]
        rfl
      · rintro r σ H' hrr ⟨v3, v4, v5, h, rfl, sm, hp, ht⟩
        refine ⟨.ref a, rfl, a, rfl, ⟨_, SqL.of (sm _ _ hx)⟩, for_list (K := K) (a := a) (xs := xs) (fun i σ H2 => ∃ (v4 v5 : Option V) (h : List Nat), σ = [some (.int g.n), some (.ref a), some (.ref p), some (.int (0 + r)), v4, v5] ∧ Same H H2 ∧ H2 p = some (.lst (natV h)) ∧ Hts g r (g.arrows.take i) h)
          ⟨v4, v5, h, rfl, sm, hp, ht⟩ (fun i σ H2 _ ⟨_, _, _, _, s5, _⟩ => SqL.of (s5 _ _ hx)) ?_ ?_⟩
        · rintro i x σ H2 hi ⟨w4, w5, h2, rfl, s5, hp2, ht2⟩
          obtain ⟨t, pp, rfl, epp, htt⟩ := hit i x hi
          obtain ⟨⟨u, v⟩, eq, rfl⟩ := castP_at epp
          have hm := List.mem_of_getElem? eq
          have hin := W.inn (u, v) hm
          have hu : u < h2.length := by rw [ht2.len]; exact hin.1
          have hv : v < h2.length := by rw [ht2.len]; exact hin.2
          refine ⟨t, _, rfl, SqT.of (s5 _ _ htt), rfl, _, _, rfl, _, _, rfl, rfl, ?_⟩
          refine ⟨.ref p, rfl, .int v, rfl, p, _, _, _, rfl, rfl, SqL.of hp2, at_of (j := v) rfl (natV_at hv), ?_⟩
          refine ⟨.ref p, rfl, .int u, rfl, p, _, _, _, rfl, rfl, SqL.of hp2, at_of (j := u) rfl (natV_at hu), _, 1, rfl, rfl, ?_⟩
          refine ⟨_, _, rfl, ?_⟩
          rw [max_if]
          refine ⟨.ref p, rfl, .int v, rfl, p, _, v, v, rfl, rfl, hp2, ?_, some (.int u), some (.int v), h2.set v (max (h2.getD v 0) (h2.getD u 0 + 1)), rfl, same_new s5 npH, ?_, ?_⟩
          · rw [natV_len]
            exact ixN_nat hv
          · rw [upd_same, natV_set]
          · rw [take_next eq]
            exact hts_turn W nw ht2 hm
        · rintro σ H2 ⟨w4, w5, h2, rfl, s5, hp2, ht2⟩
          rw [hxg, List.take_length] at ht2
          exact ⟨_, w4, w5, h2, rfl, s5, hp2, hts_round ht2⟩
      · rintro σ H' ⟨v3, v4, v5, h, rfl, sm, hp, ht⟩
        have e : ((g.n : Int)).toNat = g.n := by omega
        rw [e] at ht
        rw [hts_end ht] at hp
        exact ⟨.ref p, rfl, q H' p sm npH hp⟩
end
end Tow
namespace Tow
open PySem PySem.Spec PyProof.Rows L2
open PySem.W (Codec)
open Ks547 (Graph has)
section
variable {P : Program} {w : World} {K : PySem.W.Frag} {mg : Str → Option Value} {base : Heap}
/-! ### starts_by_length -/
/-- at p the rows of 0 to k -/
def RowsE (H : Hp) (p : Addr) (g : Graph) (e : Nat → Bool) (k : Nat) : Prop := ∃ rs : List Addr, H p = some (.lst (rs.map V.ref)) ∧ rs.length = k ∧ p ∉ rs ∧
  ∀ (i : Nat) (r : Addr), rs[i]? = some r → H r = some (.lst (((List.range g.n).map (canEnd g e i)).map V.bl))
theorem RowsE.same {H H' : Hp} {p : Addr} {g : Graph} {e : Nat → Bool} {k : Nat} (R : RowsE H p g e k) (s : Same H H') : RowsE H' p g e k := by
  obtain ⟨rs, h1, h2, h3, h4⟩ := R
  exact ⟨rs, s _ _ h1, h2, h3, fun i r hr => s _ _ (h4 i r hr)⟩
theorem RowsE.row {H : Hp} {p : Addr} {g : Graph} {e : Nat → Bool} {k : Nat} (R : RowsE H p g e k) : ∃ l : List V, H p = some (.lst l) ∧ ∀ j, j < k → ∃ r, l[j]? = some (.ref r) ∧ H r = some (.lst (((List.range g.n).map (canEnd g e j)).map V.bl)) := by
  obtain ⟨rs, h1, h2, h3, h4⟩ := R
  refine ⟨_, h1, fun j hj => ?_⟩
  have hl : j < rs.length := by omega
  exact ⟨rs[j], by rw [List.getElem?_map, List.getElem?_eq_getElem hl]; rfl, h4 j _ (List.getElem?_eq_getElem hl)⟩
theorem ends_all (n : Nat) : List.replicate n (V.bl true) = ((List.range n).map fun _ => true).map V.bl := by
  refine List.ext_getElem (by simp) fun i h1 h2 => ?_
  simp
def spSta (K : PySem.W.Frag) : Sp := fun vs H Q _ => ∃ (g : Graph) (e : Nat → Bool) (k : Nat) (b a : Addr), vs = [.int k, .ref b, .ref a] ∧ SqL K H b (((List.range g.n).map e).map V.bl) ∧ Arr H a (castP g.arrows) ∧ Wf g ∧ k ≤ 12 ∧ ∀ H' p, Same H H' → H p = none → RowsE H' p g e (k + 1) → Q (.ref p) H'
theorem scSta : FnScope ["k", "ends", "arrows", "rows", "length", "shorter", "row", "source", "target"] ["k", "ends", "arrows"] (defScope sSta) := ⟨rfl, rfl, rfl, by decide +kernel, rfl, by decide +kernel, by decide +kernel⟩
theorem ok_sta {f : Addr} {fd : FuncData} {k : Nat} (F : Fun K "starts_by_length" "starts_by_length" sSta f fd) (mr : mg "range" = none) (ml : mg "len" = none) (mL : mg "list" = none) : FnOk P w K mg base CX0 (k + 1) f fd ["k", "ends", "arrows"] (spSta K) := by
  refine F.ok scSta (fun vs H Q E h => ?_) (fun cdv A outer s H vs Q E hr h => ?_)
  · obtain ⟨g, e, k, b, a, rfl, _⟩ := h
    rfl
  · obtain ⟨g, e, k, b, a, rfl, hS, ar, W, hk, q⟩ := h
    have hn5 : g.n ≤ 5 := W.hi
    have hlenE : ((((List.range g.n).map e).map V.bl).length : Int) = g.n := by simp
    refine ⟨_, pss_cons (ps_set (i := 3) scSta.nd rfl (.inl rfl) (pe_lst (pa_cons (pe_callTy call_list_of (by rfl) mL (by decide +kernel) (pa_cons (pv 1) pa_nil)) pa_nil)))
      (pss_cons (ps_for PassesOwn.never rfl (pi_range1 (by rfl) mr (pa_cons (pv 0) pa_nil)) (pg_name (i := 4) scSta.nd rfl (.inl rfl))
        (pss_cons (ps_set (i := 5) scSta.nd rfl (.inl rfl) (pe_ix ix_list (pv 3) (pv 4) (fun _ _ => rfl)))
        (pss_cons (ps_set (i := 6) scSta.nd rfl (.inl rfl) (pe_op op_rep (pe_lst (pa_cons pe_bl pa_nil)) (pe_callB call_len_seq (by rfl) ml PySem.boot_len (pa_cons (pv 1) pa_nil))))
        (pss_cons (ps_for PassesOwn.never rfl (pi_list (pv 2)) (pg_tup rfl (pgs_cons (pg_name (i := 7) scSta.nd rfl (.inl rfl)) (pgs_cons (pg_name (i := 8) scSta.nd rfl (.inl rfl)) pgs_nil)))
          (pss_one (ps_if (pt_val (pe_ix ix_list (pv 5) (pv 8) (fun _ _ => rfl))) (pss_one (ps_asg pe_bl (pg_sub (pv 6) (pv 7) set_list))) pss_nil)))
        (pss_one (ps_expr (pe_bm PySem.F.plainAttrs_list PySem.F.slot_list_append PySem.F.type_list_append mt_append (pv 3) (pa_cons (pv 6) pa_nil))))))))
      (pss_one (ps_ret (pv 3)))), ?_⟩
    -- rows = [list(ends)]
    refine ⟨.ref b, rfl, b, _, rfl, .inl hS, fun r0 nr0 => ⟨by show 1 ≤ sizeLine; decide, fun p np => ?_⟩⟩
    · have s1 : Same H (upd H r0 (.lst (((List.range g.n).map e).map V.bl))) := same_new (Same.refl H) nr0
      have npH : H p = none := s1.free np
      have s3 := same_new (o := .lst [.ref r0]) s1 npH
      refine ⟨.int k, rfl, (k : Int), rfl, by omega, by omega, ?_⟩
      refine for_range (lo := 0) (n := ((k : Int)).toNat) (fun l σ H' => ∃ v4 v5 v6 v7 v8 : Option V, σ = [some (.int k), some (.ref b), some (.ref a), some (.ref p), v4, v5, v6, v7, v8] ∧ Same H H' ∧ RowsE H' p g e (l + 1))
        ⟨none, none, none, none, none, rfl, s3, [r0], upd_same, rfl, ?_, fun i r hr => ?_⟩ ?_ ?_
      · intro z
        have e : p = r0 := by simpa using z
        rw [e, upd_same] at np
        cases np
      · have nrp : r0 ≠ p := fun e => by
          rw [e.symm, upd_same] at np
          cases np
        cases i with
        | succ i => simp at hr
        | zero =>
          have e : r0 = r := Option.some.inj hr
          subst e
          rw [upd_ne nrp, upd_same]
          rfl
      · rintro l σ H' hl ⟨v4, v5, v6, v7, v8, rfl, sm, rs, hp, hrl, hpn, hrs⟩
        have hl' : l < rs.length := by omega
        have hgl := hrs l _ (List.getElem?_eq_getElem hl')
        -- shorter = rows[length]
        refine ⟨.ref p, rfl, _, rfl, p, _, _, .ref rs[l], rfl, rfl, SqL.of hp, at_of (j := l) (by omega) (by rw [List.getElem?_map, List.getElem?_eq_getElem hl']; rfl), ?_⟩
        -- row = [False] * len(ends)
        refine ⟨by show 1 ≤ sizeLine; decide, fun t1 nt1 => ?_⟩
        have z1 : Same H' (upd H' t1 (.lst [.bl false])) := same_new (Same.refl H') nt1
        refine ⟨.ref b, rfl, b, _, rfl, .inl ((sm.trans z1).seq hS), t1, (g.n : Int), _, rfl, by rw [hlenE], upd_same, by omega, by omega, ?_, fun r nr => ?_⟩
        · show 1 * ((g.n : Int)).toNat ≤ sizeLine
          exact Nat.le_of_lt (small (by omega))
        · have nrH : H' r = none := z1.free nr
          have z2 := same_new (o := .lst (List.replicate ((g.n : Int)).toNat [V.bl false]).flatten) z1 nrH
          obtain ⟨xs, hx, hxl, hit⟩ := (ar.same sm).item
          have hrp : r ≠ p := fun e => by
            rw [e, hp] at nrH
            cases nrH
          have hrn : r ∉ rs := fun e => by
            obtain ⟨j, hj, ej⟩ := List.getElem_of_mem e
            have := hrs j r (by rw [List.getElem?_eq_getElem hj, ej])
            rw [this] at nrH
            cases nrH
          refine ⟨.ref a, rfl, a, rfl, ⟨_, SqL.of (z2 _ _ hx)⟩, for_list (K := K) (a := a) (xs := xs) (fun i σ H2 => ∃ v7 v8 : Option V, σ = [some (.int k), some (.ref b), some (.ref a), some (.ref p), some (.int (0 + l)), some (.ref rs[l]), some (.ref r), v7, v8] ∧ Same H' H2 ∧
              H2 r = some (.lst (((List.range g.n).map (stp (canEnd g e l) (g.arrows.take i))).map V.bl)))
            ⟨v7, v8, rfl, z2, ?_⟩ (fun i σ H2 _ ⟨_, _, _, s5, _⟩ => SqL.of (s5 _ _ hx)) ?_ ?_⟩
          · rw [upd_same, rep_one, List.take_zero, ← row_start, List.map_replicate]
            rfl
          · rintro i x σ H2 hi ⟨w7, w8, rfl, s5, hr2⟩
            obtain ⟨t, pp, rfl, epp, htt⟩ := hit i x hi
            obtain ⟨⟨u, v⟩, eq, rfl⟩ := castP_at epp
            have hin := W.inn (u, v) (List.mem_of_getElem? eq)
            have hu : u < g.n := hin.1
            have hv : v < g.n := hin.2
            refine ⟨t, _, rfl, SqT.of (s5 _ _ htt), rfl, _, _, rfl, _, _, rfl, rfl, ?_⟩
            refine ⟨.ref rs[l], rfl, .int v, rfl, rs[l], _, _, _, rfl, rfl, SqL.of (s5 _ _ hgl), at_of (j := v) rfl (bool_at _ hv), _, rfl, ?_⟩
            cases hc : canEnd g e l v with
            | true =>
              refine iteT ?_
              refine ⟨.ref r, rfl, .int u, rfl, r, _, u, u, rfl, rfl, hr2, ?_, some (.int u), some (.int v), rfl, same_new s5 nrH, ?_⟩
              · rw [List.length_map, List.length_map, List.length_range]
                exact ixN_nat hu
              · rw [upd_same, take_next eq, ← row_turn (canEnd g e l) (p := (u, v)) hc, List.map_set]
            | false =>
              refine iteF ?_
              refine ⟨some (.int u), some (.int v), rfl, s5, ?_⟩
              rw [take_next eq, ← row_skip (canEnd g e l) (p := (u, v)) hc]
              exact hr2
          · rintro σ H2 ⟨w7, w8, rfl, s5, hr2⟩
            have hxg : xs.length = g.arrows.length := by rw [hxl]; exact List.length_map _
            rw [hxg, List.take_length, rowE_end] at hr2
            -- rows.append(row)
            refine ⟨.ref p, rfl, .inl ⟨rfl, _, SqL.of (s5 _ _ hp)⟩, .ref r, rfl, p, _, _, rfl, rfl, s5 _ _ hp, ?_, ?_⟩
            · rw [List.length_map]
              exact small (by omega)
            · refine ⟨_, _, _, _, _, rfl, same_new (sm.trans s5) npH, rs ++ [r], ?_, by simp [hrl], ?_, fun i r' hr' => ?_⟩
              · rw [upd_same, List.map_append]
                rfl
              · rw [List.mem_append]
                rintro (z | z)
                · exact hpn z
                · exact hrp (List.mem_singleton.mp z).symm
              · have hr'p : r' ≠ p := fun e => by
                  have m := List.mem_of_getElem? hr'
                  rw [e, List.mem_append] at m
                  rcases m with z | z
                  · exact hpn z
                  · exact hrp (List.mem_singleton.mp z).symm
                rw [upd_ne hr'p]
                rcases Nat.lt_or_ge i rs.length with c | c
                · rw [List.getElem?_append_left c] at hr'
                  exact s5 _ _ (hrs i r' hr')
                · rw [List.getElem?_append_right c] at hr'
                  have hi0 : i - rs.length = 0 := by
                    rcases Nat.eq_zero_or_pos (i - rs.length) with z | z
                    · exact z
                    · rw [List.getElem?_eq_none (by simp; omega)] at hr'; cases hr'
                  rw [hi0] at hr'
                  have er : r = r' := Option.some.inj hr'
                  have ei : i = l + 1 := by omega
                  subst er ei
                  exact hr2
      · rintro σ H' ⟨v4, v5, v6, v7, v8, rfl, sm, R⟩
        have e : ((k : Int)).toNat = k := by omega
        rw [e] at R
        exact ⟨.ref p, rfl, q H' p sm npH R⟩
end
end Tow
namespace Tow
open PySem PySem.Spec PyProof.Rows L2
open PySem.W (Codec)
open Ks547 (Graph has)
abbrev sFwf : Stmt := topS 10
section
variable {P : Program} {w : World} {K : PySem.W.Frag} {mg : Str → Option Value} {base : Heap}
/-! ### first_walk_from -/
def spFwf : Sp := fun vs H Q _ => ∃ (g : Graph) (e : Nat → Bool) (k u0 : Nat) (p a : Addr), vs = [.int u0, .int k, .ref p, .ref a] ∧ RowsE H p g e (k + 1) ∧ Arr H a (castP g.arrows) ∧ g.arrows.length ≤ 100 ∧ Wf g ∧ g.arrows.Pairwise nlt ∧ k ≤ 12 ∧ u0 < g.n ∧ canEnd g e k u0 = true ∧
  ∀ H' z, Same H H' → H z = none → H' z = some (.lst (natV (owEnd g e k u0))) → Q (.ref z) H'
abbrev nFwf : List Str := ["start", "k", "rows", "arrows", "places", "left", "here", "choices", "source", "target"]
theorem scFwf : FnScope nFwf ["start", "k", "rows", "arrows"] (defScope sFwf) := ⟨rfl, rfl, rfl, by decide +kernel, rfl, by decide +kernel, by decide +kernel⟩
theorem ok_fwf {f : Addr} {fd : FuncData} {k : Nat} (F : Fun K "first_walk_from" "first_walk_from" sFwf f fd) (mr : mg "range" = none) : FnOk P w K mg base CX0 (k + 1) f fd ["start", "k", "rows", "arrows"] spFwf := by
  refine F.ok scFwf (fun vs H Q E h => ?_) (fun cdv A outer s H vs Q E hr h => ?_)
  · obtain ⟨g, e, k, u0, p, a, rfl, _⟩ := h
    rfl
  · obtain ⟨g, e, k, u0, p, a, rfl, RR, ar, hal, W, R, hk, hu0, hc0, q⟩ := h
    have hn5 : g.n ≤ 5 := W.hi
    obtain ⟨rl0, hp, row⟩ := RR.row
    refine ⟨_, pss_cons (ps_set (i := 4) scFwf.nd rfl (.inl rfl) (pe_lst (pa_cons (pv 0) pa_nil)))
      (pss_cons (ps_for PassesOwn.never rfl (pi_range3 rfl mr (pa_cons (pe_op op_sub (pv 1) pe_int) (pa_cons (pe_un un_neg pe_int) (pa_cons (pe_un un_neg pe_int) pa_nil)))) (pg_name (i := 5) scFwf.nd rfl (Or.inr rfl))
        (pss_cons (ps_set (i := 6) scFwf.nd rfl (.inr rfl) (pe_ix ix_list (pv 4) (pe_un un_neg pe_int) (fun _ _ => rfl)))
        (pss_cons (ps_setLc (i := 7) (own := [("source", 8), ("target", 9)]) (g := gTup K 2 (gCons (gName 8) (gCons (gName 9) gNil))) (by rfl) scFwf.nd rfl rfl (sw_true rfl rfl rfl (by decide +kernel))
          (pi_list (pv 3))
          (blkOk_by (own := [("source", 8), ("target", 9)]) (N := nFwf) (sc := defScope sFwf) (by decide +kernel))
          (fun _ _ _ _ _ => pg_tup rfl (pgs_cons (pg_name (i := 8) scFwf.nd rfl (.inl rfl)) (pgs_cons (pg_name (i := 9) scFwf.nd rfl (.inl rfl)) pgs_nil)))
          (fun _ _ _ _ _ => pts_one (PW.pt (pw_and (pt_cmpR op_eq (pv 8) (pv 6) (nomark _)) (pw_and1 (pt_val (pe_ix (r := rIxL K) ix_list (pe_ix (r := rIxL K) ix_list (pv 2) (pv 5) (fun _ _ => rfl)) (pv 9) (fun _ _ => rfl)))))))
          (fun _ _ _ _ _ => pv 9))
        (pss_one (ps_expr (pe_bm PySem.F.plainAttrs_list PySem.F.slot_list_append PySem.F.type_list_append mt_append (pv 4) (pa_cons (pe_ix ix_list (pv 7) pe_int (fun _ _ => rfl)) pa_nil)))))))
      (pss_one (ps_ret (pv 4)))), ?_⟩
    -- places = [start]
    refine ⟨.int u0, rfl, by show 1 ≤ sizeLine; decide, fun pl npl => ?_⟩
    -- the loop
    refine ⟨.int k, rfl, (k : Int), 1, rfl, rfl, 1, rfl, 1, rfl, (k : Int) - 1, -1, -1, _, rfl, RgC.neg (by omega) (by omega) (by decide) (by decide), ?_⟩
    refine for_rangeC (lo := (k : Int) - 1) (c := -1) (n := ((k : Int) - 1 - -1).toNat) (fun i σ H3 => ∃ (v5 v6 v7 v8 v9 : Option V) (done : List Nat) (u : Nat), σ = [some (.int u0), some (.int k), some (.ref p), some (.ref a), some (.ref pl), v5, v6, v7, v8, v9] ∧
        Same H H3 ∧ H3 pl = some (.lst (natV (done ++ [u]))) ∧ i ≤ k ∧ u < g.n ∧ canEnd g e (k - i) u = true ∧ done.length = i ∧ owEnd g e k u0 = done ++ owEnd g e (k - i) u)
      ⟨none, none, none, none, none, [], u0, rfl, same_new (Same.refl H) npl, upd_same, Nat.zero_le _, hu0, hc0, rfl, rfl⟩ ?_ ?_
    · rintro i σ H3 hi ⟨v5, v6, v7, v8, v9, done, u, rfl, s3, hpl, hik, hu, hcw, hdl, hon⟩
      have hik' : i < k := by omega
      have ek : k - i = (k - 1 - i) + 1 := by omega
      rw [ek] at hcw hon
      obtain ⟨v, hv, hcv, hhd, hstep⟩ := end_step W R hcw
      obtain ⟨rl, erl, hrl2⟩ := row (k - 1 - i) (by omega)
      obtain ⟨xs, hx, hxl, hit⟩ := ar.item
      have hxg : xs.length = g.arrows.length := by rw [hxl]; exact List.length_map _
      -- here = places[-1]
      have hlast : atI (natV (done ++ [u])) (-1) = some (.int u) := by
        rw [← natV_app]
        exact atI_last _ _
      refine ⟨.ref pl, rfl, 1, rfl, pl, _, -1, _, rfl, rfl, SqL.of hpl, hlast, ?_⟩
      -- choices
      refine ⟨.ref a, rfl, a, rfl, ⟨_, SqL.of (s3 _ _ hx)⟩, fun D2 nD2 => ?_⟩
      refine lc_list (K := K) (a := a) (xs := xs) (fun j H4 => Same H3 H4 ∧ H4 D2 = some (.lst (natV (((g.arrows.take j).filter fun p => p.1 == u && canEnd g e (k - 1 - i) p.2).map (·.2)))))
        ⟨same_new (Same.refl H3) nD2, upd_same⟩ (fun j H4 _ z => SqL.of (z.1 _ _ (s3 _ _ hx))) ?_ ?_
      · rintro j x H4 hj ⟨s4, hD2⟩
        obtain ⟨t, pp, rfl, epp, htt⟩ := hit j x hj
        obtain ⟨⟨y, z⟩, eq, rfl⟩ := castP_at epp
        have hin := W.inn (y, z) (List.mem_of_getElem? eq)
        have hz : z < g.n := hin.2
        have hjl : j < g.arrows.length := (List.getElem?_eq_some_iff.mp eq).1
        refine ⟨t, _, rfl, SqT.of (s4 _ _ (s3 _ _ htt)), rfl, _, _, rfl, _, _, rfl, rfl, rfl, ?_⟩
        refine ⟨.int y, rfl, .int u, rfl, rfl, _, rfl, ite2 (fun c => ?_) (fun c => ?_)⟩
        · have ey : y = u := by
            have := V.int.inj (of_decide_eq_true c)
            omega
          refine ⟨.ref p, rfl, _, rfl, p, _, _, .ref rl, rfl, rfl, SqL.of (s4 _ _ (s3 _ _ hp)), at_of (j := k - 1 - i) (by omega) erl, .int z, rfl, rl, _, _, _, rfl, rfl, SqL.of (s4 _ _ (s3 _ _ hrl2)), at_of (j := z) rfl (bool_at _ hz), _, rfl, ?_⟩
          cases hc : canEnd g e (k - 1 - i) z with
          | true =>
            rw [if_pos rfl]
            refine ⟨.int z, rfl, _, hD2, ?_, same_new s4 nD2, ?_⟩
            · rw [natV_len, List.length_map]
              refine small (Nat.le_trans (List.length_filter_le _ _) ?_)
              rw [List.length_take]
              omega
            · rw [upd_same, natV_app, take_next eq, List.filter_append, List.map_append]
              have ef : [(y, z)].filter (fun p => p.1 == u && canEnd g e (k - 1 - i) p.2) = [(y, z)] := by simp [ey, hc]
              rw [ef]
              rfl
          | false =>
            rw [if_neg Bool.false_ne_true]
            refine ⟨s4, ?_⟩
            have ef : [(y, z)].filter (fun p => p.1 == u && canEnd g e (k - 1 - i) p.2) = [] := by simp [hc]
            rw [take_next eq, List.filter_append, ef, List.append_nil]
            exact hD2
        · dsimp only
          rw [if_neg Bool.false_ne_true]
          refine ⟨s4, ?_⟩
          have ny : y ≠ u := fun e => c (decide_eq_true (by rw [e]))
          have ef : [(y, z)].filter (fun p => p.1 == u && canEnd g e (k - 1 - i) p.2) = [] := by simp [ny]
          rw [take_next eq, List.filter_append, ef, List.append_nil]
          exact hD2
      · rintro H4 ⟨s4, hD2⟩
        rw [hxg, List.take_length] at hD2
        obtain ⟨tl, etl⟩ : ∃ tl, (g.arrows.filter fun p => p.1 == u && canEnd g e (k - 1 - i) p.2).map (·.2) = v :: tl := by
          cases hz : (g.arrows.filter fun p => p.1 == u && canEnd g e (k - 1 - i) p.2).map (·.2) with
          | nil => rw [hz] at hhd; cases hhd
          | cons b tl => rw [hz] at hhd; cases hhd; exact ⟨tl, rfl⟩
        rw [etl] at hD2
        -- places.append(choices[0])
        refine ⟨.ref pl, rfl, .inl ⟨rfl, _, SqL.of (s4 _ _ hpl)⟩, .ref D2, rfl, D2, _, 0, .int v, rfl, rfl, SqL.of hD2, atI_nat (j := 0) rfl, pl, _, _, rfl, rfl, s4 _ _ hpl, ?_, ?_⟩
        · rw [natV_len, List.length_append, hdl]
          exact small (by show i + 1 ≤ 1000; omega)
        · refine ⟨_, _, _, _, _, done ++ [u], v, rfl, same_new (s3.trans s4) npl, ?_, hik', hv, ?_, by simp [hdl], ?_⟩
          · rw [upd_same, natV_app]
          · rw [show k - (i + 1) = k - 1 - i by omega]
            exact hcv
          · rw [hon, hstep, show k - (i + 1) = k - 1 - i by omega, List.append_assoc]
            rfl
    · rintro σ H3 ⟨v5, v6, v7, v8, v9, done, u, rfl, s3, hpl, hik, hu, hcw, hdl, hon⟩
      have ei : ((k : Int) - 1 - -1).toNat = k := by omega
      rw [ei, Nat.sub_self] at hon
      refine ⟨.ref pl, rfl, q H3 pl s3 npl ?_⟩
      rw [hon]
      exact hpl
end
end Tow
namespace Tow
open PySem PySem.Spec PyProof.Rows L2
open PySem.W (Codec)
open Ks547 (Graph has)
open Ks551 (walk)
abbrev sFw : Stmt := topS 9
section
variable {P : Program} {w : World} {K : PySem.W.Frag} {mg : Str → Option Value} {base : Heap}
/-! ### first_walk -/
def spFw : Sp := fun vs H Q _ => ∃ (g : Graph) (k : Nat) (a : Addr), vs = [.int g.n, .int k, .ref a] ∧ Arr H a (castP g.arrows) ∧ g.arrows.length ≤ 30 ∧ Wf g ∧ g.arrows.Pairwise nlt ∧ k ≤ 12 ∧
  ∀ H' p, Same H H' → H p = none → H' p = some (.lst (natV ((walk g k).getD []))) → Q (.ref p) H'
theorem scFw : FnScope ["n", "k", "arrows", "rows", "place"] ["n", "k", "arrows"] (defScope sFw) := ⟨rfl, rfl, rfl, by decide +kernel, rfl, by decide +kernel, by decide +kernel⟩
theorem ok_fw {f fS fO : Addr} {fd fdS fdO : FuncData} {k : Nat} (F : Fun K "first_walk" "first_walk" sFw f fd) (FS : Fun K "starts_by_length" "starts_by_length" sSta fS fdS) (bS : Binds K fdS ["k", "ends", "arrows"] []) (gS : mg "starts_by_length" = some (.ref fS))
    (FO : Fun K "first_walk_from" "first_walk_from" sFwf fO fdO) (bO : Binds K fdO ["start", "k", "rows", "arrows"] []) (gO : mg "first_walk_from" = some (.ref fO))
    (mr : mg "range" = none) (ml : mg "len" = none) (mL : mg "list" = none) : FnOk P w K mg base CX0 (k + 2) f fd ["n", "k", "arrows"] spFw := by
  have GS : FnOk P w K mg base CX0 (k + 1) fS fdS ["k", "ends", "arrows"] (spSta K) := ok_sta FS mr ml mL
  have GO : FnOk P w K mg base CX0 (k + 1) fO fdO ["start", "k", "rows", "arrows"] spFwf := ok_fwf FO mr
  refine F.ok scFw (fun vs H Q E h => ?_) (fun cdv A outer s H vs Q E hr h => ?_)
  · obtain ⟨g, k, a, rfl, _⟩ := h
    rfl
  · obtain ⟨g, k, a, rfl, ar, hal, W, R, hk, q⟩ := h
    have hn5 : g.n ≤ 5 := W.hi
    refine ⟨_, pss_cons (ps_set (i := 3) scFw.nd rfl (.inl rfl) (pe_call GS hr (by rfl) gS FS.kp bS .nil pass0 (pa_cons (pv 1) (pa_cons (pe_op op_rep (pe_lst (pa_cons pe_bl pa_nil)) (pv 0)) (pa_cons (pv 2) pa_nil)))))
      (pss_cons (ps_for PassesOwn.never rfl (pi_range1 (by rfl) mr (pa_cons (pv 0) pa_nil)) (pg_name (i := 4) scFw.nd rfl (.inl rfl))
        (pss_one (ps_if (pt_val (pe_ix ix_list (pe_ix ix_list (pv 3) (pv 1) (fun _ _ => rfl)) (pv 4) (fun _ _ => rfl)))
          (pss_one (ps_ret (pe_call GO hr (by rfl) gO FO.kp bO .nil pass0 (pa_cons (pv 4) (pa_cons (pv 1) (pa_cons (pv 3) (pa_cons (pv 2) pa_nil))))))) pss_nil)))
      (pss_one (ps_ret (pe_lst pa_nil)))), ?_⟩
    -- rows = starts_by_length(k, [True] * n, arrows)
    refine ⟨.int k, rfl, by show 1 ≤ sizeLine; decide, fun t0 nt0 => ⟨.int g.n, rfl, t0, g.n, _, rfl, rfl, upd_same, by omega, by omega, ?_, fun r0 nr0 => ?_⟩⟩
    · show 1 * ((g.n : Int)).toNat ≤ sizeLine
      exact Nat.le_of_lt (small (by omega))
    · have s1 : Same H (upd H t0 (.lst [.bl true])) := same_new (Same.refl H) nt0
      have nr0H : H r0 = none := s1.free nr0
      have s2 : Same H (upd (upd H t0 (.lst [.bl true])) r0 (.lst (List.replicate ((g.n : Int)).toNat [V.bl true]).flatten)) := same_new s1 nr0H
      have hr0 : (upd (upd H t0 (.lst [.bl true])) r0 (.lst (List.replicate ((g.n : Int)).toNat [V.bl true]).flatten)) r0 = some (.lst (((List.range g.n).map fun _ => true).map V.bl)) := by
        rw [upd_same, rep_one, show ((g.n : Int)).toNat = g.n by omega, ends_all]
      refine ⟨.ref a, rfl, g, fun _ => true, k, r0, a, rfl, SqL.of hr0, ar.same s2, W, hk, fun H1 p s3 np RR => ?_⟩
      have sH1 := s2.trans s3
      obtain ⟨l, hl, row⟩ := RR.row
      obtain ⟨rk, erk, hrk⟩ := row k (by omega)
      refine ⟨.int g.n, rfl, (g.n : Int), rfl, by omega, by omega, ?_⟩
      refine for_range (lo := 0) (n := ((g.n : Int)).toNat) (fun i σ H' => ∃ v4 : Option V, σ = [some (.int g.n), some (.int k), some (.ref a), some (.ref p), v4] ∧ H' = H1 ∧ ∀ x, x < i → canEnd g (fun _ => true) k x = false)
        ⟨none, rfl, rfl, fun x hx => absurd hx (Nat.not_lt_zero _)⟩ ?_ ?_
      · rintro i σ H' hi ⟨v4, rfl, rfl, inv⟩
        have hi' : i < g.n := by omega
        refine ⟨.ref p, rfl, .int k, rfl, p, _, _, .ref rk, rfl, rfl, SqL.of hl, at_of (j := k) rfl erk, .int (0 + i), rfl, rk, _, _, _, rfl, rfl, SqL.of hrk, at_of (j := i) (by omega) (bool_at _ hi'), _, rfl, ?_⟩
        cases hc : canEnd g (fun _ => true) k i with
        | true =>
          refine iteT ?_
          refine ⟨.int (0 + i), rfl, .int k, rfl, .ref p, rfl, .ref a, rfl, g, fun _ => true, k, i, p, a, by rw [show (0 : Int) + i = i by omega]; rfl, RR, ar.same sH1, by omega, W, R, hk, hi', hc, fun H2 z s4 nz hz => ?_⟩
          refine q H2 z (sH1.trans s4) (sH1.free nz) ?_
          rw [walk_is W hi' inv hc]
          exact hz
        | false =>
          refine iteF ?_
          refine ⟨_, rfl, rfl, fun x hx => ?_⟩
          rcases Nat.lt_or_ge x i with c | c
          · exact inv x c
          · have : x = i := by omega
            rw [this]
            exact hc
      · rintro σ H' ⟨v4, rfl, rfl, inv⟩
        refine ⟨by show 0 ≤ sizeLine; exact Nat.zero_le _, fun t nt => q _ t (same_new sH1 (sH1.free nt)) (sH1.free nt) ?_⟩
        rw [upd_same, walk_no W (fun x hx => inv x (by omega))]
        rfl
end
end Tow
namespace Tow
open PySem PySem.Spec PyProof.Rows L2
open PySem.W (Codec)
open Ks547 (Graph has)
open Ks551 (canWalk deep lift round walk onward)
abbrev sTow : Stmt := topS 4
section
variable {P : Program} {w : World} {K : PySem.W.Frag} {mg : Str → Option Value} {base : Heap}
/-! ### tower -/
def spTow (K : PySem.W.Frag) : Sp := fun vs H Q _ => ∃ (n k : Int) (a : Addr) (ns : List Int), vs = [.int n, .int k, .ref a] ∧ 0 ≤ n ∧ 0 ≤ k ∧ SqL K H a (ns.map V.int) ∧ ns.length ≤ 60 ∧ (∀ x ∈ ns, 0 ≤ x) ∧
  ∀ (H' : Hp) (p : Addr), H' p = some (.lst ((PyKs551.tower n k ns).map V.int)) → Q (.ref p) H'
theorem scTow : FnScope ["n", "k", "first", "arrows", "found"] ["n", "k", "first"] (defScope sTow) := ⟨rfl, rfl, rfl, by decide +kernel, rfl, by decide +kernel, by decide +kernel⟩
theorem ok_tow {f fG fP fR fS fO fW fH : Addr} {fd fdG fdP fdR fdS fdO fdW fdH : FuncData} (F : Fun K "tower" "tower" sTow f fd)
    (FG : Fun K "is_graph" "is_graph" sIsG fG fdG) (bG : Binds K fdG ["n", "first"] []) (gG : mg "is_graph" = some (.ref fG))
    (FP : Fun K "pair_up" "pair_up" sPair fP fdP) (bP : Binds K fdP ["first"] []) (gP : mg "pair_up" = some (.ref fP))
    (FR : Fun K "is_rising" "is_rising" sRis fR fdR) (bR : Binds K fdR ["arrows"] []) (gR : mg "is_rising" = some (.ref fR))
    (FS : Fun K "starts_by_length" "starts_by_length" sSta fS fdS) (bS : Binds K fdS ["k", "ends", "arrows"] []) (gS : mg "starts_by_length" = some (.ref fS))
    (FO : Fun K "first_walk_from" "first_walk_from" sFwf fO fdO) (bO : Binds K fdO ["start", "k", "rows", "arrows"] []) (gO : mg "first_walk_from" = some (.ref fO))
    (FW : Fun K "first_walk" "first_walk" sFw fW fdW) (bW : Binds K fdW ["n", "k", "arrows"] []) (gW : mg "first_walk" = some (.ref fW))
    (FH : Fun K "heights_of" "heights_of" sHei fH fdH) (bH : Binds K fdH ["n", "arrows"] []) (gH : mg "heights_of" = some (.ref fH))
    {tm th tn : Tok} (gM : mg "MOST_PLACES" = some (.int 5 tm)) (gT : mg "HIGHEST_TOWER" = some (.int 6 th)) (gN : mg "NOT_AS_TOLD" = some (.int (-22) tn))
    (mr : mg "range" = none) (ml : mg "len" = none) (mL : mg "list" = none) (mm : mg "max" = none) : FnOk P w K mg base CX0 3 f fd ["n", "k", "first"] (spTow K) := by
  have GG : FnOk P w K mg base CX0 2 fG fdG ["n", "first"] (spIsG K) := ok_isG FG FP FR bP bR gP gR gM mr ml
  have GP : FnOk P w K mg base CX0 2 fP fdP ["first"] (spPair K) := ok_pair FP mr ml
  have GW : FnOk P w K mg base CX0 2 fW fdW ["n", "k", "arrows"] spFw := ok_fw FW FS bS gS FO bO gO mr ml mL
  have GH : FnOk P w K mg base CX0 2 fH fdH ["n", "arrows"] spHei := ok_hei FH mr mm
  refine F.ok scTow (fun vs H Q E h => ?_) (fun cdv A outer s H vs Q E hr h => ?_)
  · obtain ⟨n, k, a, ns, rfl, _⟩ := h
    rfl
  · obtain ⟨n, k, a, ns, rfl, hn, hk, hS, hlen, hpos, q⟩ := h
    refine ⟨_, pss_cons (ps_if (PW.pt (pw_or (pt_not (pt_val (pe_call GG hr (by rfl) gG FG.kp bG .nil pass0 (pa_cons (pv 0) (pa_cons (pv 2) pa_nil)))))
          (pw_or (pt_cmpR op_lt (pv 1) pe_int (nomark _)) (pw_or1 (pt_cmpR op_gt (pv 1) (pe_glob (v := .int 6) rfl gT ⟨_, rfl⟩) (nomark _))))))
        (pss_one (ps_ret (pe_lst (pa_cons (pe_glob (v := .int (-22)) rfl gN ⟨_, rfl⟩) pa_nil)))) pss_nil)
      (pss_cons (ps_set (i := 3) scTow.nd rfl (.inl rfl) (pe_call GP hr (by rfl) gP FP.kp bP .nil pass0 (pa_cons (pv 2) pa_nil)))
      (pss_cons (ps_set (i := 4) scTow.nd rfl (.inl rfl) (pe_call GW hr (by rfl) gW FW.kp bW .nil pass0 (pa_cons (pv 0) (pa_cons (pv 1) (pa_cons (pv 3) pa_nil)))))
      (pss_cons (ps_if (pt_cmpR op_gt (pe_callB call_len_seq (by rfl) ml PySem.boot_len (pa_cons (pv 4) pa_nil)) pe_int (nomark _)) (pss_one (ps_ret (pe_op op_cat (pe_lst (pa_cons pe_int pa_nil)) (pv 4)))) pss_nil)
      (pss_one (ps_ret (pe_op op_cat (pe_lst (pa_cons pe_int pa_nil)) (pe_call GH hr (by rfl) gH FH.kp bH .nil pass0 (pa_cons (pv 0) (pa_cons (pv 3) pa_nil))))))))), ?_⟩
    rw [tower_due hn hk hpos] at q
    have no : ¬ (isGraph n ns = true ∧ 1 ≤ k ∧ k ≤ 6) → ∀ H1 : Hp, [V.int (-22)].length ≤ sizeLine ∧ ∀ p, H1 p = none → Q (.ref p) (upd H1 p (.lst [.int (-22)])) := fun c H1 => by
      rw [if_neg c] at q
      exact ⟨by show 1 ≤ sizeLine; decide, fun p _ => q _ p upd_same⟩
    refine ⟨.int n, rfl, .ref a, rfl, n, a, ns, rfl, hS, hlen, fun H1 s1 => ⟨_, rfl, ?_⟩⟩
    cases c : isGraph n ns with
    | false =>
      refine iteT ?_
      exact iteT (no (fun z => by rw [c] at z; exact Bool.noConfusion z.1) H1)
    | true =>
      refine iteF ?_
      refine ⟨.int k, rfl, k, 1, rfl, rfl, _, rfl, ite2 (fun d => ?_) (fun d => ?_)⟩
      · have := of_decide_eq_true d
        exact iteT (no (fun z => by omega) H1)
      · have k1 : ¬ k < 1 := fun z => d (decide_eq_true z)
        refine ⟨.int k, rfl, k, 6, rfl, rfl, _, rfl, ite2 (fun d => ?_) (fun d => ?_)⟩
        · have := of_decide_eq_true d
          exact no (fun z => by omega) H1
        · have k6 : ¬ 6 < k := fun z => d (decide_eq_true z)
          rw [if_pos ⟨c, by omega, by omega⟩] at q
          have W := gr_wf c
          have R := gr_rise c
          have hb := gr_back c
          have hnn : ((gr n ns).n : Int) = n := by
            show ((n.toNat : Nat) : Int) = n
            omega
          have hkk : ((k.toNat : Nat) : Int) = k := by omega
          have hal : (gr n ns).arrows.length ≤ 30 := by
            show ((pairUp ns).map natP).length ≤ 30
            rw [List.length_map, pairUp_len]
            omega
          obtain ⟨_, _, hev, _, _⟩ := isGraph_iff.mp c
          refine ⟨.ref a, rfl, a, ns, rfl, s1.seq hS, hlen, hev, fun H2 t s2 nt ar => ?_⟩
          have ar' : Arr H2 t (castP (gr n ns).arrows) := by
            unfold castP
            rw [← hb]
            exact ar
          refine ⟨.int n, rfl, .int k, rfl, .ref t, rfl, gr n ns, k.toNat, t, by rw [hnn, hkk]; rfl, ar', hal, W, R, by omega, fun H3 p s3 np hp => ?_⟩
          refine ⟨.ref p, rfl, p, _, rfl, .inl (SqL.of hp), _, 0, rfl, rfl, _, rfl, ?_⟩
          cases hw : walk (gr n ns) k.toNat with
          | none =>
            rw [hw] at q
            rw [show decide ((0 : Int) < (natV ((none : Option (List Nat)).getD [])).length) = false from rfl]
            refine iteF ?_
            refine ⟨by show 1 ≤ sizeLine; decide, fun l nl => ?_⟩
            have s4 := same_new (o := .lst [.int 1]) (Same.refl H3) nl
            refine ⟨.int n, rfl, .ref t, rfl, gr n ns, t, by rw [hnn]; rfl, (ar'.same s3).same s4, hal, W, noWalk_n W (walk_none_iff.mp hw), fun H5 b s5 nb hb5 => ?_⟩
            refine ⟨l, b, _, _, rfl, rfl, s5 _ _ upd_same, hb5, ?_, fun z nz => q _ z ?_⟩
            · rw [natV_len, lift_len]
              have := W.hi
              exact Nat.le_of_lt (small (by show 1 + (gr n ns).n ≤ 1000; omega))
            · rw [upd_same, natV_outI]
          | some v =>
            rw [hw] at q hp
            have hvl : v.length = k.toNat + 1 := walk_len W R hw
            have ed : decide ((0 : Int) < (natV ((some v).getD [])).length) = true := by
              rw [natV_len]
              show decide ((0 : Int) < v.length) = true
              rw [decide_eq_true_eq]
              omega
            rw [ed]
            refine iteT ?_
            refine ⟨by show 1 ≤ sizeLine; decide, fun l nl => ?_⟩
            have s4 := same_new (o := .lst [.int 0]) (Same.refl H3) nl
            refine ⟨.ref p, rfl, l, p, _, _, rfl, rfl, upd_same, s4 _ _ hp, ?_, fun z nz => q _ z ?_⟩
            · show 1 + (natV v).length ≤ sizeLine
              rw [natV_len]
              exact Nat.le_of_lt (small (by omega))
            · rw [upd_same]
              show some (HO.lst ([V.int 0] ++ natV v)) = _
              rw [natV_outI]
end
end Tow
namespace Tow
open PySem PySem.Spec PyProof.Rows L2
open PySem.W (Codec)
/-! ### what the top has written -/
theorem all_mk {P : Program} {w : World} {K : PySem.W.Frag} {h : Heap} {mg : Str → Option Value} {fa f1 f2 f3 f4 f5 f6 f7 f8 : Addr} (X : K.In h) (G : h.Ns mainGlobals mg) (hfa : mg "tower" = some (.ref fa))
    {od1 an1 od2 an2 od3 an3 od4 an4 od5 an5 od6 an6 od7 an7 od8 an8 : Option Addr} {sl1 sl2 sl3 sl4 sl5 sl6 sl7 sl8 : Array (Option Value)} {oc1 kV1 dc1 pm1 cd1 ct1 oc2 kV2 dc2 pm2 cd2 ct2 oc3 kV3 dc3 pm3 cd3 ct3 oc4 kV4 dc4 pm4 cd4 ct4 oc5 kV5 dc5 pm5 cd5 ct5 oc6 kV6 dc6 pm6 cd6 ct6 oc7 kV7 dc7 pm7 cd7 ct7 oc8 kV8 dc8 pm8 cd8 ct8 : Value} {tM tT tN : Tok}
    (a1 : PySem.W.nsIn K mainGlobals "tower" = some (some (.ref f1))) (l1 : K.lookup f1 = some ⟨oc1, od1, .func (PySem.W.fnOf "tower" "tower" (defArgs sTow) (defBody sTow) (defScope sTow) .none kV1 dc1 pm1 an1 cd1 ct1), sl1⟩) (c1 : PySem.W.codeIn K cd1 "tower" = true) (k1 : PySem.W.keepIn K (.ref f1) = true)
    (a2 : PySem.W.nsIn K mainGlobals "is_graph" = some (some (.ref f2))) (l2 : K.lookup f2 = some ⟨oc2, od2, .func (PySem.W.fnOf "is_graph" "is_graph" (defArgs sIsG) (defBody sIsG) (defScope sIsG) .none kV2 dc2 pm2 an2 cd2 ct2), sl2⟩) (c2 : PySem.W.codeIn K cd2 "is_graph" = true) (k2 : PySem.W.keepIn K (.ref f2) = true)
    (a3 : PySem.W.nsIn K mainGlobals "is_rising" = some (some (.ref f3))) (l3 : K.lookup f3 = some ⟨oc3, od3, .func (PySem.W.fnOf "is_rising" "is_rising" (defArgs sRis) (defBody sRis) (defScope sRis) .none kV3 dc3 pm3 an3 cd3 ct3), sl3⟩) (c3 : PySem.W.codeIn K cd3 "is_rising" = true) (k3 : PySem.W.keepIn K (.ref f3) = true)
    (a4 : PySem.W.nsIn K mainGlobals "pair_up" = some (some (.ref f4))) (l4 : K.lookup f4 = some ⟨oc4, od4, .func (PySem.W.fnOf "pair_up" "pair_up" (defArgs sPair) (defBody sPair) (defScope sPair) .none kV4 dc4 pm4 an4 cd4 ct4), sl4⟩) (c4 : PySem.W.codeIn K cd4 "pair_up" = true) (k4 : PySem.W.keepIn K (.ref f4) = true)
    (a5 : PySem.W.nsIn K mainGlobals "starts_by_length" = some (some (.ref f5))) (l5 : K.lookup f5 = some ⟨oc5, od5, .func (PySem.W.fnOf "starts_by_length" "starts_by_length" (defArgs sSta) (defBody sSta) (defScope sSta) .none kV5 dc5 pm5 an5 cd5 ct5), sl5⟩) (c5 : PySem.W.codeIn K cd5 "starts_by_length" = true) (k5 : PySem.W.keepIn K (.ref f5) = true)
    (a6 : PySem.W.nsIn K mainGlobals "first_walk_from" = some (some (.ref f6))) (l6 : K.lookup f6 = some ⟨oc6, od6, .func (PySem.W.fnOf "first_walk_from" "first_walk_from" (defArgs sFwf) (defBody sFwf) (defScope sFwf) .none kV6 dc6 pm6 an6 cd6 ct6), sl6⟩) (c6 : PySem.W.codeIn K cd6 "first_walk_from" = true) (k6 : PySem.W.keepIn K (.ref f6) = true)
    (a7 : PySem.W.nsIn K mainGlobals "first_walk" = some (some (.ref f7))) (l7 : K.lookup f7 = some ⟨oc7, od7, .func (PySem.W.fnOf "first_walk" "first_walk" (defArgs sFw) (defBody sFw) (defScope sFw) .none kV7 dc7 pm7 an7 cd7 ct7), sl7⟩) (c7 : PySem.W.codeIn K cd7 "first_walk" = true) (k7 : PySem.W.keepIn K (.ref f7) = true)
    (a8 : PySem.W.nsIn K mainGlobals "heights_of" = some (some (.ref f8))) (l8 : K.lookup f8 = some ⟨oc8, od8, .func (PySem.W.fnOf "heights_of" "heights_of" (defArgs sHei) (defBody sHei) (defScope sHei) .none kV8 dc8 pm8 an8 cd8 ct8), sl8⟩) (c8 : PySem.W.codeIn K cd8 "heights_of" = true) (k8 : PySem.W.keepIn K (.ref f8) = true)
    (gM : PySem.W.nsIn K mainGlobals "MOST_PLACES" = some (some (.int (5) tM)))
    (gT : PySem.W.nsIn K mainGlobals "HIGHEST_TOWER" = some (some (.int (6) tT)))
    (gN : PySem.W.nsIn K mainGlobals "NOT_AS_TOLD" = some (some (.int (-22) tN)))
    (zrange : PySem.W.nsIn K mainGlobals "range" = some none)
    (zlen : PySem.W.nsIn K mainGlobals "len" = some none)
    (zlist : PySem.W.nsIn K mainGlobals "list" = some none)
    (zmax : PySem.W.nsIn K mainGlobals "max" = some none)
    : ∃ fd : FuncData, (∀ (s : Shared) (us : List Value), us.length = (["n", "k", "first"] : List Str).length → BindsTo s fd ⟨us, []⟩ ((["n", "k", "first"] : List Str).zip us)) ∧ ∀ base : Heap, K.In base → base.Ns mainGlobals mg → FnOk P w K mg base CX0 3 fa fd ["n", "k", "first"] (spTow K) := by
  have e := hfa.symm.trans (PySem.W.mg_of X G a1)
  cases e
  have F1 := fun_mk (st := sTow) l1 c1 k1
  have F2 := fun_mk (st := sIsG) l2 c2 k2
  have b2 := F2.binds (ps := ["n", "first"]) fun _ _ _ _ _ _ us hl => match us, hl with | [_, _], _ => rfl
  have F3 := fun_mk (st := sRis) l3 c3 k3
  have b3 := F3.binds (ps := ["arrows"]) fun _ _ _ _ _ _ us hl => match us, hl with | [_], _ => rfl
  have F4 := fun_mk (st := sPair) l4 c4 k4
  have b4 := F4.binds (ps := ["first"]) fun _ _ _ _ _ _ us hl => match us, hl with | [_], _ => rfl
  have F5 := fun_mk (st := sSta) l5 c5 k5
  have b5 := F5.binds (ps := ["k", "ends", "arrows"]) fun _ _ _ _ _ _ us hl => match us, hl with | [_, _, _], _ => rfl
  have F6 := fun_mk (st := sFwf) l6 c6 k6
  have b6 := F6.binds (ps := ["start", "k", "rows", "arrows"]) fun _ _ _ _ _ _ us hl => match us, hl with | [_, _, _, _], _ => rfl
  have F7 := fun_mk (st := sFw) l7 c7 k7
  have b7 := F7.binds (ps := ["n", "k", "arrows"]) fun _ _ _ _ _ _ us hl => match us, hl with | [_, _, _], _ => rfl
  have F8 := fun_mk (st := sHei) l8 c8 k8
  have b8 := F8.binds (ps := ["n", "arrows"]) fun _ _ _ _ _ _ us hl => match us, hl with | [_, _], _ => rfl
  exact ⟨PySem.W.fnOf "tower" "tower" (defArgs sTow) (defBody sTow) (defScope sTow) .none kV1 dc1 pm1 an1 cd1 ct1, fun s us hu => match us, hu with | [_, _, _], _ => .of_eq rfl, fun base _ _ => ok_tow F1 F2 b2 (PySem.W.mg_of X G a2) F4 b4 (PySem.W.mg_of X G a4) F3 b3 (PySem.W.mg_of X G a3) F5 b5 (PySem.W.mg_of X G a5) F6 b6 (PySem.W.mg_of X G a6) F7 b7 (PySem.W.mg_of X G a7) F8 b8 (PySem.W.mg_of X G a8) (PySem.W.mg_of X G gM) (PySem.W.mg_of X G gT) (PySem.W.mg_of X G gN) (PySem.W.mg_none_of X G zrange) (PySem.W.mg_none_of X G zlen) (PySem.W.mg_none_of X G zlist) (PySem.W.mg_none_of X G zmax)⟩
end Tow
open PySem PySem.W PyProof.Rows
set_option maxRecDepth 100000 in
set_option maxHeartbeats 8000000 in
theorem PySem.Challenge.cw_towerorwalk_s01_tower_holds : PySem.Challenge.rw_towerorwalk_s01_tower.Holds := by
  w_on; k_headS; (case hw => exact ⟨[.int 1, .int 1, .list []], by decide +kernel, by decide +kernel⟩)
  k_fillS
  refine L2.walk_specK (r := PySem.Challenge.rw_towerorwalk_s01_tower) (k := 3) (CX := L2.CX0) (ps := ["n", "k", "first"]) (sp := Tow.spTow) (by decide +kernel) rfl rfl ⟨rfl, by decide, by decide⟩ (fun w h Y => PySem.W.kIn_of Y) ?F ?S (fun _ _ _ _ z => z)
  case F =>
    intro w mg fa h Y KX G hmg
    refine' Tow.all_mk KX G hmg ?a1 ?l1 ?c1 ?k1 ?a2 ?l2 ?c2 ?k2 ?a3 ?l3 ?c3 ?k3 ?a4 ?l4 ?c4 ?k4 ?a5 ?l5 ?c5 ?k5 ?a6 ?l6 ?c6 ?k6 ?a7 ?l7 ?c7 ?k7 ?a8 ?l8 ?c8 ?k8 ?gM ?gT ?gN ?zrange ?zlen ?zlist ?zmax
    (case a1 => k_is)
    (case l1 => k_is)
    (case c1 => k_is)
    (case k1 => k_is)
    (case a2 => k_is)
    (case l2 => k_is)
    (case c2 => k_is)
    (case k2 => k_is)
    (case a3 => k_is)
    (case l3 => k_is)
    (case c3 => k_is)
    (case k3 => k_is)
    (case a4 => k_is)
    (case l4 => k_is)
    (case c4 => k_is)
    (case k4 => k_is)
    (case a5 => k_is)
    (case l5 => k_is)
    (case c5 => k_is)
    (case k5 => k_is)
    (case a6 => k_is)
    (case l6 => k_is)
    (case c6 => k_is)
    (case k6 => k_is)
    (case a7 => k_is)
    (case l7 => k_is)
    (case c7 => k_is)
    (case k7 => k_is)
    (case a8 => k_is)
    (case l8 => k_is)
    (case c8 => k_is)
    (case k8 => k_is)
    (case gM => k_is)
    (case gT => k_is)
    (case gN => k_is)
    (case zrange => k_is)
    (case zlen => k_is)
    (case zlist => k_is)
    (case zmax => k_is)
  case S =>
    intro K H xs a hO hwi hask hx
    cases hx with
    | cons h1 h2 =>
      cases h1
      cases h2 with
      | cons h1 h2 =>
        cases h1
        cases h2 with
        | cons h1 h2 =>
          cases h2
          cases h1 with
          | lst hs ha =>
            have e := L2.ints_dw a.2.2.1 _ ha
            subst e
            have q : (Codec.inInt 0 4294967295 a.1 && (Codec.inInt 0 4294967295 a.2.1 && ((Codec.inLen 0 60 a.2.2.1 && a.2.2.1.all (Codec.inInt 0 4294967295)) && true))) = true := hwi
            rw [Bool.and_eq_true, Bool.and_eq_true, Bool.and_eq_true, Bool.and_eq_true, List.all_eq_true] at q
            exact ⟨a.1, a.2.1, _, a.2.2.1, rfl, (Codec.inInt_iff.mp q.1).1, (Codec.inInt_iff.mp q.2.1).1, hs, (Codec.inNat_iff.mp q.2.2.1.1).2, fun x hx => (Codec.inInt_iff.mp (q.2.2.1.2 x hx)).1, fun H' p hp => .lst (L2.SqL.of hp) (L2.dw_ints _)⟩
#print axioms PySem.Challenge.cw_towerorwalk_s01_tower_holds
