import PyProof.Rows.All
import Wide.All
import OpenK.AllK
import Wide.FinOn
import PyProof.EqAt
import PyProof.EqKinds
import PyProof.TupleCall
import KE.BitLaws
import Open.SpecLaws
import KE.OsHead
import KE.OsGo
import KE.KLam
import KE.KMinKey
import KE.KNestM
import PyProof.P3In
import PyFlatLaws
import Open.Tops
import PySem.Challenge.RW_standrows_s01_answers
set_option Elab.async false
set_option linter.all false
set_option maxRecDepth 100000
set_option maxHeartbeats 4000000
namespace Sr
section
open Su57
section
structure G where
 width : Nat
 face : Nat
 steps : List Nat
 heights : List Nat
 spots : List (Option (Nat × Nat))
 pairs : List ((Nat × Nat) × Nat)
def G.spot (g : G) (p : Nat) : Option (Nat × Nat) := (g.spots[p]?).getD none
def G.at? (g : G) (r c : Nat) : Option Nat := (List.range g.spots.length).find? fun p => decide (g.spot p = some (r, c))
def code : Option Nat -> Nat
 | some p => p + 1
 | none => 0
def G.row (g : G) (p : Nat) : Nat := ((g.spot p).getD (0, 0)).1
def G.col (g : G) (p : Nat) : Nat := ((g.spot p).getD (0, 0)).2
def G.step (g : G) (r : Nat) : Nat := g.steps.getD r 0
def G.height (g : G) (p : Nat) : Nat := g.heights.getD p 0
def G.head (g : G) (p : Nat) : Nat := g.step (g.row p) + g.height p
structure Rel (g : G) (a : Abs) : Prop where
 width : a.width = g.width
 face : a.face = g.face
 steps : a.steps = g.steps
 people : a.people = g.heights
 slen : g.spots.length = g.heights.length
 clen : a.cells.length = g.width * g.steps.length
 cell : ∀ i p, i < g.width * g.steps.length -> (a.cells.getD i 0 = p + 1 ↔ g.spot p = some (i / g.width, i % g.width))
 inb : ∀ p r c, g.spot p = some (r, c) -> r < g.steps.length /\ c < g.width
 wpos : 0 < g.width
 near : a.near = (g.pairs.filter fun x => x.2 == 1).map (·.1)
 apart : a.apart = (g.pairs.filter fun x => x.2 == 2).map (·.1)
 keys : (g.pairs.map (·.1)).Nodup
 vals : ∀ x ∈ g.pairs, x.2 = 1 ∨ x.2 = 2
 ord : ∀ x ∈ g.pairs, x.1.1 < x.1.2 /\ x.1.2 < g.heights.length
 w6 : g.width <= 6
 s5 : g.steps.length <= 5
 h20 : g.heights.length <= 20
theorem idx_lt {w n r c : Nat} (hr : r < n) (hc : c < w) : r * w + c < w * n := by
 have h1 : (r + 1) * w <= n * w := Nat.mul_le_mul_right w hr
 have h2 : (r + 1) * w = r * w + w := Nat.succ_mul r w
 rw [Nat.mul_comm w n]
 omega
theorem idx_div {w r c : Nat} (hc : c < w) : (r * w + c) / w = r := by
 rw [Nat.add_comm, Nat.add_mul_div_right _ _ (by omega), Nat.div_eq_of_lt hc, Nat.zero_add]
theorem idx_mod {w r c : Nat} (hc : c < w) : (r * w + c) % w = c := by
 rw [Nat.add_comm, Nat.add_mul_mod_self_right, Nat.mod_eq_of_lt hc]
theorem idx_back (i w : Nat) : i / w * w + i % w = i := by
 rw [Nat.mul_comm]; exact Nat.div_add_mod i w
theorem find_range_some {n i : Nat} {f : Nat -> Bool} (hi : i < n) (hf : f i = true) (u : ∀ j, j < n -> f j = true -> j = i) : (List.range n).find? f = some i := by
 rw [List.find?_range_eq_some]
 refine ⟨hf, List.mem_range.mpr hi, fun j hj => ?_⟩
 cases e : f j with
 | false => rfl
 | true =>
  have := u j (by omega) e
  omega
theorem find_range_none {n : Nat} {f : Nat -> Bool} (u : ∀ j, j < n -> f j = false) : (List.range n).find? f = none := by
 rw [List.find?_eq_none]
 intro x hx
 rw [u x (List.mem_range.mp hx)]
 decide
theorem spot_lt {g : G} {p : Nat} {x : Nat × Nat} (h : g.spot p = some x) : p < g.spots.length := by
 unfold G.spot at h
 cases e : g.spots[p]? with
 | none => rw [e] at h; cases h
 | some y => exact (List.getElem?_eq_some_iff.mp e).1
section
variable {g : G} {a : Abs} (R : Rel g a)
include R
theorem Rel.rows : a.rows = g.steps.length := by unfold Abs.rows; rw [R.steps]
theorem Rel.cellIff {r c p : Nat} (hr : r < g.steps.length) (hc : c < g.width) : a.cell r c = p + 1 ↔ g.spot p = some (r, c) := by
 unfold Abs.cell
 rw [R.width, R.rows, if_pos ⟨hc, hr⟩]
 have h := R.cell (r * g.width + c) p (idx_lt hr hc)
 rw [idx_div hc, idx_mod hc] at h
 exact h
theorem Rel.inj {p q : Nat} {x : Nat × Nat} (h1 : g.spot p = some x) (h2 : g.spot q = some x) : p = q := by
 obtain ⟨r, c⟩ := x
 obtain ⟨hr, hc⟩ := R.inb p r c h1
 have e1 := (R.cellIff (p := p) hr hc).mpr h1
 have e2 := (R.cellIff (p := q) hr hc).mpr h2
 omega
theorem Rel.at_of {p r c : Nat} (h : g.spot p = some (r, c)) : g.at? r c = some p := by
 refine find_range_some (spot_lt h) (by rw [h]; exact decide_eq_true rfl) fun j _ e => ?_
 exact R.inj (of_decide_eq_true e) h
omit R in
theorem at_spot {p r c : Nat} (h : g.at? r c = some p) : g.spot p = some (r, c) := by
 have := List.find?_some h
 exact of_decide_eq_true this
theorem Rel.cell_eq (r c : Nat) : a.cell r c = code (g.at? r c) := by
 by_cases h : c < g.width /\ r < g.steps.length
 ·cases e : g.at? r c with
  | some p => exact (R.cellIff h.2 h.1).mpr (at_spot e)
  | none =>
   cases e2 : a.cell r c with
   | zero => rfl
   | succ p =>
    have := R.at_of ((R.cellIff h.2 h.1).mp e2)
    rw [e] at this
    cases this
 ·have e1 : a.cell r c = 0 := by
   unfold Abs.cell
   rw [R.width, R.rows, if_neg h]
  rw [e1]
  cases e : g.at? r c with
  | none => rfl
  | some p =>
   have := R.inb p r c (at_spot e)
   exact absurd ⟨this.2, this.1⟩ h
theorem Rel.place_eq (p : Nat) : a.place p = (g.spot p).map fun x => x.1 * g.width + x.2 := by
 unfold Abs.place
 cases e : g.spot p with
 | none =>
  refine find_range_none fun j hj => ?_
  rw [R.clen] at hj
  cases e2 : (a.cells.getD j 0 == p + 1) with
  | false => rfl
  | true =>
   have := (R.cell j p hj).mp (eq_of_beq e2)
   rw [e] at this
   cases this
 | some x =>
  obtain ⟨r, c⟩ := x
  obtain ⟨hr, hc⟩ := R.inb p r c e
  have hi := idx_lt hr hc
  refine find_range_some (by rw [R.clen]; exact hi) ?_ fun j hj e2 => ?_
  ·have h := (R.cell (r * g.width + c) p hi).mpr (by rw [idx_div hc, idx_mod hc]; exact e)
   rw [h]
   exact beq_self_eq_true _
  ·rw [R.clen] at hj
   have h := (R.cell j p hj).mp (eq_of_beq e2)
   rw [e] at h
   have h' := Option.some.inj h
   have h1 : r = j / g.width := (Prod.mk.inj h').1
   have h2 : c = j % g.width := (Prod.mk.inj h').2
   rw [h1, h2]
   exact (idx_back j g.width).symm
theorem Rel.placed_eq (p : Nat) : a.placed p = (g.spot p).isSome := by
 unfold Abs.placed
 rw [R.place_eq]
 cases g.spot p <;> rfl
theorem Rel.rowOf_eq (p : Nat) : a.rowOf p = g.row p := by
 unfold Abs.rowOf G.row
 rw [R.place_eq, R.width]
 cases e : g.spot p with
 | none => simp
 | some x => exact idx_div (R.inb p x.1 x.2 e).2
theorem Rel.colOf_eq (p : Nat) : a.colOf p = g.col p := by
 unfold Abs.colOf G.col
 rw [R.place_eq, R.width]
 cases e : g.spot p with
 | none => simp
 | some x => exact idx_mod (R.inb p x.1 x.2 e).2
theorem Rel.height_eq (p : Nat) : a.height p = g.height p := by unfold Abs.height G.height; rw [R.people]
theorem Rel.top_eq (r p : Nat) : a.top r p = g.step r + g.height p := by unfold Abs.top G.step; rw [R.height_eq, R.steps]
theorem Rel.covers_eq (q p r s : Nat) : a.covers q p r s = decide (g.step s + g.height p < g.step r + g.height q + g.face) := by
 unfold Abs.covers; rw [R.top_eq, R.top_eq, R.face]
end
end
section
def G.colPeople (g : G) (c : Nat) : List Nat := (List.range g.steps.length).filterMap fun r => g.at? r c
def G.hiders (g : G) (p : Nat) : List Nat := (g.colPeople (g.col p)).filter fun o => decide (g.row o < g.row p) && decide (g.head p < g.head o + g.face)
def G.seen (g : G) (p : Nat) : Bool := (g.spot p).isSome && (g.hiders p).isEmpty
def G.hidden (g : G) : List Nat := (List.range g.spots.length).filter fun p => (g.spot p).isSome && !(g.seen p)
theorem code_filterMap {α : Type} (f : α -> Option Nat) : ∀ l : List α, (l.filter fun r => code (f r) != 0).map (fun r => code (f r) - 1) = l.filterMap f
 | [] => rfl
 | x :: l => by
  cases e : f x with
  | none =>
   rw [List.filter_cons, List.filterMap_cons, e, if_neg (by simp [code])]
   exact code_filterMap f l
  | some y =>
   rw [List.filter_cons, List.filterMap_cons, e, if_pos (by simp [code]), List.map_cons, code_filterMap f l, e]
   rfl
section
variable {g : G} {a : Abs} (R : Rel g a)
include R
theorem Rel.rowsOf_eq (c : Nat) : a.rowsOf c = (List.range g.steps.length).filter fun r => code (g.at? r c) != 0 := by
 unfold Abs.rowsOf
 rw [R.rows]
 refine List.filter_congr fun r _ => ?_
 rw [R.cell_eq]
theorem Rel.column_eq (c : Nat) : a.column c = g.colPeople c := by
 unfold Abs.column G.colPeople
 rw [R.rowsOf_eq]
 rw [<- code_filterMap]
 refine List.map_congr_left fun r _ => ?_
 rw [R.cell_eq]
omit R in
theorem spot_row {p r c : Nat} (h : g.spot p = some (r, c)) : g.row p = r /\ g.col p = c := by
 unfold G.row G.col
 rw [h]
 exact ⟨rfl, rfl⟩
omit R in
theorem col_mem {c o : Nat} (h : o ∈ g.colPeople c) : ∃ r, r < g.steps.length /\ g.spot o = some (r, c) := by
 unfold G.colPeople at h
 obtain ⟨r, hr, e⟩ := List.mem_filterMap.mp h
 exact ⟨r, List.mem_range.mp hr, at_spot e⟩
omit R in
theorem filter_filterMap' {α β : Type} (f : α -> Option β) (q : β -> Bool) (p : α -> Bool) : ∀ l : List α, (∀ x ∈ l, ∀ y, f x = some y -> q y = p x) -> (l.filterMap f).filter q = (l.filter p).filterMap f
 | [], _ => rfl
 | x :: l, h => by
  have ih := filter_filterMap' f q p l fun y hy => h y (List.mem_cons_of_mem _ hy)
  cases e : f x with
  | none =>
   rw [List.filterMap_cons, e, List.filter_cons]
   by_cases hp : p x = true
   ·rw [if_pos hp, List.filterMap_cons, e]; exact ih
   ·rw [if_neg hp]; exact ih
  | some y =>
   have hq := h x (List.mem_cons_self) y e
   rw [List.filterMap_cons, e, List.filter_cons, List.filter_cons, hq]
   by_cases hp : p x = true
   ·rw [if_pos hp, if_pos hp, List.filterMap_cons, e, ih]
   ·rw [if_neg hp, if_neg hp]; exact ih
omit R in
theorem range_filter_lt (n m : Nat) (h : m <= n) (p : Nat -> Bool) : (List.range n).filter (fun r => decide (r < m) && p r) = (List.range m).filter p := by
 induction n with
 | zero =>
  have : m = 0 := by omega
  subst this
  rfl
 | succ n ih =>
  rw [List.range_succ, List.filter_append]
  by_cases hm : m <= n
  ·rw [ih hm]
   have : (([n] : List Nat).filter fun r => decide (r < m) && p r) = [] := by
    rw [List.filter_cons, if_neg (by simp; omega)]; rfl
   rw [this, List.append_nil]
  ·have hm' : m = n + 1 := by omega
   subst hm'
   rw [List.range_succ, List.filter_append]
   congr 1
   ·refine List.filter_congr fun r hr => ?_
    have := List.mem_range.mp hr
    rw [decide_eq_true (show r < n + 1 by omega), Bool.true_and]
   ·refine List.filter_congr fun r hr => ?_
    have : r = n := by simpa using hr
    rw [decide_eq_true (show r < n + 1 by omega), Bool.true_and]
theorem Rel.hides_eq (p : Nat) (h : (g.spot p).isSome = true) : a.hides p = g.hiders p := by
 obtain ⟨⟨r, c⟩, e⟩ := Option.isSome_iff_exists.mp h
 obtain ⟨e1, e2⟩ := spot_row e
 obtain ⟨hr, hc⟩ := R.inb p r c e
 unfold Abs.hides
 rw [R.placed_eq, h, if_neg (by decide), R.rowOf_eq, R.colOf_eq, e1, e2]
 unfold G.hiders
 rw [e1, e2]
 unfold G.colPeople
 rw [filter_filterMap' (fun r => g.at? r c) _ (fun r' => decide (r' < r) && decide (g.step r + g.height p < g.step r' + g.height (code (g.at? r' c) - 1) + g.face))]
 ·rw [range_filter_lt _ _ (Nat.le_of_lt hr), <- code_filterMap, List.filter_filter]
  have ef : (List.range r).filter (fun r' => a.cell r' c != 0 && a.covers (a.cell r' c - 1) p r' r) = (List.range r).filter (fun a_1 => code (g.at? a_1 c) != 0 && decide (g.step r + g.height p < g.step a_1 + g.height (code (g.at? a_1 c) - 1) + g.face)) := by
   refine List.filter_congr fun r' _ => ?_
   rw [R.covers_eq, R.cell_eq]
  rw [ef]
  refine List.map_congr_left fun r' _ => ?_
  rw [R.cell_eq]
 ·intro r' _ o ho
  have hs := at_spot ho
  obtain ⟨f1, f2⟩ := spot_row hs
  show _ = _
  unfold G.head
  rw [f1, e1, ho]
  rfl
theorem Rel.seen_eq (p : Nat) : a.seen p = g.seen p := by
 unfold Abs.seen G.seen
 rw [R.placed_eq]
 cases h : (g.spot p).isSome with
 | false => rfl
 | true => rw [R.hides_eq p h]
theorem Rel.ps_eq : a.ps = List.range g.spots.length := by unfold Abs.ps; rw [R.people, R.slen]
theorem Rel.hidden_eq : a.hidden = g.hidden := by
 unfold Abs.hidden G.hidden
 rw [R.ps_eq]
 refine List.filter_congr fun p _ => ?_
 rw [R.placed_eq, R.seen_eq]
theorem Rel.all_eq : (a.ps.all fun p => a.seen p) = (List.range g.spots.length).all g.seen := by
 rw [R.ps_eq]
 congr 1
 funext p
 exact R.seen_eq p
end
def beside2 (x y : Nat × Nat) : Bool := decide (x.1 = y.1) && decide (((x.2 : Int) - y.2).natAbs = 1)
def behind2 (x y : Nat × Nat) : Bool := decide (x.2 = y.2) && decide (((x.1 : Int) - y.1).natAbs = 1)
def G.met (g : G) (x : Nat × Nat) (w : Nat) : Bool := match g.spot x.1, g.spot x.2 with
 | some s, some t => if w = 1 then beside2 s t else !(beside2 s t) && !(behind2 s t)
 | _, _ => decide (w = 2)
def G.told (g : G) (w : Nat) : List (Nat × Nat) := (g.pairs.filter fun x => x.2 == w).map (·.1)
theorem near_abs (m n : Nat) : (m + 1 == n || n + 1 == m) = decide (((m : Int) - n).natAbs = 1) := by
 by_cases h : ((m : Int) - n).natAbs = 1
 ·rw [decide_eq_true h]
  by_cases h1 : m + 1 = n
  ·rw [h1]; simp
  ·have : n + 1 = m := by omega
   rw [this]; simp
 ·rw [decide_eq_false h]
  have h1 : ¬ m + 1 = n := by omega
  have h2 : ¬ n + 1 = m := by omega
  simp [h1, h2]
section
variable {g : G} {a : Abs} (R : Rel g a)
include R
theorem Rel.beside_eq (p q : Nat) : a.beside p q = match g.spot p, g.spot q with
  | some s, some t => beside2 s t
  | _, _ => false := by
 unfold Abs.beside
 rw [R.placed_eq, R.placed_eq, R.rowOf_eq, R.rowOf_eq, R.colOf_eq, R.colOf_eq, near_abs]
 unfold G.row G.col
 cases e1 : g.spot p with
 | none => rfl
 | some s =>
  cases e2 : g.spot q with
  | none => rfl
  | some t =>
   show (true && (true && (s.1 == t.1 && _))) = beside2 s t
   unfold beside2
   rw [Bool.true_and, Bool.true_and]
   congr 1
theorem Rel.close_eq (p q : Nat) : a.close p q = match g.spot p, g.spot q with
  | some s, some t => beside2 s t || behind2 s t
  | _, _ => false := by
 unfold Abs.close
 rw [R.beside_eq, R.placed_eq, R.placed_eq, R.rowOf_eq, R.rowOf_eq, R.colOf_eq, R.colOf_eq, near_abs]
 unfold G.row G.col
 cases e1 : g.spot p with
 | none => rfl
 | some s =>
  cases e2 : g.spot q with
  | none => rfl
  | some t =>
   show (beside2 s t || (true && (true && (s.2 == t.2 && _)))) = (beside2 s t || behind2 s t)
   unfold behind2
   rw [Bool.true_and, Bool.true_and]
   congr 1
theorem Rel.metNear_eq : a.metNear = ((g.told 1).filter fun x => g.met x 1).length := by
 unfold Abs.metNear G.told
 rw [R.near]
 congr 1
 refine List.filter_congr fun x _ => ?_
 rw [R.beside_eq]
 unfold G.met
 cases g.spot x.1 with
 | none => rfl
 | some s => cases g.spot x.2 <;> rfl
theorem Rel.metApart_eq : a.metApart = ((g.told 2).filter fun x => g.met x 2).length := by
 unfold Abs.metApart G.told
 rw [R.apart]
 congr 1
 refine List.filter_congr fun x _ => ?_
 rw [R.close_eq]
 unfold G.met
 cases g.spot x.1 with
 | none => rfl
 | some s =>
  cases g.spot x.2 with
  | none => rfl
  | some t =>
   show (!(beside2 s t || behind2 s t)) = (!(beside2 s t) && !(behind2 s t))
   rw [Bool.not_or]
end
end
def longer (l : List Nat) (os : List (List Nat)) : List (List Nat) := os.flatMap fun o => (l.filter fun p => !(o.contains p)).map fun p => o ++ [p]
def levels (l : List Nat) : Nat -> List (List Nat) -> List (List Nat)
 | 0, os => os
 | n + 1, os => levels l n (longer l os)
theorem levels_succ (l : List Nat) : ∀ (n : Nat) (os : List (List Nat)), levels l (n + 1) os = longer l (levels l n os)
 | 0, _ => rfl
 | n + 1, os => levels_succ l n (longer l os)
theorem longer_append (l : List Nat) (a b : List (List Nat)) : longer l (a ++ b) = longer l a ++ longer l b := List.flatMap_append
theorem levels_append (l : List Nat) : ∀ (n : Nat) (a b : List (List Nat)), levels l n (a ++ b) = levels l n a ++ levels l n b
 | 0, _, _ => rfl
 | n + 1, a, b => by
  show levels l n (longer l (a ++ b)) = _
  rw [longer_append, levels_append l n]
  rfl
theorem levels_nil (l : List Nat) : ∀ n : Nat, levels l n [] = []
 | 0 => rfl
 | n + 1 => levels_nil l n
theorem levels_flat (l : List Nat) (n : Nat) {α : Type} (f : α -> List Nat) : ∀ xs : List α, levels l n (xs.map f) = xs.flatMap fun x => levels l n [f x]
 | [] => levels_nil l n
 | x :: xs => by
  rw [List.map_cons, show f x :: xs.map f = [f x] ++ xs.map f from rfl, levels_append, levels_flat l n f xs]
  rfl
theorem levels_orders (l : List Nat) : ∀ (n : Nat) (o : List Nat), levels l n [o] = (orders n (l.filter fun p => !(o.contains p))).map fun r => o ++ r
 | 0, o => by
  show [o] = [o ++ []]
  rw [List.append_nil]
 | n + 1, o => by
  show levels l n (longer l [o]) = _
  have e : longer l [o] = (l.filter fun p => !(o.contains p)).map fun p => o ++ [p] := by
   show [o].flatMap _ = _
   rw [List.flatMap_cons, List.flatMap_nil, List.append_nil]
  rw [e, levels_flat]
  show _ = ((l.filter fun p => !(o.contains p)).flatMap fun x => (orders n ((l.filter fun p => !(o.contains p)).filter fun y => y != x)).map fun r => x :: r).map _
  rw [List.map_flatMap]
  congr 1
  funext x
  rw [levels_orders l n (o ++ [x]), List.map_map]
  have e2 : (l.filter fun p => !((o ++ [x]).contains p)) = (l.filter fun p => !(o.contains p)).filter fun y => y != x := by
   rw [List.filter_filter]
   refine List.filter_congr fun p _ => ?_
   have : (o ++ [x]).contains p = (o.contains p || (p == x)) := by
    rw [Bool.eq_iff_iff]
    simp [or_comm]
   rw [this, Bool.not_or, Bool.and_comm]
   rfl
  rw [e2]
  refine List.map_congr_left fun r _ => ?_
  show o ++ [x] ++ r = o ++ (x :: r)
  rw [List.append_assoc]
  rfl
theorem insert_perm (x : Nat) : ∀ l : List Nat, (Su57.insert x l).Perm (x :: l)
 | [] => List.Perm.refl _
 | y :: l => by
  unfold Su57.insert
  by_cases h : x < y
  ·rw [if_pos h]
  ·rw [if_neg h]
   exact (List.Perm.cons y (insert_perm x l)).trans (List.Perm.swap x y l)
theorem insert_sorted (x : Nat) : ∀ l : List Nat, l.Pairwise (· <= ·) -> (Su57.insert x l).Pairwise (· <= ·)
 | [], _ => List.pairwise_singleton _ _
 | y :: l, h => by
  unfold Su57.insert
  obtain ⟨h1, h2⟩ := List.pairwise_cons.mp h
  by_cases hx : x < y
  ·rw [if_pos hx]
   refine List.pairwise_cons.mpr ⟨fun z hz => ?_, h⟩
   rcases List.mem_cons.mp hz with rfl | hz
   ·omega
   ·have := h1 z hz
    omega
  ·rw [if_neg hx]
   refine List.pairwise_cons.mpr ⟨fun z hz => ?_, insert_sorted x l h2⟩
   rcases List.mem_cons.mp ((insert_perm x l).mem_iff.mp hz) with rfl | hz
   ·omega
   ·exact h1 z hz
theorem sorted_go : ∀ (l s : List Nat), s.Pairwise (· <= ·) -> (l.foldl (fun s x => Su57.insert x s) s).Pairwise (· <= ·) /\ (l.foldl (fun s x => Su57.insert x s) s).Perm (l ++ s)
 | [], s, h => ⟨h, List.Perm.refl _⟩
 | x :: l, s, h => by
  obtain ⟨h1, h2⟩ := sorted_go l (Su57.insert x s) (insert_sorted x s h)
  refine ⟨h1, h2.trans ?_⟩
  refine (List.Perm.append_left l (insert_perm x s)).trans ?_
  exact List.perm_middle
theorem sorted_is (l : List Nat) : (sorted l).Pairwise (· <= ·) /\ (sorted l).Perm l := by
 have := sorted_go l [] List.Pairwise.nil
 rw [List.append_nil] at this
 exact this
theorem sorted_unique {l s : List Nat} (h1 : s.Pairwise (· <= ·)) (h2 : s.Perm l) : s = sorted l := by
 obtain ⟨q1, q2⟩ := sorted_is l
 exact List.Perm.eq_of_pairwise (fun a b _ _ x y => Nat.le_antisymm x y) h1 q1 (h2.trans q2.symm)
def ordersOf (l : List Nat) : List (List Nat) := levels (sorted l) (sorted l).length [[]]
theorem ordersOf_eq (l : List Nat) : ordersOf l = allOrders l := by
 unfold ordersOf allOrders
 rw [levels_orders, (sorted_is l).2.length_eq]
 have e : (sorted l).filter (fun p => !(([] : List Nat).contains p)) = sorted l := by
  rw [List.filter_eq_self]
  intro x _
  rfl
 rw [e]
 exact List.map_id _
theorem orders_len : ∀ (n : Nat) (l o : List Nat), o ∈ orders n l -> o.length = n
 | 0, l, o, h => by
  have : o = [] := by simpa [orders] using h
  rw [this]; rfl
 | n + 1, l, o, h => by
  obtain ⟨x, _, h2⟩ := List.mem_flatMap.mp h
  obtain ⟨r, hr, rfl⟩ := List.mem_map.mp h2
  rw [List.length_cons, orders_len n _ r hr]
theorem orders_sub : ∀ (n : Nat) (l o : List Nat), o ∈ orders n l -> ∀ x ∈ o, x ∈ l
 | 0, l, o, h, x, hx => by
  have : o = [] := by simpa [orders] using h
  rw [this] at hx; cases hx
 | n + 1, l, o, h, x, hx => by
  obtain ⟨y, hy, h2⟩ := List.mem_flatMap.mp h
  obtain ⟨r, hr, rfl⟩ := List.mem_map.mp h2
  rcases List.mem_cons.mp hx with rfl | hx
  ·exact hy
  ·exact (List.mem_filter.mp (orders_sub n _ r hr x hx)).1
theorem levels_len {l : List Nat} : ∀ (n k : Nat) (os : List (List Nat)), (∀ o ∈ os, o.length = k) -> ∀ o ∈ levels l n os, o.length = k + n
 | 0, _, _, h, o, ho => h o ho
 | n + 1, k, os, h, o, ho => by
  have := levels_len n (k + 1) (longer l os) (fun o' ho' => by
   obtain ⟨o1, h1, h2⟩ := List.mem_flatMap.mp ho'
   obtain ⟨p, _, rfl⟩ := List.mem_map.mp h2
   rw [List.length_append, h o1 h1]
   rfl) o ho
  omega
theorem longer_count (l : List Nat) (os : List (List Nat)) : (longer l os).length <= os.length * l.length := by
 unfold longer
 induction os with
 | nil => simp
 | cons o os ih =>
  rw [List.flatMap_cons, List.length_append, List.length_map, List.length_cons, Nat.succ_mul]
  have := List.length_filter_le (fun p => !(o.contains p)) l
  omega
theorem levels_count (l : List Nat) : ∀ (n : Nat) (os : List (List Nat)), (levels l n os).length <= os.length * l.length ^ n
 | 0, os => by simp [levels]
 | n + 1, os => by
  have h1 := levels_count l n (longer l os)
  have h2 := longer_count l os
  have h3 : (longer l os).length * l.length ^ n <= os.length * l.length * l.length ^ n := Nat.mul_le_mul_right _ h2
  have h4 : os.length * l.length * l.length ^ n = os.length * l.length ^ (n + 1) := by
   rw [Nat.pow_succ, Nat.mul_assoc, Nat.mul_comm l.length]
  show (levels l n (longer l os)).length <= _
  omega
def countMoved (l r : List Nat) : Nat := ((List.range r.length).filter fun k => l.getD k 0 != r.getD k 0).length
theorem filter_range_cons (n : Nat) (f : Nat -> Bool) : ((List.range (n + 1)).filter f).length = (if f 0 = true then 1 else 0) + ((List.range n).filter fun k => f (k + 1)).length := by
 rw [List.range_succ_eq_map, List.filter_cons]
 have : ((List.map Nat.succ (List.range n)).filter f).length = ((List.range n).filter fun k => f (k + 1)).length := by
  rw [List.filter_map, List.length_map]
  rfl
 by_cases h : f 0 = true
 ·rw [if_pos h, if_pos h, List.length_cons, this, Nat.add_comm]
 ·rw [if_neg h, if_neg h, this, Nat.zero_add]
theorem countMoved_eq : ∀ (l r : List Nat), r.length = l.length -> countMoved l r = moved l r
 | [], [], _ => rfl
 | [], _ :: _, h => by cases h
 | _ :: _, [], h => by cases h
 | x :: l, y :: r, h => by
  have ih := countMoved_eq l r (by simpa using h)
  unfold countMoved at ih ⊢
  unfold moved at ih ⊢
  rw [List.length_cons, filter_range_cons, List.zip_cons_cons, List.filter_cons]
  have e : ((List.range r.length).filter fun k => (x :: l).getD (k + 1) 0 != (y :: r).getD (k + 1) 0) = (List.range r.length).filter fun k => l.getD k 0 != r.getD k 0 := by
   refine List.filter_congr fun k _ => ?_
   simp
  rw [e, ih]
  show (if (x != y) = true then 1 else 0) + _ = _
  by_cases hx : (x != y) = true
  ·rw [if_pos hx, if_pos hx, List.length_cons, Nat.add_comm]
  ·rw [if_neg hx, if_neg hx, Nat.zero_add]
def leastF (f : List Nat -> Nat) (l : List (List Nat)) : Option (List Nat) := l.foldl (fun b r => match b with
 | none => some r
 | some x => if f r < f x then some r else some x) none
theorem least_go (f : List Nat -> Nat) : ∀ (l : List (List Nat)) (b : Option (List Nat)), (l.foldl (fun (b : Option (Nat × List Nat)) r =>
  let n := f r
  match b with
  | none => some (n, r)
  | some x => if n < x.1 then some (n, r) else some x) (b.map fun r => (f r, r))) = (l.foldl (fun b r => match b with
  | none => some r
  | some x => if f r < f x then some r else some x) b).map fun r => (f r, r)
 | [], _ => rfl
 | r :: l, none => least_go f l (some r)
 | r :: l, some x => by
  rw [List.foldl_cons, List.foldl_cons, <- least_go f l]
  congr 1
  show (if f r < f x then some (f r, r) else some (f x, x)) = Option.map (fun r => (f r, r)) (if f r < f x then some r else some x)
  by_cases h : f r < f x
  ·rw [if_pos h, if_pos h]; rfl
  ·rw [if_neg h, if_neg h]; rfl
theorem least_eq (f : List Nat -> Nat) (l : List (List Nat)) : least f l = leastF f l := by
 unfold least leastF
 have := least_go f l none
 refine (congrArg (Option.map fun x : Nat × List Nat => x.2) this).trans ?_
 rw [Option.map_map]
 exact Option.map_id'
theorem leastF_mem {f : List Nat -> Nat} {l : List (List Nat)} {r : List Nat} (h : leastF f l = some r) : r ∈ l := by
 unfold leastF at h
 suffices ∀ (l m : List (List Nat)) (b : Option (List Nat)), (∀ x, b = some x -> x ∈ m) -> (∀ x ∈ l, x ∈ m) -> ∀ r, l.foldl (fun b r => match b with
   | none => some r
   | some x => if f r < f x then some r else some x) b = some r -> r ∈ m from this l l none (fun _ e => by cases e) (fun _ e => e) r h
 intro l
 induction l with
 | nil => intro m b hb _ r e; exact hb r e
 | cons y l ih =>
  intro m b hb hl r e
  rw [List.foldl_cons] at e
  refine ih m _ ?_ (fun x hx => hl x (List.mem_cons_of_mem _ hx)) r e
  intro x ex
  cases b with
  | none => cases ex; exact hl _ List.mem_cons_self
  | some z =>
   have ex' : (if f y < f z then some y else some z) = some x := ex
   by_cases q : f y < f z
   ·rw [if_pos q] at ex'; cases ex'; exact hl _ List.mem_cons_self
   ·rw [if_neg q] at ex'; cases ex'; exact hb _ rfl
section
theorem getD_set {l : List Nat} {i j x : Nat} (hi : i < l.length) : (l.set i x).getD j 0 = if j = i then x else l.getD j 0 := by
 by_cases h : j = i
 ·subst h
  rw [if_pos rfl]
  simp [List.getD, hi]
 ·rw [if_neg h]
  simp [List.getD, List.getElem?_set_ne (Ne.symm h)]
theorem getD_map0 (f : Nat -> Nat) (h : f 0 = 0) (l : List Nat) (j : Nat) : (l.map f).getD j 0 = f (l.getD j 0) := by
 simp only [List.getD, List.getElem?_map]
 cases l[j]? with
 | none => exact h.symm
 | some y => rfl
theorem spot_set {g : G} {p q : Nat} {x : Option (Nat × Nat)} (hp : p < g.spots.length) : ({ g with spots := g.spots.set p x } : G).spot q = if q = p then x else g.spot q := by
 unfold G.spot
 by_cases h : q = p
 ·subst h
  rw [if_pos rfl]
  simp [hp]
 ·rw [if_neg h]
  simp [List.getElem?_set_ne (Ne.symm h)]
theorem spot_none {g : G} {p : Nat} (hp : g.spots.length <= p) : g.spot p = none := by
 unfold G.spot
 rw [List.getElem?_eq_none hp]
 rfl
def newG (w f : Nat) (l : List Nat) : G := ⟨w, f, l, [], [], []⟩
theorem rel_begin {w f : Nat} {l : List Nat} (h1 : 0 < w) (h2 : w <= 6) (h3 : l.length <= 5) : Rel (newG w f l) (begun w f l) where
 width := rfl
 face := rfl
 steps := rfl
 people := rfl
 slen := rfl
 clen := by show (List.replicate (w * l.length) 0).length = _; rw [List.length_replicate]; rfl
 cell := fun i p hi => by
  constructor
  ·intro h
   have : (List.replicate (w * l.length) 0).getD i 0 = 0 := by
    simp only [List.getD, List.getElem?_replicate]
    split <;> rfl
   have h' : (List.replicate (w * l.length) 0).getD i 0 = p + 1 := h
   rw [this] at h'
   cases h'
  ·intro h
   rw [spot_none (Nat.zero_le _)] at h
   cases h
 inb := fun p r c h => by
  rw [spot_none (Nat.zero_le _)] at h
  cases h
 wpos := h1
 near := rfl
 apart := rfl
 keys := List.Pairwise.nil
 vals := fun _ h => by cases h
 ord := fun _ h => by cases h
 w6 := h2
 s5 := h3
 h20 := Nat.zero_le _
def G.addPerson (g : G) (h : Nat) : G := { g with heights := g.heights ++ [h], spots := g.spots ++ [none] }
def G.place (g : G) (p r c : Nat) : G := { g with spots := g.spots.set p (some (r, c)) }
def G.takeOff (g : G) (p : Nat) : G := { g with spots := g.spots.set p none }
def G.swap (g : G) (p q : Nat) : G := { g with spots := (g.spots.set p (g.spot q)).set q (g.spot p) }
def G.tell (g : G) (x : Nat × Nat) (w : Nat) : G := { g with pairs := g.pairs ++ [(x, w)] }
def G.forget (g : G) (x : Nat × Nat) : G := { g with pairs := g.pairs.filter fun y => decide (y.1 ≠ x) }
def G.toldOf (g : G) (x : Nat × Nat) : Option Nat := (g.pairs.find? fun y => decide (y.1 = x)).map (·.2)
section
variable {g : G} {a : Abs} (R : Rel g a)
include R
theorem Rel.addPerson (h : Nat) (hl : g.heights.length < 20) : Rel (g.addPerson h) { a with people := a.people ++ [h] } where
 width := R.width
 face := R.face
 steps := R.steps
 people := by show a.people ++ [h] = g.heights ++ [h]; rw [R.people]
 slen := by show (g.spots ++ [none]).length = (g.heights ++ [h]).length; rw [List.length_append, List.length_append, R.slen]; rfl
 clen := R.clen
 cell := fun i p hi => by
  rw [R.cell i p hi]
  have : (g.addPerson h).spot p = g.spot p := by
   unfold G.spot G.addPerson
   show ((g.spots ++ [none])[p]?).getD none = _
   by_cases hp : p < g.spots.length
   ·rw [List.getElem?_append_left hp]
   ·rw [List.getElem?_append_right (Nat.le_of_not_lt hp), List.getElem?_eq_none (Nat.le_of_not_lt hp)]
    cases q : p - g.spots.length <;> rfl
  rw [this]
  rfl
 inb := fun p r c e => by
  refine R.inb p r c ?_
  unfold G.spot G.addPerson at e
  have e' : ((g.spots ++ [none])[p]?).getD none = some (r, c) := e
  unfold G.spot
  by_cases hp : p < g.spots.length
  ·rw [List.getElem?_append_left hp] at e'
   exact e'
  ·rw [List.getElem?_append_right (Nat.le_of_not_lt hp)] at e'
   cases q : p - g.spots.length with
   | zero => rw [q] at e'; cases e'
   | succ n => rw [q] at e'; cases e'
 wpos := R.wpos
 near := R.near
 apart := R.apart
 keys := R.keys
 vals := R.vals
 ord := fun x hx => by
  have := R.ord x hx
  refine ⟨this.1, ?_⟩
  show x.1.2 < (g.heights ++ [h]).length
  rw [List.length_append]
  omega
 w6 := R.w6
 s5 := R.s5
 h20 := by show (g.heights ++ [h]).length <= 20; rw [List.length_append]; exact hl
theorem Rel.off {p : Nat} (hp : p < g.heights.length) : Rel (g.takeOff p) (a.off p) where
 width := R.width
 face := R.face
 steps := R.steps
 people := R.people
 slen := by show (g.spots.set p none).length = _; rw [List.length_set]; exact R.slen
 clen := by show (a.cells.map _).length = _; rw [List.length_map]; exact R.clen
 cell := fun i q hi => by
  have hp' : p < g.spots.length := by rw [R.slen]; exact hp
  show (a.cells.map fun x => if x = p + 1 then 0 else x).getD i 0 = q + 1 ↔ (g.takeOff p).spot q = _
  unfold G.takeOff
  rw [spot_set hp', getD_map0 (fun x => if x = p + 1 then 0 else x) (by simp)]
  show (if a.cells.getD i 0 = p + 1 then 0 else a.cells.getD i 0) = q + 1 ↔ _ = some (i / g.width, i % g.width)
  have hc := R.cell i q hi
  by_cases e : a.cells.getD i 0 = p + 1
  ·rw [if_pos e]
   constructor
   ·intro z; cases z
   ·intro z
    by_cases hq : q = p
    ·rw [if_pos hq] at z; cases z
    ·rw [if_neg hq] at z
     have := hc.mpr z
     omega
  ·rw [if_neg e]
   by_cases hq : q = p
   ·rw [if_pos hq]
    subst hq
    constructor
    ·intro z; exact absurd z e
    ·intro z; cases z
   ·rw [if_neg hq]
    exact hc
 inb := fun q r c e => by
  have hp' : p < g.spots.length := by rw [R.slen]; exact hp
  unfold G.takeOff at e
  rw [spot_set hp'] at e
  by_cases hq : q = p
  ·rw [if_pos hq] at e; cases e
  ·rw [if_neg hq] at e
   exact R.inb q r c e
 wpos := R.wpos
 near := R.near
 apart := R.apart
 keys := R.keys
 vals := R.vals
 ord := R.ord
 w6 := R.w6
 s5 := R.s5
 h20 := R.h20
theorem Rel.put {p r c : Nat} (hp : p < g.heights.length) (hr : r < g.steps.length) (hc : c < g.width) (h0 : g.at? r c = none) : Rel (g.place p r c) ((a.off p).put (r * a.width + c) (p + 1)) := by
 have hp' : p < g.spots.length := by rw [R.slen]; exact hp
 have hi0 := idx_lt hr hc
 have R1 := R.off hp
 have hlen : r * g.width + c < (a.off p).cells.length := by rw [R1.clen]; exact hi0
 have no : ∀ q, g.spot q ≠ some (r, c) := fun q e => by
  rw [R.at_of e] at h0
  cases h0
 refine { width := R.width, face := R.face, steps := R.steps, people := R.people, slen := ?_, clen := ?_, cell := ?_, inb := ?_, wpos := R.wpos, near := R.near, apart := R.apart, keys := R.keys, vals := R.vals, ord := R.ord, w6 := R.w6, s5 := R.s5, h20 := R.h20 }
 ·show (g.spots.set p _).length = _
  rw [List.length_set]; exact R.slen
 ·show ((a.off p).cells.set _ _).length = _
  rw [List.length_set]; exact R1.clen
 ·intro i q hi
  show ((a.off p).cells.set (r * a.width + c) (p + 1)).getD i 0 = q + 1 ↔ (g.place p r c).spot q = some (i / g.width, i % g.width)
  rw [R.width, getD_set hlen]
  unfold G.place
  rw [spot_set hp']
  have h1 := R1.cell i q hi
  unfold G.takeOff at h1
  rw [spot_set hp'] at h1
  by_cases e : i = r * g.width + c
  ·rw [if_pos e]
   have ed : i / g.width = r := by rw [e]; exact idx_div hc
   have em : i % g.width = c := by rw [e]; exact idx_mod hc
   rw [ed, em]
   by_cases hq : q = p
   ·rw [if_pos hq, hq]
    exact ⟨fun _ => rfl, fun _ => rfl⟩
   ·rw [if_neg hq]
    constructor
    ·intro z
     omega
    ·intro z; exact absurd z (no q)
  ·rw [if_neg e, h1]
   by_cases hq : q = p
   ·rw [if_pos hq, if_pos hq]
    constructor
    ·intro z; cases z
    ·intro z
     have z' := Prod.mk.inj (Option.some.inj z)
     exfalso
     apply e
     have b := idx_back i g.width
     have z1 : r = i / g.width := z'.1
     have z2 : c = i % g.width := z'.2
     rw [z1, z2]
     exact b.symm
   ·rw [if_neg hq, if_neg hq]
 ·intro q r' c' e
  unfold G.place at e
  rw [spot_set hp'] at e
  by_cases hq : q = p
  ·rw [if_pos hq] at e
   have z := Prod.mk.inj (Option.some.inj e)
   have z1 : r = r' := z.1
   have z2 : c = c' := z.2
   rw [<- z1, <- z2]
   exact ⟨hr, hc⟩
  ·rw [if_neg hq] at e
   exact R.inb q r' c' e
theorem Rel.swap {p q : Nat} (hpq : p ≠ q) {x y : Nat × Nat} (ep : g.spot p = some x) (eq : g.spot q = some y) : Rel (g.swap p q) ((a.put ((a.place p).getD 0) (q + 1)).put ((a.place q).getD 0) (p + 1)) := by
 obtain ⟨xr, xc⟩ := x
 obtain ⟨yr, yc⟩ := y
 have hp' := spot_lt ep
 have hq' := spot_lt eq
 obtain ⟨ixr, ixc⟩ := R.inb _ _ _ ep
 obtain ⟨iyr, iyc⟩ := R.inb _ _ _ eq
 have nxy : ¬ ((xr, xc) = (yr, yc)) := fun z => hpq (R.inj ep (by rw [eq, z]))
 have e1 : (a.place p).getD 0 = xr * g.width + xc := by rw [R.place_eq, ep]; rfl
 have e2 : (a.place q).getD 0 = yr * g.width + yc := by rw [R.place_eq, eq]; rfl
 have l1 := idx_lt ixr ixc
 have l2 := idx_lt iyr iyc
 have sp : ∀ z, (g.swap p q).spot z = if z = q then some (xr, xc) else if z = p then some (yr, yc) else g.spot z := fun z => by
  unfold G.swap
  have := spot_set (g := { g with spots := g.spots.set p (g.spot q) }) (p := q) (q := z) (x := g.spot p) (by show q < (g.spots.set p _).length; rw [List.length_set]; exact hq')
  rw [show ({ g with spots := (g.spots.set p (g.spot q)).set q (g.spot p) } : G) = { ({ g with spots := g.spots.set p (g.spot q) } : G) with spots := ({ g with spots := g.spots.set p (g.spot q) } : G).spots.set q (g.spot p) } from rfl, this, spot_set hp', ep, eq]
 refine { width := R.width, face := R.face, steps := R.steps, people := R.people, slen := ?_, clen := ?_, cell := ?_, inb := ?_, wpos := R.wpos, near := R.near, apart := R.apart, keys := R.keys, vals := R.vals, ord := R.ord, w6 := R.w6, s5 := R.s5, h20 := R.h20 }
 ·show ((g.spots.set p _).set q _).length = _
  rw [List.length_set, List.length_set]; exact R.slen
 ·show ((a.cells.set _ _).set _ _).length = _
  rw [List.length_set, List.length_set]; exact R.clen
 ·intro i z hi
  show ((a.cells.set _ _).set _ _).getD i 0 = z + 1 ↔ _ = some (i / g.width, i % g.width)
  rw [e1, e2, getD_set (by rw [List.length_set, R.clen]; exact l2), getD_set (by rw [R.clen]; exact l1), sp]
  have hz := R.cell i z hi
  have hat : ∀ r c, c < g.width -> (i = r * g.width + c ↔ (r, c) = (i / g.width, i % g.width)) := fun r c hc => by
   constructor
   ·intro e; rw [e, idx_div hc, idx_mod hc]
   ·intro e
    have := Prod.mk.inj e
    rw [this.1, this.2]
    exact (idx_back i g.width).symm
  by_cases i2 : i = yr * g.width + yc
  ·have k2 := (hat yr yc iyc).mp i2
   rw [if_pos i2]
   by_cases zq : z = q
   ·rw [if_pos zq, zq]
    constructor
    ·intro w; exact absurd (Nat.succ.inj w) hpq
    ·intro w; exact absurd (Option.some.inj w) (by rw [<- k2]; exact nxy)
   ·rw [if_neg zq]
    by_cases zp : z = p
    ·rw [if_pos zp, zp, k2]
     exact ⟨fun _ => rfl, fun _ => rfl⟩
    ·rw [if_neg zp]
     constructor
     ·intro w; exact absurd (Nat.succ.inj w).symm zp
     ·intro w
      rw [<- k2] at w
      exact absurd (R.inj w eq) zq
  ·rw [if_neg i2]
   have n2 : (yr, yc) ≠ (i / g.width, i % g.width) := fun k => i2 ((hat yr yc iyc).mpr k)
   by_cases i1 : i = xr * g.width + xc
   ·have k1 := (hat xr xc ixc).mp i1
    rw [if_pos i1]
    by_cases zq : z = q
    ·rw [if_pos zq, zq, k1]
     exact ⟨fun _ => rfl, fun _ => rfl⟩
    ·rw [if_neg zq]
     constructor
     ·intro w; exact absurd (Nat.succ.inj w).symm zq
     ·intro w
      by_cases zp : z = p
      ·rw [if_pos zp] at w
       exact absurd (Option.some.inj w) n2
      ·rw [if_neg zp, <- k1] at w
       exact absurd (R.inj w ep) zp
   ·have n1 : (xr, xc) ≠ (i / g.width, i % g.width) := fun k => i1 ((hat xr xc ixc).mpr k)
    rw [if_neg i1, hz]
    by_cases zq : z = q
    ·rw [if_pos zq, zq, eq]
     constructor
     ·intro w; exact absurd (Option.some.inj w) n2
     ·intro w; exact absurd (Option.some.inj w) n1
    ·rw [if_neg zq]
     by_cases zp : z = p
     ·rw [if_pos zp, zp, ep]
      constructor
      ·intro w; exact absurd (Option.some.inj w) n1
      ·intro w; exact absurd (Option.some.inj w) n2
     ·rw [if_neg zp]
 ·intro z r c e
  rw [sp] at e
  by_cases zq : z = q
  ·rw [if_pos zq] at e
   have := Prod.mk.inj (Option.some.inj e)
   rw [<- this.1, <- this.2]
   exact ⟨ixr, ixc⟩
  ·rw [if_neg zq] at e
   by_cases zp : z = p
   ·rw [if_pos zp] at e
    have := Prod.mk.inj (Option.some.inj e)
    rw [<- this.1, <- this.2]
    exact ⟨iyr, iyc⟩
   ·rw [if_neg zp] at e
    exact R.inb z r c e
omit R in
theorem has_told (w : Nat) (x : Nat × Nat) : ∀ l : List ((Nat × Nat) × Nat), (l.map (·.1)).Nodup -> (((l.filter fun y => y.2 == w).map (·.1)).contains x) = decide ((l.find? fun y => decide (y.1 = x)).map (·.2) = some w)
 | [], _ => rfl
 | y :: l, hk => by
  obtain ⟨h1, h2⟩ := List.nodup_cons.mp (show (y.1 :: l.map (·.1)).Nodup from hk)
  have ih := has_told w x l h2
  rw [List.find?_cons, List.filter_cons]
  by_cases e : y.1 = x
  ·rw [decide_eq_true e]
   by_cases q : y.2 = w
   ·rw [if_pos (by rw [q]; exact beq_self_eq_true w)]
    simp [e, q]
   ·rw [if_neg (by simpa using q)]
    have : decide (Option.map (·.2) (some y) = some w) = false := decide_eq_false (by simpa using q)
    rw [this]
    rw [Bool.eq_false_iff]
    intro hc
    have hc := List.contains_iff_mem.mp hc
    obtain ⟨z, hz, ez⟩ := List.mem_map.mp hc
    apply h1
    rw [e, <- ez]
    exact List.mem_map_of_mem (List.mem_filter.mp hz).1
  ·rw [decide_eq_false e, <- ih]
   by_cases q : (y.2 == w) = true
   ·rw [if_pos q, List.map_cons, List.contains_cons]
    have : (x == y.1) = false := by rw [beq_eq_false_iff_ne]; exact fun z => e z.symm
    rw [this, Bool.false_or]
   ·rw [if_neg q]
theorem Rel.near_has (x : Nat × Nat) : a.near.contains x = decide (g.toldOf x = some 1) := by
 rw [R.near]
 exact has_told 1 x g.pairs R.keys
theorem Rel.apart_has (x : Nat × Nat) : a.apart.contains x = decide (g.toldOf x = some 2) := by
 rw [R.apart]
 exact has_told 2 x g.pairs R.keys
theorem Rel.told_vals {x : Nat × Nat} {w : Nat} (h : g.toldOf x = some w) : w = 1 ∨ w = 2 := by
 unfold G.toldOf at h
 cases e : g.pairs.find? fun y => decide (y.1 = x) with
 | none => rw [e] at h; cases h
 | some y =>
  rw [e] at h
  cases h
  exact R.vals y (List.mem_of_find?_eq_some e)
omit R in
theorem told_none {x : Nat × Nat} (h : g.toldOf x = none) : x ∉ g.pairs.map (·.1) := by
 unfold G.toldOf at h
 intro hm
 obtain ⟨y, hy, e⟩ := List.mem_map.mp hm
 have := List.find?_eq_none.mp (Option.map_eq_none_iff.mp h) y hy
 rw [e] at this
 simp at this
theorem Rel.tell {x : Nat × Nat} {w : Nat} (h : g.toldOf x = none) (hw : w = 1 ∨ w = 2) (hx : x.1 < x.2 /\ x.2 < g.heights.length) :
  Rel (g.tell x w) (if w = 1 then { a with near := a.near ++ [x] } else { a with apart := a.apart ++ [x] }) := by
 have nd : ((g.pairs ++ [(x, w)]).map (·.1)).Nodup := by
  rw [List.map_append]
  refine List.nodup_append.mpr ⟨R.keys, List.nodup_cons.mpr ⟨by simp, List.Pairwise.nil⟩, fun y hy z hz e => ?_⟩
  have : z = x := by simpa using hz
  rw [e, this] at hy
  exact told_none h hy
 have vl : ∀ y ∈ g.pairs ++ [(x, w)], y.2 = 1 ∨ y.2 = 2 := fun y hy => by
  rcases List.mem_append.mp hy with hy | hy
  ·exact R.vals y hy
  ·have : y = (x, w) := by simpa using hy
   rw [this]; exact hw
 have od : ∀ y ∈ g.pairs ++ [(x, w)], y.1.1 < y.1.2 /\ y.1.2 < g.heights.length := fun y hy => by
  rcases List.mem_append.mp hy with hy | hy
  ·exact R.ord y hy
  ·have : y = (x, w) := by simpa using hy
   rw [this]; exact hx
 rcases hw with rfl | rfl
 ·rw [if_pos rfl]
  refine { width := R.width, face := R.face, steps := R.steps, people := R.people, slen := R.slen, clen := R.clen, cell := R.cell, inb := R.inb, wpos := R.wpos, keys := nd, vals := vl, ord := od, w6 := R.w6, s5 := R.s5, h20 := R.h20, near := ?_, apart := ?_ }
  ·show a.near ++ [x] = ((g.pairs ++ [(x, 1)]).filter _).map _
   rw [List.filter_append, List.map_append, R.near]
   rfl
  ·show a.apart = ((g.pairs ++ [(x, 1)]).filter _).map _
   rw [List.filter_append, List.map_append, R.apart]
   exact (List.append_nil _).symm
 ·rw [if_neg (by decide)]
  refine { width := R.width, face := R.face, steps := R.steps, people := R.people, slen := R.slen, clen := R.clen, cell := R.cell, inb := R.inb, wpos := R.wpos, keys := nd, vals := vl, ord := od, w6 := R.w6, s5 := R.s5, h20 := R.h20, near := ?_, apart := ?_ }
  ·show a.near = ((g.pairs ++ [(x, 2)]).filter _).map _
   rw [List.filter_append, List.map_append, R.near]
   exact (List.append_nil _).symm
  ·show a.apart ++ [x] = ((g.pairs ++ [(x, 2)]).filter _).map _
   rw [List.filter_append, List.map_append, R.apart]
   rfl
omit R in
theorem filter_pairs (l : List ((Nat × Nat) × Nat)) (w : Nat) (x : Nat × Nat) : ((l.filter fun y => decide (y.1 ≠ x)).filter fun y => y.2 == w).map (·.1) = ((l.filter fun y => y.2 == w).map (·.1)).filter fun y => y != x := by
 rw [List.filter_map, List.filter_filter, List.filter_filter]
 congr 1
 refine List.filter_congr fun y _ => ?_
 show (y.2 == w && decide (y.1 ≠ x)) = (y.1 != x && y.2 == w)
 rw [Bool.and_comm]
 congr 1
 by_cases e : y.1 = x
 ·rw [e]; simp
 ·rw [decide_eq_true e]; simp [e]
theorem Rel.forget (x : Nat × Nat) : Rel (g.forget x) { a with near := a.near.filter fun y => y != x, apart := a.apart.filter fun y => y != x } where
 width := R.width
 face := R.face
 steps := R.steps
 people := R.people
 slen := R.slen
 clen := R.clen
 cell := R.cell
 inb := R.inb
 wpos := R.wpos
 near := by
  show a.near.filter _ = ((g.pairs.filter _).filter _).map _
  rw [filter_pairs, R.near]
 apart := by
  show a.apart.filter _ = ((g.pairs.filter _).filter _).map _
  rw [filter_pairs, R.apart]
 keys := by
  show ((g.pairs.filter _).map _).Nodup
  exact List.Nodup.sublist (List.Sublist.map _ List.filter_sublist) R.keys
 vals := fun y hy => R.vals y (List.mem_filter.mp hy).1
 ord := fun y hy => R.ord y (List.mem_filter.mp hy).1
 w6 := R.w6
 s5 := R.s5
 h20 := R.h20
end
end
section
def putAll (a : Abs) (zs : List (Nat × Nat)) : Abs := zs.foldl (fun b x => b.put x.1 (x.2 + 1)) a
theorem putAll_fields : ∀ (zs : List (Nat × Nat)) (a : Abs), (putAll a zs).width = a.width /\ (putAll a zs).face = a.face /\ (putAll a zs).steps = a.steps /\ (putAll a zs).people = a.people /\ (putAll a zs).near = a.near /\ (putAll a zs).apart = a.apart /\ (putAll a zs).cells.length = a.cells.length
 | [], _ => ⟨rfl, rfl, rfl, rfl, rfl, rfl, rfl⟩
 | z :: zs, a => by
  have h := putAll_fields zs (a.put z.1 (z.2 + 1))
  refine ⟨h.1, h.2.1, h.2.2.1, h.2.2.2.1, h.2.2.2.2.1, h.2.2.2.2.2.1, h.2.2.2.2.2.2.trans ?_⟩
  show (a.cells.set _ _).length = _
  rw [List.length_set]
theorem putAll_out : ∀ (zs : List (Nat × Nat)) (a : Abs) (i : Nat), (∀ z ∈ zs, z.1 < a.cells.length) -> (∀ z ∈ zs, z.1 ≠ i) -> (putAll a zs).cells.getD i 0 = a.cells.getD i 0
 | [], _, _, _, _ => rfl
 | z :: zs, a, i, hb, h => by
  have e := putAll_out zs (a.put z.1 (z.2 + 1)) i (fun y hy => by
   show y.1 < (a.cells.set _ _).length
   rw [List.length_set]
   exact hb y (List.mem_cons_of_mem _ hy)) (fun y hy => h y (List.mem_cons_of_mem _ hy))
  refine e.trans ?_
  show (a.cells.set _ _).getD i 0 = _
  rw [getD_set (hb z List.mem_cons_self), if_neg (fun q => h z List.mem_cons_self q.symm)]
theorem putAll_in : ∀ (zs : List (Nat × Nat)) (a : Abs), (∀ z ∈ zs, z.1 < a.cells.length) -> (zs.map (·.1)).Nodup -> ∀ z ∈ zs, (putAll a zs).cells.getD z.1 0 = z.2 + 1
 | [], _, _, _, _, h => by cases h
 | y :: zs, a, hb, hn, z, hz => by
  obtain ⟨h1, h2⟩ := List.nodup_cons.mp (show (y.1 :: zs.map (·.1)).Nodup from hn)
  have hb' : ∀ x ∈ zs, x.1 < (a.put y.1 (y.2 + 1)).cells.length := fun x hx => by
   show x.1 < (a.cells.set _ _).length
   rw [List.length_set]
   exact hb x (List.mem_cons_of_mem _ hx)
  rcases List.mem_cons.mp hz with e | hz
  ·rw [e]
   have e := putAll_out zs (a.put y.1 (y.2 + 1)) y.1 hb' fun x hx q => h1 (List.mem_map.mpr ⟨x, hx, q⟩)
   refine e.trans ?_
   show (a.cells.set _ _).getD y.1 0 = _
   rw [getD_set (hb y List.mem_cons_self), if_pos rfl]
  ·exact putAll_in zs (a.put y.1 (y.2 + 1)) hb' h2 z hz
theorem Rel.rearr {g g' : G} {a : Abs} (R : Rel g a) (ps : List (Nat × Nat)) (l : List Nat) (hl : l.length = ps.length) (hin : ∀ x ∈ ps, x.1 < g.steps.length /\ x.2 < g.width) (hps : ps.Nodup)
  (h1 : ∀ q ∈ l, ∃ x ∈ ps, g.spot q = some x) (h2 : ∀ x ∈ ps, ∃ q ∈ l, g.spot q = some x)
  (e0 : g'.width = g.width /\ g'.face = g.face /\ g'.steps = g.steps /\ g'.heights = g.heights /\ g'.pairs = g.pairs /\ g'.spots.length = g.spots.length)
  (e1 : ∀ (k q : Nat) (x : Nat × Nat), l[k]? = some q -> ps[k]? = some x -> g'.spot q = some x) (e2 : ∀ q, q ∉ l -> g'.spot q = g.spot q) :
  Rel g' (putAll a ((ps.map fun x => x.1 * g.width + x.2).zip l)) := by
 obtain ⟨f1, f2, f3, f4, f5, f6⟩ := e0
 have F := putAll_fields ((ps.map fun x => x.1 * g.width + x.2).zip l) a
 have kz : (((ps.map fun x => x.1 * g.width + x.2).zip l).map (·.1)) = ps.map fun x => x.1 * g.width + x.2 := by
  rw [List.map_fst_zip]
  rw [List.length_map]
  exact Nat.le_of_eq hl.symm
 have idxInj : ∀ x y : Nat × Nat, x ∈ ps -> y ∈ ps -> x.1 * g.width + x.2 = y.1 * g.width + y.2 -> x = y := fun x y hx hy e => by
  have b1 := idx_div (r := x.1) (hin x hx).2
  have b2 := idx_div (r := y.1) (hin y hy).2
  have b3 := idx_mod (r := x.1) (hin x hx).2
  have b4 := idx_mod (r := y.1) (hin y hy).2
  rw [e] at b1 b3
  exact Prod.ext (b1.symm.trans b2) (b3.symm.trans b4)
 have nz : (ps.map fun x => x.1 * g.width + x.2).Nodup := by
  have : ∀ (qs : List (Nat × Nat)), qs.Nodup -> (∀ x ∈ qs, x ∈ ps) -> (qs.map fun x => x.1 * g.width + x.2).Nodup := by
   intro qs
   induction qs with
   | nil => intro _ _; exact List.Pairwise.nil
   | cons x qs ih =>
    intro hn hs
    obtain ⟨n1, n2⟩ := List.nodup_cons.mp hn
    refine List.nodup_cons.mpr ⟨fun hm => ?_, ih n2 fun y hy => hs y (List.mem_cons_of_mem _ hy)⟩
    obtain ⟨y, hy, e⟩ := List.mem_map.mp hm
    have := idxInj y x (hs y (List.mem_cons_of_mem _ hy)) (hs x List.mem_cons_self) e
    exact n1 (this ▸ hy)
  exact this ps hps fun _ h => h
 have bz : ∀ z ∈ (ps.map fun x => x.1 * g.width + x.2).zip l, z.1 < a.cells.length := fun z hz => by
  have : z.1 ∈ ((ps.map fun x => x.1 * g.width + x.2).zip l).map (·.1) := List.mem_map_of_mem hz
  rw [kz] at this
  obtain ⟨x, hx, e⟩ := List.mem_map.mp this
  rw [<- e, R.clen]
  exact idx_lt (hin x hx).1 (hin x hx).2
 refine { width := by rw [F.1, f1]; exact R.width, face := by rw [F.2.1, f2]; exact R.face, steps := by rw [F.2.2.1, f3]; exact R.steps, people := by rw [F.2.2.2.1, f4]; exact R.people, slen := by rw [f6, f4]; exact R.slen, clen := by rw [F.2.2.2.2.2.2, f1, f3]; exact R.clen, cell := ?_, inb := ?_, wpos := by rw [f1]; exact R.wpos, near := by rw [F.2.2.2.2.1, f5]; exact R.near, apart := by rw [F.2.2.2.2.2.1, f5]; exact R.apart, keys := by rw [f5]; exact R.keys, vals := by rw [f5]; exact R.vals, ord := by rw [f5, f4]; exact R.ord, w6 := by rw [f1]; exact R.w6, s5 := by rw [f3]; exact R.s5, h20 := by rw [f4]; exact R.h20 }
 ·intro i q hi
  rw [f1, f3] at hi
  rw [f1]
  by_cases hm : (i / g.width, i % g.width) ∈ ps
  ·obtain ⟨k, hk, ek⟩ := List.mem_iff_getElem.mp hm
   have ek' : ps[k]? = some (i / g.width, i % g.width) := by rw [List.getElem?_eq_getElem hk, ek]
   have hkl : k < l.length := by rw [hl]; exact hk
   have el : l[k]? = some l[k] := List.getElem?_eq_getElem hkl
   have hz : (i, l[k]) ∈ (ps.map fun x => x.1 * g.width + x.2).zip l := by
    refine List.mem_iff_getElem?.mpr ⟨k, ?_⟩
    rw [List.getElem?_zip_eq_some]
    refine ⟨?_, el⟩
    rw [List.getElem?_map, ek']
    show some (i / g.width * g.width + i % g.width) = some i
    rw [idx_back]
   have hv : (putAll a ((ps.map fun x => x.1 * g.width + x.2).zip l)).cells.getD i 0 = l[k] + 1 := putAll_in _ a bz (by rw [kz]; exact nz) _ hz
   rw [hv]
   constructor
   ·intro e
    have e' : l[k] = q := Nat.succ.inj e
    rw [<- e']
    exact e1 k l[k] _ el ek'
   ·intro e
    by_cases hq : q ∈ l
    ·obtain ⟨k', hk', ek2⟩ := List.mem_iff_getElem.mp hq
     have el2 : l[k']? = some q := by rw [List.getElem?_eq_getElem hk', ek2]
     have hk2 : k' < ps.length := by rw [<- hl]; exact hk'
     have ep2 : ps[k']? = some ps[k'] := List.getElem?_eq_getElem hk2
     have e3 := e1 k' q _ el2 ep2
     rw [e] at e3
     have e4 : ps[k] = ps[k'] := by rw [ek]; exact Option.some.inj e3
     have e5 : k = k' := (List.getElem_inj hps).mp e4
     subst e5
     rw [ek2]
    ·rw [e2 q hq] at e
     obtain ⟨q', hq', eq'⟩ := h2 _ hm
     exact absurd (R.inj e eq' ▸ hq') hq
  ·have hv : (putAll a ((ps.map fun x => x.1 * g.width + x.2).zip l)).cells.getD i 0 = a.cells.getD i 0 := by
    refine putAll_out _ a i bz fun z hz e => ?_
    have : z.1 ∈ ((ps.map fun x => x.1 * g.width + x.2).zip l).map (·.1) := List.mem_map_of_mem hz
    rw [kz] at this
    obtain ⟨x, hx, ex⟩ := List.mem_map.mp this
    rw [<- ex] at e
    apply hm
    rw [<- e, idx_div (hin x hx).2, idx_mod (hin x hx).2]
    exact hx
   rw [hv, R.cell i q hi]
   by_cases hq : q ∈ l
   ·constructor
    ·intro e
     obtain ⟨x, hx, ex⟩ := h1 q hq
     rw [e] at ex
     exact absurd (Option.some.inj ex ▸ hx) hm
    ·intro e
     obtain ⟨k', hk', ek2⟩ := List.mem_iff_getElem.mp hq
     have hk2 : k' < ps.length := by rw [<- hl]; exact hk'
     have e3 := e1 k' q _ (by rw [List.getElem?_eq_getElem hk', ek2]) (List.getElem?_eq_getElem hk2)
     rw [e] at e3
     exact absurd (Option.some.inj e3 ▸ List.getElem_mem hk2) hm
   ·rw [e2 q hq]
 ·intro q r c e
  rw [f1, f3]
  by_cases hq : q ∈ l
  ·obtain ⟨k', hk', ek2⟩ := List.mem_iff_getElem.mp hq
   have hk2 : k' < ps.length := by rw [<- hl]; exact hk'
   have e3 := e1 k' q _ (by rw [List.getElem?_eq_getElem hk', ek2]) (List.getElem?_eq_getElem hk2)
   rw [e] at e3
   have := hin _ (List.getElem_mem hk2)
   rw [<- Option.some.inj e3] at this
   exact this
  ·rw [e2 q hq] at e
   exact R.inb q r c e
def G.rowPeople (g : G) (r : Nat) : List Nat := (List.range g.width).filterMap fun c => g.at? r c
def G.colsOf (g : G) (r : Nat) : List Nat := (List.range g.width).filter fun c => (g.at? r c).isSome
def G.rowsOf (g : G) (c : Nat) : List Nat := (List.range g.steps.length).filter fun r => (g.at? r c).isSome
theorem code_some (o : Option Nat) : (code o != 0) = o.isSome := by cases o <;> simp [code]
section
variable {g : G} {a : Abs} (R : Rel g a)
include R
theorem Rel.colsOf_eq (r : Nat) : a.colsOf r = g.colsOf r := by
 unfold Abs.colsOf G.colsOf
 rw [R.width]
 refine List.filter_congr fun c _ => ?_
 rw [R.cell_eq, code_some]
theorem Rel.rowsOf_eq' (c : Nat) : a.rowsOf c = g.rowsOf c := by
 rw [R.rowsOf_eq]
 unfold G.rowsOf
 refine List.filter_congr fun r _ => ?_
 rw [code_some]
theorem Rel.row_eq (r : Nat) : a.row r = g.rowPeople r := by
 unfold Abs.row G.rowPeople
 rw [R.colsOf_eq]
 unfold G.colsOf
 rw [<- code_filterMap]
 have e : (List.range g.width).filter (fun c => (g.at? r c).isSome) = (List.range g.width).filter fun c => code (g.at? r c) != 0 := by
  refine List.filter_congr fun c _ => ?_
  rw [code_some]
 rw [e]
 refine List.map_congr_left fun c _ => ?_
 rw [R.cell_eq]
omit R in
theorem filterMap_len {f : Nat -> Option Nat} : ∀ l : List Nat, (l.filterMap f).length = (l.filter fun c => (f c).isSome).length
 | [] => rfl
 | x :: l => by
  rw [List.filterMap_cons, List.filter_cons]
  cases e : f x with
  | none => exact filterMap_len l
  | some y =>
   show (y :: l.filterMap f).length = ((if (some y).isSome = true then x :: _ else _) : List Nat).length
   rw [if_pos (show (some y).isSome = true from rfl), List.length_cons, List.length_cons, filterMap_len l]
omit R in
theorem filterMap_get {f : Nat -> Option Nat} : ∀ (l : List Nat) (k : Nat) (x : Nat), (l.filter fun c => (f c).isSome)[k]? = some x -> ∃ y, f x = some y /\ (l.filterMap f)[k]? = some y
 | [], k, x, h => by simp at h
 | z :: l, k, x, h => by
  rw [List.filter_cons] at h
  rw [List.filterMap_cons]
  cases e : f z with
  | none =>
   rw [e] at h
   exact filterMap_get l k x h
  | some y =>
   rw [e] at h
   have h' : (z :: l.filter fun c => (f c).isSome)[k]? = some x := h
   cases k with
   | zero =>
    have : z = x := Option.some.inj h'
    subst this
    exact ⟨y, e, rfl⟩
   | succ k => exact filterMap_get l k x h'
theorem Rel.inRow {r : Nat} {l : List Nat} {g' : G} (hr : r < g.steps.length) (hp : l.Perm (g.rowPeople r))
  (e0 : g'.width = g.width /\ g'.face = g.face /\ g'.steps = g.steps /\ g'.heights = g.heights /\ g'.pairs = g.pairs /\ g'.spots.length = g.spots.length)
  (e1 : ∀ (k q c : Nat), l[k]? = some q -> (g.colsOf r)[k]? = some c -> g'.spot q = some (r, c)) (e2 : ∀ q, q ∉ l -> g'.spot q = g.spot q) : Rel g' (a.inRow r l) := by
 have hcol : ∀ c ∈ g.colsOf r, c < g.width /\ ∃ q, g.at? r c = some q := fun c hc => by
  obtain ⟨h1, h2⟩ := List.mem_filter.mp hc
  exact ⟨List.mem_range.mp h1, Option.isSome_iff_exists.mp h2⟩
 have key := R.rearr (g' := g') ((g.colsOf r).map fun c => (r, c)) l (by rw [List.length_map, hp.length_eq]; exact filterMap_len _)
  (fun x hx => by obtain ⟨c, hc, e⟩ := List.mem_map.mp hx; rw [<- e]; exact ⟨hr, (hcol c hc).1⟩)
  (by
   have : (g.colsOf r).Nodup := List.Nodup.sublist List.filter_sublist List.nodup_range
   exact List.Pairwise.map _ (fun a b h e => h (Prod.mk.inj e).2) this)
  (fun q hq => by
   obtain ⟨c, hc, e⟩ := List.mem_filterMap.mp (hp.mem_iff.mp hq)
   exact ⟨(r, c), List.mem_map.mpr ⟨c, List.mem_filter.mpr ⟨hc, by rw [e]; rfl⟩, rfl⟩, at_spot e⟩)
  (fun x hx => by
   obtain ⟨c, hc, e⟩ := List.mem_map.mp hx
   obtain ⟨hc1, q, eq⟩ := hcol c hc
   exact ⟨q, hp.mem_iff.mpr (List.mem_filterMap.mpr ⟨c, List.mem_range.mpr hc1, eq⟩), by rw [<- e]; exact at_spot eq⟩)
  e0 (fun k q x hk hx => by
   rw [List.getElem?_map] at hx
   cases ec : (g.colsOf r)[k]? with
   | none => rw [ec] at hx; cases hx
   | some c =>
    rw [ec] at hx
    have : (r, c) = x := Option.some.inj hx
    rw [<- this]
    exact e1 k q c hk ec) e2
 have : a.inRow r l = putAll a ((((g.colsOf r).map fun c => (r, c)).map fun x => x.1 * g.width + x.2).zip l) := by
  unfold Abs.inRow putAll
  rw [R.colsOf_eq, R.width, List.map_map, List.zip_map_left, List.foldl_map]
  rfl
 rw [this]
 exact key
theorem Rel.inColumn {c : Nat} {l : List Nat} {g' : G} (hc : c < g.width) (hp : l.Perm (g.colPeople c))
  (e0 : g'.width = g.width /\ g'.face = g.face /\ g'.steps = g.steps /\ g'.heights = g.heights /\ g'.pairs = g.pairs /\ g'.spots.length = g.spots.length)
  (e1 : ∀ (k q r : Nat), l[k]? = some q -> (g.rowsOf c)[k]? = some r -> g'.spot q = some (r, c)) (e2 : ∀ q, q ∉ l -> g'.spot q = g.spot q) : Rel g' (a.inColumn c l) := by
 have hrow : ∀ r ∈ g.rowsOf c, r < g.steps.length /\ ∃ q, g.at? r c = some q := fun r hr => by
  obtain ⟨h1, h2⟩ := List.mem_filter.mp hr
  exact ⟨List.mem_range.mp h1, Option.isSome_iff_exists.mp h2⟩
 have key := R.rearr (g' := g') ((g.rowsOf c).map fun r => (r, c)) l (by rw [List.length_map, hp.length_eq]; exact filterMap_len _)
  (fun x hx => by obtain ⟨r, hr, e⟩ := List.mem_map.mp hx; rw [<- e]; exact ⟨(hrow r hr).1, hc⟩)
  (by
   have : (g.rowsOf c).Nodup := List.Nodup.sublist List.filter_sublist List.nodup_range
   exact List.Pairwise.map _ (fun a b h e => h (Prod.mk.inj e).1) this)
  (fun q hq => by
   obtain ⟨r, hr, e⟩ := List.mem_filterMap.mp (hp.mem_iff.mp hq)
   exact ⟨(r, c), List.mem_map.mpr ⟨r, List.mem_filter.mpr ⟨hr, by rw [e]; rfl⟩, rfl⟩, at_spot e⟩)
  (fun x hx => by
   obtain ⟨r, hr, e⟩ := List.mem_map.mp hx
   obtain ⟨hr1, q, eq⟩ := hrow r hr
   exact ⟨q, hp.mem_iff.mpr (List.mem_filterMap.mpr ⟨r, List.mem_range.mpr hr1, eq⟩), by rw [<- e]; exact at_spot eq⟩)
  e0 (fun k q x hk hx => by
   rw [List.getElem?_map] at hx
   cases ec : (g.rowsOf c)[k]? with
   | none => rw [ec] at hx; cases hx
   | some r =>
    rw [ec] at hx
    have : (r, c) = x := Option.some.inj hx
    rw [<- this]
    exact e1 k q r hk ec) e2
 have : a.inColumn c l = putAll a ((((g.rowsOf c).map fun r => (r, c)).map fun x => x.1 * g.width + x.2).zip l) := by
  unfold Abs.inColumn putAll
  rw [R.rowsOf_eq', R.width, List.map_map, List.zip_map_left, List.foldl_map]
  rfl
 rw [this]
 exact key
end
end
section
def G.close (g : G) (p q : Nat) : Bool := match g.spot p, g.spot q with
 | some s, some t => beside2 s t || behind2 s t
 | _, _ => false
def G.grid (g : G) : List (Nat × Nat) := (List.range g.steps.length).flatMap fun r => (List.range g.width).map fun c => (r, c)
theorem range_grid (w n : Nat) : List.range (w * n) = (List.range n).flatMap fun r => (List.range w).map fun c => r * w + c := by
 induction n with
 | zero => rfl
 | succ n ih =>
  rw [Nat.mul_succ, List.range_add, ih, List.range_succ, List.flatMap_append, List.flatMap_cons, List.flatMap_nil, List.append_nil]
  congr 1
  refine List.map_congr_left fun c _ => ?_
  rw [Nat.mul_comm w n]
theorem grid_mem {g : G} {x : Nat × Nat} (h : x ∈ g.grid) : x.1 < g.steps.length /\ x.2 < g.width := by
 unfold G.grid at h
 obtain ⟨r, hr, h2⟩ := List.mem_flatMap.mp h
 obtain ⟨c, hc, rfl⟩ := List.mem_map.mp h2
 exact ⟨List.mem_range.mp hr, List.mem_range.mp hc⟩
theorem range_cells (g : G) : List.range (g.width * g.steps.length) = g.grid.map fun x => x.1 * g.width + x.2 := by
 rw [range_grid]
 unfold G.grid
 rw [List.map_flatMap]
 congr 1
 funext r
 rw [List.map_map]
 rfl
theorem flat_congr {α β : Type} {f h : α -> List β} : ∀ {l : List α}, (∀ x ∈ l, f x = h x) -> l.flatMap f = l.flatMap h
 | [], _ => rfl
 | x :: l, e => by
  rw [List.flatMap_cons, List.flatMap_cons, e x List.mem_cons_self, flat_congr fun y hy => e y (List.mem_cons_of_mem _ hy)]
theorem find_congr {α : Type} {f h : α -> Bool} : ∀ {l : List α}, (∀ x ∈ l, f x = h x) -> l.find? f = l.find? h
 | [], _ => rfl
 | x :: l, e => by
  rw [List.find?_cons, List.find?_cons, e x List.mem_cons_self, find_congr fun y hy => e y (List.mem_cons_of_mem _ hy)]
section
variable {g : G} {a : Abs} (R : Rel g a)
include R
theorem Rel.cells_row (r : Nat) : (List.range a.width).map (fun c => a.cell r c) = (List.range g.width).map fun c => code (g.at? r c) := by
 rw [R.width]
 refine List.map_congr_left fun c _ => ?_
 rw [R.cell_eq]
theorem Rel.close_list (p : Nat) : (a.ps.filter fun q => a.close p q) = (List.range g.spots.length).filter fun q => g.close p q := by
 rw [R.ps_eq]
 refine List.filter_congr fun q _ => ?_
 rw [R.close_eq]
 rfl
theorem Rel.cell_at {x : Nat × Nat} (h : x ∈ g.grid) : a.cells.getD (x.1 * g.width + x.2) 0 = code (g.at? x.1 x.2) := by
 obtain ⟨h1, h2⟩ := grid_mem h
 have := R.cell_eq x.1 x.2
 unfold Abs.cell at this
 rw [R.width, R.rows, if_pos ⟨h2, h1⟩] at this
 exact this
theorem Rel.free_eq : ((List.range a.cells.length).filter fun i => a.cells.getD i 0 == 0) = (g.grid.filter fun x => (g.at? x.1 x.2).isNone).map fun x => x.1 * g.width + x.2 := by
 rw [R.clen, range_cells, List.filter_map]
 congr 1
 refine List.filter_congr fun x hx => ?_
 show (a.cells.getD (x.1 * g.width + x.2) 0 == 0) = _
 rw [R.cell_at hx]
 cases g.at? x.1 x.2 with
 | none => rfl
 | some p => rfl
theorem Rel.free_nums : (((List.range a.cells.length).filter fun i => a.cells.getD i 0 == 0).flatMap fun i => [i / a.width, i % a.width]) = (g.grid.filter fun x => (g.at? x.1 x.2).isNone).flatMap fun x => [x.1, x.2] := by
 rw [R.free_eq, R.width, List.flatMap_map]
 refine flat_congr fun x hx => ?_
 have h2 := (grid_mem (List.mem_filter.mp hx).1).2
 show [(x.1 * g.width + x.2) / g.width, (x.1 * g.width + x.2) % g.width] = _
 rw [idx_div h2, idx_mod h2]
theorem Rel.spare_eq {p : Nat} (h : (g.spot p).isSome = true) : a.spare p = ((g.colPeople (g.col p)).filter fun o => decide (g.row o < g.row p)).map g.head := by
 obtain ⟨⟨r, c⟩, e⟩ := Option.isSome_iff_exists.mp h
 obtain ⟨e1, e2⟩ := spot_row e
 obtain ⟨hr, hc⟩ := R.inb p r c e
 unfold Abs.spare
 rw [R.rowOf_eq, R.colOf_eq, e1, e2]
 unfold G.colPeople
 rw [filter_filterMap' (fun r => g.at? r c) _ (fun r' => decide (r' < r) && true)]
 ·rw [range_filter_lt _ _ (Nat.le_of_lt hr), List.filter_eq_self.mpr (fun _ _ => rfl), <- code_filterMap, List.map_map]
  have ef : (List.range r).filter (fun r' => a.cell r' c != 0) = (List.range r).filter (fun r' => code (g.at? r' c) != 0) := by
   refine List.filter_congr fun r' _ => ?_
   rw [R.cell_eq]
  rw [ef]
  refine List.map_congr_left fun r' hr' => ?_
  have hne := (List.mem_filter.mp hr').2
  rw [R.top_eq, R.cell_eq]
  cases q : g.at? r' c with
  | none => rw [q] at hne; cases hne
  | some o =>
   show g.step r' + g.height (o + 1 - 1) = g.head (code (g.at? r' c) - 1)
   rw [q]
   show g.step r' + g.height o = g.head o
   unfold G.head
   rw [(spot_row (at_spot q)).1]
 ·intro r' _ o ho
  have hs := at_spot ho
  rw [(spot_row hs).1, Bool.and_true]
theorem Rel.placed_len : (a.ps.filter a.placed).length = ((List.range g.spots.length).filter fun p => (g.spot p).isSome).length := by
 rw [R.ps_eq]
 congr 1
 refine List.filter_congr fun p _ => ?_
 exact R.placed_eq p
theorem Rel.seen_len : (a.ps.filter a.seen).length = ((List.range g.spots.length).filter g.seen).length := by
 rw [R.ps_eq]
 congr 1
 refine List.filter_congr fun p _ => ?_
 exact R.seen_eq p
omit R in
theorem off_off (a : Abs) (p : Nat) : (a.off p).off p = a.off p := by
 unfold Abs.off
 show ({ a with cells := (a.cells.map fun x => if x = p + 1 then 0 else x).map fun x => if x = p + 1 then 0 else x } : Abs) = _
 rw [List.map_map]
 congr 1
 refine List.map_congr_left fun x _ => ?_
 show (if (if x = p + 1 then 0 else x) = p + 1 then 0 else if x = p + 1 then 0 else x) = _
 by_cases h : x = p + 1
 ·rw [if_pos h, if_neg (by omega)]
 ·rw [if_neg h, if_neg h]
def G.okPlace (g : G) (p : Nat) (x : Nat × Nat) : Bool := ((g.takeOff p).at? x.1 x.2).isNone && (((g.takeOff p).place p x.1 x.2).seen p && ((List.range g.spots.length).all fun q => q == p || !((g.takeOff p).seen q) || ((g.takeOff p).place p x.1 x.2).seen q))
theorem Rel.good_eq {p : Nat} (hp : p < g.heights.length) : a.good p = (g.grid.find? (g.okPlace p)).map fun x => x.1 * g.width + x.2 := by
 have R0 := R.off hp
 have gg : (g.takeOff p).grid = g.grid := rfl
 unfold Abs.good
 show ((List.range (a.off p).cells.length).find? fun i => (a.off p).cells.getD i 0 == 0 && (((a.off p).put i (p + 1)).seen p && ((a.off p).ps.all fun q => q == p || !((a.off p).seen q) || ((a.off p).put i (p + 1)).seen q))) = _
 rw [R0.clen]
 show ((List.range (g.width * g.steps.length)).find? _) = _
 rw [range_cells, List.find?_map]
 congr 1
 have key : ∀ x ∈ g.grid, ((a.off p).cells.getD (x.1 * g.width + x.2) 0 == 0 && (((a.off p).put (x.1 * g.width + x.2) (p + 1)).seen p && ((a.off p).ps.all fun q => q == p || !((a.off p).seen q) || ((a.off p).put (x.1 * g.width + x.2) (p + 1)).seen q))) = g.okPlace p x := fun x hx => by
  obtain ⟨h1, h2⟩ := grid_mem hx
  unfold G.okPlace
  have hc : (a.off p).cells.getD (x.1 * g.width + x.2) 0 = code ((g.takeOff p).at? x.1 x.2) := R0.cell_at (x := x) (by rw [gg]; exact hx)
  rw [hc]
  cases q : (g.takeOff p).at? x.1 x.2 with
  | some y => rfl
  | none =>
   have R1 := R0.put (p := p) (r := x.1) (c := x.2) hp h1 h2 q
   rw [off_off, R0.width] at R1
   have R1 : Rel ((g.takeOff p).place p x.1 x.2) ((a.off p).put (x.1 * g.width + x.2) (p + 1)) := R1
   show (((a.off p).put (x.1 * g.width + x.2) (p + 1)).seen p && _) = (((g.takeOff p).place p x.1 x.2).seen p && _)
   rw [R1.seen_eq]
   congr 1
   rw [R0.ps_eq]
   have el : (g.takeOff p).spots.length = g.spots.length := by show (g.spots.set p none).length = _; rw [List.length_set]
   rw [el]
   congr 1
   funext y
   rw [R0.seen_eq, R1.seen_eq]
 exact find_congr key
end
end
section
theorem perm_filter {x : Nat} {l : List Nat} (hn : l.Nodup) (hx : x ∈ l) : (x :: l.filter fun y => y != x).Perm l := by
 have h1 := List.perm_cons_erase hx
 rw [hn.erase_eq_filter] at h1
 exact h1.symm
theorem orders_perm : ∀ (n : Nat) (l o : List Nat), l.Nodup -> l.length = n -> o ∈ orders n l -> o.Perm l
 | 0, l, o, _, hl, h => by
  have e1 : o = [] := by simpa [orders] using h
  have e2 : l = [] := List.eq_nil_of_length_eq_zero hl
  rw [e1, e2]
 | n + 1, l, o, hn, hl, h => by
  obtain ⟨x, hx, h2⟩ := List.mem_flatMap.mp h
  obtain ⟨r, hr, rfl⟩ := List.mem_map.mp h2
  have hp := perm_filter hn hx
  have hlen : (l.filter fun y => y != x).length = n := by
   have := hp.length_eq
   rw [List.length_cons] at this
   omega
  have ih := orders_perm n _ r (hn.filter _) hlen hr
  exact (List.Perm.cons x ih).trans hp
theorem mem_orders : ∀ (n : Nat) (l o : List Nat), l.Nodup -> l.length = n -> o.Perm l -> o ∈ orders n l
 | 0, l, o, _, hl, h => by
  have e2 : l = [] := List.eq_nil_of_length_eq_zero hl
  subst e2
  have e1 : o = [] := h.eq_nil
  rw [e1]
  exact List.mem_singleton.mpr rfl
 | n + 1, l, o, hn, hl, h => by
  cases o with
  | nil =>
   have := h.length_eq
   rw [hl] at this
   cases this
  | cons x r =>
   have hx : x ∈ l := h.mem_iff.mp List.mem_cons_self
   have hp := perm_filter hn hx
   have hr : r.Perm (l.filter fun y => y != x) := List.Perm.cons_inv (h.trans hp.symm)
   have hlen : (l.filter fun y => y != x).length = n := by
    have := hp.length_eq
    rw [List.length_cons] at this
    omega
   refine List.mem_flatMap.mpr ⟨x, hx, List.mem_map.mpr ⟨r, mem_orders n _ r (hn.filter _) hlen hr, rfl⟩⟩
theorem allOrders_perm {l o : List Nat} (hn : l.Nodup) (h : o ∈ allOrders l) : o.Perm l := by
 have sp := (sorted_is l).2
 exact (orders_perm _ _ o (sp.nodup_iff.mpr hn) sp.length_eq h).trans sp
theorem mem_allOrders {l o : List Nat} (hn : l.Nodup) (h : o.Perm l) : o ∈ allOrders l := by
 have sp := (sorted_is l).2
 exact mem_orders _ _ o (sp.nodup_iff.mpr hn) sp.length_eq (h.trans sp.symm)
theorem leastF_some {f : List Nat -> Nat} {l : List (List Nat)} (h : l ≠ []) : ∃ r, leastF f l = some r := by
 unfold leastF
 suffices ∀ (l : List (List Nat)) (b : Option (List Nat)), l ≠ [] ∨ b.isSome = true -> ∃ r, l.foldl (fun b r => match b with
   | none => some r
   | some x => if f r < f x then some r else some x) b = some r from this l none (.inl h)
 intro l
 induction l with
 | nil =>
  intro b hb
  rcases hb with hb | hb
  ·exact absurd rfl hb
  ·exact Option.isSome_iff_exists.mp hb
 | cons y l ih =>
  intro b _
  rw [List.foldl_cons]
  refine ih _ (.inr ?_)
  cases b with
  | none => rfl
  | some x =>
   show (if f y < f x then some y else some x).isSome = true
   split <;> rfl
theorem rowPeople_nodup (g : G) (r : Nat) : (g.rowPeople r).Nodup := by
 unfold G.rowPeople
 refine List.Pairwise.filterMap _ ?_ List.nodup_range
 intro c c' hcc q hq q' hq' e
 rw [e] at hq
 have z := (at_spot hq).symm.trans (at_spot hq')
 exact hcc (Prod.mk.inj (Option.some.inj z)).2
theorem colPeople_nodup (g : G) (c : Nat) : (g.colPeople c).Nodup := by
 unfold G.colPeople
 refine List.Pairwise.filterMap _ ?_ List.nodup_range
 intro r r' hrr q hq q' hq' e
 rw [e] at hq
 have z := (at_spot hq).symm.trans (at_spot hq')
 exact hrr (Prod.mk.inj (Option.some.inj z)).1
theorem row_mem {g : G} {r o : Nat} (h : o ∈ g.rowPeople r) : ∃ c, c < g.width /\ g.spot o = some (r, c) := by
 unfold G.rowPeople at h
 obtain ⟨c, hc, e⟩ := List.mem_filterMap.mp h
 exact ⟨c, List.mem_range.mp hc, at_spot e⟩
theorem rowPeople_len (g : G) (r : Nat) : (g.rowPeople r).length <= g.width := by
 unfold G.rowPeople
 have := List.length_filterMap_le (fun c => g.at? r c) (List.range g.width)
 rw [List.length_range] at this
 exact this
section
variable {g : G} {a : Abs} (R : Rel g a)
include R
theorem Rel.rises_iff : ∀ l : List Nat, a.rises l = true ↔ ∀ i, i + 1 < l.length -> g.height (l.getD i 0) <= g.height (l.getD (i + 1) 0)
 | [] => ⟨fun _ i hi => by simp at hi, fun _ => rfl⟩
 | [p] => ⟨fun _ i hi => by simp at hi, fun _ => rfl⟩
 | p :: q :: l => by
  have ih := Rel.rises_iff (q :: l)
  show (decide (a.height p <= a.height q) && a.rises (q :: l)) = true ↔ _
  rw [Bool.and_eq_true, ih, decide_eq_true_iff, R.height_eq, R.height_eq]
  constructor
  ·rintro ⟨h1, h2⟩ i hi
   cases i with
   | zero => exact h1
   | succ i => exact h2 i (by simpa using hi)
  ·intro h
   exact ⟨h 0 (by simp), fun i hi => h (i + 1) (by simpa using hi)⟩
theorem Rel.falls_iff : ∀ l : List Nat, a.falls l = true ↔ ∀ i, i + 1 < l.length -> g.height (l.getD (i + 1) 0) <= g.height (l.getD i 0)
 | [] => ⟨fun _ i hi => by simp at hi, fun _ => rfl⟩
 | [p] => ⟨fun _ i hi => by simp at hi, fun _ => rfl⟩
 | p :: q :: l => by
  have ih := Rel.falls_iff (q :: l)
  show (decide (a.height q <= a.height p) && a.falls (q :: l)) = true ↔ _
  rw [Bool.and_eq_true, ih, decide_eq_true_iff, R.height_eq, R.height_eq]
  constructor
  ·rintro ⟨h1, h2⟩ i hi
   cases i with
   | zero => exact h1
   | succ i => exact h2 i (by simpa using hi)
  ·intro h
   exact ⟨h 0 (by simp), fun i hi => h (i + 1) (by simpa using hi)⟩
theorem Rel.hill_iff (l : List Nat) : a.hill l = true ↔ ∃ k, k <= l.length /\ ∀ i, i + 1 < l.length -> (i < k -> g.height (l.getD i 0) <= g.height (l.getD (i + 1) 0)) /\ (k <= i -> g.height (l.getD (i + 1) 0) <= g.height (l.getD i 0)) := by
 unfold Abs.hill
 rw [List.any_eq_true]
 constructor
 ·rintro ⟨k, hk, h⟩
  rw [Bool.and_eq_true, R.rises_iff, R.falls_iff] at h
  obtain ⟨h1, h2⟩ := h
  have hk' := List.mem_range.mp hk
  refine ⟨k, by omega, fun i hi => ⟨fun hik => ?_, fun hki => ?_⟩⟩
  ·have := h1 i (by rw [List.length_take]; omega)
   simp only [List.getD_eq_getElem?_getD, List.getElem?_take] at this ⊢
   rw [if_pos (by omega), if_pos (by omega)] at this
   exact this
  ·have := h2 (i - k) (by rw [List.length_drop]; omega)
   simp only [List.getD_eq_getElem?_getD, List.getElem?_drop] at this ⊢
   rw [show k + (i - k + 1) = i + 1 by omega, show k + (i - k) = i by omega] at this
   exact this
 ·rintro ⟨k, hk, h⟩
  refine ⟨k, List.mem_range.mpr (by omega), ?_⟩
  rw [Bool.and_eq_true, R.rises_iff, R.falls_iff]
  refine ⟨fun i hi => ?_, fun i hi => ?_⟩
  ·rw [List.length_take] at hi
   have := (h i (by omega)).1 (by omega)
   simp only [List.getD_eq_getElem?_getD, List.getElem?_take] at this ⊢
   rw [if_pos (by omega), if_pos (by omega)]
   exact this
  ·rw [List.length_drop] at hi
   have := (h (k + i) (by omega)).2 (by omega)
   simp only [List.getD_eq_getElem?_getD, List.getElem?_drop] at this ⊢
   exact this
theorem Rel.hill_some {l : List Nat} (hn : l.Nodup) : ∃ o ∈ allOrders l, a.hill o = true := by
 have hp : (l.mergeSort fun p q => decide (g.height p <= g.height q)).Perm l := List.mergeSort_perm _ _
 have hs := List.pairwise_mergeSort (le := fun p q => decide (g.height p <= g.height q)) (fun x y z h1 h2 => by simp at h1 h2 ⊢; omega) (fun x y => by simp; omega) l
 refine ⟨_, mem_allOrders hn hp, (R.hill_iff _).mpr ⟨_, Nat.le_refl _, fun i hi => ⟨fun _ => ?_, fun h => by omega⟩⟩⟩
 have := List.pairwise_iff_getElem.mp hs i (i + 1) (by omega) hi (by omega)
 rw [decide_eq_true_iff] at this
 rw [List.getD_eq_getElem?_getD, List.getD_eq_getElem?_getD, List.getElem?_eq_getElem (by omega), List.getElem?_eq_getElem hi]
 exact this
theorem Rel.shaped_is (r : Nat) : ∃ o, leastF (moved (g.rowPeople r)) ((allOrders (g.rowPeople r)).filter a.hill) = some o /\ a.shaped r = o /\ o.Perm (g.rowPeople r) /\ o.length = (g.rowPeople r).length := by
 obtain ⟨h, h1, h2⟩ := R.hill_some (rowPeople_nodup g r)
 obtain ⟨o, ho⟩ := leastF_some (f := moved (g.rowPeople r)) (l := (allOrders (g.rowPeople r)).filter a.hill) (List.ne_nil_of_mem (List.mem_filter.mpr ⟨h1, h2⟩))
 have hm := (List.mem_filter.mp (leastF_mem ho)).1
 have hp := allOrders_perm (rowPeople_nodup g r) hm
 refine ⟨o, ho, ?_, hp, hp.length_eq⟩
 unfold Abs.shaped
 rw [least_eq, R.row_eq, ho]
 rfl
theorem Rel.pleased_is (r : Nat) : ∃ o, leastF (fun l => a.near.length - a.meets (g.colsOf r) l) (allOrders (g.rowPeople r)) = some o /\ a.pleased r = o /\ o.Perm (g.rowPeople r) /\ o.length = (g.rowPeople r).length := by
 obtain ⟨o, ho⟩ := leastF_some (f := fun l => a.near.length - a.meets (g.colsOf r) l) (l := allOrders (g.rowPeople r)) (List.ne_nil_of_mem (mem_allOrders (rowPeople_nodup g r) (List.Perm.refl _)))
 have hp := allOrders_perm (rowPeople_nodup g r) (leastF_mem ho)
 refine ⟨o, ho, ?_, hp, hp.length_eq⟩
 unfold Abs.pleased
 rw [least_eq, R.row_eq, R.colsOf_eq, ho]
 rfl
omit R in
def mostF (f : List Nat -> Nat) (l : List (List Nat)) : Option (List Nat) := l.foldl (fun b r => match b with
 | none => some r
 | some x => if f x < f r then some r else some x) none
omit R in
theorem most_least {f : List Nat -> Nat} {n : Nat} (hb : ∀ l, f l <= n) (l : List (List Nat)) : leastF (fun r => n - f r) l = mostF f l := by
 unfold leastF mostF
 congr 1
 funext b r
 cases b with
 | none => rfl
 | some x =>
  show (if n - f r < n - f x then some r else some x) = if f x < f r then some r else some x
  have h1 := hb r
  have h2 := hb x
  by_cases h : f x < f r
  ·rw [if_pos h, if_pos (by omega)]
  ·rw [if_neg h, if_neg (by omega)]
omit R in
theorem meets_le (cs l : List Nat) : a.meets cs l <= a.near.length := by
 unfold Abs.meets
 exact List.length_filter_le _ _
end
end
theorem pair_sym (p q : Nat) (h : p ≠ q) : pair p q = pair q p := by
 unfold pair
 split <;> split <;> first | rfl | omega
theorem pair_lt {p q : Nat} (h : p ≠ q) : (pair p q).1 < (pair p q).2 := by
 unfold pair
 split
 ·assumption
 ·show q < p; omega
theorem pair_cases (p q : Nat) (x : Nat × Nat) (hx : x.1 < x.2) : pair p q = x ↔ (p = x.1 /\ q = x.2) ∨ (p = x.2 /\ q = x.1) := by
 unfold pair
 constructor
 ·split
  ·intro e; rw [<- e]; exact .inl ⟨rfl, rfl⟩
  ·intro e; rw [<- e]; exact .inr ⟨rfl, rfl⟩
 ·rintro (⟨rfl, rfl⟩ | ⟨rfl, rfl⟩)
  ·rw [if_pos hx]
  ·rw [if_neg (by omega)]
theorem getD_inj {l : List Nat} (hn : l.Nodup) {i j : Nat} (hi : i < l.length) (hj : j < l.length) (h : l.getD i 0 = l.getD j 0) : i = j := by
 rw [List.getD_eq_getElem?_getD, List.getD_eq_getElem?_getD, List.getElem?_eq_getElem hi, List.getElem?_eq_getElem hj] at h
 exact (List.getElem_inj hn).mp h
theorem nodup_perm {α : Type} [DecidableEq α] {l m : List α} (h1 : l.Nodup) (h2 : m.Nodup) (h : ∀ x, x ∈ l ↔ x ∈ m) : l.Perm m := by
 rw [List.perm_iff_count]
 intro x
 rw [h1.count, h2.count]
 by_cases q : x ∈ l
 ·rw [if_pos q, if_pos ((h x).mp q)]
 ·rw [if_neg q, if_neg (fun z => q ((h x).mpr z))]
def adjMet (near : List (Nat × Nat)) (cs l : List Nat) : List Nat := (List.range (l.length - 1)).filter fun i => cs.getD i 0 + 1 == cs.getD (i + 1) 0 && near.contains (pair (l.getD i 0) (l.getD (i + 1) 0))
theorem meets_adj {a : Abs} {cs l : List Nat} (hl : l.Nodup) (hn : a.near.Nodup) (ho : ∀ x ∈ a.near, x.1 < x.2) : a.meets cs l = (adjMet a.near cs l).length := by
 unfold Abs.meets
 have ne : ∀ i, i < l.length - 1 -> l.getD i 0 ≠ l.getD (i + 1) 0 := fun i hi e => by
  have := getD_inj hl (by omega) (by omega) e
  omega
 rw [<- List.length_map (f := fun i => pair (l.getD i 0) (l.getD (i + 1) 0)) (as := adjMet a.near cs l)]
 refine (nodup_perm (hn.filter _) ?_ fun x => ?_).length_eq
 ·have hr : (adjMet a.near cs l).Nodup := List.Pairwise.filter _ List.nodup_range
  rw [List.Nodup, List.pairwise_map]
  refine List.Pairwise.imp_of_mem (fun {i j} hi hj hne e => hne ?_) hr
  have hi' := List.mem_range.mp (List.mem_filter.mp hi).1
  have hj' := List.mem_range.mp (List.mem_filter.mp hj).1
  rcases (pair_cases _ _ _ (pair_lt (ne j hj'))).mp e with ⟨e1, e2⟩ | ⟨e1, e2⟩
  ·unfold pair at e1 e2
   split at e1
   ·exact getD_inj hl (by omega) (by omega) e1
   ·rename_i hc
    rw [if_neg hc] at e2
    have q1 : i = j + 1 := getD_inj hl (by omega) (by omega) e1
    have q2 : i + 1 = j := getD_inj hl (by omega) (by omega) e2
    omega
  ·unfold pair at e1 e2
   split at e1
   ·rename_i hc
    rw [if_pos hc] at e2
    have q1 : i = j + 1 := getD_inj hl (by omega) (by omega) e1
    have q2 : i + 1 = j := getD_inj hl (by omega) (by omega) e2
    omega
   ·exact getD_inj hl (by omega) (by omega) e1
 ·rw [List.mem_filter, List.mem_map, List.any_eq_true]
  constructor
  ·rintro ⟨hx, i, hi, h⟩
   have hi' := List.mem_range.mp hi
   simp only [Bool.and_eq_true, Bool.or_eq_true, beq_iff_eq] at h
   have hp : pair (l.getD i 0) (l.getD (i + 1) 0) = x := (pair_cases _ _ _ (ho x hx)).mpr h.2
   refine ⟨i, List.mem_filter.mpr ⟨hi, ?_⟩, hp⟩
   rw [Bool.and_eq_true]
   refine ⟨by rw [beq_iff_eq]; exact h.1, ?_⟩
   rw [hp]
   exact List.contains_iff_mem.mpr hx
  ·rintro ⟨i, hi, hp⟩
   obtain ⟨h1, h2⟩ := List.mem_filter.mp hi
   rw [Bool.and_eq_true, beq_iff_eq] at h2
   have hx : x ∈ a.near := by rw [<- hp]; exact List.contains_iff_mem.mp h2.2
   refine ⟨hx, i, h1, ?_⟩
   simp only [Bool.and_eq_true, Bool.or_eq_true, beq_iff_eq]
   exact ⟨h2.1, (pair_cases _ _ _ (ho x hx)).mp hp⟩
theorem Rel.near_nodup {g : G} {a : Abs} (R : Rel g a) : a.near.Nodup := by
 rw [R.near]
 exact List.Nodup.sublist (List.Sublist.map _ List.filter_sublist) R.keys
theorem Rel.near_lt {g : G} {a : Abs} (R : Rel g a) : ∀ x ∈ a.near, x.1 < x.2 /\ x.2 < g.heights.length := fun x hx => by
 rw [R.near] at hx
 obtain ⟨y, hy, rfl⟩ := List.mem_map.mp hx
 exact R.ord y (List.mem_filter.mp hy).1
theorem leastF_step' (f : List Nat -> Nat) {l : List (List Nat)} {i : Nat} {r : List Nat} (h : l[i]? = some r) : leastF f (l.take (i + 1)) = match leastF f (l.take i) with
  | none => some r
  | some x => if f r < f x then some r else some x := by
 unfold leastF
 rw [List.take_add_one, h, List.foldl_append]
 rfl
theorem mostF_step (f : List Nat -> Nat) {l : List (List Nat)} {i : Nat} {r : List Nat} (h : l[i]? = some r) : mostF f (l.take (i + 1)) = match mostF f (l.take i) with
  | none => some r
  | some x => if f x < f r then some r else some x := by
 unfold mostF
 rw [List.take_add_one, h, List.foldl_append]
 rfl
theorem leastF_best {f : List Nat -> Nat} {os : List (List Nat)} {i : Nat} {o : List Nat} (hi : os[i]? = some o) (h : ∀ (j : Nat) (r : List Nat), os[j]? = some r -> f o <= f r /\ (j < i -> f o < f r)) : leastF f os = some o := by
 have key : ∀ n, n <= os.length -> (n <= i -> ∀ x, leastF f (os.take n) = some x -> f o < f x) /\ (i < n -> leastF f (os.take n) = some o) := by
  intro n
  induction n with
  | zero => exact fun _ => ⟨fun _ x e => (by cases e), fun z => absurd z (Nat.not_lt_zero _)⟩
  | succ n ih =>
   intro hn
   have hn' : n < os.length := hn
   have er : os[n]? = some os[n] := List.getElem?_eq_getElem hn'
   have st := leastF_step' f er
   obtain ⟨h1, h2⟩ := ih (Nat.le_of_lt hn')
   refine ⟨fun hni x e => ?_, fun hin => ?_⟩
   ·have hlt := (h n _ er).2 hni
    rw [st] at e
    cases q : leastF f (os.take n) with
    | none => rw [q] at e; cases e; exact hlt
    | some y =>
     rw [q] at e
     have e : (if f os[n] < f y then some os[n] else some y) = some x := e
     split at e
     ·cases e; exact hlt
     ·cases e; exact h1 (by omega) _ q
   ·rw [st]
    by_cases hni : n = i
    ·subst hni
     rw [hi] at er
     have eo : o = os[n] := Option.some.inj er
     rw [<- eo]
     cases q : leastF f (os.take n) with
     | none => rfl
     | some y =>
      have := h1 (Nat.le_refl _) y q
      show (if f o < f y then some o else some y) = some o
      rw [if_pos this]
    ·have := h2 (by omega)
     rw [this]
     show (if f os[n] < f o then some os[n] else some o) = some o
     rw [if_neg (by have := (h n _ er).1; omega)]
 have := (key os.length (Nat.le_refl _)).2 (List.getElem?_eq_some_iff.mp hi).1
 rw [List.take_of_length_le (Nat.le_refl _)] at this
 exact this
theorem mostF_best {f : List Nat -> Nat} {os : List (List Nat)} {i : Nat} {o : List Nat} (hi : os[i]? = some o) (h : ∀ (j : Nat) (r : List Nat), os[j]? = some r -> f r <= f o /\ (j < i -> f r < f o)) : mostF f os = some o := by
 have key : ∀ n, n <= os.length -> (n <= i -> ∀ x, mostF f (os.take n) = some x -> f x < f o) /\ (i < n -> mostF f (os.take n) = some o) := by
  intro n
  induction n with
  | zero => exact fun _ => ⟨fun _ x e => (by cases e), fun z => absurd z (Nat.not_lt_zero _)⟩
  | succ n ih =>
   intro hn
   have hn' : n < os.length := hn
   have er : os[n]? = some os[n] := List.getElem?_eq_getElem hn'
   have st := mostF_step f er
   obtain ⟨h1, h2⟩ := ih (Nat.le_of_lt hn')
   refine ⟨fun hni x e => ?_, fun hin => ?_⟩
   ·have hlt := (h n _ er).2 hni
    rw [st] at e
    cases q : mostF f (os.take n) with
    | none => rw [q] at e; cases e; exact hlt
    | some y =>
     rw [q] at e
     have e : (if f y < f os[n] then some os[n] else some y) = some x := e
     split at e
     ·cases e; exact hlt
     ·cases e; exact h1 (by omega) _ q
   ·rw [st]
    by_cases hni : n = i
    ·subst hni
     rw [hi] at er
     have eo : o = os[n] := Option.some.inj er
     rw [<- eo]
     cases q : mostF f (os.take n) with
     | none => rfl
     | some y =>
      have := h1 (Nat.le_refl _) y q
      show (if f y < f o then some o else some y) = some o
      rw [if_pos this]
    ·have := h2 (by omega)
     rw [this]
     show (if f o < f os[n] then some os[n] else some o) = some o
     rw [if_neg (by have := (h n _ er).1; omega)]
 have := (key os.length (Nat.le_refl _)).2 (List.getElem?_eq_some_iff.mp hi).1
 rw [List.take_of_length_le (Nat.le_refl _)] at this
 exact this
section
section
variable {g : G} {a : Abs} (R : Rel g a)
include R
theorem Rel.col_iff {c o : Nat} : o ∈ g.colPeople c ↔ ∃ r, g.spot o = some (r, c) := by
 constructor
 ·intro h
  obtain ⟨r, _, e⟩ := col_mem h
  exact ⟨r, e⟩
 ·rintro ⟨r, e⟩
  unfold G.colPeople
  exact List.mem_filterMap.mpr ⟨r, List.mem_range.mpr (R.inb o r c e).1, R.at_of e⟩
theorem Rel.hid_iff {q r c : Nat} (e : g.spot q = some (r, c)) (o : Nat) : o ∈ g.hiders q ↔ ∃ r', g.spot o = some (r', c) /\ r' < r /\ g.head q < g.head o + g.face := by
 unfold G.hiders
 rw [List.mem_filter, (spot_row e).1, (spot_row e).2, R.col_iff, Bool.and_eq_true, decide_eq_true_iff, decide_eq_true_iff]
 constructor
 ·rintro ⟨⟨r', e'⟩, h1, h2⟩
  rw [(spot_row e').1] at h1
  exact ⟨r', e', h1, h2⟩
 ·rintro ⟨r', e', h1, h2⟩
  exact ⟨⟨r', e'⟩, by rw [(spot_row e').1]; exact h1, h2⟩
theorem Rel.seen_iff {q r c : Nat} (e : g.spot q = some (r, c)) : g.seen q = true ↔ ∀ o r', g.spot o = some (r', c) -> r' < r -> ¬ g.head q < g.head o + g.face := by
 unfold G.seen
 rw [e]
 show (true && (g.hiders q).isEmpty) = true ↔ _
 rw [Bool.true_and, List.isEmpty_iff, List.eq_nil_iff_forall_not_mem]
 constructor
 ·intro h o r' e' h1 h2
  exact h o ((R.hid_iff e o).mpr ⟨r', e', h1, h2⟩)
 ·intro h o ho
  obtain ⟨r', e', h1, h2⟩ := (R.hid_iff e o).mp ho
  exact h o r' e' h1 h2
end
theorem seen_placed {g : G} {q : Nat} (h : g.seen q = true) : ∃ r c, g.spot q = some (r, c) := by
 unfold G.seen at h
 rw [Bool.and_eq_true] at h
 obtain ⟨⟨r, c⟩, e⟩ := Option.isSome_iff_exists.mp h.1
 exact ⟨r, c, e⟩
def G.without (g : G) (o p : Nat) : Bool := ((g.hiders o).filter fun h => h != p).isEmpty
def G.spoils (g : G) (p : Nat) (x : Nat × Nat) (o : Nat) : Bool := if g.row o < x.1 then decide (g.step x.1 + g.height p < g.head o + g.face) else decide (g.head o < g.step x.1 + g.height p + g.face) && g.without o p
def G.wouldGood (g : G) (p : Nat) (x : Nat × Nat) : Bool := (g.colPeople x.2).all fun o => o == p || !(g.spoils p x o)
section
variable {g : G} {a : Abs} (R : Rel g a)
include R
theorem Rel.without_iff {o p r c : Nat} (e : g.spot o = some (r, c)) : g.without o p = true ↔ ∀ h r', g.spot h = some (r', c) -> r' < r -> h ≠ p -> ¬ g.head o < g.head h + g.face := by
 unfold G.without
 rw [List.isEmpty_iff, List.eq_nil_iff_forall_not_mem]
 constructor
 ·intro h q r' e' h1 h2 h3
  exact h q (List.mem_filter.mpr ⟨(R.hid_iff e q).mpr ⟨r', e', h1, h3⟩, by simpa using h2⟩)
 ·intro h q hq
  obtain ⟨hq1, hq2⟩ := List.mem_filter.mp hq
  obtain ⟨r', e', h1, h2⟩ := (R.hid_iff e q).mp hq1
  exact h q r' e' h1 (by simpa using hq2) h2
theorem Rel.open_eq {p : Nat} (hp : p < g.heights.length) (x : Nat × Nat) : (decide (g.spot p = some x) || (g.at? x.1 x.2).isNone) = ((g.takeOff p).at? x.1 x.2).isNone := by
 have R0 := R.off hp
 have hps : p < g.spots.length := by rw [R.slen]; exact hp
 have sp : ∀ q, (g.takeOff p).spot q = if q = p then none else g.spot q := fun q => spot_set hps
 cases e : (g.takeOff p).at? x.1 x.2 with
 | some q =>
  have h := at_spot e
  rw [sp] at h
  by_cases hq : q = p
  ·rw [if_pos hq] at h; cases h
  ·rw [if_neg hq] at h
   have h1 : ¬ g.spot p = some x := fun z => hq (R.inj h z)
   rw [decide_eq_false h1, R.at_of h]
   rfl
 | none =>
  show _ = true
  cases e2 : g.at? x.1 x.2 with
  | none => rw [Bool.or_comm]; rfl
  | some q =>
   have h := at_spot e2
   by_cases hq : q = p
   ·rw [hq] at h
    rw [decide_eq_true h]
    rfl
   ·have : (g.takeOff p).spot q = some (x.1, x.2) := by rw [sp, if_neg hq]; exact h
    rw [R0.at_of this] at e
    cases e
theorem Rel.would_eq {p : Nat} (hp : p < g.heights.length) {x : Nat × Nat} (hx : x ∈ g.grid) (ho : ((g.takeOff p).at? x.1 x.2).isNone = true) : g.wouldGood p x = g.okPlace p x := by
 have R0 := R.off hp
 obtain ⟨hr, hc⟩ := grid_mem hx
 have hps : p < g.spots.length := by rw [R.slen]; exact hp
 have R1 := R0.put (p := p) (r := x.1) (c := x.2) hp hr hc (Option.isNone_iff_eq_none.mp ho)
 have sp0 : ∀ q, (g.takeOff p).spot q = if q = p then none else g.spot q := fun q => spot_set hps
 have sp1 : ∀ q, ((g.takeOff p).place p x.1 x.2).spot q = if q = p then some x else g.spot q := fun q => by
  have : ((g.takeOff p).place p x.1 x.2).spot q = if q = p then some (x.1, x.2) else (g.takeOff p).spot q := spot_set (g := g.takeOff p) (by unfold G.takeOff; rw [List.length_set]; exact hps)
  rw [this, sp0]
  by_cases hq : q = p
  ·rw [if_pos hq, if_pos hq]
  ·rw [if_neg hq, if_neg hq, if_neg hq]
 have row0 : ∀ q, q ≠ p -> (g.takeOff p).row q = g.row q := fun q hq => by unfold G.row; rw [sp0, if_neg hq]
 have row1 : ∀ q, q ≠ p -> ((g.takeOff p).place p x.1 x.2).row q = g.row q := fun q hq => by unfold G.row; rw [sp1, if_neg hq]
 have head0 : ∀ q, q ≠ p -> (g.takeOff p).head q = g.head q := fun q hq => by unfold G.head; rw [row0 q hq]; rfl
 have head1 : ∀ q, q ≠ p -> ((g.takeOff p).place p x.1 x.2).head q = g.head q := fun q hq => by unfold G.head; rw [row1 q hq]; rfl
 have headp : ((g.takeOff p).place p x.1 x.2).head p = g.step x.1 + g.height p := by
  unfold G.head G.row
  rw [sp1, if_pos rfl]
  rfl
 have face0 : (g.takeOff p).face = g.face := rfl
 have face1 : ((g.takeOff p).place p x.1 x.2).face = g.face := rfl
 -- nobody else stands at x
 have free : ∀ q, q ≠ p -> g.spot q ≠ some x := fun q hq e => by
  have : (g.takeOff p).spot q = some (x.1, x.2) := by rw [sp0, if_neg hq]; exact e
  rw [R0.at_of this] at ho
  cases ho
 have seenp : ((g.takeOff p).place p x.1 x.2).seen p = true ↔ ∀ o r', o ≠ p -> g.spot o = some (r', x.2) -> r' < x.1 -> ¬ g.step x.1 + g.height p < g.head o + g.face := by
  rw [R1.seen_iff (q := p) (r := x.1) (c := x.2) (by rw [sp1, if_pos rfl]), headp, face1]
  constructor
  ·intro h o r' hne e hlt
   have := h o r' (by rw [sp1, if_neg hne]; exact e) hlt
   rw [head1 o hne] at this
   exact this
  ·intro h o r' e hlt
   by_cases hne : o = p
   ·rw [sp1, if_pos hne] at e
    have := (Prod.mk.inj (Option.some.inj e)).1
    omega
   ·rw [sp1, if_neg hne] at e
    rw [head1 o hne]
    exact h o r' hne e hlt
 have seen0 : ∀ q r c, q ≠ p -> g.spot q = some (r, c) -> ((g.takeOff p).seen q = true ↔ g.without q p = true) := fun q r c hne e => by
  rw [R0.seen_iff (q := q) (r := r) (c := c) (by rw [sp0, if_neg hne]; exact e), R.without_iff e, head0 q hne, face0]
  constructor
  ·intro h o r' e' h1 h2
   have := h o r' (by rw [sp0, if_neg h2]; exact e') h1
   rw [head0 o h2] at this
   exact this
  ·intro h o r' e' h1
   by_cases h2 : o = p
   ·rw [sp0, if_pos h2] at e'; cases e'
   ·rw [sp0, if_neg h2] at e'
    rw [head0 o h2]
    exact h o r' e' h1 h2
 have seen1 : ∀ q r c, q ≠ p -> g.spot q = some (r, c) -> (((g.takeOff p).place p x.1 x.2).seen q = true ↔ g.without q p = true /\ (c = x.2 -> x.1 < r -> ¬ g.head q < g.step x.1 + g.height p + g.face)) := fun q r c hne e => by
  rw [R1.seen_iff (q := q) (r := r) (c := c) (by rw [sp1, if_neg hne]; exact e), R.without_iff e, head1 q hne, face1]
  constructor
  ·intro h
   refine ⟨fun o r' e' h1 h2 => ?_, fun hcx hlt => ?_⟩
   ·have := h o r' (by rw [sp1, if_neg h2]; exact e') h1
    rw [head1 o h2] at this
    exact this
   ·have := h p x.1 (by rw [sp1, if_pos rfl, hcx]) hlt
    rw [headp] at this
    exact this
  ·rintro ⟨h1, h2⟩ o r' e' hlt
   by_cases hop : o = p
   ·rw [sp1, if_pos hop] at e'
    have ex := Option.some.inj e'
    rw [hop, headp]
    exact h2 (congrArg Prod.snd ex).symm (by rw [congrArg Prod.fst ex]; exact hlt)
   ·rw [sp1, if_neg hop] at e'
    rw [head1 o hop]
    exact h1 o r' e' hlt hop
 rw [Bool.eq_iff_iff]
 unfold G.wouldGood G.okPlace
 rw [ho, Bool.true_and, Bool.and_eq_true, List.all_eq_true, List.all_eq_true, seenp]
 constructor
 ·intro h
  have use : ∀ o r', o ≠ p -> g.spot o = some (r', x.2) -> g.spoils p x o = false := fun o r' hne e => by
   have := h o (R.col_iff.mpr ⟨r', e⟩)
   rw [show (o == p) = false from by simpa using hne, Bool.false_or] at this
   simpa using this
  refine ⟨fun o r' hne e hlt => ?_, fun q hq => ?_⟩
  ·have := use o r' hne e
   unfold G.spoils at this
   rw [(spot_row e).1, if_pos hlt] at this
   exact of_decide_eq_false this
  ·by_cases hqp : q = p
   ·rw [hqp, beq_self_eq_true]; rfl
   ·rw [show (q == p) = false from by simpa using hqp, Bool.false_or]
    cases hs : (g.takeOff p).seen q with
    | false => rfl
    | true =>
     obtain ⟨r, c, e⟩ := seen_placed hs
     rw [sp0, if_neg hqp] at e
     have hw := (seen0 q r c hqp e).mp hs
     show (false || _) = true
     rw [Bool.false_or, seen1 q r c hqp e]
     refine ⟨hw, fun hcx hlt => ?_⟩
     subst hcx
     have := use q r hqp e
     unfold G.spoils at this
     rw [(spot_row e).1, if_neg (by omega), hw, Bool.and_true] at this
     exact of_decide_eq_false this
 ·rintro ⟨h1, h2⟩ o ho'
  by_cases hop : o = p
  ·rw [hop, beq_self_eq_true]; rfl
  ·rw [show (o == p) = false from by simpa using hop, Bool.false_or]
   obtain ⟨r, e⟩ := R.col_iff.mp ho'
   have hol : o < g.spots.length := spot_lt e
   unfold G.spoils
   rw [(spot_row e).1]
   by_cases hlt : r < x.1
   ·rw [if_pos hlt, decide_eq_false (h1 o r hop e hlt)]
    rfl
   ·rw [if_neg hlt]
    have hgt : x.1 < r := by
     rcases Nat.lt_or_ge x.1 r with z | z
     ·exact z
     ·have : r = x.1 := by omega
      exact absurd (by rw [e, this]) (free o hop)
    cases hw : g.without o p with
    | false => rw [Bool.and_false]; rfl
    | true =>
     have hs := (seen0 o r x.2 hop e).mpr hw
     have := h2 o (List.mem_range.mpr hol)
     rw [show (o == p) = false from by simpa using hop, Bool.false_or, hs] at this
     have : (false || _) = true := this
     rw [Bool.false_or] at this
     have := ((seen1 o r x.2 hop e).mp this).2 rfl hgt
     rw [decide_eq_false this]
     rfl
end
end
def fallAt (hs : List Nat) (i : Nat) : Bool := decide (hs.getD (i + 1) 0 < hs.getD i 0)
def riseAt (hs : List Nat) (i : Nat) : Bool := decide (hs.getD i 0 < hs.getD (i + 1) 0)
def hillTo (hs : List Nat) (n : Nat) : Prop := ∀ j, j < n -> ∀ i, i < j -> ¬ (fallAt hs i = true /\ riseAt hs j = true)
def hillB (hs : List Nat) : Bool := (List.range (hs.length - 1)).all fun j => (List.range j).all fun i => !(fallAt hs i && riseAt hs j)
theorem hillB_iff (hs : List Nat) : hillB hs = true ↔ hillTo hs (hs.length - 1) := by
 unfold hillB hillTo
 rw [List.all_eq_true]
 constructor
 ·intro h j hj i hi ⟨z1, z2⟩
  have := List.all_eq_true.mp (h j (List.mem_range.mpr hj)) i (List.mem_range.mpr hi)
  rw [z1, z2] at this
  cases this
 ·intro h j hj
  rw [List.all_eq_true]
  intro i hi
  have := h j (List.mem_range.mp hj) i (List.mem_range.mp hi)
  cases e1 : fallAt hs i with
  | false => rfl
  | true =>
   cases e2 : riseAt hs j with
   | false => rfl
   | true => exact absurd ⟨e1, e2⟩ this
theorem hillB_bad {hs : List Nat} {i j : Nat} (hj : j < hs.length - 1) (hi : i < j) (h1 : fallAt hs i = true) (h2 : riseAt hs j = true) : hillB hs = false := by
 rw [Bool.eq_false_iff]
 intro h
 exact (hillB_iff hs).mp h j hj i hi ⟨h1, h2⟩
theorem getD_map_lt (f : Nat -> Nat) {l : List Nat} {i : Nat} (h : i < l.length) : (l.map f).getD i 0 = f (l.getD i 0) := by
 rw [List.getD_eq_getElem?_getD, List.getElem?_map, List.getD_eq_getElem?_getD, List.getElem?_eq_getElem h]
 rfl
theorem Rel.hill_eq {g : G} {a : Abs} (R : Rel g a) (l : List Nat) : a.hill l = hillB (l.map g.height) := by
 rw [Bool.eq_iff_iff, R.hill_iff, hillB_iff]
 have hl : (l.map g.height).length = l.length := List.length_map _
 have fa : ∀ i, i + 1 < l.length -> (fallAt (l.map g.height) i = true ↔ g.height (l.getD (i + 1) 0) < g.height (l.getD i 0)) := fun i hi => by
  unfold fallAt
  rw [getD_map_lt _ hi, getD_map_lt _ (by omega), decide_eq_true_iff]
 have ra : ∀ i, i + 1 < l.length -> (riseAt (l.map g.height) i = true ↔ g.height (l.getD i 0) < g.height (l.getD (i + 1) 0)) := fun i hi => by
  unfold riseAt
  rw [getD_map_lt _ hi, getD_map_lt _ (by omega), decide_eq_true_iff]
 unfold hillTo
 rw [hl]
 constructor
 ·rintro ⟨k, hk, h⟩ j hj i hi ⟨z1, z2⟩
  rw [fa i (by omega)] at z1
  rw [ra j (by omega)] at z2
  have h1 := h i (by omega)
  have h2 := h j (by omega)
  by_cases hik : i < k
  ·have := h1.1 hik; omega
  ·have := h2.2 (by omega); omega
 ·intro h
  cases q : (List.range (l.length - 1)).find? (fallAt (l.map g.height)) with
  | none =>
   refine ⟨l.length, Nat.le_refl _, fun i hi => ⟨fun _ => ?_, fun hki => by omega⟩⟩
   have := List.find?_eq_none.mp q i (List.mem_range.mpr (by omega))
   rw [fa i hi] at this
   omega
  | some k =>
   obtain ⟨q1, q2, q3⟩ := List.find?_range_eq_some.mp q
   have hk := List.mem_range.mp q2
   refine ⟨k, by omega, fun i hi => ⟨fun hik => ?_, fun hki => ?_⟩⟩
   ·have := q3 i hik
    have nf : ¬ fallAt (l.map g.height) i = true := by intro z; rw [z] at this; cases this
    rw [fa i hi] at nf
    omega
   ·by_cases e : i = k
    ·rw [e]
     have := (fa k (by omega)).mp q1
     omega
    ·have := h i (by omega) k (by omega)
     have nr : ¬ riseAt (l.map g.height) i = true := fun z => this ⟨q1, z⟩
     rw [ra i hi] at nr
     omega
def flatOf : Call -> List Int
 | .begin_ w f l => (0 : Int) :: (w : Int) :: (f : Int) :: (l.length : Int) :: l.map fun (n : Nat) => (n : Int)
 | .person h => [1, (h : Int)]
 | .put p r c => [2, (p : Int), (r : Int), (c : Int)]
 | .off p => [3, (p : Int)]
 | .swap p q => [4, (p : Int), (q : Int)]
 | .wish p q => [5, (p : Int), (q : Int)]
 | .apart p q => [6, (p : Int), (q : Int)]
 | .forget p q => [7, (p : Int), (q : Int)]
 | .seen p => [8, (p : Int)]
 | .hidden => [9]
 | .hides p => [10, (p : Int)]
 | .all => [11]
 | .met => [12]
 | .column c => [13, (c : Int)]
 | .mend c => [14, (c : Int)]
 | .row r => [15, (r : Int)]
 | .hill r => [16, (r : Int)]
 | .shape r => [17, (r : Int)]
 | .form r => [18, (r : Int)]
 | .please r => [19, (r : Int)]
 | .seat r => [20, (r : Int)]
 | .beside p => [21, (p : Int)]
 | .spare p => [22, (p : Int)]
 | .free => [23]
 | .good p => [24, (p : Int)]
 | .look p => [25, (p : Int)]
 | .sums => [26]
 | .state => [27]
theorem nat_of {x : Int} (h : 0 <= x) : ∃ n : Nat, x = (n : Int) := ⟨x.toNat, (Int.toNat_of_nonneg h).symm⟩
theorem nats_of : ∀ {l : List Int}, (∀ x ∈ l, 0 <= x) -> ∃ ns : List Nat, l = ns.map fun (n : Nat) => (n : Int)
 | [], _ => ⟨[], rfl⟩
 | x :: l, h => by
  obtain ⟨n, hn⟩ := nat_of (h x List.mem_cons_self)
  obtain ⟨ns, e⟩ := nats_of (l := l) fun y hy => h y (List.mem_cons_of_mem _ hy)
  exact ⟨n :: ns, by rw [hn, e]; rfl⟩
theorem back_nats (ns : List Nat) : (ns.map fun (n : Nat) => (n : Int)).map Int.toNat = ns := by
 rw [List.map_map]
 exact (List.map_congr_left fun n _ => Int.toNat_natCast n).trans (List.map_id _)
theorem shape_le {p : Int} {n k : Nat} (h : PySu57.shape p = some (n, k)) : 0 <= p /\ p <= 27 := by
 unfold PySu57.shape at h
 apply Decidable.byContradiction
 intro hc
 have ne : ∀ j : Int, 0 <= j -> j <= 27 -> ¬ p = j := fun j h1 h2 e => hc ⟨by omega, by omega⟩
 rw [if_neg (ne 0 (by decide) (by decide)), if_neg (ne 1 (by decide) (by decide)), if_neg (ne 2 (by decide) (by decide)), if_neg (ne 3 (by decide) (by decide)), if_neg (ne 4 (by decide) (by decide)), if_neg (ne 5 (by decide) (by decide)),
  if_neg (ne 6 (by decide) (by decide)), if_neg (ne 7 (by decide) (by decide)), if_neg (ne 8 (by decide) (by decide)), if_neg (ne 9 (by decide) (by decide)), if_neg (ne 10 (by decide) (by decide)), if_neg (ne 11 (by decide) (by decide)),
  if_neg (ne 12 (by decide) (by decide)), if_neg (ne 13 (by decide) (by decide)), if_neg (ne 14 (by decide) (by decide)), if_neg (ne 15 (by decide) (by decide)), if_neg (ne 16 (by decide) (by decide)), if_neg (ne 17 (by decide) (by decide)),
  if_neg (ne 18 (by decide) (by decide)), if_neg (ne 19 (by decide) (by decide)), if_neg (ne 20 (by decide) (by decide)), if_neg (ne 21 (by decide) (by decide)), if_neg (ne 22 (by decide) (by decide)), if_neg (ne 23 (by decide) (by decide)),
  if_neg (ne 24 (by decide) (by decide)), if_neg (ne 25 (by decide) (by decide)), if_neg (ne 26 (by decide) (by decide)), if_neg (ne 27 (by decide) (by decide))] at h
 cases h
theorem within_of {lo hi z : Int} (h : PyInside.within lo hi z = true) : lo <= z := by
 unfold PyInside.within at h
 rw [Bool.and_eq_true] at h
 exact of_decide_eq_true h.1
theorem call_of {c : List (List Int)} (h : PyFlat.okCall PySu57.shape c) (b : PyInside.call PySu57.bound c = true) : ∃ x, PyFlat.put1 c = flatOf x /\ Su57Neutral.callOf ((PySu57.whole c).headD []) = some x := by
 obtain ⟨p, a, xs, e, hs⟩ := h
 subst e
 obtain ⟨p0, p27⟩ := shape_le hs
 obtain ⟨k, rfl⟩ := nat_of p0
 have k27 : k <= 27 := by omega
 have b' : (PyInside.each (PySu57.bound (k : Int)).1 a && PyInside.lists (PySu57.bound (k : Int)).2 xs) = true := b
 rw [Bool.and_eq_true] at b'
 obtain ⟨b1, b2⟩ := b'
 match k, k27 with
 | 0, _ =>
  have hs' : some (2, 1) = some (a.length, xs.length) := hs
  have h1 : a.length = 2 := (Prod.mk.inj (Option.some.inj hs')).1.symm
  have h2 : xs.length = 1 := (Prod.mk.inj (Option.some.inj hs')).2.symm
  match a, h1, xs, h2, b1, b2 with
  | [w, f], _, [l], _, b1, b2 =>
   have b1' : (PyInside.within 0 4294967295 w && (PyInside.within 0 4294967295 f && true)) = true := b1
   have b2' : (decide (0 <= l.length) && decide (l.length <= 8) && l.all (PyInside.within 0 4294967295) && true) = true := b2
   simp only [Bool.and_eq_true] at b1' b2'
   obtain ⟨n, rfl⟩ := nat_of (within_of b1'.1)
   obtain ⟨m, rfl⟩ := nat_of (within_of b1'.2.1)
   obtain ⟨ns, rfl⟩ := nats_of fun x hx => within_of (List.all_eq_true.mp b2'.1.2 x hx)
   refine ⟨.begin_ n m ns, ?_, ?_⟩
   ·show (0 : Int) :: (n : Int) :: (m : Int) :: ((((ns.map fun (n : Nat) => (n : Int)).length : Nat) : Int) :: (ns.map fun (n : Nat) => (n : Int)) ++ []) = _
    rw [List.append_nil, List.length_map]
    rfl
   ·show some (Call.begin_ n m ((ns.map fun (n : Nat) => (n : Int)).map Int.toNat)) = _
    rw [back_nats]
 | 2, _ =>
  have hs' : some (3, 0) = some (a.length, xs.length) := hs
  have h1 : a.length = 3 := (Prod.mk.inj (Option.some.inj hs')).1.symm
  have h2 : xs.length = 0 := (Prod.mk.inj (Option.some.inj hs')).2.symm
  match a, h1, xs, h2, b1, b2 with
  | [x, y, z], _, [], _, b1, b2 =>
   have b1' : (PyInside.within 0 4294967295 x && (PyInside.within 0 4294967295 y && (PyInside.within 0 4294967295 z && true))) = true := b1
   simp only [Bool.and_eq_true] at b1'
   obtain ⟨n, rfl⟩ := nat_of (within_of b1'.1)
   obtain ⟨m, rfl⟩ := nat_of (within_of b1'.2.1)
   obtain ⟨o, rfl⟩ := nat_of (within_of b1'.2.2.1)
   exact ⟨.put n m o, rfl, rfl⟩
 | 4, _ | 5, _ | 6, _ | 7, _ =>
  have hs' : some (2, 0) = some (a.length, xs.length) := hs
  have h1 : a.length = 2 := (Prod.mk.inj (Option.some.inj hs')).1.symm
  have h2 : xs.length = 0 := (Prod.mk.inj (Option.some.inj hs')).2.symm
  match a, h1, xs, h2, b1, b2 with
  | [x, y], _, [], _, b1, b2 =>
   have b1' : (PyInside.within 0 4294967295 x && (PyInside.within 0 4294967295 y && true)) = true := b1
   simp only [Bool.and_eq_true] at b1'
   obtain ⟨n, rfl⟩ := nat_of (within_of b1'.1)
   obtain ⟨m, rfl⟩ := nat_of (within_of b1'.2.1)
   first | exact ⟨.swap n m, rfl, rfl⟩ | exact ⟨.wish n m, rfl, rfl⟩ | exact ⟨.apart n m, rfl, rfl⟩ | exact ⟨.forget n m, rfl, rfl⟩
 | 9, _ | 11, _ | 12, _ | 23, _ | 26, _ | 27, _ =>
  have hs' : some (0, 0) = some (a.length, xs.length) := hs
  have h1 : a.length = 0 := (Prod.mk.inj (Option.some.inj hs')).1.symm
  have h2 : xs.length = 0 := (Prod.mk.inj (Option.some.inj hs')).2.symm
  match a, h1, xs, h2, b1, b2 with
  | [], _, [], _, _, _ =>
   first | exact ⟨.hidden, rfl, rfl⟩ | exact ⟨.all, rfl, rfl⟩ | exact ⟨.met, rfl, rfl⟩ | exact ⟨.free, rfl, rfl⟩ | exact ⟨.sums, rfl, rfl⟩ | exact ⟨.state, rfl, rfl⟩
 | 1, _ | 3, _ | 8, _ | 10, _ | 13, _ | 14, _ | 15, _ | 16, _ | 17, _ | 18, _ | 19, _ | 20, _ | 21, _ | 22, _ | 24, _ | 25, _ =>
  have hs' : some (1, 0) = some (a.length, xs.length) := hs
  have h1 : a.length = 1 := (Prod.mk.inj (Option.some.inj hs')).1.symm
  have h2 : xs.length = 0 := (Prod.mk.inj (Option.some.inj hs')).2.symm
  match a, h1, xs, h2, b1, b2 with
  | [x], _, [], _, b1, b2 =>
   have b1' : (PyInside.within 0 4294967295 x && true) = true := b1
   simp only [Bool.and_eq_true] at b1'
   obtain ⟨n, rfl⟩ := nat_of (within_of b1'.1)
   first | exact ⟨.person n, rfl, rfl⟩ | exact ⟨.off n, rfl, rfl⟩ | exact ⟨.seen n, rfl, rfl⟩ | exact ⟨.hides n, rfl, rfl⟩ | exact ⟨.column n, rfl, rfl⟩ | exact ⟨.mend n, rfl, rfl⟩ | exact ⟨.row n, rfl, rfl⟩ | exact ⟨.hill n, rfl, rfl⟩ | exact ⟨.shape n, rfl, rfl⟩ | exact ⟨.form n, rfl, rfl⟩ | exact ⟨.please n, rfl, rfl⟩ | exact ⟨.seat n, rfl, rfl⟩ | exact ⟨.beside n, rfl, rfl⟩ | exact ⟨.spare n, rfl, rfl⟩ | exact ⟨.good n, rfl, rfl⟩ | exact ⟨.look n, rfl, rfl⟩
 | k + 28, h => exact absurd h (by omega)
def ansOf (s : Option Abs) (x : Call) : List Int := (Su57.step s x).2.value :: Su57Neutral.outs (Su57.step s x).2.out
def tellAll : Option Abs -> List Call -> List Int
 | _, [] => []
 | s, x :: xs => ((ansOf s x).length : Int) :: (ansOf s x ++ tellAll (Su57.step s x).1 xs)
theorem played_tell : ∀ (cs : List (List (List Int))) (s : Option Abs), (∀ c ∈ cs, PyFlat.okCall PySu57.shape c) -> (∀ c ∈ cs, PyInside.call PySu57.bound c = true) ->
  ∃ xs : List Call, PyFlat.put cs = xs.flatMap flatOf /\ xs.length = cs.length /\ PyFlat.told (PyFlat.played (fun s c => Su57Neutral.step s (c.headD [])) s (cs.map PySu57.whole)) = tellAll s xs
 | [], s, _, _ => ⟨[], rfl, rfl, rfl⟩
 | c :: cs, s, h1, h2 => by
  obtain ⟨x, e1, e2⟩ := call_of (h1 c List.mem_cons_self) (h2 c List.mem_cons_self)
  have st : Su57Neutral.step s ((PySu57.whole c).headD []) = ((Su57.step s x).1, ansOf s x) := by
   unfold Su57Neutral.step
   rw [e2]
   rfl
  obtain ⟨xs, q1, q2, q3⟩ := played_tell cs (Su57.step s x).1 (fun d hd => h1 d (List.mem_cons_of_mem _ hd)) (fun d hd => h2 d (List.mem_cons_of_mem _ hd))
  refine ⟨x :: xs, ?_, by rw [List.length_cons, List.length_cons, q2], ?_⟩
  ·show PyFlat.put1 c ++ PyFlat.put cs = _
   rw [e1, q1, List.flatMap_cons]
  ·show PyFlat.told ((Su57Neutral.step s ((PySu57.whole c).headD [])).2 :: PyFlat.played _ (Su57Neutral.step s ((PySu57.whole c).headD [])).1 (cs.map PySu57.whole)) = _
   rw [st]
   show (((ansOf s x).length : Nat) : Int) :: ansOf s x ++ PyFlat.told _ = _
   rw [q3]
   rfl
theorem asked_calls {l : List Int} (h : PySu57.answers_asked l = true) : ∃ xs : List Call, l = xs.flatMap flatOf /\ xs.length <= 400 /\ PySu57.answers l = tellAll none xs /\ (tellAll none xs).length <= 10000000 := by
 unfold PySu57.answers_asked at h
 cases e : PyFlat.calls PySu57.shape l.length l with
 | none => rw [e] at h; cases h
 | some raw =>
  rw [e] at h
  have h' : (!raw.isEmpty && PyFlat.atMost 400 raw && PyInside.calls PySu57.bound raw && Su57Neutral.asked ((raw.map PySu57.whole).map fun c => c.headD []) && PyFlat.short 10000000 (PySu57.answers l)) = true := h
  simp only [Bool.and_eq_true] at h'
  obtain ⟨⟨⟨⟨_, h4⟩, h5⟩, _⟩, h6⟩ := h'
  obtain ⟨p1, p2⟩ := PyFlat.put_calls _ _ _ e
  obtain ⟨xs, q1, q2, q3⟩ := played_tell raw none p2 (List.all_eq_true.mp h5)
  have ea : PySu57.answers l = tellAll none xs := by
   unfold PySu57.answers PySu57.calls
   rw [e]
   exact q3
  refine ⟨xs, by rw [p1, q1], by rw [q2]; exact of_decide_eq_true h4, ea, by rw [<- ea]; exact of_decide_eq_true h6⟩
end
end Sr
namespace L2
open PySem PySem.Spec PyProof.Rows
abbrev Key := Sum Int Str
def keyIs : Key -> Value -> Bool
 | .inl k, v => Value.isInt k v
 | .inr x, v => Value.isStrOf x v
def keyH (w : World) : Key -> Int
 | .inl k => hashInt k
 | .inr x => hashStr w x
theorem keyIs_shape : ∀ {k : Key} {v : Value}, keyIs k v = true -> (∃ i t, k = Sum.inl i /\ v = Value.int i t) ∨ (∃ x t, k = Sum.inr x /\ v = Value.str x t)
 | .inl i, v, h => by
  obtain ⟨t, e⟩ := Value.isInt_shape (k := i) (v := v) h
  exact .inl ⟨i, t, rfl, e⟩
 | .inr x, v, h => by
  obtain ⟨t, e⟩ := Value.isStrOf_shape (x := x) (v := v) h
  exact .inr ⟨x, t, rfl, e⟩
theorem keyIs_int (i : Int) (t : Tok) : keyIs (.inl i) (.int i t) = true := by simp [keyIs, Value.isInt]
theorem keyIs_str (x : Str) (t : Tok) : keyIs (.inr x) (.str x t) = true := by simp [keyIs, Value.isStrOf]
theorem key_ll (a b : Int) : decide ((Sum.inl a : Key) = Sum.inl b) = (a == b) := by
 by_cases e : a = b
 ·subst e; simp
 ·have h : ¬ (Sum.inl a : Key) = Sum.inl b := fun q => e (Sum.inl.inj q)
  rw [decide_eq_false h]
  exact (beq_eq_false_iff_ne.mpr e).symm
theorem key_rr (a b : Str) : decide ((Sum.inr a : Key) = Sum.inr b) = decide (a = b) := by
 by_cases e : a = b
 ·subst e; simp
 ·have h : ¬ (Sum.inr a : Key) = Sum.inr b := fun q => e (Sum.inr.inj q)
  rw [decide_eq_false h, decide_eq_false e]
theorem key_lr (a : Int) (b : Str) : decide ((Sum.inl a : Key) = Sum.inr b) = false := decide_eq_false (fun q => nomatch q)
theorem key_rl (a : Str) (b : Int) : decide ((Sum.inr a : Key) = Sum.inl b) = false := decide_eq_false (fun q => nomatch q)
def mixKind (prog : Program) (w : World) : PySem.KeyKind prog w Key where
 is := keyIs
 hash := keyH w
 inj := fun v a b ha hb => by
  rcases keyIs_shape ha with ⟨i, t, rfl, rfl⟩ | ⟨x, t, rfl, rfl⟩
  ·rcases keyIs_shape hb with ⟨j, u, rfl, e⟩ | ⟨y, u, rfl, e⟩
   ·injection e with e1 _; rw [e1]
   ·exact nomatch e
  ·rcases keyIs_shape hb with ⟨j, u, rfl, e⟩ | ⟨y, u, rfl, e⟩
   ·exact nomatch e
   ·injection e with e1 _; rw [e1]
 byValue := fun k v h => by
  rcases keyIs_shape h with ⟨i, t, rfl, rfl⟩ | ⟨x, t, rfl, rfl⟩ <;> rfl
 pyHash := fun hv h => by
  rcases keyIs_shape hv with ⟨i, t, rfl, rfl⟩ | ⟨x, t, rfl, rfl⟩
  ·exact wpAny_pyHash_int h
  ·exact wpAny_pyHash_str h
 eqBool := fun hu hv h => by
  rcases keyIs_shape hu with ⟨i, t, rfl, rfl⟩ | ⟨x, t, rfl, rfl⟩
  ·rcases keyIs_shape hv with ⟨j, u, rfl, rfl⟩ | ⟨y, u, rfl, rfl⟩
   ·rw [key_ll] at h; exact wpAny_eqBool_int h
   ·rw [key_lr] at h; exact SeqAt.EqAt.int_str i t y u _ _ _ _ h
  ·rcases keyIs_shape hv with ⟨j, u, rfl, rfl⟩ | ⟨y, u, rfl, rfl⟩
   ·rw [key_rl] at h; exact SeqAt.EqAt.str_int x t j u _ _ _ _ h
   ·rw [key_rr] at h; exact wpAny_eqBool_str h
 «strs» := fun k x t v h => by
  rcases keyIs_shape h with ⟨i, u, rfl, e⟩ | ⟨y, u, rfl, e⟩
  ·exact nomatch e
  ·injection e with e1 _
   subst e1
   cases v <;> rfl
theorem mixKind_int (prog : Program) (w : World) (i : Int) (t : Tok) : (mixKind prog w).is (.inl i) (.int i t) = true := keyIs_int i t
theorem mixKind_str (prog : Program) (w : World) (x : Str) (t : Tok) : (mixKind prog w).is (.inr x) (.str x t) = true := keyIs_str x t
end L2
namespace L2
open PySem PySem.Spec PyProof.Rows
inductive V where
 | non | bl (b : Bool) | int (i : Int) | str (x : Str) | byt (b : Array UInt8) | flt (b : UInt64) | ref (a : Addr) | ty (n : String)
 deriving DecidableEq
def RelV : V -> Value -> Prop
 | .non, u => u = Value.none
 | .bl b, u => u = Value.bool b
 | .int i, u => ∃ t, u = Value.int i t
 | .str x, u => ∃ t, u = Value.str x t
 | .byt b, u => ∃ t, u = Value.bytes b t
 | .flt b, u => ∃ t, u = Value.float b t
 | .ref a, u => u = Value.ref a
 | .ty n, u => u = Value.type n
abbrev Vals : List V -> List Value -> Prop := Paired RelV
theorem Vals.length {xs : List V} {us : List Value} (r : Vals xs us) : xs.length = us.length := Paired.length r
theorem Vals.get : ∀ {xs : List V} {us : List Value} {i : Nat} {x : V}, Vals xs us -> xs[i]? = some x -> ∃ u, us[i]? = some u /\ RelV x u
 | _, _, _, _, .nil, e => by simp at e
 | _, _, 0, _, .cons r _, e => by simp at e; subst e; exact ⟨_, rfl, r⟩
 | _, _, i + 1, x, .cons _ t, e => by
  obtain ⟨u, h1, h2⟩ := Vals.get (i := i) (x := x) t (by simpa using e)
  exact ⟨u, by simpa using h1, h2⟩
theorem Vals.set {x : V} {u : Value} (r : RelV x u) : ∀ {xs : List V} {us : List Value} (i : Nat), Vals xs us -> Vals (xs.set i x) (us.set i u)
 | _, _, _, .nil => .nil
 | _, _, 0, .cons _ t => .cons r t
 | _, _, i + 1, .cons q t => .cons q (Vals.set r i t)
theorem Vals.append : ∀ {xs ys : List V} {us ws : List Value}, Vals xs us -> Vals ys ws -> Vals (xs ++ ys) (us ++ ws)
 | _, _, _, _, .nil, s => s
 | _, _, _, _, .cons r t, s => .cons r (Vals.append t s)
theorem Vals.take : ∀ {xs : List V} {us : List Value} (n : Nat), Vals xs us -> Vals (xs.take n) (us.take n)
 | _, _, 0, _ => .nil
 | _, _, _ + 1, .nil => .nil
 | _, _, n + 1, .cons r t => .cons r (Vals.take n t)
theorem Vals.drop : ∀ {xs : List V} {us : List Value} (n : Nat), Vals xs us -> Vals (xs.drop n) (us.drop n)
 | _, _, 0, r => r
 | _, _, _ + 1, .nil => .nil
 | _, _, n + 1, .cons _ t => Vals.drop n t
def RelO : Option V -> Option Value -> Prop
 | some v, some u => RelV v u
 | none, none => True
 | _, _ => False
def KV {κ : Type} : List (κ × V) -> List (κ × Value) -> Prop := Paired fun (p : κ × V) (q : κ × Value) => p.1 = q.1 /\ RelV p.2 q.2
def kV : Key -> V
 | .inl i => .int i
 | .inr x => .str x
inductive HO where
 /-- a list -/
 | lst (xs : List V)
 /-- a tuple (never changes) -/
 | tup (xs : List V)
 /-- a dict whose keys are ints and texts; one whose keys are tuples of ints and texts (the empty one is both) -/
 | dK (kvs : List (Key × V)) | dT (kvs : List (List Key × V))
 /-- a set of ints: its members, its size -/
 | set (S : Int -> Bool) (n : Nat)
 /-- an instance of the class at C, its dict at dx, its attributes -/
 | ins (C dx : Addr) (fs : List (Str × V))
 /-- the dict of the instance at x -/
 | own (x : Addr)
 /-- the dict of an exception -/
 | xd (fs : List (Str × V))
 /-- a bound method, f of x -/
 | met (f x : Addr)
 /-- a range object lo, lo + 1, .. below hi -/
 | rng (lo hi : Int)
 /-- a thing that is known to the object (the script; a dict while a loop walks it): read, never written while it is so -/
 | frz (o : Obj) (u : HO)
 /-- a code object's table -/
 | tbl (ps : Array Value)
 /-- any other thing, by what is true of its one object (a def of one's own: SetO a S n := HO.ext fun h => ..) -/
 | ext (φ : Heap -> Prop)
abbrev Hp := Addr -> Option HO
def upd (H : Hp) (a : Addr) (o : HO) : Hp := fun b => if b = a then some o else H b
theorem upd_same {H : Hp} {a : Addr} {o : HO} : upd H a o a = some o := by unfold upd; rw [if_pos rfl]
theorem upd_ne {H : Hp} {a b : Addr} {o : HO} (h : b ≠ a) : upd H a o b = H b := by unfold upd; rw [if_neg h]
theorem upd_upd {H : Hp} {a : Addr} {o u : HO} : upd (upd H a o) a u = upd H a u := by
 funext b; unfold upd; split <;> rfl
theorem ne_of {H : Hp} {a b : Addr} {o u : HO} (h : H a = some o) (h' : H b = some u) (d : o ≠ u) : a ≠ b := by
 intro e; subst e; rw [h] at h'; exact d (Option.some.inj h')
theorem ne_of_none {H : Hp} {a b : Addr} {o : HO} (h : H a = some o) (h' : H b = none) : a ≠ b := by
 intro e; subst e; rw [h] at h'; cases h'
section
variable (P : Program) (w : World)
def ObjOk (H : Hp) (h : Heap) (a : Addr) : HO -> Prop
 | .lst xs => xs.length <= sizeLine /\ ∃ (its : List Value) (n : Nat), Vals xs its /\ h.get? a = some { cls := .type "list", data := .seq its.toArray n }
 | .tup xs => xs.length <= sizeLine /\ ∃ its : List Value, Vals xs its /\ IsTup h a its.toArray
 | .dK kvs => kvs.length <= sizeLine /\ (a == sysModules) = false /\ ∃ vs, KV kvs vs /\ h.DictOf (mixKind P w) a vs
 | .dT kvs => kvs.length <= sizeLine /\ (a == sysModules) = false /\ ∃ xs : List (List Key × Addr × Value),
   Paired (fun (p : List Key × V) (q : List Key × Addr × Value) => p.1 = q.1 /\ H q.2.1 = some (.tup (p.1.map kV)) /\ RelV p.2 q.2.2) kvs xs /\
   ∃ o es ep, h.get? a = some o /\ o.ExactDict /\ o.data = .dict es ep /\ es.toList = xs.map (entryOfKey (tupleKind (mixKind P w))) /\ (xs.map (·.1)).Nodup
 | .set S n => h.SetOf (intKind P w) a S n
 | .ins C dx fs => H dx = some (.own a) /\ fs.length <= 1000 /\ dx ≠ a /\ h.get? a = some (PySem.W.instObj C dx) /\
   ∃ mA, h.Ns1 dx mA /\ (∀ f, RelO (fs.lookup f) (mA f)) /\ PySem.Within mA (fs.map (·.1))
 | .own _ => ∃ o, h.get? a = some o
 | .xd fs => ∃ mA, h.Ns1 a mA /\ ∀ f, RelO (fs.lookup f) (mA f)
 | .rng lo hi => ∃ t u v, h.get? a = some { cls := .type "range", data := .fields #[.int lo t, .int hi u, .int 1 v] }
 | .frz o u => h.get? a = some o /\ ObjOk H h a u
 | .tbl ps => h.get? a = some { cls := .none, data := .fields ps }
 | .met f x => h.get? a = some (PySem.W.methodObj (.ref f) (.ref x))
 | .ext φ => φ h /\ (∃ o, h.get? a = some o) /\ ∀ h1 h2 : Heap, φ h1 -> (∀ o, h1.get? a = some o -> h2.get? a = some o) -> φ h2
def HOk (H : Hp) (h : Heap) : Prop := ∀ a o, H a = some o -> ObjOk P w H h a o
end
section
variable {P : Program} {w : World} {H H' : Hp} {h h' : Heap} {a : Addr} {o : HO}
theorem ObjOk.lt (x : ObjOk P w H h a o) : a < h.objs.size := by
 cases o with
 | lst xs => obtain ⟨_, _, _, _, e⟩ := x; exact Heap.lt_size e
 | tup xs => obtain ⟨_, _, _, p⟩ := x; exact p.lt
 | dK kvs => obtain ⟨_, _, _, _, o, _, _, e, _⟩ := x; exact Heap.lt_size e
 | dT kvs => obtain ⟨_, _, _, _, o, _, _, e, _⟩ := x; exact Heap.lt_size e
 | set S n => obtain ⟨o, _, _, _, e, _⟩ := x; exact Heap.lt_size e
 | ins C dx fs => obtain ⟨_, _, _, e, _⟩ := x; exact Heap.lt_size e
 | own y => obtain ⟨_, e⟩ := x; exact Heap.lt_size e
 | xd fs => obtain ⟨_, ⟨_, _, _, e, _⟩, _⟩ := x; exact Heap.lt_size e
 | rng lo hi => obtain ⟨_, _, _, e⟩ := x; exact Heap.lt_size e
 | frz ob u => obtain ⟨e, _⟩ := x; exact Heap.lt_size e
 | tbl ps => exact Heap.lt_size (show h.get? a = some _ from x)
 | met f y => exact Heap.lt_size (show h.get? a = some _ from x)
 | ext φ => obtain ⟨_, ⟨_, e⟩, _⟩ := x; exact Heap.lt_size e
theorem Paired.mapP {α β : Type} {F G : α -> β -> Prop} : ∀ {l₁ : List α} {l₂ : List β}, Paired F l₁ l₂ -> (∀ a b, F a b -> G a b) -> Paired G l₁ l₂
 | _, _, .nil, _ => .nil
 | _, _, .cons r t, f => .cons (f _ _ r) (Paired.mapP t f)
theorem ObjOk.stay (x : ObjOk P w H h a o) (k : ∀ b u, (b = a ∨ H b = some (.own a)) -> h.get? b = some u -> h'.get? b = some u)
  (ho : ∀ b, H b = some (.own a) -> H' b = some (.own a)) (ht : ∀ b xs, H b = some (.tup xs) -> H' b = some (.tup xs)) : ObjOk P w H' h' a o := by
 induction o with
 | lst xs => obtain ⟨z, its, n, r, e⟩ := x; exact ⟨z, its, n, r, k _ _ (.inl rfl) e⟩
 | tup xs => obtain ⟨z, its, r, ob, e, c⟩ := x; exact ⟨z, its, r, ob, k _ _ (.inl rfl) e, c⟩
 | dK kvs => obtain ⟨z, y, vs, r, ob, es, ep, e, c⟩ := x; exact ⟨z, y, vs, r, ob, es, ep, k _ _ (.inl rfl) e, c⟩
 | dT kvs =>
  obtain ⟨z, y, xs, r, ob, es, ep, e, c⟩ := x
  exact ⟨z, y, xs, Paired.mapP r fun p q z => ⟨z.1, ht _ _ z.2.1, z.2.2⟩, ob, es, ep, k _ _ (.inl rfl) e, c⟩
 | set S n => obtain ⟨ob, es, ep, t, e, c⟩ := x; exact ⟨ob, es, ep, t, k _ _ (.inl rfl) e, c⟩
 | ins C dx fs =>
  obtain ⟨d, z, ne, e, mA, ⟨od, es, ep, e2, c⟩, r⟩ := x
  exact ⟨ho _ d, z, ne, k _ _ (.inl rfl) e, mA, ⟨od, es, ep, k _ _ (.inr d) e2, c⟩, r⟩
 | own y => obtain ⟨ob, e⟩ := x; exact ⟨ob, k _ _ (.inl rfl) e⟩
 | xd fs => obtain ⟨mA, ⟨od, es, ep, e, c⟩, r⟩ := x; exact ⟨mA, ⟨od, es, ep, k _ _ (.inl rfl) e, c⟩, r⟩
 | rng lo hi => obtain ⟨t, u, v, e⟩ := x; exact ⟨t, u, v, k _ _ (.inl rfl) e⟩
 | frz ob u ih => obtain ⟨e, q⟩ := x; exact ⟨k _ _ (.inl rfl) e, ih q⟩
 | tbl ps =>
  have e : h.get? a = some { cls := .none, data := .fields ps } := x
  show h'.get? a = some { cls := .none, data := .fields ps }
  exact k a _ (.inl rfl) e
 | met f y =>
  have e : h.get? a = some (PySem.W.methodObj (.ref f) (.ref y)) := x
  show h'.get? a = some (PySem.W.methodObj (.ref f) (.ref y))
  exact k a _ (.inl rfl) e
 | ext φ => obtain ⟨p, ⟨o, e⟩, st⟩ := x; exact ⟨st _ _ p fun o q => k _ _ (.inl rfl) q, ⟨o, k _ _ (.inl rfl) e⟩, st⟩
theorem HOk.lt (x : HOk P w H h) (e : H a = some o) : a < h.objs.size := (x a o e).lt
theorem HOk.fresh (x : HOk P w H h) (e : h.objs.size <= a) : H a = none := by
 cases q : H a with
 | none => rfl
 | some u => exact absurd (Nat.lt_of_lt_of_le (x.lt q) e) (Nat.lt_irrefl _)
theorem HOk.kept (x : HOk P w H h) (k : ∀ b u, h.get? b = some u -> h'.get? b = some u) : HOk P w H h' := fun a o e =>
 (x a o e).stay (fun b u _ q => k b u q) (fun _ q => q) fun _ _ q => q
theorem HOk.laid (x : HOk P w H h) (k : ∀ b u, h.get? b = some u -> h'.get? b = some u) (hp : h.objs.size <= a) (new : ObjOk P w (upd H a o) h' a o) : HOk P w (upd H a o) h' := fun b u e => by
 have hn := x.fresh hp
 by_cases hb : b = a
 ·subst hb; rw [upd_same] at e; cases e; exact new
 ·rw [upd_ne hb] at e
  exact (x b u e).stay (fun c v _ q => k c v q) (fun c q => by rw [upd_ne (ne_of_none q hn)]; exact q) fun c xs q => by rw [upd_ne (ne_of_none q hn)]; exact q
end
def Rd (H : Hp) (a : Addr) (u : HO) : Prop := H a = some u ∨ ∃ o, H a = some (.frz o u)
theorem Rd.ok {P : Program} {w : World} {H : Hp} {h : Heap} {a : Addr} {u : HO} (r : Rd H a u) (x : HOk P w H h) : ObjOk P w H h a u := by
 rcases r with r | ⟨o, r⟩
 ·exact x a u r
 ·obtain ⟨_, q⟩ := x a _ r
  exact q
def Mut : Option HO -> Prop
 | some (.lst _) => True
 | some (.dK _) => True
 | some (.dT _) => True
 | some (.set _ _) => True
 | some (.ins _ _ _) => True
 | some (.ext _) => True
 | _ => False
section
variable {P : Program} {w : World} {H : Hp} {h h' : Heap} {x e : Addr} {o' : HO}
theorem HOk.write (ok : HOk P w H h) (mu : Mut (H x)) (he : e = x ∨ H e = some (.own x)) (k : ∀ b u, b ≠ e -> h.get? b = some u -> h'.get? b = some u) (heo : ∃ u, h'.get? e = some u)
  (new : ObjOk P w (upd H x o') h' x o') : HOk P w (upd H x o') h' := fun b u q => by
 have nown : ∀ c y, H c = some (.own y) -> c ≠ x := fun c y r z => by subst z; rw [r] at mu; exact mu
 have ntup : ∀ c xs, H c = some (.tup xs) -> c ≠ x := fun c xs r z => by subst z; rw [r] at mu; exact mu
 by_cases hb : b = x
 ·subst hb; rw [upd_same] at q; cases q; exact new
 ·rw [upd_ne hb] at q
  by_cases hbe : b = e
  ·have q' : H b = some (.own x) := by
    rcases he with z | z
    ·exact absurd (hbe.trans z) hb
    ·rw [hbe]; exact z
   rw [q] at q'; cases q'
   obtain ⟨v, hv⟩ := heo
   exact ⟨v, by rw [hbe]; exact hv⟩
  ·refine (ok b u q).stay (fun c v hc r => k c v ?_ r) (fun c r => by rw [upd_ne (nown c b r)]; exact r) fun c xs r => by rw [upd_ne (ntup c xs r)]; exact r
   rcases hc with rfl | hc
   ·exact hbe
   ·rintro rfl
    rcases he with z | z
    ·exact nown c b hc z
    ·rw [hc] at z; cases z; exact hb rfl
end
structure Un (fs ex : List Addr) (H H' : Hp) (h h' : Heap) : Prop where
 keep : ∀ b o, h.get? b = some o -> H b = none -> b ∉ fs -> b ∉ ex -> h'.get? b = some o
 slot : ∀ b o, h.get? b = some o -> H b = none -> b ∈ fs -> b ∉ ex -> ∃ sl, h'.get? b = some { o with slots := sl }
 free : ∀ b o, h.get? b = some o -> H b = none -> b ∉ ex -> H' b = none
 there : ∀ b o, h.get? b = some o -> b ∉ ex -> ∃ o', h'.get? b = some o'
 tups : ∀ b xs, H b = some (.tup xs) -> H' b = some (.tup xs)
 frzs : ∀ b o u, H b = some (.frz o u) -> H' b = some (.frz o u)
 tbls : ∀ b ps, H b = some (.tbl ps) -> ∃ more, H' b = some (.tbl (ps ++ more))
section
variable {fs fs' ex ex' : List Addr} {H H1 H2 : Hp} {h h1 h2 h' : Heap} {a x e : Addr} {o : HO}
theorem Un.any (u : Un fs ex H H1 h h1) {b : Addr} {ob : Obj} (q : h.get? b = some ob) (n : H b = none) (hx : b ∉ ex) : ∃ sl, h1.get? b = some { ob with slots := sl } := by
 by_cases hb : b ∈ fs
 ·exact u.slot b ob q n hb hx
 ·exact ⟨ob.slots, u.keep b ob q n hb hx⟩
theorem Un.kept (k : ∀ b u, h.get? b = some u -> h'.get? b = some u) : Un fs ex H H h h' :=
 ⟨fun b ob q _ _ _ => k b ob q, fun b ob q _ _ _ => ⟨ob.slots, k b ob q⟩, fun _ _ _ n _ => n, fun b ob q _ => ⟨ob, k b ob q⟩, fun _ _ q => q, fun _ _ _ q => q, fun _ ps q => ⟨#[], by rw [q]; simp⟩⟩
theorem Un.refl : Un fs ex H H h h := Un.kept fun _ _ q => q
theorem Un.laid (k : ∀ b u, h.get? b = some u -> h'.get? b = some u) (hp : h.objs.size <= a) (hn : H a = none) : Un fs ex H (upd H a o) h h' where
 keep := fun b u q _ _ _ => k b u q
 slot := fun b u q _ _ _ => ⟨u.slots, k b u q⟩
 free := fun b u q n _ => by rw [upd_ne (Nat.ne_of_lt (Nat.lt_of_lt_of_le (Heap.lt_size q) hp))]; exact n
 there := fun b u q _ => ⟨u, k b u q⟩
 tups := fun b xs q => by rw [upd_ne (ne_of_none q hn)]; exact q
 frzs := fun b u xs q => by rw [upd_ne (ne_of_none q hn)]; exact q
 tbls := fun b ps q => ⟨#[], by rw [upd_ne (ne_of_none q hn), q]; simp⟩
theorem Un.write (mu : Mut (H x)) (he : e = x ∨ H e = some (.own x)) (k : ∀ b u, b ≠ e -> h.get? b = some u -> h'.get? b = some u) (heo : ∃ u, h'.get? e = some u) : Un fs ex H (upd H x o) h h' := by
 have hx : ∀ b, H b = none -> b ≠ x := fun b n z => by subst z; rw [n] at mu; exact mu
 have hb : ∀ b, H b = none -> b ≠ e := fun b n z => by
  subst z
  rcases he with r | r
  ·exact hx b n r
  ·rw [n] at r; cases r
 have hm : ∀ b u, H b = some u -> ¬ Mut (some u) -> b ≠ x := fun b u q nm z => by subst z; rw [q] at mu; exact nm mu
 refine ⟨fun b u q n _ _ => k b u (hb b n) q, fun b u q n _ _ => ⟨u.slots, k b u (hb b n) q⟩, fun b u q n _ => by rw [upd_ne (hx b n)]; exact n, fun b u q _ => ?_,
  fun b xs q => by rw [upd_ne (hm b _ q fun z => z)]; exact q, fun b u xs q => by rw [upd_ne (hm b _ q fun z => z)]; exact q, fun b ps q => ⟨#[], by rw [upd_ne (hm b _ q fun z => z), q]; simp⟩⟩
 by_cases hbe : b = e
 ·subst hbe; exact heo
 ·exact ⟨u, k b u hbe q⟩
end
def trk (h : Heap) (H : Hp) : List Addr := (List.range h.objs.size).filter fun a => (H a).isSome
def hidT (h : Heap) (H : Hp) : Heap := PySem.W.hideAll h (trk h H)
theorem hidT_size (h : Heap) (H : Hp) : (hidT h H).objs.size = h.objs.size := PySem.W.hideAll_size _ _
theorem hidT_get {h : Heap} {H : Hp} {b : Addr} {o : Obj} (e : h.get? b = some o) (n : H b = none) : (hidT h H).get? b = some o :=
 PySem.W.hideAll_get _ e fun hm => by
  have q : (H b).isSome = true := (List.mem_filter.mp hm).2
  rw [n] at q; simp at q
theorem of_hidT {h : Heap} {H : Hp} {b : Addr} {o : Obj} (e : (hidT h H).get? b = some o) : h.get? b = some o /\ H b = none := by
 have e' : h.get? b = some o := PySem.W.of_hideAll (trk h H) e
 refine ⟨e', ?_⟩
 cases q : H b with
 | none => rfl
 | some x =>
  have hm : b ∈ trk h H := List.mem_filter.mpr ⟨List.mem_range.mpr (Heap.lt_size e'), by simp [q]⟩
  have z : (hidT h H).get? b = none := PySem.W.hideAll_none (trk h H) hm
  rw [z] at e; cases e
end L2
namespace L2
open PySem PySem.Spec PyProof.Rows
structure Mod (K : PySem.W.Frag) (mg : Str -> Option Value) (base : Heap) : Prop where
 kin : K.In base
 glob : base.Ns mainGlobals mg
 blt : ∃ mb, base.Ns builtinsNs mb /\ ∀ x : Str, x ≠ "__name__" -> mb x = bootBuiltins x
 nolimit : base.NoLimit
structure Cx where
 prog : Program
 w : World
 K : PySem.W.Frag
 mg : Str -> Option Value
 base : Heap
 A : Around
 N : List Str
 s_0 : Shared
 H_0 : Hp
 env : Env
 outer : List Env
 stack : List Env
 ex : List Addr
 fn : Str -> Bool
 calm : Bool
 pn : List (Addr × Obj)
 xe : Value -> Shared -> Prop
def frs (l : List Env) : List Addr := l.filterMap (·.frame)
abbrev Cx.fs (X : Cx) : List Addr := frs X.outer
def Vis (sc : Scope) (x : Str) : Prop := sc.names.lookup x = some .local ∨ sc.names.lookup x = some .cell ∨ sc.names.lookup x = some .free
def Loc (sc : Scope) (x : Str) : Prop := sc.names.lookup x = some .local ∨ sc.names.lookup x = some .cell
def Look (env : Env) (h : Heap) (m : Str -> Option Value) (x : Str) (u : Value) : Prop :=
 (env.kindOf x = some .local /\ m x = some u) ∨ ((env.kindOf x = some .cell ∨ env.kindOf x = some .free) /\ ∃ c, env.cells.lookup x = some c /\ h.IsCell c (some u))
structure Cx.Ok (X : Cx) : Prop where
 mod : Mod X.K X.mg X.base
 kind : X.env.scope.kind = .function
 glob : X.env.globals = mainGlobals
 blt : X.env.builtins = builtinsNs
 above : X.s_0.heap.objs.size <= X.env.locals
 inj : ∀ x y c, X.env.cells.lookup x = some c -> X.env.cells.lookup y = some c -> x = y
 has : ∀ x, (X.env.kindOf x = some .cell ∨ X.env.kindOf x = some .free) -> ∃ c, X.env.cells.lookup x = some c
 cab : ∀ x c, X.fn x = true -> X.env.cells.lookup x = some c -> X.s_0.heap.objs.size <= c
 hd : X.calm = true -> X.A.handled = none
 frames : X.A.frames = some X.stack
 stk : X.stack = X.outer ∨ (X.stack = X.env :: X.outer /\ X.env.frame = some X.env.locals)
 exf : ∀ b ∈ X.ex, b ≠ X.env.locals /\ ∀ x c, X.env.cells.lookup x = some c -> c ≠ b
 bs : ∀ b o, X.base.get? b = some o -> X.s_0.heap.get? b = some o /\ X.H_0 b = none
 bsz : X.base.objs.size <= X.s_0.heap.objs.size
 noex : ∀ b o, X.base.get? b = some o -> b ∉ X.ex
 exfs : ∀ b ∈ X.ex, b ∉ X.fs
 funs : X.s_0.heap.FunFrames X.base X.outer
 frf : ∀ b ∈ X.fs, X.H_0 b = none
structure Inv (X : Cx) (pins : List (Addr × Obj)) (σ : List (Option V)) (H : Hp) (s : Shared) : Prop where
 ok : X.Ok
 os : s.os = X.s_0.os
 bare : AllBare s.gens
 base : Un X.fs X.ex X.H_0 H X.s_0.heap s.heap
 loc : ∃ m, s.heap.Ns X.env.locals m /\ ∀ (i : Nat) (x : Str) (v : V), X.N[i]? = some x -> σ[i]? = some (some v) -> Vis X.env.scope x -> ∃ u, RelV v u /\ Look X.env s.heap m x u
 cell : ∀ x c, X.env.cells.lookup x = some c -> ∃ v, s.heap.IsCell c v
 free : H X.env.locals = none
 freeC : ∀ x c, X.env.cells.lookup x = some c -> H c = none
 pin : ∀ p ∈ X.pn ++ pins, s.heap.get? p.1 = some p.2 /\ H p.1 = none /\ p.1 ≠ X.env.locals /\ p.1 ∉ X.fs /\ ∀ v, p.2.data ≠ .cell v
 hok : HOk X.prog X.w H s.heap
 len : σ.length = X.N.length
section
variable {X : Cx} {pins : List (Addr × Obj)} {σ : List (Option V)} {H H' : Hp} {s : Shared} {h' : Heap}
theorem Cx.Ok.nofr (ok : X.Ok) {b : Addr} {o : Obj} (e : X.base.get? b = some o) : b ∉ X.fs := fun hb => by
 have := (ok.funs.mem hb).1
 rw [e] at this; cases this
theorem Inv.bs (I : Inv X pins σ H s) : ∀ b o, X.base.get? b = some o -> s.heap.get? b = some o /\ H b = none := fun b o e =>
 ⟨I.base.keep b o (I.ok.bs b o e).1 (I.ok.bs b o e).2 (I.ok.nofr e) (I.ok.noex b o e), I.base.free b o (I.ok.bs b o e).1 (I.ok.bs b o e).2 (I.ok.noex b o e)⟩
theorem Inv.bk (I : Inv X pins σ H s) : ∀ b o, X.base.get? b = some o -> s.heap.get? b = some o := fun b o e => (I.bs b o e).1
theorem Inv.mod (I : Inv X pins σ H s) : Mod X.K X.mg X.base := I.ok.mod
theorem Inv.kIn (I : Inv X pins σ H s) : X.K.In s.heap := I.ok.mod.kin.keeps I.bk
theorem Inv.nolimit (I : Inv X pins σ H s) : s.heap.NoLimit := I.ok.mod.nolimit.keeps I.bk
theorem Inv.fr (I : Inv X pins σ H s) : ∃ m, Fr X.base X.env.locals s.heap m :=
 let ⟨m, hn, _⟩ := I.loc
 ⟨m, hn, I.bk, Nat.le_trans I.ok.bsz I.ok.above⟩
theorem Inv.lt (I : Inv X pins σ H s) : X.env.locals < s.heap.objs.size := let ⟨_, hn, _⟩ := I.loc; hn.lt
theorem Inv.sz (I : Inv X pins σ H s) : X.s_0.heap.objs.size <= s.heap.objs.size := Nat.le_trans I.ok.above (Nat.le_of_lt I.lt)
theorem Inv.nofs (I : Inv X pins σ H s) {a : Addr} (h : s.heap.objs.size <= a) : a ∉ X.fs := fun hb => by
 obtain ⟨_, o, ho, _⟩ := I.ok.funs.mem hb
 exact absurd (Nat.lt_of_lt_of_le (Heap.lt_size ho) (Nat.le_trans I.sz h)) (Nat.lt_irrefl _)
theorem Inv.cne (I : Inv X pins σ H s) : ∀ x c, X.env.cells.lookup x = some c -> c ≠ X.env.locals := fun x c e z => by
 obtain ⟨v, o, ho, hd⟩ := I.cell x c e
 obtain ⟨m, ⟨o', es, ep, ho', hd', _⟩, _⟩ := I.loc
 rw [z, ho'] at ho; cases ho; rw [hd'] at hd; cases hd
theorem Inv.funs (I : Inv X pins σ H s) : s.heap.FunFrames X.base X.outer := by
 have all : ∀ (l : List Env), (∀ b ∈ frs l, b ∈ X.fs) -> X.s_0.heap.FunFrames X.base l -> s.heap.FunFrames X.base l := by
  intro l
  induction l with
  | nil => intro _ _; trivial
  | cons env r ih =>
   intro hs hl
   obtain ⟨hk, ⟨L, o, hf, hn, ho, hd⟩, hr⟩ := hl
   have hL : L ∈ X.fs := hs L (by unfold frs; rw [List.filterMap_cons, hf]; exact List.mem_cons_self)
   obtain ⟨sl, e⟩ := I.base.slot L o ho (I.ok.frf L hL) hL fun z => I.ok.exfs L z hL
   exact ⟨hk, ⟨L, _, hf, hn, e, hd⟩, ih (fun b hb => hs b (by unfold frs; rw [List.filterMap_cons, hf]; exact List.mem_cons_of_mem _ hb)) hr⟩
 exact all X.outer (fun _ hb => hb) I.ok.funs
theorem Inv.stack (I : Inv X pins σ H s) : s.heap.FunFrames X.base X.stack := by
 rcases I.ok.stk with e | ⟨e, hf⟩
 ·rw [e]; exact I.funs
 ·rw [e]
  obtain ⟨m, hn, _⟩ := I.loc
  refine .cons (by rw [I.ok.kind]; decide) hf hn ?_ I.funs
  exact Heap.get?_none_of_le (Nat.le_trans I.ok.bsz I.ok.above)
theorem Inv.stkSub (I : Inv X pins σ H s) : ∀ b ∈ frs X.stack, b ∈ X.env.locals :: X.fs := fun b hb => by
 rcases I.ok.stk with e | ⟨e, hf⟩
 ·rw [e] at hb; exact List.mem_cons_of_mem _ hb
 ·rw [e] at hb
  unfold frs at hb
  rw [List.filterMap_cons, hf] at hb
  exact hb
theorem Inv.stkFree (I : Inv X pins σ H s) : ∀ b ∈ frs X.stack, H b = none := fun b hb => by
 rcases List.mem_cons.mp (I.stkSub b hb) with e | hb
 ·rw [e]; exact I.free
 ·obtain ⟨_, o, ho, _⟩ := I.ok.funs.mem hb
  exact I.base.free b o ho (I.ok.frf b hb) fun z => I.ok.exfs b z hb
theorem Inv.step {g' : Array GenState} {t' : Nat} {d' : Drawn} {ch : List Addr} (I : Inv X pins σ H s)
  (hch : ∀ b ∈ ch, (b ∈ X.ex ∨ X.s_0.heap.objs.size <= b) /\ b ≠ X.env.locals /\ (∀ x c, X.env.cells.lookup x = some c -> c ≠ b) /\ ∀ p ∈ X.pn ++ pins, p.1 ≠ b)
  (keep : ∀ b o, b ≠ X.env.locals -> b ∉ X.fs -> b ∉ ch -> s.heap.get? b = some o -> H b = none -> h'.get? b = some o)
  (slot : ∀ b o, b ≠ X.env.locals -> b ∈ X.fs -> b ∉ ch -> s.heap.get? b = some o -> H b = none -> ∃ sl, h'.get? b = some { o with slots := sl }) (free : ∀ b o, b ∉ ch -> s.heap.get? b = some o -> H b = none -> H' b = none)
  (there : ∀ b o, b ∉ ch -> s.heap.get? b = some o -> ∃ o', h'.get? b = some o')
  (tups : ∀ b xs, H b = some (.tup xs) -> H' b = some (.tup xs)) (frzs : ∀ b o u, H b = some (.frz o u) -> H' b = some (.frz o u)) (tbls : ∀ b ps, H b = some (.tbl ps) -> ∃ more, H' b = some (.tbl (ps ++ more)))
  (ns : ∀ m, s.heap.Ns X.env.locals m -> h'.Ns X.env.locals m) (hok : HOk X.prog X.w H' h') (hg : AllBare g') :
  Inv X pins σ H' { s with heap := h', gens := g', drawn := d', toks := t' } := by
 have neL : ∀ b o, X.s_0.heap.get? b = some o -> b ≠ X.env.locals := fun b o e => Nat.ne_of_lt (Nat.lt_of_lt_of_le (Heap.lt_size e) I.ok.above)
 have neC : ∀ b o, X.s_0.heap.get? b = some o -> b ∉ X.ex -> b ∉ ch := fun b o e hx hb => by
  rcases (hch b hb).1 with z | z
  ·exact hx z
  ·exact absurd (Nat.lt_of_lt_of_le (Heap.lt_size e) z) (Nat.lt_irrefl _)
 have cellK : ∀ x c, X.env.cells.lookup x = some c -> ∀ v, s.heap.IsCell c v -> h'.IsCell c v := fun x c e v ⟨o, ho, hd⟩ => by
  have nch : c ∉ ch := fun z => (hch c z).2.2.1 x c e rfl
  by_cases hc : c ∈ X.fs
  ·obtain ⟨sl, q⟩ := slot c o (I.cne x c e) hc nch ho (I.freeC x c e)
   exact ⟨_, q, hd⟩
  ·exact ⟨o, keep c o (I.cne x c e) hc nch ho (I.freeC x c e), hd⟩
 refine ⟨I.ok, I.os, hg, ⟨fun b o e n hb hx => ?_, fun b o e n hb hx => ?_, fun b o e n hx => ?_, fun b o e hx => ?_, fun b xs e => tups b xs (I.base.tups b xs e), fun b o xs e => frzs b o xs (I.base.frzs b o xs e), fun b ps e => ?_⟩, ?_, fun x c e => ?_, ?_, fun x c e => ?_, fun p hp => ?_, hok, I.len⟩
 ·exact keep b o (neL b o e) hb (neC b o e hx) (I.base.keep b o e n hb hx) (I.base.free b o e n hx)
 ·obtain ⟨sl, e1⟩ := I.base.slot b o e n hb hx
  obtain ⟨sl', e2⟩ := slot b _ (neL b o e) hb (neC b o e hx) e1 (I.base.free b o e n hx)
  exact ⟨sl', e2⟩
 ·obtain ⟨o', e1⟩ := I.base.there b o e hx
  exact free b o' (neC b o e hx) e1 (I.base.free b o e n hx)
 ·obtain ⟨o', e1⟩ := I.base.there b o e hx
  exact there b o' (neC b o e hx) e1
 ·obtain ⟨m1, e1⟩ := I.base.tbls b ps e
  obtain ⟨m2, e2⟩ := tbls b _ e1
  exact ⟨m1 ++ m2, by rw [e2, Array.append_assoc]⟩
 ·obtain ⟨m, hn, hl⟩ := I.loc
  refine ⟨m, ns m hn, fun i x v e1 e2 e3 => ?_⟩
  obtain ⟨u, r, l⟩ := hl i x v e1 e2 e3
  refine ⟨u, r, ?_⟩
  rcases l with l | ⟨k, c, e, z⟩
  ·exact .inl l
  ·exact .inr ⟨k, c, e, cellK x c e _ z⟩
 ·obtain ⟨v, z⟩ := I.cell x c e
  exact ⟨v, cellK x c e v z⟩
 ·obtain ⟨m, ⟨o, _, _, ho, _⟩, _⟩ := I.loc
  exact free _ o (fun z => (hch _ z).2.1 rfl) ho I.free
 ·obtain ⟨v, o, ho, hd⟩ := I.cell x c e
  exact free c o (fun z => (hch c z).2.2.1 x c e rfl) ho (I.freeC x c e)
 ·obtain ⟨e, n, ne, nf, d⟩ := I.pin p hp
  have nch : p.1 ∉ ch := fun z => (hch p.1 z).2.2.2 p hp rfl
  exact ⟨keep p.1 p.2 ne nf nch e n, free p.1 p.2 nch e n, ne, nf, d⟩
theorem Inv.un {t' : Nat} (I : Inv X pins σ H s) (u : Un X.fs [] H H' s.heap h') (hok : HOk X.prog X.w H' h') : Inv X pins σ H' { s with heap := h', toks := t' } := by
 obtain ⟨m, ⟨o, es, ep, ho, r⟩, _⟩ := id I.loc
 obtain ⟨sl, hL⟩ := u.any ho I.free (by simp)
 exact I.step (g' := s.gens) (d' := s.drawn) (ch := []) (fun _ z => nomatch z) (fun b o _ hb _ e n => u.keep b o e n hb (by simp)) (fun b o _ hb _ e n => u.slot b o e n hb (by simp)) (fun b o _ e n => u.free b o e n (by simp)) (fun b o _ e => u.there b o e (by simp)) u.tups u.frzs u.tbls (fun m' hm => by
  obtain ⟨o', es', ep', ho', r'⟩ := hm
  rw [ho] at ho'; cases ho'
  exact ⟨_, es', ep', hL, r'⟩) hok I.bare
theorem Inv.call {g' : Array GenState} {t' : Nat} {d' : Drawn} {ch : List Addr} (I : Inv X pins σ H s) (u : Un (frs X.stack) ch H H' s.heap h') (hok : HOk X.prog X.w H' h') (hg : AllBare g')
  (hch : ∀ b ∈ ch, (b ∈ X.ex ∨ X.s_0.heap.objs.size <= b) /\ b ≠ X.env.locals /\ (∀ x c, X.env.cells.lookup x = some c -> c ≠ b) /\ ∀ p ∈ X.pn ++ pins, p.1 ≠ b) :
  Inv X pins σ H' { s with heap := h', gens := g', drawn := d', toks := t' } := by
 obtain ⟨m, ⟨o, es, ep, ho, r⟩, _⟩ := id I.loc
 obtain ⟨sl, hL⟩ := u.any ho I.free fun z => (hch _ z).2.1 rfl
 exact I.step (ch := ch) hch (fun b o hL hb hc e n => u.keep b o e n (fun z => (List.mem_cons.mp (I.stkSub b z)).elim hL hb) hc) (fun b o _ _ hc e n => u.any e n hc) (fun b o hc e n => u.free b o e n hc) (fun b o hc e => u.there b o e hc) u.tups u.frzs u.tbls (fun m' hm => by
  obtain ⟨o', es', ep', ho', r'⟩ := hm
  rw [ho] at ho'; cases ho'
  exact ⟨_, es', ep', hL, r'⟩) hok hg
theorem Inv.turned {t' : Nat} {it : Addr} (I : Inv X pins σ H s) (k : ∀ b o, b ≠ it -> s.heap.get? b = some o -> h'.get? b = some o) (hn : H it = none) (hL : it ≠ X.env.locals)
  (h1 : it ∈ X.ex ∨ X.s_0.heap.objs.size <= it) (h2 : ∀ x c, X.env.cells.lookup x = some c -> c ≠ it) (h3 : ∀ p ∈ X.pn ++ pins, p.1 ≠ it) : Inv X pins σ H { s with heap := h', toks := t' } := by
 have nit : ∀ b u, H b = some u -> b ≠ it := fun b u e z => by rw [z, hn] at e; cases e
 refine I.step (g' := s.gens) (d' := s.drawn) (ch := [it]) (fun b hb => ?_) (fun b o _ _ hc e _ => k b o (fun z => hc (by simp [z])) e) (fun b o _ _ hc e _ => ⟨o.slots, k b o (fun z => hc (by simp [z])) e⟩) (fun _ _ _ _ n => n)
  (fun b o hc e => ⟨o, k b o (fun z => hc (by simp [z])) e⟩) (fun _ _ e => e) (fun _ _ _ e => e) (fun b ps e => ⟨#[], by rw [e]; simp⟩) (fun m hm => ?_) (fun b u e => ?_) I.bare
 ·have e : b = it := by simpa using hb
  subst e
  exact ⟨h1, hL, h2, h3⟩
 ·obtain ⟨o, es, ep, ho, r⟩ := hm
  exact ⟨o, es, ep, k _ o (Ne.symm hL) ho, r⟩
 ·refine (I.hok b u e).stay (fun c v hc q => k c v ?_ q) (fun _ q => q) fun _ _ q => q
  rcases hc with z | z
  ·rw [z]; exact nit b u e
  ·exact nit c _ z
theorem Inv.tok (I : Inv X pins σ H s) (t : Nat) : Inv X pins σ H { s with toks := t } := I.un (h' := s.heap) (t' := t) Un.refl I.hok
theorem Inv.kept {t' : Nat} (I : Inv X pins σ H s) (k : ∀ b u, s.heap.get? b = some u -> h'.get? b = some u) : Inv X pins σ H { s with heap := h', toks := t' } := I.un (Un.kept k) (I.hok.kept k)
theorem Inv.laid {a : Addr} {o : HO} {t' : Nat} (I : Inv X pins σ H s) (k : ∀ b u, s.heap.get? b = some u -> h'.get? b = some u) (hp : s.heap.objs.size <= a) (new : ObjOk X.prog X.w (upd H a o) h' a o) :
  Inv X pins σ (upd H a o) { s with heap := h', toks := t' } := I.un (Un.laid k hp (I.hok.fresh hp)) (I.hok.laid k hp new)
theorem Inv.write {x e : Addr} {o : HO} {t' : Nat} (I : Inv X pins σ H s) (mu : Mut (H x)) (he : e = x ∨ H e = some (.own x)) (k : ∀ b u, b ≠ e -> s.heap.get? b = some u -> h'.get? b = some u) (heo : ∃ u, h'.get? e = some u)
  (new : ObjOk X.prog X.w (upd H x o) h' x o) : Inv X pins σ (upd H x o) { s with heap := h', toks := t' } := I.un (Un.write mu he k heo) (I.hok.write mu he k heo new)
theorem Inv.weak {σ' : List (Option V)} (I : Inv X pins σ H s) (hl : σ'.length = σ.length) (w : ∀ (i : Nat) v, σ'[i]? = some (some v) -> σ[i]? = some (some v)) : Inv X pins σ' H s :=
 ⟨I.ok, I.os, I.bare, I.base, let ⟨m, hn, hl'⟩ := I.loc; ⟨m, hn, fun i x v e1 e2 e3 => hl' i x v e1 (w i v e2) e3⟩, I.cell, I.free, I.freeC, I.pin, I.hok, hl.trans I.len⟩
theorem Inv.pins_of {pins' : List (Addr × Obj)} (I : Inv X pins σ H s) (h : ∀ p ∈ pins', s.heap.get? p.1 = some p.2 /\ H p.1 = none /\ p.1 ≠ X.env.locals /\ p.1 ∉ X.fs /\ ∀ v, p.2.data ≠ .cell v) : Inv X pins' σ H s :=
 ⟨I.ok, I.os, I.bare, I.base, I.loc, I.cell, I.free, I.freeC, fun p hp => (List.mem_append.mp hp).elim (fun z => I.pin p (List.mem_append_left _ z)) (h p), I.hok, I.len⟩
theorem nodup_ix {N : List Str} (hN : N.Nodup) {i j : Nat} {x : Str} (a : N[i]? = some x) (b : N[j]? = some x) : i = j := by
 obtain ⟨h1, e1⟩ := List.getElem?_eq_some_iff.mp a
 obtain ⟨h2, e2⟩ := List.getElem?_eq_some_iff.mp b
 exact (List.getElem_inj hN).mp (e1.trans e2.symm)
theorem store_ok2 {M : Model} {A : Around} {E : Value -> Shared -> Prop} {i : Nat} {x : Str} {v : V} {u : Value} {Q : Unit -> Shared -> Prop} (I : Inv X pins σ H s) (hN : X.N.Nodup) (hi : X.N[i]? = some x) (hx : Loc X.env.scope x) (r : RelV v u)
  (h : ∀ s', Inv X pins (σ.set i (some v)) H s' -> (∃ a, Heap.SameBut a s.heap s'.heap /\ (a = X.env.locals ∨ X.env.cells.lookup x = some a)) -> Q () s') (hf : X.fn x = true ∨ X.env.scope.names.lookup x = some .local := by first | exact .inl rfl | exact .inr rfl | assumption) : wpAny M A (storeName X.env x u) Q E s := by
 obtain ⟨m, hn, hl⟩ := id I.loc
 have hcls : (X.env.scope.kind == .class || (X.env.scope.kind == .module && X.env.locals != X.env.globals)) = false := by rw [I.ok.kind]; rfl
 have hiσ : i < σ.length := by rw [I.len]; exact (List.getElem?_eq_some_iff.mp hi).1
 have cne := I.cne
 have tracked : ∀ {a : Addr} {h' : Heap}, (∃ o, s.heap.get? a = some o /\ H a = none) -> Heap.SameBut a s.heap h' -> HOk X.prog X.w H h' := fun {a h'} ha hs b ob e => by
  obtain ⟨_, _, hfree⟩ := ha
  refine (I.hok b ob e).stay (fun c w' hc q => (hs.2 c ?_).trans q) (fun _ q => q) fun _ _ q => q
  rintro rfl
  rcases hc with rfl | hc
  ·rw [hfree] at e; cases e
  ·rw [hfree] at hc; cases hc
 rcases hx with hk | hk
 ·refine wpAny_storeName_local hk hn (fun h' hn' hs => ?_) hcls
  obtain ⟨oL, _, _, hoL, _⟩ := id hn
  refine h _ ⟨I.ok, I.os, I.bare, ⟨fun b o e n hb hx => ?_, fun b o e n hb hx => ?_, I.base.free, fun b o e hx => ?_, I.base.tups, I.base.frzs, I.base.tbls⟩, ⟨_, hn', fun j y v' e1 e2 e3 => ?_⟩, fun y c e => ?_, I.free, I.freeC, fun p hp => ?_, tracked ⟨oL, hoL, I.free⟩ hs, by simpa using I.len⟩ ⟨_, hs, .inl rfl⟩
  ·exact (hs.2 b (Nat.ne_of_lt (Nat.lt_of_lt_of_le (Heap.lt_size e) I.ok.above))).trans (I.base.keep b o e n hb hx)
  ·obtain ⟨sl, e1⟩ := I.base.slot b o e n hb hx
   exact ⟨sl, (hs.2 b (Nat.ne_of_lt (Nat.lt_of_lt_of_le (Heap.lt_size e) I.ok.above))).trans e1⟩
  ·obtain ⟨o', e1⟩ := I.base.there b o e hx
   exact ⟨o', (hs.2 b (Nat.ne_of_lt (Nat.lt_of_lt_of_le (Heap.lt_size e) I.ok.above))).trans e1⟩
  ·by_cases hj : j = i
   ·subst hj
    rw [hi] at e1; cases e1
    rw [List.getElem?_set_self hiσ] at e2
    cases e2
    exact ⟨u, r, .inl ⟨hk, by simp⟩⟩
   ·rw [List.getElem?_set_ne (Ne.symm hj)] at e2
    obtain ⟨u', r', q⟩ := hl j y v' e1 e2 e3
    refine ⟨u', r', ?_⟩
    rcases q with ⟨k, e⟩ | ⟨k, c, e, z⟩
    ·refine .inl ⟨k, ?_⟩
     have : y ≠ x := fun e => hj (nodup_ix hN e1 (e ▸ hi))
     simp [this, e]
    ·exact .inr ⟨k, c, e, z.sameBut hs (cne y c e)⟩
  ·obtain ⟨w', z⟩ := I.cell y c e
   exact ⟨w', z.sameBut hs (cne y c e)⟩
  ·obtain ⟨e, n, ne, nf, d⟩ := I.pin p hp
   exact ⟨(hs.2 p.1 ne).trans e, n, ne, nf, d⟩
 ·have hfn : X.fn x = true := by
   rcases hf with z | z
   ·exact z
   ·rw [z] at hk; cases hk
  obtain ⟨c, hc⟩ := I.ok.has x (.inl hk)
  obtain ⟨w', z⟩ := I.cell x c hc
  refine wpAny_storeName_cell I.ok.kind hk hc z (fun h' hc' hs => ?_)
  obtain ⟨oc, hoc, hocd⟩ := id z
  refine h { s with heap := h' } ⟨I.ok, I.os, I.bare, ⟨fun b o e n hb hx => ?_, fun b o e n hb hx => ?_, I.base.free, fun b o e hx => ?_, I.base.tups, I.base.frzs, I.base.tbls⟩, ⟨m, hn.sameBut hs (Ne.symm (cne x c hc)), fun j y v' e1 e2 e3 => ?_⟩, fun y c' e => ?_, I.free, I.freeC, fun p hp => ?_, tracked ⟨oc, hoc, I.freeC x c hc⟩ hs, by simpa using I.len⟩ ⟨c, hs, .inr hc⟩
  ·exact (hs.2 b (Nat.ne_of_lt (Nat.lt_of_lt_of_le (Heap.lt_size e) (I.ok.cab x c hfn hc)))).trans (I.base.keep b o e n hb hx)
  ·obtain ⟨sl, e1⟩ := I.base.slot b o e n hb hx
   exact ⟨sl, (hs.2 b (Nat.ne_of_lt (Nat.lt_of_lt_of_le (Heap.lt_size e) (I.ok.cab x c hfn hc)))).trans e1⟩
  ·obtain ⟨o', e1⟩ := I.base.there b o e hx
   exact ⟨o', (hs.2 b (Nat.ne_of_lt (Nat.lt_of_lt_of_le (Heap.lt_size e) (I.ok.cab x c hfn hc)))).trans e1⟩
  ·by_cases hj : j = i
   ·subst hj
    rw [hi] at e1; cases e1
    rw [List.getElem?_set_self hiσ] at e2
    cases e2
    exact ⟨u, r, .inr ⟨.inl hk, c, hc, hc'⟩⟩
   ·rw [List.getElem?_set_ne (Ne.symm hj)] at e2
    obtain ⟨u', r', q⟩ := hl j y v' e1 e2 e3
    refine ⟨u', r', ?_⟩
    rcases q with q | ⟨k, c', e, z'⟩
    ·exact .inl q
    ·refine .inr ⟨k, c', e, z'.sameBut hs ?_⟩
     rintro rfl
     exact hj (nodup_ix hN e1 (I.ok.inj _ _ _ e hc ▸ hi))
  ·by_cases hcc : c' = c
   ·subst hcc; exact ⟨_, hc'⟩
   ·obtain ⟨w2, z2⟩ := I.cell y c' e
    exact ⟨w2, z2.sameBut hs hcc⟩
  ·obtain ⟨e, n, ne, nf, d⟩ := I.pin p hp
   refine ⟨(hs.2 p.1 ?_).trans e, n, ne, nf, d⟩
   intro q
   rw [q, hoc] at e
   have q' : oc = p.2 := Option.some.inj e
   exact d w' (by rw [<- q']; exact hocd)
theorem store_ok {M : Model} {A : Around} {E : Value -> Shared -> Prop} {i : Nat} {x : Str} {v : V} {u : Value} {Q : Unit -> Shared -> Prop} (I : Inv X pins σ H s) (hN : X.N.Nodup) (hi : X.N[i]? = some x) (hx : Loc X.env.scope x) (r : RelV v u)
  (h : ∀ s', Inv X pins (σ.set i (some v)) H s' -> Q () s') (hf : X.fn x = true ∨ X.env.scope.names.lookup x = some .local := by first | exact .inl rfl | exact .inr rfl | assumption) : wpAny M A (storeName X.env x u) Q E s :=
 store_ok2 I hN hi hx r (fun s' I' _ => h s' I') hf
theorem Inv.call' {s' : Shared} {ch : List Addr} (I : Inv X pins σ H s) (ho : s'.os = s.os) (u : Un (frs X.stack) ch H H' s.heap s'.heap) (hok : HOk X.prog X.w H' s'.heap) (hg : AllBare s'.gens)
  (hch : ∀ b ∈ ch, (b ∈ X.ex ∨ X.s_0.heap.objs.size <= b) /\ b ≠ X.env.locals /\ (∀ x c, X.env.cells.lookup x = some c -> c ≠ b) /\ ∀ p ∈ X.pn ++ pins, p.1 ≠ b) : Inv X pins σ H' s' := by
 obtain ⟨h', g', d', t', o'⟩ := s'
 have e : o' = s.os := ho
 subst e
 exact I.call (g' := g') (t' := t') (d' := d') u hok hg hch
end
abbrev XK := Value -> Option Addr -> Hp -> Prop
abbrev St := List (Option V)
abbrev VK := V -> Hp -> Prop
abbrev TE := St -> Hp -> VK -> Prop
abbrev TT := St -> Hp -> (Bool -> Hp -> Prop) -> Prop
abbrev TA := St -> Hp -> (List V -> Hp -> Prop) -> Prop
structure Ends where
 nx : St -> Hp -> Prop
 rt : VK
 bk : St -> Hp -> Prop := fun _ _ => False
 ct : St -> Hp -> Prop := fun _ _ => False
abbrev TS := Ends -> St -> Hp -> Prop
def EP (X : Cx) (pins : List (Addr × Obj)) (σ : St) (Q : VK) (u : Value) (s' : Shared) : Prop := ∃ v H', Inv X pins σ H' s' /\ RelV v u /\ Q v H'
def TP (X : Cx) (pins : List (Addr × Obj)) (σ : St) (Q : Bool -> Hp -> Prop) (b : Bool) (s' : Shared) : Prop := ∃ H', Inv X pins σ H' s' /\ Q b H'
def AP (X : Cx) (pins : List (Addr × Obj)) (σ : St) (Q : List V -> Hp -> Prop) (us : List Value) (s' : Shared) : Prop := ∃ vs H', Inv X pins σ H' s' /\ Vals vs us /\ Q vs H'
def SP (X : Cx) (pins : List (Addr × Obj)) (D : Ends) (f : Flow) (s' : Shared) : Prop :=
 match f with
 | .next => ∃ σ' H', Inv X pins σ' H' s' /\ D.nx σ' H'
 | .brk => ∃ σ' H', Inv X pins σ' H' s' /\ D.bk σ' H'
 | .cont => ∃ σ' H', Inv X pins σ' H' s' /\ D.ct σ' H'
 | .ret u => ∃ v σ' H', Inv X pins σ' H' s' /\ RelV v u /\ D.rt v H'
def PE (X : Cx) (e : Expr) (t : TE) : Prop :=
 ∀ (pins : List (Addr × Obj)) (s : Shared) (σ : St) (H : Hp) (Q : VK), Inv X pins σ H s -> t σ H Q -> wpAny (model X.prog X.w) X.A (eval e X.env) (EP X pins σ Q) X.xe s
def PT (X : Cx) (e : Expr) (t : TT) : Prop :=
 ∀ (pins : List (Addr × Obj)) (s : Shared) (σ : St) (H : Hp) (Q : Bool -> Hp -> Prop), Inv X pins σ H s -> t σ H Q -> wpAny (model X.prog X.w) X.A (isTrue e X.env (eval e X.env)) (TP X pins σ Q) X.xe s
def PW (X : Cx) (e : Expr) (t : TT) : Prop :=
 ∀ (whole : Sem Value) (pins : List (Addr × Obj)) (s : Shared) (σ : St) (H : Hp) (Q : Bool -> Hp -> Prop), Inv X pins σ H s -> t σ H Q -> wpAny (model X.prog X.w) X.A (isTrue e X.env whole) (TP X pins σ Q) X.xe s
theorem PW.pt {X : Cx} {e : Expr} {t : TT} (h : PW X e t) : PT X e t := h _
def PA (X : Cx) (es : List Expr) (t : TA) : Prop :=
 ∀ (pos : Pos) (pins : List (Addr × Obj)) (s : Shared) (σ : St) (H : Hp) (Q : List V -> Hp -> Prop), Inv X pins σ H s -> t σ H Q -> wpAny (model X.prog X.w) X.A (spliced (backTo pos (starEach es X.env))) (AP X pins σ Q) X.xe s
def PS (X : Cx) (st : Stmt) (t : TS) : Prop :=
 ∀ (pins : List (Addr × Obj)) (s : Shared) (σ : St) (H : Hp) (D : Ends), Inv X pins σ H s -> t D σ H -> wpAny (model X.prog X.w) X.A (exec st X.env) (SP X pins D) X.xe s
def PSs (X : Cx) (st : List Stmt) (t : TS) : Prop :=
 ∀ (pins : List (Addr × Obj)) (s : Shared) (σ : St) (H : Hp) (D : Ends), Inv X pins σ H s -> t D σ H -> wpAny (model X.prog X.w) X.A (execs st X.env) (SP X pins D) X.xe s
theorem thn {α : Type} {t : Sem α} {Q Q' : α -> Shared -> Prop} {M : Model} {A : Around} {E : Value -> Shared -> Prop} {s : Shared} (h : wpAny M A t Q E s) (hQ : ∀ a s, Q a s -> Q' a s) : wpAny M A t Q' E s := wpAny_mono h hQ fun _ _ x => x
end L2
namespace L2
open PySem PySem.Spec PyProof.Rows
section
variable {X : Cx}
theorem bin {a b : Expr} {ta tb : TE} (ha : PE X a ta) (hb : PE X b tb) {pins : List (Addr × Obj)} {s : Shared} {σ : St} {H : Hp} {R : V -> V -> Hp -> Prop} (I : Inv X pins σ H s) (h : ta σ H fun x H1 => tb σ H1 fun y H2 => R x y H2)
  {α : Type} {Q : α -> Shared -> Prop} {f : Value -> Value -> Sem α}
  (hf : ∀ v u s2 x y H2, Inv X pins σ H2 s2 -> RelV x v -> RelV y u -> R x y H2 -> wpAny (model X.prog X.w) X.A (f v u) Q X.xe s2) :
  wpAny (model X.prog X.w) X.A (eval a X.env) (fun v s₁ => wpAny (model X.prog X.w) X.A (eval b X.env) (fun u s₂ => wpAny (model X.prog X.w) X.A (f v u) Q X.xe s₂) X.xe s₁) X.xe s := by
 refine thn (ha pins s σ H _ I h) fun v s1 ⟨x, H1, I1, r1, q1⟩ => ?_
 refine thn (hb pins s1 σ H1 _ I1 q1) fun u s2 ⟨y, H2, I2, r2, q2⟩ => ?_
 exact hf v u s2 x y H2 I2 r1 r2 q2
def tVar (i : Nat) : TE := fun σ H Q => ∃ v, σ[i]? = some (some v) /\ Q v H
def tC (v : V) : TE := fun _ H Q => Q v H
theorem pe_var {i : Nat} {x : Str} {pos : Pos} (hN : X.N[i]? = some x) (hv : Vis X.env.scope x) (hd : (x == ("__debug__" : Str)) = false := by decide) (hcd : (x == ("__classdict__" : Str)) = false := by decide) : PE X (.Name x pos) (tVar i) := by
 intro pins s σ H Q I h
 obtain ⟨v, e, h⟩ := h
 obtain ⟨m, hn, hl⟩ := I.loc
 obtain ⟨u, r, l⟩ := hl i x v hN e hv
 have fin : EP X pins σ Q u s := ⟨v, H, I, r, h⟩
 rcases l with ⟨hk, hm⟩ | ⟨hk, c, hc, hcell⟩
 ·exact wpAny_Name (wpAny_loadName_local I.ok.kind hk hn hm fin) hd
 ·rcases hk with hk | hk
  ·exact wpAny_Name (wpAny_loadName_cell I.ok.kind hk hc hcell fin) hd
  ·exact wpAny_Name (wpAny_loadName_free I.ok.kind hk hc hcell fin hcd) hd
theorem pe_int {i j pos} : PE X (.Constant (.int i) j pos) (tC (.int i)) := fun _ _ _ H _ I h => wpAny_Constant_int ⟨.int i, H, I.tok _, ⟨_, rfl⟩, h⟩
theorem pe_bl {b j pos} : PE X (.Constant (.bool b) j pos) (tC (.bl b)) := fun _ _ _ H _ I h => Constant_bool ⟨.bl b, H, I, rfl, h⟩
theorem pe_non {j pos} : PE X (.Constant .none j pos) (tC .non) := fun _ _ _ H _ I h => Constant_none ⟨.non, H, I, rfl, h⟩
def Gl (X : Cx) (x : Str) : Prop := X.env.kindOf x = some .globalImplicit
theorem ld_glob {E : Value -> Shared -> Prop} {pins : List (Addr × Obj)} {s : Shared} {σ : St} {H : Hp} {x : Str} {u : Value} {pos : Pos} {Q : Value -> Shared -> Prop} (I : Inv X pins σ H s) (hg : Gl X x) (hm : X.mg x = some u) (h : Q u s)
  (hd : (x == ("__debug__" : Str)) = false := by decide) : wpAny (model X.prog X.w) X.A (eval (.Name x pos) X.env) Q E s :=
 Calls.Name_function_global I.ok.kind hg (Calls.loadGlobal_global (by rw [I.ok.glob]; exact I.mod.glob.keeps I.bk) hm h) hd
theorem ld_blt {E : Value -> Shared -> Prop} {pins : List (Addr × Obj)} {s : Shared} {σ : St} {H : Hp} {x : Str} {u : Value} {pos : Pos} {Q : Value -> Shared -> Prop} (I : Inv X pins σ H s) (hg : Gl X x) (hm : X.mg x = none) (hv : bootBuiltins x = some u) (h : Q u s)
  (hn : x ≠ "__name__" := by decide) (hd : (x == ("__debug__" : Str)) = false := by decide) : wpAny (model X.prog X.w) X.A (eval (.Name x pos) X.env) Q E s := by
 obtain ⟨mb, h1, h2⟩ := I.mod.blt
 exact Calls.Name_function_global I.ok.kind hg (Calls.loadGlobal_builtin (by rw [I.ok.glob]; exact I.mod.glob.keeps I.bk) hm (by rw [I.ok.blt]; exact h1.keeps I.bk) ((h2 x hn).trans hv) h) hd
theorem pe_glob {x : Str} {v : V} {u : Value} {pos : Pos} (hg : Gl X x) (hm : X.mg x = some u) (r : RelV v u) (hd : (x == ("__debug__" : Str)) = false := by decide) : PE X (.Name x pos) (tC v) :=
 fun _ _ _ H _ I h => ld_glob I hg hm ⟨v, H, I, r, h⟩ hd
variable {a b : Expr} {ta tb : TE} {pos : Pos}
def PC (X : Cx) (op : CmpOp) (a b : Expr) (t : TE) : Prop :=
 ∀ (pins : List (Addr × Obj)) (s : Shared) (σ : St) (H : Hp) (Q : VK), Inv X pins σ H s -> t σ H Q ->
  wpAny (model X.prog X.w) X.A (eval a X.env) (fun v s₁ => wpAny (model X.prog X.w) X.A (eval b X.env) (fun u s₂ => wpAny (model X.prog X.w) X.A (compareOp op v u) (EP X pins σ Q) X.xe s₂) X.xe s₁) X.xe s
theorem nobehind (b : Expr) {op : CmpOp} (h : op ≠ .In) (h2 : op ≠ .NotIn) : behindInMarks op b = false := by
 have e1 : (op == CmpOp.In) = false := by cases op <;> first | rfl | exact absurd rfl h
 have e2 : (op == CmpOp.NotIn) = false := by cases op <;> first | rfl | exact absurd rfl h2
 cases b <;> simp [behindInMarks, e1, e2]
def tIsN (ta : TE) : TE := fun σ H Q => ta σ H fun x H1 => Q (.bl (decide (x = .non))) H1
def tNotN (ta : TE) : TE := fun σ H Q => ta σ H fun x H1 => Q (.bl (!decide (x = .non))) H1
theorem RelV.none_iff {x : V} {v : Value} (r : RelV x v) : (v == Value.none) = decide (x = .non) := by
 cases x with
 | non => cases r; rfl
 | bl _ => cases r; rfl
 | int _ => obtain ⟨t, rfl⟩ := r; rfl
 | str _ => obtain ⟨t, rfl⟩ := r; rfl
 | byt _ => obtain ⟨t, rfl⟩ := r; rfl
 | flt _ => obtain ⟨t, rfl⟩ := r; rfl
 | ref _ => cases r; rfl
 | ty _ => cases r; rfl
theorem pc_isN {j pos'} (ha : PE X a ta) : PC X .Is a (.Constant .none j pos') (tIsN ta) := by
 intro pins s σ H Q I h
 refine thn (ha pins s σ H _ I h) fun v s1 ⟨x, H1, I1, r1, q1⟩ => ?_
 exact Constant_none (is_none_gen ⟨.bl _, H1, I1, by rw [r1.none_iff]; rfl, q1⟩)
theorem pc_notN {j pos'} (ha : PE X a ta) : PC X .IsNot a (.Constant .none j pos') (tNotN ta) := by
 intro pins s σ H Q I h
 refine thn (ha pins s σ H _ I h) fun v s1 ⟨x, H1, I1, r1, q1⟩ => ?_
 exact Constant_none (isnot_none_gen ⟨.bl _, H1, I1, by rw [r1.none_iff]; rfl, q1⟩)
def tB (t : TE) : TT := fun σ H Q => t σ H fun x H1 => ∃ c, x = .bl c /\ Q c H1
theorem pe_cmp {op : CmpOp} {t : TE} (h : PC X op a b t) (h1 : behindInMarks op b = false := by first | exact nobehind _ (by decide) (by decide) | rfl) : PE X (.Compare a [op] [b] pos) t := fun pins s σ H Q I hw => wpAny_Compare1 (h pins s σ H Q I hw) h1
theorem pt_cmp {op : CmpOp} {t : TE} (h : PC X op a b t) (h1 : behindInMarks op b = false := by first | exact nobehind _ (by decide) (by decide) | rfl) : PT X (.Compare a [op] [b] pos) (tB t) := by
 intro pins s σ H Q I hw
 refine wpAny_isTrue_Compare1 (thn (h pins s σ H _ I hw) fun v s1 h1 => thn h1 fun u s2 h2 => thn h2 fun c s3 ⟨x, H1, I1, r1, q1⟩ => ?_) h1
 obtain ⟨d, rfl, q⟩ := q1
 cases r1
 exact wpAny_truthy_bool ⟨H1, I1, q⟩
theorem pt_val {e : Expr} {t : TE} (h : PE X e t) (he : ∀ whole, isTrue e X.env whole = (do let v <- whole; standAt e.pos; holding [v] (truthy v)) := by intro _; rfl) : PT X e (tB t) := by
 intro pins s σ H Q I hw
 refine isTrue_plain (thn (h pins s σ H _ I hw) fun v s1 ⟨x, H1, I1, r1, q1⟩ => ?_) (he _)
 obtain ⟨d, rfl, q⟩ := q1
 cases r1
 exact wpAny_truthy_bool ⟨H1, I1, q⟩
variable {tA tB' : TT} {rest : List Expr}
def tAnd (t u : TT) : TT := fun σ H Q => t σ H fun c H1 => if c = true then u σ H1 Q else Q false H1
def tOr (t u : TT) : TT := fun σ H Q => t σ H fun c H1 => if c = true then Q true H1 else u σ H1 Q
def tNot (t : TT) : TT := fun σ H Q => t σ H fun c H1 => Q (!c) H1
theorem pw_and1 (ha : PT X a tA) : PW X (.BoolOp .And [a] pos) tA := by
 intro wh pins s σ H Q I h
 refine isTrue_and (thn (ha pins s σ H Q I h) fun c s1 e => ?_)
 cases c with
 | true => exact isTrue_and_nil e
 | false => exact e
theorem pw_or1 (ha : PT X a tA) : PW X (.BoolOp .Or [a] pos) tA := by
 intro wh pins s σ H Q I h
 refine isTrue_or (thn (ha pins s σ H Q I h) fun c s1 e => ?_)
 cases c with
 | false => exact isTrue_or_nil e
 | true => exact e
theorem pw_and (ha : PT X a tA) (hb : PW X (.BoolOp .And (b :: rest) pos) tB') : PW X (.BoolOp .And (a :: b :: rest) pos) (tAnd tA tB') := by
 intro wh pins s σ H Q I h
 refine isTrue_and (thn (ha pins s σ H _ I h) fun c s1 ⟨H1, I1, q1⟩ => ?_)
 cases c with
 | true => exact hb wh pins s1 σ H1 Q I1 q1
 | false => exact ⟨H1, I1, q1⟩
theorem pw_or (ha : PT X a tA) (hb : PW X (.BoolOp .Or (b :: rest) pos) tB') : PW X (.BoolOp .Or (a :: b :: rest) pos) (tOr tA tB') := by
 intro wh pins s σ H Q I h
 refine isTrue_or (thn (ha pins s σ H _ I h) fun c s1 ⟨H1, I1, q1⟩ => ?_)
 cases c with
 | true => exact ⟨H1, I1, q1⟩
 | false => exact hb wh pins s1 σ H1 Q I1 q1
theorem pt_not (ha : PT X a tA) : PT X (.UnaryOp .Not a pos) (tNot tA) := by
 intro pins s σ H Q I h
 exact isTrue_not (ha pins s σ H (fun c H1 => Q (!c) H1) I h)
def tAndV (ta tb : TE) : TE := fun σ H Q => ta σ H fun x H1 => ∃ c, x = .bl c /\ if c = true then tb σ H1 Q else Q (.bl false) H1
def tOrV (ta tb : TE) : TE := fun σ H Q => ta σ H fun x H1 => ∃ c, x = .bl c /\ if c = true then Q (.bl true) H1 else tb σ H1 Q
def tNotV (ta : TE) : TE := fun σ H Q => ta σ H fun x H1 => ∃ c, x = .bl c /\ Q (.bl (!c)) H1
theorem pe_one {op} {t : TE} (h : PE X a t) : PE X (.BoolOp op [a] pos) t := fun pins s σ H Q I hw => BoolOp_one (h pins s σ H Q I hw)
theorem pe_and (ha : PE X a ta) (hb : PE X (.BoolOp .And (b :: rest) pos) tb) : PE X (.BoolOp .And (a :: b :: rest) pos) (tAndV ta tb) := by
 intro pins s σ H Q I h
 refine BoolOp_and (thn (ha pins s σ H _ I h) fun v s1 ⟨x, H1, I1, r1, q1⟩ => ?_)
 obtain ⟨c, rfl, q1⟩ := q1
 cases r1
 refine wpAny_truthy_bool ?_
 cases c with
 | true => exact hb pins s1 σ H1 Q I1 q1
 | false => exact ⟨.bl false, H1, I1, rfl, q1⟩
theorem pe_or (ha : PE X a ta) (hb : PE X (.BoolOp .Or (b :: rest) pos) tb) : PE X (.BoolOp .Or (a :: b :: rest) pos) (tOrV ta tb) := by
 intro pins s σ H Q I h
 refine BoolOp_or (thn (ha pins s σ H _ I h) fun v s1 ⟨x, H1, I1, r1, q1⟩ => ?_)
 obtain ⟨c, rfl, q1⟩ := q1
 cases r1
 refine wpAny_truthy_bool ?_
 cases c with
 | false => exact hb pins s1 σ H1 Q I1 q1
 | true => exact ⟨.bl true, H1, I1, rfl, q1⟩
theorem pe_not (ha : PE X a ta) : PE X (.UnaryOp .Not a pos) (tNotV ta) := by
 intro pins s σ H Q I h
 refine UnaryOp_ (thn (ha pins s σ H _ I h) fun v s1 ⟨x, H1, I1, r1, q1⟩ => ?_)
 obtain ⟨c, rfl, q1⟩ := q1
 cases r1
 exact not_of (wpAny_truthy_bool ⟨.bl (!c), H1, I1, rfl, q1⟩)
def tIf (t : TT) (ta tb : TE) : TE := fun σ H Q => t σ H fun c H1 => if c = true then ta σ H1 Q else tb σ H1 Q
theorem pe_ifExp {c : Expr} (hc : PT X c tA) (ha : PE X a ta) (hb : PE X b tb) : PE X (.IfExp c a b pos) (tIf tA ta tb) := by
 intro pins s σ H Q I h
 refine wpAny_IfExp (thn (hc pins s σ H _ I h) fun d s1 ⟨H1, I1, q1⟩ => ?_)
 cases d with
 | true => exact ha pins s1 σ H1 Q I1 q1
 | false => exact hb pins s1 σ H1 Q I1 q1
end
end L2
namespace L2
open PySem PySem.Spec PyProof.Rows
def SqL (K : PySem.W.Frag) (H : Hp) (a : Addr) (xs : List V) : Prop :=
 Rd H a (.lst xs) ∨
  ∃ (o : Obj) (its : Array Value) (n : Nat), K.lookup a = some o /\ o.cls = .type "list" /\ o.dict = none /\ o.data = .seq its n /\ its.size <= sizeLine /\ Vals xs its.toList
def SqT (K : PySem.W.Frag) (H : Hp) (a : Addr) (xs : List V) : Prop :=
 Rd H a (.tup xs) ∨
  ∃ (o : Obj) (its : Array Value) (n : Nat), K.lookup a = some o /\ o.cls = .type "tuple" /\ o.data = .seq its n /\ its.size <= sizeLine /\ Vals xs its.toList
def absV : Value -> Option V
 | .none => some .non
 | .bool b => some (.bl b)
 | .int i _ => some (.int i)
 | .str x _ => some (.str x)
 | .bytes b _ => some (.byt b)
 | .float b _ => some (.flt b)
 | .ref a => some (.ref a)
 | .type n => some (.ty n)
 | _ => none
theorem RelV.abs {x : V} {u : Value} (r : RelV x u) : absV u = some x := by
 cases x with
 | non => cases r; rfl
 | bl _ => cases r; rfl
 | int _ => obtain ⟨t, rfl⟩ := r; rfl
 | str _ => obtain ⟨t, rfl⟩ := r; rfl
 | byt _ => obtain ⟨t, rfl⟩ := r; rfl
 | flt _ => obtain ⟨t, rfl⟩ := r; rfl
 | ref _ => cases r; rfl
 | ty _ => cases r; rfl
theorem RelV.inj {x y : V} {u : Value} (r : RelV x u) (q : RelV y u) : x = y := Option.some.inj (r.abs.symm.trans q.abs)
theorem Vals.inj : ∀ {xs ys : List V} {us : List Value}, Vals xs us -> Vals ys us -> xs = ys
 | _, _, _, .nil, .nil => rfl
 | _, _, _, .cons r t, .cons r' t' => by rw [r.inj r', Vals.inj t t']
section
variable {X : Cx} {pins : List (Addr × Obj)} {σ : St} {H : Hp} {s : Shared} {a : Addr} {xs ys : List V}
theorem SqL.of {K : PySem.W.Frag} (h : H a = some (.lst xs)) : SqL K H a xs := .inl (.inl h)
theorem SqT.of {K : PySem.W.Frag} (h : H a = some (.tup xs)) : SqT K H a xs := .inl (.inl h)
theorem Inv.list (I : Inv X pins σ H s) (h : SqL X.K H a xs) : ∃ its : List Value, Vals xs its /\ PlainL s.heap a its.toArray /\ xs.length <= sizeLine := by
 rcases h with h | ⟨o, its, n, hk, hc, hd, hs, hz, r⟩
 ·obtain ⟨z, its, n, r, e⟩ := h.ok I.hok
  exact ⟨its, r, ⟨_, n, e, rfl, rfl, rfl⟩, z⟩
 ·refine ⟨its.toList, r, ⟨o, n, I.kIn a o hk, hc, hd, by simpa using hs⟩, ?_⟩
  have e := r.length
  simp only [Array.length_toList] at e
  omega
theorem Inv.tuple (I : Inv X pins σ H s) (h : SqT X.K H a xs) : ∃ its : List Value, Vals xs its /\ IsTup s.heap a its.toArray /\ xs.length <= sizeLine := by
 rcases h with h | ⟨o, its, n, hk, hc, hs, hz, r⟩
 ·obtain ⟨z, its, r, p⟩ := h.ok I.hok
  exact ⟨its, r, p, z⟩
 ·refine ⟨its.toList, r, ⟨o, I.kIn a o hk, hc, n, by simpa using hs⟩, ?_⟩
  have e := r.length
  simp only [Array.length_toList] at e
  omega
theorem Inv.list_inj (I : Inv X pins σ H s) (h : SqL X.K H a xs) (h' : SqL X.K H a ys) : xs = ys := by
 obtain ⟨its, r, ⟨o, n, e, _, _, d⟩, _⟩ := I.list h
 obtain ⟨its', r', ⟨o', n', e', _, _, d'⟩, _⟩ := I.list h'
 rw [e] at e'; cases e'
 rw [d] at d'
 injection d' with d1 _
 have : its = its' := by simpa using congrArg Array.toList d1
 subst this
 exact r.inj r'
end
abbrev Cx.wish (X : Cx) (E : Value -> Shared -> Prop) : Cx := { X with xe := E }
abbrev Cx.nox (X : Cx) : Cx := X.wish fun _ _ => False
theorem Cx.Ok.wish {X : Cx} (ok : X.Ok) (E : Value -> Shared -> Prop) : (X.wish E).Ok :=
 ⟨ok.mod, ok.kind, ok.glob, ok.blt, ok.above, ok.inj, ok.has, ok.cab, ok.hd, ok.frames, ok.stk, ok.exf, ok.bs, ok.bsz, ok.noex, ok.exfs, ok.funs, ok.frf⟩
theorem Cx.Ok.unwish {X : Cx} {E : Value -> Shared -> Prop} (ok : (X.wish E).Ok) : X.Ok :=
 ⟨ok.mod, ok.kind, ok.glob, ok.blt, ok.above, ok.inj, ok.has, ok.cab, ok.hd, ok.frames, ok.stk, ok.exf, ok.bs, ok.bsz, ok.noex, ok.exfs, ok.funs, ok.frf⟩
section
variable {X : Cx} {pins : List (Addr × Obj)} {σ : St} {H : Hp} {s : Shared} {E : Value -> Shared -> Prop}
theorem Inv.wish (I : Inv X pins σ H s) (E : Value -> Shared -> Prop) : Inv (X.wish E) pins σ H s := ⟨I.ok.wish E, I.os, I.bare, I.base, I.loc, I.cell, I.free, I.freeC, I.pin, I.hok, I.len⟩
theorem Inv.unwish (I : Inv (X.wish E) pins σ H s) : Inv X pins σ H s := ⟨I.ok.unwish, I.os, I.bare, I.base, I.loc, I.cell, I.free, I.freeC, I.pin, I.hok, I.len⟩
theorem SP.unwish {D : Ends} {f : Flow} {s' : Shared} (h : SP (X.wish E) pins D f s') : SP X pins D f s' := by
 cases f with
 | next => obtain ⟨σ', H', I, q⟩ := h; exact ⟨σ', H', I.unwish, q⟩
 | brk => obtain ⟨σ', H', I, q⟩ := h; exact ⟨σ', H', I.unwish, q⟩
 | cont => obtain ⟨σ', H', I, q⟩ := h; exact ⟨σ', H', I.unwish, q⟩
 | ret u => obtain ⟨v, σ', H', I, r, q⟩ := h; exact ⟨v, σ', H', I.unwish, r, q⟩
theorem PSs.nox {st : List Stmt} {t : TS} (h : PSs X.nox st t) : PSs X st t := fun pins s σ H D I hw =>
 wpAny_mono (h pins s σ H D (I.wish _) hw) (fun _ _ q => q.unwish) fun _ _ z => False.elim z
end
section
variable {X : Cx} {st : Stmt} {rest : List Stmt} {t u : TS} {e : Expr} {te : TE} {pos : Pos}
def tNext : TS := fun D σ H => D.nx σ H
def tSeq (t u : TS) : TS := fun D σ H => t { D with nx := u D } σ H
theorem pss_nil : PSs X [] tNext := fun _ _ σ H _ I h => wpAny_execs_nil ⟨σ, H, I, h⟩
theorem pss_cons (h1 : PS X st t) (h2 : PSs X rest u) : PSs X (st :: rest) (tSeq t u) := by
 intro pins s σ H D I h
 refine wpAny_execs_cons (thn (h1 pins s σ H { D with nx := u D } I h) fun f s1 q => ?_)
 cases f with
 | next =>
  obtain ⟨σ', H', I', q⟩ := q
  exact h2 pins s1 σ' H' D I' q
 | ret v => exact q
 | brk => exact q
 | cont => exact q
theorem pss_one (h1 : PS X st t) : PSs X [st] t := by
 intro pins s σ H D I h
 refine wpAny_execs_cons (thn (h1 pins s σ H D I h) fun f s1 q => ?_)
 cases f with
 | next => exact wpAny_execs_nil q
 | ret v => exact q
 | brk => exact q
 | cont => exact q
def tCont : TS := fun D σ H => D.ct σ H
theorem ps_continue : PS X (.Continue pos) tCont := fun _ _ σ H _ I h => wpAny_Continue ⟨σ, H, I, h⟩
theorem Inv.quiet {pins : List (Addr × Obj)} {σ : St} {H : Hp} {s : Shared} (I : Inv X pins σ H s) : interactive X.env = false := by simp [interactive, I.ok.kind]
def tDrop (te : TE) : TS := fun D σ H => te σ H fun _ H1 => D.nx σ H1
theorem ps_expr (he : PE X e te) (hs : swapsWith e none pos.line X.env = pure false := by rfl) : PS X (.Expr e pos) (tDrop te) := by
 intro pins s σ H D I h
 exact wpAny_Expr_any (thn (he pins s σ H _ I h) fun v s1 ⟨x, H1, I1, r1, q1⟩ => ⟨σ, H1, I1, q1⟩) I.quiet hs
def tRet (te : TE) : TS := fun D σ H => te σ H D.rt
theorem ps_ret (he : PE X e te) : PS X (.Return (some e) pos) (tRet te) := by
 intro pins s σ H D I h
 exact wpAny_Return_some (thn (he pins s σ H _ I h) fun v s1 ⟨x, H1, I1, r1, q1⟩ => ⟨x, σ, H1, I1, r1, q1⟩)
def tIfS (c : TT) (t u : TS) : TS := fun D σ H => c σ H fun b H1 => if b = true then t D σ H1 else u D σ H1
theorem ps_if {c : Expr} {a b : List Stmt} {tc : TT} (hc : PT X c tc) (ha : PSs X a t) (hb : PSs X b u) : PS X (.If c a b pos) (tIfS tc t u) := by
 intro pins s σ H D I h
 refine wpAny_If (thn (hc pins s σ H _ I h) fun d s1 ⟨H1, I1, q1⟩ => ?_)
 cases d with
 | true => exact ha pins s1 σ H1 D I1 q1
 | false => exact hb pins s1 σ H1 D I1 q1
end
abbrev TG := V -> St -> Hp -> (St -> Hp -> Prop) -> Prop
def PG (X : Cx) (target : Expr) (t : TG) : Prop :=
 ∀ (pins : List (Addr × Obj)) (s : Shared) (σ : St) (H : Hp) (v : V) (u : Value) (Q : St -> Hp -> Prop), Inv X pins σ H s -> RelV v u -> t v σ H Q ->
  wpAny (model X.prog X.w) X.A (assign target X.env u) (fun _ s' => ∃ σ' H', Inv X pins σ' H' s' /\ Q σ' H') X.xe s
abbrev TSet := V -> V -> V -> Hp -> (Hp -> Prop) -> Prop
def PSet (X : Cx) (t : TSet) : Prop :=
 ∀ (pins : List (Addr × Obj)) (s : Shared) (σ : St) (H : Hp) (o i v : V) (ov iv u : Value) (Q : Hp -> Prop), Inv X pins σ H s -> RelV o ov -> RelV i iv -> RelV v u -> t o i v H Q ->
  wpAny (model X.prog X.w) X.A (setItem ov iv u) (fun _ s' => ∃ H', Inv X pins σ H' s' /\ Q H') X.xe s
section
variable {X : Cx} {pos : Pos}
def gName (i : Nat) : TG := fun v σ H Q => Q (σ.set i (some v)) H
theorem pg_name {i : Nat} {x : Str} (hN : X.N.Nodup) (hi : X.N[i]? = some x) (hx : Loc X.env.scope x) (hf : X.fn x = true ∨ X.env.scope.names.lookup x = some .local := by first | exact .inl rfl | exact .inr rfl | assumption) : PG X (.Name x pos) (gName i) := by
 intro pins s σ H v u Q I r h
 exact wpAny_assign_Name (store_ok I hN hi hx r (fun s' I' => ⟨_, H, I', h⟩) hf)
def gSub (to ti : TE) (t : TSet) : TG := fun v σ H Q => to σ H fun o H1 => ti σ H1 fun i H2 => t o i v H2 fun H3 => Q σ H3
theorem pg_sub {o i : Expr} {to ti : TE} {t : TSet} (ho : PE X o to) (hi : PE X i ti) (hs : PSet X t)
  (ha : ∀ v, assign (.Subscript o i pos) X.env v = (do
   let ov <- holding [v] (eval o X.env)
   let iv <- holding [v, ov] (eval i X.env)
   standAt pos
   holding [v, ov, iv] (setItem ov iv v)
   release [v, ov, iv] []) := by intro _; rfl) : PG X (.Subscript o i pos) (gSub to ti t) := by
 intro pins s σ H v u Q I r h
 rw [ha]
 refine wpAny_bind (wpAny_holding (thn (ho pins s σ H _ I h) fun ov s1 ⟨x, H1, I1, r1, q1⟩ => ?_))
 refine wpAny_bind (wpAny_holding (thn (hi pins s1 σ H1 _ I1 q1) fun iv s2 ⟨y, H2, I2, r2, q2⟩ => ?_))
 refine wpAny_bind (wpAny_standAt (wpAny_bind (wpAny_holding (thn (hs pins s2 σ H2 x y v ov iv u _ I2 r1 r2 r q2) fun _ s3 ⟨H3, I3, q3⟩ => ?_))))
 exact wpAny_release ⟨σ, H3, I3, q3⟩
def tAsg (te : TE) (g : TG) : TS := fun D σ H => te σ H fun x H1 => g x σ H1 D.nx
theorem ps_asg {tg e : Expr} {te : TE} {g : TG} (he : PE X e te) (hg : PG X tg g) (hs : swapsWithSole [tg] e pos.line X.env = pure false := by rfl) (hw : swappedStores [tg] e X.env = pure none := by rfl)
  (h1 : (assignEach [tg] X.env).map (·.2) = [assign tg X.env] := by rfl) : PS X (.Assign [tg] e pos) (tAsg te g) := by
 intro pins s σ H D I h
 refine wpAny_Assign_stores (thn (he pins s σ H _ I h) fun v s1 ⟨x, H1, I1, r1, q1⟩ => ?_) hs hw
 rw [h1]
 exact thn (hg pins s1 σ H1 x v _ I1 r1 q1) fun _ s2 q => q
theorem ps_set {i : Nat} {x : Str} {e : Expr} {te : TE} {pos' : Pos} (hN : X.N.Nodup) (hi : X.N[i]? = some x) (hx : Loc X.env.scope x) (he : PE X e te) (hs : swapsWith e (some (.Name x pos')) pos.line X.env = pure false := by rfl) (hf : X.fn x = true ∨ X.env.scope.names.lookup x = some .local := by first | exact .inl rfl | exact .inr rfl | assumption) :
  PS X (.Assign [.Name x pos'] e pos) (tAsg te (gName i)) := by
 intro pins s σ H D I h
 refine wpAny_Assign_Name (thn (he pins s σ H _ I h) fun v s1 ⟨y, H1, I1, r1, q1⟩ => ?_) hs
 exact store_ok I1 hN hi hx r1 (fun s2 I2 => ⟨_, H1, I2, q1⟩) hf
end
section
variable {X : Cx} {pos : Pos}
def tWhile (c : TT) (tb : TS) : TS := fun D σ H => ∃ W : Nat -> St -> Hp -> Prop, (∃ m, W m σ H) /\ ∀ m σ H, W m σ H ->
 c σ H fun b H1 => if b = true then ∃ N : St -> Hp -> Prop, (∀ σ' H', N σ' H' -> ∃ m', m' < m /\ W m' σ' H') /\ tb { D with nx := N, ct := N, bk := D.nx } σ H1 else D.nx σ H1
theorem ps_while {c : Expr} {body : List Stmt} {tc : TT} {tb : TS} (hp : PassesOwn (model X.prog X.w) X.A X.env X.xe) (hc : PT X c tc) (hb : PSs X body tb) : PS X (.While c body [] pos) (tWhile tc tb) := by
 intro pins s σ H D I h
 obtain ⟨W, ⟨m0, w0⟩, turn⟩ := h
 refine wpAny_While (codeAny_whileLoop (fun n s' => ∃ σ' H', Inv X pins σ' H' s' /\ W n σ' H') ?_ m0 ⟨σ, H, I, w0⟩)
 rintro n s1 ⟨σ1, H1, I1, w1⟩
 refine wpAny_passesOwn hp (thn (hc pins s1 σ1 H1 _ I1 (turn n σ1 H1 w1)) fun b s2 ⟨H2, I2, q2⟩ => ?_)
 cases b with
 | true =>
  obtain ⟨N, hN, q2⟩ := q2
  rw [if_pos rfl]
  refine wpAny_passesOwn hp (thn (hb pins s2 σ1 H2 _ I2 q2) fun f s3 q3 => ?_)
  cases f with
  | next =>
   obtain ⟨σ3, H3, I3, n3⟩ := q3
   obtain ⟨m', hm, w3⟩ := hN σ3 H3 n3
   exact ⟨m', hm, σ3, H3, I3, w3⟩
  | cont =>
   obtain ⟨σ3, H3, I3, n3⟩ := q3
   obtain ⟨m', hm, w3⟩ := hN σ3 H3 n3
   exact ⟨m', hm, σ3, H3, I3, w3⟩
  | brk => exact q3
  | ret v => exact q3
 | false =>
  rw [if_neg Bool.false_ne_true]
  exact wpAny_execs_nil ⟨σ1, H2, I2, q2⟩
end
structure It where
 go : Nat -> Hp -> Prop
 yld : Nat -> Hp -> V -> Hp -> Prop
 stop : Nat -> Hp -> Prop
def FpOk (X : Cx) (pins : List (Addr × Obj)) (H : Hp) (b : Addr) : Prop :=
 H b = none /\ b ≠ X.env.locals /\ b ∉ X.fs /\ (b ∈ X.ex ∨ X.s_0.heap.objs.size <= b) /\ (∀ x c, X.env.cells.lookup x = some c -> c ≠ b) /\ ∀ p ∈ X.pn ++ pins, p.1 ≠ b
theorem Inv.fpOk {X : Cx} {pins : List (Addr × Obj)} {σ : St} {H H' : Hp} {s : Shared} {b : Addr} (I : Inv X pins σ H s) (hb : s.heap.objs.size <= b) (hn : H' b = none) : FpOk X pins H' b := by
 refine ⟨hn, Nat.ne_of_gt (Nat.lt_of_lt_of_le I.lt hb), I.nofs hb, .inr (Nat.le_trans I.sz hb), fun x c e z => ?_, fun p hp z => ?_⟩
 ·obtain ⟨v, q⟩ := I.cell x c e
  exact absurd (Nat.lt_of_lt_of_le q.lt (by rw [z]; exact hb)) (Nat.lt_irrefl _)
 ·exact absurd (Nat.lt_of_lt_of_le (Heap.lt_size (I.pin p hp).1) (by rw [z]; exact hb)) (Nat.lt_irrefl _)
structure Turn (P : Program) (w : World) (K : PySem.W.Frag) (tg : Expr) (J : It) (fp : List Addr) (it : Addr) (tn : Nat -> Heap -> Prop) : Prop where
 mem : it ∈ fp
 obj : ∀ i h, tn i h -> ∀ b ∈ fp, ∃ o, h.get? b = some o /\ ∀ v, o.data ≠ .cell v
 keep : ∀ i h h', tn i h -> (∀ b ∈ fp, ∀ o, h.get? b = some o -> h'.get? b = some o) -> tn i h'
 item : ∀ (X : Cx), X.prog = P -> X.w = w -> X.K = K -> X.calm = true -> ∀ (i : Nat) (pins : List (Addr × Obj)) (s : Shared) (σ : St) (H : Hp) (E : Value -> Shared -> Prop), Inv X pins σ H s -> (∀ b ∈ fp, FpOk X pins H b) -> tn i s.heap -> J.go i H ->
  wpAny (model P w) X.A (pyNext (.ref it)) (fun r s1 => ∃ u, r = some u /\
   wpAny (model P w) X.A (letOwnedTupleGo tg (.ref it) u) (fun _ s2 => ∃ x H', Inv X pins σ H' s2 /\ RelV x u /\ J.yld i H x H' /\ tn (i + 1) s2.heap /\ ∀ b ∈ fp, H' b = none) E s1) E s
 done : ∀ (X : Cx), X.prog = P -> X.w = w -> X.K = K -> X.calm = true -> ∀ (i : Nat) (pins : List (Addr × Obj)) (s : Shared) (σ : St) (H : Hp) (E : Value -> Shared -> Prop), Inv X pins σ H s -> (∀ b ∈ fp, FpOk X pins H b) -> tn i s.heap -> J.stop i H ->
  wpAny (model P w) X.A (pyNext (.ref it)) (fun r s1 => r = none /\ Inv X pins σ H s1) E s
 self : ∀ (A : Around) (i : Nat) (s : Shared) (Q : Value -> Shared -> Prop) (E : Value -> Shared -> Prop), tn i s.heap -> Q (.ref it) s -> wpAny (model P w) A (pyIter (.ref it)) Q E s
abbrev TI := St -> Hp -> (It -> Hp -> Prop) -> Prop
def PIE (X : Cx) (pins : List (Addr × Obj)) (σ : St) (tg : Expr) (R : It -> Hp -> Prop) (itv : Value) (s2 : Shared) : Prop :=
 ∃ (it : Addr) (fp : List Addr) (tn : Nat -> Heap -> Prop) (J : It) (H' : Hp), itv = .ref it /\ Inv X pins σ H' s2 /\ Turn X.prog X.w X.K tg J fp it tn /\ tn 0 s2.heap /\ (∀ b ∈ fp, FpOk X pins H' b) /\ R J H'
def PI (X : Cx) (tg iter : Expr) (wi : TI) : Prop :=
 ∀ (pins : List (Addr × Obj)) (s : Shared) (σ : St) (H : Hp) (R : It -> Hp -> Prop), Inv X pins σ H s -> wi σ H R ->
  wpAny (model X.prog X.w) X.A (eval iter X.env) (fun v s1 => wpAny (model X.prog X.w) X.A (pyIter v) (PIE X pins σ tg R) X.xe s1) X.xe s
theorem go_of {M : Model} {A : Around} {E : Value -> Shared -> Prop} {s : Shared} {tg : Expr} {it : Addr} {u : Value} {o : Obj} {n : String} {vs : Array Value} {Q : Unit -> Shared -> Prop} (ho : s.heap.get? it = some o) (hc : o.cls = .type n) (hd : o.data = .fields vs)
  (hn : ["enumerate", "zip", "dict_itemiterator", "dict_reverseitemiterator", "odict_iterator", "itertools.zip_longest", "itertools.pairwise"].contains n = false) (hQ : Q () s) : wpAny M A (letOwnedTupleGo tg (.ref it) u) Q E s := by
 unfold letOwnedTupleGo
 cases tg <;> first
  | exact wpAny_pure hQ
  | (cases u <;> first
    | exact wpAny_pure hQ
    | (refine wpAny_bind (wpAny_load ho ?_)
       rw [hc, hd]
       show wpAny M A (if (["enumerate", "zip", "dict_itemiterator", "dict_reverseitemiterator", "odict_iterator", "itertools.zip_longest", "itertools.pairwise"].contains n && vs[0]? == some (rawInt _)) = true then _ else _) Q E s
       rw [if_neg (by intro h; rw [hn, Bool.false_and] at h; cases h)]
       exact wpAny_pure hQ))
def Itl (K : PySem.W.Frag) (a : Addr) : It :=
 ⟨fun i H => ∃ xs x, SqL K H a xs /\ xs[i]? = some x, fun i H x H' => H' = H /\ ∀ xs, SqL K H a xs -> xs[i]? = some x, fun i H => ∃ xs, SqL K H a xs /\ xs.length <= i⟩
def Itr (lo : Int) (n : Nat) : It := ⟨fun i _ => i < n, fun i H x H' => H' = H /\ x = .int (lo + i), fun i _ => n <= i⟩
theorem turn_list {P : Program} {w : World} {K : PySem.W.Frag} {tg : Expr} (a it : Addr) : Turn P w K tg (Itl K a) [it] it (fun i h => h.IsListIter it a i) where
 mem := by simp
 obj := fun i h st b hb => by
  have e : b = it := by simpa using hb
  subst e
  obtain ⟨o, e, c, d⟩ := st
  exact ⟨o, e, fun v z => by rw [d] at z; cases z⟩
 keep := fun i h h' st k => st.at fun o e => k it (by simp) o e
 item := by
  intro X hP hw hK hc i pins s σ H E I hf st hg
  subst hP hw hK
  obtain ⟨xs, x, hq, hx⟩ := hg
  obtain ⟨its, rv, p, hz⟩ := I.list hq
  obtain ⟨u, hu, ru⟩ := rv.get hx
  obtain ⟨f0, f1, f2, f3, f4, f5⟩ := hf it (by simp)
  refine wpAny_pyNext_list_item st p.isList (x := u) (by simpa using hu) fun h' st' sb => ?_
  have I1 : Inv X pins σ H { s with heap := h' } := I.turned (t' := s.toks) (fun b o hb e => (sb.2 b hb).trans e) f0 f1 f3 f4 f5
  obtain ⟨o, e, c, d⟩ := id st'
  exact ⟨u, rfl, go_of (s := { s with heap := h' }) e c d (by decide) ⟨x, H, I1, ru, ⟨rfl, fun ys hy => by rw [I.list_inj hy hq]; exact hx⟩, st', fun b hb => (hf b hb).1⟩⟩
 done := by
  intro X hP hw hK hc i pins s σ H E I hf st hg
  subst hP hw hK
  obtain ⟨xs, hq, hx⟩ := hg
  obtain ⟨its, rv, p, hz⟩ := I.list hq
  obtain ⟨f0, f1, f2, f3, f4, f5⟩ := hf it (by simp)
  have hl := rv.length
  exact wpAny_pyNext_list_end (I.ok.hd hc) st p.isList (by simp; omega) fun h' eb => ⟨rfl, I.turned (t' := s.toks) (fun b o hb e => eb b o hb e) f0 f1 f3 f4 f5⟩
 self := fun _ _ _ _ _ st h => wpAny_pyIter_listiter st h
theorem turn_range {P : Program} {w : World} {K : PySem.W.Frag} {tg : Expr} (it : Addr) (lo : Int) (n : Nat) : Turn P w K tg (Itr lo n) [it] it (fun i h => IsRangeIter h it (lo + (i : Nat) * 1) ((n : Int) - (i : Nat)) 1) where
 mem := by simp
 obj := fun i h st b hb => by
  have e : b = it := by simpa using hb
  subst e
  exact ⟨_, st, fun v z => by
   have z' : Data.fields _ = Data.cell v := z
   cases z'⟩
 keep := fun i h h' st k => k it (by simp) _ st
 item := by
  intro X hP hw hK hc i pins s σ H E I hf st hg
  subst hP hw hK
  obtain ⟨f0, f1, f2, f3, f4, f5⟩ := hf it (by simp)
  have W := Walks.range (prog := X.prog) (w := X.w) (I.ok.hd hc) it lo 1 n
  refine W.item i s _ _ hg st fun v h' tk hv st' kk => ?_
  obtain ⟨t, rfl⟩ := hv
  have I1 : Inv X pins σ H { s with heap := h', toks := tk } := I.turned (fun b o hb e => kk b o (by simpa using hb) e) f0 f1 f3 f4 f5
  refine ⟨_, rfl, go_of (s := { s with heap := h', toks := tk }) (n := "range_iterator") st' rfl rfl (by decide) ⟨.int (lo + i), H, I1, ⟨t, ?_⟩, ⟨rfl, rfl⟩, st', fun b hb => (hf b hb).1⟩⟩
  rw [Int.mul_one]
 done := by
  intro X hP hw hK hc i pins s σ H E I hf st hg
  subst hP hw hK
  obtain ⟨f0, f1, f2, f3, f4, f5⟩ := hf it (by simp)
  exact wpAny_pyNext_range_end (I.ok.hd hc) st (by have : n <= i := hg; omega) fun h' eb => ⟨rfl, I.turned (t' := s.toks) (fun b o hb e => eb b o hb e) f0 f1 f3 f4 f5⟩
 self := fun _ _ _ _ _ st h => wpAny_pyIter_rangeiter st h
end L2
namespace L2
open PySem PySem.Spec PyProof.Rows
section
variable {X : Cx} {tg : Expr}
def iList (K : PySem.W.Frag) (tl : TE) : TI := fun σ H R => tl σ H fun x H1 => ∃ a, x = .ref a /\ (∃ xs, SqL K H1 a xs) /\ R (Itl K a) H1
theorem pi_list {l : Expr} {tl : TE} (hl : PE X l tl) : PI X tg l (iList X.K tl) := by
 intro pins s σ H R I h
 refine thn (hl pins s σ H _ I h) fun v s1 ⟨x, H1, I1, r1, q1⟩ => ?_
 obtain ⟨a, e, ⟨xs, hq⟩, q⟩ := q1
 subst e
 cases r1
 obtain ⟨its, rv, p, hz⟩ := I1.list hq
 refine wpAny_pyIter_list p.isList ?_
 refine ⟨s1.heap.objs.size, [s1.heap.objs.size], _, _, H1, rfl, I1.kept (t' := s1.toks) fun b o e => Heap.get?_push_of_some _ e, turn_list a _, ⟨_, Heap.get?_push_size _ rfl, rfl, rfl⟩, fun b hb => ?_, q⟩
 have e : b = s1.heap.objs.size := by simpa using hb
 subst e
 exact I1.fpOk (Nat.le_refl _) (I1.hok.fresh (Nat.le_refl _))
theorem range_it {pins : List (Addr × Obj)} {σ : St} {H : Hp} {s : Shared} {R : It -> Hp -> Prop} {E : Value -> Shared -> Prop} {lo hi : Int} {t u v : Tok} {tk : Nat} (I : Inv X pins σ H s) (h1 : -(2 ^ 62) <= lo) (h2 : lo < 2 ^ 62) (h3 : -(2 ^ 62) <= hi) (h4 : hi < 2 ^ 62)
  (q : R (Itr lo (hi - lo).toNat) H) : wpAny (model X.prog X.w) X.A (pyIter (.ref s.heap.objs.size)) (PIE X pins σ tg R) E { s with heap := s.heap.push { cls := .type "range", data := .fields #[.int lo t, .int hi u, .int 1 v] }, toks := tk } := by
 refine wpAny_pyIter_range (IsRange.new ..) (small_one h1 h2 h3 h4) ?_
 have I1 : Inv X pins σ H { s with heap := s.heap.push { cls := .type "range", data := .fields #[.int lo t, .int hi u, .int 1 v] }, toks := tk } := I.kept fun b o e => Heap.get?_push_of_some _ e
 refine ⟨(s.heap.push { cls := .type "range", data := .fields #[.int lo t, .int hi u, .int 1 v] }).objs.size, [(s.heap.push { cls := .type "range", data := .fields #[.int lo t, .int hi u, .int 1 v] }).objs.size], _, _, H, rfl,
  I1.kept (t' := tk) fun b o e => Heap.get?_push_of_some _ e, turn_range _ lo (hi - lo).toNat, ?_, fun b hb => ?_, q⟩
 ·have e1 : lo + ((0 : Nat) : Int) * 1 = lo := by simp
  have e2 : (((hi - lo).toNat : Nat) : Int) - ((0 : Nat) : Int) = Builtin.Range.rangeSize lo hi 1 := by rw [rangeSize_one]; split <;> omega
  show IsRangeIter _ _ (lo + ((0 : Nat) : Int) * 1) ((((hi - lo).toNat : Nat) : Int) - ((0 : Nat) : Int)) 1
  rw [e1, e2]
  exact Heap.get?_push_size _ rfl
 ·have e : b = (s.heap.push { cls := .type "range", data := .fields #[.int lo t, .int hi u, .int 1 v] }).objs.size := by simpa using hb
  subst e
  exact I1.fpOk (Nat.le_refl _) (I1.hok.fresh (Nat.le_refl _))
def iRng1 (ta : TA) : TI := fun σ H R => ta σ H fun vs H1 => ∃ j : Int, vs = [.int j] /\ -(2 ^ 62) <= j /\ j < 2 ^ 62 /\ R (Itr 0 j.toNat) H1
def iRng2 (ta : TA) : TI := fun σ H R => ta σ H fun vs H1 => ∃ i j : Int, vs = [.int i, .int j] /\ (-(2 ^ 62) <= i /\ i < 2 ^ 62 /\ -(2 ^ 62) <= j /\ j < 2 ^ 62) /\ R (Itr i (j - i).toNat) H1
theorem pi_range1 {a : Expr} {ta : TA} {p pos : Pos} (hg : Gl X "range") (hm : X.mg "range" = none) (ha : PA X [a] ta) (hs : starEach [a] X.env = [(false, eval a X.env)] := by rfl) : PI X tg (.Call (.Name "range" p) [a] [] pos) (iRng1 ta) := by
 intro pins s σ H R I h
 refine Call_ (ld_blt I hg hm boot_range (PyProof.Rows.callWith_type1 (thn (ha pos pins s σ H _ I h) fun us s1 ⟨vs, H1, I1, r1, q1⟩ => ?_) hs rfl))
 obtain ⟨j, e, q1, q2, q⟩ := q1
 subst e
 cases r1 with
 | cons r rr =>
  cases rr
  obtain ⟨t, rfl⟩ := r
  exact call_range_1 (range_it I1 (by omega) (by omega) q1 q2 (by simpa using q))
theorem pi_range2 {a b : Expr} {ta : TA} {p pos : Pos} (hg : Gl X "range") (hm : X.mg "range" = none) (ha : PA X [a, b] ta) (hs : starEach [a, b] X.env = [(false, eval a X.env), (false, eval b X.env)] := by rfl) (hs2 : starEach [b] X.env = [(false, eval b X.env)] := by rfl) :
  PI X tg (.Call (.Name "range" p) [a, b] [] pos) (iRng2 ta) := by
 intro pins s σ H R I h
 refine Call_ (ld_blt I hg hm boot_range (PyProof.Rows.callWith_type1 (thn (ha pos pins s σ H _ I h) fun us s1 ⟨vs, H1, I1, r1, q1⟩ => ?_) (by rw [hs, hs2]) (by rw [hs2]; rfl)))
 obtain ⟨i, j, e, ⟨q1, q2, q3, q4⟩, q⟩ := q1
 subst e
 cases r1 with
 | cons r rr =>
  cases rr with
  | cons r' rr =>
   cases rr
   obtain ⟨t, rfl⟩ := r
   obtain ⟨t', rfl⟩ := r'
   exact call_range_2 (range_it I1 q1 q2 q3 q4 q)
def tFor (wi : TI) (g : TG) (tb : TS) : TS := fun D σ H => wi σ H fun J H1 => ∃ W : Nat -> Nat -> St -> Hp -> Prop, (∃ m, W 0 m σ H1) /\ ∀ i m σ H, W i m σ H ->
 (J.stop i H /\ D.nx σ H) ∨ (J.go i H /\ ∃ N : St -> Hp -> Prop, (∀ σ' H', N σ' H' -> ∃ m', m' < m /\ W (i + 1) m' σ' H') /\ ∀ x H', J.yld i H x H' -> g x σ H' fun σ2 H2 => tb { D with nx := N, ct := N, bk := D.nx } σ2 H2)
def pinsAt (fp : List Addr) (h : Heap) : List (Addr × Obj) := fp.filterMap fun b => (h.get? b).map fun o => (b, o)
theorem mem_pinsAt {fp : List Addr} {h : Heap} {b : Addr} {o : Obj} (hb : b ∈ fp) (e : h.get? b = some o) : (b, o) ∈ pinsAt fp h := List.mem_filterMap.mpr ⟨b, hb, by rw [e]; rfl⟩
theorem of_pinsAt {fp : List Addr} {h : Heap} {p : Addr × Obj} (hp : p ∈ pinsAt fp h) : p.1 ∈ fp /\ h.get? p.1 = some p.2 := by
 obtain ⟨b, hb, e⟩ := List.mem_filterMap.mp hp
 cases q : h.get? b with
 | none => rw [q] at e; cases e
 | some o =>
  rw [q] at e
  have e' : (b, o) = p := Option.some.inj e
  subst e'
  exact ⟨hb, q⟩
theorem Inv.pinned {pins : List (Addr × Obj)} {σ : St} {H : Hp} {s : Shared} {fp : List Addr} (I : Inv X pins σ H s) (hf : ∀ b ∈ fp, FpOk X pins H b) (ho : ∀ b ∈ fp, ∃ o, s.heap.get? b = some o /\ ∀ v, o.data ≠ .cell v) : Inv X (pins ++ pinsAt fp s.heap) σ H s :=
 I.pins_of fun p hp => (List.mem_append.mp hp).elim (fun z => I.pin p (List.mem_append_right _ z)) fun z => by
  obtain ⟨hb, e⟩ := of_pinsAt z
  obtain ⟨f0, f1, f2, _⟩ := hf p.1 hb
  obtain ⟨o, e', d⟩ := ho p.1 hb
  rw [e] at e'; cases e'
  exact ⟨e, f0, f1, f2, d⟩
theorem Inv.unpinned {pins pl : List (Addr × Obj)} {σ : St} {H : Hp} {s : Shared} (I : Inv X (pins ++ pl) σ H s) : Inv X pins σ H s := I.pins_of fun p hp => I.pin p (List.mem_append_right _ (List.mem_append_left _ hp))
theorem ps_for {iter : Expr} {body : List Stmt} {wi : TI} {g : TG} {tb : TS} {pos : Pos} (hp : PassesOwn (model X.prog X.w) X.A X.env X.xe) (hc : X.calm = true) (hi : PI X tg iter wi) (hg : PG X tg g) (hb : PSs X body tb)
  (hs : ∀ x, foldedSetIterable iter X.env x = pure x := by intro _; rfl) : PS X (.For tg iter body [] pos) (tFor wi g tb) := by
 intro pins s σ H D I h
 refine wpAny_For (thn (hi pins s σ H _ I h) fun v s1 h1 => thn h1 fun itv s2 h2 => ?_) hs
 obtain ⟨it, fp, tn, J, H2, e, I2, T, st2, f2, W, ⟨m0, w0⟩, turn⟩ := h2
 subst e
 -- what stays true of the iterator's objects through the loop
 have stat : ∀ {H' : Hp}, (∀ b ∈ fp, H' b = none) -> ∀ b ∈ fp, FpOk X pins H' b := fun hn b hb => ⟨hn b hb, (f2 b hb).2⟩
 refine codeAny_forLoop_any (fun n s' => ∃ i σ' H', Inv X pins σ' H' s' /\ tn i s'.heap /\ (∀ b ∈ fp, H' b = none) /\ W i n σ' H') ?_ m0 ⟨0, σ, H2, I2, st2, fun b hb => (f2 b hb).1, w0⟩
 rintro n s3 ⟨i, σ3, H3, I3, st3, fr3, w3⟩
 rcases turn i n σ3 H3 w3 with ⟨stop, qn⟩ | ⟨go, N, hN, step⟩
 ·refine wpAny_passesOwn hp (thn (T.done X rfl rfl rfl hc i pins s3 σ3 H3 X.xe I3 (stat fr3) st3 stop) fun r s4 ⟨hr, I4⟩ => ?_)
  subst hr
  exact wpAny_execs_nil ⟨σ3, H3, I4, qn⟩
 ·refine wpAny_passesOwn hp (thn (T.item X rfl rfl rfl hc i pins s3 σ3 H3 X.xe I3 (stat fr3) st3 go) fun r s4 ⟨u, hr, h4⟩ => ?_)
  subst hr
  refine wpAny_passesOwn hp (thn h4 fun _ s5 ⟨x, H5, I5, r5, y5, st5, fr5⟩ => ?_)
  have I5' := I5.pinned (stat fr5) (T.obj _ _ st5)
  refine wpAny_passesOwn hp (thn (hg _ s5 σ3 H5 x u _ I5' r5 (step x H5 y5)) fun _ s6 ⟨σ6, H6, I6, q6⟩ => ?_)
  refine wpAny_passesOwn hp (thn (hb _ s6 σ6 H6 _ I6 q6) fun f s7 q7 => ?_)
  have again : ∀ {σ7 : St} {H7 : Hp}, Inv X (pins ++ pinsAt fp s5.heap) σ7 H7 s7 -> N σ7 H7 -> ∃ m, m < n /\ ∃ i σ' H', Inv X pins σ' H' s7 /\ tn i s7.heap /\ (∀ b ∈ fp, H' b = none) /\ W i m σ' H' := fun {σ7 H7} I7 n7 => by
   obtain ⟨m', hm, w7⟩ := hN σ7 H7 n7
   refine ⟨m', hm, i + 1, σ7, H7, I7.unpinned, T.keep _ _ _ st5 fun b hb o e => (I7.pin (b, o) (List.mem_append_right _ (List.mem_append_right _ (mem_pinsAt hb e)))).1, fun b hb => ?_, w7⟩
   obtain ⟨o, e, d⟩ := T.obj _ _ st5 b hb
   exact (I7.pin (b, o) (List.mem_append_right _ (List.mem_append_right _ (mem_pinsAt hb e)))).2.1
  cases f with
  | next => obtain ⟨σ7, H7, I7, n7⟩ := q7; exact again I7 n7
  | cont => obtain ⟨σ7, H7, I7, n7⟩ := q7; exact again I7 n7
  | brk => obtain ⟨σ7, H7, I7, q7⟩ := q7; exact ⟨σ7, H7, I7.unpinned, q7⟩
  | ret v => obtain ⟨x7, σ7, H7, I7, r7, q7⟩ := q7; exact ⟨x7, σ7, H7, I7.unpinned, r7, q7⟩
end
theorem for_list {K : PySem.W.Frag} {a : Addr} {xs : List V} {g : TG} {tb : TS} {D : Ends} {σ : St} {H : Hp} (Pv : Nat -> St -> Hp -> Prop) (h0 : Pv 0 σ H) (hl : ∀ i σ H, i <= xs.length -> Pv i σ H -> SqL K H a xs)
  (hs : ∀ i x σ H, xs[i]? = some x -> Pv i σ H -> g x σ H fun σ2 H2 => tb { D with nx := Pv (i + 1), ct := Pv (i + 1), bk := D.nx } σ2 H2) (hd : ∀ σ H, Pv xs.length σ H -> D.nx σ H) :
  ∃ W : Nat -> Nat -> St -> Hp -> Prop, (∃ m, W 0 m σ H) /\ ∀ i m σ H, W i m σ H ->
   ((Itl K a).stop i H /\ D.nx σ H) ∨ ((Itl K a).go i H /\ ∃ N : St -> Hp -> Prop, (∀ σ' H', N σ' H' -> ∃ m', m' < m /\ W (i + 1) m' σ' H') /\ ∀ x H', (Itl K a).yld i H x H' -> g x σ H' fun σ2 H2 => tb { D with nx := N, ct := N, bk := D.nx } σ2 H2) := by
 refine ⟨fun i m σ H => m = xs.length - i /\ i <= xs.length /\ Pv i σ H, ⟨xs.length, by simp, Nat.zero_le _, h0⟩, ?_⟩
 rintro i m σ H ⟨rfl, hi, p⟩
 have q := hl i σ H hi p
 by_cases hlt : i < xs.length
 ·refine .inr ⟨⟨xs, xs[i], q, by simp [hlt]⟩, Pv (i + 1), fun σ' H' p' => ⟨xs.length - (i + 1), by omega, rfl, hlt, p'⟩, fun x H' y => ?_⟩
  obtain ⟨e, y⟩ := y
  subst e
  exact hs i x σ _ (y xs q) p
 ·have e : i = xs.length := by omega
  subst e
  exact .inl ⟨⟨xs, q, Nat.le_refl _⟩, hd σ H p⟩
theorem for_range {lo : Int} {n : Nat} {g : TG} {tb : TS} {D : Ends} {σ : St} {H : Hp} (Pv : Nat -> St -> Hp -> Prop) (h0 : Pv 0 σ H)
  (hs : ∀ i σ H, i < n -> Pv i σ H -> g (.int (lo + i)) σ H fun σ2 H2 => tb { D with nx := Pv (i + 1), ct := Pv (i + 1), bk := D.nx } σ2 H2) (hd : ∀ σ H, Pv n σ H -> D.nx σ H) :
  ∃ W : Nat -> Nat -> St -> Hp -> Prop, (∃ m, W 0 m σ H) /\ ∀ i m σ H, W i m σ H ->
   ((Itr lo n).stop i H /\ D.nx σ H) ∨ ((Itr lo n).go i H /\ ∃ N : St -> Hp -> Prop, (∀ σ' H', N σ' H' -> ∃ m', m' < m /\ W (i + 1) m' σ' H') /\ ∀ x H', (Itr lo n).yld i H x H' -> g x σ H' fun σ2 H2 => tb { D with nx := N, ct := N, bk := D.nx } σ2 H2) := by
 refine ⟨fun i m σ H => m = n - i /\ i <= n /\ Pv i σ H, ⟨n, by simp, Nat.zero_le _, h0⟩, ?_⟩
 rintro i m σ H ⟨rfl, hi, p⟩
 by_cases hlt : i < n
 ·refine .inr ⟨hlt, Pv (i + 1), fun σ' H' p' => ⟨n - (i + 1), by omega, rfl, hlt, p'⟩, fun x H' y => ?_⟩
  obtain ⟨e, y⟩ := y
  subst e y
  exact hs i σ _ hlt p
 ·have e : i = n := by omega
  subst e
  exact .inl ⟨Nat.le_refl _, hd σ H p⟩
theorem while_by {c : TT} {tb : TS} {D : Ends} {σ : St} {H : Hp} (Pv : St -> Hp -> Prop) (μ : St -> Hp -> Nat) (h0 : Pv σ H)
  (hs : ∀ σ H, Pv σ H -> c σ H fun b H1 => if b = true then tb { D with nx := fun σ' H' => Pv σ' H' /\ μ σ' H' < μ σ H, ct := fun σ' H' => Pv σ' H' /\ μ σ' H' < μ σ H, bk := D.nx } σ H1 else D.nx σ H1)
  (mono : ∀ σ H Q Q', (∀ b H1, Q b H1 -> Q' b H1) -> c σ H Q -> c σ H Q') : tWhile c tb D σ H := by
 refine ⟨fun m σ H => m = μ σ H /\ Pv σ H, ⟨_, rfl, h0⟩, ?_⟩
 rintro m σ H ⟨rfl, p⟩
 refine mono σ H _ _ (fun b H1 q => ?_) (hs σ H p)
 cases b with
 | true => exact ⟨_, fun σ' H' ⟨p', l⟩ => ⟨_, l, rfl, p'⟩, q⟩
 | false => exact q
end L2
namespace L2
open PySem PySem.Spec PyProof.Rows
abbrev R2 := V -> V -> Hp -> VK -> Prop
def OpR (X : Cx) (f : Value -> Value -> Sem Value) (r : R2) : Prop :=
 ∀ (pins : List (Addr × Obj)) (s : Shared) (σ : St) (H : Hp) (x y : V) (v u : Value) (Q : VK), Inv X pins σ H s -> RelV x v -> RelV y u -> r x y H Q ->
  wpAny (model X.prog X.w) X.A (f v u) (EP X pins σ Q) X.xe s
def UnR (X : Cx) (f : Value -> Sem Value) (r : V -> Hp -> VK -> Prop) : Prop :=
 ∀ (pins : List (Addr × Obj)) (s : Shared) (σ : St) (H : Hp) (x : V) (v : Value) (Q : VK), Inv X pins σ H s -> RelV x v -> r x H Q ->
  wpAny (model X.prog X.w) X.A (f v) (EP X pins σ Q) X.xe s
def CallR (X : Cx) (f : Value) (r : List V -> Hp -> VK -> Prop) : Prop :=
 ∀ (pins : List (Addr × Obj)) (s : Shared) (σ : St) (H : Hp) (xs : List V) (us : List Value) (Q : VK), Inv X pins σ H s -> Vals xs us -> r xs H Q ->
  wpAny (model X.prog X.w) X.A (call f us) (EP X pins σ Q) X.xe s
def tOp (r : R2) (ta tb : TE) : TE := fun σ H Q => ta σ H fun x H1 => tb σ H1 fun y H2 => r x y H2 Q
def tUn (r : V -> Hp -> VK -> Prop) (ta : TE) : TE := fun σ H Q => ta σ H fun x H1 => r x H1 Q
def rI0 (g : Int -> Int -> V) : R2 := fun x y H Q => ∃ i j, x = .int i /\ y = .int j /\ Q (g i j) H
def rU (g : Int -> V) : V -> Hp -> VK -> Prop := fun x H Q => ∃ i, x = .int i /\ Q (g i) H
section
variable {X : Cx} {a b c : Expr} {ta tb tc : TE} {pos : Pos}
theorem binT (ha : PE X a ta) (hb : PE X b tb) {pins : List (Addr × Obj)} {s : Shared} {σ : St} {H : Hp} {R : V -> V -> Hp -> Prop} (I : Inv X pins σ H s)
  (h : ta σ H fun x H1 => tb σ H1 fun y H2 => R x y H2) {Q : Value -> Shared -> Prop} {f : Value -> Value -> Sem Value}
  (hf : ∀ v u s2 x y H2, Inv X pins σ H2 s2 -> RelV x v -> RelV y u -> R x y H2 -> wpAny (model X.prog X.w) X.A (f v u) Q X.xe s2) :
  wpAny (model X.prog X.w) X.A (eval a X.env) (fun v s₁ => wpAny (model X.prog X.w) X.A (eval b X.env) (fun u s₂ => wpAny (model X.prog X.w) X.A (f v u) Q X.xe s₂) X.xe s₁) X.xe s := by
 refine thn (ha pins s σ H _ I h) fun v s1 ⟨x, H1, I1, r1, q1⟩ => ?_
 refine thn (hb pins s1 σ H1 _ I1 q1) fun u s2 ⟨y, H2, I2, r2, q2⟩ => ?_
 exact hf v u s2 x y H2 I2 r1 r2 q2
theorem pe_op {op : Operator} {r : R2} (ho : OpR X (binaryOp op) r) (ha : PE X a ta) (hb : PE X b tb) : PE X (.BinOp a op b pos) (tOp r ta tb) := by
 intro pins s σ H Q I h
 exact wpAny_BinOp (binT ha hb I h fun v u s2 x y H2 I2 rx ry q => ho pins s2 σ H2 x y v u Q I2 rx ry q)
theorem pe_un {op : UnaryOp} {r : V -> Hp -> VK -> Prop} (ho : UnR X (unaryOp op) r) (ha : PE X a ta) : PE X (.UnaryOp op a pos) (tUn r ta) := by
 intro pins s σ H Q I h
 exact UnaryOp_ (thn (ha pins s σ H _ I h) fun v s1 ⟨x, H1, I1, r1, q1⟩ => ho pins s1 σ H1 x v Q I1 r1 q1)
theorem opI0 {f : Value -> Value -> Sem Value} {g : Int -> Int -> Int}
  (rule : ∀ (i j : Int) (t u : Tok) (s : Shared) (Q : Value -> Shared -> Prop) (E : Value -> Shared -> Prop), Q (.int (g i j) s.toks) { s with toks := s.toks + 1 } -> wpAny (model X.prog X.w) X.A (f (.int i t) (.int j u)) Q E s) :
  OpR X f (rI0 fun i j => .int (g i j)) := by
 intro pins s σ H x y v u Q I rx ry h
 obtain ⟨i, j, rfl, rfl, q⟩ := h
 obtain ⟨t, rfl⟩ := rx
 obtain ⟨t', rfl⟩ := ry
 exact rule i j t t' s _ _ ⟨.int (g i j), H, I.tok _, ⟨_, rfl⟩, q⟩
theorem opB0 {f : Value -> Value -> Sem Value} {g : Int -> Int -> Bool}
  (rule : ∀ (i j : Int) (t u : Tok) (s : Shared) (Q : Value -> Shared -> Prop) (E : Value -> Shared -> Prop), Q (.bool (g i j)) s -> wpAny (model X.prog X.w) X.A (f (.int i t) (.int j u)) Q E s) :
  OpR X f (rI0 fun i j => .bl (g i j)) := by
 intro pins s σ H x y v u Q I rx ry h
 obtain ⟨i, j, rfl, rfl, q⟩ := h
 obtain ⟨t, rfl⟩ := rx
 obtain ⟨t', rfl⟩ := ry
 exact rule i j t t' s _ _ ⟨.bl (g i j), H, I, rfl, q⟩
theorem op_add : OpR X (binaryOp .Add) (rI0 fun i j => .int (i + j)) := opI0 fun _ _ _ _ _ _ _ q => add_int q
theorem op_sub : OpR X (binaryOp .Sub) (rI0 fun i j => .int (i - j)) := opI0 fun _ _ _ _ _ _ _ q => sub_int q
theorem unI {f : Value -> Sem Value} {g : Int -> Int}
  (rule : ∀ (i : Int) (t : Tok) (s : Shared) (Q : Value -> Shared -> Prop) (E : Value -> Shared -> Prop), Q (.int (g i) s.toks) { s with toks := s.toks + 1 } -> wpAny (model X.prog X.w) X.A (f (.int i t)) Q E s) :
  UnR X f (rU fun i => .int (g i)) := by
 intro pins s σ H x v Q I rx h
 obtain ⟨i, rfl, q⟩ := h
 obtain ⟨t, rfl⟩ := rx
 exact rule i t s _ _ ⟨.int (g i), H, I.tok _, ⟨_, rfl⟩, q⟩
theorem un_neg : UnR X (unaryOp .USub) (rU fun i => .int (-i)) := unI fun _ _ _ _ _ q => neg_int q
end
def scal : V -> V -> Bool
 | .non, .non => true | .non, .int _ => true | .int _, .non => true | .non, .bl _ => true | .bl _, .non => true | .non, .str _ => true | .str _, .non => true
 | .int _, .int _ => true | .bl _, .bl _ => true | .str _, .str _ => true | .byt _, .byt _ => true
 | .int _, .str _ => true | .str _, .int _ => true | .bl _, .str _ => true | .str _, .bl _ => true
 | _, _ => false
def rEq : R2 := fun x y H Q => scal x y = true /\ Q (.bl (decide (x = y))) H
def rNe : R2 := fun x y H Q => scal x y = true /\ Q (.bl (!decide (x = y))) H
theorem dec_int {i j : Int} : decide (V.int i = V.int j) = (i == j) := by
 rw [Bool.eq_iff_iff]
 simp
theorem dec_bl {i j : Bool} : decide (V.bl i = V.bl j) = (i == j) := by
 rw [Bool.eq_iff_iff]
 simp
theorem dec_str {i j : Str} : decide (V.str i = V.str j) = (i == j) := by
 rw [Bool.eq_iff_iff]
 simp
theorem dec_byt {i j : Array UInt8} : decide (V.byt i = V.byt j) = (i.toList == j.toList) := by
 rw [Bool.eq_iff_iff]
 cases i
 cases j
 simp
section
variable {X : Cx} {a b c : Expr} {ta tb tc : TE} {pos : Pos}
theorem fin_bl {pins : List (Addr × Obj)} {σ : St} {H : Hp} {s : Shared} {Q : VK} {k k' : Bool} (I : Inv X pins σ H s) (q : Q (.bl k) H) (e : k = k') : EP X pins σ Q (.bool k') s := by
 subst e
 exact ⟨.bl k, H, I, rfl, q⟩
theorem op_eq : OpR X (compareOp .Eq) rEq := by
 intro pins s σ H x y v u Q I rx ry h
 obtain ⟨hs, q⟩ := h
 cases x with
 | non =>
  cases rx
  cases y with
  | non => cases ry; exact PySem.EqNone.eq_none_none (fin_bl I q (by simp))
  | bl j => cases ry; exact PySem.EqNone.eq_none_bool (fin_bl I q (by simp))
  | int j => obtain ⟨t', rfl⟩ := ry; exact PySem.EqNone.eq_none_int (fin_bl I q (by simp))
  | str j => obtain ⟨t', rfl⟩ := ry; exact PySem.EqNone.eq_none_str (fin_bl I q (by simp))
  | _ => exact absurd (show false = true from hs) Bool.false_ne_true
 | bl i =>
  cases rx
  cases y with
  | non => cases ry; exact PySem.EqNone.eq_bool_none (fin_bl I q (by simp))
  | bl j => cases ry; exact eq_bool (fin_bl I q dec_bl)
  | str j => obtain ⟨t', rfl⟩ := ry; exact PySem.EqMixed.eq_bool_str (fin_bl I q (by simp))
  | _ => exact absurd (show false = true from hs) Bool.false_ne_true
 | int i =>
  obtain ⟨t, rfl⟩ := rx
  cases y with
  | non => cases ry; exact PySem.EqNone.eq_int_none (fin_bl I q (by simp))
  | int j => obtain ⟨t', rfl⟩ := ry; exact eq_int (fin_bl I q dec_int)
  | str j => obtain ⟨t', rfl⟩ := ry; exact PySem.EqMixed.eq_int_str (fin_bl I q (by simp))
  | _ => exact absurd (show false = true from hs) Bool.false_ne_true
 | str i =>
  obtain ⟨t, rfl⟩ := rx
  cases y with
  | non => cases ry; exact PySem.EqNone.eq_str_none (fin_bl I q (by simp))
  | bl j => cases ry; exact PySem.EqMixed.eq_str_bool (fin_bl I q (by simp))
  | int j => obtain ⟨t', rfl⟩ := ry; exact PySem.EqMixed.eq_str_int (fin_bl I q (by simp))
  | str j => obtain ⟨t', rfl⟩ := ry; exact eq_str (fin_bl I q dec_str)
  | _ => exact absurd (show false = true from hs) Bool.false_ne_true
 | byt i =>
  obtain ⟨t, rfl⟩ := rx
  cases y with
  | byt j => obtain ⟨t', rfl⟩ := ry; exact PySem.W.eq_bytes (fin_bl I q dec_byt)
  | _ => exact absurd (show false = true from hs) Bool.false_ne_true
 | _ => cases y <;> exact absurd (show false = true from hs) Bool.false_ne_true
theorem op_ne : OpR X (compareOp .NotEq) rNe := by
 intro pins s σ H x y v u Q I rx ry h
 obtain ⟨hs, q⟩ := h
 cases x with
 | non =>
  cases rx
  cases y with
  | non => cases ry; exact PySem.EqNone.ne_none_none (fin_bl I q (by simp))
  | bl j => cases ry; exact PySem.EqNone.ne_none_bool (fin_bl I q (by simp))
  | int j => obtain ⟨t', rfl⟩ := ry; exact PySem.EqNone.ne_none_int (fin_bl I q (by simp))
  | str j => obtain ⟨t', rfl⟩ := ry; exact PySem.EqNone.ne_none_str (fin_bl I q (by simp))
  | _ => exact absurd (show false = true from hs) Bool.false_ne_true
 | bl i =>
  cases rx
  cases y with
  | non => cases ry; exact PySem.EqNone.ne_bool_none (fin_bl I q (by simp))
  | bl j => cases ry; exact ne_bool (fin_bl I q (congrArg not dec_bl))
  | str j => obtain ⟨t', rfl⟩ := ry; exact PySem.EqMixed.ne_bool_str (fin_bl I q (by simp))
  | _ => exact absurd (show false = true from hs) Bool.false_ne_true
 | int i =>
  obtain ⟨t, rfl⟩ := rx
  cases y with
  | non => cases ry; exact PySem.EqNone.ne_int_none (fin_bl I q (by simp))
  | int j => obtain ⟨t', rfl⟩ := ry; exact ne_int (fin_bl I q (congrArg not dec_int))
  | str j => obtain ⟨t', rfl⟩ := ry; exact PySem.EqMixed.ne_int_str (fin_bl I q (by simp))
  | _ => exact absurd (show false = true from hs) Bool.false_ne_true
 | str i =>
  obtain ⟨t, rfl⟩ := rx
  cases y with
  | non => cases ry; exact PySem.EqNone.ne_str_none (fin_bl I q (by simp))
  | bl j => cases ry; exact PySem.EqMixed.ne_str_bool (fin_bl I q (by simp))
  | int j => obtain ⟨t', rfl⟩ := ry; exact PySem.EqMixed.ne_str_int (fin_bl I q (by simp))
  | str j => obtain ⟨t', rfl⟩ := ry; exact ne_str (fin_bl I q (congrArg not dec_str))
  | _ => exact absurd (show false = true from hs) Bool.false_ne_true
 | byt i =>
  obtain ⟨t, rfl⟩ := rx
  cases y with
  | byt j => obtain ⟨t', rfl⟩ := ry; exact PySem.W.ne_bytes (fin_bl I q (congrArg not dec_byt))
  | _ => exact absurd (show false = true from hs) Bool.false_ne_true
 | _ => cases y <;> exact absurd (show false = true from hs) Bool.false_ne_true
theorem op_lt : OpR X (compareOp .Lt) (rI0 fun i j => .bl (decide (i < j))) := opB0 fun _ _ _ _ _ _ _ q => lt_int q
theorem op_le : OpR X (compareOp .LtE) (rI0 fun i j => .bl (decide (i <= j))) := opB0 fun _ _ _ _ _ _ _ q => le_int q
theorem op_gt : OpR X (compareOp .Gt) (rI0 fun i j => .bl (decide (j < i))) := opB0 fun _ _ _ _ _ _ _ q => gt_int q
theorem op_ge : OpR X (compareOp .GtE) (rI0 fun i j => .bl (decide (j <= i))) := opB0 fun _ _ _ _ _ _ _ q => ge_int q
theorem nomark (b : Expr) {op : CmpOp} (h : op ≠ .In := by decide) (h2 : op ≠ .NotIn := by decide) : behindInMarks op b = false := by
 have e1 : (op == CmpOp.In) = false := by cases op <;> first | rfl | exact absurd rfl h
 have e2 : (op == CmpOp.NotIn) = false := by cases op <;> first | rfl | exact absurd rfl h2
 cases b <;> simp [behindInMarks, e1, e2]
theorem pe_cmpR {op : CmpOp} {r : R2} (ho : OpR X (compareOp op) r) (ha : PE X a ta) (hb : PE X b tb) (hm : behindInMarks op b = false) : PE X (.Compare a [op] [b] pos) (tOp r ta tb) := by
 intro pins s σ H Q I h
 exact wpAny_Compare1 (binT ha hb I h fun v u s2 x y H2 I2 rx ry q => ho pins s2 σ H2 x y v u Q I2 rx ry q) hm
def tTest (t : TE) : TT := fun σ H Q => t σ H fun x H' => ∃ k, x = .bl k /\ Q k H'
theorem pt_cmpR {op : CmpOp} {r : R2} (ho : OpR X (compareOp op) r) (ha : PE X a ta) (hb : PE X b tb) (hm : behindInMarks op b = false) : PT X (.Compare a [op] [b] pos) (tTest (tOp r ta tb)) := by
 intro pins s σ H Q I h
 refine wpAny_isTrue_Compare1 (thn (ha pins s σ H _ I h) fun v s1 ⟨x, H1, I1, r1, q1⟩ => thn (hb pins s1 σ H1 _ I1 q1) fun u s2 ⟨y, H2, I2, r2, q2⟩ =>
  thn (ho pins s2 σ H2 x y v u _ I2 r1 r2 q2) fun c s3 ⟨z, H3, I3, r3, k, e, q3⟩ => ?_) hm
 subst e
 cases r3
 exact wpAny_truthy_bool ⟨H3, I3, q3⟩
theorem line63 : (sizeLine : Nat) < 2 ^ 63 := by rw [sizeLine_eq]; decide
theorem vals1 {x : V} {us : List Value} (r : Vals [x] us) : ∃ u, us = [u] /\ RelV x u := by
 cases r with
 | cons r1 r2 => cases r2; exact ⟨_, rfl, r1⟩
theorem vals2 {x y : V} {us : List Value} (r : Vals [x, y] us) : ∃ u w', us = [u, w'] /\ RelV x u /\ RelV y w' := by
 cases r with
 | cons r1 r2 =>
  cases r2 with
  | cons r3 r4 => cases r4; exact ⟨_, _, rfl, r1, r3⟩
theorem call_abs : CallR X (.builtin "abs") (fun xs H Q => ∃ i, xs = [.int i] /\ Q (.int (if i < 0 then -i else i)) H) := by
 intro pins s σ H xs us Q I r h
 obtain ⟨i, rfl, q⟩ := h
 obtain ⟨u, rfl, t, rfl⟩ := vals1 r
 exact call_abs_int fun u tk => ⟨.int (if i < 0 then -i else i), H, I.tok _, ⟨_, rfl⟩, q⟩
theorem call_max2 (hc : X.calm = true) : CallR X (.builtin "max") (fun xs H Q => ∃ i j, xs = [.int i, .int j] /\ Q (.int (if j > i then j else i)) H) := by
 intro pins s σ H xs us Q I r h
 obtain ⟨i, j, rfl, q⟩ := h
 obtain ⟨u, w', rfl, ⟨t, rfl⟩, ⟨t', rfl⟩⟩ := vals2 r
 refine max_two_ints (I.ok.hd hc) fun h' tk k => ⟨_, H, I.kept k, ?_, q⟩
 by_cases hj : j > i
 ·rw [if_pos hj, if_pos hj]; exact ⟨_, rfl⟩
 ·rw [if_neg hj, if_neg hj]; exact ⟨_, rfl⟩
theorem call_min2 (hc : X.calm = true) : CallR X (.builtin "min") (fun xs H Q => ∃ i j, xs = [.int i, .int j] /\ Q (.int (if j < i then j else i)) H) := by
 intro pins s σ H xs us Q I r h
 obtain ⟨i, j, rfl, q⟩ := h
 obtain ⟨u, w', rfl, ⟨t, rfl⟩, ⟨t', rfl⟩⟩ := vals2 r
 refine min_two_ints (I.ok.hd hc) fun h' tk k => ⟨_, H, I.kept k, ?_, q⟩
 by_cases hj : j < i
 ·rw [if_pos hj, if_pos hj]; exact ⟨_, rfl⟩
 ·rw [if_neg hj, if_neg hj]; exact ⟨_, rfl⟩
theorem call_int1 : CallR X (.type "int") (fun xs H Q => (∃ i, xs = [.int i] /\ Q (.int i) H) ∨ ∃ k, xs = [.bl k] /\ Q (.int (if k then 1 else 0)) H) := by
 intro pins s σ H xs us Q I r h
 rcases h with ⟨i, rfl, q⟩ | ⟨k, rfl, q⟩
 ·obtain ⟨u, rfl, t, rfl⟩ := vals1 r
  exact call_int_int ⟨.int i, H, I, ⟨_, rfl⟩, q⟩
 ·obtain ⟨u, rfl, r1⟩ := vals1 r
  cases r1
  exact call_int_bool ⟨.int (if k then 1 else 0), H, I.tok _, ⟨_, rfl⟩, q⟩
end
end L2
namespace L2
open PySem PySem.Spec PyProof.Rows
structure ObjM (h : Heap) (x dx C : Addr) (mA : Str -> Option Value) : Prop where
 obj : h.get? x = some (PySem.W.instObj C dx)
 ns : h.Ns1 dx mA
 ne : dx ≠ x
theorem lookIn_ns {h : Heap} {dx : Addr} {mA : Str -> Option Value} (n : h.Ns1 dx mA) : ∃ od, h.get? dx = some od /\ ∀ name, PySem.W.lookIn name od = some (mA name) := by
 obtain ⟨o, es, ep, ho, hd, hk, _, hm⟩ := n
 refine ⟨o, ho, fun name => ?_⟩
 have e := hm name
 unfold nsFind findBy at e
 rw [<- Array.find?_toList] at e
 unfold PySem.W.lookIn
 rw [hd]
 dsimp only
 split
 ·rename_i y q
  rw [q] at e
  exact congrArg some e
 ·rename_i q
  rw [q] at e
  have a : es.toList.any (·.refKey) = false := by
   rw [List.any_eq_false]
   intro y hy
   obtain ⟨z, t, hkey⟩ := hk y (Array.mem_toList_iff.mp hy)
   simp [DictEntry.refKey, hkey]
  have a' : ¬ es.toList.any (·.refKey) = true := by rw [a]; exact Bool.false_ne_true
  rw [if_neg a']
  exact congrArg some e
theorem ObjM.look {h : Heap} {x dx C : Addr} {mA : Str -> Option Value} (I : ObjM h x dx C mA) : ∃ od, PySem.W.InstAt h x (PySem.W.instObj C dx) C (some od) /\ ∀ name, PySem.W.lookIn name od = some (mA name) :=
 let ⟨od, ho, hl⟩ := lookIn_ns I.ns
 ⟨od, ⟨I.obj, rfl, rfl, ho⟩, hl⟩
section
variable {prog : Program} {w : World} {A : Around} {E : Value -> Shared -> Prop} {s : Shared} {K : PySem.W.Frag} {x dx C f : Addr} {mA : Str -> Option Value} {name : Str} {v : Value}
theorem get_map {expr : Bool} {Q : Value -> Shared -> Prop} (X : K.In s.heap) (I : ObjM s.heap x dx C mA) (hg : PySem.W.plainGet K C name = true) (hh : PySem.W.hasDictIn K C = true)
  (ha : PySem.W.findIn K (.ref C) name = some none) (hv : mA name = some v) (hv' : PySem.W.handedIn v = true) (h : Q v { s with toks := s.toks + 1 }) :
  wpAny (model prog w) A (getAttr (.ref x) name expr) Q E s := by
 obtain ⟨od, J, hl⟩ := I.look
 exact PySem.W.get_value X J (PySem.W.plainGet_of hg).1 (PySem.W.findObj_own hh ha rfl (by rw [hl, hv])) hv' h
theorem get_meth {pl : Sem Bool} {Q : Value × List Value -> Shared -> Prop} (X : K.In s.heap) (I : ObjM s.heap x dx C mA) (hg : PySem.W.plainGet K C name = true)
  (hf : PySem.W.findIn K (.ref C) name = some (some (.ref f))) (ht : PySem.W.isFn K (.ref f) = true) (hv : mA name = none) (h : Q (.ref f, [.ref x]) s) :
  wpAny (model prog w) A (getMethod (.ref x) name pl) Q E s := by
 obtain ⟨od, J, hl⟩ := I.look
 exact PySem.W.method_fn X J (PySem.W.plainGet_of hg).1 (PySem.W.plainGet_of hg).2 hf (beq_iff_eq.mp ht) (by show (PySem.W.lookIn name od).map (·.isSome) = some false; rw [hl, hv]; rfl) h
theorem set_map {ns : List Str} {Q : Unit -> Shared -> Prop} (X : K.In s.heap) (I : ObjM s.heap x dx C mA)
  (hs : PySem.W.findIn K (.ref C) "__setattr__" = some (some (.builtin "object.__setattr__"))) (hp : PySem.W.plainOver K C = true) (ht : PySem.W.takerIn K C name = some none) (hh : PySem.W.hasDictIn K C = true)
  (hw : PySem.Within mA ns) (hsz : ns.length <= sizeLine)
  (h : ∀ h', ObjM h' x dx C (fun y => if y = name then some v else mA y) -> Heap.SameBut dx s.heap h' -> Q () { s with heap := h', toks := s.toks + 2 }) :
  wpAny (model prog w) A (setAttr (.ref x) name v) Q E s := by
 obtain ⟨od, J, hl⟩ := I.look
 refine PySem.W.set_plain X J hs (PySem.W.osa_open (s := { s with toks := s.toks + 1 }) (r := none) X J hp ht fun b => ?_)
 obtain ⟨cd, hc, hd'⟩ := PySem.W.any_some hh
 have hx : s.heap.get? x = some ⟨.ref C, some dx, .plain, #[]⟩ := I.obj
 refine wpAny_bind (wpAny_pure (wpAny_bind (wpAny_bind (wpAny_loadPart hx (wpAny_bind (PySem.W.Looks.here (s := { s with toks := s.toks + 1 }) (PySem.W.looks_clsIn X hc) ?_))))))
 rw [hd']
 refine wpAny_pure (a := some dx) (wpAny_bind (wpAny_pure (wpAny_bind ?_)))
 refine wpAny_nsSet1 (s := { s with toks := s.toks + 1 }) I.ns fun h' hn2 hs2 => ?_
 obtain ⟨oD, esD, epD, hoD, hdD, hcD⟩ := hn2.count (PySem.Within.cons name v hw)
 refine wpAny_bind (wpAny_lookBehind hoD (by rw [hdD]; exact pastItsLine_dict (Nat.le_trans hcD (by rw [List.length_cons]; omega))) ?_)
 exact wpAny_pure (h _ ⟨(hs2.2 _ (Ne.symm I.ne)).trans I.obj, hn2, I.ne⟩ hs2)
theorem make_map {R : Result -> Shared -> Prop} {vs : List Value} {kw : List (Str × Value)} (X : K.In s.heap) (hm : PySem.W.makesIn K C = true)
  (hi : PySem.W.findIn K (.ref C) "__init__" = some (some (.ref f))) (hf : PySem.W.typeIn K (.ref f) = some (.type "function"))
  (h : codeAny (model prog w) (A.under (.builtin "type.__call__" ⟨.ref C :: vs, kw⟩)) (.call (.ref f) ⟨.ref (s.heap.objs.size + 1) :: vs, kw⟩) (PySem.W.InitBack (s.heap.objs.size + 1) R)
   { s with heap := (s.heap.push PySem.W.emptyDict).push (PySem.W.instObj C s.heap.objs.size) }) :
  codeAny (model prog w) A (.call (.ref C) ⟨vs, kw⟩) R s := by
 obtain ⟨hh, g, d, t, os⟩ := s
 exact PySem.W.make_core (PySem.W.makes_of X hm) (PySem.W.looks_findIn X hi) (fun self => PySem.W.bind_fn X self hf) (.inl rfl) h
end
def putF (f : Str) (v : V) : List (Str × V) -> List (Str × V)
 | [] => [(f, v)]
 | (g, x) :: r => if g = f then (g, v) :: r else (g, x) :: putF f v r
theorem lookup_putF (f g : Str) (v : V) : ∀ fs : List (Str × V), (putF f v fs).lookup g = if g = f then some v else fs.lookup g
 | [] => by
  show List.lookup g [(f, v)] = _
  by_cases h : g = f
  ·have hb : (g == f) = true := beq_iff_eq.mpr h
   simp only [List.lookup, hb, if_pos h]
  ·have hb : (g == f) = false := beq_eq_false_iff_ne.mpr h
   simp only [List.lookup, hb, if_neg h]
 | (k, x) :: r => by
  have ih := lookup_putF f g v r
  rw [show putF f v ((k, x) :: r) = (if k = f then (k, v) :: r else (k, x) :: putF f v r) from rfl]
  by_cases hk : k = f
  ·rw [if_pos hk]
   by_cases h : g = k
   ·have hb : (g == k) = true := beq_iff_eq.mpr h
    simp only [List.lookup, hb, if_pos (h.trans hk)]
   ·have hb : (g == k) = false := beq_eq_false_iff_ne.mpr h
    simp only [List.lookup, hb, if_neg (fun e : g = f => h (e.trans hk.symm))]
  ·rw [if_neg hk]
   by_cases h : g = k
   ·have hb : (g == k) = true := beq_iff_eq.mpr h
    simp only [List.lookup, hb, if_neg (fun e : g = f => hk (h.symm.trans e))]
   ·have hb : (g == k) = false := beq_eq_false_iff_ne.mpr h
    simp only [List.lookup, hb]
    exact ih
theorem keys_putF (f : Str) (v : V) : ∀ fs : List (Str × V), f ∈ (putF f v fs).map (·.1) /\ ∀ g, g ∈ fs.map (·.1) -> g ∈ (putF f v fs).map (·.1)
 | [] => ⟨by simp [putF], fun g h => by simp at h⟩
 | (k, x) :: r => by
  obtain ⟨i1, i2⟩ := keys_putF f v r
  rw [show putF f v ((k, x) :: r) = (if k = f then (k, v) :: r else (k, x) :: putF f v r) from rfl]
  by_cases hk : k = f
  ·rw [if_pos hk]
   subst hk
   exact ⟨by simp, fun g h => by simpa using h⟩
  ·rw [if_neg hk]
   refine ⟨?_, fun g h => ?_⟩
   ·rw [List.map_cons]
    exact List.mem_cons_of_mem _ i1
   ·rw [List.map_cons] at h ⊢
    rcases List.mem_cons.mp h with e | e
    ·exact List.mem_cons.mpr (.inl e)
    ·exact List.mem_cons_of_mem _ (i2 g e)
theorem length_putF (f : Str) (v : V) : ∀ fs : List (Str × V), (putF f v fs).length <= fs.length + 1
 | [] => by simp [putF]
 | (k, x) :: r => by
  have ih := length_putF f v r
  rw [show putF f v ((k, x) :: r) = (if k = f then (k, v) :: r else (k, x) :: putF f v r) from rfl]
  by_cases hk : k = f
  ·rw [if_pos hk, List.length_cons, List.length_cons]; omega
  ·rw [if_neg hk, List.length_cons, List.length_cons]; omega
theorem RelO.some_of {v : V} {o : Option Value} (r : RelO (some v) o) : ∃ u, o = some u /\ RelV v u := by
 cases o with
 | none => exact (show False from r).elim
 | some u => exact ⟨u, rfl, r⟩
theorem RelO.none_of {o : Option Value} (r : RelO none o) : o = none := by
 cases o with
 | none => rfl
 | some u => exact (show False from r).elim
theorem handed_of {v : V} {u : Value} (r : RelV v u) : PySem.W.handedIn u = true := by
 cases v with
 | non => cases (show u = Value.none from r); rfl
 | bl b => cases (show u = Value.bool b from r); rfl
 | int i => obtain ⟨t, e⟩ := (show ∃ t, u = Value.int i t from r); cases e; rfl
 | str x => obtain ⟨t, e⟩ := (show ∃ t, u = Value.str x t from r); cases e; rfl
 | byt b => obtain ⟨t, e⟩ := (show ∃ t, u = Value.bytes b t from r); cases e; rfl
 | flt b => obtain ⟨t, e⟩ := (show ∃ t, u = Value.float b t from r); cases e; rfl
 | ref a => cases (show u = Value.ref a from r); rfl
 | ty n => cases (show u = Value.type n from r); rfl
section
variable {P : Program} {w : World} {H H' : Hp} {h h' : Heap} {a C dx : Addr} {fs fs' : List (Str × V)}
theorem ins_get (hok : HOk P w H h) (e : H a = some (.ins C dx fs)) : ∃ mA, ObjM h a dx C mA /\ (∀ f, RelO (fs.lookup f) (mA f)) /\ PySem.Within mA (fs.map (·.1)) /\ fs.length <= 1000 /\ H dx = some (.own a) := by
 obtain ⟨d, z, ne, ob, mA, n, r, q⟩ := (show ObjOk P w H h a (.ins C dx fs) from hok a _ e)
 exact ⟨mA, ⟨ob, n, ne⟩, r, q, z, d⟩
end
structure Cls (K : PySem.W.Frag) (C : Addr) : Prop where
 pg : PySem.W.plainGet K C Str.empty = true
 hd : PySem.W.hasDictIn K C = true
 po : PySem.W.plainOver K C = true
 sa : PySem.W.findIn K (.ref C) "__setattr__" = some (some (.builtin "object.__setattr__"))
theorem Cls.get {K : PySem.W.Frag} {C : Addr} (c : Cls K C) (f : Str) : PySem.W.plainGet K C f = true := c.pg
def NoAttr (K : PySem.W.Frag) (C : Addr) (f : Str) : Prop := PySem.W.findIn K (.ref C) f = some none
theorem NoAttr.taker {K : PySem.W.Frag} {C : Addr} {f : Str} (n : NoAttr K C f) : PySem.W.takerIn K C f = some none := by
 unfold PySem.W.takerIn
 rw [show PySem.W.findIn K (.ref C) f = some none from n]
 rfl
structure Con (K : PySem.W.Frag) (C : Addr) (f : Str) (v : V) (u : Value) : Prop where
 at_ : PySem.W.findIn K (.ref C) f = some (some u)
 rel : RelV v u
 get : PySem.W.specialIn K u "__get__" = some none
 cp : PySem.W.copiedNames.contains f = false
structure Meth (K : PySem.W.Frag) (C : Addr) (m : Str) (f : Addr) : Prop where
 at_ : PySem.W.findIn K (.ref C) m = some (some (.ref f))
 fn : PySem.W.isFn K (.ref f) = true
 kp : PySem.W.keepIn K (.ref f) = true
section
variable {X : Cx} {pins : List (Addr × Obj)} {σ : St} {H : Hp} {s : Shared} {a C dx : Addr} {fs : List (Str × V)} {f : Str} {v : V} {A : Around} {E : Value -> Shared -> Prop}
theorem getattr_ok {b : Bool} {Q : Value -> Shared -> Prop} (I : Inv X pins σ H s) (e : H a = some (.ins C dx fs)) (c : Cls X.K C) (n : NoAttr X.K C f) (l : fs.lookup f = some v)
  (h : ∀ u s', Inv X pins σ H s' -> RelV v u -> Q u s') : wpAny (model X.prog X.w) A (getAttr (.ref a) f b) Q E s := by
 obtain ⟨mA, O, r, _, _, _⟩ := ins_get I.hok e
 obtain ⟨u, hu, ru⟩ := RelO.some_of (v := v) (o := mA f) (by rw [<- l]; exact r f)
 exact get_map I.kIn O (c.get f) c.hd n hu (handed_of ru) (h u _ (I.tok _) ru)
theorem getmeth_ok {m : Str} {g : Addr} {pl : Sem Bool} {Q : Value × List Value -> Shared -> Prop} (I : Inv X pins σ H s) (e : H a = some (.ins C dx fs)) (c : Cls X.K C) (k : Meth X.K C m g) (l : fs.lookup m = none)
  (h : Q (.ref g, [.ref a]) s) : wpAny (model X.prog X.w) A (getMethod (.ref a) m pl) Q E s := by
 obtain ⟨mA, O, r, _, _, _⟩ := ins_get I.hok e
 have hn : mA m = none := RelO.none_of (by rw [<- l]; exact r m)
 exact get_meth I.kIn O (c.get m) k.at_ k.fn hn h
theorem setattr_ok {y : V} {u : Value} {Q : Unit -> Shared -> Prop} (I : Inv X pins σ H s) (e : H a = some (.ins C dx fs)) (c : Cls X.K C) (n : NoAttr X.K C f) (hl : fs.length < 1000) (ry : RelV y u)
  (h : ∀ s', Inv X pins σ (upd H a (.ins C dx (putF f y fs))) s' -> Q () s') : wpAny (model X.prog X.w) A (setAttr (.ref a) f u) Q E s := by
 obtain ⟨mA, O, r, wi, _, ho⟩ := ins_get I.hok e
 have hz : (fs.map (·.1)).length <= sizeLine := by rw [List.length_map, sizeLine_eq]; omega
 refine set_map I.kIn O c.sa c.po n.taker c.hd wi hz fun h' O' sb => h _ ?_
 have hd : ∃ o, h'.get? dx = some o := let ⟨o, _, _, e', _⟩ := O'.ns; ⟨o, e'⟩
 refine I.write (x := a) (e := dx) (by rw [e]; exact True.intro) (.inr ho) (fun b q hb z => (sb.2 b hb).trans z) hd ?_
 refine ⟨by rw [upd_ne O.ne]; exact ho, ?_, O.ne, O'.obj, _, O'.ns, fun g => ?_, fun g hg => ?_⟩
 ·have := length_putF f y fs; omega
 ·show RelO ((putF f y fs).lookup g) (if g = f then some u else mA g)
  rw [lookup_putF]
  by_cases q : g = f
  ·rw [if_pos q, if_pos q]; exact ry
  ·rw [if_neg q, if_neg q]; exact r g
 ·by_cases q : g = f
  ·rw [q]; exact (keys_putF f y fs).1
  ·refine (keys_putF f y fs).2 g (wi g fun z => hg ?_)
   show (if g = f then some u else mA g) = none
   rw [if_neg q]; exact z
theorem Inv.made (I : Inv X pins σ H s) : Inv X pins σ (upd (upd H s.heap.objs.size (.own (s.heap.objs.size + 1))) (s.heap.objs.size + 1) (.ins C s.heap.objs.size []))
  { s with heap := (s.heap.push PySem.W.emptyDict).push (PySem.W.instObj C s.heap.objs.size) } := by
 have e1 : (s.heap.push PySem.W.emptyDict).get? s.heap.objs.size = some PySem.W.emptyDict := Heap.get?_push_size s.heap rfl
 have e2 : ((s.heap.push PySem.W.emptyDict).push (PySem.W.instObj C s.heap.objs.size)).get? (s.heap.objs.size + 1) = some (PySem.W.instObj C s.heap.objs.size) := by
  have := Heap.get?_push_size (s.heap.push PySem.W.emptyDict) (o := PySem.W.instObj C s.heap.objs.size) rfl
  rwa [Heap.size_push] at this
 have e3 : (s.heap.push PySem.W.emptyDict).Ns s.heap.objs.size (fun _ => none) := ⟨PySem.W.emptyDict, #[], _, e1, rfl, (fun e he => absurd he (by simp)), fun _ => rfl⟩
 have I1 := I.laid (a := s.heap.objs.size) (o := .own (s.heap.objs.size + 1)) (h' := s.heap.push PySem.W.emptyDict) (t' := s.toks) (fun b u q => Heap.get?_push_of_some _ q) (Nat.le_refl _) ⟨_, e1⟩
 refine I1.laid (a := s.heap.objs.size + 1) (o := .ins C s.heap.objs.size []) (t' := s.toks) (fun b u q => Heap.get?_push_of_some _ q) (Nat.le_of_eq (Heap.size_push _ _)) ?_
 have ne : s.heap.objs.size ≠ s.heap.objs.size + 1 := Nat.ne_of_lt (Nat.lt_succ_self _)
 refine ⟨by rw [upd_ne ne, upd_same], Nat.zero_le _, ne, e2, fun _ => none, (Heap.Ns1.of_empty e3).at fun o q => Heap.get?_push_of_some _ q, fun _ => True.intro, fun y hy => absurd rfl hy⟩
theorem attr_of {prog : Program} {w : World} {env : Env} {e : Expr} {f : Str} {pos : Pos} {s : Shared} {Q : Value -> Shared -> Prop} (hb : attributeBase e f env (eval e env) = eval e env)
  (h : wpAny (model prog w) A (eval e env) (fun o s₁ => wpAny (model prog w) A (getAttr o f true) Q E s₁) E s) : wpAny (model prog w) A (eval (.Attribute e f pos) env) Q E s :=
 Attribute_any_ h (by rw [arm_eval_Attribute, hb])
end
def tFld (K : PySem.W.Frag) (ta : TE) (f : Str) : TE := fun σ H Q => ta σ H fun x H1 => ∃ a C dx fs v, x = .ref a /\ H1 a = some (.ins C dx fs) /\ Cls K C /\ NoAttr K C f /\ fs.lookup f = some v /\ Q v H1
def sFld (K : PySem.W.Frag) (ta tv : TE) (f : Str) : TS := fun D σ H => tv σ H fun y H1 => ta σ H1 fun x H2 => ∃ a C dx fs, x = .ref a /\ H2 a = some (.ins C dx fs) /\ Cls K C /\ NoAttr K C f /\ fs.length < 1000 /\
 D.nx σ (upd H2 a (.ins C dx (putF f y fs)))
section
variable {X : Cx} {o e value : Expr} {f : Str} {pos pos' tpos : Pos} {ta tv : TE}
theorem pe_fld (he : PE X e ta) (hb : attributeBase e f X.env (eval e X.env) = eval e X.env) : PE X (.Attribute e f pos) (tFld X.K ta f) := by
 intro pins s σ H Q I h
 refine attr_of hb (thn (he pins s σ H _ I h) fun u s1 ⟨x, H1, I1, rx, a, C, dx, fs, v, ex, ea, c, n, l, q⟩ => ?_)
 subst ex
 obtain rfl : u = Value.ref a := rx
 exact getattr_ok I1 ea c n l fun u' s2 I2 ru => ⟨v, H1, I2, ru, q⟩
theorem ps_fld (ha : PE X o ta) (hv : PE X value tv) (hs : swapsWith value (some (.Attribute o f pos')) pos.line X.env = pure false) : PS X (.Assign [.Attribute o f pos'] value pos) (sFld X.K ta tv f) := by
 intro pins s σ H D I h
 refine plainObj_wpAny_Assign_Attribute (thn (hv pins s σ H _ I h) fun u s1 ⟨y, H1, I1, ry, q⟩ => thn (ha pins s1 σ H1 _ I1 q) fun ov s2 ⟨x, H2, I2, rx, a, C, dx, fs, ex, ea, c, n, l, q2⟩ => ?_) hs
 subst ex
 obtain rfl : ov = Value.ref a := rx
 exact setattr_ok I2 ea c n l ry fun s3 I3 => ⟨σ, _, I3, q2⟩
theorem methcall_of {pl : Sem Bool} {m : Str} {apos : Pos} {args : List Expr} {pins : List (Addr × Obj)} {s : Shared} {σ : St} {H : Hp} {Q : Value -> Shared -> Prop} {te : TE} (he : PE X e te) (I : Inv X pins σ H s)
  (h : te σ H fun x H1 => ∃ a C dx fs g, x = .ref a /\ H1 a = some (.ins C dx fs) /\ Cls X.K C /\ Meth X.K C m g /\ fs.lookup m = none /\
   ∀ s1, Inv X pins σ H1 s1 -> wpAny (model X.prog X.w) X.A (callWith pos (.ref g) [.ref a] (backTo pos (starEach args X.env)) (backToKw pos (keywordEach [] X.env))) Q X.xe s1)
  (ht : eval (.Call (.Attribute e m apos) args [] pos) X.env = (do
   let ov <- eval e X.env
   standAt apos.atName
   let (f, first) <- holding [ov] (getMethod ov m pl)
   callWith pos f first (backTo pos (starEach args X.env)) (backToKw pos (keywordEach [] X.env)))) :
  wpAny (model X.prog X.w) X.A (eval (.Call (.Attribute e m apos) args [] pos) X.env) Q X.xe s := by
 refine PySem.W.methodCall_KW (pl := pl) (thn (he pins s σ H _ I h) fun u s1 ⟨x, H1, I1, rx, a, C, dx, fs, g, ex, ea, c, k, l, q⟩ => ?_) ht
 subst ex
 obtain rfl : u = Value.ref a := rx
 exact getmeth_ok I1 ea c k l (q s1 I1)
end
section
variable {X : Cx} {pins : List (Addr × Obj)} {σ : St} {H : Hp} {s : Shared} {A : Around} {E : Value -> Shared -> Prop} {Q : Value -> Shared -> Prop} {c : Value} {b : Bool}
inductive TyOf (K : PySem.W.Frag) (H : Hp) : V -> Value -> Prop where
 | non : TyOf K H .non (.type "NoneType")
 | bl (x : Bool) : TyOf K H (.bl x) (.type "bool")
 | int (i : Int) : TyOf K H (.int i) (.type "int")
 | str (x : Str) : TyOf K H (.str x) (.type "str")
 | flt (x : UInt64) : TyOf K H (.flt x) (.type "float")
 | lst {a : Addr} {xs : List V} (e : H a = some (.lst xs)) : TyOf K H (.ref a) (.type "list")
 | frz {a : Addr} {o : Obj} {xs : List V} (e : H a = some (.frz o (.lst xs))) : TyOf K H (.ref a) (.type "list")
 | tup {a : Addr} {xs : List V} (e : H a = some (.tup xs)) : TyOf K H (.ref a) (.type "tuple")
 | dK {a : Addr} {kvs : List (Key × V)} (e : H a = some (.dK kvs)) : TyOf K H (.ref a) (.type "dict")
 | dT {a : Addr} {kvs : List (List Key × V)} (e : H a = some (.dT kvs)) : TyOf K H (.ref a) (.type "dict")
 | ins {a C dx : Addr} {fs : List (Str × V)} (e : H a = some (.ins C dx fs)) (cl : Cls K C) (ha : PySem.W.findIn K (.ref C) "__class__" = some (some (.builtin "object.__class__")))
   (hn : PySem.W.specialIn K (.builtin "object.__class__") "__get__" = some (some (.builtin "getset_descriptor.__get__"))) (htk : PySem.W.takesIn K (.builtin "object.__class__") = some true)
   (hm : PySem.W.mroIn K C (.type "object") = some true) : TyOf K H (.ref a) (.ref C)
end
end L2
namespace L2
open PySem PySem.Spec PyProof.Rows
structure Room (k : Nat) (A : Around) : Prop where
 hd : A.handled = none
 dp : A.depth + 3 * k + 5 < recursionLimit
 un : A.units + 16 * k + 200 < cLine
theorem Room.mono {j k : Nat} {A : Around} (r : Room k A) (h : j <= k) : Room j A := ⟨r.hd, by have := r.dp; omega, by have := r.un; omega⟩
theorem Room.deeper {k : Nat} {A : Around} (r : Room (k + 1) A) (env : Env) : Room k (A.deeper env) :=
 ⟨r.hd, by have := r.dp; show A.depth + 1 + 3 * k + 5 < _; omega, by have := r.un; show A.units + 3 + 16 * k + 200 < _; omega⟩
theorem Room.in1 {k : Nat} {A : Around} (r : Room (k + 1) A) : Room k A.in1 :=
 ⟨r.hd, by have := r.dp; show A.depth + 3 * k + 5 < _; omega, by have := r.un; show A.units + 1 + 16 * k + 200 < _; omega⟩
theorem make_depth {A : Around} {C : Addr} {us : List Value} {kw : List (Str × Value)} : (A.under (.builtin "type.__call__" ⟨.ref C :: us, kw⟩)).depth = A.depth + 1 := by
 first | rfl | simp [Around.under, Code.weight, Code.isCreation, Code.isGuard, Code.isCaller, Code.frames, Code.isFrame, guardIds]
theorem make_units {A : Around} {C : Addr} {us : List Value} {kw : List (Str × Value)} : (A.under (.builtin "type.__call__" ⟨.ref C :: us, kw⟩)).units = A.units + 1 := by
 first | rfl | simp [Around.under, Code.cUnits, Code.frames, Code.isFrame]
theorem Room.make {k : Nat} {A : Around} (r : Room (k + 1) A) (C : Addr) (us : List Value) (kw : List (Str × Value)) : Room k (A.under (.builtin "type.__call__" ⟨.ref C :: us, kw⟩)) :=
 ⟨r.hd, by have := r.dp; rw [make_depth]; omega, by have := r.un; rw [make_units]; omega⟩
theorem Room.depth {k : Nat} {A : Around} (r : Room k A) : A.depth < recursionLimit := by have := r.dp; omega
theorem Room.units {k : Nat} {A : Around} (r : Room k A) : A.units + 64 < cLine := by have := r.un; omega
def tNil : TA := fun _ H Q => Q [] H
def tCons (ta : TE) (tr : TA) : TA := fun σ H Q => ta σ H fun x H1 => tr σ H1 fun xs H2 => Q (x :: xs) H2
section
variable {X : Cx} {e : Expr} {es : List Expr} {te : TE} {t : TA} {pos : Pos}
theorem pa_nil : PA X [] tNil := fun _ _ _ _ H Q I h => Calls.spliced_nil ⟨[], H, I, .nil, h⟩
theorem pa_cons (ha : PE X e te) (hr : PA X es t) (hs : starEach (e :: es) X.env = (false, eval e X.env) :: starEach es X.env := by rfl) : PA X (e :: es) (tCons te t) := by
 intro pos pins s σ H Q I h
 rw [hs]
 show wpAny _ _ (spliced ((false, eval e X.env) :: backTo pos (starEach es X.env))) _ _ s
 refine Calls.spliced_cons (thn (ha pins s σ H _ I h) fun u s1 ⟨x, H1, I1, r1, q1⟩ => ?_)
 exact thn (hr pos pins s1 σ H1 _ I1 q1) fun us s2 ⟨xs, H2, I2, r2, q2⟩ => ⟨x :: xs, H2, I2, .cons r1 r2, q2⟩
def tTup (t : TA) : TE := fun σ H Q => t σ H fun xs H1 => xs.length <= sizeLine /\ ∀ p, H1 p = none -> Q (.ref p) (upd H1 p (.tup xs))
def tLst (t : TA) : TE := fun σ H Q => t σ H fun xs H1 => xs.length <= sizeLine /\ ∀ p, H1 p = none -> Q (.ref p) (upd H1 p (.lst xs))
theorem pe_tup {x1} (h : PA X es t) : PE X (.Tuple es x1 pos) (tTup t) := by
 intro pins s σ H Q I hq
 refine wpAny_Tuple_spliced (thn (h pos pins s σ H _ I hq) fun us s1 ⟨xs, H1, I1, r, z, q⟩ => ⟨by rw [<- r.length]; exact z, ?_⟩)
 have hf : H1 s1.heap.objs.size = none := I1.hok.fresh (Nat.le_refl _)
 refine ⟨.ref s1.heap.objs.size, upd H1 s1.heap.objs.size (.tup xs), I1.laid (t' := s1.toks) (fun b u e => Heap.get?_push_of_some _ e) (Nat.le_refl _) ?_, rfl, q _ hf⟩
 exact ⟨z, us, r, ⟨_, Heap.get?_push_size _ rfl, rfl, _, rfl⟩⟩
theorem pe_lst (h : PA X es t) : PE X (.List es pos) (tLst t) := by
 intro pins s σ H Q I hq
 refine wpAny_List_spliced (thn (h pos pins s σ H _ I hq) fun us s1 ⟨xs, H1, I1, r, z, q⟩ => ⟨by rw [<- r.length]; exact z, ?_⟩)
 have hf : H1 s1.heap.objs.size = none := I1.hok.fresh (Nat.le_refl _)
 refine ⟨.ref s1.heap.objs.size, upd H1 s1.heap.objs.size (.lst xs), I1.laid (t' := s1.toks) (fun b u e => Heap.get?_push_of_some _ e) (Nat.le_refl _) ?_, rfl, q _ hf⟩
 exact ⟨z, us, 0, r, Heap.get?_push_size _ rfl⟩
end
abbrev Sp := List V -> Hp -> VK -> XK -> Prop
abbrev CXT := List Env -> Hp -> Shared -> XK -> Value -> Shared -> Prop
structure Env0 (P : Program) (w : World) (K : PySem.W.Frag) (mg : Str -> Option Value) (base : Heap) (A : Around) (outer : List Env) (s : Shared) (H : Hp) : Prop where
 frames : A.frames = some outer
 mod : Mod K mg base
 bs : ∀ b o, base.get? b = some o -> s.heap.get? b = some o /\ H b = none
 bsz : base.objs.size <= s.heap.objs.size
 funs : s.heap.FunFrames base outer
 frf : ∀ b ∈ frs outer, H b = none
 hok : HOk P w H s.heap
 bare : AllBare s.gens
def CE (outer : List Env) (P : Program) (w : World) (H : Hp) (s : Shared) (Q : VK) (u : Value) (s' : Shared) : Prop :=
 ∃ v H', s'.os = s.os /\ AllBare s'.gens /\ Un (frs outer) [] H H' s.heap s'.heap /\ HOk P w H' s'.heap /\ RelV v u /\ Q v H'
def CR (CX : CXT) (outer : List Env) (P : Program) (w : World) (H : Hp) (s : Shared) (Q : VK) (E : XK) (r : Result) (s' : Shared) : Prop :=
 match r with
 | .ok (.ret u) => CE outer P w H s Q u s'
 | .ok _ => False
 | .error e => CX outer H s E e s'
structure FnOk (P : Program) (w : World) (K : PySem.W.Frag) (mg : Str -> Option Value) (base : Heap) (CX : CXT) (k : Nat) (f : Addr) (fd : FuncData) (ps : List Str) (sp : Sp) : Prop where
 len : ∀ vs H Q E, sp vs H Q E -> vs.length = ps.length
 run : ∀ (A : Around) (outer : List Env) (s : Shared) (H : Hp) (args : Args) (us : List Value) (vs : List V) (Q : VK) (E : XK), Room k A -> Env0 P w K mg base A outer s H -> BindsTo s fd args (ps.zip us) -> Vals vs us -> sp vs H Q E ->
  codeAny (model P w) A (.call (.ref f) args) (CR CX outer P w H s Q E) s
theorem FnOk.mono {P : Program} {w : World} {K : PySem.W.Frag} {mg : Str -> Option Value} {base : Heap} {CX : CXT} {j k : Nat} {f : Addr} {fd : FuncData} {ps : List Str} {sp : Sp} (F : FnOk P w K mg base CX j f fd ps sp) (h : j <= k) :
  FnOk P w K mg base CX k f fd ps sp := ⟨F.len, fun A outer s H args us vs Q E hr => F.run A outer s H args us vs Q E (hr.mono h)⟩
theorem FnOk.imp {P : Program} {w : World} {K : PySem.W.Frag} {mg : Str -> Option Value} {base : Heap} {CX : CXT} {k : Nat} {f : Addr} {fd : FuncData} {ps : List Str} {sp sp' : Sp} (F : FnOk P w K mg base CX k f fd ps sp)
  (h : ∀ vs H Q E, sp' vs H Q E -> sp vs H Q E) : FnOk P w K mg base CX k f fd ps sp' :=
 ⟨fun vs H Q E q => F.len vs H Q E (h _ _ _ _ q), fun A outer s H args us vs Q E hr he hb hv hs => F.run A outer s H args us vs Q E hr he hb hv (h _ _ _ _ hs)⟩
theorem Env0.make {P : Program} {w : World} {K : PySem.W.Frag} {mg : Str -> Option Value} {base : Heap} {A : Around} {outer : List Env} {s : Shared} {H : Hp} (e : Env0 P w K mg base A outer s H) (C : Addr) (us : List Value) (kw : List (Str × Value)) :
  Env0 P w K mg base (A.under (.builtin "type.__call__" ⟨.ref C :: us, kw⟩)) outer s H := ⟨by first | exact e.frames | (simpa [Around.under, Code.envs, Code.isFrame, pushEnvs] using e.frames), e.mod, e.bs, e.bsz, e.funs, e.frf, e.hok, e.bare⟩
theorem Env0.in1 {P : Program} {w : World} {K : PySem.W.Frag} {mg : Str -> Option Value} {base : Heap} {A : Around} {outer : List Env} {s : Shared} {H : Hp} (e : Env0 P w K mg base A outer s H) :
  Env0 P w K mg base A.in1 outer s H := ⟨e.frames, e.mod, e.bs, e.bsz, e.funs, e.frf, e.hok, e.bare⟩
section
variable {X : Cx} {pins : List (Addr × Obj)} {σ : St} {H : Hp} {s s' : Shared}
theorem Inv.env0 (I : Inv X pins σ H s) : Env0 X.prog X.w X.K X.mg X.base X.A X.stack s H :=
 ⟨I.ok.frames, I.ok.mod, I.bs, Nat.le_trans I.ok.bsz I.sz, I.stack, I.stkFree, I.hok, I.bare⟩
theorem Inv.after {Q : VK} {u : Value} (I : Inv X pins σ H s) (h : CE X.stack X.prog X.w H s Q u s') : EP X pins σ Q u s' := by
 obtain ⟨v, H', os, bare, un, hok, r, q⟩ := h
 obtain ⟨hh, g, d, t, os'⟩ := s'
 obtain rfl : os' = s.os := os
 exact ⟨v, H', I.call (h' := hh) (g' := g) (d' := d) (t' := t) (ch := []) un hok bare (fun b z => absurd z (by simp)), r, q⟩
end
def tCall (sp : Sp) (dvs : List V) (E : XK) (t : TA) : TE := fun σ H Q => t σ H fun vs H1 => sp (vs ++ dvs) H1 Q E
def tMeth (C : Addr) (m : Str) (sp : Sp) (dvs : List V) (E : XK) (ta : TE) (t : TA) : TE := fun σ H Q => ta σ H fun x H1 => ∃ a dx fs, x = .ref a /\ H1 a = some (.ins C dx fs) /\ fs.lookup m = none /\
 t σ H1 fun vs H2 => sp (x :: (vs ++ dvs)) H2 Q E
def tMake (C : Addr) (sp : Sp) (dvs : List V) (E : XK) (t : TA) : TE := fun σ H Q => t σ H fun vs H1 => ∀ x dx, H1 x = none -> H1 dx = none -> dx ≠ x ->
 sp (.ref x :: (vs ++ dvs)) (upd (upd H1 dx (.own x)) x (.ins C dx [])) (fun v H2 => v = .non /\ Q (.ref x) H2) E
def Binds (K : PySem.W.Frag) (fd : FuncData) (ps : List Str) (ds : List Value) : Prop :=
 ∀ (s : Shared) (us : List Value), K.In s.heap -> (us ++ ds).length = ps.length -> BindsTo s fd ⟨us, []⟩ (ps.zip (us ++ ds))
theorem Binds.all {K : PySem.W.Frag} {fd : FuncData} {ps : List Str} (h : ∀ us : List Value, us.length = ps.length -> bindArgs fd ⟨us, []⟩ = pure (ps.zip us)) : Binds K fd ps [] := fun s us _ hl => by
 rw [List.append_nil] at hl ⊢
 exact .of_eq (h us hl)
def Passes (CX : CXT) (X : Cx) (E : XK) : Prop := ∀ (pins : List (Addr × Obj)) (σ : St) (H : Hp) (s : Shared) (e : Value) (s' : Shared), Inv X pins σ H s -> CX X.stack H s E e s' -> X.xe e s'
section
variable {X : Cx} {CX : CXT} {k : Nat} {f C : Addr} {fd : FuncData} {ps : List Str} {sp : Sp} {dvs : List V} {ds : List Value} {E : XK} {x m : Str} {p pos apos : Pos} {e o : Expr} {es : List Expr} {ta : TE} {t : TA}
theorem run_fn {pins : List (Addr × Obj)} {σ : St} {H : Hp} {s : Shared} {Q : VK} {us : List Value} {vs : List V} (F : FnOk X.prog X.w X.K X.mg X.base CX k f fd ps sp) (hr : Room k X.A) (hb : Binds X.K fd ps ds) (hd : Vals dvs ds) (hx : Passes CX X E)
  (I : Inv X pins σ H s) (r : Vals vs us) (h : sp (vs ++ dvs) H Q E) : wpAny (model X.prog X.w) X.A (call (.ref f) us) (EP X pins σ Q) X.xe s := by
 have r2 : Vals (vs ++ dvs) (us ++ ds) := r.append hd
 have hl : (us ++ ds).length = ps.length := by rw [<- r2.length]; exact F.len _ _ _ _ h
 refine wpAny_call (codeAny_mono (F.run X.A X.stack s H ⟨us, []⟩ (us ++ ds) (vs ++ dvs) Q E hr I.env0 (hb s us I.kIn hl) r2 h) fun r s' hq => ?_)
 cases r with
 | error e => exact hx pins σ H s e s' I hq
 | ok fl =>
  cases fl with
  | ret u => exact I.after hq
  | next => exact False.elim hq
  | brk => exact False.elim hq
  | cont => exact False.elim hq
theorem pe_call (F : FnOk X.prog X.w X.K X.mg X.base CX k f fd ps sp) (hr : Room k X.A) (hg : Gl X x) (hm : X.mg x = some (.ref f)) (hk : PySem.W.keepIn X.K (.ref f) = true) (hb : Binds X.K fd ps ds) (hd : Vals dvs ds) (hx : Passes CX X E)
  (ha : PA X (e :: es) t) (hdb : (x == ("__debug__" : Str)) = false := by decide) (he : starEach (e :: es) X.env = (false, eval e X.env) :: starEach es X.env := by rfl) (hpl : (backTo pos (starEach es X.env)).any (·.1) = false := by rfl) :
  PE X (.Call (.Name x p) (e :: es) [] pos) (tCall sp dvs E t) := by
 intro pins s σ H Q I h
 refine wpAny_Call_Name_kw (ld_glob I hg hm ?_ hdb)
 refine PySem.W.callWith_K (h₀ := X.base) I.ok.mod.kin hk (thn (ha pos pins s σ H _ I h) fun us s1 ⟨vs, H1, I1, r, q⟩ => ⟨I1.kIn, ?_⟩) he hpl
 exact run_fn F hr hb hd hx I1 r q
theorem pe_meth {pl : Sem Bool} (he : PE X o ta) (c : Cls X.K C) (hm : Meth X.K C m f) (F : FnOk X.prog X.w X.K X.mg X.base CX k f fd ps sp) (hr : Room k X.A) (hb : Binds X.K fd ps ds) (hd : Vals dvs ds) (hx : Passes CX X E) (ha : PA X (e :: es) t)
  (hst : starEach (e :: es) X.env = (false, eval e X.env) :: starEach es X.env := by rfl) (hpl : (backTo pos (starEach es X.env)).any (·.1) = false := by rfl)
  (ht : eval (.Call (.Attribute o m apos) (e :: es) [] pos) X.env = (do
   let ov <- eval o X.env
   standAt apos.atName
   let (f, first) <- holding [ov] (getMethod ov m pl)
   callWith pos f first (backTo pos (starEach (e :: es) X.env)) (backToKw pos (keywordEach [] X.env))) := by rfl) :
  PE X (.Call (.Attribute o m apos) (e :: es) [] pos) (tMeth C m sp dvs E ta t) := by
 intro pins s σ H Q I h
 refine PySem.W.methodCall_KW (pl := pl) (thn (he pins s σ H _ I h) fun u s1 ⟨x, H1, I1, rx, a, dx, fs, ex, ea, l, q⟩ => ?_) ht
 subst ex
 obtain rfl : u = Value.ref a := rx
 refine getmeth_ok I1 ea c hm l ?_
 refine PySem.W.callWith_K (first := [.ref a]) (h₀ := X.base) I.ok.mod.kin hm.kp (thn (ha pos pins s1 σ H1 _ I1 q) fun us s2 ⟨vs, H2, I2, r, q2⟩ => ⟨I2.kIn, ?_⟩) hst hpl
 exact run_fn (us := .ref a :: us) (vs := .ref a :: vs) F hr hb hd hx I2 (.cons rfl r) q2
theorem pe_meth0 {pl : Sem Bool} (he : PE X o ta) (c : Cls X.K C) (hm : Meth X.K C m f) (F : FnOk X.prog X.w X.K X.mg X.base CX k f fd ps sp) (hr : Room k X.A) (hb : Binds X.K fd ps ds) (hd : Vals dvs ds) (hx : Passes CX X E)
  (ht : eval (.Call (.Attribute o m apos) [] [] pos) X.env = (do
   let ov <- eval o X.env
   standAt apos.atName
   let (f, first) <- holding [ov] (getMethod ov m pl)
   callWith pos f first (backTo pos (starEach [] X.env)) (backToKw pos (keywordEach [] X.env))) := by rfl) :
  PE X (.Call (.Attribute o m apos) [] [] pos) (tMeth C m sp dvs E ta tNil) := by
 intro pins s σ H Q I h
 refine PySem.W.methodCall_KW (pl := pl) (thn (he pins s σ H _ I h) fun u s1 ⟨x, H1, I1, rx, a, dx, fs, ex, ea, l, q⟩ => ?_) ht
 subst ex
 obtain rfl : u = Value.ref a := rx
 refine getmeth_ok I1 ea c hm l ?_
 exact PySem.W.callWith_K0 (first := [.ref a]) I1.kIn hm.kp (run_fn (us := [.ref a]) (vs := [.ref a]) F hr hb hd hx I1 (.cons rfl .nil) q)
structure Mk (K : PySem.W.Frag) (C f : Addr) : Prop where
 makes : PySem.W.makesIn K C = true
 init : PySem.W.findIn K (.ref C) "__init__" = some (some (.ref f))
 fn : PySem.W.isFn K (.ref f) = true
 kp : PySem.W.keepIn K (.ref C) = true
theorem run_make {pins : List (Addr × Obj)} {σ : St} {H : Hp} {s : Shared} {Q : VK} {us : List Value} {vs : List V} (M : Mk X.K C f) (F : FnOk X.prog X.w X.K X.mg X.base CX k f fd ps sp) (hr : Room (k + 1) X.A) (hb : Binds X.K fd ps ds) (hd : Vals dvs ds)
  (hx : Passes CX X E) (I : Inv X pins σ H s) (r : Vals vs us)
  (h : ∀ x dx, H x = none -> H dx = none -> dx ≠ x -> sp (.ref x :: (vs ++ dvs)) (upd (upd H dx (.own x)) x (.ins C dx [])) (fun v H2 => v = .non /\ Q (.ref x) H2) E) :
  wpAny (model X.prog X.w) X.A (call (.ref C) us) (EP X pins σ Q) X.xe s := by
 have hq := h (s.heap.objs.size + 1) s.heap.objs.size (I.hok.fresh (Nat.le_succ _)) (I.hok.fresh (Nat.le_refl _)) (Nat.ne_of_lt (Nat.lt_succ_self _))
 have I2 := Inv.made (C := C) I
 have r2 : Vals (V.ref (s.heap.objs.size + 1) :: (vs ++ dvs)) (Value.ref (s.heap.objs.size + 1) :: (us ++ ds)) := .cons rfl (r.append hd)
 have hl : (Value.ref (s.heap.objs.size + 1) :: us ++ ds).length = ps.length := by
  have e := r2.length
  rw [F.len _ _ _ _ hq] at e
  exact e.symm
 refine wpAny_call (make_map (f := f) I.kIn M.makes M.init (beq_iff_eq.mp M.fn) (codeAny_mono (F.run _ X.stack _ _ ⟨Value.ref (s.heap.objs.size + 1) :: us, []⟩ (Value.ref (s.heap.objs.size + 1) :: (us ++ ds)) _ _ E (hr.make C us [])
  (I2.env0.make C us []) (hb _ (Value.ref (s.heap.objs.size + 1) :: us) I2.kIn hl) r2 hq) fun r s' hq' => ?_))
 cases r with
 | error e => exact hx pins σ _ _ e s' I2 hq'
 | ok fl =>
  cases fl with
  | ret u =>
   obtain ⟨v, H', I3, rv, ev, q3⟩ := I2.after hq'
   subst ev
   exact ⟨rv, ⟨V.ref (s.heap.objs.size + 1), H', I3, rfl, q3⟩⟩
  | next => exact False.elim hq'
  | brk => exact False.elim hq'
  | cont => exact False.elim hq'
theorem pe_make0 (M : Mk X.K C f) (F : FnOk X.prog X.w X.K X.mg X.base CX k f fd ps sp) (hr : Room (k + 1) X.A) (hg : Gl X x) (hm : X.mg x = some (.ref C)) (hb : Binds X.K fd ps ds) (hd : Vals dvs ds) (hx : Passes CX X E)
  (hdb : (x == ("__debug__" : Str)) = false := by decide) : PE X (.Call (.Name x p) [] [] pos) (tMake C sp dvs E tNil) := by
 intro pins s σ H Q I h
 refine wpAny_Call_Name_kw (ld_glob I hg hm ?_ hdb)
 exact PySem.W.callWith_K0 I.kIn M.kp (run_make (us := []) M F hr hb hd hx I .nil h)
end
def PK (X : Cx) (kws : List Keyword) (t : TA) : Prop :=
 ∀ (pos : Pos) (pins : List (Addr × Obj)) (s : Shared) (σ : St) (H : Hp) (Q : List V -> Hp -> Prop), Inv X pins σ H s -> t σ H Q -> wpAny (model X.prog X.w) X.A (evalAll ((backToKw pos (keywordEach kws X.env)).map (·.2))) (AP X pins σ Q) X.xe s
section
variable {X : Cx} {CX : CXT} {k : Nat} {f C : Addr} {fd : FuncData} {ps ks : List Str} {sp : Sp} {E : XK} {x m : Str} {p pos apos kpos : Pos} {e o : Expr} {es : List Expr} {kws : List Keyword} {te ta : TE} {t tk : TA} {nm : Option Str}
theorem pk_nil : PK X [] tNil := fun _ _ _ _ H Q I h => wpAny_evalAll_nil ⟨[], H, I, .nil, h⟩
theorem pk_cons (ha : PE X e te) (hr : PK X kws t) : PK X (⟨nm, e, kpos⟩ :: kws) (tCons te t) := by
 intro pos pins s σ H Q I h
 show wpAny _ _ (evalAll ((do let v <- eval e X.env; standAt pos; pure v) :: (backToKw pos (keywordEach kws X.env)).map (·.2))) _ _ s
 refine wpAny_evalAll_cons (wpAny_bind (thn (ha pins s σ H _ I h) fun u s1 ⟨x, H1, I1, r1, q1⟩ => wpAny_bind (wpAny_standAt (wpAny_pure ?_))))
 exact thn (hr pos pins s1 σ H1 _ I1 q1) fun us s2 ⟨xs, H2, I2, r2, q2⟩ => ⟨x :: xs, H2, I2, .cons r1 r2, q2⟩
structure KBinds (K : PySem.W.Frag) (fd : FuncData) (ps ks : List Str) (g : List Value -> List Value -> List Value) (gV : List V -> List V -> List V) : Prop where
 to : ∀ (s : Shared) (us ws : List Value), K.In s.heap -> (g us ws).length = ps.length -> BindsTo s fd ⟨us, ks.zip ws⟩ (ps.zip (g us ws))
 rel : ∀ {vs : List V} {us : List Value} {zs : List V} {ws : List Value}, Vals vs us -> Vals zs ws -> Vals (gV vs zs) (g us ws)
variable {g : List Value -> List Value -> List Value} {gV : List V -> List V -> List V}
end
structure FnScope (N P : List Str) (sc : Scope) : Prop where
 kind : sc.kind = .function
 co : sc.isCoroutine = false
 gen : sc.isGenerator = false
 nd : N.Nodup
 pre : N.take P.length = P
 par : ∀ x ∈ P, sc.names.lookup x = some .local ∨ sc.names.lookup x = some .cell
 nofree : ∀ y ∈ sc.names, y.2 ≠ .free
theorem bindL_out {kindOf : Str -> Option NameKind} {x : Str} : ∀ {binds : List (Str × Value)} {m : Str -> Option Value}, (∀ v, (x, v) ∉ binds) -> bindL kindOf binds m x = m x
 | [], _, _ => rfl
 | (n, v) :: r, m, h => by
  unfold bindL
  rw [bindL_out fun w hw => h w (List.mem_cons_of_mem _ hw)]
  split
  ·have : x ≠ n := by rintro rfl; exact h v List.mem_cons_self
   simp [this]
  ·rfl
theorem bindC_out {kindOf : Str -> Option NameKind} {x : Str} : ∀ {binds : List (Str × Value)} {m : Str -> Option Value}, (∀ v, (x, v) ∉ binds) -> bindC kindOf binds m x = m x
 | [], _, _ => rfl
 | (n, v) :: r, m, h => by
  unfold bindC
  rw [bindC_out fun w hw => h w (List.mem_cons_of_mem _ hw)]
  split
  ·rfl
  ·have : x ≠ n := by rintro rfl; exact h v List.mem_cons_self
   simp [this]
theorem bindL_get {kindOf : Str -> Option NameKind} {x : Str} {v : Value} : ∀ {P : List Str} {vs : List Value} {i : Nat} {m : Str -> Option Value}, P.Nodup -> P[i]? = some x -> vs[i]? = some v -> kindOf x = some .local ->
  bindL kindOf (P.zip vs) m x = some v
 | [], _, _, _, _, h, _, _ => by simp at h
 | _ :: _, [], _, _, _, _, h, _ => by simp at h
 | p :: P, w :: vs, 0, m, nd, h1, h2, hk => by
  simp at h1 h2; subst h1; subst h2
  show bindL kindOf ((p, w) :: P.zip vs) m p = _
  unfold bindL
  rw [bindL_out fun v hv => (List.nodup_cons.mp nd).1 (List.of_mem_zip hv).1, if_pos hk]
  simp
 | p :: P, w :: vs, i + 1, m, nd, h1, h2, hk => by
  show bindL kindOf ((p, w) :: P.zip vs) m x = _
  unfold bindL
  exact bindL_get (i := i) (List.nodup_cons.mp nd).2 (by simpa using h1) (by simpa using h2) hk
theorem bindC_get {kindOf : Str -> Option NameKind} {x : Str} {v : Value} : ∀ {P : List Str} {vs : List Value} {i : Nat} {m : Str -> Option Value}, P.Nodup -> P[i]? = some x -> vs[i]? = some v -> kindOf x ≠ some .local ->
  bindC kindOf (P.zip vs) m x = some v
 | [], _, _, _, _, h, _, _ => by simp at h
 | _ :: _, [], _, _, _, _, h, _ => by simp at h
 | p :: P, w :: vs, 0, m, nd, h1, h2, hk => by
  simp at h1 h2; subst h1; subst h2
  show bindC kindOf ((p, w) :: P.zip vs) m p = _
  unfold bindC
  rw [bindC_out fun v hv => (List.nodup_cons.mp nd).1 (List.of_mem_zip hv).1, if_neg hk]
  simp
 | p :: P, w :: vs, i + 1, m, nd, h1, h2, hk => by
  show bindC kindOf ((p, w) :: P.zip vs) m x = _
  unfold bindC
  exact bindC_get (i := i) (List.nodup_cons.mp nd).2 (by simpa using h1) (by simpa using h2) hk
def start (N : List Str) (vs : List V) : St := vs.map some ++ List.replicate (N.length - vs.length) none
def cxOf (CX : CXT) (P : Program) (w : World) (K : PySem.W.Frag) (mg : Str -> Option Value) (base : Heap) (N : List Str) (qual : Str) (scope : Scope) (f : Addr) (cd : Value) (A : Around) (outer : List Env) (s : Shared) (H : Hp) (E : XK) : Cx where
 prog := P
 w := w
 K := K
 mg := mg
 base := base
 A := A.deeper (envOfC qual scope s.heap.objs.size f cd)
 N := N
 s_0 := s
 H_0 := H
 env := envOfC qual scope s.heap.objs.size f cd
 outer := outer
 stack := envOfC qual scope s.heap.objs.size f cd :: outer
 ex := []
 calm := true
 fn := fun _ => true
 pn := []
 xe := fun e s' => wpAny (model P w) (A.deeper (envOfC qual scope s.heap.objs.size f cd)) («leaving» (envOfC qual scope s.heap.objs.size f cd) e) (fun _ s'' => CX outer H s E e s'') (fun e' s'' => CX outer H s E e' s'') s'
theorem cell_has {sc : Scope} {n : Nat} {x : Str} (h : sc.names.lookup x = some .cell) : ∃ c, (cellsFrom n sc.names []).lookup x = some c := by
 have q := PySem.W.cellsFrom_some sc.names n [] (.inl h)
 exact Option.isSome_iff_exists.mp q
theorem inv_start {CX : CXT} {P : Program} {w : World} {K : PySem.W.Frag} {mg : Str -> Option Value} {base : Heap} {N ps : List Str} {qual : Str} {scope : Scope} {f : Addr} {cd : Value} {A : Around} {outer : List Env} {s s1 : Shared} {H : Hp} {E : XK} {us : List Value} {vs : List V}
  (S : FnScope N ps scope) (hd : A.handled = none) (e0 : Env0 P w K mg base A outer s H) (hl : vs.length = ps.length) (r : Vals vs us)
  (x : InCallC s s.heap.objs.size (bindL (envOfC qual scope s.heap.objs.size f cd).kindOf (ps.zip us) fun _ => none) (cellsFrom (s.heap.objs.size + 1) scope.names []) (bindC (envOfC qual scope s.heap.objs.size f cd).kindOf (ps.zip us) fun _ => none) s1) :
  Inv (cxOf CX P w K mg base N qual scope f cd A outer s H E) [] (start N vs) H s1 := by
 have hpl : ps.length <= N.length := by have := congrArg List.length S.pre; rw [List.length_take] at this; omega
 obtain ⟨h1, tk, rfl, hk⟩ := x.done
 have noA : ∀ b : Addr, b ∉ (cxOf CX P w K mg base N qual scope f cd A outer s H E).ex := fun b z => absurd (show b ∈ ([] : List Addr) from z) (by simp)
 refine ⟨⟨e0.mod, S.kind, rfl, rfl, Nat.le_refl _, fun y z c h1 h2 => ?_, fun y hy => ?_, fun y c _ h => ?_, fun _ => hd, Around.frames_deeper e0.frames, .inr ⟨rfl, rfl⟩, fun b z => absurd z (noA b), e0.bs, e0.bsz, fun b _ _ => noA b, fun b z => absurd z (noA b), e0.funs, e0.frf⟩,
  rfl, e0.bare, Un.kept hk, ⟨_, x.toInCall.ns, fun i y v h1 h2 h3 => ?_⟩, fun y c h => ⟨_, x.cell y c h⟩, e0.hok.fresh (Nat.le_refl _), fun y c h => ?_, fun p hp => absurd (show p ∈ ([] : List (Addr × Obj)) from hp) (by simp), e0.hok.kept hk, ?_⟩
 ·exact name_of_addr x.apart (PySem.mem_of_lookup h1) (PySem.mem_of_lookup h2)
 ·have hy : scope.names.lookup y = some .cell ∨ scope.names.lookup y = some .free := hy
  rcases hy with hy | hy
  ·exact cell_has hy
  ·exact absurd rfl (S.nofree _ (PySem.mem_of_lookup hy))
 ·exact Nat.le_of_lt (x.above y c (PySem.mem_of_lookup h))
 ·have hi : i < vs.length := by
   unfold start at h2
   by_cases hi : i < vs.length
   ·exact hi
   ·rw [List.getElem?_append_right (by simpa using hi)] at h2
    rw [List.getElem?_replicate] at h2
    split at h2 <;> cases h2
  have ha : vs[i]? = some v := by
   unfold start at h2
   rw [List.getElem?_append_left (by simpa using hi), List.getElem?_map] at h2
   cases e : vs[i]? with
   | none => rw [e] at h2; cases h2
   | some a => rw [e] at h2; cases h2; rfl
  obtain ⟨u, hu, rv⟩ := r.get ha
  have hp : ps[i]? = some y := by
   rw [<- S.pre, List.getElem?_take_of_lt (by omega)]; exact h1
  have ndP : ps.Nodup := by rw [<- S.pre]; exact S.nd.sublist (List.take_sublist _ _)
  refine ⟨u, rv, ?_⟩
  rcases S.par y (List.mem_of_getElem? hp) with k | k
  ·exact .inl ⟨k, bindL_get ndP hp hu k⟩
  ·obtain ⟨c, e⟩ := cell_has (n := s.heap.objs.size + 1) k
   refine .inr ⟨.inl k, c, e, ?_⟩
   have q := x.cell y c e
   rw [bindC_get ndP hp hu (by show scope.names.lookup y ≠ _; rw [k]; decide)] at q
   exact q
 ·exact e0.hok.fresh (Nat.le_of_lt (x.above y c (PySem.mem_of_lookup h)))
 ·unfold start
  show _ = N.length
  rw [List.length_append, List.length_map, List.length_replicate]
  omega
theorem fn_of {CX : CXT} {P : Program} {w : World} {K : PySem.W.Frag} {mg : Str -> Option Value} {base : Heap} {k : Nat} {f : Addr} {name qual : Str} {params : Arguments} {body : List Stmt} {scope : Scope} {dV kV doc pm cdv ct oc : Value} {an od : Option Addr}
  {osl : Array (Option Value)} {N ps : List Str} {sp : Sp} (lk : K.lookup f = some ⟨oc, od, .func (PySem.W.fnOf name qual params body scope dV kV doc pm an cdv ct), osl⟩) (hcd : PySem.W.codeIn K cdv qual = true) (S : FnScope N ps scope)
  (len : ∀ vs H Q E, sp vs H Q E -> vs.length = ps.length)
  (hbody : ∀ (A : Around) (outer : List Env) (s : Shared) (H : Hp) (vs : List V) (Q : VK) (E : XK), Room k (A.deeper (envOfC qual scope s.heap.objs.size f cdv)) -> sp vs H Q E ->
   ∃ t, PSs (cxOf CX P w K mg base N qual scope f cdv A outer s H E) body t /\ t { nx := fun _ H' => Q .non H', rt := Q } (start N vs) H) :
  FnOk P w K mg base CX (k + 1) f (PySem.W.fnOf name qual params body scope dV kV doc pm an cdv ct) ps sp := by
 refine ⟨len, fun A outer s H args us vs Q E hr e0 hb r hsp => ?_⟩
 have hl := len _ _ _ _ hsp
 have KX : K.In s.heap := e0.mod.kin.keeps fun b o e => (e0.bs b o e).1
 have lim : s.heap.NoLimit := e0.mod.nolimit.keeps fun b o e => (e0.bs b o e).1
 have hkind : ∀ y ∈ ps.zip us, scope.names.lookup y.1 = some .local ∨ (scope.names.lookup y.1 = some .cell /\ ((cellsFrom (s.heap.objs.size + 1) scope.names []).lookup y.1).isSome = true) := fun ⟨n, v⟩ hy => by
  rcases S.par n (List.of_mem_zip hy).1 with q | q
  ·exact .inl q
  ·exact .inr ⟨q, PySem.W.cellsFrom_some _ _ _ (.inl q)⟩
 refine codeAny_call_function hr.depth (KX _ _ lk) rfl S.co S.gen rfl (PySem.W.codeRec_of KX hcd) (hb _ _ _ _ ?_)
 refine wpAny_newFunctionEnv_cells S.kind hkind fun env he s1 x => ?_
 subst he
 refine ⟨lim.keeps x.toInCall.keep, codeAny_func ?_⟩
 obtain ⟨t, ht, hq⟩ := hbody A outer s H vs Q E (hr.deeper _) hsp
 have I : Inv (cxOf CX P w K mg base N qual scope f cdv A outer s H E) [] (start N vs) H s1 := inv_start S hr.hd e0 hl r x
 refine wpAny_mono (ht [] s1 (start N vs) H _ I hq) (fun fl s' hs => ?_) fun e s' hs => hs
 have fin : ∀ {σ' : St} {H' : Hp} {v : V} {u : Value}, Inv (cxOf CX P w K mg base N qual scope f cdv A outer s H E) [] σ' H' s' -> RelV v u -> Q v H' -> CE outer P w H s Q u s' :=
  fun {σ' H' v u} J rv q => ⟨v, H', J.os, J.bare, J.base, J.hok, rv, q⟩
 cases fl with
 | ret u =>
  obtain ⟨v, σ', H', J, rv, q⟩ := hs
  exact fin J rv q
 | next =>
  obtain ⟨σ', H', J, q⟩ := hs
  exact fin (v := V.non) (u := Value.none) J rfl q
 | brk =>
  obtain ⟨_, _, _, q⟩ := hs
  exact False.elim q
 | cont =>
  obtain ⟨_, _, _, q⟩ := hs
  exact False.elim q
end L2
namespace L2
open PySem PySem.Spec PyProof.Rows
section
variable {X : Cx} {x : Str} {p pos : Pos} {e : Expr} {es : List Expr} {t : TA} {id T : String} {r : List V -> Hp -> VK -> Prop}
def tCB (r : List V -> Hp -> VK -> Prop) (t : TA) : TE := fun σ H Q => t σ H fun vs H1 => r vs H1 Q
theorem pe_callB (hc : CallR X (.builtin id) r) (hg : Gl X x) (hm : X.mg x = none) (hv : bootBuiltins x = some (.builtin id)) (ha : PA X (e :: es) t) (hn : x ≠ "__name__" := by decide) (hdb : (x == ("__debug__" : Str)) = false := by decide)
  (he : starEach (e :: es) X.env = (false, eval e X.env) :: starEach es X.env := by rfl) (hpl : (backTo pos (starEach es X.env)).any (·.1) = false := by rfl) : PE X (.Call (.Name x p) (e :: es) [] pos) (tCB r t) := by
 intro pins s σ H Q I h
 refine wpAny_Call_Name_kw (ld_blt I hg hm hv ?_ hn hdb)
 exact PyProof.Rows.callWith_builtin1 (thn (ha pos pins s σ H _ I h) fun us s1 ⟨vs, H1, I1, r1, q1⟩ => hc pins s1 σ H1 vs us Q I1 r1 q1) he hpl
theorem pe_callTy (hc : CallR X (.type T) r) (hg : Gl X x) (hm : X.mg x = none) (hv : bootBuiltins x = some (.type T)) (ha : PA X (e :: es) t) (hn : x ≠ "__name__" := by decide) (hdb : (x == ("__debug__" : Str)) = false := by decide)
  (he : starEach (e :: es) X.env = (false, eval e X.env) :: starEach es X.env := by rfl) (hpl : (backTo pos (starEach es X.env)).any (·.1) = false := by rfl) : PE X (.Call (.Name x p) (e :: es) [] pos) (tCB r t) := by
 intro pins s σ H Q I h
 refine wpAny_Call_Name_kw (ld_blt I hg hm hv ?_ hn hdb)
 exact PyProof.Rows.callWith_type1 (thn (ha pos pins s σ H _ I h) fun us s1 ⟨vs, H1, I1, r1, q1⟩ => hc pins s1 σ H1 vs us Q I1 r1 q1) he hpl
end
end L2
namespace HT
open PySem PyProof.Rows
section
open PySem.SeqAt
open PySem.AutoSeq1 (wpAny_loadPart')
open PySem.MeetsSeq PySem.MeetsSeq2 PySem.MeetsSeq3
end
section
variable {prog : Program} {w : World} {A : Around} {E : Value -> Shared -> Prop} {s : Shared}
def sIx (n d : Nat) : Option Int -> Nat
 | none => d
 | some v => if v < 0 then (v + (n : Int)).toNat else min v.toNat n
theorem sIx_none (n d : Nat) : sIx n d none = d := rfl
theorem sIx_nat (n d k : Nat) : sIx n d (some (k : Int)) = min k n := by
 show (if (k : Int) < 0 then ((k : Int) + (n : Int)).toNat else min (k : Int).toNat n) = min k n
 rw [if_neg (by omega), Int.toNat_natCast]
end
end HT
namespace L2
open PySem PySem.Spec PyProof.Rows
abbrev TO := St -> Hp -> (Option Int -> Hp -> Prop) -> Prop
def PO (X : Cx) (e : Option Expr) (t : TO) : Prop :=
 ∀ (pins : List (Addr × Obj)) (s : Shared) (σ : St) (H : Hp) (Q : Option Int -> Hp -> Prop), Inv X pins σ H s -> t σ H Q ->
  wpAny (model X.prog X.w) X.A (evalPart e X.env) (fun u s' => ∃ o H', Inv X pins σ H' s' /\ IsPart u o /\ Q o H') X.xe s
def tNoPart : TO := fun _ H Q => Q none H
def tPart (t : TE) : TO := fun σ H Q => t σ H fun x H1 => ∃ i, x = .int i /\ Q (some i) H1
section
variable {X : Cx} {e : Expr} {te : TE} {lo hi : Option Expr} {tl th : TO} {pos p2 : Pos}
theorem po_none : PO X none tNoPart := by
 intro pins s σ H Q I h
 rw [evalPart_none]
 exact wpAny_pure ⟨none, H, I, .none, h⟩
theorem po_some (h : PE X e te) : PO X (some e) (tPart te) := by
 intro pins s σ H Q I hw
 rw [evalPart_some]
 refine thn (h pins s σ H _ I hw) fun u s1 ⟨x, H1, I1, r1, q1⟩ => ?_
 obtain ⟨i, rfl, q⟩ := q1
 obtain ⟨t, rfl⟩ := r1
 exact ⟨some i, H1, I1, .int i t, q⟩
def SlR (X : Cx) (r : V -> Option Int -> Option Int -> Hp -> VK -> Prop) : Prop :=
 ∀ (pins : List (Addr × Obj)) (s : Shared) (σ : St) (H : Hp) (x : V) (v vl vu : Value) (lo hi : Option Int) (sl : Addr) (Q : VK), Inv X pins σ H s -> RelV x v -> s.heap.IsSliceOf sl vl vu .none -> IsPart vl lo -> IsPart vu hi -> r x lo hi H Q ->
  ∃ T id, typeLookup (.type T) "__getitem__" = pure (some (.builtin id)) /\ s.TypeIs v T /\ wpAny (model X.prog X.w) X.A (getItem v (.ref sl)) (EP X pins σ Q) X.xe s
def tSl (r : V -> Option Int -> Option Int -> Hp -> VK -> Prop) (te : TE) (tl th : TO) : TE := fun σ H Q => te σ H fun x H1 => tl σ H1 fun l H2 => th σ H2 fun u H3 => r x l u H3 Q
theorem pe_slice {r : V -> Option Int -> Option Int -> Hp -> VK -> Prop} (hr : SlR X r) (he : PE X e te) (hl : PO X lo tl) (hu : PO X hi th) : PE X (.Subscript e (.Slice lo hi none p2) pos) (tSl r te tl th) := by
 intro pins s σ H Q I h
 refine Subscript_ (thn (he pins s σ H _ I h) fun v s1 ⟨x, H1, I1, r1, q1⟩ => ?_)
 refine wpAny_Slice (thn (hl pins s1 σ H1 _ I1 q1) fun vl s2 ⟨l, H2, I2, pl, q2⟩ => thn (hu pins s2 σ H2 _ I2 q2) fun vu s3 ⟨u, H3, I3, pu, q3⟩ => ?_)
 rw [evalPart_none]
 refine wpAny_pure ?_
 have I4 : Inv X pins σ H3 { s3 with heap := s3.heap.push { cls := .type "slice", data := .fields #[vl, vu, .none] } } := I3.kept (t' := s3.toks) fun b ob q => Heap.get?_push_of_some _ q
 obtain ⟨T, id, hT, ht, hg⟩ := hr pins { s3 with heap := s3.heap.push { cls := .type "slice", data := .fields #[vl, vu, .none] } } σ H3 x v vl vu l u s3.heap.objs.size Q I4 r1 (Heap.IsSliceOf.new ..) pl pu q3
 show wpAny (model X.prog X.w) X.A (subscriptTail e (.Slice lo hi none p2) v (.ref s3.heap.objs.size)) (EP X pins σ Q) X.xe { s3 with heap := s3.heap.push { cls := .type "slice", data := .fields #[vl, vu, .none] } }
 exact tail_any (ops := [.ref s3.heap.objs.size, v]) ht hT hg (by with_unfolding_all rfl)
def cutV (xs : List V) (lo hi : Option Int) : List V := (xs.drop (HT.sIx xs.length 0 lo)).take (HT.sIx xs.length xs.length hi - HT.sIx xs.length 0 lo)
theorem cutV_length (xs : List V) (lo hi : Option Int) : (cutV xs lo hi).length <= xs.length := by
 unfold cutV
 rw [List.length_take, List.length_drop]
 omega
end
end L2
namespace L2
open PySem PySem.Spec PyProof.Rows
def ixN (n : Nat) (i : Int) : Option Nat := if 0 <= i then (if i < n then some i.toNat else none) else if -(n : Int) <= i then some (i + n).toNat else none
def atI {α : Type} (xs : List α) (i : Int) : Option α := (ixN xs.length i).bind fun j => xs[j]?
theorem ixN_seq {n : Nat} {i : Int} {j : Nat} (h : ixN n i = some j) : seqIndex? i n = some j /\ j < n /\ -(n : Int) <= i /\ i < n := by
 unfold ixN at h
 by_cases h0 : 0 <= i
 ·rw [if_pos h0] at h
  by_cases h1 : i < n
  ·rw [if_pos h1] at h
   have e : i.toNat = j := Option.some.inj h
   exact ⟨by rw [seqIndex_of h0 h1, e], by omega, by omega, h1⟩
  ·rw [if_neg h1] at h; cases h
 ·rw [if_neg h0] at h
  by_cases h1 : -(n : Int) <= i
  ·rw [if_pos h1] at h
   have e : (i + n).toNat = j := Option.some.inj h
   exact ⟨by rw [seqIndex_neg (by omega) h1, e], by omega, h1, by omega⟩
  ·rw [if_neg h1] at h; cases h
theorem atI_get {α : Type} {xs : List α} {i : Int} {v : α} (h : atI xs i = some v) : ∃ j, seqIndex? i xs.length = some j /\ xs[j]? = some v /\ j < xs.length /\ -(xs.length : Int) <= i /\ i < xs.length := by
 unfold atI at h
 cases e : ixN xs.length i with
 | none => rw [e] at h; cases h
 | some j =>
  rw [e] at h
  obtain ⟨h1, h2, h3, h4⟩ := ixN_seq e
  exact ⟨j, h1, h, h2, h3, h4⟩
theorem atI_nat {α : Type} {xs : List α} {j : Nat} {v : α} (h : xs[j]? = some v) : atI xs (j : Int) = some v := by
 have hj : j < xs.length := (List.getElem?_eq_some_iff.mp h).1
 have e : ixN xs.length (j : Int) = some j := by
  unfold ixN
  rw [if_pos (by omega), if_pos (by omega)]; simp
 unfold atI; rw [e]; exact h
def PlainIx (b : Expr) : Prop := ∀ o i, subscripted b false o i = operate [o, i] (getItem o i)
def IxR (X : Cx) (r : R2) : Prop :=
 ∀ (value slice : Expr) (pins : List (Addr × Obj)) (s : Shared) (σ : St) (H : Hp) (x y : V) (v u : Value) (Q : VK), Inv X pins σ H s -> RelV x v -> RelV y u -> r x y H Q ->
  subscripted slice false v u = operate [v, u] (getItem v u) -> wpAny (model X.prog X.w) X.A (subscriptTail value slice v u) (EP X pins σ Q) X.xe s
def MtR (X : Cx) (id : String) (r : V -> List V -> Hp -> VK -> Prop) : Prop :=
 ∀ (pins : List (Addr × Obj)) (s : Shared) (σ : St) (H : Hp) (x : V) (xs : List V) (v : Value) (us : List Value) (Q : VK), Inv X pins σ H s -> RelV x v -> Vals xs us -> r x xs H Q ->
  wpAny (model X.prog X.w) X.A (call (.builtin id) (v :: us)) (EP X pins σ Q) X.xe s
section
variable {X : Cx} {a b : Expr} {ta tb : TE} {pos : Pos}
theorem pe_ix {r : R2} (hr : IxR X r) (ha : PE X a ta) (hb : PE X b tb) (hs : PlainIx b) : PE X (.Subscript a b pos) (tOp r ta tb) := by
 intro pins s σ H Q I h
 exact Subscript_ (binT ha hb I h fun v u s2 x y H2 I2 rx ry q => hr a b pins s2 σ H2 x y v u Q I2 rx ry q (hs _ _))
def rIxL (K : PySem.W.Frag) : R2 := fun x y H Q => ∃ p xs i v, x = .ref p /\ y = .int i /\ SqL K H p xs /\ atI xs i = some v /\ Q v H
def rIxT (K : PySem.W.Frag) : R2 := fun x y H Q => ∃ p xs i v, x = .ref p /\ y = .int i /\ SqT K H p xs /\ atI xs i = some v /\ Q v H
theorem ix_list : IxR X (rIxL X.K) := by
 intro value slice pins s σ H x y v u Q I rx ry h hs
 obtain ⟨p, xs, i, z, rfl, rfl, hq, he, q⟩ := h
 cases rx
 obtain ⟨t, rfl⟩ := ry
 obtain ⟨its, r, pl, hz⟩ := I.list hq
 obtain ⟨j, h1, h2, h3, h4, h5⟩ := atI_get he
 obtain ⟨w, ew, rw'⟩ := r.get h2
 have hl := r.length
 have hn := line63
 have fin : EP X pins σ Q w s := ⟨z, H, I, rw', q⟩
 by_cases h0 : 0 <= i
 ·have hj : i.toNat = j := by
   rw [seqIndex_of h0 h5] at h1
   exact Option.some.inj h1
  exact item_listR pl.isList h0 (by omega) (by rw [hj]; simpa using ew) fin hs
 ·have hj : (i + (its.toArray.size : Int)).toNat = j := by
   rw [seqIndex_neg (by omega) h4] at h1
   rw [List.size_toArray, <- hl]
   exact Option.some.inj h1
  exact subscriptTail_builtinR (x := w) pl.isList.typeIs slot_list_getitem.lookup
   (wpAny_getItem_list_neg (Q := fun r s' => r = w /\ EP X pins σ Q r s') pl.isList (by omega) (by rw [List.size_toArray] <;> omega) (by omega) (by rw [hj]; simpa using ew) ⟨rfl, fin⟩) hs
theorem ix_tup : IxR X (rIxT X.K) := by
 intro value slice pins s σ H x y v u Q I rx ry h hs
 obtain ⟨p, xs, i, z, rfl, rfl, hq, he, q⟩ := h
 cases rx
 obtain ⟨t, rfl⟩ := ry
 obtain ⟨its, r, pl, hz⟩ := I.tuple hq
 obtain ⟨j, h1, h2, h3, h4, h5⟩ := atI_get he
 obtain ⟨w, ew, rw'⟩ := r.get h2
 have hl := r.length
 have hn := line63
 have fin : EP X pins σ Q w s := ⟨z, H, I, rw', q⟩
 exact subscriptTail_builtinR (x := w) pl.typeIs slot_tuple_getitem.lookup
  (getItem_tuple (j := j) (Q := fun r s' => r = w /\ EP X pins σ Q r s') pl (by omega) (by omega) (by rw [List.size_toArray, <- hl]; exact h1) (by simpa using ew) ⟨rfl, fin⟩) hs
theorem mapSeq_set (its : List Value) (n j : Nat) (u : Value) : Obj.mapSeq (·.setIfInBounds j u) { cls := .type "list", data := .seq its.toArray n } = { cls := .type "list", data := .seq (its.set j u).toArray n } := by
 simp [Obj.mapSeq]
theorem Inv.lst {pins : List (Addr × Obj)} {σ : St} {H : Hp} {s : Shared} {p : Addr} {xs : List V} (I : Inv X pins σ H s) (h : H p = some (.lst xs)) :
  ∃ (its : List Value) (n : Nat), Vals xs its /\ s.heap.get? p = some { cls := .type "list", data := .seq its.toArray n } /\ xs.length <= sizeLine := by
 obtain ⟨z, its, n, r, e⟩ := I.hok p _ h
 exact ⟨its, n, r, e, z⟩
theorem Inv.lstUpd {pins : List (Addr × Obj)} {σ : St} {H : Hp} {s : Shared} {p : Addr} {xs ys : List V} {its its' : List Value} {n n' : Nat} {f : Obj -> Obj} (I : Inv X pins σ H s) (h : H p = some (.lst xs))
  (ho : s.heap.get? p = some { cls := .type "list", data := .seq its.toArray n }) (hf : f { cls := .type "list", data := .seq its.toArray n } = { cls := .type "list", data := .seq its'.toArray n' }) (r : Vals ys its') (hz : ys.length <= sizeLine) (t : Nat) :
  Inv X pins σ (upd H p (.lst ys)) { s with heap := s.heap.update p f, toks := t } := by
 have e : (s.heap.update p f).get? p = some { cls := .type "list", data := .seq its'.toArray n' } := by
  rw [Heap.get?_update_self f ho (by rw [hf] <;> rfl), hf]
 refine I.write (x := p) (e := p) (by rw [h]; trivial) (.inl rfl) (fun b u hb q => (Heap.get?_update_other _ _ (Ne.symm hb)).trans q) ⟨_, e⟩ ?_
 exact ⟨hz, its', n', r, e⟩
def rSetL : V -> V -> V -> Hp -> (Hp -> Prop) -> Prop := fun o i v H Q => ∃ p xs k j, o = .ref p /\ i = .int k /\ H p = some (.lst xs) /\ ixN xs.length k = some j /\ Q (upd H p (.lst (xs.set j v)))
theorem set_list : PSet X rSetL := by
 intro pins s σ H o i v ov iv u Q I ro ri rv h
 obtain ⟨p, xs, k, j, rfl, rfl, hp, hj, q⟩ := h
 cases ro
 obtain ⟨t, rfl⟩ := ri
 obtain ⟨its, n, r, ho, hz⟩ := I.lst hp
 obtain ⟨h1, h2, h3, h4⟩ := ixN_seq hj
 have hl := r.length
 have hn := line63
 have I' : Inv X pins σ (upd H p (.lst (xs.set j v))) { s with heap := s.heap.update p (Obj.mapSeq (·.setIfInBounds j u)) } :=
  I.lstUpd hp ho (mapSeq_set its n j u) (r.set rv j) (by rw [List.length_set]; exact hz) s.toks
 by_cases h0 : 0 <= k
 ·have hk : k.toNat = j := by
   rw [seqIndex_of h0 h4] at h1
   exact Option.some.inj h1
  exact PySem.W.ki_setAt ho h0 (by omega) (by rw [List.size_toArray, <- hl]; exact h4) (by rw [hk]; exact ⟨_, I', q⟩)
 ·have hk : (k + (its.toArray.size : Int)).toNat = j := by
   rw [seqIndex_neg (by omega) h3] at h1
   rw [List.size_toArray, <- hl]
   exact Option.some.inj h1
  exact PySem.W.ki_setBack ho (by omega) (by rw [List.size_toArray, <- hl]; exact h3) (by omega) (by rw [hk]; exact ⟨_, I', q⟩)
theorem slice_bounds (lo hi : Option Int) (n : Nat) : (sliceBounds lo hi none n).1 = ((HT.sIx n 0 lo : Nat) : Int) /\ (sliceBounds lo hi none n).2.1 = ((HT.sIx n n hi : Nat) : Int) /\ (sliceBounds lo hi none n).2.2 = 1 := by
 refine ⟨?_, ?_, rfl⟩
 ·cases lo with
  | none => simp [sliceBounds, HT.sIx]
  | some i =>
   simp only [sliceBounds, HT.sIx, Option.getD_none, show (1 : Int) > 0 by decide, if_true]
   by_cases h : i < 0
   ·simp only [h, if_true] <;> omega
   ·simp only [h, if_false] <;> omega
 ·cases hi with
  | none => simp [sliceBounds, HT.sIx]
  | some i =>
   simp only [sliceBounds, HT.sIx, Option.getD_none, show (1 : Int) > 0 by decide, if_true]
   by_cases h : i < 0
   ·simp only [h, if_true] <;> omega
   ·simp only [h, if_false] <;> omega
theorem slicePick_cut (its : List Value) (lo hi : Option Int) : slicePick its.toArray lo hi none = ((its.drop (HT.sIx its.length 0 lo)).take (HT.sIx its.length its.length hi - HT.sIx its.length 0 lo)).toArray := by
 obtain ⟨h1, h2, h3⟩ := slice_bounds lo hi its.toArray.size
 unfold slicePick
 rw [h1, h2, h3]
 simp only [sliceRange_one, pick_run, List.size_toArray] <;> rfl
def rSlL (K : PySem.W.Frag) : V -> Option Int -> Option Int -> Hp -> VK -> Prop := fun x lo hi H Q => ∃ a xs, x = .ref a /\ SqL K H a xs /\ ∀ p, H p = none -> Q (.ref p) (upd H p (.lst (cutV xs lo hi)))
theorem sl_list : SlR X (rSlL X.K) := by
 intro pins s σ H x v vl vu lo hi sl Q I rx hs pl pu h
 obtain ⟨a, xs, rfl, hx, q⟩ := h
 cases rx
 obtain ⟨its, r, ht, hz⟩ := I.list hx
 have hlen := r.length
 refine ⟨"list", _, slot_list_getitem.lookup, ht.isList.typeIs, ?_⟩
 refine wpAny_getItem_list_slice ht.isList hs pl pu .none (by simp) ?_ (by rw [List.size_toArray] <;> omega)
 rw [slicePick_cut, <- hlen]
 refine ⟨.ref s.heap.objs.size, _, I.laid (t' := s.toks) (o := .lst (cutV xs lo hi)) (fun b ob q => Heap.get?_push_of_some _ q) (Nat.le_refl _) ?_, rfl, q _ (I.hok.fresh (Nat.le_refl _))⟩
 exact ⟨Nat.le_trans (cutV_length xs lo hi) hz, _, 0, (r.drop (HT.sIx xs.length 0 lo)).take (HT.sIx xs.length xs.length hi - HT.sIx xs.length 0 lo), Heap.get?_push_size _ rfl⟩
def flatV : V -> Bool
 | .non => true
 | .bl _ => true
 | .int _ => true
 | .str _ => true
 | _ => false
def eqV : V -> V -> Bool
 | .non, .non => true
 | .bl a, .bl b => a == b
 | .bl a, .int b => (if a then 1 else 0) == b
 | .int a, .bl b => a == (if b then 1 else 0)
 | .int a, .int b => a == b
 | .str a, .str b => a == b
 | _, _ => false
theorem eqAt_V {A : Around} {s : Shared} {y x : V} {u v : Value} (ry : RelV y u) (rx : RelV x v) (fy : flatV y = true) (fx : flatV x = true) : SeqAt.EqAt A s u v (eqV y x) := by
 cases y with
 | non =>
  cases ry
  cases x with
  | non => cases rx; exact SeqAt.EqAt.same _
  | bl b => cases rx; exact SeqAt.EqAt.none_bool b
  | int b => obtain ⟨t, rfl⟩ := rx; exact SeqAt.EqAt.none_int b t
  | str b => obtain ⟨t, rfl⟩ := rx; exact SeqAt.EqAt.none_str b t
  | _ => exact absurd (show false = true from fx) Bool.false_ne_true
 | bl a =>
  cases ry
  cases x with
  | non => cases rx; exact SeqAt.EqAt.bool_none a
  | bl b => cases rx; exact SeqAt.EqAt.bool_bool a b
  | int b => obtain ⟨t, rfl⟩ := rx; exact SeqAt.EqAt.bool_int a b t
  | str b => obtain ⟨t, rfl⟩ := rx; exact SeqAt.EqAt.bool_str a b t
  | _ => exact absurd (show false = true from fx) Bool.false_ne_true
 | int a =>
  obtain ⟨t', rfl⟩ := ry
  cases x with
  | non => cases rx; exact SeqAt.EqAt.int_none a t'
  | bl b => cases rx; exact SeqAt.EqAt.int_bool a t' b
  | int b => obtain ⟨t, rfl⟩ := rx; exact SeqAt.EqAt.int_int a t' b t
  | str b => obtain ⟨t, rfl⟩ := rx; exact SeqAt.EqAt.int_str a t' b t
  | _ => exact absurd (show false = true from fx) Bool.false_ne_true
 | str a =>
  obtain ⟨t', rfl⟩ := ry
  cases x with
  | non => cases rx; exact SeqAt.EqAt.str_none a t'
  | bl b => cases rx; exact SeqAt.EqAt.str_bool a t' b
  | int b => obtain ⟨t, rfl⟩ := rx; exact SeqAt.EqAt.str_int a t' b t
  | str b => obtain ⟨t, rfl⟩ := rx; exact SeqAt.EqAt.str_str a t' b t
  | _ => exact absurd (show false = true from fx) Bool.false_ne_true
 | _ => exact absurd (show false = true from fy) Bool.false_ne_true
def eqU (x : V) (u : Value) : Bool := match u with
 | .none => eqV .non x
 | .bool b => eqV (.bl b) x
 | .int i _ => eqV (.int i) x
 | .str z _ => eqV (.str z) x
 | _ => false
theorem eqU_of {x y : V} {u : Value} (r : RelV y u) (f : flatV y = true) : eqU x u = eqV y x := by
 cases y with
 | non => cases r; rfl
 | bl b => cases r; rfl
 | int i => obtain ⟨t, rfl⟩ := r; rfl
 | str z => obtain ⟨t, rfl⟩ := r; rfl
 | _ => exact absurd (show false = true from f) Bool.false_ne_true
theorem any_eqU {x : V} : ∀ {xs : List V} {us : List Value}, Vals xs us -> xs.all flatV = true -> us.any (eqU x) = xs.any fun y => eqV y x
 | _, _, .nil, _ => rfl
 | y :: xs, u :: us, .cons r t, f => by
  rw [List.all_cons, Bool.and_eq_true] at f
  rw [List.any_cons, List.any_cons, eqU_of r f.1, any_eqU t f.2]
theorem mem_eqAt {A : Around} {s : Shared} {x : V} {v : Value} (rx : RelV x v) (fx : flatV x = true) : ∀ {xs : List V} {us : List Value}, Vals xs us -> xs.all flatV = true -> ∀ u ∈ us, SeqAt.EqAt A s u v (eqU x u)
 | _, _, .nil, _ => fun u hu => by cases hu
 | y :: xs, u :: us, .cons r t, f => fun u' hu => by
  rw [List.all_cons, Bool.and_eq_true] at f
  rcases List.mem_cons.mp hu with rfl | hu
  ·rw [eqU_of r f.1]; exact eqAt_V r rx f.1 fx
  ·exact mem_eqAt rx fx t f.2 u' hu
def inV (x : V) (xs : List V) : Bool := xs.any fun y => eqV y x
def rIn (K : PySem.W.Frag) (neg : Bool) : R2 := fun x y H Q => ∃ p xs, y = .ref p /\ (SqL K H p xs ∨ SqT K H p xs) /\ flatV x = true /\ xs.all flatV = true /\ Q (.bl (if neg then !inV x xs else inV x xs)) H
theorem op_notIn_seq : OpR X (compareOp .NotIn) (rIn X.K true) := by
 intro pins s σ H x y v u Q I rx ry h
 obtain ⟨p, xs, rfl, hq, fx, fs, q⟩ := h
 cases ry
 rcases hq with hq | hq
 ·obtain ⟨its, r, pl, hz⟩ := I.list hq
  refine SeqAt.notIn_listAt (eqU x) pl.isList (fun w hw => mem_eqAt rx fx r fs w (by simpa using hw)) ⟨.bl _, H, I, rfl, ?_⟩
  rw [show its.toArray.any (eqU x) = its.any (eqU x) by simp, any_eqU r fs]
  exact q
 ·obtain ⟨its, r, pl, hz⟩ := I.tuple hq
  refine SeqAt.notIn_tupleAt (eqU x) pl (fun w hw => mem_eqAt rx fx r fs w (by simpa using hw)) ⟨.bl _, H, I, rfl, ?_⟩
  rw [show its.toArray.any (eqU x) = its.any (eqU x) by simp, any_eqU r fs]
  exact q
theorem call_len_seq : CallR X (.builtin "len") (fun xs H Q => ∃ p ys, xs = [.ref p] /\ (SqL X.K H p ys ∨ SqT X.K H p ys) /\ Q (.int ys.length) H) := by
 intro pins s σ H xs us Q I r h
 obtain ⟨p, ys, rfl, hq, q⟩ := h
 obtain ⟨u, rfl, rx⟩ := vals1 r
 cases rx
 have hn := line63
 rcases hq with hq | hq
 ·obtain ⟨its, r', pl, hz⟩ := I.list hq
  have hlen := r'.length
  exact Calls.call_len_list pl.isList (by simp only [List.size_toArray] <;> omega) ⟨.int ys.length, H, I.tok _, ⟨s.toks + 1, by rw [List.size_toArray, hlen]⟩, q⟩
 ·obtain ⟨its, r', pl, hz⟩ := I.tuple hq
  have hlen := r'.length
  exact len_tuple pl (by simp only [List.size_toArray] <;> omega) ⟨.int ys.length, H, I.tok _, ⟨s.toks + 1, by rw [List.size_toArray, hlen]⟩, q⟩
theorem call_list_of : CallR X (.type "list") (fun xs H Q => ∃ p ys, xs = [.ref p] /\ (SqL X.K H p ys ∨ SqT X.K H p ys) /\ ∀ l, H l = none -> Q (.ref l) (upd H l (.lst ys))) := by
 intro pins s σ H xs us Q I r h
 obtain ⟨p, ys, rfl, hq, q⟩ := h
 obtain ⟨u, rfl, rx⟩ := vals1 r
 cases rx
 have fin : ∀ (its : List Value), Vals ys its -> ys.length <= sizeLine -> ∀ (h' : Heap) (c' : Nat), (∀ b o', s.heap.get? b = some o' -> h'.get? b = some o') ->
   h'.get? s.heap.objs.size = some { cls := .type "list", dict := none, data := .seq its.toArray c', slots := #[] } -> EP X pins σ Q (.ref s.heap.objs.size) { s with heap := h' } := fun its r' hz h' c' kp e =>
  ⟨.ref s.heap.objs.size, _, I.laid (t' := s.toks) kp (Nat.le_refl _) (show ObjOk X.prog X.w _ h' _ (.lst ys) from ⟨hz, its, c', r', e⟩), rfl, q _ (I.hok.fresh (Nat.le_refl _))⟩
 rcases hq with hq | hq
 ·obtain ⟨its, r', pl, hz⟩ := I.list hq
  have hlen := r'.length
  obtain ⟨o, ho, hc, n, hd⟩ := pl.isList
  exact call_list_seq p (.inl rfl) ho hc hd (fun h' c' kp e => fin its r' hz h' c' kp e) (by simp only [List.size_toArray] <;> omega)
 ·obtain ⟨its, r', pl, hz⟩ := I.tuple hq
  have hlen := r'.length
  obtain ⟨o, ho, hc, n, hd⟩ := pl
  exact call_list_seq p (.inr rfl) ho hc hd (fun h' c' kp e => fin its r' hz h' c' kp e) (by simp only [List.size_toArray] <;> omega)
def tyV (K : PySem.W.Frag) (T : String) (x : V) (H : Hp) : Prop := match x with
 | .str _ => T = "str"
 | .int _ => T = "int"
 | .ref p => (T = "list" /\ ∃ xs, SqL K H p xs) ∨ (T = "tuple" /\ ∃ o, K.lookup p = some o /\ o.cls = .type "tuple" /\ o.dict = none) ∨
   (T = "dict" /\ ((∃ kvs, H p = some (.dK kvs)) ∨ ∃ kvs, H p = some (.dT kvs))) ∨ (T = "set" /\ ∃ S n, H p = some (.set S n))
 | _ => False
theorem tyV_is {pins : List (Addr × Obj)} {σ : St} {H : Hp} {s : Shared} {T : String} {x : V} {v : Value} (I : Inv X pins σ H s) (r : RelV x v) (ty : tyV X.K T x H) :
  s.TypeIs v T /\ ∀ a, v = .ref a -> ∃ ob, s.heap.get? a = some ob /\ ob.dict = none := by
 cases x with
 | str z =>
  obtain ⟨t, rfl⟩ := r
  cases (show T = "str" from ty)
  exact ⟨typeIs_str s z t, fun _ e => nomatch e⟩
 | int i =>
  obtain ⟨t, rfl⟩ := r
  cases (show T = "int" from ty)
  exact ⟨typeIs_int s i t, fun _ e => nomatch e⟩
 | ref p =>
  cases r
  rcases ty with ⟨rfl, xs, hq⟩ | ⟨rfl, o, hk, hc, hd⟩ | ⟨rfl, hk⟩ | ⟨rfl, S, n, hk⟩
  ·obtain ⟨its, _, pl, _⟩ := I.list hq
   refine ⟨pl.isList.typeIs, fun a e => ?_⟩
   cases e
   obtain ⟨o, n, e, c, hd, _⟩ := pl
   exact ⟨o, e, hd⟩
  ·refine ⟨⟨o, I.kIn p o hk, hc⟩, fun a e => ?_⟩
   cases e
   exact ⟨o, I.kIn _ o hk, hd⟩
  ·have z : ∃ o, s.heap.get? p = some o /\ o.ExactDict := by
    rcases hk with ⟨kvs, hk⟩ | ⟨kvs, hk⟩
    ·obtain ⟨_, _, _, _, o, _, _, e, ex, _⟩ := I.hok p _ hk
     exact ⟨o, e, ex⟩
    ·obtain ⟨_, _, _, _, o, _, _, e, ex, _⟩ := I.hok p _ hk
     exact ⟨o, e, ex⟩
   obtain ⟨o, e, ex⟩ := z
   refine ⟨⟨o, e, ex.1⟩, fun a e2 => ?_⟩
   cases e2
   exact ⟨o, e, ex.2.1⟩
  ·obtain ⟨o, _, _, _, e, ex, _⟩ := I.hok p _ hk
   refine ⟨⟨o, e, ex.1⟩, fun a e2 => ?_⟩
   cases e2
   exact ⟨o, e, ex.2.1⟩
 | _ => exact False.elim ty
def tBM (K : PySem.W.Frag) (T : String) (r : V -> List V -> Hp -> VK -> Prop) (to : TE) (t : TA) : TE := fun σ H Q => to σ H fun x H1 => tyV K T x H1 /\ t σ H1 fun xs H2 => r x xs H2 Q
variable {o e : Expr} {es : List Expr} {to : TE} {t : TA} {name : Str} {apos cpos : Pos} {T id : String} {r : V -> List V -> Hp -> VK -> Prop}
theorem pe_bm (pa : PlainAttrs T) (slot : Slot T name id) (hty : typeOf (.builtin id) = pure (.type "method_descriptor")) (hm : MtR X id r) (ho : PE X o to) (ha : PA X (e :: es) t)
  (hbase : attributeBase o name X.env (eval o X.env) = eval o X.env := by rfl)
  (hfew : ((backTo cpos (starEach (e :: es) X.env)).all (fun x => !x.1) && (backToKw cpos (keywordEach [] X.env)).all (fun x => x.1.isSome)
   && decide ((e :: es).length + ([] : List Keyword).length + (if ([] : List Keyword).isEmpty then 0 else 1) < 30)) = true := by rfl)
  (hline : (apos.endLine == cpos.line) = true := by rfl) (hs : starEach (e :: es) X.env = (false, eval e X.env) :: starEach es X.env := by rfl) (hplain : (backTo cpos (starEach es X.env)).any (·.1) = false := by rfl) :
  PE X (.Call (.Attribute o name apos) (e :: es) [] cpos) (tBM X.K T r to t) := by
 intro pins s σ H Q I h
 refine wpAny_Call_method_late hbase hfew hline rfl (thn (ho pins s σ H _ I h) fun v s1 ⟨x, H1, I1, r1, ty, q1⟩ => ?_)
 obtain ⟨h1, h2⟩ := tyV_is I1 r1 ty
 refine ⟨T, id, pa, slot, hty, h1, h2, ?_⟩
 have hA := ha cpos pins s1 σ H1 _ I1 q1
 rw [hs] at hA ⊢
 refine Calls.callWith_builtin (by show (false || (backTo cpos (starEach es X.env)).any (·.1)) = false; rw [hplain] <;> rfl) (Calls.evalArgs_plain ?_)
 exact thn hA fun us s2 ⟨vs, H2, I2, r2, q2⟩ => hm pins s2 σ H2 x vs v us Q I2 r1 r2 q2
end
end L2
namespace L2
open PySem PySem.Spec PyProof.Rows
def MtM (X : Cx) (id : String) (r : V -> List V -> Hp -> VK -> Prop) : Prop :=
 ∀ (pins : List (Addr × Obj)) (s : Shared) (σ : St) (H : Hp) (x : V) (xs : List V) (v : Value) (us : List Value) (Q : VK), Inv X pins σ H s -> RelV x v -> Vals xs us -> r x xs H Q ->
  wpAny (model X.prog X.w) X.A (call (.builtin id) (v :: us)) (EP X pins σ Q) X.xe s
theorem Vals.one : ∀ {x : V} {us : List Value}, Vals [x] us -> ∃ u, us = [u] /\ RelV x u
 | _, _, .cons r .nil => ⟨_, rfl, r⟩
section
variable {X : Cx} {pins : List (Addr × Obj)} {σ : St} {H : Hp} {s : Shared} {l b : Addr} {xs ys zs : List V}
theorem Inv.lset {its its' : List Value} {n : Nat} {f : Array Value -> Array Value} {t' : Nat} (I : Inv X pins σ H s) (hH : H l = some (.lst xs))
  (e : s.heap.get? l = some { cls := .type "list", data := .seq its.toArray n }) (hf : f its.toArray = its'.toArray) (hv : Vals ys its') (hz : ys.length <= sizeLine) :
  Inv X pins σ (upd H l (.lst ys)) { s with heap := s.heap.update l (Obj.mapSeq f), toks := t' } := by
 have q := PySem.IsL.update e f
 rw [hf] at q
 refine I.write (x := l) (e := l) (by rw [hH]; exact trivial) (.inl rfl) (fun b' u hb hu => (Heap.get?_update_other s.heap (Obj.mapSeq f) (Ne.symm hb)).trans hu) ⟨_, q⟩ ?_
 exact ⟨hz, its', _, hv, q⟩
theorem Inv.lnew {its : List Value} {t' : Nat} (I : Inv X pins σ H s) (hv : Vals ys its) (hz : ys.length <= sizeLine) :
  Inv X pins σ (upd H s.heap.objs.size (.lst ys)) { s with heap := s.heap.push { cls := .type "list", data := .seq its.toArray }, toks := t' } :=
 I.laid (fun _ _ q => Heap.get?_push_of_some _ q) (Nat.le_refl _) ⟨hz, its, 0, hv, Heap.get?_push_size _ rfl⟩
theorem Inv.fresh (I : Inv X pins σ H s) : H s.heap.objs.size = none := I.hok.fresh (Nat.le_refl _)
theorem Inv.lstM (I : Inv X pins σ H s) (hH : H l = some (.lst xs)) : xs.length <= sizeLine /\ ∃ (its : List Value) (n : Nat), Vals xs its /\ xs.length = its.length /\ s.heap.get? l = some { cls := .type "list", data := .seq its.toArray n } := by
 obtain ⟨z, its, n, r, e⟩ := I.hok l _ hH
 exact ⟨z, its, n, r, r.length, e⟩
theorem notLongL {n : Nat} (h : n <= sizeLine) : Builtin.List.listTooLong n = false := by
 unfold Builtin.List.listTooLong
 exact decide_eq_false (by omega)
end
section
variable {X : Cx}
def rAppend : V -> List V -> Hp -> VK -> Prop := fun x vs H Q => ∃ l xs y, x = .ref l /\ vs = [y] /\ H l = some (.lst xs) /\ xs.length < sizeLine /\ Q .non (upd H l (.lst (xs ++ [y])))
theorem mt_append : MtM X "list.append" rAppend := by
 intro pins s σ H x vs v us Q I rx rv h
 obtain ⟨l, xs, y, rfl, rfl, hH, hz, q⟩ := h
 cases rx
 obtain ⟨u, rfl, ru⟩ := rv.one
 obtain ⟨z, its, n, r, hl, e⟩ := I.lstM hH
 refine call_meets F.slot_list_append ⟨_, e, rfl⟩ F.entry_list_append (F.args_list_append_2 _ _) (PySem.list_append l its.toArray n u (by rw [List.size_toArray]; omega)) ⟨e, ?_⟩
 refine ⟨.non, _, I.lset (its' := its ++ [u]) hH e (by simp) (r.append (.cons ru .nil)) ?_, rfl, q⟩
 rw [List.length_append, List.length_singleton]
 omega
def rExtend : V -> List V -> Hp -> VK -> Prop := fun x vs H Q => ∃ l b xs zs, x = .ref l /\ vs = [.ref b] /\ H l = some (.lst xs) /\ H b = some (.lst zs) /\ xs.length + zs.length <= sizeLine /\ Q .non (upd H l (.lst (xs ++ zs)))
theorem mt_extend : MtM X "list.extend" rExtend := by
 intro pins s σ H x vs v us Q I rx rv h
 obtain ⟨l, b, xs, zs, rfl, rfl, hH, hB, hz, q⟩ := h
 cases rx
 obtain ⟨u, rfl, ru⟩ := rv.one
 cases ru
 obtain ⟨z, its, n, r, hl, e⟩ := I.lstM hH
 obtain ⟨z2, its2, n2, r2, hl2, e2⟩ := I.lstM hB
 have hsz : its.toArray.size + its2.toArray.size <= sizeLine := by rw [List.size_toArray, List.size_toArray]; omega
 have hlong : ¬ (!its.toArray.isEmpty && Builtin.List.listTooLong (its.toArray.size + its2.toArray.size)) = true := by
  rw [notLongL hsz, Bool.and_false]
  exact Bool.false_ne_true
 refine call_meets F.slot_list_extend ⟨_, e, rfl⟩ F.entry_list_extend (F.args_list_extend_2 _ _)
  (AutoSeq1.list_extend_list_list_0 l its.toArray n b its2.toArray n2 hlong (by rw [List.size_toArray]; omega) (by omega)) ⟨e, e2, ?_⟩
 refine ⟨.non, _, I.lset (its' := its ++ its2) hH e (by simp) (r.append r2) ?_, rfl, q⟩
 rw [List.length_append]
 omega
def rCat : R2 := fun x y H Q => ∃ l b xs zs, x = .ref l /\ y = .ref b /\ H l = some (.lst xs) /\ H b = some (.lst zs) /\ xs.length + zs.length <= sizeLine /\ ∀ p, H p = none -> Q (.ref p) (upd H p (.lst (xs ++ zs)))
theorem op_cat : OpR X (binaryOp .Add) rCat := by
 intro pins s σ H x y v u Q I rx ry h
 obtain ⟨l, b, xs, zs, rfl, rfl, hH, hB, hz, q⟩ := h
 cases rx
 cases ry
 obtain ⟨z, its, n, r, hl, e⟩ := I.lstM hH
 obtain ⟨z2, its2, n2, r2, hl2, e2⟩ := I.lstM hB
 refine PySem.P.add_list e e2 ?_ (by rw [List.size_toArray, List.size_toArray]; omega)
 have ea : its.toArray ++ its2.toArray = (its ++ its2).toArray := by simp
 rw [ea]
 exact ⟨.ref _, _, I.lnew (t' := s.toks) (r.append r2) (by rw [List.length_append]; omega), rfl, q _ I.fresh⟩
end
section
variable {prog : Program} {w : World} {A : Around} {E : Value -> Shared -> Prop} {s : Shared}
set_option maxRecDepth 100000 in
end
section
variable {X : Cx}
end
end L2
namespace L2
open PySem PySem.Spec PyProof.Rows
theorem Vals.ints : ∀ {ns : List Int} {us : List Value}, Vals (ns.map V.int) us -> IntsAre us ns
 | [], us, h => by
  rw [List.map_nil] at h
  cases h
  exact IntsAre.nil
 | n :: ns, us, h => by
  rw [List.map_cons] at h
  cases h with
  | cons r t =>
   obtain ⟨k, rfl⟩ := r
   exact IntsAre.cons n k (Vals.ints t)
theorem vals_of_ints : ∀ {us : List Value} {ns : List Int}, IntsAre us ns -> Vals (ns.map V.int) us
 | _, _, .nil => by rw [List.map_nil]; exact Paired.nil
 | _, _, .cons n t h => by rw [List.map_cons]; exact Paired.cons (show RelV (V.int n) (Value.int n t) from ⟨t, rfl⟩) (vals_of_ints h)
theorem Vals.bls : ∀ {bs : List Bool} {us : List Value}, Vals (bs.map V.bl) us -> us = bs.map Value.bool
 | [], us, h => by
  rw [List.map_nil] at h
  cases h
  rfl
 | b :: bs, us, h => by
  rw [List.map_cons] at h
  cases h with
  | cons r t =>
   cases r
   rw [Vals.bls t, List.map_cons]
theorem Vals.ref1 {a : Addr} {us : List Value} (r : Vals [V.ref a] us) : us = [Value.ref a] := by
 cases r with
 | cons r t =>
  cases t
  cases r
  rfl
section
variable {prog : Program} {w : World} {A : Around} {E : Value -> Shared -> Prop} {s : Shared} {l : Addr} {its : List Value} {ns : List Int} {Q : Value -> Shared -> Prop}
theorem max_raw (hh : A.handled = none) (hl : s.heap.IsList l its.toArray) (hi : IntsAre its ns) (hne : 0 < ns.length)
  (h : ∀ h' tk M t', (∀ b o, s.heap.get? b = some o -> h'.get? b = some o) -> M ∈ ns -> (∀ a, a ∈ ns -> a <= M) -> Q (.int M t') { s with heap := h', toks := tk }) : wpAny (model prog w) A (call (.builtin "max") [.ref l]) Q E s := by
 obtain ⟨xs, e⟩ := hi.allInts.items
 have hn : numsOf (intItems xs).toList = ns := by rw [<- e]; exact hi.numsOf
 rw [nums_intItems] at hn
 subst hn
 rw [e] at hl
 have hsz : 0 < xs.size := by simpa using hne
 refine PySem.max_intList hh hl hsz fun v h' tk hv hk => ?_
 obtain ⟨t, rfl⟩ := intItems_at hv
 obtain ⟨h1, h2⟩ := argBest_gt (numAt xs) (xs.size - 1)
 refine h h' tk _ t hk ?_ fun a ha => ?_
 ·rw [numAt_eq]; exact PySem.getD_mem (by rw [List.length_map, Array.length_toList]; omega)
 ·obtain ⟨j, hj, rfl⟩ := mem_getD ha
  rw [List.length_map, Array.length_toList] at hj
  rw [<- numAt_eq]; exact h2 j (by omega)
end
section
variable {X : Cx}
def rMax (K : PySem.W.Frag) : List V -> Hp -> VK -> Prop := fun vs H Q => ∃ (a : Addr) (ns : List Int), vs = [V.ref a] /\ SqL K H a (ns.map V.int) /\ 0 < ns.length /\ ∀ m, m ∈ ns -> (∀ y, y ∈ ns -> y <= m) -> Q (.int m) H
theorem cr_max (hc : X.calm = true) : CallR X (.builtin "max") (rMax X.K) := by
 intro pins s σ H vs us Q I r h
 obtain ⟨a, ns, rfl, hs, hne, q⟩ := h
 obtain ⟨its, rv, hl, _⟩ := I.list hs
 rw [Vals.ref1 r]
 exact max_raw (I.ok.hd hc) hl.isList rv.ints hne fun h' tk m t' hk h1 h2 => ⟨.int _, H, I.kept hk, ⟨_, rfl⟩, q m h1 h2⟩
def rSorted (K : PySem.W.Frag) : List V -> Hp -> VK -> Prop := fun vs H Q => ∃ (a : Addr) (ns : List Int), vs = [V.ref a] /\ SqL K H a (ns.map V.int) /\ ns.length < 64 /\
 ∀ (ns' : List Int) (p : Addr), ns'.Perm ns -> ns'.Pairwise (· <= ·) -> H p = none -> Q (.ref p) (upd H p (.lst (ns'.map V.int)))
theorem small64 {n : Nat} (h : n < 64) : n <= sizeLine := by rw [sizeLine_eq]; omega
theorem cr_sorted : CallR X (.builtin "sorted") (rSorted X.K) := by
 intro pins s σ H vs us Q I r h
 obtain ⟨a, ns, rfl, hs, h64, q⟩ := h
 obtain ⟨its, rv, hl, _⟩ := I.list hs
 rw [Vals.ref1 r]
 have hi := rv.ints
 refine PyProof.Rows.sorted_ints hl.isList hi (by rw [hi.length]; exact h64) fun out ns' h1 h2 h3 => ?_
 obtain ⟨ep, he'⟩ := PyProof.Rows.sortedAll_at s.heap its out
 have hlen : (ns'.map V.int).length <= sizeLine := by rw [List.length_map, h2.length_eq]; exact small64 h64
 exact ⟨.ref _, upd H (s.heap.objs.size + 1) (.lst (ns'.map V.int)), I.laid (t' := s.toks) (fun _ _ => PyProof.Rows.sortedAll_old) (Nat.le_succ _) ⟨hlen, out.toList, ep, vals_of_ints h1, he'⟩, rfl, q ns' _ h2 h3 (I.hok.fresh (Nat.le_succ _))⟩
end
section
variable {X : Cx}
end
section
variable {X : Cx}
end
theorem iter_any {prog : Program} {w : World} {A : Around} {E : Value -> Shared -> Prop} {s : Shared} {l : Addr} {items : Array Value} {Q : Value -> Shared -> Prop} (hl : s.heap.IsList l items)
  (h : ∀ s₂ : Shared, s₂ = { s with heap := s.heap.push { cls := .type "list_iterator", data := .fields #[.ref l, .int 0 0] } } ->
   (s₂.heap.IsListIter s.heap.objs.size l 0 /\ s₂.heap.IsList l items) -> l ≠ s.heap.objs.size -> Q (.ref s.heap.objs.size) s₂) : wpAny (model prog w) A (pyIter (.ref l)) Q E s := by
 have hlt : l < s.heap.objs.size := by obtain ⟨_, e, _⟩ := hl; exact Heap.lt_size e
 exact wpAny_pyIter_list hl (h _ rfl ⟨⟨_, Heap.get?_push_size _ rfl, rfl, rfl⟩, hl.push _⟩ (Nat.ne_of_lt hlt))
theorem truth_bools {prog : Program} {w : World} {A : Around} {bs : List Bool} {its : List Value} (e : its = bs.map Value.bool) :
  TruthOf prog w A (fun i v => its.toArray[i]? = some v) (fun i => bs.getD i false) := fun i v s Q E hv hq => by
 have hv' : its[i]? = some v := by simpa using hv
 rw [e, List.getElem?_map] at hv'
 obtain ⟨b, hb, rfl⟩ := Option.map_eq_some_iff.mp hv'
 have hg : bs.getD i false = b := by rw [List.getD_eq_getElem?_getD, hb] <;> rfl
 have hq' : Q (bs.getD i false) s := hq
 rw [hg] at hq'
 exact wpAny_truthy_bool hq'
theorem any_range : ∀ bs : List Bool, (List.range bs.length).any (fun i => bs.getD i false) = bs.any id
 | [] => rfl
 | b :: bs => by
  rw [List.length_cons, List.range_succ_eq_map, List.any_cons, List.any_map, List.any_cons, <- any_range bs]
  all_goals rfl
theorem all_range : ∀ bs : List Bool, (List.range bs.length).all (fun i => bs.getD i false) = bs.all id
 | [] => rfl
 | b :: bs => by
  rw [List.length_cons, List.range_succ_eq_map, List.all_cons, List.all_map, List.all_cons, <- all_range bs]
  all_goals rfl
section
variable {X : Cx}
def rAll (K : PySem.W.Frag) : List V -> Hp -> VK -> Prop := fun vs H Q => ∃ (a : Addr) (bs : List Bool), vs = [V.ref a] /\ SqL K H a (bs.map V.bl) /\ Q (.bl (bs.all id)) H
theorem cr_all (hc : X.calm = true) : CallR X (.builtin "all") (rAll X.K) := by
 intro pins s σ H vs us Q I r h
 obtain ⟨a, bs, rfl, hs, q⟩ := h
 obtain ⟨its, rv, hl, _⟩ := I.list hs
 rw [Vals.ref1 r]
 have hb := rv.bls
 refine call_all_walk (iter_any hl.isList fun s₂ e2 st hne => ?_)
 subst e2
 refine ⟨_, _, _, _, _, _, _, rfl, Walks.list (A := X.A.in1) (I.ok.hd hc) _ a hne its.toArray, st, truth_bools hb, fun h' tk hk => ?_⟩
 refine ⟨.bl _, H, I.kept fun b o eo => hk b o (fun hmem => ?_) (Heap.get?_push_of_some _ eo), ?_, q⟩
 ·rcases List.mem_cons.mp hmem with e1 | hmem
  ·exact absurd (e1 ▸ Heap.lt_size eo) (Nat.lt_irrefl _)
  ·cases hmem
 ·show Value.bool _ = Value.bool _
  rw [<- all_range, hb, List.size_toArray, List.length_map]
end
mutual
inductive Dp (K : PySem.W.Frag) (H : Hp) : V -> PyData -> Prop
 | non : Dp K H .non .none
 | bl (b : Bool) : Dp K H (.bl b) (.bool b)
 | int (i : Int) : Dp K H (.int i) (.int i)
 | str (x : Str) : Dp K H (.str x) (.str x)
 | lst {a : Addr} {xs : List V} {ds : List PyData} : SqL K H a xs -> DpAll K H xs ds -> Dp K H (.ref a) (.list ds)
 | tup {a : Addr} {xs : List V} {ds : List PyData} : SqT K H a xs -> DpAll K H xs ds -> Dp K H (.ref a) (.tuple ds)
inductive DpAll (K : PySem.W.Frag) (H : Hp) : List V -> List PyData -> Prop
 | nil : DpAll K H [] []
 | cons {v : V} {vs : List V} {d : PyData} {ds : List PyData} : Dp K H v d -> DpAll K H vs ds -> DpAll K H (v :: vs) (d :: ds)
end
section
variable {X : Cx} {pins : List (Addr × Obj)} {σ : St} {H : Hp} {s : Shared}
mutual
theorem Dp.reads (I : Inv X pins σ H s) : ∀ (d : PyData) (v : V) (u : Value), Dp X.K H v d -> RelV v u -> ∃ as, Reads s.heap u d as
 | .none, _, _, h, r => by
  cases h
  cases r
  exact ⟨_, Reads.none⟩
 | .bool b, _, _, h, r => by
  cases h
  cases r
  exact ⟨_, Reads.bool b⟩
 | .int i, _, _, h, r => by
  cases h
  obtain ⟨t, rfl⟩ := r
  exact ⟨_, Reads.int i t⟩
 | .str x, _, _, h, r => by
  cases h
  obtain ⟨t, rfl⟩ := r
  exact ⟨_, Reads.str x t⟩
 | .list ds, _, _, h, r => by
  cases h with
  | lst hs ha =>
   cases r
   obtain ⟨its, rv, ⟨o, n, ho, hc, _, hd⟩, _⟩ := I.list hs
   obtain ⟨as, hr⟩ := Dp.readsAll I ds _ its ha rv
   exact ⟨_, Reads.list ho hc hd hr⟩
 | .tuple ds, _, _, h, r => by
  cases h with
  | tup hs ha =>
   cases r
   obtain ⟨its, rv, ⟨o, ho, hc, n, hd⟩, _⟩ := I.tuple hs
   obtain ⟨as, hr⟩ := Dp.readsAll I ds _ its ha rv
   exact ⟨_, Reads.tuple ho hc hd hr⟩
 | .dict _, _, _, h, _ => by cases h
theorem Dp.readsAll (I : Inv X pins σ H s) : ∀ (ds : List PyData) (vs : List V) (us : List Value), DpAll X.K H vs ds -> Vals vs us -> ∃ as, ReadsAll s.heap us ds as
 | [], _, _, h, r => by
  cases h
  cases r
  exact ⟨_, ReadsAll.nil⟩
 | d :: ds, _, _, h, r => by
  cases h with
  | cons h1 h2 =>
   cases r with
   | cons r1 r2 =>
    obtain ⟨as, q1⟩ := Dp.reads I d _ _ h1 r1
    obtain ⟨bs, q2⟩ := Dp.readsAll I ds _ _ h2 r2
    exact ⟨_, ReadsAll.cons q1 q2⟩
end
end
section
variable {X : Cx}
def rEqD (K : PySem.W.Frag) : R2 := fun x y H Q => ∃ d e, Dp K H x d /\ Dp K H y e /\ SeqAt.shaped d = true /\ SeqAt.shaped e = true /\ Q (.bl (PyData.eqv d e)) H
theorem op_eqD (hu : X.A.units + 64 < cLine) : OpR X (compareOp .Eq) (rEqD X.K) := by
 intro pins s σ H x y v u Q I rx ry h
 obtain ⟨d, e, hd, he, sd, se, q⟩ := h
 obtain ⟨as, r1⟩ := Dp.reads I d x v hd rx
 obtain ⟨bs, r2⟩ := Dp.reads I e y u he ry
 exact SeqAt.compareEq_shaped r1 r2 sd se hu ⟨.bl _, H, I, rfl, q⟩
end
end L2
namespace L2
open PySem PySem.Spec PyProof.Rows
abbrev CellAt (h : Heap) (c : Addr) (v : Option Value) : Prop := h.IsCell c v
def relS (scope sc : Scope) : Scope :=
 { scope with names := scope.names.map fun (n, k) => if (k == .free && sc.kind == .function && sc.names.lookup n == some .cell) then (n, .cell) else (n, k) }
def cloFrom (cells : List (Str × Addr)) : List (Str × NameKind) -> List (Str × Addr) -> List (Str × Addr)
 | [], acc => acc
 | (n, k) :: r, acc => if k == .free then cloFrom cells r ((n, (cells.lookup n).getD 0) :: acc) else cloFrom cells r acc
theorem closure_loop (env : Env) (f : Str × NameKind -> List (Str × Addr) -> Sem (ForInStep (List (Str × Addr))))
  (hf : ∀ n k c, f (n, k) c = if k == .free then (do let a <- cellOf env n; pure (.yield ((n, a) :: c))) else pure (.yield c)) :
  ∀ (names : List (Str × NameKind)) (acc : List (Str × Addr)), (∀ y ∈ names, y.2 = .free -> ∃ c, env.cells.lookup y.1 = some c) -> forIn names acc f = pure (cloFrom env.cells names acc)
 | [], acc, _ => by rw [List.forIn_nil]; rfl
 | (n, k) :: r, acc, h => by
  rw [List.forIn_cons, hf]
  have ih := fun acc => closure_loop env f hf r acc fun y hy => h y (List.mem_cons_of_mem _ hy)
  unfold cloFrom
  by_cases hk : (k == NameKind.free) = true
  ·rw [if_pos hk, if_pos hk]
   obtain ⟨c, hc⟩ := h (n, k) List.mem_cons_self (by simpa using hk)
   have e : cellOf env n = pure c := by unfold cellOf; rw [hc]
   rw [e]
   have e2 : (env.cells.lookup n).getD 0 = c := by rw [hc]; rfl
   rw [e2]
   exact ih _
  ·rw [if_neg hk, if_neg hk]
   exact ih _
theorem closure_ok {scope : Scope} {env : Env} (h : ∀ y ∈ scope.names, y.2 = .free -> ∃ c, env.cells.lookup y.1 = some c) : closureFor scope env = pure (cloFrom env.cells scope.names []) := by
 simp only [closureFor]
 rw [closure_loop env _ (fun n k c => rfl) scope.names [] h]
 rfl
theorem mem_lookup {α : Type} : ∀ {l : List (Str × α)} {n : Str} {c : α}, (n, c) ∈ l -> ∃ c', l.lookup n = some c'
 | (k, v) :: r, n, c, h => by
  rw [List.lookup_cons]
  cases hb : n == k with
  | true => exact ⟨_, rfl⟩
  | false =>
   rcases List.mem_cons.mp h with e | h
   ·cases e; simp at hb
   ·exact mem_lookup h
theorem cloFrom_mem {cells : List (Str × Addr)} : ∀ {names : List (Str × NameKind)} {acc : List (Str × Addr)} {n : Str} {c : Addr}, (n, c) ∈ cloFrom cells names acc -> (n, c) ∈ acc ∨ ((n, .free) ∈ names /\ c = (cells.lookup n).getD 0)
 | [], _, _, _, h => .inl h
 | (m, k) :: r, acc, n, c, h => by
  unfold cloFrom at h
  split at h
  ·rename_i hk
   have hk : k = .free := by simpa using hk
   rcases cloFrom_mem h with h | ⟨h1, h2⟩
   ·rcases List.mem_cons.mp h with e | h
    ·cases e; exact .inr ⟨hk ▸ List.mem_cons_self, rfl⟩
    ·exact .inl h
   ·exact .inr ⟨List.mem_cons_of_mem _ h1, h2⟩
  ·rcases cloFrom_mem h with h | ⟨h1, h2⟩
   ·exact .inl h
   ·exact .inr ⟨List.mem_cons_of_mem _ h1, h2⟩
theorem cloFrom_acc {cells : List (Str × Addr)} : ∀ {names : List (Str × NameKind)} {acc : List (Str × Addr)} {p : Str × Addr}, p ∈ acc -> p ∈ cloFrom cells names acc
 | [], _, _, h => h
 | (m, k) :: r, acc, p, h => by
  unfold cloFrom
  split
  ·exact cloFrom_acc (List.mem_cons_of_mem _ h)
  ·exact cloFrom_acc h
theorem cloFrom_has {cells : List (Str × Addr)} : ∀ {names : List (Str × NameKind)} {acc : List (Str × Addr)} {n : Str}, (n, .free) ∈ names -> (n, (cells.lookup n).getD 0) ∈ cloFrom cells names acc
 | (m, k) :: r, acc, n, h => by
  unfold cloFrom
  rcases List.mem_cons.mp h with e | h
  ·cases e
   exact cloFrom_acc List.mem_cons_self
  ·split
   ·exact cloFrom_has h
   ·exact cloFrom_has h
theorem cells_mem : ∀ {names : List (Str × NameKind)} {h : Heap} {acc : List (Str × Addr)} {x : Str} {c : Addr}, (x, c) ∈ cellsFrom h.objs.size names acc ->
  (x, c) ∈ acc ∨ ((x, .cell) ∈ names /\ h.objs.size <= c /\ CellAt (pushCells h names) c none)
 | [], _, _, _, _, h => .inl h
 | (n, k) :: r, h, acc, x, c, hm => by
  unfold cellsFrom at hm
  unfold pushCells
  split at hm
  ·rename_i hk
   rw [if_pos hk]
   have hk : k = .cell := by simpa using hk
   rw [<- Heap.size_push h { cls := .type "cell", data := .cell none }] at hm
   rcases cells_mem hm with hm | ⟨h1, h2, h3⟩
   ·rcases List.mem_cons.mp hm with e | hm
    ·cases e
     exact .inr ⟨hk ▸ List.mem_cons_self, Nat.le_refl _, _, pushCells_keeps r _ _ _ (Heap.get?_push_size _ rfl), rfl⟩
    ·exact .inl hm
   ·rw [Heap.size_push] at h2
    exact .inr ⟨List.mem_cons_of_mem _ h1, Nat.le_of_succ_le h2, h3⟩
  ·rename_i hk
   rw [if_neg hk]
   rcases cells_mem hm with hm | ⟨h1, h2, h3⟩
   ·exact .inl hm
   ·exact .inr ⟨List.mem_cons_of_mem _ h1, h2, h3⟩
theorem cells_acc : ∀ {names : List (Str × NameKind)} {n : Nat} {acc : List (Str × Addr)} {p : Str × Addr}, p ∈ acc -> p ∈ cellsFrom n names acc
 | [], _, _, _, h => h
 | (m, k) :: r, n, acc, p, h => by
  unfold cellsFrom
  split
  ·exact cells_acc (List.mem_cons_of_mem _ h)
  ·exact cells_acc h
theorem cells_has : ∀ {names : List (Str × NameKind)} {n : Nat} {acc : List (Str × Addr)} {x : Str}, (x, .cell) ∈ names -> ∃ c, (x, c) ∈ cellsFrom n names acc
 | (m, k) :: r, n, acc, x, h => by
  unfold cellsFrom
  rcases List.mem_cons.mp h with e | h
  ·cases e
   exact ⟨n, cells_acc List.mem_cons_self⟩
  ·split
   ·exact cells_has h
   ·exact cells_has h
theorem cells_inj : ∀ {names : List (Str × NameKind)} {h : Heap} {acc : List (Str × Addr)} {x y : Str} {c : Addr}, (∀ p ∈ acc, p.2 < h.objs.size) -> (∀ x y c, (x, c) ∈ acc -> (y, c) ∈ acc -> x = y) ->
  (x, c) ∈ cellsFrom h.objs.size names acc -> (y, c) ∈ cellsFrom h.objs.size names acc -> x = y
 | [], _, _, _, _, _, _, hi, h1, h2 => hi _ _ _ h1 h2
 | (n, k) :: r, h, acc, x, y, c, hl, hi, h1, h2 => by
  unfold cellsFrom at h1 h2
  split at h1
  ·rename_i hk
   rw [if_pos hk] at h2
   rw [<- Heap.size_push h { cls := .type "cell", data := .cell none }] at h1 h2
   refine cells_inj (h := h.push _) (fun p hp => ?_) (fun x y c a b => ?_) h1 h2
   ·rw [Heap.size_push]
    rcases List.mem_cons.mp hp with rfl | hp
    ·exact Nat.lt_succ_self _
    ·exact Nat.lt_succ_of_lt (hl p hp)
   ·rcases List.mem_cons.mp a with e | a <;> rcases List.mem_cons.mp b with e' | b
    ·cases e; cases e'; rfl
    ·cases e; exact absurd (hl _ b) (Nat.lt_irrefl _)
    ·cases e'; exact absurd (hl _ a) (Nat.lt_irrefl _)
    ·exact hi _ _ _ a b
  ·rename_i hk
   rw [if_neg hk] at h2
   exact cells_inj hl hi h1 h2
theorem newEnv_comp {M : Model} {A : Around} {E : Value -> Shared -> Prop} {s : Shared} {scope : Scope} {globals : Addr} {closure : List (Str × Addr)} {qual : Str} {func : Option Addr} {code : Value} {around : Env} {builtins : Addr} {Q : Env -> Shared -> Prop}
  (h : Q (newEnv scope s.heap.objs.size globals (cellsFrom (s.heap.objs.size + 1) scope.names closure) qual func code (some around) builtins)
   { s with heap := pushCells (s.heap.push { cls := .type "dict", data := .dict #[] }) scope.names }) :
  wpAny M A (newFunctionEnv scope globals closure [] qual func code (some around) builtins) Q E s := by
 simp only [newFunctionEnv, Option.isSome_some, if_true]
 refine wpAny_bind (wpAny_alloc ?_)
 refine wpAny_bind (wpAny_layCells _ (fun n k c => rfl) scope.names closure _ _ ?_)
 rw [show ({ s with heap := s.heap.push { cls := .type "dict", data := .dict #[] } } : Shared).heap.objs.size = s.heap.objs.size + 1 from Heap.size_push ..]
 rw [List.forIn_nil]
 exact wpAny_bind (wpAny_pure (wpAny_pure h))
theorem lookup_relS {sc : Scope} : ∀ {names : List (Str × NameKind)} {x : Str} {k : NameKind},
  (names.map fun (n, k) => if (k == NameKind.free && sc.kind == .function && sc.names.lookup n == some .cell) then (n, NameKind.cell) else (n, k)).lookup x = some k ->
  ∃ k', names.lookup x = some k' /\ (k = k' ∨ (k' = .free /\ k = .cell))
 | [], _, _, h => by simp at h
 | (n, k₀) :: r, x, k, h => by
  have ih := @lookup_relS sc r x k
  have h' : List.lookup x ((if (k₀ == NameKind.free && sc.kind == .function && sc.names.lookup n == some .cell) = true then (n, NameKind.cell) else (n, k₀)) :: (r.map _)) = some k := h
  cases hx : x == n with
  | true =>
   simp only [List.lookup_cons, hx]
   by_cases hc : (k₀ == NameKind.free && sc.kind == .function && sc.names.lookup n == some .cell) = true
   ·rw [if_pos hc] at h'
    simp only [List.lookup_cons, hx] at h'
    cases h'
    simp only [Bool.and_eq_true, beq_iff_eq] at hc
    exact ⟨k₀, rfl, .inr ⟨hc.1.1, rfl⟩⟩
   ·rw [if_neg hc] at h'
    simp only [List.lookup_cons, hx] at h'
    cases h'
    exact ⟨_, rfl, .inl rfl⟩
  | false =>
   simp only [List.lookup_cons, hx]
   by_cases hc : (k₀ == NameKind.free && sc.kind == .function && sc.names.lookup n == some .cell) = true
   ·rw [if_pos hc] at h'
    simp only [List.lookup_cons, hx] at h'
    exact ih h'
   ·rw [if_neg hc] at h'
    simp only [List.lookup_cons, hx] at h'
    exact ih h'
structure BlkOk (N : List Str) (sc scope : Scope) (own : List (Str × Nat)) : Prop where
 kind : scope.kind = .function
 uniq : ∀ y ∈ scope.names, scope.names.lookup y.1 = some y.2
 ix : ∀ p ∈ own, N[p.2]? = some p.1
 free : ∀ y ∈ scope.names, y.2 = .free -> sc.names.lookup y.1 = some .cell ∨ sc.names.lookup y.1 = some .free
 own : ∀ y ∈ scope.names, y.2 = .local ∨ y.2 = .cell -> y.1 ∈ own.map (·.1) ∨ y.1 ∉ N
def wipe (σ : St) : List Nat -> St
 | [] => σ
 | v :: vs => (wipe σ vs).set v none
theorem wipe_length (σ : St) : ∀ vs : List Nat, (wipe σ vs).length = σ.length
 | [] => rfl
 | v :: vs => by unfold wipe; rw [List.length_set, wipe_length σ vs]
theorem wipe_some {σ : St} {i : Nat} {x : V} : ∀ {vs : List Nat}, (wipe σ vs)[i]? = some (some x) -> σ[i]? = some (some x) /\ i ∉ vs
 | [], h => ⟨h, by simp⟩
 | v :: vs, h => by
  unfold wipe at h
  by_cases hi : v = i
  ·subst hi
   by_cases hv : v < (wipe σ vs).length
   ·rw [List.getElem?_set_self hv] at h; cases h
   ·rw [List.getElem?_eq_none (by simpa using hv)] at h; cases h
  ·rw [List.getElem?_set_ne hi] at h
   obtain ⟨h1, h2⟩ := wipe_some h
   exact ⟨h1, by simp only [List.mem_cons, not_or]; exact ⟨fun e => hi e.symm, h2⟩⟩
abbrev Cx.blk (X : Cx) (s : Shared) (H : Hp) (scope : Scope) (cenv : Env) (fp : List Addr) : Cx := { X with s_0 := s, H_0 := H, env := cenv, outer := X.stack, ex := fp, fn := fun x => scope.names.lookup x == some .cell, pn := [], xe := fun _ _ => False }
section
variable {X : Cx} {pins : List (Addr × Obj)} {σ : St} {H : Hp} {s : Shared}
theorem block_start {scope : Scope} {own : List (Str × Nat)} {fp : List Addr} (I : Inv X pins σ H s) (ok : BlkOk X.N X.env.scope scope own) (hN : X.N.Nodup) (hfp : ∀ b ∈ fp, FpOk X pins H b /\ b < s.heap.objs.size) :
  Inv (X.blk s H scope (compEnvC scope (cellsFrom (s.heap.objs.size + 1) scope.names (cloFrom X.env.cells scope.names [])) s.heap.objs.size X.env) fp) [] (wipe σ (own.map (·.2))) H { s with heap := pushCells (s.heap.push { cls := .type "dict", data := .dict #[] }) scope.names } := by
 have hfree : ∀ y ∈ scope.names, y.2 = .free -> ∃ c, X.env.cells.lookup y.1 = some c := fun y hy e => by
  rcases ok.free y hy e with k | k
  ·exact I.ok.has _ (.inl k)
  ·exact I.ok.has _ (.inr k)
 generalize hcenv : compEnvC scope (cellsFrom (s.heap.objs.size + 1) scope.names (cloFrom X.env.cells scope.names [])) s.heap.objs.size X.env = cenv
 have kp : ∀ b o, s.heap.get? b = some o -> (pushCells (s.heap.push { cls := .type "dict", data := .dict #[] }) scope.names).get? b = some o := fun b o e => pushCells_keeps _ _ _ _ (Heap.get?_push_of_some _ e)
 have hL : cenv.locals = s.heap.objs.size := by rw [<- hcenv]; rfl
 have hcl : cenv.cells = cellsFrom (s.heap.objs.size + 1) scope.names (cloFrom X.env.cells scope.names []) := by rw [<- hcenv]; rfl
 have hsc : cenv.scope = relS scope X.env.scope := by rw [<- hcenv]; rfl
 rw [<- Heap.size_push s.heap { cls := .type "dict", data := .dict #[] }] at hcl
 have cm : ∀ {y c}, (y, c) ∈ cloFrom X.env.cells scope.names [] -> X.env.cells.lookup y = some c /\ c < s.heap.objs.size := fun {y c} hm => by
  rcases cloFrom_mem hm with hm | ⟨h1, rfl⟩
  ·cases hm
  ·obtain ⟨c, hc⟩ := hfree _ h1 rfl
   rw [hc]
   obtain ⟨w, z⟩ := I.cell _ _ hc
   exact ⟨rfl, z.lt⟩
 have mem : ∀ {y c}, cenv.cells.lookup y = some c -> (X.env.cells.lookup y = some c /\ c < s.heap.objs.size) ∨ (s.heap.objs.size + 1 <= c /\ CellAt (pushCells (s.heap.push { cls := .type "dict", data := .dict #[] }) scope.names) c none) := fun {y c} e => by
  rw [hcl] at e
  rcases cells_mem (PySem.mem_of_lookup e) with hm | ⟨_, h2, h3⟩
  ·exact .inl (cm hm)
  ·rw [Heap.size_push] at h2; exact .inr ⟨h2, h3⟩
 have look : ∀ {y}, scope.names.lookup y = some .free -> ∃ c, cenv.cells.lookup y = some c /\ X.env.cells.lookup y = some c := fun {y} hl => by
  have hy : (y, NameKind.free) ∈ scope.names := PySem.mem_of_lookup hl
  obtain ⟨c', e'⟩ := mem_lookup (cells_acc (names := scope.names) (n := (s.heap.push { cls := .type "dict", data := .dict #[] }).objs.size) (cloFrom_has (cells := X.env.cells) (acc := []) hy))
  rw [<- hcl] at e'
  refine ⟨c', e', ?_⟩
  rw [hcl] at e'
  rcases cells_mem (PySem.mem_of_lookup e') with hm | ⟨h1, _, _⟩
  ·exact (cm hm).1
  ·have := ok.uniq _ h1
   rw [hl] at this; cases this
 have okB : (X.blk s H scope cenv fp).Ok := by
  refine ⟨I.ok.mod, by show cenv.scope.kind = _; rw [hsc]; exact ok.kind, by show cenv.globals = _; rw [<- hcenv]; exact I.ok.glob, by show cenv.builtins = _; rw [<- hcenv]; exact I.ok.blt, by show s.heap.objs.size <= cenv.locals; rw [hL]; exact Nat.le_refl _,
   fun y z c e1 e2 => ?_, fun y hy => ?_, fun y c z e => ?_, I.ok.hd, I.ok.frames, .inl rfl, fun b hb => ⟨?_, fun y c e z => ?_⟩, I.bs, Nat.le_trans I.ok.bsz I.sz, fun b o e hb => ?_, fun b hb z => ?_, I.stack, I.stkFree⟩
  ·have e1 : cenv.cells.lookup y = some c := e1
   have e2 : cenv.cells.lookup z = some c := e2
   rw [hcl] at e1 e2
   refine cells_inj (fun p hp => ?_) (fun y z c a b => I.ok.inj y z c (cm a).1 (cm b).1) (PySem.mem_of_lookup e1) (PySem.mem_of_lookup e2)
   rw [Heap.size_push]
   exact Nat.lt_succ_of_lt (cm (y := p.1) (c := p.2) hp).2
  ·show ∃ c, cenv.cells.lookup y = some c
   have key : ∀ k, cenv.kindOf y = some k -> (k = .cell ∨ k = .free) -> ∃ c, cenv.cells.lookup y = some c := fun k hk hk' => by
    unfold Env.kindOf at hk
    rw [hsc] at hk
    obtain ⟨k', e, r⟩ := lookup_relS hk
    have : k' = .cell ∨ k' = .free := by
     rcases r with rfl | ⟨rfl, _⟩
     ·exact hk'
     ·exact .inr rfl
    rcases this with rfl | rfl
    ·obtain ⟨c, hm⟩ := cells_has (n := (s.heap.push { cls := .type "dict", data := .dict #[] }).objs.size) (acc := cloFrom X.env.cells scope.names []) (PySem.mem_of_lookup e)
     obtain ⟨c', e'⟩ := mem_lookup hm
     exact ⟨c', by rw [hcl]; exact e'⟩
    ·obtain ⟨c, h1, _⟩ := look e
     exact ⟨c, h1⟩
   rcases hy with hy | hy
   ·exact key _ hy (.inl rfl)
   ·exact key _ hy (.inr rfl)
  ·have z : (scope.names.lookup y == some NameKind.cell) = true := z
   have z : scope.names.lookup y = some .cell := by simpa using z
   have e : cenv.cells.lookup y = some c := e
   rw [hcl] at e
   rcases cells_mem (PySem.mem_of_lookup e) with hm | ⟨_, h2, _⟩
   ·rcases cloFrom_mem hm with hm | ⟨h1, _⟩
    ·cases hm
    ·have q := ok.uniq _ h1
     rw [z] at q; cases q
   ·rw [Heap.size_push] at h2
    exact Nat.le_of_succ_le h2
  ·show b ≠ cenv.locals
   rw [hL]; exact Nat.ne_of_lt (hfp b hb).2
  ·have e : cenv.cells.lookup y = some c := e
   rcases mem e with ⟨h1, _⟩ | ⟨h1, _⟩
   ·exact (hfp b hb).1.2.2.2.2.1 y c h1 z
   ·have h2 : s.heap.objs.size + 1 <= b := by rw [<- z]; exact h1
    exact absurd (Nat.lt_of_lt_of_le (hfp b hb).2 (Nat.le_of_succ_le h2)) (Nat.lt_irrefl _)
  ·rcases (hfp b hb).1.2.2.2.1 with z | z
   ·exact I.ok.noex b o e z
   ·exact absurd (Nat.lt_of_lt_of_le (Heap.lt_size e) (Nat.le_trans I.ok.bsz z)) (Nat.lt_irrefl _)
  ·rcases List.mem_cons.mp (I.stkSub b z) with z | z
   ·exact (hfp b hb).1.2.1 z
   ·exact (hfp b hb).1.2.2.1 z
 refine ⟨okB, rfl, I.bare, Un.kept kp, ⟨fun _ => none, ?_, fun i y av e1 e2 e3 => ?_⟩, fun y c e => ?_, ?_, fun y c e => ?_, fun p hp => ?_, I.hok.kept kp, by rw [wipe_length]; exact I.len⟩
 ·show Heap.Ns _ cenv.locals _
  rw [hL]
  exact Heap.Ns.keeps (Heap.Ns.new ..) fun b o e => pushCells_keeps _ _ _ _ e
 ·obtain ⟨e2, hne⟩ := wipe_some e2
  have hfr : scope.names.lookup y = some .free /\ (cenv.kindOf y = some .cell ∨ cenv.kindOf y = some .free) := by
   have key : ∀ k, cenv.scope.names.lookup y = some k -> k = .local ∨ k = .cell ∨ k = .free -> scope.names.lookup y = some .free /\ (cenv.kindOf y = some .cell ∨ cenv.kindOf y = some .free) := fun k hk hk' => by
    have hk0 := hk
    rw [hsc] at hk
    obtain ⟨k', e, r⟩ := lookup_relS hk
    have no : ¬ (k' = .local ∨ k' = .cell) := fun hh => by
     rcases ok.own _ (PySem.mem_of_lookup e) hh with e' | e'
     ·obtain ⟨p, hp, hpy⟩ := List.mem_map.mp e'
      have e3 := ok.ix p hp
      have : p.1 = y := hpy
      rw [this] at e3
      exact hne (List.mem_map.mpr ⟨p, hp, nodup_ix hN e3 e1⟩)
     ·exact e' (List.mem_of_getElem? e1)
    rcases r with rfl | ⟨rfl, rfl⟩
    ·rcases hk' with rfl | rfl | rfl
     ·exact absurd (.inl rfl) no
     ·exact absurd (.inr rfl) no
     ·exact ⟨e, .inr hk0⟩
    ·exact ⟨e, .inl hk0⟩
   have e3 : Vis cenv.scope y := e3
   rcases e3 with e3 | e3 | e3
   ·exact key _ e3 (.inl rfl)
   ·exact key _ e3 (.inr (.inl rfl))
   ·exact key _ e3 (.inr (.inr rfl))
  obtain ⟨m, hn, hl⟩ := I.loc
  have hvis : Vis X.env.scope y := (ok.free _ (PySem.mem_of_lookup hfr.1) rfl).elim (fun k => .inr (.inl k)) (fun k => .inr (.inr k))
  obtain ⟨w, r, q⟩ := hl i y av e1 e2 hvis
  refine ⟨w, r, .inr ⟨hfr.2, ?_⟩⟩
  obtain ⟨c, h1, h2⟩ := look hfr.1
  rcases q with ⟨k, _⟩ | ⟨_, c', e', z⟩
  ·have k : X.env.scope.names.lookup y = some .local := k
   rcases ok.free _ (PySem.mem_of_lookup hfr.1) rfl with k' | k' <;> rw [show X.env.scope.names.lookup y = _ from k'] at k <;> cases k
  ·rw [h2] at e'; cases e'
   exact ⟨c, h1, z.keeps kp⟩
 ·have e : cenv.cells.lookup y = some c := e
  rcases mem e with ⟨h1, _⟩ | ⟨_, z⟩
  ·obtain ⟨w, z⟩ := I.cell y c h1
   exact ⟨w, z.keeps kp⟩
  ·exact ⟨_, z⟩
 ·show H cenv.locals = none
  rw [hL]; exact I.hok.fresh (Nat.le_refl _)
 ·have e : cenv.cells.lookup y = some c := e
  rcases mem e with ⟨h1, _⟩ | ⟨h1, _⟩
  ·exact I.freeC y c h1
  ·exact I.hok.fresh (Nat.le_of_succ_le h1)
 ·exact absurd (show p ∈ ([] : List (Addr × Obj)) ++ [] from hp) (by simp)
theorem app_ok {E : Value -> Shared -> Prop} {D : Addr} {xs : List V} {y : V} {v : Value} {Q : Value -> Shared -> Prop} (I : Inv X pins σ H s) (hD : H D = some (.lst xs)) (hz : xs.length < sizeLine) (r : RelV y v)
  (h : ∀ s', Inv X pins σ (upd H D (.lst (xs ++ [y]))) s' -> Q .none s') : wpAny (model X.prog X.w) X.A (call (.builtin "list.append") [.ref D, v]) Q E s := by
 obtain ⟨hz', its, n, ri, e⟩ := I.hok D _ hD
 have hl := ri.length
 refine append_at (hsz := by rw [List.size_toArray]; omega) e fun h' sb ho' => ?_
 refine h { s with heap := h' } (I.write (t' := s.toks) (by rw [hD]; trivial) (.inl rfl) (fun b u hb q => (sb.2 b hb).trans q) ⟨_, ho'⟩ ⟨by rw [List.length_append]; exact hz, its ++ [v], n + 1, ri.append (.cons r .nil), ?_⟩)
 rw [ho']
 simp
def PTs (X : Cx) (ifs : List Expr) (t : TT) : Prop :=
 ∀ (pins : List (Addr × Obj)) (s : Shared) (σ : St) (H : Hp) (Q : Bool -> Hp -> Prop), Inv X pins σ H s -> t σ H Q ->
  wpAny (model X.prog X.w) X.A (forIn ifs true fun c r => if r = true then do let ok <- isTrue c X.env (eval c X.env); pure (ForInStep.yield ok) else pure (ForInStep.yield r)) (TP X pins σ Q) X.xe s
def tYes : TT := fun _ H Q => Q true H
theorem pts_nil : PTs X [] tYes := fun _ _ _ H _ I h => wpAny_tests_nil ⟨H, I, h⟩
theorem pts_one {c : Expr} {t : TT} (h : PT X c t) : PTs X [c] t := fun pins s σ H Q I hw => wpAny_tests_one (h pins s σ H Q I hw)
end
theorem thnF {α : Type} {t : Sem α} {Q Q' : α -> Shared -> Prop} {M : Model} {A : Around} {E : Value -> Shared -> Prop} {s : Shared} (h : wpAny M A t Q (fun _ _ => False) s) (hQ : ∀ a s, Q a s -> Q' a s) : wpAny M A t Q' E s := wpAny_mono h hQ fun _ _ z => False.elim z
theorem compLoop_any {prog : Program} {w : World} {A : Around} {R : Result -> Shared -> Prop} {s : Shared} {elt target iter : Expr} {ifs : List Expr} {scope : Scope} {pos : Pos} {it acc : Value} {env : Env} (I : Nat -> Shared -> Prop)
  (turn : ∀ n s, I n s -> wpAny (model prog w) A (pyNext it) (fun r s₁ => match r with
   | none => R (.ok .next) s₁
   | some v => wpAny (model prog w) A (letOwnedTupleGo target it v) (fun _ s₁' => wpAny (model prog w) A (assign target env v) (fun _ s₂ =>
     wpAny (model prog w) A (forIn ifs true fun c r => if r = true then do let ok <- isTrue c env (eval c env); pure (ForInStep.yield ok) else pure (ForInStep.yield r)) (fun ok s₃ =>
      if ok = true then wpAny (model prog w) A (eval elt env) (fun x s₄ =>
       wpAny (model prog w) A (call (.builtin "list.append") [acc, x]) (fun _ s₅ => ∃ m, m < n /\ I m s₅) (notedBy (model prog w) A env fun e s' => R (.error e) s') s₄) (notedBy (model prog w) A env fun e s' => R (.error e) s') s₃
      else ∃ m, m < n /\ I m s₃) (notedBy (model prog w) A env fun e s' => R (.error e) s') s₂) (notedBy (model prog w) A env fun e s' => R (.error e) s') s₁') (notedBy (model prog w) A env fun e s' => R (.error e) s') s₁) (notedBy (model prog w) A env fun e s' => R (.error e) s') s)
  (n : Nat) (h : I n s) :
  codeAny (model prog w) A (.compLoop (.ListComp elt [⟨target, iter, ifs, 0⟩] scope pos) 0 it acc env) R s := by
 refine codeAny_loop rfl I (fun n s hI => ?_) n h
 show wpAny _ A ((compTurn (.ListComp elt [⟨target, iter, ifs, 0⟩] scope pos) 0 it acc env).onRaise (fun x => do noteFrame x env; theTreesLotGoes x)) _ _ s
 refine wpAny_noted ?_
 rw [compTurn_list]
 refine wpAny_bind (wpAny_standAt (wpAny_bind (wpAny_mono (turn n s hI) (fun r s₁ h₁ => ?_) fun _ _ h' => h')))
 cases r with
 | none => exact wpAny_pure h₁
 | some v =>
  refine wpAny_bind (wpAny_mono h₁ (fun _ s₁' h₁' => ?_) fun _ _ h' => h')
  refine wpAny_bind (wpAny_mono h₁' (fun _ s₂ h₂ => wpAny_bind (wpAny_mono h₂ (fun ok s₃ h₃ => ?_) fun _ _ h' => h')) fun _ _ h' => h')
  cases ok with
  | false => exact wpAny_pure ⟨rfl, h₃⟩
  | true =>
   exact wpAny_bind (wpAny_bind (wpAny_mono h₃ (fun x s₄ h₄ => wpAny_bind (wpAny_mono h₄ (fun _ s₅ h₅ => wpAny_pure (wpAny_pure ⟨rfl, h₅⟩)) fun _ _ h' => h')) fun _ _ h' => h'))
section
variable {X : Cx}
def tLc (wi : TI) (g : TG) (tt : TT) (te : TE) (vs : List Nat) : TE := fun σ H Q => wi σ H fun J H1 => ∀ D, H1 D = none -> ∃ W : Nat -> Nat -> Hp -> Prop, (∃ m, W 0 m (upd H1 D (.lst []))) /\ ∀ i m H, W i m H ->
 (J.stop i H /\ Q (.ref D) H) ∨ (J.go i H /\ ∃ Nx : Hp -> Prop, (∀ H', Nx H' -> ∃ m', m' < m /\ W (i + 1) m' H') /\ ∀ x H', J.yld i H x H' -> g x (wipe σ vs) H' fun σ2 H2 => wipe σ2 vs = wipe σ vs /\ tt σ2 H2 fun b H3 =>
  if b = true then te σ2 H3 fun y H4 => ∃ acc, H4 D = some (.lst acc) /\ acc.length < sizeLine /\ Nx (upd H4 D (.lst (acc ++ [y]))) else Nx H3)
theorem lc_core {pins : List (Addr × Obj)} {s : Shared} {σ : St} {H : Hp} {Q : VK} {elt tg iter : Expr} {ifs : List Expr} {scope : Scope} {own : List (Str × Nat)} {pos pos' : Pos} {wi : TI} {g : TG} {tt : TT} {te : TE} {use : Option (Value -> Sem Unit)} {Qf : Value -> Shared -> Prop}
  (hc : X.calm = true) (hN : X.N.Nodup) (I : Inv X pins σ H s) (hi : PI X tg iter wi) (ok : BlkOk X.N X.env.scope scope own)
  (hg : ∀ (s : Shared) (H : Hp) (C : Addr) (cl : List (Str × Addr)) (fp : List Addr), PG (X.blk s H scope (compEnvC scope cl C X.env) fp) tg g) (ht : ∀ (s : Shared) (H : Hp) (C : Addr) (cl : List (Str × Addr)) (fp : List Addr), PTs (X.blk s H scope (compEnvC scope cl C X.env) fp) ifs tt)
  (he : ∀ (s : Shared) (H : Hp) (C : Addr) (cl : List (Str × Addr)) (fp : List Addr), PE (X.blk s H scope (compEnvC scope cl C X.env) fp) elt te) (hs : ∀ x, foldedSetIterable iter X.env x = pure x)
  (h : tLc wi g tt te (own.map (·.2)) σ H Q)
  (hRR : ∀ D C s' m H', Inv X pins σ H' s' -> Q (.ref D) H' -> s'.heap.Ns C m -> FpOk X pins H' C -> compPost (model X.prog X.w) X.A X.xe use Qf (.ref D) C (.ok .next) s') :
  wpAny (model X.prog X.w) X.A (comprehension (.ListComp elt [⟨tg, iter, ifs, 0⟩] scope pos) scope X.env pos' (newList []) false (eval iter X.env) use) Qf X.xe s := by
 have hfree : ∀ y ∈ scope.names, y.2 = .free -> ∃ c, X.env.cells.lookup y.1 = some c := fun y hy e => by
  rcases ok.free y hy e with k | k
  ·exact I.ok.has _ (.inl k)
  ·exact I.ok.has _ (.inr k)
 refine wpAny_comprehension_free (use := use) rfl hs (closure_ok hfree) ok.kind (fun y hy e => by rw [ok.uniq y hy, e])
  (thn (hi pins s σ H _ I h) fun xv s1 hx => thn hx fun itv s2 h2 => ?_)
 obtain ⟨it, fp, tn, J, H2, e, I2, T, st2, f2, q⟩ := h2
 subst e
 refine wpAny_newObj_type (newEnv_comp ?_) (by show 0 <= sizeLine; decide)
 generalize hD : s2.heap.objs.size = D
 have hDn : H2 D = none := I2.hok.fresh (Nat.le_of_eq hD)
 obtain ⟨W, ⟨m0, w0⟩, turn⟩ := q D hDn
 -- the new list
 generalize hs3 : ({ s2 with heap := s2.heap.push { cls := .type "list", data := .seq ([] : List Value).toArray } } : Shared) = s3
 have I3 : Inv X pins σ (upd H2 D (.lst [])) s3 := by
  rw [<- hs3]
  refine I2.laid (t' := s2.toks) (fun b o e => Heap.get?_push_of_some _ e) (Nat.le_of_eq hD) ⟨Nat.zero_le _, [], 0, .nil, ?_⟩
  rw [<- hD]
  exact Heap.get?_push_size _ rfl
 have h3 : s3.heap = s2.heap.push { cls := .type "list", data := .seq ([] : List Value).toArray } := by rw [<- hs3]
 have sz : ∀ b ∈ fp, b < s2.heap.objs.size := fun b hb => by
  obtain ⟨o, e, _⟩ := T.obj _ _ st2 b hb
  exact Heap.lt_size e
 have f3 : ∀ b ∈ fp, FpOk X pins (upd H2 D (.lst [])) b /\ b < s3.heap.objs.size := fun b hb => by
  have hlt := sz b hb
  refine ⟨⟨?_, (f2 b hb).2⟩, by rw [h3, Heap.size_push]; exact Nat.lt_succ_of_lt hlt⟩
  rw [upd_ne (by rw [<- hD]; exact Nat.ne_of_lt hlt)]
  exact (f2 b hb).1
 have st3 : tn 0 s3.heap := T.keep _ _ _ st2 fun b _ o e => by rw [h3]; exact Heap.get?_push_of_some _ e
 have I4 := block_start I3 ok hN f3
 have pg := hg s3 (upd H2 D (.lst [])) s3.heap.objs.size (cellsFrom (s3.heap.objs.size + 1) scope.names (cloFrom X.env.cells scope.names [])) fp
 have pt := ht s3 (upd H2 D (.lst [])) s3.heap.objs.size (cellsFrom (s3.heap.objs.size + 1) scope.names (cloFrom X.env.cells scope.names [])) fp
 have pe := he s3 (upd H2 D (.lst [])) s3.heap.objs.size (cellsFrom (s3.heap.objs.size + 1) scope.names (cloFrom X.env.cells scope.names [])) fp
 show codeAny _ _ (.compStart (.ListComp elt [⟨tg, iter, ifs, 0⟩] scope pos) 0 (.ref it) (.ref D) (compEnvC scope (cellsFrom (s3.heap.objs.size + 1) scope.names (cloFrom X.env.cells scope.names [])) s3.heap.objs.size X.env)) (compPost (model X.prog X.w) X.A X.xe use Qf (.ref D) s3.heap.objs.size) { s3 with heap := pushCells (s3.heap.push { cls := .type "dict", data := .dict #[] }) scope.names }
 have nfp : ∀ b ∈ fp, (upd H2 D (.lst [])) b = none := fun b hb => (f3 b hb).1.1
 generalize hce : compEnvC scope (cellsFrom (s3.heap.objs.size + 1) scope.names (cloFrom X.env.cells scope.names [])) s3.heap.objs.size X.env = ce at I4 pg pt pe ⊢
 have cL : ce.locals = s3.heap.objs.size := by subst hce; rfl
 generalize hH3 : upd H2 D (.lst []) = H3 at I3 I4 pg pt pe w0 nfp f3
 generalize hs4 : ({ s3 with heap := pushCells (s3.heap.push { cls := .type "dict", data := .dict #[] }) scope.names } : Shared) = s4 at I4 ⊢
 have st4 : tn 0 s4.heap := T.keep _ _ _ st3 fun b _ o e => by rw [<- hs4]; exact pushCells_keeps _ _ _ _ (Heap.get?_push_of_some _ e)
 have stat : ∀ {σ' : St} {H' : Hp} {s' : Shared}, Inv (X.blk s3 H3 scope ce fp) [] σ' H' s' -> (∀ b ∈ fp, H' b = none) -> ∀ b ∈ fp, FpOk (X.blk s3 H3 scope ce fp) [] H' b := fun {σ' H' s'} I' hn b hb =>
  ⟨hn b hb, (I'.ok.exf b hb).1, I'.ok.exfs b hb, .inl hb, fun x c e => (I'.ok.exf b hb).2 x c e, fun p hp => absurd (show p ∈ ([] : List (Addr × Obj)) ++ [] from hp) (by simp)⟩
 have loop : codeAny (model X.prog X.w) X.A (.compLoop (.ListComp elt [⟨tg, iter, ifs, 0⟩] scope pos) 0 (.ref it) (.ref D) ce) (compPost (model X.prog X.w) X.A X.xe use Qf (.ref D) s3.heap.objs.size) s4 := by
  refine compLoop_any (fun n s' => ∃ i H', Inv (X.blk s3 H3 scope ce fp) [] (wipe σ (own.map (·.2))) H' s' /\ tn i s'.heap /\ (∀ b ∈ fp, H' b = none) /\ W i n H') ?_ m0 ⟨0, H3, I4, st4, nfp, w0⟩
  rintro n s5 ⟨i, H5, I5, st5, n5, w5⟩
  rcases turn i n H5 w5 with ⟨stop, qq⟩ | ⟨go, Nx, hNx, step⟩
  ·have td := T.done (X.blk s3 H3 scope ce fp) rfl rfl rfl hc i [] s5 _ H5 (fun _ _ => False) I5 (stat I5 n5) st5 stop
   refine thnF td fun r s6 ⟨hr, I6⟩ => ?_
   subst hr
   -- back in the def's context
   have I7 : Inv X pins σ H5 s6 := I3.call' (ch := fp) I6.os I6.base I6.hok I6.bare fun b hb => ⟨(f3 b hb).1.2.2.2.1, (f3 b hb).1.2.1, (f3 b hb).1.2.2.2.2.1, (f3 b hb).1.2.2.2.2.2⟩
   have nC : H5 s3.heap.objs.size = none := by
    have z : H5 ce.locals = none := I6.free
    rw [cL] at z
    exact z
   obtain ⟨m, hn, _⟩ := I6.loc
   have hn : s6.heap.Ns ce.locals m := hn
   rw [cL] at hn
   exact hRR D s3.heap.objs.size s6 m H5 I7 qq hn (I3.fpOk (Nat.le_refl _) nC)
  ·have ti := T.item (X.blk s3 H3 scope ce fp) rfl rfl rfl hc i [] s5 _ H5 (fun _ _ => False) I5 (stat I5 n5) st5 go
   refine thnF ti fun r s6 ⟨u, hr, h6⟩ => ?_
   subst hr
   refine thnF h6 fun _ s7 ⟨x, H7, I7, r7, y7, st7, n7⟩ => ?_
   have I7' := I7.pinned (stat I7 n7) (T.obj _ _ st7)
   refine thnF (pg _ s7 _ H7 x u _ I7' r7 (step x H7 y7)) fun _ s8 ⟨σ8, H8, I8, hw8, q8⟩ => ?_
   refine thnF (pt _ s8 σ8 H8 _ I8 q8) fun b s9 ⟨H9, I9, q9⟩ => ?_
   -- the turn's end
   have fin : ∀ {s' : Shared} {H' : Hp}, Inv (X.blk s3 H3 scope ce fp) ([] ++ pinsAt fp s7.heap) σ8 H' s' -> Nx H' -> ∃ m, m < n /\ ∃ i H', Inv (X.blk s3 H3 scope ce fp) [] (wipe σ (own.map (·.2))) H' s' /\ tn i s'.heap /\ (∀ b ∈ fp, H' b = none) /\ W i m H' := fun {s' H'} I' nx => by
    obtain ⟨m', hm, w'⟩ := hNx H' nx
    have pin' : ∀ b ∈ fp, ∀ o, s7.heap.get? b = some o -> s'.heap.get? b = some o /\ H' b = none := fun b hb o e =>
     let z := I'.pin (b, o) (List.mem_append_right _ (List.mem_append_right _ (mem_pinsAt hb e)))
     ⟨z.1, z.2.1⟩
    have hl : (wipe σ (own.map (·.2))).length = σ8.length := by rw [<- hw8, wipe_length]
    refine ⟨m', hm, i + 1, H', (I'.unpinned (pins := [])).weak hl (fun j v e => ?_), T.keep _ _ _ st7 fun b hb o e => (pin' b hb o e).1, fun b hb => ?_, w'⟩
    ·rw [<- hw8] at e
     exact (wipe_some e).1
    ·obtain ⟨o, e, _⟩ := T.obj _ _ st7 b hb
     exact (pin' b hb o e).2
   cases b with
   | false =>
    simp only [Bool.false_eq_true, if_false] at q9 ⊢
    exact fin I9 q9
   | true =>
    simp only [if_true] at q9 ⊢
    refine thnF (pe _ s9 σ8 H9 _ I9 q9) fun z s10 ⟨yv, H10, I10, r10, acc, hD10, hz10, nx⟩ => ?_
    exact app_ok (X := X.blk s3 H3 scope ce fp) I10 hD10 hz10 r10 fun s11 I11 => fin I11 nx
 exact codeAny_compStart_list loop (T.self X.A 0 _ _ _ st4 loop)
theorem pe_lc {elt tg iter : Expr} {ifs : List Expr} {scope : Scope} {own : List (Str × Nat)} {pos : Pos} {wi : TI} {g : TG} {tt : TT} {te : TE} (hc : X.calm = true) (hN : X.N.Nodup) (hi : PI X tg iter wi) (ok : BlkOk X.N X.env.scope scope own)
  (hg : ∀ (s : Shared) (H : Hp) (C : Addr) (cl : List (Str × Addr)) (fp : List Addr), PG (X.blk s H scope (compEnvC scope cl C X.env) fp) tg g) (ht : ∀ (s : Shared) (H : Hp) (C : Addr) (cl : List (Str × Addr)) (fp : List Addr), PTs (X.blk s H scope (compEnvC scope cl C X.env) fp) ifs tt)
  (he : ∀ (s : Shared) (H : Hp) (C : Addr) (cl : List (Str × Addr)) (fp : List Addr), PE (X.blk s H scope (compEnvC scope cl C X.env) fp) elt te) (hs : ∀ x, foldedSetIterable iter X.env x = pure x := by intro _; rfl) :
  PE X (.ListComp elt [⟨tg, iter, ifs, 0⟩] scope pos) (tLc wi g tt te (own.map (·.2))) := by
 intro pins s σ H Q I h
 rw [eval_ListComp]
 refine lc_core hc hN I hi ok hg ht he hs h fun D C s' m H' I' q hn f => ⟨m, hn, fun h'' sb => ?_⟩
 obtain ⟨f0, f1, f2, f3, f4, f5⟩ := f
 exact ⟨.ref D, H', I'.turned (t' := s'.toks) (fun b o hb e => (sb.2 b hb).trans e) f0 f1 f3 f4 f5, rfl, q⟩
theorem ps_setLc {i : Nat} {y : Str} {py : Pos} {elt tg iter : Expr} {ifs : List Expr} {scope : Scope} {own : List (Str × Nat)} {pos spos : Pos} {wi : TI} {g : TG} {tt : TT} {te : TE} (hc : X.calm = true) (hN : X.N.Nodup) (hy : X.N[i]? = some y) (hyl : X.env.scope.names.lookup y = some .local)
  (hsw : swapsWith (.ListComp elt [⟨tg, iter, ifs, 0⟩] scope pos) (some (.Name y py)) spos.line X.env = pure true) (hi : PI X tg iter wi) (ok : BlkOk X.N X.env.scope scope own)
  (hg : ∀ (s : Shared) (H : Hp) (C : Addr) (cl : List (Str × Addr)) (fp : List Addr), PG (X.blk s H scope (compEnvC scope cl C X.env) fp) tg g) (ht : ∀ (s : Shared) (H : Hp) (C : Addr) (cl : List (Str × Addr)) (fp : List Addr), PTs (X.blk s H scope (compEnvC scope cl C X.env) fp) ifs tt)
  (he : ∀ (s : Shared) (H : Hp) (C : Addr) (cl : List (Str × Addr)) (fp : List Addr), PE (X.blk s H scope (compEnvC scope cl C X.env) fp) elt te) (hs : ∀ x, foldedSetIterable iter X.env x = pure x := by intro _; rfl) :
  PS X (.Assign [.Name y py] (.ListComp elt [⟨tg, iter, ifs, 0⟩] scope pos) spos) (tAsg (tLc wi g tt te (own.map (·.2))) (gName i)) := by
 intro pins s σ H D I h
 rw [exec_Assign_Name_used _ _ _ _ hsw]
 refine wpAny_bind (wpAny_standAt (wpAny_bind ?_))
 show wpAny _ X.A (do let _ <- comprehension (.ListComp elt [⟨tg, iter, ifs, 0⟩] scope pos) scope X.env (firstIterPos [⟨tg, iter, ifs, 0⟩] pos) (newList []) false (eval iter X.env) (some (assign (.Name y py) X.env))) _ _ s
 have h : tLc wi g tt te (own.map (·.2)) σ H (fun x H1 => gName i x σ H1 D.nx) := h
 refine wpAny_bind (thn (lc_core (Qf := fun _ s' => SP X pins D .next s') hc hN I hi ok hg ht he hs h fun L C s' m H' I' q hn f => ?_) fun _ s' hq => wpAny_pure (wpAny_pure hq))
 show wpAny _ _ (assign (.Name y py) X.env (.ref L)) _ _ _
 refine wpAny_assign_Name (store_ok2 (v := V.ref L) I' hN hy (.inl hyl) rfl (fun s2 I2 ⟨a, sb, ha⟩ => ?_) (.inr hyl))
 obtain ⟨f0, f1, f2, f3, f4, f5⟩ := f
 have haC : C ≠ a := by
  rcases ha with z | z
  ·rw [z]; exact f1
  ·exact fun e => f4 y a z e.symm
 refine ⟨m, hn.sameBut sb haC, fun h3 sb3 => ?_⟩
 exact ⟨_, H', I2.turned (t' := s2.toks) (fun b o hb e => (sb3.2 b hb).trans e) f0 f1 f3 f4 f5, q⟩
theorem sw_true {elt : Expr} {gs : List Comprehension} {scope : Scope} {pos py : Pos} {y : Str} {l : Nat} {env : Env} (hk : env.scope.kind = .function) (hy : env.scope.names.lookup y = some .local) (hl : (py.line == pos.line) = true)
  (ha : (scope.names.any fun (n, k) => n == y && (k == .local || k == .cell)) = false) : swapsWith (.ListComp elt gs scope pos) (some (.Name y py)) l env = pure true := by
 have ky : env.kindOf y = some .local := hy
 have hb : env.blockKind = .function := by unfold Env.blockKind; rw [hk]; rfl
 unfold swapsWith
 simp only [hb, ky, ha, Expr.pos, hl]
 rfl
end
theorem lc_range {lo : Int} {n : Nat} {g : TG} {tt : TT} {te : TE} {vs : List Nat} {σ : St} {H1 : Hp} {D : Addr} {Qd : Hp -> Prop} (Pv : Nat -> Hp -> Prop) (h0 : Pv 0 (upd H1 D (.lst [])))
  (hs : ∀ i H, i < n -> Pv i H -> g (.int (lo + i)) (wipe σ vs) H fun σ2 H2 => wipe σ2 vs = wipe σ vs /\ tt σ2 H2 fun b H3 =>
   if b = true then te σ2 H3 fun y H4 => ∃ acc, H4 D = some (.lst acc) /\ acc.length < sizeLine /\ Pv (i + 1) (upd H4 D (.lst (acc ++ [y]))) else Pv (i + 1) H3) (hd : ∀ H, Pv n H -> Qd H) :
  ∃ W : Nat -> Nat -> Hp -> Prop, (∃ m, W 0 m (upd H1 D (.lst []))) /\ ∀ i m H, W i m H ->
   ((Itr lo n).stop i H /\ Qd H) ∨ ((Itr lo n).go i H /\ ∃ Nx : Hp -> Prop, (∀ H', Nx H' -> ∃ m', m' < m /\ W (i + 1) m' H') /\ ∀ x H', (Itr lo n).yld i H x H' -> g x (wipe σ vs) H' fun σ2 H2 => wipe σ2 vs = wipe σ vs /\ tt σ2 H2 fun b H3 =>
    if b = true then te σ2 H3 fun y H4 => ∃ acc, H4 D = some (.lst acc) /\ acc.length < sizeLine /\ Nx (upd H4 D (.lst (acc ++ [y]))) else Nx H3) := by
 refine ⟨fun i m H => m = n - i /\ i <= n /\ Pv i H, ⟨n, by simp, Nat.zero_le _, h0⟩, ?_⟩
 rintro i m H ⟨rfl, hi, p⟩
 by_cases hlt : i < n
 ·refine .inr ⟨hlt, Pv (i + 1), fun H' p' => ⟨n - (i + 1), by omega, rfl, hlt, p'⟩, fun x H' y => ?_⟩
  obtain ⟨e, y⟩ := y
  subst e y
  exact hs i _ hlt p
 ·have e : i = n := by omega
  subst e
  exact .inl ⟨Nat.le_refl _, hd H p⟩
theorem lc_list {K : PySem.W.Frag} {a : Addr} {xs : List V} {g : TG} {tt : TT} {te : TE} {vs : List Nat} {σ : St} {H1 : Hp} {D : Addr} {Qd : Hp -> Prop} (Pv : Nat -> Hp -> Prop) (h0 : Pv 0 (upd H1 D (.lst []))) (hl : ∀ i H, i <= xs.length -> Pv i H -> SqL K H a xs)
  (hs : ∀ i x H, xs[i]? = some x -> Pv i H -> g x (wipe σ vs) H fun σ2 H2 => wipe σ2 vs = wipe σ vs /\ tt σ2 H2 fun b H3 =>
   if b = true then te σ2 H3 fun y H4 => ∃ acc, H4 D = some (.lst acc) /\ acc.length < sizeLine /\ Pv (i + 1) (upd H4 D (.lst (acc ++ [y]))) else Pv (i + 1) H3) (hd : ∀ H, Pv xs.length H -> Qd H) :
  ∃ W : Nat -> Nat -> Hp -> Prop, (∃ m, W 0 m (upd H1 D (.lst []))) /\ ∀ i m H, W i m H ->
   ((Itl K a).stop i H /\ Qd H) ∨ ((Itl K a).go i H /\ ∃ Nx : Hp -> Prop, (∀ H', Nx H' -> ∃ m', m' < m /\ W (i + 1) m' H') /\ ∀ x H', (Itl K a).yld i H x H' -> g x (wipe σ vs) H' fun σ2 H2 => wipe σ2 vs = wipe σ vs /\ tt σ2 H2 fun b H3 =>
    if b = true then te σ2 H3 fun y H4 => ∃ acc, H4 D = some (.lst acc) /\ acc.length < sizeLine /\ Nx (upd H4 D (.lst (acc ++ [y]))) else Nx H3) := by
 refine ⟨fun i m H => m = xs.length - i /\ i <= xs.length /\ Pv i H, ⟨xs.length, by simp, Nat.zero_le _, h0⟩, ?_⟩
 rintro i m H ⟨rfl, hi, p⟩
 have q := hl i H hi p
 by_cases hlt : i < xs.length
 ·refine .inr ⟨⟨xs, xs[i], q, by simp [hlt]⟩, Pv (i + 1), fun H' p' => ⟨xs.length - (i + 1), by omega, rfl, hlt, p'⟩, fun x H' y => ?_⟩
  obtain ⟨e, y⟩ := y
  subst e
  exact hs i x _ (y xs q) p
 ·have e : i = xs.length := by omega
  subst e
  exact .inl ⟨⟨xs, q, Nat.le_refl _⟩, hd H p⟩
def blkC (N : List Str) (sc scope : Scope) (own : List (Str × Nat)) : Bool :=
 (match scope.kind with | .function => true | _ => false) && (scope.names.all fun y => decide (scope.names.lookup y.1 = some y.2)) && (own.all fun p => decide (N[p.2]? = some p.1)) &&
  (scope.names.all fun y => match y.2 with
   | .free => (match sc.names.lookup y.1 with | some .cell => true | some .free => true | _ => false)
   | .local => decide (y.1 ∈ own.map (·.1)) || decide (y.1 ∉ N)
   | .cell => decide (y.1 ∈ own.map (·.1)) || decide (y.1 ∉ N)
   | _ => true)
theorem blkOk_by {N : List Str} {sc scope : Scope} {own : List (Str × Nat)} (h : blkC N sc scope own = true) : BlkOk N sc scope own := by
 unfold blkC at h
 simp only [Bool.and_eq_true, List.all_eq_true, decide_eq_true_eq] at h
 obtain ⟨⟨⟨h1, h2⟩, h3⟩, h4⟩ := h
 refine ⟨?_, h2, h3, fun y hy e => ?_, fun y hy e => ?_⟩
 ·split at h1
  ·assumption
  ·cases h1
 ·have q := h4 y hy
  simp only [e] at q
  split at q <;> first | exact .inl (by assumption) | exact .inr (by assumption) | cases q
 ·have q := h4 y hy
  rcases e with e | e <;> (simp only [e, Bool.or_eq_true, decide_eq_true_eq] at q; exact q)
end L2
namespace L2
open PySem PySem.Spec PyProof.Rows
section
variable {prog : Program} {w : World} {A : Around} {R : Result -> Shared -> Prop} {s : Shared} {elt t0 i0 t1 i1 : Expr} {ifs0 ifs1 : List Expr} {scope : Scope} {pos : Pos} {it acc : Value} {env : Env}
end
section
variable {X : Cx}
end
end L2
namespace L2
open PySem PySem.Spec PyProof.Rows
section
variable {κ : Type} [DecidableEq κ]
def valV (kvs : List (κ × V)) (k : κ) : Option V := (kvs.find? fun kv => decide (kv.1 = k)).map (·.2)
def putK (kvs : List (κ × V)) (k : κ) (v : V) : List (κ × V) :=
 if (kvs.any fun kv => decide (kv.1 = k)) = true then kvs.map (fun kv => if kv.1 = k then (kv.1, v) else kv) else kvs ++ [(k, v)]
def dropK (kvs : List (κ × V)) (k : κ) : List (κ × V) := kvs.filter fun kv => decide (kv.1 ≠ k)
theorem valV_pos {p : κ × V} {r : List (κ × V)} {k : κ} (e : p.1 = k) : valV (p :: r) k = some p.2 := by simp [valV, List.find?_cons, e]
theorem valV_neg {p : κ × V} {r : List (κ × V)} {k : κ} (e : ¬ p.1 = k) : valV (p :: r) k = valV r k := by simp [valV, List.find?_cons, e]
theorem valV_any (k : κ) : ∀ kvs : List (κ × V), (kvs.any fun kv => decide (kv.1 = k)) = (valV kvs k).isSome
 | [] => rfl
 | p :: r => by
  rw [List.any_cons]
  by_cases e : p.1 = k
  ·simp only [valV_pos e, decide_eq_true e, Bool.true_or, Option.isSome_some]
  ·rw [valV_neg e, decide_eq_false e, Bool.false_or]; exact valV_any k r
theorem length_putK (kvs : List (κ × V)) (k : κ) (v : V) : (putK kvs k v).length <= kvs.length + 1 := by
 unfold putK
 split
 ·rw [List.length_map]; omega
 ·rw [List.length_append, List.length_cons, List.length_nil]; omega
theorem putK_new {kvs : List (κ × V)} {k : κ} (v : V) (h : valV kvs k = none) : putK kvs k v = kvs ++ [(k, v)] := by
 unfold putK
 rw [valV_any, h]
 exact if_neg (by decide)
theorem RelO.isSome_eq {o : Option V} {u : Option Value} (r : RelO o u) : o.isSome = u.isSome := by
 cases o with
 | none => cases u with
  | none => rfl
  | some _ => exact (show False from r).elim
 | some _ => cases u with
  | none => exact (show False from r).elim
  | some _ => rfl
theorem RelO.getD {o : Option V} {u : Option Value} {d : V} {d' : Value} (r : RelO o u) (rd : RelV d d') : RelV (o.getD d) (u.getD d') := by
 cases o with
 | none => cases u with
  | none => exact rd
  | some _ => exact (show False from r).elim
 | some _ => cases u with
  | none => exact (show False from r).elim
  | some _ => exact r
theorem KV.val {kvs : List (κ × V)} {vs : List (κ × Value)} (r : KV kvs vs) (k : κ) : RelO (valV kvs k) (valueAt vs k) := by
 unfold KV at r
 induction r with
 | nil => exact True.intro
 | @cons p q ps qs h t ih =>
  obtain ⟨h1, h2⟩ := h
  by_cases e : p.1 = k
  ·have e' : q.1 = k := h1.symm.trans e
   have b : valueAt (q :: qs) k = some q.2 := by simp [valueAt, List.find?_cons, e']
   rw [valV_pos e, b]; exact h2
  ·have e' : ¬ q.1 = k := fun z => e (h1.trans z)
   have b : valueAt (q :: qs) k = valueAt qs k := by simp [valueAt, List.find?_cons, e']
   rw [valV_neg e, b]; exact ih
theorem KV.any {kvs : List (κ × V)} {vs : List (κ × Value)} (r : KV kvs vs) (k : κ) : (kvs.any fun kv => decide (kv.1 = k)) = vs.any fun kv => decide (kv.1 = k) := by
 unfold KV at r
 induction r with
 | nil => rfl
 | cons h t ih => rw [List.any_cons, List.any_cons, ih, h.1]
theorem KV.repl {kvs : List (κ × V)} {vs : List (κ × Value)} (r : KV kvs vs) (k : κ) {y : V} {u : Value} (ry : RelV y u) :
  KV (kvs.map fun kv => if kv.1 = k then (kv.1, y) else kv) (vs.map fun kv => if kv.1 = k then (kv.1, u) else kv) := by
 unfold KV at r ⊢
 induction r with
 | nil => exact .nil
 | @cons p q ps qs h t ih =>
  rw [List.map_cons, List.map_cons]
  refine .cons ?_ ih
  obtain ⟨h1, h2⟩ := h
  by_cases e : p.1 = k
  ·rw [if_pos e, if_pos (h1.symm.trans e)]; exact ⟨h1, ry⟩
  ·rw [if_neg e, if_neg (fun z => e (h1.trans z))]; exact ⟨h1, h2⟩
theorem KV.put {kvs : List (κ × V)} {vs : List (κ × Value)} (r : KV kvs vs) (k : κ) {y : V} {u : Value} (ry : RelV y u) : KV (putK kvs k y) (stored vs k u) := by
 unfold putK stored
 rw [r.any k]
 by_cases e : (vs.any fun kv => decide (kv.1 = k)) = true
 ·rw [if_pos e, if_pos e]; exact r.repl k ry
 ·rw [if_neg e, if_neg e]; exact Paired.snoc r ⟨rfl, ry⟩
theorem KV.length {kvs : List (κ × V)} {vs : List (κ × Value)} (r : KV kvs vs) : kvs.length = vs.length := Paired.length r
theorem dropK_le (kvs : List (κ × V)) (k : κ) : (dropK kvs k).length <= kvs.length := List.length_filter_le _ _
end
theorem kV_is {P : Program} {w : World} {k : Key} {u : Value} (r : RelV (kV k) u) : (mixKind P w).is k u = true := by
 cases k with
 | inl i => obtain ⟨t, e⟩ := (show ∃ t, u = Value.int i t from r); subst e; exact mixKind_int P w i t
 | inr x => obtain ⟨t, e⟩ := (show ∃ t, u = Value.str x t from r); subst e; exact mixKind_str P w x t
theorem items_are {P : Program} {w : World} : ∀ {ks : List Key} {us : List Value}, Vals (ks.map kV) us -> ItemsAre (mixKind P w) ks us
 | [], _, r => by rw [List.map_nil] at r; cases r; exact .nil
 | k :: ks, _, r => by
  rw [List.map_cons] at r
  cases r with
  | cons h t => exact .cons (kV_is h) (items_are t)
abbrev KT (H : Hp) : List (List Key × V) -> List (List Key × Addr × Value) -> Prop := Paired fun p q => p.1 = q.1 /\ H q.2.1 = some (.tup (p.1.map kV)) /\ RelV p.2 q.2.2
theorem KT.val {H : Hp} {kvs : List (List Key × V)} {xs : List (List Key × Addr × Value)} (r : KT H kvs xs) (k : List Key) : RelO (valV kvs k) ((atKey xs k).map (·.2)) := by
 induction r with
 | nil => exact True.intro
 | @cons p q ps qs h t ih =>
  obtain ⟨h1, _, h2⟩ := h
  by_cases e : p.1 = k
  ·have e' : q.1 = k := h1.symm.trans e
   have b : atKey (q :: qs) k = some q.2 := by simp [atKey, List.find?_cons, e']
   rw [valV_pos e, b]; exact h2
  ·have e' : ¬ q.1 = k := fun z => e (h1.trans z)
   have b : atKey (q :: qs) k = atKey qs k := by simp [atKey, List.find?_cons, e']
   rw [valV_neg e, b]; exact ih
theorem KT.repl {H : Hp} {kvs : List (List Key × V)} {xs : List (List Key × Addr × Value)} (r : KT H kvs xs) (k : List Key) {y : V} {u : Value} (ry : RelV y u) :
  KT H (kvs.map fun kv => if kv.1 = k then (kv.1, y) else kv) (xs.map (putAt k u)) := by
 induction r with
 | nil => exact .nil
 | @cons p q ps qs h t ih =>
  rw [List.map_cons, List.map_cons]
  refine .cons ?_ ih
  obtain ⟨h1, h2, h3⟩ := h
  unfold putAt
  by_cases e : p.1 = k
  ·rw [if_pos e, if_pos (h1.symm.trans e)]; exact ⟨h1, h2, ry⟩
  ·rw [if_neg e, if_neg (fun z => e (h1.trans z))]; exact ⟨h1, h2, h3⟩
theorem KT.put {H : Hp} {kvs : List (List Key × V)} {xs : List (List Key × Addr × Value)} (r : KT H kvs xs) (k : List Key) {b : Addr} {y : V} {u : Value} (hb : H b = some (.tup (k.map kV))) (ry : RelV y u) :
  KT H (putK kvs k y) (storedH xs k b u) := by
 have e : (kvs.any fun kv => decide (kv.1 = k)) = (atKey xs k).isSome := by
  rw [valV_any, (r.val k).isSome_eq, Option.isSome_map]
 unfold putK storedH
 rw [e]
 by_cases q : (atKey xs k).isSome = true
 ·rw [if_pos q, if_pos q]; exact r.repl k ry
 ·rw [if_neg q, if_neg q]; exact Paired.snoc r ⟨rfl, hb, ry⟩
theorem KT.keeps {H H' : Hp} {kvs : List (List Key × V)} {xs : List (List Key × Addr × Value)} (r : KT H kvs xs) (ht : ∀ b ys, H b = some (.tup ys) -> H' b = some (.tup ys)) : KT H' kvs xs :=
 Paired.mapP r fun _ _ z => ⟨z.1, ht _ _ z.2.1, z.2.2⟩
section
variable {P : Program} {w : World} {H : Hp} {h : Heap} {a : Addr}
theorem rd_of {u : HO} (ok : HOk P w H h) (e : Rd H a u) : ObjOk P w H h a u := e.ok ok
theorem dk_rd {kvs : List (Key × V)} (ok : HOk P w H h) (e : Rd H a (.dK kvs)) : kvs.length <= sizeLine /\ (a == sysModules) = false /\ ∃ vs, KV kvs vs /\ h.DictOf (mixKind P w) a vs :=
 show ObjOk P w H h a (.dK kvs) from rd_of ok e
theorem dk_of {kvs : List (Key × V)} (ok : HOk P w H h) (e : H a = some (.dK kvs)) : kvs.length <= sizeLine /\ (a == sysModules) = false /\ ∃ vs, KV kvs vs /\ h.DictOf (mixKind P w) a vs := dk_rd ok (.inl e)
theorem key_of {ks : List Key} (ok : HOk P w H h) (e : H a = some (.tup (ks.map kV))) : (tupleKind (mixKind P w)).is h ks a := by
 obtain ⟨_, its, r, o, h1, h2, n, h3⟩ := (show ObjOk P w H h a (.tup (ks.map kV)) from ok a _ e)
 exact ⟨o, its.toArray, n, h1, h2, h3, by simpa using items_are r⟩
theorem dt_rd {kvs : List (List Key × V)} (ok : HOk P w H h) (e : Rd H a (.dT kvs)) : kvs.length <= sizeLine /\ (a == sysModules) = false /\
  ∃ xs, KT H kvs xs /\ h.DictOfH (tupleKind (mixKind P w)) a xs := by
 obtain ⟨z, y, xs, r, o, es, ep, h1, h2, h3, h4, h5⟩ := (show ObjOk P w H h a (.dT kvs) from rd_of ok e)
 refine ⟨z, y, xs, r, o, es, ep, h1, h2, h3, h4, fun x hx => ?_, h5⟩
 have all : ∀ {l : List (List Key × V)} {m : List (List Key × Addr × Value)}, KT H l m -> ∀ x ∈ m, (tupleKind (mixKind P w)).is h x.1 x.2.1 := by
  intro l m q
  induction q with
  | nil => intro x hx; exact nomatch hx
  | @cons p q ps qs hq t ih =>
   intro x hx
   rcases List.mem_cons.mp hx with e | hx
   ·subst e
    exact key_of ok (by rw [<- hq.1]; exact hq.2.1)
   ·exact ih x hx
 exact all r x hx
theorem dt_of {kvs : List (List Key × V)} (ok : HOk P w H h) (e : H a = some (.dT kvs)) : kvs.length <= sizeLine /\ (a == sysModules) = false /\
  ∃ xs, KT H kvs xs /\ h.DictOfH (tupleKind (mixKind P w)) a xs := dt_rd ok (.inl e)
end
def DGet (H : Hp) (a : Addr) (y : V) (r : Option V) : Prop :=
 (∃ kvs k, Rd H a (.dK kvs) /\ y = kV k /\ r = valV kvs k) ∨ ∃ kvs k b, Rd H a (.dT kvs) /\ y = .ref b /\ H b = some (.tup (k.map kV)) /\ r = valV kvs k
def DPut (H : Hp) (a : Addr) (y v : V) (H' : Hp) : Prop :=
 (∃ kvs k, H a = some (.dK kvs) /\ y = kV k /\ kvs.length < sizeLine /\ H' = upd H a (.dK (putK kvs k v))) ∨
 ∃ kvs k b, H a = some (.dT kvs) /\ y = .ref b /\ H b = some (.tup (k.map kV)) /\ kvs.length < sizeLine /\ H' = upd H a (.dT (putK kvs k v))
theorem DGet.t {H : Hp} {a b : Addr} {kvs : List (List Key × V)} {k : List Key} (e : H a = some (.dT kvs)) (eb : H b = some (.tup (k.map kV))) : DGet H a (.ref b) (valV kvs k) := .inr ⟨kvs, k, b, .inl e, rfl, eb, rfl⟩
theorem DPut.t {H : Hp} {a b : Addr} {kvs : List (List Key × V)} {k : List Key} {v : V} (e : H a = some (.dT kvs)) (eb : H b = some (.tup (k.map kV))) (hl : kvs.length < sizeLine) :
  DPut H a (.ref b) v (upd H a (.dT (putK kvs k v))) := .inr ⟨kvs, k, b, e, rfl, eb, hl, rfl⟩
section
variable {X : Cx} {pins : List (Addr × Obj)} {σ : St} {H : Hp} {s : Shared} {a : Addr} {y v : V} {u r : Value} {o : Option V} {A : Around} {E : Value -> Shared -> Prop}
theorem Inv.big (I : Inv X pins σ H s) : sysModules < s.heap.objs.size := by
 have h : mainGlobals < s.heap.objs.size := (I.mod.glob.keeps I.bk).lt
 exact Nat.lt_trans (by decide) h
theorem d_getItem {Q : Value -> Shared -> Prop} (hu : A.units + 1 < cLine) (I : Inv X pins σ H s) (g : DGet H a y (some v)) (ry : RelV y u) (h : ∀ w' s', Inv X pins σ H s' -> RelV v w' -> Q w' s') :
  wpAny (model X.prog X.w) A (getItem (.ref a) u) Q E s := by
 rcases g with ⟨kvs, k, e, ey, l⟩ | ⟨kvs, k, b, e, ey, eb, l⟩
 ·subst ey
  obtain ⟨z, hd, vs, rel, dd⟩ := dk_rd I.hok e
  obtain ⟨w', hw, rw'⟩ := RelO.some_of (v := v) (o := valueAt vs k) (by rw [l]; exact rel.val k)
  exact wpAny_getItem_of (kV_is ry) dd.mapOf hw (h w' _ (I.tok _) rw')
 ·subst ey
  cases (show u = Value.ref b from ry)
  obtain ⟨z, hd, xs, rel, dd⟩ := dt_rd I.hok e
  obtain ⟨w', hw, rw'⟩ := RelO.some_of (v := v) (o := (atKey xs k).map (·.2)) (by rw [l]; exact rel.val k)
  obtain ⟨p, hp, hp2⟩ := Option.map_eq_some_iff.mp hw
  refine wpAny_getItem_heap (tupleKind_room_in1 hu) (key_of I.hok eb) dd hp ?_
  rw [hp2]
  exact h w' _ (I.tok _) rw'
theorem d_write {h' : Heap} {t' : Nat} {ob : HO} (I : Inv X pins σ H s) (mu : Mut (H a)) (hs : Heap.SameBut a s.heap h') (he : ∃ q, h'.get? a = some q) (new : ObjOk X.prog X.w (upd H a ob) h' a ob) :
  Inv X pins σ (upd H a ob) { s with heap := h', toks := t' } :=
 I.write (x := a) (e := a) mu (.inl rfl) (fun b q hb z => (hs.2 b hb).trans z) he new
theorem dk_new {P : Program} {w : World} {H' : Hp} {h' : Heap} {kvs : List (Key × V)} {vs : List (Key × Value)} (z : kvs.length <= sizeLine) (hd : (a == sysModules) = false) (rel : KV kvs vs) (dd : h'.DictOf (mixKind P w) a vs) :
  ObjOk P w H' h' a (.dK kvs) := ⟨z, hd, vs, rel, dd⟩
theorem d_setItem {H' : Hp} {Q : Unit -> Shared -> Prop} (hu : A.units + 1 < cLine) (I : Inv X pins σ H s) (g : DPut H a y v H') (ry : RelV y u) (rv : RelV v r) (h : ∀ s', Inv X pins σ H' s' -> Q () s') :
  wpAny (model X.prog X.w) A (setItem (.ref a) u r) Q E s := by
 rcases g with ⟨kvs, k, e, ey, l, eH⟩ | ⟨kvs, k, b, e, ey, eb, l, eH⟩
 ·subst ey eH
  obtain ⟨z, hd, vs, rel, dd⟩ := dk_of I.hok e
  have hz : vs.length <= sizeLine := by rw [<- rel.length]; exact z
  have hl : (putK kvs k v).length <= sizeLine := by have := length_putK kvs k v; omega
  refine wpAny_setItem_pairs (hsz := hz) (kV_is ry) dd fun h' dd' hs => h _ ?_
  have he : ∃ q, h'.get? a = some q := let ⟨q, _, _, hq, _⟩ := dd'; ⟨q, hq⟩
  exact d_write I (by rw [e]; exact True.intro) hs he (dk_new hl hd (rel.put k rv) dd')
 ·subst ey eH
  cases (show u = Value.ref b from ry)
  obtain ⟨z, hd, xs, rel, dd⟩ := dt_of I.hok e
  have hz : xs.length <= sizeLine := by rw [<- Paired.length rel]; exact z
  have hl : (putK kvs k v).length <= sizeLine := by have := length_putK kvs k v; omega
  refine wpAny_setItem_heap (hsz := hz) (tupleKind_room_in1 hu) (key_of I.hok eb) dd fun h' dd' hs => h _ ?_
  obtain ⟨q, es, ep, hq, h2, h3, h4, _, h5⟩ := dd'
  refine d_write I (by rw [e]; exact True.intro) hs ⟨q, hq⟩ ⟨hl, hd, _, (rel.put k eb rv).keeps fun c ys ec => ?_, q, es, ep, hq, h2, h3, h4, h5⟩
  rw [upd_ne (ne_of ec e (fun z => nomatch z))]
  exact ec
end
section
variable {X : Cx} {pins : List (Addr × Obj)} {σ : St} {H : Hp} {s : Shared} {a : Addr} {kvs : List (Key × V)} {k : Key} {u : Value} {A : Around} {E : Value -> Shared -> Prop}
end
def NoSl (i : Expr) : Prop := ∀ ov iv, subscripted i false ov iv = operate [ov, iv] (getItem ov iv)
theorem subD_of {prog : Program} {w : World} {A : Around} {E : Value -> Shared -> Prop} {s : Shared} {env : Env} {value slice : Expr} {pos : Pos} {T id : String} {Q : Value -> Shared -> Prop}
  (hl : typeLookup (.type T) "__getitem__" = pure (some (.builtin id))) (hs : NoSl slice)
  (h : wpAny (model prog w) A (eval value env) (fun o s₁ => wpAny (model prog w) A (eval slice env) (fun i s₂ => s₂.TypeIs o T /\ wpAny (model prog w) A (getItem o i) Q E s₂) E s₁) E s) :
  wpAny (model prog w) A (eval (.Subscript value slice pos) env) Q E s := by
 refine Subscript_ (wpAny_mono h (fun o s₁ h₁ => wpAny_mono h₁ (fun i s₂ h₂ => ?_) fun _ _ x => x) fun _ _ x => x)
 obtain ⟨hT, h₂⟩ := h₂
 unfold subscriptTail
 refine wpAny_bind ?_
 rw [getitemInPython_of_ne hT.not_modules]
 refine wpAny_bind (wpAny_specialOf hT hl ?_)
 have fin : wpAny (model prog w) A (subscripted slice false o i) (fun r s₃ => wpAny (model prog w) A (letTemporaryGo value o r >>= fun _ => pure r) Q E s₃) E s₂ := by
  rw [hs o i]
  exact wpAny_operating (wpAny_mono h₂ (fun r s₃ h₃ => wpAny_bind (wpAny_letTemporaryGo (wpAny_pure h₃))) fun _ _ x => x)
 first
  | exact wpAny_pure (wpAny_bind fin)
  | exact wpAny_bind (wpAny_pure (wpAny_bind fin))
  | exact wpAny_bind fin
theorem dict_typeIs {X : Cx} {pins : List (Addr × Obj)} {σ : St} {H : Hp} {s : Shared} {a : Addr} {y : V} {o : Option V} (I : Inv X pins σ H s) (g : DGet H a y o) : s.TypeIs (.ref a) "dict" := by
 rcases g with ⟨kvs, k, e, _, _⟩ | ⟨kvs, k, b, e, _, _, _⟩
 ·obtain ⟨_, _, vs, _, dd⟩ := dk_rd I.hok e
  exact dd.typeIs
 ·obtain ⟨_, _, xs, _, dd⟩ := dt_rd I.hok e
  exact dd.typeIs
def tDGet (td ty : TE) : TE := fun σ H Q => td σ H fun x H1 => ty σ H1 fun y H2 => ∃ a v, x = .ref a /\ DGet H2 a y (some v) /\ Q v H2
def sDPut (td ty tv : TE) : TS := fun D σ H => tv σ H fun v H1 => td σ H1 fun x H2 => ty σ H2 fun y H3 => ∃ a H4, x = .ref a /\ DPut H3 a y v H4 /\ D.nx σ H4
section
variable {X : Cx} {o i e value : Expr} {pos pos' tpos : Pos} {td ty tv : TE}
theorem pe_dget (hu : X.A.units + 1 < cLine) (ho : PE X o td) (hi : PE X i ty) (hs : NoSl i) : PE X (.Subscript o i pos) (tDGet td ty) := by
 intro pins s σ H Q I h
 refine subD_of PySem.F.slot_dict_getitem.lookup hs (thn (ho pins s σ H _ I h) fun u s1 ⟨x, H1, I1, rx, q1⟩ => thn (hi pins s1 σ H1 _ I1 q1) fun iv s2 ⟨y, H2, I2, ry, a, v, ex, g, q2⟩ => ?_)
 subst ex
 obtain rfl : u = Value.ref a := rx
 exact ⟨dict_typeIs I2 g, d_getItem hu I2 g ry fun w' s3 I3 rw' => ⟨v, H2, I3, rw', q2⟩⟩
theorem ps_dput (hu : X.A.units + 1 < cLine) (ho : PE X o td) (hi : PE X i ty) (hv : PE X value tv) (hs : swapsWith value (some (.Subscript o i pos')) pos.line X.env = pure false) :
  PS X (.Assign [.Subscript o i pos'] value pos) (sDPut td ty tv) := by
 intro pins s σ H D I h
 refine wpAny_Assign_Subscript (thn (hv pins s σ H _ I h) fun r s1 ⟨v, H1, I1, rv, q1⟩ => thn (ho pins s1 σ H1 _ I1 q1) fun u s2 ⟨x, H2, I2, rx, q2⟩ => thn (hi pins s2 σ H2 _ I2 q2) fun iv s3 ⟨y, H3, I3, ry, a, H4, ex, g, q3⟩ => ?_) hs
 subst ex
 obtain rfl : u = Value.ref a := rx
 exact d_setItem hu I3 g ry rv fun s4 I4 => ⟨σ, H4, I4, q3⟩
end
theorem dt_empty {P : Program} {w : World} {H : Hp} (h : Heap) (hb : sysModules < h.objs.size) : ObjOk P w H (h.push { cls := .type "dict", data := .dict #[] }) h.objs.size (.dT []) :=
 ⟨Nat.zero_le _, beq_eq_false_iff_ne.mpr (Ne.symm (Nat.ne_of_lt hb)), [], .nil, _, #[], 0, Heap.get?_push_size _ rfl, ⟨rfl, rfl, rfl⟩, rfl, rfl, List.nodup_nil⟩
def tDNewT : TE := fun _ H Q => ∀ p, H p = none -> Q (.ref p) (upd H p (.dT []))
section
variable {X : Cx} {pos : Pos}
theorem pe_dnewT : PE X (.Dict [] [] pos) tDNewT := fun pins s σ H Q I h =>
 wpAny_Dict_empty ⟨.ref s.heap.objs.size, _, I.laid (a := s.heap.objs.size) (o := .dT []) (t' := s.toks) (fun _ _ q => Heap.get?_push_of_some _ q) (Nat.le_refl _) (dt_empty s.heap I.big), rfl, h _ (I.hok.fresh (Nat.le_refl _))⟩
end
structure M1 (X : Cx) (o : Expr) (m : Str) (apos : Pos) (e : Expr) (cpos : Pos) : Prop where
 base : attributeBase o m X.env (eval o X.env) = eval o X.env
 few : ((backTo cpos (starEach [e] X.env)).all (fun x => !x.1) && (backToKw cpos (keywordEach [] X.env)).all (fun x => x.1.isSome)
  && decide (([e] : List Expr).length + ([] : List Keyword).length + (if ([] : List Keyword).isEmpty then 0 else 1) < 30)) = true
 line : (apos.endLine == cpos.line) = true
 trees : backTo cpos (starEach [e] X.env) = [(false, eval e X.env)]
structure M2 (X : Cx) (o : Expr) (m : Str) (apos : Pos) (e f : Expr) (cpos : Pos) : Prop where
 base : attributeBase o m X.env (eval o X.env) = eval o X.env
 few : ((backTo cpos (starEach [e, f] X.env)).all (fun x => !x.1) && (backToKw cpos (keywordEach [] X.env)).all (fun x => x.1.isSome)
  && decide (([e, f] : List Expr).length + ([] : List Keyword).length + (if ([] : List Keyword).isEmpty then 0 else 1) < 30)) = true
 line : (apos.endLine == cpos.line) = true
 trees : backTo cpos (starEach [e, f] X.env) = [(false, eval e X.env), (false, eval f X.env)]
def IsD (H : Hp) (a : Addr) : Prop := (∃ kvs, Rd H a (.dK kvs)) ∨ ∃ kvs, Rd H a (.dT kvs)
theorem isD_at {X : Cx} {pins : List (Addr × Obj)} {σ : St} {H : Hp} {s : Shared} {a : Addr} (I : Inv X pins σ H s) (d : IsD H a) :
  s.TypeIs (.ref a) "dict" /\ (∀ b, Value.ref a = .ref b -> ∃ ob, s.heap.get? b = some ob /\ ob.dict = none) /\ (a == sysModules) = false := by
 rcases d with ⟨kvs, e⟩ | ⟨kvs, e⟩
 ·obtain ⟨_, hd, vs, _, dd⟩ := dk_rd I.hok e
  refine ⟨dd.typeIs, fun b q => ?_, hd⟩
  cases q
  obtain ⟨ob, _, _, h1, h2, _⟩ := dd
  exact ⟨ob, h1, h2.2.1⟩
 ·obtain ⟨_, hd, xs, _, dd⟩ := dt_rd I.hok e
  refine ⟨dd.typeIs, fun b q => ?_, hd⟩
  cases q
  obtain ⟨ob, _, _, h1, h2, _⟩ := dd
  exact ⟨ob, h1, h2.2.1⟩
section
variable {X : Cx} {pins : List (Addr × Obj)} {σ : St} {H : Hp} {s : Shared} {a : Addr} {y d : V} {u r : Value} {o : Option V} {A : Around} {E : Value -> Shared -> Prop}
theorem d_get1 {Q : Value -> Shared -> Prop} (hu : A.units + 1 < cLine) (I : Inv X pins σ H s) (g : DGet H a y o) (ry : RelV y u) (h : ∀ w' s', Inv X pins σ H s' -> RelV (o.getD .non) w' -> Q w' s') :
  wpAny (model X.prog X.w) A (call (.builtin "dict.get") [.ref a, u]) Q E s := by
 rcases g with ⟨kvs, k, e, ey, l⟩ | ⟨kvs, k, b, e, ey, eb, l⟩
 ·subst ey
  obtain ⟨z, hd, vs, rel, dd⟩ := dk_rd I.hok e
  refine call_meetsIn PySem.F.slot_dict_get dd.typeIs PySem.F.entry_dict_get (PySem.F.args_dict_get_2 _ _) (meets_dict_get (mixKind X.prog X.w) a (kV_is ry) hd) ⟨_, dd.mapOf, h _ _ (I.tok _) ?_⟩
  rw [l]
  exact (rel.val k).getD rfl
 ·subst ey
  cases (show u = Value.ref b from ry)
  obtain ⟨z, hd, xs, rel, dd⟩ := dt_rd I.hok e
  refine call_meetsIn PySem.F.slot_dict_get dd.typeIs PySem.F.entry_dict_get (PySem.F.args_dict_get_2 _ _) (meetsH_dict_get (tupleKind (mixKind X.prog X.w)) a b hd) ⟨tupleKind_room_in1 hu, k, xs, key_of I.hok eb, dd, h _ _ (I.tok _) ?_⟩
  rw [l]
  exact (rel.val k).getD rfl
end
def tDGet1 (td ty : TE) : TE := fun σ H Q => td σ H fun x H1 => ∃ a, x = .ref a /\ IsD H1 a /\ ty σ H1 fun y H2 => ∃ o, DGet H2 a y o /\ Q (o.getD .non) H2
section
variable {X : Cx} {o e f : Expr} {apos cpos : Pos} {td ty tx : TE}
theorem pe_dget1 (hu : X.A.units + 1 < cLine) (ho : PE X o td) (he : PE X e ty) (m : M1 X o "get" apos e cpos) : PE X (.Call (.Attribute o "get" apos) [e] [] cpos) (tDGet1 td ty) := by
 intro pins s σ H Q I h
 refine wpAny_Call_method m.base m.few m.line PySem.F.plainAttrs_dict PySem.F.slot_dict_get PySem.F.type_dict_get (thn (ho pins s σ H _ I h) fun u s1 ⟨x, H1, I1, rx, a, ex, d, q1⟩ => ?_)
 subst ex
 obtain rfl : u = Value.ref a := rx
 obtain ⟨t1, t2, _⟩ := isD_at I1 d
 refine ⟨t1, t2, ?_⟩
 rw [m.trees]
 refine Calls.callWith_builtin rfl (Calls.evalArgs_plain (Calls.spliced_cons (thn (he pins s1 σ H1 _ I1 q1) fun iv s2 ⟨y, H2, I2, ry, ov, g, q2⟩ => Calls.spliced_nil ?_)))
 exact d_get1 hu I2 g ry fun w' s3 I3 rw' => ⟨_, H2, I3, rw', q2⟩
end
section
variable {X : Cx} {pins : List (Addr × Obj)} {σ : St} {H : Hp} {s : Shared} {a : Addr} {kvs : List (Key × V)} {A : Around} {E : Value -> Shared -> Prop}
end
section
variable {X : Cx} {pins : List (Addr × Obj)} {σ : St} {H : Hp} {s : Shared} {a : Addr} {y : V} {u : Value} {A : Around} {E : Value -> Shared -> Prop}
end
end L2
namespace L2
open PySem PySem.Spec PyProof.Rows
section
variable {prog : Program} {w : World} {A : Around} {E : Value -> Shared -> Prop}
end
section
variable {X : Cx}
end
end L2
namespace L2
open PySem PySem.Spec PyProof.Rows
section
variable {X : Cx} {pins : List (Addr × Obj)} {σ : St} {H : Hp} {s : Shared} {h' : Heap}
theorem Inv.lock {d : Addr} {u : HO} (I : Inv X pins σ H s) (h : H d = some u) (mu : Mut (some u)) : ∃ od, Inv X pins σ (upd H d (.frz od u)) s := by
 have x := I.hok d u h
 have ex : ∃ od, s.heap.get? d = some od := by
  cases u with
  | lst xs => obtain ⟨_, _, _, _, e⟩ := x; exact ⟨_, e⟩
  | dK kvs => obtain ⟨_, _, _, _, o, _, _, e, _⟩ := x; exact ⟨o, e⟩
  | dT kvs => obtain ⟨_, _, _, _, o, _, _, e, _⟩ := x; exact ⟨o, e⟩
  | set S n => obtain ⟨o, _, _, _, e, _⟩ := x; exact ⟨o, e⟩
  | ins C dx fs => obtain ⟨_, _, _, e, _⟩ := x; exact ⟨_, e⟩
  | ext φ => obtain ⟨_, ⟨_, e⟩, _⟩ := x; exact ⟨_, e⟩
  | _ => exact False.elim mu
 obtain ⟨od, e⟩ := ex
 have new : ObjOk X.prog X.w (upd H d (.frz od u)) s.heap d (.frz od u) := by
  refine ⟨e, x.stay (fun b v _ q => q) (fun b q => ?_) fun b xs q => ?_⟩
  ·rw [upd_ne (fun z => by rw [z, h] at q; cases q; exact mu)]; exact q
  ·rw [upd_ne (fun z => by rw [z, h] at q; cases q; exact mu)]; exact q
 exact ⟨od, I.write (x := d) (e := d) (t' := s.toks) (h' := s.heap) (by rw [h]; exact mu) (.inl rfl) (fun b v _ q => q) ⟨od, e⟩ new⟩
theorem Inv.nofrz {d : Addr} {u : HO} (I : Inv X pins σ H s) (h : H d = some u) (mu : Mut (some u)) : ∀ o' u', X.H_0 d ≠ some (.frz o' u') := fun o' u' e => by
 have q := I.base.frzs d o' u' e
 rw [h] at q
 cases q
 exact mu
theorem Inv.unlock {d : Addr} {od : Obj} {u : HO} (I : Inv X pins σ H s) (h : H d = some (.frz od u)) (hn : ∀ o' u', X.H_0 d ≠ some (.frz o' u')) : Inv X pins σ (upd H d u) s := by
 have neH : ∀ b o, H b = some o -> (∀ o' u', o ≠ .frz o' u') -> b ≠ d := fun b o e hne z => by
  rw [z, h] at e
  cases e
  exact hne _ _ rfl
 have neN : ∀ b, H b = none -> b ≠ d := fun b e z => by rw [z, h] at e; cases e
 refine ⟨I.ok, I.os, I.bare, ⟨I.base.keep, I.base.slot, fun b o e n hx => ?_, I.base.there, fun b xs e => ?_, fun b o x e => ?_, fun b ps e => ?_⟩, I.loc, I.cell, ?_, fun x c e => ?_, fun p hp => ?_, fun b o e => ?_, I.len⟩
 ·rw [upd_ne (neN b (I.base.free b o e n hx))]; exact I.base.free b o e n hx
 ·have q := I.base.tups b xs e
  rw [upd_ne (neH b _ q (fun _ _ z => nomatch z))]; exact q
 ·have q := I.base.frzs b o x e
  rw [upd_ne (fun z => by rw [z] at e; exact hn _ _ e)]; exact q
 ·obtain ⟨m, q⟩ := I.base.tbls b ps e
  exact ⟨m, by rw [upd_ne (neH b _ q (fun _ _ z => nomatch z))]; exact q⟩
 ·rw [upd_ne (neN _ I.free)]; exact I.free
 ·rw [upd_ne (neN c (I.freeC x c e))]; exact I.freeC x c e
 ·obtain ⟨e, n, r⟩ := I.pin p hp
  exact ⟨e, by rw [upd_ne (neN _ n)]; exact n, r⟩
 ·by_cases hb : b = d
  ·rw [hb, upd_same] at e
   cases e
   rw [hb]
   obtain ⟨_, x⟩ := I.hok d _ h
   exact x.stay (fun c v _ q => q) (fun c q => by rw [upd_ne (neH c _ q (fun _ _ z => nomatch z))]; exact q) fun c xs q => by rw [upd_ne (neH c _ q (fun _ _ z => nomatch z))]; exact q
  ·rw [upd_ne hb] at e
   exact (I.hok b o e).stay (fun c v _ q => q) (fun c q => by rw [upd_ne (neH c _ q (fun _ _ z => nomatch z))]; exact q) fun c xs q => by rw [upd_ne (neH c _ q (fun _ _ z => nomatch z))]; exact q
end
def tLockE (t : TE) : TE := fun σ H Q => ∃ d u, H d = some u /\ Mut (some u) /\ ∀ od, t σ (upd H d (.frz od u)) fun v H' => H' d = some (.frz od u) /\ Q v (upd H' d u)
section
variable {X : Cx}
theorem pe_lock {e : Expr} {t : TE} (h : PE X e t) : PE X e (tLockE t) := by
 intro pins s σ H Q I hw
 obtain ⟨d, u, hd, mu, hw⟩ := hw
 obtain ⟨od, I1⟩ := I.lock hd mu
 refine thn (h pins s σ _ _ I1 (hw od)) fun v s1 ⟨x, H1, I2, r, e2, q⟩ => ?_
 exact ⟨x, _, I2.unlock e2 (I.nofrz hd mu), r, q⟩
theorem pi_one {tg : Expr} {pins : List (Addr × Obj)} {σ : St} {H : Hp} {s : Shared} {R : It -> Hp -> Prop} {J : It} {tn : Nat -> Heap -> Prop} {tk : Nat} (I : Inv X pins σ H s) (o : Obj)
  (T : Turn X.prog X.w X.K tg J [s.heap.objs.size] s.heap.objs.size tn) (st : tn 0 (s.heap.push o)) (q : R J H) : PIE X pins σ tg R (.ref s.heap.objs.size) { s with heap := s.heap.push o, toks := tk } := by
 refine ⟨s.heap.objs.size, [s.heap.objs.size], tn, J, H, rfl, I.kept fun b ob e => Heap.get?_push_of_some _ e, T, st, fun b hb => ?_, q⟩
 have e : b = s.heap.objs.size := by simpa using hb
 subst e
 exact I.fpOk (Nat.le_refl _) (I.hok.fresh (Nat.le_refl _))
end
section
variable {X : Cx} {tg : Expr}
end
section
variable {X : Cx} {tg : Expr}
end
section
variable {prog : Program} {w : World} {A : Around} {E : Value -> Shared -> Prop} {s : Shared}
theorem iter_keys {d : Addr} {o : Obj} {es : Array DictEntry} {ep : Nat} {Q : Value -> Shared -> Prop} (hd : (d == sysModules) = false) (ho : s.heap.get? d = some o) (hc : o.ExactDict) (hdat : o.data = .dict es ep)
  (hQ : Q (.ref s.heap.objs.size) { s with heap := s.heap.push { cls := .type "dict_keyiterator", data := .fields #[.ref d, .int 0 0, .int es.size 0, .int ep 0] } }) :
  wpAny (model prog w) A (pyIter (.ref d)) Q E s := by
 have hT : s.TypeIs (.ref d) "dict" := ⟨o, ho, hc.1⟩
 refine wpAny_pyIter_slot hT F.slot_dict_iter (wpAny_call_entry F.slot_dict_iter hT F.entry_dict_iter ?_ (F.args_dict_iter_1 _))
 unfold Builtin.«dict.__iter__»
 refine wpAny_bind ?_
 unfold Builtin.Dict.dictSlotNone
 refine wpAny_bind (wpAny_notOrdered_dict hT ?_)
 show wpAny _ _ (pure (Value.ref d)) _ _ s
 refine wpAny_pure ?_
 show wpAny _ _ (Builtin.Dict.showsAll d >>= _) _ _ s
 unfold Builtin.Dict.showsAll
 rw [if_neg (by rw [hd]; exact Bool.false_ne_true)]
 refine wpAny_bind (wpAny_pure ?_)
 refine wpAny_bind (wpAny_dictEntries ho hdat ?_)
 refine wpAny_bind (wpAny_dictEpoch ho hdat ?_)
 refine wpAny_bind (wpAny_newObj_type (wpAny_pure ⟨_, rfl, "dict_keyiterator", _, ⟨_, Heap.get?_push_size _ rfl, rfl⟩, F.slot_dict_keyiterator_next.lookup, ?_⟩))
 simpa [rawInt] using hQ
theorem next_key_item {it d : Addr} {i n ep : Nat} {od : Obj} {es : Array DictEntry} {en : DictEntry} {Q : Option Value -> Shared -> Prop} (hit : s.heap.IsKeyIter it d i n ep) (hod : s.heap.get? d = some od) (hdd : od.data = .dict es ep)
  (hsz : es.size = n) (hx : es[i]? = some en) (hQ : ∀ h', h'.IsKeyIter it d (i + 1) n ep -> Heap.SameBut it s.heap h' -> Q (some en.key) { s with heap := h' }) : wpAny (model prog w) A (pyNext (.ref it)) Q E s := by
 obtain ⟨o, ho, hc, hd⟩ := id hit
 unfold pyNext
 refine wpAny_bind (wpAny_attempt (wpAny_callSpecial?_slot (name := Str.ofString "__next__") hit.typeIs F.slot_dict_keyiterator_next
  (wpAny_call_entry F.slot_dict_keyiterator_next hit.typeIs F.entry_dict_keyiterator_next ?_ (F.args_dict_keyiterator_next_1 _))))
 refine wpAny_bind (wpAny_pure ?_)
 refine wpAny_bind ?_
 refine wpAny_bind ?_
 first | refine wpAny_bind (wpAny_typeNameOfWhole_keyiter hit.typeIs (wpAny_pure ?_)) | refine wpAny_bind (wpAny_typeNameOf_keyiter hit.typeIs (wpAny_pure ?_))
 refine wpAny_bind (wpAny_fieldsOf ho hd ?_)
 have hown : Builtin.Dict_items.ownsTuple "dict_keyiterator" = false := by decide
 simp only [hown, Bool.false_eq_true, if_false]
 show wpAny _ _ (if (Value.ref d == Value.none) = true then _ else _) _ _ s
 rw [if_neg (show ¬ ((Value.ref d == Value.none) = true) from Bool.false_ne_true)]
 refine wpAny_bind (wpAny_pure ?_)
 refine wpAny_bind (wpAny_dictEntries hod hdd ?_)
 rw [if_neg (by rw [hsz]; simp)]
 refine wpAny_bind (wpAny_pure ?_)
 refine wpAny_bind (wpAny_dictEpoch hod hdd ?_)
 rw [if_neg (by simp)]
 refine wpAny_pure ?_
 obtain ⟨hlt', hen⟩ := Array.getElem?_eq_some_iff.mp hx
 simp only [show ¬ ((i : Int) < 0) from by omega, if_false, Int.toNat_natCast, Array.getElem?_eq_getElem hlt']
 refine wpAny_bind ?_
 first | refine wpAny_bind (wpAny_typeNameOfWhole_keyiter hit.typeIs (wpAny_pure ?_)) | refine wpAny_bind (wpAny_typeNameOf_keyiter hit.typeIs (wpAny_pure ?_))
 refine wpAny_bind (wpAny_isOneOf_keyiter hit.typeIs ?_)
 show wpAny _ _ (setField (.ref it) 1 (rawInt ((i : Int) + 1)) >>= _) _ _ s
 refine wpAny_bind (wpAny_setField ho hd (by simp) ?_)
 have hit' : (s.heap.update it (Obj.mapFields (·.setIfInBounds 1 (rawInt ((i : Int) + 1))))).IsKeyIter it d (i + 1) n ep :=
  ⟨_, Heap.get?_update_self _ ho (Obj.isFreed_of_fields (Obj.data_mapFields hd _)), (Obj.cls_mapFields ..).trans hc, by rw [Obj.data_mapFields hd]; simp [rawInt]⟩
 refine wpAny_bind (wpAny_holding ?_)
 refine wpAny_bind (wpAny_isOneOf_keyiter (s := { s with heap := s.heap.update it (Obj.mapFields (·.setIfInBounds 1 (rawInt ((i : Int) + 1)))) }) hit'.typeIs ?_)
 show wpAny _ _ (pure es[i].key) _ _ _
 rw [hen]
 exact wpAny_pure (wpAny_pure ⟨_, rfl, wpAny_pure (hQ _ hit' (Heap.SameBut.update ..))⟩)
theorem next_key_end {it d : Addr} {i n ep : Nat} {od : Obj} {es : Array DictEntry} {Q : Option Value -> Shared -> Prop} (hh : A.handled = none) (hit : s.heap.IsKeyIter it d i n ep) (hod : s.heap.get? d = some od) (hdd : od.data = .dict es ep)
  (hsz : es.size = n) (hge : n <= i) (hQ : ∀ h', Heap.ExtBut it s.heap h' -> Q none { s with heap := h' }) : wpAny (model prog w) A (pyNext (.ref it)) Q E s := by
 obtain ⟨o, ho, hc, hd⟩ := id hit
 unfold pyNext
 refine wpAny_bind (wpAny_attempt (wpAny_callSpecial?_slot (name := Str.ofString "__next__") hit.typeIs F.slot_dict_keyiterator_next
  (wpAny_call_entry F.slot_dict_keyiterator_next hit.typeIs F.entry_dict_keyiterator_next ?_ (F.args_dict_keyiterator_next_1 _))))
 refine wpAny_bind (wpAny_pure ?_)
 refine wpAny_bind ?_
 refine wpAny_bind ?_
 first | refine wpAny_bind (wpAny_typeNameOfWhole_keyiter hit.typeIs (wpAny_pure ?_)) | refine wpAny_bind (wpAny_typeNameOf_keyiter hit.typeIs (wpAny_pure ?_))
 refine wpAny_bind (wpAny_fieldsOf ho hd ?_)
 have hown : Builtin.Dict_items.ownsTuple "dict_keyiterator" = false := by decide
 simp only [hown, Bool.false_eq_true, if_false]
 show wpAny _ _ (if (Value.ref d == Value.none) = true then _ else _) _ _ s
 rw [if_neg (show ¬ ((Value.ref d == Value.none) = true) from Bool.false_ne_true)]
 refine wpAny_bind (wpAny_pure ?_)
 refine wpAny_bind (wpAny_dictEntries hod hdd ?_)
 rw [if_neg (by rw [hsz]; simp)]
 refine wpAny_bind (wpAny_pure ?_)
 refine wpAny_bind (wpAny_dictEpoch hod hdd ?_)
 rw [if_neg (by simp)]
 refine wpAny_pure ?_
 have hge' : es.size <= i := by rw [hsz]; exact hge
 simp only [show ¬ ((i : Int) < 0) from by omega, if_false, Int.toNat_natCast, Array.getElem?_eq_none hge']
 refine wpAny_bind ?_
 first | refine wpAny_bind (wpAny_typeNameOfWhole_keyiter hit.typeIs (wpAny_pure ?_)) | refine wpAny_bind (wpAny_typeNameOf_keyiter hit.typeIs (wpAny_pure ?_))
 show wpAny _ _ (setField (.ref it) 0 .none >>= _) _ _ s
 refine wpAny_bind (wpAny_setField ho hd (by simp) ?_)
 show wpAny _ _ (newExc (.type "StopIteration") [] >>= _) _ _ _
 refine wpAny_bind ?_
 simp only [newExc, newTuple]
 refine wpAny_bind (wpAny_newObj_type ?_ (by size_fits))
 refine wpAny_bind (m := firstArgMember _ _) (wpAny_of_eq (a := Value.none) (by first | rfl | (simp only [firstArgMember]; rfl)) ?_)
 refine wpAny_newObj_type ?_ (by size_fits)
 simp only [raiseNew]
 refine wpAny_bind (wpAny_handled ?_)
 rw [show A.in1.handled = none from hh]
 refine wpAny_bind (wpAny_pure (wpAny_throw ?_))
 refine wpAny_bind (wpAny_isInstance (T := "StopIteration") (b := true) ⟨_, Heap.get?_push_size _ rfl, rfl⟩ isSubtype_stop ?_)
 exact wpAny_pure (hQ _ (((Heap.SameBut.update ..).extBut.push _).push _))
end
theorem kv_get {κ : Type} {kvs : List (κ × V)} {vs : List (κ × Value)} (h : KV kvs vs) : ∀ {i : Nat} {k : κ} {v : V}, kvs[i]? = some (k, v) -> ∃ u, vs[i]? = some (k, u) /\ RelV v u := by
 unfold KV at h
 induction h with
 | nil => intro i k v e; simp at e
 | @cons a b l₁ l₂ r t ih =>
  intro i k v e
  cases i with
  | zero =>
   simp only [List.getElem?_cons_zero, Option.some.injEq] at e
   subst e
   refine ⟨b.2, ?_, r.2⟩
   simp only [List.getElem?_cons_zero]
   exact congrArg some (Prod.ext r.1.symm rfl)
  | succ j =>
   simp only [List.getElem?_cons_succ] at e ⊢
   exact ih e
theorem paired_get {α β : Type} {G : α -> β -> Prop} {l₁ : List α} {l₂ : List β} (h : Paired G l₁ l₂) : ∀ {i : Nat} {a : α}, l₁[i]? = some a -> ∃ b, l₂[i]? = some b /\ G a b := by
 induction h with
 | nil => intro i a e; simp at e
 | @cons a b l₁ l₂ r t ih =>
  intro i a' e
  cases i with
  | zero =>
   simp only [List.getElem?_cons_zero, Option.some.injEq] at e
   subst e
   exact ⟨b, rfl, r⟩
  | succ j =>
   simp only [List.getElem?_cons_succ] at e ⊢
   exact ih e
theorem relV_key {k : Key} {u : Value} (h : keyIs k u = true) : RelV (kV k) u := by
 rcases keyIs_shape h with ⟨i, t, rfl, rfl⟩ | ⟨x, t, rfl, rfl⟩
 ·exact ⟨t, rfl⟩
 ·exact ⟨t, rfl⟩
section
variable {X : Cx} {pins : List (Addr × Obj)} {σ : St} {H : Hp} {s : Shared} {d : Addr} {o : Obj}
theorem Inv.frzK {kvs : List (Key × V)} (I : Inv X pins σ H s) (h : H d = some (.frz o (.dK kvs))) :
  (d == sysModules) = false /\ s.heap.get? d = some o /\ o.ExactDict /\ ∃ (es : Array DictEntry) (ep : Nat) (vs : List (Key × Value)), o.data = .dict es ep /\ es.size = kvs.length /\ KV kvs vs /\ s.heap.DictAt (mixKind X.prog X.w) d vs ep := by
 obtain ⟨hd, z, hs, vs, kv, o', es, ep, ho, hx, hdt, r⟩ := I.hok d _ h
 rw [hd] at ho
 cases ho
 refine ⟨hs, hd, hx, es, ep, vs, hdt, ?_, kv, o, es, hd, hx, hdt, r⟩
 have l1 := r.2.1.length
 have l2 : kvs.length = vs.length := Paired.length kv
 rw [Array.length_toList] at l1
 omega
theorem Inv.frzT {kvs : List (List Key × V)} (I : Inv X pins σ H s) (h : H d = some (.frz o (.dT kvs))) :
  (d == sysModules) = false /\ s.heap.get? d = some o /\ o.ExactDict /\ ∃ (es : Array DictEntry) (ep : Nat), o.data = .dict es ep /\ es.size = kvs.length /\
   ∀ (i : Nat) (k : List Key) (v : V), kvs[i]? = some (k, v) -> ∃ (en : DictEntry) (q : Addr), es[i]? = some en /\ en.key = .ref q /\ H q = some (.tup (k.map kV)) := by
 obtain ⟨hd, z, hs, xs, pr, o', es, ep, ho, hx, hdt, he, _⟩ := I.hok d _ h
 rw [hd] at ho
 cases ho
 refine ⟨hs, hd, hx, es, ep, hdt, ?_, fun i k v e => ?_⟩
 ·have l1 : es.size = xs.length := size_of_entries he
  have l2 : kvs.length = xs.length := Paired.length pr
  omega
 ·obtain ⟨b, hb, e1, e2, _⟩ := paired_get pr e
  have q := entry_at he i
  rw [hb] at q
  exact ⟨_, b.2.1, q, rfl, e2⟩
end
def Itk (d : Addr) (o : Obj) (kvs : List (Key × V)) : It :=
 ⟨fun i H => H d = some (.frz o (.dK kvs)) /\ i < kvs.length, fun i H x H' => H' = H /\ ∃ k v, kvs[i]? = some (k, v) /\ x = kV k, fun i H => H d = some (.frz o (.dK kvs)) /\ kvs.length <= i⟩
def Itkt (d : Addr) (o : Obj) (kvs : List (List Key × V)) : It :=
 ⟨fun i H => H d = some (.frz o (.dT kvs)) /\ i < kvs.length, fun i H x H' => H' = H /\ ∃ (k : List Key) (v : V) (q : Addr), kvs[i]? = some (k, v) /\ x = .ref q /\ H q = some (.tup (k.map kV)), fun i H => H d = some (.frz o (.dT kvs)) /\ kvs.length <= i⟩
theorem dict_ep {o : Obj} {es es' : Array DictEntry} {ep ep' : Nat} (h : o.data = .dict es ep) (h' : o.data = .dict es' ep') : es' = es /\ ep' = ep := by
 rw [h] at h'
 cases h'
 exact ⟨rfl, rfl⟩
section
variable {P : Program} {w : World} {K : PySem.W.Frag} {tg : Expr} {d : Addr} {o : Obj} {es : Array DictEntry} {ep : Nat}
theorem turn_keys {kvs : List (Key × V)} (it : Addr) (hod : o.data = .dict es ep) : Turn P w K tg (Itk d o kvs) [it] it (fun i h => h.IsKeyIter it d i kvs.length ep) where
 mem := by simp
 obj := fun i h st b hb => by
  have e : b = it := by simpa using hb
  subst e
  obtain ⟨oi, e, c, dd⟩ := st
  exact ⟨oi, e, fun v z => by rw [dd] at z; cases z⟩
 keep := fun i h h' st k => st.at fun oi e => k it (by simp) oi e
 item := by
  intro X hP hw hK hc i pins s σ H E I hf st hg
  subst hP hw hK
  obtain ⟨hd, hi⟩ := hg
  obtain ⟨f0, f1, f2, f3, f4, f5⟩ := hf it (by simp)
  obtain ⟨hs, hgd, hx, es', ep', vs, hdt, hsz, kv, hm⟩ := I.frzK hd
  obtain ⟨rfl, rfl⟩ := dict_ep hod hdt
  obtain ⟨⟨k, v⟩, hkv⟩ : ∃ p, kvs[i]? = some p := ⟨kvs[i], List.getElem?_eq_getElem hi⟩
  obtain ⟨u, hu, ru⟩ := kv_get kv hkv
  have hl : kvs.length = vs.length := Paired.length kv
  rw [hl] at st
  refine wpAny_pyNext_dict_item st hm hu fun key h' hkey st' sb => ?_
  have I1 : Inv X pins σ H { s with heap := h' } := I.turned (t' := s.toks) (fun b ob hb e => (sb.2 b hb).trans e) f0 f1 f3 f4 f5
  obtain ⟨oi, e, c, dd⟩ := id st'
  refine ⟨key, rfl, go_of (s := { s with heap := h' }) e c dd (by decide) ⟨kV k, H, I1, relV_key (show keyIs k key = true from hkey), ⟨rfl, k, v, hkv, rfl⟩, ?_, fun b hb => (hf b hb).1⟩⟩
  show h'.IsKeyIter it d (i + 1) kvs.length _
  rw [hl]
  exact st'
 done := by
  intro X hP hw hK hc i pins s σ H E I hf st hg
  subst hP hw hK
  obtain ⟨hd, hi⟩ := hg
  obtain ⟨f0, f1, f2, f3, f4, f5⟩ := hf it (by simp)
  obtain ⟨hs, hgd, hx, es', ep', vs, hdt, hsz, kv, hm⟩ := I.frzK hd
  obtain ⟨rfl, rfl⟩ := dict_ep hod hdt
  exact next_key_end (I.ok.hd hc) st hgd hdt hsz hi fun h' eb => ⟨rfl, I.turned (t' := s.toks) (fun b ob hb e => eb b ob hb e) f0 f1 f3 f4 f5⟩
 self := fun A i s Q E st h => wpAny_pyIter_keyiter st h
theorem turn_keysT {kvs : List (List Key × V)} (it : Addr) (hod : o.data = .dict es ep) : Turn P w K tg (Itkt d o kvs) [it] it (fun i h => h.IsKeyIter it d i kvs.length ep) where
 mem := by simp
 obj := fun i h st b hb => by
  have e : b = it := by simpa using hb
  subst e
  obtain ⟨oi, e, c, dd⟩ := st
  exact ⟨oi, e, fun v z => by rw [dd] at z; cases z⟩
 keep := fun i h h' st k => st.at fun oi e => k it (by simp) oi e
 item := by
  intro X hP hw hK hc i pins s σ H E I hf st hg
  subst hP hw hK
  obtain ⟨hd, hi⟩ := hg
  obtain ⟨f0, f1, f2, f3, f4, f5⟩ := hf it (by simp)
  obtain ⟨hs, hgd, hx, es', ep', hdt, hsz, ent⟩ := I.frzT hd
  obtain ⟨rfl, rfl⟩ := dict_ep hod hdt
  obtain ⟨⟨k, v⟩, hkv⟩ : ∃ p, kvs[i]? = some p := ⟨kvs[i], List.getElem?_eq_getElem hi⟩
  obtain ⟨en, q, hen, hkey, hq⟩ := ent i k v hkv
  refine next_key_item st hgd hdt hsz hen fun h' st' sb => ?_
  have I1 : Inv X pins σ H { s with heap := h' } := I.turned (t' := s.toks) (fun b ob hb e => (sb.2 b hb).trans e) f0 f1 f3 f4 f5
  obtain ⟨oi, e, c, dd⟩ := id st'
  exact ⟨en.key, rfl, go_of (s := { s with heap := h' }) e c dd (by decide) ⟨.ref q, H, I1, hkey, ⟨rfl, k, v, q, hkv, rfl, hq⟩, st', fun b hb => (hf b hb).1⟩⟩
 done := by
  intro X hP hw hK hc i pins s σ H E I hf st hg
  subst hP hw hK
  obtain ⟨hd, hi⟩ := hg
  obtain ⟨f0, f1, f2, f3, f4, f5⟩ := hf it (by simp)
  obtain ⟨hs, hgd, hx, es', ep', hdt, hsz, ent⟩ := I.frzT hd
  obtain ⟨rfl, rfl⟩ := dict_ep hod hdt
  exact next_key_end (I.ok.hd hc) st hgd hdt hsz hi fun h' eb => ⟨rfl, I.turned (t' := s.toks) (fun b ob hb e => eb b ob hb e) f0 f1 f3 f4 f5⟩
 self := fun A i s Q E st h => by
  refine wpAny_pyIter_slot st.typeIs F.slot_dict_keyiterator_iter (wpAny_call_entry F.slot_dict_keyiterator_iter st.typeIs F.entry_dict_keyiterator_iter ?_ (F.args_dict_keyiterator_iter_1 _))
  show wpAny _ _ (ret (.ref it)) _ _ s
  exact wpAny_pure ⟨_, rfl, "dict_keyiterator", _, st.typeIs, F.slot_dict_keyiterator_next.lookup, h⟩
end
def iKeys (td : TE) : TI := fun σ H R => td σ H fun x H1 => ∃ d o, x = .ref d /\ ((∃ kvs, H1 d = some (.frz o (.dK kvs)) /\ R (Itk d o kvs) H1) ∨ ∃ kvs, H1 d = some (.frz o (.dT kvs)) /\ R (Itkt d o kvs) H1)
section
variable {X : Cx} {tg e : Expr} {td : TE} {apos cpos : Pos}
theorem pi_keys (he : PE X e td) : PI X tg e (iKeys td) := by
 intro pins s σ H R I h
 refine thn (he pins s σ H _ I h) fun u s1 ⟨x, H1, I1, rx, d, o, ex, q⟩ => ?_
 subst ex
 obtain rfl : u = Value.ref d := rx
 rcases q with ⟨kvs, hd, q⟩ | ⟨kvs, hd, q⟩
 ·obtain ⟨hs, hgd, hx, es, ep, vs, hdt, hsz, kv, hm⟩ := I1.frzK hd
  refine iter_keys hs hgd hx hdt (pi_one (tk := s1.toks) I1 _ (turn_keys _ hdt) ⟨_, Heap.get?_push_size _ rfl, rfl, ?_⟩ q)
  rw [hsz] <;> rfl
 ·obtain ⟨hs, hgd, hx, es, ep, hdt, hsz, ent⟩ := I1.frzT hd
  refine iter_keys hs hgd hx hdt (pi_one (tk := s1.toks) I1 _ (turn_keysT _ hdt) ⟨_, Heap.get?_push_size _ rfl, rfl, ?_⟩ q)
  rw [hsz] <;> rfl
end
end L2
section
namespace Bits
open PySem PyProof.Rows
end Bits
end
section
namespace TL
open PySem PySem.Builtin PySem.Builtin.Str PySem.StrLaws
end TL
end
namespace L2
open PySem PySem.Spec PyProof.Rows
section
variable {X : Cx} {pins : List (Addr × Obj)} {σ : St} {H : Hp} {s : Shared} {Q : VK}
end
section
variable {X : Cx}
end
section
variable {X : Cx} {o e : Expr} {to te : TE}
end
end L2
namespace L2
open PySem PySem.Spec PyProof.Rows
section
variable {X : Cx}
end
end L2
namespace Att
open PySem PySem.W PySem.Calls PyProof.Rows
section
variable {prog : Program} {w : World} {A : Around} {E : Value -> Shared -> Prop} {s : Shared} {K : Frag}
end
end Att
namespace L2
open PySem PySem.Spec PyProof.Rows
end L2
namespace L2
open PySem PySem.Spec PyProof.Rows
end L2
namespace L2
open PySem PySem.Spec PyProof.Rows
def inClass (s : Stmt) (j : Nat) : Stmt := match s with
 | .ClassDef _ _ _ body _ _ _ _ _ _ _ => body.getD j (.Pass ⟨0, 0, 0, 0⟩)
 | _ => .Pass ⟨0, 0, 0, 0⟩
def defArgs (s : Stmt) : Arguments := match s with
 | .FunctionDef _ a _ _ _ _ _ _ _ _ => a
 | _ => { posonlyargs := [], args := [], vararg := none, kwonlyargs := [], kw_defaults := [], kwarg := none, defaults := [] }
def defBody (s : Stmt) : List Stmt := match s with
 | .FunctionDef _ _ b _ _ _ _ _ _ _ => b
 | _ => []
def defScope (s : Stmt) : Scope := match s with
 | .FunctionDef _ _ _ _ _ _ sc _ _ _ => sc
 | _ => { kind := .function, names := [], isGenerator := false, isCoroutine := false }
abbrev CX0 : CXT := fun _ _ _ _ _ _ => False
abbrev E0 : XK := fun _ _ _ => False
theorem pass0 {X : Cx} : Passes CX0 X E0 := fun _ _ _ _ _ _ _ h => h.elim
structure Fun (K : PySem.W.Frag) (x qual : Str) (st : Stmt) (f : Addr) (fd : FuncData) : Prop where
 ex : ∃ (oc : Value) (od : Option Addr) (kV doc pm : Value) (an : Option Addr) (cdv ct : Value) (osl : Array (Option Value)),
  fd = PySem.W.fnOf x qual (defArgs st) (defBody st) (defScope st) .none kV doc pm an cdv ct /\ K.lookup f = some ⟨oc, od, .func fd, osl⟩ /\ PySem.W.codeIn K cdv qual = true
 kp : PySem.W.keepIn K (.ref f) = true
section
variable {P : Program} {w : World} {K : PySem.W.Frag} {mg : Str -> Option Value} {base : Heap}
theorem Fun.ok {x qual : Str} {st : Stmt} {f : Addr} {fd : FuncData} {N ps : List Str} {k : Nat} {sp : Sp} (F : Fun K x qual st f fd) (S : FnScope N ps (defScope st)) (len : ∀ vs H Q E, sp vs H Q E -> vs.length = ps.length)
  (hbody : ∀ (cdv : Value) (A : Around) (outer : List Env) (s : Shared) (H : Hp) (vs : List V) (Q : VK) (E : XK), Room k (A.deeper (envOfC qual (defScope st) s.heap.objs.size f cdv)) -> sp vs H Q E ->
   ∃ t, PSs (cxOf CX0 P w K mg base N qual (defScope st) f cdv A outer s H E).nox (defBody st) t /\ t { nx := fun _ H' => Q .non H', rt := Q } (start N vs) H) : FnOk P w K mg base CX0 (k + 1) f fd ps sp := by
 obtain ⟨oc, od, kV, doc, pm, an, cdv, ct, osl, rfl, lk, hcd⟩ := F.ex
 refine fn_of lk hcd S len fun A outer s H vs Q E hr hsp => ?_
 obtain ⟨t, h, q⟩ := hbody cdv A outer s H vs Q E hr hsp
 exact ⟨t, h.nox, q⟩
theorem Fun.binds {x qual : Str} {st : Stmt} {f : Addr} {fd : FuncData} {ps : List Str} (F : Fun K x qual st f fd)
  (h : ∀ (kV doc pm : Value) (an : Option Addr) (cdv ct : Value) (us : List Value), us.length = ps.length -> bindArgs (PySem.W.fnOf x qual (defArgs st) (defBody st) (defScope st) .none kV doc pm an cdv ct) ⟨us, []⟩ = pure (ps.zip us)) : Binds K fd ps [] := by
 obtain ⟨oc, od, kV, doc, pm, an, cdv, ct, osl, rfl, lk, hcd⟩ := F.ex
 exact .all (h kV doc pm an cdv ct)
theorem fun_mk {x qual : Str} {st : Stmt} {f : Addr} {oc : Value} {od an : Option Addr} {osl : Array (Option Value)} {kV doc pm cdv ct : Value} (l : K.lookup f = some ⟨oc, od, .func (PySem.W.fnOf x qual (defArgs st) (defBody st) (defScope st) .none kV doc pm an cdv ct), osl⟩)
  (c : PySem.W.codeIn K cdv qual = true) (k : PySem.W.keepIn K (.ref f) = true) : Fun K x qual st f (PySem.W.fnOf x qual (defArgs st) (defBody st) (defScope st) .none kV doc pm an cdv ct) := ⟨⟨oc, od, kV, doc, pm, an, cdv, ct, osl, rfl, l, c⟩, k⟩
end
theorem hu_of {A : Around} {k : Nat} (hr : Room k A) : A.units + 1 < cLine := Nat.lt_of_le_of_lt (Nat.add_le_add_left (by decide : 1 <= 64) _) hr.units
theorem small1000 {n : Nat} (h : n <= 1000) : n < sizeLine := Nat.lt_of_le_of_lt h (by decide)
section
variable {X : Cx}
theorem pv (i : Nat) {x : Str} {pos : Pos} (hN : X.N[i]? = some x := by rfl) (hv : Vis X.env.scope x := by first | exact Or.inl rfl | exact Or.inr (Or.inl rfl) | exact Or.inr (Or.inr rfl)) (hd : (x == ("__debug__" : Str)) = false := by decide)
  (hcd : (x == ("__classdict__" : Str)) = false := by decide) : PE X (.Name x pos) (tVar i) := pe_var hN hv hd hcd
end
theorem iteF {A B : Prop} (h : B) : if false = true then A else B := by
 rw [if_neg Bool.false_ne_true]
 exact h
theorem iteT {A B : Prop} (h : A) : if true = true then A else B := by
 rw [if_pos rfl]
 exact h
theorem ite2 {c A B : Prop} [Decidable c] (h1 : c -> A) (h2 : ¬ c -> B) : if c then A else B := by
 by_cases h : c
 ·rw [if_pos h]
  exact h1 h
 ·rw [if_neg h]
  exact h2 h
def Same (H H' : Hp) : Prop := ∀ b o, H b = some o -> H' b = some o
theorem Same.refl (H : Hp) : Same H H := fun _ _ h => h
theorem Same.trans {H H1 H2 : Hp} (a : Same H H1) (b : Same H1 H2) : Same H H2 := fun c o h => b c o (a c o h)
theorem Same.free {H H' : Hp} (e : Same H H') {l : Addr} (h : H' l = Option.none) : H l = Option.none := by
 cases q : H l with
 | none => rfl
 | some o =>
  rw [e l o q] at h
  cases h
theorem Same.seq {K : PySem.W.Frag} {H H' : Hp} {a : Addr} {xs : List V} (e : Same H H') (h : SqL K H a xs) : SqL K H' a xs := by
 rcases h with (h | ⟨o, h⟩) | h
 ·exact .inl (.inl (e _ _ h))
 ·exact .inl (.inr ⟨o, e _ _ h⟩)
 ·exact .inr h
section
variable {κ : Type} [DecidableEq κ]
end
end L2
section
namespace L2
open PySem PySem.Spec PyProof.Rows
open PySem.W (WData Codec OpenSpec Well WellAll ReadsW ReadsAllW)
mutual
inductive Dw (K : PySem.W.Frag) (H : Hp) : V -> WData -> Prop
 | non : Dw K H .non .none
 | bl (b : Bool) : Dw K H (.bl b) (.bool b)
 | int (i : Int) : Dw K H (.int i) (.int i)
 | str (x : Str) : Dw K H (.str x) (.str x)
 | byt (b : Array UInt8) : Dw K H (.byt b) (.bytes b.toList)
 | lst {a : Addr} {xs : List V} {ds : List WData} : SqL K H a xs -> DwAll K H xs ds -> Dw K H (.ref a) (.list ds)
 | tup {a : Addr} {xs : List V} {ds : List WData} : SqT K H a xs -> DwAll K H xs ds -> Dw K H (.ref a) (.tuple ds)
inductive DwAll (K : PySem.W.Frag) (H : Hp) : List V -> List WData -> Prop
 | nil : DwAll K H [] []
 | cons {v : V} {vs : List V} {d : WData} {ds : List WData} : Dw K H v d -> DwAll K H vs ds -> DwAll K H (v :: vs) (d :: ds)
end
theorem dw_ints {K : PySem.W.Frag} {H : Hp} : ∀ ns : List Int, DwAll K H (ns.map V.int) (ns.map WData.int)
 | [] => .nil
 | n :: r => .cons (.int n) (dw_ints r)
theorem ints_dw {K : PySem.W.Frag} {H : Hp} : ∀ (ns : List Int) (xs : List V), DwAll K H xs (ns.map WData.int) -> xs = ns.map V.int
 | [], xs, h => by
  cases h
  rfl
 | n :: r, xs, h => by
  cases h with
  | cons h1 h2 =>
   cases h1
   rw [ints_dw r _ h2] <;> rfl
section
variable {P : Program} {w : World} {K : PySem.W.Frag} {H : Hp} {h : Heap} {R : PySem.W.WRecords} {cl : Str -> Option Addr}
theorem sqL_at {a : Addr} {xs : List V} (hok : HOk P w H h) (KX : K.In h) (q : SqL K H a xs) : ∃ (its : List Value) (o : Obj) (n : Nat), Vals xs its /\ h.get? a = some o /\ o.cls = .type "list" /\ o.data = .seq its.toArray n := by
 rcases q with q | ⟨o, its, n, e, hc, _, hd, _, hv⟩
 ·obtain ⟨_, its, n, hv, e⟩ := (show ObjOk P w H h a (.lst xs) from q.ok hok)
  exact ⟨its, _, n, hv, e, rfl, rfl⟩
 ·exact ⟨its.toList, o, n, hv, KX _ _ e, hc, by simp [hd]⟩
theorem sqT_at {a : Addr} {xs : List V} (hok : HOk P w H h) (KX : K.In h) (q : SqT K H a xs) : ∃ (its : List Value) (o : Obj) (n : Nat), Vals xs its /\ h.get? a = some o /\ o.cls = .type "tuple" /\ o.data = .seq its.toArray n := by
 rcases q with q | ⟨o, its, n, e, hc, hd, _, hv⟩
 ·obtain ⟨_, its, hv, o, e, hc, n, hd⟩ := (show ObjOk P w H h a (.tup xs) from q.ok hok)
  exact ⟨its, o, n, hv, e, hc, hd⟩
 ·exact ⟨its.toList, o, n, hv, KX _ _ e, hc, by simp [hd]⟩
mutual
theorem Dw.reads (hok : HOk P w H h) (KX : K.In h) : ∀ (d : WData) (v : V) (u : Value), Dw K H v d -> RelV v u -> ∃ as, ReadsW R cl h u d as
 | .none, _, _, x, r => by
  cases x
  cases r
  exact ⟨_, ReadsW.none⟩
 | .bool b, _, _, x, r => by
  cases x
  cases r
  exact ⟨_, ReadsW.bool b⟩
 | .int i, _, _, x, r => by
  cases x
  obtain ⟨t, rfl⟩ := r
  exact ⟨_, ReadsW.int i t⟩
 | .str s, _, _, x, r => by
  cases x
  obtain ⟨t, rfl⟩ := r
  exact ⟨_, ReadsW.str s t⟩
 | .bytes b, _, _, x, r => by
  cases x
  obtain ⟨t, rfl⟩ := r
  exact ⟨_, ReadsW.bytes _ t⟩
 | .list ds, _, _, x, r => by
  cases x with
  | lst hs ha =>
   cases r
   obtain ⟨its, o, n, rv, ho, hc, hd⟩ := sqL_at hok KX hs
   obtain ⟨as, hr⟩ := Dw.readsAll hok KX ds _ its ha rv
   exact ⟨_, ReadsW.list ho hc hd hr⟩
 | .tuple ds, _, _, x, r => by
  cases x with
  | tup hs ha =>
   cases r
   obtain ⟨its, o, n, rv, ho, hc, hd⟩ := sqT_at hok KX hs
   obtain ⟨as, hr⟩ := Dw.readsAll hok KX ds _ its ha rv
   exact ⟨_, ReadsW.tuple ho hc hd hr⟩
 | .float _, _, _, x, _ => by cases x
 | .dict _, _, _, x, _ => by cases x
 | .bytearray _, _, _, x, _ => by cases x
 | .set _, _, _, x, _ => by cases x
 | .frozenset _, _, _, x, _ => by cases x
 | .obj _ _, _, _, x, _ => by cases x
theorem Dw.readsAll (hok : HOk P w H h) (KX : K.In h) : ∀ (ds : List WData) (vs : List V) (us : List Value), DwAll K H vs ds -> Vals vs us -> ∃ as, ReadsAllW R cl h us ds as
 | [], _, _, x, r => by
  cases x
  cases r
  exact ⟨_, ReadsAllW.nil⟩
 | d :: ds, _, _, x, r => by
  cases x with
  | cons h1 h2 =>
   cases r with
   | cons r1 r2 =>
    obtain ⟨as, q1⟩ := Dw.reads hok KX d _ _ h1 r1
    obtain ⟨bs, q2⟩ := Dw.readsAll hok KX ds _ _ h2 r2
    exact ⟨_, ReadsAllW.cons q1 q2⟩
end
end
mutual
def plW : WData -> Bool
 | .none => true
 | .bool _ => true
 | .int _ => true
 | .str _ => true
 | .bytes _ => true
 | .list xs => plWs xs
 | .tuple xs => plWs xs
 | _ => false
def plWs : List WData -> Bool
 | [] => true
 | x :: r => plW x && plWs r
end
theorem plWs_map {α : Type} {f : α -> WData} (h : ∀ a, plW (f a) = true) : ∀ l : List α, plWs (l.map f) = true
 | [] => rfl
 | x :: r => by
  show (plW (f x) && plWs (r.map f)) = true
  rw [h x, plWs_map h r] <;> rfl
theorem pl_enc : ∀ (c : Codec) (a : c.denote), plW (c.enc a) = true
 | .unit, _ => rfl
 | .bool, _ => rfl
 | .int _ _, _ => rfl
 | .nat _ _, _ => rfl
 | .u8, _ => rfl
 | .bytes _ _, _ => rfl
 | .text _ _ _ _, _ => rfl
 | .list _ _ c, a => plWs_map (fun x => pl_enc c x) a
 | .pair c d, a => by
  show (plW (c.enc a.1) && (plW (d.enc a.2) && true)) = true
  rw [pl_enc c a.1, pl_enc d a.2] <;> rfl
 | .triple c d e, a => by
  show (plW (c.enc a.1) && (plW (d.enc a.2.1) && (plW (e.enc a.2.2) && true))) = true
  rw [pl_enc c a.1, pl_enc d a.2.1, pl_enc e a.2.2] <;> rfl
 | .option c, none => rfl
 | .option c, some x => pl_enc c x
theorem pl_encAll : ∀ (cs : List Codec) (a : Codec.denoteAll cs), plWs (Codec.encAll cs a) = true
 | [], _ => rfl
 | c :: cs, a => by
  show (plW (c.enc a.1) && plWs (Codec.encAll cs a.2)) = true
  rw [pl_enc c a.1, pl_encAll cs a.2] <;> rfl
theorem weight_mem : ∀ {xs : List WData} {d : WData}, d ∈ xs -> d.weight <= WData.weightAll xs
 | [], d, h => absurd h (by simp)
 | x :: r, d, h => by
  show d.weight <= x.weight + 1 + WData.weightAll r
  rcases List.mem_cons.mp h with e | m
  ·rw [e]
   omega
  ·have z := weight_mem m
   omega
def toV : Value -> V
 | .none => .non
 | .bool b => .bl b
 | .int i _ => .int i
 | .str x _ => .str x
 | .bytes b _ => .byt b
 | .ref a => .ref a
 | _ => .non
def OkU (A : List Addr) : Value -> Prop
 | .none => True
 | .bool _ => True
 | .int _ _ => True
 | .str _ _ => True
 | .bytes _ _ => True
 | .ref a => a ∈ A
 | _ => False
theorem OkU.mono {A B : List Addr} (h : ∀ a ∈ A, a ∈ B) : ∀ {u : Value}, OkU A u -> OkU B u := fun {u} x => by
 cases u with
 | ref a => exact h a x
 | none => trivial
 | bool b => trivial
 | int i t => trivial
 | str s t => trivial
 | bytes b t => trivial
 | _ => exact False.elim x
theorem relV_toV {A : List Addr} {u : Value} (x : OkU A u) : RelV (toV u) u := by
 cases u with
 | ref a => rfl
 | none => rfl
 | bool b => rfl
 | int i t => exact ⟨t, rfl⟩
 | str s t => exact ⟨t, rfl⟩
 | bytes b t => exact ⟨t, rfl⟩
 | _ => exact False.elim x
theorem vals_toV {A : List Addr} : ∀ {vs : List Value}, (∀ u ∈ vs, OkU A u) -> Vals (vs.map toV) vs
 | [], _ => .nil
 | u :: r, h => .cons (relV_toV (h u (List.mem_cons_self ..))) (vals_toV fun x hx => h x (List.mem_cons_of_mem _ hx))
def ArgOb (h : Heap) (A : List Addr) (a : Addr) : Prop := ∃ vs : List Value, vs.length <= sizeLine /\ (∀ u ∈ vs, OkU A u) /\
 (h.get? a = some { cls := .type "list", data := .seq vs.toArray } ∨ h.get? a = some { cls := .type "tuple", data := .seq vs.toArray })
theorem ArgOb.mono {h : Heap} {A B : List Addr} {a : Addr} (k : ∀ a ∈ A, a ∈ B) (x : ArgOb h A a) : ArgOb h B a := by
 obtain ⟨vs, h1, h2, h3⟩ := x
 exact ⟨vs, h1, fun u hu => (h2 u hu).mono k, h3⟩
theorem wellAll_len {P : Params} {h : Heap} : ∀ {vs : List Value} {ds : List WData}, WellAll P h vs ds -> vs.length = ds.length
 | _, _, .nil => rfl
 | _, _, .cons _ b => by
  show _ + 1 = _ + 1
  rw [wellAll_len b]
theorem well_list {P : Params} {h : Heap} {v : Value} {ds : List WData} (x : Well P h v (.list ds)) : ∃ (a : Addr) (vs : List Value), v = .ref a /\ h.get? a = some { cls := .type "list", data := .seq vs.toArray } /\ WellAll P h vs ds := by
 cases x with
 | list ho hall => exact ⟨_, _, rfl, ho, hall⟩
theorem well_tuple {P : Params} {h : Heap} {v : Value} {ds : List WData} (x : Well P h v (.tuple ds)) : ∃ (a : Addr) (vs : List Value), v = .ref a /\ h.get? a = some { cls := .type "tuple", data := .seq vs.toArray } /\ WellAll P h vs ds := by
 cases x with
 | tuple ho hall => exact ⟨_, _, rfl, ho, hall⟩
theorem well_cons {P : Params} {h : Heap} {us : List Value} {d : WData} {ds : List WData} (x : WellAll P h us (d :: ds)) : ∃ (v : Value) (vs : List Value), us = v :: vs /\ Well P h v d /\ WellAll P h vs ds := by
 cases x with
 | cons a b => exact ⟨_, _, rfl, a, b⟩
theorem line_of {n : Nat} (h : n <= 1048576) : n <= sizeLine := Nat.le_trans h (by decide)
section
variable {P : Params} {h : Heap}
mutual
theorem area_one : ∀ (d : WData) (v : Value), Well P h v d -> plW d = true -> d.weight <= 1048576 -> ∃ A : List Addr, OkU A v /\ ∀ a ∈ A, ArgOb h A a
 | .none, _, x, _, _ => by
  cases x
  exact ⟨[], trivial, fun a m => absurd m (by simp)⟩
 | .bool b, _, x, _, _ => by
  cases x
  exact ⟨[], trivial, fun a m => absurd m (by simp)⟩
 | .int i, _, x, _, _ => by
  cases x
  exact ⟨[], trivial, fun a m => absurd m (by simp)⟩
 | .str s, _, x, _, _ => by
  cases x
  exact ⟨[], trivial, fun a m => absurd m (by simp)⟩
 | .bytes b, _, x, _, _ => by
  cases x
  exact ⟨[], trivial, fun a m => absurd m (by simp)⟩
 | .list ds, _, x, p, z => by
  obtain ⟨a, vs, rfl, ho, hall⟩ := well_list x
  have z2 : WData.weightAll ds <= 1048576 := z
  obtain ⟨A, h1, h2⟩ := area_all ds _ hall p fun d hd => Nat.le_trans (weight_mem hd) z2
  have k : ∀ b ∈ A, b ∈ a :: A := fun b hb => List.mem_cons_of_mem _ hb
  refine ⟨a :: A, List.mem_cons_self .., fun b hb => ?_⟩
  rcases List.mem_cons.mp hb with e | m
  ·rw [e]
   exact ⟨vs, line_of (by rw [wellAll_len hall]; exact Nat.le_trans (PySem.W.length_le_weightAllW ds) z2), fun u hu => (h1 u hu).mono k, .inl ho⟩
  ·exact (h2 b m).mono k
 | .tuple ds, _, x, p, z => by
  obtain ⟨a, vs, rfl, ho, hall⟩ := well_tuple x
  have z2 : WData.weightAll ds <= 1048576 := z
  obtain ⟨A, h1, h2⟩ := area_all ds _ hall p fun d hd => Nat.le_trans (weight_mem hd) z2
  have k : ∀ b ∈ A, b ∈ a :: A := fun b hb => List.mem_cons_of_mem _ hb
  refine ⟨a :: A, List.mem_cons_self .., fun b hb => ?_⟩
  rcases List.mem_cons.mp hb with e | m
  ·rw [e]
   exact ⟨vs, line_of (by rw [wellAll_len hall]; exact Nat.le_trans (PySem.W.length_le_weightAllW ds) z2), fun u hu => (h1 u hu).mono k, .inr ho⟩
  ·exact (h2 b m).mono k
 | .float _, _, _, p, _ => Bool.noConfusion (show false = true from p)
 | .dict _, _, _, p, _ => Bool.noConfusion (show false = true from p)
 | .bytearray _, _, _, p, _ => Bool.noConfusion (show false = true from p)
 | .set _, _, _, p, _ => Bool.noConfusion (show false = true from p)
 | .frozenset _, _, _, p, _ => Bool.noConfusion (show false = true from p)
 | .obj _ _, _, _, p, _ => Bool.noConfusion (show false = true from p)
theorem area_all : ∀ (ds : List WData) (vs : List Value), WellAll P h vs ds -> plWs ds = true -> (∀ d ∈ ds, d.weight <= 1048576) -> ∃ A : List Addr, (∀ u ∈ vs, OkU A u) /\ ∀ a ∈ A, ArgOb h A a
 | [], _, x, _, _ => by
  cases x
  exact ⟨[], fun u m => absurd m (by simp), fun a m => absurd m (by simp)⟩
 | d :: ds, _, x, p, z => by
  obtain ⟨v, vs, rfl, x1, x2⟩ := well_cons x
  have q : plW d = true /\ plWs ds = true := Bool.and_eq_true_iff.mp p
  obtain ⟨A, a1, a2⟩ := area_one d v x1 q.1 (z d (List.mem_cons_self ..))
  obtain ⟨B, b1, b2⟩ := area_all ds vs x2 q.2 fun e he => z e (List.mem_cons_of_mem _ he)
  have kA : ∀ b ∈ A, b ∈ A ++ B := fun b hb => List.mem_append.mpr (.inl hb)
  have kB : ∀ b ∈ B, b ∈ A ++ B := fun b hb => List.mem_append.mpr (.inr hb)
  refine ⟨A ++ B, fun u hu => ?_, fun b hb => ?_⟩
  ·rcases List.mem_cons.mp hu with e | m
   ·rw [e]
    exact a1.mono kA
   ·exact (b1 u m).mono kB
  ·rcases List.mem_append.mp hb with m | m
   ·exact (a2 b m).mono kA
   ·exact (b2 b m).mono kB
end
end
def hoOf (o : Obj) : Option HO := match o.data with
 | .seq vs _ => if (o.cls == Value.type "list") = true then some (.frz o (.lst (vs.toList.map toV))) else some (.frz o (.tup (vs.toList.map toV)))
 | _ => none
def argH (K : PySem.W.Frag) (h : Heap) (A : List Addr) : Hp := fun b => if b ∈ A then (if (K.lookup b).isNone = true then (h.get? b).bind hoOf else none) else none
def OnlyF (H : Hp) : Prop := ∀ b, H b = none ∨ ∃ o u, H b = some (.frz o u)
theorem hoOf_lst (vs : List Value) : hoOf { cls := .type "list", data := .seq vs.toArray } = some (.frz { cls := .type "list", data := .seq vs.toArray } (.lst (vs.map toV))) := by
 show (if (Value.type "list" == Value.type "list") = true then some (HO.frz { cls := .type "list", data := .seq vs.toArray } (.lst (vs.toArray.toList.map toV))) else some (HO.frz { cls := .type "list", data := .seq vs.toArray } (.tup (vs.toArray.toList.map toV)))) = _
 rw [if_pos (beq_self_eq_true _)]
theorem hoOf_tup (vs : List Value) : hoOf { cls := .type "tuple", data := .seq vs.toArray } = some (.frz { cls := .type "tuple", data := .seq vs.toArray } (.tup (vs.map toV))) := by
 show (if (Value.type "tuple" == Value.type "list") = true then some (HO.frz { cls := .type "tuple", data := .seq vs.toArray } (.lst (vs.toArray.toList.map toV))) else some (HO.frz { cls := .type "tuple", data := .seq vs.toArray } (.tup (vs.toArray.toList.map toV)))) = _
 rw [if_neg (by decide)]
section
variable {P : Program} {w : World} {K : PySem.W.Frag} {h : Heap} {A : List Addr}
theorem argH_at {b : Addr} {o : Obj} (hb : b ∈ A) (hk : K.lookup b = none) (e : h.get? b = some o) : argH K h A b = hoOf o := by
 unfold argH
 rw [if_pos hb, hk, if_pos (show (none : Option Obj).isNone = true from rfl), e] <;> rfl
theorem of_argH {b : Addr} {u : HO} (q : argH K h A b = some u) : b ∈ A /\ K.lookup b = none := by
 unfold argH at q
 by_cases hb : b ∈ A
 ·rw [if_pos hb] at q
  cases hk : K.lookup b with
  | none => exact ⟨hb, rfl⟩
  | some o =>
   rw [hk, if_neg (by simp)] at q
   cases q
 ·rw [if_neg hb] at q
  cases q
theorem argH_is (ar : ∀ a ∈ A, ArgOb h A a) {b : Addr} {u : HO} (q : argH K h A b = some u) : K.lookup b = none /\ ∃ vs : List Value, vs.length <= sizeLine /\ (∀ u ∈ vs, OkU A u) /\
  ((h.get? b = some { cls := .type "list", data := .seq vs.toArray } /\ u = .frz { cls := .type "list", data := .seq vs.toArray } (.lst (vs.map toV))) ∨
   (h.get? b = some { cls := .type "tuple", data := .seq vs.toArray } /\ u = .frz { cls := .type "tuple", data := .seq vs.toArray } (.tup (vs.map toV)))) := by
 obtain ⟨hb, hk⟩ := of_argH q
 obtain ⟨vs, h1, h2, h3⟩ := ar b hb
 refine ⟨hk, vs, h1, h2, ?_⟩
 rcases h3 with e | e
 ·rw [argH_at hb hk e, hoOf_lst] at q
  exact .inl ⟨e, (Option.some.inj q).symm⟩
 ·rw [argH_at hb hk e, hoOf_tup] at q
  exact .inr ⟨e, (Option.some.inj q).symm⟩
theorem argH_only (ar : ∀ a ∈ A, ArgOb h A a) : OnlyF (argH K h A) := fun b => by
 cases q : argH K h A b with
 | none => exact .inl rfl
 | some u =>
  obtain ⟨_, vs, _, _, ⟨_, e⟩ | ⟨_, e⟩⟩ := argH_is ar q
  ·exact .inr ⟨_, _, by rw [e]⟩
  ·exact .inr ⟨_, _, by rw [e]⟩
theorem argH_ok (ar : ∀ a ∈ A, ArgOb h A a) : HOk P w (argH K h A) h := fun b u q => by
 obtain ⟨_, vs, h1, h2, ⟨e, rfl⟩ | ⟨e, rfl⟩⟩ := argH_is ar q
 ·exact ⟨e, by rw [List.length_map]; exact h1, vs, _, vals_toV h2, e⟩
 ·exact ⟨e, by rw [List.length_map]; exact h1, vs, vals_toV h2, _, e, rfl, _, rfl⟩
theorem seq_inj {c c' : Value} {vs us : List Value} (e : (some { cls := c, data := .seq vs.toArray } : Option Obj) = some { cls := c', data := .seq us.toArray }) : c = c' /\ vs = us := by
 have e1 := Option.some.inj e
 have e2 : c = c' := congrArg Obj.cls e1
 have e3 : Data.seq vs.toArray = Data.seq us.toArray := congrArg Obj.data e1
 injection e3 with e4
 refine ⟨e2, ?_⟩
 have e5 := congrArg Array.toList e4
 simpa using e5
theorem argL (KX : K.In h) (ar : ∀ a ∈ A, ArgOb h A a) {a : Addr} {vs : List Value} (ha : a ∈ A) (e : h.get? a = some { cls := .type "list", data := .seq vs.toArray }) : (∀ u ∈ vs, OkU A u) /\ SqL K (argH K h A) a (vs.map toV) := by
 obtain ⟨us, h1, h2, h3⟩ := ar a ha
 have hu : us = vs := by
  rcases h3 with q | q
  ·rw [e] at q
   exact (seq_inj q).2.symm
  ·rw [e] at q
   exact absurd (Value.type.inj (seq_inj q).1) (by decide)
 subst hu
 refine ⟨h2, ?_⟩
 cases hk : K.lookup a with
 | none => exact .inl (.inr ⟨_, by rw [argH_at ha hk e, hoOf_lst]⟩)
 | some o =>
  have e2 := KX a o hk
  rw [e] at e2
  obtain rfl := Option.some.inj e2
  exact .inr ⟨_, us.toArray, _, hk, rfl, rfl, rfl, by rw [List.size_toArray]; exact h1, by simpa using vals_toV h2⟩
theorem argT (KX : K.In h) (ar : ∀ a ∈ A, ArgOb h A a) {a : Addr} {vs : List Value} (ha : a ∈ A) (e : h.get? a = some { cls := .type "tuple", data := .seq vs.toArray }) : (∀ u ∈ vs, OkU A u) /\ SqT K (argH K h A) a (vs.map toV) := by
 obtain ⟨us, h1, h2, h3⟩ := ar a ha
 have hu : us = vs := by
  rcases h3 with q | q
  ·rw [e] at q
   exact absurd (Value.type.inj (seq_inj q).1) (by decide)
  ·rw [e] at q
   exact (seq_inj q).2.symm
 subst hu
 refine ⟨h2, ?_⟩
 cases hk : K.lookup a with
 | none => exact .inl (.inr ⟨_, by rw [argH_at ha hk e, hoOf_tup]⟩)
 | some o =>
  have e2 := KX a o hk
  rw [e] at e2
  obtain rfl := Option.some.inj e2
  exact .inr ⟨_, us.toArray, _, hk, rfl, rfl, by rw [List.size_toArray]; exact h1, by simpa using vals_toV h2⟩
mutual
theorem dw_one {Pm : Params} (KX : K.In h) (ar : ∀ a ∈ A, ArgOb h A a) : ∀ (d : WData) (v : Value), Well Pm h v d -> plW d = true -> OkU A v -> Dw K (argH K h A) (toV v) d
 | .none, _, x, _, _ => by
  cases x
  exact .non
 | .bool b, _, x, _, _ => by
  cases x
  exact .bl b
 | .int i, _, x, _, _ => by
  cases x
  exact .int i
 | .str s, _, x, _, _ => by
  cases x
  exact .str s
 | .bytes b, _, x, _, _ => by
  cases x
  have z := Dw.byt (K := K) (H := argH K h A) b.toArray
  exact z
 | .list ds, _, x, p, hu => by
  obtain ⟨a, vs, rfl, ho, hall⟩ := well_list x
  obtain ⟨h2, hs⟩ := argL KX ar hu ho
  exact .lst hs (dw_all KX ar ds _ hall p h2)
 | .tuple ds, _, x, p, hu => by
  obtain ⟨a, vs, rfl, ho, hall⟩ := well_tuple x
  obtain ⟨h2, hs⟩ := argT KX ar hu ho
  exact .tup hs (dw_all KX ar ds _ hall p h2)
 | .float _, _, _, p, _ => Bool.noConfusion (show false = true from p)
 | .dict _, _, _, p, _ => Bool.noConfusion (show false = true from p)
 | .bytearray _, _, _, p, _ => Bool.noConfusion (show false = true from p)
 | .set _, _, _, p, _ => Bool.noConfusion (show false = true from p)
 | .frozenset _, _, _, p, _ => Bool.noConfusion (show false = true from p)
 | .obj _ _, _, _, p, _ => Bool.noConfusion (show false = true from p)
theorem dw_all {Pm : Params} (KX : K.In h) (ar : ∀ a ∈ A, ArgOb h A a) : ∀ (ds : List WData) (vs : List Value), WellAll Pm h vs ds -> plWs ds = true -> (∀ u ∈ vs, OkU A u) -> DwAll K (argH K h A) (vs.map toV) ds
 | [], _, x, _, _ => by
  cases x
  exact .nil
 | d :: ds, _, x, p, hu => by
  obtain ⟨v, vs, rfl, x1, x2⟩ := well_cons x
  have q : plW d = true /\ plWs ds = true := Bool.and_eq_true_iff.mp p
  exact .cons (dw_one KX ar d v x1 q.1 (hu _ (List.mem_cons_self ..))) (dw_all KX ar ds vs x2 q.2 fun u m => hu u (List.mem_cons_of_mem _ m))
end
end
theorem spec_call {P : Program} {w : World} {K : PySem.W.Frag} {mg mb : Str -> Option Value} {CX : CXT} {k : Nat} {fa : Addr} {fd : FuncData} {ps : List Str} {sp : Sp} {s₁ : Shared} {vals : List Value} {ds : List WData} {R : PySem.W.WRecords} {cl : Str -> Option Addr} {d0 : WData}
  (KX : K.In s₁.heap) (hns : s₁.heap.Ns mainGlobals mg) (hb : s₁.heap.Ns builtinsNs mb) (hbb : ∀ x : Str, x ≠ "__name__" -> mb x = bootBuiltins x) (hlim : s₁.heap.NoLimit) (hg : s₁.gens = #[])
  (hwl : WellAll w.params s₁.heap vals ds) (hpl : plWs ds = true) (hwt : ∀ d ∈ ds, d.weight <= 1048576) (hr : Room k callerA)
  (F : ∀ base : Heap, K.In base -> base.Ns mainGlobals mg -> FnOk P w K mg base CX k fa fd ps sp) (hbind : ∀ (s : Shared) (us : List Value), us.length = ps.length -> BindsTo s fd ⟨us, []⟩ (ps.zip us)) (hlen : ds.length = ps.length)
  (hsp : ∀ (H : Hp) (xs : List V), OnlyF H -> DwAll K H xs ds -> sp xs H (fun v H' => Dw K H' v d0) fun _ _ _ => False)
  (hCX : ∀ H e s', CX [] H s₁ (fun _ _ _ => False) e s' -> False) :
  codeAny (model P w) callerA (.call (.ref fa) ⟨vals, []⟩) (fun r s' => ∃ u as, r = .ok (.ret u) /\ ReadsW R cl s'.heap u d0 as /\ OldK s₁.heap s'.heap /\ s'.os = s₁.os /\ AllBare s'.gens) s₁ := by
 obtain ⟨A, ho, ar⟩ := area_all ds vals hwl hpl hwt
 have hO : OnlyF (argH K s₁.heap A) := argH_only ar
 have hok : HOk P w (argH K s₁.heap A) s₁.heap := argH_ok ar
 have hS := dw_all KX ar ds vals hwl hpl ho
 have hV := vals_toV ho
 have hK : ∀ b u, argH K s₁.heap A b = some u -> K.lookup b = none := fun b u q => (argH_is ar q).1
 have noA : ∀ {b : Addr} {o : Obj} {es : Array DictEntry} {ep : Nat}, s₁.heap.get? b = some o -> o.data = .dict es ep -> argH K s₁.heap A b = none := fun {b o es ep} e d => by
  cases q : argH K s₁.heap A b with
  | none => rfl
  | some u =>
   obtain ⟨_, vs, _, _, ⟨e2, _⟩ | ⟨e2, _⟩⟩ := argH_is ar q
   ·rw [e2] at e
    cases e
    have d' : Data.seq vs.toArray _ = Data.dict es ep := d
    cases d'
   ·rw [e2] at e
    cases e
    have d' : Data.seq vs.toArray _ = Data.dict es ep := d
    cases d'
 generalize argH K s₁.heap A = H at hO hok hS hK noA
 have base_of : ∀ {b : Addr} {o : Obj}, s₁.heap.get? b = some o -> H b = none -> (hidT s₁.heap H).get? b = some o := fun e n => hidT_get e n
 have nsK : ∀ {b : Addr} {m : Str -> Option Value}, s₁.heap.Ns b m -> (hidT s₁.heap H).Ns b m := fun {b m} ⟨o, es, ep, e, d, r⟩ => ⟨o, es, ep, base_of e (noA e d), d, r⟩
 have nK : ∀ b o, K.lookup b = some o -> H b = none := fun b o e => by
  cases q : H b with
  | none => rfl
  | some u =>
   rw [hK b u q] at e
   cases e
 have hKb : K.In (hidT s₁.heap H) := fun b o e => base_of (KX b o e) (nK b o e)
 have hM : Mod K mg (hidT s₁.heap H) := ⟨hKb, nsK hns, ⟨mb, nsK hb, hbb⟩, let ⟨mc, h1, h2⟩ := hlim; ⟨mc, nsK h1, h2⟩⟩
 have e0 : Env0 P w K mg (hidT s₁.heap H) callerA [] s₁ H := ⟨rfl, hM, fun b o e => of_hidT e, Nat.le_of_eq (hidT_size _ _), trivial, fun b hb => absurd (show b ∈ ([] : List Addr) from hb) (by simp), hok, .of_eq hg⟩
 have hl : vals.length = ps.length := by rw [wellAll_len hwl]; exact hlen
 refine codeAny_mono ((F _ hKb (nsK hns)).run callerA [] s₁ H ⟨vals, []⟩ vals (vals.map toV) _ _ hr e0 (hbind s₁ vals hl) hV (hsp H _ hO hS)) fun r s' x => ?_
 cases r with
 | error e => exact (hCX H e s' x).elim
 | ok fl =>
  cases fl with
  | next => exact False.elim x
  | brk => exact False.elim x
  | cont => exact False.elim x
  | ret u =>
   obtain ⟨v, H', os, bare, un, hok', r', q⟩ := x
   have kept : ∀ b o, s₁.heap.get? b = some o -> s'.heap.get? b = some o := fun b o e => by
    cases q2 : H b with
    | none => exact un.keep b o e q2 (by intro z; exact absurd (show b ∈ ([] : List Addr) from z) (by simp)) (by simp)
    | some u2 =>
     rcases hO b with z | ⟨ob, u3, z⟩
     ·rw [q2] at z
      cases z
     ·have z2 := un.frzs b ob _ z
      obtain ⟨e1, _⟩ := hok b _ z
      obtain ⟨e2, _⟩ := hok' b _ z2
      rw [e] at e1
      cases e1
      exact e2
   have KX' : K.In s'.heap := fun b o e => kept b o (KX b o e)
   obtain ⟨as, hrd⟩ := Dw.reads (R := R) (cl := cl) hok' KX' d0 v u q r'
   exact ⟨u, as, rfl, hrd, OldK.of_keep kept, os, bare⟩
theorem layable_weight {ds : List WData} (h : WData.layableAll ds = true) : ∀ d ∈ ds, d.weight <= 1048576 := fun d hd =>
 (PySem.W.layableW_iff.mp (List.all_eq_true.mp h d hd)).2.2
theorem encAll_len : ∀ (cs : List Codec) (a : Codec.denoteAll cs), (Codec.encAll cs a).length = cs.length
 | [], _ => rfl
 | c :: cs, a => by
  show (Codec.encAll cs a.2).length + 1 = cs.length + 1
  rw [encAll_len cs a.2]
theorem walk_spec {r : OpenSpec} {k : Nat} {q : Program} {loose : List Str} {XP : (Str -> Option Value) -> Heap -> Prop} {YP : World -> Heap -> Prop} {d : DefRec} {K : Params -> PySem.W.Frag} {CX : World -> CXT} {ps : List Str} {sp : World -> Sp}
  (hwell : r.wellSaid = true) (hdf : d.params.defaults = []) (hlen : r.args.length = ps.length) (hr : Room k callerA)
  (hY : ∀ (w : World) (h : Heap), YP w h -> (K w.params).In h)
  (F : ∀ (w : World) (mg : Str -> Option Value) (fa : Addr) (h : Heap), YP w h -> (K w.params).In h -> h.Ns mainGlobals mg -> mg d.name = some (.ref fa) ->
   ∃ fd : FuncData, (∀ (s : Shared) (us : List Value), us.length = ps.length -> BindsTo s fd ⟨us, []⟩ (ps.zip us)) /\
    ∀ base : Heap, (K w.params).In base -> base.Ns mainGlobals mg -> FnOk r.prog w (K w.params) mg base (CX w) k fa fd ps (sp w))
  (hsp : ∀ (w : World) (H : Hp) (xs : List V) (a : Codec.denoteAll r.args), OnlyF H -> Codec.withinAll r.args a = true -> Codec.app r.args r.asked a = true -> DwAll (K w.params) H xs (Codec.encAll r.args a) ->
   sp w xs H (fun v H' => Dw (K w.params) H' v (r.ret.enc (Codec.app r.args r.f a))) fun _ _ _ => False)
  (hCX : ∀ (w : World) (H : Hp) (s : Shared) (e : Value) (s' : Shared), CX w [] H s (fun _ _ _ => False) e s' -> False) :
  PySem.W.WalkOS q loose XP YP r d [] (fun f vs => PySem.call f vs) := by
 intro w s_0 s₁ mg mb G Y fa o pm cd doc dV kV ho hd hcd hD hmg hg args vals as hpre hlay hrd hwl hlo
 obtain ⟨a, e1, e2⟩ := PySem.W.os_pre_some hpre
 obtain ⟨e3, hwi⟩ := Codec.encAll_of_decAll r.args args a e1
 subst e3
 have KX := hY w _ Y
 obtain ⟨fd, hb, hF⟩ := F w mg fa _ Y KX G.T.g hmg
 refine PySem.W.enter_call (codeAny_mono (spec_call (R := []) (cl := classAt s_0.heap) (d0 := r.ret.enc (Codec.app r.args r.f a)) KX G.T.g G.T.b G.T.builtins G.T.nolimit hg hwl (pl_encAll _ _) (layable_weight hlay) hr hF hb (by rw [encAll_len]; exact hlen)
  (fun H xs hO hS => hsp w H xs a hO hwi e2 hS) fun H e s' => hCX w H s₁ e s') fun r' s' hq => ?_)
 obtain ⟨u, as', rfl, h1, h2, h3, h4⟩ := hq
 exact ⟨.inl ⟨u, _, as', rfl, fun _ => rfl, h1, (OpenSpec.post_iff hwell hwi _ _).mpr rfl, fun z => Bool.noConfusion (show false = true from z)⟩, h2, h3, h4⟩
theorem walk_specK {r : OpenSpec} {k : Nat} {q : Program} {loose : List Str} {XP : (Str -> Option Value) -> Heap -> Prop} {YP : World -> Heap -> Prop} {d : DefRec} {K : Params -> PySem.W.Frag} {CX : CXT} {ps : List Str} {sp : PySem.W.Frag -> Sp}
  (hwell : r.wellSaid = true) (hdf : d.params.defaults = []) (hlen : r.args.length = ps.length) (hr : Room k callerA)
  (hY : ∀ (w : World) (h : Heap), YP w h -> (K w.params).In h)
  (F : ∀ (w : World) (mg : Str -> Option Value) (fa : Addr) (h : Heap), YP w h -> (K w.params).In h -> h.Ns mainGlobals mg -> mg d.name = some (.ref fa) ->
   ∃ fd : FuncData, (∀ (s : Shared) (us : List Value), us.length = ps.length -> BindsTo s fd ⟨us, []⟩ (ps.zip us)) /\
    ∀ base : Heap, (K w.params).In base -> base.Ns mainGlobals mg -> FnOk r.prog w (K w.params) mg base CX k fa fd ps (sp (K w.params)))
  (hsp : ∀ (K : PySem.W.Frag) (H : Hp) (xs : List V) (a : Codec.denoteAll r.args), OnlyF H -> Codec.withinAll r.args a = true -> Codec.app r.args r.asked a = true -> DwAll K H xs (Codec.encAll r.args a) ->
   sp K xs H (fun v H' => Dw K H' v (r.ret.enc (Codec.app r.args r.f a))) fun _ _ _ => False)
  (hCX : ∀ (H : Hp) (s : Shared) (e : Value) (s' : Shared), CX [] H s (fun _ _ _ => False) e s' -> False) :
  PySem.W.WalkOS q loose XP YP r d [] (fun f vs => PySem.call f vs) :=
 walk_spec (K := K) (CX := fun _ => CX) (sp := fun w => sp (K w.params)) hwell hdf hlen hr hY F (fun w H xs a h1 h2 h3 h4 => hsp (K w.params) H xs a h1 h2 h3 h4) fun _ H s e s' => hCX H s e s'
end L2
end
namespace Sr
section
open PySem PySem.Spec PyProof.Rows L2
section
section
variable {X : Cx} {pins : List (Addr × Obj)} {σ : L2.St} {H : Hp} {s : Shared}
theorem inv_swapPins {a b : Addr × Obj} (J : Inv X (a :: b :: pins) σ H s) : Inv X (b :: a :: pins) σ H s := J.pins_of fun p hp => J.pin p (List.mem_append_right _ (by
 rcases List.mem_cons.mp hp with rfl | hp
 ·exact List.mem_cons_of_mem _ List.mem_cons_self
 ·rcases List.mem_cons.mp hp with rfl | hp
  ·exact List.mem_cons_self
  ·exact List.mem_cons_of_mem _ (List.mem_cons_of_mem _ hp)))
theorem inv_dropPin {a : Addr × Obj} (J : Inv X (a :: pins) σ H s) : Inv X pins σ H s := J.pins_of fun p hp => J.pin p (List.mem_append_right _ (List.mem_cons_of_mem _ hp))
theorem inv_repin {a : Addr} {o o' : Obj} {h' : Heap} {t' : Nat} (J : Inv X ((a, o) :: pins) σ H s) (k : ∀ b u, b ≠ a -> s.heap.get? b = some u -> h'.get? b = some u) (ha : h'.get? a = some o') (hc : ∀ v, o'.data ≠ .cell v)
  (h1 : X.s_0.heap.objs.size <= a) (h3 : ∀ p ∈ X.pn ++ pins, p.1 ≠ a) : Inv X ((a, o') :: pins) σ H { s with heap := h', toks := t' } := by
 obtain ⟨e, n, ne, nf, d⟩ := J.pin (a, o) (List.mem_append_right _ List.mem_cons_self)
 have J1 := (inv_dropPin J).turned (t' := t') k n ne (.inr h1) (fun x c q z => by
  obtain ⟨v, oc, ho, hd⟩ := J.cell x c q
  rw [z, e] at ho
  cases ho
  exact d v hd) h3
 refine J1.pins_of fun p hp => ?_
 rcases List.mem_cons.mp hp with rfl | hp
 ·exact ⟨ha, n, ne, nf, hc⟩
 ·exact J1.pin p (List.mem_append_right _ hp)
theorem inv_pushPin {o : Obj} (J : Inv X pins σ H s) (hc : ∀ v, o.data ≠ .cell v) (hf : o.isFreed = false) : Inv X ((s.heap.objs.size, o) :: pins) σ H { s with heap := s.heap.push o } := by
 have J1 := J.kept (t' := s.toks) (h' := s.heap.push o) fun b u e => Heap.get?_push_of_some _ e
 refine J1.pins_of fun p hp => ?_
 rcases List.mem_cons.mp hp with rfl | hp
 ·exact ⟨Heap.get?_push_size _ hf, J.hok.fresh (Nat.le_refl _), Nat.ne_of_gt J.lt, J.nofs (Nat.le_refl _), hc⟩
 ·exact J1.pin p (List.mem_append_right _ hp)
theorem inv_pinLt {p : Addr × Obj} (J : Inv X pins σ H s) (hp : p ∈ X.pn ++ pins) : p.1 < s.heap.objs.size := Heap.lt_size (J.pin p hp).1
theorem vals_refs : ∀ {as : List Addr} {us : List Value}, Vals (as.map V.ref) us -> us = as.map Value.ref
 | [], _, .nil => rfl
 | _ :: as, _, .cons r t => by
  rw [vals_refs t, show _ = Value.ref _ from r]
  rfl
end
section
variable {X : Cx} {pins : List (Addr × Obj)} {σ : L2.St} {H0 : Hp} {l q I S : Addr} {as : List Addr} {kws : List (Str × Value)} {R : Result -> Shared -> Prop}
theorem minK_loop (kf : Nat -> Int) (hh : X.A.handled = none) (hl : H0 l = some (.lst (as.map V.ref))) (hIS : I ≠ S) (hI : X.s_0.heap.objs.size <= I) (hS : X.s_0.heap.objs.size <= S) (pI : ∀ p ∈ X.pn ++ pins, p.1 ≠ I) (pS : ∀ p ∈ X.pn ++ pins, p.1 ≠ S) (nlI : l ≠ I)
  (turn : ∀ (i : Nat) (a : Addr) (pins' : List (Addr × Obj)) (H' : Hp) (s' : Shared), as[i]? = some a -> Inv X pins' σ H' s' -> Same H0 H' ->
   wpAny (model X.prog X.w) X.A.in1 (call (.ref q) [.ref a]) (EP X pins' σ fun y H'' => y = .int (kf i) /\ Same H' H'') (fun _ _ => False) s')
  (hR : ∀ (i : Nat) (a : Addr) (H' : Hp) (s' : Shared), as[i]? = some a -> (∀ j, j < as.length -> kf i <= kf j /\ (j < i -> kf i < kf j)) -> Inv X pins σ H' s' -> Same H0 H' -> R (.ok (.ret (.ref a))) s') :
  ∀ (r j i : Nat) (H : Hp) (s : Shared) (b : Addr) (tb : Tok) (c : Nat) (oI : Obj), as.length - (j + 1) = r -> j + 1 <= as.length -> Same H0 H ->
   Inv X ((I, oI) :: (S, seqObj "list" #[.ref b, .int (kf i) tb] c) :: pins) σ H s -> s.heap.IsListIter I l (j + 1) -> as[i]? = some b -> i <= j -> (∀ j', j' <= j -> kf i <= kf j' /\ (j' < i -> kf i < kf j')) ->
   codeAny (model X.prog X.w) X.A (.builtin "min.loop" ⟨[.ref I, .ref q, .ref S], kws⟩) R s := by
 have hname : (toString "min" ++ toString ".loop" : String) = "min.loop" := by decide
 have W := Walks.list (prog := X.prog) (w := X.w) (A := X.A.in1) hh I l nlI (as.map Value.ref).toArray
 have hsz : (as.map Value.ref).toArray.size = as.length := by rw [List.size_toArray, List.length_map]
 have pIS : ∀ o, ∀ p ∈ X.pn ++ (S, o) :: pins, p.1 ≠ I := fun o p hp => by
  rcases List.mem_append.mp hp with hp | hp
  ·exact pI p (List.mem_append_left _ hp)
  ·rcases List.mem_cons.mp hp with rfl | hp
   ·exact Ne.symm hIS
   ·exact pI p (List.mem_append_right _ hp)
 have pSI : ∀ o, ∀ p ∈ X.pn ++ (I, o) :: pins, p.1 ≠ S := fun o p hp => by
  rcases List.mem_append.mp hp with hp | hp
  ·exact pS p (List.mem_append_left _ hp)
  ·rcases List.mem_cons.mp hp with rfl | hp
   ·exact hIS
   ·exact pS p (List.mem_append_right _ hp)
 have lst : ∀ {H : Hp} {pins' : List (Addr × Obj)} {s : Shared}, Same H0 H -> Inv X pins' σ H s -> s.heap.IsList l (as.map Value.ref).toArray := fun {H pins' s} sm J => by
  obtain ⟨its, rv, p, hz⟩ := J.list (SqL.of (sm _ _ hl))
  rw [vals_refs rv] at p
  exact p.isList
 intro r
 induction r with
 | zero =>
  intro j i H s b tb c oI hr hj sm J hit hvb hij hbest
  have hin : j + 1 = as.length := by omega
  have nS := J.pin (S, seqObj "list" #[.ref b, .int (kf i) tb] c) (List.mem_append_right _ (List.mem_cons_of_mem _ List.mem_cons_self))
  refine codeAny_builtin PySem.F.entry_min_loop ?_
  rw [Around.under_plainId PySem.F.plain_min_loop _]
  show wpAny _ X.A.in1 (seqItems? (.ref S) >>= _) _ _ _
  refine wpAny_bind (wpAny_seqItems nS.1 rfl ?_)
  show wpAny _ X.A.in1 (tryCatch (pyNext (.ref I)) _ >>= _) _ _ _
  refine wpAny_bind (wpAny_tryCatch (W.done _ _ _ ⟨by rw [hsz, <- hin]; exact hit, lst sm J⟩ fun h' tk' hk' => ?_))
  have J1 : Inv X ((S, seqObj "list" #[.ref b, .int (kf i) tb] c) :: pins) σ H { s with heap := h', toks := tk' } := by
   have e := J.pin (I, oI) (List.mem_append_right _ List.mem_cons_self)
   exact (inv_dropPin J).turned (fun b u hb e => hk' b u (by simpa using hb) e) e.2.1 e.2.2.1 (.inr hI) (fun x c q z => by
    obtain ⟨v, oc, ho, hd⟩ := J.cell x c q
    rw [z, e.1] at ho
    cases ho
    exact e.2.2.2.2 v hd) (pIS _)
  have nS1 := J1.pin (S, seqObj "list" #[.ref b, .int (kf i) tb] c) (List.mem_append_right _ List.mem_cons_self)
  have s1 := Heap.SameBut.update h' S (Obj.mapSeq fun _ => (#[] : Array Value))
  show wpAny _ X.A.in1 (updateSeq S (fun _ => #[]) >>= _) _ _ _
  refine wpAny_bind ?_
  refine wpAny_updateSeq nS1.1 rfl (wpAny_bind (wpAny_letGo (wpAny_pure ?_)))
  exact hR i b H _ hvb (fun j' hj' => hbest j' (by omega)) (inv_dropPin (inv_repin (t' := tk') J1 (fun b u hb e => (s1.2 b hb).trans e) (get?_update_seq nS1.1 fun _ => #[]) (fun v z => by cases z) hS pS)) sm
 | succ r ih =>
  intro j i H s b tb c oI hr hj sm J hit hvb hij hbest
  have hlt : j + 1 < as.length := by omega
  have nS := J.pin (S, seqObj "list" #[.ref b, .int (kf i) tb] c) (List.mem_append_right _ (List.mem_cons_of_mem _ List.mem_cons_self))
  refine codeAny_builtin PySem.F.entry_min_loop ?_
  rw [Around.under_plainId PySem.F.plain_min_loop _]
  show wpAny _ X.A.in1 (seqItems? (.ref S) >>= _) _ _ _
  refine wpAny_bind (wpAny_seqItems nS.1 rfl ?_)
  show wpAny _ X.A.in1 (tryCatch (pyNext (.ref I)) _ >>= _) _ _ _
  refine wpAny_bind (wpAny_tryCatch (W.item (j + 1) _ _ _ (by rw [hsz]; exact hlt) ⟨hit, lst sm J⟩ fun v h' tk' hP hst' hk' => ?_))
  obtain ⟨a, ha, rfl⟩ : ∃ a, as[j + 1]? = some a /\ v = .ref a := by
   have e : (as.map Value.ref)[j + 1]? = some v := by simpa using hP
   rw [List.getElem?_map] at e
   cases q : as[j + 1]? with
   | none => rw [q] at e; cases e
   | some a => rw [q] at e; exact ⟨a, rfl, (Option.some.inj e).symm⟩
  obtain ⟨oI', hoI', hoc, hod⟩ := id hst'.1
  have J1 : Inv X ((I, oI') :: (S, seqObj "list" #[.ref b, .int (kf i) tb] c) :: pins) σ H { s with heap := h', toks := tk' } :=
   inv_repin J (fun b u hb e => hk' b u (by simpa using hb) e) hoI' (fun v z => by rw [hod] at z; cases z) hI (pIS _)
  show wpAny _ X.A.in1 (tryCatch (holding [.ref a] (call (.ref q) [.ref a])) _ >>= _) _ _ _
  refine wpAny_bind (wpAny_tryCatch (wpAny_holding (wpAny_mono (turn (j + 1) a _ H _ ha J1 sm) (fun x s'' he => ?_) fun _ _ hF => hF.elim)))
  obtain ⟨y, H2, J2, ry, rfl, sm2⟩ := he
  obtain ⟨t2, rfl⟩ := ry
  have sm02 := sm.trans sm2
  have nS2 := J2.pin (S, seqObj "list" #[.ref b, .int (kf i) tb] c) (List.mem_append_right _ (List.mem_cons_of_mem _ List.mem_cons_self))
  have nI2 := J2.pin (I, oI') (List.mem_append_right _ List.mem_cons_self)
  have hit2 : s''.heap.IsListIter I l (j + 1 + 1) := ⟨oI', nI2.1, hoc, hod⟩
  show wpAny _ X.A.in1 (tryCatch (holding [.ref a, .int (kf (j + 1)) t2] (richCompare .Lt (.int (kf (j + 1)) t2) (.int (kf i) tb) >>= _)) _ >>= _) _ _ _
  refine wpAny_bind (wpAny_tryCatch (wpAny_holding (wpAny_bind (CmpOf.ints_lt (prog := X.prog) (w := X.w) (A := X.A.in1) (P := fun i v => ∃ t, v = .int (kf i) t) kf (fun i v h => h) (j + 1) i _ _ _ _ _ ⟨t2, rfl⟩ ⟨tb, rfl⟩ ?_))))
  refine wpAny_bind (wpAny_holding (wpAny_truthy_bool ?_))
  refine wpAny_bind (wpAny_letGo (wpAny_pure ?_))
  by_cases hb' : kf (j + 1) < kf i
  ·have s1 := Heap.SameBut.update s''.heap S (Obj.mapSeq fun _ => #[.ref a, .int (kf (j + 1)) t2])
   obtain ⟨c2, hc2⟩ : ∃ c2, (s''.heap.update S (Obj.mapSeq fun _ => #[.ref a, .int (kf (j + 1)) t2])).get? S = some (seqObj "list" #[.ref a, .int (kf (j + 1)) t2] c2) := ⟨_, get?_update_seq nS2.1 fun _ => #[.ref a, .int (kf (j + 1)) t2]⟩
   simp only [hb', decide_true, if_true]
   refine wpAny_bind ?_
   refine wpAny_updateSeq nS2.1 rfl (wpAny_bind (wpAny_letGo ?_))
   rw [hname]
   have J3 := inv_swapPins (inv_repin (t' := s''.toks) (inv_swapPins J2) (fun b u hb e => (s1.2 b hb).trans e) hc2 (fun v z => by cases z) hS (pSI _))
   refine wpAny_pure ⟨plainId_quiet PySem.F.plain_min_loop _, ih (j + 1) (j + 1) H2 _ a t2 c2 oI' (by omega) hlt sm02 J3 ⟨oI', (s1.2 I hIS).trans nI2.1, hoc, hod⟩ ha (Nat.le_refl _) fun j' hj' => ?_⟩
   by_cases e : j' = j + 1
   ·subst e
    exact ⟨by omega, fun _ => by omega⟩
   ·have hb1 := hbest j' (by omega)
    have hb2 := hb1.1
    exact ⟨by omega, fun _ => by omega⟩
  ·simp only [hb', decide_false, Bool.false_eq_true, if_false]
   refine wpAny_bind (wpAny_letGo ?_)
   rw [hname]
   refine wpAny_pure ⟨plainId_quiet PySem.F.plain_min_loop _, ih (j + 1) i H2 _ b tb c oI' (by omega) hlt sm02 J2 hit2 hvb (by omega) fun j' hj' => ?_⟩
   by_cases e : j' = j + 1
   ·subst e
    exact ⟨by omega, fun _ => by omega⟩
   ·exact hbest j' (by omega)
theorem minK_args (a v u : Value) : argsOk "min" ⟨[a], [(Str.ofString "key", v), (Str.ofString "default", u)]⟩ := by unfold argsOk; kernel_rfl
theorem minK_run {Q : Value -> Shared -> Prop} {E : Value -> Shared -> Prop} {H : Hp} {s : Shared} {u : Value} (kf : Nat -> Int) (hh : X.A.handled = none) (hl : H l = some (.lst (as.map V.ref))) (J : Inv X pins σ H s)
  (turn : ∀ (i : Nat) (a : Addr) (pins' : List (Addr × Obj)) (H' : Hp) (s' : Shared), as[i]? = some a -> Inv X pins' σ H' s' -> Same H H' ->
   wpAny (model X.prog X.w) X.A.in1 (call (.ref q) [.ref a]) (EP X pins' σ fun y H'' => y = .int (kf i) /\ Same H' H'') (fun _ _ => False) s')
  (hE : as = [] -> ∀ s', Inv X pins σ H s' -> Q u s')
  (hR : ∀ (i : Nat) (a : Addr) (H' : Hp) (s' : Shared), as[i]? = some a -> (∀ j, j < as.length -> kf i <= kf j /\ (j < i -> kf i < kf j)) -> Inv X pins σ H' s' -> Same H H' -> Q (.ref a) s') :
  wpAny (model X.prog X.w) X.A (call (.builtin "min") [.ref l] [(Str.ofString "key", .ref q), (Str.ofString "default", u)]) Q E s := by
 have hname : (toString "min" ++ toString ".loop" : String) = "min.loop" := by decide
 obtain ⟨its, rv, pl, hz⟩ := J.list (SqL.of hl)
 have hls : s.heap.IsList l (as.map Value.ref).toArray := by rw [<- vals_refs rv]; exact pl.isList
 obtain ⟨ol, hol, _⟩ := id hls
 have hll : l < s.heap.objs.size := Heap.lt_size hol
 refine kmk_tree PySem.F.kind_min PySem.F.plain_min PySem.F.entry_min (minK_args _ _ _) ?_
 show wpAny _ X.A.in1 (Builtin.Builtins.bindParams "min" ["key", "default"] 0 ⟨[], [(Str.ofString "key", .ref q), (Str.ofString "default", u)]⟩ >>= _) _ _ s
 refine wpAny_bind (wpAny_of_eq (show Builtin.Builtins.bindParams "min" ["key", "default"] 0 ⟨[], [(Str.ofString "key", .ref q), (Str.ofString "default", u)]⟩ = pure [some (.ref q), some u] from rfl) ?_)
 refine wpAny_bind (wpAny_pure ?_)
 refine wpAny_bind (wpAny_pyIter_list hls ?_)
 refine wpAny_bind (wpAny_newList ?_ (Nat.zero_le _))
 rw [hname]
 have J1 := inv_pushPin (o := { cls := .type "list_iterator", data := .fields #[.ref l, .int 0 0] }) J (fun v z => by cases z) rfl
 have J2 := inv_pushPin (o := seqObj "list" #[] 0) J1 (fun v z => by cases z) rfl
 have hS : (s.heap.push { cls := .type "list_iterator", data := .fields #[.ref l, .int 0 0] }).objs.size = s.heap.objs.size + 1 := size_push' ..
 refine wpAny_pure ⟨plainId_quiet PySem.F.plain_min_loop _, ?_⟩
 have nlI : l ≠ s.heap.objs.size := Nat.ne_of_lt hll
 have hI : X.s_0.heap.objs.size <= s.heap.objs.size := J.sz
 have pI : ∀ p ∈ X.pn ++ pins, p.1 ≠ s.heap.objs.size := fun p hp => Nat.ne_of_lt (inv_pinLt J hp)
 generalize eI : s.heap.objs.size = I at *
 have J2' := J2
 show codeAny (model X.prog X.w) X.A (.builtin "min.loop" ⟨[.ref I, .ref q, .ref (s.heap.push { cls := .type "list_iterator", data := .fields #[.ref l, .int 0 0] }).objs.size], _⟩) _ _
 rw [hS]
 have J2 : Inv X ((I + 1, seqObj "list" #[] 0) :: (I, { cls := .type "list_iterator", data := .fields #[.ref l, .int 0 0] }) :: pins) σ H { s with heap := (s.heap.push { cls := .type "list_iterator", data := .fields #[.ref l, .int 0 0] }).push (seqObj "list" #[] 0) } := by
  have := J2'
  rw [<- hS]
  exact this
 clear J2'
 have hIS : I ≠ I + 1 := by omega
 have pS : ∀ p ∈ X.pn ++ pins, p.1 ≠ I + 1 := fun p hp => by
  have := inv_pinLt J hp
  rw [eI] at this
  exact Nat.ne_of_lt (Nat.lt_succ_of_lt this)
 have W := Walks.list (prog := X.prog) (w := X.w) (A := X.A.in1) hh I l nlI (as.map Value.ref).toArray
 have hsz : (as.map Value.ref).toArray.size = as.length := by rw [List.size_toArray, List.length_map]
 have gS := J2.pin (I + 1, seqObj "list" #[] 0) (List.mem_append_right _ List.mem_cons_self)
 have gI := J2.pin (I, { cls := .type "list_iterator", data := .fields #[.ref l, .int 0 0] }) (List.mem_append_right _ (List.mem_cons_of_mem _ List.mem_cons_self))
 have pIS : ∀ o, ∀ p ∈ X.pn ++ (I + 1, o) :: pins, p.1 ≠ I := fun o p hp => by
  rcases List.mem_append.mp hp with hp | hp
  ·exact pI p (List.mem_append_left _ hp)
  ·rcases List.mem_cons.mp hp with rfl | hp
   ·exact Ne.symm hIS
   ·exact pI p (List.mem_append_right _ hp)
 have pSI : ∀ o, ∀ p ∈ X.pn ++ (I, o) :: pins, p.1 ≠ I + 1 := fun o p hp => by
  rcases List.mem_append.mp hp with hp | hp
  ·exact pS p (List.mem_append_left _ hp)
  ·rcases List.mem_cons.mp hp with rfl | hp
   ·exact hIS
   ·exact pS p (List.mem_append_right _ hp)
 have hls2 : ((s.heap.push { cls := .type "list_iterator", data := .fields #[.ref l, .int 0 0] }).push (seqObj "list" #[] 0)).IsList l (as.map Value.ref).toArray := by
  obtain ⟨o, e, r⟩ := hls
  exact ⟨o, Heap.get?_push_of_some _ (Heap.get?_push_of_some _ e), r⟩
 refine codeAny_builtin PySem.F.entry_min_loop ?_
 rw [Around.under_plainId PySem.F.plain_min_loop _]
 show wpAny _ X.A.in1 (seqItems? (.ref (I + 1)) >>= _) _ _ _
 refine wpAny_bind (wpAny_seqItems gS.1 rfl ?_)
 show wpAny _ X.A.in1 (tryCatch (pyNext (.ref I)) _ >>= _) _ _ _
 cases as with
 | nil =>
  refine wpAny_bind (wpAny_tryCatch (W.done _ _ _ ⟨⟨_, gI.1, rfl, rfl⟩, hls2⟩ fun h' tk' hk' => ?_))
  have J3 : Inv X pins σ H { s with heap := h', toks := tk' } := by
   have e := gI
   exact (inv_dropPin (inv_dropPin J2)).turned (fun b u hb e => hk' b u (by simpa using hb) e) e.2.1 e.2.2.1 (.inr hI) (fun x c q z => by
    obtain ⟨v, oc, ho, hd⟩ := J2.cell x c q
    rw [z, e.1] at ho
    cases ho
    exact e.2.2.2.2 v hd) pI
  refine wpAny_bind (wpAny_rule (wpAny_pure ?_))
  exact hE rfl _ J3
 | cons a0 as0 =>
  have hne : 0 < (a0 :: as0).length := Nat.succ_pos _
  refine wpAny_bind (wpAny_tryCatch (W.item 0 _ _ _ (by rw [hsz]; exact hne) ⟨⟨_, gI.1, rfl, rfl⟩, hls2⟩ fun v h' tk' hP hst' hk' => ?_))
  have ev : v = .ref a0 := by simpa using hP.symm
  subst ev
  obtain ⟨oI', hoI', hoc, hod⟩ := id hst'.1
  have J3' := inv_repin (t' := tk') (inv_swapPins J2) (fun b u hb e => hk' b u (by simpa using hb) e) hoI' (fun v z => by rw [hod] at z; cases z) hI (pIS _)
  have J3 : Inv X ((I, oI') :: (I + 1, seqObj "list" #[] 0) :: pins) σ H { s with heap := h', toks := tk' } := J3'
  show wpAny _ X.A.in1 (tryCatch (holding [.ref a0] (call (.ref q) [.ref a0])) _ >>= _) _ _ _
  refine wpAny_bind (wpAny_tryCatch (wpAny_holding (wpAny_mono (turn 0 a0 _ H _ rfl J3 (Same.refl H)) (fun x s'' he => ?_) fun _ _ hF => hF.elim)))
  obtain ⟨y, H2, J4, ry, rfl, sm2⟩ := he
  obtain ⟨t2, rfl⟩ := ry
  have nS2 := J4.pin (I + 1, seqObj "list" #[] 0) (List.mem_append_right _ (List.mem_cons_of_mem _ List.mem_cons_self))
  have nI2 := J4.pin (I, oI') (List.mem_append_right _ List.mem_cons_self)
  have s1 := Heap.SameBut.update s''.heap (I + 1) (Obj.mapSeq fun _ => #[.ref a0, .int (kf 0) t2])
  obtain ⟨c2, hc2⟩ : ∃ c2, (s''.heap.update (I + 1) (Obj.mapSeq fun _ => #[.ref a0, .int (kf 0) t2])).get? (I + 1) = some (seqObj "list" #[.ref a0, .int (kf 0) t2] c2) := ⟨_, get?_update_seq nS2.1 fun _ => #[.ref a0, .int (kf 0) t2]⟩
  show wpAny _ X.A.in1 (updateSeq (I + 1) (fun _ => #[.ref a0, .int (kf 0) t2]) >>= _) _ _ _
  refine wpAny_bind ?_
  refine wpAny_updateSeq nS2.1 rfl ?_
  rw [hname]
  have J5 := inv_swapPins (inv_repin (t' := s''.toks) (inv_swapPins J4) (fun b u hb e => (s1.2 b hb).trans e) hc2 (fun v z => by cases z) (Nat.le_succ_of_le hI) (pSI _))
  refine wpAny_pure ⟨plainId_quiet PySem.F.plain_min_loop _, minK_loop kf hh hl hIS hI (Nat.le_succ_of_le hI) pI pS nlI turn hR _ 0 0 H2 _ a0 t2 c2 oI' rfl hne sm2 J5 ⟨oI', (s1.2 I hIS).trans nI2.1, hoc, hod⟩ rfl (Nat.le_refl _) fun j' hj' => ?_⟩
  have e : j' = 0 := by omega
  subst e
  exact ⟨by omega, fun h => absurd h (Nat.lt_irrefl _)⟩
theorem maxK_loop (kf : Nat -> Int) (hh : X.A.handled = none) (hl : H0 l = some (.lst (as.map V.ref))) (hIS : I ≠ S) (hI : X.s_0.heap.objs.size <= I) (hS : X.s_0.heap.objs.size <= S) (pI : ∀ p ∈ X.pn ++ pins, p.1 ≠ I) (pS : ∀ p ∈ X.pn ++ pins, p.1 ≠ S) (nlI : l ≠ I)
  (turn : ∀ (i : Nat) (a : Addr) (pins' : List (Addr × Obj)) (H' : Hp) (s' : Shared), as[i]? = some a -> Inv X pins' σ H' s' -> Same H0 H' ->
   wpAny (model X.prog X.w) X.A.in1 (call (.ref q) [.ref a]) (EP X pins' σ fun y H'' => y = .int (kf i) /\ Same H' H'') (fun _ _ => False) s')
  (hR : ∀ (i : Nat) (a : Addr) (H' : Hp) (s' : Shared), as[i]? = some a -> (∀ j, j < as.length -> kf i ≥ kf j /\ (j < i -> kf i > kf j)) -> Inv X pins σ H' s' -> Same H0 H' -> R (.ok (.ret (.ref a))) s') :
  ∀ (r j i : Nat) (H : Hp) (s : Shared) (b : Addr) (tb : Tok) (c : Nat) (oI : Obj), as.length - (j + 1) = r -> j + 1 <= as.length -> Same H0 H ->
   Inv X ((I, oI) :: (S, seqObj "list" #[.ref b, .int (kf i) tb] c) :: pins) σ H s -> s.heap.IsListIter I l (j + 1) -> as[i]? = some b -> i <= j -> (∀ j', j' <= j -> kf i ≥ kf j' /\ (j' < i -> kf i > kf j')) ->
   codeAny (model X.prog X.w) X.A (.builtin "max.loop" ⟨[.ref I, .ref q, .ref S], kws⟩) R s := by
 have hname : (toString "max" ++ toString ".loop" : String) = "max.loop" := by decide
 have W := Walks.list (prog := X.prog) (w := X.w) (A := X.A.in1) hh I l nlI (as.map Value.ref).toArray
 have hsz : (as.map Value.ref).toArray.size = as.length := by rw [List.size_toArray, List.length_map]
 have pIS : ∀ o, ∀ p ∈ X.pn ++ (S, o) :: pins, p.1 ≠ I := fun o p hp => by
  rcases List.mem_append.mp hp with hp | hp
  ·exact pI p (List.mem_append_left _ hp)
  ·rcases List.mem_cons.mp hp with rfl | hp
   ·exact Ne.symm hIS
   ·exact pI p (List.mem_append_right _ hp)
 have pSI : ∀ o, ∀ p ∈ X.pn ++ (I, o) :: pins, p.1 ≠ S := fun o p hp => by
  rcases List.mem_append.mp hp with hp | hp
  ·exact pS p (List.mem_append_left _ hp)
  ·rcases List.mem_cons.mp hp with rfl | hp
   ·exact hIS
   ·exact pS p (List.mem_append_right _ hp)
 have lst : ∀ {H : Hp} {pins' : List (Addr × Obj)} {s : Shared}, Same H0 H -> Inv X pins' σ H s -> s.heap.IsList l (as.map Value.ref).toArray := fun {H pins' s} sm J => by
  obtain ⟨its, rv, p, hz⟩ := J.list (SqL.of (sm _ _ hl))
  rw [vals_refs rv] at p
  exact p.isList
 intro r
 induction r with
 | zero =>
  intro j i H s b tb c oI hr hj sm J hit hvb hij hbest
  have hin : j + 1 = as.length := by omega
  have nS := J.pin (S, seqObj "list" #[.ref b, .int (kf i) tb] c) (List.mem_append_right _ (List.mem_cons_of_mem _ List.mem_cons_self))
  refine codeAny_builtin PySem.F.entry_max_loop ?_
  rw [Around.under_plainId PySem.F.plain_max_loop _]
  show wpAny _ X.A.in1 (seqItems? (.ref S) >>= _) _ _ _
  refine wpAny_bind (wpAny_seqItems nS.1 rfl ?_)
  show wpAny _ X.A.in1 (tryCatch (pyNext (.ref I)) _ >>= _) _ _ _
  refine wpAny_bind (wpAny_tryCatch (W.done _ _ _ ⟨by rw [hsz, <- hin]; exact hit, lst sm J⟩ fun h' tk' hk' => ?_))
  have J1 : Inv X ((S, seqObj "list" #[.ref b, .int (kf i) tb] c) :: pins) σ H { s with heap := h', toks := tk' } := by
   have e := J.pin (I, oI) (List.mem_append_right _ List.mem_cons_self)
   exact (inv_dropPin J).turned (fun b u hb e => hk' b u (by simpa using hb) e) e.2.1 e.2.2.1 (.inr hI) (fun x c q z => by
    obtain ⟨v, oc, ho, hd⟩ := J.cell x c q
    rw [z, e.1] at ho
    cases ho
    exact e.2.2.2.2 v hd) (pIS _)
  have nS1 := J1.pin (S, seqObj "list" #[.ref b, .int (kf i) tb] c) (List.mem_append_right _ List.mem_cons_self)
  have s1 := Heap.SameBut.update h' S (Obj.mapSeq fun _ => (#[] : Array Value))
  show wpAny _ X.A.in1 (updateSeq S (fun _ => #[]) >>= _) _ _ _
  refine wpAny_bind ?_
  refine wpAny_updateSeq nS1.1 rfl (wpAny_bind (wpAny_letGo (wpAny_pure ?_)))
  exact hR i b H _ hvb (fun j' hj' => hbest j' (by omega)) (inv_dropPin (inv_repin (t' := tk') J1 (fun b u hb e => (s1.2 b hb).trans e) (get?_update_seq nS1.1 fun _ => #[]) (fun v z => by cases z) hS pS)) sm
 | succ r ih =>
  intro j i H s b tb c oI hr hj sm J hit hvb hij hbest
  have hlt : j + 1 < as.length := by omega
  have nS := J.pin (S, seqObj "list" #[.ref b, .int (kf i) tb] c) (List.mem_append_right _ (List.mem_cons_of_mem _ List.mem_cons_self))
  refine codeAny_builtin PySem.F.entry_max_loop ?_
  rw [Around.under_plainId PySem.F.plain_max_loop _]
  show wpAny _ X.A.in1 (seqItems? (.ref S) >>= _) _ _ _
  refine wpAny_bind (wpAny_seqItems nS.1 rfl ?_)
  show wpAny _ X.A.in1 (tryCatch (pyNext (.ref I)) _ >>= _) _ _ _
  refine wpAny_bind (wpAny_tryCatch (W.item (j + 1) _ _ _ (by rw [hsz]; exact hlt) ⟨hit, lst sm J⟩ fun v h' tk' hP hst' hk' => ?_))
  obtain ⟨a, ha, rfl⟩ : ∃ a, as[j + 1]? = some a /\ v = .ref a := by
   have e : (as.map Value.ref)[j + 1]? = some v := by simpa using hP
   rw [List.getElem?_map] at e
   cases q : as[j + 1]? with
   | none => rw [q] at e; cases e
   | some a => rw [q] at e; exact ⟨a, rfl, (Option.some.inj e).symm⟩
  obtain ⟨oI', hoI', hoc, hod⟩ := id hst'.1
  have J1 : Inv X ((I, oI') :: (S, seqObj "list" #[.ref b, .int (kf i) tb] c) :: pins) σ H { s with heap := h', toks := tk' } :=
   inv_repin J (fun b u hb e => hk' b u (by simpa using hb) e) hoI' (fun v z => by rw [hod] at z; cases z) hI (pIS _)
  show wpAny _ X.A.in1 (tryCatch (holding [.ref a] (call (.ref q) [.ref a])) _ >>= _) _ _ _
  refine wpAny_bind (wpAny_tryCatch (wpAny_holding (wpAny_mono (turn (j + 1) a _ H _ ha J1 sm) (fun x s'' he => ?_) fun _ _ hF => hF.elim)))
  obtain ⟨y, H2, J2, ry, rfl, sm2⟩ := he
  obtain ⟨t2, rfl⟩ := ry
  have sm02 := sm.trans sm2
  have nS2 := J2.pin (S, seqObj "list" #[.ref b, .int (kf i) tb] c) (List.mem_append_right _ (List.mem_cons_of_mem _ List.mem_cons_self))
  have nI2 := J2.pin (I, oI') (List.mem_append_right _ List.mem_cons_self)
  have hit2 : s''.heap.IsListIter I l (j + 1 + 1) := ⟨oI', nI2.1, hoc, hod⟩
  show wpAny _ X.A.in1 (tryCatch (holding [.ref a, .int (kf (j + 1)) t2] (richCompare .Gt (.int (kf (j + 1)) t2) (.int (kf i) tb) >>= _)) _ >>= _) _ _ _
  refine wpAny_bind (wpAny_tryCatch (wpAny_holding (wpAny_bind (CmpOf.ints_gt (prog := X.prog) (w := X.w) (A := X.A.in1) (P := fun i v => ∃ t, v = .int (kf i) t) kf (fun i v h => h) (j + 1) i _ _ _ _ _ ⟨t2, rfl⟩ ⟨tb, rfl⟩ ?_))))
  refine wpAny_bind (wpAny_holding (wpAny_truthy_bool ?_))
  refine wpAny_bind (wpAny_letGo (wpAny_pure ?_))
  by_cases hb' : kf (j + 1) > kf i
  ·have s1 := Heap.SameBut.update s''.heap S (Obj.mapSeq fun _ => #[.ref a, .int (kf (j + 1)) t2])
   obtain ⟨c2, hc2⟩ : ∃ c2, (s''.heap.update S (Obj.mapSeq fun _ => #[.ref a, .int (kf (j + 1)) t2])).get? S = some (seqObj "list" #[.ref a, .int (kf (j + 1)) t2] c2) := ⟨_, get?_update_seq nS2.1 fun _ => #[.ref a, .int (kf (j + 1)) t2]⟩
   simp only [hb', decide_true, if_true]
   refine wpAny_bind ?_
   refine wpAny_updateSeq nS2.1 rfl (wpAny_bind (wpAny_letGo ?_))
   rw [hname]
   have J3 := inv_swapPins (inv_repin (t' := s''.toks) (inv_swapPins J2) (fun b u hb e => (s1.2 b hb).trans e) hc2 (fun v z => by cases z) hS (pSI _))
   refine wpAny_pure ⟨plainId_quiet PySem.F.plain_max_loop _, ih (j + 1) (j + 1) H2 _ a t2 c2 oI' (by omega) hlt sm02 J3 ⟨oI', (s1.2 I hIS).trans nI2.1, hoc, hod⟩ ha (Nat.le_refl _) fun j' hj' => ?_⟩
   by_cases e : j' = j + 1
   ·subst e
    exact ⟨by omega, fun _ => by omega⟩
   ·have hb1 := hbest j' (by omega)
    have hb2 := hb1.1
    exact ⟨by omega, fun _ => by omega⟩
  ·simp only [hb', decide_false, Bool.false_eq_true, if_false]
   refine wpAny_bind (wpAny_letGo ?_)
   rw [hname]
   refine wpAny_pure ⟨plainId_quiet PySem.F.plain_max_loop _, ih (j + 1) i H2 _ b tb c oI' (by omega) hlt sm02 J2 hit2 hvb (by omega) fun j' hj' => ?_⟩
   by_cases e : j' = j + 1
   ·subst e
    exact ⟨by omega, fun _ => by omega⟩
   ·exact hbest j' (by omega)
theorem maxK_args (a v : Value) : argsOk "max" ⟨[a], [(Str.ofString "key", v)]⟩ := by unfold argsOk; kernel_rfl
theorem maxK_run {Q : Value -> Shared -> Prop} {E : Value -> Shared -> Prop} {H : Hp} {s : Shared} (kf : Nat -> Int) (hh : X.A.handled = none) (hl : H l = some (.lst (as.map V.ref))) (J : Inv X pins σ H s)
  (turn : ∀ (i : Nat) (a : Addr) (pins' : List (Addr × Obj)) (H' : Hp) (s' : Shared), as[i]? = some a -> Inv X pins' σ H' s' -> Same H H' ->
   wpAny (model X.prog X.w) X.A.in1 (call (.ref q) [.ref a]) (EP X pins' σ fun y H'' => y = .int (kf i) /\ Same H' H'') (fun _ _ => False) s')
  (hE : as ≠ [])
  (hR : ∀ (i : Nat) (a : Addr) (H' : Hp) (s' : Shared), as[i]? = some a -> (∀ j, j < as.length -> kf i ≥ kf j /\ (j < i -> kf i > kf j)) -> Inv X pins σ H' s' -> Same H H' -> Q (.ref a) s') :
  wpAny (model X.prog X.w) X.A (call (.builtin "max") [.ref l] [(Str.ofString "key", .ref q)]) Q E s := by
 have hname : (toString "max" ++ toString ".loop" : String) = "max.loop" := by decide
 obtain ⟨its, rv, pl, hz⟩ := J.list (SqL.of hl)
 have hls : s.heap.IsList l (as.map Value.ref).toArray := by rw [<- vals_refs rv]; exact pl.isList
 obtain ⟨ol, hol, _⟩ := id hls
 have hll : l < s.heap.objs.size := Heap.lt_size hol
 refine kmk_tree PySem.F.kind_max PySem.F.plain_max PySem.F.entry_max (maxK_args _ _) ?_
 show wpAny _ X.A.in1 (Builtin.Builtins.bindParams "max" ["key", "default"] 0 ⟨[], [(Str.ofString "key", .ref q)]⟩ >>= _) _ _ s
 refine wpAny_bind (wpAny_of_eq (show Builtin.Builtins.bindParams "max" ["key", "default"] 0 ⟨[], [(Str.ofString "key", .ref q)]⟩ = pure [some (.ref q), none] from rfl) ?_)
 refine wpAny_bind (wpAny_pure ?_)
 refine wpAny_bind (wpAny_pyIter_list hls ?_)
 refine wpAny_bind (wpAny_newList ?_ (Nat.zero_le _))
 rw [hname]
 have J1 := inv_pushPin (o := { cls := .type "list_iterator", data := .fields #[.ref l, .int 0 0] }) J (fun v z => by cases z) rfl
 have J2 := inv_pushPin (o := seqObj "list" #[] 0) J1 (fun v z => by cases z) rfl
 have hS : (s.heap.push { cls := .type "list_iterator", data := .fields #[.ref l, .int 0 0] }).objs.size = s.heap.objs.size + 1 := size_push' ..
 refine wpAny_pure ⟨plainId_quiet PySem.F.plain_max_loop _, ?_⟩
 have nlI : l ≠ s.heap.objs.size := Nat.ne_of_lt hll
 have hI : X.s_0.heap.objs.size <= s.heap.objs.size := J.sz
 have pI : ∀ p ∈ X.pn ++ pins, p.1 ≠ s.heap.objs.size := fun p hp => Nat.ne_of_lt (inv_pinLt J hp)
 generalize eI : s.heap.objs.size = I at *
 have J2' := J2
 show codeAny (model X.prog X.w) X.A (.builtin "max.loop" ⟨[.ref I, .ref q, .ref (s.heap.push { cls := .type "list_iterator", data := .fields #[.ref l, .int 0 0] }).objs.size], _⟩) _ _
 rw [hS]
 have J2 : Inv X ((I + 1, seqObj "list" #[] 0) :: (I, { cls := .type "list_iterator", data := .fields #[.ref l, .int 0 0] }) :: pins) σ H { s with heap := (s.heap.push { cls := .type "list_iterator", data := .fields #[.ref l, .int 0 0] }).push (seqObj "list" #[] 0) } := by
  have := J2'
  rw [<- hS]
  exact this
 clear J2'
 have hIS : I ≠ I + 1 := by omega
 have pS : ∀ p ∈ X.pn ++ pins, p.1 ≠ I + 1 := fun p hp => by
  have := inv_pinLt J hp
  rw [eI] at this
  exact Nat.ne_of_lt (Nat.lt_succ_of_lt this)
 have W := Walks.list (prog := X.prog) (w := X.w) (A := X.A.in1) hh I l nlI (as.map Value.ref).toArray
 have hsz : (as.map Value.ref).toArray.size = as.length := by rw [List.size_toArray, List.length_map]
 have gS := J2.pin (I + 1, seqObj "list" #[] 0) (List.mem_append_right _ List.mem_cons_self)
 have gI := J2.pin (I, { cls := .type "list_iterator", data := .fields #[.ref l, .int 0 0] }) (List.mem_append_right _ (List.mem_cons_of_mem _ List.mem_cons_self))
 have pIS : ∀ o, ∀ p ∈ X.pn ++ (I + 1, o) :: pins, p.1 ≠ I := fun o p hp => by
  rcases List.mem_append.mp hp with hp | hp
  ·exact pI p (List.mem_append_left _ hp)
  ·rcases List.mem_cons.mp hp with rfl | hp
   ·exact Ne.symm hIS
   ·exact pI p (List.mem_append_right _ hp)
 have pSI : ∀ o, ∀ p ∈ X.pn ++ (I, o) :: pins, p.1 ≠ I + 1 := fun o p hp => by
  rcases List.mem_append.mp hp with hp | hp
  ·exact pS p (List.mem_append_left _ hp)
  ·rcases List.mem_cons.mp hp with rfl | hp
   ·exact hIS
   ·exact pS p (List.mem_append_right _ hp)
 have hls2 : ((s.heap.push { cls := .type "list_iterator", data := .fields #[.ref l, .int 0 0] }).push (seqObj "list" #[] 0)).IsList l (as.map Value.ref).toArray := by
  obtain ⟨o, e, r⟩ := hls
  exact ⟨o, Heap.get?_push_of_some _ (Heap.get?_push_of_some _ e), r⟩
 refine codeAny_builtin PySem.F.entry_max_loop ?_
 rw [Around.under_plainId PySem.F.plain_max_loop _]
 show wpAny _ X.A.in1 (seqItems? (.ref (I + 1)) >>= _) _ _ _
 refine wpAny_bind (wpAny_seqItems gS.1 rfl ?_)
 show wpAny _ X.A.in1 (tryCatch (pyNext (.ref I)) _ >>= _) _ _ _
 cases as with
 | nil => exact absurd rfl hE
 | cons a0 as0 =>
  have hne : 0 < (a0 :: as0).length := Nat.succ_pos _
  refine wpAny_bind (wpAny_tryCatch (W.item 0 _ _ _ (by rw [hsz]; exact hne) ⟨⟨_, gI.1, rfl, rfl⟩, hls2⟩ fun v h' tk' hP hst' hk' => ?_))
  have ev : v = .ref a0 := by simpa using hP.symm
  subst ev
  obtain ⟨oI', hoI', hoc, hod⟩ := id hst'.1
  have J3' := inv_repin (t' := tk') (inv_swapPins J2) (fun b u hb e => hk' b u (by simpa using hb) e) hoI' (fun v z => by rw [hod] at z; cases z) hI (pIS _)
  have J3 : Inv X ((I, oI') :: (I + 1, seqObj "list" #[] 0) :: pins) σ H { s with heap := h', toks := tk' } := J3'
  show wpAny _ X.A.in1 (tryCatch (holding [.ref a0] (call (.ref q) [.ref a0])) _ >>= _) _ _ _
  refine wpAny_bind (wpAny_tryCatch (wpAny_holding (wpAny_mono (turn 0 a0 _ H _ rfl J3 (Same.refl H)) (fun x s'' he => ?_) fun _ _ hF => hF.elim)))
  obtain ⟨y, H2, J4, ry, rfl, sm2⟩ := he
  obtain ⟨t2, rfl⟩ := ry
  have nS2 := J4.pin (I + 1, seqObj "list" #[] 0) (List.mem_append_right _ (List.mem_cons_of_mem _ List.mem_cons_self))
  have nI2 := J4.pin (I, oI') (List.mem_append_right _ List.mem_cons_self)
  have s1 := Heap.SameBut.update s''.heap (I + 1) (Obj.mapSeq fun _ => #[.ref a0, .int (kf 0) t2])
  obtain ⟨c2, hc2⟩ : ∃ c2, (s''.heap.update (I + 1) (Obj.mapSeq fun _ => #[.ref a0, .int (kf 0) t2])).get? (I + 1) = some (seqObj "list" #[.ref a0, .int (kf 0) t2] c2) := ⟨_, get?_update_seq nS2.1 fun _ => #[.ref a0, .int (kf 0) t2]⟩
  show wpAny _ X.A.in1 (updateSeq (I + 1) (fun _ => #[.ref a0, .int (kf 0) t2]) >>= _) _ _ _
  refine wpAny_bind ?_
  refine wpAny_updateSeq nS2.1 rfl ?_
  rw [hname]
  have J5 := inv_swapPins (inv_repin (t' := s''.toks) (inv_swapPins J4) (fun b u hb e => (s1.2 b hb).trans e) hc2 (fun v z => by cases z) (Nat.le_succ_of_le hI) (pSI _))
  refine wpAny_pure ⟨plainId_quiet PySem.F.plain_max_loop _, maxK_loop kf hh hl hIS hI (Nat.le_succ_of_le hI) pI pS nlI turn hR _ 0 0 H2 _ a0 t2 c2 oI' rfl hne sm2 J5 ⟨oI', (s1.2 I hIS).trans nI2.1, hoc, hod⟩ rfl (Nat.le_refl _) fun j' hj' => ?_⟩
  have e : j' = 0 := by omega
  subst e
  exact ⟨by omega, fun h => absurd h (Nat.lt_irrefl _)⟩
end
end
section
def codeO (c : Addr) (qual : Str) : HO := .ext fun h => h.CodeRec (.ref c) qual
def TbAt (H : Hp) (T : Addr) (pos : Pos) (qual : Str) : Prop := ∃ ps : Array Value, H T = some (.tbl ps) /\ TriplesOk ps.toList /\
 (codeAmong pos ps.toList = none ∨ ∃ c, codeAmong pos ps.toList = some (.ref c) /\ H c = some (codeO c qual))
def lamO (q : Addr) (qual : Str) (params : Arguments) (body : Expr) (scope : Scope) (clos : List (Str × Addr)) (pm : Value) (c : Addr) (ctv : Value) : HO :=
 .ext fun h => h.get? q = some (PySem.W.kla_obj "<lambda>" qual params body scope clos pm c ctv)
def LamAt (H : Hp) (q : Addr) (qual : Str) (params : Arguments) (body : Expr) (scope : Scope) (clos : List (Str × Addr)) : Prop :=
 ∃ pm c ctv, H q = some (lamO q qual params body scope clos pm c ctv) /\ H c = some (codeO c qual)
def KeepO (T : Addr) (H H' : Hp) : Prop := ∀ a o, H a = some o -> a ≠ T -> H' a = some o
def BM (mg : Str -> Option Value) (base : Heap) : Prop := ∃ bm ob, mg "__builtins__" = some (.ref bm) /\ bm ≠ builtinsNs /\ base.get? bm = some ob /\ ob.cls = .type "module" /\ ob.dict = some builtinsNs /\ ob.data = .plain
theorem TbAt.same {H H' : Hp} {T : Addr} {pos : Pos} {qual : Str} (h : TbAt H T pos qual) (s : Same H H') : TbAt H' T pos qual := by
 obtain ⟨ps, h1, h2, h3⟩ := h
 exact ⟨ps, s _ _ h1, h2, h3.imp id fun ⟨c, e1, e2⟩ => ⟨c, e1, s _ _ e2⟩⟩
theorem LamAt.same {H H' : Hp} {q : Addr} {qual : Str} {params : Arguments} {body : Expr} {scope : Scope} {clos : List (Str × Addr)} (h : LamAt H q qual params body scope clos) (s : Same H H') : LamAt H' q qual params body scope clos := by
 obtain ⟨pm, c, ctv, h1, h2⟩ := h
 exact ⟨pm, c, ctv, s _ _ h1, s _ _ h2⟩
theorem codeO_ok {P : Program} {w : World} {H : Hp} {h : Heap} {c : Addr} {qual : Str} (r : h.CodeRec (.ref c) qual) : ObjOk P w H h c (codeO c qual) := by
 refine ⟨r, ?_, ?_⟩
 ·obtain ⟨c', o, vs, t, e, ho, _⟩ := r
  cases e
  exact ⟨o, ho⟩
 ·rintro h1 h2 ⟨c', o, vs, t, e, ho, r⟩ k
  cases e
  exact ⟨c, o, vs, t, rfl, k _ ho, r⟩
theorem lamO_ok {P : Program} {w : World} {H : Hp} {h : Heap} {q : Addr} {qual : Str} {params : Arguments} {body : Expr} {scope : Scope} {clos : List (Str × Addr)} {pm : Value} {c : Addr} {ctv : Value}
  (e : h.get? q = some (PySem.W.kla_obj "<lambda>" qual params body scope clos pm c ctv)) : ObjOk P w H h q (lamO q qual params body scope clos pm c ctv) := ⟨e, ⟨_, e⟩, fun h1 h2 x k => k _ x⟩
section
variable {X : Cx} {params : Arguments} {body : Expr} {scope : Scope} {lpos : Pos} {c T : Addr} {clos : List (Str × Addr)}
def tLam (T : Addr) (lpos : Pos) (qual : Str) (params : Arguments) (body : Expr) (scope : Scope) (clos : List (Str × Addr)) : TE := fun σ H Q => TbAt H T lpos qual /\
 ∀ H' q, KeepO T H H' -> TbAt H' T lpos qual -> H q = none -> LamAt H' q qual params body scope clos -> Q (.ref q) H'
theorem pe_lambda (hcode : X.env.code = .ref c) (hc : PySem.W.codeHdIn X.K c T = true) (hb : BM X.mg X.base) (hcl : closureFor scope X.env = pure clos) (hdef : defaultsOf params X.env = ([], [])) :
  PE X (.Lambda params body scope lpos) (tLam T lpos (X.env.qual ++ "<lambda>") params body scope clos) := by
 intro pins s σ H Q I h
 obtain ⟨⟨ps, hP, ht, hor⟩, k⟩ := h
 have hPo : s.heap.get? T = some (PySem.W.tabObj ps) := I.hok T _ hP
 have C := PySem.W.codeHd_of_K I.kIn hc
 have hg : s.heap.Ns mainGlobals X.mg := I.mod.glob.keeps I.bk
 obtain ⟨bm, ob, b1, b2, b3, b4, b5, b6⟩ := hb
 have hgP : mainGlobals ≠ T := fun q => by
  obtain ⟨o, es, ep, e, hd, _⟩ := hg
  rw [q, hPo] at e; cases e; cases hd
 have hbP : bm ≠ T := fun q => by
  have e := I.bk _ _ b3
  rw [q, hPo] at e; cases e; cases b4
 have hbG : bm ≠ mainGlobals := fun q => by
  obtain ⟨o, es, ep, e, hd, _⟩ := hg
  have e' := I.bk _ _ b3
  rw [q, e] at e'; cases e'; rw [hd] at b6; cases b6
 have hB : s.heap.BuiltinsAt X.mg T := ⟨bm, ob, b1, b2, hbG, hbP, I.bk _ _ b3, b4, b5, b6⟩
 refine PySem.W.kla_eval hdef ?_
 rcases hor with hnf | ⟨c', hf, hc'⟩
 ·refine PySem.W.kla_makeFunction (mg := X.mg) hcl I.ok.glob hg hcode C hPo ht hnf hgP hB fun c' ctv h' tk hx hge hlt hrec htb => ?_
  generalize eO : PySem.W.kla_obj "<lambda>" (X.env.qual ++ "<lambda>") params body scope clos ((X.mg "__name__").getD .none) c' ctv = O
  generalize ePs : ps ++ #[rawInt lpos.line, rawInt lpos.col, .ref c'] = ps' at htb
  have nc : H c' = none := I.hok.fresh hge
  have hsz : s.heap.objs.size <= h'.objs.size := Nat.le_trans hge (Nat.le_of_lt hlt)
  have nq : H h'.objs.size = none := I.hok.fresh hsz
  have ncT : c' ≠ T := fun z => by rw [z, hP] at nc; cases nc
  have nqT : h'.objs.size ≠ T := fun z => by rw [z, hP] at nq; cases nq
  have ncq : c' ≠ h'.objs.size := Nat.ne_of_lt hlt
  have hq : (h'.push O).get? h'.objs.size = some O := Heap.get?_push_size _ (by rw [<- eO]; rfl)
  generalize eq : h'.objs.size = q at *
  have old : ∀ b u, b ≠ T -> s.heap.get? b = some u -> (h'.push O).get? b = some u := fun b u hb e => Heap.get?_push_of_some _ (hx b u hb e)
  have hT2 : (h'.push O).get? T = some (PySem.W.tabObj ps') := Heap.get?_push_of_some _ htb
  have nb : ∀ b u, s.heap.get? b = some u -> b ≠ c' /\ b ≠ q := fun b u e => ⟨Nat.ne_of_lt (Nat.lt_of_lt_of_le (Heap.lt_size e) hge), Nat.ne_of_lt (Nat.lt_of_lt_of_le (Heap.lt_size e) hsz)⟩
  generalize eH : upd (upd (upd H T (.tbl ps')) c' (codeO c' (X.env.qual ++ "<lambda>"))) q (lamO q (X.env.qual ++ "<lambda>") params body scope clos ((X.mg "__name__").getD .none) c' ctv) = H'
  have at1 : H' T = some (.tbl ps') := by rw [<- eH, upd_ne (Ne.symm nqT), upd_ne (Ne.symm ncT), upd_same]
  have at2 : H' c' = some (codeO c' (X.env.qual ++ "<lambda>")) := by rw [<- eH, upd_ne ncq, upd_same]
  have at3 : H' q = some (lamO q (X.env.qual ++ "<lambda>") params body scope clos ((X.mg "__name__").getD .none) c' ctv) := by rw [<- eH, upd_same]
  have at4 : ∀ b, b ≠ T -> b ≠ c' -> b ≠ q -> H' b = H b := fun b h1 h2 h3 => by rw [<- eH, upd_ne h3, upd_ne h2, upd_ne h1]
  have at5 : KeepO T H H' := fun b o e hb => by
   rw [at4 b hb (ne_of_none e nc) (ne_of_none e nq)]
   exact e
  have un : Un X.fs [] H H' s.heap (h'.push O) := by
   refine ⟨fun b o e n _ _ => old b o (fun z => ?_) e, fun b o e n _ _ => ⟨o.slots, old b o (fun z => ?_) e⟩, fun b o e n _ => ?_, fun b o e _ => ?_, fun b xs e => at5 b _ e ?_, fun b o u e => at5 b _ e ?_, fun b us e => ?_⟩
   ·rw [z, hP] at n; cases n
   ·rw [z, hP] at n; cases n
   ·rw [at4 b (fun z => by rw [z, hP] at n; cases n) (nb b o e).1 (nb b o e).2]
    exact n
   ·by_cases hb : b = T
    ·exact ⟨_, hb ▸ hT2⟩
    ·exact ⟨o, old b o hb e⟩
   ·exact ne_of e hP (by intro z; cases z)
   ·exact ne_of e hP (by intro z; cases z)
   ·by_cases hb : b = T
    ·subst hb
     rw [hP] at e
     cases e
     exact ⟨_, by rw [at1, <- ePs]⟩
    ·exact ⟨#[], by rw [at5 b _ e hb]; simp⟩
  have hok : HOk X.prog X.w H' (h'.push O) := fun b o e => by
   by_cases h3 : b = q
   ·subst h3
    rw [at3] at e
    cases e
    exact lamO_ok (by rw [hq, <- eO])
   ·by_cases h2 : b = c'
    ·subst h2
     rw [at2] at e
     cases e
     obtain ⟨c2, oc, vs, t, e2, hoc, r⟩ := hrec
     exact codeO_ok ⟨c2, oc, vs, t, e2, Heap.get?_push_of_some _ hoc, r⟩
    ·by_cases h1 : b = T
     ·subst h1
      rw [at1] at e
      cases e
      exact hT2
     ·rw [at4 b h1 h2 h3] at e
      refine (I.hok b o e).stay (fun d u hd g => old d u ?_ g) (fun d g => at5 d _ g (ne_of g hP (by intro z; cases z))) fun d xs g => at5 d _ g (ne_of g hP (by intro z; cases z))
      rcases hd with rfl | hd
      ·exact h1
      ·exact ne_of hd hP (by intro z; cases z)
  have I' : Inv X pins σ H' { s with heap := h'.push O, toks := tk } := I.un un hok
  refine ⟨.ref q, H', I', rfl, k H' q at5 ⟨ps', at1, ?_, .inr ⟨c', ?_, at2⟩⟩ nq ⟨_, c', ctv, at3, at2⟩⟩
  ·rw [<- ePs, Array.toList_append]
   exact TriplesOk_snoc _ _ _ _ ht
  ·rw [<- ePs, Array.toList_append]
   exact codeAmong_snoc _ ht hnf
 ·refine PySem.W.kla_makeFunctionHit (mg := X.mg) hcl I.ok.glob hg hcode C hPo ht hf hB fun ctv h' tk hk hsz => ?_
  have nq : H h'.objs.size = none := I.hok.fresh hsz
  have I' := (I.kept (t' := tk) hk).laid (a := h'.objs.size) (o := lamO h'.objs.size (X.env.qual ++ "<lambda>") params body scope clos ((X.mg "__name__").getD .none) c' ctv) (t' := tk)
   (h' := h'.push (PySem.W.kla_obj "<lambda>" (X.env.qual ++ "<lambda>") params body scope clos ((X.mg "__name__").getD .none) c' ctv)) (fun b u e => Heap.get?_push_of_some _ e) (Nat.le_refl _) (lamO_ok (Heap.get?_push_size _ rfl))
  refine ⟨.ref h'.objs.size, _, I', rfl, k _ _ (fun b o e _ => by rw [upd_ne (ne_of_none e nq)]; exact e) ⟨ps, by rw [upd_ne (ne_of_none hP nq)]; exact hP, ht, .inr ⟨c', hf, by rw [upd_ne (ne_of_none hc' nq)]; exact hc'⟩⟩ nq ⟨_, c', ctv, upd_same, by rw [upd_ne (ne_of_none hc' nq)]; exact hc'⟩⟩
end
end
section
def cxLam (X : Cx) (N : List Str) (qual : Str) (scope : Scope) (q c : Addr) (clos : List (Str × Addr)) (s : Shared) (H : Hp) : Cx where
 prog := X.prog
 w := X.w
 K := X.K
 mg := X.mg
 base := X.base
 A := X.A.in1.deeper (PySem.W.envX qual scope s.heap.objs.size q (.ref c) clos)
 N := N
 s_0 := s
 H_0 := H
 env := PySem.W.envX qual scope s.heap.objs.size q (.ref c) clos
 outer := X.stack
 stack := PySem.W.envX qual scope s.heap.objs.size q (.ref c) clos :: X.stack
 ex := []
 calm := true
 fn := fun _ => false
 pn := []
 xe := fun _ _ => False
structure LamScope (x : Str) (fs : List Str) (sc : Scope) : Prop where
 kind : sc.kind = .function
 co : sc.isCoroutine = false
 gen : sc.isGenerator = false
 nocell : ∀ y ∈ sc.names, y.2 ≠ .cell
 loc : sc.names.lookup x = some .local
 fre : ∀ y ∈ fs, sc.names.lookup y = some .free
theorem lam_turn {X : Cx} {pins : List (Addr × Obj)} {σ : L2.St} {H : Hp} {s : Shared} {k : Nat} {q : Addr} {x : Str} {fs : List Str} {qual : Str} {params : Arguments} {body : Expr} {scope : Scope} {clos : List (Str × Addr)} {v : V} {u : Value} {ws : List V} {Q : VK}
  (I : Inv X pins σ H s) (hl : LamAt H q qual params body scope clos) (L : LamScope x fs scope) (hr : Room (k + 2) X.A) (rv : RelV v u)
  (hclos : ∀ y c, clos.lookup y = some c -> X.env.cells.lookup y = some c) (hfree : ∀ y, scope.names.lookup y = some .free -> ∃ c, clos.lookup y = some c)
  (hws : ∀ (i : Nat) (y : Str) (z : V), fs[i]? = some y -> ws[i]? = some z -> ∃ j : Nat, X.N[j]? = some y /\ σ[j]? = some (some z) /\ X.env.scope.names.lookup y = some .cell) (hlen : ws.length = fs.length)
  (hbind : ∀ pm c ctv, bindArgs (PySem.W.kla_fn "<lambda>" qual params body scope clos pm (.ref c) ctv) ⟨[u], []⟩ = pure [(x, u)])
  (hb : ∀ c, Room k (cxLam X (x :: fs) qual scope q c clos s H).A -> ∃ t, PE (cxLam X (x :: fs) qual scope q c clos s H) body t /\ t ((v :: ws).map some) H Q) :
  wpAny (model X.prog X.w) X.A.in1 (call (.ref q) [u]) (EP X pins σ Q) (fun _ _ => False) s := by
 obtain ⟨pm, c, ctv, hq, hc⟩ := hl
 have ho : s.heap.get? q = some (PySem.W.kla_obj "<lambda>" qual params body scope clos pm c ctv) := (I.hok q _ hq).1
 have hcd : s.heap.CodeRec (.ref c) qual := (I.hok c _ hc).1
 have hr1 : Room (k + 1) X.A.in1 := hr.in1
 have e0 : Env0 X.prog X.w X.K X.mg X.base X.A.in1 X.stack s H := I.env0.in1
 have main : codeAny (model X.prog X.w) X.A.in1 (.call (.ref q) ⟨[u], []⟩) (CR CX0 X.stack X.prog X.w H s Q E0) s := by
  refine PySem.W.kla_callFunE hr1.depth ho rfl L.co L.gen rfl hcd ?_
  rw [hbind]
  refine wpAny_pure (wpAny_newFunctionEnv L.nocell (fun y hy => by rw [List.mem_singleton.mp hy]; exact L.loc) (fun h₁ hns hsb => ⟨I.nolimit.fresh _ hsb, ?_⟩) L.kind)
  have hk₁ : ∀ b o, s.heap.get? b = some o -> h₁.get? b = some o := fun b o e => hsb.extBut b o (Nat.ne_of_lt (Heap.lt_size e)) (Heap.get?_push_of_some _ e)
  show codeAny _ _ (.expr body (PySem.W.envX qual scope s.heap.objs.size q (.ref c) clos)) _ _
  obtain ⟨t, ht, hq⟩ := hb c (hr1.deeper _)
  have cellOf : ∀ y d, clos.lookup y = some d -> ∃ v, h₁.IsCell d v := fun y d e => by
   obtain ⟨v, o, ho, hd⟩ := I.cell y d (hclos y d e)
   exact ⟨v, o, hk₁ _ _ ho, hd⟩
  have J : Inv (cxLam X (x :: fs) qual scope q c clos s H) [] ((v :: ws).map some) H { s with heap := h₁, toks := s.toks + 1 } := by
   have noA : ∀ b : Addr, b ∉ (cxLam X (x :: fs) qual scope q c clos s H).ex := fun b z => absurd (show b ∈ ([] : List Addr) from z) (by simp)
   refine ⟨⟨e0.mod, L.kind, rfl, rfl, Nat.le_refl _, fun y z d h1 h2 => I.ok.inj y z d (hclos y d h1) (hclos z d h2), fun y hy => ?_, fun y d z _ => absurd (show false = true from z) (by decide), fun _ => hr1.hd, Around.frames_deeper e0.frames, .inr ⟨rfl, rfl⟩, fun b z => absurd z (noA b), e0.bs, e0.bsz, fun b _ _ => noA b, fun b z => absurd z (noA b), e0.funs, e0.frf⟩,
    rfl, e0.bare, Un.kept hk₁, ⟨_, hns, fun i y z h1 h2 h3 => ?_⟩, cellOf, e0.hok.fresh (Nat.le_refl _), fun y d e => I.freeC y d (hclos y d e), fun p hp => absurd (show p ∈ ([] : List (Addr × Obj)) from hp) (by simp), e0.hok.kept hk₁, ?_⟩
   ·have hy : scope.names.lookup y = some .cell ∨ scope.names.lookup y = some .free := hy
    rcases hy with hy | hy
    ·exact absurd rfl (L.nocell _ (PySem.mem_of_lookup hy))
    ·exact hfree y hy
   ·cases i with
    | zero =>
     have e1 : x = y := Option.some.inj h1
     have e2 : some v = some z := Option.some.inj h2
     cases e1
     cases e2
     refine ⟨u, rv, .inl ⟨L.loc, ?_⟩⟩
     show ([(x, u)] : List (Str × Value)).reverse.lookup x = some u
     simp
    | succ i =>
     have h1' : fs[i]? = some y := h1
     have h2' : ws[i]? = some z := by
      have : (ws.map some)[i]? = some (some z) := h2
      rw [List.getElem?_map] at this
      cases e : ws[i]? with
      | none => rw [e] at this; cases this
      | some z' => rw [e] at this; exact Option.some.inj this
     obtain ⟨j, j1, j2, j3⟩ := hws i y z h1' h2'
     obtain ⟨m, hn, hlk⟩ := I.loc
     obtain ⟨u', r', lk⟩ := hlk j y z j1 j2 (.inr (.inl j3))
     have hf : scope.names.lookup y = some .free := L.fre y (List.mem_of_getElem? h1')
     obtain ⟨d, hd⟩ := hfree y hf
     refine ⟨u', r', .inr ⟨.inr hf, d, hd, ?_⟩⟩
     rcases lk with ⟨kk, _⟩ | ⟨_, d', e', hcell⟩
     ·have kk : X.env.scope.names.lookup y = some .local := kk
      rw [j3] at kk
      cases kk
     ·rw [hclos y d hd] at e'
      cases e'
      obtain ⟨o, ho, hod⟩ := hcell
      exact ⟨o, hk₁ _ _ ho, hod⟩
   ·rw [List.length_map, List.length_cons, hlen]
    rfl
  refine PySem.W.kla_codeExpr (wpAny_mono (ht [] _ _ H Q J hq) (fun y s' hs => ?_) fun _ _ hF => hF.elim)
  obtain ⟨v', H', J', r', q'⟩ := hs
  exact ⟨v', H', J'.os, J'.bare, J'.base, J'.hok, r', q'⟩
 refine wpAny_call (codeAny_mono main fun r s' hq => ?_)
 cases r with
 | error e => exact hq
 | ok fl =>
  cases fl with
  | ret u => exact I.after hq
  | next => exact False.elim hq
  | brk => exact False.elim hq
  | cont => exact False.elim hq
section
variable {X : Cx} {p pos kpos kpos2 : Pos} {e kf dx : Expr} {ta : TE} {tk : TE} {td : TE}
def Best (le : Int -> Int -> Prop) (lt : Int -> Int -> Prop) (ks : List Int) (i : Nat) : Prop := ∀ j, j < ks.length -> le (ks.getD i 0) (ks.getD j 0) /\ (j < i -> lt (ks.getD i 0) (ks.getD j 0))
def Keyed (X : Cx) (σ : L2.St) (H : Hp) (q : Addr) (as : List Addr) (ks : List Int) : Prop := ∀ (i : Nat) (a : Addr) (pins' : List (Addr × Obj)) (H' : Hp) (s' : Shared), as[i]? = some a -> Inv X pins' σ H' s' -> Same H H' ->
 wpAny (model X.prog X.w) X.A.in1 (call (.ref q) [.ref a]) (EP X pins' σ fun y H'' => y = .int (ks.getD i 0) /\ Same H' H'') (fun _ _ => False) s'
def EndMin (X : Cx) (σ : L2.St) (Q : VK) (x y z : V) (H3 : Hp) : Prop := ∃ (l q : Addr) (as : List Addr) (ks : List Int), x = .ref l /\ y = .ref q /\ H3 l = some (.lst (as.map V.ref)) /\ ks.length = as.length /\ Keyed X σ H3 q as ks /\
 (as = [] -> Q z H3) /\ ∀ (i : Nat) (a : Addr) (H' : Hp), as[i]? = some a -> Best (· <= ·) (· < ·) ks i -> Same H3 H' -> Q (.ref a) H'
def EndMax (X : Cx) (σ : L2.St) (Q : VK) (x y : V) (H3 : Hp) : Prop := ∃ (l q : Addr) (as : List Addr) (ks : List Int), x = .ref l /\ y = .ref q /\ H3 l = some (.lst (as.map V.ref)) /\ ks.length = as.length /\ Keyed X σ H3 q as ks /\
 as ≠ [] /\ ∀ (i : Nat) (a : Addr) (H' : Hp), as[i]? = some a -> Best (· ≥ ·) (· > ·) ks i -> Same H3 H' -> Q (.ref a) H'
def tMinK (X : Cx) (ta tk td : TE) : TE := fun σ H Q => ta σ H fun x H1 => tk σ H1 fun y H2 => td σ H2 fun z H3 => EndMin X σ Q x y z H3
def tMaxK (X : Cx) (ta tk : TE) : TE := fun σ H Q => ta σ H fun x H1 => tk σ H1 fun y H3 => EndMax X σ Q x y H3
def uni1 (R : V -> Hp -> Prop) : List V -> Hp -> Prop
 | [x], H => R x H
 | _, _ => False
def uni2 (R : V -> V -> Hp -> Prop) : List V -> Hp -> Prop
 | [x, y], H => R x y H
 | _, _ => False
theorem uni1_is {R : V -> Hp -> Prop} {vs : List V} {H : Hp} (h : uni1 R vs H) : ∃ x, vs = [x] /\ R x H := by
 match vs, h with
 | [x], h => exact ⟨x, rfl, h⟩
theorem uni2_is {R : V -> V -> Hp -> Prop} {vs : List V} {H : Hp} (h : uni2 R vs H) : ∃ x y, vs = [x, y] /\ R x y H := by
 match vs, h with
 | [x, y], h => exact ⟨x, y, rfl, h⟩
theorem valsTwo {x y : V} {us : List Value} (r : Vals [x, y] us) : ∃ u v, us = [u, v] /\ RelV x u /\ RelV y v := by
 cases r with
 | cons r1 r =>
  obtain ⟨v, rfl, r2⟩ := vals1 r
  exact ⟨_, v, rfl, r1, r2⟩
theorem pe_minK (hg : Gl X "min") (hm : X.mg "min" = none) (hh : X.A.handled = none) (ha : PE X e ta) (hk : PE X kf tk) (hd : PE X dx td) (hs : starEach [e] X.env = (false, eval e X.env) :: starEach [] X.env := by rfl) (hs2 : backTo pos (starEach [e] X.env) = (false, eval e X.env) :: backTo pos (starEach [] X.env) := by rfl)
  (hpl : (backTo pos (starEach [e] X.env)).any (·.1) = false := by rfl) :
  PE X (.Call (.Name "min" p) [e] [⟨some "key", kf, kpos⟩, ⟨some "default", dx, kpos2⟩] pos) (tMinK X ta tk td) := by
 intro pins s σ H Q I h
 refine wpAny_Call_Name_kw (ld_blt I hg hm PyProof.Rows.boot_min ?_)
 refine PyProof.Rows.callWith_kw (thn ((pa_cons ha pa_nil hs) pos pins s σ H (uni1 fun x H1 => tk σ H1 fun y H2 => td σ H2 fun z H3 => EndMin X σ Q x y z H3) I h) fun us s1 ⟨vs, H1, I1, r, q⟩ => ?_) hs2 hpl
 obtain ⟨x, rfl, q⟩ := uni1_is q
 refine thn ((pk_cons hk (pk_cons hd pk_nil)) pos pins s1 σ H1 (uni2 fun y z H3 => EndMin X σ Q x y z H3) I1 q) fun ws s2 ⟨zs, H2, I2, rz, q2⟩ => ?_
 obtain ⟨y, z, rfl, l, kq, as, ks, rfl, rfl, hl, hn, hK, hE, hB⟩ := uni2_is q2
 obtain ⟨ul, rfl, r1⟩ := vals1 r
 obtain ⟨uq, uz, rfl, r2, r3⟩ := valsTwo rz
 have r1 : ul = .ref l := r1
 have r2 : uq = .ref kq := r2
 subst r1 r2
 exact minK_run (u := uz) (fun i => ks.getD i 0) hh hl I2 hK (fun e s' J => ⟨z, H2, J, r3, hE e⟩) fun i a H' s' e hb J sm => ⟨.ref a, H', J, rfl, hB i a H' e (fun j hj => hb j (by rw [<- hn]; exact hj)) sm⟩
theorem pe_maxK (hg : Gl X "max") (hm : X.mg "max" = none) (hh : X.A.handled = none) (ha : PE X e ta) (hk : PE X kf tk) (hs : starEach [e] X.env = (false, eval e X.env) :: starEach [] X.env := by rfl) (hs2 : backTo pos (starEach [e] X.env) = (false, eval e X.env) :: backTo pos (starEach [] X.env) := by rfl)
  (hpl : (backTo pos (starEach [e] X.env)).any (·.1) = false := by rfl) :
  PE X (.Call (.Name "max" p) [e] [⟨some "key", kf, kpos⟩] pos) (tMaxK X ta tk) := by
 intro pins s σ H Q I h
 refine wpAny_Call_Name_kw (ld_blt I hg hm PyProof.Rows.boot_max ?_)
 refine PyProof.Rows.callWith_kw (thn ((pa_cons ha pa_nil hs) pos pins s σ H (uni1 fun x H1 => tk σ H1 fun y H3 => EndMax X σ Q x y H3) I h) fun us s1 ⟨vs, H1, I1, r, q⟩ => ?_) hs2 hpl
 obtain ⟨x, rfl, q⟩ := uni1_is q
 refine thn ((pk_cons hk pk_nil) pos pins s1 σ H1 (uni1 fun y H3 => EndMax X σ Q x y H3) I1 q) fun ws s2 ⟨zs, H2, I2, rz, q2⟩ => ?_
 obtain ⟨y, rfl, l, kq, as, ks, rfl, rfl, hl, hn, hK, hE, hB⟩ := uni1_is q2
 obtain ⟨ul, rfl, r1⟩ := vals1 r
 obtain ⟨uq, rfl, r2⟩ := vals1 rz
 have r1 : ul = .ref l := r1
 have r2 : uq = .ref kq := r2
 subst r1 r2
 exact maxK_run (fun i => ks.getD i 0) hh hl I2 hK hE fun i a H' s' e hb J sm => ⟨.ref a, H', J, rfl, hB i a H' e (fun j hj => hb j (by rw [<- hn]; exact hj)) sm⟩
end
end
theorem lookup_zip {ns : List Str} {vs : List V} {i : Nat} {n : Str} {v : V} (hn : ns.Nodup) (h1 : ns[i]? = some n) (h2 : vs[i]? = some v) : (ns.zip vs).lookup n = some v := by
 induction ns generalizing vs i with
 | nil => simp at h1
 | cons m ns ih =>
  cases vs with
  | nil => simp at h2
  | cons u vs =>
   obtain ⟨q1, q2⟩ := List.nodup_cons.mp hn
   rw [List.zip_cons_cons, List.lookup_cons]
   cases i with
   | zero =>
    have e1 : m = n := Option.some.inj h1
    have e2 : u = v := Option.some.inj h2
    rw [e1, e2, beq_self_eq_true]
   | succ i =>
    have h1' : ns[i]? = some n := by simpa using h1
    have h2' : vs[i]? = some v := by simpa using h2
    have : (n == m) = false := by
     rw [beq_eq_false_iff_ne]
     intro e
     exact q1 (e ▸ List.mem_of_getElem? h1')
    rw [this]
    exact ih q2 h1' h2'
theorem lookup_zip_none {ns : List Str} {vs : List V} {n : Str} (h : n ∉ ns) : (ns.zip vs).lookup n = none := by
 induction ns generalizing vs with
 | nil => rfl
 | cons m ns ih =>
  cases vs with
  | nil => rfl
  | cons u vs =>
   rw [List.zip_cons_cons, List.lookup_cons]
   have : (n == m) = false := by
    rw [beq_eq_false_iff_ne]
    intro e
    exact h (e ▸ List.mem_cons_self)
   rw [this]
   exact ih fun hm => h (List.mem_cons_of_mem _ hm)
theorem putF_zip {ns : List Str} {vs : List V} {i : Nat} {n : Str} {v : V} (hn : ns.Nodup) (h1 : ns[i]? = some n) (h2 : i < vs.length) : putF n v (ns.zip vs) = ns.zip (vs.set i v) := by
 induction ns generalizing vs i with
 | nil => simp at h1
 | cons m ns ih =>
  cases vs with
  | nil => simp at h2
  | cons u vs =>
   obtain ⟨q1, q2⟩ := List.nodup_cons.mp hn
   rw [List.zip_cons_cons]
   cases i with
   | zero =>
    have e1 : m = n := Option.some.inj h1
    subst e1
    show (if m = m then (m, v) :: ns.zip vs else _) = _
    rw [if_pos rfl]
    rfl
   | succ i =>
    have h1' : ns[i]? = some n := by simpa using h1
    have : ¬ m = n := fun e => q1 (e ▸ List.mem_of_getElem? h1')
    show (if m = n then (m, v) :: ns.zip vs else (m, u) :: putF n v (ns.zip vs)) = _
    rw [if_neg this, ih q2 h1' (by simpa using h2)]
    rfl
theorem putF_new {n : Str} {v : V} : ∀ {l : List (Str × V)}, n ∉ l.map (·.1) -> putF n v l = l ++ [(n, v)]
 | [], _ => rfl
 | (m, u) :: l, h => by
  have h1 : ¬ m = n := fun e => h (by rw [e]; exact List.mem_cons_self)
  show (if m = n then (m, v) :: l else (m, u) :: putF n v l) = _
  rw [if_neg h1, putF_new fun hm => h (List.mem_cons_of_mem _ hm)]
  rfl
abbrev iV (n : Nat) : V := .int (n : Int)
def nVs (l : List Nat) : List V := l.map iV
theorem nVs_len (l : List Nat) : (nVs l).length = l.length := List.length_map _
theorem nVs_get {l : List Nat} {i n : Nat} (h : l[i]? = some n) : (nVs l)[i]? = some (iV n) := by
 unfold nVs
 rw [List.getElem?_map, h]
 rfl
theorem nVs_append (l m : List Nat) : nVs (l ++ m) = nVs l ++ nVs m := List.map_append
structure GA where
 st : Addr
 ht : Addr
 sp : Addr
 pr : Addr
def gnames : List Str := ["begun", "width", "face", "steps", "heights", "spots", "pairs"]
theorem gnd : gnames.Nodup := by decide +kernel
def flds (b : Bool) (w f : Nat) (A : GA) : List (Str × V) := gnames.zip [.bl b, iV w, iV f, .ref A.st, .ref A.ht, .ref A.sp, .ref A.pr]
theorem flds_no {b : Bool} {w f : Nat} {A : GA} {m : Str} (h : m ∉ gnames) : (flds b w f A).lookup m = none := lookup_zip_none h
def spotV (H : Hp) : Option (Nat × Nat) -> V -> Prop
 | none, v => v = .non
 | some x, v => ∃ t, v = .ref t /\ H t = some (.tup [iV x.1, iV x.2])
def pairK (x : (Nat × Nat) × Nat) : List Key × V := ([Sum.inl (x.1.1 : Int), Sum.inl (x.1.2 : Int)], iV x.2)
def tb1 : Addr := 331
def tb2 : Addr := 227
def lp1 : Pos := ⟨217, 27, 217, 69⟩
def lp2 : Pos := ⟨150, 44, 150, 89⟩
def lq1 : Str := (("fewest_moved" : Str) ++ ".<locals>.") ++ "<lambda>"
def lq2 : Str := (("Group.near_order" : Str) ++ ".<locals>.") ++ "<lambda>"
structure Tb (H : Hp) : Prop where
 a : TbAt H tb1 lp1 lq1
 b : TbAt H tb2 lp2 lq2
def Tbl (a : Addr) : Prop := a = tb1 ∨ a = tb2
def KeepT (H H' : Hp) : Prop := ∀ a o, H a = some o -> ¬ Tbl a -> H' a = some o
theorem tb_ne : tb1 ≠ tb2 := by decide
theorem Tb.same {H H' : Hp} (h : Tb H) (s : Same H H') : Tb H' := ⟨h.a.same s, h.b.same s⟩
theorem Tb.keepX {H H' : Hp} (h : Tb H) (k : ∀ a o, H a = some o -> (∃ ps, o = .tbl ps) ∨ (∃ φ, o = .ext φ) -> H' a = some o) : Tb H' := by
 obtain ⟨⟨ps, h1, h2, h3⟩, ⟨qs, g1, g2, g3⟩⟩ := h
 exact ⟨⟨ps, k _ _ h1 (.inl ⟨_, rfl⟩), h2, h3.imp id fun ⟨c, e1, e2⟩ => ⟨c, e1, k _ _ e2 (.inr ⟨_, rfl⟩)⟩⟩, ⟨qs, k _ _ g1 (.inl ⟨_, rfl⟩), g2, g3.imp id fun ⟨c, e1, e2⟩ => ⟨c, e1, k _ _ e2 (.inr ⟨_, rfl⟩)⟩⟩⟩
theorem Tb.upd {H : Hp} {a : Addr} {o u : HO} (h : Tb H) (ha : H a = some u) (h1 : ∀ ps, u ≠ .tbl ps) (h2 : ∀ φ, u ≠ .ext φ) : Tb (upd H a o) := h.keepX fun b x e hx => by
 rw [upd_ne (ne_of e ha ?_)]
 ·exact e
 ·rintro rfl
  rcases hx with ⟨ps, z⟩ | ⟨φ, z⟩
  ·exact h1 ps z
  ·exact h2 φ z
theorem Tb.no {H : Hp} {a : Addr} {o : HO} (h : Tb H) (e : H a = some o) (hn : ∀ ps, o ≠ .tbl ps) : ¬ Tbl a := by
 obtain ⟨⟨ps, h1, _⟩, ⟨qs, g1, _⟩⟩ := h
 rintro (rfl | rfl)
 ·rw [h1] at e; cases e; exact hn _ rfl
 ·rw [g1] at e; cases e; exact hn _ rfl
theorem Tb.noN {H : Hp} {a : Addr} (h : Tb H) (e : H a = none) : ¬ Tbl a := by
 obtain ⟨⟨ps, h1, _⟩, ⟨qs, g1, _⟩⟩ := h
 rintro (rfl | rfl)
 ·rw [h1] at e; cases e
 ·rw [g1] at e; cases e
theorem Same.keepT {H H' : Hp} (s : Same H H') : KeepT H H' := fun a o e _ => s a o e
theorem KeepT.trans {H H1 H2 : Hp} (a : KeepT H H1) (b : KeepT H1 H2) : KeepT H H2 := fun c o h n => b c o (a c o h n) n
theorem KeepT.free {H H' : Hp} (k : KeepT H H') {l : Addr} (n : ¬ Tbl l) (h : H' l = none) : H l = none := by
 cases q : H l with
 | none => rfl
 | some o => rw [k l o q n] at h; cases h
structure GAt (C : Addr) (H : Hp) (p : Addr) (A : GA) (b : Bool) (g : G) : Prop where
 ob : ∃ dx, H p = some (.ins C dx (flds b g.width g.face A))
 st : H A.st = some (.lst (nVs g.steps))
 ht : H A.ht = some (.lst (nVs g.heights))
 sp : ∃ vs, H A.sp = some (.lst vs) /\ Paired (spotV H) g.spots vs
 pr : H A.pr = some (.dT (g.pairs.map pairK))
 n1 : A.st ≠ A.ht
 n2 : A.st ≠ A.sp
 n3 : A.ht ≠ A.sp
 tb : Tb H
theorem spotV_same {H H' : Hp} (s : Same H H') {o : Option (Nat × Nat)} {v : V} (h : spotV H o v) : spotV H' o v := by
 cases o with
 | none => exact h
 | some x => obtain ⟨t, e, ht⟩ := h; exact ⟨t, e, s _ _ ht⟩
theorem GAt.same {C p : Addr} {H H' : Hp} {A : GA} {b : Bool} {g : G} (B : GAt C H p A b g) (s : Same H H') : GAt C H' p A b g := by
 obtain ⟨dx, h1⟩ := B.ob
 obtain ⟨vs, h2, h3⟩ := B.sp
 exact ⟨⟨dx, s _ _ h1⟩, s _ _ B.st, s _ _ B.ht, ⟨vs, s _ _ h2, Paired.mapP h3 fun _ _ q => spotV_same s q⟩, s _ _ B.pr, B.n1, B.n2, B.n3, B.tb.same s⟩
theorem GAt.keepT {C p : Addr} {H H' : Hp} {A : GA} {b : Bool} {g : G} (B : GAt C H p A b g) (k : KeepT H H') (t : Tb H') : GAt C H' p A b g := by
 obtain ⟨dx, h1⟩ := B.ob
 obtain ⟨vs, h2, h3⟩ := B.sp
 have no : ∀ {a : Addr} {o : HO}, H a = some o -> (∀ ps, o ≠ .tbl ps) -> H' a = some o := fun e n => k _ _ e (B.tb.no e n)
 refine ⟨⟨dx, no h1 (by intro ps z; cases z)⟩, no B.st (by intro ps z; cases z), no B.ht (by intro ps z; cases z), ⟨vs, no h2 (by intro ps z; cases z), Paired.mapP h3 fun o v q => ?_⟩, no B.pr (by intro ps z; cases z), B.n1, B.n2, B.n3, t⟩
 cases o with
 | none => exact q
 | some x =>
  obtain ⟨t, e, ht⟩ := q
  exact ⟨t, e, no ht (by intro ps z; cases z)⟩
theorem Same.new {H : Hp} {a : Addr} {o : HO} (h : H a = none) : Same H (upd H a o) := fun b u e => by rw [upd_ne (ne_of_none e h)]; exact e
theorem GAt.spot {C p : Addr} {H : Hp} {A : GA} {b : Bool} {g : G} (B : GAt C H p A b g) {q : Nat} (hq : q < g.spots.length) : ∃ vs v, H A.sp = some (.lst vs) /\ vs[q]? = some v /\ spotV H (g.spot q) v := by
 obtain ⟨vs, h2, h3⟩ := B.sp
 obtain ⟨v, e1, e2⟩ := paired_get h3 (List.getElem?_eq_getElem hq)
 refine ⟨vs, v, h2, e1, ?_⟩
 have : g.spot q = g.spots[q] := by unfold G.spot; rw [List.getElem?_eq_getElem hq]; rfl
 rw [this]
 exact e2
section
def Fn (P : Program) (w : World) (K : PySem.W.Frag) (mg : Str -> Option Value) (base : Heap) (x : Str) (ps : List Str) (k : Nat) (sp : Sp) : Prop :=
 ∃ f fd, mg x = some (.ref f) /\ PySem.W.keepIn K (.ref f) = true /\ Binds K fd ps [] /\ FnOk P w K mg base CX0 k f fd ps sp
def Mt (P : Program) (w : World) (K : PySem.W.Frag) (mg : Str -> Option Value) (base : Heap) (C : Addr) (m : Str) (ps : List Str) (k : Nat) (sp : Sp) : Prop :=
 ∃ f fd, Meth K C m f /\ Binds K fd ps [] /\ FnOk P w K mg base CX0 k f fd ps sp
section
variable {X : Cx} {x m : Str} {ps : List Str} {k k' : Nat} {sp : Sp} {e o : Expr} {es : List Expr} {t : TA} {ta : TE} {p pos apos : Pos} {C : Addr}
theorem pe_fn (F : Fn X.prog X.w X.K X.mg X.base x ps k sp) (hr : Room k' X.A) (hg : Gl X x) (ha : PA X (e :: es) t) (hk : k <= k' := by decide) (hdb : (x == ("__debug__" : Str)) = false := by decide)
  (he : starEach (e :: es) X.env = (false, eval e X.env) :: starEach es X.env := by rfl) (hpl : (backTo pos (starEach es X.env)).any (·.1) = false := by rfl) : PE X (.Call (.Name x p) (e :: es) [] pos) (tCall sp [] E0 t) := by
 obtain ⟨f, fd, h1, h2, h3, h4⟩ := F
 exact pe_call h4 (hr.mono hk) hg h1 h2 h3 .nil pass0 ha hdb he hpl
theorem pe_mt {pl : Sem Bool} (M : Mt X.prog X.w X.K X.mg X.base C m ps k sp) (c : Cls X.K C) (hr : Room k' X.A) (ho : PE X o ta) (ha : PA X (e :: es) t) (hk : k <= k' := by decide)
  (hst : starEach (e :: es) X.env = (false, eval e X.env) :: starEach es X.env := by rfl) (hpl : (backTo pos (starEach es X.env)).any (·.1) = false := by rfl)
  (ht : eval (.Call (.Attribute o m apos) (e :: es) [] pos) X.env = (do
   let ov <- eval o X.env
   standAt apos.atName
   let (f, first) <- holding [ov] (getMethod ov m pl)
   callWith pos f first (backTo pos (starEach (e :: es) X.env)) (backToKw pos (keywordEach [] X.env))) := by rfl) : PE X (.Call (.Attribute o m apos) (e :: es) [] pos) (tMeth C m sp [] E0 ta t) := by
 obtain ⟨f, fd, h1, h3, h4⟩ := M
 exact pe_meth (pl := pl) ho c h1 h4 (hr.mono hk) h3 .nil pass0 ha hst hpl ht
theorem pe_mt0 {pl : Sem Bool} (M : Mt X.prog X.w X.K X.mg X.base C m ps k sp) (c : Cls X.K C) (hr : Room k' X.A) (ho : PE X o ta) (hk : k <= k' := by decide)
  (ht : eval (.Call (.Attribute o m apos) [] [] pos) X.env = (do
   let ov <- eval o X.env
   standAt apos.atName
   let (f, first) <- holding [ov] (getMethod ov m pl)
   callWith pos f first (backTo pos (starEach [] X.env)) (backToKw pos (keywordEach [] X.env))) := by rfl) : PE X (.Call (.Attribute o m apos) [] [] pos) (tMeth C m sp [] E0 ta tNil) := by
 obtain ⟨f, fd, h1, h3, h4⟩ := M
 exact pe_meth0 (pl := pl) ho c h1 h4 (hr.mono hk) h3 .nil pass0 ht
theorem pe_gint {i : Int} {tk : Tok} (hg : Gl X x) (hm : X.mg x = some (.int i tk)) (hd : (x == ("__debug__" : Str)) = false := by decide) : PE X (.Name x pos) (tC (.int i)) := pe_glob hg hm ⟨tk, rfl⟩ hd
end
section
variable {X : Cx} {K : PySem.W.Frag} {e o : Expr} {f : Str} {ta : TE} {pos : Pos}
theorem ixl (h : X.K = K := by rfl) : IxR X (rIxL K) := by rw [<- h]; exact ix_list
theorem ixt (h : X.K = K := by rfl) : IxR X (rIxT K) := by rw [<- h]; exact ix_tup
theorem pfld (he : PE X e ta) (hb : attributeBase e f X.env (eval e X.env) = eval e X.env := by rfl) (h : X.K = K := by rfl) : PE X (.Attribute e f pos) (tFld K ta f) := by rw [<- h]; exact pe_fld he hb
end
structure Tx (K : PySem.W.Frag) (mg : Str -> Option Value) (C : Addr) : Prop where
 cl : Cls K C
 nB : NoAttr K C "begun"
 nW : NoAttr K C "width"
 nF : NoAttr K C "face"
 nS : NoAttr K C "steps"
 nH : NoAttr K C "heights"
 nP : NoAttr K C "spots"
 nD : NoAttr K C "pairs"
 len : mg "len" = none
 range : mg "range" = none
 all : mg "all" = none
 sorted : mg "sorted" = none
 min : mg "min" = none
 max : mg "max" = none
 abs : mg "abs" = none
 int : mg "int" = none
 list : mg "list" = none
 near : ∃ t, mg "NEAR" = some (.int 1 t)
 apart : ∃ t, mg "APART" = some (.int 2 t)
section
variable {K : PySem.W.Frag} {mg : Str -> Option Value} {C p : Addr} {H : Hp} {A : GA} {b : Bool} {g : G} {R : V -> Prop}
abbrev FldR (K : PySem.W.Frag) (p : Addr) (f : Str) (H : Hp) (R : V -> Prop) : Prop := ∃ a C dx fs v, V.ref p = .ref a /\ H a = some (.ins C dx fs) /\ Cls K C /\ NoAttr K C f /\ fs.lookup f = some v /\ R v
theorem fldAny {i : Nat} {f : Str} {v : V} (T : Cls K C) (n : NoAttr K C f) (B : GAt C H p A b g) (h1 : gnames[i]? = some f) (h2 : ([.bl b, iV g.width, iV g.face, .ref A.st, .ref A.ht, .ref A.sp, .ref A.pr] : List V)[i]? = some v) (q : R v) : FldR K p f H R := by
 obtain ⟨dx, h⟩ := B.ob
 exact ⟨p, C, dx, _, v, rfl, h, T, n, lookup_zip gnd h1 h2, q⟩
theorem fB (T : Tx K mg C) (B : GAt C H p A b g) (q : R (.bl b)) : FldR K p "begun" H R := fldAny (i := 0) T.cl T.nB B rfl rfl q
theorem fW (T : Tx K mg C) (B : GAt C H p A b g) (q : R (iV g.width)) : FldR K p "width" H R := fldAny (i := 1) T.cl T.nW B rfl rfl q
theorem fF (T : Tx K mg C) (B : GAt C H p A b g) (q : R (iV g.face)) : FldR K p "face" H R := fldAny (i := 2) T.cl T.nF B rfl rfl q
theorem fS (T : Tx K mg C) (B : GAt C H p A b g) (q : R (.ref A.st)) : FldR K p "steps" H R := fldAny (i := 3) T.cl T.nS B rfl rfl q
theorem fH (T : Tx K mg C) (B : GAt C H p A b g) (q : R (.ref A.ht)) : FldR K p "heights" H R := fldAny (i := 4) T.cl T.nH B rfl rfl q
theorem fP (T : Tx K mg C) (B : GAt C H p A b g) (q : R (.ref A.sp)) : FldR K p "spots" H R := fldAny (i := 5) T.cl T.nP B rfl rfl q
theorem fD (T : Tx K mg C) (B : GAt C H p A b g) (q : R (.ref A.pr)) : FldR K p "pairs" H R := fldAny (i := 6) T.cl T.nD B rfl rfl q
theorem mG {m : Str} {R : Prop} (B : GAt C H p A b g) (hm : m ∉ gnames) (q : R) : ∃ a dx fs, V.ref p = .ref a /\ H a = some (.ins C dx fs) /\ fs.lookup m = none /\ R := by
 obtain ⟨dx, h⟩ := B.ob
 exact ⟨p, dx, _, rfl, h, flds_no hm, q⟩
theorem ixL {a : Addr} {xs : List V} {n : Nat} {v : V} (h : H a = some (.lst xs)) (e : xs[n]? = some v) (q : R v) : ∃ p xs i v, V.ref a = .ref p /\ iV n = .int i /\ SqL K H p xs /\ atI xs i = some v /\ R v := ⟨a, xs, n, v, rfl, rfl, SqL.of h, atI_nat e, q⟩
theorem ixT {a : Addr} {xs : List V} {n : Nat} {v : V} (h : H a = some (.tup xs)) (e : xs[n]? = some v) (q : R v) : ∃ p xs i v, V.ref a = .ref p /\ iV n = .int i /\ SqT K H p xs /\ atI xs i = some v /\ R v := ⟨a, xs, n, v, rfl, rfl, SqT.of h, atI_nat e, q⟩
theorem lenL {a : Addr} {ys : List V} {R : List V -> Prop} (h : H a = some (.lst ys)) (q : R ys) : ∃ p ys, [V.ref a] = [.ref p] /\ (SqL K H p ys ∨ SqT K H p ys) /\ R ys := ⟨a, ys, rfl, .inl (SqL.of h), q⟩
end
theorem same_put {H H' : Hp} {a : Addr} {o : HO} (s : Same H H') (h : H a = none) : Same H (upd H' a o) := fun b u e => by rw [upd_ne (ne_of_none e h)]; exact s b u e
theorem range_step {α : Type} {keep : α -> Bool} {val : α -> V} {l : List α} {i : Nat} {x : α} (h : l[i]? = some x) : ((l.take (i + 1)).filter keep).map val = ((l.take i).filter keep).map val ++ (if keep x = true then [val x] else []) := by
 rw [List.take_add_one, h, List.filter_append, List.map_append]
 congr 1
 show (([x] : List α).filter keep).map val = _
 rw [List.filter_cons]
 by_cases q : keep x = true
 ·rw [if_pos q, if_pos q]; rfl
 ·rw [if_neg q, if_neg q]; rfl
theorem lc_rangeF {n : Nat} {g : TG} {tt : TT} {te : TE} {vs : List Nat} {σ : L2.St} {H1 : Hp} {D : Addr} {Qd : Hp -> Prop} (keep : Nat -> Bool) (val : Nat -> V) (hn : n <= 100000) (hD : H1 D = none)
  (hs : ∀ (i : Nat) (H' : Hp) (K4 : V -> Hp -> Prop) (K3 : Hp -> Prop), i < n -> Same H1 H' -> (keep i = true -> ∀ H4, Same H' H4 -> K4 (val i) H4) -> (keep i = false -> ∀ H3, Same H' H3 -> K3 H3) ->
   g (iV i) (wipe σ vs) H' fun σ2 H2 => wipe σ2 vs = wipe σ vs /\ tt σ2 H2 fun b H3 => if b = true then te σ2 H3 K4 else K3 H3)
  (hd : ∀ H', Same H1 H' -> H' D = some (.lst (((List.range n).filter keep).map val)) -> Qd H') :
  ∃ W : Nat -> Nat -> Hp -> Prop, (∃ m, W 0 m (upd H1 D (.lst []))) /\ ∀ i m H, W i m H ->
   ((Itr 0 n).stop i H /\ Qd H) ∨ ((Itr 0 n).go i H /\ ∃ Nx : Hp -> Prop, (∀ H', Nx H' -> ∃ m', m' < m /\ W (i + 1) m' H') /\ ∀ x H', (Itr 0 n).yld i H x H' -> g x (wipe σ vs) H' fun σ2 H2 => wipe σ2 vs = wipe σ vs /\ tt σ2 H2 fun b H3 =>
    if b = true then te σ2 H3 fun y H4 => ∃ acc, H4 D = some (.lst acc) /\ acc.length < sizeLine /\ Nx (upd H4 D (.lst (acc ++ [y]))) else Nx H3) := by
 have small : ∀ i, i < n -> ((((List.range n).take i).filter keep).map val).length < sizeLine := fun i hi => by
  rw [List.length_map]
  have := List.length_filter_le keep ((List.range n).take i)
  rw [List.length_take, List.length_range] at this
  have := sizeLine_eq
  omega
 refine lc_range (fun i H' => Same H1 H' /\ H' D = some (.lst ((((List.range n).take i).filter keep).map val))) ⟨Same.new hD, upd_same⟩ ?_ ?_
 ·rintro i H' hi ⟨s1, h1⟩
  have hx : (List.range n)[i]? = some i := by rw [List.getElem?_range hi]
  rw [Int.zero_add]
  refine hs i H' _ _ hi s1 (fun hk H4 s4 => ⟨_, s4 _ _ h1, small i hi, same_put (s1.trans s4) hD, ?_⟩) (fun hk H3 s3 => ⟨s1.trans s3, ?_⟩)
  ·rw [upd_same, range_step hx, if_pos hk]
  ·rw [s3 _ _ h1, range_step hx, if_neg (by rw [hk]; decide), List.append_nil]
 ·rintro H' ⟨s1, h1⟩
  refine hd H' s1 ?_
  rw [h1, List.take_of_length_le (by rw [List.length_range]; exact Nat.le_refl n)]
theorem lc_listF {α : Type} {K : PySem.W.Frag} {a : Addr} {g : TG} {tt : TT} {te : TE} {vs : List Nat} {σ : L2.St} {H1 : Hp} {D : Addr} {Qd : Hp -> Prop} (l : List α) (enc : α -> V) (ha : SqL K H1 a (l.map enc)) (keep : α -> Bool) (val : α -> V) (hn : l.length <= 100000) (hD : H1 D = none)
  (hs : ∀ (x : α) (H' : Hp) (K4 : V -> Hp -> Prop) (K3 : Hp -> Prop), x ∈ l -> Same H1 H' -> (keep x = true -> ∀ H4, Same H' H4 -> K4 (val x) H4) -> (keep x = false -> ∀ H3, Same H' H3 -> K3 H3) ->
   g (enc x) (wipe σ vs) H' fun σ2 H2 => wipe σ2 vs = wipe σ vs /\ tt σ2 H2 fun b H3 => if b = true then te σ2 H3 K4 else K3 H3)
  (hd : ∀ H', Same H1 H' -> H' D = some (.lst ((l.filter keep).map val)) -> Qd H') :
  ∃ W : Nat -> Nat -> Hp -> Prop, (∃ m, W 0 m (upd H1 D (.lst []))) /\ ∀ i m H, W i m H ->
   ((Itl K a).stop i H /\ Qd H) ∨ ((Itl K a).go i H /\ ∃ Nx : Hp -> Prop, (∀ H', Nx H' -> ∃ m', m' < m /\ W (i + 1) m' H') /\ ∀ x H', (Itl K a).yld i H x H' -> g x (wipe σ vs) H' fun σ2 H2 => wipe σ2 vs = wipe σ vs /\ tt σ2 H2 fun b H3 =>
    if b = true then te σ2 H3 fun y H4 => ∃ acc, H4 D = some (.lst acc) /\ acc.length < sizeLine /\ Nx (upd H4 D (.lst (acc ++ [y]))) else Nx H3) := by
 have small : ∀ i, (((l.take i).filter keep).map val).length < sizeLine := fun i => by
  rw [List.length_map]
  have := List.length_filter_le keep (l.take i)
  rw [List.length_take] at this
  have := sizeLine_eq
  omega
 refine lc_list (xs := l.map enc) (fun i H' => Same H1 H' /\ H' D = some (.lst (((l.take i).filter keep).map val))) ⟨Same.new hD, upd_same⟩ (fun i H' _ ⟨s1, _⟩ => s1.seq ha) ?_ ?_
 ·rintro i y H' hy ⟨s1, h1⟩
  rw [List.getElem?_map] at hy
  cases e : l[i]? with
  | none => rw [e] at hy; cases hy
  | some x =>
   rw [e] at hy
   have ey : enc x = y := Option.some.inj hy
   rw [<- ey]
   refine hs x H' _ _ (List.mem_of_getElem? e) s1 (fun hk H4 s4 => ⟨_, s4 _ _ h1, small i, same_put (s1.trans s4) hD, ?_⟩) (fun hk H3 s3 => ⟨s1.trans s3, ?_⟩)
   ·rw [upd_same, range_step e, if_pos hk]
   ·rw [s3 _ _ h1, range_step e, if_neg (by rw [hk]; decide), List.append_nil]
 ·rintro H' ⟨s1, h1⟩
  refine hd H' s1 ?_
  rw [h1, List.length_map, List.take_of_length_le (Nat.le_refl _)]
end
section
def top (i : Nat) : Stmt := PySem.Challenge.pw_standrows_s01_answers.main.body.getD i (.Pass ⟨0, 0, 0, 0⟩)
def cls (j : Nat) : Stmt := inClass (top 3) j
section
variable {P : Program} {w : World} {K : PySem.W.Frag} {mg : Str -> Option Value} {base : Heap} {C : Addr}
def spHas (C : Addr) : Sp := fun vs H Q _ => ∃ p A b g n, vs = [.ref p, iV n] /\ GAt C H p A b g /\ Q (.bl (decide (n < g.heights.length))) H
theorem scHas : FnScope ["self", "p"] ["self", "p"] (defScope (cls 3)) := ⟨rfl, rfl, rfl, by decide +kernel, rfl, by decide +kernel, by decide +kernel⟩
theorem ok_has {f : Addr} {fd : FuncData} (F : Fun K "has_person" "Group.has_person" (cls 3) f fd) (T : Tx K mg C) : FnOk P w K mg base CX0 1 f fd ["self", "p"] (spHas C) := by
 refine F.ok scHas (fun vs H Q E h => ?_) (fun cdv A outer s H vs Q E hr h => ?_)
 ·obtain ⟨p, A, b, g, n, rfl, _⟩ := h
  rfl
 ·obtain ⟨p, A', b, g, n, rfl, B, k⟩ := h
  refine ⟨_, pss_one (ps_ret (pe_cmpR op_lt (pv 1) (pe_callB call_len_seq (by rfl) T.len PySem.boot_len (pa_cons (pe_fld (pv 0) rfl) pa_nil)) (nomark _))), ?_⟩
  refine ⟨_, rfl, _, rfl, ?_⟩
  refine fH T B ?_
  refine lenL B.ht ?_
  refine ⟨_, _, rfl, rfl, ?_⟩
  simpa [nVs_len] using k
def spPlaced (C : Addr) : Sp := fun vs H Q _ => ∃ p A b g n, vs = [.ref p, iV n] /\ GAt C H p A b g /\ n < g.spots.length /\ Q (.bl (g.spot n).isSome) H
theorem scPlaced : FnScope ["self", "p"] ["self", "p"] (defScope (cls 6)) := ⟨rfl, rfl, rfl, by decide +kernel, rfl, by decide +kernel, by decide +kernel⟩
theorem ok_placed {f : Addr} {fd : FuncData} (F : Fun K "is_placed" "Group.is_placed" (cls 6) f fd) (T : Tx K mg C) : FnOk P w K mg base CX0 1 f fd ["self", "p"] (spPlaced C) := by
 refine F.ok scPlaced (fun vs H Q E h => ?_) (fun cdv A outer s H vs Q E hr h => ?_)
 ·obtain ⟨p, A, b, g, n, rfl, _⟩ := h
  rfl
 ·obtain ⟨p, A', b, g, n, rfl, B, hn, k⟩ := h
  refine ⟨_, pss_one (ps_ret (pe_cmp (pc_notN (pe_ix ix_list (pe_fld (pv 0) rfl) (pv 1) (fun _ _ => rfl))))), ?_⟩
  obtain ⟨vs, v, h1, h2, h3⟩ := B.spot hn
  refine ⟨_, rfl, ?_⟩
  refine fP T B ?_
  refine ⟨_, rfl, ?_⟩
  refine ixL h1 h2 ?_
  cases e : g.spot n with
  | none =>
   rw [e] at h3 k
   rw [show v = .non from h3]
   exact k
  | some x =>
   rw [e] at h3 k
   obtain ⟨t, rfl, _⟩ := h3
   exact k
def ret1 : Option Nat -> V
 | some n => iV n
 | none => .non
def spPersonAt (C : Addr) : Sp := fun vs H Q _ => ∃ p A b g r c, vs = [.ref p, iV r, iV c] /\ GAt C H p A b g /\ g.spots.length <= 20 /\ ∀ H', Same H H' -> Q (ret1 (g.at? r c)) H'
theorem scPersonAt : FnScope ["self", "row", "column", "p"] ["self", "row", "column"] (defScope (cls 11)) := ⟨rfl, rfl, rfl, by decide +kernel, rfl, by decide +kernel, by decide +kernel⟩
theorem spotD {H : Hp} {o : Option (Nat × Nat)} {v : V} (h : spotV H o v) : ∃ d, Dp K H v d /\ SeqAt.shaped d = true /\ ∀ r c : Nat, PyData.eqv d (.tuple [.int r, .int c]) = decide (o = some (r, c)) := by
 cases o with
 | none =>
  rw [show v = .non from h]
  exact ⟨.none, .non, rfl, fun r c => rfl⟩
 | some x =>
  obtain ⟨t, rfl, ht⟩ := h
  refine ⟨.tuple [.int x.1, .int x.2], .tup (SqT.of ht) (.cons (.int _) (.cons (.int _) .nil)), rfl, fun r c => ?_⟩
  obtain ⟨a, b⟩ := x
  show (((a : Int) == (r : Int)) && (((b : Int) == (c : Int)) && true)) = _
  rw [Bool.and_true, Bool.eq_iff_iff]
  simp
  omega
theorem at_some {g : G} {r c n : Nat} (hn : n < g.spots.length) (h1 : g.spot n = some (r, c)) (h0 : ∀ j, j < n -> g.spot j ≠ some (r, c)) : g.at? r c = some n := by
 unfold G.at?
 rw [List.find?_range_eq_some]
 refine ⟨by rw [h1]; exact decide_eq_true rfl, List.mem_range.mpr hn, fun j hj => ?_⟩
 simp [h0 j hj]
theorem at_none {g : G} {r c : Nat} (h0 : ∀ j, j < g.spots.length -> g.spot j ≠ some (r, c)) : g.at? r c = none := find_range_none fun j hj => by simp [h0 j hj]
theorem ok_personAt {f : Addr} {fd : FuncData} (F : Fun K "person_at" "Group.person_at" (cls 11) f fd) (T : Tx K mg C) : FnOk P w K mg base CX0 1 f fd ["self", "row", "column"] (spPersonAt C) := by
 refine F.ok scPersonAt (fun vs H Q E h => ?_) (fun cdv A outer s H vs Q E hr h => ?_)
 ·obtain ⟨p, A, b, g, r, c, rfl, _⟩ := h
  rfl
 ·obtain ⟨p, A', b, g, r, c, rfl, B, hl, k⟩ := h
  refine ⟨_, pss_cons (ps_for PassesOwn.never rfl (pi_range1 rfl T.range (pa_cons (pe_callB call_len_seq (by rfl) T.len PySem.boot_len (pa_cons (pe_fld (pv 0) rfl) pa_nil)) pa_nil)) (pg_name (i := 3) scPersonAt.nd rfl (Or.inl rfl))
   (pss_one (ps_if (pt_cmpR (op_eqD hr.units) (pe_ix ix_list (pe_fld (pv 0) rfl) (pv 3) (fun _ _ => rfl)) (pe_tup (pa_cons (pv 1) (pa_cons (pv 2) pa_nil))) (nomark _)) (pss_one (ps_ret (pv 3))) pss_nil)))
   (pss_one (ps_ret pe_non)), ?_⟩
  obtain ⟨vs, hv, hpv⟩ := B.sp
  have hvl : vs.length = g.spots.length := (Paired.length hpv).symm
  refine ⟨_, rfl, fP T B (lenL hv ⟨_, rfl, by omega, by omega, ?_⟩)⟩
  rw [hvl]
  refine for_range (n := g.spots.length) (fun i σ H' => ∃ v : Option V, σ = [some (.ref p), some (iV r), some (iV c), v] /\ Same H H' /\ ∀ j, j < i -> g.spot j ≠ some (r, c)) ⟨none, rfl, Same.refl H, fun j hj => absurd hj (Nat.not_lt_zero j)⟩ ?_ ?_
  ·rintro i σ H' hi ⟨v, rfl, s1, h0⟩
   have B1 := B.same s1
   obtain ⟨vs1, v1, g1, g2, g3⟩ := B1.spot hi
   obtain ⟨d, hd1, hd2, hd3⟩ := spotD (K := K) g3
   refine ⟨_, rfl, fP T B1 ⟨_, rfl, ?_⟩⟩
   rw [Int.zero_add]
   refine ixL g1 g2 ⟨_, rfl, _, rfl, by show 2 <= sizeLine; decide, fun t ht => ?_⟩
   have s2 : Same H' (upd H' t (.tup [iV r, iV c])) := Same.new ht
   obtain ⟨d', hd1', hd2', hd3'⟩ := spotD (K := K) (spotV_same s2 g3)
   refine ⟨d', .tuple [.int r, .int c], hd1', .tup (SqT.of upd_same) (.cons (.int _) (.cons (.int _) .nil)), hd2', rfl, _, rfl, ?_⟩
   rw [hd3']
   refine ite2 (fun e => ?_) (fun e => ?_)
   ·refine ⟨_, rfl, ?_⟩
    have e' := of_decide_eq_true e
    have := k _ (s1.trans s2)
    rw [at_some hi e' h0] at this
    exact this
   ·refine ⟨_, rfl, s1.trans s2, fun j hj => ?_⟩
    by_cases hji : j = i
    ·rw [hji]
     exact fun z => e (decide_eq_true z)
    ·exact h0 j (by omega)
  ·rintro σ H' ⟨v, rfl, s1, h0⟩
   have := k _ s1
   rw [at_none h0] at this
   exact this
end
end
section
structure WFG (g : G) : Prop where
 slen : g.spots.length = g.heights.length
 inb : ∀ p r c, g.spot p = some (r, c) -> r < g.steps.length /\ c < g.width
 w6 : g.width <= 6
 s5 : g.steps.length <= 5
 h20 : g.heights.length <= 20
theorem Rel.wf {g : G} {a : Su57.Abs} (R : Rel g a) : WFG g := ⟨R.slen, R.inb, R.w6, R.s5, R.h20⟩
section
variable {P : Program} {w : World} {K : PySem.W.Frag} {mg : Str -> Option Value} {base : Heap} {C : Addr}
def spCol (C : Addr) : Sp := fun vs H Q _ => ∃ p A b g c, vs = [.ref p, iV c] /\ GAt C H p A b g /\ WFG g /\ ∀ H' l, Same H H' -> H l = none -> H' l = some (.lst (nVs (g.colPeople c))) -> Q (.ref l) H'
theorem scCol : FnScope ["self", "column", "standing", "row", "p"] ["self", "column"] (defScope (cls 12)) := ⟨rfl, rfl, rfl, by decide +kernel, rfl, by decide +kernel, by decide +kernel⟩
theorem somes_eq (l : List Nat) (f : Nat -> Option Nat) : ((l.map f).filter Option.isSome).map ret1 = nVs (l.filterMap f) := by
 induction l with
 | nil => rfl
 | cons x l ih =>
  rw [List.map_cons, List.filter_cons, List.filterMap_cons]
  cases f x with
  | none => exact ih
  | some y => exact congrArg (List.cons (iV y)) ih
theorem ok_col {f : Addr} {fd : FuncData} (F : Fun K "column_people" "Group.column_people" (cls 12) f fd) (T : Tx K mg C) (M : Mt P w K mg base C "person_at" ["self", "row", "column"] 1 (spPersonAt C)) : FnOk P w K mg base CX0 2 f fd ["self", "column"] (spCol C) := by
 refine F.ok scCol (fun vs H Q E h => ?_) (fun cdv A outer s H vs Q E hr h => ?_)
 ·obtain ⟨p, A, b, g, c, rfl, _⟩ := h
  rfl
 ·obtain ⟨p, A', b, g, c, rfl, B, W, k⟩ := h
  refine ⟨_, pss_cons (ps_setLc (i := 2) rfl scCol.nd rfl rfl (sw_true rfl rfl rfl (by decide +kernel)) (pi_range1 rfl T.range (pa_cons (pe_callB call_len_seq (by rfl) T.len PySem.boot_len (pa_cons (pe_fld (pv 0) rfl) pa_nil)) pa_nil)) (blkOk_by (own := [("row", 3)]) (by kernel_rfl))
    (fun _ _ _ _ _ => pg_name (i := 3) scCol.nd rfl (Or.inl rfl)) (fun _ _ _ _ _ => pts_nil) (fun _ _ _ _ _ => pe_mt M T.cl hr (pv 0) (pa_cons (pv 3) (pa_cons (pv 1) pa_nil))))
   (pss_one (ps_ret (pe_lc rfl scCol.nd (pi_list (pv 2)) (blkOk_by (own := [("p", 4)]) (by kernel_rfl)) (fun _ _ _ _ _ => pg_name (i := 4) scCol.nd rfl (Or.inl rfl)) (fun _ _ _ _ _ => pts_one (pt_cmp (pc_notN (pv 4)))) (fun _ _ _ _ _ => pv 4)))), ?_⟩
  have s5 := W.s5
  refine ⟨_, rfl, fS T B (lenL B.st ⟨_, rfl, by rw [nVs_len]; omega, by rw [nVs_len]; omega, ?_⟩)⟩
  rw [nVs_len]
  intro D hD
  refine lc_rangeF (n := g.steps.length) (fun _ => true) (fun r => ret1 (g.at? r c)) (by omega) hD ?_ ?_
  ·intro i H' K4 K3 hi s1 k4 _
   have B1 := B.same s1
   refine ⟨rfl, ?_⟩
   refine ⟨_, rfl, mG B1 (by decide +kernel) ⟨_, rfl, _, rfl, p, A', b, g, i, c, rfl, B1, by rw [W.slen]; exact W.h20, fun H2 s2 => k4 rfl H2 s2⟩⟩
  ·intro H' s1 h1
   refine ⟨_, rfl, D, rfl, ⟨_, SqL.of h1⟩, fun D2 hD2 => ?_⟩
   have e1 : ((List.range g.steps.length).filter fun _ => true).map (fun r => ret1 (g.at? r c)) = ((List.range g.steps.length).map fun r => g.at? r c).map ret1 := by
    rw [List.filter_eq_self.mpr (fun _ _ => rfl), List.map_map]
    rfl
   rw [e1] at h1
   refine lc_listF ((List.range g.steps.length).map fun r => g.at? r c) ret1 (SqL.of h1) Option.isSome ret1 (by rw [List.length_map, List.length_range]; omega) hD2 ?_ ?_
   ·intro x H2 K4 K3 _ s2 k4 k3
    refine ⟨rfl, _, rfl, _, rfl, ?_⟩
    cases x with
    | none => exact iteF (k3 rfl H2 (Same.refl _))
    | some y => exact iteT ⟨_, rfl, k4 rfl H2 (Same.refl _)⟩
   ·intro H2 s2 h2
    rw [somes_eq] at h2
    exact k H2 D2 (s1.trans s2) (s1.free hD2) h2
theorem GAt.row {p : Addr} {H : Hp} {A : GA} {b : Bool} {g : G} (B : GAt C H p A b g) {n r c : Nat} (h : g.spot n = some (r, c)) : ∃ vs t, H A.sp = some (.lst vs) /\ vs[n]? = some (.ref t) /\ H t = some (.tup [iV r, iV c]) := by
 obtain ⟨vs, v, h1, h2, h3⟩ := B.spot (spot_lt h)
 rw [h] at h3
 obtain ⟨t, rfl, ht⟩ := h3
 exact ⟨vs, t, h1, h2, ht⟩
theorem get_step {g : G} {r : Nat} (h : r < g.steps.length) : (nVs g.steps)[r]? = some (iV (g.step r)) := by
 refine nVs_get ?_
 unfold G.step
 rw [List.getElem?_eq_getElem h, List.getD_eq_getElem?_getD, List.getElem?_eq_getElem h]
 rfl
theorem get_height {g : G} {n : Nat} (h : n < g.heights.length) : (nVs g.heights)[n]? = some (iV (g.height n)) := by
 refine nVs_get ?_
 unfold G.height
 rw [List.getElem?_eq_getElem h, List.getD_eq_getElem?_getD, List.getElem?_eq_getElem h]
 rfl
def spHead (C : Addr) : Sp := fun vs H Q _ => ∃ p A b g n, vs = [.ref p, iV n] /\ GAt C H p A b g /\ WFG g /\ (g.spot n).isSome = true /\ Q (iV (g.head n)) H
theorem scHead : FnScope ["self", "p"] ["self", "p"] (defScope (cls 15)) := ⟨rfl, rfl, rfl, by decide +kernel, rfl, by decide +kernel, by decide +kernel⟩
theorem ok_head {f : Addr} {fd : FuncData} (F : Fun K "head" "Group.head" (cls 15) f fd) (T : Tx K mg C) : FnOk P w K mg base CX0 1 f fd ["self", "p"] (spHead C) := by
 refine F.ok scHead (fun vs H Q E h => ?_) (fun cdv A outer s H vs Q E hr h => ?_)
 ·obtain ⟨p, A, b, g, n, rfl, _⟩ := h
  rfl
 ·obtain ⟨p, A', b, g, n, rfl, B, W, hn, k⟩ := h
  refine ⟨_, pss_one (ps_ret (pe_op op_add (pe_ix ix_list (pe_fld (pv 0) rfl) (pe_ix ix_tup (pe_ix ix_list (pe_fld (pv 0) rfl) (pv 1) (fun _ _ => rfl)) pe_int (fun _ _ => rfl)) (fun _ _ => rfl)) (pe_ix ix_list (pe_fld (pv 0) rfl) (pv 1) (fun _ _ => rfl)))), ?_⟩
  obtain ⟨⟨r, c⟩, e⟩ := Option.isSome_iff_exists.mp hn
  obtain ⟨vs, t, h1, h2, h3⟩ := B.row e
  have hr' := (W.inb n r c e).1
  have hh : n < g.heights.length := by rw [<- W.slen]; exact spot_lt e
  refine ⟨_, rfl, fS T B ⟨_, rfl, fP T B ⟨_, rfl, ixL h1 h2 (ixT (n := 0) h3 rfl (ixL B.st (get_step hr') ⟨_, rfl, fH T B ⟨_, rfl, ixL B.ht (get_height hh) ⟨_, _, rfl, rfl, ?_⟩⟩⟩))⟩⟩⟩
  have eh : g.head n = g.step r + g.height n := by unfold G.head; rw [(spot_row e).1]
  rw [eh] at k
  exact k
def spHigh : Sp := fun vs H Q _ => ∃ a b c : Nat, vs = [iV a, iV b, iV c] /\ Q (.bl (decide (c < a + b))) H
theorem scHigh : FnScope ["front_head", "face", "back_head"] ["front_head", "face", "back_head"] (defScope (top 4)) := ⟨rfl, rfl, rfl, by decide +kernel, rfl, by decide +kernel, by decide +kernel⟩
theorem ok_high {f : Addr} {fd : FuncData} (F : Fun K "comes_too_high" "comes_too_high" (top 4) f fd) : FnOk P w K mg base CX0 1 f fd ["front_head", "face", "back_head"] spHigh := by
 refine F.ok scHigh (fun vs H Q E h => ?_) (fun cdv A outer s H vs Q E hr h => ?_)
 ·obtain ⟨a, b, c, rfl, _⟩ := h
  rfl
 ·obtain ⟨a, b, c, rfl, k⟩ := h
  refine ⟨_, pss_one (ps_ret (pe_cmpR op_gt (pe_op op_add (pv 0) (pv 1)) (pv 2) (nomark _))), ?_⟩
  refine ⟨_, rfl, _, rfl, _, _, rfl, rfl, _, rfl, _, _, rfl, rfl, ?_⟩
  show Q (.bl (decide ((c : Int) < (a : Int) + (b : Int)))) H
  rw [show decide ((c : Int) < (a : Int) + (b : Int)) = decide (c < a + b) from decide_eq_decide.mpr (by omega)]
  exact k
end
end
section
section
variable {P : Program} {w : World} {K : PySem.W.Frag} {mg : Str -> Option Value} {base : Heap} {C : Addr}
theorem filter_step {q : Nat -> Bool} {l : List Nat} {i x : Nat} (h : l[i]? = some x) : (l.take (i + 1)).filter q = (l.take i).filter q ++ (if q x = true then [x] else []) := by
 rw [List.take_add_one, h, List.filter_append]
 congr 1
 show ([x] : List Nat).filter q = _
 rw [List.filter_cons]
 by_cases e : q x = true
 ·rw [if_pos e, if_pos e]; rfl
 ·rw [if_neg e, if_neg e]; rfl
theorem nVs_at {l : List Nat} {i : Nat} {y : V} (h : (nVs l)[i]? = some y) : ∃ n, l[i]? = some n /\ y = iV n := by
 unfold nVs at h
 rw [List.getElem?_map] at h
 cases e : l[i]? with
 | none => rw [e] at h; cases h
 | some n => rw [e] at h; exact ⟨n, rfl, (Option.some.inj h).symm⟩
theorem colPeople_len (g : G) (c : Nat) : (g.colPeople c).length <= g.steps.length := by
 unfold G.colPeople
 have := List.length_filterMap_le (fun r => g.at? r c) (List.range g.steps.length)
 rw [List.length_range] at this
 exact this
theorem line_of_le {n m : Nat} (h : n <= m) (hm : m <= 100000) : n < sizeLine := by
 have := sizeLine_eq
 omega
def G.front (g : G) (n : Nat) : List Nat := (g.colPeople (g.col n)).filter fun o => decide (g.row o < g.row n)
theorem hiders_front (g : G) (n : Nat) : g.hiders n = (g.front n).filter fun o => decide (g.head n < g.head o + g.face) := by
 unfold G.hiders G.front
 rw [List.filter_filter]
 congr 1
 funext o
 exact Bool.and_comm _ _
theorem front_len (g : G) (n : Nat) : (g.front n).length <= g.steps.length := Nat.le_trans (List.length_filter_le _ _) (colPeople_len g _)
theorem front_mem {g : G} {n o : Nat} (h : o ∈ g.front n) : ∃ r, r < g.steps.length /\ g.spot o = some (r, g.col n) := col_mem (List.mem_filter.mp h).1
def spFront (C : Addr) : Sp := fun vs H Q _ => ∃ p A b g n, vs = [.ref p, iV n] /\ GAt C H p A b g /\ WFG g /\ (g.spot n).isSome = true /\ ∀ H' l, Same H H' -> H l = none -> H' l = some (.lst (nVs (g.front n))) -> Q (.ref l) H'
theorem scFront : FnScope ["self", "p", "spot", "other"] ["self", "p"] (defScope (cls 16)) := ⟨rfl, rfl, rfl, by decide +kernel, rfl, by decide +kernel, by decide +kernel⟩
theorem ok_front {f : Addr} {fd : FuncData} (F : Fun K "people_in_front" "Group.people_in_front" (cls 16) f fd) (T : Tx K mg C) (Mc : Mt P w K mg base C "column_people" ["self", "column"] 2 (spCol C)) : FnOk P w K mg base CX0 3 f fd ["self", "p"] (spFront C) := by
 refine F.ok scFront (fun vs H Q E h => ?_) (fun cdv A outer s H vs Q E hr h => ?_)
 ·obtain ⟨p, A, b, g, n, rfl, _⟩ := h
  rfl
 ·obtain ⟨p, A', b, g, n, rfl, B, W, hn, k⟩ := h
  refine ⟨_, pss_cons (ps_set (i := 2) scFront.nd rfl (Or.inr rfl) (pe_ix ix_list (pe_fld (pv 0) rfl) (pv 1) (fun _ _ => rfl)))
   (pss_one (ps_ret (pe_lc rfl scFront.nd (pi_list (pe_mt Mc T.cl hr (pv 0) (pa_cons (pe_ix ix_tup (pv 2) pe_int (fun _ _ => rfl)) pa_nil))) (blkOk_by (own := [("other", 3)]) (by kernel_rfl)) (fun _ _ _ _ _ => pg_name (i := 3) scFront.nd rfl (Or.inl rfl))
    (fun _ _ _ _ _ => pts_one (pt_cmpR op_lt (pe_ix (ixt (K := K)) (pe_ix (ixl (K := K)) (pfld (K := K) (pv 0)) (pv 3) (fun _ _ => rfl)) pe_int (fun _ _ => rfl)) (pe_ix (ixt (K := K)) (pv 2) pe_int (fun _ _ => rfl)) (nomark _))) (fun _ _ _ _ _ => pv 3)))), ?_⟩
  obtain ⟨⟨r, c⟩, e⟩ := Option.isSome_iff_exists.mp hn
  obtain ⟨er, ec⟩ := spot_row e
  obtain ⟨vs, t, h1, h2, h3⟩ := B.row e
  refine ⟨_, rfl, fP T B ⟨_, rfl, ixL h1 h2 ?_⟩⟩
  refine ⟨_, rfl, mG B (by decide +kernel) ⟨_, rfl, ixT (n := 1) h3 rfl ⟨p, A', b, g, c, rfl, B, W, fun H2 lc s2 hlc h2' => ?_⟩⟩⟩
  refine ⟨lc, rfl, ⟨_, SqL.of h2'⟩, fun D hD => ?_⟩
  refine lc_listF (g.colPeople c) iV (SqL.of h2') (fun o => decide (g.row o < g.row n)) iV ?_ hD ?_ ?_
  ·have := colPeople_len g c
   have := W.s5
   omega
  ·intro x H' K4 K3 hx s1 k4 k3
   obtain ⟨ro, hro, so⟩ := col_mem hx
   have B3 := B.same (s2.trans s1)
   obtain ⟨vs', t', f1, f2, f3⟩ := B3.row so
   have e1 : decide ((ro : Int) < (r : Int)) = decide (g.row x < g.row n) := by rw [(spot_row so).1, er]; exact decide_eq_decide.mpr (by omega)
   refine ⟨rfl, ?_⟩
   refine ⟨_, rfl, fP T B3 ⟨_, rfl, ixL f1 f2 (ixT (n := 0) f3 rfl ⟨_, rfl, ixT (n := 0) (s1 _ _ (s2 _ _ h3)) rfl ⟨_, _, rfl, rfl, _, rfl, ?_⟩⟩)⟩⟩
   rw [e1]
   exact ite2 (fun d => ⟨_, rfl, k4 d H' (Same.refl _)⟩) (fun d => k3 (Bool.eq_false_iff.mpr d) H' (Same.refl _))
  ·intro H' s1 h1'
   refine k H' D (s2.trans s1) (s2.free hD) ?_
   unfold G.front
   rw [ec]
   exact h1'
def spHiders (C : Addr) : Sp := fun vs H Q _ => ∃ p A b g n, vs = [.ref p, iV n] /\ GAt C H p A b g /\ WFG g /\ (g.spot n).isSome = true /\ ∀ H' l, Same H H' -> H l = none -> H' l = some (.lst (nVs (g.hiders n))) -> Q (.ref l) H'
theorem scHiders : FnScope ["self", "p", "head", "other"] ["self", "p"] (defScope (cls 17)) := ⟨rfl, rfl, rfl, by decide +kernel, rfl, by decide +kernel, by decide +kernel⟩
theorem ok_hiders {f : Addr} {fd : FuncData} (F : Fun K "hiders" "Group.hiders" (cls 17) f fd) (T : Tx K mg C) (Mh : Mt P w K mg base C "head" ["self", "p"] 1 (spHead C)) (Mf : Mt P w K mg base C "people_in_front" ["self", "p"] 3 (spFront C))
  (Fh : Fn P w K mg base "comes_too_high" ["front_head", "face", "back_head"] 1 spHigh) : FnOk P w K mg base CX0 4 f fd ["self", "p"] (spHiders C) := by
 refine F.ok scHiders (fun vs H Q E h => ?_) (fun cdv A outer s H vs Q E hr h => ?_)
 ·obtain ⟨p, A, b, g, n, rfl, _⟩ := h
  rfl
 ·obtain ⟨p, A', b, g, n, rfl, B, W, hn, k⟩ := h
  refine ⟨_, pss_cons (ps_set (i := 2) scHiders.nd rfl (Or.inr rfl) (pe_mt Mh T.cl hr (pv 0) (pa_cons (pv 1) pa_nil)))
   (pss_one (ps_ret (pe_lc rfl scHiders.nd (pi_list (pe_mt Mf T.cl hr (pv 0) (pa_cons (pv 1) pa_nil))) (blkOk_by (own := [("other", 3)]) (by kernel_rfl)) (fun _ _ _ _ _ => pg_name (i := 3) scHiders.nd rfl (Or.inl rfl))
    (fun _ _ _ _ _ => pts_one (pt_val (pe_fn Fh hr (by rfl) (pa_cons (pe_mt Mh T.cl hr (pv 0) (pa_cons (pv 3) pa_nil)) (pa_cons (pfld (K := K) (pv 0)) (pa_cons (pv 2) pa_nil)))))) (fun _ _ _ _ _ => pv 3)))), ?_⟩
  refine ⟨_, rfl, mG B (by decide +kernel) ⟨_, rfl, p, A', b, g, n, rfl, B, W, hn, ?_⟩⟩
  refine ⟨_, rfl, mG B (by decide +kernel) ⟨_, rfl, p, A', b, g, n, rfl, B, W, hn, fun H2 lc s2 hlc h2' => ?_⟩⟩
  refine ⟨lc, rfl, ⟨_, SqL.of h2'⟩, fun D hD => ?_⟩
  refine lc_listF (g.front n) iV (SqL.of h2') (fun o => decide (g.head n < g.head o + g.face)) iV ?_ hD ?_ ?_
  ·have := front_len g n
   have := W.s5
   omega
  ·intro x H' K4 K3 hx s1 k4 k3
   obtain ⟨ro, hro, so⟩ := front_mem hx
   have B3 := B.same (s2.trans s1)
   refine ⟨rfl, ?_⟩
   refine ⟨_, rfl, mG B3 (by decide +kernel) ⟨_, rfl, p, A', b, g, x, rfl, B3, W, by rw [so]; rfl, ?_⟩⟩
   refine ⟨_, rfl, fF T B3 ⟨_, rfl, g.head x, g.face, g.head n, rfl, _, rfl, ?_⟩⟩
   exact ite2 (fun d => ⟨_, rfl, k4 d H' (Same.refl _)⟩) (fun d => k3 (Bool.eq_false_iff.mpr d) H' (Same.refl _))
  ·intro H' s1 h1'
   refine k H' D (s2.trans s1) (s2.free hD) ?_
   rw [hiders_front]
   exact h1'
end
end
section
section
variable {P : Program} {w : World} {K : PySem.W.Frag} {mg : Str -> Option Value} {base : Heap} {C : Addr}
def spSeen (C : Addr) : Sp := fun vs H Q _ => ∃ p A b g n, vs = [.ref p, iV n] /\ GAt C H p A b g /\ WFG g /\ n < g.spots.length /\ ∀ H', Same H H' -> Q (.bl (g.seen n)) H'
theorem scSeen : FnScope ["self", "p"] ["self", "p"] (defScope (cls 18)) := ⟨rfl, rfl, rfl, by decide +kernel, rfl, by decide +kernel, by decide +kernel⟩
theorem len0_eq (l : List Nat) : decide (V.int ((nVs l).length : Nat) = V.int 0) = l.isEmpty := by
 rw [nVs_len]
 cases l with
 | nil => rfl
 | cons x l =>
  refine decide_eq_false fun h => ?_
  have := V.int.inj h
  rw [List.length_cons] at this
  omega
theorem ok_seen {f : Addr} {fd : FuncData} (F : Fun K "is_seen" "Group.is_seen" (cls 18) f fd) (T : Tx K mg C) (Mp : Mt P w K mg base C "is_placed" ["self", "p"] 1 (spPlaced C)) (Mh : Mt P w K mg base C "hiders" ["self", "p"] 4 (spHiders C)) : FnOk P w K mg base CX0 5 f fd ["self", "p"] (spSeen C) := by
 refine F.ok scSeen (fun vs H Q E h => ?_) (fun cdv A outer s H vs Q E hr h => ?_)
 ·obtain ⟨p, A, b, g, n, rfl, _⟩ := h
  rfl
 ·obtain ⟨p, A', b, g, n, rfl, B, W, hn, k⟩ := h
  refine ⟨_, pss_one (ps_ret (pe_and (pe_mt Mp T.cl hr (pv 0) (pa_cons (pv 1) pa_nil)) (pe_one (pe_cmpR op_eq (pe_callB call_len_seq (by rfl) T.len PySem.boot_len (pa_cons (pe_mt Mh T.cl hr (pv 0) (pa_cons (pv 1) pa_nil)) pa_nil)) pe_int (nomark _))))), ?_⟩
  refine ⟨_, rfl, mG B (by decide +kernel) ⟨_, rfl, p, A', b, g, n, rfl, B, hn, _, rfl, ?_⟩⟩
  refine ite2 (fun d => ?_) (fun d => ?_)
  ·refine ⟨_, rfl, mG B (by decide +kernel) ⟨_, rfl, p, A', b, g, n, rfl, B, W, d, fun H' l s1 _ h1 => lenL h1 ⟨rfl, ?_⟩⟩⟩
   have k1 := k H' s1
   unfold G.seen at k1
   rw [d, Bool.true_and] at k1
   show Q (.bl (decide (V.int ((nVs (g.hiders n)).length : Nat) = V.int 0))) H'
   rw [len0_eq]
   exact k1
  ·have k1 := k H (Same.refl _)
   unfold G.seen at k1
   rw [Bool.eq_false_iff.mpr d, Bool.false_and] at k1
   exact k1
def G.placedP (g : G) : List Nat := (List.range g.spots.length).filter fun p => (g.spot p).isSome
theorem placedP_len (g : G) : g.placedP.length <= g.spots.length := by
 have := List.length_filter_le (fun p => (g.spot p).isSome) (List.range g.spots.length)
 rw [List.length_range] at this
 exact this
theorem placedP_mem {g : G} {p : Nat} (h : p ∈ g.placedP) : p < g.spots.length /\ (g.spot p).isSome = true := ⟨List.mem_range.mp (List.mem_filter.mp h).1, (List.mem_filter.mp h).2⟩
def spPlacedP (C : Addr) : Sp := fun vs H Q _ => ∃ p A b g, vs = [.ref p] /\ GAt C H p A b g /\ WFG g /\ ∀ H' l, Same H H' -> H l = none -> H' l = some (.lst (nVs g.placedP)) -> Q (.ref l) H'
theorem scPlacedP : FnScope ["self", "p"] ["self"] (defScope (cls 7)) := ⟨rfl, rfl, rfl, by decide +kernel, rfl, by decide +kernel, by decide +kernel⟩
theorem ok_placedP {f : Addr} {fd : FuncData} (F : Fun K "placed_people" "Group.placed_people" (cls 7) f fd) (T : Tx K mg C) (Mp : Mt P w K mg base C "is_placed" ["self", "p"] 1 (spPlaced C)) : FnOk P w K mg base CX0 2 f fd ["self"] (spPlacedP C) := by
 refine F.ok scPlacedP (fun vs H Q E h => ?_) (fun cdv A outer s H vs Q E hr h => ?_)
 ·obtain ⟨p, A, b, g, rfl, _⟩ := h
  rfl
 ·obtain ⟨p, A', b, g, rfl, B, W, k⟩ := h
  refine ⟨_, pss_one (ps_ret (pe_lc rfl scPlacedP.nd (pi_range1 rfl T.range (pa_cons (pe_callB call_len_seq (by rfl) T.len PySem.boot_len (pa_cons (pe_fld (pv 0) rfl) pa_nil)) pa_nil)) (blkOk_by (own := [("p", 1)]) (by kernel_rfl)) (fun _ _ _ _ _ => pg_name (i := 1) scPlacedP.nd rfl (Or.inl rfl))
   (fun _ _ _ _ _ => pts_one (pt_val (pe_mt Mp T.cl hr (pv 0) (pa_cons (pv 1) pa_nil)))) (fun _ _ _ _ _ => pv 1))), ?_⟩
  obtain ⟨vs, hv, hpv⟩ := B.sp
  have hvl : vs.length = g.spots.length := (Paired.length hpv).symm
  have sl := W.slen
  have h20 := W.h20
  refine ⟨_, rfl, fP T B (lenL hv ⟨_, rfl, by omega, by omega, ?_⟩)⟩
  rw [hvl]
  intro D hD
  refine lc_rangeF (n := g.spots.length) (fun p => (g.spot p).isSome) iV (by omega) hD ?_ ?_
  ·intro i H' K4 K3 hi s1 k4 k3
   have B1 := B.same s1
   refine ⟨rfl, ?_⟩
   refine ⟨_, rfl, mG B1 (by decide +kernel) ⟨_, rfl, p, A', b, g, i, rfl, B1, hi, _, rfl, ?_⟩⟩
   exact ite2 (fun d => ⟨_, rfl, k4 d H' (Same.refl _)⟩) (fun d => k3 (Bool.eq_false_iff.mpr d) H' (Same.refl _))
  ·intro H' s1 h1
   exact k H' D s1 hD h1
def spHidden (C : Addr) : Sp := fun vs H Q _ => ∃ p A b g, vs = [.ref p] /\ GAt C H p A b g /\ WFG g /\ ∀ H' l, Same H H' -> H l = none -> H' l = some (.lst (nVs g.hidden)) -> Q (.ref l) H'
theorem hidden_placed (g : G) : g.hidden = g.placedP.filter fun p => !(g.seen p) := by
 unfold G.hidden G.placedP
 rw [List.filter_filter]
 congr 1
 funext p
 exact Bool.and_comm _ _
theorem scHidden : FnScope ["self", "p"] ["self"] (defScope (cls 19)) := ⟨rfl, rfl, rfl, by decide +kernel, rfl, by decide +kernel, by decide +kernel⟩
theorem ok_hidden {f : Addr} {fd : FuncData} (F : Fun K "hidden_people" "Group.hidden_people" (cls 19) f fd) (T : Tx K mg C) (Mp : Mt P w K mg base C "placed_people" ["self"] 2 (spPlacedP C)) (Ms : Mt P w K mg base C "is_seen" ["self", "p"] 5 (spSeen C)) : FnOk P w K mg base CX0 6 f fd ["self"] (spHidden C) := by
 refine F.ok scHidden (fun vs H Q E h => ?_) (fun cdv A outer s H vs Q E hr h => ?_)
 ·obtain ⟨p, A, b, g, rfl, _⟩ := h
  rfl
 ·obtain ⟨p, A', b, g, rfl, B, W, k⟩ := h
  refine ⟨_, pss_one (ps_ret (pe_lc rfl scHidden.nd (pi_list (pe_mt0 Mp T.cl hr (pv 0))) (blkOk_by (own := [("p", 1)]) (by kernel_rfl)) (fun _ _ _ _ _ => pg_name (i := 1) scHidden.nd rfl (Or.inl rfl))
   (fun _ _ _ _ _ => pts_one (pt_not (pt_val (pe_mt Ms T.cl hr (pv 0) (pa_cons (pv 1) pa_nil))))) (fun _ _ _ _ _ => pv 1))), ?_⟩
  refine ⟨_, rfl, mG B (by decide +kernel) ⟨p, A', b, g, rfl, B, W, fun H2 lc s2 hlc h2' => ?_⟩⟩
  refine ⟨lc, rfl, ⟨_, SqL.of h2'⟩, fun D hD => ?_⟩
  refine lc_listF g.placedP iV (SqL.of h2') (fun p => !(g.seen p)) iV ?_ hD ?_ ?_
  ·have := placedP_len g
   have := W.slen
   have := W.h20
   omega
  ·intro x H' K4 K3 hx s1 k4 k3
   have B1 := B.same (s2.trans s1)
   refine ⟨rfl, ?_⟩
   refine ⟨_, rfl, mG B1 (by decide +kernel) ⟨_, rfl, p, A', b, g, x, rfl, B1, W, (placedP_mem hx).1, fun H3 s3 => ⟨_, rfl, ?_⟩⟩⟩
   exact ite2 (fun d => ⟨_, rfl, k4 d H3 s3⟩) (fun d => k3 (Bool.eq_false_iff.mpr d) H3 s3)
  ·intro H' s1 h1
   refine k H' D (s2.trans s1) (s2.free hD) ?_
   rw [hidden_placed]
   exact h1
def spEvery (C : Addr) : Sp := fun vs H Q _ => ∃ p A b g, vs = [.ref p] /\ GAt C H p A b g /\ WFG g /\ ∀ H', Same H H' -> Q (.bl ((List.range g.spots.length).all g.seen)) H'
theorem scEvery : FnScope ["self", "p"] ["self"] (defScope (cls 20)) := ⟨rfl, rfl, rfl, by decide +kernel, rfl, by decide +kernel, by decide +kernel⟩
theorem ok_every {f : Addr} {fd : FuncData} (F : Fun K "everybody_is_seen" "Group.everybody_is_seen" (cls 20) f fd) (T : Tx K mg C) (Ms : Mt P w K mg base C "is_seen" ["self", "p"] 5 (spSeen C)) : FnOk P w K mg base CX0 6 f fd ["self"] (spEvery C) := by
 refine F.ok scEvery (fun vs H Q E h => ?_) (fun cdv A outer s H vs Q E hr h => ?_)
 ·obtain ⟨p, A, b, g, rfl, _⟩ := h
  rfl
 ·obtain ⟨p, A', b, g, rfl, B, W, k⟩ := h
  refine ⟨_, pss_one (ps_ret (pe_callB (cr_all rfl) (by rfl) T.all PyProof.Rows.boot_all (pa_cons (pe_lc rfl scEvery.nd (pi_range1 rfl T.range (pa_cons (pe_callB call_len_seq (by rfl) T.len PySem.boot_len (pa_cons (pe_fld (pv 0) rfl) pa_nil)) pa_nil)) (blkOk_by (own := [("p", 1)]) (by kernel_rfl)) (fun _ _ _ _ _ => pg_name (i := 1) scEvery.nd rfl (Or.inl rfl))
   (fun _ _ _ _ _ => pts_nil) (fun _ _ _ _ _ => pe_mt Ms T.cl hr (pv 0) (pa_cons (pv 1) pa_nil))) pa_nil))), ?_⟩
  obtain ⟨vs, hv, hpv⟩ := B.sp
  have hvl : vs.length = g.spots.length := (Paired.length hpv).symm
  have sl := W.slen
  have h20 := W.h20
  refine ⟨_, rfl, fP T B (lenL hv ⟨_, rfl, by omega, by omega, ?_⟩)⟩
  rw [hvl]
  intro D hD
  refine lc_rangeF (n := g.spots.length) (fun _ => true) (fun p => .bl (g.seen p)) (by omega) hD ?_ ?_
  ·intro i H' K4 K3 hi s1 k4 _
   have B1 := B.same s1
   refine ⟨rfl, ?_⟩
   exact ⟨_, rfl, mG B1 (by decide +kernel) ⟨_, rfl, p, A', b, g, i, rfl, B1, W, hi, fun H2 s2 => k4 rfl H2 s2⟩⟩
  ·intro H' s1 h1
   have e1 : ((List.range g.spots.length).filter fun _ => true).map (fun p => V.bl (g.seen p)) = ((List.range g.spots.length).map g.seen).map V.bl := by
    rw [List.filter_eq_self.mpr (fun _ _ => rfl), List.map_map]
    rfl
   rw [e1] at h1
   refine ⟨D, _, rfl, SqL.of h1, ?_⟩
   rw [List.all_map]
   exact k H' s1
def spMoved : Sp := fun vs H Q _ => ∃ a b st o, vs = [.ref a, .ref b] /\ H a = some (.lst (nVs st)) /\ H b = some (.lst (nVs o)) /\ o.length = st.length /\ o.length <= 100 /\ ∀ H', Same H H' -> Q (iV (Su57.moved st o)) H'
theorem scMoved : FnScope ["standing", "order", "k"] ["standing", "order"] (defScope (top 12)) := ⟨rfl, rfl, rfl, by decide +kernel, rfl, by decide +kernel, by decide +kernel⟩
theorem nVs_getD {l : List Nat} {i : Nat} (h : i < l.length) : (nVs l)[i]? = some (iV (l.getD i 0)) := nVs_get (by rw [List.getElem?_eq_getElem h, List.getD_eq_getElem?_getD, List.getElem?_eq_getElem h]; rfl)
theorem iV_ne (a b : Nat) : (!decide (iV a = iV b)) = (a != b) := by
 rw [bne, Bool.beq_eq_decide_eq]
 congr 1
 exact decide_eq_decide.mpr ⟨fun h => Int.ofNat.inj (V.int.inj h), fun h => by rw [h]⟩
theorem ok_moved {f : Addr} {fd : FuncData} (F : Fun K "count_moved" "count_moved" (top 12) f fd) (T : Tx K mg C) : FnOk P w K mg base CX0 1 f fd ["standing", "order"] spMoved := by
 refine F.ok scMoved (fun vs H Q E h => ?_) (fun cdv A outer s H vs Q E hr h => ?_)
 ·obtain ⟨a, b, st, o, rfl, _⟩ := h
  rfl
 ·obtain ⟨a, b, st, o, rfl, ha, hb, hl, h100, k⟩ := h
  refine ⟨_, pss_one (ps_ret (pe_callB call_len_seq (by rfl) T.len PySem.boot_len (pa_cons (pe_lc rfl scMoved.nd (pi_range1 rfl T.range (pa_cons (pe_callB call_len_seq (by rfl) T.len PySem.boot_len (pa_cons (pv 1) pa_nil)) pa_nil)) (blkOk_by (own := [("k", 2)]) (by kernel_rfl)) (fun _ _ _ _ _ => pg_name (i := 2) scMoved.nd rfl (Or.inl rfl))
   (fun _ _ _ _ _ => pts_one (pt_cmpR op_ne (pe_ix (ixl (K := K)) (pv 0) (pv 2) (fun _ _ => rfl)) (pe_ix (ixl (K := K)) (pv 1) (pv 2) (fun _ _ => rfl)) (nomark _))) (fun _ _ _ _ _ => pv 2)) pa_nil))), ?_⟩
  refine ⟨_, rfl, lenL hb ⟨_, rfl, by rw [nVs_len]; omega, by rw [nVs_len]; omega, ?_⟩⟩
  rw [nVs_len]
  intro D hD
  refine lc_rangeF (n := o.length) (fun k => st.getD k 0 != o.getD k 0) iV (by omega) hD ?_ ?_
  ·intro i H' K4 K3 hi s1 k4 k3
   refine ⟨rfl, ?_⟩
   refine ⟨_, rfl, _, rfl, ixL (s1 _ _ ha) (nVs_getD (by omega)) ⟨_, rfl, _, rfl, ixL (s1 _ _ hb) (nVs_getD hi) ⟨rfl, _, rfl, ?_⟩⟩⟩
   rw [iV_ne]
   exact ite2 (fun d => ⟨_, rfl, k4 d H' (Same.refl _)⟩) (fun d => k3 (Bool.eq_false_iff.mpr d) H' (Same.refl _))
  ·intro H' s1 h1
   refine lenL h1 ?_
   have k1 := k H' s1
   rw [<- countMoved_eq st o hl] at k1
   rw [List.length_map]
   exact k1
def LL (H : Hp) (l : Addr) (os : List (List Nat)) : Prop := ∃ as : List Addr, H l = some (.lst (as.map V.ref)) /\ Paired (fun (o : List Nat) a => H a = some (.lst (nVs o))) os as
theorem LL.same {H H' : Hp} {l : Addr} {os : List (List Nat)} (s : Same H H') (h : LL H l os) : LL H' l os := by
 obtain ⟨as, h1, h2⟩ := h
 exact ⟨as, s _ _ h1, Paired.mapP h2 fun _ _ q => s _ _ q⟩
def BestV (H : Hp) : Option (List Nat) -> V -> Prop
 | none, v => v = .non
 | some o, v => ∃ b, v = .ref b /\ H b = some (.lst (nVs o))
end
end
section
section
variable {P : Program} {w : World} {K : PySem.W.Frag} {mg : Str -> Option Value} {base : Heap} {C : Addr}
theorem paired_snoc {α β : Type} {F : α -> β -> Prop} : ∀ {l : List α} {m : List β} {a : α} {b : β}, Paired F l m -> F a b -> Paired F (l ++ [a]) (m ++ [b])
 | _, _, _, _, .nil, h => .cons h .nil
 | _, _, _, _, .cons q t, h => .cons q (paired_snoc t h)
theorem paired_map {α β : Type} {F G : α -> β -> Prop} : ∀ {l : List α} {m : List β}, Paired F l m -> (∀ a b, b ∈ m -> F a b -> G a b) -> Paired G l m
 | _, _, .nil, _ => .nil
 | _, _, .cons q t, h => .cons (h _ _ List.mem_cons_self q) (paired_map t fun a b hb => h a b (List.mem_cons_of_mem _ hb))
theorem LL.push {H : Hp} {lg : Addr} {os : List (List Nat)} (h : LL H lg os) : ∃ xs, H lg = some (.lst xs) /\ xs.length = os.length /\ ∀ t o, H t = some (.lst (nVs o)) -> t ≠ lg -> LL (upd H lg (.lst (xs ++ [.ref t]))) lg (os ++ [o]) := by
 obtain ⟨as, h1, h2⟩ := h
 refine ⟨_, h1, by rw [List.length_map]; exact (Paired.length h2).symm, fun t o ht hne => ⟨as ++ [t], by rw [upd_same, List.map_append]; rfl, paired_snoc (paired_map h2 fun o' a ha q => ?_) (by rw [upd_ne hne]; exact ht)⟩⟩
 have : a ≠ lg := fun z => by
  rw [z, h1] at q
  have e : as.map V.ref = nVs o' := by injection q with q; injection q
  cases as with
  | nil => cases ha
  | cons x as =>
   cases o' with
   | nil => cases e
   | cons y o' => cases e
 rw [upd_ne this]
 exact q
theorem inV_nVs (n : Nat) : ∀ l : List Nat, inV (iV n) (nVs l) = l.contains n
 | [] => rfl
 | x :: l => by
  have ih := inV_nVs n l
  unfold inV at ih ⊢
  show (eqV (iV x) (iV n) || (nVs l).any fun y => eqV y (iV n)) = _
  rw [ih, List.contains_cons]
  congr 1
  show ((x : Int) == (n : Int)) = (n == x)
  rw [Bool.eq_iff_iff]
  simp
  omega
theorem flat_nVs (l : List Nat) : (nVs l).all flatV = true := by
 rw [List.all_eq_true]
 intro x hx
 obtain ⟨n, _, rfl⟩ := List.mem_map.mp hx
 rfl
def spLonger : Sp := fun vs H Q _ => ∃ lo lr os l, vs = [.ref lo, .ref lr] /\ LL H lo os /\ H lr = some (.lst (nVs l)) /\ os.length * l.length <= 100000 /\ (∀ o ∈ os, o.length <= 100) /\ ∀ H' l2, Same H H' -> H l2 = none -> LL H' l2 (longer l os) -> Q (.ref l2) H'
theorem scLonger : FnScope ["orders", "rising", "longer", "order", "p"] ["orders", "rising"] (defScope (top 11)) := ⟨rfl, rfl, rfl, by decide +kernel, rfl, by decide +kernel, by decide +kernel⟩
theorem take_flat {α β : Type} {f : α -> List β} {l : List α} {i : Nat} {x : α} (h : l[i]? = some x) : (l.take (i + 1)).flatMap f = (l.take i).flatMap f ++ f x := by
 rw [List.take_add_one, h, List.flatMap_append]
 congr 1
 show [x].flatMap f = f x
 rw [List.flatMap_cons, List.flatMap_nil, List.append_nil]
theorem ok_longer {f : Addr} {fd : FuncData} (F : Fun K "longer_by_one" "longer_by_one" (top 11) f fd) : FnOk P w K mg base CX0 1 f fd ["orders", "rising"] spLonger := by
 refine F.ok scLonger (fun vs H Q E h => ?_) (fun cdv A outer s H vs Q E hr h => ?_)
 ·obtain ⟨lo, lr, os, l, rfl, _⟩ := h
  rfl
 ·obtain ⟨lo, lr, os, l, rfl, hll, hlr, hsz, hol, k⟩ := h
  refine ⟨_, pss_cons (ps_set (i := 2) scLonger.nd rfl (Or.inl rfl) (pe_lst pa_nil))
   (pss_cons (ps_for PassesOwn.never rfl (pi_list (pv 0)) (pg_name (i := 3) scLonger.nd rfl (Or.inl rfl))
    (pss_one (ps_for PassesOwn.never rfl (pi_list (pv 1)) (pg_name (i := 4) scLonger.nd rfl (Or.inl rfl))
     (pss_one (ps_if (pt_cmpR op_notIn_seq (pv 4) (pv 3) rfl)
      (pss_one (ps_expr (pe_bm PySem.F.plainAttrs_list PySem.F.slot_list_append PySem.F.type_list_append mt_append (pv 2) (pa_cons (pe_op op_cat (pv 3) (pe_lst (pa_cons (pv 4) pa_nil))) pa_nil)))) pss_nil)))))
   (pss_one (ps_ret (pv 2)))), ?_⟩
  refine ⟨Nat.zero_le _, fun lg hlg => ?_⟩
  have s0 : Same H (upd H lg (.lst [])) := Same.new hlg
  obtain ⟨as, a1, a2⟩ := hll
  have sz := sizeLine_eq
  refine ⟨_, rfl, lo, rfl, ⟨_, SqL.of (s0 _ _ a1)⟩, for_list (K := K) (a := lo) (xs := as.map V.ref) (fun i σ H' => ∃ v4 v5 : Option V, σ = [some (.ref lo), some (.ref lr), some (.ref lg), v4, v5] /\ Same H H' /\ LL H' lg (longer l (os.take i)))
   ⟨none, none, rfl, s0, [], upd_same, .nil⟩ (fun i σ H' _ ⟨_, _, _, q, _⟩ => SqL.of (q _ _ a1)) ?_ ?_⟩
  ·rintro i y σ H' hi ⟨v4, v5, rfl, s1, hL⟩
   rw [List.getElem?_map] at hi
   cases ea : as[i]? with
   | none => rw [ea] at hi; cases hi
   | some c =>
    rw [ea] at hi
    have ey : V.ref c = y := Option.some.inj hi
    subst ey
    have hil : i < os.length := by rw [Paired.length a2]; exact (List.getElem?_eq_some_iff.mp ea).1
    obtain ⟨c', ec', ho⟩ := paired_get a2 (List.getElem?_eq_getElem hil)
    have : c' = c := Option.some.inj (ec'.symm.trans ea)
    subst this
    have hol' := hol os[i] (List.getElem_mem hil)
    refine ⟨_, rfl, lr, rfl, ⟨_, SqL.of (s1 _ _ hlr)⟩, for_list (K := K) (a := lr) (xs := nVs l) (fun j σ H2 => ∃ v5 : Option V, σ = [some (.ref lo), some (.ref lr), some (.ref lg), some (.ref c'), v5] /\ Same H H2 /\
     LL H2 lg (longer l (os.take i) ++ ((l.take j).filter fun p => !(os[i].contains p)).map fun p => os[i] ++ [p])) ⟨v5, rfl, s1, by rw [List.take_zero]; show LL H' lg (_ ++ []); rw [List.append_nil]; exact hL⟩ (fun j σ H2 _ ⟨_, _, q, _⟩ => SqL.of (q _ _ hlr)) ?_ ?_⟩
    ·rintro j y σ H2 hj ⟨v5', rfl, s2, hL2⟩
     obtain ⟨n, hn, rfl⟩ := nVs_at hj
     have hjl : j < l.length := (List.getElem?_eq_some_iff.mp hn).1
     have st := filter_step (q := fun p => !(os[i].contains p)) hn
     refine ⟨_, rfl, _, rfl, c', nVs os[i], rfl, .inl (SqL.of (s2 _ _ ho)), rfl, flat_nVs _, _, rfl, ?_⟩
     rw [inV_nVs]
     refine ite2 (fun d => ?_) (fun d => ?_)
     ·have d : (!(os[i].contains n)) = true := d
      obtain ⟨xs, x1, x2, x3⟩ := hL2.push
      refine ⟨_, rfl, .inl ⟨rfl, _, SqL.of x1⟩, ?_⟩
      refine ⟨_, rfl, _, rfl, by show 1 <= sizeLine; omega, fun t1 ht1 => ?_⟩
      have s3 : Same H2 (upd H2 t1 (.lst [iV n])) := Same.new ht1
      refine ⟨c', t1, nVs os[i], [iV n], rfl, rfl, s3 _ _ (s2 _ _ ho), upd_same, by rw [nVs_len]; show os[i].length + 1 <= sizeLine; omega, fun t2 ht2 => ?_⟩
      have s4 : Same (upd H2 t1 (.lst [iV n])) (upd (upd H2 t1 (.lst [iV n])) t2 (.lst (nVs os[i] ++ [iV n]))) := Same.new ht2
      have s34 := s3.trans s4
      have hL4 := LL.same s34 hL2
      obtain ⟨xs', x1', x2', x3'⟩ := hL4.push
      have exs : xs' = xs := by
       have := x1'.symm.trans (s34 _ _ x1)
       injection this with this
       injection this
      subst exs
      have hlen : xs'.length < sizeLine := by
       rw [x2]
       have c1 := longer_count l (os.take i)
       have c2 := List.length_filter_le (fun p => !(os[i].contains p)) (l.take j)
       rw [List.length_append, List.length_map]
       rw [List.length_take] at c1 c2
       have c3 : min i os.length * l.length + l.length <= os.length * l.length := by
        have : min i os.length + 1 <= os.length := by omega
        calc min i os.length * l.length + l.length = (min i os.length + 1) * l.length := (Nat.succ_mul _ _).symm
         _ <= os.length * l.length := Nat.mul_le_mul_right _ this
       omega
      refine ⟨lg, xs', _, rfl, rfl, s34 _ _ x1, hlen, ?_⟩
      refine ⟨_, rfl, same_put (s2.trans s34) hlg, ?_⟩
      have key := x3' t2 (os[i] ++ [n]) (by rw [upd_same]; exact congrArg (fun z => some (HO.lst z)) (nVs_append _ [n]).symm) (fun z => by rw [z] at ht2; rw [s3 _ _ x1] at ht2; cases ht2)
      rw [st, if_pos d, List.map_append, <- List.append_assoc]
      exact key
     ·have d : ¬ (!(os[i].contains n)) = true := d
      refine ⟨_, rfl, s2, ?_⟩
      rw [st, if_neg d, List.append_nil]
      exact hL2
    ·rintro σ H2 ⟨v5', rfl, s2, hL2⟩
     refine ⟨_, _, rfl, s2, ?_⟩
     rw [nVs_len, List.take_of_length_le (Nat.le_refl _)] at hL2
     unfold longer at hL2 ⊢
     rw [take_flat (List.getElem?_eq_getElem hil)]
     exact hL2
  ·rintro σ H' ⟨v4, v5, rfl, s1, hL⟩
   refine ⟨_, rfl, k H' lg s1 hlg ?_⟩
   rw [List.length_map, <- Paired.length a2, List.take_of_length_le (Nat.le_refl _)] at hL
   exact hL
theorem sorted_ints {l : List Nat} {ns : List Int} (hp : ns.Perm (l.map fun (n : Nat) => (n : Int))) (hs : ns.Pairwise (· <= ·)) : ns = (Su57.sorted l).map fun (n : Nat) => (n : Int) := by
 obtain ⟨m, e⟩ := nats_of (l := ns) fun x hx => by
  obtain ⟨n, _, rfl⟩ := List.mem_map.mp (hp.mem_iff.mp hx)
  omega
 subst e
 have p1 : m.Perm l := by
  have := hp.map Int.toNat
  rw [back_nats, back_nats] at this
  exact this
 have p2 : m.Pairwise (· <= ·) := by
  rw [List.pairwise_map] at hs
  exact hs.imp fun h => by omega
 rw [sorted_unique p2 p1]
def spOrders : Sp := fun vs H Q _ => ∃ a l, vs = [.ref a] /\ H a = some (.lst (nVs l)) /\ l.length <= 6 /\ ∀ H' l2, Same H H' -> H l2 = none -> LL H' l2 (Su57.allOrders l) -> Q (.ref l2) H'
theorem scOrders : FnScope ["people", "rising", "orders", "place"] ["people"] (defScope (top 10)) := ⟨rfl, rfl, rfl, by decide +kernel, rfl, by decide +kernel, by decide +kernel⟩
theorem nVs_cast (l : List Nat) : nVs l = (l.map fun (n : Nat) => (n : Int)).map V.int := by
 unfold nVs
 rw [List.map_map]
 rfl
theorem pow_le6 {m n : Nat} (hm : m <= 6) (hn : n <= 6) : m ^ n <= 46656 := Nat.le_trans (Nat.pow_le_pow_left hm n) (Nat.le_trans (Nat.pow_le_pow_right (by decide) hn) (by decide))
theorem ok_orders {f : Addr} {fd : FuncData} (F : Fun K "orders_of" "orders_of" (top 10) f fd) (T : Tx K mg C) (Fl : Fn P w K mg base "longer_by_one" ["orders", "rising"] 1 spLonger) : FnOk P w K mg base CX0 2 f fd ["people"] spOrders := by
 refine F.ok scOrders (fun vs H Q E h => ?_) (fun cdv A outer s H vs Q E hr h => ?_)
 ·obtain ⟨a, l, rfl, _⟩ := h
  rfl
 ·obtain ⟨a, l, rfl, ha, h6, k⟩ := h
  refine ⟨_, pss_cons (ps_set (i := 1) scOrders.nd rfl (Or.inl rfl) (pe_callB cr_sorted (by rfl) T.sorted PyProof.Rows.boot_sorted (pa_cons (pv 0) pa_nil)))
   (pss_cons (ps_set (i := 2) scOrders.nd rfl (Or.inl rfl) (pe_lst (pa_cons (pe_lst pa_nil) pa_nil)))
   (pss_cons (ps_for PassesOwn.never rfl (pi_range1 rfl T.range (pa_cons (pe_callB call_len_seq (by rfl) T.len PySem.boot_len (pa_cons (pv 1) pa_nil)) pa_nil)) (pg_name (i := 3) scOrders.nd rfl (Or.inl rfl))
    (pss_one (ps_set (i := 2) scOrders.nd rfl (Or.inl rfl) (pe_fn Fl hr (by rfl) (pa_cons (pv 2) (pa_cons (pv 1) pa_nil))))))
   (pss_one (ps_ret (pv 2))))), ?_⟩
  have sz := sizeLine_eq
  refine ⟨_, rfl, a, l.map fun (n : Nat) => (n : Int), rfl, SqL.of (by rw [ha, nVs_cast]), by rw [List.length_map]; omega, fun ns' lr hp hs hlr => ?_⟩
  rw [sorted_ints hp hs, <- nVs_cast]
  have sl : (Su57.sorted l).length = l.length := (sorted_is l).2.length_eq
  have s1 : Same H (upd H lr (.lst (nVs (Su57.sorted l)))) := Same.new hlr
  refine ⟨Nat.zero_le _, fun l0 hl0 => ⟨by show 1 <= sizeLine; omega, fun lo hlo => ?_⟩⟩
  have s2 : Same (upd H lr (.lst (nVs (Su57.sorted l)))) (upd (upd H lr (.lst (nVs (Su57.sorted l)))) l0 (.lst [])) := Same.new hl0
  have s3 := Same.new (o := HO.lst [V.ref l0]) hlo
  have s123 := (s1.trans s2).trans s3
  have hr3 := s3 _ _ (s2 _ _ (upd_same (H := H) (a := lr) (o := .lst (nVs (Su57.sorted l)))))
  refine ⟨_, rfl, lenL hr3 ⟨_, rfl, by rw [nVs_len]; omega, by rw [nVs_len]; omega, ?_⟩⟩
  rw [nVs_len]
  refine for_range (n := (Su57.sorted l).length) (fun i σ H' => ∃ (lo' : Addr) (v : Option V), σ = [some (.ref a), some (.ref lr), some (.ref lo'), v] /\ Same H H' /\ H' lr = some (.lst (nVs (Su57.sorted l))) /\ H lo' = none /\ LL H' lo' (levels (Su57.sorted l) i [[]]))
   ⟨lo, none, rfl, s123, hr3, (s1.trans s2).free hlo, [l0], upd_same, .cons (s3 _ _ upd_same) .nil⟩ ?_ ?_
  ·rintro i σ H' hi ⟨lo', v, rfl, t1, t2, t3, t4⟩
   have cnt := levels_count (Su57.sorted l) i [[]]
   have cl : ([[]] : List (List Nat)).length = 1 := rfl
   rw [cl, Nat.one_mul] at cnt
   refine ⟨_, rfl, _, rfl, lo', lr, _, _, rfl, t4, t2, ?_, fun o ho => ?_, fun H2 l2 u1 u2 u3 => ?_⟩
   ·have p1 := pow_le6 (m := (Su57.sorted l).length) (n := i + 1) (by omega) (by omega)
    rw [Nat.pow_succ] at p1
    have := Nat.mul_le_mul_right (Su57.sorted l).length cnt
    omega
   ·have := levels_len i 0 [[]] (fun o ho => by have e : o = [] := (by simpa using ho); rw [e]; rfl) o ho
    omega
   ·refine ⟨l2, _, rfl, t1.trans u1, u1 _ _ t2, t1.free u2, ?_⟩
    rw [levels_succ]
    exact u3
  ·rintro σ H' ⟨lo', v, rfl, t1, t2, t3, t4⟩
   refine ⟨_, rfl, k H' lo' t1 t3 ?_⟩
   rw [<- ordersOf_eq]
   exact t4
end
end
section
section
variable {P : Program} {w : World} {K : PySem.W.Frag} {mg : Str -> Option Value} {base : Heap} {C : Addr}
def headsOf (g : G) (ss o : List Nat) : List Nat := (List.range o.length).map fun k => ss.getD k 0 + g.height (o.getD k 0)
def clearB (g : G) (hs : List Nat) : Bool := (List.range hs.length).all fun j => (List.range j).all fun i => !decide (hs.getD j 0 < hs.getD i 0 + g.face)
theorem clearB_true {g : G} {hs : List Nat} (h : ∀ j, j < hs.length -> ∀ i, i < j -> ¬ hs.getD j 0 < hs.getD i 0 + g.face) : clearB g hs = true := by
 unfold clearB
 rw [List.all_eq_true]
 intro j hj
 rw [List.all_eq_true]
 intro i hi
 rw [decide_eq_false (h j (List.mem_range.mp hj) i (List.mem_range.mp hi))]
 rfl
theorem clearB_false {g : G} {hs : List Nat} {j i : Nat} (hj : j < hs.length) (hi : i < j) (h : hs.getD j 0 < hs.getD i 0 + g.face) : clearB g hs = false := by
 rw [Bool.eq_false_iff]
 intro e
 unfold clearB at e
 have := List.all_eq_true.mp (List.all_eq_true.mp e j (List.mem_range.mpr hj)) i (List.mem_range.mpr hi)
 rw [decide_eq_true h] at this
 cases this
def spWould (C : Addr) : Sp := fun vs H Q _ => ∃ p A b g a c o ss, vs = [.ref p, .ref a, .ref c] /\ GAt C H p A b g /\ H a = some (.lst (nVs o)) /\ H c = some (.lst (nVs ss)) /\ ss.length = o.length /\ o.length <= 100 /\ (∀ x ∈ o, x < g.heights.length) /\
 ∀ H', Same H H' -> Q (.bl (clearB g (headsOf g ss o))) H'
theorem scWould : FnScope ["self", "order", "steps", "heads", "k", "back", "front"] ["self", "order", "steps"] (defScope (cls 29)) := ⟨rfl, rfl, rfl, by decide +kernel, rfl, by decide +kernel, by decide +kernel⟩
theorem getD_mem {l : List Nat} {i : Nat} (h : i < l.length) : l.getD i 0 ∈ l := by
 rw [List.getD_eq_getElem?_getD, List.getElem?_eq_getElem h]
 exact List.getElem_mem h
theorem ok_would {f : Addr} {fd : FuncData} (F : Fun K "would_be_seen" "Group.would_be_seen" (cls 29) f fd) (T : Tx K mg C) (Fh : Fn P w K mg base "comes_too_high" ["front_head", "face", "back_head"] 1 spHigh) : FnOk P w K mg base CX0 2 f fd ["self", "order", "steps"] (spWould C) := by
 refine F.ok scWould (fun vs H Q E h => ?_) (fun cdv A outer s H vs Q E hr h => ?_)
 ·obtain ⟨p, A, b, g, a, c, o, ss, rfl, _⟩ := h
  rfl
 ·obtain ⟨p, A', b, g, a, c, o, ss, rfl, B, ha, hc, hl, h100, hm, k⟩ := h
  refine ⟨_, pss_cons (ps_setLc (i := 3) rfl scWould.nd rfl rfl (sw_true rfl rfl rfl (by decide +kernel)) (pi_range1 rfl T.range (pa_cons (pe_callB call_len_seq (by rfl) T.len PySem.boot_len (pa_cons (pv 1) pa_nil)) pa_nil)) (blkOk_by (own := [("k", 4)]) (by kernel_rfl))
    (fun _ _ _ _ _ => pg_name (i := 4) scWould.nd rfl (Or.inl rfl)) (fun _ _ _ _ _ => pts_nil) (fun _ _ _ _ _ => pe_op op_add (pe_ix (ixl (K := K)) (pv 2) (pv 4) (fun _ _ => rfl)) (pe_ix (ixl (K := K)) (pfld (K := K) (pv 0)) (pe_ix (ixl (K := K)) (pv 1) (pv 4) (fun _ _ => rfl)) (fun _ _ => rfl))))
   (pss_cons (ps_for PassesOwn.never rfl (pi_range1 rfl T.range (pa_cons (pe_callB call_len_seq (by rfl) T.len PySem.boot_len (pa_cons (pv 3) pa_nil)) pa_nil)) (pg_name (i := 5) scWould.nd rfl (Or.inl rfl))
    (pss_one (ps_for PassesOwn.never rfl (pi_range1 rfl T.range (pa_cons (pv 5) pa_nil)) (pg_name (i := 6) scWould.nd rfl (Or.inl rfl))
     (pss_one (ps_if (pt_val (pe_fn Fh hr (by rfl) (pa_cons (pe_ix ix_list (pv 3) (pv 6) (fun _ _ => rfl)) (pa_cons (pe_fld (pv 0) rfl) (pa_cons (pe_ix ix_list (pv 3) (pv 5) (fun _ _ => rfl)) pa_nil))))) (pss_one (ps_ret pe_bl)) pss_nil)))))
   (pss_one (ps_ret pe_bl))), ?_⟩
  refine ⟨_, rfl, lenL ha ⟨_, rfl, by rw [nVs_len]; omega, by rw [nVs_len]; omega, ?_⟩⟩
  rw [nVs_len]
  intro D hD
  refine lc_rangeF (n := o.length) (fun _ => true) (fun k => iV (ss.getD k 0 + g.height (o.getD k 0))) (by omega) hD ?_ ?_
  ·intro i H' K4 K3 hi s1 k4 _
   have B1 := B.same s1
   refine ⟨rfl, ?_⟩
   exact ⟨_, rfl, _, rfl, ixL (s1 _ _ hc) (nVs_getD (by omega)) ⟨_, rfl, fH T B1 ⟨_, rfl, _, rfl, ixL (s1 _ _ ha) (nVs_getD hi) (ixL B1.ht (get_height (hm _ (getD_mem hi))) ⟨_, _, rfl, rfl, k4 rfl H' (Same.refl _)⟩)⟩⟩⟩
  ·intro H1 s1 h1
   have e1 : ((List.range o.length).filter fun _ => true).map (fun k => iV (ss.getD k 0 + g.height (o.getD k 0))) = nVs (headsOf g ss o) := by
    rw [List.filter_eq_self.mpr (fun _ _ => rfl)]
    unfold nVs headsOf
    rw [List.map_map]
    rfl
   rw [e1] at h1
   have hhl : (headsOf g ss o).length = o.length := by unfold headsOf; rw [List.length_map, List.length_range]
   have B1 := B.same s1
   refine ⟨_, rfl, lenL h1 ⟨_, rfl, by rw [nVs_len, hhl]; omega, by rw [nVs_len, hhl]; omega, ?_⟩⟩
   rw [nVs_len]
   refine for_range (n := (headsOf g ss o).length) (fun i σ H' => ∃ v5 v6 : Option V, H' = H1 /\ σ = [some (.ref p), some (.ref a), some (.ref c), some (.ref D), none, v5, v6] /\ ∀ j, j < i -> ∀ m, m < j -> ¬ (headsOf g ss o).getD j 0 < (headsOf g ss o).getD m 0 + g.face)
    ⟨none, none, rfl, rfl, fun j hj => absurd hj (Nat.not_lt_zero j)⟩ ?_ ?_
   ·rintro i σ H' hi ⟨v5, v6, rfl, rfl, h0⟩
    refine ⟨_, rfl, _, rfl, by omega, by omega, ?_⟩
    have ei : ((0 : Int) + (i : Int)).toNat = i := by omega
    rw [ei]
    refine for_range (n := i) (fun m σ H2 => ∃ v6 : Option V, H2 = H' /\ σ = [some (.ref p), some (.ref a), some (.ref c), some (.ref D), none, some (.int (0 + (i : Int))), v6] /\ ∀ m', m' < m -> ¬ (headsOf g ss o).getD i 0 < (headsOf g ss o).getD m' 0 + g.face)
     ⟨v6, rfl, rfl, fun j hj => absurd hj (Nat.not_lt_zero j)⟩ ?_ ?_
    ·rintro m σ H2 hmi ⟨v6', rfl, rfl, h2⟩
     rw [Int.zero_add, Int.zero_add]
     refine ⟨_, rfl, _, rfl, ixL h1 (nVs_getD (by omega)) ⟨_, rfl, fF T B1 ⟨_, rfl, _, rfl, ixL h1 (nVs_getD hi) ⟨_, _, _, rfl, _, rfl, ?_⟩⟩⟩⟩
     refine ite2 (fun d => ?_) (fun d => ?_)
     ·have k1 := k H2 s1
      rw [clearB_false hi hmi (of_decide_eq_true d)] at k1
      exact k1
     ·refine ⟨_, rfl, rfl, fun m' hm' => ?_⟩
      by_cases hmm : m' = m
      ·rw [hmm]
       exact fun z => d (decide_eq_true z)
      ·exact h2 m' (by omega)
    ·rintro σ H2 ⟨v6', rfl, rfl, h2⟩
     refine ⟨_, _, rfl, rfl, fun j hj => ?_⟩
     by_cases hji : j = i
     ·rw [hji]
      exact h2
     ·exact h0 j (by omega)
   ·rintro σ H' ⟨v5, v6, rfl, rfl, h0⟩
    have k1 := k H' s1
    rw [clearB_true h0] at k1
    exact k1
end
end
section
structure FunC (K : PySem.W.Frag) (x qual : Str) (st : Stmt) (f : Addr) (fd : FuncData) (c T : Addr) : Prop where
 ex : ∃ (oc : Value) (od : Option Addr) (kV doc pm : Value) (an : Option Addr) (ct : Value) (osl : Array (Option Value)),
  fd = PySem.W.fnOf x qual (defArgs st) (defBody st) (defScope st) .none kV doc pm an (.ref c) ct /\ K.lookup f = some ⟨oc, od, .func fd, osl⟩ /\ PySem.W.codeIn K (.ref c) qual = true
 kp : PySem.W.keepIn K (.ref f) = true
 hd : PySem.W.codeHdIn K c T = true
section
variable {P : Program} {w : World} {K : PySem.W.Frag} {mg : Str -> Option Value} {base : Heap} {C : Addr}
theorem FunC.is {x qual : Str} {st : Stmt} {f : Addr} {fd : FuncData} {c T : Addr} (F : FunC K x qual st f fd c T) : Fun K x qual st f fd := by
 obtain ⟨oc, od, kV, doc, pm, an, ct, osl, e, lk, hcd⟩ := F.ex
 exact ⟨⟨oc, od, kV, doc, pm, an, _, ct, osl, e, lk, hcd⟩, F.kp⟩
theorem FunC.ok {x qual : Str} {st : Stmt} {f : Addr} {fd : FuncData} {c T : Addr} {N ps : List Str} {k : Nat} {sp : Sp} (F : FunC K x qual st f fd c T) (S : FnScope N ps (defScope st)) (len : ∀ vs H Q E, sp vs H Q E -> vs.length = ps.length)
  (hbody : ∀ (A : Around) (outer : List Env) (s : Shared) (H : Hp) (vs : List V) (Q : VK) (E : XK), Room k (A.deeper (envOfC qual (defScope st) s.heap.objs.size f (.ref c))) -> sp vs H Q E ->
   ∃ t, PSs (cxOf CX0 P w K mg base N qual (defScope st) f (.ref c) A outer s H E).nox (defBody st) t /\ t { nx := fun _ H' => Q .non H', rt := Q } (start N vs) H) : FnOk P w K mg base CX0 (k + 1) f fd ps sp := by
 obtain ⟨oc, od, kV, doc, pm, an, ct, osl, rfl, lk, hcd⟩ := F.ex
 refine fn_of lk hcd S len fun A outer s H vs Q E hr hsp => ?_
 obtain ⟨t, h, q⟩ := hbody A outer s H vs Q E hr hsp
 exact ⟨t, h.nox, q⟩
def spFewest : Sp := fun vs H Q _ => ∃ a l st os, vs = [.ref a, .ref l] /\ Tb H /\ H a = some (.lst (nVs st)) /\ LL H l os /\ st.length <= 100 /\ (∀ o ∈ os, o.length = st.length) /\ ∀ H' v, KeepT H H' -> Tb H' -> BestV H' (leastF (Su57.moved st) os) v -> Q v H'
theorem scFewest : FnScope ["standing", "orders"] ["standing", "orders"] (defScope (top 13)) := ⟨rfl, rfl, rfl, by decide +kernel, rfl, by decide +kernel, by decide +kernel⟩
theorem KeepO.tb1 {H H' : Hp} (h : Tb H) (k : KeepO tb1 H H') (t : TbAt H' tb1 lp1 lq1) : KeepT H H' /\ Tb H' := by
 refine ⟨fun a o e n => k a o e fun z => n (.inl z), t, ?_⟩
 obtain ⟨ps, h1, h2, h3⟩ := h.b
 obtain ⟨qs, g1, _⟩ := h.a
 exact ⟨ps, k _ _ h1 (Ne.symm tb_ne), h2, h3.imp id fun ⟨c, e1, e2⟩ => ⟨c, e1, k _ _ e2 (ne_of e2 g1 (by intro z; cases z))⟩⟩
theorem KeepO.tb2 {H H' : Hp} (h : Tb H) (k : KeepO tb2 H H') (t : TbAt H' tb2 lp2 lq2) : KeepT H H' /\ Tb H' := by
 refine ⟨fun a o e n => k a o e fun z => n (.inr z), ?_, t⟩
 obtain ⟨ps, h1, h2, h3⟩ := h.a
 obtain ⟨qs, g1, _⟩ := h.b
 exact ⟨ps, k _ _ h1 tb_ne, h2, h3.imp id fun ⟨c, e1, e2⟩ => ⟨c, e1, k _ _ e2 (ne_of e2 g1 (by intro z; cases z))⟩⟩
theorem LL.keepT {H H' : Hp} {l : Addr} {os : List (List Nat)} (t : Tb H) (k : KeepT H H') (h : LL H l os) : LL H' l os := by
 obtain ⟨as, h1, h2⟩ := h
 exact ⟨as, k _ _ h1 (t.no h1 (by intro ps z; cases z)), Paired.mapP h2 fun o a q => k _ _ q (t.no q (by intro ps z; cases z))⟩
theorem ints_getD (os : List (List Nat)) (f : List Nat -> Nat) (i : Nat) (o : List Nat) (h : os[i]? = some o) : (os.map fun o => (f o : Int)).getD i 0 = (f o : Int) := by
 rw [List.getD_eq_getElem?_getD, List.getElem?_map, h]
 rfl
theorem ok_fewest {f : Addr} {fd : FuncData} {c : Addr} (F : FunC K "fewest_moved" "fewest_moved" (top 13) f fd c tb1) (T : Tx K mg C) (hB : BM mg base) (Fm : Fn P w K mg base "count_moved" ["standing", "order"] 1 spMoved) : FnOk P w K mg base CX0 4 f fd ["standing", "orders"] spFewest := by
 refine F.ok scFewest (fun vs H Q E h => ?_) (fun A outer s H vs Q E hr h => ?_)
 ·obtain ⟨a, l, st, os, rfl, _⟩ := h
  rfl
 ·obtain ⟨a, l, st, os, rfl, hT, ha, hll, h100, hlen, k⟩ := h
  refine ⟨_, pss_one (ps_ret (pe_minK (by rfl) T.min hr.hd (pv 1) (pe_lambda (clos := [("standing", s.heap.objs.size + 1)]) rfl F.hd hB (by rfl) (by rfl)) pe_non)), ?_⟩
  refine ⟨_, rfl, hT.a, fun H1 q k1 t1 nq hL => ?_⟩
  obtain ⟨kT, T1⟩ := KeepO.tb1 hT k1 t1
  obtain ⟨as, h1, h2⟩ := hll.keepT hT kT
  have ha1 : H1 a = some (.lst (nVs st)) := kT _ _ ha (hT.no ha (by intro ps z; cases z))
  refine ⟨l, q, as, os.map fun o => (Su57.moved st o : Int), rfl, rfl, h1, by rw [List.length_map]; exact Paired.length h2, ?_, fun e => ?_, fun i b H' e hb sm => ?_⟩
  ·intro i b pins' H' s' hi I' sm
   have hil : i < os.length := by rw [Paired.length h2]; exact (List.getElem?_eq_some_iff.mp hi).1
   obtain ⟨b', eb', ho⟩ := paired_get h2 (List.getElem?_eq_getElem hil)
   have eb : b' = b := Option.some.inj (eb'.symm.trans hi)
   subst eb
   have hol : os[i].length = st.length := hlen _ (List.getElem_mem hil)
   rw [ints_getD os _ i _ (List.getElem?_eq_getElem hil)]
   refine lam_turn (k := 1) (x := "order") (fs := ["standing"]) (ws := [.ref a]) (v := .ref b') I' (hL.same sm) ⟨rfl, rfl, rfl, by decide +kernel, by decide +kernel, by decide +kernel⟩ hr rfl ?_ ?_ ?_ rfl (fun _ _ _ => rfl) (fun c hr' => ?_)
   ·intro y d hd
    rw [List.lookup_cons] at hd
    cases q : (y == ("standing" : Str)) with
    | false => rw [q] at hd; cases hd
    | true =>
     rw [q] at hd
     cases hd
     rw [eq_of_beq q]
     rfl
   ·intro y hy
    have hm := PySem.mem_of_lookup hy
    rcases List.mem_cons.mp hm with e | hm
    ·cases e
    ·rcases List.mem_cons.mp hm with e | hm
     ·cases e
      exact ⟨_, rfl⟩
     ·rcases List.mem_cons.mp hm with e | hm
      ·cases e
      ·cases hm
   ·intro j y z h1 h2
    match j, h1, h2 with
    | 0, h1, h2 =>
     cases h1
     cases h2
     exact ⟨0, rfl, rfl, rfl⟩
   ·refine ⟨_, pe_fn Fm hr' (by rfl) (pa_cons (pv 1) (pa_cons (pv 0) pa_nil)), ?_⟩
    exact ⟨_, rfl, _, rfl, a, b', st, os[i], rfl, sm _ _ ha1, sm _ _ ho, hol, by omega, fun H2 s2 => ⟨rfl, s2⟩⟩
  ·subst e
   have : os = [] := by
    cases os with
    | nil => rfl
    | cons o os => cases h2
   subst this
   exact k H1 .non kT T1 rfl
  ·have hil : i < os.length := by rw [Paired.length h2]; exact (List.getElem?_eq_some_iff.mp e).1
   obtain ⟨b', eb', ho⟩ := paired_get h2 (List.getElem?_eq_getElem hil)
   have eb : b' = b := Option.some.inj (eb'.symm.trans e)
   subst eb
   refine k H' _ (kT.trans (Sr.Same.keepT sm)) (T1.same sm) ?_
   rw [leastF_best (List.getElem?_eq_getElem hil) fun j r hj => ?_]
   ·exact ⟨b', rfl, sm _ _ ho⟩
   ·have hjl : j < os.length := (List.getElem?_eq_some_iff.mp hj).1
    have := hb j (by rw [List.length_map]; exact hjl)
    rw [ints_getD os _ i _ (List.getElem?_eq_getElem hil), ints_getD os _ j _ hj] at this
    exact ⟨by omega, fun z => by have := this.2 z; omega⟩
end
end
section
section
variable {P : Program} {w : World} {K : PySem.W.Frag} {mg : Str -> Option Value} {base : Heap} {C : Addr}
theorem LL.zip {H : Hp} {l : Addr} {os : List (List Nat)} (h : LL H l os) : ∃ zs : List (List Nat × Addr), H l = some (.lst (zs.map fun z => V.ref z.2)) /\ os = zs.map (·.1) /\ ∀ z ∈ zs, H z.2 = some (.lst (nVs z.1)) := by
 obtain ⟨as, h1, h2⟩ := h
 have key : ∀ {os : List (List Nat)} {as : List Addr}, Paired (fun (o : List Nat) a => H a = some (.lst (nVs o))) os as -> ∃ zs : List (List Nat × Addr), as = zs.map (·.2) /\ os = zs.map (·.1) /\ ∀ z ∈ zs, H z.2 = some (.lst (nVs z.1)) := by
  intro os as p
  induction p with
  | nil => exact ⟨[], rfl, rfl, fun _ h => by cases h⟩
  | @cons o a os as q t ih =>
   obtain ⟨zs, e1, e2, e3⟩ := ih
   refine ⟨(o, a) :: zs, by rw [e1]; rfl, by rw [e2]; rfl, fun z hz => ?_⟩
   rcases List.mem_cons.mp hz with rfl | hz
   ·exact q
   ·exact e3 z hz
 obtain ⟨zs, e1, e2, e3⟩ := key h2
 refine ⟨zs, ?_, e2, e3⟩
 rw [h1, e1, List.map_map]
 rfl
theorem LL.of_zip {H : Hp} {l : Addr} {zs : List (List Nat × Addr)} (h1 : H l = some (.lst (zs.map fun z => V.ref z.2))) (h2 : ∀ z ∈ zs, H z.2 = some (.lst (nVs z.1))) : LL H l (zs.map (·.1)) := by
 refine ⟨zs.map (·.2), by rw [h1, List.map_map]; rfl, ?_⟩
 induction zs with
 | nil => exact .nil
 | cons z zs ih => exact .cons (h2 z List.mem_cons_self) (by
   have : ∀ zs : List (List Nat × Addr), (∀ z ∈ zs, H z.2 = some (.lst (nVs z.1))) -> Paired (fun (o : List Nat) a => H a = some (.lst (nVs o))) (zs.map (·.1)) (zs.map (·.2)) := by
    intro zs
    induction zs with
    | nil => intro _; exact .nil
    | cons y ys ihy => intro hy; exact .cons (hy y List.mem_cons_self) (ihy fun z hz => hy z (List.mem_cons_of_mem _ hz))
   exact this zs fun y hy => h2 y (List.mem_cons_of_mem _ hy))
def stepsOf (g : G) (st : List Nat) : List Nat := st.map fun p => g.step (g.row p)
def spSeenOrder (C : Addr) : Sp := fun vs H Q _ => ∃ p A b g a st, vs = [.ref p, .ref a] /\ GAt C H p A b g /\ WFG g /\ H a = some (.lst (nVs st)) /\ (∀ x ∈ st, (g.spot x).isSome = true) /\ st.length <= 6 /\
 ∀ H' v, KeepT H H' -> Tb H' -> BestV H' (leastF (Su57.moved st) ((Su57.allOrders st).filter fun o => clearB g (headsOf g (stepsOf g st) o))) v -> Q v H'
theorem scSeenOrder : FnScope ["self", "standing", "steps", "orders", "p", "order"] ["self", "standing"] (defScope (cls 28)) := ⟨rfl, rfl, rfl, by decide +kernel, rfl, by decide +kernel, by decide +kernel⟩
theorem allOrders_len {l o : List Nat} (h : o ∈ Su57.allOrders l) : o.length = l.length := orders_len _ _ _ h
theorem allOrders_mem {l o : List Nat} (h : o ∈ Su57.allOrders l) {x : Nat} (hx : x ∈ o) : x ∈ l := (sorted_is l).2.mem_iff.mp (orders_sub _ _ _ h x hx)
theorem allOrders_count (l : List Nat) (h : l.length <= 6) : (Su57.allOrders l).length <= 46656 := by
 rw [<- ordersOf_eq]
 unfold ordersOf
 have := levels_count (Su57.sorted l) (Su57.sorted l).length [[]]
 have sl : (Su57.sorted l).length = l.length := (sorted_is l).2.length_eq
 have p := pow_le6 (m := (Su57.sorted l).length) (n := (Su57.sorted l).length) (by omega) (by omega)
 have cl : ([[]] : List (List Nat)).length = 1 := rfl
 rw [cl, Nat.one_mul] at this
 omega
theorem ok_seenOrder {f : Addr} {fd : FuncData} (F : Fun K "seen_order" "Group.seen_order" (cls 28) f fd) (T : Tx K mg C) (Fo : Fn P w K mg base "orders_of" ["people"] 2 spOrders) (Mw : Mt P w K mg base C "would_be_seen" ["self", "order", "steps"] 2 (spWould C)) (Ff : Fn P w K mg base "fewest_moved" ["standing", "orders"] 4 spFewest) :
  FnOk P w K mg base CX0 5 f fd ["self", "standing"] (spSeenOrder C) := by
 refine F.ok scSeenOrder (fun vs H Q E h => ?_) (fun cdv A outer s H vs Q E hr h => ?_)
 ·obtain ⟨p, A, b, g, a, st, rfl, _⟩ := h
  rfl
 ·obtain ⟨p, A', b, g, a, st, rfl, B, W, ha, hpl, h6, k⟩ := h
  refine ⟨_, pss_cons (ps_set (i := 2) scSeenOrder.nd rfl (Or.inr rfl) (pe_lc rfl scSeenOrder.nd (pi_list (pv 1)) (blkOk_by (own := [("p", 4)]) (by kernel_rfl)) (fun _ _ _ _ _ => pg_name (i := 4) scSeenOrder.nd rfl (Or.inl rfl)) (fun _ _ _ _ _ => pts_nil)
    (fun _ _ _ _ _ => pe_ix (ixl (K := K)) (pfld (K := K) (pv 0)) (pe_ix (ixt (K := K)) (pe_ix (ixl (K := K)) (pfld (K := K) (pv 0)) (pv 4) (fun _ _ => rfl)) pe_int (fun _ _ => rfl)) (fun _ _ => rfl))))
   (pss_cons (ps_setLc (i := 3) rfl scSeenOrder.nd rfl rfl (sw_true rfl rfl rfl (by decide +kernel)) (pi_list (pe_fn Fo hr (by rfl) (pa_cons (pv 1) pa_nil))) (blkOk_by (own := [("order", 5)]) (by kernel_rfl)) (fun _ _ _ _ _ => pg_name (i := 5) scSeenOrder.nd rfl (Or.inl rfl))
    (fun _ _ _ _ _ => pts_one (pt_val (pe_mt Mw T.cl hr (pv 0) (pa_cons (pv 5) (pa_cons (pv 2) pa_nil))))) (fun _ _ _ _ _ => pv 5))
   (pss_one (ps_ret (pe_fn Ff hr (by rfl) (pa_cons (pv 1) (pa_cons (pv 3) pa_nil)))))), ?_⟩
  refine ⟨_, rfl, a, rfl, ⟨_, SqL.of ha⟩, fun D hD => ?_⟩
  refine lc_listF st iV (SqL.of ha) (fun _ => true) (fun x => iV (g.step (g.row x))) (by omega) hD ?_ ?_
  ·intro x H' K4 K3 hx s1 k4 _
   have B1 := B.same s1
   obtain ⟨⟨r, c⟩, e⟩ := Option.isSome_iff_exists.mp (hpl x hx)
   obtain ⟨vs, t, h1, h2, h3⟩ := B1.row e
   have er := (spot_row e).1
   rw [er] at k4
   refine ⟨rfl, ?_⟩
   exact ⟨_, rfl, fS T B1 ⟨_, rfl, fP T B1 ⟨_, rfl, ixL h1 h2 (ixT (n := 0) h3 rfl (ixL B1.st (get_step (W.inb x r c e).1) (k4 rfl H' (Same.refl _))))⟩⟩⟩
  ·intro H1 s1 h1
   have e1 : (st.filter fun _ => true).map (fun x => iV (g.step (g.row x))) = nVs (stepsOf g st) := by
    rw [List.filter_eq_self.mpr (fun _ _ => rfl)]
    unfold nVs stepsOf
    rw [List.map_map]
    rfl
   rw [e1] at h1
   refine ⟨_, rfl, a, st, rfl, s1 _ _ ha, h6, fun H2 l2 s2 hl2 hL => ?_⟩
   obtain ⟨zs, z1, z2, z3⟩ := hL.zip
   have s12 := s1.trans s2
   refine ⟨l2, rfl, ⟨_, SqL.of z1⟩, fun D2 hD2 => ?_⟩
   refine lc_listF zs (fun z => V.ref z.2) (SqL.of z1) (fun z => clearB g (headsOf g (stepsOf g st) z.1)) (fun z => V.ref z.2) ?_ hD2 ?_ ?_
   ·have := allOrders_count st h6
    rw [z2, List.length_map] at this
    omega
   ·intro z H3 K4 K3 hz s3 k4 k3
    have hzo : z.1 ∈ Su57.allOrders st := by rw [z2]; exact List.mem_map_of_mem hz
    have hzl := allOrders_len hzo
    have B3 := B.same (s12.trans s3)
    refine ⟨rfl, ?_⟩
    refine ⟨_, rfl, mG B3 (by decide +kernel) ⟨_, rfl, _, rfl, p, A', b, g, z.2, D, z.1, stepsOf g st, rfl, B3, s3 _ _ (z3 z hz), s3 _ _ (s2 _ _ h1), ?_, by omega, fun x hx => ?_, fun H4 s4 => ⟨_, rfl, ?_⟩⟩⟩
    ·unfold stepsOf
     rw [List.length_map, hzl]
    ·obtain ⟨y, e⟩ := Option.isSome_iff_exists.mp (hpl x (allOrders_mem hzo hx))
     rw [<- W.slen]
     exact spot_lt e
    ·exact ite2 (fun d => ⟨_, rfl, k4 d H4 s4⟩) (fun d => k3 (Bool.eq_false_iff.mpr d) H4 s4)
   ·intro H3 s3 h3
    have hLL := LL.of_zip h3 fun z hz => s3 _ _ (z3 z (List.mem_filter.mp hz).1)
    have sA := s12.trans s3
    refine ⟨_, rfl, _, rfl, a, D2, st, (Su57.allOrders st).filter fun o => clearB g (headsOf g (stepsOf g st) o), rfl, B.tb.same sA, sA _ _ ha, ?_, by omega, fun o ho => allOrders_len (List.mem_filter.mp ho).1, fun H' v kT tT hb => k H' v ((Sr.Same.keepT sA).trans kT) tT hb⟩
    rw [z2, List.filter_map]
    exact hLL
end
end
section
section
variable {κ : Type} [DecidableEq κ]
theorem erase_map {α β : Type} (f : α -> β) : ∀ (l : List α) (j : Nat), (l.map f).eraseIdx j = (l.eraseIdx j).map f
 | [], _ => rfl
 | _ :: _, 0 => rfl
 | x :: l, j + 1 => congrArg (List.cons (f x)) (erase_map f l j)
def withoutH (xs : List (κ × Addr × Value)) (k : κ) : List (κ × Addr × Value) := xs.filter fun x => decide (x.1 ≠ k)
theorem withoutH_erase : ∀ {xs : List (κ × Addr × Value)} {j : Nat} {k : κ} {p : Addr × Value}, (xs.map (·.1)).Nodup -> xs[j]? = some (k, p) -> withoutH xs k = xs.eraseIdx j
 | [], j, k, p, _, h => by simp at h
 | x :: xs, j, k, p, hn, h => by
  obtain ⟨h1, h2⟩ := List.nodup_cons.mp (show (x.1 :: xs.map (·.1)).Nodup from hn)
  unfold withoutH
  rw [List.filter_cons]
  cases j with
  | zero =>
   have e : x = (k, p) := Option.some.inj h
   subst e
   rw [if_neg (by simp)]
   rw [List.eraseIdx_cons_zero]
   refine List.filter_eq_self.mpr fun y hy => ?_
   have : ¬ y.1 = k := fun e => h1 (by rw [<- e]; exact List.mem_map.mpr ⟨y, hy, rfl⟩)
   simpa using this
  | succ j =>
   have h' : xs[j]? = some (k, p) := by simpa using h
   have : ¬ x.1 = k := fun e => h1 (by rw [e]; exact List.mem_map.mpr ⟨(k, p), List.mem_of_getElem? h', rfl⟩)
   rw [if_pos (by simpa using this), List.eraseIdx_cons_succ]
   have ih := withoutH_erase h2 h'
   unfold withoutH at ih
   rw [ih]
end
section
variable {prog : Program} {w : World} {κ : Type} [DecidableEq κ] {knd : HeapKind prog w κ} {A : Around} {E : Value -> Shared -> Prop} {s : Shared}
theorem takeOut_heap {d a : Addr} {xs : List (κ × Addr × Value)} {k : κ} {p : Addr × Value} {Q : Option DictEntry -> Shared -> Prop} (hu : knd.room A) (hkey : knd.is s.heap k a) (hm : s.heap.DictOfH knd d xs) (hp : atKey xs k = some p)
  (hQ : ∀ h' e, e.val = p.2 -> h'.DictOfH knd d (withoutH xs k) -> Heap.SameBut d s.heap h' -> Q (some e) { s with heap := h', toks := s.toks + knd.draws k }) (hsz : xs.length <= sizeLine) :
  wpAny (model prog w) A (Builtin.Dict.takeOut d (.ref a)) Q E s := by
 obtain ⟨o, es, ep, ho, hc, hd, he, his, hn⟩ := hm
 unfold Builtin.Dict.takeOut
 try with_reducible refine wpAny_holding ?_
 refine wpAny_bind (knd.pyHash hu hkey ?_)
 refine wpAny_bind (wpAny_dictFind_heap (s := { s with toks := s.toks + knd.draws k }) hu hkey ho hd he his hn ?_ ?_)
 ·intro hno
  rw [atKey_none_of_get hno] at hp
  cases hp
 ·intro j q hj
  have eq : q = p := Option.some.inj ((atKey_of_get hn hj).symm.trans hp)
  subst eq
  refine wpAny_bind (wpAny_dictEntries (s := { s with toks := s.toks + knd.draws k }) ho hd ?_)
  rw [entry_at he j, hj]
  have hes : es.size <= sizeLine := by have e := size_of_entries he; omega
  refine wpAny_bind (wpAny_updateDictKeys (hz := hes) (s := { s with toks := s.toks + knd.draws k }) ho hd (wpAny_pure (hQ _ (entryOfKey knd (k, q)) rfl ⟨_, _, ep + 1, Heap.get?_update_self _ ho (Obj.isFreed_of_dict (Obj.data_mapDictKeys hd _)),
   hc.mapDictKeys _, Obj.data_mapDictKeys hd _, ?_, ?_, ?_⟩ (Heap.SameBut.update ..))))
  ·rw [withoutH_erase hn hj]
   have : (es.eraseIdxIfInBounds j).toList = es.toList.eraseIdx j := by
    obtain ⟨l⟩ := es
    simp
   rw [this, he, erase_map]
  ·intro x hx
   exact knd.keeps (his x (List.mem_filter.mp hx).1) ho hd (Heap.SameBut.update ..)
  ·exact List.Nodup.sublist (List.Sublist.map _ List.filter_sublist) hn
theorem meetsH_dict_pop {d a : Addr} :
  MeetsIn prog w (Builtin.«dict.pop» ⟨[.ref d, .ref a], []⟩) (fun A R s => knd.room A.in1 /\ ∃ k xs p, knd.is s.heap k a /\ s.heap.DictOfH knd d xs /\ xs.length <= sizeLine /\ atKey xs k = some p /\
   ∀ h', h'.DictOfH knd d (withoutH xs k) -> Heap.SameBut d s.heap h' -> R (.ok (.ret p.2)) { s with heap := h', toks := s.toks + knd.draws k }) :=
 .of_wp fun A R s ⟨hu, k, xs, p, hkey, hm, hsz, hp, h⟩ => by
  unfold Builtin.«dict.pop»
  refine wpAny_bind ?_
  unfold Builtin.Dict.keyAndDefault
  refine wpAny_bind (wpAny_notOrdered_dict hm.typeIs ?_)
  show wpAny _ _ (pure (d, Value.ref a, none)) _ _ s
  refine wpAny_pure ?_
  obtain ⟨o, es, ep, ho, hc, hd, he, his, hn⟩ := id hm
  have hk : (keyPart (Value.ref a)).isSome = false := rfl
  simp only [hk, Bool.false_eq_true, if_false]
  refine wpAny_bind (wpAny_dictEntries ho hd (wpAny_bind (wpAny_pure ?_)))
  have hne : es.isEmpty = false := by
   cases q : es.isEmpty with
   | false => rfl
   | true =>
    have e0 : es.size = 0 := by simpa using q
    have e1 := size_of_entries he
    have : xs = [] := List.eq_nil_of_length_eq_zero (by omega)
    rw [this] at hp
    cases hp
  simp only [hne, Bool.false_eq_true, if_false]
  refine wpAny_bind (takeOut_heap hu hkey hm hp (fun h' e hev hm' hs' => ?_) hsz)
  simp only [Option.isNone_some, Bool.false_eq_true, if_false]
  exact wpAny_bind (wpAny_letGo (wpAny_pure ⟨e.val, rfl, by rw [hev]; exact h h' hm' hs'⟩))
end
section
variable {X : Cx} {pins : List (Addr × Obj)} {σ : L2.St} {H : Hp} {s : Shared} {a b : Addr} {kvs : List (List Key × V)} {k : List Key} {A : Around} {E : Value -> Shared -> Prop}
theorem KT_drop {H : Hp} : ∀ {kvs : List (List Key × V)} {xs : List (List Key × Addr × Value)}, KT H kvs xs -> ∀ k, KT H (dropK kvs k) (withoutH xs k)
 | _, _, .nil, _ => .nil
 | p :: kvs, q :: xs, .cons h t, k => by
  have ih := KT_drop t k
  unfold dropK withoutH at ih ⊢
  rw [List.filter_cons, List.filter_cons]
  by_cases e : p.1 = k
  ·rw [if_neg (by simpa using e), if_neg (by rw [<- h.1]; simpa using e)]
   exact ih
  ·rw [if_pos (by simpa using e), if_pos (by rw [<- h.1]; simpa using e)]
   exact .cons h ih
theorem d_popT {v : V} {Q : Value -> Shared -> Prop} (hu : A.units + 1 < cLine) (I : Inv X pins σ H s) (e : H a = some (.dT kvs)) (eb : H b = some (.tup (k.map kV))) (l : valV kvs k = some v)
  (h : ∀ w' s', Inv X pins σ (upd H a (.dT (dropK kvs k))) s' -> RelV v w' -> Q w' s') : wpAny (model X.prog X.w) A (call (.builtin "dict.pop") [.ref a, .ref b]) Q E s := by
 obtain ⟨z, hd, xs, rel, dd⟩ := dt_of I.hok e
 obtain ⟨w', hw, rw'⟩ := RelO.some_of (v := v) (o := (atKey xs k).map (·.2)) (by rw [<- l]; exact rel.val k)
 obtain ⟨p, hp, hp2⟩ := Option.map_eq_some_iff.mp hw
 refine call_meetsIn PySem.F.slot_dict_pop dd.typeIs PySem.F.entry_dict_pop (PySem.F.args_dict_pop_2 _ _) (meetsH_dict_pop (knd := tupleKind (mixKind X.prog X.w)) (d := a) (a := b))
  ⟨tupleKind_room_in1 hu, k, xs, p, key_of I.hok eb, dd, by rw [<- Paired.length rel]; exact z, hp, fun h' dd' hs => ?_⟩
 rw [hp2]
 refine h w' _ ?_ rw'
 obtain ⟨q, es, ep, hq, h2, h3, h4, _, h5⟩ := dd'
 refine d_write I (by rw [e]; exact True.intro) hs ⟨q, hq⟩ ⟨Nat.le_trans (dropK_le kvs k) z, hd, _, (KT_drop rel k).keeps fun c ys ec => ?_, q, es, ep, hq, h2, h3, h4, h5⟩
 rw [upd_ne (ne_of ec e (fun z => nomatch z))]
 exact ec
end
def tDPopT (td ty : TE) : TE := fun σ H Q => td σ H fun x H1 => ∃ a, x = .ref a /\ IsD H1 a /\ ty σ H1 fun y H2 => ∃ kvs k b v, H2 a = some (.dT kvs) /\ y = .ref b /\ H2 b = some (.tup (k.map kV)) /\ valV kvs k = some v /\ Q v (upd H2 a (.dT (dropK kvs k)))
section
variable {X : Cx} {o e : Expr} {apos cpos : Pos} {td ty : TE}
theorem pe_dpopT (hu : X.A.units + 1 < cLine) (ho : PE X o td) (he : PE X e ty) (m : M1 X o "pop" apos e cpos) : PE X (.Call (.Attribute o "pop" apos) [e] [] cpos) (tDPopT td ty) := by
 intro pins s σ H Q I h
 refine wpAny_Call_method m.base m.few m.line PySem.F.plainAttrs_dict PySem.F.slot_dict_pop PySem.F.type_dict_pop (thn (ho pins s σ H _ I h) fun u s1 ⟨x, H1, I1, rx, a, ex, d, q1⟩ => ?_)
 subst ex
 obtain rfl : u = Value.ref a := rx
 obtain ⟨t1, t2, _⟩ := isD_at I1 d
 refine ⟨t1, t2, ?_⟩
 rw [m.trees]
 refine Calls.callWith_builtin rfl (Calls.evalArgs_plain (Calls.spliced_cons (thn (he pins s1 σ H1 _ I1 q1) fun iv s2 ⟨y, H2, I2, ry, kvs, k, b, v, ea, ey, eb, l, q2⟩ => Calls.spliced_nil ?_)))
 subst ey
 cases (show iv = Value.ref b from ry)
 exact d_popT hu I2 ea eb l fun w' s3 I3 rw' => ⟨v, _, I3, rw', q2⟩
end
end
section
def FnA (P : Program) (w : World) (K : PySem.W.Frag) (mg : Str -> Option Value) (base : Heap) (f : Addr) (ps : List Str) (k : Nat) (sp : Sp) : Prop :=
 PySem.W.keepIn K (.ref f) = true /\ ∃ fd, Binds K fd ps [] /\ FnOk P w K mg base CX0 k f fd ps sp
def tCallX (X : Cx) (k' : Nat) (tf : TE) (t : TA) : TE := fun σ H Q => tf σ H fun x H1 => ∃ f ps k sp, x = .ref f /\ FnA X.prog X.w X.K X.mg X.base f ps k sp /\ k <= k' /\ t σ H1 fun vs H2 => sp vs H2 Q E0
section
variable {X : Cx} {k' : Nat} {a b e : Expr} {es : List Expr} {p1 pos : Pos} {tf : TE} {t : TA}
theorem pe_callX (hr : Room k' X.A) (hf : PE X (.Subscript a b p1) tf) (ha : PA X (e :: es) t) (he : starEach (e :: es) X.env = (false, eval e X.env) :: starEach es X.env := by rfl) (hpl : (backTo pos (starEach es X.env)).any (·.1) = false := by rfl) :
  PE X (.Call (.Subscript a b p1) (e :: es) [] pos) (tCallX X k' tf t) := by
 intro pins s σ H Q I h
 show wpAny _ _ (do callWith pos (<- eval (.Subscript a b p1) X.env) [] (backTo pos (starEach (e :: es) X.env)) (backToKw pos (keywordEach [] X.env))) _ _ s
 refine wpAny_bind (thn (hf pins s σ H _ I h) fun u s1 ⟨x, H1, I1, rx, f, ps, k, sp, ex, ⟨kp, fd, hb, F⟩, hk, q⟩ => ?_)
 subst ex
 obtain rfl : u = Value.ref f := rx
 refine PySem.W.callWith_K (h₀ := X.base) I.ok.mod.kin kp (thn (ha pos pins s1 σ H1 _ I1 q) fun us s2 ⟨vs, H2, I2, r, q2⟩ => ⟨I2.kIn, ?_⟩) he hpl
 exact run_fn (dvs := []) (ds := []) (E := E0) F (hr.mono hk) hb .nil pass0 I2 r (by rw [List.append_nil]; exact q2)
end
section
variable {P : Program} {w : World} {K : PySem.W.Frag} {mg : Str -> Option Value} {base : Heap} {C : Addr}
def pairN (p q : Nat) : Nat × Nat := (min p q, max p q)
def spPair : Sp := fun vs H Q _ => ∃ p q : Nat, vs = [iV p, iV q] /\ ∀ H' t, Same H H' -> H t = none -> H' t = some (.tup [iV (pairN p q).1, iV (pairN p q).2]) -> Q (.ref t) H'
theorem scPair : FnScope ["p", "q"] ["p", "q"] (defScope (top 5)) := ⟨rfl, rfl, rfl, by decide +kernel, rfl, by decide +kernel, by decide +kernel⟩
theorem min_cast (p q : Nat) : (if (q : Int) < (p : Int) then (q : Int) else (p : Int)) = ((min p q : Nat) : Int) := by split <;> omega
theorem max_cast (p q : Nat) : (if (q : Int) > (p : Int) then (q : Int) else (p : Int)) = ((max p q : Nat) : Int) := by split <;> omega
theorem ok_pair {f : Addr} {fd : FuncData} (F : Fun K "pair_of" "pair_of" (top 5) f fd) (T : Tx K mg C) : FnOk P w K mg base CX0 1 f fd ["p", "q"] spPair := by
 refine F.ok scPair (fun vs H Q E h => ?_) (fun cdv A outer s H vs Q E hr h => ?_)
 ·obtain ⟨p, q, rfl, _⟩ := h
  rfl
 ·obtain ⟨p, q, rfl, k⟩ := h
  refine ⟨_, pss_one (ps_ret (pe_tup (pa_cons (pe_callB (call_min2 rfl) (by rfl) T.min PyProof.Rows.boot_min (pa_cons (pv 0) (pa_cons (pv 1) pa_nil))) (pa_cons (pe_callB (call_max2 rfl) (by rfl) T.max PyProof.Rows.boot_max (pa_cons (pv 0) (pa_cons (pv 1) pa_nil))) pa_nil)))), ?_⟩
  refine ⟨_, rfl, _, rfl, _, _, rfl, _, rfl, _, rfl, _, _, rfl, by show 2 <= sizeLine; decide, fun t ht => ?_⟩
  rw [min_cast, max_cast]
  exact k _ t (Same.new ht) ht upd_same
def pairKey (x : Nat × Nat) : List Key := [Sum.inl (x.1 : Int), Sum.inl (x.2 : Int)]
theorem pairKey_inj {x y : Nat × Nat} (h : pairKey x = pairKey y) : x = y := by
 unfold pairKey at h
 have h1 := (List.cons.inj h).1
 have h2 := (List.cons.inj (List.cons.inj h).2).1
 exact Prod.ext (Int.ofNat.inj (Sum.inl.inj h1)) (Int.ofNat.inj (Sum.inl.inj h2))
theorem valV_pairs (x : Nat × Nat) : ∀ l : List ((Nat × Nat) × Nat), valV (l.map pairK) (pairKey x) = ((l.find? fun y => decide (y.1 = x)).map (·.2)).map iV
 | [] => rfl
 | y :: l => by
  have ih := valV_pairs x l
  by_cases e : y.1 = x
  ·rw [List.map_cons, valV_pos (show (pairK y).1 = pairKey x by rw [<- e]; rfl), List.find?_cons, decide_eq_true e]
   rfl
  ·rw [List.map_cons, valV_neg (show ¬ (pairK y).1 = pairKey x from fun z => e (pairKey_inj z)), ih, List.find?_cons, decide_eq_false e]
def spToldOf (C : Addr) : Sp := fun vs H Q _ => ∃ p A b g m n, vs = [.ref p, iV m, iV n] /\ GAt C H p A b g /\ ∀ H', Same H H' -> Q (ret1 (g.toldOf (pairN m n))) H'
theorem scToldOf : FnScope ["self", "p", "q"] ["self", "p", "q"] (defScope (cls 21)) := ⟨rfl, rfl, rfl, by decide +kernel, rfl, by decide +kernel, by decide +kernel⟩
theorem ok_toldOf {f : Addr} {fd : FuncData} (F : Fun K "told_of" "Group.told_of" (cls 21) f fd) (T : Tx K mg C) (Fp : Fn P w K mg base "pair_of" ["p", "q"] 1 spPair) : FnOk P w K mg base CX0 2 f fd ["self", "p", "q"] (spToldOf C) := by
 refine F.ok scToldOf (fun vs H Q E h => ?_) (fun cdv A outer s H vs Q E hr h => ?_)
 ·obtain ⟨p, A, b, g, m, n, rfl, _⟩ := h
  rfl
 ·obtain ⟨p, A', b, g, m, n, rfl, B, k⟩ := h
  refine ⟨_, pss_one (ps_ret (pe_dget1 (hu_of hr) (pe_fld (pv 0) rfl) (pe_fn Fp hr (by rfl) (pa_cons (pv 1) (pa_cons (pv 2) pa_nil))) ⟨rfl, rfl, rfl, rfl⟩)), ?_⟩
  refine ⟨_, rfl, fD T B ⟨_, rfl, .inr ⟨_, .inl B.pr⟩, _, rfl, _, rfl, m, n, rfl, fun H' t s1 ht h1 => ⟨_, DGet.t (k := pairKey (pairN m n)) (s1 _ _ B.pr) h1, ?_⟩⟩⟩
  rw [valV_pairs]
  have k1 := k H' s1
  unfold G.toldOf at k1
  cases q : g.pairs.find? fun y => decide (y.1 = pairN m n) with
  | none => rw [q] at k1; exact k1
  | some y => rw [q] at k1; exact k1
end
end
section
section
variable {P : Program} {w : World} {K : PySem.W.Frag} {mg : Str -> Option Value} {base : Heap} {C : Addr}
def Owns (p : Addr) (A : GA) (a : Addr) : Prop := a = p ∨ a = A.st ∨ a = A.ht ∨ a = A.sp ∨ a = A.pr
def KeepBut (H H' : Hp) (p : Addr) (A : GA) : Prop := ∀ a o, H a = some o -> ¬ Owns p A a -> ¬ Tbl a -> H' a = some o
theorem Same.keep {H H' : Hp} {p : Addr} {A : GA} (s : Same H H') : KeepBut H H' p A := fun a o h _ _ => s a o h
theorem KeepBut.trans {H H1 H2 : Hp} {p : Addr} {A : GA} (a : KeepBut H H1 p A) (b : KeepBut H1 H2 p A) : KeepBut H H2 p A := fun c o h n m => b c o (a c o h n m) n m
theorem GAt.setPr {p : Addr} {H : Hp} {A : GA} {b : Bool} {g : G} (B : GAt C H p A b g) (l : List ((Nat × Nat) × Nat)) : GAt C (upd H A.pr (.dT (l.map pairK))) p A b { g with pairs := l } := by
 obtain ⟨dx, h1⟩ := B.ob
 obtain ⟨vs, h2, h3⟩ := B.sp
 refine ⟨⟨dx, by rw [upd_ne (ne_of h1 B.pr (by intro z; cases z))]; exact h1⟩, by rw [upd_ne (ne_of B.st B.pr (by intro z; cases z))]; exact B.st, by rw [upd_ne (ne_of B.ht B.pr (by intro z; cases z))]; exact B.ht,
  ⟨vs, by rw [upd_ne (ne_of h2 B.pr (by intro z; cases z))]; exact h2, Paired.mapP h3 fun o v q => ?_⟩, upd_same, B.n1, B.n2, B.n3, B.tb.upd B.pr (by intro ps z; cases z) (by intro φ z; cases z)⟩
 cases o with
 | none => exact q
 | some x =>
  obtain ⟨t, e, ht⟩ := q
  exact ⟨t, e, by rw [upd_ne (ne_of ht B.pr (by intro z; cases z))]; exact ht⟩
theorem keep_upd {H : Hp} {p a : Addr} {A : GA} {o : HO} (h : Owns p A a) : KeepBut H (upd H a o) p A := fun c u e n _ => by
 rw [upd_ne (fun z => n (by rw [z]; exact h))]
 exact e
def spTell (C : Addr) : Sp := fun vs H Q _ => ∃ p A b g m n wd, vs = [.ref p, iV m, iV n, iV wd] /\ GAt C H p A b g /\ g.toldOf (pairN m n) = none /\ g.pairs.length <= 1000 /\ ∀ H', GAt C H' p A b (g.tell (pairN m n) wd) -> KeepBut H H' p A -> Q .non H'
theorem scTell : FnScope ["self", "p", "q", "word"] ["self", "p", "q", "word"] (defScope (cls 22)) := ⟨rfl, rfl, rfl, by decide +kernel, rfl, by decide +kernel, by decide +kernel⟩
theorem put_pairs {g : G} {x : Nat × Nat} {wd : Nat} (h : g.toldOf x = none) : putK (g.pairs.map pairK) (pairKey x) (iV wd) = (g.pairs ++ [(x, wd)]).map pairK := by
 rw [putK_new _ (by rw [valV_pairs]; unfold G.toldOf at h; rw [h]; rfl), List.map_append]
 rfl
theorem ok_tell {f : Addr} {fd : FuncData} (F : Fun K "tell" "Group.tell" (cls 22) f fd) (T : Tx K mg C) (Fp : Fn P w K mg base "pair_of" ["p", "q"] 1 spPair) : FnOk P w K mg base CX0 2 f fd ["self", "p", "q", "word"] (spTell C) := by
 refine F.ok scTell (fun vs H Q E h => ?_) (fun cdv A outer s H vs Q E hr h => ?_)
 ·obtain ⟨p, A, b, g, m, n, wd, rfl, _⟩ := h
  rfl
 ·obtain ⟨p, A', b, g, m, n, wd, rfl, B, h0, hl, k⟩ := h
  refine ⟨_, pss_one (ps_dput (hu_of hr) (pe_fld (pv 0) rfl) (pe_fn Fp hr (by rfl) (pa_cons (pv 1) (pa_cons (pv 2) pa_nil))) (pv 3) rfl), ?_⟩
  refine ⟨_, rfl, _, rfl, fD T B ⟨_, rfl, _, rfl, m, n, rfl, fun H1 t s1 ht h1 => ⟨_, _, rfl, DPut.t (k := pairKey (pairN m n)) (s1 _ _ B.pr) h1 (small1000 (by rw [List.length_map]; exact hl)), ?_⟩⟩⟩
  have B1 := (B.same s1).setPr (g.pairs ++ [(pairN m n, wd)])
  rw [put_pairs h0]
  exact k _ B1 ((Same.keep s1).trans (keep_upd (.inr (.inr (.inr (.inr rfl))))))
def spForget (C : Addr) : Sp := fun vs H Q _ => ∃ p A b g m n, vs = [.ref p, iV m, iV n] /\ GAt C H p A b g /\ (g.toldOf (pairN m n)).isSome = true /\ ∀ H', GAt C H' p A b (g.forget (pairN m n)) -> KeepBut H H' p A -> Q .non H'
theorem scForget : FnScope ["self", "p", "q"] ["self", "p", "q"] (defScope (cls 23)) := ⟨rfl, rfl, rfl, by decide +kernel, rfl, by decide +kernel, by decide +kernel⟩
theorem drop_pairs {g : G} {x : Nat × Nat} : dropK (g.pairs.map pairK) (pairKey x) = (g.forget x).pairs.map pairK := by
 unfold dropK G.forget
 rw [List.filter_map]
 congr 1
 refine List.filter_congr fun y _ => ?_
 show decide ((pairK y).1 ≠ pairKey x) = decide (y.1 ≠ x)
 exact decide_eq_decide.mpr ⟨fun h e => h (by rw [<- e]; rfl), fun h e => h (pairKey_inj e)⟩
theorem ok_forget {f : Addr} {fd : FuncData} (F : Fun K "forget" "Group.forget" (cls 23) f fd) (T : Tx K mg C) (Fp : Fn P w K mg base "pair_of" ["p", "q"] 1 spPair) : FnOk P w K mg base CX0 2 f fd ["self", "p", "q"] (spForget C) := by
 refine F.ok scForget (fun vs H Q E h => ?_) (fun cdv A outer s H vs Q E hr h => ?_)
 ·obtain ⟨p, A, b, g, m, n, rfl, _⟩ := h
  rfl
 ·obtain ⟨p, A', b, g, m, n, rfl, B, h0, k⟩ := h
  refine ⟨_, pss_one (ps_expr (pe_dpopT (hu_of hr) (pe_fld (pv 0) rfl) (pe_fn Fp hr (by rfl) (pa_cons (pv 1) (pa_cons (pv 2) pa_nil))) ⟨rfl, rfl, rfl, rfl⟩)), ?_⟩
  obtain ⟨wd, hw⟩ := Option.isSome_iff_exists.mp h0
  refine ⟨_, rfl, fD T B ⟨_, rfl, .inr ⟨_, .inl B.pr⟩, _, rfl, _, rfl, m, n, rfl, fun H1 t s1 ht h1 => ⟨_, pairKey (pairN m n), t, iV wd, s1 _ _ B.pr, rfl, h1, ?_, ?_⟩⟩⟩
  ·rw [valV_pairs]
   unfold G.toldOf at hw
   rw [hw]
   rfl
  ·have B1 := (B.same s1).setPr (g.forget (pairN m n)).pairs
   rw [drop_pairs]
   exact k _ B1 ((Same.keep s1).trans (keep_upd (.inr (.inr (.inr (.inr rfl))))))
def spTwo (q : Nat × Nat -> Nat × Nat -> Bool) : Sp := fun vs H Q _ => ∃ a b x y, vs = [.ref a, .ref b] /\ H a = some (.tup [iV x.1, iV x.2]) /\ H b = some (.tup [iV y.1, iV y.2]) /\ Q (.bl (q x y)) H
theorem iV_eq (a b : Nat) : decide (iV a = iV b) = decide (a = b) := decide_eq_decide.mpr ⟨fun h => Int.ofNat.inj (V.int.inj h), fun h => by rw [h]⟩
theorem abs_one (a b : Nat) : decide (V.int (if (a : Int) - (b : Int) < 0 then -((a : Int) - (b : Int)) else (a : Int) - (b : Int)) = V.int 1) = decide (((a : Int) - b).natAbs = 1) := by
 refine decide_eq_decide.mpr ⟨fun h => ?_, fun h => ?_⟩
 ·have := V.int.inj h
  split at this <;> omega
 ·refine congrArg V.int ?_
  split <;> omega
theorem scBeside : FnScope ["one", "other"] ["one", "other"] (defScope (top 6)) := ⟨rfl, rfl, rfl, by decide +kernel, rfl, by decide +kernel, by decide +kernel⟩
theorem scBehind : FnScope ["one", "other"] ["one", "other"] (defScope (top 7)) := ⟨rfl, rfl, rfl, by decide +kernel, rfl, by decide +kernel, by decide +kernel⟩
theorem ok_beside {f : Addr} {fd : FuncData} (F : Fun K "are_beside" "are_beside" (top 6) f fd) (T : Tx K mg C) : FnOk P w K mg base CX0 1 f fd ["one", "other"] (spTwo beside2) := by
 refine F.ok scBeside (fun vs H Q E h => ?_) (fun cdv A outer s H vs Q E hr h => ?_)
 ·obtain ⟨a, b, x, y, rfl, _⟩ := h
  rfl
 ·obtain ⟨a, b, x, y, rfl, ha, hb, k⟩ := h
  refine ⟨_, pss_one (ps_ret (pe_and (pe_cmpR op_eq (pe_ix ix_tup (pv 0) pe_int (fun _ _ => rfl)) (pe_ix ix_tup (pv 1) pe_int (fun _ _ => rfl)) (nomark _))
   (pe_one (pe_cmpR op_eq (pe_callB call_abs (by rfl) T.abs PyProof.Rows.boot_abs (pa_cons (pe_op op_sub (pe_ix ix_tup (pv 0) pe_int (fun _ _ => rfl)) (pe_ix ix_tup (pv 1) pe_int (fun _ _ => rfl))) pa_nil)) pe_int (nomark _))))), ?_⟩
  refine ⟨_, rfl, ixT (n := 0) ha rfl ⟨_, rfl, ixT (n := 0) hb rfl ⟨rfl, _, rfl, ?_⟩⟩⟩
  rw [iV_eq]
  unfold beside2 at k
  refine ite2 (fun d => ?_) (fun d => ?_)
  ·refine ⟨_, rfl, ixT (n := 1) ha rfl ⟨_, rfl, ixT (n := 1) hb rfl ⟨_, _, rfl, rfl, _, rfl, rfl, ?_⟩⟩⟩
   rw [d, Bool.true_and] at k
   show Q (.bl (decide (V.int _ = V.int 1))) H
   rw [abs_one]
   exact k
  ·rw [Bool.eq_false_iff.mpr d, Bool.false_and] at k
   exact k
theorem ok_behind {f : Addr} {fd : FuncData} (F : Fun K "are_right_behind" "are_right_behind" (top 7) f fd) (T : Tx K mg C) : FnOk P w K mg base CX0 1 f fd ["one", "other"] (spTwo behind2) := by
 refine F.ok scBehind (fun vs H Q E h => ?_) (fun cdv A outer s H vs Q E hr h => ?_)
 ·obtain ⟨a, b, x, y, rfl, _⟩ := h
  rfl
 ·obtain ⟨a, b, x, y, rfl, ha, hb, k⟩ := h
  refine ⟨_, pss_one (ps_ret (pe_and (pe_cmpR op_eq (pe_ix ix_tup (pv 0) pe_int (fun _ _ => rfl)) (pe_ix ix_tup (pv 1) pe_int (fun _ _ => rfl)) (nomark _))
   (pe_one (pe_cmpR op_eq (pe_callB call_abs (by rfl) T.abs PyProof.Rows.boot_abs (pa_cons (pe_op op_sub (pe_ix ix_tup (pv 0) pe_int (fun _ _ => rfl)) (pe_ix ix_tup (pv 1) pe_int (fun _ _ => rfl))) pa_nil)) pe_int (nomark _))))), ?_⟩
  refine ⟨_, rfl, ixT (n := 1) ha rfl ⟨_, rfl, ixT (n := 1) hb rfl ⟨rfl, _, rfl, ?_⟩⟩⟩
  rw [iV_eq]
  unfold behind2 at k
  refine ite2 (fun d => ?_) (fun d => ?_)
  ·refine ⟨_, rfl, ixT (n := 0) ha rfl ⟨_, rfl, ixT (n := 0) hb rfl ⟨_, _, rfl, rfl, _, rfl, rfl, ?_⟩⟩⟩
   rw [d, Bool.true_and] at k
   show Q (.bl (decide (V.int _ = V.int 1))) H
   rw [abs_one]
   exact k
  ·rw [Bool.eq_false_iff.mpr d, Bool.false_and] at k
   exact k
end
end
section
section
variable {P : Program} {w : World} {K : PySem.W.Frag} {mg : Str -> Option Value} {base : Heap} {C : Addr}
def touch2 (x y : Nat × Nat) : Bool := beside2 x y || behind2 x y
theorem scTouch : FnScope ["one", "other"] ["one", "other"] (defScope (top 8)) := ⟨rfl, rfl, rfl, by decide +kernel, rfl, by decide +kernel, by decide +kernel⟩
theorem ok_touch {f : Addr} {fd : FuncData} (F : Fun K "are_touching" "are_touching" (top 8) f fd) (F1 : Fn P w K mg base "are_beside" ["one", "other"] 1 (spTwo beside2)) (F2 : Fn P w K mg base "are_right_behind" ["one", "other"] 1 (spTwo behind2)) : FnOk P w K mg base CX0 2 f fd ["one", "other"] (spTwo touch2) := by
 refine F.ok scTouch (fun vs H Q E h => ?_) (fun cdv A outer s H vs Q E hr h => ?_)
 ·obtain ⟨a, b, x, y, rfl, _⟩ := h
  rfl
 ·obtain ⟨a, b, x, y, rfl, ha, hb, k⟩ := h
  refine ⟨_, pss_one (ps_ret (pe_or (pe_fn F1 hr (by rfl) (pa_cons (pv 0) (pa_cons (pv 1) pa_nil))) (pe_one (pe_fn F2 hr (by rfl) (pa_cons (pv 0) (pa_cons (pv 1) pa_nil)))))), ?_⟩
  refine ⟨_, rfl, _, rfl, a, b, x, y, rfl, ha, hb, _, rfl, ?_⟩
  unfold touch2 at k
  refine ite2 (fun d => ?_) (fun d => ?_)
  ·rw [d, Bool.true_or] at k
   exact k
  ·rw [Bool.eq_false_iff.mpr d, Bool.false_or] at k
   exact ⟨_, rfl, _, rfl, a, b, x, y, rfl, ha, hb, k⟩
def spMet (C : Addr) : Sp := fun vs H Q _ => ∃ p A b g t x wd, vs = [.ref p, .ref t, iV wd] /\ GAt C H p A b g /\ H t = some (.tup [iV x.1, iV x.2]) /\ x.1 < g.spots.length /\ x.2 < g.spots.length /\ Q (.bl (g.met x wd)) H
theorem scMet : FnScope ["self", "pair", "word", "one", "other"] ["self", "pair", "word"] (defScope (cls 26)) := ⟨rfl, rfl, rfl, by decide +kernel, rfl, by decide +kernel, by decide +kernel⟩
theorem iV_eq2 (n : Nat) : decide (iV n = V.int 2) = decide (n = 2) := iV_eq n 2
theorem iV_eq1 (n : Nat) : decide (iV n = V.int 1) = decide (n = 1) := iV_eq n 1
theorem ok_met {f : Addr} {fd : FuncData} (F : Fun K "is_met" "Group.is_met" (cls 26) f fd) (T : Tx K mg C) (F1 : Fn P w K mg base "are_beside" ["one", "other"] 1 (spTwo beside2)) (F2 : Fn P w K mg base "are_touching" ["one", "other"] 2 (spTwo touch2)) :
  FnOk P w K mg base CX0 3 f fd ["self", "pair", "word"] (spMet C) := by
 obtain ⟨tn, hn⟩ := T.near
 obtain ⟨ta, ha⟩ := T.apart
 refine F.ok scMet (fun vs H Q E h => ?_) (fun cdv A outer s H vs Q E hr h => ?_)
 ·obtain ⟨p, A, b, g, t, x, wd, rfl, _⟩ := h
  rfl
 ·obtain ⟨p, A', b, g, t, x, wd, rfl, B, ht, h1, h2, k⟩ := h
  refine ⟨_, pss_cons (ps_set (i := 3) scMet.nd rfl (Or.inl rfl) (pe_ix ix_list (pe_fld (pv 0) rfl) (pe_ix ix_tup (pv 1) pe_int (fun _ _ => rfl)) (fun _ _ => rfl)))
   (pss_cons (ps_set (i := 4) scMet.nd rfl (Or.inl rfl) (pe_ix ix_list (pe_fld (pv 0) rfl) (pe_ix ix_tup (pv 1) pe_int (fun _ _ => rfl)) (fun _ _ => rfl)))
   (pss_cons (ps_if (PW.pt (pw_or (pt_cmp (pc_isN (pv 3))) (pw_or1 (pt_cmp (pc_isN (pv 4)))))) (pss_one (ps_ret (pe_cmpR op_eq (pv 2) (pe_gint (by rfl) ha) (nomark _)))) pss_nil)
   (pss_cons (ps_if (pt_cmpR op_eq (pv 2) (pe_gint (by rfl) hn) (nomark _)) (pss_one (ps_ret (pe_fn F1 hr (by rfl) (pa_cons (pv 3) (pa_cons (pv 4) pa_nil))))) pss_nil)
   (pss_one (ps_ret (pe_not (pe_fn F2 hr (by rfl) (pa_cons (pv 3) (pa_cons (pv 4) pa_nil))))))))), ?_⟩
  obtain ⟨vs, v, a1, a2, a3⟩ := B.spot h1
  obtain ⟨vs', v', b1, b2, b3⟩ := B.spot h2
  refine ⟨_, rfl, fP T B ⟨_, rfl, ixT (n := 0) ht rfl (ixL a1 a2 ?_)⟩⟩
  refine ⟨_, rfl, fP T B ⟨_, rfl, ixT (n := 1) ht rfl (ixL b1 b2 ?_)⟩⟩
  refine ⟨_, rfl, _, rfl, ?_⟩
  unfold G.met at k
  cases e1 : g.spot x.1 with
  | none =>
   rw [e1] at a3 k
   rw [show v = .non from a3]
   refine ⟨_, rfl, rfl, ?_⟩
   rw [iV_eq2]
   exact k
  | some y =>
   rw [e1] at a3 k
   obtain ⟨ty, rfl, hy⟩ := a3
   refine ⟨_, rfl, _, rfl, ?_⟩
   cases e2 : g.spot x.2 with
   | none =>
    rw [e2] at b3 k
    rw [show v' = .non from b3]
    refine ⟨_, rfl, rfl, ?_⟩
    rw [iV_eq2]
    exact k
   | some z =>
    rw [e2] at b3 k
    obtain ⟨tz, rfl, hz⟩ := b3
    have k : Q (.bl (if wd = 1 then beside2 y z else !(beside2 y z) && !(behind2 y z))) H := k
    refine ⟨_, rfl, rfl, _, rfl, ?_⟩
    rw [iV_eq1]
    refine ite2 (fun d => ?_) (fun d => ?_)
    ·rw [if_pos (of_decide_eq_true d)] at k
     exact ⟨_, rfl, _, rfl, ty, tz, y, z, rfl, hy, hz, k⟩
    ·rw [if_neg (fun q => d (decide_eq_true q))] at k
     have e : (!(beside2 y z) && !(behind2 y z)) = !(touch2 y z) := by unfold touch2; rw [Bool.not_or]
     rw [e] at k
     exact ⟨_, rfl, _, rfl, ty, tz, y, z, rfl, hy, hz, _, rfl, k⟩
def TL (H : Hp) (l : Addr) (ps : List (Nat × Nat)) : Prop := ∃ zs : List ((Nat × Nat) × Addr), H l = some (.lst (zs.map fun z => V.ref z.2)) /\ ps = zs.map (·.1) /\ ∀ z ∈ zs, H z.2 = some (.tup [iV z.1.1, iV z.1.2])
theorem TL.same {H H' : Hp} {l : Addr} {ps : List (Nat × Nat)} (s : Same H H') (h : TL H l ps) : TL H' l ps := by
 obtain ⟨zs, h1, h2, h3⟩ := h
 exact ⟨zs, s _ _ h1, h2, fun z hz => s _ _ (h3 z hz)⟩
theorem lc_keysT {d : Addr} {ob : Obj} {kvs : List (List Key × V)} {g : TG} {tt : TT} {te : TE} {vs : List Nat} {σ : L2.St} {H1 : Hp} {D : Addr} {Qd : Hp -> Prop} (Pv : Nat -> Hp -> Prop) (h0 : Pv 0 (upd H1 D (.lst []))) (hl : ∀ i H, i <= kvs.length -> Pv i H -> H d = some (.frz ob (.dT kvs)))
  (hs : ∀ i k v q H, kvs[i]? = some (k, v) -> H q = some (.tup (k.map kV)) -> Pv i H -> g (.ref q) (wipe σ vs) H fun σ2 H2 => wipe σ2 vs = wipe σ vs /\ tt σ2 H2 fun b H3 =>
   if b = true then te σ2 H3 fun y H4 => ∃ acc, H4 D = some (.lst acc) /\ acc.length < sizeLine /\ Pv (i + 1) (upd H4 D (.lst (acc ++ [y]))) else Pv (i + 1) H3) (hd : ∀ H, Pv kvs.length H -> Qd H) :
  ∃ W : Nat -> Nat -> Hp -> Prop, (∃ m, W 0 m (upd H1 D (.lst []))) /\ ∀ i m H, W i m H ->
   ((Itkt d ob kvs).stop i H /\ Qd H) ∨ ((Itkt d ob kvs).go i H /\ ∃ Nx : Hp -> Prop, (∀ H', Nx H' -> ∃ m', m' < m /\ W (i + 1) m' H') /\ ∀ x H', (Itkt d ob kvs).yld i H x H' -> g x (wipe σ vs) H' fun σ2 H2 => wipe σ2 vs = wipe σ vs /\ tt σ2 H2 fun b H3 =>
    if b = true then te σ2 H3 fun y H4 => ∃ acc, H4 D = some (.lst acc) /\ acc.length < sizeLine /\ Nx (upd H4 D (.lst (acc ++ [y]))) else Nx H3) := by
 refine ⟨fun i m H => m = kvs.length - i /\ i <= kvs.length /\ Pv i H, ⟨kvs.length, by simp, Nat.zero_le _, h0⟩, ?_⟩
 rintro i m H ⟨rfl, hi, p⟩
 have q := hl i H hi p
 by_cases hlt : i < kvs.length
 ·refine .inr ⟨⟨q, hlt⟩, Pv (i + 1), fun H' p' => ⟨kvs.length - (i + 1), by omega, rfl, hlt, p'⟩, fun x H' y => ?_⟩
  obtain ⟨e, k, v, a, e1, e2, e3⟩ := y
  subst e e2
  exact hs i k v a _ e1 e3 p
 ·have e : i = kvs.length := by omega
  subst e
  exact .inl ⟨⟨q, Nat.le_refl _⟩, hd H p⟩
def spTold (C : Addr) : Sp := fun vs H Q _ => ∃ p A b g wd, vs = [.ref p, iV wd] /\ GAt C H p A b g /\ g.pairs.length <= 1000 /\ (g.pairs.map (·.1)).Nodup /\ ∀ H' l, Same H H' -> H l = none -> TL H' l (g.told wd) -> Q (.ref l) H'
theorem scTold : FnScope ["self", "word", "pair"] ["self", "word"] (defScope (cls 24)) := ⟨rfl, rfl, rfl, by decide +kernel, rfl, by decide +kernel, by decide +kernel⟩
theorem find_nodup : ∀ {l : List ((Nat × Nat) × Nat)} {i : Nat} {y : (Nat × Nat) × Nat}, (l.map (·.1)).Nodup -> l[i]? = some y -> (l.find? fun z => decide (z.1 = y.1)) = some y
 | [], i, y, _, h => by simp at h
 | x :: l, i, y, hn, h => by
  obtain ⟨h1, h2⟩ := List.nodup_cons.mp (show (x.1 :: l.map (·.1)).Nodup from hn)
  rw [List.find?_cons]
  cases i with
  | zero =>
   have e : x = y := Option.some.inj h
   rw [e, decide_eq_true rfl]
  | succ i =>
   have h' : l[i]? = some y := by simpa using h
   have : ¬ x.1 = y.1 := fun e => h1 (by rw [e]; exact List.mem_map.mpr ⟨y, List.mem_of_getElem? h', rfl⟩)
   rw [decide_eq_false this]
   exact find_nodup h2 h'
theorem told_step {l : List ((Nat × Nat) × Nat)} {wd i : Nat} {y : (Nat × Nat) × Nat} (h : l[i]? = some y) : (((l.take (i + 1)).filter fun x => x.2 == wd).map (·.1)) = (((l.take i).filter fun x => x.2 == wd).map (·.1)) ++ (if (y.2 == wd) = true then [y.1] else []) := by
 rw [List.take_add_one, h, List.filter_append, List.map_append]
 congr 1
 show (([y] : List ((Nat × Nat) × Nat)).filter _).map _ = _
 rw [List.filter_cons]
 by_cases q : (y.2 == wd) = true
 ·rw [if_pos q, if_pos q]; rfl
 ·rw [if_neg q, if_neg q]; rfl
theorem ok_told {f : Addr} {fd : FuncData} (F : Fun K "pairs_told" "Group.pairs_told" (cls 24) f fd) (T : Tx K mg C) : FnOk P w K mg base CX0 1 f fd ["self", "word"] (spTold C) := by
 refine F.ok scTold (fun vs H Q E h => ?_) (fun cdv A outer s H vs Q E hr h => ?_)
 ·obtain ⟨p, A, b, g, wd, rfl, _⟩ := h
  rfl
 ·obtain ⟨p, A', b, g, wd, rfl, B, hl, hn, k⟩ := h
  have hu := hu_of hr
  refine ⟨_, pss_one (ps_ret (pe_lock (pe_lc rfl scTold.nd (pi_keys (pe_fld (pv 0) rfl)) (blkOk_by (own := [("pair", 2)]) (by kernel_rfl)) (fun _ _ _ _ _ => pg_name (i := 2) scTold.nd rfl (Or.inl rfl))
   (fun _ _ _ _ _ => pts_one (pt_cmpR op_eq (pe_dget hu (pfld (K := K) (pv 0)) (pv 2) (fun _ _ => rfl)) (pv 1) (nomark _))) (fun _ _ _ _ _ => pv 2)))), ?_⟩
  obtain ⟨dx, ho⟩ := B.ob
  have npr : p ≠ A'.pr := ne_of ho B.pr (by intro z; cases z)
  refine ⟨A'.pr, _, B.pr, True.intro, fun od => ?_⟩
  have ho1 : (upd H A'.pr (.frz od (.dT (g.pairs.map pairK)))) p = some (.ins C dx (flds b g.width g.face A')) := by rw [upd_ne npr]; exact ho
  refine ⟨_, rfl, p, C, dx, _, _, rfl, ho1, T.cl, T.nD, lookup_zip gnd (i := 6) rfl rfl, A'.pr, od, rfl, .inr ⟨_, upd_same, fun D hD => ?_⟩⟩
  have nD : D ≠ A'.pr := fun z => by rw [z, upd_same] at hD; cases hD
  have hD0 : H D = none := by rw [upd_ne nD] at hD; exact hD
  refine lc_keysT (fun i H' => Same (upd H A'.pr (.frz od (.dT (g.pairs.map pairK)))) H' /\ TL H' D (((g.pairs.take i).filter fun x => x.2 == wd).map (·.1))) ⟨Same.new hD, [], upd_same, rfl, fun _ h => by cases h⟩ (fun i H' _ ⟨s1, _⟩ => s1 _ _ upd_same) ?_ ?_
  ·rintro i kk v q H' hi hq ⟨s1, zs, z1, z2, z3⟩
   rw [List.getElem?_map] at hi
   cases ey : g.pairs[i]? with
   | none => rw [ey] at hi; cases hi
   | some y =>
    rw [ey] at hi
    have e0 : pairK y = (kk, v) := Option.some.inj hi
    have ek : kk = pairKey y.1 := (congrArg Prod.fst e0).symm
    subst ek
    have hst := told_step (wd := wd) ey
    refine ⟨rfl, ?_⟩
    refine ⟨_, rfl, p, C, dx, _, _, rfl, s1 _ _ ho1, T.cl, T.nD, lookup_zip gnd (i := 6) rfl rfl, _, rfl, A'.pr, iV y.2, rfl, .inr ⟨_, pairKey y.1, q, .inr ⟨od, s1 _ _ upd_same⟩, rfl, hq, ?_⟩, _, rfl, rfl, _, rfl, ?_⟩
    ·rw [valV_pairs, find_nodup hn ey]
     rfl
    ·rw [iV_eq]
     have hd : decide (y.2 = wd) = (y.2 == wd) := (Bool.beq_eq_decide_eq _ _).symm
     rw [hd]
     refine ite2 (fun d => ?_) (fun d => ?_)
     ·refine ⟨_, rfl, _, z1, ?_, same_put s1 hD, zs ++ [(y.1, q)], ?_, ?_, fun z hz => ?_⟩
      ·have c1 : zs.length = (((g.pairs.take i).filter fun x => x.2 == wd).map (·.1)).length := by rw [z2, List.length_map]
       rw [List.length_map, c1, List.length_map]
       refine line_of_le (Nat.le_trans (List.length_filter_le _ _) ?_) (show 1000 <= 100000 by decide)
       rw [List.length_take]
       omega
      ·rw [upd_same, List.map_append]
       rfl
      ·rw [hst, if_pos d, z2, List.map_append]
       rfl
      ·have zne : ∀ a xs, H' a = some (.tup xs) -> a ≠ D := fun a xs ha => ne_of ha z1 (by intro z; cases z)
       rcases List.mem_append.mp hz with hz | hz
       ·rw [upd_ne (zne _ _ (z3 z hz))]
        exact z3 z hz
       ·have : z = (y.1, q) := by simpa using hz
        subst this
        rw [upd_ne (zne _ _ hq)]
        exact hq
     ·refine ⟨s1, zs, z1, ?_, z3⟩
      rw [hst, if_neg d, List.append_nil]
      exact z2
  ·rintro H' ⟨s1, hT⟩
   rw [List.length_map, List.take_of_length_le (Nat.le_refl _)] at hT
   refine ⟨s1 _ _ upd_same, ?_⟩
   have s2 : Same H (upd H' A'.pr (.dT (g.pairs.map pairK))) := fun a o e => by
    by_cases z : a = A'.pr
    ·rw [z, upd_same]
     rw [z, B.pr] at e
     exact e
    ·rw [upd_ne z]
     exact s1 a o (by rw [upd_ne z]; exact e)
   refine k _ D s2 hD0 ?_
   obtain ⟨zs, z1, z2, z3⟩ := hT
   refine ⟨zs, by rw [upd_ne nD]; exact z1, z2, fun z hz => ?_⟩
   have zp : z.2 ≠ A'.pr := fun q => by
    have e1 := z3 z hz
    rw [q, s1 _ _ upd_same] at e1
    cases e1
   rw [upd_ne zp]
   exact z3 z hz
def spPMet (C : Addr) : Sp := fun vs H Q _ => ∃ p A b g wd, vs = [.ref p, iV wd] /\ GAt C H p A b g /\ g.pairs.length <= 1000 /\ (g.pairs.map (·.1)).Nodup /\ (∀ x ∈ g.pairs, x.1.1 < g.spots.length /\ x.1.2 < g.spots.length) /\
 ∀ H' l, Same H H' -> H l = none -> TL H' l ((g.told wd).filter fun x => g.met x wd) -> Q (.ref l) H'
theorem scPMet : FnScope ["self", "word", "pair"] ["self", "word"] (defScope (cls 25)) := ⟨rfl, rfl, rfl, by decide +kernel, rfl, by decide +kernel, by decide +kernel⟩
theorem ok_pmet {f : Addr} {fd : FuncData} (F : Fun K "pairs_met" "Group.pairs_met" (cls 25) f fd) (T : Tx K mg C) (Mt1 : Mt P w K mg base C "pairs_told" ["self", "word"] 1 (spTold C)) (Mt2 : Mt P w K mg base C "is_met" ["self", "pair", "word"] 3 (spMet C)) :
  FnOk P w K mg base CX0 4 f fd ["self", "word"] (spPMet C) := by
 refine F.ok scPMet (fun vs H Q E h => ?_) (fun cdv A outer s H vs Q E hr h => ?_)
 ·obtain ⟨p, A, b, g, wd, rfl, _⟩ := h
  rfl
 ·obtain ⟨p, A', b, g, wd, rfl, B, hl, hn, hin, k⟩ := h
  refine ⟨_, pss_one (ps_ret (pe_lc rfl scPMet.nd (pi_list (pe_mt Mt1 T.cl hr (pv 0) (pa_cons (pv 1) pa_nil))) (blkOk_by (own := [("pair", 2)]) (by kernel_rfl)) (fun _ _ _ _ _ => pg_name (i := 2) scPMet.nd rfl (Or.inl rfl))
   (fun _ _ _ _ _ => pts_one (pt_val (pe_mt Mt2 T.cl hr (pv 0) (pa_cons (pv 2) (pa_cons (pv 1) pa_nil))))) (fun _ _ _ _ _ => pv 2))), ?_⟩
  refine ⟨_, rfl, mG B (by decide +kernel) ⟨_, rfl, p, A', b, g, wd, rfl, B, hl, hn, fun H1 l1 s1 hl1 hT => ?_⟩⟩
  obtain ⟨zs, z1, z2, z3⟩ := hT
  refine ⟨l1, rfl, ⟨_, SqL.of z1⟩, fun D hD => ?_⟩
  have zl : zs.length <= 1000 := by
   have : (g.told wd).length = zs.length := by rw [z2, List.length_map]
   rw [<- this]
   unfold G.told
   rw [List.length_map]
   exact Nat.le_trans (List.length_filter_le _ _) hl
  refine lc_listF zs (fun z => V.ref z.2) (SqL.of z1) (fun z => g.met z.1 wd) (fun z => V.ref z.2) (by omega) hD ?_ ?_
  ·intro z H3 K4 K3 hz s3 k4 k3
   have B3 := B.same (s1.trans s3)
   have hz1 : z.1 ∈ g.told wd := by rw [z2]; exact List.mem_map_of_mem hz
   obtain ⟨y, hy, ey⟩ := List.mem_map.mp hz1
   have hy2 := hin y (List.mem_filter.mp hy).1
   rw [ey] at hy2
   refine ⟨rfl, ?_⟩
   refine ⟨_, rfl, mG B3 (by decide +kernel) ⟨_, rfl, _, rfl, p, A', b, g, z.2, z.1, wd, rfl, B3, s3 _ _ (z3 z hz), hy2.1, hy2.2, _, rfl, ?_⟩⟩
   exact ite2 (fun d => ⟨_, rfl, k4 d H3 (Same.refl _)⟩) (fun d => k3 (Bool.eq_false_iff.mpr d) H3 (Same.refl _))
  ·intro H3 s3 h3
   refine k H3 D (s1.trans s3) (s1.free hD) ⟨_, h3, ?_, fun z hz => s3 _ _ (z3 z (List.mem_filter.mp hz).1)⟩
   rw [z2, List.filter_map]
   rfl
end
end
section
section
variable {P : Program} {w : World} {K : PySem.W.Frag} {mg : Str -> Option Value} {base : Heap} {C : Addr}
theorem putF_snoc {ns : List Str} {vs : List V} {n : Str} {v : V} (hn : n ∉ ns) (hl : ns.length = vs.length) : putF n v (ns.zip vs) = (ns ++ [n]).zip (vs ++ [v]) := by
 rw [putF_new, List.zip_append hl]
 ·rfl
 ·intro h
  obtain ⟨x, hx, e⟩ := List.mem_map.mp h
  exact hn (e ▸ (List.of_mem_zip hx).1)
theorem paired_set {α β : Type} {F : α -> β -> Prop} {a : α} {b : β} (h : F a b) : ∀ {l : List α} {m : List β} (i : Nat), Paired F l m -> Paired F (l.set i a) (m.set i b)
 | _, _, _, .nil => .nil
 | _, _, 0, .cons _ t => .cons h t
 | _, _, i + 1, .cons q t => .cons q (paired_set h i t)
theorem GAt.setSp {p : Addr} {H : Hp} {A : GA} {b : Bool} {g : G} (B : GAt C H p A b g) {l : List (Option (Nat × Nat))} {vs : List V} (hp : Paired (spotV H) l vs) : GAt C (upd H A.sp (.lst vs)) p A b { g with spots := l } := by
 obtain ⟨dx, h1⟩ := B.ob
 obtain ⟨vs0, h2, h3⟩ := B.sp
 refine ⟨⟨dx, by rw [upd_ne (ne_of h1 h2 (by intro z; cases z))]; exact h1⟩, by rw [upd_ne B.n2]; exact B.st, by rw [upd_ne B.n3]; exact B.ht, ⟨vs, upd_same, Paired.mapP hp fun o v q => ?_⟩, by rw [upd_ne (ne_of B.pr h2 (by intro z; cases z))]; exact B.pr, B.n1, B.n2, B.n3, B.tb.upd h2 (by intro ps z; cases z) (by intro φ z; cases z)⟩
 cases o with
 | none => exact q
 | some x =>
  obtain ⟨t, e, ht⟩ := q
  exact ⟨t, e, by rw [upd_ne (ne_of ht h2 (by intro z; cases z))]; exact ht⟩
theorem GAt.setHt {p : Addr} {H : Hp} {A : GA} {b : Bool} {g : G} (B : GAt C H p A b g) (l : List Nat) : GAt C (upd H A.ht (.lst (nVs l))) p A b { g with heights := l } := by
 obtain ⟨dx, h1⟩ := B.ob
 obtain ⟨vs, h2, h3⟩ := B.sp
 refine ⟨⟨dx, by rw [upd_ne (ne_of h1 B.ht (by intro z; cases z))]; exact h1⟩, by rw [upd_ne B.n1]; exact B.st, upd_same, ⟨vs, by rw [upd_ne (Ne.symm B.n3)]; exact h2, Paired.mapP h3 fun o v q => ?_⟩, by rw [upd_ne (ne_of B.pr B.ht (by intro z; cases z))]; exact B.pr, B.n1, B.n2, B.n3, B.tb.upd B.ht (by intro ps z; cases z) (by intro φ z; cases z)⟩
 cases o with
 | none => exact q
 | some x =>
  obtain ⟨t, e, ht⟩ := q
  exact ⟨t, e, by rw [upd_ne (ne_of ht B.ht (by intro z; cases z))]; exact ht⟩
def NewAt (C : Addr) (H H' : Hp) (p : Addr) (b : Bool) (g : G) : Prop := ∃ A, GAt C H' p A b g /\ (∀ a o, H a = some o -> a ≠ p -> H' a = some o) /\ ∀ a, Owns p A a -> a = p ∨ H a = none
def spInit (C : Addr) : Sp := fun vs H Q _ => ∃ p dx, vs = [.ref p] /\ H p = some (.ins C dx []) /\ ∀ H', (∀ a o, H a = some o -> a ≠ p -> H' a = some o) -> (Tb H -> NewAt C H H' p false (newG 0 0 [])) -> Q .non H'
theorem scInit : FnScope ["self"] ["self"] (defScope (cls 0)) := ⟨rfl, rfl, rfl, by decide +kernel, rfl, by decide +kernel, by decide +kernel⟩
theorem ok_init {f : Addr} {fd : FuncData} (F : Fun K "__init__" "Group.__init__" (cls 0) f fd) (T : Tx K mg C) : FnOk P w K mg base CX0 1 f fd ["self"] (spInit C) := by
 refine F.ok scInit (fun vs H Q E h => ?_) (fun cdv A outer s H vs Q E hr h => ?_)
 ·obtain ⟨p, dx, rfl, _⟩ := h
  rfl
 ·obtain ⟨p, dx, rfl, hp, k⟩ := h
  refine ⟨_, pss_cons (ps_fld (pv 0) pe_bl rfl) (pss_cons (ps_fld (pv 0) pe_int rfl) (pss_cons (ps_fld (pv 0) pe_int rfl) (pss_cons (ps_fld (pv 0) (pe_lst pa_nil) rfl) (pss_cons (ps_fld (pv 0) (pe_lst pa_nil) rfl) (pss_cons (ps_fld (pv 0) (pe_lst pa_nil) rfl) (pss_one (ps_fld (pv 0) pe_dnewT rfl))))))), ?_⟩
  refine ⟨_, rfl, p, C, dx, [], rfl, hp, T.cl, T.nB, (by show 0 < 1000; decide), ?_⟩
  generalize e1 : upd H p (.ins C dx (putF "begun" (V.bl false) [])) = H1
  have a1 : H1 p = some (.ins C dx ((["begun"] : List Str).zip [V.bl false])) := by rw [<- e1, upd_same]; rfl
  have b1 : ∀ a, a ≠ p -> H1 a = H a := fun a ha => by rw [<- e1, upd_ne ha]
  refine ⟨_, rfl, p, C, dx, _, rfl, a1, T.cl, T.nW, (by show 1 < 1000; decide), ?_⟩
  rw [putF_snoc (by decide +kernel) rfl]
  generalize e2 : upd H1 p _ = H2
  have a2 : H2 p = some (.ins C dx ((["begun", "width"] : List Str).zip [V.bl false, V.int 0])) := by rw [<- e2, upd_same]; rfl
  have b2 : ∀ a, a ≠ p -> H2 a = H a := fun a ha => by rw [<- e2, upd_ne ha]; exact b1 a ha
  refine ⟨_, rfl, p, C, dx, _, rfl, a2, T.cl, T.nF, (by show 2 < 1000; decide), ?_⟩
  rw [putF_snoc (by decide +kernel) rfl]
  generalize e3 : upd H2 p _ = H3
  have a3 : H3 p = some (.ins C dx ((["begun", "width", "face"] : List Str).zip [V.bl false, V.int 0, V.int 0])) := by rw [<- e3, upd_same]; rfl
  have b3 : ∀ a, a ≠ p -> H3 a = H a := fun a ha => by rw [<- e3, upd_ne ha]; exact b2 a ha
  refine ⟨Nat.zero_le _, fun l1 hl1 => ?_⟩
  have n1 : p ≠ l1 := ne_of_none a3 hl1
  refine ⟨_, rfl, p, C, dx, _, rfl, (by rw [upd_ne n1]; exact a3), T.cl, T.nS, (by show 3 < 1000; decide), ?_⟩
  rw [putF_snoc (by decide +kernel) rfl]
  generalize e4 : upd (upd H3 l1 (.lst [])) p _ = H4
  have a4 : H4 p = some (.ins C dx ((["begun", "width", "face", "steps"] : List Str).zip [V.bl false, V.int 0, V.int 0, .ref l1])) := by rw [<- e4, upd_same]; rfl
  have c4 : H4 l1 = some (.lst []) := by rw [<- e4, upd_ne (Ne.symm n1), upd_same]
  have f1 : H l1 = none := by rw [<- b3 l1 (Ne.symm n1)]; exact hl1
  have b4 : ∀ a o, H a = some o -> a ≠ p -> H4 a = some o := fun a o ho ha => by rw [<- e4, upd_ne ha, upd_ne (ne_of_none ho f1), b3 a ha]; exact ho
  refine ⟨Nat.zero_le _, fun l2 hl2 => ?_⟩
  have n2 : p ≠ l2 := ne_of_none a4 hl2
  have m12 : l1 ≠ l2 := ne_of_none c4 hl2
  refine ⟨_, rfl, p, C, dx, _, rfl, (by rw [upd_ne n2]; exact a4), T.cl, T.nH, (by show 4 < 1000; decide), ?_⟩
  rw [putF_snoc (by decide +kernel) rfl]
  generalize e5 : upd (upd H4 l2 (.lst [])) p _ = H5
  have a5 : H5 p = some (.ins C dx ((["begun", "width", "face", "steps", "heights"] : List Str).zip [V.bl false, V.int 0, V.int 0, .ref l1, .ref l2])) := by rw [<- e5, upd_same]; rfl
  have f2 : H l2 = none := by
   cases q : H l2 with
   | none => rfl
   | some o => rw [b4 l2 o q (Ne.symm n2)] at hl2; cases hl2
  have c5 : H5 l1 = some (.lst []) := by rw [<- e5, upd_ne (Ne.symm n1), upd_ne m12]; exact c4
  have d5 : H5 l2 = some (.lst []) := by rw [<- e5, upd_ne (Ne.symm n2), upd_same]
  have b5 : ∀ a o, H a = some o -> a ≠ p -> H5 a = some o := fun a o ho ha => by rw [<- e5, upd_ne ha, upd_ne (ne_of_none ho f2)]; exact b4 a o ho ha
  refine ⟨Nat.zero_le _, fun l3 hl3 => ?_⟩
  have n3 : p ≠ l3 := ne_of_none a5 hl3
  have m13 : l1 ≠ l3 := ne_of_none c5 hl3
  have m23 : l2 ≠ l3 := ne_of_none d5 hl3
  refine ⟨_, rfl, p, C, dx, _, rfl, (by rw [upd_ne n3]; exact a5), T.cl, T.nP, (by show 5 < 1000; decide), ?_⟩
  rw [putF_snoc (by decide +kernel) rfl]
  generalize e6 : upd (upd H5 l3 (.lst [])) p _ = H6
  have a6 : H6 p = some (.ins C dx ((["begun", "width", "face", "steps", "heights", "spots"] : List Str).zip [V.bl false, V.int 0, V.int 0, .ref l1, .ref l2, .ref l3])) := by rw [<- e6, upd_same]; rfl
  have f3 : H l3 = none := by
   cases q : H l3 with
   | none => rfl
   | some o => rw [b5 l3 o q (Ne.symm n3)] at hl3; cases hl3
  have c6 : H6 l1 = some (.lst []) := by rw [<- e6, upd_ne (Ne.symm n1), upd_ne m13]; exact c5
  have d6 : H6 l2 = some (.lst []) := by rw [<- e6, upd_ne (Ne.symm n2), upd_ne m23]; exact d5
  have g6 : H6 l3 = some (.lst []) := by rw [<- e6, upd_ne (Ne.symm n3), upd_same]
  have b6 : ∀ a o, H a = some o -> a ≠ p -> H6 a = some o := fun a o ho ha => by rw [<- e6, upd_ne ha, upd_ne (ne_of_none ho f3)]; exact b5 a o ho ha
  intro dd hdd
  have n4 : p ≠ dd := ne_of_none a6 hdd
  refine ⟨_, rfl, p, C, dx, _, rfl, (by rw [upd_ne n4]; exact a6), T.cl, T.nD, (by show 6 < 1000; decide), ?_⟩
  rw [putF_snoc (by decide +kernel) rfl]
  have f4 : H dd = none := by
   cases q : H dd with
   | none => rfl
   | some o => rw [b6 dd o q (Ne.symm n4)] at hdd; cases hdd
  refine k _ (fun a o ho ha => by rw [upd_ne ha, upd_ne (ne_of_none (b6 a o ho ha) hdd)]; exact b6 a o ho ha) fun hTb => ⟨⟨l1, l2, l3, dd⟩, ⟨⟨dx, upd_same⟩, ?_, ?_, ⟨[], ?_, .nil⟩, ?_, m12, m13, m23, hTb.keepX fun a o ho hx => ?_⟩, fun a o ho ha => ?_, fun a ha => ?_⟩
  ·rw [upd_ne (Ne.symm n1), upd_ne (ne_of_none c6 hdd)]; exact c6
  ·rw [upd_ne (Ne.symm n2), upd_ne (ne_of_none d6 hdd)]; exact d6
  ·rw [upd_ne (Ne.symm n3), upd_ne (ne_of_none g6 hdd)]; exact g6
  ·rw [upd_ne (Ne.symm n4), upd_same]; rfl
  ·have ha : a ≠ p := fun z => by
    rw [z, hp] at ho
    cases ho
    rcases hx with ⟨ps, z⟩ | ⟨φ, z⟩ <;> cases z
   rw [upd_ne ha, upd_ne (ne_of_none (b6 a o ho ha) hdd)]; exact b6 a o ho ha
  ·rw [upd_ne ha, upd_ne (ne_of_none (b6 a o ho ha) hdd)]; exact b6 a o ho ha
  ·rcases ha with rfl | rfl | rfl | rfl | rfl
   ·exact .inl rfl
   ·exact .inr f1
   ·exact .inr f2
   ·exact .inr f3
   ·exact .inr f4
def spHasRow (C : Addr) : Sp := fun vs H Q _ => ∃ p A b g n, vs = [.ref p, iV n] /\ GAt C H p A b g /\ Q (.bl (decide (n < g.steps.length))) H
def spHasCol (C : Addr) : Sp := fun vs H Q _ => ∃ p A b g n, vs = [.ref p, iV n] /\ GAt C H p A b g /\ Q (.bl (decide (n < g.width))) H
theorem scHasRow : FnScope ["self", "row"] ["self", "row"] (defScope (cls 4)) := ⟨rfl, rfl, rfl, by decide +kernel, rfl, by decide +kernel, by decide +kernel⟩
theorem scHasCol : FnScope ["self", "column"] ["self", "column"] (defScope (cls 5)) := ⟨rfl, rfl, rfl, by decide +kernel, rfl, by decide +kernel, by decide +kernel⟩
theorem ok_hasRow {f : Addr} {fd : FuncData} (F : Fun K "has_row" "Group.has_row" (cls 4) f fd) (T : Tx K mg C) : FnOk P w K mg base CX0 1 f fd ["self", "row"] (spHasRow C) := by
 refine F.ok scHasRow (fun vs H Q E h => ?_) (fun cdv A outer s H vs Q E hr h => ?_)
 ·obtain ⟨p, A, b, g, n, rfl, _⟩ := h
  rfl
 ·obtain ⟨p, A', b, g, n, rfl, B, k⟩ := h
  refine ⟨_, pss_one (ps_ret (pe_cmpR op_lt (pv 1) (pe_callB call_len_seq (by rfl) T.len PySem.boot_len (pa_cons (pe_fld (pv 0) rfl) pa_nil)) (nomark _))), ?_⟩
  refine ⟨_, rfl, _, rfl, fS T B (lenL B.st ⟨_, _, rfl, rfl, ?_⟩)⟩
  simpa [nVs_len] using k
theorem ok_hasCol {f : Addr} {fd : FuncData} (F : Fun K "has_column" "Group.has_column" (cls 5) f fd) (T : Tx K mg C) : FnOk P w K mg base CX0 1 f fd ["self", "column"] (spHasCol C) := by
 refine F.ok scHasCol (fun vs H Q E h => ?_) (fun cdv A outer s H vs Q E hr h => ?_)
 ·obtain ⟨p, A, b, g, n, rfl, _⟩ := h
  rfl
 ·obtain ⟨p, A', b, g, n, rfl, B, k⟩ := h
  refine ⟨_, pss_one (ps_ret (pe_cmpR op_lt (pv 1) (pe_fld (pv 0) rfl) (nomark _))), ?_⟩
  refine ⟨_, rfl, _, rfl, fW T B ⟨_, _, rfl, rfl, ?_⟩⟩
  simpa using k
end
end
section
section
variable {P : Program} {w : World} {K : PySem.W.Frag} {mg : Str -> Option Value} {base : Heap} {C : Addr}
def spBegin (C : Addr) : Sp := fun vs H Q _ => ∃ p A b g wd fc a l, vs = [.ref p, iV wd, iV fc, .ref a] /\ GAt C H p A b g /\ H a = some (.lst (nVs l)) /\ ∀ H', NewAt C H H' p true (newG wd fc l) -> Q .non H'
theorem scBegin : FnScope ["self", "width", "face", "steps"] ["self", "width", "face", "steps"] (defScope (cls 1)) := ⟨rfl, rfl, rfl, by decide +kernel, rfl, by decide +kernel, by decide +kernel⟩
theorem ok_mbegin {f : Addr} {fd : FuncData} (F : Fun K "begin" "Group.begin" (cls 1) f fd) (T : Tx K mg C) : FnOk P w K mg base CX0 1 f fd ["self", "width", "face", "steps"] (spBegin C) := by
 refine F.ok scBegin (fun vs H Q E h => ?_) (fun cdv A outer s H vs Q E hr h => ?_)
 ·obtain ⟨p, A, b, g, wd, fc, a, l, rfl, _⟩ := h
  rfl
 ·obtain ⟨p, A', b, g, wd, fc, a, l, rfl, B, ha, k⟩ := h
  refine ⟨_, pss_cons (ps_fld (pv 0) pe_bl rfl) (pss_cons (ps_fld (pv 0) (pv 1) rfl) (pss_cons (ps_fld (pv 0) (pv 2) rfl) (pss_cons (ps_fld (pv 0) (pe_callTy call_list_of (by rfl) T.list PyProof.Rows.boot_list (pa_cons (pv 3) pa_nil)) rfl)
   (pss_cons (ps_fld (pv 0) (pe_lst pa_nil) rfl) (pss_cons (ps_fld (pv 0) (pe_lst pa_nil) rfl) (pss_one (ps_fld (pv 0) pe_dnewT rfl))))))), ?_⟩
  obtain ⟨dx, hp⟩ := B.ob
  have nap : a ≠ p := ne_of ha hp (by intro z; cases z)
  refine ⟨_, rfl, p, C, dx, _, rfl, hp, T.cl, T.nB, (by show 7 < 1000; decide), ?_⟩
  unfold flds
  rw [putF_zip (i := 0) gnd rfl (by show 0 < 7; decide)]
  generalize e1 : upd H p _ = H1
  have a1 : H1 p = some (.ins C dx (gnames.zip [V.bl true, iV g.width, iV g.face, .ref A'.st, .ref A'.ht, .ref A'.sp, .ref A'.pr])) := by rw [<- e1, upd_same]; rfl
  have b1 : ∀ a, a ≠ p -> H1 a = H a := fun a ha => by rw [<- e1, upd_ne ha]
  refine ⟨_, rfl, _, rfl, p, C, dx, _, rfl, a1, T.cl, T.nW, (by show 7 < 1000; decide), ?_⟩
  rw [putF_zip (i := 1) gnd rfl (by show 1 < 7; decide)]
  generalize e2 : upd H1 p _ = H2
  have a2 : H2 p = some (.ins C dx (gnames.zip [V.bl true, iV wd, iV g.face, .ref A'.st, .ref A'.ht, .ref A'.sp, .ref A'.pr])) := by rw [<- e2, upd_same]; rfl
  have b2 : ∀ a, a ≠ p -> H2 a = H a := fun a ha => by rw [<- e2, upd_ne ha]; exact b1 a ha
  refine ⟨_, rfl, _, rfl, p, C, dx, _, rfl, a2, T.cl, T.nF, (by show 7 < 1000; decide), ?_⟩
  rw [putF_zip (i := 2) gnd rfl (by show 2 < 7; decide)]
  generalize e3 : upd H2 p _ = H3
  have a3 : H3 p = some (.ins C dx (gnames.zip [V.bl true, iV wd, iV fc, .ref A'.st, .ref A'.ht, .ref A'.sp, .ref A'.pr])) := by rw [<- e3, upd_same]; rfl
  have b3 : ∀ a, a ≠ p -> H3 a = H a := fun a ha => by rw [<- e3, upd_ne ha]; exact b2 a ha
  refine ⟨_, rfl, a, nVs l, rfl, .inl (SqL.of (by rw [b3 a nap]; exact ha)), fun l1 hl1 => ?_⟩
  have n1 : p ≠ l1 := ne_of_none a3 hl1
  refine ⟨_, rfl, p, C, dx, _, rfl, (by rw [upd_ne n1]; exact a3), T.cl, T.nS, (by show 7 < 1000; decide), ?_⟩
  rw [putF_zip (i := 3) gnd rfl (by show 3 < 7; decide)]
  generalize e4 : upd (upd H3 l1 (.lst (nVs l))) p _ = H4
  have a4 : H4 p = some (.ins C dx (gnames.zip [V.bl true, iV wd, iV fc, .ref l1, .ref A'.ht, .ref A'.sp, .ref A'.pr])) := by rw [<- e4, upd_same]; rfl
  have c4 : H4 l1 = some (.lst (nVs l)) := by rw [<- e4, upd_ne (Ne.symm n1), upd_same]
  have f1 : H l1 = none := by rw [<- b3 l1 (Ne.symm n1)]; exact hl1
  have b4 : ∀ a o, H a = some o -> a ≠ p -> H4 a = some o := fun a o ho ha => by rw [<- e4, upd_ne ha, upd_ne (ne_of_none ho f1), b3 a ha]; exact ho
  refine ⟨Nat.zero_le _, fun l2 hl2 => ?_⟩
  have n2 : p ≠ l2 := ne_of_none a4 hl2
  have m12 : l1 ≠ l2 := ne_of_none c4 hl2
  refine ⟨_, rfl, p, C, dx, _, rfl, (by rw [upd_ne n2]; exact a4), T.cl, T.nH, (by show 7 < 1000; decide), ?_⟩
  rw [putF_zip (i := 4) gnd rfl (by show 4 < 7; decide)]
  generalize e5 : upd (upd H4 l2 (.lst [])) p _ = H5
  have a5 : H5 p = some (.ins C dx (gnames.zip [V.bl true, iV wd, iV fc, .ref l1, .ref l2, .ref A'.sp, .ref A'.pr])) := by rw [<- e5, upd_same]; rfl
  have f2 : H l2 = none := by
   cases q : H l2 with
   | none => rfl
   | some o => rw [b4 l2 o q (Ne.symm n2)] at hl2; cases hl2
  have c5 : H5 l1 = some (.lst (nVs l)) := by rw [<- e5, upd_ne (Ne.symm n1), upd_ne m12]; exact c4
  have d5 : H5 l2 = some (.lst []) := by rw [<- e5, upd_ne (Ne.symm n2), upd_same]
  have b5 : ∀ a o, H a = some o -> a ≠ p -> H5 a = some o := fun a o ho ha => by rw [<- e5, upd_ne ha, upd_ne (ne_of_none ho f2)]; exact b4 a o ho ha
  refine ⟨Nat.zero_le _, fun l3 hl3 => ?_⟩
  have n3 : p ≠ l3 := ne_of_none a5 hl3
  have m13 : l1 ≠ l3 := ne_of_none c5 hl3
  have m23 : l2 ≠ l3 := ne_of_none d5 hl3
  refine ⟨_, rfl, p, C, dx, _, rfl, (by rw [upd_ne n3]; exact a5), T.cl, T.nP, (by show 7 < 1000; decide), ?_⟩
  rw [putF_zip (i := 5) gnd rfl (by show 5 < 7; decide)]
  generalize e6 : upd (upd H5 l3 (.lst [])) p _ = H6
  have a6 : H6 p = some (.ins C dx (gnames.zip [V.bl true, iV wd, iV fc, .ref l1, .ref l2, .ref l3, .ref A'.pr])) := by rw [<- e6, upd_same]; rfl
  have f3 : H l3 = none := by
   cases q : H l3 with
   | none => rfl
   | some o => rw [b5 l3 o q (Ne.symm n3)] at hl3; cases hl3
  have c6 : H6 l1 = some (.lst (nVs l)) := by rw [<- e6, upd_ne (Ne.symm n1), upd_ne m13]; exact c5
  have d6 : H6 l2 = some (.lst []) := by rw [<- e6, upd_ne (Ne.symm n2), upd_ne m23]; exact d5
  have g6 : H6 l3 = some (.lst []) := by rw [<- e6, upd_ne (Ne.symm n3), upd_same]
  have b6 : ∀ a o, H a = some o -> a ≠ p -> H6 a = some o := fun a o ho ha => by rw [<- e6, upd_ne ha, upd_ne (ne_of_none ho f3)]; exact b5 a o ho ha
  intro dd hdd
  have n4 : p ≠ dd := ne_of_none a6 hdd
  refine ⟨_, rfl, p, C, dx, _, rfl, (by rw [upd_ne n4]; exact a6), T.cl, T.nD, (by show 7 < 1000; decide), ?_⟩
  rw [putF_zip (i := 6) gnd rfl (by show 6 < 7; decide)]
  have f4 : H dd = none := by
   cases q : H dd with
   | none => rfl
   | some o => rw [b6 dd o q (Ne.symm n4)] at hdd; cases hdd
  refine k _ ⟨⟨l1, l2, l3, dd⟩, ⟨⟨dx, upd_same⟩, ?_, ?_, ⟨[], ?_, .nil⟩, ?_, m12, m13, m23, B.tb.keepX fun a o ho hx => ?_⟩, fun a o ho ha => ?_, fun a ha => ?_⟩
  ·rw [upd_ne (Ne.symm n1), upd_ne (ne_of_none c6 hdd)]; exact c6
  ·rw [upd_ne (Ne.symm n2), upd_ne (ne_of_none d6 hdd)]; exact d6
  ·rw [upd_ne (Ne.symm n3), upd_ne (ne_of_none g6 hdd)]; exact g6
  ·rw [upd_ne (Ne.symm n4), upd_same]; rfl
  ·have ha : a ≠ p := fun z => by
    rw [z, hp] at ho
    cases ho
    rcases hx with ⟨ps, z⟩ | ⟨φ, z⟩ <;> cases z
   rw [upd_ne ha, upd_ne (ne_of_none (b6 a o ho ha) hdd)]; exact b6 a o ho ha
  ·rw [upd_ne ha, upd_ne (ne_of_none (b6 a o ho ha) hdd)]; exact b6 a o ho ha
  ·rcases ha with rfl | rfl | rfl | rfl | rfl
   ·exact .inl rfl
   ·exact .inr f1
   ·exact .inr f2
   ·exact .inr f3
   ·exact .inr f4
def spAdd (C : Addr) : Sp := fun vs H Q _ => ∃ p A b g h, vs = [.ref p, iV h] /\ GAt C H p A b g /\ WFG g /\ ∀ H', GAt C H' p A b (g.addPerson h) -> KeepBut H H' p A -> Q (iV g.heights.length) H'
theorem scAdd : FnScope ["self", "height"] ["self", "height"] (defScope (cls 2)) := ⟨rfl, rfl, rfl, by decide +kernel, rfl, by decide +kernel, by decide +kernel⟩
theorem ok_add {f : Addr} {fd : FuncData} (F : Fun K "add_person" "Group.add_person" (cls 2) f fd) (T : Tx K mg C) : FnOk P w K mg base CX0 1 f fd ["self", "height"] (spAdd C) := by
 refine F.ok scAdd (fun vs H Q E h => ?_) (fun cdv A outer s H vs Q E hr h => ?_)
 ·obtain ⟨p, A, b, g, h, rfl, _⟩ := h
  rfl
 ·obtain ⟨p, A', b, g, h, rfl, B, W, k⟩ := h
  refine ⟨_, pss_cons (ps_expr (pe_bm PySem.F.plainAttrs_list PySem.F.slot_list_append PySem.F.type_list_append mt_append (pe_fld (pv 0) rfl) (pa_cons (pv 1) pa_nil)))
   (pss_cons (ps_expr (pe_bm PySem.F.plainAttrs_list PySem.F.slot_list_append PySem.F.type_list_append mt_append (pe_fld (pv 0) rfl) (pa_cons pe_non pa_nil)))
   (pss_one (ps_ret (pe_op op_sub (pe_callB call_len_seq (by rfl) T.len PySem.boot_len (pa_cons (pe_fld (pv 0) rfl) pa_nil)) pe_int)))), ?_⟩
  have h20 := W.h20
  have sl := W.slen
  have B1 := B.setHt (g.heights ++ [h])
  obtain ⟨vs, v1, v2⟩ := B1.sp
  have vl : vs.length = g.spots.length := (Paired.length v2).symm
  refine ⟨_, rfl, fH T B ⟨.inl ⟨rfl, _, SqL.of B.ht⟩, _, rfl, A'.ht, _, _, rfl, rfl, B.ht, by rw [nVs_len]; exact line_of_le h20 (by decide), ?_⟩⟩
  rw [show nVs g.heights ++ [iV h] = nVs (g.heights ++ [h]) from (nVs_append _ [h]).symm]
  refine ⟨_, rfl, fP T B1 ⟨.inl ⟨rfl, _, SqL.of v1⟩, A'.sp, _, _, rfl, rfl, v1, by rw [vl]; exact line_of_le (by omega : g.spots.length <= 20) (by decide), ?_⟩⟩
  have B2 := B1.setSp (paired_snoc v2 (show spotV _ none .non from rfl))
  refine ⟨_, rfl, fH T B2 (lenL B2.ht ⟨_, _, rfl, rfl, ?_⟩)⟩
  have k1 := k _ B2 ((keep_upd (.inr (.inr (.inl rfl)))).trans (keep_upd (.inr (.inr (.inr (.inl rfl))))))
  rw [nVs_len, List.length_append]
  show Q (.int (((g.heights.length + 1 : Nat) : Int) - 1)) _
  rw [show (((g.heights.length + 1 : Nat) : Int) - 1) = (g.heights.length : Int) by omega]
  exact k1
theorem ixN_nat {n j : Nat} (h : j < n) : ixN n (j : Int) = some j := by
 unfold ixN
 rw [if_pos (by omega), if_pos (by omega), Int.toNat_natCast]
def spPlace (C : Addr) : Sp := fun vs H Q _ => ∃ p A b g n r c, vs = [.ref p, iV n, iV r, iV c] /\ GAt C H p A b g /\ n < g.spots.length /\ ∀ H', GAt C H' p A b (g.place n r c) -> KeepBut H H' p A -> Q .non H'
theorem scPlace : FnScope ["self", "p", "row", "column"] ["self", "p", "row", "column"] (defScope (cls 8)) := ⟨rfl, rfl, rfl, by decide +kernel, rfl, by decide +kernel, by decide +kernel⟩
theorem ok_place {f : Addr} {fd : FuncData} (F : Fun K "place" "Group.place" (cls 8) f fd) (T : Tx K mg C) : FnOk P w K mg base CX0 1 f fd ["self", "p", "row", "column"] (spPlace C) := by
 refine F.ok scPlace (fun vs H Q E h => ?_) (fun cdv A outer s H vs Q E hr h => ?_)
 ·obtain ⟨p, A, b, g, n, r, c, rfl, _⟩ := h
  rfl
 ·obtain ⟨p, A', b, g, n, r, c, rfl, B, hn, k⟩ := h
  refine ⟨_, pss_one (ps_asg (pe_tup (pa_cons (pv 2) (pa_cons (pv 3) pa_nil))) (pg_sub (pe_fld (pv 0) rfl) (pv 1) set_list)), ?_⟩
  refine ⟨_, rfl, _, rfl, by show 2 <= sizeLine; decide, fun t ht => ?_⟩
  have s1 : Same H (upd H t (.tup [iV r, iV c])) := Same.new ht
  have B1 := B.same s1
  obtain ⟨vs, v1, v2⟩ := B1.sp
  have vl : vs.length = g.spots.length := (Paired.length v2).symm
  refine ⟨_, rfl, fP T B1 ⟨_, rfl, A'.sp, vs, _, n, rfl, rfl, v1, ixN_nat (by omega), ?_⟩⟩
  have B2 := B1.setSp (paired_set (show spotV (upd H t (.tup [iV r, iV c])) (some (r, c)) (.ref t) from ⟨t, rfl, upd_same⟩) n v2)
  exact k _ B2 ((Same.keep s1).trans (keep_upd (.inr (.inr (.inr (.inl rfl))))))
def spOff (C : Addr) : Sp := fun vs H Q _ => ∃ p A b g n, vs = [.ref p, iV n] /\ GAt C H p A b g /\ n < g.spots.length /\ ∀ H', GAt C H' p A b (g.takeOff n) -> KeepBut H H' p A -> Q .non H'
theorem scOff : FnScope ["self", "p"] ["self", "p"] (defScope (cls 9)) := ⟨rfl, rfl, rfl, by decide +kernel, rfl, by decide +kernel, by decide +kernel⟩
theorem ok_off {f : Addr} {fd : FuncData} (F : Fun K "take_off" "Group.take_off" (cls 9) f fd) (T : Tx K mg C) : FnOk P w K mg base CX0 1 f fd ["self", "p"] (spOff C) := by
 refine F.ok scOff (fun vs H Q E h => ?_) (fun cdv A outer s H vs Q E hr h => ?_)
 ·obtain ⟨p, A, b, g, n, rfl, _⟩ := h
  rfl
 ·obtain ⟨p, A', b, g, n, rfl, B, hn, k⟩ := h
  refine ⟨_, pss_one (ps_asg pe_non (pg_sub (pe_fld (pv 0) rfl) (pv 1) set_list)), ?_⟩
  obtain ⟨vs, v1, v2⟩ := B.sp
  have vl : vs.length = g.spots.length := (Paired.length v2).symm
  refine ⟨_, rfl, fP T B ⟨_, rfl, A'.sp, vs, _, n, rfl, rfl, v1, ixN_nat (by omega), ?_⟩⟩
  exact k _ (B.setSp (paired_set (show spotV H none .non from rfl) n v2)) (keep_upd (.inr (.inr (.inr (.inl rfl)))))
def spSwap (C : Addr) : Sp := fun vs H Q _ => ∃ p A b g m n, vs = [.ref p, iV m, iV n] /\ GAt C H p A b g /\ m < g.spots.length /\ n < g.spots.length /\ ∀ H', GAt C H' p A b (g.swap m n) -> KeepBut H H' p A -> Q .non H'
theorem scSwap : FnScope ["self", "p", "q", "spot"] ["self", "p", "q"] (defScope (cls 10)) := ⟨rfl, rfl, rfl, by decide +kernel, rfl, by decide +kernel, by decide +kernel⟩
theorem ok_swap {f : Addr} {fd : FuncData} (F : Fun K "change_places" "Group.change_places" (cls 10) f fd) (T : Tx K mg C) : FnOk P w K mg base CX0 1 f fd ["self", "p", "q"] (spSwap C) := by
 refine F.ok scSwap (fun vs H Q E h => ?_) (fun cdv A outer s H vs Q E hr h => ?_)
 ·obtain ⟨p, A, b, g, m, n, rfl, _⟩ := h
  rfl
 ·obtain ⟨p, A', b, g, m, n, rfl, B, hm, hn, k⟩ := h
  refine ⟨_, pss_cons (ps_set (i := 3) scSwap.nd rfl (Or.inl rfl) (pe_ix ix_list (pe_fld (pv 0) rfl) (pv 1) (fun _ _ => rfl)))
   (pss_cons (ps_asg (pe_ix ix_list (pe_fld (pv 0) rfl) (pv 2) (fun _ _ => rfl)) (pg_sub (pe_fld (pv 0) rfl) (pv 1) set_list))
   (pss_one (ps_asg (pv 3) (pg_sub (pe_fld (pv 0) rfl) (pv 2) set_list)))), ?_⟩
  obtain ⟨vs, v1, v2⟩ := B.sp
  have vl : vs.length = g.spots.length := (Paired.length v2).symm
  obtain ⟨vs1, x, e1, e2, e3⟩ := B.spot hm
  obtain ⟨vs2, y, e4, e5, e6⟩ := B.spot hn
  have q1 : vs1 = vs := by have := e1.symm.trans v1; injection this with this; injection this
  have q2 : vs2 = vs := by have := e4.symm.trans v1; injection this with this; injection this
  subst q1 q2
  refine ⟨_, rfl, fP T B ⟨_, rfl, ixL v1 e2 ?_⟩⟩
  refine ⟨_, rfl, fP T B ⟨_, rfl, ixL v1 e5 ⟨_, rfl, fP T B ⟨_, rfl, A'.sp, _, _, m, rfl, rfl, v1, ixN_nat (by omega), ?_⟩⟩⟩⟩
  have B1 := B.setSp (paired_set e6 m v2)
  obtain ⟨vs3, w1, w2⟩ := B1.sp
  have ev : vs3 = vs2.set m y := by
   have := w1.symm.trans upd_same
   injection this with this
   injection this
  subst ev
  refine ⟨_, rfl, _, rfl, fP T B1 ⟨_, rfl, A'.sp, _, _, n, rfl, rfl, w1, ixN_nat (by rw [List.length_set]; omega), ?_⟩⟩
  have e3' : spotV (upd H A'.sp (.lst (vs2.set m y))) (g.spot m) x := by
   cases q : g.spot m with
   | none => rw [q] at e3; exact e3
   | some z =>
    rw [q] at e3
    obtain ⟨t, et, ht⟩ := e3
    exact ⟨t, et, by rw [upd_ne (ne_of ht v1 (by intro z; cases z))]; exact ht⟩
  exact k _ (B1.setSp (paired_set e3' n w2)) ((keep_upd (.inr (.inr (.inr (.inl rfl))))).trans (keep_upd (.inr (.inr (.inr (.inl rfl))))))
end
end
section
structure Tc (mg : Str -> Option Value) : Prop where
 none_such : ∃ t, mg "NONE_SUCH" = some (.int (-2) t)
 not_placed : ∃ t, mg "NOT_PLACED" = some (.int (-6) t)
 not_told : ∃ t, mg "NOT_TOLD" = some (.int (-6) t)
 not_begun : ∃ t, mg "NOT_BEGUN" = some (.int (-11) t)
 impossible : ∃ t, mg "IMPOSSIBLE" = some (.int (-16) t)
 so_already : ∃ t, mg "SO_ALREADY" = some (.int (-17) t)
 out_of_range : ∃ t, mg "OUT_OF_RANGE" = some (.int (-22) t)
 too_many : ∃ t, mg "TOO_MANY" = some (.int (-28) t)
 no_order : ∃ t, mg "NO_ORDER" = some (.int (-33) t)
 most_people : ∃ t, mg "MOST_PEOPLE" = some (.int 20 t)
 begin_ : ∃ t, mg "BEGIN" = some (.int 0 t)
theorem nodup_bound : ∀ (n : Nat) (l : List Nat), l.Nodup -> (∀ x ∈ l, x < n) -> l.length <= n
 | 0, l, _, h => by
  cases l with
  | nil => exact Nat.le_refl 0
  | cons x l => exact absurd (h x List.mem_cons_self) (Nat.not_lt_zero x)
 | n + 1, l, hn, h => by
  have ih := nodup_bound n (l.erase n) (hn.erase n) fun x hx => by
   have h1 := h x (List.mem_of_mem_erase hx)
   have h2 : x ≠ n := fun e => by
    rw [e] at hx
    exact (List.Nodup.not_mem_erase hn) hx
   omega
  have := List.length_erase (a := n) (l := l)
  split at this <;> omega
theorem Rel.pairs_le {g : G} {a : Su57.Abs} (R : Rel g a) : g.pairs.length <= 400 := by
 have h20 := R.h20
 have key : (g.pairs.map fun x => x.1.1 * 20 + x.1.2).Nodup := by
  have h := R.keys
  rw [List.Nodup, List.pairwise_map] at h ⊢
  refine List.Pairwise.imp_of_mem (fun {x y} hx hy hne e => hne ?_) h
  have o1 := R.ord x hx
  have o2 := R.ord y hy
  exact Prod.ext (by omega) (by omega)
 have := nodup_bound 400 _ key fun z hz => by
  obtain ⟨x, hx, rfl⟩ := List.mem_map.mp hz
  have o1 := R.ord x hx
  omega
 rw [List.length_map] at this
 exact this
def ansInts (r : Su57.Ans) : List Int := r.value :: Su57Neutral.outs r.out
def AnsAt (C : Addr) (H H' : Hp) (p : Addr) (A : GA) (a' : Su57.Abs) (r : Su57.Ans) (l : Addr) : Prop :=
 H' l = some (.lst ((ansInts r).map V.int)) /\ H l = none /\ ∃ A' g', GAt C H' p A' true g' /\ Rel g' a' /\ (∀ b o, H b = some o -> ¬ Owns p A b -> ¬ Tbl b -> H' b = some o) /\ (∀ b, Owns p A' b -> Owns p A b ∨ H b = none) /\ ¬ Owns p A' l
theorem AnsAt.ro {C : Addr} {H H' : Hp} {p l : Addr} {A : GA} {g : G} {a : Su57.Abs} {r : Su57.Ans} (B : GAt C H p A true g) (R : Rel g a) (s : Same H H') (hl : H l = none) (h : H' l = some (.lst ((ansInts r).map V.int))) : AnsAt C H H' p A a r l := by
 refine ⟨h, hl, A, g, B.same s, R, fun b o e _ _ => s b o e, fun b hb => .inl hb, fun ho => ?_⟩
 obtain ⟨dx, h1⟩ := B.ob
 obtain ⟨vs, h2, _⟩ := B.sp
 rcases ho with rfl | rfl | rfl | rfl | rfl
 ·rw [h1] at hl; cases hl
 ·rw [B.st] at hl; cases hl
 ·rw [B.ht] at hl; cases hl
 ·rw [h2] at hl; cases hl
 ·rw [B.pr] at hl; cases hl
theorem owns_some {C : Addr} {H : Hp} {p b : Addr} {A : GA} {bb : Bool} {g : G} (B : GAt C H p A bb g) (h : Owns p A b) : ∃ o, H b = some o := by
 obtain ⟨dx, h1⟩ := B.ob
 obtain ⟨vs, h2, _⟩ := B.sp
 rcases h with rfl | rfl | rfl | rfl | rfl
 ·exact ⟨_, h1⟩
 ·exact ⟨_, B.st⟩
 ·exact ⟨_, B.ht⟩
 ·exact ⟨_, h2⟩
 ·exact ⟨_, B.pr⟩
theorem AnsAt.mut {C : Addr} {H H1 H' : Hp} {p l : Addr} {A : GA} {g' : G} {a' : Su57.Abs} {r : Su57.Ans} (B1 : GAt C H1 p A true g') (kp : KeepBut H H1 p A) (own : ∀ b, Owns p A b -> ∃ o, H b = some o) (R : Rel g' a') (s : Same H1 H') (hl : H1 l = none) (h : H' l = some (.lst ((ansInts r).map V.int))) : AnsAt C H H' p A a' r l := by
 have nl : ¬ Owns p A l := fun ho => by
  obtain ⟨o, e⟩ := owns_some B1 ho
  rw [e] at hl
  cases hl
 have hl0 : H l = none := by
  cases q : H l with
  | none => rfl
  | some o => rw [kp l o q nl (B1.tb.noN hl)] at hl; cases hl
 exact ⟨h, hl0, A, g', B1.same s, R, fun b o e n m => s b o (kp b o e n m), fun b hb => .inl hb, nl⟩
theorem AnsAt.kt {C : Addr} {H H' : Hp} {p l : Addr} {A : GA} {g : G} {a : Su57.Abs} {r : Su57.Ans} (B : GAt C H p A true g) (R : Rel g a) (k : KeepT H H') (t : Tb H') (hl : H l = none) (h : H' l = some (.lst ((ansInts r).map V.int))) : AnsAt C H H' p A a r l :=
 ⟨h, hl, A, g, B.keepT k t, R, fun b o e _ n => k b o e n, fun b hb => .inl hb, fun ho => by
  obtain ⟨o, e⟩ := owns_some B ho
  rw [e] at hl
  cases hl⟩
section
variable {P : Program} {w : World} {K : PySem.W.Frag} {mg : Str -> Option Value} {base : Heap} {C : Addr}
def spWithin : Sp := fun vs H Q _ => ∃ n lo hi : Nat, vs = [iV n, iV lo, iV hi] /\ Q (.bl (decide (lo <= n /\ n <= hi))) H
theorem scWithin : FnScope ["number", "least", "most"] ["number", "least", "most"] (defScope (top 29)) := ⟨rfl, rfl, rfl, by decide +kernel, rfl, by decide +kernel, by decide +kernel⟩
theorem ok_within {f : Addr} {fd : FuncData} (F : Fun K "is_within" "is_within" (top 29) f fd) : FnOk P w K mg base CX0 1 f fd ["number", "least", "most"] spWithin := by
 refine F.ok scWithin (fun vs H Q E h => ?_) (fun cdv A outer s H vs Q E hr h => ?_)
 ·obtain ⟨n, lo, hi, rfl, _⟩ := h
  rfl
 ·obtain ⟨n, lo, hi, rfl, k⟩ := h
  refine ⟨_, pss_one (ps_ret (pe_and (pe_cmpR op_le (pv 1) (pv 0) (nomark _)) (pe_one (pe_cmpR op_le (pv 0) (pv 2) (nomark _))))), ?_⟩
  refine ⟨_, rfl, _, rfl, _, _, rfl, rfl, _, rfl, ?_⟩
  refine ite2 (fun d => ?_) (fun d => ?_)
  ·refine ⟨_, rfl, _, rfl, _, _, rfl, rfl, ?_⟩
   have d' : lo <= n := by have := of_decide_eq_true d; omega
   show Q (.bl (decide ((n : Int) <= (hi : Int)))) H
   rw [show decide ((n : Int) <= (hi : Int)) = decide (lo <= n /\ n <= hi) from decide_eq_decide.mpr ⟨fun h => ⟨d', by omega⟩, fun h => by omega⟩]
   exact k
  ·have d' : ¬ lo <= n := fun h => d (decide_eq_true (by omega))
   rw [decide_eq_false (fun h => d' h.1)] at k
   exact k
def refP (g : G) (n : Nat) : Int := if n < g.heights.length then (if (g.spot n).isSome = true then 0 else -6) else -2
def spRefP (C : Addr) : Sp := fun vs H Q _ => ∃ p A b g n, vs = [.ref p, iV n] /\ GAt C H p A b g /\ WFG g /\ Q (.int (refP g n)) H
theorem scRefP : FnScope ["group", "p"] ["group", "p"] (defScope (top 30)) := ⟨rfl, rfl, rfl, by decide +kernel, rfl, by decide +kernel, by decide +kernel⟩
theorem ok_refP {f : Addr} {fd : FuncData} (F : Fun K "refuse_person" "refuse_person" (top 30) f fd) (T : Tx K mg C) (c : Tc mg) (M1 : Mt P w K mg base C "has_person" ["self", "p"] 1 (spHas C)) (M2 : Mt P w K mg base C "is_placed" ["self", "p"] 1 (spPlaced C)) :
  FnOk P w K mg base CX0 2 f fd ["group", "p"] (spRefP C) := by
 obtain ⟨t1, c1⟩ := c.none_such
 obtain ⟨t2, c2⟩ := c.not_placed
 refine F.ok scRefP (fun vs H Q E h => ?_) (fun cdv A outer s H vs Q E hr h => ?_)
 ·obtain ⟨p, A, b, g, n, rfl, _⟩ := h
  rfl
 ·obtain ⟨p, A', b, g, n, rfl, B, W, k⟩ := h
  refine ⟨_, pss_cons (ps_if (pt_not (pt_val (pe_mt M1 T.cl hr (pv 0) (pa_cons (pv 1) pa_nil)))) (pss_one (ps_ret (pe_gint (by rfl) c1))) pss_nil)
   (pss_cons (ps_if (pt_not (pt_val (pe_mt M2 T.cl hr (pv 0) (pa_cons (pv 1) pa_nil)))) (pss_one (ps_ret (pe_gint (by rfl) c2))) pss_nil)
   (pss_one (ps_ret pe_int))), ?_⟩
  unfold refP at k
  refine ⟨_, rfl, mG B (by decide +kernel) ⟨_, rfl, p, A', b, g, n, rfl, B, _, rfl, ?_⟩⟩
  refine ite2 (fun d => ?_) (fun d => ?_)
  ·rw [if_neg (fun h => by rw [decide_eq_true h] at d; cases d)] at k
   exact k
  ·have hn : n < g.heights.length := Decidable.byContradiction fun h => d (by rw [decide_eq_false h]; rfl)
   rw [if_pos hn] at k
   refine ⟨_, rfl, mG B (by decide +kernel) ⟨_, rfl, p, A', b, g, n, rfl, B, by rw [W.slen]; exact hn, _, rfl, ?_⟩⟩
   refine ite2 (fun d2 => ?_) (fun d2 => ?_)
   ·rw [if_neg (fun h => by rw [h] at d2; cases d2)] at k
    exact k
   ·rw [if_pos (by cases q : (g.spot n).isSome with | true => rfl | false => rw [q] at d2; exact absurd rfl d2)] at k
    exact k
def refQ (g : G) (m n : Nat) : Int := if m < g.heights.length /\ n < g.heights.length then (if m = n then -22 else 0) else -2
def spRefQ (C : Addr) : Sp := fun vs H Q _ => ∃ p A b g m n, vs = [.ref p, iV m, iV n] /\ GAt C H p A b g /\ Q (.int (refQ g m n)) H
theorem scRefQ : FnScope ["group", "p", "q"] ["group", "p", "q"] (defScope (top 31)) := ⟨rfl, rfl, rfl, by decide +kernel, rfl, by decide +kernel, by decide +kernel⟩
theorem ok_refQ {f : Addr} {fd : FuncData} (F : Fun K "refuse_pair" "refuse_pair" (top 31) f fd) (T : Tx K mg C) (c : Tc mg) (M1 : Mt P w K mg base C "has_person" ["self", "p"] 1 (spHas C)) : FnOk P w K mg base CX0 2 f fd ["group", "p", "q"] (spRefQ C) := by
 obtain ⟨t1, c1⟩ := c.none_such
 obtain ⟨t2, c2⟩ := c.out_of_range
 refine F.ok scRefQ (fun vs H Q E h => ?_) (fun cdv A outer s H vs Q E hr h => ?_)
 ·obtain ⟨p, A, b, g, m, n, rfl, _⟩ := h
  rfl
 ·obtain ⟨p, A', b, g, m, n, rfl, B, k⟩ := h
  refine ⟨_, pss_cons (ps_if (PW.pt (pw_or (pt_not (pt_val (pe_mt M1 T.cl hr (pv 0) (pa_cons (pv 1) pa_nil)))) (pw_or1 (pt_not (pt_val (pe_mt M1 T.cl hr (pv 0) (pa_cons (pv 2) pa_nil))))))) (pss_one (ps_ret (pe_gint (by rfl) c1))) pss_nil)
   (pss_cons (ps_if (pt_cmpR op_eq (pv 1) (pv 2) (nomark _)) (pss_one (ps_ret (pe_gint (by rfl) c2))) pss_nil)
   (pss_one (ps_ret pe_int))), ?_⟩
  unfold refQ at k
  refine ⟨_, rfl, mG B (by decide +kernel) ⟨_, rfl, p, A', b, g, m, rfl, B, _, rfl, ?_⟩⟩
  refine ite2 (fun d => ?_) (fun d => ?_)
  ·rw [if_neg (fun h => by rw [decide_eq_true h.1] at d; cases d)] at k
   exact k
  ·have hm : m < g.heights.length := Decidable.byContradiction fun h => d (by rw [decide_eq_false h]; rfl)
   refine ⟨_, rfl, mG B (by decide +kernel) ⟨_, rfl, p, A', b, g, n, rfl, B, _, rfl, ?_⟩⟩
   refine ite2 (fun d2 => ?_) (fun d2 => ?_)
   ·rw [if_neg (fun h => by rw [decide_eq_true h.2] at d2; cases d2)] at k
    exact k
   ·have hn : n < g.heights.length := Decidable.byContradiction fun h => d2 (by rw [decide_eq_false h]; rfl)
    rw [if_pos ⟨hm, hn⟩] at k
    refine ⟨_, rfl, _, rfl, rfl, _, rfl, ?_⟩
    rw [iV_eq]
    refine ite2 (fun d3 => ?_) (fun d3 => ?_)
    ·rw [if_pos (of_decide_eq_true d3)] at k
     exact k
    ·rw [if_neg (fun h => d3 (decide_eq_true h))] at k
     exact k
end
end
section
section
variable {P : Program} {w : World} {K : PySem.W.Frag} {mg : Str -> Option Value} {base : Heap} {C : Addr}
def spCall (C : Addr) (mk : List Nat -> Option Su57.Call) : Sp := fun vs H Q _ => ∃ p A g a ad as x, vs = [.ref p, .ref ad] /\ GAt C H p A true g /\ Rel g a /\ H ad = some (.lst (nVs as)) /\ mk as = some x /\ ¬ Owns p A ad /\
 ∀ H' l, AnsAt C H H' p A (Su57.does a x).1 (Su57.does a x).2 l -> Q (.ref l) H'
def mk0 (x : Su57.Call) : List Nat -> Option Su57.Call
 | [] => some x
 | _ => none
def mk1 (f : Nat -> Su57.Call) : List Nat -> Option Su57.Call
 | [n] => some (f n)
 | _ => none
def mk2 (f : Nat -> Nat -> Su57.Call) : List Nat -> Option Su57.Call
 | [m, n] => some (f m n)
 | _ => none
def mk3 (f : Nat -> Nat -> Nat -> Su57.Call) : List Nat -> Option Su57.Call
 | [m, n, o] => some (f m n o)
 | _ => none
theorem mk0_is {x y : Su57.Call} {as : List Nat} (h : mk0 x as = some y) : as = [] /\ y = x := by
 match as, h with
 | [], h => exact ⟨rfl, (Option.some.inj h).symm⟩
theorem mk1_is {f : Nat -> Su57.Call} {y : Su57.Call} {as : List Nat} (h : mk1 f as = some y) : ∃ n, as = [n] /\ y = f n := by
 match as, h with
 | [n], h => exact ⟨n, rfl, (Option.some.inj h).symm⟩
theorem mk2_is {f : Nat -> Nat -> Su57.Call} {y : Su57.Call} {as : List Nat} (h : mk2 f as = some y) : ∃ m n, as = [m, n] /\ y = f m n := by
 match as, h with
 | [m, n], h => exact ⟨m, n, rfl, (Option.some.inj h).symm⟩
theorem mk3_is {f : Nat -> Nat -> Nat -> Su57.Call} {y : Su57.Call} {as : List Nat} (h : mk3 f as = some y) : ∃ m n o, as = [m, n, o] /\ y = f m n o := by
 match as, h with
 | [m, n, o], h => exact ⟨m, n, o, rfl, (Option.some.inj h).symm⟩
theorem spCall_len {C : Addr} {mk : List Nat -> Option Su57.Call} {ps : List Str} (hp : ps.length = 2) : ∀ vs H Q E, spCall C mk vs H Q E -> vs.length = ps.length := fun vs H Q E h => by
 obtain ⟨p, A, g, a, ad, as, x, rfl, _⟩ := h
 exact hp.symm
theorem Rel.isP_eq {g : G} {a : Su57.Abs} (R : Rel g a) (n : Nat) : a.isP n = decide (n < g.heights.length) := by unfold Su57.Abs.isP; rw [R.people]
theorem bit_eq (b : Bool) : (if b = true then (1 : Int) else 0) = Int.ofNat (Su57.bit b) := by cases b <;> rfl
theorem does_P {g : G} {a : Su57.Abs} (R : Rel g a) {α : Type} (n : Nat) (f : Int -> α) (r : α) :
  (if a.isP n = false then f (-2) else if a.placed n = false then f (-6) else r) = if refP g n = 0 then r else f (refP g n) := by
 rw [R.isP_eq, R.placed_eq]
 unfold refP
 by_cases h : n < g.heights.length
 ·rw [decide_eq_true h, if_neg (by decide), if_pos h]
  cases q : (g.spot n).isSome with
  | true => rfl
  | false => rfl
 ·rw [decide_eq_false h, if_pos rfl, if_neg h]
  rfl
theorem refP_ok {g : G} {n : Nat} (h : ¬ refP g n < 0) : refP g n = 0 /\ n < g.heights.length /\ (g.spot n).isSome = true := by
 unfold refP at h ⊢
 by_cases q : n < g.heights.length
 ·rw [if_pos q] at h ⊢
  cases s : (g.spot n).isSome with
  | true => exact ⟨rfl, q, rfl⟩
  | false => rw [s] at h; exact absurd (by decide) h
 ·rw [if_neg q] at h
  exact absurd (by decide) h
theorem refP_bad {g : G} {n : Nat} (h : refP g n < 0) : ¬ refP g n = 0 := by omega
theorem outs_map (l : List Nat) : (Su57Neutral.outs l).map V.int = nVs l := by
 unfold Su57Neutral.outs nVs
 rw [List.map_map]
 rfl
theorem scCSeen : FnScope ["group", "given", "p", "refusal"] ["group", "given"] (defScope (top 41)) := ⟨rfl, rfl, rfl, by decide +kernel, rfl, by decide +kernel, by decide +kernel⟩
theorem ok_cseen {f : Addr} {fd : FuncData} (F : Fun K "seen" "seen" (top 41) f fd) (T : Tx K mg C) (Fr : Fn P w K mg base "refuse_person" ["group", "p"] 2 (spRefP C)) (Ms : Mt P w K mg base C "is_seen" ["self", "p"] 5 (spSeen C)) : FnOk P w K mg base CX0 12 f fd ["group", "given"] (spCall C (mk1 .seen)) := by
 refine F.ok scCSeen (spCall_len rfl) (fun cdv A outer s H vs Q E hr h => ?_)
 obtain ⟨p, A', g, a, ad, as, x, rfl, B, R, hd, hx, no, k⟩ := h
 obtain ⟨n, rfl, rfl⟩ := mk1_is hx
 have W := R.wf
 refine ⟨_, pss_cons (ps_set (i := 2) scCSeen.nd rfl (Or.inl rfl) (pe_ix ix_list (pv 1) pe_int (fun _ _ => rfl)))
  (pss_cons (ps_set (i := 3) scCSeen.nd rfl (Or.inl rfl) (pe_fn Fr hr (by rfl) (pa_cons (pv 0) (pa_cons (pv 2) pa_nil))))
  (pss_cons (ps_if (pt_cmpR op_lt (pv 3) pe_int (nomark _)) (pss_one (ps_ret (pe_lst (pa_cons (pv 3) pa_nil)))) pss_nil)
  (pss_one (ps_ret (pe_lst (pa_cons (pe_callTy call_int1 (by rfl) T.int PyProof.Rows.boot_int (pa_cons (pe_mt Ms T.cl hr (pv 0) (pa_cons (pv 2) pa_nil)) pa_nil)) pa_nil)))))), ?_⟩
 have dd : Su57.does a (.seen n) = if refP g n = 0 then (a, Su57.num (Su57.bit (a.seen n)) []) else (a, Su57.no (refP g n)) := does_P R n (fun i => (a, Su57.no i)) _
 refine ⟨_, rfl, ixL (n := 0) hd rfl ⟨_, rfl, _, rfl, p, A', true, g, n, rfl, B, W, ?_⟩⟩
 refine ⟨_, rfl, _, _, rfl, rfl, _, rfl, ?_⟩
 refine ite2 (fun d => ?_) (fun d => ?_)
 ·have d := of_decide_eq_true d
  rw [if_neg (refP_bad d)] at dd
  rw [dd] at k
  refine ⟨_, rfl, by show 1 <= sizeLine; decide, fun l hl => k _ l (AnsAt.ro B R (Same.new hl) hl upd_same)⟩
 ·obtain ⟨d0, d1, d2⟩ := refP_ok (fun h => d (decide_eq_true h))
  rw [if_pos d0] at dd
  rw [dd] at k
  refine ⟨_, rfl, mG B (by decide +kernel) ⟨_, rfl, p, A', true, g, n, rfl, B, W, by rw [W.slen]; exact d1, fun H1 s1 => .inr ⟨_, rfl, by show 1 <= sizeLine; decide, fun l hl => ?_⟩⟩⟩
  refine k _ l (AnsAt.ro B R (s1.trans (Same.new hl)) (s1.free hl) ?_)
  rw [upd_same, R.seen_eq]
  show some (HO.lst [V.int (if g.seen n = true then 1 else 0)]) = some (HO.lst [V.int (Int.ofNat (Su57.bit (g.seen n)))])
  rw [bit_eq]
theorem scCHides : FnScope ["group", "given", "p", "refusal", "people"] ["group", "given"] (defScope (top 43)) := ⟨rfl, rfl, rfl, by decide +kernel, rfl, by decide +kernel, by decide +kernel⟩
theorem nums_ans (l : List Nat) : (ansInts (Su57.list l)).map V.int = [V.int (l.length : Nat)] ++ nVs l := by
 show V.int (Int.ofNat l.length) :: (Su57Neutral.outs l).map V.int = _
 rw [outs_map]
 rfl
theorem hiders_len (g : G) (W : WFG g) (n : Nat) : (g.hiders n).length <= 5 := by
 unfold G.hiders
 exact Nat.le_trans (List.length_filter_le _ _) (Nat.le_trans (colPeople_len g _) W.s5)
theorem ok_chides {f : Addr} {fd : FuncData} (F : Fun K "hides" "hides" (top 43) f fd) (T : Tx K mg C) (Fr : Fn P w K mg base "refuse_person" ["group", "p"] 2 (spRefP C)) (Mh : Mt P w K mg base C "hiders" ["self", "p"] 4 (spHiders C)) : FnOk P w K mg base CX0 12 f fd ["group", "given"] (spCall C (mk1 .hides)) := by
 refine F.ok scCHides (spCall_len rfl) (fun cdv A outer s H vs Q E hr h => ?_)
 obtain ⟨p, A', g, a, ad, as, x, rfl, B, R, hd, hx, no, k⟩ := h
 obtain ⟨n, rfl, rfl⟩ := mk1_is hx
 have W := R.wf
 refine ⟨_, pss_cons (ps_set (i := 2) scCHides.nd rfl (Or.inl rfl) (pe_ix ix_list (pv 1) pe_int (fun _ _ => rfl)))
  (pss_cons (ps_set (i := 3) scCHides.nd rfl (Or.inl rfl) (pe_fn Fr hr (by rfl) (pa_cons (pv 0) (pa_cons (pv 2) pa_nil))))
  (pss_cons (ps_if (pt_cmpR op_lt (pv 3) pe_int (nomark _)) (pss_one (ps_ret (pe_lst (pa_cons (pv 3) pa_nil)))) pss_nil)
  (pss_cons (ps_set (i := 4) scCHides.nd rfl (Or.inl rfl) (pe_mt Mh T.cl hr (pv 0) (pa_cons (pv 2) pa_nil)))
  (pss_one (ps_ret (pe_op op_cat (pe_lst (pa_cons (pe_callB call_len_seq (by rfl) T.len PySem.boot_len (pa_cons (pv 4) pa_nil)) pa_nil)) (pv 4))))))), ?_⟩
 have dd : Su57.does a (.hides n) = if refP g n = 0 then (a, Su57.list (a.hides n)) else (a, Su57.no (refP g n)) := does_P R n (fun i => (a, Su57.no i)) _
 refine ⟨_, rfl, ixL (n := 0) hd rfl ⟨_, rfl, _, rfl, p, A', true, g, n, rfl, B, W, ?_⟩⟩
 refine ⟨_, rfl, _, _, rfl, rfl, _, rfl, ?_⟩
 refine ite2 (fun d => ?_) (fun d => ?_)
 ·have d := of_decide_eq_true d
  rw [if_neg (refP_bad d)] at dd
  rw [dd] at k
  refine ⟨_, rfl, by show 1 <= sizeLine; decide, fun l hl => k _ l (AnsAt.ro B R (Same.new hl) hl upd_same)⟩
 ·obtain ⟨d0, d1, d2⟩ := refP_ok (fun h => d (decide_eq_true h))
  rw [if_pos d0, R.hides_eq n d2] at dd
  rw [dd] at k
  refine ⟨_, rfl, mG B (by decide +kernel) ⟨_, rfl, p, A', true, g, n, rfl, B, W, d2, fun H1 lp s1 hlp h1 => ?_⟩⟩
  refine ⟨_, rfl, lenL h1 ⟨by show 1 <= sizeLine; decide, fun l1 hl1 => ?_⟩⟩
  have s2 : Same H1 (upd H1 l1 (.lst [V.int ((nVs (g.hiders n)).length : Nat)])) := Same.new hl1
  have hl5 := hiders_len g W n
  refine ⟨_, rfl, l1, lp, _, _, rfl, rfl, upd_same, s2 _ _ h1, by rw [nVs_len]; show 1 + _ <= sizeLine; have := sizeLine_eq; omega, fun l hl => ?_⟩
  have s12 := s1.trans s2
  refine k _ l (AnsAt.ro B R (s12.trans (Same.new hl)) (s12.free hl) ?_)
  rw [upd_same, nums_ans, nVs_len]
theorem scCHidden : FnScope ["group", "given", "people"] ["group", "given"] (defScope (top 42)) := ⟨rfl, rfl, rfl, by decide +kernel, rfl, by decide +kernel, by decide +kernel⟩
theorem ok_chidden {f : Addr} {fd : FuncData} (F : Fun K "hidden" "hidden" (top 42) f fd) (T : Tx K mg C) (Mh : Mt P w K mg base C "hidden_people" ["self"] 6 (spHidden C)) : FnOk P w K mg base CX0 12 f fd ["group", "given"] (spCall C (mk0 .hidden)) := by
 refine F.ok scCHidden (spCall_len rfl) (fun cdv A outer s H vs Q E hr h => ?_)
 obtain ⟨p, A', g, a, ad, as, x, rfl, B, R, hd, hx, no, k⟩ := h
 obtain ⟨rfl, rfl⟩ := mk0_is hx
 have W := R.wf
 refine ⟨_, pss_cons (ps_set (i := 2) scCHidden.nd rfl (Or.inl rfl) (pe_mt0 Mh T.cl hr (pv 0)))
  (pss_one (ps_ret (pe_op op_cat (pe_lst (pa_cons (pe_callB call_len_seq (by rfl) T.len PySem.boot_len (pa_cons (pv 2) pa_nil)) pa_nil)) (pv 2)))), ?_⟩
 have dd : Su57.does a .hidden = (a, Su57.list g.hidden) := by show (a, Su57.list a.hidden) = _; rw [R.hidden_eq]
 rw [dd] at k
 refine ⟨_, rfl, mG B (by decide +kernel) ⟨p, A', true, g, rfl, B, W, fun H1 lp s1 hlp h1 => ?_⟩⟩
 refine ⟨_, rfl, lenL h1 ⟨by show 1 <= sizeLine; decide, fun l1 hl1 => ?_⟩⟩
 have s2 : Same H1 (upd H1 l1 (.lst [V.int ((nVs g.hidden).length : Nat)])) := Same.new hl1
 have hl5 : g.hidden.length <= 20 := by
  unfold G.hidden
  refine Nat.le_trans (List.length_filter_le _ _) ?_
  rw [List.length_range, W.slen]
  exact W.h20
 refine ⟨_, rfl, l1, lp, _, _, rfl, rfl, upd_same, s2 _ _ h1, by rw [nVs_len]; show 1 + _ <= sizeLine; have := sizeLine_eq; omega, fun l hl => ?_⟩
 have s12 := s1.trans s2
 refine k _ l (AnsAt.ro B R (s12.trans (Same.new hl)) (s12.free hl) ?_)
 rw [upd_same, nums_ans, nVs_len]
theorem scCAll : FnScope ["group", "given"] ["group", "given"] (defScope (top 44)) := ⟨rfl, rfl, rfl, by decide +kernel, rfl, by decide +kernel, by decide +kernel⟩
theorem ok_call {f : Addr} {fd : FuncData} (F : Fun K "everybody" "everybody" (top 44) f fd) (T : Tx K mg C) (Me : Mt P w K mg base C "everybody_is_seen" ["self"] 6 (spEvery C)) : FnOk P w K mg base CX0 12 f fd ["group", "given"] (spCall C (mk0 .all)) := by
 refine F.ok scCAll (spCall_len rfl) (fun cdv A outer s H vs Q E hr h => ?_)
 obtain ⟨p, A', g, a, ad, as, x, rfl, B, R, hd, hx, no, k⟩ := h
 obtain ⟨rfl, rfl⟩ := mk0_is hx
 refine ⟨_, pss_one (ps_ret (pe_lst (pa_cons (pe_callTy call_int1 (by rfl) T.int PyProof.Rows.boot_int (pa_cons (pe_mt0 Me T.cl hr (pv 0)) pa_nil)) pa_nil))), ?_⟩
 have dd : Su57.does a .all = (a, Su57.num (Su57.bit ((List.range g.spots.length).all g.seen)) []) := by show (a, Su57.num (Su57.bit (a.ps.all fun p => a.seen p)) []) = _; rw [R.all_eq]
 rw [dd] at k
 refine ⟨_, rfl, mG B (by decide +kernel) ⟨p, A', true, g, rfl, B, R.wf, fun H1 s1 => .inr ⟨_, rfl, by show 1 <= sizeLine; decide, fun l hl => ?_⟩⟩⟩
 refine k _ l (AnsAt.ro B R (s1.trans (Same.new hl)) (s1.free hl) ?_)
 rw [upd_same, bit_eq]
 rfl
theorem TL.len {H : Hp} {l : Addr} {ps : List (Nat × Nat)} (h : TL H l ps) : ∃ ys, H l = some (.lst ys) /\ ys.length = ps.length := by
 obtain ⟨zs, h1, h2, h3⟩ := h
 exact ⟨_, h1, by rw [h2, List.length_map, List.length_map]⟩
theorem scCMet : FnScope ["group", "given", "near_met", "apart_met", "near_told", "apart_told"] ["group", "given"] (defScope (top 45)) := ⟨rfl, rfl, rfl, by decide +kernel, rfl, by decide +kernel, by decide +kernel⟩
theorem ok_cmet {f : Addr} {fd : FuncData} (F : Fun K "met" "met" (top 45) f fd) (T : Tx K mg C) (M1 : Mt P w K mg base C "pairs_met" ["self", "word"] 4 (spPMet C)) (M2 : Mt P w K mg base C "pairs_told" ["self", "word"] 1 (spTold C)) : FnOk P w K mg base CX0 12 f fd ["group", "given"] (spCall C (mk0 .met)) := by
 obtain ⟨tn, hn⟩ := T.near
 obtain ⟨ta, ha⟩ := T.apart
 refine F.ok scCMet (spCall_len rfl) (fun cdv A outer s H vs Q E hr h => ?_)
 obtain ⟨p, A', g, a, ad, as, x, rfl, B, R, hd, hx, no, k⟩ := h
 obtain ⟨rfl, rfl⟩ := mk0_is hx
 refine ⟨_, pss_cons (ps_set (i := 2) scCMet.nd rfl (Or.inl rfl) (pe_callB call_len_seq (by rfl) T.len PySem.boot_len (pa_cons (pe_mt M1 T.cl hr (pv 0) (pa_cons (pe_gint (by rfl) hn) pa_nil)) pa_nil)))
  (pss_cons (ps_set (i := 3) scCMet.nd rfl (Or.inl rfl) (pe_callB call_len_seq (by rfl) T.len PySem.boot_len (pa_cons (pe_mt M1 T.cl hr (pv 0) (pa_cons (pe_gint (by rfl) ha) pa_nil)) pa_nil)))
  (pss_cons (ps_set (i := 4) scCMet.nd rfl (Or.inl rfl) (pe_callB call_len_seq (by rfl) T.len PySem.boot_len (pa_cons (pe_mt M2 T.cl hr (pv 0) (pa_cons (pe_gint (by rfl) hn) pa_nil)) pa_nil)))
  (pss_cons (ps_set (i := 5) scCMet.nd rfl (Or.inl rfl) (pe_callB call_len_seq (by rfl) T.len PySem.boot_len (pa_cons (pe_mt M2 T.cl hr (pv 0) (pa_cons (pe_gint (by rfl) ha) pa_nil)) pa_nil)))
  (pss_one (ps_ret (pe_lst (pa_cons (pe_op op_add (pv 2) (pv 3)) (pa_cons (pv 4) (pa_cons (pv 2) (pa_cons (pv 5) (pa_cons (pv 3) pa_nil))))))))))), ?_⟩
 have pl := R.pairs_le
 have hin : ∀ x ∈ g.pairs, x.1.1 < g.spots.length /\ x.1.2 < g.spots.length := fun x hx => by
  have := R.ord x hx
  have := R.slen
  omega
 refine ⟨_, rfl, mG B (by decide +kernel) ⟨p, A', true, g, 1, rfl, B, by omega, R.keys, hin, fun H1 l1 s1 hl1 t1 => ?_⟩⟩
 obtain ⟨y1, q1, r1⟩ := t1.len
 have B1 := B.same s1
 refine lenL q1 ⟨_, rfl, mG B1 (by decide +kernel) ⟨p, A', true, g, 2, rfl, B1, by omega, R.keys, hin, fun H2 l2 s2 hl2 t2 => ?_⟩⟩
 obtain ⟨y2, q2, r2⟩ := t2.len
 have B2 := B1.same s2
 refine lenL q2 ⟨_, rfl, mG B2 (by decide +kernel) ⟨p, A', true, g, 1, rfl, B2, by omega, R.keys, fun H3 l3 s3 hl3 t3 => ?_⟩⟩
 obtain ⟨y3, q3, r3⟩ := t3.len
 have B3 := B2.same s3
 refine lenL q3 ⟨_, rfl, mG B3 (by decide +kernel) ⟨p, A', true, g, 2, rfl, B3, by omega, R.keys, fun H4 l4 s4 hl4 t4 => ?_⟩⟩
 obtain ⟨y4, q4, r4⟩ := t4.len
 refine lenL q4 ?_
 refine ⟨_, rfl, _, rfl, _, _, rfl, rfl, _, rfl, _, rfl, _, rfl, _, rfl, by show 5 <= sizeLine; decide, fun l hl => ?_⟩
 have s14 := ((s1.trans s2).trans s3).trans s4
 refine k _ l (AnsAt.ro B R (s14.trans (Same.new hl)) (s14.free hl) ?_)
 rw [upd_same, r1, r2, r3, r4]
 show _ = some (HO.lst [V.int (Int.ofNat (a.metNear + a.metApart)), iV a.near.length, iV a.metNear, iV a.apart.length, iV a.metApart])
 rw [R.metNear_eq, R.metApart_eq, R.near, R.apart]
 rfl
theorem scCCol : FnScope ["group", "given", "standing", "order"] ["group", "given"] (defScope (top 46)) := ⟨rfl, rfl, rfl, by decide +kernel, rfl, by decide +kernel, by decide +kernel⟩
theorem col_row {g : G} {a : Su57.Abs} (R : Rel g a) (c : Nat) : ∀ (k : Nat) (r : Nat), (a.rowsOf c)[k]? = some r -> ∃ o, (g.colPeople c)[k]? = some o /\ g.spot o = some (r, c) := fun k r h => by
 rw [R.rowsOf_eq'] at h
 unfold G.rowsOf at h
 obtain ⟨o, e1, e2⟩ := filterMap_get (f := fun r => g.at? r c) _ k r h
 exact ⟨o, e2, at_spot e1⟩
theorem rowsOf_len {g : G} {a : Su57.Abs} (R : Rel g a) (c : Nat) : (a.rowsOf c).length = (g.colPeople c).length := by
 rw [R.rowsOf_eq']
 exact (filterMap_len (f := fun r => g.at? r c) _).symm
theorem clear_eq {g : G} {a : Su57.Abs} (R : Rel g a) (c : Nat) {o : List Nat} (hl : o.length = (g.colPeople c).length) : a.clear (a.rowsOf c) o = clearB g (headsOf g (stepsOf g (g.colPeople c)) o) := by
 have hh : ∀ k, k < o.length -> (headsOf g (stepsOf g (g.colPeople c)) o).getD k 0 = g.step ((a.rowsOf c).getD k 0) + g.height (o.getD k 0) := fun k hk => by
  unfold headsOf
  rw [List.getD_eq_getElem?_getD, List.getElem?_map, List.getElem?_range hk]
  show (stepsOf g (g.colPeople c)).getD k 0 + _ = _
  congr 1
  have hk' : k < (a.rowsOf c).length := by rw [rowsOf_len R]; omega
  obtain ⟨p, e1, e2⟩ := col_row R c k _ (List.getElem?_eq_getElem hk')
  unfold stepsOf
  rw [List.getD_eq_getElem?_getD, List.getElem?_map, e1, List.getD_eq_getElem?_getD, List.getElem?_eq_getElem hk']
  show g.step (g.row p) = g.step (a.rowsOf c)[k]
  rw [(spot_row e2).1]
 have hlen : (headsOf g (stepsOf g (g.colPeople c)) o).length = o.length := by unfold headsOf; rw [List.length_map, List.length_range]
 unfold Su57.Abs.clear clearB
 rw [hlen]
 rw [Bool.eq_iff_iff, List.all_eq_true, List.all_eq_true]
 have inner : ∀ j, j < o.length -> ((List.range j).all fun i => !(a.covers (o.getD i 0) (o.getD j 0) ((a.rowsOf c).getD i 0) ((a.rowsOf c).getD j 0))) = (List.range j).all fun i => !decide ((headsOf g (stepsOf g (g.colPeople c)) o).getD j 0 < (headsOf g (stepsOf g (g.colPeople c)) o).getD i 0 + g.face) := fun j hj => by
  rw [Bool.eq_iff_iff, List.all_eq_true, List.all_eq_true]
  constructor
  ·intro h i hi
   have hij := List.mem_range.mp hi
   have := h i hi
   rw [R.covers_eq] at this
   rw [hh j hj, hh i (by omega)]
   exact this
  ·intro h i hi
   have hij := List.mem_range.mp hi
   have := h i hi
   rw [hh j hj, hh i (by omega)] at this
   rw [R.covers_eq]
   exact this
 constructor
 ·intro h j hj
  rw [<- inner j (List.mem_range.mp hj)]
  exact h j hj
 ·intro h j hj
  rw [inner j (List.mem_range.mp hj)]
  exact h j hj
theorem best_eq {g : G} {a : Su57.Abs} (R : Rel g a) (c : Nat) : a.best c = leastF (Su57.moved (g.colPeople c)) ((Su57.allOrders (g.colPeople c)).filter fun o => clearB g (headsOf g (stepsOf g (g.colPeople c)) o)) := by
 unfold Su57.Abs.best
 rw [least_eq, R.column_eq]
 congr 1
 refine List.filter_congr fun o ho => ?_
 exact clear_eq R c (allOrders_len ho)
def AnsK (H H' : Hp) (r : Su57.Ans) (l : Addr) : Prop := KeepT H H' /\ Tb H' /\ H l = none /\ H' l = some (.lst ((ansInts r).map V.int))
theorem AnsK.ro {H H' : Hp} {p l : Addr} {A : GA} {g : G} {r : Su57.Ans} (B : GAt C H p A true g) (s : Same H H') (hl : H l = none) (h : H' l = some (.lst ((ansInts r).map V.int))) : AnsK H H' r l := ⟨Sr.Same.keepT s, B.tb.same s, hl, h⟩
theorem AnsK.kt {H H' : Hp} {l : Addr} {r : Su57.Ans} (k : KeepT H H') (t : Tb H') (hl : H l = none) (h : H' l = some (.lst ((ansInts r).map V.int))) : AnsK H H' r l := ⟨k, t, hl, h⟩
def spCallK (C : Addr) (mk : List Nat -> Option Su57.Call) : Sp := fun vs H Q _ => ∃ p A g a ad as x, vs = [.ref p, .ref ad] /\ GAt C H p A true g /\ Rel g a /\ H ad = some (.lst (nVs as)) /\ mk as = some x /\ ¬ Owns p A ad /\
 ∀ H' l, AnsK H H' (Su57.does a x).2 l -> Q (.ref l) H'
theorem spCallK_len {C : Addr} {mk : List Nat -> Option Su57.Call} {ps : List Str} (hp : ps.length = 2) : ∀ vs H Q E, spCallK C mk vs H Q E -> vs.length = ps.length := fun vs H Q E h => by
 obtain ⟨p, A, g, a, ad, as, x, rfl, _⟩ := h
 exact hp.symm
theorem spCallK_imp {C : Addr} {mk : List Nat -> Option Su57.Call} (hx : ∀ as x (a : Su57.Abs), mk as = some x -> (Su57.does a x).1 = a) : ∀ vs H Q E, spCall C mk vs H Q E -> spCallK C mk vs H Q E := fun vs H Q E h => by
 obtain ⟨p, A, g, a, ad, as, x, e, B, R, hd, hm, no, k⟩ := h
 refine ⟨p, A, g, a, ad, as, x, e, B, R, hd, hm, no, fun H' l AN => k H' l ?_⟩
 obtain ⟨k1, t1, hl, h1⟩ := AN
 rw [hx as x a hm]
 exact AnsAt.kt B R k1 t1 hl h1
theorem ok_ccol {f : Addr} {fd : FuncData} (F : Fun K "column" "column" (top 46) f fd) (T : Tx K mg C) (c : Tc mg) (M1 : Mt P w K mg base C "has_column" ["self", "column"] 1 (spHasCol C)) (M2 : Mt P w K mg base C "column_people" ["self", "column"] 2 (spCol C)) (M3 : Mt P w K mg base C "seen_order" ["self", "standing"] 5 (spSeenOrder C))
  (F2 : Fn P w K mg base "count_moved" ["standing", "order"] 1 spMoved) : FnOk P w K mg base CX0 11 f fd ["group", "given"] (spCallK C (mk1 .column)) := by
 obtain ⟨t1, c1⟩ := c.out_of_range
 obtain ⟨t2, c2⟩ := c.no_order
 refine F.ok scCCol (spCallK_len rfl) (fun cdv A outer s H vs Q E hr h => ?_)
 obtain ⟨p, A', g, a, ad, as, x, rfl, B, R, hd, hx, no, k⟩ := h
 obtain ⟨n, rfl, rfl⟩ := mk1_is hx
 have W := R.wf
 refine ⟨_, pss_cons (ps_if (pt_not (pt_val (pe_mt M1 T.cl hr (pv 0) (pa_cons (pe_ix ix_list (pv 1) pe_int (fun _ _ => rfl)) pa_nil)))) (pss_one (ps_ret (pe_lst (pa_cons (pe_gint (by rfl) c1) pa_nil)))) pss_nil)
  (pss_cons (ps_set (i := 2) scCCol.nd rfl (Or.inl rfl) (pe_mt M2 T.cl hr (pv 0) (pa_cons (pe_ix ix_list (pv 1) pe_int (fun _ _ => rfl)) pa_nil)))
  (pss_cons (ps_set (i := 3) scCCol.nd rfl (Or.inl rfl) (pe_mt M3 T.cl hr (pv 0) (pa_cons (pv 2) pa_nil)))
  (pss_cons (ps_if (pt_cmp (pc_isN (pv 3))) (pss_one (ps_ret (pe_lst (pa_cons (pe_gint (by rfl) c2) pa_nil)))) pss_nil)
  (pss_one (ps_ret (pe_op op_cat (pe_lst (pa_cons (pe_fn F2 hr (by rfl) (pa_cons (pv 2) (pa_cons (pv 3) pa_nil))) pa_nil)) (pv 3))))))), ?_⟩
 refine ⟨_, rfl, mG B (by decide +kernel) ⟨_, rfl, ixL (n := 0) hd rfl ⟨p, A', true, g, n, rfl, B, _, rfl, ?_⟩⟩⟩
 refine ite2 (fun d => ?_) (fun d => ?_)
 ·have dn : ¬ n < g.width := fun h => by rw [decide_eq_true h] at d; cases d
  have dd : Su57.does a (.column n) = (a, Su57.no (-22)) := by
   show (if a.width <= n then _ else _) = _
   rw [if_pos (by rw [R.width]; omega)]
  rw [dd] at k
  refine ⟨by show 1 <= sizeLine; decide, fun l hl => k _ l (AnsK.ro B (Same.new hl) hl upd_same)⟩
 ·have dn : n < g.width := Decidable.byContradiction fun h => d (by rw [decide_eq_false h]; rfl)
  have dd : Su57.does a (.column n) = (match a.best n with
   | none => (a, Su57.no (-33))
   | some l => (a, Su57.num (Su57.moved (a.column n) l) l)) := by
   show (if a.width <= n then _ else _) = _
   rw [if_neg (by rw [R.width]; omega)]
   rfl
  have cl5 := Nat.le_trans (colPeople_len g n) W.s5
  refine ⟨_, rfl, mG B (by decide +kernel) ⟨_, rfl, ixL (n := 0) hd rfl ⟨p, A', true, g, n, rfl, B, W, fun H1 lc s1 hlc h1 => ?_⟩⟩⟩
  have B1 := B.same s1
  refine ⟨_, rfl, mG B1 (by decide +kernel) ⟨_, rfl, p, A', true, g, lc, g.colPeople n, rfl, B1, W, h1, fun o ho => ?_, by omega, fun H3 v s3 t3 hb => ?_⟩⟩
  ·obtain ⟨r, _, e⟩ := col_mem ho
   rw [e]
   rfl
  have s13 : KeepT H H3 := (Sr.Same.keepT s1).trans s3
  rw [best_eq R n] at dd
  refine ⟨_, rfl, _, rfl, ?_⟩
  cases q : leastF (Su57.moved (g.colPeople n)) ((Su57.allOrders (g.colPeople n)).filter fun o => clearB g (headsOf g (stepsOf g (g.colPeople n)) o)) with
  | none =>
   rw [q] at hb dd
   rw [show v = .non from hb]
   rw [dd] at k
   exact ⟨by show 1 <= sizeLine; decide, fun l hl => k _ l (AnsK.kt (s13.trans (Sr.Same.keepT (Same.new hl))) (t3.same (Same.new hl)) (s13.free (t3.noN hl) hl) upd_same)⟩
  | some o =>
   rw [q] at hb dd
   obtain ⟨bo, rfl, hbo⟩ := hb
   rw [dd] at k
   have ol : o.length = (g.colPeople n).length := allOrders_len (List.mem_filter.mp (leastF_mem q)).1
   refine ⟨_, rfl, _, rfl, lc, bo, g.colPeople n, o, rfl, s3 _ _ h1 (B1.tb.no h1 (by intro ps z; cases z)), hbo, ol, by omega, fun H4 s4 => ?_⟩
   refine ⟨by show 1 <= sizeLine; decide, fun l1 hl1 => ?_⟩
   have s5 := Same.new (o := HO.lst [iV (Su57.moved (g.colPeople n) o)]) hl1
   refine ⟨_, rfl, l1, bo, _, _, rfl, rfl, upd_same, s5 _ _ (s4 _ _ hbo), by rw [nVs_len]; show 1 + _ <= sizeLine; have := sizeLine_eq; omega, fun l hl => ?_⟩
   have s45 := s4.trans s5
   have t5 := t3.same s45
   have s15 : KeepT H _ := s13.trans (Sr.Same.keepT s45)
   refine k _ l (AnsK.kt (s15.trans (Sr.Same.keepT (Same.new hl))) (t5.same (Same.new hl)) (s15.free (t5.noN hl) hl) ?_)
   rw [upd_same, R.column_eq]
   show _ = some (HO.lst (V.int _ :: (Su57Neutral.outs o).map V.int))
   rw [outs_map]
   rfl
end
end
section
section
variable {P : Program} {w : World} {K : PySem.W.Frag} {mg : Str -> Option Value} {base : Heap} {C : Addr}
theorem own_some {H : Hp} {p : Addr} {A : GA} {bb : Bool} {g : G} (B : GAt C H p A bb g) : ∀ b, Owns p A b -> ∃ o, H b = some o := fun b h => owns_some B h
theorem scCPerson : FnScope ["group", "given", "height"] ["group", "given"] (defScope (top 33)) := ⟨rfl, rfl, rfl, by decide +kernel, rfl, by decide +kernel, by decide +kernel⟩
theorem ok_cperson {f : Addr} {fd : FuncData} (F : Fun K "person" "person" (top 33) f fd) (T : Tx K mg C) (c : Tc mg) (Fw : Fn P w K mg base "is_within" ["number", "least", "most"] 1 spWithin) (Ma : Mt P w K mg base C "add_person" ["self", "height"] 1 (spAdd C)) : FnOk P w K mg base CX0 12 f fd ["group", "given"] (spCall C (mk1 .person)) := by
 obtain ⟨t1, c1⟩ := c.too_many
 obtain ⟨t2, c2⟩ := c.out_of_range
 obtain ⟨t3, c3⟩ := c.most_people
 refine F.ok scCPerson (spCall_len rfl) (fun cdv A outer s H vs Q E hr h => ?_)
 obtain ⟨p, A', g, a, ad, as, x, rfl, B, R, hd, hx, no, k⟩ := h
 obtain ⟨n, rfl, rfl⟩ := mk1_is hx
 have W := R.wf
 refine ⟨_, pss_cons (ps_set (i := 2) scCPerson.nd rfl (Or.inl rfl) (pe_ix ix_list (pv 1) pe_int (fun _ _ => rfl)))
  (pss_cons (ps_if (pt_cmpR op_ge (pe_callB call_len_seq (by rfl) T.len PySem.boot_len (pa_cons (pe_fld (pv 0) rfl) pa_nil)) (pe_gint (by rfl) c3) (nomark _)) (pss_one (ps_ret (pe_lst (pa_cons (pe_gint (by rfl) c1) pa_nil)))) pss_nil)
  (pss_cons (ps_if (pt_not (pt_val (pe_fn Fw hr (by rfl) (pa_cons (pv 2) (pa_cons pe_int (pa_cons pe_int pa_nil)))))) (pss_one (ps_ret (pe_lst (pa_cons (pe_gint (by rfl) c2) pa_nil)))) pss_nil)
  (pss_one (ps_ret (pe_lst (pa_cons (pe_mt Ma T.cl hr (pv 0) (pa_cons (pv 2) pa_nil)) pa_nil)))))), ?_⟩
 have dd : Su57.does a (.person n) = if 20 <= g.heights.length then (a, Su57.no (-28)) else if n < 50 ∨ 250 < n then (a, Su57.no (-22)) else ({ a with people := a.people ++ [n] }, Su57.num g.heights.length []) := by
  show (if 20 <= a.people.length then (a, Su57.no (-28)) else if n < 50 ∨ 250 < n then (a, Su57.no (-22)) else ({ a with people := a.people ++ [n] }, Su57.num a.people.length [])) = _
  rw [R.people]
 refine ⟨_, rfl, ixL (n := 0) hd rfl ⟨_, rfl, fH T B (lenL B.ht ⟨_, _, rfl, rfl, _, rfl, ?_⟩)⟩⟩
 rw [nVs_len]
 refine ite2 (fun d => ?_) (fun d => ?_)
 ·have d := of_decide_eq_true d
  rw [if_pos (by omega)] at dd
  rw [dd] at k
  exact ⟨by show 1 <= sizeLine; decide, fun l hl => k _ l (AnsAt.ro B R (Same.new hl) hl upd_same)⟩
 ·have d : ¬ 20 <= g.heights.length := fun h => d (decide_eq_true (by omega))
  rw [if_neg d] at dd
  refine ⟨_, rfl, n, 50, 250, rfl, _, rfl, ?_⟩
  refine ite2 (fun d2 => ?_) (fun d2 => ?_)
  ·have d2 : ¬ (50 <= n /\ n <= 250) := fun h => by rw [decide_eq_true h] at d2; cases d2
   rw [if_pos (by omega)] at dd
   rw [dd] at k
   exact ⟨by show 1 <= sizeLine; decide, fun l hl => k _ l (AnsAt.ro B R (Same.new hl) hl upd_same)⟩
  ·have d2 : 50 <= n /\ n <= 250 := Decidable.byContradiction fun h => d2 (by rw [decide_eq_false h]; rfl)
   rw [if_neg (by omega)] at dd
   rw [dd] at k
   refine ⟨_, rfl, mG B (by decide +kernel) ⟨_, rfl, p, A', true, g, n, rfl, B, W, fun H1 B1 kp => ⟨by show 1 <= sizeLine; decide, fun l hl => ?_⟩⟩⟩
   exact k _ l (AnsAt.mut B1 kp (own_some B) (R.addPerson n (by omega)) (Same.new hl) hl upd_same)
theorem scCPut : FnScope ["group", "given", "p", "row_number", "column_number"] ["group", "given"] (defScope (top 34)) := ⟨rfl, rfl, rfl, by decide +kernel, rfl, by decide +kernel, by decide +kernel⟩
theorem ok_cput {f : Addr} {fd : FuncData} (F : Fun K "put" "put" (top 34) f fd) (T : Tx K mg C) (c : Tc mg) (M1 : Mt P w K mg base C "has_person" ["self", "p"] 1 (spHas C)) (M2 : Mt P w K mg base C "has_row" ["self", "row"] 1 (spHasRow C)) (M3 : Mt P w K mg base C "has_column" ["self", "column"] 1 (spHasCol C))
  (M4 : Mt P w K mg base C "person_at" ["self", "row", "column"] 1 (spPersonAt C)) (M5 : Mt P w K mg base C "place" ["self", "p", "row", "column"] 1 (spPlace C)) (M6 : Mt P w K mg base C "is_seen" ["self", "p"] 5 (spSeen C)) : FnOk P w K mg base CX0 12 f fd ["group", "given"] (spCall C (mk3 .put)) := by
 obtain ⟨t1, c1⟩ := c.none_such
 obtain ⟨t2, c2⟩ := c.out_of_range
 obtain ⟨t3, c3⟩ := c.impossible
 refine F.ok scCPut (spCall_len rfl) (fun cdv A outer s H vs Q E hr h => ?_)
 obtain ⟨p, A', g, a, ad, as, x, rfl, B, R, hd, hx, no, k⟩ := h
 obtain ⟨n, r, cc, rfl, rfl⟩ := mk3_is hx
 have W := R.wf
 refine ⟨_, pss_cons (ps_set (i := 2) scCPut.nd rfl (Or.inl rfl) (pe_ix ix_list (pv 1) pe_int (fun _ _ => rfl)))
  (pss_cons (ps_set (i := 3) scCPut.nd rfl (Or.inl rfl) (pe_ix ix_list (pv 1) pe_int (fun _ _ => rfl)))
  (pss_cons (ps_set (i := 4) scCPut.nd rfl (Or.inl rfl) (pe_ix ix_list (pv 1) pe_int (fun _ _ => rfl)))
  (pss_cons (ps_if (pt_not (pt_val (pe_mt M1 T.cl hr (pv 0) (pa_cons (pv 2) pa_nil)))) (pss_one (ps_ret (pe_lst (pa_cons (pe_gint (by rfl) c1) pa_nil)))) pss_nil)
  (pss_cons (ps_if (PW.pt (pw_or (pt_not (pt_val (pe_mt M2 T.cl hr (pv 0) (pa_cons (pv 3) pa_nil)))) (pw_or1 (pt_not (pt_val (pe_mt M3 T.cl hr (pv 0) (pa_cons (pv 4) pa_nil))))))) (pss_one (ps_ret (pe_lst (pa_cons (pe_gint (by rfl) c2) pa_nil)))) pss_nil)
  (pss_cons (ps_if (pt_cmp (pc_notN (pe_mt M4 T.cl hr (pv 0) (pa_cons (pv 3) (pa_cons (pv 4) pa_nil))))) (pss_one (ps_ret (pe_lst (pa_cons (pe_gint (by rfl) c3) pa_nil)))) pss_nil)
  (pss_cons (ps_expr (pe_mt M5 T.cl hr (pv 0) (pa_cons (pv 2) (pa_cons (pv 3) (pa_cons (pv 4) pa_nil)))))
  (pss_one (ps_ret (pe_lst (pa_cons (pe_callTy call_int1 (by rfl) T.int PyProof.Rows.boot_int (pa_cons (pe_mt M6 T.cl hr (pv 0) (pa_cons (pv 2) pa_nil)) pa_nil)) pa_nil)))))))))), ?_⟩
 have dd : Su57.does a (.put n r cc) = if n < g.heights.length then (if r < g.steps.length /\ cc < g.width then (if (g.at? r cc).isSome = true then (a, Su57.no (-16)) else ((a.off n).put (r * a.width + cc) (n + 1), Su57.num (Su57.bit (((a.off n).put (r * a.width + cc) (n + 1)).seen n)) [])) else (a, Su57.no (-22))) else (a, Su57.no (-2)) := by
  show (if a.isP n = false then (a, Su57.no (-2)) else if a.rows <= r ∨ a.width <= cc then (a, Su57.no (-22)) else if a.cell r cc ≠ 0 then (a, Su57.no (-16)) else _) = _
  rw [R.isP_eq, R.rows, R.width, R.cell_eq]
  by_cases h1 : n < g.heights.length
  ·rw [decide_eq_true h1, if_neg (by decide), if_pos h1]
   by_cases h2 : r < g.steps.length /\ cc < g.width
   ·rw [if_neg (by omega), if_pos h2]
    cases q : g.at? r cc with
    | none => rw [if_neg (by simp [code]), if_neg (by simp)]
    | some y => rw [if_pos (by simp [code]), if_pos (by simp)]
   ·rw [if_pos (by omega), if_neg h2]
  ·rw [decide_eq_false h1, if_pos rfl, if_neg h1]
 refine ⟨_, rfl, ixL (n := 0) hd rfl ⟨_, rfl, ixL (n := 1) hd rfl ⟨_, rfl, ixL (n := 2) hd rfl ?_⟩⟩⟩
 refine ⟨_, rfl, mG B (by decide +kernel) ⟨_, rfl, p, A', true, g, n, rfl, B, _, rfl, ?_⟩⟩
 refine ite2 (fun d => ?_) (fun d => ?_)
 ·have d : ¬ n < g.heights.length := fun h => by rw [decide_eq_true h] at d; cases d
  rw [if_neg d] at dd
  rw [dd] at k
  exact ⟨by show 1 <= sizeLine; decide, fun l hl => k _ l (AnsAt.ro B R (Same.new hl) hl upd_same)⟩
 have d : n < g.heights.length := Decidable.byContradiction fun h => d (by rw [decide_eq_false h]; rfl)
 rw [if_pos d] at dd
 have refuse : ¬ (r < g.steps.length /\ cc < g.width) -> ∀ l, H l = none -> Q (.ref l) (upd H l (.lst [V.int (-22)])) := fun h l hl => by
  rw [if_neg h] at dd
  rw [dd] at k
  exact k _ l (AnsAt.ro B R (Same.new hl) hl upd_same)
 refine ⟨_, rfl, mG B (by decide +kernel) ⟨_, rfl, p, A', true, g, r, rfl, B, _, rfl, ?_⟩⟩
 refine ite2 (fun d2 => ?_) (fun d2 => ?_)
 ·have d2 : ¬ r < g.steps.length := fun h => by rw [decide_eq_true h] at d2; cases d2
  exact ⟨by show 1 <= sizeLine; decide, refuse (fun h => d2 h.1)⟩
 have d2 : r < g.steps.length := Decidable.byContradiction fun h => d2 (by rw [decide_eq_false h]; rfl)
 refine ⟨_, rfl, mG B (by decide +kernel) ⟨_, rfl, p, A', true, g, cc, rfl, B, _, rfl, ?_⟩⟩
 refine ite2 (fun d3 => ?_) (fun d3 => ?_)
 ·have d3 : ¬ cc < g.width := fun h => by rw [decide_eq_true h] at d3; cases d3
  exact ⟨by show 1 <= sizeLine; decide, refuse (fun h => d3 h.2)⟩
 have d3 : cc < g.width := Decidable.byContradiction fun h => d3 (by rw [decide_eq_false h]; rfl)
 rw [if_pos ⟨d2, d3⟩] at dd
 refine ⟨_, rfl, mG B (by decide +kernel) ⟨_, rfl, _, rfl, p, A', true, g, r, cc, rfl, B, by rw [W.slen]; exact W.h20, fun H1 s1 => ⟨_, rfl, ?_⟩⟩⟩
 have B1 := B.same s1
 cases q : g.at? r cc with
 | some y =>
  rw [q, if_pos (by rfl)] at dd
  rw [dd] at k
  exact ⟨by show 1 <= sizeLine; decide, fun l hl => k _ l (AnsAt.ro B R (s1.trans (Same.new hl)) (s1.free hl) upd_same)⟩
 | none =>
  rw [q, if_neg (by simp)] at dd
  rw [dd] at k
  have R2 := R.put d d2 d3 q
  refine ⟨_, rfl, mG B1 (by decide +kernel) ⟨_, rfl, _, rfl, _, rfl, p, A', true, g, n, r, cc, rfl, B1, by rw [W.slen]; exact d, fun H2 B2 kp => ?_⟩⟩
  refine ⟨_, rfl, mG B2 (by decide +kernel) ⟨_, rfl, p, A', true, _, n, rfl, B2, R2.wf, by rw [R2.wf.slen]; exact d, fun H3 s3 => .inr ⟨_, rfl, by show 1 <= sizeLine; decide, fun l hl => ?_⟩⟩⟩
  refine k _ l (AnsAt.mut B2 ((Same.keep s1).trans kp) (own_some B) R2 (s3.trans (Same.new hl)) (s3.free hl) ?_)
  rw [upd_same, R2.seen_eq, bit_eq]
  rfl
theorem scCOff : FnScope ["group", "given", "p", "refusal", "spot"] ["group", "given"] (defScope (top 35)) := ⟨rfl, rfl, rfl, by decide +kernel, rfl, by decide +kernel, by decide +kernel⟩
theorem ok_coff {f : Addr} {fd : FuncData} (F : Fun K "off" "off" (top 35) f fd) (T : Tx K mg C) (Fr : Fn P w K mg base "refuse_person" ["group", "p"] 2 (spRefP C)) (Mo : Mt P w K mg base C "take_off" ["self", "p"] 1 (spOff C)) : FnOk P w K mg base CX0 12 f fd ["group", "given"] (spCall C (mk1 .off)) := by
 refine F.ok scCOff (spCall_len rfl) (fun cdv A outer s H vs Q E hr h => ?_)
 obtain ⟨p, A', g, a, ad, as, x, rfl, B, R, hd, hx, no, k⟩ := h
 obtain ⟨n, rfl, rfl⟩ := mk1_is hx
 have W := R.wf
 refine ⟨_, pss_cons (ps_set (i := 2) scCOff.nd rfl (Or.inl rfl) (pe_ix ix_list (pv 1) pe_int (fun _ _ => rfl)))
  (pss_cons (ps_set (i := 3) scCOff.nd rfl (Or.inl rfl) (pe_fn Fr hr (by rfl) (pa_cons (pv 0) (pa_cons (pv 2) pa_nil))))
  (pss_cons (ps_if (pt_cmpR op_lt (pv 3) pe_int (nomark _)) (pss_one (ps_ret (pe_lst (pa_cons (pv 3) pa_nil)))) pss_nil)
  (pss_cons (ps_set (i := 4) scCOff.nd rfl (Or.inl rfl) (pe_ix ix_list (pe_fld (pv 0) rfl) (pv 2) (fun _ _ => rfl)))
  (pss_cons (ps_expr (pe_mt Mo T.cl hr (pv 0) (pa_cons (pv 2) pa_nil)))
  (pss_one (ps_ret (pe_callTy call_list_of (by rfl) T.list PyProof.Rows.boot_list (pa_cons (pv 4) pa_nil)))))))), ?_⟩
 have dd : Su57.does a (.off n) = if refP g n = 0 then (a.off n, Su57.num (a.rowOf n) [a.colOf n]) else (a, Su57.no (refP g n)) := does_P R n (fun i => (a, Su57.no i)) _
 refine ⟨_, rfl, ixL (n := 0) hd rfl ⟨_, rfl, _, rfl, p, A', true, g, n, rfl, B, W, ?_⟩⟩
 refine ⟨_, rfl, _, _, rfl, rfl, _, rfl, ?_⟩
 refine ite2 (fun d => ?_) (fun d => ?_)
 ·have d := of_decide_eq_true d
  rw [if_neg (refP_bad d)] at dd
  rw [dd] at k
  refine ⟨_, rfl, by show 1 <= sizeLine; decide, fun l hl => k _ l (AnsAt.ro B R (Same.new hl) hl upd_same)⟩
 ·obtain ⟨d0, d1, d2⟩ := refP_ok (fun h => d (decide_eq_true h))
  rw [if_pos d0] at dd
  rw [dd] at k
  obtain ⟨⟨r, c⟩, e⟩ := Option.isSome_iff_exists.mp d2
  obtain ⟨vs, t, h1, h2, h3⟩ := B.row e
  have hs : n < g.spots.length := spot_lt e
  refine ⟨_, rfl, fP T B ⟨_, rfl, ixL h1 h2 ?_⟩⟩
  refine ⟨_, rfl, mG B (by decide +kernel) ⟨_, rfl, p, A', true, g, n, rfl, B, hs, fun H1 B1 kp => ?_⟩⟩
  have nt : ¬ Owns p A' t := fun ho => by
   obtain ⟨dx, o1⟩ := B.ob
   obtain ⟨vs', o2, _⟩ := B.sp
   rcases ho with rfl | rfl | rfl | rfl | rfl
   ·rw [o1] at h3; cases h3
   ·rw [B.st] at h3; cases h3
   ·rw [B.ht] at h3; cases h3
   ·rw [o2] at h3; cases h3
   ·rw [B.pr] at h3; cases h3
  have h3' := kp t _ h3 nt (B.tb.no h3 (by intro ps z; cases z))
  refine ⟨_, rfl, t, _, rfl, .inr (SqT.of h3'), fun l hl => ?_⟩
  refine k _ l (AnsAt.mut B1 kp (own_some B) (R.off d1) (Same.new hl) hl ?_)
  rw [upd_same, R.rowOf_eq, R.colOf_eq, (spot_row e).1, (spot_row e).2]
  rfl
theorem refQ_ok {g : G} {m n : Nat} (h : ¬ refQ g m n < 0) : refQ g m n = 0 /\ m < g.heights.length /\ n < g.heights.length /\ m ≠ n := by
 unfold refQ at h ⊢
 by_cases q : m < g.heights.length /\ n < g.heights.length
 ·rw [if_pos q] at h ⊢
  by_cases s : m = n
  ·rw [if_pos s] at h
   exact absurd (by decide) h
  ·rw [if_neg s]
   exact ⟨rfl, q.1, q.2, s⟩
 ·rw [if_neg q] at h
  exact absurd (by decide) h
theorem does_Q {g : G} {a : Su57.Abs} (R : Rel g a) {α : Type} (m n : Nat) (f : Int -> α) (r : α) :
  (if a.isP m = false ∨ a.isP n = false then f (-2) else if m = n then f (-22) else r) = if refQ g m n = 0 then r else f (refQ g m n) := by
 rw [R.isP_eq, R.isP_eq]
 unfold refQ
 by_cases h : m < g.heights.length /\ n < g.heights.length
 ·rw [decide_eq_true h.1, decide_eq_true h.2, if_neg (by decide), if_pos h]
  by_cases q : m = n
  ·rw [if_pos q, if_pos q]; rfl
  ·rw [if_neg q, if_neg q]; rfl
 ·rw [if_neg h]
  have : decide (m < g.heights.length) = false ∨ decide (n < g.heights.length) = false := by
   by_cases h1 : m < g.heights.length
   ·exact .inr (decide_eq_false fun h2 => h ⟨h1, h2⟩)
   ·exact .inl (decide_eq_false h1)
  rw [if_pos this]
  rfl
theorem scCSwap : FnScope ["group", "given", "p", "q", "refusal"] ["group", "given"] (defScope (top 36)) := ⟨rfl, rfl, rfl, by decide +kernel, rfl, by decide +kernel, by decide +kernel⟩
theorem ok_cswap {f : Addr} {fd : FuncData} (F : Fun K "swap" "swap" (top 36) f fd) (T : Tx K mg C) (c : Tc mg) (Fr : Fn P w K mg base "refuse_pair" ["group", "p", "q"] 2 (spRefQ C)) (Mp : Mt P w K mg base C "is_placed" ["self", "p"] 1 (spPlaced C)) (Ms : Mt P w K mg base C "change_places" ["self", "p", "q"] 1 (spSwap C)) :
  FnOk P w K mg base CX0 12 f fd ["group", "given"] (spCall C (mk2 .swap)) := by
 obtain ⟨t1, c1⟩ := c.not_placed
 refine F.ok scCSwap (spCall_len rfl) (fun cdv A outer s H vs Q E hr h => ?_)
 obtain ⟨p, A', g, a, ad, as, x, rfl, B, R, hd, hx, no, k⟩ := h
 obtain ⟨m, n, rfl, rfl⟩ := mk2_is hx
 have W := R.wf
 refine ⟨_, pss_cons (ps_set (i := 2) scCSwap.nd rfl (Or.inl rfl) (pe_ix ix_list (pv 1) pe_int (fun _ _ => rfl)))
  (pss_cons (ps_set (i := 3) scCSwap.nd rfl (Or.inl rfl) (pe_ix ix_list (pv 1) pe_int (fun _ _ => rfl)))
  (pss_cons (ps_set (i := 4) scCSwap.nd rfl (Or.inl rfl) (pe_fn Fr hr (by rfl) (pa_cons (pv 0) (pa_cons (pv 2) (pa_cons (pv 3) pa_nil)))))
  (pss_cons (ps_if (pt_cmpR op_lt (pv 4) pe_int (nomark _)) (pss_one (ps_ret (pe_lst (pa_cons (pv 4) pa_nil)))) pss_nil)
  (pss_cons (ps_if (PW.pt (pw_or (pt_not (pt_val (pe_mt Mp T.cl hr (pv 0) (pa_cons (pv 2) pa_nil)))) (pw_or1 (pt_not (pt_val (pe_mt Mp T.cl hr (pv 0) (pa_cons (pv 3) pa_nil))))))) (pss_one (ps_ret (pe_lst (pa_cons (pe_gint (by rfl) c1) pa_nil)))) pss_nil)
  (pss_cons (ps_expr (pe_mt Ms T.cl hr (pv 0) (pa_cons (pv 2) (pa_cons (pv 3) pa_nil))))
  (pss_one (ps_ret (pe_lst (pa_cons pe_int pa_nil))))))))), ?_⟩
 have dd : Su57.does a (.swap m n) = if refQ g m n = 0 then (if a.placed m = false ∨ a.placed n = false then (a, Su57.no (-6)) else ((a.put ((a.place m).getD 0) (n + 1)).put ((a.place n).getD 0) (m + 1), Su57.no 0)) else (a, Su57.no (refQ g m n)) := does_Q R m n (fun i => (a, Su57.no i)) _
 refine ⟨_, rfl, ixL (n := 0) hd rfl ⟨_, rfl, ixL (n := 1) hd rfl ⟨_, rfl, _, rfl, _, rfl, p, A', true, g, m, n, rfl, B, ?_⟩⟩⟩
 refine ⟨_, rfl, _, _, rfl, rfl, _, rfl, ?_⟩
 refine ite2 (fun d => ?_) (fun d => ?_)
 ·have d := of_decide_eq_true d
  rw [if_neg (by omega)] at dd
  rw [dd] at k
  refine ⟨_, rfl, by show 1 <= sizeLine; decide, fun l hl => k _ l (AnsAt.ro B R (Same.new hl) hl upd_same)⟩
 obtain ⟨d0, d1, d2, d3⟩ := refQ_ok (fun h => d (decide_eq_true h))
 rw [if_pos d0, R.placed_eq, R.placed_eq] at dd
 have refuse : ((g.spot m).isSome = false ∨ (g.spot n).isSome = false) -> ∀ l, H l = none -> Q (.ref l) (upd H l (.lst [V.int (-6)])) := fun h l hl => by
  rw [if_pos h] at dd
  rw [dd] at k
  exact k _ l (AnsAt.ro B R (Same.new hl) hl upd_same)
 have hm : m < g.spots.length := by rw [W.slen]; exact d1
 have hn : n < g.spots.length := by rw [W.slen]; exact d2
 refine ⟨_, rfl, mG B (by decide +kernel) ⟨_, rfl, p, A', true, g, m, rfl, B, hm, _, rfl, ?_⟩⟩
 cases q1 : (g.spot m).isSome with
 | false => exact ⟨by show 1 <= sizeLine; decide, refuse (.inl q1)⟩
 | true =>
  refine ⟨_, rfl, mG B (by decide +kernel) ⟨_, rfl, p, A', true, g, n, rfl, B, hn, _, rfl, ?_⟩⟩
  cases q2 : (g.spot n).isSome with
  | false => exact ⟨by show 1 <= sizeLine; decide, refuse (.inr q2)⟩
  | true =>
   rw [if_neg (by rw [q1, q2]; decide)] at dd
   rw [dd] at k
   obtain ⟨x, ex⟩ := Option.isSome_iff_exists.mp q1
   obtain ⟨y, ey⟩ := Option.isSome_iff_exists.mp q2
   refine ⟨_, rfl, mG B (by decide +kernel) ⟨_, rfl, _, rfl, p, A', true, g, m, n, rfl, B, hm, hn, fun H1 B1 kp => ⟨by show 1 <= sizeLine; decide, fun l hl => ?_⟩⟩⟩
   exact k _ l (AnsAt.mut B1 kp (own_some B) (R.swap d3 ex ey) (Same.new hl) hl upd_same)
end
end
section
section
variable {P : Program} {w : World} {K : PySem.W.Frag} {mg : Str -> Option Value} {base : Heap} {C : Addr}
theorem pair_eq {m n : Nat} (h : m ≠ n) : Su57.pair m n = pairN m n := by
 unfold Su57.pair pairN
 split
 ·exact Prod.ext (by show m = min m n; omega) (by show n = max m n; omega)
 ·exact Prod.ext (by show n = min m n; omega) (by show m = max m n; omega)
theorem pairN_ok {m n k : Nat} (h : m ≠ n) (h1 : m < k) (h2 : n < k) : (pairN m n).1 < (pairN m n).2 /\ (pairN m n).2 < k := by
 unfold pairN
 constructor
 ·show min m n < max m n; omega
 ·show max m n < k; omega
def tellCall (wd m n : Nat) : Su57.Call := if wd = 1 then .wish m n else .apart m n
def spTellPair (C : Addr) : Sp := fun vs H Q _ => ∃ p A g a ad m n wd, vs = [.ref p, .ref ad, iV wd] /\ (wd = 1 ∨ wd = 2) /\ GAt C H p A true g /\ Rel g a /\ H ad = some (.lst (nVs [m, n])) /\ ¬ Owns p A ad /\
 ∀ H' l, AnsAt C H H' p A (Su57.does a (tellCall wd m n)).1 (Su57.does a (tellCall wd m n)).2 l -> Q (.ref l) H'
theorem does_tell {g : G} {a : Su57.Abs} (R : Rel g a) {m n wd : Nat} (hw : wd = 1 ∨ wd = 2) : Su57.does a (tellCall wd m n) = if refQ g m n = 0 then (match g.toldOf (pairN m n) with
  | some v => if v = wd then (a, Su57.no (-17)) else (a, Su57.no (-16))
  | none => (if wd = 1 then { a with near := a.near ++ [pairN m n] } else { a with apart := a.apart ++ [pairN m n] }, Su57.num ((g.told wd).length + 1) [])) else (a, Su57.no (refQ g m n)) := by
 have key : ∀ r : Su57.Abs × Su57.Ans, (a.pairs m n fun _ => r) = if refQ g m n = 0 then r else (a, Su57.no (refQ g m n)) := fun r => does_Q R m n (fun i => (a, Su57.no i)) r
 have hn : a.near.length = (g.told 1).length := by rw [R.near]; rfl
 have ha : a.apart.length = (g.told 2).length := by rw [R.apart]; rfl
 rcases hw with rfl | rfl
 ·show a.pairs m n (fun x => if a.near.contains x then (a, Su57.no (-17)) else if a.apart.contains x then (a, Su57.no (-16)) else ({ a with near := a.near ++ [x] }, Su57.num (a.near.length + 1) [])) = _
  by_cases h : refQ g m n = 0
  ·have hq := refQ_ok (g := g) (m := m) (n := n) (by omega)
   rw [if_pos h]
   have e := key ((fun x => if a.near.contains x then (a, Su57.no (-17)) else if a.apart.contains x then (a, Su57.no (-16)) else ({ a with near := a.near ++ [x] }, Su57.num (a.near.length + 1) [])) (Su57.pair m n))
   rw [if_pos h] at e
   refine Eq.trans ?_ (e.trans ?_)
   ·rfl
   ·show (if a.near.contains (Su57.pair m n) then _ else if a.apart.contains (Su57.pair m n) then _ else _) = _
    rw [pair_eq hq.2.2.2, R.near_has, R.apart_has, hn]
    cases q : g.toldOf (pairN m n) with
    | none => rfl
    | some v =>
     rcases R.told_vals q with rfl | rfl
     ·rfl
     ·rfl
  ·have e := key (a, Su57.no 0)
   rw [if_neg h] at e ⊢
   rw [<- e]
   unfold Su57.Abs.pairs
   unfold Su57.Abs.pairs at e
   by_cases h1 : a.isP m = false ∨ a.isP n = false
   ·rw [if_pos h1, if_pos h1]
   ·rw [if_neg h1, if_neg h1]
    by_cases h2 : m = n
    ·rw [if_pos h2, if_pos h2]
    ·exfalso
     apply h
     rw [R.isP_eq, R.isP_eq] at h1
     unfold refQ
     rw [if_pos (by
      constructor
      ·exact Decidable.byContradiction fun z => h1 (.inl (decide_eq_false z))
      ·exact Decidable.byContradiction fun z => h1 (.inr (decide_eq_false z))), if_neg h2]
 ·show a.pairs m n (fun x => if a.apart.contains x then (a, Su57.no (-17)) else if a.near.contains x then (a, Su57.no (-16)) else ({ a with apart := a.apart ++ [x] }, Su57.num (a.apart.length + 1) [])) = _
  by_cases h : refQ g m n = 0
  ·have hq := refQ_ok (g := g) (m := m) (n := n) (by omega)
   rw [if_pos h]
   have e := key ((fun x => if a.apart.contains x then (a, Su57.no (-17)) else if a.near.contains x then (a, Su57.no (-16)) else ({ a with apart := a.apart ++ [x] }, Su57.num (a.apart.length + 1) [])) (Su57.pair m n))
   rw [if_pos h] at e
   refine Eq.trans ?_ (e.trans ?_)
   ·rfl
   ·show (if a.apart.contains (Su57.pair m n) then _ else if a.near.contains (Su57.pair m n) then _ else _) = _
    rw [pair_eq hq.2.2.2, R.near_has, R.apart_has, ha]
    cases q : g.toldOf (pairN m n) with
    | none => rfl
    | some v =>
     rcases R.told_vals q with rfl | rfl
     ·rfl
     ·rfl
  ·have e := key (a, Su57.no 0)
   rw [if_neg h] at e ⊢
   rw [<- e]
   unfold Su57.Abs.pairs
   by_cases h1 : a.isP m = false ∨ a.isP n = false
   ·rw [if_pos h1, if_pos h1]
   ·rw [if_neg h1, if_neg h1]
    by_cases h2 : m = n
    ·rw [if_pos h2, if_pos h2]
    ·exfalso
     apply h
     rw [R.isP_eq, R.isP_eq] at h1
     unfold refQ
     rw [if_pos (by
      constructor
      ·exact Decidable.byContradiction fun z => h1 (.inl (decide_eq_false z))
      ·exact Decidable.byContradiction fun z => h1 (.inr (decide_eq_false z))), if_neg h2]
theorem scCTell : FnScope ["group", "given", "word", "p", "q", "refusal", "told"] ["group", "given", "word"] (defScope (top 37)) := ⟨rfl, rfl, rfl, by decide +kernel, rfl, by decide +kernel, by decide +kernel⟩
theorem told_tell {g : G} {x : Nat × Nat} {wd : Nat} : (g.tell x wd).told wd = g.told wd ++ [x] := by
 unfold G.told G.tell
 show (((g.pairs ++ [(x, wd)]).filter _).map _) = _
 rw [List.filter_append, List.map_append]
 congr 1
 rw [List.filter_cons, if_pos (by simp)]
 rfl
theorem ok_ctell {f : Addr} {fd : FuncData} (F : Fun K "tell_pair" "tell_pair" (top 37) f fd) (T : Tx K mg C) (c : Tc mg) (Fr : Fn P w K mg base "refuse_pair" ["group", "p", "q"] 2 (spRefQ C)) (M1 : Mt P w K mg base C "told_of" ["self", "p", "q"] 2 (spToldOf C))
  (M2 : Mt P w K mg base C "tell" ["self", "p", "q", "word"] 2 (spTell C)) (M3 : Mt P w K mg base C "pairs_told" ["self", "word"] 1 (spTold C)) : FnOk P w K mg base CX0 5 f fd ["group", "given", "word"] (spTellPair C) := by
 obtain ⟨t1, c1⟩ := c.so_already
 obtain ⟨t2, c2⟩ := c.impossible
 refine F.ok scCTell (fun vs H Q E h => ?_) (fun cdv A outer s H vs Q E hr h => ?_)
 ·obtain ⟨p, A, g, a, ad, m, n, wd, rfl, _⟩ := h
  rfl
 obtain ⟨p, A', g, a, ad, m, n, wd, rfl, hw, B, R, hd, no, k⟩ := h
 have W := R.wf
 refine ⟨_, pss_cons (ps_set (i := 3) scCTell.nd rfl (Or.inl rfl) (pe_ix ix_list (pv 1) pe_int (fun _ _ => rfl)))
  (pss_cons (ps_set (i := 4) scCTell.nd rfl (Or.inl rfl) (pe_ix ix_list (pv 1) pe_int (fun _ _ => rfl)))
  (pss_cons (ps_set (i := 5) scCTell.nd rfl (Or.inl rfl) (pe_fn Fr hr (by rfl) (pa_cons (pv 0) (pa_cons (pv 3) (pa_cons (pv 4) pa_nil)))))
  (pss_cons (ps_if (pt_cmpR op_lt (pv 5) pe_int (nomark _)) (pss_one (ps_ret (pe_lst (pa_cons (pv 5) pa_nil)))) pss_nil)
  (pss_cons (ps_set (i := 6) scCTell.nd rfl (Or.inl rfl) (pe_mt M1 T.cl hr (pv 0) (pa_cons (pv 3) (pa_cons (pv 4) pa_nil))))
  (pss_cons (ps_if (pt_cmpR op_eq (pv 6) (pv 2) (nomark _)) (pss_one (ps_ret (pe_lst (pa_cons (pe_gint (by rfl) c1) pa_nil)))) pss_nil)
  (pss_cons (ps_if (pt_cmp (pc_notN (pv 6))) (pss_one (ps_ret (pe_lst (pa_cons (pe_gint (by rfl) c2) pa_nil)))) pss_nil)
  (pss_cons (ps_expr (pe_mt M2 T.cl hr (pv 0) (pa_cons (pv 3) (pa_cons (pv 4) (pa_cons (pv 2) pa_nil)))))
  (pss_one (ps_ret (pe_lst (pa_cons (pe_callB call_len_seq (by rfl) T.len PySem.boot_len (pa_cons (pe_mt M3 T.cl hr (pv 0) (pa_cons (pv 2) pa_nil)) pa_nil)) pa_nil))))))))))), ?_⟩
 have dd := does_tell R (m := m) (n := n) hw
 refine ⟨_, rfl, ixL (n := 0) hd rfl ⟨_, rfl, ixL (n := 1) hd rfl ⟨_, rfl, _, rfl, _, rfl, p, A', true, g, m, n, rfl, B, ?_⟩⟩⟩
 refine ⟨_, rfl, _, _, rfl, rfl, _, rfl, ?_⟩
 refine ite2 (fun d => ?_) (fun d => ?_)
 ·have d := of_decide_eq_true d
  rw [if_neg (by omega)] at dd
  rw [dd] at k
  refine ⟨_, rfl, by show 1 <= sizeLine; decide, fun l hl => k _ l (AnsAt.ro B R (Same.new hl) hl upd_same)⟩
 obtain ⟨d0, d1, d2, d3⟩ := refQ_ok (fun h => d (decide_eq_true h))
 rw [if_pos d0] at dd
 refine ⟨_, rfl, mG B (by decide +kernel) ⟨_, rfl, _, rfl, p, A', true, g, m, n, rfl, B, fun H1 s1 => ?_⟩⟩
 have B1 := B.same s1
 cases q : g.toldOf (pairN m n) with
 | some v =>
  rw [q] at dd
  have dd : Su57.does a (tellCall wd m n) = if v = wd then (a, Su57.no (-17)) else (a, Su57.no (-16)) := dd
  refine ⟨_, rfl, _, rfl, rfl, _, rfl, ?_⟩
  show if decide (iV v = iV wd) = true then _ else _
  rw [iV_eq]
  refine ite2 (fun d => ?_) (fun d => ?_)
  ·rw [if_pos (of_decide_eq_true d)] at dd
   rw [dd] at k
   exact ⟨by show 1 <= sizeLine; decide, fun l hl => k _ l (AnsAt.ro B R (s1.trans (Same.new hl)) (s1.free hl) upd_same)⟩
  ·rw [if_neg (fun h => d (decide_eq_true h))] at dd
   rw [dd] at k
   refine ⟨_, rfl, _, rfl, ?_⟩
   exact ⟨by show 1 <= sizeLine; decide, fun l hl => k _ l (AnsAt.ro B R (s1.trans (Same.new hl)) (s1.free hl) upd_same)⟩
 | none =>
  rw [q] at dd
  have dd : Su57.does a (tellCall wd m n) = (if wd = 1 then { a with near := a.near ++ [pairN m n] } else { a with apart := a.apart ++ [pairN m n] }, Su57.num ((g.told wd).length + 1) []) := dd
  rw [dd] at k
  have pl := R.pairs_le
  refine ⟨_, rfl, _, rfl, rfl, _, rfl, ?_⟩
  refine ⟨_, rfl, _, rfl, ?_⟩
  refine ⟨_, rfl, mG B1 (by decide +kernel) ⟨_, rfl, _, rfl, _, rfl, p, A', true, g, m, n, wd, rfl, B1, q, by omega, fun H2 B2 kp => ?_⟩⟩
  have R2 := R.tell q hw (pairN_ok d3 d1 d2)
  have pl2 := R2.pairs_le
  refine ⟨_, rfl, mG B2 (by decide +kernel) ⟨_, rfl, p, A', true, _, wd, rfl, B2, by omega, R2.keys, fun H3 l3 s3 hl3 t3 => ?_⟩⟩
  obtain ⟨ys, y1, y2⟩ := t3.len
  refine lenL y1 ⟨by show 1 <= sizeLine; decide, fun l hl => ?_⟩
  refine k _ l (AnsAt.mut B2 ((Same.keep s1).trans kp) (own_some B) R2 (s3.trans (Same.new hl)) (s3.free hl) ?_)
  rw [upd_same, y2, told_tell, List.length_append]
  rfl
theorem scCWish : FnScope ["group", "given"] ["group", "given"] (defScope (top 38)) := ⟨rfl, rfl, rfl, by decide +kernel, rfl, by decide +kernel, by decide +kernel⟩
theorem scCApart : FnScope ["group", "given"] ["group", "given"] (defScope (top 39)) := ⟨rfl, rfl, rfl, by decide +kernel, rfl, by decide +kernel, by decide +kernel⟩
theorem ok_cwish {f : Addr} {fd : FuncData} (F : Fun K "wish" "wish" (top 38) f fd) (T : Tx K mg C) (Ft : Fn P w K mg base "tell_pair" ["group", "given", "word"] 5 (spTellPair C)) : FnOk P w K mg base CX0 12 f fd ["group", "given"] (spCall C (mk2 .wish)) := by
 obtain ⟨t1, c1⟩ := T.near
 refine F.ok scCWish (spCall_len rfl) (fun cdv A outer s H vs Q E hr h => ?_)
 obtain ⟨p, A', g, a, ad, as, x, rfl, B, R, hd, hx, no, k⟩ := h
 obtain ⟨m, n, rfl, rfl⟩ := mk2_is hx
 refine ⟨_, pss_one (ps_ret (pe_fn Ft hr (by rfl) (pa_cons (pv 0) (pa_cons (pv 1) (pa_cons (pe_gint (by rfl) c1) pa_nil))))), ?_⟩
 exact ⟨_, rfl, _, rfl, p, A', g, a, ad, m, n, 1, rfl, .inl rfl, B, R, hd, no, k⟩
theorem ok_capart {f : Addr} {fd : FuncData} (F : Fun K "apart" "apart" (top 39) f fd) (T : Tx K mg C) (Ft : Fn P w K mg base "tell_pair" ["group", "given", "word"] 5 (spTellPair C)) : FnOk P w K mg base CX0 12 f fd ["group", "given"] (spCall C (mk2 .apart)) := by
 obtain ⟨t1, c1⟩ := T.apart
 refine F.ok scCApart (spCall_len rfl) (fun cdv A outer s H vs Q E hr h => ?_)
 obtain ⟨p, A', g, a, ad, as, x, rfl, B, R, hd, hx, no, k⟩ := h
 obtain ⟨m, n, rfl, rfl⟩ := mk2_is hx
 refine ⟨_, pss_one (ps_ret (pe_fn Ft hr (by rfl) (pa_cons (pv 0) (pa_cons (pv 1) (pa_cons (pe_gint (by rfl) c1) pa_nil))))), ?_⟩
 exact ⟨_, rfl, _, rfl, p, A', g, a, ad, m, n, 2, rfl, .inr rfl, B, R, hd, no, k⟩
theorem scCForget : FnScope ["group", "given", "p", "q", "refusal"] ["group", "given"] (defScope (top 40)) := ⟨rfl, rfl, rfl, by decide +kernel, rfl, by decide +kernel, by decide +kernel⟩
theorem does_forget {g : G} {a : Su57.Abs} (R : Rel g a) (m n : Nat) : Su57.does a (.forget m n) = if refQ g m n = 0 then (if (g.toldOf (pairN m n)).isSome = true then ({ a with near := a.near.filter fun y => y != pairN m n, apart := a.apart.filter fun y => y != pairN m n }, Su57.no 0) else (a, Su57.no (-6))) else (a, Su57.no (refQ g m n)) := by
 show a.pairs m n (fun x => if a.near.contains x = false /\ a.apart.contains x = false then (a, Su57.no (-6)) else ({ a with near := a.near.filter fun y => y != x, apart := a.apart.filter fun y => y != x }, Su57.no 0)) = _
 have key := does_Q R m n (fun i => (a, Su57.no i)) ((fun x => if a.near.contains x = false /\ a.apart.contains x = false then (a, Su57.no (-6)) else ({ a with near := a.near.filter fun y => y != x, apart := a.apart.filter fun y => y != x }, Su57.no 0)) (Su57.pair m n))
 refine Eq.trans (show _ = _ from rfl) (key.trans ?_)
 by_cases h : refQ g m n = 0
 ·have hq := refQ_ok (g := g) (m := m) (n := n) (by omega)
  rw [if_pos h, if_pos h]
  show (if a.near.contains (Su57.pair m n) = false /\ a.apart.contains (Su57.pair m n) = false then _ else _) = _
  rw [pair_eq hq.2.2.2, R.near_has, R.apart_has]
  cases q : g.toldOf (pairN m n) with
  | none => rfl
  | some v =>
   rcases R.told_vals q with rfl | rfl
   ·rfl
   ·rfl
 ·rw [if_neg h, if_neg h]
theorem ok_cforget {f : Addr} {fd : FuncData} (F : Fun K "forget" "forget" (top 40) f fd) (T : Tx K mg C) (c : Tc mg) (Fr : Fn P w K mg base "refuse_pair" ["group", "p", "q"] 2 (spRefQ C)) (M1 : Mt P w K mg base C "told_of" ["self", "p", "q"] 2 (spToldOf C)) (M2 : Mt P w K mg base C "forget" ["self", "p", "q"] 2 (spForget C)) :
  FnOk P w K mg base CX0 12 f fd ["group", "given"] (spCall C (mk2 .forget)) := by
 obtain ⟨t1, c1⟩ := c.not_told
 refine F.ok scCForget (spCall_len rfl) (fun cdv A outer s H vs Q E hr h => ?_)
 obtain ⟨p, A', g, a, ad, as, x, rfl, B, R, hd, hx, no, k⟩ := h
 obtain ⟨m, n, rfl, rfl⟩ := mk2_is hx
 refine ⟨_, pss_cons (ps_set (i := 2) scCForget.nd rfl (Or.inl rfl) (pe_ix ix_list (pv 1) pe_int (fun _ _ => rfl)))
  (pss_cons (ps_set (i := 3) scCForget.nd rfl (Or.inl rfl) (pe_ix ix_list (pv 1) pe_int (fun _ _ => rfl)))
  (pss_cons (ps_set (i := 4) scCForget.nd rfl (Or.inl rfl) (pe_fn Fr hr (by rfl) (pa_cons (pv 0) (pa_cons (pv 2) (pa_cons (pv 3) pa_nil)))))
  (pss_cons (ps_if (pt_cmpR op_lt (pv 4) pe_int (nomark _)) (pss_one (ps_ret (pe_lst (pa_cons (pv 4) pa_nil)))) pss_nil)
  (pss_cons (ps_if (pt_cmp (pc_isN (pe_mt M1 T.cl hr (pv 0) (pa_cons (pv 2) (pa_cons (pv 3) pa_nil))))) (pss_one (ps_ret (pe_lst (pa_cons (pe_gint (by rfl) c1) pa_nil)))) pss_nil)
  (pss_cons (ps_expr (pe_mt M2 T.cl hr (pv 0) (pa_cons (pv 2) (pa_cons (pv 3) pa_nil))))
  (pss_one (ps_ret (pe_lst (pa_cons pe_int pa_nil))))))))), ?_⟩
 have dd := does_forget R m n
 refine ⟨_, rfl, ixL (n := 0) hd rfl ⟨_, rfl, ixL (n := 1) hd rfl ⟨_, rfl, _, rfl, _, rfl, p, A', true, g, m, n, rfl, B, ?_⟩⟩⟩
 refine ⟨_, rfl, _, _, rfl, rfl, _, rfl, ?_⟩
 refine ite2 (fun d => ?_) (fun d => ?_)
 ·have d := of_decide_eq_true d
  rw [if_neg (by omega)] at dd
  rw [dd] at k
  refine ⟨_, rfl, by show 1 <= sizeLine; decide, fun l hl => k _ l (AnsAt.ro B R (Same.new hl) hl upd_same)⟩
 obtain ⟨d0, d1, d2, d3⟩ := refQ_ok (fun h => d (decide_eq_true h))
 rw [if_pos d0] at dd
 refine ⟨_, rfl, mG B (by decide +kernel) ⟨_, rfl, _, rfl, p, A', true, g, m, n, rfl, B, fun H1 s1 => ⟨_, rfl, ?_⟩⟩⟩
 have B1 := B.same s1
 cases q : g.toldOf (pairN m n) with
 | none =>
  rw [q, if_neg (by decide)] at dd
  rw [dd] at k
  exact ⟨by show 1 <= sizeLine; decide, fun l hl => k _ l (AnsAt.ro B R (s1.trans (Same.new hl)) (s1.free hl) upd_same)⟩
 | some v =>
  rw [q, if_pos (show (some v).isSome = true from rfl)] at dd
  rw [dd] at k
  refine ⟨_, rfl, mG B1 (by decide +kernel) ⟨_, rfl, _, rfl, p, A', true, g, m, n, rfl, B1, by rw [q]; rfl, fun H2 B2 kp => ⟨by show 1 <= sizeLine; decide, fun l hl => ?_⟩⟩⟩
  exact k _ l (AnsAt.mut B2 ((Same.keep s1).trans kp) (own_some B) (R.forget (pairN m n)) (Same.new hl) hl upd_same)
end
end
section
section
variable {P : Program} {w : World} {K : PySem.W.Frag} {mg : Str -> Option Value} {base : Heap} {C : Addr}
def badB (w f : Nat) (l : List Nat) : Prop := w = 0 ∨ Su57.WIDE < w ∨ f < 5 ∨ 60 < f ∨ l = [] ∨ Su57.ROWS < l.length ∨ l.any (fun x => decide (200 < x)) = true
instance (w f : Nat) (l : List Nat) : Decidable (badB w f l) := by unfold badB; infer_instance
def spCBegin (C : Addr) : Sp := fun vs H Q _ => ∃ p A b g ad wd fc l, vs = [.ref p, .ref ad] /\ GAt C H p A b g /\ H ad = some (.lst (nVs (wd :: fc :: l.length :: l))) /\ l.length <= 10000 /\ ¬ Owns p A ad /\
 (badB wd fc l -> ∀ H' lr, Same H H' -> H lr = none -> H' lr = some (.lst [.int (-22)]) -> Q (.ref lr) H') /\
 (¬ badB wd fc l -> ∀ H' lr, (∃ A2, GAt C H' p A2 true (newG wd fc l) /\ (∀ a o, H a = some o -> a ≠ p -> H' a = some o) /\ (∀ a, Owns p A2 a -> a = p ∨ H a = none) /\ ¬ Owns p A2 lr) -> H lr = none -> H' lr = some (.lst [.int 0]) -> Q (.ref lr) H')
theorem cut_drop (xs : List V) (k : Nat) (h : k <= xs.length) : cutV xs (some (k : Int)) none = xs.drop k := by
 unfold cutV
 rw [HT.sIx_nat, HT.sIx_none, Nat.min_eq_left h, List.take_of_length_le (by rw [List.length_drop]; exact Nat.le_refl _)]
theorem scCBegin : FnScope ["group", "given", "width", "face", "steps", "step"] ["group", "given"] (defScope (top 32)) := ⟨rfl, rfl, rfl, by decide +kernel, rfl, by decide +kernel, by decide +kernel⟩
theorem ok_cbegin {f : Addr} {fd : FuncData} (F : Fun K "begin" "begin" (top 32) f fd) (T : Tx K mg C) (c : Tc mg) (Fw : Fn P w K mg base "is_within" ["number", "least", "most"] 1 spWithin) (Mb : Mt P w K mg base C "begin" ["self", "width", "face", "steps"] 1 (spBegin C)) : FnOk P w K mg base CX0 12 f fd ["group", "given"] (spCBegin C) := by
 obtain ⟨t2, c2⟩ := c.out_of_range
 refine F.ok scCBegin (fun vs H Q E h => ?_) (fun cdv A outer s H vs Q E hr h => ?_)
 ·obtain ⟨p, A, b, g, ad, wd, fc, l, rfl, _⟩ := h
  rfl
 obtain ⟨p, A', b, g, ad, wd, fc, l, rfl, B, hd, hl, no, kb, kg⟩ := h
 have rl : ∀ {X : Cx}, X.K = K -> True := fun _ => trivial
 refine ⟨_, pss_cons (ps_set (i := 2) scCBegin.nd rfl (Or.inl rfl) (pe_ix ix_list (pv 1) pe_int (fun _ _ => rfl)))
  (pss_cons (ps_set (i := 3) scCBegin.nd rfl (Or.inl rfl) (pe_ix ix_list (pv 1) pe_int (fun _ _ => rfl)))
  (pss_cons (ps_set (i := 4) scCBegin.nd rfl (Or.inl rfl) (pe_slice sl_list (pv 1) (po_some pe_int) po_none))
  (pss_cons (ps_if (PW.pt (pw_or (pt_not (pt_val (pe_fn Fw hr (by rfl) (pa_cons (pv 2) (pa_cons pe_int (pa_cons pe_int pa_nil)))))) (pw_or (pt_not (pt_val (pe_fn Fw hr (by rfl) (pa_cons (pv 3) (pa_cons pe_int (pa_cons pe_int pa_nil))))))
    (pw_or1 (pt_not (pt_val (pe_fn Fw hr (by rfl) (pa_cons (pe_callB call_len_seq (by rfl) T.len PySem.boot_len (pa_cons (pv 4) pa_nil)) (pa_cons pe_int (pa_cons pe_int pa_nil)))))))))) (pss_one (ps_ret (pe_lst (pa_cons (pe_gint (by rfl) c2) pa_nil)))) pss_nil)
  (pss_cons (ps_if (pt_not (pt_val (pe_callB (cr_all rfl) (by rfl) T.all PyProof.Rows.boot_all (pa_cons (pe_lc rfl scCBegin.nd (pi_list (pv 4)) (blkOk_by (own := [("step", 5)]) (by kernel_rfl)) (fun _ _ _ _ _ => pg_name (i := 5) scCBegin.nd rfl (Or.inl rfl)) (fun _ _ _ _ _ => pts_nil)
    (fun _ _ _ _ _ => pe_fn Fw hr (by rfl) (pa_cons (pv 5) (pa_cons pe_int (pa_cons pe_int pa_nil))))) pa_nil)))) (pss_one (ps_ret (pe_lst (pa_cons (pe_gint (by rfl) c2) pa_nil)))) pss_nil)
  (pss_cons (ps_expr (pe_mt Mb T.cl hr (pv 0) (pa_cons (pv 2) (pa_cons (pv 3) (pa_cons (pv 4) pa_nil)))))
  (pss_one (ps_ret (pe_lst (pa_cons pe_int pa_nil))))))))), ?_⟩
 refine ⟨_, rfl, ixL (n := 0) hd rfl ⟨_, rfl, ixL (n := 1) hd rfl ?_⟩⟩
 refine ⟨_, rfl, _, rfl, ad, _, rfl, SqL.of hd, fun ls hls => ?_⟩
 have ec : cutV (nVs (wd :: fc :: l.length :: l)) (some 3) none = nVs l := cut_drop (nVs (wd :: fc :: l.length :: l)) 3 (by rw [nVs_len]; simp)
 rw [ec]
 have s1 : Same H (upd H ls (.lst (nVs l))) := Same.new hls
 have B1 := B.same s1
 have refuse : badB wd fc l -> ∀ H1, Same (upd H ls (.lst (nVs l))) H1 -> ∀ lr, H1 lr = none -> Q (.ref lr) (upd H1 lr (.lst [V.int (-22)])) := fun hb H1 s2 lr hlr => kb hb _ lr ((s1.trans s2).trans (Same.new hlr)) ((s1.trans s2).free hlr) upd_same
 have bad1 : ¬ (1 <= wd /\ wd <= 6) -> badB wd fc l := fun h => by
  unfold badB Su57.WIDE
  omega
 have bad2 : ¬ (5 <= fc /\ fc <= 60) -> badB wd fc l := fun h => by
  by_cases h1 : fc < 5
  ·exact .inr (.inr (.inl h1))
  ·exact .inr (.inr (.inr (.inl (by omega))))
 have bad3 : ¬ (1 <= l.length /\ l.length <= 5) -> badB wd fc l := fun h => by
  by_cases h1 : l.length = 0
  ·exact .inr (.inr (.inr (.inr (.inl (List.eq_nil_of_length_eq_zero h1)))))
  ·exact .inr (.inr (.inr (.inr (.inr (.inl (by unfold Su57.ROWS; omega))))))
 refine ⟨_, rfl, wd, 1, 6, rfl, _, rfl, ?_⟩
 refine ite2 (fun d => ?_) (fun d => ?_)
 ·exact ⟨by show 1 <= sizeLine; decide, refuse (bad1 fun h => by rw [decide_eq_true h] at d; cases d) _ (Same.refl _)⟩
 have d1 : 1 <= wd /\ wd <= 6 := Decidable.byContradiction fun h => d (by rw [decide_eq_false h]; rfl)
 refine ⟨_, rfl, fc, 5, 60, rfl, _, rfl, ?_⟩
 refine ite2 (fun d => ?_) (fun d => ?_)
 ·exact ⟨by show 1 <= sizeLine; decide, refuse (bad2 fun h => by rw [decide_eq_true h] at d; cases d) _ (Same.refl _)⟩
 have d2 : 5 <= fc /\ fc <= 60 := Decidable.byContradiction fun h => d (by rw [decide_eq_false h]; rfl)
 refine ⟨_, rfl, lenL upd_same ⟨l.length, 1, 5, by rw [nVs_len]; rfl, _, rfl, ?_⟩⟩
 refine ite2 (fun d => ?_) (fun d => ?_)
 ·exact ⟨by show 1 <= sizeLine; decide, refuse (bad3 fun h => by rw [decide_eq_true h] at d; cases d) _ (Same.refl _)⟩
 have d3 : 1 <= l.length /\ l.length <= 5 := Decidable.byContradiction fun h => d (by rw [decide_eq_false h]; rfl)
 refine ⟨_, rfl, ls, rfl, ⟨_, SqL.of upd_same⟩, fun D hD => ?_⟩
 refine lc_listF l iV (SqL.of upd_same) (fun _ => true) (fun x => V.bl (decide (0 <= x /\ x <= 200))) (by omega) hD ?_ ?_
 ·intro x H' K4 K3 hx s2 k4 _
  refine ⟨rfl, ?_⟩
  exact ⟨_, rfl, x, 0, 200, rfl, k4 rfl H' (Same.refl _)⟩
 ·intro H2 s2 h2
  have e1 : (l.filter fun _ => true).map (fun x => V.bl (decide (0 <= x /\ x <= 200))) = (l.map fun x => decide (0 <= x /\ x <= 200)).map V.bl := by
   rw [List.filter_eq_self.mpr (fun _ _ => rfl), List.map_map]
   rfl
  rw [e1] at h2
  refine ⟨D, _, rfl, SqL.of h2, _, rfl, ?_⟩
  have ea : ((l.map fun x => decide (0 <= x /\ x <= 200)).all id) = !(l.any fun x => decide (200 < x)) := by
   rw [List.all_map, List.not_any_eq_all_not]
   congr 1
   funext x
   show decide (0 <= x /\ x <= 200) = !decide (200 < x)
   by_cases h : 200 < x
   ·rw [decide_eq_true h, decide_eq_false (by omega)]; rfl
   ·rw [decide_eq_false h, decide_eq_true (by omega)]; rfl
  rw [ea]
  refine ite2 (fun d => ?_) (fun d => ?_)
  ·have d : (l.any fun x => decide (200 < x)) = true := by rw [<- Bool.not_not (l.any fun x => decide (200 < x))]; exact d
   exact ⟨by show 1 <= sizeLine; decide, refuse (.inr (.inr (.inr (.inr (.inr (.inr d)))))) H2 s2⟩
  have d : ¬ (l.any fun x => decide (200 < x)) = true := fun h => d (by rw [Bool.not_not]; exact h)
  have good : ¬ badB wd fc l := fun h => by
   rcases h with h | h | h | h | h | h | h
   ·omega
   ·unfold Su57.WIDE at h; omega
   ·omega
   ·omega
   ·rw [h] at d3; simp at d3
   ·unfold Su57.ROWS at h; omega
   ·exact d h
  have B2 := B1.same s2
  have s12 := s1.trans s2
  refine ⟨_, rfl, mG B2 (by decide +kernel) ⟨_, rfl, _, rfl, _, rfl, p, A', b, g, wd, fc, ls, l, rfl, B2, s2 _ _ upd_same, fun H3 N => ⟨by show 1 <= sizeLine; decide, fun lr hlr => ?_⟩⟩⟩
  obtain ⟨A2, G2, kp, ow⟩ := N
  have nlr : lr ≠ p := fun z => by
   obtain ⟨dx, o1⟩ := G2.ob
   rw [z, o1] at hlr
   cases hlr
  have hlr0 : H lr = none := by
   cases q : H lr with
   | none => rfl
   | some o => rw [kp lr o (s12 _ _ q) nlr] at hlr; cases hlr
  refine kg good _ lr ⟨A2, G2.same (Same.new hlr), fun x o e n => (Same.new hlr) _ _ (kp x o (s12 _ _ e) n), fun x hx => ?_, fun ho => ?_⟩ hlr0 upd_same
  ·rcases ow x hx with h | h
   ·exact .inl h
   ·exact .inr (s12.free h)
  ·obtain ⟨o, e⟩ := owns_some G2 ho
   rw [e] at hlr
   cases hlr
end
end
section
def callNo : Su57.Call -> Nat
 | .begin_ .. => 0 | .person _ => 1 | .put .. => 2 | .off _ => 3 | .swap .. => 4 | .wish .. => 5 | .apart .. => 6 | .forget .. => 7 | .seen _ => 8 | .hidden => 9 | .hides _ => 10 | .all => 11 | .met => 12 | .column _ => 13
 | .mend _ => 14 | .row _ => 15 | .hill _ => 16 | .shape _ => 17 | .form _ => 18 | .please _ => 19 | .seat _ => 20 | .beside _ => 21 | .spare _ => 22 | .free => 23 | .good _ => 24 | .look _ => 25 | .sums => 26 | .state => 27
def argsOf : Su57.Call -> List Nat
 | .begin_ w f l => w :: f :: l.length :: l
 | .person h => [h] | .put p r c => [p, r, c] | .off p => [p] | .swap p q => [p, q] | .wish p q => [p, q] | .apart p q => [p, q] | .forget p q => [p, q] | .seen p => [p] | .hidden => [] | .hides p => [p] | .all => [] | .met => [] | .column c => [c]
 | .mend c => [c] | .row r => [r] | .hill r => [r] | .shape r => [r] | .form r => [r] | .please r => [r] | .seat r => [r] | .beside p => [p] | .spare p => [p] | .free => [] | .good p => [p] | .look p => [p] | .sums => [] | .state => []
def mkOf : Nat -> List Nat -> Option Su57.Call
 | 1 => mk1 .person | 2 => mk3 .put | 3 => mk1 .off | 4 => mk2 .swap | 5 => mk2 .wish | 6 => mk2 .apart | 7 => mk2 .forget | 8 => mk1 .seen | 9 => mk0 .hidden | 10 => mk1 .hides | 11 => mk0 .all | 12 => mk0 .met | 13 => mk1 .column
 | 14 => mk1 .mend | 15 => mk1 .row | 16 => mk1 .hill | 17 => mk1 .shape | 18 => mk1 .form | 19 => mk1 .please | 20 => mk1 .seat | 21 => mk1 .beside | 22 => mk1 .spare | 23 => mk0 .free | 24 => mk1 .good | 25 => mk1 .look | 26 => mk0 .sums | 27 => mk0 .state
 | _ => fun _ => none
theorem flat_eq (x : Su57.Call) : flatOf x = ((callNo x : Nat) : Int) :: (argsOf x).map fun (n : Nat) => (n : Int) := by cases x <;> rfl
theorem mkOf_eq (x : Su57.Call) (h : callNo x ≠ 0) : mkOf (callNo x) (argsOf x) = some x := by cases x <;> first | exact absurd rfl h | rfl
theorem callNo_lt (x : Su57.Call) : callNo x < 28 := by cases x <;> exact Nat.le_of_ble_eq_true rfl
def counts : List Nat := [3, 1, 3, 1, 2, 2, 2, 2, 1, 0, 1, 0, 0, 1, 1, 1, 1, 1, 1, 1, 1, 1, 1, 0, 1, 1, 0, 0]
theorem counts_eq (x : Su57.Call) (h : callNo x ≠ 0) : counts[callNo x]? = some (argsOf x).length := by cases x <;> first | exact absurd rfl h | rfl
theorem begin_of (x : Su57.Call) (h : callNo x = 0) : ∃ w f l, x = .begin_ w f l := by cases x <;> first | exact ⟨_, _, _, rfl⟩ | cases h
def StAt (C : Addr) (H : Hp) (p : Addr) (A : GA) : Option Su57.Abs -> Prop
 | none => ∃ g, GAt C H p A false g
 | some a => ∃ g, GAt C H p A true g /\ Rel g a
theorem StAt.gat {C p : Addr} {H : Hp} {A : GA} {s : Option Su57.Abs} (h : StAt C H p A s) : ∃ g, GAt C H p A s.isSome g := by
 cases s with
 | none => exact h
 | some a => obtain ⟨g, h, _⟩ := h; exact ⟨g, h⟩
theorem StAt.same {C p : Addr} {H H' : Hp} {A : GA} {s : Option Su57.Abs} (h : StAt C H p A s) (e : Same H H') : StAt C H' p A s := by
 cases s with
 | none => obtain ⟨g, h⟩ := h; exact ⟨g, h.same e⟩
 | some a => obtain ⟨g, h, r⟩ := h; exact ⟨g, h.same e, r⟩
structure AnsS (C : Addr) (H H' : Hp) (p : Addr) (A : GA) (s' : Option Su57.Abs) (ans : List Int) (l : Addr) : Prop where
 at_ : H' l = some (.lst (ans.map V.int))
 new : H l = none
 st : ∃ A', StAt C H' p A' s' /\ (∀ b, Owns p A' b -> Owns p A b ∨ H b = none) /\ ¬ Owns p A' l
 keep : ∀ b o, H b = some o -> ¬ Owns p A b -> ¬ Tbl b -> H' b = some o
def spAt (C : Addr) (k : Nat) : Sp := if k = 0 then spCBegin C else spCall C (mkOf k)
def spAnsCall (C : Addr) (N : Nat) : Sp := fun vs H Q _ => ∃ p A s ad x, vs = [.ref p, iV (callNo x), .ref ad] /\ callNo x < N /\ StAt C H p A s /\ H ad = some (.lst (nVs (argsOf x))) /\ (argsOf x).length <= 10000 /\ ¬ Owns p A ad /\
 ∀ H' l, AnsS C H H' p A (Su57.step s x).1 (ansOf s x) l -> Q (.ref l) H'
section
variable {P : Program} {w : World} {K : PySem.W.Frag} {mg : Str -> Option Value} {base : Heap} {C : Addr}
structure Tab (P : Program) (w : World) (K : PySem.W.Frag) (mg : Str -> Option Value) (base : Heap) (C : Addr) (fs : List Addr) : Prop where
 at_ : ∃ a, mg "CALLS" = some (.ref a) /\ ∀ H, SqT K H a (fs.map V.ref)
 fn : ∀ k f, fs[k]? = some f -> FnA P w K mg base f ["group", "given"] 12 (spAt C k)
theorem scAnsCall : FnScope ["group", "number", "given"] ["group", "number", "given"] (defScope (top 63)) := ⟨rfl, rfl, rfl, by decide +kernel, rfl, by decide +kernel, by decide +kernel⟩
theorem call_ok {X : Cx} {k' : Nat} {fs : List Addr} {H : Hp} {p ad : Addr} {A : GA} {s : Option Su57.Abs} {x : Su57.Call} {Q : VK} {t : List V -> Prop}
  (hx : callNo x < fs.length) (Tb : ∀ k f, fs[k]? = some f -> FnA X.prog X.w X.K X.mg X.base f ["group", "given"] 12 (spAt C k)) (hk : 12 <= k') (hs : StAt C H p A s) (hb : callNo x = 0 ∨ ∃ a, s = some a) (hd : H ad = some (.lst (nVs (argsOf x)))) (hl : (argsOf x).length <= 10000) (no : ¬ Owns p A ad)
  (k : ∀ H' l, AnsS C H H' p A (Su57.step s x).1 (ansOf s x) l -> Q (.ref l) H') :
  ∃ f ps kk sp, (fs.map V.ref)[callNo x]? = some (V.ref f) /\ FnA X.prog X.w X.K X.mg X.base f ps kk sp /\ kk <= k' /\ sp [.ref p, .ref ad] H Q E0 := by
 have ef : fs[callNo x]? = some fs[callNo x] := List.getElem?_eq_getElem hx
 refine ⟨fs[callNo x], _, 12, _, by rw [List.getElem?_map, ef]; rfl, Tb _ _ ef, hk, ?_⟩
 unfold spAt
 by_cases h0 : callNo x = 0
 ·rw [if_pos h0]
  obtain ⟨wd, fc, l, rfl⟩ := begin_of x h0
  obtain ⟨g, B⟩ := hs.gat
  refine ⟨p, A, _, g, ad, wd, fc, l, rfl, B, hd, ?_, no, fun hbad H' lr s1 hlr h1 => ?_, fun hbad H' lr N hlr h1 => ?_⟩
  ·have : (argsOf (.begin_ wd fc l)).length = l.length + 3 := rfl
   omega
  ·have st : Su57.step s (.begin_ wd fc l) = (s, Su57.no (-22)) := by
    unfold badB at hbad
    cases s with
    | none =>
     show ((if (Su57.does (Su57.begun 1 5 [0]) (.begin_ wd fc l)).2.value < 0 then none else some (Su57.does (Su57.begun 1 5 [0]) (.begin_ wd fc l)).1), (Su57.does (Su57.begun 1 5 [0]) (.begin_ wd fc l)).2) = _
     have : Su57.does (Su57.begun 1 5 [0]) (.begin_ wd fc l) = (Su57.begun 1 5 [0], Su57.no (-22)) := if_pos hbad
     rw [this]
     rfl
    | some a =>
     show (some (Su57.does a (.begin_ wd fc l)).1, (Su57.does a (.begin_ wd fc l)).2) = _
     have : Su57.does a (.begin_ wd fc l) = (a, Su57.no (-22)) := if_pos hbad
     rw [this]
   refine k H' lr ⟨?_, hlr, ⟨A, ?_, fun b hb => .inl hb, fun ho => ?_⟩, fun b o e _ _ => s1 b o e⟩
   ·unfold ansOf
    rw [st, h1]
    rfl
   ·rw [st]
    exact hs.same s1
   ·obtain ⟨o, e⟩ := owns_some B ho
    rw [e] at hlr
    cases hlr
  ·obtain ⟨A2, G2, kp, ow, nl⟩ := N
   have hb' := hbad
   unfold badB at hb'
   have st : Su57.step s (.begin_ wd fc l) = (some (Su57.begun wd fc l), Su57.no 0) := by
    cases s with
    | none =>
     show ((if (Su57.does (Su57.begun 1 5 [0]) (.begin_ wd fc l)).2.value < 0 then none else some (Su57.does (Su57.begun 1 5 [0]) (.begin_ wd fc l)).1), (Su57.does (Su57.begun 1 5 [0]) (.begin_ wd fc l)).2) = _
     have : Su57.does (Su57.begun 1 5 [0]) (.begin_ wd fc l) = (Su57.begun wd fc l, Su57.no 0) := if_neg hb'
     rw [this]
     rfl
    | some a =>
     show (some (Su57.does a (.begin_ wd fc l)).1, (Su57.does a (.begin_ wd fc l)).2) = _
     have : Su57.does a (.begin_ wd fc l) = (Su57.begun wd fc l, Su57.no 0) := if_neg hb'
     rw [this]
   refine k H' lr ⟨?_, hlr, ⟨A2, ?_, fun b hb => ?_, nl⟩, fun b o e n _ => kp b o e fun z => n (.inl z)⟩
   ·unfold ansOf
    rw [st, h1]
    rfl
   ·rw [st]
    refine ⟨newG wd fc l, G2, rel_begin ?_ ?_ ?_⟩
    ·apply Decidable.byContradiction
     intro z
     exact hb' (.inl (by omega))
    ·apply Decidable.byContradiction
     intro z
     exact hb' (.inr (.inl (by unfold Su57.WIDE; omega)))
    ·apply Decidable.byContradiction
     intro z
     exact hb' (.inr (.inr (.inr (.inr (.inr (.inl (by unfold Su57.ROWS; omega)))))))
   ·rcases ow b hb with h | h
    ·exact .inl (.inl h)
    ·exact .inr h
 ·rw [if_neg h0]
  rcases hb with hb | ⟨a, rfl⟩
  ·exact absurd hb h0
  obtain ⟨g, B, R⟩ := hs
  refine ⟨p, A, g, a, ad, argsOf x, x, rfl, B, R, hd, mkOf_eq x h0, no, fun H' l h => ?_⟩
  have st : Su57.step (some a) x = (some (Su57.does a x).1, (Su57.does a x).2) := rfl
  obtain ⟨h1, h2, A', g', B', R', kp, ow, nl⟩ := h
  refine k H' l ⟨?_, h2, ⟨A', ?_, ow, nl⟩, kp⟩
  ·unfold ansOf
   rw [st, h1]
   rfl
  ·rw [st]
   exact ⟨g', B', R'⟩
theorem ok_ansCall {f : Addr} {fd : FuncData} {fs : List Addr} (F : Fun K "answer_call" "answer_call" (top 63) f fd) (T : Tx K mg C) (c : Tc mg) (Tb : Tab P w K mg base C fs) : FnOk P w K mg base CX0 13 f fd ["group", "number", "given"] (spAnsCall C fs.length) := by
 obtain ⟨t1, c1⟩ := c.not_begun
 obtain ⟨t2, c2⟩ := c.begin_
 obtain ⟨aC, hC, sC⟩ := Tb.at_
 refine F.ok scAnsCall (fun vs H Q E h => ?_) (fun cdv A outer s H vs Q E hr h => ?_)
 ·obtain ⟨p, A, s, ad, x, rfl, _⟩ := h
  rfl
 obtain ⟨p, A', st, ad, x, rfl, hx, hs, hd, hl, no, k⟩ := h
 refine ⟨_, pss_cons (ps_if (PW.pt (pw_and (pt_cmpR op_ne (pv 1) (pe_gint (by rfl) c2) (nomark _)) (pw_and1 (pt_not (pt_val (pe_fld (pv 0) rfl)))))) (pss_one (ps_ret (pe_lst (pa_cons (pe_gint (by rfl) c1) pa_nil)))) pss_nil)
  (pss_one (ps_ret (pe_callX hr (pe_ix ix_tup (pe_glob (v := .ref aC) (by rfl) hC rfl) (pv 1) (fun _ _ => rfl)) (pa_cons (pv 0) (pa_cons (pv 2) pa_nil))))), ?_⟩
 obtain ⟨g, B⟩ := hs.gat
 have fin : (callNo x = 0 ∨ ∃ a, st = some a) -> ∃ f ps kk sp, (fs.map V.ref)[callNo x]? = some (V.ref f) /\ FnA P w K mg base f ps kk sp /\ kk <= 12 /\ sp [.ref p, .ref ad] H Q E0 := fun hb =>
  call_ok (X := (cxOf CX0 P w K mg base ["group", "number", "given"] "answer_call" (defScope (top 63)) f cdv A outer s H E).nox) (t := fun _ => True) hx Tb.fn (Nat.le_refl 12) hs hb hd hl no k
 refine ⟨_, rfl, rfl, _, rfl, ?_⟩
 refine ite2 (fun d => ?_) (fun d => ?_)
 ·refine ⟨_, rfl, fB ⟨T.cl, T.nB, T.nW, T.nF, T.nS, T.nH, T.nP, T.nD, T.len, T.range, T.all, T.sorted, T.min, T.max, T.abs, T.int, T.list, T.near, T.apart⟩ B ⟨_, rfl, ?_⟩⟩
  have d0 : callNo x ≠ 0 := fun h => by
   have : (!decide (iV (callNo x) = V.int 0)) = true := d
   rw [h] at this
   cases this
  cases st with
  | none =>
   have es : Su57.step none x = (none, Su57.no (-11)) := by cases x <;> first | exact absurd rfl d0 | rfl
   refine ⟨by show 1 <= sizeLine; decide, fun l hl => k _ l ⟨?_, hl, ⟨A', ?_, fun b hb => .inl hb, fun ho => ?_⟩, fun b o e _ _ => (Same.new hl) b o e⟩⟩
   ·unfold ansOf
    rw [es, upd_same]
    rfl
   ·rw [es]
    exact hs.same (Same.new hl)
   ·obtain ⟨o, e⟩ := owns_some B ho
    rw [e] at hl
    cases hl
  | some a =>
   obtain ⟨f1, ps1, kk1, sp1, e1, e2, e3, e4⟩ := fin (.inr ⟨a, rfl⟩)
   exact ⟨_, rfl, aC, _, _, _, rfl, rfl, sC H, atI_nat e1, f1, ps1, kk1, sp1, rfl, e2, e3, _, rfl, _, rfl, e4⟩
 ·have d0 : callNo x = 0 := by
   apply Decidable.byContradiction
   intro h
   apply d
   have : iV (callNo x) ≠ V.int 0 := fun z => h (Int.ofNat.inj (V.int.inj z))
   show (!decide (iV (callNo x) = V.int 0)) = true
   rw [decide_eq_false this]
   rfl
  obtain ⟨f1, ps1, kk1, sp1, e1, e2, e3, e4⟩ := fin (.inl d0)
  refine ite2 (fun z => absurd z (by decide)) (fun _ => ?_)
  exact ⟨_, rfl, aC, _, _, _, rfl, rfl, sC H, atI_nat e1, f1, ps1, kk1, sp1, rfl, e2, e3, _, rfl, _, rfl, e4⟩
end
end
section
section
variable {P : Program} {w : World} {K : PySem.W.Frag} {mg : Str -> Option Value} {base : Heap} {C : Addr}
def spEnd (K : PySem.W.Frag) : Sp := fun vs H Q _ => ∃ (a : Addr) (ns : List Int) (st : Nat) (x : Su57.Call) (rest : List Int), vs = [.ref a, iV st] /\ SqL K H a (ns.map V.int) /\ ns.drop st = flatOf x ++ rest /\ Q (iV (st + (flatOf x).length)) H
theorem scEnd : FnScope ["calls", "start", "end"] ["calls", "start"] (defScope (top 62)) := ⟨rfl, rfl, rfl, by decide +kernel, rfl, by decide +kernel, by decide +kernel⟩
theorem get_of_drop {ns l r : List Int} {st i : Nat} {z : Int} (h : ns.drop st = l ++ r) (hz : l[i]? = some z) : (ns.map V.int)[st + i]? = some (V.int z) := by
 have h1 : (ns.drop st)[i]? = some z := by rw [h, List.getElem?_append_left (List.getElem?_eq_some_iff.mp hz).1]; exact hz
 rw [List.getElem?_drop] at h1
 rw [List.getElem?_map, h1]
 rfl
theorem ixK {K : PySem.W.Frag} {H : Hp} {a : Addr} {xs : List V} {n : Nat} {v : V} {R : V -> Prop} (h : SqL K H a xs) (e : xs[n]? = some v) (q : R v) : ∃ p xs i v, V.ref a = .ref p /\ iV n = .int i /\ SqL K H p xs /\ atI xs i = some v /\ R v := ⟨a, xs, n, v, rfl, rfl, h, atI_nat e, q⟩
theorem ok_end {f : Addr} {fd : FuncData} (F : Fun K "end_of_call" "end_of_call" (top 62) f fd) (c : Tc mg) (hA : ∃ a, mg "ARGUMENT_COUNTS" = some (.ref a) /\ ∀ H, SqT K H a (nVs counts)) : FnOk P w K mg base CX0 1 f fd ["calls", "start"] (spEnd K) := by
 obtain ⟨t2, c2⟩ := c.begin_
 obtain ⟨aT, hT, sT⟩ := hA
 refine F.ok scEnd (fun vs H Q E h => ?_) (fun cdv A outer s H vs Q E hr h => ?_)
 ·obtain ⟨a, ns, st, x, rest, rfl, _⟩ := h
  rfl
 obtain ⟨a, ns, st, x, rest, rfl, hS, hdr, k⟩ := h
 refine ⟨_, pss_cons (ps_set (i := 2) scEnd.nd rfl (Or.inl rfl) (pe_op op_add (pe_op op_add (pv 1) pe_int) (pe_ix ix_tup (pe_glob (v := .ref aT) (by rfl) hT rfl) (pe_ix ix_list (pv 0) (pv 1) (fun _ _ => rfl)) (fun _ _ => rfl))))
  (pss_cons (ps_if (pt_cmpR op_eq (pe_ix ix_list (pv 0) (pv 1) (fun _ _ => rfl)) (pe_gint (by rfl) c2) (nomark _)) (pss_one (ps_ret (pe_op op_add (pv 2) (pe_ix ix_list (pv 0) (pe_op op_sub (pv 2) pe_int) (fun _ _ => rfl))))) pss_nil)
  (pss_one (ps_ret (pv 2)))), ?_⟩
 have g0 : (ns.map V.int)[st]? = some (iV (callNo x)) := get_of_drop (i := 0) hdr (by rw [flat_eq]; rfl)
 obtain ⟨cn, hcn⟩ : ∃ cn, counts[callNo x]? = some cn := ⟨_, List.getElem?_eq_getElem (by show callNo x < 28; exact callNo_lt x)⟩
 refine ⟨_, rfl, _, _, rfl, rfl, _, rfl, _, rfl, ixK hS g0 ⟨aT, _, _, _, rfl, rfl, sT H, atI_nat (nVs_get hcn), _, _, rfl, rfl, ?_⟩⟩
 refine ⟨_, rfl, _, rfl, ixK hS g0 ⟨rfl, _, rfl, ?_⟩⟩
 refine ite2 (fun d => ?_) (fun d => ?_)
 ·have d0 : callNo x = 0 := Int.ofNat.inj (V.int.inj (of_decide_eq_true d))
  obtain ⟨wd, fc, l, rfl⟩ := begin_of x d0
  have e3 : cn = 3 := (Option.some.inj hcn).symm
  subst e3
  have g3 : (ns.map V.int)[st + 3]? = some (iV l.length) := get_of_drop (i := 3) hdr rfl
  have ei : V.int ((st : Int) + 1 + ((3 : Nat) : Int) - 1) = iV (st + 3) := congrArg V.int (by omega)
  refine ⟨_, rfl, _, rfl, _, rfl, _, _, rfl, rfl, ?_⟩
  show ∃ p xs i v, V.ref a = .ref p /\ V.int ((st : Int) + 1 + ((3 : Nat) : Int) - 1) = .int i /\ SqL K H p xs /\ atI xs i = some v /\ _
  rw [ei]
  refine ixK hS g3 ⟨_, _, rfl, rfl, ?_⟩
  have el : st + (flatOf (.begin_ wd fc l)).length = st + 1 + 3 + l.length := by
   show st + (l.map fun (n : Nat) => (n : Int)).length.succ.succ.succ.succ = _
   rw [List.length_map]
   omega
  rw [el] at k
  have : V.int ((st : Int) + 1 + ((3 : Nat) : Int) + (l.length : Int)) = iV (st + 1 + 3 + l.length) := congrArg V.int (by omega)
  show Q (V.int ((st : Int) + 1 + ((3 : Nat) : Int) + (l.length : Int))) H
  rw [this]
  exact k
 ·have d0 : callNo x ≠ 0 := fun h => d (decide_eq_true (by rw [h]; rfl))
  have e3 : cn = (argsOf x).length := Option.some.inj (hcn.symm.trans (counts_eq x d0))
  subst e3
  refine ⟨_, rfl, ?_⟩
  have el : st + (flatOf x).length = st + 1 + (argsOf x).length := by
   rw [flat_eq, List.length_cons, List.length_map]
   omega
  rw [el] at k
  have : V.int ((st : Int) + 1 + ((argsOf x).length : Int)) = iV (st + 1 + (argsOf x).length) := congrArg V.int (by omega)
  show Q (V.int ((st : Int) + 1 + ((argsOf x).length : Int))) H
  rw [this]
  exact k
def spAnswers (K : PySem.W.Frag) (N : Nat) : Sp := fun vs H Q _ => ∃ (a : Addr) (xs : List Su57.Call), vs = [.ref a] /\ Tb H /\ SqL K H a ((xs.flatMap flatOf).map V.int) /\ (xs.flatMap flatOf).length <= 4800 /\ (∀ x ∈ xs, callNo x < N) /\ (tellAll none xs).length <= 10000000 /\
 ∀ (H' : Hp) (l : Addr), H' l = some (.lst ((tellAll none xs).map V.int)) -> Q (.ref l) H'
theorem keepT_seq {K : PySem.W.Frag} {H H' : Hp} {a : Addr} {xs : List V} (t : Tb H) (e : KeepT H H') (h : SqL K H a xs) : SqL K H' a xs := by
 rcases h with (h | ⟨o, h⟩) | h
 ·exact .inl (.inl (e _ _ h (t.no h (by intro ps z; cases z))))
 ·exact .inl (.inr ⟨o, e _ _ h (t.no h (by intro ps z; cases z))⟩)
 ·exact .inr h
theorem keepT_put {H H' : Hp} {a : Addr} {o : HO} (s : KeepT H H') (h : H a = none) : KeepT H (upd H' a o) := fun b u e n => by rw [upd_ne (ne_of_none e h)]; exact s b u e n
def meas (n : Nat) (σ : L2.St) : Nat := match σ[3]? with
 | some (some (V.int i)) => n - i.toNat
 | _ => 0
theorem scAnswers : FnScope ["calls", "group", "told", "start", "end", "answer"] ["calls"] (defScope (top 64)) := ⟨rfl, rfl, rfl, by decide +kernel, rfl, by decide +kernel, by decide +kernel⟩
theorem cut_mid (l1 l2 l3 : List V) : cutV (l1 ++ (l2 ++ l3)) (some (l1.length : Int)) (some ((l1.length + l2.length : Nat) : Int)) = l2 := by
 unfold cutV
 rw [HT.sIx_nat, HT.sIx_nat]
 have h1 : (l1 ++ (l2 ++ l3)).length = l1.length + (l2.length + l3.length) := by rw [List.length_append, List.length_append]
 rw [h1, Nat.min_eq_left (by omega), Nat.min_eq_left (by omega), List.drop_left, show l1.length + l2.length - l1.length = l2.length by omega, List.take_left]
theorem ok_answers {f fI : Addr} {fd fdI : FuncData} {N : Nat} (F : Fun K "answers" "answers" (top 64) f fd) (T : Tx K mg C) (mgG : mg "Group" = some (.ref C)) (M : Mk K C fI) (FI : FnOk P w K mg base CX0 1 fI fdI ["self"] (spInit C)) (bI : Binds K fdI ["self"] [])
  (Fe : Fn P w K mg base "end_of_call" ["calls", "start"] 1 (spEnd K)) (Fa : Fn P w K mg base "answer_call" ["group", "number", "given"] 13 (spAnsCall C N)) : FnOk P w K mg base CX0 14 f fd ["calls"] (spAnswers K N) := by
 refine F.ok scAnswers (fun vs H Q E h => ?_) (fun cdv A outer s H vs Q E hr h => ?_)
 ·obtain ⟨a, xs, rfl, _⟩ := h
  rfl
 obtain ⟨a, xs, rfl, hTb, hS, hlen, hN, htl, k⟩ := h
 refine ⟨_, pss_cons (ps_set (i := 1) scAnswers.nd rfl (Or.inl rfl) (pe_make0 M FI (hr.mono (by decide)) rfl mgG bI .nil pass0))
  (pss_cons (ps_set (i := 2) scAnswers.nd rfl (Or.inl rfl) (pe_lst pa_nil))
  (pss_cons (ps_set (i := 3) scAnswers.nd rfl (Or.inl rfl) pe_int)
  (pss_cons (ps_while PassesOwn.never (pt_cmpR op_lt (pv 3) (pe_callB call_len_seq (by rfl) T.len PySem.boot_len (pa_cons (pv 0) pa_nil)) (nomark _))
   (pss_cons (ps_set (i := 4) scAnswers.nd rfl (Or.inl rfl) (pe_fn Fe hr (by rfl) (pa_cons (pv 0) (pa_cons (pv 3) pa_nil))))
   (pss_cons (ps_set (i := 5) scAnswers.nd rfl (Or.inl rfl) (pe_fn Fa hr (by rfl) (pa_cons (pv 1) (pa_cons (pe_ix ix_list (pv 0) (pv 3) (fun _ _ => rfl)) (pa_cons (pe_slice sl_list (pv 0) (po_some (pe_op op_add (pv 3) pe_int)) (po_some (pv 4))) pa_nil)))))
   (pss_cons (ps_expr (pe_bm PySem.F.plainAttrs_list PySem.F.slot_list_append PySem.F.type_list_append mt_append (pv 2) (pa_cons (pe_callB call_len_seq (by rfl) T.len PySem.boot_len (pa_cons (pv 5) pa_nil)) pa_nil)))
   (pss_cons (ps_expr (pe_bm PySem.F.plainAttrs_list PySem.F.slot_list_extend PySem.F.type_list_extend mt_extend (pv 2) (pa_cons (pv 5) pa_nil)))
   (pss_one (ps_set (i := 3) scAnswers.nd rfl (Or.inl rfl) (pv 4))))))))
  (pss_one (ps_ret (pv 2)))))), ?_⟩
 have sz := sizeLine_eq
 -- group = Group()
 intro p dx np nd nex
 have s0 : Same H (upd (upd H dx (.own p)) p (.ins C dx [])) := fun b o e => by
  rw [upd_ne (ne_of_none e np), upd_ne (ne_of_none e nd)]
  exact e
 refine ⟨p, dx, rfl, upd_same, fun H1 _ N1 => ⟨rfl, ?_⟩⟩
 have N1 := N1 (hTb.same s0)
 obtain ⟨A1, G1, kp1, ow1⟩ := N1
 have s1 : Same H H1 := fun b o e => kp1 b o (s0 b o e) (ne_of_none e np)
 have own1 : ∀ b, Owns p A1 b -> H b = none := fun b hb => by
  rcases ow1 b hb with h | h
  ·rw [h]; exact np
  ·exact s0.free h
 -- told = []
 refine ⟨Nat.zero_le _, fun lt hlt => ?_⟩
 have s2 : Same H1 (upd H1 lt (.lst [])) := Same.new hlt
 have nt1 : ¬ Owns p A1 lt := fun ho => by
  obtain ⟨o, e⟩ := owns_some G1 ho
  rw [e] at hlt
  cases hlt
 refine while_by (fun σ H' => ∃ (done rest : List Su57.Call) (st : Option Su57.Abs) (A' : GA) (told : List Int) (v4 v5 : Option V), σ = [some (.ref a), some (.ref p), some (.ref lt), some (iV (done.flatMap flatOf).length), v4, v5] /\ xs = done ++ rest /\
   KeepT H H' /\ StAt C H' p A' st /\ (∀ b, Owns p A' b -> H b = none) /\ ¬ Owns p A' lt /\ H' lt = some (.lst (told.map V.int)) /\ tellAll none xs = told ++ tellAll st rest)
  (fun σ _ => meas (xs.flatMap flatOf).length σ) ?_ ?_ ?_
 ·exact ⟨[], xs, none, A1, [], none, none, rfl, rfl, (Sr.Same.keepT (s1.trans s2)), ⟨_, G1.same s2⟩, own1, nt1, upd_same, rfl⟩
 ·rintro σ H' ⟨done, rest, st, A', told, v4, v5, rfl, hxs, sH, hst, own, nt, ht, htell⟩
  have hS' := keepT_seq hTb sH hS
  have hfl : xs.flatMap flatOf = done.flatMap flatOf ++ rest.flatMap flatOf := by rw [hxs, List.flatMap_append]
  refine ⟨_, rfl, _, rfl, a, _, rfl, .inl hS', _, _, rfl, rfl, _, rfl, ?_⟩
  rw [List.length_map]
  cases rest with
  | nil =>
   have e0 : (xs.flatMap flatOf).length = (done.flatMap flatOf).length := by rw [hfl]; show (_ ++ []).length = _; rw [List.append_nil]
   rw [show decide (((done.flatMap flatOf).length : Int) < ((xs.flatMap flatOf).length : Int)) = false from decide_eq_false (by omega)]
   refine iteF ⟨_, rfl, k H' lt ?_⟩
   rw [ht, htell]
   show _ = some (HO.lst ((told ++ []).map V.int))
   rw [List.append_nil]
  | cons x rest =>
   have hx : callNo x < N := hN x (by rw [hxs]; exact List.mem_append_right _ List.mem_cons_self)
   have hfl2 : xs.flatMap flatOf = done.flatMap flatOf ++ (flatOf x ++ rest.flatMap flatOf) := by rw [hfl, List.flatMap_cons]
   have hpos : 0 < (flatOf x).length := by rw [flat_eq]; exact Nat.succ_pos _
   have e1 : (xs.flatMap flatOf).length = (done.flatMap flatOf).length + ((flatOf x).length + (rest.flatMap flatOf).length) := by rw [hfl2, List.length_append, List.length_append]
   have hdr : (xs.flatMap flatOf).drop (done.flatMap flatOf).length = flatOf x ++ rest.flatMap flatOf := by rw [hfl2, List.drop_left]
   rw [show decide (((done.flatMap flatOf).length : Int) < ((xs.flatMap flatOf).length : Int)) = true from decide_eq_true (by omega)]
   refine iteT ?_
   refine ⟨_, rfl, _, rfl, a, _, _, x, _, rfl, hS', hdr, ?_⟩
   have g0 : ((xs.flatMap flatOf).map V.int)[(done.flatMap flatOf).length]? = some (iV (callNo x)) := get_of_drop (i := 0) hdr (by rw [flat_eq]; rfl)
   refine ⟨_, rfl, _, rfl, _, rfl, ixK hS' g0 ⟨_, rfl, _, rfl, _, _, rfl, rfl, _, rfl, _, rfl, _, rfl, a, _, rfl, hS', fun ad had => ?_⟩⟩
   have ecut : cutV ((xs.flatMap flatOf).map V.int) (some (((done.flatMap flatOf).length : Int) + 1)) (some (((done.flatMap flatOf).length + (flatOf x).length : Nat) : Int)) = nVs (argsOf x) := by
    have q1 : (xs.flatMap flatOf).map V.int = ((done.flatMap flatOf ++ [((callNo x : Nat) : Int)]).map V.int) ++ (nVs (argsOf x) ++ (rest.flatMap flatOf).map V.int) := by
     rw [hfl2, flat_eq, nVs_cast]
     simp only [List.map_append, List.map_cons, List.append_assoc, List.cons_append, List.nil_append, List.map_nil]
    have q2 := cut_mid ((done.flatMap flatOf ++ [((callNo x : Nat) : Int)]).map V.int) (nVs (argsOf x)) ((rest.flatMap flatOf).map V.int)
    rw [q1]
    have q3 : (((done.flatMap flatOf ++ [((callNo x : Nat) : Int)]).map V.int).length : Int) = ((done.flatMap flatOf).length : Int) + 1 := by
     rw [List.length_map, List.length_append]
     show (((done.flatMap flatOf).length + 1 : Nat) : Int) = _
     omega
    have q4 : (((done.flatMap flatOf ++ [((callNo x : Nat) : Int)]).map V.int).length + (nVs (argsOf x)).length : Nat) = (done.flatMap flatOf).length + (flatOf x).length := by
     rw [nVs_len, flat_eq]
     simp only [List.length_map, List.length_append, List.length_cons, List.length_nil]
     omega
    rw [q3, q4] at q2
    exact q2
   rw [ecut]
   have s3 : Same H' (upd H' ad (.lst (nVs (argsOf x)))) := Same.new had
   have hst3 := hst.same s3
   obtain ⟨g3, B3⟩ := hst.gat
   have noad : ¬ Owns p A' ad := fun ho => by
    obtain ⟨o, e⟩ := owns_some B3 ho
    rw [e] at had
    cases had
   have hal : (argsOf x).length <= 10000 := by
    have : (flatOf x).length = (argsOf x).length + 1 := by rw [flat_eq, List.length_cons, List.length_map]
    omega
   refine ⟨p, A', st, ad, x, rfl, hx, hst3, upd_same, hal, noad, fun H4 l4 AS => ?_⟩
   obtain ⟨h4, h5, ⟨A4, st4, ow4, nl4⟩, kp4⟩ := AS
   have sH3 : KeepT H _ := sH.trans (Sr.Same.keepT s3)
   have sH4 : KeepT H H4 := fun b o e n => kp4 b o (sH3 b o e n) (fun ho => by
    rw [own b ho] at e
    cases e) n
   have ht3 := s3 _ _ ht
   have ht4 := kp4 lt _ ht3 nt (B3.tb.same s3 |>.no ht3 (by intro ps z; cases z))
   have own4 : ∀ b, Owns p A4 b -> H b = none := fun b hb => by
    rcases ow4 b hb with h | h
    ·exact own b h
    ·exact sH3.free ((B3.tb.same s3).noN h) h
   have nt4 : ¬ Owns p A4 lt := fun hb => by
    rcases ow4 lt hb with h | h
    ·exact nt h
    ·rw [ht3] at h
     cases h
   have n4t : lt ≠ l4 := ne_of_none ht3 h5
   have etell : tellAll none xs = (told ++ ((ansOf st x).length : Int) :: ansOf st x) ++ tellAll (Su57.step st x).1 rest := by
    rw [htell]
    show told ++ (((ansOf st x).length : Int) :: (ansOf st x ++ tellAll (Su57.step st x).1 rest)) = _
    rw [List.append_assoc]
    rfl
   have ltell : told.length + 1 + (ansOf st x).length <= 10000000 := by
    rw [etell] at htl
    simp only [List.length_append, List.length_cons] at htl
    omega
   have gt4 : ∀ o, StAt C (upd H4 lt o) p A4 (Su57.step st x).1 := fun o => by
    have tupne : ∀ t xs, H4 t = some (.tup xs) -> t ≠ lt := fun t xs ht => ne_of ht ht4 (by intro z; cases z)
    have step : ∀ bb g', GAt C H4 p A4 bb g' -> GAt C (upd H4 lt o) p A4 bb g' := fun bb g' B4 => by
     obtain ⟨dx4, o1⟩ := B4.ob
     obtain ⟨vs4, o2, o3⟩ := B4.sp
     refine ⟨⟨dx4, by rw [upd_ne (fun z => nt4 (.inl z.symm))]; exact o1⟩, by rw [upd_ne (fun z => nt4 (.inr (.inl z.symm)))]; exact B4.st, by rw [upd_ne (fun z => nt4 (.inr (.inr (.inl z.symm))))]; exact B4.ht,
      ⟨vs4, by rw [upd_ne (fun z => nt4 (.inr (.inr (.inr (.inl z.symm)))))]; exact o2, Paired.mapP o3 fun oo v q => ?_⟩, by rw [upd_ne (fun z => nt4 (.inr (.inr (.inr (.inr z.symm)))))]; exact B4.pr, B4.n1, B4.n2, B4.n3, B4.tb.upd ht4 (by intro ps z; cases z) (by intro φ z; cases z)⟩
     cases oo with
     | none => exact q
     | some y =>
      obtain ⟨t, et, htt⟩ := q
      exact ⟨t, et, by rw [upd_ne (tupne t _ htt)]; exact htt⟩
    cases es : (Su57.step st x).1 with
    | none => rw [es] at st4; obtain ⟨g', B4⟩ := st4; exact ⟨g', step _ _ B4⟩
    | some a' => rw [es] at st4; obtain ⟨g', B4, R4⟩ := st4; exact ⟨g', step _ _ B4, R4⟩
   -- told.append(len(answer)); told.extend(answer)
   refine ⟨_, rfl, .inl ⟨rfl, _, SqL.of ht4⟩, _, rfl, l4, _, rfl, .inl (SqL.of h4), lt, _, _, rfl, rfl, ht4, by rw [List.length_map]; omega, ?_⟩
   refine ⟨_, rfl, .inl ⟨rfl, _, SqL.of upd_same⟩, _, rfl, lt, l4, _, _, rfl, rfl, upd_same, by rw [upd_ne (Ne.symm n4t)]; exact h4, by simp only [List.length_append, List.length_map, List.length_cons, List.length_nil]; omega, ?_⟩
   rw [upd_upd]
   refine ⟨_, rfl, ⟨done ++ [x], rest, (Su57.step st x).1, A4, told ++ ((ansOf st x).length : Int) :: ansOf st x, some (iV ((done.flatMap flatOf).length + (flatOf x).length)), some (.ref l4), ?_, ?_, ?_, gt4 _, own4, nt4, ?_, etell⟩, ?_⟩
   ·rw [List.flatMap_append, List.length_append, List.flatMap_cons, List.flatMap_nil, List.append_nil]
    rfl
   ·rw [hxs, List.append_assoc]
    rfl
   ·exact keepT_put sH4 (s1.free hlt)
   ·rw [upd_same, List.length_map]
    simp only [List.map_append, List.map_cons, List.append_assoc, List.cons_append, List.nil_append, List.map_nil]
   ·show (xs.flatMap flatOf).length - (((done.flatMap flatOf).length + (flatOf x).length : Nat) : Int).toNat < (xs.flatMap flatOf).length - (((done.flatMap flatOf).length : Nat) : Int).toNat
    rw [Int.toNat_natCast, Int.toNat_natCast]
    omega
 ·rintro σ H' Q1 Q2 hQ ⟨v, e1, v2, e2, q⟩
  obtain ⟨p1, ys, e3, e4, i, j, e5, e6, b, e7, q⟩ := q
  exact ⟨v, e1, v2, e2, p1, ys, e3, e4, i, j, e5, e6, b, e7, hQ _ _ q⟩
end
end
section
section
variable {P : Program} {w : World} {K : PySem.W.Frag} {mg : Str -> Option Value} {base : Heap} {C : Addr}
def spRow (C : Addr) : Sp := fun vs H Q _ => ∃ p A b g r, vs = [.ref p, iV r] /\ GAt C H p A b g /\ WFG g /\ ∀ H' l, Same H H' -> H l = none -> H' l = some (.lst (nVs (g.rowPeople r))) -> Q (.ref l) H'
theorem scRow : FnScope ["self", "row", "standing", "column", "p"] ["self", "row"] (defScope (cls 13)) := ⟨rfl, rfl, rfl, by decide +kernel, rfl, by decide +kernel, by decide +kernel⟩
theorem ok_row {f : Addr} {fd : FuncData} (F : Fun K "row_people" "Group.row_people" (cls 13) f fd) (T : Tx K mg C) (M : Mt P w K mg base C "person_at" ["self", "row", "column"] 1 (spPersonAt C)) : FnOk P w K mg base CX0 2 f fd ["self", "row"] (spRow C) := by
 refine F.ok scRow (fun vs H Q E h => ?_) (fun cdv A outer s H vs Q E hr h => ?_)
 ·obtain ⟨p, A, b, g, c, rfl, _⟩ := h
  rfl
 ·obtain ⟨p, A', b, g, r, rfl, B, W, k⟩ := h
  refine ⟨_, pss_cons (ps_setLc (i := 2) rfl scRow.nd rfl rfl (sw_true rfl rfl rfl (by decide +kernel)) (pi_range1 rfl T.range (pa_cons (pe_fld (pv 0) rfl) pa_nil)) (blkOk_by (own := [("column", 3)]) (by kernel_rfl))
    (fun _ _ _ _ _ => pg_name (i := 3) scRow.nd rfl (Or.inl rfl)) (fun _ _ _ _ _ => pts_nil) (fun _ _ _ _ _ => pe_mt M T.cl hr (pv 0) (pa_cons (pv 1) (pa_cons (pv 3) pa_nil))))
   (pss_one (ps_ret (pe_lc rfl scRow.nd (pi_list (pv 2)) (blkOk_by (own := [("p", 4)]) (by kernel_rfl)) (fun _ _ _ _ _ => pg_name (i := 4) scRow.nd rfl (Or.inl rfl)) (fun _ _ _ _ _ => pts_one (pt_cmp (pc_notN (pv 4)))) (fun _ _ _ _ _ => pv 4)))), ?_⟩
  have w6 := W.w6
  refine ⟨_, rfl, fW T B ⟨_, rfl, by omega, by omega, ?_⟩⟩
  intro D hD
  refine lc_rangeF (n := g.width) (fun _ => true) (fun c => ret1 (g.at? r c)) (by omega) hD ?_ ?_
  ·intro i H' K4 K3 hi s1 k4 _
   have B1 := B.same s1
   refine ⟨rfl, ?_⟩
   refine ⟨_, rfl, mG B1 (by decide +kernel) ⟨_, rfl, _, rfl, p, A', b, g, r, i, rfl, B1, by rw [W.slen]; exact W.h20, fun H2 s2 => k4 rfl H2 s2⟩⟩
  ·intro H' s1 h1
   refine ⟨_, rfl, D, rfl, ⟨_, SqL.of h1⟩, fun D2 hD2 => ?_⟩
   have e1 : ((List.range g.width).filter fun _ => true).map (fun c => ret1 (g.at? r c)) = ((List.range g.width).map fun c => g.at? r c).map ret1 := by
    rw [List.filter_eq_self.mpr (fun _ _ => rfl), List.map_map]
    rfl
   rw [e1] at h1
   refine lc_listF ((List.range g.width).map fun c => g.at? r c) ret1 (SqL.of h1) Option.isSome ret1 (by rw [List.length_map, List.length_range]; omega) hD2 ?_ ?_
   ·intro x H2 K4 K3 _ s2 k4 k3
    refine ⟨rfl, _, rfl, _, rfl, ?_⟩
    cases x with
    | none => exact iteF (k3 rfl H2 (Same.refl _))
    | some y => exact iteT ⟨_, rfl, k4 rfl H2 (Same.refl _)⟩
   ·intro H2 s2 h2
    rw [somes_eq] at h2
    exact k H2 D2 (s1.trans s2) (s1.free hD2) h2
def G.around (g : G) (n : Nat) : List Nat := (List.range g.spots.length).filter fun q => g.close n q
theorem around_placed (g : G) (n : Nat) : g.around n = g.placedP.filter fun q => g.close n q := by
 unfold G.around G.placedP
 rw [List.filter_filter]
 refine List.filter_congr fun q _ => ?_
 unfold G.close
 cases g.spot n with
 | none => rfl
 | some x =>
  cases g.spot q with
  | none => rfl
  | some y => rw [Option.isSome_some, Bool.and_true]
theorem around_len (g : G) (n : Nat) : (g.around n).length <= g.spots.length := by
 have := List.length_filter_le (fun q => g.close n q) (List.range g.spots.length)
 rw [List.length_range] at this
 exact this
def spAround (C : Addr) : Sp := fun vs H Q _ => ∃ p A b g n, vs = [.ref p, iV n] /\ GAt C H p A b g /\ WFG g /\ (g.spot n).isSome = true /\ ∀ H' l, Same H H' -> H l = none -> H' l = some (.lst (nVs (g.around n))) -> Q (.ref l) H'
theorem scAround : FnScope ["self", "p", "here", "other"] ["self", "p"] (defScope (cls 14)) := ⟨rfl, rfl, rfl, by decide +kernel, rfl, by decide +kernel, by decide +kernel⟩
theorem ok_around {f : Addr} {fd : FuncData} (F : Fun K "people_around" "Group.people_around" (cls 14) f fd) (T : Tx K mg C) (M : Mt P w K mg base C "placed_people" ["self"] 2 (spPlacedP C)) (Ft : Fn P w K mg base "are_touching" ["one", "other"] 2 (spTwo touch2)) : FnOk P w K mg base CX0 3 f fd ["self", "p"] (spAround C) := by
 refine F.ok scAround (fun vs H Q E h => ?_) (fun cdv A outer s H vs Q E hr h => ?_)
 ·obtain ⟨p, A, b, g, n, rfl, _⟩ := h
  rfl
 ·obtain ⟨p, A', b, g, n, rfl, B, W, hn, k⟩ := h
  refine ⟨_, pss_cons (ps_set (i := 2) scAround.nd rfl (Or.inr rfl) (pe_ix ix_list (pe_fld (pv 0) rfl) (pv 1) (fun _ _ => rfl)))
   (pss_one (ps_ret (pe_lc rfl scAround.nd (pi_list (pe_mt0 M T.cl hr (pv 0))) (blkOk_by (own := [("other", 3)]) (by kernel_rfl)) (fun _ _ _ _ _ => pg_name (i := 3) scAround.nd rfl (Or.inl rfl))
    (fun _ _ _ _ _ => pts_one (pt_val (pe_fn Ft hr (by rfl) (pa_cons (pv 2) (pa_cons (pe_ix (ixl (K := K)) (pfld (K := K) (pv 0)) (pv 3) (fun _ _ => rfl)) pa_nil))))) (fun _ _ _ _ _ => pv 3)))), ?_⟩
  obtain ⟨⟨r, c⟩, e⟩ := Option.isSome_iff_exists.mp hn
  obtain ⟨vs, t, h1, h2, h3⟩ := B.row e
  refine ⟨_, rfl, fP T B ⟨_, rfl, ixL h1 h2 ?_⟩⟩
  refine ⟨_, rfl, mG B (by decide +kernel) ⟨p, A', b, g, rfl, B, W, fun H2 lc s2 hlc h2' => ?_⟩⟩
  refine ⟨lc, rfl, ⟨_, SqL.of h2'⟩, fun D hD => ?_⟩
  refine lc_listF g.placedP iV (SqL.of h2') (fun q => g.close n q) iV ?_ hD ?_ ?_
  ·have := placedP_len g
   have := W.slen
   have := W.h20
   omega
  ·intro x H' K4 K3 hx s1 k4 k3
   have B1 := B.same (s2.trans s1)
   obtain ⟨⟨r2, c2⟩, e2⟩ := Option.isSome_iff_exists.mp (placedP_mem hx).2
   obtain ⟨vs', t', f1, f2, f3⟩ := B1.row e2
   have ec : g.close n x = touch2 (r, c) (r2, c2) := by unfold G.close touch2; rw [e, e2]
   rw [ec] at k4 k3
   refine ⟨rfl, ?_⟩
   refine ⟨_, rfl, _, rfl, fP T B1 ⟨_, rfl, ixL f1 f2 ⟨t, t', (r, c), (r2, c2), rfl, (s2.trans s1) _ _ h3, f3, _, rfl, ?_⟩⟩⟩
   exact ite2 (fun d => ⟨_, rfl, k4 d H' (Same.refl _)⟩) (fun d => k3 (Bool.eq_false_iff.mpr d) H' (Same.refl _))
  ·intro H' s1 h1'
   refine k H' D (s2.trans s1) (s2.free hD) ?_
   rw [around_placed]
   exact h1'
theorem scCBeside : FnScope ["group", "given", "p", "refusal", "people"] ["group", "given"] (defScope (top 54)) := ⟨rfl, rfl, rfl, by decide +kernel, rfl, by decide +kernel, by decide +kernel⟩
theorem ok_cbeside {f : Addr} {fd : FuncData} (F : Fun K "beside" "beside" (top 54) f fd) (T : Tx K mg C) (Fr : Fn P w K mg base "refuse_person" ["group", "p"] 2 (spRefP C)) (Mh : Mt P w K mg base C "people_around" ["self", "p"] 3 (spAround C)) : FnOk P w K mg base CX0 12 f fd ["group", "given"] (spCall C (mk1 .beside)) := by
 refine F.ok scCBeside (spCall_len rfl) (fun cdv A outer s H vs Q E hr h => ?_)
 obtain ⟨p, A', g, a, ad, as, x, rfl, B, R, hd, hx, no, k⟩ := h
 obtain ⟨n, rfl, rfl⟩ := mk1_is hx
 have W := R.wf
 refine ⟨_, pss_cons (ps_set (i := 2) scCBeside.nd rfl (Or.inl rfl) (pe_ix ix_list (pv 1) pe_int (fun _ _ => rfl)))
  (pss_cons (ps_set (i := 3) scCBeside.nd rfl (Or.inl rfl) (pe_fn Fr hr (by rfl) (pa_cons (pv 0) (pa_cons (pv 2) pa_nil))))
  (pss_cons (ps_if (pt_cmpR op_lt (pv 3) pe_int (nomark _)) (pss_one (ps_ret (pe_lst (pa_cons (pv 3) pa_nil)))) pss_nil)
  (pss_cons (ps_set (i := 4) scCBeside.nd rfl (Or.inl rfl) (pe_mt Mh T.cl hr (pv 0) (pa_cons (pv 2) pa_nil)))
  (pss_one (ps_ret (pe_op op_cat (pe_lst (pa_cons (pe_callB call_len_seq (by rfl) T.len PySem.boot_len (pa_cons (pv 4) pa_nil)) pa_nil)) (pv 4))))))), ?_⟩
 have dd : Su57.does a (.beside n) = if refP g n = 0 then (a, Su57.list (a.ps.filter fun q => a.close n q)) else (a, Su57.no (refP g n)) := does_P R n (fun i => (a, Su57.no i)) _
 refine ⟨_, rfl, ixL (n := 0) hd rfl ⟨_, rfl, _, rfl, p, A', true, g, n, rfl, B, W, ?_⟩⟩
 refine ⟨_, rfl, _, _, rfl, rfl, _, rfl, ?_⟩
 refine ite2 (fun d => ?_) (fun d => ?_)
 ·have d := of_decide_eq_true d
  rw [if_neg (refP_bad d)] at dd
  rw [dd] at k
  refine ⟨_, rfl, by show 1 <= sizeLine; decide, fun l hl => k _ l (AnsAt.ro B R (Same.new hl) hl upd_same)⟩
 ·obtain ⟨d0, d1, d2⟩ := refP_ok (fun h => d (decide_eq_true h))
  rw [if_pos d0, R.close_list] at dd
  rw [dd] at k
  refine ⟨_, rfl, mG B (by decide +kernel) ⟨_, rfl, p, A', true, g, n, rfl, B, W, d2, fun H1 lp s1 hlp h1 => ?_⟩⟩
  refine ⟨_, rfl, lenL h1 ⟨by show 1 <= sizeLine; decide, fun l1 hl1 => ?_⟩⟩
  have s2 : Same H1 (upd H1 l1 (.lst [V.int ((nVs (g.around n)).length : Nat)])) := Same.new hl1
  have hl5 := around_len g n
  have sl := W.slen
  have h20 := W.h20
  refine ⟨_, rfl, l1, lp, _, _, rfl, rfl, upd_same, s2 _ _ h1, by rw [nVs_len]; show 1 + _ <= sizeLine; have := sizeLine_eq; omega, fun l hl => ?_⟩
  have s12 := s1.trans s2
  refine k _ l (AnsAt.ro B R (s12.trans (Same.new hl)) (s12.free hl) ?_)
  rw [upd_same, nums_ans, nVs_len]
  rfl
theorem scCState : FnScope ["group", "given"] ["group", "given"] (defScope (top 60)) := ⟨rfl, rfl, rfl, by decide +kernel, rfl, by decide +kernel, by decide +kernel⟩
theorem ok_cstate {f : Addr} {fd : FuncData} (F : Fun K "state" "state" (top 60) f fd) (T : Tx K mg C) : FnOk P w K mg base CX0 12 f fd ["group", "given"] (spCall C (mk0 .state)) := by
 refine F.ok scCState (spCall_len rfl) (fun cdv A outer s H vs Q E hr h => ?_)
 obtain ⟨p, A', g, a, ad, as, x, rfl, B, R, hd, hx, no, k⟩ := h
 obtain ⟨rfl, rfl⟩ := mk0_is hx
 have W := R.wf
 refine ⟨_, pss_one (ps_ret (pe_op op_cat (pe_lst (pa_cons (pe_fld (pv 0) rfl) (pa_cons (pe_fld (pv 0) rfl) (pa_cons (pe_callB call_len_seq (by rfl) T.len PySem.boot_len (pa_cons (pe_fld (pv 0) rfl) pa_nil)) pa_nil)))) (pe_fld (pv 0) rfl))), ?_⟩
 refine ⟨_, rfl, fW T B ⟨_, rfl, fF T B ⟨_, rfl, fS T B (lenL B.st ⟨by show 3 <= sizeLine; decide, fun l1 hl1 => ?_⟩)⟩⟩⟩
 have s1 : Same H (upd H l1 (.lst [iV g.width, iV g.face, V.int ((nVs g.steps).length : Nat)])) := Same.new hl1
 have B1 := B.same s1
 have s5 := W.s5
 refine ⟨_, rfl, fS T B1 ⟨l1, A'.st, _, _, rfl, rfl, upd_same, B1.st, by rw [nVs_len]; show 3 + _ <= sizeLine; have := sizeLine_eq; omega, fun l hl => ?_⟩⟩
 refine k _ l (AnsAt.ro B R (s1.trans (Same.new hl)) (s1.free hl) ?_)
 rw [upd_same, nVs_len]
 show _ = some (HO.lst (V.int (Int.ofNat a.width) :: (Su57Neutral.outs (a.face :: a.rows :: a.steps)).map V.int))
 rw [outs_map, R.width, R.face, R.rows, R.steps]
 rfl
theorem scCLook : FnScope ["group", "given", "p"] ["group", "given"] (defScope (top 58)) := ⟨rfl, rfl, rfl, by decide +kernel, rfl, by decide +kernel, by decide +kernel⟩
theorem ok_clook {f : Addr} {fd : FuncData} (F : Fun K "look" "look" (top 58) f fd) (T : Tx K mg C) (c : Tc mg) (M1 : Mt P w K mg base C "has_person" ["self", "p"] 1 (spHas C)) (M2 : Mt P w K mg base C "is_placed" ["self", "p"] 1 (spPlaced C)) : FnOk P w K mg base CX0 12 f fd ["group", "given"] (spCall C (mk1 .look)) := by
 obtain ⟨t1, c1⟩ := c.none_such
 refine F.ok scCLook (spCall_len rfl) (fun cdv A outer s H vs Q E hr h => ?_)
 obtain ⟨p, A', g, a, ad, as, x, rfl, B, R, hd, hx, no, k⟩ := h
 obtain ⟨n, rfl, rfl⟩ := mk1_is hx
 have W := R.wf
 refine ⟨_, pss_cons (ps_set (i := 2) scCLook.nd rfl (Or.inl rfl) (pe_ix ix_list (pv 1) pe_int (fun _ _ => rfl)))
  (pss_cons (ps_if (pt_not (pt_val (pe_mt M1 T.cl hr (pv 0) (pa_cons (pv 2) pa_nil)))) (pss_one (ps_ret (pe_lst (pa_cons (pe_gint (by rfl) c1) pa_nil)))) pss_nil)
  (pss_cons (ps_if (pt_not (pt_val (pe_mt M2 T.cl hr (pv 0) (pa_cons (pv 2) pa_nil)))) (pss_one (ps_ret (pe_lst (pa_cons (pe_ix ix_list (pe_fld (pv 0) rfl) (pv 2) (fun _ _ => rfl)) (pa_cons pe_int (pa_cons pe_int (pa_cons pe_int pa_nil))))))) pss_nil)
  (pss_one (ps_ret (pe_op op_cat (pe_lst (pa_cons (pe_ix ix_list (pe_fld (pv 0) rfl) (pv 2) (fun _ _ => rfl)) (pa_cons pe_int pa_nil))) (pe_callTy call_list_of (by rfl) T.list PyProof.Rows.boot_list (pa_cons (pe_ix ix_list (pe_fld (pv 0) rfl) (pv 2) (fun _ _ => rfl)) pa_nil))))))), ?_⟩
 refine ⟨_, rfl, ixL (n := 0) hd rfl ⟨_, rfl, mG B (by decide +kernel) ⟨_, rfl, p, A', true, g, n, rfl, B, _, rfl, ?_⟩⟩⟩
 have dd : Su57.does a (.look n) = if n < g.heights.length then (a, Su57.num (g.height n) (if (g.spot n).isSome = true then [1, g.row n, g.col n] else [0, 0, 0])) else (a, Su57.no (-2)) := by
  show (if a.isP n = false then (a, Su57.no (-2)) else (a, Su57.num (a.height n) (if a.placed n then [1, a.rowOf n, a.colOf n] else [0, 0, 0]))) = _
  rw [R.isP_eq, R.height_eq, R.placed_eq, R.rowOf_eq, R.colOf_eq]
  by_cases h : n < g.heights.length
  ·rw [decide_eq_true h, if_neg (by decide), if_pos h]
  ·rw [decide_eq_false h, if_pos rfl, if_neg h]
 refine ite2 (fun d => ?_) (fun d => ?_)
 ·have dn : ¬ n < g.heights.length := fun h => by rw [decide_eq_true h] at d; cases d
  rw [if_neg dn] at dd
  rw [dd] at k
  exact ⟨by show 1 <= sizeLine; decide, fun l hl => k _ l (AnsAt.ro B R (Same.new hl) hl upd_same)⟩
 ·have dn : n < g.heights.length := Decidable.byContradiction fun h => d (by rw [decide_eq_false h]; rfl)
  rw [if_pos dn] at dd
  rw [dd] at k
  refine ⟨_, rfl, mG B (by decide +kernel) ⟨_, rfl, p, A', true, g, n, rfl, B, by rw [W.slen]; exact dn, _, rfl, ?_⟩⟩
  cases e : g.spot n with
  | none =>
   rw [e] at k
   refine iteT ?_
   refine ⟨_, rfl, fH T B ⟨_, rfl, ixL B.ht (get_height dn) ⟨by show 4 <= sizeLine; decide, fun l hl => ?_⟩⟩⟩
   exact k _ l (AnsAt.ro B R (Same.new hl) hl upd_same)
  | some y =>
   obtain ⟨r, c⟩ := y
   rw [e, (spot_row e).1, (spot_row e).2] at k
   obtain ⟨vs, t, h1, h2, h3⟩ := B.row e
   refine iteF ?_
   refine ⟨_, rfl, fH T B ⟨_, rfl, ixL B.ht (get_height dn) ⟨by show 2 <= sizeLine; decide, fun l1 hl1 => ?_⟩⟩⟩
   have s1 : Same H (upd H l1 (.lst [iV (g.height n), V.int 1])) := Same.new hl1
   have B1 := B.same s1
   refine ⟨_, rfl, fP T B1 ⟨_, rfl, ixL (s1 _ _ h1) h2 ⟨t, _, rfl, .inr (SqT.of (s1 _ _ h3)), fun l2 hl2 => ?_⟩⟩⟩
   have s2 := Same.new (o := HO.lst [iV r, iV c]) hl2
   refine ⟨l1, l2, _, _, rfl, rfl, s2 _ _ upd_same, upd_same, by show 4 <= sizeLine; decide, fun l hl => ?_⟩
   exact k _ l (AnsAt.ro B R ((s1.trans s2).trans (Same.new hl)) ((s1.trans s2).free hl) upd_same)
theorem scCSums : FnScope ["group", "given", "placed_count", "hidden_count", "near_told", "apart_told"] ["group", "given"] (defScope (top 59)) := ⟨rfl, rfl, rfl, by decide +kernel, rfl, by decide +kernel, by decide +kernel⟩
theorem split_len {α : Type} (q : α -> Bool) : ∀ l : List α, (l.filter q).length + (l.filter fun x => !(q x)).length = l.length
 | [] => rfl
 | x :: l => by
  have ih := split_len q l
  rw [List.filter_cons, List.filter_cons]
  cases q x with
  | true => rw [if_pos rfl, if_neg (by decide), List.length_cons, List.length_cons]; omega
  | false => rw [if_neg (by decide), if_pos (show (!false) = true from rfl), List.length_cons, List.length_cons]; omega
theorem seen_count (g : G) : ((List.range g.spots.length).filter g.seen).length + g.hidden.length = g.placedP.length := by
 rw [hidden_placed, <- split_len g.seen g.placedP]
 congr 2
 unfold G.placedP
 rw [List.filter_filter]
 refine List.filter_congr fun p _ => ?_
 unfold G.seen
 cases (g.spot p).isSome with
 | true => rw [Bool.and_true]
 | false => rfl
theorem ok_csums {f : Addr} {fd : FuncData} (F : Fun K "sums" "sums" (top 59) f fd) (T : Tx K mg C) (M1 : Mt P w K mg base C "placed_people" ["self"] 2 (spPlacedP C)) (M2 : Mt P w K mg base C "hidden_people" ["self"] 6 (spHidden C)) (M3 : Mt P w K mg base C "pairs_told" ["self", "word"] 1 (spTold C)) : FnOk P w K mg base CX0 12 f fd ["group", "given"] (spCall C (mk0 .sums)) := by
 obtain ⟨tn, hn⟩ := T.near
 obtain ⟨ta, ha⟩ := T.apart
 refine F.ok scCSums (spCall_len rfl) (fun cdv A outer s H vs Q E hr h => ?_)
 obtain ⟨p, A', g, a, ad, as, x, rfl, B, R, hd, hx, no, k⟩ := h
 obtain ⟨rfl, rfl⟩ := mk0_is hx
 have W := R.wf
 refine ⟨_, pss_cons (ps_set (i := 2) scCSums.nd rfl (Or.inl rfl) (pe_callB call_len_seq (by rfl) T.len PySem.boot_len (pa_cons (pe_mt0 M1 T.cl hr (pv 0)) pa_nil)))
  (pss_cons (ps_set (i := 3) scCSums.nd rfl (Or.inl rfl) (pe_callB call_len_seq (by rfl) T.len PySem.boot_len (pa_cons (pe_mt0 M2 T.cl hr (pv 0)) pa_nil)))
  (pss_cons (ps_set (i := 4) scCSums.nd rfl (Or.inl rfl) (pe_callB call_len_seq (by rfl) T.len PySem.boot_len (pa_cons (pe_mt M3 T.cl hr (pv 0) (pa_cons (pe_gint (by rfl) hn) pa_nil)) pa_nil)))
  (pss_cons (ps_set (i := 5) scCSums.nd rfl (Or.inl rfl) (pe_callB call_len_seq (by rfl) T.len PySem.boot_len (pa_cons (pe_mt M3 T.cl hr (pv 0) (pa_cons (pe_gint (by rfl) ha) pa_nil)) pa_nil)))
  (pss_one (ps_ret (pe_lst (pa_cons (pe_callB call_len_seq (by rfl) T.len PySem.boot_len (pa_cons (pe_fld (pv 0) rfl) pa_nil)) (pa_cons (pv 2) (pa_cons (pe_op op_sub (pv 2) (pv 3)) (pa_cons (pv 3) (pa_cons (pv 4) (pa_cons (pv 5) pa_nil)))))))))))), ?_⟩
 have pl := R.pairs_le
 refine ⟨_, rfl, mG B (by decide +kernel) ⟨p, A', true, g, rfl, B, W, fun H1 l1 s1 hl1 t1 => ?_⟩⟩
 have B1 := B.same s1
 refine lenL t1 ⟨_, rfl, mG B1 (by decide +kernel) ⟨p, A', true, g, rfl, B1, W, fun H2 l2 s2 hl2 t2 => ?_⟩⟩
 have B2 := B1.same s2
 refine lenL t2 ⟨_, rfl, mG B2 (by decide +kernel) ⟨p, A', true, g, 1, rfl, B2, by omega, R.keys, fun H3 l3 s3 hl3 t3 => ?_⟩⟩
 obtain ⟨y3, q3, r3⟩ := t3.len
 have B3 := B2.same s3
 refine lenL q3 ⟨_, rfl, mG B3 (by decide +kernel) ⟨p, A', true, g, 2, rfl, B3, by omega, R.keys, fun H4 l4 s4 hl4 t4 => ?_⟩⟩
 obtain ⟨y4, q4, r4⟩ := t4.len
 have B4 := B3.same s4
 refine lenL q4 ?_
 refine ⟨_, rfl, fH T B4 (lenL B4.ht ⟨_, rfl, _, rfl, _, rfl, _, _, rfl, rfl, _, rfl, _, rfl, _, rfl, by show 6 <= sizeLine; decide, fun l hl => ?_⟩)⟩
 have s14 := ((s1.trans s2).trans s3).trans s4
 refine k _ l (AnsAt.ro B R (s14.trans (Same.new hl)) (s14.free hl) ?_)
 rw [upd_same, r3, r4, nVs_len, nVs_len, nVs_len]
 show _ = some (HO.lst [V.int (Int.ofNat a.people.length), iV (a.ps.filter a.placed).length, iV (a.ps.filter a.seen).length, iV a.hidden.length, iV a.near.length, iV a.apart.length])
 rw [R.placed_len, R.seen_len, R.hidden_eq, R.people, R.near, R.apart]
 have sc := seen_count g
 have e : ((g.placedP.length : Int) - (g.hidden.length : Int)) = (((List.range g.spots.length).filter g.seen).length : Int) := by omega
 refine congrArg (fun z => some (HO.lst [V.int g.heights.length, iV g.placedP.length, V.int z, iV g.hidden.length, iV (g.told 1).length, iV (g.told 2).length])) e
theorem scCRow : FnScope ["group", "given", "people", "shown", "column_number", "p"] ["group", "given"] (defScope (top 48)) := ⟨rfl, rfl, rfl, by decide +kernel, rfl, by decide +kernel, by decide +kernel⟩
theorem ok_crow {f : Addr} {fd : FuncData} (F : Fun K "row" "row" (top 48) f fd) (T : Tx K mg C) (c : Tc mg) (M1 : Mt P w K mg base C "has_row" ["self", "row"] 1 (spHasRow C)) (M2 : Mt P w K mg base C "person_at" ["self", "row", "column"] 1 (spPersonAt C)) (M3 : Mt P w K mg base C "row_people" ["self", "row"] 2 (spRow C)) : FnOk P w K mg base CX0 12 f fd ["group", "given"] (spCall C (mk1 .row)) := by
 obtain ⟨t1, c1⟩ := c.out_of_range
 refine F.ok scCRow (spCall_len rfl) (fun cdv A outer s H vs Q E hr h => ?_)
 obtain ⟨p, A', g, a, ad, as, x, rfl, B, R, hd, hx, no, k⟩ := h
 obtain ⟨n, rfl, rfl⟩ := mk1_is hx
 have W := R.wf
 refine ⟨_, pss_cons (ps_if (pt_not (pt_val (pe_mt M1 T.cl hr (pv 0) (pa_cons (pe_ix ix_list (pv 1) pe_int (fun _ _ => rfl)) pa_nil)))) (pss_one (ps_ret (pe_lst (pa_cons (pe_gint (by rfl) c1) pa_nil)))) pss_nil)
  (pss_cons (ps_setLc (i := 2) rfl scCRow.nd rfl rfl (sw_true rfl rfl rfl (by decide +kernel)) (pi_range1 rfl T.range (pa_cons (pe_fld (pv 0) rfl) pa_nil)) (blkOk_by (own := [("column_number", 4)]) (by kernel_rfl))
    (fun _ _ _ _ _ => pg_name (i := 4) scCRow.nd rfl (Or.inl rfl)) (fun _ _ _ _ _ => pts_nil) (fun _ _ _ _ _ => pe_mt M2 T.cl hr (pv 0) (pa_cons (pe_ix (ixl (K := K)) (pv 1) pe_int (fun _ _ => rfl)) (pa_cons (pv 4) pa_nil))))
  (pss_cons (ps_setLc (i := 3) rfl scCRow.nd rfl rfl (sw_true rfl rfl rfl (by decide +kernel)) (pi_list (pv 2)) (blkOk_by (own := [("p", 5)]) (by kernel_rfl))
    (fun _ _ _ _ _ => pg_name (i := 5) scCRow.nd rfl (Or.inl rfl)) (fun _ _ _ _ _ => pts_nil) (fun _ _ _ _ _ => pe_ifExp (pt_cmp (pc_isN (pv 5))) pe_int (pe_op op_add (pv 5) pe_int)))
  (pss_one (ps_ret (pe_op op_cat (pe_lst (pa_cons (pe_callB call_len_seq (by rfl) T.len PySem.boot_len (pa_cons (pe_mt M3 T.cl hr (pv 0) (pa_cons (pe_ix ix_list (pv 1) pe_int (fun _ _ => rfl)) pa_nil)) pa_nil)) pa_nil)) (pv 3)))))), ?_⟩
 refine ⟨_, rfl, mG B (by decide +kernel) ⟨_, rfl, ixL (n := 0) hd rfl ⟨p, A', true, g, n, rfl, B, _, rfl, ?_⟩⟩⟩
 refine ite2 (fun d => ?_) (fun d => ?_)
 ·have dn : ¬ n < g.steps.length := fun h => by rw [decide_eq_true h] at d; cases d
  have dd : Su57.does a (.row n) = (a, Su57.no (-22)) := by
   show (if a.rows <= n then _ else _) = _
   rw [if_pos (by rw [R.rows]; omega)]
  rw [dd] at k
  refine ⟨by show 1 <= sizeLine; decide, fun l hl => k _ l (AnsAt.ro B R (Same.new hl) hl upd_same)⟩
 ·have dn : n < g.steps.length := Decidable.byContradiction fun h => d (by rw [decide_eq_false h]; rfl)
  have dd : Su57.does a (.row n) = (a, Su57.num (g.rowPeople n).length ((List.range g.width).map fun c => code (g.at? n c))) := by
   show (if a.rows <= n then _ else (a, Su57.num (a.row n).length ((List.range a.width).map fun c => a.cell n c))) = _
   rw [if_neg (by rw [R.rows]; omega), R.row_eq, R.cells_row]
  rw [dd] at k
  have w6 := W.w6
  refine ⟨_, rfl, fW T B ⟨_, rfl, by omega, by omega, ?_⟩⟩
  intro D hD
  refine lc_rangeF (n := g.width) (fun _ => true) (fun c => ret1 (g.at? n c)) (by omega) hD ?_ ?_
  ·intro i H' K4 K3 hi s1 k4 _
   have B1 := B.same s1
   refine ⟨rfl, ?_⟩
   refine ⟨_, rfl, mG B1 (by decide +kernel) ⟨_, rfl, ixL (n := 0) (s1 _ _ hd) rfl ⟨_, rfl, p, A', true, g, n, i, rfl, B1, by rw [W.slen]; exact W.h20, fun H2 s2 => k4 rfl H2 s2⟩⟩⟩
  ·intro H1 s1 h1
   refine ⟨_, rfl, D, rfl, ⟨_, SqL.of h1⟩, fun D2 hD2 => ?_⟩
   have e1 : ((List.range g.width).filter fun _ => true).map (fun c => ret1 (g.at? n c)) = ((List.range g.width).map fun c => g.at? n c).map ret1 := by
    rw [List.filter_eq_self.mpr (fun _ _ => rfl), List.map_map]
    rfl
   rw [e1] at h1
   refine lc_listF ((List.range g.width).map fun c => g.at? n c) ret1 (SqL.of h1) (fun _ => true) (fun o => iV (code o)) (by rw [List.length_map, List.length_range]; omega) hD2 ?_ ?_
   ·intro x H2 K4 K3 _ s2 k4 k3
    refine ⟨rfl, _, rfl, _, rfl, ?_⟩
    cases x with
    | none => exact iteT (k4 rfl H2 (Same.refl _))
    | some y => exact iteF ⟨_, rfl, _, _, rfl, rfl, k4 rfl H2 (Same.refl _)⟩
   ·intro H2 s2 h2
    have e2 : (((List.range g.width).map fun c => g.at? n c).filter fun _ => true).map (fun o => iV (code o)) = nVs ((List.range g.width).map fun c => code (g.at? n c)) := by
     rw [List.filter_eq_self.mpr (fun _ _ => rfl), List.map_map]
     unfold nVs
     rw [List.map_map]
     rfl
    rw [e2] at h2
    have s12 := s1.trans s2
    have B2 := B.same s12
    refine ⟨_, rfl, mG B2 (by decide +kernel) ⟨_, rfl, ixL (n := 0) (s12 _ _ hd) rfl ⟨p, A', true, g, n, rfl, B2, W, fun H3 lr s3 hlr h3 => ?_⟩⟩⟩
    refine lenL h3 ⟨by show 1 <= sizeLine; decide, fun l1 hl1 => ?_⟩
    have s4 := Same.new (o := HO.lst [V.int ((nVs (g.rowPeople n)).length : Nat)]) hl1
    refine ⟨_, rfl, l1, D2, _, _, rfl, rfl, upd_same, s4 _ _ (s3 _ _ h2), by rw [nVs_len, nVs_len, List.length_map]; show 1 + (List.range g.width).length <= sizeLine; rw [List.length_range]; have := sizeLine_eq; omega, fun l hl => ?_⟩
    have s14 := (s12.trans s3).trans s4
    refine k _ l (AnsAt.ro B R (s14.trans (Same.new hl)) (s14.free hl) ?_)
    rw [upd_same, nVs_len]
    show _ = some (HO.lst (V.int _ :: (Su57Neutral.outs _).map V.int))
    rw [outs_map]
    rfl
end
end
section
section
variable {X : Cx}
def rInD (K : PySem.W.Frag) (neg : Bool) : R2 := fun x y H Q => ∃ d ds, Dp K H x d /\ Dp K H y (.list ds) /\ d.canLay0 = true /\ PyData.canLayAll0 ds = true /\ d.depth <= 60 /\ Q (.bl (if neg then !(ds.any fun z => PyData.eqv z d) else ds.any fun z => PyData.eqv z d)) H
theorem op_notInD (hu : X.A.units + 64 < cLine) : OpR X (compareOp .NotIn) (rInD X.K true) := by
 intro pins s σ H x y v u Q I rx ry h
 obtain ⟨d, ds, hd, he, c1, c2, h60, q⟩ := h
 obtain ⟨as, r1⟩ := Dp.reads I d x v hd rx
 obtain ⟨bs, r2⟩ := Dp.reads I (.list ds) y u he ry
 refine SeqAt.notIn_list_reads r2 r1 c2 c1 ?_ ⟨.bl _, H, I, rfl, q⟩
 have : min (PyData.depthAll ds) d.depth <= d.depth := Nat.min_le_right _ _
 omega
theorem extend_tuple (l : Addr) (items : Array Value) (n : Nat) (b : Addr) (items2 : Array Value) (n2 : Nat) (dd : Option Addr) (sl : Array (Option Value)) (hs0 : ¬(!items.isEmpty && Builtin.List.listTooLong (items.size + items2.size)) = true) (hs1 : items.size <= sizeLine) (hs2 : items.size + items2.size <= sizeLine + 1) :
  Meets (Builtin.«list.extend» ⟨[.ref l, .ref b], []⟩) (fun _ R s => s.heap.get? l = some { cls := .type "list", dict := none, data := .seq items n, slots := #[] } /\ s.heap.get? b = some { cls := .type "tuple", dict := dd, data := .seq items2 n2, slots := sl } /\ R (.ok (.ret Value.none)) { s with heap := s.heap.update l (Obj.mapSeq fun x => x ++ items2), toks := s.toks }) :=
 .of_wp fun prog w A R s h => by
  obtain ⟨hp, g, d, tk, os⟩ := s; obtain ⟨hl, hb, h⟩ := h; have f1 := AutoSeq1.idx_int; have f2 := AutoSeq1.sub_tuple_tuple; have f3 := AutoSeq1.sub_list_list; have f4 := AutoSeq1.sub_tuple_list; have f5 := AutoSeq1.sub_list_tuple
  have hz' : (items ++ items2).size <= sizeLine + 1 := by rw [Array.size_append]; exact hs2
  wp_walk using (wpAny_updateSeq hl rfl (hz := hs1) (_hz' := hz')), AutoSeq1.wpAny_loadPart' hl, AutoSeq1.wpAny_loadPart' hb; exact ⟨_, rfl, h⟩
def rExtendT (K : PySem.W.Frag) : V -> List V -> Hp -> VK -> Prop := fun x vs H Q => ∃ l b xs zs, x = .ref l /\ vs = [.ref b] /\ H l = some (.lst xs) /\ SqT K H b zs /\ xs.length + zs.length <= sizeLine /\ Q .non (upd H l (.lst (xs ++ zs)))
theorem mt_extendT : MtM X "list.extend" (rExtendT X.K) := by
 intro pins s σ H x vs v us Q I rx rv h
 obtain ⟨l, b, xs, zs, rfl, rfl, hH, hB, hz, q⟩ := h
 cases rx
 obtain ⟨u, rfl, ru⟩ := rv.one
 cases ru
 obtain ⟨z, its, n, r, hl, e⟩ := I.lstM hH
 obtain ⟨its2, r2, ⟨o2, ho2, hc2, n2, hd2⟩, z2⟩ := I.tuple hB
 have hl2 := r2.length
 obtain ⟨cls, dd, data, sl⟩ := o2
 simp only at hc2 hd2
 subst hc2 hd2
 have hsz : its.toArray.size + its2.toArray.size <= sizeLine := by rw [List.size_toArray, List.size_toArray]; omega
 have hlong : ¬ (!its.toArray.isEmpty && Builtin.List.listTooLong (its.toArray.size + its2.toArray.size)) = true := by
  rw [notLongL hsz, Bool.and_false]
  exact Bool.false_ne_true
 refine call_meets F.slot_list_extend ⟨_, e, rfl⟩ F.entry_list_extend (F.args_list_extend_2 _ _)
  (extend_tuple l its.toArray n b its2.toArray n2 dd sl hlong (by rw [List.size_toArray]; omega) (by omega)) ⟨e, ho2, ?_⟩
 refine ⟨.non, _, I.lset (its' := its ++ its2) hH e (by simp) (r.append r2) ?_, rfl, q⟩
 rw [List.length_append]
 omega
end
def spD : Option (Nat × Nat) -> PyData
 | none => .none
 | some x => .tuple [.int x.1, .int x.2]
theorem spD_lay (o : Option (Nat × Nat)) : (spD o).canLay0 = true := by
 cases o with
 | none => rfl
 | some x => rfl
theorem spD_all : ∀ l : List (Option (Nat × Nat)), PyData.canLayAll0 (l.map spD) = true
 | [] => rfl
 | o :: l => by
  have h1 := spD_lay o
  have h2 := spD_all l
  simp [PyData.canLayAll0, h1, h2]
theorem spD_dp {K : PySem.W.Frag} {H : Hp} {o : Option (Nat × Nat)} {v : V} (h : spotV H o v) : Dp K H v (spD o) := by
 cases o with
 | none =>
  rw [show v = .non from h]
  exact .non
 | some x =>
  obtain ⟨t, rfl, ht⟩ := h
  exact .tup (SqT.of ht) (.cons (.int _) (.cons (.int _) .nil))
theorem spD_dpAll {K : PySem.W.Frag} {H : Hp} : ∀ {os : List (Option (Nat × Nat))} {vs : List V}, Paired (spotV H) os vs -> DpAll K H vs (os.map spD)
 | _, _, .nil => .nil
 | _, _, .cons q t => .cons (spD_dp q) (spD_dpAll t)
theorem spD_eqv (o : Option (Nat × Nat)) (x : Nat × Nat) : PyData.eqv (spD o) (spD (some x)) = decide (o = some x) := by
 cases o with
 | none => rfl
 | some y =>
  obtain ⟨a, b⟩ := y
  obtain ⟨r, c⟩ := x
  show (((a : Int) == (r : Int)) && (((b : Int) == (c : Int)) && true)) = _
  rw [Bool.and_true, Bool.eq_iff_iff]
  simp
  omega
theorem spD_any (os : List (Option (Nat × Nat))) (x : Nat × Nat) : ((os.map spD).any fun z => PyData.eqv z (spD (some x))) = os.contains (some x) := by
 induction os with
 | nil => rfl
 | cons o os ih =>
  rw [List.map_cons, List.any_cons, ih, spD_eqv, List.contains_cons]
  congr 1
  rw [Bool.beq_eq_decide_eq]
  exact decide_eq_decide.mpr ⟨fun h => h.symm, fun h => h.symm⟩
theorem at_contains (g : G) (x : Nat × Nat) : (!(g.spots.contains (some x))) = (g.at? x.1 x.2).isNone := by
 cases e : g.at? x.1 x.2 with
 | some p =>
  have h := at_spot e
  have hl := spot_lt h
  have hm : some x ∈ g.spots := by
   unfold G.spot at h
   rw [List.getElem?_eq_getElem hl] at h
   have h : g.spots[p] = some (x.1, x.2) := h
   exact h ▸ List.getElem_mem hl
  rw [List.contains_iff_mem.mpr hm]
  rfl
 | none =>
  rw [show g.spots.contains (some x) = false from ?_]
  ·rfl
  ·rw [Bool.eq_false_iff]
   intro hc
   obtain ⟨i, hi, ei⟩ := List.getElem_of_mem (List.contains_iff_mem.mp hc)
   have := List.find?_eq_none.mp e i (List.mem_range.mpr hi)
   apply this
   unfold G.spot
   rw [List.getElem?_eq_getElem hi, ei]
   exact decide_eq_true rfl
theorem TL.push {H : Hp} {l t : Addr} {ps : List (Nat × Nat)} {x : Nat × Nat} (h : TL H l ps) (ht : H t = some (.tup [iV x.1, iV x.2])) : ∃ acc, H l = some (.lst acc) /\ acc.length = ps.length /\ TL (upd H l (.lst (acc ++ [.ref t]))) l (ps ++ [x]) := by
 obtain ⟨zs, z1, z2, z3⟩ := h
 refine ⟨_, z1, by rw [z2, List.length_map, List.length_map], zs ++ [(x, t)], by rw [upd_same, List.map_append]; rfl, by rw [z2, List.map_append]; rfl, fun z hz => ?_⟩
 have zne : ∀ a xs, H a = some (.tup xs) -> a ≠ l := fun a xs ha => ne_of ha z1 (by intro z; cases z)
 rcases List.mem_append.mp hz with hz | hz
 ·rw [upd_ne (zne _ _ (z3 z hz))]
  exact z3 z hz
 ·have : z = (x, t) := by simpa using hz
  subst this
  rw [upd_ne (zne _ _ ht)]
  exact ht
theorem TL.join {H : Hp} {l m : Addr} {ps qs : List (Nat × Nat)} (h : TL H l ps) (h2 : TL H m qs) : ∃ xs zs, H l = some (.lst xs) /\ H m = some (.lst zs) /\ xs.length = ps.length /\ zs.length = qs.length /\ TL (upd H l (.lst (xs ++ zs))) l (ps ++ qs) := by
 obtain ⟨zs, z1, z2, z3⟩ := h
 obtain ⟨ys, y1, y2, y3⟩ := h2
 refine ⟨_, _, z1, y1, by rw [z2, List.length_map, List.length_map], by rw [y2, List.length_map, List.length_map], zs ++ ys, by rw [upd_same, List.map_append], by rw [z2, y2, List.map_append], fun z hz => ?_⟩
 have zne : ∀ a xs, H a = some (.tup xs) -> a ≠ l := fun a xs ha => ne_of ha z1 (by intro z; cases z)
 rcases List.mem_append.mp hz with hz | hz
 ·rw [upd_ne (zne _ _ (z3 z hz))]
  exact z3 z hz
 ·rw [upd_ne (zne _ _ (y3 z hz))]
  exact y3 z hz
section
variable {P : Program} {w : World} {K : PySem.W.Frag} {mg : Str -> Option Value} {base : Heap} {C : Addr}
def gridTo (g : G) (n : Nat) : List (Nat × Nat) := (List.range n).flatMap fun r => (List.range g.width).map fun c => (r, c)
theorem gridTo_succ (g : G) (n : Nat) : gridTo g (n + 1) = gridTo g n ++ (List.range g.width).map fun c => (n, c) := by
 unfold gridTo
 rw [List.range_succ, List.flatMap_append, List.flatMap_cons, List.flatMap_nil, List.append_nil]
theorem gridTo_len (g : G) (n : Nat) : (gridTo g n).length = n * g.width := by
 induction n with
 | zero => unfold gridTo; simp
 | succ n ih => rw [gridTo_succ, List.length_append, ih, List.length_map, List.length_range, Nat.succ_mul]
theorem grid_len {g : G} (W : WFG g) : g.grid.length <= 30 := by
 have e : g.grid.length = g.steps.length * g.width := gridTo_len g g.steps.length
 rw [e]
 exact Nat.le_trans (Nat.mul_le_mul W.s5 W.w6) (by decide)
def spPlaces (C : Addr) : Sp := fun vs H Q _ => ∃ p A b g, vs = [.ref p] /\ GAt C H p A b g /\ WFG g /\ ∀ H' l, Same H H' -> H l = none -> TL H' l g.grid -> Q (.ref l) H'
theorem scPlaces : FnScope ["self", "found", "row", "column"] ["self"] (defScope (cls 35)) := ⟨rfl, rfl, rfl, by decide +kernel, rfl, by decide +kernel, by decide +kernel⟩
theorem ok_places {f : Addr} {fd : FuncData} (F : Fun K "places" "Group.places" (cls 35) f fd) (T : Tx K mg C) : FnOk P w K mg base CX0 1 f fd ["self"] (spPlaces C) := by
 refine F.ok scPlaces (fun vs H Q E h => ?_) (fun cdv A outer s H vs Q E hr h => ?_)
 ·obtain ⟨p, A, b, g, rfl, _⟩ := h
  rfl
 ·obtain ⟨p, A', b, g, rfl, B, W, k⟩ := h
  refine ⟨_, pss_cons (ps_set (i := 1) scPlaces.nd rfl (Or.inl rfl) (pe_lst pa_nil))
   (pss_cons (ps_for PassesOwn.never rfl (pi_range1 rfl T.range (pa_cons (pe_callB call_len_seq (by rfl) T.len PySem.boot_len (pa_cons (pe_fld (pv 0) rfl) pa_nil)) pa_nil)) (pg_name (i := 2) scPlaces.nd rfl (Or.inr rfl))
    (pss_one (ps_expr (pe_bm PySem.F.plainAttrs_list PySem.F.slot_list_extend PySem.F.type_list_extend mt_extend (pv 1) (pa_cons (pe_lc rfl scPlaces.nd (pi_range1 rfl T.range (pa_cons (pe_fld (pv 0) rfl) pa_nil)) (blkOk_by (own := [("column", 3)]) (by kernel_rfl))
     (fun _ _ _ _ _ => pg_name (i := 3) scPlaces.nd rfl (Or.inl rfl)) (fun _ _ _ _ _ => pts_nil) (fun _ _ _ _ _ => pe_tup (pa_cons (pv 2) (pa_cons (pv 3) pa_nil)))) pa_nil)))))
   (pss_one (ps_ret (pv 1)))), ?_⟩
  have sz := sizeLine_eq
  have s5 := W.s5
  have w6 := W.w6
  refine ⟨Nat.zero_le _, fun lf hlf => ?_⟩
  have s0 : Same H (upd H lf (.lst [])) := Same.new hlf
  have B0 := B.same s0
  refine ⟨_, rfl, fS T B0 (lenL B0.st ⟨_, rfl, by rw [nVs_len]; omega, by rw [nVs_len]; omega, ?_⟩)⟩
  rw [nVs_len]
  refine for_range (n := g.steps.length) (fun i σ H' => ∃ v2 v3 : Option V, σ = [some (.ref p), some (.ref lf), v2, v3] /\ Same H H' /\ TL H' lf (gridTo g i)) ⟨none, none, rfl, s0, [], upd_same, rfl, fun z hz => by cases hz⟩ ?_ ?_
  ·rintro i σ H' hi ⟨v2, v3, rfl, s1, hT⟩
   have B1 := B.same s1
   rw [Int.zero_add]
   obtain ⟨zs, z1, z2, z3⟩ := id hT
   refine ⟨_, rfl, .inl ⟨rfl, _, SqL.of z1⟩, ?_⟩
   refine ⟨_, rfl, fW T B1 ⟨_, rfl, by omega, by omega, ?_⟩⟩
   intro D hD
   refine lc_range (n := g.width) (fun j H2 => Same H' H2 /\ TL H2 D ((List.range j).map fun c => (i, c))) ⟨Same.new hD, [], upd_same, rfl, fun z hz => by cases hz⟩ ?_ ?_
   ·rintro j H2 hj ⟨s2, hT2⟩
    rw [Int.zero_add]
    refine ⟨rfl, ?_⟩
    refine ⟨_, rfl, _, rfl, by show 2 <= sizeLine; decide, fun t ht => ?_⟩
    have s3 : Same H2 (upd H2 t (.tup [iV i, iV j])) := Same.new ht
    obtain ⟨acc, e1, e2, e3⟩ := TL.push (x := (i, j)) (TL.same s3 hT2) upd_same
    refine ⟨acc, e1, by rw [e2, List.length_map, List.length_range]; omega, same_put (s2.trans s3) hD, ?_⟩
    rw [List.range_succ, List.map_append]
    exact e3
   ·rintro H2 ⟨s2, hT2⟩
    obtain ⟨xs, ys, x1, y1, lx, ly, hJ⟩ := TL.join (TL.same s2 hT) hT2
    refine ⟨lf, D, xs, ys, rfl, rfl, x1, y1, ?_, ?_⟩
    ·rw [lx, ly, gridTo_len, List.length_map, List.length_range]
     have : i * g.width <= 5 * 6 := Nat.mul_le_mul (by omega) w6
     omega
    ·refine ⟨_, _, rfl, same_put (s1.trans s2) hlf, ?_⟩
     rw [gridTo_succ]
     exact hJ
  ·rintro σ H' ⟨v2, v3, rfl, s1, hT⟩
   exact ⟨_, rfl, k H' lf s1 hlf hT⟩
def G.freeP (g : G) : List (Nat × Nat) := g.grid.filter fun x => (g.at? x.1 x.2).isNone
def spFreeP (C : Addr) : Sp := fun vs H Q _ => ∃ p A b g, vs = [.ref p] /\ GAt C H p A b g /\ WFG g /\ ∀ H' l, Same H H' -> H l = none -> TL H' l g.freeP -> Q (.ref l) H'
theorem scFreeP : FnScope ["self", "place"] ["self"] (defScope (cls 36)) := ⟨rfl, rfl, rfl, by decide +kernel, rfl, by decide +kernel, by decide +kernel⟩
theorem TL.of_zip {H : Hp} {l : Addr} {zs : List ((Nat × Nat) × Addr)} (h : H l = some (.lst (zs.map fun z => V.ref z.2))) (h2 : ∀ z ∈ zs, H z.2 = some (.tup [iV z.1.1, iV z.1.2])) : TL H l (zs.map (·.1)) := ⟨zs, h, rfl, h2⟩
theorem notIn_read {K : PySem.W.Frag} {H : Hp} {t sp : Addr} {vs : List V} {os : List (Option (Nat × Nat))} {x : Nat × Nat} {Q : VK} (ht : H t = some (.tup [iV x.1, iV x.2])) (hs : H sp = some (.lst vs)) (hp : Paired (spotV H) os vs) (q : Q (.bl (!(os.contains (some x)))) H) : rInD K true (.ref t) (.ref sp) H Q := by
 refine ⟨spD (some x), os.map spD, spD_dp ⟨t, rfl, ht⟩, .lst (SqL.of hs) (spD_dpAll hp), spD_lay _, spD_all _, Nat.le_trans (show (spD (some x)).depth <= 2 from Nat.le_of_ble_eq_true rfl) (by decide), ?_⟩
 rw [spD_any]
 exact q
theorem op_notInDk {X : Cx} {K : PySem.W.Frag} (hu : X.A.units + 64 < cLine) (h : X.K = K := by rfl) : OpR X (compareOp .NotIn) (rInD K true) := by rw [<- h]; exact op_notInD hu
theorem ok_freeP {f : Addr} {fd : FuncData} (F : Fun K "free_places" "Group.free_places" (cls 36) f fd) (T : Tx K mg C) (M : Mt P w K mg base C "places" ["self"] 1 (spPlaces C)) : FnOk P w K mg base CX0 2 f fd ["self"] (spFreeP C) := by
 refine F.ok scFreeP (fun vs H Q E h => ?_) (fun cdv A outer s H vs Q E hr h => ?_)
 ·obtain ⟨p, A, b, g, rfl, _⟩ := h
  rfl
 ·obtain ⟨p, A', b, g, rfl, B, W, k⟩ := h
  refine ⟨_, pss_one (ps_ret (pe_lc rfl scFreeP.nd (pi_list (pe_mt0 M T.cl hr (pv 0))) (blkOk_by (own := [("place", 1)]) (by kernel_rfl)) (fun _ _ _ _ _ => pg_name (i := 1) scFreeP.nd rfl (Or.inl rfl))
   (fun _ _ _ _ _ => pts_one (pt_cmpR (op_notInDk (K := K) hr.units) (pv 1) (pfld (K := K) (pv 0)) rfl)) (fun _ _ _ _ _ => pv 1))), ?_⟩
  refine ⟨_, rfl, mG B (by decide +kernel) ⟨p, A', b, g, rfl, B, W, fun H2 lc s2 hlc h2' => ?_⟩⟩
  obtain ⟨zs, z1, z2, z3⟩ := h2'
  refine ⟨lc, rfl, ⟨_, SqL.of z1⟩, fun D hD => ?_⟩
  refine lc_listF zs (fun z => V.ref z.2) (SqL.of z1) (fun z => (g.at? z.1.1 z.1.2).isNone) (fun z => V.ref z.2) ?_ hD ?_ ?_
  ·have := grid_len W
   rw [z2, List.length_map] at this
   omega
  ·intro z H' K4 K3 hz s1 k4 k3
   have B1 := B.same (s2.trans s1)
   obtain ⟨vs, v1, v2⟩ := B1.sp
   refine ⟨rfl, ?_⟩
   refine ⟨_, rfl, _, rfl, fP T B1 (notIn_read (s1 _ _ (z3 z hz)) v1 v2 ⟨_, rfl, ?_⟩)⟩
   rw [at_contains]
   exact ite2 (fun d => ⟨_, rfl, k4 d H' (Same.refl _)⟩) (fun d => k3 (Bool.eq_false_iff.mpr d) H' (Same.refl _))
  ·intro H' s1 h1'
   refine k H' D (s2.trans s1) (s2.free hD) ?_
   have := TL.of_zip h1' fun z hz => s1 _ _ (z3 z (List.mem_filter.mp hz).1)
   unfold G.freeP
   rw [z2, List.filter_map]
   exact this
end
end
section
section
variable {P : Program} {w : World} {K : PySem.W.Frag} {mg : Str -> Option Value} {base : Heap} {C : Addr}
theorem freeP_len {g : G} (W : WFG g) : g.freeP.length <= 30 := Nat.le_trans (List.length_filter_le _ _) (grid_len W)
def numsOf (l : List (Nat × Nat)) : List Nat := l.flatMap fun x => [x.1, x.2]
theorem numsOf_len : ∀ l : List (Nat × Nat), (numsOf l).length = 2 * l.length
 | [] => rfl
 | x :: l => by
  have ih := numsOf_len l
  unfold numsOf at ih ⊢
  rw [List.flatMap_cons, List.length_append, ih]
  simp only [List.length_cons, List.length_nil]
  omega
theorem scCFree : FnScope ["group", "given", "places", "told", "place"] ["group", "given"] (defScope (top 56)) := ⟨rfl, rfl, rfl, by decide +kernel, rfl, by decide +kernel, by decide +kernel⟩
theorem ok_cfree {f : Addr} {fd : FuncData} (F : Fun K "free" "free" (top 56) f fd) (T : Tx K mg C) (M : Mt P w K mg base C "free_places" ["self"] 2 (spFreeP C)) : FnOk P w K mg base CX0 12 f fd ["group", "given"] (spCall C (mk0 .free)) := by
 refine F.ok scCFree (spCall_len rfl) (fun cdv A outer s H vs Q E hr h => ?_)
 obtain ⟨p, A', g, a, ad, as, x, rfl, B, R, hd, hx, no, k⟩ := h
 obtain ⟨rfl, rfl⟩ := mk0_is hx
 have W := R.wf
 refine ⟨_, pss_cons (ps_set (i := 2) scCFree.nd rfl (Or.inl rfl) (pe_mt0 M T.cl hr (pv 0)))
  (pss_cons (ps_set (i := 3) scCFree.nd rfl (Or.inl rfl) (pe_lst (pa_cons (pe_callB call_len_seq (by rfl) T.len PySem.boot_len (pa_cons (pv 2) pa_nil)) pa_nil)))
  (pss_cons (ps_for PassesOwn.never rfl (pi_list (pv 2)) (pg_name (i := 4) scCFree.nd rfl (Or.inl rfl))
   (pss_one (ps_expr (pe_bm PySem.F.plainAttrs_list PySem.F.slot_list_extend PySem.F.type_list_extend mt_extendT (pv 3) (pa_cons (pv 4) pa_nil)))))
  (pss_one (ps_ret (pv 3))))), ?_⟩
 have dd : Su57.does a .free = (a, Su57.num g.freeP.length (numsOf g.freeP)) := by
  show (a, Su57.num ((List.range a.cells.length).filter fun i => a.cells.getD i 0 == 0).length (((List.range a.cells.length).filter fun i => a.cells.getD i 0 == 0).flatMap fun i => [i / a.width, i % a.width])) = _
  rw [R.free_nums, R.free_eq, List.length_map]
  rfl
 rw [dd] at k
 have sz := sizeLine_eq
 have f30 := freeP_len W
 refine ⟨_, rfl, mG B (by decide +kernel) ⟨p, A', true, g, rfl, B, W, fun H1 lc s1 hlc hT => ?_⟩⟩
 obtain ⟨zs, z1, z2, z3⟩ := hT
 have zl : zs.length = g.freeP.length := by rw [z2, List.length_map]
 refine ⟨_, rfl, lenL z1 ⟨by show 1 <= sizeLine; decide, fun lt hlt => ?_⟩⟩
 have s2 : Same H1 (upd H1 lt (.lst [V.int ((zs.map fun z => V.ref z.2).length : Nat)])) := Same.new hlt
 have hlt0 : H lt = none := s1.free hlt
 refine ⟨_, rfl, lc, rfl, ⟨_, SqL.of (s2 _ _ z1)⟩, for_list (K := K) (a := lc) (xs := zs.map fun z => V.ref z.2) (fun i σ H' => ∃ v4 : Option V, σ = [some (.ref p), some (.ref ad), some (.ref lc), some (.ref lt), v4] /\ Same H1 H' /\
  H' lt = some (.lst (V.int (g.freeP.length : Nat) :: nVs (numsOf (g.freeP.take i))))) ⟨none, rfl, s2, by rw [upd_same, List.length_map, zl]; rfl⟩ (fun i σ H' _ ⟨_, _, q, _⟩ => SqL.of (q _ _ z1)) ?_ ?_⟩
 ·rintro i y σ H' hi ⟨v4, rfl, s3, ht⟩
  rw [List.getElem?_map] at hi
  cases ez : zs[i]? with
  | none => rw [ez] at hi; cases hi
  | some z =>
   rw [ez] at hi
   have ey : V.ref z.2 = y := Option.some.inj hi
   subst ey
   have hz := z3 z (List.mem_of_getElem? ez)
   have ef : g.freeP[i]? = some z.1 := by rw [z2, List.getElem?_map, ez]; rfl
   have nl := numsOf_len (g.freeP.take i)
   have tl : (g.freeP.take i).length <= 30 := by rw [List.length_take]; omega
   refine ⟨_, rfl, .inl ⟨rfl, _, SqL.of ht⟩, _, rfl, lt, z.2, _, _, rfl, rfl, ht, SqT.of (s3 _ _ hz), ?_, ?_⟩
   ·rw [List.length_cons, nVs_len, nl]
    show _ + 1 + 2 <= sizeLine
    omega
   ·refine ⟨_, rfl, same_put s3 hlt, ?_⟩
    rw [upd_same]
    unfold numsOf
    rw [take_flat ef, nVs_append]
    rfl
 ·rintro σ H' ⟨v4, rfl, s3, ht⟩
  refine ⟨_, rfl, k H' lt (AnsAt.ro B R (s1.trans s3) hlt0 ?_)⟩
  rw [ht, List.length_map, zl, List.take_of_length_le (Nat.le_refl _)]
  show _ = some (HO.lst (V.int _ :: (Su57Neutral.outs _).map V.int))
  rw [outs_map]
  rfl
def spWithout (C : Addr) : Sp := fun vs H Q _ => ∃ p A b g o n, vs = [.ref p, iV o, iV n] /\ GAt C H p A b g /\ WFG g /\ (g.spot o).isSome = true /\ ∀ H', Same H H' -> Q (.bl (g.without o n)) H'
theorem scWithout : FnScope ["self", "other", "p", "hider"] ["self", "other", "p"] (defScope (cls 39)) := ⟨rfl, rfl, rfl, by decide +kernel, rfl, by decide +kernel, by decide +kernel⟩
theorem ok_without {f : Addr} {fd : FuncData} (F : Fun K "is_seen_without" "Group.is_seen_without" (cls 39) f fd) (T : Tx K mg C) (Mh : Mt P w K mg base C "hiders" ["self", "p"] 4 (spHiders C)) : FnOk P w K mg base CX0 5 f fd ["self", "other", "p"] (spWithout C) := by
 refine F.ok scWithout (fun vs H Q E h => ?_) (fun cdv A outer s H vs Q E hr h => ?_)
 ·obtain ⟨p, A, b, g, o, n, rfl, _⟩ := h
  rfl
 ·obtain ⟨p, A', b, g, o, n, rfl, B, W, ho, k⟩ := h
  refine ⟨_, pss_one (ps_ret (pe_cmpR op_eq (pe_callB call_len_seq (by rfl) T.len PySem.boot_len (pa_cons (pe_lc rfl scWithout.nd (pi_list (pe_mt Mh T.cl hr (pv 0) (pa_cons (pv 1) pa_nil))) (blkOk_by (own := [("hider", 3)]) (by kernel_rfl)) (fun _ _ _ _ _ => pg_name (i := 3) scWithout.nd rfl (Or.inl rfl))
   (fun _ _ _ _ _ => pts_one (pt_cmpR op_ne (pv 3) (pv 2) (nomark _))) (fun _ _ _ _ _ => pv 3)) pa_nil)) pe_int (nomark _))), ?_⟩
  refine ⟨_, rfl, mG B (by decide +kernel) ⟨_, rfl, p, A', b, g, o, rfl, B, W, ho, fun H2 lc s2 hlc h2' => ?_⟩⟩
  refine ⟨lc, rfl, ⟨_, SqL.of h2'⟩, fun D hD => ?_⟩
  refine lc_listF (g.hiders o) iV (SqL.of h2') (fun h => h != n) iV ?_ hD ?_ ?_
  ·have := hiders_len g W o
   omega
  ·intro x H' K4 K3 hx s1 k4 k3
   refine ⟨rfl, _, rfl, _, rfl, rfl, _, rfl, ?_⟩
   show if (!decide (iV x = iV n)) = true then _ else _
   rw [iV_ne]
   exact ite2 (fun d => ⟨_, rfl, k4 d H' (Same.refl _)⟩) (fun d => k3 (Bool.eq_false_iff.mpr d) H' (Same.refl _))
  ·intro H' s1 h1'
   refine lenL h1' ⟨rfl, ?_⟩
   show Q (.bl (decide (V.int ((nVs ((g.hiders o).filter fun h => h != n)).length : Nat) = V.int 0))) H'
   rw [len0_eq]
   exact k H' (s2.trans s1)
def spGood1 (C : Addr) : Sp := fun vs H Q _ => ∃ p A b g n t x, vs = [.ref p, iV n, .ref t] /\ GAt C H p A b g /\ WFG g /\ n < g.heights.length /\ H t = some (.tup [iV x.1, iV x.2]) /\ x.1 < g.steps.length /\ ∀ H', Same H H' -> Q (.bl (g.wouldGood n x)) H'
theorem scGood1 : FnScope ["self", "p", "place", "head", "other", "spoils"] ["self", "p", "place"] (defScope (cls 38)) := ⟨rfl, rfl, rfl, by decide +kernel, rfl, by decide +kernel, by decide +kernel⟩
theorem all_take {q : Nat -> Bool} {l : List Nat} {i x : Nat} (h : l[i]? = some x) : (l.take (i + 1)).all q = ((l.take i).all q && q x) := by
 rw [List.take_add_one, h, List.all_append]
 congr 1
 show ([x] : List Nat).all q = _
 rw [List.all_cons, List.all_nil, Bool.and_true]
theorem all_false {q : Nat -> Bool} {l : List Nat} {x : Nat} (h : x ∈ l) (hq : q x = false) : l.all q = false := by
 rw [Bool.eq_false_iff]
 intro z
 rw [List.all_eq_true] at z
 rw [z x h] at hq
 cases hq
theorem ok_good1 {f : Addr} {fd : FuncData} (F : Fun K "would_be_good" "Group.would_be_good" (cls 38) f fd) (T : Tx K mg C) (Mc : Mt P w K mg base C "column_people" ["self", "column"] 2 (spCol C)) (Mh : Mt P w K mg base C "head" ["self", "p"] 1 (spHead C))
  (Fh : Fn P w K mg base "comes_too_high" ["front_head", "face", "back_head"] 1 spHigh) (Mw : Mt P w K mg base C "is_seen_without" ["self", "other", "p"] 5 (spWithout C)) : FnOk P w K mg base CX0 6 f fd ["self", "p", "place"] (spGood1 C) := by
 refine F.ok scGood1 (fun vs H Q E h => ?_) (fun cdv A outer s H vs Q E hr h => ?_)
 ·obtain ⟨p, A, b, g, n, t, x, rfl, _⟩ := h
  rfl
 ·obtain ⟨p, A', b, g, n, t, x, rfl, B, W, hn, ht, hx1, k⟩ := h
  refine ⟨_, pss_cons (ps_set (i := 3) scGood1.nd rfl (Or.inl rfl) (pe_op op_add (pe_ix ix_list (pe_fld (pv 0) rfl) (pe_ix ix_tup (pv 2) pe_int (fun _ _ => rfl)) (fun _ _ => rfl)) (pe_ix ix_list (pe_fld (pv 0) rfl) (pv 1) (fun _ _ => rfl))))
   (pss_cons (ps_for PassesOwn.never rfl (pi_list (pe_mt Mc T.cl hr (pv 0) (pa_cons (pe_ix ix_tup (pv 2) pe_int (fun _ _ => rfl)) pa_nil))) (pg_name (i := 4) scGood1.nd rfl (Or.inl rfl))
    (pss_cons (ps_if (pt_cmpR op_eq (pv 4) (pv 1) (nomark _)) (pss_one ps_continue) pss_nil)
    (pss_cons (ps_if (pt_cmpR op_lt (pe_ix ix_tup (pe_ix ix_list (pe_fld (pv 0) rfl) (pv 4) (fun _ _ => rfl)) pe_int (fun _ _ => rfl)) (pe_ix ix_tup (pv 2) pe_int (fun _ _ => rfl)) (nomark _))
      (pss_one (ps_set (i := 5) scGood1.nd rfl (Or.inl rfl) (pe_fn Fh hr (by rfl) (pa_cons (pe_mt Mh T.cl hr (pv 0) (pa_cons (pv 4) pa_nil)) (pa_cons (pe_fld (pv 0) rfl) (pa_cons (pv 3) pa_nil))))))
      (pss_one (ps_set (i := 5) scGood1.nd rfl (Or.inl rfl) (pe_and (pe_fn Fh hr (by rfl) (pa_cons (pv 3) (pa_cons (pe_fld (pv 0) rfl) (pa_cons (pe_mt Mh T.cl hr (pv 0) (pa_cons (pv 4) pa_nil)) pa_nil)))) (pe_one (pe_mt Mw T.cl hr (pv 0) (pa_cons (pv 4) (pa_cons (pv 1) pa_nil))))))))
    (pss_one (ps_if (pt_val (pv 5)) (pss_one (ps_ret pe_bl)) pss_nil)))))
   (pss_one (ps_ret pe_bl))), ?_⟩
  have s5 := W.s5
  refine ⟨_, rfl, fS T B ⟨_, rfl, ixT (n := 0) ht rfl (ixL B.st (get_step hx1) ⟨_, rfl, fH T B ⟨_, rfl, ixL B.ht (get_height hn) ⟨_, _, rfl, rfl, ?_⟩⟩⟩)⟩⟩
  refine ⟨_, rfl, mG B (by decide +kernel) ⟨_, rfl, ixT (n := 1) ht rfl ⟨p, A', b, g, x.2, rfl, B, W, fun H1 lc s1 hlc h1 => ?_⟩⟩⟩
  have cl := colPeople_len g x.2
  refine ⟨lc, rfl, ⟨_, SqL.of h1⟩, for_list (K := K) (a := lc) (xs := nVs (g.colPeople x.2)) (fun i σ H' => ∃ v4 v5 : Option V, σ = [some (.ref p), some (iV n), some (.ref t), some (iV (g.step x.1 + g.height n)), v4, v5] /\ Same H1 H' /\
   ((g.colPeople x.2).take i).all (fun o => o == n || !(g.spoils n x o)) = true) ⟨none, none, rfl, Same.refl _, rfl⟩ (fun i σ H' _ ⟨_, _, _, q, _⟩ => SqL.of (q _ _ h1)) ?_ ?_⟩
  ·rintro i y σ H' hi ⟨v4, v5, rfl, s2, hall⟩
   obtain ⟨o, ho, rfl⟩ := nVs_at hi
   have om := List.mem_of_getElem? ho
   obtain ⟨ro, hro, so⟩ := col_mem om
   have s12 := s1.trans s2
   have B2 := B.same s12
   have ht2 := s12 _ _ ht
   have st := all_take (q := fun o => o == n || !(g.spoils n x o)) ho
   obtain ⟨vs', t', f1, f2, f3⟩ := B2.row so
   refine ⟨_, rfl, _, rfl, rfl, _, rfl, ?_⟩
   rw [iV_eq]
   refine ite2 (fun d => ?_) (fun d => ?_)
   ·have d := of_decide_eq_true d
    refine ⟨_, _, rfl, s2, ?_⟩
    rw [st, hall, d, beq_self_eq_true]
    rfl
   ·have d : ¬ o = n := fun z => d (decide_eq_true z)
    have bq : (o == n) = false := by simpa using d
    -- what is asked at the end of a turn
    have fin : ∀ H3, Same H' H3 -> g.spoils n x o = false -> ((g.colPeople x.2).take (i + 1)).all (fun o => o == n || !(g.spoils n x o)) = true := fun H3 s3 hs => by
     rw [st, hall, bq, hs]
     rfl
    have bad : ∀ H3, Same H' H3 -> g.spoils n x o = true -> Q (.bl false) H3 := fun H3 s3 hs => by
     have := k H3 (s12.trans s3)
     unfold G.wouldGood at this
     rw [all_false om (by rw [bq, hs]; rfl)] at this
     exact this
    refine ⟨_, rfl, fP T B2 ⟨_, rfl, ixL f1 f2 (ixT (n := 0) f3 rfl ⟨_, rfl, ixT (n := 0) ht2 rfl ⟨_, _, rfl, rfl, _, rfl, ?_⟩⟩)⟩⟩
    have e1 : decide ((ro : Int) < (x.1 : Int)) = decide (g.row o < x.1) := by rw [(spot_row so).1]; exact decide_eq_decide.mpr (by omega)
    rw [e1]
    refine ite2 (fun d1 => ?_) (fun d1 => ?_)
    ·have es : g.spoils n x o = decide (g.step x.1 + g.height n < g.head o + g.face) := by unfold G.spoils; rw [if_pos (of_decide_eq_true d1)]
     refine ⟨_, rfl, mG B2 (by decide +kernel) ⟨_, rfl, p, A', b, g, o, rfl, B2, W, by rw [so]; rfl, ?_⟩⟩
     refine ⟨_, rfl, fF T B2 ⟨_, rfl, g.head o, g.face, g.step x.1 + g.height n, rfl, ?_⟩⟩
     rw [<- es]
     refine ⟨_, rfl, _, rfl, ?_⟩
     exact ite2 (fun d2 => bad H' (Same.refl _) d2) (fun d2 => ⟨_, _, rfl, s2, fin H' (Same.refl _) (Bool.eq_false_iff.mpr d2)⟩)
    ·have es : g.spoils n x o = (decide (g.head o < g.step x.1 + g.height n + g.face) && g.without o n) := by unfold G.spoils; rw [if_neg (fun z => d1 (decide_eq_true z))]
     refine ⟨_, rfl, _, rfl, fF T B2 ⟨_, rfl, mG B2 (by decide +kernel) ⟨_, rfl, p, A', b, g, o, rfl, B2, W, by rw [so]; rfl, ?_⟩⟩⟩
     refine ⟨g.step x.1 + g.height n, g.face, g.head o, rfl, _, rfl, ?_⟩
     refine ite2 (fun d2 => ?_) (fun d2 => ?_)
     ·refine ⟨_, rfl, mG B2 (by decide +kernel) ⟨_, rfl, _, rfl, p, A', b, g, o, n, rfl, B2, W, by rw [so]; rfl, fun H3 s3 => ?_⟩⟩
      rw [d2, Bool.true_and] at es
      rw [<- es]
      refine ⟨_, rfl, _, rfl, ?_⟩
      exact ite2 (fun d3 => bad H3 s3 d3) (fun d3 => ⟨_, _, rfl, s2.trans s3, fin H3 s3 (Bool.eq_false_iff.mpr d3)⟩)
     ·rw [Bool.eq_false_iff.mpr d2, Bool.false_and] at es
      refine ⟨_, rfl, _, rfl, ?_⟩
      exact iteF ⟨_, _, rfl, s2, fin H' (Same.refl _) es⟩
  ·rintro σ H' ⟨v4, v5, rfl, s2, hall⟩
   rw [nVs_len, List.take_of_length_le (Nat.le_refl _)] at hall
   have := k H' (s1.trans s2)
   unfold G.wouldGood at this
   rw [hall] at this
   exact this
end
end
section
section
variable {P : Program} {w : World} {K : PySem.W.Frag} {mg : Str -> Option Value} {base : Heap} {C : Addr}
def G.openGood (g : G) (p : Nat) (x : Nat × Nat) : Bool := (decide (g.spot p = some x) || (g.at? x.1 x.2).isNone) && g.wouldGood p x
theorem Rel.openGood_eq {g : G} {a : Su57.Abs} (R : Rel g a) {p : Nat} (hp : p < g.heights.length) {x : Nat × Nat} (hx : x ∈ g.grid) : g.openGood p x = g.okPlace p x := by
 unfold G.openGood
 rw [R.open_eq hp]
 cases e : ((g.takeOff p).at? x.1 x.2).isNone with
 | true => rw [Bool.true_and, R.would_eq hp hx e]
 | false => unfold G.okPlace; rw [e]; rfl
theorem find_at {α : Type} {q : α -> Bool} {l : List α} {i : Nat} {x : α} (h : l[i]? = some x) (h0 : (l.take i).find? q = none) (hq : q x = true) : l.find? q = some x := by
 have hi := (List.getElem?_eq_some_iff.mp h)
 obtain ⟨h1, h2⟩ := hi
 have e : l = l.take i ++ (x :: l.drop (i + 1)) := by
  rw [<- h2, <- List.drop_eq_getElem_cons h1, List.take_append_drop]
 rw [e, List.find?_append, h0, List.find?_cons_of_pos hq]
 rfl
theorem find_next {α : Type} {q : α -> Bool} {l : List α} {i : Nat} {x : α} (h : l[i]? = some x) (h0 : (l.take i).find? q = none) (hq : q x = false) : (l.take (i + 1)).find? q = none := by
 rw [List.take_add_one, h, List.find?_append, h0]
 show List.find? q [x] = none
 rw [List.find?_cons_of_neg (by rw [hq]; decide)]
 rfl
theorem spD_eqv' (o : Option (Nat × Nat)) (x : Nat × Nat) : PyData.eqv (spD (some x)) (spD o) = decide (o = some x) := by
 cases o with
 | none => rfl
 | some y =>
  obtain ⟨a, b⟩ := y
  obtain ⟨r, c⟩ := x
  show (((r : Int) == (a : Int)) && (((c : Int) == (b : Int)) && true)) = _
  rw [Bool.and_true, Bool.eq_iff_iff]
  simp
  omega
theorem spD_shaped (o : Option (Nat × Nat)) : SeqAt.shaped (spD o) = true := by
 cases o with
 | none => rfl
 | some x => rfl
def spGoodP (C : Addr) : Sp := fun vs H Q _ => ∃ p A b g n, vs = [.ref p, iV n] /\ GAt C H p A b g /\ WFG g /\ n < g.heights.length /\ ∀ H' v, Same H H' -> spotV H' (g.grid.find? (g.openGood n)) v -> Q v H'
theorem scGoodP : FnScope ["self", "p", "place", "is_open"] ["self", "p"] (defScope (cls 37)) := ⟨rfl, rfl, rfl, by decide +kernel, rfl, by decide +kernel, by decide +kernel⟩
theorem ok_goodP {f : Addr} {fd : FuncData} (F : Fun K "good_place" "Group.good_place" (cls 37) f fd) (T : Tx K mg C) (M1 : Mt P w K mg base C "places" ["self"] 1 (spPlaces C)) (M2 : Mt P w K mg base C "would_be_good" ["self", "p", "place"] 6 (spGood1 C)) : FnOk P w K mg base CX0 7 f fd ["self", "p"] (spGoodP C) := by
 refine F.ok scGoodP (fun vs H Q E h => ?_) (fun cdv A outer s H vs Q E hr h => ?_)
 ·obtain ⟨p, A, b, g, n, rfl, _⟩ := h
  rfl
 ·obtain ⟨p, A', b, g, n, rfl, B, W, hn, k⟩ := h
  refine ⟨_, pss_cons (ps_for PassesOwn.never rfl (pi_list (pe_mt0 M1 T.cl hr (pv 0))) (pg_name (i := 2) scGoodP.nd rfl (Or.inl rfl))
    (pss_cons (ps_set (i := 3) scGoodP.nd rfl (Or.inl rfl) (pe_or (pe_cmpR (op_eqD hr.units) (pv 2) (pe_ix ix_list (pe_fld (pv 0) rfl) (pv 1) (fun _ _ => rfl)) (nomark _)) (pe_one (pe_cmpR (op_notInD hr.units) (pv 2) (pe_fld (pv 0) rfl) rfl))))
    (pss_one (ps_if (PW.pt (pw_and (pt_val (pv 3)) (pw_and1 (pt_val (pe_mt M2 T.cl hr (pv 0) (pa_cons (pv 1) (pa_cons (pv 2) pa_nil))))))) (pss_one (ps_ret (pv 2))) pss_nil))))
   (pss_one (ps_ret pe_non)), ?_⟩
  have hns : n < g.spots.length := by rw [W.slen]; exact hn
  refine ⟨_, rfl, mG B (by decide +kernel) ⟨p, A', b, g, rfl, B, W, fun H1 lc s1 hlc hT => ?_⟩⟩
  obtain ⟨zs, z1, z2, z3⟩ := hT
  refine ⟨lc, rfl, ⟨_, SqL.of z1⟩, for_list (K := K) (a := lc) (xs := zs.map fun z => V.ref z.2) (fun i σ H' => ∃ v2 v3 : Option V, σ = [some (.ref p), some (iV n), v2, v3] /\ Same H1 H' /\ (g.grid.take i).find? (g.openGood n) = none)
   ⟨none, none, rfl, Same.refl _, rfl⟩ (fun i σ H' _ ⟨_, _, _, q, _⟩ => SqL.of (q _ _ z1)) ?_ ?_⟩
  ·rintro i y σ H' hi ⟨v2, v3, rfl, s2, h0⟩
   rw [List.getElem?_map] at hi
   cases ez : zs[i]? with
   | none => rw [ez] at hi; cases hi
   | some z =>
    rw [ez] at hi
    have ey : V.ref z.2 = y := Option.some.inj hi
    subst ey
    have ef : g.grid[i]? = some z.1 := by rw [z2, List.getElem?_map, ez]; rfl
    have hgm := grid_mem (List.mem_of_getElem? ef)
    have s12 := s1.trans s2
    have B2 := B.same s12
    have hz := s2 _ _ (z3 z (List.mem_of_getElem? ez))
    obtain ⟨vs, v, f1, f2, f3⟩ := B2.spot hns
    obtain ⟨vs', v1, v2'⟩ := B2.sp
    refine ⟨_, rfl, _, rfl, fP T B2 ⟨_, rfl, ixL f1 f2 ?_⟩⟩
    refine ⟨spD (some z.1), spD (g.spot n), spD_dp ⟨z.2, rfl, hz⟩, spD_dp f3, spD_shaped _, spD_shaped _, ?_⟩
    rw [spD_eqv']
    refine ⟨_, rfl, ?_⟩
    refine ite2 (fun d => ?_) (fun d => ?_)
    ·have eo : g.openGood n z.1 = g.wouldGood n z.1 := by unfold G.openGood; rw [d, Bool.true_or, Bool.true_and]
     refine ⟨_, rfl, _, rfl, iteT ?_⟩
     refine ⟨_, rfl, mG B2 (by decide +kernel) ⟨_, rfl, _, rfl, p, A', b, g, n, z.2, z.1, rfl, B2, W, hn, hz, hgm.1, fun H3 s3 => ⟨_, rfl, ?_⟩⟩⟩
     refine ite2 (fun d2 => ?_) (fun d2 => ?_)
     ·refine ⟨_, rfl, k H3 _ (s12.trans s3) ?_⟩
      rw [find_at ef h0 (by rw [eo]; exact d2)]
      exact ⟨z.2, rfl, s3 _ _ hz⟩
     ·exact ⟨_, _, rfl, s2.trans s3, find_next ef h0 (by rw [eo]; exact Bool.eq_false_iff.mpr d2)⟩
    ·refine ⟨_, rfl, _, rfl, fP T B2 (notIn_read hz v1 v2' ?_)⟩
     rw [at_contains]
     refine ⟨_, rfl, _, rfl, ?_⟩
     refine ite2 (fun d1 => ?_) (fun d1 => ?_)
     ·have eo : g.openGood n z.1 = g.wouldGood n z.1 := by unfold G.openGood; rw [d1, Bool.or_true, Bool.true_and]
      refine ⟨_, rfl, mG B2 (by decide +kernel) ⟨_, rfl, _, rfl, p, A', b, g, n, z.2, z.1, rfl, B2, W, hn, hz, hgm.1, fun H3 s3 => ⟨_, rfl, ?_⟩⟩⟩
      refine ite2 (fun d2 => ?_) (fun d2 => ?_)
      ·refine ⟨_, rfl, k H3 _ (s12.trans s3) ?_⟩
       rw [find_at ef h0 (by rw [eo]; exact d2)]
       exact ⟨z.2, rfl, s3 _ _ hz⟩
      ·exact ⟨_, _, rfl, s2.trans s3, find_next ef h0 (by rw [eo]; exact Bool.eq_false_iff.mpr d2)⟩
     ·refine ite2 (fun z => absurd z (by decide)) (fun _ => ?_)
      exact ⟨_, _, rfl, s2, find_next ef h0 (by unfold G.openGood; rw [Bool.eq_false_iff.mpr d, Bool.eq_false_iff.mpr d1]; rfl)⟩
  ·rintro σ H' ⟨v2, v3, rfl, s2, h0⟩
   rw [List.length_map] at h0
   have e0 : g.grid.length = zs.length := by rw [z2, List.length_map]
   rw [<- e0, List.take_of_length_le (Nat.le_refl _)] at h0
   have := k H' .non (s1.trans s2)
   rw [h0] at this
   exact this rfl
theorem scCGood : FnScope ["group", "given", "p", "place"] ["group", "given"] (defScope (top 57)) := ⟨rfl, rfl, rfl, by decide +kernel, rfl, by decide +kernel, by decide +kernel⟩
theorem ok_cgood {f : Addr} {fd : FuncData} (F : Fun K "good" "good" (top 57) f fd) (T : Tx K mg C) (c : Tc mg) (c2 : ∃ t, mg "NO_GOOD_PLACE" = some (.int (-33) t)) (M1 : Mt P w K mg base C "has_person" ["self", "p"] 1 (spHas C)) (M2 : Mt P w K mg base C "good_place" ["self", "p"] 7 (spGoodP C)) : FnOk P w K mg base CX0 12 f fd ["group", "given"] (spCall C (mk1 .good)) := by
 obtain ⟨t1, c1⟩ := c.none_such
 obtain ⟨t2, c2⟩ := c2
 refine F.ok scCGood (spCall_len rfl) (fun cdv A outer s H vs Q E hr h => ?_)
 obtain ⟨p, A', g, a, ad, as, x, rfl, B, R, hd, hx, no, k⟩ := h
 obtain ⟨n, rfl, rfl⟩ := mk1_is hx
 have W := R.wf
 refine ⟨_, pss_cons (ps_set (i := 2) scCGood.nd rfl (Or.inl rfl) (pe_ix ix_list (pv 1) pe_int (fun _ _ => rfl)))
  (pss_cons (ps_if (pt_not (pt_val (pe_mt M1 T.cl hr (pv 0) (pa_cons (pv 2) pa_nil)))) (pss_one (ps_ret (pe_lst (pa_cons (pe_gint (by rfl) c1) pa_nil)))) pss_nil)
  (pss_cons (ps_set (i := 3) scCGood.nd rfl (Or.inl rfl) (pe_mt M2 T.cl hr (pv 0) (pa_cons (pv 2) pa_nil)))
  (pss_cons (ps_if (pt_cmp (pc_isN (pv 3))) (pss_one (ps_ret (pe_lst (pa_cons (pe_gint (by rfl) c2) pa_nil)))) pss_nil)
  (pss_one (ps_ret (pe_callTy call_list_of (by rfl) T.list PyProof.Rows.boot_list (pa_cons (pv 3) pa_nil))))))), ?_⟩
 refine ⟨_, rfl, ixL (n := 0) hd rfl ⟨_, rfl, mG B (by decide +kernel) ⟨_, rfl, p, A', true, g, n, rfl, B, _, rfl, ?_⟩⟩⟩
 refine ite2 (fun d => ?_) (fun d => ?_)
 ·have dn : ¬ n < g.heights.length := fun h => by rw [decide_eq_true h] at d; cases d
  have dd : Su57.does a (.good n) = (a, Su57.no (-2)) := by
   show (if a.isP n = false then _ else _) = _
   rw [R.isP_eq, decide_eq_false dn, if_pos rfl]
  rw [dd] at k
  exact ⟨by show 1 <= sizeLine; decide, fun l hl => k _ l (AnsAt.ro B R (Same.new hl) hl upd_same)⟩
 ·have dn : n < g.heights.length := Decidable.byContradiction fun h => d (by rw [decide_eq_false h]; rfl)
  have ef : g.grid.find? (g.openGood n) = g.grid.find? (g.okPlace n) := find_congr fun x hx => R.openGood_eq dn hx
  have dd : Su57.does a (.good n) = (match (g.grid.find? (g.openGood n)).map fun x => x.1 * g.width + x.2 with
   | none => (a, Su57.no (-33))
   | some i => (a, Su57.num (i / a.width) [i % a.width])) := by
   show (if a.isP n = false then (a, Su57.no (-2)) else (match a.good n with
    | none => (a, Su57.no (-33))
    | some i => (a, Su57.num (i / a.width) [i % a.width]))) = _
   rw [R.isP_eq, decide_eq_true dn, if_neg (by decide), R.good_eq dn, ef]
  refine ⟨_, rfl, mG B (by decide +kernel) ⟨_, rfl, p, A', true, g, n, rfl, B, W, dn, fun H1 v s1 hv => ?_⟩⟩
  refine ⟨_, rfl, _, rfl, ?_⟩
  cases q : g.grid.find? (g.openGood n) with
  | none =>
   rw [q] at hv dd
   rw [show v = .non from hv]
   rw [dd] at k
   exact ⟨by show 1 <= sizeLine; decide, fun l hl => k _ l (AnsAt.ro B R (s1.trans (Same.new hl)) (s1.free hl) upd_same)⟩
  | some y =>
   rw [q] at hv dd
   obtain ⟨t, rfl, ht⟩ := hv
   have hm := grid_mem (List.mem_of_find?_eq_some q)
   have dd : Su57.does a (.good n) = (a, Su57.num y.1 [y.2]) := by
    rw [dd]
    show (a, Su57.num ((y.1 * g.width + y.2) / a.width) [(y.1 * g.width + y.2) % a.width]) = _
    rw [R.width, idx_div hm.2, idx_mod hm.2]
   rw [dd] at k
   refine ⟨_, rfl, t, _, rfl, .inr (SqT.of ht), fun l hl => ?_⟩
   exact k _ l (AnsAt.ro B R (s1.trans (Same.new hl)) (s1.free hl) upd_same)
theorem foldl_max_le : ∀ (l : List Nat) (acc m : Nat), acc <= m -> (∀ y ∈ l, y <= m) -> l.foldl max acc <= m
 | [], acc, m, h, _ => h
 | x :: l, acc, m, h, hl => foldl_max_le l (max acc x) m (Nat.max_le.mpr ⟨h, hl x List.mem_cons_self⟩) fun y hy => hl y (List.mem_cons_of_mem _ hy)
theorem foldl_max_ge : ∀ (l : List Nat) (acc : Nat), acc <= l.foldl max acc /\ ∀ y ∈ l, y <= l.foldl max acc
 | [], acc => ⟨Nat.le_refl _, fun y hy => by cases hy⟩
 | x :: l, acc => by
  obtain ⟨h1, h2⟩ := foldl_max_ge l (max acc x)
  refine ⟨Nat.le_trans (Nat.le_max_left _ _) h1, fun y hy => ?_⟩
  rcases List.mem_cons.mp hy with rfl | hy
  ·exact Nat.le_trans (Nat.le_max_right _ _) h1
  ·exact h2 y hy
theorem foldl_max_is {l : List Nat} {m : Nat} (hm : m ∈ l) (h : ∀ y ∈ l, y <= m) : l.foldl max 0 = m := Nat.le_antisymm (foldl_max_le l 0 m (Nat.zero_le _) h) ((foldl_max_ge l 0).2 m hm)
theorem scCSpare : FnScope ["group", "given", "p", "refusal", "heads", "higher", "other"] ["group", "given"] (defScope (top 55)) := ⟨rfl, rfl, rfl, by decide +kernel, rfl, by decide +kernel, by decide +kernel⟩
theorem ok_cspare {f : Addr} {fd : FuncData} (F : Fun K "spare" "spare" (top 55) f fd) (T : Tx K mg C) (c2 : ∃ t, mg "NOBODY_IN_FRONT" = some (.int (-33) t)) (Fr : Fn P w K mg base "refuse_person" ["group", "p"] 2 (spRefP C)) (Mh : Mt P w K mg base C "head" ["self", "p"] 1 (spHead C)) (Mf : Mt P w K mg base C "people_in_front" ["self", "p"] 3 (spFront C)) : FnOk P w K mg base CX0 12 f fd ["group", "given"] (spCall C (mk1 .spare)) := by
 obtain ⟨t2, c2⟩ := c2
 refine F.ok scCSpare (spCall_len rfl) (fun cdv A outer s H vs Q E hr h => ?_)
 obtain ⟨p, A', g, a, ad, as, x, rfl, B, R, hd, hx, no, k⟩ := h
 obtain ⟨n, rfl, rfl⟩ := mk1_is hx
 have W := R.wf
 refine ⟨_, pss_cons (ps_set (i := 2) scCSpare.nd rfl (Or.inl rfl) (pe_ix ix_list (pv 1) pe_int (fun _ _ => rfl)))
  (pss_cons (ps_set (i := 3) scCSpare.nd rfl (Or.inl rfl) (pe_fn Fr hr (by rfl) (pa_cons (pv 0) (pa_cons (pv 2) pa_nil))))
  (pss_cons (ps_if (pt_cmpR op_lt (pv 3) pe_int (nomark _)) (pss_one (ps_ret (pe_lst (pa_cons (pv 3) pa_nil)))) pss_nil)
  (pss_cons (ps_setLc (i := 4) rfl scCSpare.nd rfl rfl (sw_true rfl rfl rfl (by decide +kernel)) (pi_list (pe_mt Mf T.cl hr (pv 0) (pa_cons (pv 2) pa_nil))) (blkOk_by (own := [("other", 6)]) (by kernel_rfl))
    (fun _ _ _ _ _ => pg_name (i := 6) scCSpare.nd rfl (Or.inl rfl)) (fun _ _ _ _ _ => pts_nil) (fun _ _ _ _ _ => pe_mt Mh T.cl hr (pv 0) (pa_cons (pv 6) pa_nil)))
  (pss_cons (ps_if (pt_cmpR op_eq (pe_callB call_len_seq (by rfl) T.len PySem.boot_len (pa_cons (pv 4) pa_nil)) pe_int (nomark _)) (pss_one (ps_ret (pe_lst (pa_cons (pe_gint (by rfl) c2) pa_nil)))) pss_nil)
  (pss_cons (ps_set (i := 5) scCSpare.nd rfl (Or.inl rfl) (pe_op op_sub (pe_mt Mh T.cl hr (pv 0) (pa_cons (pv 2) pa_nil)) (pe_op op_add (pe_callB (cr_max rfl) (by rfl) T.max PyProof.Rows.boot_max (pa_cons (pv 4) pa_nil)) (pe_fld (pv 0) rfl))))
  (pss_one (ps_ret (pe_lst (pa_cons (pe_callB (call_max2 rfl) (by rfl) T.max PyProof.Rows.boot_max (pa_cons (pv 5) (pa_cons pe_int pa_nil))) (pa_cons (pe_callB (call_max2 rfl) (by rfl) T.max PyProof.Rows.boot_max (pa_cons (pe_un un_neg (pv 5)) (pa_cons pe_int pa_nil))) pa_nil))))))))))  , ?_⟩
 have dd : Su57.does a (.spare n) = if refP g n = 0 then (if a.spare n = [] then (a, Su57.no (-33)) else (a, Su57.num (a.top (a.rowOf n) n - ((a.spare n).foldl max 0 + a.face)) [(a.spare n).foldl max 0 + a.face - a.top (a.rowOf n) n])) else (a, Su57.no (refP g n)) := does_P R n (fun i => (a, Su57.no i)) _
 refine ⟨_, rfl, ixL (n := 0) hd rfl ⟨_, rfl, _, rfl, p, A', true, g, n, rfl, B, W, ?_⟩⟩
 refine ⟨_, rfl, _, _, rfl, rfl, _, rfl, ?_⟩
 refine ite2 (fun d => ?_) (fun d => ?_)
 ·have d := of_decide_eq_true d
  rw [if_neg (refP_bad d)] at dd
  rw [dd] at k
  refine ⟨_, rfl, by show 1 <= sizeLine; decide, fun l hl => k _ l (AnsAt.ro B R (Same.new hl) hl upd_same)⟩
 ·obtain ⟨d0, d1, d2⟩ := refP_ok (fun h => d (decide_eq_true h))
  have es : a.spare n = (g.front n).map g.head := R.spare_eq d2
  have et : a.top (a.rowOf n) n = g.head n := by rw [R.top_eq, R.rowOf_eq]; rfl
  rw [if_pos d0, es, et, R.face] at dd
  have fl := front_len g n
  have s5 := W.s5
  refine ⟨_, rfl, mG B (by decide +kernel) ⟨_, rfl, p, A', true, g, n, rfl, B, W, d2, fun H1 lp s1 hlp h1 => ?_⟩⟩
  refine ⟨lp, rfl, ⟨_, SqL.of h1⟩, fun D hD => ?_⟩
  refine lc_listF (g.front n) iV (SqL.of h1) (fun _ => true) (fun o => iV (g.head o)) (by omega) hD ?_ ?_
  ·intro x H' K4 K3 hx s2 k4 k3
   obtain ⟨ro, _, so⟩ := front_mem hx
   have B2 := B.same (s1.trans s2)
   refine ⟨rfl, ?_⟩
   exact ⟨_, rfl, mG B2 (by decide +kernel) ⟨_, rfl, p, A', true, g, x, rfl, B2, W, by rw [so]; rfl, k4 rfl H' (Same.refl _)⟩⟩
  ·intro H2 s2 h2
   have e1 : ((g.front n).filter fun _ => true).map (fun o => iV (g.head o)) = nVs ((g.front n).map g.head) := by
    rw [List.filter_eq_self.mpr (fun _ _ => rfl)]
    unfold nVs
    rw [List.map_map]
    rfl
   rw [e1] at h2
   have s12 := s1.trans s2
   have B2 := B.same s12
   refine ⟨_, rfl, lenL h2 ⟨rfl, _, rfl, ?_⟩⟩
   show if decide (V.int ((nVs ((g.front n).map g.head)).length : Nat) = V.int 0) = true then _ else _
   rw [len0_eq]
   refine ite2 (fun d3 => ?_) (fun d3 => ?_)
   ·rw [if_pos (List.isEmpty_iff.mp d3)] at dd
    rw [dd] at k
    exact ⟨by show 1 <= sizeLine; decide, fun l hl => k _ l (AnsAt.ro B R (s12.trans (Same.new hl)) (s12.free hl) upd_same)⟩
   ·have hne : (g.front n).map g.head ≠ [] := fun z => d3 (List.isEmpty_iff.mpr z)
    rw [if_neg hne] at dd
    refine ⟨_, rfl, mG B2 (by decide +kernel) ⟨_, rfl, p, A', true, g, n, rfl, B2, W, d2, ?_⟩⟩
    refine ⟨_, rfl, D, ((g.front n).map g.head).map fun (n : Nat) => (n : Int), rfl, SqL.of (by rw [h2, nVs_cast]), ?_, fun m hm hall => ?_⟩
    ·rw [List.length_map]
     exact List.length_pos_iff.mpr hne
    ·obtain ⟨mn, hmn, rfl⟩ := List.mem_map.mp hm
     have hmax : ((g.front n).map g.head).foldl max 0 = mn := foldl_max_is hmn fun y hy => by
      have := hall (y : Int) (List.mem_map.mpr ⟨y, hy, rfl⟩)
      omega
     rw [hmax] at dd
     rw [dd] at k
     refine ⟨_, rfl, fF T B2 ⟨_, _, rfl, rfl, _, _, rfl, rfl, ?_⟩⟩
     refine ⟨_, rfl, _, _, rfl, _, rfl, _, rfl, _, _, rfl, by show 2 <= sizeLine; decide, fun l hl => ?_⟩
     refine k _ l (AnsAt.ro B R (s12.trans (Same.new hl)) (s12.free hl) ?_)
     rw [upd_same]
     show some (HO.lst [V.int (if (0 : Int) > (g.head n : Int) - ((mn : Int) + (g.face : Int)) then 0 else (g.head n : Int) - ((mn : Int) + (g.face : Int))), V.int (if (0 : Int) > -((g.head n : Int) - ((mn : Int) + (g.face : Int))) then 0 else -((g.head n : Int) - ((mn : Int) + (g.face : Int))))]) =
      some (HO.lst [V.int (Int.ofNat (g.head n - (mn + g.face))), iV (mn + g.face - g.head n)])
     have e2 : (if (0 : Int) > (g.head n : Int) - ((mn : Int) + (g.face : Int)) then 0 else (g.head n : Int) - ((mn : Int) + (g.face : Int))) = ((g.head n - (mn + g.face) : Nat) : Int) := by split <;> omega
     have e3 : (if (0 : Int) > -((g.head n : Int) - ((mn : Int) + (g.face : Int))) then 0 else -((g.head n : Int) - ((mn : Int) + (g.face : Int)))) = ((mn + g.face - g.head n : Nat) : Int) := by split <;> omega
     rw [e2, e3]
     rfl
end
end
section
section
variable {P : Program} {w : World} {K : PySem.W.Frag} {mg : Str -> Option Value} {base : Heap} {C : Addr}
def spRises : Sp := fun vs H Q _ => ∃ a hs, vs = [.ref a] /\ H a = some (.lst (nVs hs)) /\ hs.length <= 100 /\ Q (.bl (hillB hs)) H
theorem scRises : FnScope ["heights", "falls", "k"] ["heights"] (defScope (top 9)) := ⟨rfl, rfl, rfl, by decide +kernel, rfl, by decide +kernel, by decide +kernel⟩
theorem ixD {K : PySem.W.Frag} {H : Hp} {R : V -> Prop} {a : Addr} {xs : List V} {n : Nat} {z : Int} {v : V} (e0 : z = (n : Int)) (h : H a = some (.lst xs)) (e : xs[n]? = some v) (q : R v) : ∃ p xs i v, V.ref a = .ref p /\ V.int z = .int i /\ SqL K H p xs /\ atI xs i = some v /\ R v := by
 subst e0
 exact ixL h e q
theorem ok_rises {f : Addr} {fd : FuncData} (F : Fun K "rises_and_falls" "rises_and_falls" (top 9) f fd) (T : Tx K mg C) : FnOk P w K mg base CX0 1 f fd ["heights"] spRises := by
 refine F.ok scRises (fun vs H Q E h => ?_) (fun cdv A outer s H vs Q E hr h => ?_)
 ·obtain ⟨a, hs, rfl, _⟩ := h
  rfl
 ·obtain ⟨a, hs, rfl, ha, h100, k⟩ := h
  refine ⟨_, pss_cons (ps_set (i := 1) scRises.nd rfl (Or.inl rfl) pe_bl)
   (pss_cons (ps_for PassesOwn.never rfl (pi_range2 rfl T.range (pa_cons pe_int (pa_cons (pe_callB call_len_seq (by rfl) T.len PySem.boot_len (pa_cons (pv 0) pa_nil)) pa_nil))) (pg_name (i := 2) scRises.nd rfl (Or.inl rfl))
    (pss_cons (ps_if (PW.pt (pw_and (pt_cmpR op_gt (pe_ix ix_list (pv 0) (pv 2) (fun _ _ => rfl)) (pe_ix ix_list (pv 0) (pe_op op_sub (pv 2) pe_int) (fun _ _ => rfl)) (nomark _)) (pw_and1 (pt_val (pv 1))))) (pss_one (ps_ret pe_bl)) pss_nil)
    (pss_one (ps_if (pt_cmpR op_lt (pe_ix ix_list (pv 0) (pv 2) (fun _ _ => rfl)) (pe_ix ix_list (pv 0) (pe_op op_sub (pv 2) pe_int) (fun _ _ => rfl)) (nomark _)) (pss_one (ps_set (i := 1) scRises.nd rfl (Or.inl rfl) pe_bl)) pss_nil))))
   (pss_one (ps_ret pe_bl))), ?_⟩
  refine ⟨_, rfl, lenL ha ⟨_, _, rfl, ⟨by decide, by decide, by rw [nVs_len]; omega, by rw [nVs_len]; omega⟩, ?_⟩⟩
  rw [nVs_len]
  have en : ((hs.length : Int) - 1).toNat = hs.length - 1 := by omega
  rw [en]
  refine for_range (lo := 1) (n := hs.length - 1) (fun i σ H' => ∃ (fb : Bool) (v : Option V), σ = [some (.ref a), some (.bl fb), v] /\ H' = H /\ hillTo hs i /\ (fb = true ↔ ∃ j, j < i /\ fallAt hs j = true)) ⟨false, none, rfl, rfl, fun j hj => absurd hj (Nat.not_lt_zero j), ⟨fun z => (by cases z), fun ⟨j, hj, _⟩ => absurd hj (Nat.not_lt_zero j)⟩⟩ ?_ ?_
  ·rintro i σ H' hi ⟨fb, v, rfl, rfl, h1, h2⟩
   have g1 : (nVs hs)[i + 1]? = some (iV (hs.getD (i + 1) 0)) := nVs_getD (by omega)
   have g0 : (nVs hs)[i]? = some (iV (hs.getD i 0)) := nVs_getD (by omega)
   have e1 : (1 : Int) + (i : Int) = ((i + 1 : Nat) : Int) := by omega
   have e0 : (1 : Int) + (i : Int) - 1 = (i : Int) := by omega
   have er : decide (((hs.getD i 0 : Nat) : Int) < ((hs.getD (i + 1) 0 : Nat) : Int)) = riseAt hs i := decide_eq_decide.mpr (by omega)
   have ef : decide (((hs.getD (i + 1) 0 : Nat) : Int) < ((hs.getD i 0 : Nat) : Int)) = fallAt hs i := decide_eq_decide.mpr (by omega)
   have hill' : (riseAt hs i = true -> fb = true -> False) -> hillTo hs (i + 1) := fun hno j hj m hm => by
    rintro ⟨z1, z2⟩
    by_cases hji : j = i
    ·subst hji
     exact hno z2 (h2.mpr ⟨m, hm, z1⟩)
    ·exact h1 j (by omega) m hm ⟨z1, z2⟩
   have fb' : fallAt hs i = true -> (true = true ↔ ∃ j, j < i + 1 /\ fallAt hs j = true) := fun z => ⟨fun _ => ⟨i, by omega, z⟩, fun _ => rfl⟩
   have fb0 : ¬ fallAt hs i = true -> (fb = true ↔ ∃ j, j < i + 1 /\ fallAt hs j = true) := fun z => by
    rw [h2]
    constructor
    ·rintro ⟨j, hj, e⟩
     exact ⟨j, by omega, e⟩
    ·rintro ⟨j, hj, e⟩
     by_cases hji : j = i
     ·subst hji; exact absurd e z
     ·exact ⟨j, by omega, e⟩
   refine ⟨_, rfl, _, rfl, ixD e1 ha g1 ⟨_, rfl, _, rfl, _, _, rfl, rfl, ixD e0 ha g0 ⟨_, _, rfl, rfl, _, rfl, ?_⟩⟩⟩
   rw [er]
   refine ite2 (fun d => ?_) (fun d => ?_)
   ·refine ⟨_, rfl, _, rfl, ?_⟩
    refine ite2 (fun d2 => ?_) (fun d2 => ?_)
    ·obtain ⟨j, hj, ej⟩ := h2.mp d2
     rw [hillB_bad hi hj ej d] at k
     exact k
    ·refine ⟨_, rfl, _, rfl, ixD e1 ha g1 ⟨_, rfl, _, rfl, _, _, rfl, rfl, ixD e0 ha g0 ⟨_, _, rfl, rfl, _, rfl, ?_⟩⟩⟩
     rw [ef]
     exact ite2 (fun d3 => ⟨_, _, rfl, rfl, hill' (fun _ z => d2 z), fb' d3⟩) (fun d3 => ⟨_, _, rfl, rfl, hill' (fun _ z => d2 z), fb0 d3⟩)
   ·refine ite2 (fun z => absurd z (by decide)) (fun _ => ?_)
    refine ⟨_, rfl, _, rfl, ixD e1 ha g1 ⟨_, rfl, _, rfl, _, _, rfl, rfl, ixD e0 ha g0 ⟨_, _, rfl, rfl, _, rfl, ?_⟩⟩⟩
    rw [ef]
    exact ite2 (fun d3 => ⟨_, _, rfl, rfl, hill' (fun z _ => d z), fb' d3⟩) (fun d3 => ⟨_, _, rfl, rfl, hill' (fun z _ => d z), fb0 d3⟩)
  ·rintro σ H' ⟨fb, v, rfl, rfl, h1, h2⟩
   rw [(hillB_iff hs).mpr h1] at k
   exact k
def spIsHill (C : Addr) : Sp := fun vs H Q _ => ∃ p A b g a o, vs = [.ref p, .ref a] /\ GAt C H p A b g /\ H a = some (.lst (nVs o)) /\ o.length <= 100 /\ (∀ x ∈ o, x < g.heights.length) /\ ∀ H', Same H H' -> Q (.bl (hillB (o.map g.height))) H'
theorem scIsHill : FnScope ["self", "order", "p"] ["self", "order"] (defScope (cls 30)) := ⟨rfl, rfl, rfl, by decide +kernel, rfl, by decide +kernel, by decide +kernel⟩
theorem ok_isHill {f : Addr} {fd : FuncData} (F : Fun K "is_hill" "Group.is_hill" (cls 30) f fd) (T : Tx K mg C) (Fr : Fn P w K mg base "rises_and_falls" ["heights"] 1 spRises) : FnOk P w K mg base CX0 2 f fd ["self", "order"] (spIsHill C) := by
 refine F.ok scIsHill (fun vs H Q E h => ?_) (fun cdv A outer s H vs Q E hr h => ?_)
 ·obtain ⟨p, A, b, g, a, o, rfl, _⟩ := h
  rfl
 ·obtain ⟨p, A', b, g, a, o, rfl, B, ha, h100, hm, k⟩ := h
  refine ⟨_, pss_one (ps_ret (pe_fn Fr hr (by rfl) (pa_cons (pe_lc rfl scIsHill.nd (pi_list (pv 1)) (blkOk_by (own := [("p", 2)]) (by kernel_rfl)) (fun _ _ _ _ _ => pg_name (i := 2) scIsHill.nd rfl (Or.inl rfl)) (fun _ _ _ _ _ => pts_nil)
   (fun _ _ _ _ _ => pe_ix (ixl (K := K)) (pfld (K := K) (pv 0)) (pv 2) (fun _ _ => rfl))) pa_nil))), ?_⟩
  refine ⟨_, rfl, a, rfl, ⟨_, SqL.of ha⟩, fun D hD => ?_⟩
  refine lc_listF o iV (SqL.of ha) (fun _ => true) (fun x => iV (g.height x)) (by omega) hD ?_ ?_
  ·intro x H' K4 K3 hx s1 k4 _
   have B1 := B.same s1
   refine ⟨rfl, ?_⟩
   exact ⟨_, rfl, fH T B1 ⟨_, rfl, ixL B1.ht (get_height (hm x hx)) (k4 rfl H' (Same.refl _))⟩⟩
  ·intro H1 s1 h1
   have e1 : (o.filter fun _ => true).map (fun x => iV (g.height x)) = nVs (o.map g.height) := by
    rw [List.filter_eq_self.mpr (fun _ _ => rfl)]
    unfold nVs
    rw [List.map_map]
    rfl
   rw [e1] at h1
   exact ⟨D, o.map g.height, rfl, h1, by rw [List.length_map]; exact h100, k H1 s1⟩
def spHillOrder (C : Addr) : Sp := fun vs H Q _ => ∃ p A b g a st, vs = [.ref p, .ref a] /\ GAt C H p A b g /\ WFG g /\ H a = some (.lst (nVs st)) /\ (∀ x ∈ st, (g.spot x).isSome = true) /\ st.length <= 6 /\
 ∀ H' v, KeepT H H' -> Tb H' -> BestV H' (leastF (Su57.moved st) ((Su57.allOrders st).filter fun o => hillB (o.map g.height))) v -> Q v H'
theorem scHillOrder : FnScope ["self", "standing", "order"] ["self", "standing"] (defScope (cls 31)) := ⟨rfl, rfl, rfl, by decide +kernel, rfl, by decide +kernel, by decide +kernel⟩
theorem ok_hillOrder {f : Addr} {fd : FuncData} (F : Fun K "hill_order" "Group.hill_order" (cls 31) f fd) (T : Tx K mg C) (Fo : Fn P w K mg base "orders_of" ["people"] 2 spOrders) (Mi : Mt P w K mg base C "is_hill" ["self", "order"] 2 (spIsHill C)) (Ff : Fn P w K mg base "fewest_moved" ["standing", "orders"] 4 spFewest) :
  FnOk P w K mg base CX0 5 f fd ["self", "standing"] (spHillOrder C) := by
 refine F.ok scHillOrder (fun vs H Q E h => ?_) (fun cdv A outer s H vs Q E hr h => ?_)
 ·obtain ⟨p, A, b, g, a, st, rfl, _⟩ := h
  rfl
 ·obtain ⟨p, A', b, g, a, st, rfl, B, W, ha, hpl, h6, k⟩ := h
  refine ⟨_, pss_one (ps_ret (pe_fn Ff hr (by rfl) (pa_cons (pv 1) (pa_cons (pe_lc rfl scHillOrder.nd (pi_list (pe_fn Fo hr (by rfl) (pa_cons (pv 1) pa_nil))) (blkOk_by (own := [("order", 2)]) (by kernel_rfl)) (fun _ _ _ _ _ => pg_name (i := 2) scHillOrder.nd rfl (Or.inl rfl))
    (fun _ _ _ _ _ => pts_one (pt_val (pe_mt Mi T.cl hr (pv 0) (pa_cons (pv 2) pa_nil)))) (fun _ _ _ _ _ => pv 2)) pa_nil)))), ?_⟩
  refine ⟨_, rfl, _, rfl, a, st, rfl, ha, h6, fun H2 l2 s12 hl2 hL => ?_⟩
  obtain ⟨zs, z1, z2, z3⟩ := hL.zip
  refine ⟨l2, rfl, ⟨_, SqL.of z1⟩, fun D2 hD2 => ?_⟩
  refine lc_listF zs (fun z => V.ref z.2) (SqL.of z1) (fun z => hillB (z.1.map g.height)) (fun z => V.ref z.2) ?_ hD2 ?_ ?_
  ·have := allOrders_count st h6
   rw [z2, List.length_map] at this
   omega
  ·intro z H3 K4 K3 hz s3 k4 k3
   have hzo : z.1 ∈ Su57.allOrders st := by rw [z2]; exact List.mem_map_of_mem hz
   have hzl := allOrders_len hzo
   have B3 := B.same (s12.trans s3)
   refine ⟨rfl, ?_⟩
   refine ⟨_, rfl, mG B3 (by decide +kernel) ⟨_, rfl, p, A', b, g, z.2, z.1, rfl, B3, s3 _ _ (z3 z hz), by omega, fun x hx => ?_, fun H4 s4 => ⟨_, rfl, ?_⟩⟩⟩
   ·obtain ⟨y, e⟩ := Option.isSome_iff_exists.mp (hpl x (allOrders_mem hzo hx))
    rw [<- W.slen]
    exact spot_lt e
   ·exact ite2 (fun d => ⟨_, rfl, k4 d H4 s4⟩) (fun d => k3 (Bool.eq_false_iff.mpr d) H4 s4)
  ·intro H3 s3 h3
   have hLL := LL.of_zip h3 fun z hz => s3 _ _ (z3 z (List.mem_filter.mp hz).1)
   have sA := s12.trans s3
   refine ⟨a, D2, st, (Su57.allOrders st).filter fun o => hillB (o.map g.height), rfl, B.tb.same sA, sA _ _ ha, ?_, by omega, fun o ho => allOrders_len (List.mem_filter.mp ho).1, fun H' v kT tT hb => k H' v ((Sr.Same.keepT sA).trans kT) tT hb⟩
   rw [z2, List.filter_map]
   exact hLL
theorem scCHill : FnScope ["group", "given"] ["group", "given"] (defScope (top 49)) := ⟨rfl, rfl, rfl, by decide +kernel, rfl, by decide +kernel, by decide +kernel⟩
theorem row_lt {g : G} (W : WFG g) {n x : Nat} (h : x ∈ g.rowPeople n) : x < g.heights.length := by
 obtain ⟨c, _, e⟩ := row_mem h
 rw [<- W.slen]
 exact spot_lt e
theorem ok_chill {f : Addr} {fd : FuncData} (F : Fun K "hill" "hill" (top 49) f fd) (T : Tx K mg C) (c : Tc mg) (M1 : Mt P w K mg base C "has_row" ["self", "row"] 1 (spHasRow C)) (M2 : Mt P w K mg base C "row_people" ["self", "row"] 2 (spRow C)) (M3 : Mt P w K mg base C "is_hill" ["self", "order"] 2 (spIsHill C)) : FnOk P w K mg base CX0 12 f fd ["group", "given"] (spCall C (mk1 .hill)) := by
 obtain ⟨t1, c1⟩ := c.out_of_range
 refine F.ok scCHill (spCall_len rfl) (fun cdv A outer s H vs Q E hr h => ?_)
 obtain ⟨p, A', g, a, ad, as, x, rfl, B, R, hd, hx, no, k⟩ := h
 obtain ⟨n, rfl, rfl⟩ := mk1_is hx
 have W := R.wf
 refine ⟨_, pss_cons (ps_if (pt_not (pt_val (pe_mt M1 T.cl hr (pv 0) (pa_cons (pe_ix ix_list (pv 1) pe_int (fun _ _ => rfl)) pa_nil)))) (pss_one (ps_ret (pe_lst (pa_cons (pe_gint (by rfl) c1) pa_nil)))) pss_nil)
  (pss_one (ps_ret (pe_lst (pa_cons (pe_callTy call_int1 (by rfl) T.int PyProof.Rows.boot_int (pa_cons (pe_mt M3 T.cl hr (pv 0) (pa_cons (pe_mt M2 T.cl hr (pv 0) (pa_cons (pe_ix ix_list (pv 1) pe_int (fun _ _ => rfl)) pa_nil)) pa_nil)) pa_nil)) pa_nil)))), ?_⟩
 refine ⟨_, rfl, mG B (by decide +kernel) ⟨_, rfl, ixL (n := 0) hd rfl ⟨p, A', true, g, n, rfl, B, _, rfl, ?_⟩⟩⟩
 refine ite2 (fun d => ?_) (fun d => ?_)
 ·have dn : ¬ n < g.steps.length := fun h => by rw [decide_eq_true h] at d; cases d
  have dd : Su57.does a (.hill n) = (a, Su57.no (-22)) := by
   show (if a.rows <= n then _ else _) = _
   rw [if_pos (by rw [R.rows]; omega)]
  rw [dd] at k
  refine ⟨by show 1 <= sizeLine; decide, fun l hl => k _ l (AnsAt.ro B R (Same.new hl) hl upd_same)⟩
 ·have dn : n < g.steps.length := Decidable.byContradiction fun h => d (by rw [decide_eq_false h]; rfl)
  have dd : Su57.does a (.hill n) = (a, Su57.num (Su57.bit (hillB ((g.rowPeople n).map g.height))) []) := by
   show (if a.rows <= n then _ else (a, Su57.num (Su57.bit (a.hill (a.row n))) [])) = _
   rw [if_neg (by rw [R.rows]; omega), R.row_eq, R.hill_eq]
  rw [dd] at k
  have w6 := W.w6
  have rl := rowPeople_len g n
  refine ⟨_, rfl, mG B (by decide +kernel) ⟨_, rfl, mG B (by decide +kernel) ⟨_, rfl, ixL (n := 0) hd rfl ⟨p, A', true, g, n, rfl, B, W, fun H1 lr s1 hlr h1 => ?_⟩⟩⟩⟩
  have B1 := B.same s1
  refine ⟨p, A', true, g, lr, g.rowPeople n, rfl, B1, h1, by omega, fun x hx => row_lt W hx, fun H2 s2 => .inr ⟨_, rfl, by show 1 <= sizeLine; decide, fun l hl => ?_⟩⟩
  refine k _ l (AnsAt.ro B R ((s1.trans s2).trans (Same.new hl)) ((s1.trans s2).free hl) ?_)
  rw [upd_same]
  show some (HO.lst [V.int (if hillB ((g.rowPeople n).map g.height) = true then 1 else 0)]) = some (HO.lst [V.int (Int.ofNat (Su57.bit (hillB ((g.rowPeople n).map g.height))))])
  rw [bit_eq]
theorem Rel.shape_is {g : G} {a : Su57.Abs} (R : Rel g a) (n : Nat) : ∃ o, leastF (Su57.moved (g.rowPeople n)) ((Su57.allOrders (g.rowPeople n)).filter fun o => hillB (o.map g.height)) = some o /\ a.shaped n = o /\ o.Perm (g.rowPeople n) /\ o.length = (g.rowPeople n).length := by
 have := R.shaped_is n
 rw [List.filter_congr (fun o _ => R.hill_eq o)] at this
 exact this
theorem scCShape : FnScope ["group", "given", "standing", "order"] ["group", "given"] (defScope (top 50)) := ⟨rfl, rfl, rfl, by decide +kernel, rfl, by decide +kernel, by decide +kernel⟩
theorem ok_cshape {f : Addr} {fd : FuncData} (F : Fun K "shape" "shape" (top 50) f fd) (T : Tx K mg C) (c : Tc mg) (M1 : Mt P w K mg base C "has_row" ["self", "row"] 1 (spHasRow C)) (M2 : Mt P w K mg base C "row_people" ["self", "row"] 2 (spRow C)) (M3 : Mt P w K mg base C "hill_order" ["self", "standing"] 5 (spHillOrder C))
  (F2 : Fn P w K mg base "count_moved" ["standing", "order"] 1 spMoved) : FnOk P w K mg base CX0 11 f fd ["group", "given"] (spCallK C (mk1 .shape)) := by
 obtain ⟨t1, c1⟩ := c.out_of_range
 refine F.ok scCShape (spCallK_len rfl) (fun cdv A outer s H vs Q E hr h => ?_)
 obtain ⟨p, A', g, a, ad, as, x, rfl, B, R, hd, hx, no, k⟩ := h
 obtain ⟨n, rfl, rfl⟩ := mk1_is hx
 have W := R.wf
 refine ⟨_, pss_cons (ps_if (pt_not (pt_val (pe_mt M1 T.cl hr (pv 0) (pa_cons (pe_ix ix_list (pv 1) pe_int (fun _ _ => rfl)) pa_nil)))) (pss_one (ps_ret (pe_lst (pa_cons (pe_gint (by rfl) c1) pa_nil)))) pss_nil)
  (pss_cons (ps_set (i := 2) scCShape.nd rfl (Or.inl rfl) (pe_mt M2 T.cl hr (pv 0) (pa_cons (pe_ix ix_list (pv 1) pe_int (fun _ _ => rfl)) pa_nil)))
  (pss_cons (ps_set (i := 3) scCShape.nd rfl (Or.inl rfl) (pe_mt M3 T.cl hr (pv 0) (pa_cons (pv 2) pa_nil)))
  (pss_one (ps_ret (pe_op op_cat (pe_lst (pa_cons (pe_fn F2 hr (by rfl) (pa_cons (pv 2) (pa_cons (pv 3) pa_nil))) pa_nil)) (pv 3)))))), ?_⟩
 refine ⟨_, rfl, mG B (by decide +kernel) ⟨_, rfl, ixL (n := 0) hd rfl ⟨p, A', true, g, n, rfl, B, _, rfl, ?_⟩⟩⟩
 refine ite2 (fun d => ?_) (fun d => ?_)
 ·have dn : ¬ n < g.steps.length := fun h => by rw [decide_eq_true h] at d; cases d
  have dd : Su57.does a (.shape n) = (a, Su57.no (-22)) := by
   show (if a.rows <= n then _ else _) = _
   rw [if_pos (by rw [R.rows]; omega)]
  rw [dd] at k
  refine ⟨by show 1 <= sizeLine; decide, fun l hl => k _ l (AnsK.ro B (Same.new hl) hl upd_same)⟩
 ·have dn : n < g.steps.length := Decidable.byContradiction fun h => d (by rw [decide_eq_false h]; rfl)
  obtain ⟨o, q, e1, hp, ol⟩ := R.shape_is n
  have dd : Su57.does a (.shape n) = (a, Su57.num (Su57.moved (g.rowPeople n) o) o) := by
   show (if a.rows <= n then _ else (a, Su57.num (Su57.moved (a.row n) (a.shaped n)) (a.shaped n))) = _
   rw [if_neg (by rw [R.rows]; omega), R.row_eq, e1]
  rw [dd] at k
  have w6 := W.w6
  have rl := rowPeople_len g n
  refine ⟨_, rfl, mG B (by decide +kernel) ⟨_, rfl, ixL (n := 0) hd rfl ⟨p, A', true, g, n, rfl, B, W, fun H1 lc s1 hlc h1 => ?_⟩⟩⟩
  have B1 := B.same s1
  refine ⟨_, rfl, mG B1 (by decide +kernel) ⟨_, rfl, p, A', true, g, lc, g.rowPeople n, rfl, B1, W, h1, fun o ho => ?_, by omega, fun H3 v s3 t3 hb => ?_⟩⟩
  ·obtain ⟨r, _, e⟩ := row_mem ho
   rw [e]
   rfl
  have s13 : KeepT H H3 := (Sr.Same.keepT s1).trans s3
  rw [q] at hb
  obtain ⟨bo, rfl, hbo⟩ := hb
  refine ⟨_, rfl, _, rfl, lc, bo, g.rowPeople n, o, rfl, s3 _ _ h1 (B1.tb.no h1 (by intro ps z; cases z)), hbo, ol, by omega, fun H4 s4 => ?_⟩
  refine ⟨by show 1 <= sizeLine; decide, fun l1 hl1 => ?_⟩
  have s5 := Same.new (o := HO.lst [iV (Su57.moved (g.rowPeople n) o)]) hl1
  refine ⟨_, rfl, l1, bo, _, _, rfl, rfl, upd_same, s5 _ _ (s4 _ _ hbo), by rw [nVs_len]; show 1 + _ <= sizeLine; have := sizeLine_eq; omega, fun l hl => ?_⟩
  have s45 := s4.trans s5
  have t5 := t3.same s45
  have s15 : KeepT H _ := s13.trans (Sr.Same.keepT s45)
  refine k _ l (AnsK.kt (s15.trans (Sr.Same.keepT (Same.new hl))) (t5.same (Same.new hl)) (s15.free (t5.noN hl) hl) ?_)
  rw [upd_same]
  show _ = some (HO.lst (V.int _ :: (Su57Neutral.outs o).map V.int))
  rw [outs_map]
  rfl
end
end
section
def G.spotD (g : G) (x : Nat) : Nat × Nat := (g.spot x).getD (0, 0)
def jn (g : G) (st : List Nat) : List Nat := (List.range (st.length - 1)).filter fun i => beside2 (g.spotD (st.getD i 0)) (g.spotD (st.getD (i + 1) 0))
def joints (g : G) (st : List Nat) : List Nat := (jn g st).map (· + 1)
def nearB (g : G) (o js : List Nat) : Nat := (js.filter fun k => decide (g.toldOf (pairN (o.getD (k - 1) 0) (o.getD k 0)) = some 1)).length
theorem joints_mem {g : G} {st : List Nat} {k : Nat} (h : k ∈ joints g st) : 1 <= k /\ k < st.length := by
 obtain ⟨i, hi, rfl⟩ := List.mem_map.mp h
 have := List.mem_range.mp (List.mem_filter.mp hi).1
 omega
theorem joints_len (g : G) (st : List Nat) : (joints g st).length <= st.length := by
 unfold joints jn
 rw [List.length_map]
 have := List.length_filter_le (fun i => beside2 (g.spotD (st.getD i 0)) (g.spotD (st.getD (i + 1) 0))) (List.range (st.length - 1))
 rw [List.length_range] at this
 omega
theorem mostF_congr {f h : List Nat -> Nat} : ∀ {l : List (List Nat)}, (∀ r ∈ l, f r = h r) -> mostF f l = mostF h l := by
 intro l
 unfold mostF
 suffices ∀ (l : List (List Nat)) (b : Option (List Nat)), (∀ r ∈ l, f r = h r) -> (∀ r, b = some r -> f r = h r) -> l.foldl (fun b r => match b with
   | none => some r
   | some x => if f x < f r then some r else some x) b = l.foldl (fun b r => match b with
   | none => some r
   | some x => if h x < h r then some r else some x) b from fun hl => this l none hl fun _ e => by cases e
 intro l
 induction l with
 | nil => intros; rfl
 | cons r l ih =>
  intro b hl hb
  rw [List.foldl_cons, List.foldl_cons]
  have hr := hl r List.mem_cons_self
  have hl' : ∀ r ∈ l, f r = h r := fun x hx => hl x (List.mem_cons_of_mem _ hx)
  cases b with
  | none => exact ih (some r) hl' fun x e => by cases e; exact hr
  | some x =>
   have hx := hb x rfl
   show l.foldl _ (if f x < f r then some r else some x) = l.foldl _ (if h x < h r then some r else some x)
   rw [hr, hx]
   by_cases q : h x < h r
   ·rw [if_pos q]
    exact ih (some r) hl' fun y e => by cases e; exact hr
   ·rw [if_neg q]
    exact ih (some x) hl' fun y e => by cases e; exact hx
theorem colsOf_lt (g : G) (r : Nat) : (g.colsOf r).Pairwise (· < ·) := by
 unfold G.colsOf
 exact List.Pairwise.sublist List.filter_sublist List.pairwise_lt_range
theorem row_at {g : G} (r : Nat) {k : Nat} (hk : k < (g.colsOf r).length) : g.spot ((g.rowPeople r).getD k 0) = some (r, (g.colsOf r).getD k 0) /\ k < (g.rowPeople r).length := by
 have e0 : (g.colsOf r)[k]? = some (g.colsOf r)[k] := List.getElem?_eq_getElem hk
 unfold G.colsOf at e0
 obtain ⟨o, e1, e2⟩ := filterMap_get (f := fun c => g.at? r c) _ k _ e0
 have e2 : (g.rowPeople r)[k]? = some o := e2
 have e3 : (g.colsOf r).getD k 0 = (g.colsOf r)[k] := by rw [List.getD_eq_getElem?_getD, List.getElem?_eq_getElem hk]; rfl
 refine ⟨?_, (List.getElem?_eq_some_iff.mp e2).1⟩
 rw [e3, List.getD_eq_getElem?_getD, e2]
 exact at_spot e1
theorem row_cols (g : G) (r : Nat) : (g.rowPeople r).length = (g.colsOf r).length := filterMap_len _
theorem nearB_meets {g : G} {a : Su57.Abs} (R : Rel g a) (r : Nat) {o : List Nat} (hp : o.Perm (g.rowPeople r)) : nearB g o (joints g (g.rowPeople r)) = a.meets (g.colsOf r) o := by
 have hnd : o.Nodup := hp.nodup_iff.mpr (rowPeople_nodup g r)
 rw [meets_adj hnd R.near_nodup fun x hx => (R.near_lt x hx).1]
 unfold nearB joints jn adjMet
 rw [List.filter_map, List.length_map, List.filter_filter]
 have hol : o.length = (g.rowPeople r).length := hp.length_eq
 rw [hol]
 congr 1
 refine List.filter_congr fun i hi => ?_
 have hi := List.mem_range.mp hi
 have hc := row_cols g r
 obtain ⟨s1, _⟩ := row_at (g := g) r (k := i) (by omega)
 obtain ⟨s2, _⟩ := row_at (g := g) r (k := i + 1) (by omega)
 have lt : (g.colsOf r).getD i 0 < (g.colsOf r).getD (i + 1) 0 := by
  have := List.pairwise_iff_getElem.mp (colsOf_lt g r) i (i + 1) (by omega) (by omega) (by omega)
  rw [List.getD_eq_getElem?_getD, List.getD_eq_getElem?_getD, List.getElem?_eq_getElem (by omega), List.getElem?_eq_getElem (by omega)]
  exact this
 have ne : o.getD i 0 ≠ o.getD (i + 1) 0 := fun e => by
  have := getD_inj hnd (by omega) (by omega) e
  omega
 have eb : beside2 (g.spotD ((g.rowPeople r).getD i 0)) (g.spotD ((g.rowPeople r).getD (i + 1) 0)) = ((g.colsOf r).getD i 0 + 1 == (g.colsOf r).getD (i + 1) 0) := by
  unfold G.spotD
  rw [s1, s2]
  show (decide (r = r) && decide ((((g.colsOf r).getD i 0 : Int) - ((g.colsOf r).getD (i + 1) 0 : Int)).natAbs = 1)) = _
  rw [decide_eq_true rfl, Bool.true_and, Bool.beq_eq_decide_eq]
  exact decide_eq_decide.mpr (by omega)
 show (decide (g.toldOf (pairN (o.getD (i + 1 - 1) 0) (o.getD (i + 1) 0)) = some 1) && beside2 _ _) = _
 rw [eb, Nat.add_sub_cancel, R.near_has, pair_eq ne, Bool.and_comm]
theorem Rel.please_is {g : G} {a : Su57.Abs} (R : Rel g a) (r : Nat) : ∃ o, mostF (fun o => nearB g o (joints g (g.rowPeople r))) (Su57.allOrders (g.rowPeople r)) = some o /\ a.pleased r = o /\ o.Perm (g.rowPeople r) /\ o.length = (g.rowPeople r).length /\ nearB g o (joints g (g.rowPeople r)) = a.meets (g.colsOf r) o := by
 obtain ⟨o, h1, h2, h3, h4⟩ := R.pleased_is r
 refine ⟨o, ?_, h2, h3, h4, nearB_meets R r h3⟩
 rw [mostF_congr (h := fun l => a.meets (g.colsOf r) l) fun l hl => nearB_meets R r (allOrders_perm (rowPeople_nodup g r) hl)]
 rw [<- most_least (n := a.near.length) (fun l => meets_le _ l)]
 exact h1
theorem lc_range1F {n : Nat} {g : TG} {tt : TT} {te : TE} {vs : List Nat} {σ : L2.St} {H1 : Hp} {D : Addr} {Qd : Hp -> Prop} (keep : Nat -> Bool) (val : Nat -> V) (hn : n <= 100000) (hD : H1 D = none)
  (hs : ∀ (i : Nat) (H' : Hp) (K4 : V -> Hp -> Prop) (K3 : Hp -> Prop), i < n -> Same H1 H' -> (keep i = true -> ∀ H4, Same H' H4 -> K4 (val i) H4) -> (keep i = false -> ∀ H3, Same H' H3 -> K3 H3) ->
   g (iV (i + 1)) (wipe σ vs) H' fun σ2 H2 => wipe σ2 vs = wipe σ vs /\ tt σ2 H2 fun b H3 => if b = true then te σ2 H3 K4 else K3 H3)
  (hd : ∀ H', Same H1 H' -> H' D = some (.lst (((List.range n).filter keep).map val)) -> Qd H') :
  ∃ W : Nat -> Nat -> Hp -> Prop, (∃ m, W 0 m (upd H1 D (.lst []))) /\ ∀ i m H, W i m H ->
   ((Itr 1 n).stop i H /\ Qd H) ∨ ((Itr 1 n).go i H /\ ∃ Nx : Hp -> Prop, (∀ H', Nx H' -> ∃ m', m' < m /\ W (i + 1) m' H') /\ ∀ x H', (Itr 1 n).yld i H x H' -> g x (wipe σ vs) H' fun σ2 H2 => wipe σ2 vs = wipe σ vs /\ tt σ2 H2 fun b H3 =>
    if b = true then te σ2 H3 fun y H4 => ∃ acc, H4 D = some (.lst acc) /\ acc.length < sizeLine /\ Nx (upd H4 D (.lst (acc ++ [y]))) else Nx H3) := by
 have small : ∀ i, i < n -> ((((List.range n).take i).filter keep).map val).length < sizeLine := fun i hi => by
  rw [List.length_map]
  have := List.length_filter_le keep ((List.range n).take i)
  rw [List.length_take, List.length_range] at this
  have := sizeLine_eq
  omega
 refine lc_range (fun i H' => Same H1 H' /\ H' D = some (.lst ((((List.range n).take i).filter keep).map val))) ⟨Same.new hD, upd_same⟩ ?_ ?_
 ·rintro i H' hi ⟨s1, h1⟩
  have hx : (List.range n)[i]? = some i := by rw [List.getElem?_range hi]
  rw [show (1 : Int) + (i : Int) = ((i + 1 : Nat) : Int) by omega]
  refine hs i H' _ _ hi s1 (fun hk H4 s4 => ⟨_, s4 _ _ h1, small i hi, same_put (s1.trans s4) hD, ?_⟩) (fun hk H3 s3 => ⟨s1.trans s3, ?_⟩)
  ·rw [upd_same, range_step hx, if_pos hk]
  ·rw [s3 _ _ h1, range_step hx, if_neg (by rw [hk]; decide), List.append_nil]
 ·rintro H' ⟨s1, h1⟩
  refine hd H' s1 ?_
  rw [h1, List.take_of_length_le (by rw [List.length_range]; exact Nat.le_refl n)]
section
variable {P : Program} {w : World} {K : PySem.W.Frag} {mg : Str -> Option Value} {base : Heap} {C : Addr}
def spJoints (C : Addr) : Sp := fun vs H Q _ => ∃ p A b g a st, vs = [.ref p, .ref a] /\ GAt C H p A b g /\ H a = some (.lst (nVs st)) /\ (∀ x ∈ st, (g.spot x).isSome = true) /\ st.length <= 6 /\ ∀ H' l, Same H H' -> H l = none -> H' l = some (.lst (nVs (joints g st))) -> Q (.ref l) H'
theorem scJoints : FnScope ["self", "standing", "spots", "p", "k"] ["self", "standing"] (defScope (cls 32)) := ⟨rfl, rfl, rfl, by decide +kernel, rfl, by decide +kernel, by decide +kernel⟩
theorem spotD_eq {g : G} {x r c : Nat} (h : g.spot x = some (r, c)) : g.spotD x = (r, c) := by unfold G.spotD; rw [h]; rfl
theorem ok_joints {f : Addr} {fd : FuncData} (F : Fun K "joints" "Group.joints" (cls 32) f fd) (T : Tx K mg C) (Fb : Fn P w K mg base "are_beside" ["one", "other"] 1 (spTwo beside2)) : FnOk P w K mg base CX0 2 f fd ["self", "standing"] (spJoints C) := by
 refine F.ok scJoints (fun vs H Q E h => ?_) (fun cdv A outer s H vs Q E hr h => ?_)
 ·obtain ⟨p, A, b, g, a, st, rfl, _⟩ := h
  rfl
 ·obtain ⟨p, A', b, g, a, st, rfl, B, ha, hpl, h6, k⟩ := h
  refine ⟨_, pss_cons (ps_set (i := 2) scJoints.nd rfl (Or.inr rfl) (pe_lc rfl scJoints.nd (pi_list (pv 1)) (blkOk_by (own := [("p", 3)]) (by kernel_rfl)) (fun _ _ _ _ _ => pg_name (i := 3) scJoints.nd rfl (Or.inl rfl)) (fun _ _ _ _ _ => pts_nil)
    (fun _ _ _ _ _ => pe_ix (ixl (K := K)) (pfld (K := K) (pv 0)) (pv 3) (fun _ _ => rfl))))
   (pss_one (ps_ret (pe_lc rfl scJoints.nd (pi_range2 rfl T.range (pa_cons pe_int (pa_cons (pe_callB call_len_seq (by rfl) T.len PySem.boot_len (pa_cons (pv 2) pa_nil)) pa_nil))) (blkOk_by (own := [("k", 4)]) (by kernel_rfl)) (fun _ _ _ _ _ => pg_name (i := 4) scJoints.nd rfl (Or.inl rfl))
    (fun _ _ _ _ _ => pts_one (pt_val (pe_fn Fb hr (by rfl) (pa_cons (pe_ix (ixl (K := K)) (pv 2) (pe_op op_sub (pv 4) pe_int) (fun _ _ => rfl)) (pa_cons (pe_ix (ixl (K := K)) (pv 2) (pv 4) (fun _ _ => rfl)) pa_nil))))) (fun _ _ _ _ _ => pv 4)))), ?_⟩
  obtain ⟨vs, hv, hpv⟩ := B.sp
  refine ⟨_, rfl, a, rfl, ⟨_, SqL.of ha⟩, fun D hD => ?_⟩
  refine lc_listF st iV (SqL.of ha) (fun _ => true) (fun x => vs.getD x .non) (by omega) hD ?_ ?_
  ·intro x H' K4 K3 hx s1 k4 _
   have B1 := B.same s1
   obtain ⟨⟨r, c⟩, e⟩ := Option.isSome_iff_exists.mp (hpl x hx)
   obtain ⟨vs1, t, f1, f2, f3⟩ := B1.row e
   have ev : vs1 = vs := by have := f1.symm.trans (s1 _ _ hv); injection this with this; injection this
   subst ev
   have eg : vs1.getD x .non = .ref t := by rw [List.getD_eq_getElem?_getD, f2]; rfl
   rw [eg] at k4
   refine ⟨rfl, ?_⟩
   exact ⟨_, rfl, fP T B1 ⟨_, rfl, ixL f1 f2 (k4 rfl H' (Same.refl _))⟩⟩
  ·intro H1 s1 h1
   rw [List.filter_eq_self.mpr (fun _ _ => rfl)] at h1
   have B1 := B.same s1
   -- the tuple that stands at a place of the list
   have at_ : ∀ i, i < st.length -> ∃ t, (st.map fun x => vs.getD x .non)[i]? = some (.ref t) /\ H1 t = some (.tup [iV (g.spotD (st.getD i 0)).1, iV (g.spotD (st.getD i 0)).2]) := fun i hi => by
    have hx := getD_mem hi
    obtain ⟨⟨r, c⟩, e⟩ := Option.isSome_iff_exists.mp (hpl _ hx)
    obtain ⟨vs1, t, f1, f2, f3⟩ := B1.row e
    have ev : vs1 = vs := by have := f1.symm.trans (s1 _ _ hv); injection this with this; injection this
    subst ev
    refine ⟨t, ?_, by rw [spotD_eq e]; exact f3⟩
    rw [List.getElem?_map, List.getElem?_eq_getElem hi]
    have ex : st.getD i 0 = st[i] := by rw [List.getD_eq_getElem?_getD, List.getElem?_eq_getElem hi]; rfl
    rw [ex] at f2
    show some (vs1.getD st[i] .non) = _
    rw [List.getD_eq_getElem?_getD, f2]
    rfl
   refine ⟨_, rfl, lenL h1 ⟨_, _, rfl, ⟨by decide, by decide, by rw [List.length_map]; omega, by rw [List.length_map]; omega⟩, ?_⟩⟩
   rw [List.length_map]
   have en : ((st.length : Int) - 1).toNat = st.length - 1 := by omega
   rw [en]
   intro D2 hD2
   refine lc_range1F (n := st.length - 1) (fun i => beside2 (g.spotD (st.getD i 0)) (g.spotD (st.getD (i + 1) 0))) (fun i => iV (i + 1)) (by omega) hD2 ?_ ?_
   ·intro i H' K4 K3 hi s2 k4 k3
    obtain ⟨t1, x1, y1⟩ := at_ i (by omega)
    obtain ⟨t2, x2, y2⟩ := at_ (i + 1) (by omega)
    refine ⟨rfl, ?_⟩
    refine ⟨_, rfl, _, rfl, _, _, rfl, rfl, ixD (by omega) (s2 _ _ h1) x1 ⟨_, rfl, _, rfl, ixL (s2 _ _ h1) x2 ⟨t1, t2, _, _, rfl, s2 _ _ y1, s2 _ _ y2, _, rfl, ?_⟩⟩⟩
    exact ite2 (fun d => ⟨_, rfl, k4 d H' (Same.refl _)⟩) (fun d => k3 (Bool.eq_false_iff.mpr d) H' (Same.refl _))
   ·intro H' s2 h2
    refine k H' D2 (s1.trans s2) (s1.free hD2) ?_
    rw [h2]
    unfold joints jn nVs
    rw [List.map_map]
    rfl
def spNearB (C : Addr) : Sp := fun vs H Q _ => ∃ p A b g a j o js, vs = [.ref p, .ref a, .ref j] /\ GAt C H p A b g /\ H a = some (.lst (nVs o)) /\ H j = some (.lst (nVs js)) /\ js.length <= 100 /\ (∀ k ∈ js, 1 <= k /\ k < o.length) /\ ∀ H', Same H H' -> Q (iV (nearB g o js)) H'
theorem scNearB : FnScope ["self", "order", "joints", "k"] ["self", "order", "joints"] (defScope (cls 33)) := ⟨rfl, rfl, rfl, by decide +kernel, rfl, by decide +kernel, by decide +kernel⟩
theorem ok_nearB {f : Addr} {fd : FuncData} (F : Fun K "near_beside" "Group.near_beside" (cls 33) f fd) (T : Tx K mg C) (Mt1 : Mt P w K mg base C "told_of" ["self", "p", "q"] 2 (spToldOf C)) : FnOk P w K mg base CX0 3 f fd ["self", "order", "joints"] (spNearB C) := by
 obtain ⟨tn, hn⟩ := T.near
 refine F.ok scNearB (fun vs H Q E h => ?_) (fun cdv A outer s H vs Q E hr h => ?_)
 ·obtain ⟨p, A, b, g, a, j, o, js, rfl, _⟩ := h
  rfl
 ·obtain ⟨p, A', b, g, a, j, o, js, rfl, B, ha, hj, h100, hjs, k⟩ := h
  refine ⟨_, pss_one (ps_ret (pe_callB call_len_seq (by rfl) T.len PySem.boot_len (pa_cons (pe_lc rfl scNearB.nd (pi_list (pv 2)) (blkOk_by (own := [("k", 3)]) (by kernel_rfl)) (fun _ _ _ _ _ => pg_name (i := 3) scNearB.nd rfl (Or.inl rfl))
   (fun _ _ _ _ _ => pts_one (pt_cmpR op_eq (pe_mt Mt1 T.cl hr (pv 0) (pa_cons (pe_ix (ixl (K := K)) (pv 1) (pe_op op_sub (pv 3) pe_int) (fun _ _ => rfl)) (pa_cons (pe_ix (ixl (K := K)) (pv 1) (pv 3) (fun _ _ => rfl)) pa_nil))) (pe_gint (by rfl) hn) (nomark _))) (fun _ _ _ _ _ => pv 3)) pa_nil))), ?_⟩
  refine ⟨_, rfl, j, rfl, ⟨_, SqL.of hj⟩, fun D hD => ?_⟩
  refine lc_listF js iV (SqL.of hj) (fun k => decide (g.toldOf (pairN (o.getD (k - 1) 0) (o.getD k 0)) = some 1)) iV (by omega) hD ?_ ?_
  ·intro x H' K4 K3 hx s1 k4 k3
   have B1 := B.same s1
   obtain ⟨x1, x2⟩ := hjs x hx
   refine ⟨rfl, ?_⟩
   refine ⟨_, rfl, mG B1 (by decide +kernel) ⟨_, rfl, _, rfl, _, _, rfl, rfl, ixD (n := x - 1) (by omega) (s1 _ _ ha) (nVs_getD (by omega)) ⟨_, rfl, _, rfl, ixL (s1 _ _ ha) (nVs_getD x2) ⟨p, A', true && b, g, _, _, rfl, B1, fun H2 s2 => ?_⟩⟩⟩⟩
   cases q : g.toldOf (pairN (o.getD (x - 1) 0) (o.getD x 0)) with
   | none =>
    rw [q] at k4 k3
    refine ⟨rfl, _, rfl, ?_⟩
    exact iteF (k3 rfl H2 s2)
   | some m =>
    rw [q] at k4 k3
    refine ⟨rfl, _, rfl, ?_⟩
    have em : decide (ret1 (some m) = V.int 1) = decide (some m = some 1) := by
     show decide (iV m = V.int 1) = _
     rw [iV_eq1]
     exact decide_eq_decide.mpr ⟨fun h => by rw [h], fun h => Option.some.inj h⟩
    rw [em]
    exact ite2 (fun d => ⟨_, rfl, k4 d H2 s2⟩) (fun d => k3 (Bool.eq_false_iff.mpr d) H2 s2)
  ·intro H' s1 h1
   refine lenL h1 ?_
   rw [List.length_map]
   exact k H' s1
def spNearOrder (C : Addr) : Sp := fun vs H Q _ => ∃ p A b g a st, vs = [.ref p, .ref a] /\ GAt C H p A b g /\ H a = some (.lst (nVs st)) /\ (∀ x ∈ st, (g.spot x).isSome = true) /\ st.length <= 6 /\ Su57.allOrders st ≠ [] /\
 ∀ H' v, KeepT H H' -> Tb H' -> BestV H' (mostF (fun o => nearB g o (joints g st)) (Su57.allOrders st)) v -> Q v H'
theorem scNearOrder : FnScope ["self", "standing", "joints"] ["self", "standing"] (defScope (cls 34)) := ⟨rfl, rfl, rfl, by decide +kernel, rfl, by decide +kernel, by decide +kernel⟩
theorem ok_nearOrder {f : Addr} {fd : FuncData} {c : Addr} (F : FunC K "near_order" "Group.near_order" (cls 34) f fd c tb2) (T : Tx K mg C) (hB : BM mg base) (Mj : Mt P w K mg base C "joints" ["self", "standing"] 2 (spJoints C)) (Fo : Fn P w K mg base "orders_of" ["people"] 2 spOrders) (Mn : Mt P w K mg base C "near_beside" ["self", "order", "joints"] 3 (spNearB C)) :
  FnOk P w K mg base CX0 6 f fd ["self", "standing"] (spNearOrder C) := by
 refine F.ok scNearOrder (fun vs H Q E h => ?_) (fun A outer s H vs Q E hr h => ?_)
 ·obtain ⟨p, A, b, g, a, st, rfl, _⟩ := h
  rfl
 ·obtain ⟨p, A', b, g, a, st, rfl, B, ha, hpl, h6, hne, k⟩ := h
  refine ⟨_, pss_cons (ps_set (i := 2) scNearOrder.nd rfl (Or.inr rfl) (pe_mt Mj T.cl hr (pv 0) (pa_cons (pv 1) pa_nil)))
   (pss_one (ps_ret (pe_maxK (by rfl) T.max hr.hd (pe_fn Fo hr (by rfl) (pa_cons (pv 1) pa_nil)) (pe_lambda (clos := [("self", s.heap.objs.size + 1), ("joints", s.heap.objs.size + 2)]) rfl F.hd hB (by rfl) (by rfl))))), ?_⟩
  refine ⟨_, rfl, mG B (by decide +kernel) ⟨_, rfl, p, A', b, g, a, st, rfl, B, ha, hpl, h6, fun H1 lj s1 hlj h1 => ?_⟩⟩
  have B1 := B.same s1
  refine ⟨_, rfl, a, st, rfl, s1 _ _ ha, h6, fun H2 lo s2 hlo hL0 => ?_⟩
  have s12 := s1.trans s2
  have B2 := B.same s12
  refine ⟨B2.tb.b, fun H3 q k3 t3 nq hL => ?_⟩
  obtain ⟨kT, T3⟩ := KeepO.tb2 B2.tb k3 t3
  have B3 := B2.keepT kT T3
  obtain ⟨as, a1, a2⟩ := hL0.keepT B2.tb kT
  have hj3 : H3 lj = some (.lst (nVs (joints g st))) := kT _ _ (s2 _ _ h1) (B2.tb.no (s2 _ _ h1) (by intro ps z; cases z))
  have jl := joints_len g st
  refine ⟨lo, q, as, (Su57.allOrders st).map fun o => (nearB g o (joints g st) : Int), rfl, rfl, a1, by rw [List.length_map]; exact Paired.length a2, ?_, ?_, fun i b' H' e hb sm => ?_⟩
  ·intro i b0 pins' H' s' hi I' sm
   have hil : i < (Su57.allOrders st).length := by rw [Paired.length a2]; exact (List.getElem?_eq_some_iff.mp hi).1
   obtain ⟨b', eb', ho⟩ := paired_get a2 (List.getElem?_eq_getElem hil)
   have eb : b' = b0 := Option.some.inj (eb'.symm.trans hi)
   subst eb
   have hol : (Su57.allOrders st)[i].length = st.length := allOrders_len (List.getElem_mem hil)
   rw [ints_getD (Su57.allOrders st) (fun o => nearB g o (joints g st)) i _ (List.getElem?_eq_getElem hil)]
   have B4 := B3.same sm
   refine lam_turn (k := 3) (x := "order") (fs := ["joints", "self"]) (ws := [.ref lj, .ref p]) (v := .ref b') I' (hL.same sm) ⟨rfl, rfl, rfl, by decide +kernel, by decide +kernel, by decide +kernel⟩ hr rfl ?_ ?_ ?_ rfl (fun _ _ _ => rfl) (fun c hr' => ?_)
   ·intro y d hd
    rw [List.lookup_cons] at hd
    cases q1 : (y == ("self" : Str)) with
    | true =>
     rw [q1] at hd
     cases hd
     rw [eq_of_beq q1]
     rfl
    | false =>
     rw [q1, List.lookup_cons] at hd
     cases q2 : (y == ("joints" : Str)) with
     | true =>
      rw [q2] at hd
      cases hd
      rw [eq_of_beq q2]
      rfl
     | false => rw [q2] at hd; cases hd
   ·intro y hy
    have hm := PySem.mem_of_lookup hy
    rcases List.mem_cons.mp hm with e | hm
    ·cases e
    ·rcases List.mem_cons.mp hm with e | hm
     ·cases e
      exact ⟨_, rfl⟩
     ·rcases List.mem_cons.mp hm with e | hm
      ·cases e
       exact ⟨_, rfl⟩
      ·cases hm
   ·intro j y z h1 h2
    match j, h1, h2 with
    | 0, h1, h2 =>
     cases h1
     cases h2
     exact ⟨2, rfl, rfl, rfl⟩
    | 1, h1, h2 =>
     cases h1
     cases h2
     exact ⟨0, rfl, rfl, rfl⟩
   ·refine ⟨_, pe_mt Mn T.cl hr' (pv 2) (pa_cons (pv 0) (pa_cons (pv 1) pa_nil)), ?_⟩
    refine ⟨_, rfl, mG B4 (by decide +kernel) ⟨_, rfl, _, rfl, p, A', b, g, b', lj, _, joints g st, rfl, B4, sm _ _ ho, sm _ _ hj3, by omega, fun k hk => ?_, fun H5 s5 => ⟨rfl, s5⟩⟩⟩
    rw [hol]
    exact joints_mem hk
  ·intro e
   subst e
   cases q : Su57.allOrders st with
   | nil => exact hne q
   | cons o os => rw [q] at a2; cases a2
  ·have hil : i < (Su57.allOrders st).length := by rw [Paired.length a2]; exact (List.getElem?_eq_some_iff.mp e).1
   obtain ⟨b2, eb', ho⟩ := paired_get a2 (List.getElem?_eq_getElem hil)
   have eb : b2 = b' := Option.some.inj (eb'.symm.trans e)
   subst eb
   refine k H' _ (((Sr.Same.keepT s12).trans kT).trans (Sr.Same.keepT sm)) (T3.same sm) ?_
   rw [mostF_best (List.getElem?_eq_getElem hil) fun j r hj => ?_]
   ·exact ⟨b2, rfl, sm _ _ ho⟩
   ·have hjl : j < (Su57.allOrders st).length := (List.getElem?_eq_some_iff.mp hj).1
    have := hb j (by rw [List.length_map]; exact hjl)
    rw [ints_getD (Su57.allOrders st) (fun o => nearB g o (joints g st)) i _ (List.getElem?_eq_getElem hil), ints_getD (Su57.allOrders st) (fun o => nearB g o (joints g st)) j _ hj] at this
    exact ⟨by have := this.1; omega, fun z => by have := this.2 z; omega⟩
end
end
section
def soTo (g : G) (st o : List Nat) : Nat -> List (Option (Nat × Nat))
 | 0 => g.spots
 | i + 1 => (soTo g st o i).set (o.getD i 0) (g.spot (st.getD i 0))
def G.standSo (g : G) (st o : List Nat) : G := { g with spots := soTo g st o o.length }
theorem soTo_len (g : G) (st o : List Nat) : ∀ i, (soTo g st o i).length = g.spots.length
 | 0 => rfl
 | i + 1 => by
  show ((soTo g st o i).set _ _).length = _
  rw [List.length_set, soTo_len g st o i]
theorem soTo_spot {g : G} {st o : List Nat} (hn : o.Nodup) (hlt : ∀ x ∈ o, x < g.spots.length) : ∀ i, i <= o.length -> (∀ k, k < i -> ({ g with spots := soTo g st o i } : G).spot (o.getD k 0) = g.spot (st.getD k 0)) /\ (∀ q, (∀ k, k < i -> o.getD k 0 ≠ q) -> ({ g with spots := soTo g st o i } : G).spot q = g.spot q)
 | 0, _ => ⟨fun k hk => absurd hk (Nat.not_lt_zero k), fun q _ => rfl⟩
 | i + 1, hi => by
  obtain ⟨h1, h2⟩ := soTo_spot (st := st) hn hlt i (by omega)
  have hil : o.getD i 0 < ({ g with spots := soTo g st o i } : G).spots.length := by
   show _ < (soTo g st o i).length
   rw [soTo_len]
   exact hlt _ (getD_mem (by omega))
  have key : ∀ q, ({ g with spots := soTo g st o (i + 1) } : G).spot q = if q = o.getD i 0 then g.spot (st.getD i 0) else ({ g with spots := soTo g st o i } : G).spot q := fun q =>
   spot_set (g := { g with spots := soTo g st o i }) hil
  refine ⟨fun k hk => ?_, fun q hq => ?_⟩
  ·rw [key]
   by_cases e : k = i
   ·rw [e, if_pos rfl]
   ·have : o.getD k 0 ≠ o.getD i 0 := fun z => e (getD_inj hn (by omega) (by omega) z)
    rw [if_neg this]
    exact h1 k (by omega)
  ·rw [key, if_neg (fun z => hq i (by omega) z.symm)]
   exact h2 q fun k hk => hq k (by omega)
theorem so_e2 {g : G} {st o : List Nat} (hn : o.Nodup) (hlt : ∀ x ∈ o, x < g.spots.length) (q : Nat) (hq : q ∉ o) : (g.standSo st o).spot q = g.spot q :=
 (soTo_spot (st := st) hn hlt o.length (Nat.le_refl _)).2 q fun k hk e => hq (e ▸ getD_mem hk)
theorem so_e1 {g : G} {st o : List Nat} (hn : o.Nodup) (hlt : ∀ x ∈ o, x < g.spots.length) {k q : Nat} (hk : o[k]? = some q) : (g.standSo st o).spot q = g.spot (st.getD k 0) := by
 have hkl := (List.getElem?_eq_some_iff.mp hk).1
 have e : o.getD k 0 = q := by rw [List.getD_eq_getElem?_getD, hk]; rfl
 have := (soTo_spot (st := st) hn hlt o.length (Nat.le_refl _)).1 k hkl
 rw [e] at this
 exact this
theorem so_e0 (g : G) (st o : List Nat) : (g.standSo st o).width = g.width /\ (g.standSo st o).face = g.face /\ (g.standSo st o).steps = g.steps /\ (g.standSo st o).heights = g.heights /\ (g.standSo st o).pairs = g.pairs /\ (g.standSo st o).spots.length = g.spots.length := ⟨rfl, rfl, rfl, rfl, rfl, soTo_len g st o _⟩
theorem Rel.so_row {g : G} {a : Su57.Abs} (R : Rel g a) {r : Nat} (hr : r < g.steps.length) {o : List Nat} (hp : o.Perm (g.rowPeople r)) : Rel (g.standSo (g.rowPeople r) o) (a.inRow r o) := by
 have hn : o.Nodup := hp.nodup_iff.mpr (rowPeople_nodup g r)
 have hlt : ∀ x ∈ o, x < g.spots.length := fun x hx => by
  obtain ⟨c, _, e⟩ := row_mem (hp.mem_iff.mp hx)
  exact spot_lt e
 refine R.inRow hr hp (so_e0 g _ o) (fun k q c hk hc => ?_) (fun q hq => so_e2 hn hlt q hq)
 rw [so_e1 hn hlt hk]
 have hkl := (List.getElem?_eq_some_iff.mp hc).1
 have := (row_at (g := g) r hkl).1
 rw [this, List.getD_eq_getElem?_getD, hc]
 rfl
theorem Rel.so_col {g : G} {a : Su57.Abs} (R : Rel g a) {c : Nat} (hc : c < g.width) {o : List Nat} (hp : o.Perm (g.colPeople c)) : Rel (g.standSo (g.colPeople c) o) (a.inColumn c o) := by
 have hn : o.Nodup := hp.nodup_iff.mpr (colPeople_nodup g c)
 have hlt : ∀ x ∈ o, x < g.spots.length := fun x hx => by
  obtain ⟨r, _, e⟩ := col_mem (hp.mem_iff.mp hx)
  exact spot_lt e
 refine R.inColumn hc hp (so_e0 g _ o) (fun k q r hk hr => ?_) (fun q hq => so_e2 hn hlt q hq)
 rw [so_e1 hn hlt hk]
 rw [<- R.rowsOf_eq'] at hr
 obtain ⟨p, e1, e2⟩ := col_row R c k r hr
 rw [List.getD_eq_getElem?_getD, e1]
 exact e2
section
variable {P : Program} {w : World} {K : PySem.W.Frag} {mg : Str -> Option Value} {base : Heap} {C : Addr}
def spStandSo (C : Addr) : Sp := fun vs H Q _ => ∃ p A b g sa oa st o, vs = [.ref p, .ref sa, .ref oa] /\ GAt C H p A b g /\ H sa = some (.lst (nVs st)) /\ H oa = some (.lst (nVs o)) /\ ¬ Owns p A oa /\ o.length = st.length /\ st.length <= 6 /\ (∀ x ∈ st, (g.spot x).isSome = true) /\ (∀ x ∈ o, x < g.spots.length) /\
 ∀ H', GAt C H' p A b (g.standSo st o) -> KeepBut H H' p A -> Q .non H'
theorem scStandSo : FnScope ["self", "standing", "order", "spots", "p", "k"] ["self", "standing", "order"] (defScope (cls 27)) := ⟨rfl, rfl, rfl, by decide +kernel, rfl, by decide +kernel, by decide +kernel⟩
theorem ok_standSo {f : Addr} {fd : FuncData} (F : Fun K "stand_so" "Group.stand_so" (cls 27) f fd) (T : Tx K mg C) : FnOk P w K mg base CX0 1 f fd ["self", "standing", "order"] (spStandSo C) := by
 refine F.ok scStandSo (fun vs H Q E h => ?_) (fun cdv A outer s H vs Q E hr h => ?_)
 ·obtain ⟨p, A, b, g, sa, oa, st, o, rfl, _⟩ := h
  rfl
 ·obtain ⟨p, A', b, g, sa, oa, st, o, rfl, B, hsa, hoa, noa, hl, h6, hpl, hol, k⟩ := h
  refine ⟨_, pss_cons (ps_setLc (i := 3) rfl scStandSo.nd rfl rfl (sw_true rfl rfl rfl (by decide +kernel)) (pi_list (pv 1)) (blkOk_by (own := [("p", 4)]) (by kernel_rfl)) (fun _ _ _ _ _ => pg_name (i := 4) scStandSo.nd rfl (Or.inl rfl)) (fun _ _ _ _ _ => pts_nil)
    (fun _ _ _ _ _ => pe_ix (ixl (K := K)) (pfld (K := K) (pv 0)) (pv 4) (fun _ _ => rfl)))
   (pss_one (ps_for PassesOwn.never rfl (pi_range1 rfl T.range (pa_cons (pe_callB call_len_seq (by rfl) T.len PySem.boot_len (pa_cons (pv 2) pa_nil)) pa_nil)) (pg_name (i := 5) scStandSo.nd rfl (Or.inl rfl))
    (pss_one (ps_asg (pe_ix ix_list (pv 3) (pv 5) (fun _ _ => rfl)) (pg_sub (pe_fld (pv 0) rfl) (pe_ix ix_list (pv 2) (pv 5) (fun _ _ => rfl)) set_list))))), ?_⟩
  obtain ⟨vs, hv, hpv⟩ := B.sp
  refine ⟨_, rfl, sa, rfl, ⟨_, SqL.of hsa⟩, fun D hD => ?_⟩
  refine lc_listF st iV (SqL.of hsa) (fun _ => true) (fun x => vs.getD x .non) (by omega) hD ?_ ?_
  ·intro x H' K4 K3 hx s1 k4 _
   have B1 := B.same s1
   obtain ⟨⟨r, c⟩, e⟩ := Option.isSome_iff_exists.mp (hpl x hx)
   obtain ⟨vs1, t, f1, f2, f3⟩ := B1.row e
   have ev : vs1 = vs := by have := f1.symm.trans (s1 _ _ hv); injection this with this; injection this
   subst ev
   have eg : vs1.getD x .non = .ref t := by rw [List.getD_eq_getElem?_getD, f2]; rfl
   rw [eg] at k4
   refine ⟨rfl, ?_⟩
   exact ⟨_, rfl, fP T B1 ⟨_, rfl, ixL f1 f2 (k4 rfl H' (Same.refl _))⟩⟩
  ·intro H1 s1 h1
   rw [List.filter_eq_self.mpr (fun _ _ => rfl)] at h1
   have B1 := B.same s1
   have nD : ¬ Owns p A' D := fun ho => by
    obtain ⟨ob, e⟩ := owns_some B ho
    rw [e] at hD
    cases hD
   have tD := B1.tb.no h1 (by intro ps z; cases z)
   have hoa1 := s1 _ _ hoa
   have toa := B1.tb.no hoa1 (by intro ps z; cases z)
   -- the tuple that stands at a place of the list
   have at_ : ∀ i, i < st.length -> ∃ t r c, (st.map fun x => vs.getD x .non)[i]? = some (.ref t) /\ g.spot (st.getD i 0) = some (r, c) /\ H1 t = some (.tup [iV r, iV c]) := fun i hi => by
    have hx := getD_mem hi
    obtain ⟨⟨r, c⟩, e⟩ := Option.isSome_iff_exists.mp (hpl _ hx)
    obtain ⟨vs1, t, f1, f2, f3⟩ := B1.row e
    have ev : vs1 = vs := by have := f1.symm.trans (s1 _ _ hv); injection this with this; injection this
    subst ev
    refine ⟨t, r, c, ?_, e, f3⟩
    rw [List.getElem?_map, List.getElem?_eq_getElem hi]
    have ex : st.getD i 0 = st[i] := by rw [List.getD_eq_getElem?_getD, List.getElem?_eq_getElem hi]; rfl
    rw [ex] at f2
    show some (vs1.getD st[i] .non) = _
    rw [List.getD_eq_getElem?_getD, f2]
    rfl
   refine ⟨_, rfl, lenL hoa1 ⟨_, rfl, by rw [nVs_len]; omega, by rw [nVs_len]; omega, ?_⟩⟩
   rw [nVs_len]
   refine for_range (n := o.length) (fun i σ H' => ∃ v5 : Option V, σ = [some (.ref p), some (.ref sa), some (.ref oa), some (.ref D), none, v5] /\ GAt C H' p A' b { g with spots := soTo g st o i } /\ KeepBut H1 H' p A')
    ⟨none, rfl, B1, Same.keep (Same.refl _)⟩ ?_ ?_
   ·rintro i σ H' hi ⟨v5, rfl, B2, kp⟩
    rw [Int.zero_add]
    obtain ⟨t, r, c, x1, x2, x3⟩ := at_ i (by omega)
    have hD2 := kp _ _ h1 nD tD
    have ho2 := kp _ _ hoa1 noa toa
    have nt : ¬ Owns p A' t := fun ho => by
     obtain ⟨dx, o1⟩ := B1.ob
     obtain ⟨vs', o2, _⟩ := B1.sp
     rcases ho with rfl | rfl | rfl | rfl | rfl
     ·rw [o1] at x3; cases x3
     ·rw [B1.st] at x3; cases x3
     ·rw [B1.ht] at x3; cases x3
     ·rw [o2] at x3; cases x3
     ·rw [B1.pr] at x3; cases x3
    have ht2 := kp _ _ x3 nt (B1.tb.no x3 (by intro ps z; cases z))
    obtain ⟨vs2, w1, w2⟩ := B2.sp
    have vl : vs2.length = g.spots.length := by rw [<- Paired.length w2]; exact soTo_len g st o i
    have hlt := hol _ (getD_mem hi)
    refine ⟨_, rfl, _, rfl, ixL hD2 x1 ⟨_, rfl, fP T B2 ⟨_, rfl, _, rfl, ixL ho2 (nVs_getD hi) ⟨A'.sp, vs2, _, o.getD i 0, rfl, rfl, w1, ixN_nat (by omega), ?_⟩⟩⟩⟩
    have sv : spotV H' (g.spot (st.getD i 0)) (.ref t) := by rw [x2]; exact ⟨t, rfl, ht2⟩
    exact ⟨_, rfl, B2.setSp (paired_set sv (o.getD i 0) w2), kp.trans (keep_upd (.inr (.inr (.inr (.inl rfl)))))⟩
   ·rintro σ H' ⟨v5, rfl, B2, kp⟩
    exact k H' B2 ((Same.keep s1).trans kp)
theorem scCPlease : FnScope ["group", "given", "standing", "order"] ["group", "given"] (defScope (top 52)) := ⟨rfl, rfl, rfl, by decide +kernel, rfl, by decide +kernel, by decide +kernel⟩
theorem ok_cplease {f : Addr} {fd : FuncData} (F : Fun K "please" "please" (top 52) f fd) (T : Tx K mg C) (c : Tc mg) (M1 : Mt P w K mg base C "has_row" ["self", "row"] 1 (spHasRow C)) (M2 : Mt P w K mg base C "row_people" ["self", "row"] 2 (spRow C)) (M3 : Mt P w K mg base C "near_order" ["self", "standing"] 6 (spNearOrder C))
  (M4 : Mt P w K mg base C "near_beside" ["self", "order", "joints"] 3 (spNearB C)) (M5 : Mt P w K mg base C "joints" ["self", "standing"] 2 (spJoints C)) : FnOk P w K mg base CX0 11 f fd ["group", "given"] (spCallK C (mk1 .please)) := by
 obtain ⟨t1, c1⟩ := c.out_of_range
 refine F.ok scCPlease (spCallK_len rfl) (fun cdv A outer s H vs Q E hr h => ?_)
 obtain ⟨p, A', g, a, ad, as, x, rfl, B, R, hd, hx, no, k⟩ := h
 obtain ⟨n, rfl, rfl⟩ := mk1_is hx
 have W := R.wf
 refine ⟨_, pss_cons (ps_if (pt_not (pt_val (pe_mt M1 T.cl hr (pv 0) (pa_cons (pe_ix ix_list (pv 1) pe_int (fun _ _ => rfl)) pa_nil)))) (pss_one (ps_ret (pe_lst (pa_cons (pe_gint (by rfl) c1) pa_nil)))) pss_nil)
  (pss_cons (ps_set (i := 2) scCPlease.nd rfl (Or.inl rfl) (pe_mt M2 T.cl hr (pv 0) (pa_cons (pe_ix ix_list (pv 1) pe_int (fun _ _ => rfl)) pa_nil)))
  (pss_cons (ps_set (i := 3) scCPlease.nd rfl (Or.inl rfl) (pe_mt M3 T.cl hr (pv 0) (pa_cons (pv 2) pa_nil)))
  (pss_one (ps_ret (pe_op op_cat (pe_lst (pa_cons (pe_mt M4 T.cl hr (pv 0) (pa_cons (pv 3) (pa_cons (pe_mt M5 T.cl hr (pv 0) (pa_cons (pv 2) pa_nil)) pa_nil))) pa_nil)) (pv 3)))))), ?_⟩
 refine ⟨_, rfl, mG B (by decide +kernel) ⟨_, rfl, ixL (n := 0) hd rfl ⟨p, A', true, g, n, rfl, B, _, rfl, ?_⟩⟩⟩
 refine ite2 (fun d => ?_) (fun d => ?_)
 ·have dn : ¬ n < g.steps.length := fun h => by rw [decide_eq_true h] at d; cases d
  have dd : Su57.does a (.please n) = (a, Su57.no (-22)) := by
   show (if a.rows <= n then _ else _) = _
   rw [if_pos (by rw [R.rows]; omega)]
  rw [dd] at k
  refine ⟨by show 1 <= sizeLine; decide, fun l hl => k _ l (AnsK.ro B (Same.new hl) hl upd_same)⟩
 ·have dn : n < g.steps.length := Decidable.byContradiction fun h => d (by rw [decide_eq_false h]; rfl)
  obtain ⟨o, q, e1, hp, ol, em⟩ := R.please_is n
  have dd : Su57.does a (.please n) = (a, Su57.num (nearB g o (joints g (g.rowPeople n))) o) := by
   show (if a.rows <= n then _ else (a, Su57.num (a.meets (a.colsOf n) (a.pleased n)) (a.pleased n))) = _
   rw [if_neg (by rw [R.rows]; omega), e1, R.colsOf_eq, em]
  rw [dd] at k
  have w6 := W.w6
  have rl := rowPeople_len g n
  have jl := joints_len g (g.rowPeople n)
  have hpl : ∀ x ∈ g.rowPeople n, (g.spot x).isSome = true := fun x hx => by
   obtain ⟨c, _, e⟩ := row_mem hx
   rw [e]
   rfl
  refine ⟨_, rfl, mG B (by decide +kernel) ⟨_, rfl, ixL (n := 0) hd rfl ⟨p, A', true, g, n, rfl, B, W, fun H1 lc s1 hlc h1 => ?_⟩⟩⟩
  have B1 := B.same s1
  refine ⟨_, rfl, mG B1 (by decide +kernel) ⟨_, rfl, p, A', true, g, lc, g.rowPeople n, rfl, B1, h1, hpl, by omega, List.ne_nil_of_mem (mem_allOrders (rowPeople_nodup g n) (List.Perm.refl _)), fun H3 v s3 t3 hb => ?_⟩⟩
  have s13 : KeepT H H3 := (Sr.Same.keepT s1).trans s3
  rw [q] at hb
  obtain ⟨bo, rfl, hbo⟩ := hb
  have B3 := B1.keepT s3 t3
  have h13 := s3 _ _ h1 (B1.tb.no h1 (by intro ps z; cases z))
  refine ⟨_, rfl, mG B3 (by decide +kernel) ⟨_, rfl, _, rfl, mG B3 (by decide +kernel) ⟨_, rfl, p, A', true, g, lc, g.rowPeople n, rfl, B3, h13, hpl, by omega, fun H4 lj s4 hlj h4 => ?_⟩⟩⟩
  have B4 := B3.same s4
  refine ⟨p, A', true, g, bo, lj, o, joints g (g.rowPeople n), rfl, B4, s4 _ _ hbo, h4, by omega, fun k hk => by rw [ol]; exact joints_mem hk, fun H5 s5 => ?_⟩
  refine ⟨by show 1 <= sizeLine; decide, fun l1 hl1 => ?_⟩
  have s6 := Same.new (o := HO.lst [iV (nearB g o (joints g (g.rowPeople n)))]) hl1
  refine ⟨_, rfl, l1, bo, _, _, rfl, rfl, upd_same, s6 _ _ (s5 _ _ (s4 _ _ hbo)), by rw [nVs_len]; show 1 + _ <= sizeLine; have := sizeLine_eq; omega, fun l hl => ?_⟩
  have s46 := (s4.trans s5).trans s6
  have t5 := t3.same s46
  have s15 : KeepT H _ := s13.trans (Sr.Same.keepT s46)
  refine k _ l (AnsK.kt (s15.trans (Sr.Same.keepT (Same.new hl))) (t5.same (Same.new hl)) (s15.free (t5.noN hl) hl) ?_)
  rw [upd_same]
  show _ = some (HO.lst (V.int _ :: (Su57Neutral.outs o).map V.int))
  rw [outs_map]
  rfl
end
end
section
theorem does_col (a : Su57.Abs) (n : Nat) : (Su57.does a (.column n)).1 = a := by
 show (if a.width <= n then (a, Su57.no (-22)) else (match a.best n with
  | none => (a, Su57.no (-33))
  | some l => (a, Su57.num (Su57.moved (a.column n) l) l))).1 = a
 split
 ·rfl
 ·split <;> rfl
theorem does_shape (a : Su57.Abs) (n : Nat) : (Su57.does a (.shape n)).1 = a := by
 show (if a.rows <= n then (a, Su57.no (-22)) else (a, _)).1 = a
 split <;> rfl
theorem does_please (a : Su57.Abs) (n : Nat) : (Su57.does a (.please n)).1 = a := by
 show (if a.rows <= n then (a, Su57.no (-22)) else (a, _)).1 = a
 split <;> rfl
theorem imp_col {C : Addr} : ∀ vs H Q E, spCall C (mk1 .column) vs H Q E -> spCallK C (mk1 .column) vs H Q E := spCallK_imp fun as x a h => by obtain ⟨n, _, rfl⟩ := mk1_is h; exact does_col a n
theorem imp_shape {C : Addr} : ∀ vs H Q E, spCall C (mk1 .shape) vs H Q E -> spCallK C (mk1 .shape) vs H Q E := spCallK_imp fun as x a h => by obtain ⟨n, _, rfl⟩ := mk1_is h; exact does_shape a n
theorem imp_please {C : Addr} : ∀ vs H Q E, spCall C (mk1 .please) vs H Q E -> spCallK C (mk1 .please) vs H Q E := spCallK_imp fun as x a h => by obtain ⟨n, _, rfl⟩ := mk1_is h; exact does_please a n
theorem ans_people (m : Nat) (o : List Nat) : (ansInts (Su57.num m o)).map V.int = iV m :: nVs o := by
 show V.int (Int.ofNat m) :: (Su57Neutral.outs o).map V.int = _
 rw [outs_map]
 rfl
theorem cut_people (m : Nat) (o : List Nat) : cutV (iV m :: nVs o) (some 1) none = nVs o := cut_drop (iV m :: nVs o) 1 (by simp)
theorem AnsAt.so {C : Addr} {H H1 H3 H4 H' : Hp} {p l : Addr} {A : GA} {g g' : G} {a' : Su57.Abs} {r : Su57.Ans} (B : GAt C H p A true g) (k1 : KeepT H H1) (s3 : Same H1 H3) (B4 : GAt C H4 p A true g') (kp : KeepBut H3 H4 p A) (R : Rel g' a') (s : Same H4 H') (hl : H4 l = none) (h : H' l = some (.lst ((ansInts r).map V.int))) : AnsAt C H H' p A a' r l := by
 have kp' : KeepBut H H4 p A := fun b o e n m => kp b o (s3 b o (k1 b o e m)) n m
 exact AnsAt.mut B4 kp' (own_some B) R s hl h
section
variable {P : Program} {w : World} {K : PySem.W.Frag} {mg : Str -> Option Value} {base : Heap} {C : Addr}
theorem scCMend : FnScope ["group", "given", "told"] ["group", "given"] (defScope (top 47)) := ⟨rfl, rfl, rfl, by decide +kernel, rfl, by decide +kernel, by decide +kernel⟩
theorem ok_cmend {f : Addr} {fd : FuncData} (F : Fun K "mend" "mend" (top 47) f fd) (T : Tx K mg C) (F1 : Fn P w K mg base "column" ["group", "given"] 11 (spCallK C (mk1 .column))) (Mc : Mt P w K mg base C "column_people" ["self", "column"] 2 (spCol C)) (Ms : Mt P w K mg base C "stand_so" ["self", "standing", "order"] 1 (spStandSo C)) : FnOk P w K mg base CX0 12 f fd ["group", "given"] (spCall C (mk1 .mend)) := by
 refine F.ok scCMend (spCall_len rfl) (fun cdv A outer s H vs Q E hr h => ?_)
 obtain ⟨p, A', g, a, ad, as, x, rfl, B, R, hd, hx, no, k⟩ := h
 obtain ⟨n, rfl, rfl⟩ := mk1_is hx
 have W := R.wf
 refine ⟨_, pss_cons (ps_set (i := 2) scCMend.nd rfl (Or.inl rfl) (pe_fn F1 hr (by rfl) (pa_cons (pv 0) (pa_cons (pv 1) pa_nil))))
  (pss_cons (ps_if (pt_cmpR op_lt (pe_ix ix_list (pv 2) pe_int (fun _ _ => rfl)) pe_int (nomark _)) (pss_one (ps_ret (pv 2))) pss_nil)
  (pss_cons (ps_expr (pe_mt Ms T.cl hr (pv 0) (pa_cons (pe_mt Mc T.cl hr (pv 0) (pa_cons (pe_ix ix_list (pv 1) pe_int (fun _ _ => rfl)) pa_nil)) (pa_cons (pe_slice sl_list (pv 2) (po_some pe_int) po_none) pa_nil))))
  (pss_one (ps_ret (pe_lst (pa_cons (pe_ix ix_list (pv 2) pe_int (fun _ _ => rfl)) pa_nil)))))), ?_⟩
 refine ⟨_, rfl, _, rfl, p, A', g, a, ad, [n], .column n, rfl, B, R, hd, rfl, no, fun H1 l AN => ?_⟩
 obtain ⟨k1, t1, hl0, h1⟩ := AN
 have B1 := B.keepT k1 t1
 have nl : ¬ Owns p A' l := fun ho => by
  obtain ⟨ob, e⟩ := owns_some B ho
  rw [e] at hl0
  cases hl0
 by_cases hn : a.width <= n
 ·have e1 : Su57.does a (.column n) = (a, Su57.no (-22)) := by
   show (if a.width <= n then _ else _) = _
   rw [if_pos hn]
  have e2 : Su57.does a (.mend n) = (a, Su57.no (-22)) := by
   show (if a.width <= n then _ else _) = _
   rw [if_pos hn]
  rw [e1] at h1
  rw [e2] at k
  refine ⟨_, rfl, ixL (n := 0) h1 rfl ⟨_, _, rfl, rfl, _, rfl, ite2 (fun _ => ⟨_, rfl, k H1 l (AnsAt.kt B R k1 t1 hl0 h1)⟩) (fun d => absurd rfl d)⟩⟩
 ·have hnw : n < g.width := by rw [<- R.width]; omega
  cases q : a.best n with
  | none =>
   have e1 : Su57.does a (.column n) = (a, Su57.no (-33)) := by
    show (if a.width <= n then _ else (match a.best n with
     | none => _
     | some l => _)) = _
    rw [if_neg hn, q]
   have e2 : Su57.does a (.mend n) = (a, Su57.no (-33)) := by
    show (if a.width <= n then _ else (match a.best n with
     | none => _
     | some l => _)) = _
    rw [if_neg hn, q]
   rw [e1] at h1
   rw [e2] at k
   refine ⟨_, rfl, ixL (n := 0) h1 rfl ⟨_, _, rfl, rfl, _, rfl, ite2 (fun _ => ⟨_, rfl, k H1 l (AnsAt.kt B R k1 t1 hl0 h1)⟩) (fun d => absurd rfl d)⟩⟩
  | some o =>
   have e1 : Su57.does a (.column n) = (a, Su57.num (Su57.moved (a.column n) o) o) := by
    show (if a.width <= n then _ else (match a.best n with
     | none => _
     | some l => _)) = _
    rw [if_neg hn, q]
   have e2 : Su57.does a (.mend n) = (a.inColumn n o, Su57.num (Su57.moved (a.column n) o) []) := by
    show (if a.width <= n then _ else (match a.best n with
     | none => _
     | some l => _)) = _
    rw [if_neg hn, q]
   rw [e1, ans_people] at h1
   rw [e2] at k
   have hp : o.Perm (g.colPeople n) := by
    rw [best_eq R n] at q
    exact allOrders_perm (colPeople_nodup g n) (List.mem_filter.mp (leastF_mem q)).1
   have cl5 := Nat.le_trans (colPeople_len g n) W.s5
   refine ⟨_, rfl, ixL (n := 0) h1 rfl ⟨_, _, rfl, rfl, _, rfl, ?_⟩⟩
   rw [show decide (((Su57.moved (a.column n) o : Nat) : Int) < 0) = false from decide_eq_false (by omega)]
   refine iteF ?_
   have hd1 := k1 _ _ hd (B.tb.no hd (by intro ps z; cases z))
   refine ⟨_, rfl, mG B1 (by decide +kernel) ⟨_, rfl, mG B1 (by decide +kernel) ⟨_, rfl, ixL (n := 0) hd1 rfl ⟨p, A', true, g, n, rfl, B1, W, fun H2 lc s2 hlc h2 => ?_⟩⟩⟩⟩
   refine ⟨_, rfl, _, rfl, l, _, rfl, SqL.of (s2 _ _ h1), fun lo hlo => ?_⟩
   have s3 := Same.new (o := HO.lst (nVs o)) hlo
   rw [cut_people]
   have s23 := s2.trans s3
   have B3 := B1.same s23
   have nlo : ¬ Owns p A' lo := fun ho => by
    obtain ⟨ob, e⟩ := owns_some (B1.same s2) ho
    rw [e] at hlo
    cases hlo
   refine ⟨p, A', true, g, lc, lo, g.colPeople n, o, rfl, B3, s3 _ _ h2, upd_same, nlo, hp.length_eq, by omega, fun x hx => ?_, fun x hx => ?_, fun H4 B4 kp4 => ?_⟩
   ·obtain ⟨r, _, e⟩ := col_mem hx
    rw [e]
    rfl
   ·obtain ⟨r, _, e⟩ := col_mem (hp.mem_iff.mp hx)
    exact spot_lt e
   ·have h13 := s23 _ _ h1
    have h14 := kp4 l _ h13 nl (B3.tb.no h13 (by intro ps z; cases z))
    refine ⟨_, rfl, ixL (n := 0) h14 rfl ⟨by show 1 <= sizeLine; decide, fun lr hlr => ?_⟩⟩
    refine k _ lr (AnsAt.so B k1 s23 B4 kp4 (R.so_col hnw hp) (Same.new hlr) hlr ?_)
    rw [upd_same]
    rfl
theorem scCForm : FnScope ["group", "given", "told"] ["group", "given"] (defScope (top 51)) := ⟨rfl, rfl, rfl, by decide +kernel, rfl, by decide +kernel, by decide +kernel⟩
theorem ok_cform {f : Addr} {fd : FuncData} (F : Fun K "form" "form" (top 51) f fd) (T : Tx K mg C) (F1 : Fn P w K mg base "shape" ["group", "given"] 11 (spCallK C (mk1 .shape))) (Mc : Mt P w K mg base C "row_people" ["self", "row"] 2 (spRow C)) (Ms : Mt P w K mg base C "stand_so" ["self", "standing", "order"] 1 (spStandSo C)) : FnOk P w K mg base CX0 12 f fd ["group", "given"] (spCall C (mk1 .form)) := by
 refine F.ok scCForm (spCall_len rfl) (fun cdv A outer s H vs Q E hr h => ?_)
 obtain ⟨p, A', g, a, ad, as, x, rfl, B, R, hd, hx, no, k⟩ := h
 obtain ⟨n, rfl, rfl⟩ := mk1_is hx
 have W := R.wf
 refine ⟨_, pss_cons (ps_set (i := 2) scCForm.nd rfl (Or.inl rfl) (pe_fn F1 hr (by rfl) (pa_cons (pv 0) (pa_cons (pv 1) pa_nil))))
  (pss_cons (ps_if (pt_cmpR op_lt (pe_ix ix_list (pv 2) pe_int (fun _ _ => rfl)) pe_int (nomark _)) (pss_one (ps_ret (pv 2))) pss_nil)
  (pss_cons (ps_expr (pe_mt Ms T.cl hr (pv 0) (pa_cons (pe_mt Mc T.cl hr (pv 0) (pa_cons (pe_ix ix_list (pv 1) pe_int (fun _ _ => rfl)) pa_nil)) (pa_cons (pe_slice sl_list (pv 2) (po_some pe_int) po_none) pa_nil))))
  (pss_one (ps_ret (pe_lst (pa_cons (pe_ix ix_list (pv 2) pe_int (fun _ _ => rfl)) pa_nil)))))), ?_⟩
 refine ⟨_, rfl, _, rfl, p, A', g, a, ad, [n], .shape n, rfl, B, R, hd, rfl, no, fun H1 l AN => ?_⟩
 obtain ⟨k1, t1, hl0, h1⟩ := AN
 have B1 := B.keepT k1 t1
 have nl : ¬ Owns p A' l := fun ho => by
  obtain ⟨ob, e⟩ := owns_some B ho
  rw [e] at hl0
  cases hl0
 by_cases hn : a.rows <= n
 ·have e1 : Su57.does a (.shape n) = (a, Su57.no (-22)) := by
   show (if a.rows <= n then _ else _) = _
   rw [if_pos hn]
  have e2 : Su57.does a (.form n) = (a, Su57.no (-22)) := by
   show (if a.rows <= n then _ else _) = _
   rw [if_pos hn]
  rw [e1] at h1
  rw [e2] at k
  refine ⟨_, rfl, ixL (n := 0) h1 rfl ⟨_, _, rfl, rfl, _, rfl, ite2 (fun _ => ⟨_, rfl, k H1 l (AnsAt.kt B R k1 t1 hl0 h1)⟩) (fun d => absurd rfl d)⟩⟩
 ·have hnr : n < g.steps.length := by rw [<- R.rows]; omega
  obtain ⟨o, _, eo, hp, ol⟩ := R.shape_is n
  have e1 : Su57.does a (.shape n) = (a, Su57.num (Su57.moved (a.row n) o) o) := by
   show (if a.rows <= n then _ else (a, Su57.num (Su57.moved (a.row n) (a.shaped n)) (a.shaped n))) = _
   rw [if_neg hn, eo]
  have e2 : Su57.does a (.form n) = (a.inRow n o, Su57.num (Su57.moved (a.row n) o) []) := by
   show (if a.rows <= n then _ else (a.inRow n (a.shaped n), Su57.num (Su57.moved (a.row n) (a.shaped n)) [])) = _
   rw [if_neg hn, eo]
  rw [e1, ans_people] at h1
  rw [e2] at k
  have w6 := W.w6
  have rl := rowPeople_len g n
  refine ⟨_, rfl, ixL (n := 0) h1 rfl ⟨_, _, rfl, rfl, _, rfl, ?_⟩⟩
  rw [show decide (((Su57.moved (a.row n) o : Nat) : Int) < 0) = false from decide_eq_false (by omega)]
  refine iteF ?_
  have hd1 := k1 _ _ hd (B.tb.no hd (by intro ps z; cases z))
  refine ⟨_, rfl, mG B1 (by decide +kernel) ⟨_, rfl, mG B1 (by decide +kernel) ⟨_, rfl, ixL (n := 0) hd1 rfl ⟨p, A', true, g, n, rfl, B1, W, fun H2 lc s2 hlc h2 => ?_⟩⟩⟩⟩
  refine ⟨_, rfl, _, rfl, l, _, rfl, SqL.of (s2 _ _ h1), fun lo hlo => ?_⟩
  have s3 := Same.new (o := HO.lst (nVs o)) hlo
  rw [cut_people]
  have s23 := s2.trans s3
  have B3 := B1.same s23
  have nlo : ¬ Owns p A' lo := fun ho => by
   obtain ⟨ob, e⟩ := owns_some (B1.same s2) ho
   rw [e] at hlo
   cases hlo
  refine ⟨p, A', true, g, lc, lo, g.rowPeople n, o, rfl, B3, s3 _ _ h2, upd_same, nlo, ol, by omega, fun x hx => ?_, fun x hx => ?_, fun H4 B4 kp4 => ?_⟩
  ·obtain ⟨r, _, e⟩ := row_mem hx
   rw [e]
   rfl
  ·obtain ⟨r, _, e⟩ := row_mem (hp.mem_iff.mp hx)
   exact spot_lt e
  ·have h13 := s23 _ _ h1
   have h14 := kp4 l _ h13 nl (B3.tb.no h13 (by intro ps z; cases z))
   refine ⟨_, rfl, ixL (n := 0) h14 rfl ⟨by show 1 <= sizeLine; decide, fun lr hlr => ?_⟩⟩
   refine k _ lr (AnsAt.so B k1 s23 B4 kp4 (R.so_row hnr hp) (Same.new hlr) hlr ?_)
   rw [upd_same]
   rfl
theorem scCSeat : FnScope ["group", "given", "told", "standing"] ["group", "given"] (defScope (top 53)) := ⟨rfl, rfl, rfl, by decide +kernel, rfl, by decide +kernel, by decide +kernel⟩
theorem ok_cseat {f : Addr} {fd : FuncData} (F : Fun K "seat" "seat" (top 53) f fd) (T : Tx K mg C) (F1 : Fn P w K mg base "please" ["group", "given"] 11 (spCallK C (mk1 .please))) (Mc : Mt P w K mg base C "row_people" ["self", "row"] 2 (spRow C)) (Ms : Mt P w K mg base C "stand_so" ["self", "standing", "order"] 1 (spStandSo C))
  (F2 : Fn P w K mg base "count_moved" ["standing", "order"] 1 spMoved) : FnOk P w K mg base CX0 12 f fd ["group", "given"] (spCall C (mk1 .seat)) := by
 refine F.ok scCSeat (spCall_len rfl) (fun cdv A outer s H vs Q E hr h => ?_)
 obtain ⟨p, A', g, a, ad, as, x, rfl, B, R, hd, hx, no, k⟩ := h
 obtain ⟨n, rfl, rfl⟩ := mk1_is hx
 have W := R.wf
 refine ⟨_, pss_cons (ps_set (i := 2) scCSeat.nd rfl (Or.inl rfl) (pe_fn F1 hr (by rfl) (pa_cons (pv 0) (pa_cons (pv 1) pa_nil))))
  (pss_cons (ps_if (pt_cmpR op_lt (pe_ix ix_list (pv 2) pe_int (fun _ _ => rfl)) pe_int (nomark _)) (pss_one (ps_ret (pv 2))) pss_nil)
  (pss_cons (ps_set (i := 3) scCSeat.nd rfl (Or.inl rfl) (pe_mt Mc T.cl hr (pv 0) (pa_cons (pe_ix ix_list (pv 1) pe_int (fun _ _ => rfl)) pa_nil)))
  (pss_cons (ps_expr (pe_mt Ms T.cl hr (pv 0) (pa_cons (pv 3) (pa_cons (pe_slice sl_list (pv 2) (po_some pe_int) po_none) pa_nil))))
  (pss_one (ps_ret (pe_lst (pa_cons (pe_ix ix_list (pv 2) pe_int (fun _ _ => rfl)) (pa_cons (pe_fn F2 hr (by rfl) (pa_cons (pv 3) (pa_cons (pe_slice sl_list (pv 2) (po_some pe_int) po_none) pa_nil))) pa_nil)))))))), ?_⟩
 refine ⟨_, rfl, _, rfl, p, A', g, a, ad, [n], .please n, rfl, B, R, hd, rfl, no, fun H1 l AN => ?_⟩
 obtain ⟨k1, t1, hl0, h1⟩ := AN
 have B1 := B.keepT k1 t1
 have nl : ¬ Owns p A' l := fun ho => by
  obtain ⟨ob, e⟩ := owns_some B ho
  rw [e] at hl0
  cases hl0
 by_cases hn : a.rows <= n
 ·have e1 : Su57.does a (.please n) = (a, Su57.no (-22)) := by
   show (if a.rows <= n then _ else _) = _
   rw [if_pos hn]
  have e2 : Su57.does a (.seat n) = (a, Su57.no (-22)) := by
   show (if a.rows <= n then _ else _) = _
   rw [if_pos hn]
  rw [e1] at h1
  rw [e2] at k
  refine ⟨_, rfl, ixL (n := 0) h1 rfl ⟨_, _, rfl, rfl, _, rfl, ite2 (fun _ => ⟨_, rfl, k H1 l (AnsAt.kt B R k1 t1 hl0 h1)⟩) (fun d => absurd rfl d)⟩⟩
 ·have hnr : n < g.steps.length := by rw [<- R.rows]; omega
  obtain ⟨o, _, eo, hp, ol, em⟩ := R.please_is n
  have e1 : Su57.does a (.please n) = (a, Su57.num (a.meets (a.colsOf n) o) o) := by
   show (if a.rows <= n then _ else (a, Su57.num (a.meets (a.colsOf n) (a.pleased n)) (a.pleased n))) = _
   rw [if_neg hn, eo]
  have e2 : Su57.does a (.seat n) = (a.inRow n o, Su57.num (a.meets (a.colsOf n) o) [Su57.moved (g.rowPeople n) o]) := by
   show (if a.rows <= n then _ else (a.inRow n (a.pleased n), Su57.num (a.meets (a.colsOf n) (a.pleased n)) [Su57.moved (a.row n) (a.pleased n)])) = _
   rw [if_neg hn, eo, R.row_eq]
  rw [e1, ans_people] at h1
  rw [e2] at k
  have w6 := W.w6
  have rl := rowPeople_len g n
  refine ⟨_, rfl, ixL (n := 0) h1 rfl ⟨_, _, rfl, rfl, _, rfl, ?_⟩⟩
  rw [show decide (((a.meets (a.colsOf n) o : Nat) : Int) < 0) = false from decide_eq_false (by omega)]
  refine iteF ?_
  have hd1 := k1 _ _ hd (B.tb.no hd (by intro ps z; cases z))
  refine ⟨_, rfl, mG B1 (by decide +kernel) ⟨_, rfl, ixL (n := 0) hd1 rfl ⟨p, A', true, g, n, rfl, B1, W, fun H2 lc s2 hlc h2 => ?_⟩⟩⟩
  have B2 := B1.same s2
  refine ⟨_, rfl, mG B2 (by decide +kernel) ⟨_, rfl, _, rfl, _, rfl, l, _, rfl, SqL.of (s2 _ _ h1), fun lo hlo => ?_⟩⟩
  have s3 := Same.new (o := HO.lst (nVs o)) hlo
  rw [cut_people]
  have s23 := s2.trans s3
  have B3 := B1.same s23
  have nlo : ¬ Owns p A' lo := fun ho => by
   obtain ⟨ob, e⟩ := owns_some B2 ho
   rw [e] at hlo
   cases hlo
  have nlc : ¬ Owns p A' lc := fun ho => by
   obtain ⟨ob, e⟩ := owns_some B1 ho
   rw [e] at hlc
   cases hlc
  refine ⟨p, A', true, g, lc, lo, g.rowPeople n, o, rfl, B3, s3 _ _ h2, upd_same, nlo, ol, by omega, fun x hx => ?_, fun x hx => ?_, fun H4 B4 kp4 => ?_⟩
  ·obtain ⟨r, _, e⟩ := row_mem hx
   rw [e]
   rfl
  ·obtain ⟨r, _, e⟩ := row_mem (hp.mem_iff.mp hx)
   exact spot_lt e
  ·have h13 := s23 _ _ h1
   have h14 := kp4 l _ h13 nl (B3.tb.no h13 (by intro ps z; cases z))
   have h23 := s3 _ _ h2
   have h24 := kp4 lc _ h23 nlc (B3.tb.no h23 (by intro ps z; cases z))
   refine ⟨_, rfl, ixL (n := 0) h14 rfl ⟨_, rfl, _, rfl, _, rfl, l, _, rfl, SqL.of h14, fun lo2 hlo2 => ?_⟩⟩
   have s5 := Same.new (o := HO.lst (nVs o)) hlo2
   rw [cut_people]
   refine ⟨lc, lo2, g.rowPeople n, o, rfl, s5 _ _ h24, upd_same, ol, by omega, fun H6 s6 => ⟨by show 2 <= sizeLine; decide, fun lr hlr => ?_⟩⟩
   have s56 := s5.trans s6
   have s57 := s56.trans (Same.new (o := HO.lst [iV (a.meets (a.colsOf n) o), iV (Su57.moved (g.rowPeople n) o)]) hlr)
   refine k _ lr (AnsAt.so B k1 s23 B4 kp4 (R.so_row hnr hp) s57 (s56.free hlr) ?_)
   rw [upd_same]
   rfl
end
end
section
open PySem.W (WData Codec OpenSpec Well WellAll ReadsW ReadsAllW)
def withT (H0 : Hp) : Hp := fun b => if b = tb1 ∨ b = tb2 then some (.tbl #[]) else H0 b
theorem withT_t {H0 : Hp} {b : Addr} (h : Tbl b) : withT H0 b = some (.tbl #[]) := if_pos h
theorem withT_n {H0 : Hp} {b : Addr} (h : ¬ Tbl b) : withT H0 b = H0 b := if_neg h
theorem withT_tb (H0 : Hp) : Tb (withT H0) := ⟨⟨#[], withT_t (.inl rfl), trivial, .inl rfl⟩, ⟨#[], withT_t (.inr rfl), trivial, .inl rfl⟩⟩
theorem spec_callT {P : Program} {w : World} {K : PySem.W.Frag} {mg mb : Str -> Option Value} {CX : CXT} {k : Nat} {fa : Addr} {fd : FuncData} {ps : List Str} {sp : Sp} {s₁ : Shared} {vals : List Value} {ds : List WData} {R : PySem.W.WRecords} {cl : Str -> Option Addr} {d0 : WData}
  (KX : K.In s₁.heap) (hns : s₁.heap.Ns mainGlobals mg) (hb : s₁.heap.Ns builtinsNs mb) (hbb : ∀ x : Str, x ≠ "__name__" -> mb x = bootBuiltins x) (hlim : s₁.heap.NoLimit) (hg : s₁.gens = #[])
  (hT : ∀ T, Tbl T -> s₁.heap.get? T = some (PySem.W.tabObj #[])) (hct : ∀ T, Tbl T -> isCodeTable s₁.heap T) (hKT : ∀ T, Tbl T -> K.lookup T = none) (hbm : BM mg s₁.heap)
  (hwl : WellAll w.params s₁.heap vals ds) (hpl : plWs ds = true) (hwt : ∀ d ∈ ds, d.weight <= 1048576) (hr : Room k callerA)
  (F : ∀ base : Heap, K.In base -> base.Ns mainGlobals mg -> BM mg base -> FnOk P w K mg base CX k fa fd ps sp) (hbind : ∀ (s : Shared) (us : List Value), us.length = ps.length -> BindsTo s fd ⟨us, []⟩ (ps.zip us)) (hlen : ds.length = ps.length)
  (hsp : ∀ (H0 H : Hp) (xs : List V), Same H0 H -> Tb H -> DwAll K H0 xs ds -> sp xs H (fun v H' => Dw K H' v d0) fun _ _ _ => False)
  (hCX : ∀ H e s', CX [] H s₁ (fun _ _ _ => False) e s' -> False) :
  codeAny (model P w) callerA (.call (.ref fa) ⟨vals, []⟩) (fun r s' => ∃ u as, r = .ok (.ret u) /\ ReadsW R cl s'.heap u d0 as /\ OldK s₁.heap s'.heap /\ s'.os = s₁.os /\ AllBare s'.gens) s₁ := by
 obtain ⟨A, ho, ar⟩ := area_all ds vals hwl hpl hwt
 have hO : OnlyF (argH K s₁.heap A) := argH_only ar
 have hok0 : HOk P w (argH K s₁.heap A) s₁.heap := argH_ok ar
 have hS := dw_all KX ar ds vals hwl hpl ho
 have hV := vals_toV ho
 have hK : ∀ b u, argH K s₁.heap A b = some u -> K.lookup b = none := fun b u q => (argH_is ar q).1
 have shp : ∀ {b : Addr} {u : HO}, argH K s₁.heap A b = some u -> ∃ (vs : List Value) (c : String), s₁.heap.get? b = some { cls := .type c, data := .seq vs.toArray } := fun {b u} q => by
  obtain ⟨_, vs, _, _, ⟨e2, _⟩ | ⟨e2, _⟩⟩ := argH_is ar q
  ·exact ⟨vs, _, e2⟩
  ·exact ⟨vs, _, e2⟩
 generalize argH K s₁.heap A = H0 at hO hok0 hS hK shp
 have notT : ∀ {b : Addr} {u : HO}, H0 b = some u -> ¬ Tbl b := fun {b u} q t => by
  obtain ⟨vs, c, e⟩ := shp q
  rw [hT b t] at e
  cases e
 have sm : Same H0 (withT H0) := fun b u q => by rw [withT_n (notT q)]; exact q
 have hTb := withT_tb H0
 have hok : HOk P w (withT H0) s₁.heap := fun b u q => by
  by_cases t : Tbl b
  ·rw [withT_t t] at q
   cases q
   exact hT b t
  ·rw [withT_n t] at q
   exact (hok0 b u q).stay (fun _ _ _ e => e) (fun c e => sm _ _ e) fun c xs e => sm _ _ e
 have tbl : ∀ {b : Addr} {u : HO}, withT H0 b = some u -> (Tbl b /\ u = .tbl #[]) ∨ (¬ Tbl b /\ H0 b = some u) := fun {b u} q => by
  by_cases t : Tbl b
  ·rw [withT_t t] at q
   cases q
   exact .inl ⟨t, rfl⟩
  ·rw [withT_n t] at q
   exact .inr ⟨t, q⟩
 generalize withT H0 = H at hTb hok sm tbl
 -- what is not a table, a list, a tuple is not tracked
 have base_of : ∀ {b : Addr} {o : Obj}, s₁.heap.get? b = some o -> H b = none -> (hidT s₁.heap H).get? b = some o := fun e n => hidT_get e n
 have free_ : ∀ {b : Addr} {o : Obj}, s₁.heap.get? b = some o -> (∀ vs, o ≠ PySem.W.tabObj vs) -> (∀ (vs : List Value) (c : String), o ≠ { cls := .type c, data := .seq vs.toArray }) -> H b = none := fun {b o} e n1 n2 => by
  cases q : H b with
  | none => rfl
  | some u =>
   rcases tbl q with ⟨t, _⟩ | ⟨_, q2⟩
   ·rw [hT b t] at e
    cases e
    exact absurd rfl (n1 _)
   ·obtain ⟨vs, c, e2⟩ := shp q2
    rw [e2] at e
    cases e
    exact absurd rfl (n2 _ _)
 have nsK : ∀ {b : Addr} {m : Str -> Option Value}, s₁.heap.Ns b m -> (hidT s₁.heap H).Ns b m := fun {b m} ⟨o, es, ep, e, d, r⟩ => ⟨o, es, ep, base_of e (free_ e (fun vs z => by rw [z] at d; cases d) (fun vs c z => by rw [z] at d; cases d)), d, r⟩
 have nK : ∀ b o, K.lookup b = some o -> H b = none := fun b o e => by
  cases q : H b with
  | none => rfl
  | some u =>
   rcases tbl q with ⟨t, _⟩ | ⟨_, q2⟩
   ·rw [hKT b t] at e
    cases e
   ·rw [hK b u q2] at e
    cases e
 have hKb : K.In (hidT s₁.heap H) := fun b o e => base_of (KX b o e) (nK b o e)
 have hM : Mod K mg (hidT s₁.heap H) := ⟨hKb, nsK hns, ⟨mb, nsK hb, hbb⟩, let ⟨mc, h1, h2⟩ := hlim; ⟨mc, nsK h1, h2⟩⟩
 have hBM : BM mg (hidT s₁.heap H) := by
  obtain ⟨bm, ob, b1, b2, b3, b4, b5, b6⟩ := hbm
  exact ⟨bm, ob, b1, b2, base_of b3 (free_ b3 (fun vs z => by rw [z] at b4; cases b4) (fun vs c z => by rw [z] at b6; cases b6)), b4, b5, b6⟩
 have e0 : Env0 P w K mg (hidT s₁.heap H) callerA [] s₁ H := ⟨rfl, hM, fun b o e => of_hidT e, Nat.le_of_eq (hidT_size _ _), trivial, fun b hb => absurd (show b ∈ ([] : List Addr) from hb) (by simp), hok, .of_eq hg⟩
 have hl : vals.length = ps.length := by rw [wellAll_len hwl]; exact hlen
 refine codeAny_mono ((F _ hKb (nsK hns) hBM).run callerA [] s₁ H ⟨vals, []⟩ vals (vals.map toV) _ _ hr e0 (hbind s₁ vals hl) hV (hsp H0 H _ sm hTb hS)) fun r s' x => ?_
 cases r with
 | error e => exact (hCX H e s' x).elim
 | ok fl =>
  cases fl with
  | next => exact False.elim x
  | brk => exact False.elim x
  | cont => exact False.elim x
  | ret u =>
   obtain ⟨v, H', os, bare, un, hok', r', q⟩ := x
   have kept : ∀ b o, s₁.heap.get? b = some o -> ¬ Tbl b -> s'.heap.get? b = some o := fun b o e nt => by
    cases q2 : H b with
    | none => exact un.keep b o e q2 (by intro z; exact absurd (show b ∈ ([] : List Addr) from z) (by simp)) (by simp)
    | some u2 =>
     rcases tbl q2 with ⟨t, _⟩ | ⟨_, q3⟩
     ·exact absurd t nt
     ·rcases hO b with z | ⟨ob, u3, z⟩
      ·rw [q3] at z
       cases z
      ·have z1 := sm _ _ z
       have z2 := un.frzs b ob _ z1
       obtain ⟨e1, _⟩ := hok b _ z1
       obtain ⟨e2, _⟩ := hok' b _ z2
       rw [e] at e1
       cases e1
       exact e2
   have grown : ∀ b, Tbl b -> ∃ more, s'.heap.get? b = some (PySem.W.tabObj (#[] ++ more)) := fun b t => by
    have hb0 : H b = some (.tbl #[]) := by
     rcases t with rfl | rfl
     ·obtain ⟨ps, h1, _⟩ := hTb.a
      rcases tbl h1 with ⟨_, z⟩ | ⟨z, _⟩
      ·rw [z] at h1; exact h1
      ·exact absurd (.inl rfl) z
     ·obtain ⟨ps, h1, _⟩ := hTb.b
      rcases tbl h1 with ⟨_, z⟩ | ⟨z, _⟩
      ·rw [z] at h1; exact h1
      ·exact absurd (.inr rfl) z
    obtain ⟨more, z⟩ := un.tbls b #[] hb0
    exact ⟨more, hok' b _ z⟩
   have KX' : K.In s'.heap := fun b o e => kept b o (KX b o e) fun t => by
    rw [hKT b t] at e
    cases e
   obtain ⟨as, hrd⟩ := Dw.reads (R := R) (cl := cl) hok' KX' d0 v u q r'
   refine ⟨u, as, rfl, hrd, ⟨fun b o e => ?_, fun b o e => ?_⟩, os, bare⟩
   ·by_cases t : Tbl b
    ·have e1 := hT b t
     rw [e1] at e
     cases e
     obtain ⟨more, z⟩ := grown b t
     exact .inr (.inl ⟨hct b t, rfl, #[], more, rfl, z⟩)
    ·exact .inl (kept b o e t)
   ·by_cases t : Tbl b
    ·obtain ⟨more, z⟩ := grown b t
     exact ⟨_, z⟩
    ·exact ⟨o, kept b o e t⟩
theorem walk_specT {r : OpenSpec} {k : Nat} {q : Program} {loose : List Str} {XP : (Str -> Option Value) -> Heap -> Prop} {YP : World -> Heap -> Prop} {d : DefRec} {K : Params -> PySem.W.Frag} {CX : CXT} {ps : List Str} {sp : PySem.W.Frag -> Sp} {c1 c2 : Addr}
  (hwell : r.wellSaid = true) (hdf : d.params.defaults = []) (hlen : r.args.length = ps.length) (hr : Room k callerA)
  (hY : ∀ (w : World) (h : Heap), YP w h -> (K w.params).In h /\ ∀ T, Tbl T -> h.get? T = some (PySem.W.tabObj #[]))
  (hc1 : ∀ P, PySem.W.codeHdIn (K P) c1 tb1 = true) (hc2 : ∀ P, PySem.W.codeHdIn (K P) c2 tb2 = true) (hnt : ∀ P, PySem.W.noTabs (K P) = true)
  (F : ∀ (w : World) (mg : Str -> Option Value) (fa : Addr) (h : Heap), YP w h -> (K w.params).In h -> h.Ns mainGlobals mg -> mg d.name = some (.ref fa) ->
   ∃ fd : FuncData, (∀ (s : Shared) (us : List Value), us.length = ps.length -> BindsTo s fd ⟨us, []⟩ (ps.zip us)) /\
    ∀ base : Heap, (K w.params).In base -> base.Ns mainGlobals mg -> BM mg base -> FnOk r.prog w (K w.params) mg base CX k fa fd ps (sp (K w.params)))
  (hsp : ∀ (K : PySem.W.Frag) (H0 H : Hp) (xs : List V) (a : Codec.denoteAll r.args), Same H0 H -> Tb H -> Codec.withinAll r.args a = true -> Codec.app r.args r.asked a = true -> DwAll K H0 xs (Codec.encAll r.args a) ->
   sp K xs H (fun v H' => Dw K H' v (r.ret.enc (Codec.app r.args r.f a))) fun _ _ _ => False)
  (hCX : ∀ (H : Hp) (s : Shared) (e : Value) (s' : Shared), CX [] H s (fun _ _ _ => False) e s' -> False) :
  PySem.W.WalkOS q loose XP YP r d [] (fun f vs => PySem.call f vs) := by
 intro w s_0 s₁ mg mb G Y fa o pm cd doc dV kV ho hd hcd hD hmg hg args vals as hpre hlay hrd hwl hlo
 obtain ⟨a, e1, e2⟩ := PySem.W.os_pre_some hpre
 obtain ⟨e3, hwi⟩ := Codec.encAll_of_decAll r.args args a e1
 subst e3
 obtain ⟨KX, hT⟩ := hY w _ Y
 obtain ⟨fd, hb, hF⟩ := F w mg fa _ Y KX G.T.g hmg
 have ct : ∀ T, Tbl T -> isCodeTable s₁.heap T := fun T t => by
  rcases t with rfl | rfl
  ·exact ((PySem.W.codeHd_of_K KX (hc1 _)).tab (hT _ (.inl rfl))).isCodeTable
  ·exact ((PySem.W.codeHd_of_K KX (hc2 _)).tab (hT _ (.inr rfl))).isCodeTable
 have kt : ∀ T, Tbl T -> (K w.params).lookup T = none := fun T t => by
  cases e : (K w.params).lookup T with
  | none => rfl
  | some o =>
   have h1 := KX T o e
   rw [hT T t] at h1
   have h2 := List.all_eq_true.mp (hnt w.params) (T, o) (PySem.W.mem_of_lookupK e)
   cases h1
   exact absurd (show false = true from h2) Bool.false_ne_true
 refine PySem.W.enter_call (codeAny_mono (spec_callT (R := []) (cl := classAt s_0.heap) (d0 := r.ret.enc (Codec.app r.args r.f a)) KX G.T.g G.T.b G.T.builtins G.T.nolimit hg hT ct kt G.T.bmain hwl (pl_encAll _ _) (layable_weight hlay) hr hF hb (by rw [encAll_len]; exact hlen)
  (fun H0 H xs hs ht hS => hsp (K w.params) H0 H xs a hs ht hwi e2 hS) fun H e s' => hCX H s₁ e s') fun r' s' hq => ?_)
 obtain ⟨u, as', rfl, h1, h2, h3, h4⟩ := hq
 exact ⟨.inl ⟨u, _, as', rfl, fun _ => rfl, h1, (OpenSpec.post_iff hwell hwi _ _).mpr rfl, fun z => Bool.noConfusion (show false = true from z)⟩, h2, h3, h4⟩
end
section
def asked0 : List Int -> Bool := fun l => l.isEmpty
def f0 : List Int -> List Int := fun _ => []
def row0 : PySem.W.OpenSpec := PySem.W.OpenSpec.mk PySem.Challenge.pw_standrows_s01_answers PySem.Challenge.nm_standrows_s01_answers PySem.Challenge.fa_standrows_s01_answers PySem.Challenge.fr_standrows_s01_answers asked0 f0
def IntIs (K : PySem.W.Frag) (x : Str) (i : Int) : Prop := ∃ t, PySem.W.nsIn K mainGlobals x = some (some (.int i t))
theorem intIs {K : PySem.W.Frag} {x : Str} {i : Int} {t : Tok} (a : PySem.W.nsIn K mainGlobals x = some (some (.int i t))) : IntIs K x i := ⟨t, a⟩
def FnIs (K : PySem.W.Frag) (x qual : Str) (st : Stmt) (f : Addr) : Prop := PySem.W.nsIn K mainGlobals x = some (some (.ref f)) /\ ∃ fd, Fun K x qual st f fd
def MtIs (K : PySem.W.Frag) (C : Addr) (x qual : Str) (st : Stmt) (f : Addr) : Prop := (PySem.W.findIn K (.ref C) x = some (some (.ref f)) /\ PySem.W.isFn K (.ref f) = true) /\ ∃ fd, Fun K x qual st f fd
section
variable {K : PySem.W.Frag} {C f : Addr} {x qual : Str} {st : Stmt} {oc : Value} {od an : Option Addr} {osl : Array (Option Value)} {kV doc pm cdv ct : Value}
theorem fnIs (a : PySem.W.nsIn K mainGlobals x = some (some (.ref f))) (l : K.lookup f = some ⟨oc, od, .func (PySem.W.fnOf x qual (defArgs st) (defBody st) (defScope st) .none kV doc pm an cdv ct), osl⟩)
  (c : PySem.W.codeIn K cdv qual = true) (k : PySem.W.keepIn K (.ref f) = true) : FnIs K x qual st f := ⟨a, _, fun_mk l c k⟩
theorem mtIs (a : PySem.W.findIn K (.ref C) x = some (some (.ref f))) (i : PySem.W.isFn K (.ref f) = true) (l : K.lookup f = some ⟨oc, od, .func (PySem.W.fnOf x qual (defArgs st) (defBody st) (defScope st) .none kV doc pm an cdv ct), osl⟩)
  (c : PySem.W.codeIn K cdv qual = true) (k : PySem.W.keepIn K (.ref f) = true) : MtIs K C x qual st f := ⟨⟨a, i⟩, _, fun_mk l c k⟩
end
section
variable {P : Program} {w : World} {K : PySem.W.Frag} {mg : Str -> Option Value} {base : Heap} {C : Addr}
def spNo : Sp := fun _ _ _ _ => False
theorem ok_no {f : Addr} {fd : FuncData} {ps : List Str} : FnOk P w K mg base CX0 1 f fd ps spNo := ⟨fun _ _ _ _ h => h.elim, fun _ _ _ _ _ _ _ _ _ _ _ _ _ h => h.elim⟩
def spAnswers0 (K : PySem.W.Frag) : Sp := fun vs H Q _ => ∃ (a : Addr), vs = [.ref a] /\ SqL K H a [] /\ ∀ (H' : Hp) (l : Addr), H' l = some (.lst []) -> Q (.ref l) H'
theorem ok_answers0 {f fI : Addr} {fd fdI : FuncData} (F : Fun K "answers" "answers" (top 64) f fd) (T : Tx K mg C) (mgG : mg "Group" = some (.ref C)) (M : Mk K C fI) (FI : FnOk P w K mg base CX0 1 fI fdI ["self"] (spInit C)) (bI : Binds K fdI ["self"] [])
  (Fe : Fn P w K mg base "end_of_call" ["calls", "start"] 1 spNo) (Fa : Fn P w K mg base "answer_call" ["group", "number", "given"] 1 spNo) : FnOk P w K mg base CX0 3 f fd ["calls"] (spAnswers0 K) := by
 refine F.ok scAnswers (fun vs H Q E h => ?_) (fun cdv A outer s H vs Q E hr h => ?_)
 ·obtain ⟨a, rfl, _⟩ := h
  rfl
 obtain ⟨a, rfl, hS, k⟩ := h
 refine ⟨_, pss_cons (ps_set (i := 1) scAnswers.nd rfl (Or.inl rfl) (pe_make0 M FI (hr.mono (by decide)) rfl mgG bI .nil pass0))
  (pss_cons (ps_set (i := 2) scAnswers.nd rfl (Or.inl rfl) (pe_lst pa_nil))
  (pss_cons (ps_set (i := 3) scAnswers.nd rfl (Or.inl rfl) pe_int)
  (pss_cons (ps_while PassesOwn.never (pt_cmpR op_lt (pv 3) (pe_callB call_len_seq (by rfl) T.len PySem.boot_len (pa_cons (pv 0) pa_nil)) (nomark _))
   (pss_cons (ps_set (i := 4) scAnswers.nd rfl (Or.inl rfl) (pe_fn Fe hr (by rfl) (pa_cons (pv 0) (pa_cons (pv 3) pa_nil))))
   (pss_cons (ps_set (i := 5) scAnswers.nd rfl (Or.inl rfl) (pe_fn Fa hr (by rfl) (pa_cons (pv 1) (pa_cons (pe_ix ix_list (pv 0) (pv 3) (fun _ _ => rfl)) (pa_cons (pe_slice sl_list (pv 0) (po_some (pe_op op_add (pv 3) pe_int)) (po_some (pv 4))) pa_nil)))))
   (pss_cons (ps_expr (pe_bm PySem.F.plainAttrs_list PySem.F.slot_list_append PySem.F.type_list_append mt_append (pv 2) (pa_cons (pe_callB call_len_seq (by rfl) T.len PySem.boot_len (pa_cons (pv 5) pa_nil)) pa_nil)))
   (pss_cons (ps_expr (pe_bm PySem.F.plainAttrs_list PySem.F.slot_list_extend PySem.F.type_list_extend mt_extend (pv 2) (pa_cons (pv 5) pa_nil)))
   (pss_one (ps_set (i := 3) scAnswers.nd rfl (Or.inl rfl) (pv 4))))))))
  (pss_one (ps_ret (pv 2)))))), ?_⟩
 intro p dx np nd nex
 have s0 : Same H (upd (upd H dx (.own p)) p (.ins C dx [])) := fun b o e => by
  rw [upd_ne (ne_of_none e np), upd_ne (ne_of_none e nd)]
  exact e
 refine ⟨p, dx, rfl, upd_same, fun H1 kp1 _ => ⟨rfl, ?_⟩⟩
 have s1 : Same H H1 := fun b o e => kp1 b o (s0 b o e) (ne_of_none e np)
 refine ⟨Nat.zero_le _, fun lt hlt => ?_⟩
 have s2 : Same H1 (upd H1 lt (.lst [])) := Same.new hlt
 refine while_by (fun σ H' => σ = [some (.ref a), some (.ref p), some (.ref lt), some (iV 0), none, none] /\ Same H H' /\ H' lt = some (.lst [])) (fun _ _ => 0) ⟨rfl, s1.trans s2, upd_same⟩ ?_ ?_
 ·rintro σ H' ⟨rfl, sH, ht⟩
  refine ⟨_, rfl, _, rfl, a, _, rfl, .inl (sH.seq hS), _, _, rfl, rfl, _, rfl, ?_⟩
  refine ite2 (fun d => absurd d (by decide)) (fun _ => ?_)
  exact ⟨_, rfl, k H' lt ht⟩
 ·rintro σ H' Q1 Q2 hQ ⟨v, e1, v2, e2, q⟩
  obtain ⟨p1, ys, e3, e4, i, j, e5, e6, b, e7, q⟩ := q
  exact ⟨v, e1, v2, e2, p1, ys, e3, e4, i, j, e5, e6, b, e7, hQ _ _ q⟩
end
end
theorem all_mk0 {P : Program} {w : World} {K : PySem.W.Frag} {h : Heap} {mg : Str -> Option Value} {fa C fe fc fi fs : Addr} (X : K.In h) (G : h.Ns mainGlobals mg) (hfa : mg "answers" = some (.ref fa))
  (aC : PySem.W.nsIn K mainGlobals "Group" = some (some (.ref C))) (pg : PySem.W.plainGet K C Str.empty = true) (hd : PySem.W.hasDictIn K C = true) (po : PySem.W.plainOver K C = true) (sa : PySem.W.findIn K (.ref C) "__setattr__" = some (some (.builtin "object.__setattr__"))) (mk : PySem.W.makesIn K C = true) (kc : PySem.W.keepIn K (.ref C) = true)
  (n_begun : PySem.W.findIn K (.ref C) "begun" = some none) (n_width : PySem.W.findIn K (.ref C) "width" = some none) (n_face : PySem.W.findIn K (.ref C) "face" = some none) (n_steps : PySem.W.findIn K (.ref C) "steps" = some none) (n_heights : PySem.W.findIn K (.ref C) "heights" = some none) (n_spots : PySem.W.findIn K (.ref C) "spots" = some none) (n_pairs : PySem.W.findIn K (.ref C) "pairs" = some none)
  (b_len : PySem.W.nsIn K mainGlobals "len" = some none) (b_range : PySem.W.nsIn K mainGlobals "range" = some none) (b_all : PySem.W.nsIn K mainGlobals "all" = some none) (b_sorted : PySem.W.nsIn K mainGlobals "sorted" = some none) (b_min : PySem.W.nsIn K mainGlobals "min" = some none) (b_max : PySem.W.nsIn K mainGlobals "max" = some none) (b_abs : PySem.W.nsIn K mainGlobals "abs" = some none) (b_int : PySem.W.nsIn K mainGlobals "int" = some none) (b_list : PySem.W.nsIn K mainGlobals "list" = some none)
  (c_NEAR : IntIs K "NEAR" 1) (c_APART : IntIs K "APART" 2)
  (h_e : FnIs K "end_of_call" "end_of_call" (top 62) fe) (h_c : FnIs K "answer_call" "answer_call" (top 63) fc) (h_i : MtIs K C "__init__" "Group.__init__" (cls 0) fi) (h_s : FnIs K "answers" "answers" (top 64) fs) :
  ∃ fd : FuncData, (∀ (s : Shared) (us : List Value), us.length = (["calls"] : List Str).length -> BindsTo s fd ⟨us, []⟩ ((["calls"] : List Str).zip us)) /\ ∀ base : Heap, K.In base -> base.Ns mainGlobals mg -> FnOk P w K mg base CX0 3 fa fd ["calls"] (spAnswers0 K) := by
 have e := hfa.symm.trans (PySem.W.mg_of X G h_s.1)
 cases e
 have int : ∀ {x : Str} {i : Int}, IntIs K x i -> ∃ t, mg x = some (.int i t) := fun ⟨t, a⟩ => ⟨t, PySem.W.mg_of X G a⟩
 have T : Tx K mg C := ⟨⟨pg, hd, po, sa⟩, n_begun, n_width, n_face, n_steps, n_heights, n_spots, n_pairs, PySem.W.mg_none_of X G b_len, PySem.W.mg_none_of X G b_range, PySem.W.mg_none_of X G b_all, PySem.W.mg_none_of X G b_sorted, PySem.W.mg_none_of X G b_min, PySem.W.mg_none_of X G b_max, PySem.W.mg_none_of X G b_abs, PySem.W.mg_none_of X G b_int, PySem.W.mg_none_of X G b_list, int c_NEAR, int c_APART⟩
 obtain ⟨a_e, d_e, F_e⟩ := h_e
 have b_e := F_e.binds (ps := ["calls", "start"]) fun _ _ _ _ _ _ us hl => match us, hl with | [_, _], _ => rfl
 obtain ⟨a_c, d_c, F_c⟩ := h_c
 have b_c := F_c.binds (ps := ["group", "number", "given"]) fun _ _ _ _ _ _ us hl => match us, hl with | [_, _, _], _ => rfl
 obtain ⟨a_i, d_i, F_i⟩ := h_i
 have b_i := F_i.binds (ps := ["self"]) fun _ _ _ _ _ _ us hl => match us, hl with | [_], _ => rfl
 obtain ⟨a_s, d_s, F_s⟩ := h_s
 obtain ⟨oc, od, kV, doc, pm, an, cdv, ct, osl, rfl, lk, hcd⟩ := id F_s.ex
 refine ⟨PySem.W.fnOf "answers" "answers" (defArgs (top 64)) (defBody (top 64)) (defScope (top 64)) .none kV doc pm an cdv ct, fun s us hu => match us, hu with | [_], _ => .of_eq rfl, fun base kb nb => ?_⟩
 exact ok_answers0 F_s T (PySem.W.mg_of X G aC) ⟨mk, a_i.1, a_i.2, kc⟩ (ok_init F_i T) b_i ⟨_, _, PySem.W.mg_of X G a_e, F_e.kp, b_e, ok_no⟩ ⟨_, _, PySem.W.mg_of X G a_c, F_c.kp, b_c, ok_no⟩
section
def FnIsC (K : PySem.W.Frag) (x qual : Str) (st : Stmt) (f c T : Addr) : Prop := PySem.W.nsIn K mainGlobals x = some (some (.ref f)) /\ ∃ fd, FunC K x qual st f fd c T
def MtIsC (K : PySem.W.Frag) (C : Addr) (x qual : Str) (st : Stmt) (f c T : Addr) : Prop := (PySem.W.findIn K (.ref C) x = some (some (.ref f)) /\ PySem.W.isFn K (.ref f) = true) /\ ∃ fd, FunC K x qual st f fd c T
section
variable {K : PySem.W.Frag} {C f c T : Addr} {x qual : Str} {st : Stmt} {oc : Value} {od an : Option Addr} {osl : Array (Option Value)} {kV doc pm ct : Value}
theorem fnIsC (a : PySem.W.nsIn K mainGlobals x = some (some (.ref f))) (l : K.lookup f = some ⟨oc, od, .func (PySem.W.fnOf x qual (defArgs st) (defBody st) (defScope st) .none kV doc pm an (.ref c) ct), osl⟩)
  (cd : PySem.W.codeIn K (.ref c) qual = true) (k : PySem.W.keepIn K (.ref f) = true) (t : PySem.W.codeHdIn K c T = true) : FnIsC K x qual st f c T := ⟨a, _, ⟨oc, od, kV, doc, pm, an, ct, osl, rfl, l, cd⟩, k, t⟩
theorem mtIsC (a : PySem.W.findIn K (.ref C) x = some (some (.ref f))) (i : PySem.W.isFn K (.ref f) = true) (l : K.lookup f = some ⟨oc, od, .func (PySem.W.fnOf x qual (defArgs st) (defBody st) (defScope st) .none kV doc pm an (.ref c) ct), osl⟩)
  (cd : PySem.W.codeIn K (.ref c) qual = true) (k : PySem.W.keepIn K (.ref f) = true) (t : PySem.W.codeHdIn K c T = true) : MtIsC K C x qual st f c T := ⟨⟨a, i⟩, _, ⟨oc, od, kV, doc, pm, an, ct, osl, rfl, l, cd⟩, k, t⟩
end
def TupIs (K : PySem.W.Frag) (x : Str) (xs : List V) : Prop := ∃ a, PySem.W.nsIn K mainGlobals x = some (some (.ref a)) /\ ∀ H, SqT K H a xs
theorem refsIs {K : PySem.W.Frag} {x : Str} {a : Addr} {od : Option Addr} {its : Array Value} {n : Nat} {sl : Array (Option Value)} {fs : List Addr} (h1 : PySem.W.nsIn K mainGlobals x = some (some (.ref a))) (h2 : K.lookup a = some ⟨.type "tuple", od, .seq its n, sl⟩) (h3 : its.toList = fs.map Value.ref) (h4 : fs.length <= 1000) : TupIs K x (fs.map V.ref) := by
 refine ⟨a, h1, fun H => .inr ⟨_, its, n, h2, rfl, rfl, ?_, ?_⟩⟩
 ·have : its.size = fs.length := by rw [<- Array.length_toList, h3, List.length_map]
  rw [this]
  exact Nat.le_trans h4 (by decide)
 ·rw [h3]
  clear h1 h2 h3 h4
  induction fs with
  | nil => exact .nil
  | cons y ys ih => exact .cons rfl ih
def intOf : Value -> Option Int
 | .int i _ => some i
 | _ => none
theorem intOf_rel {u : Value} {n : Nat} (h : intOf u = some (n : Int)) : RelV (iV n) u := by
 cases u <;> first | (exact ⟨_, congrArg (fun z => Value.int z _) (Option.some.inj h)⟩) | cases h
theorem ints_rel : ∀ {us : List Value} {ns : List Nat}, us.map intOf = ns.map (fun (n : Nat) => some (n : Int)) -> Vals (nVs ns) us
 | [], [], _ => .nil
 | [], _ :: _, h => by cases h
 | _ :: _, [], h => by cases h
 | u :: us, n :: ns, h => .cons (intOf_rel (List.cons.inj h).1) (ints_rel (List.cons.inj h).2)
theorem numsIs {K : PySem.W.Frag} {x : Str} {a : Addr} {od : Option Addr} {its : Array Value} {n : Nat} {sl : Array (Option Value)} {ns : List Nat} (h1 : PySem.W.nsIn K mainGlobals x = some (some (.ref a))) (h2 : K.lookup a = some ⟨.type "tuple", od, .seq its n, sl⟩) (h3 : its.toList.map intOf = ns.map (fun (n : Nat) => some (n : Int))) (h4 : ns.length <= 1000) : TupIs K x (nVs ns) := by
 refine ⟨a, h1, fun H => .inr ⟨_, its, n, h2, rfl, rfl, ?_, ints_rel h3⟩⟩
 have e := (ints_rel h3).length
 rw [nVs_len] at e
 have e2 : its.toList.length = its.size := Array.length_toList
 rw [<- e2, <- e]
 exact Nat.le_trans h4 (by decide)
structure Ev (P : Program) (w : World) (K : PySem.W.Frag) (mg : Str -> Option Value) (base h : Heap) : Prop where
 X : K.In h
 G : h.Ns mainGlobals mg
section
variable {P : Program} {w : World} {K : PySem.W.Frag} {mg : Str -> Option Value} {base h : Heap} {C f c T : Addr} {x q : Str} {st : Stmt} {ps : List Str} {k : Nat} {sp sp' : Sp}
abbrev Bd (x q : Str) (st : Stmt) (ps : List Str) : Prop := ∀ (kV doc pm : Value) (an : Option Addr) (cdv ct : Value) (us : List Value), us.length = ps.length -> bindArgs (PySem.W.fnOf x q (defArgs st) (defBody st) (defScope st) .none kV doc pm an cdv ct) ⟨us, []⟩ = pure (ps.zip us)
theorem mkF (e : Ev P w K mg base h) (i : FnIs K x q st f) (ok : ∀ {fd : FuncData}, Fun K x q st f fd -> FnOk P w K mg base CX0 k f fd ps sp) (hb : Bd x q st ps := by intro _ _ _ _ _ _ us hl; first | exact (match us, hl with | [_], _ => rfl) | exact (match us, hl with | [_, _], _ => rfl) | exact (match us, hl with | [_, _, _], _ => rfl) | exact (match us, hl with | [_, _, _, _], _ => rfl)) : Fn P w K mg base x ps k sp := by
 obtain ⟨a, fd, F⟩ := i
 exact ⟨f, fd, PySem.W.mg_of e.X e.G a, F.kp, F.binds hb, ok F⟩
theorem mkM (e : Ev P w K mg base h) (i : MtIs K C x q st f) (ok : ∀ {fd : FuncData}, Fun K x q st f fd -> FnOk P w K mg base CX0 k f fd ps sp) (hb : Bd x q st ps := by intro _ _ _ _ _ _ us hl; first | exact (match us, hl with | [_], _ => rfl) | exact (match us, hl with | [_, _], _ => rfl) | exact (match us, hl with | [_, _, _], _ => rfl) | exact (match us, hl with | [_, _, _, _], _ => rfl)) : Mt P w K mg base C x ps k sp := by
 obtain ⟨a, fd, F⟩ := i
 exact ⟨f, fd, ⟨a.1, a.2, F.kp⟩, F.binds hb, ok F⟩
theorem mkFC (e : Ev P w K mg base h) (i : FnIsC K x q st f c T) (ok : ∀ {fd : FuncData}, FunC K x q st f fd c T -> FnOk P w K mg base CX0 k f fd ps sp) (hb : Bd x q st ps) : Fn P w K mg base x ps k sp := by
 obtain ⟨a, fd, F⟩ := i
 exact ⟨f, fd, PySem.W.mg_of e.X e.G a, F.kp, F.is.binds hb, ok F⟩
theorem mkMC (e : Ev P w K mg base h) (i : MtIsC K C x q st f c T) (ok : ∀ {fd : FuncData}, FunC K x q st f fd c T -> FnOk P w K mg base CX0 k f fd ps sp) (hb : Bd x q st ps) : Mt P w K mg base C x ps k sp := by
 obtain ⟨a, fd, F⟩ := i
 exact ⟨f, fd, ⟨a.1, a.2, F.kp⟩, F.is.binds hb, ok F⟩
theorem mkA (e : Ev P w K mg base h) (i : FnIs K x q st f) (F : Fn P w K mg base x ps k sp) : FnA P w K mg base f ps k sp := by
 obtain ⟨f', fd, m, kp, b, ok⟩ := F
 have z := m.symm.trans (PySem.W.mg_of e.X e.G i.1)
 cases z
 exact ⟨kp, fd, b, ok⟩
theorem mkA' (e : Ev P w K mg base h) (i : FnIs K x q st f) (F : Fn P w K mg base x ps 11 sp) (im : ∀ vs H Q E, sp' vs H Q E -> sp vs H Q E) : FnA P w K mg base f ps 12 sp' := by
 obtain ⟨kp, fd, b, ok⟩ := mkA e i F
 exact ⟨kp, fd, b, (ok.imp im).mono (by decide)⟩
end
theorem all_mk {P : Program} {w : World} {K : PySem.W.Frag} {h : Heap} {mg : Str -> Option Value} {fa C c_1 c_2 a0 a1 a2 a3 a4 a5 a6 a7 a8 a9 a10 a11 a12 a13 a14 a15 a16 a17 a18 a19 a20 a21 a22 a23 a24 a25 a26 a27 a28 a29 a30 a31 a32 a33 a34 a35 a36 a37 a38 a39 a40 a41 a42 a43 a44 a45 a46 a47 a48 a49 a50 a51 a52 a53 a54 a55 a56 a57 a58 a59 a60 a61 a62 a63 a64 a65 a66 a67 a68 a69 a70 a71 a72 a73 a74 a75 a76 a77 a78 a79 a80 a81 a82 a83 a84 : Addr} (X : K.In h) (G : h.Ns mainGlobals mg) (hfa : mg "answers" = some (.ref fa))
  (aC : PySem.W.nsIn K mainGlobals "Group" = some (some (.ref C))) (pg : PySem.W.plainGet K C Str.empty = true) (hd : PySem.W.hasDictIn K C = true) (po : PySem.W.plainOver K C = true) (sa : PySem.W.findIn K (.ref C) "__setattr__" = some (some (.builtin "object.__setattr__"))) (mk : PySem.W.makesIn K C = true) (kc : PySem.W.keepIn K (.ref C) = true)
  (n0 : PySem.W.findIn K (.ref C) "begun" = some none) (n1 : PySem.W.findIn K (.ref C) "width" = some none) (n2 : PySem.W.findIn K (.ref C) "face" = some none) (n3 : PySem.W.findIn K (.ref C) "steps" = some none) (n4 : PySem.W.findIn K (.ref C) "heights" = some none) (n5 : PySem.W.findIn K (.ref C) "spots" = some none) (n6 : PySem.W.findIn K (.ref C) "pairs" = some none)
  (b0 : PySem.W.nsIn K mainGlobals "len" = some none) (b1 : PySem.W.nsIn K mainGlobals "range" = some none) (b2 : PySem.W.nsIn K mainGlobals "all" = some none) (b3 : PySem.W.nsIn K mainGlobals "sorted" = some none) (b4 : PySem.W.nsIn K mainGlobals "min" = some none) (b5 : PySem.W.nsIn K mainGlobals "max" = some none) (b6 : PySem.W.nsIn K mainGlobals "abs" = some none) (b7 : PySem.W.nsIn K mainGlobals "int" = some none) (b8 : PySem.W.nsIn K mainGlobals "list" = some none)
  (c0 : IntIs K "NONE_SUCH" (-2)) (c1 : IntIs K "NOT_PLACED" (-6)) (c2 : IntIs K "NOT_TOLD" (-6)) (c3 : IntIs K "NOT_BEGUN" (-11)) (c4 : IntIs K "IMPOSSIBLE" (-16)) (c5 : IntIs K "SO_ALREADY" (-17)) (c6 : IntIs K "OUT_OF_RANGE" (-22)) (c7 : IntIs K "TOO_MANY" (-28)) (c8 : IntIs K "NO_ORDER" (-33)) (c9 : IntIs K "MOST_PEOPLE" (20)) (c10 : IntIs K "BEGIN" (0)) (c11 : IntIs K "NOBODY_IN_FRONT" (-33)) (c12 : IntIs K "NO_GOOD_PLACE" (-33)) (c13 : IntIs K "NEAR" (1)) (c14 : IntIs K "APART" (2))
  (h0 : MtIs K C "__init__" "Group.__init__" (cls 0) a0)
  (h1 : MtIs K C "begin" "Group.begin" (cls 1) a1)
  (h2 : MtIs K C "add_person" "Group.add_person" (cls 2) a2)
  (h3 : MtIs K C "has_person" "Group.has_person" (cls 3) a3)
  (h4 : MtIs K C "has_row" "Group.has_row" (cls 4) a4)
  (h5 : MtIs K C "has_column" "Group.has_column" (cls 5) a5)
  (h6 : MtIs K C "is_placed" "Group.is_placed" (cls 6) a6)
  (h7 : MtIs K C "placed_people" "Group.placed_people" (cls 7) a7)
  (h8 : MtIs K C "place" "Group.place" (cls 8) a8)
  (h9 : MtIs K C "take_off" "Group.take_off" (cls 9) a9)
  (h10 : MtIs K C "change_places" "Group.change_places" (cls 10) a10)
  (h11 : MtIs K C "person_at" "Group.person_at" (cls 11) a11)
  (h12 : MtIs K C "column_people" "Group.column_people" (cls 12) a12)
  (h13 : MtIs K C "row_people" "Group.row_people" (cls 13) a13)
  (h14 : FnIs K "are_beside" "are_beside" (top 6) a14)
  (h15 : FnIs K "are_right_behind" "are_right_behind" (top 7) a15)
  (h16 : FnIs K "are_touching" "are_touching" (top 8) a16)
  (h17 : MtIs K C "people_around" "Group.people_around" (cls 14) a17)
  (h18 : MtIs K C "head" "Group.head" (cls 15) a18)
  (h19 : FnIs K "comes_too_high" "comes_too_high" (top 4) a19)
  (h20 : MtIs K C "people_in_front" "Group.people_in_front" (cls 16) a20)
  (h21 : MtIs K C "hiders" "Group.hiders" (cls 17) a21)
  (h22 : MtIs K C "is_seen" "Group.is_seen" (cls 18) a22)
  (h23 : MtIs K C "hidden_people" "Group.hidden_people" (cls 19) a23)
  (h24 : MtIs K C "everybody_is_seen" "Group.everybody_is_seen" (cls 20) a24)
  (h25 : FnIs K "pair_of" "pair_of" (top 5) a25)
  (h26 : MtIs K C "told_of" "Group.told_of" (cls 21) a26)
  (h27 : MtIs K C "tell" "Group.tell" (cls 22) a27)
  (h28 : MtIs K C "forget" "Group.forget" (cls 23) a28)
  (h29 : MtIs K C "pairs_told" "Group.pairs_told" (cls 24) a29)
  (h30 : MtIs K C "is_met" "Group.is_met" (cls 26) a30)
  (h31 : MtIs K C "pairs_met" "Group.pairs_met" (cls 25) a31)
  (h32 : MtIs K C "stand_so" "Group.stand_so" (cls 27) a32)
  (h33 : FnIs K "longer_by_one" "longer_by_one" (top 11) a33)
  (h34 : FnIs K "orders_of" "orders_of" (top 10) a34)
  (h35 : FnIs K "count_moved" "count_moved" (top 12) a35)
  (h36 : FnIsC K "fewest_moved" "fewest_moved" (top 13) a36 c_1 tb1)
  (h37 : MtIs K C "would_be_seen" "Group.would_be_seen" (cls 29) a37)
  (h38 : MtIs K C "seen_order" "Group.seen_order" (cls 28) a38)
  (h39 : FnIs K "rises_and_falls" "rises_and_falls" (top 9) a39)
  (h40 : MtIs K C "is_hill" "Group.is_hill" (cls 30) a40)
  (h41 : MtIs K C "hill_order" "Group.hill_order" (cls 31) a41)
  (h42 : MtIs K C "joints" "Group.joints" (cls 32) a42)
  (h43 : MtIs K C "near_beside" "Group.near_beside" (cls 33) a43)
  (h44 : MtIsC K C "near_order" "Group.near_order" (cls 34) a44 c_2 tb2)
  (h45 : MtIs K C "places" "Group.places" (cls 35) a45)
  (h46 : MtIs K C "free_places" "Group.free_places" (cls 36) a46)
  (h47 : MtIs K C "is_seen_without" "Group.is_seen_without" (cls 39) a47)
  (h48 : MtIs K C "would_be_good" "Group.would_be_good" (cls 38) a48)
  (h49 : MtIs K C "good_place" "Group.good_place" (cls 37) a49)
  (h50 : FnIs K "is_within" "is_within" (top 29) a50)
  (h51 : FnIs K "refuse_person" "refuse_person" (top 30) a51)
  (h52 : FnIs K "refuse_pair" "refuse_pair" (top 31) a52)
  (h53 : FnIs K "begin" "begin" (top 32) a53)
  (h54 : FnIs K "person" "person" (top 33) a54)
  (h55 : FnIs K "put" "put" (top 34) a55)
  (h56 : FnIs K "off" "off" (top 35) a56)
  (h57 : FnIs K "swap" "swap" (top 36) a57)
  (h58 : FnIs K "tell_pair" "tell_pair" (top 37) a58)
  (h59 : FnIs K "wish" "wish" (top 38) a59)
  (h60 : FnIs K "apart" "apart" (top 39) a60)
  (h61 : FnIs K "forget" "forget" (top 40) a61)
  (h62 : FnIs K "seen" "seen" (top 41) a62)
  (h63 : FnIs K "hidden" "hidden" (top 42) a63)
  (h64 : FnIs K "hides" "hides" (top 43) a64)
  (h65 : FnIs K "everybody" "everybody" (top 44) a65)
  (h66 : FnIs K "met" "met" (top 45) a66)
  (h67 : FnIs K "column" "column" (top 46) a67)
  (h68 : FnIs K "mend" "mend" (top 47) a68)
  (h69 : FnIs K "row" "row" (top 48) a69)
  (h70 : FnIs K "hill" "hill" (top 49) a70)
  (h71 : FnIs K "shape" "shape" (top 50) a71)
  (h72 : FnIs K "form" "form" (top 51) a72)
  (h73 : FnIs K "please" "please" (top 52) a73)
  (h74 : FnIs K "seat" "seat" (top 53) a74)
  (h75 : FnIs K "beside" "beside" (top 54) a75)
  (h76 : FnIs K "spare" "spare" (top 55) a76)
  (h77 : FnIs K "free" "free" (top 56) a77)
  (h78 : FnIs K "good" "good" (top 57) a78)
  (h79 : FnIs K "look" "look" (top 58) a79)
  (h80 : FnIs K "sums" "sums" (top 59) a80)
  (h81 : FnIs K "state" "state" (top 60) a81)
  (h82 : FnIs K "end_of_call" "end_of_call" (top 62) a82)
  (h83 : FnIs K "answer_call" "answer_call" (top 63) a83)
  (h84 : FnIs K "answers" "answers" (top 64) a84)
  (tC : TupIs K "CALLS" (([a53, a54, a55, a56, a57, a59, a60, a61, a62, a63, a64, a65, a66, a67, a68, a69, a70, a71, a72, a73, a74, a75, a76, a77, a78, a79, a80, a81] : List Addr).map V.ref)) (tN : TupIs K "ARGUMENT_COUNTS" (nVs counts)) :
  ∃ fd : FuncData, (∀ (s : Shared) (us : List Value), us.length = (["calls"] : List Str).length -> BindsTo s fd ⟨us, []⟩ ((["calls"] : List Str).zip us)) /\ ∀ base : Heap, K.In base -> base.Ns mainGlobals mg -> BM mg base -> FnOk P w K mg base CX0 14 fa fd ["calls"] (spAnswers K 28) := by
 have e := hfa.symm.trans (PySem.W.mg_of X G h84.1)
 cases e
 have int : ∀ {x : Str} {i : Int}, IntIs K x i -> ∃ t, mg x = some (.int i t) := fun ⟨t, a⟩ => ⟨t, PySem.W.mg_of X G a⟩
 have T : Tx K mg C := ⟨⟨pg, hd, po, sa⟩, n0, n1, n2, n3, n4, n5, n6, PySem.W.mg_none_of X G b0, PySem.W.mg_none_of X G b1, PySem.W.mg_none_of X G b2, PySem.W.mg_none_of X G b3, PySem.W.mg_none_of X G b4, PySem.W.mg_none_of X G b5, PySem.W.mg_none_of X G b6, PySem.W.mg_none_of X G b7, PySem.W.mg_none_of X G b8, int c13, int c14⟩
 have c : Tc mg := ⟨int c0, int c1, int c2, int c3, int c4, int c5, int c6, int c7, int c8, int c9, int c10⟩
 obtain ⟨aC1, hC1, sC1⟩ := tC
 obtain ⟨aN1, hN1, sN1⟩ := tN
 obtain ⟨qa, fd, FA⟩ := h84
 obtain ⟨oc, od, kV, doc, pm, an, cdv, ct, osl, rfl, lk, hcd⟩ := id FA.ex
 refine ⟨PySem.W.fnOf "answers" "answers" (defArgs (top 64)) (defBody (top 64)) (defScope (top 64)) .none kV doc pm an cdv ct, fun s us hu => match us, hu with | [_], _ => .of_eq rfl, fun base kb nb hBM => ?_⟩
 have e : Ev P w K mg base h := ⟨X, G⟩
 have F1 := mkM e h1 fun F => ok_mbegin F T
 have F2 := mkM e h2 fun F => ok_add F T
 have F3 := mkM e h3 fun F => ok_has F T
 have F4 := mkM e h4 fun F => ok_hasRow F T
 have F5 := mkM e h5 fun F => ok_hasCol F T
 have F6 := mkM e h6 fun F => ok_placed F T
 have F7 := mkM e h7 fun F => ok_placedP F T F6
 have F8 := mkM e h8 fun F => ok_place F T
 have F9 := mkM e h9 fun F => ok_off F T
 have F10 := mkM e h10 fun F => ok_swap F T
 have F11 := mkM e h11 fun F => ok_personAt F T
 have F12 := mkM e h12 fun F => ok_col F T F11
 have F13 := mkM e h13 fun F => ok_row F T F11
 have F14 := mkF e h14 fun F => ok_beside F T
 have F15 := mkF e h15 fun F => ok_behind F T
 have F16 := mkF e h16 fun F => ok_touch F F14 F15
 have F17 := mkM e h17 fun F => ok_around F T F7 F16
 have F18 := mkM e h18 fun F => ok_head F T
 have F19 := mkF e h19 fun F => ok_high F
 have F20 := mkM e h20 fun F => ok_front F T F12
 have F21 := mkM e h21 fun F => ok_hiders F T F18 F20 F19
 have F22 := mkM e h22 fun F => ok_seen F T F6 F21
 have F23 := mkM e h23 fun F => ok_hidden F T F7 F22
 have F24 := mkM e h24 fun F => ok_every F T F22
 have F25 := mkF e h25 fun F => ok_pair F T
 have F26 := mkM e h26 fun F => ok_toldOf F T F25
 have F27 := mkM e h27 fun F => ok_tell F T F25
 have F28 := mkM e h28 fun F => ok_forget F T F25
 have F29 := mkM e h29 fun F => ok_told F T
 have F30 := mkM e h30 fun F => ok_met F T F14 F16
 have F31 := mkM e h31 fun F => ok_pmet F T F29 F30
 have F32 := mkM e h32 fun F => ok_standSo F T
 have F33 := mkF e h33 fun F => ok_longer F
 have F34 := mkF e h34 fun F => ok_orders F T F33
 have F35 := mkF e h35 fun F => ok_moved F T
 have F36 := mkFC e h36 (fun F => ok_fewest F T hBM F35) fun _ _ _ _ _ _ us hl => match us, hl with | [_, _], _ => rfl
 have F37 := mkM e h37 fun F => ok_would F T F19
 have F38 := mkM e h38 fun F => ok_seenOrder F T F34 F37 F36
 have F39 := mkF e h39 fun F => ok_rises F T
 have F40 := mkM e h40 fun F => ok_isHill F T F39
 have F41 := mkM e h41 fun F => ok_hillOrder F T F34 F40 F36
 have F42 := mkM e h42 fun F => ok_joints F T F14
 have F43 := mkM e h43 fun F => ok_nearB F T F26
 have F44 := mkMC e h44 (fun F => ok_nearOrder F T hBM F42 F34 F43) fun _ _ _ _ _ _ us hl => match us, hl with | [_, _], _ => rfl
 have F45 := mkM e h45 fun F => ok_places F T
 have F46 := mkM e h46 fun F => ok_freeP F T F45
 have F47 := mkM e h47 fun F => ok_without F T F21
 have F48 := mkM e h48 fun F => ok_good1 F T F12 F18 F19 F47
 have F49 := mkM e h49 fun F => ok_goodP F T F45 F48
 have F50 := mkF e h50 fun F => ok_within F
 have F51 := mkF e h51 fun F => ok_refP F T c F3 F6
 have F52 := mkF e h52 fun F => ok_refQ F T c F3
 have F53 := mkF e h53 fun F => ok_cbegin F T c F50 F1
 have F54 := mkF e h54 fun F => ok_cperson F T c F50 F2
 have F55 := mkF e h55 fun F => ok_cput F T c F3 F4 F5 F11 F8 F22
 have F56 := mkF e h56 fun F => ok_coff F T F51 F9
 have F57 := mkF e h57 fun F => ok_cswap F T c F52 F6 F10
 have F58 := mkF e h58 fun F => ok_ctell F T c F52 F26 F27 F29
 have F59 := mkF e h59 fun F => ok_cwish F T F58
 have F60 := mkF e h60 fun F => ok_capart F T F58
 have F61 := mkF e h61 fun F => ok_cforget F T c F52 F26 F28
 have F62 := mkF e h62 fun F => ok_cseen F T F51 F22
 have F63 := mkF e h63 fun F => ok_chidden F T F23
 have F64 := mkF e h64 fun F => ok_chides F T F51 F21
 have F65 := mkF e h65 fun F => ok_call F T F24
 have F66 := mkF e h66 fun F => ok_cmet F T F31 F29
 have F67 := mkF e h67 fun F => ok_ccol F T c F5 F12 F38 F35
 have F68 := mkF e h68 fun F => ok_cmend F T F67 F12 F32
 have F69 := mkF e h69 fun F => ok_crow F T c F4 F11 F13
 have F70 := mkF e h70 fun F => ok_chill F T c F4 F13 F40
 have F71 := mkF e h71 fun F => ok_cshape F T c F4 F13 F41 F35
 have F72 := mkF e h72 fun F => ok_cform F T F71 F13 F32
 have F73 := mkF e h73 fun F => ok_cplease F T c F4 F13 F44 F43 F42
 have F74 := mkF e h74 fun F => ok_cseat F T F73 F13 F32 F35
 have F75 := mkF e h75 fun F => ok_cbeside F T F51 F17
 have F76 := mkF e h76 fun F => ok_cspare F T (int c11) F51 F18 F20
 have F77 := mkF e h77 fun F => ok_cfree F T F46
 have F78 := mkF e h78 fun F => ok_cgood F T c (int c12) F3 F49
 have F79 := mkF e h79 fun F => ok_clook F T c F3 F6
 have F80 := mkF e h80 fun F => ok_csums F T F7 F23 F29
 have F81 := mkF e h81 fun F => ok_cstate F T
 have tab : Tab P w K mg base C [a53, a54, a55, a56, a57, a59, a60, a61, a62, a63, a64, a65, a66, a67, a68, a69, a70, a71, a72, a73, a74, a75, a76, a77, a78, a79, a80, a81] := by
  refine ⟨⟨aC1, PySem.W.mg_of X G hC1, sC1⟩, fun k f hk => ?_⟩
  match k, hk with
  | 0, hk => cases hk; exact mkA e h53 F53
  | 1, hk => cases hk; exact mkA e h54 F54
  | 2, hk => cases hk; exact mkA e h55 F55
  | 3, hk => cases hk; exact mkA e h56 F56
  | 4, hk => cases hk; exact mkA e h57 F57
  | 5, hk => cases hk; exact mkA e h59 F59
  | 6, hk => cases hk; exact mkA e h60 F60
  | 7, hk => cases hk; exact mkA e h61 F61
  | 8, hk => cases hk; exact mkA e h62 F62
  | 9, hk => cases hk; exact mkA e h63 F63
  | 10, hk => cases hk; exact mkA e h64 F64
  | 11, hk => cases hk; exact mkA e h65 F65
  | 12, hk => cases hk; exact mkA e h66 F66
  | 13, hk => cases hk; exact mkA' e h67 F67 imp_col
  | 14, hk => cases hk; exact mkA e h68 F68
  | 15, hk => cases hk; exact mkA e h69 F69
  | 16, hk => cases hk; exact mkA e h70 F70
  | 17, hk => cases hk; exact mkA' e h71 F71 imp_shape
  | 18, hk => cases hk; exact mkA e h72 F72
  | 19, hk => cases hk; exact mkA' e h73 F73 imp_please
  | 20, hk => cases hk; exact mkA e h74 F74
  | 21, hk => cases hk; exact mkA e h75 F75
  | 22, hk => cases hk; exact mkA e h76 F76
  | 23, hk => cases hk; exact mkA e h77 F77
  | 24, hk => cases hk; exact mkA e h78 F78
  | 25, hk => cases hk; exact mkA e h79 F79
  | 26, hk => cases hk; exact mkA e h80 F80
  | 27, hk => cases hk; exact mkA e h81 F81
 have Fe := mkF e h82 fun F => ok_end F c ⟨aN1, PySem.W.mg_of X G hN1, sN1⟩
 have Fa := mkF e h83 fun F => ok_ansCall F T c tab
 obtain ⟨ai, di, Fi⟩ := h0
 exact ok_answers FA T (PySem.W.mg_of X G aC) ⟨mk, ai.1, ai.2, kc⟩ (ok_init Fi T) (Fi.binds (ps := ["self"]) fun _ _ _ _ _ _ us hl => match us, hl with | [_], _ => rfl) Fe Fa
end
end
end Sr
namespace PySem.W.Fast
def tw12940434644864339258 := 0
def tw1543672210703253869 := 0
def tw17602566299435934634 := 0
def tw15659285653947495021 := 0
def tw498403625128280872 := 0
def tw5827072532144980875 := 0
def tw3747786173813037272 := 0
def tw3301645958321012496 := 0
def tw13744703090523072135 := 0
def tw15849097607214359491 := 0
def tw13468443241503911137 := 0
def tw13596124116895015345 := 0
def tw2960117520666730910 := 0
def tw5891785641620453628 := 0
def tw1453058216192091652 := 0
def tw16012132834832104014 := 0
def tw4088618620955158513 := 0
def tw12577752279050783593 := 0
def tw8176718655588382499 := 0
def tw12017156480478146779 := 0
def tw10002695242384838076 := 0
def tw14128959955366518980 := 0
def tw3263663323563338000 := 0
def tw3124002002229840827 := 0
def tw17508918974670095513 := 0
def tw1861308245262424280 := 0
def tw16326509150300337515 := 0
def tw1169347458149732099 := 0
def tw11499991091394248910 := 0
def tw15603742318113955776 := 0
def tw9299204446048839229 := 0
def tw10008910322657170926 := 0
def tw11464057014531208644 := 0
def tw15503324281438053213 := 0
def tw3790236660000213721 := 0
def tw11704946329522425875 := 0
def tw8144461921229745567 := 0
def tw11183362798677295835 := 0
def tw10058167313292193961 := 0
def tw17875669951779448462 := 0
def tw10646898332662673940 := 0
def tw1570413779046120339 := 0
end PySem.W.Fast
set_option maxHeartbeats 0 in
open_shared Sr.tops for PySem.Challenge.pw_standrows_s01_answers leaving 0
section
open PySem PySem.W PyProof.Rows
set_option maxRecDepth 100000 in
set_option maxHeartbeats 0 in
theorem Sr.pre : Sr.row0.Holds := by
 w_on; k_headS; (case hw => exact ⟨[.list []], by decide +kernel, by decide +kernel⟩)
 k_fillS
 refine L2.walk_specK (r := Sr.row0) (k := 3) (CX := L2.CX0) (ps := ["calls"]) (sp := fun K => Sr.spAnswers0 K) (by decide +kernel) rfl rfl ⟨rfl, by decide, by decide⟩ (fun w h Y => PySem.W.kIn_of Y) ?F ?S (fun _ _ _ _ z => z)
 case F =>
  intro w mg fa h Y KX G hmg
  refine' Sr.all_mk0 KX G hmg ?aC ?pg ?hd ?po ?sa ?mk ?kc ?n_begun ?n_width ?n_face ?n_steps ?n_heights ?n_spots ?n_pairs ?b_len ?b_range ?b_all ?b_sorted ?b_min ?b_max ?b_abs ?b_int ?b_list (Sr.intIs ?c_NEAR) (Sr.intIs ?c_APART) (Sr.fnIs ?a_e ?l_e ?d_e ?k_e) (Sr.fnIs ?a_c ?l_c ?d_c ?k_c) (Sr.mtIs ?a_i ?i_i ?l_i ?z_i ?k_i) (Sr.fnIs ?a_s ?l_s ?d_s ?k_s)
  (case aC => k_is)
  (case pg => k_is)
  (case hd => k_is)
  (case po => k_is)
  (case sa => k_is)
  (case mk => k_is)
  (case kc => k_is)
  (case n_begun => k_is)
  (case n_width => k_is)
  (case n_face => k_is)
  (case n_steps => k_is)
  (case n_heights => k_is)
  (case n_spots => k_is)
  (case n_pairs => k_is)
  (case b_len => k_is)
  (case b_range => k_is)
  (case b_all => k_is)
  (case b_sorted => k_is)
  (case b_min => k_is)
  (case b_max => k_is)
  (case b_abs => k_is)
  (case b_int => k_is)
  (case b_list => k_is)
  (case c_NEAR => k_is)
  (case c_APART => k_is)
  (case a_e => k_is)
  (case l_e => k_is)
  (case d_e => k_is)
  (case k_e => k_is)
  (case a_c => k_is)
  (case l_c => k_is)
  (case d_c => k_is)
  (case k_c => k_is)
  (case a_i => k_is)
  (case i_i => k_is)
  (case l_i => k_is)
  (case z_i => k_is)
  (case k_i => k_is)
  (case a_s => k_is)
  (case l_s => k_is)
  (case d_s => k_is)
  (case k_s => k_is)
 case S =>
  intro K H xs a hO hwi hask hx
  cases hx with
  | cons h1 h2 =>
   cases h2
   cases h1 with
   | lst hs ha =>
    have e := L2.ints_dw a.1 _ ha
    subst e
    have q : (a.1 : List Int).isEmpty = true := hask
    have q : (a.1 : List Int) = [] := List.isEmpty_iff.mp q
    rw [q] at hs
    exact ⟨_, rfl, hs, fun H' p hp => .lst (L2.SqL.of hp) .nil⟩
end
open PySem PySem.W PyProof.Rows
set_option maxRecDepth 100000 in
set_option maxHeartbeats 0 in
theorem PySem.Challenge.cw_standrows_s01_answers_holds : PySem.Challenge.rw_standrows_s01_answers.Holds := by
 w_on; o_headS (kmHook Sr.pre.heap_1 [2, 3, 22, 24, 25, 27, 28, 29, 31, 32, 34, 35, 36, 38, 39, 41, 42, 43, 45, 46, 48, 49, 50, 52, 53, 55, 56, 57, 59, 60, 62, 63, 64, 66, 67, 69, 70, 71, 74, 75, 76, 78, 79, 81, 82, 83, 85, 86, 88, 89, 90, 92, 93, 95, 96, 97, 99, 100, 102, 103, 104, 107, 108, 109, 112, 113, 114, 117, 118, 119, 121, 122, 124, 125, 126, 129, 130, 131, 134, 135, 136, 138, 139, 141, 142, 143, 146, 147, 148, 151, 152, 153, 155, 156, 158, 159, 160, 162, 163, 165, 166, 167, 169, 170, 172, 173, 174, 177, 178, 179, 182, 183, 184, 186, 187, 189, 190, 191, 194, 195, 196, 199, 200, 201, 204, 205, 206, 209, 210, 211, 214, 215, 216, 219, 220, 221, 224, 225, 226, 228, 229, 231, 232, 233, 236, 237, 238, 241, 242, 243, 245, 246, 248, 249, 250, 252, 253, 255, 256, 257, 260, 261, 262, 263, 264, 265, 266, 269, 271, 272, 274, 275, 276, 278, 279, 281, 282, 283, 285, 286, 288, 289, 290, 292, 293, 295, 296, 297, 299, 300, 302, 303, 304, 306, 307, 309, 310, 311, 313, 314, 316, 317, 318, 320, 321, 323, 324, 325, 328, 329, 330, 332, 333, 335, 336, 337, 338, 340, 341, 343, 344, 345, 347, 348, 350, 351, 352, 354, 355, 357, 358, 359, 362, 363, 364, 366, 367, 369, 370, 371, 373, 374, 376, 377, 378, 380, 381, 383, 384, 385, 387, 388, 390, 391, 392, 394, 395, 397, 398, 399, 401, 402, 404, 405, 406, 408, 409, 411, 412, 413, 415, 416, 418, 419, 420, 422, 423, 425, 426, 427, 429, 430, 432, 433, 434, 436, 437, 439, 440, 441, 443, 444, 446, 447, 448, 450, 451, 453, 454, 455, 457, 458, 460, 461, 462, 464, 465, 467, 468, 469, 472, 473, 474, 476, 477, 479, 480, 481, 483, 484, 486, 487, 488, 490, 491, 493, 494, 495, 497, 498, 500, 501, 502, 504, 505, 507, 508, 509, 511, 512, 514, 515, 516, 519, 520, 521, 523, 524, 526, 527, 528, 530, 531, 533, 534, 535, 537, 538, 540, 541, 542, 544, 545, 547, 548, 549, 551, 552, 554, 555, 556, 557, 559, 560, 562, 563, 564, 566, 567, 569, 570, 571, 573, 574, 576, 577] (fun _ => by kernel_rfl) [331, 227]); (case hw => exact ⟨[.list [.int 9]], by decide +kernel, by decide +kernel⟩)
 k_fillS
 refine Sr.walk_specT (r := PySem.Challenge.rw_standrows_s01_answers) (k := 14) (CX := L2.CX0) (ps := ["calls"]) (sp := fun K => Sr.spAnswers K 28) (c1 := 335) (c2 := 231) (by decide +kernel) rfl rfl ⟨rfl, by decide, by decide⟩
  (fun w h Y => ⟨km_in_of Y, fun T t => km_tabs_of Y T (by rcases t with rfl | rfl <;> decide)⟩) (fun _ => by kernel_rfl) (fun _ => by kernel_rfl) (fun _ => by kernel_rfl) ?F ?S (fun _ _ _ _ z => z)
 case F =>
  intro w mg fa h Y KX G hmg
  refine' Sr.all_mk KX G hmg ?_ ?_ ?_ ?_ ?_ ?_ ?_ ?_ ?_ ?_ ?_ ?_ ?_ ?_ ?_ ?_ ?_ ?_ ?_ ?_ ?_ ?_ ?_ (Sr.intIs ?_) (Sr.intIs ?_) (Sr.intIs ?_) (Sr.intIs ?_) (Sr.intIs ?_) (Sr.intIs ?_) (Sr.intIs ?_) (Sr.intIs ?_) (Sr.intIs ?_) (Sr.intIs ?_) (Sr.intIs ?_) (Sr.intIs ?_) (Sr.intIs ?_) (Sr.intIs ?_) (Sr.intIs ?_) (Sr.mtIs ?_ ?_ ?_ ?_ ?_) (Sr.mtIs ?_ ?_ ?_ ?_ ?_) (Sr.mtIs ?_ ?_ ?_ ?_ ?_) (Sr.mtIs ?_ ?_ ?_ ?_ ?_) (Sr.mtIs ?_ ?_ ?_ ?_ ?_) (Sr.mtIs ?_ ?_ ?_ ?_ ?_) (Sr.mtIs ?_ ?_ ?_ ?_ ?_) (Sr.mtIs ?_ ?_ ?_ ?_ ?_) (Sr.mtIs ?_ ?_ ?_ ?_ ?_) (Sr.mtIs ?_ ?_ ?_ ?_ ?_) (Sr.mtIs ?_ ?_ ?_ ?_ ?_) (Sr.mtIs ?_ ?_ ?_ ?_ ?_) (Sr.mtIs ?_ ?_ ?_ ?_ ?_) (Sr.mtIs ?_ ?_ ?_ ?_ ?_) (Sr.fnIs ?_ ?_ ?_ ?_) (Sr.fnIs ?_ ?_ ?_ ?_) (Sr.fnIs ?_ ?_ ?_ ?_) (Sr.mtIs ?_ ?_ ?_ ?_ ?_) (Sr.mtIs ?_ ?_ ?_ ?_ ?_) (Sr.fnIs ?_ ?_ ?_ ?_) (Sr.mtIs ?_ ?_ ?_ ?_ ?_) (Sr.mtIs ?_ ?_ ?_ ?_ ?_) (Sr.mtIs ?_ ?_ ?_ ?_ ?_) (Sr.mtIs ?_ ?_ ?_ ?_ ?_) (Sr.mtIs ?_ ?_ ?_ ?_ ?_) (Sr.fnIs ?_ ?_ ?_ ?_) (Sr.mtIs ?_ ?_ ?_ ?_ ?_) (Sr.mtIs ?_ ?_ ?_ ?_ ?_) (Sr.mtIs ?_ ?_ ?_ ?_ ?_) (Sr.mtIs ?_ ?_ ?_ ?_ ?_) (Sr.mtIs ?_ ?_ ?_ ?_ ?_) (Sr.mtIs ?_ ?_ ?_ ?_ ?_) (Sr.mtIs ?_ ?_ ?_ ?_ ?_) (Sr.fnIs ?_ ?_ ?_ ?_) (Sr.fnIs ?_ ?_ ?_ ?_) (Sr.fnIs ?_ ?_ ?_ ?_) (Sr.fnIsC ?_ ?_ ?_ ?_ ?_) (Sr.mtIs ?_ ?_ ?_ ?_ ?_) (Sr.mtIs ?_ ?_ ?_ ?_ ?_) (Sr.fnIs ?_ ?_ ?_ ?_) (Sr.mtIs ?_ ?_ ?_ ?_ ?_) (Sr.mtIs ?_ ?_ ?_ ?_ ?_) (Sr.mtIs ?_ ?_ ?_ ?_ ?_) (Sr.mtIs ?_ ?_ ?_ ?_ ?_) (Sr.mtIsC ?_ ?_ ?_ ?_ ?_ ?_) (Sr.mtIs ?_ ?_ ?_ ?_ ?_) (Sr.mtIs ?_ ?_ ?_ ?_ ?_) (Sr.mtIs ?_ ?_ ?_ ?_ ?_) (Sr.mtIs ?_ ?_ ?_ ?_ ?_) (Sr.mtIs ?_ ?_ ?_ ?_ ?_) (Sr.fnIs ?_ ?_ ?_ ?_) (Sr.fnIs ?_ ?_ ?_ ?_) (Sr.fnIs ?_ ?_ ?_ ?_) (Sr.fnIs ?_ ?_ ?_ ?_) (Sr.fnIs ?_ ?_ ?_ ?_) (Sr.fnIs ?_ ?_ ?_ ?_) (Sr.fnIs ?_ ?_ ?_ ?_) (Sr.fnIs ?_ ?_ ?_ ?_) (Sr.fnIs ?_ ?_ ?_ ?_) (Sr.fnIs ?_ ?_ ?_ ?_) (Sr.fnIs ?_ ?_ ?_ ?_) (Sr.fnIs ?_ ?_ ?_ ?_) (Sr.fnIs ?_ ?_ ?_ ?_) (Sr.fnIs ?_ ?_ ?_ ?_) (Sr.fnIs ?_ ?_ ?_ ?_) (Sr.fnIs ?_ ?_ ?_ ?_) (Sr.fnIs ?_ ?_ ?_ ?_) (Sr.fnIs ?_ ?_ ?_ ?_) (Sr.fnIs ?_ ?_ ?_ ?_) (Sr.fnIs ?_ ?_ ?_ ?_) (Sr.fnIs ?_ ?_ ?_ ?_) (Sr.fnIs ?_ ?_ ?_ ?_) (Sr.fnIs ?_ ?_ ?_ ?_) (Sr.fnIs ?_ ?_ ?_ ?_) (Sr.fnIs ?_ ?_ ?_ ?_) (Sr.fnIs ?_ ?_ ?_ ?_) (Sr.fnIs ?_ ?_ ?_ ?_) (Sr.fnIs ?_ ?_ ?_ ?_) (Sr.fnIs ?_ ?_ ?_ ?_) (Sr.fnIs ?_ ?_ ?_ ?_) (Sr.fnIs ?_ ?_ ?_ ?_) (Sr.fnIs ?_ ?_ ?_ ?_) (Sr.fnIs ?_ ?_ ?_ ?_) (Sr.fnIs ?_ ?_ ?_ ?_) (Sr.fnIs ?_ ?_ ?_ ?_) (Sr.refsIs ?_ ?_ ?_ ?_) (Sr.numsIs ?_ ?_ ?_ ?_)
  iterate 3 all_goals try first | k_is | kernel_rfl | rfl | decide
 case S =>
  intro K H0 H xs a hsm hTb hwi hask hx
  cases hx with
  | cons h1 h2 =>
   cases h2
   cases h1 with
   | lst hs ha =>
    have e := L2.ints_dw a.1 _ ha
    subst e
    have q : ((Codec.inLen 0 4800 a.1 && a.1.all (Codec.inInt 0 4294967295)) && true) = true := hwi
    rw [Bool.and_eq_true, Bool.and_eq_true] at q
    obtain ⟨ys, e1, e2, e3, e4⟩ := Sr.asked_calls hask
    have e1 : a.1 = ys.flatMap Sr.flatOf := e1
    have e3 : PySu57.answers a.1 = Sr.tellAll none ys := e3
    rw [e1] at hs
    refine ⟨_, ys, rfl, hTb, L2.Same.seq hsm hs, ?_, fun x _ => Sr.callNo_lt x, e4, fun H' p hp => ?_⟩
    ·rw [<- e1]
     exact (Codec.inNat_iff.mp q.1.1).2
    ·rw [<- e3] at hp
     exact .lst (L2.SqL.of hp) (L2.dw_ints _)
