import PyProof.Rows.All
import Wide.All
import OpenK.AllK
import Wide.FinOn
import Open.SpecLaws
import KE.OsGo
import HandS.ForSpec
import HandS.Comp
import HandS.Iter
import PyFlatLaws
import PySem.Challenge.RW_shapedpays_s01_answers
set_option Elab.async false
namespace SP
open Kp340 Kp346
/-! fractions: what the specification's fr is -/
theorem gpos {a b : Int} (hb : 0 < b) : 0 < Nat.gcd a.natAbs b.natAbs := Nat.gcd_pos_of_pos_right _ (by omega)
theorem fr_eqn {a b : Int} (hb : 0 < b) : fr a b = (a / (Nat.gcd a.natAbs b.natAbs : Nat), b / (Nat.gcd a.natAbs b.natAbs : Nat)) := by
  have h := gpos (a := a) hb
  unfold fr
  simp only []
  rw [if_neg (by omega : ¬ Nat.gcd a.natAbs b.natAbs = 0), if_neg (by omega : ¬ b < 0)]
theorem fr_parts {a b : Int} (hb : 0 < b) : ∃ g : Int, 0 < g ∧ (fr a b).1 * g = a ∧ (fr a b).2 * g = b ∧ 0 < (fr a b).2 ∧ Int.gcd (fr a b).1 (fr a b).2 = 1 := by
  have h := gpos (a := a) hb
  have da : ((Nat.gcd a.natAbs b.natAbs : Nat) : Int) ∣ a := Int.gcd_dvd_left ..
  have db : ((Nat.gcd a.natAbs b.natAbs : Nat) : Int) ∣ b := Int.gcd_dvd_right ..
  rw [fr_eqn hb]
  refine ⟨(Nat.gcd a.natAbs b.natAbs : Nat), by omega, Int.ediv_mul_cancel da, Int.ediv_mul_cancel db, ?_, ?_⟩
  · exact Int.ediv_pos_of_pos_of_dvd hb (by omega) db
  · exact Int.gcd_ediv_gcd_ediv_gcd (by show 0 < Nat.gcd a.natAbs b.natAbs; exact h)
theorem cop_dvd {a b c : Int} (h : a ∣ b * c) (g : Int.gcd b a = 1) : a ∣ c := by
  have h1 : a.natAbs ∣ b.natAbs * c.natAbs := by
    rw [← Int.natAbs_mul]
    exact Int.natAbs_dvd_natAbs.mpr h
  have h2 : Nat.Coprime a.natAbs b.natAbs := by
    show Nat.gcd a.natAbs b.natAbs = 1
    rw [Nat.gcd_comm]
    exact g
  exact Int.natAbs_dvd_natAbs.mp (h2.dvd_of_dvd_mul_left h1)
theorem low_eq {x y : Int × Int} (px : 0 < x.2) (py : 0 < y.2) (cx : Int.gcd x.1 x.2 = 1) (cy : Int.gcd y.1 y.2 = 1) (h : x.1 * y.2 = y.1 * x.2) : x = y := by
  have d1 : x.2 ∣ y.2 := by
    have : x.2 ∣ x.1 * y.2 := ⟨y.1, by rw [h, Int.mul_comm]⟩
    exact cop_dvd this cx
  have d2 : y.2 ∣ x.2 := by
    have : y.2 ∣ y.1 * x.2 := ⟨x.1, by rw [← h, Int.mul_comm]⟩
    exact cop_dvd this cy
  have e2 : x.2 = y.2 := Int.dvd_antisymm (by omega) (by omega) d1 d2
  rw [e2] at h
  have e1 : x.1 = y.1 := Int.eq_of_mul_eq_mul_right (by omega) h
  exact Prod.ext e1 e2
theorem fr_eq {a b c d : Int} (hb : 0 < b) (hd : 0 < d) (h : a * d = c * b) : fr a b = fr c d := by
  obtain ⟨g, pg, e1, e2, p, co⟩ := fr_parts (a := a) hb
  obtain ⟨g', pg', e1', e2', p', co'⟩ := fr_parts (a := c) hd
  refine low_eq p p' co co' ?_
  have : ((fr a b).1 * (fr c d).2) * (g * g') = ((fr c d).1 * (fr a b).2) * (g * g') := by
    have h1 : ((fr a b).1 * (fr c d).2) * (g * g') = ((fr a b).1 * g) * ((fr c d).2 * g') := by grind
    have h2 : ((fr c d).1 * (fr a b).2) * (g * g') = ((fr c d).1 * g') * ((fr a b).2 * g) := by grind
    rw [h1, h2, e1, e2, e1', e2', h]
  exact Int.eq_of_mul_eq_mul_right (by have := Int.mul_pos pg pg'; omega) this
theorem fr_eq_iff {a b c d : Int} (hb : 0 < b) (hd : 0 < d) : fr a b = fr c d ↔ a * d = c * b := by
  refine ⟨fun h => ?_, fr_eq hb hd⟩
  obtain ⟨g, pg, e1, e2, p, co⟩ := fr_parts (a := a) hb
  obtain ⟨g', pg', e1', e2', p', co'⟩ := fr_parts (a := c) hd
  rw [← h] at e1' e2'
  rw [← e1, ← e2, ← e1', ← e2']
  grind
/-- the fraction x is u by v -/
structure Is (x : Fr) (u v : Int) : Prop where
  pos : 0 < v
  eq : x = fr u v
theorem Is.x2 {x : Fr} {u v : Int} (h : Is x u v) : 0 < x.2 := by
  obtain ⟨g, pg, e1, e2, p, co⟩ := fr_parts (a := u) h.pos
  rw [h.eq]
  exact p
/-- x itself by its numbers -/
theorem Is.cross {x : Fr} {u v : Int} (h : Is x u v) : x.1 * v = u * x.2 := by
  obtain ⟨g, pg, e1, e2, p, co⟩ := fr_parts (a := u) h.pos
  rw [h.eq]
  have : (fr u v).1 * v * g = u * (fr u v).2 * g := by
    have h1 : (fr u v).1 * v * g = ((fr u v).1 * g) * v := by grind
    have h2 : u * (fr u v).2 * g = u * ((fr u v).2 * g) := by grind
    rw [h1, h2, e1, e2]
  exact Int.eq_of_mul_eq_mul_right (by omega) this
theorem Is.to {x : Fr} {u v u' v' : Int} (h : Is x u v) (hv : 0 < v') (e : u * v' = u' * v) : Is x u' v' := ⟨hv, by rw [h.eq]; exact fr_eq h.pos hv e⟩
theorem Is.eq_iff {x y : Fr} {u v u' v' : Int} (h : Is x u v) (h' : Is y u' v') : x = y ↔ u * v' = u' * v := by
  rw [h.eq, h'.eq]
  exact fr_eq_iff h.pos h'.pos
theorem is_fr {u v : Int} (h : 0 < v) : Is (fr u v) u v := ⟨h, rfl⟩
theorem is_int (a : Int) : Is (ofInt a) a 1 := ⟨by decide, by
  rw [fr_eqn (by decide)]
  simp [ofInt]⟩
theorem is_zero : Is (0, 1) 0 1 := is_int 0
theorem is_one : Is (1, 1) 1 1 := is_int 1
theorem Is.add {x y : Fr} {u v u' v' : Int} (h : Is x u v) (h' : Is y u' v') : Is (add x y) (u * v' + u' * v) (v * v') := by
  have p := Int.mul_pos h.pos h'.pos
  refine ⟨p, ?_⟩
  refine fr_eq (Int.mul_pos h.x2 h'.x2) p ?_
  have c := h.cross
  have c' := h'.cross
  grind
theorem Is.mul {x y : Fr} {u v u' v' : Int} (h : Is x u v) (h' : Is y u' v') : Is (mul x y) (u * u') (v * v') := by
  have p := Int.mul_pos h.pos h'.pos
  refine ⟨p, ?_⟩
  refine fr_eq (Int.mul_pos h.x2 h'.x2) p ?_
  have c := h.cross
  have c' := h'.cross
  grind
theorem Is.neg {x : Fr} {u v : Int} (h : Is x u v) : Is (neg x) (-u) v := by
  refine ⟨h.pos, ?_⟩
  have hp := h.pos
  rw [h.eq]
  show ((-(fr u v).1, (fr u v).2) : Fr) = fr (-u) v
  obtain ⟨g, pg, e1, e2, p, co⟩ := fr_parts (a := u) hp
  obtain ⟨g', pg', e1', e2', p', co'⟩ := fr_parts (a := -u) hp
  refine low_eq p p' ?_ co' ?_
  · show Int.gcd (-(fr u v).1) (fr u v).2 = 1
    rw [Int.neg_gcd]
    exact co
  · show -(fr u v).1 * (fr (-u) v).2 = (fr (-u) v).1 * (fr u v).2
    have c := (is_fr (u := u) hp).cross
    have c' := (is_fr (u := -u) hp).cross
    have : (-(fr u v).1 * (fr (-u) v).2) * v = ((fr (-u) v).1 * (fr u v).2) * v := by grind
    exact Int.eq_of_mul_eq_mul_right (by omega) this
theorem Is.sub {x y : Fr} {u v u' v' : Int} (h : Is x u v) (h' : Is y u' v') : Is (sub x y) (u * v' - u' * v) (v * v') := by
  have := h.add h'.neg
  have e : u * v' + -u' * v = u * v' - u' * v := by grind
  rw [e] at this
  exact this
theorem Is.zero_iff {x : Fr} {u v : Int} (h : Is x u v) : x = (0, 1) ↔ u = 0 := by
  rw [h.eq_iff is_zero]
  constructor
  · intro e; omega
  · intro e; rw [e]; omega
theorem Is.num_zero {x : Fr} {u v : Int} (h : Is x u v) : x.1 = 0 ↔ u = 0 := by
  have c := h.cross
  have p := h.pos
  have p2 := h.x2
  constructor
  · intro e
    rw [e, Int.zero_mul] at c
    rcases Int.mul_eq_zero.mp c.symm with h | h
    · exact h
    · omega
  · intro e
    rw [e, Int.zero_mul] at c
    rcases Int.mul_eq_zero.mp c with h | h
    · exact h
    · omega
theorem Is.num_pos {x : Fr} {u v : Int} (h : Is x u v) : 0 < x.1 ↔ 0 < u := by
  have c := h.cross
  have p := h.pos
  have p2 := h.x2
  constructor
  · intro e
    have : 0 < u * x.2 := by rw [← c]; exact Int.mul_pos e p
    exact Int.pos_of_mul_pos_left this p2
  · intro e
    have : 0 < x.1 * v := by rw [c]; exact Int.mul_pos e p2
    exact Int.pos_of_mul_pos_left this p
theorem Is.lt_iff {x y : Fr} {u v u' v' : Int} (h : Is x u v) (h' : Is y u' v') : ltF x y = true ↔ u * v' < u' * v := by
  unfold ltF
  rw [decide_eq_true_eq]
  have c := h.cross
  have c' := h'.cross
  have p := h.pos
  have p' := h'.pos
  have q := h.x2
  have q' := h'.x2
  have e1 : (x.1 * y.2) * (v * v') = (u * v') * (x.2 * y.2) := by grind
  have e2 : (y.1 * x.2) * (v * v') = (u' * v) * (x.2 * y.2) := by grind
  have pv := Int.mul_pos p p'
  have pq := Int.mul_pos q q'
  constructor
  · intro e
    have := Int.mul_lt_mul_of_pos_right e pv
    rw [e1, e2] at this
    exact Int.lt_of_mul_lt_mul_right this (by omega)
  · intro e
    have := Int.mul_lt_mul_of_pos_right e pq
    rw [← e1, ← e2] at this
    exact Int.lt_of_mul_lt_mul_right this (by omega)
end SP

set_option Elab.async false
namespace SP
open Kp340 Kp346
/-- a desk as the calls make it -/
structure Ok (d : Kp388.Desk) : Prop where
  n1 : 2 ≤ d.n
  n2 : d.n ≤ 4
  m1 : 1 ≤ d.m
  m2 : d.m ≤ 3
  g1 : 1 ≤ d.g
  g2 : d.g < d.h
  h2 : d.h ≤ 10
  la : d.a.length = d.n * d.m * d.n
  lb : d.b.length = d.n * d.m * d.n
  ba : ∀ x ∈ d.a, -100000 ≤ x ∧ x ≤ 100000
  bb : ∀ x ∈ d.b, -100000 ≤ x ∧ x ≤ 100000
def trip (n m : Nat) : List (Nat × Nat × Nat) := (List.range n).flatMap fun s => (List.range m).flatMap fun x => (List.range n).map fun q => (s, x, q)
theorem triples_eq (d : Kp388.Desk) : Kp388.triples d = trip d.n d.m := rfl
set_option synthInstance.maxSize 2000 in
set_option synthInstance.maxHeartbeats 200000 in
theorem trip_all : ∀ n ≤ 4, ∀ m ≤ 3, ∀ s < n, ∀ x < m, ∀ q < n, (trip n m)[(s * m + x) * n + q]? = some (s, x, q) := by decide +kernel
theorem trip_len : ∀ n ≤ 4, ∀ m ≤ 3, (trip n m).length = n * m * n := by decide +kernel
theorem trip_get {n m s x q : Nat} (hn : n ≤ 4) (hm : m ≤ 3) (hs : s < n) (hx : x < m) (hq : q < n) : (trip n m)[(s * m + x) * n + q]? = some (s, x, q) := trip_all n hn m hm s hs x hx q hq
theorem trip_mem {n m : Nat} {y : Nat × Nat × Nat} (h : y ∈ trip n m) : y.1 < n ∧ y.2.1 < m ∧ y.2.2 < n := by
  simp only [trip, List.mem_flatMap, List.mem_map, List.mem_range] at h
  obtain ⟨s, hs, x, hx, q, hq, rfl⟩ := h
  exact ⟨hs, hx, hq⟩
theorem mem_trip {n m s x q : Nat} (hs : s < n) (hx : x < m) (hq : q < n) : (s, x, q) ∈ trip n m := by
  simp only [trip, List.mem_flatMap, List.mem_map, List.mem_range]
  exact ⟨s, hs, x, hx, q, hq, rfl⟩
theorem ix_lt {n m s x q : Nat} (hs : s < n) (hx : x < m) (hq : q < n) : (s * m + x) * n + q < n * m * n := by
  have h1 : s * m + x + 1 ≤ n * m := by
    have : (s + 1) * m ≤ n * m := Nat.mul_le_mul_right m hs
    rw [Nat.add_mul] at this
    omega
  have h2 : (s * m + x + 1) * n ≤ n * m * n := Nat.mul_le_mul_right n h1
  rw [Nat.add_mul] at h2
  omega
/-- the least form's upper number over h less g -/
def W (d : Kp388.Desk) (l : List Int) (s x q : Nat) : Int :=
  l.getD (Kp388.index d s x q) 0 * ((d.h : Int) - d.g) - l.getD (Kp388.index d s 0 s) 0 * d.h + l.getD (Kp388.index d q 0 q) 0 * d.g
section
variable {d : Kp388.Desk}
theorem Ok.lo (o : Ok d) : (0 : Int) < (d.h : Int) - d.g := by have := o.g2; omega
theorem Ok.sub (o : Ok d) : ((d.h - d.g : Nat) : Int) = (d.h : Int) - d.g := by have := o.g2; omega
theorem pot_is (o : Ok d) (l : List Int) {s : Nat} (hs : s < d.n) : Is ((Kp388.potOf d l).getD s (0, 1)) (- l.getD (Kp388.index d s 0 s) 0 * d.h) ((d.h : Int) - d.g) := by
  have e : (Kp388.potOf d l).getD s (0, 1) = mul (ofInt (- l.getD (Kp388.index d s 0 s) 0)) (fr ((d.h : Nat) : Int) ((d.h - d.g : Nat) : Int)) := by
    unfold Kp388.potOf
    rw [List.getD_eq_getElem?_getD, List.getElem?_map, List.getElem?_range hs]
    rfl
  rw [e, o.sub]
  refine ((is_int _).mul (is_fr o.lo)).to o.lo ?_
  grind
theorem potOf_eq (o : Ok d) (l : List Int) : Kp388.potOf d l = (List.range d.n).map fun s => fr (- l.getD (Kp388.index d s 0 s) 0 * d.h) ((d.h : Int) - d.g) := by
  unfold Kp388.potOf
  refine List.map_congr_left fun s hs => ?_
  rw [o.sub]
  refine (((is_int _).mul (is_fr o.lo)).to o.lo ?_).eq
  grind
theorem least_is (o : Ok d) (l : List Int) {s x q : Nat} (hs : s < d.n) (hq : q < d.n) :
    Is (add (ofInt (l.getD (Kp388.index d s x q) 0)) (sub ((Kp388.potOf d l).getD s (0, 1)) (mul (Kp388.later d) ((Kp388.potOf d l).getD q (0, 1))))) (W d l s x q) ((d.h : Int) - d.g) := by
  have hh : (0 : Int) < d.h := by have := o.g2; omega
  have lt : Is (Kp388.later d) d.g d.h := is_fr hh
  have := (is_int (l.getD (Kp388.index d s x q) 0)).add ((pot_is o l hs).sub (lt.mul (pot_is o l hq)))
  refine this.to o.lo ?_
  unfold W
  generalize l.getD (Kp388.index d s x q) 0 = a
  generalize l.getD (Kp388.index d s 0 s) 0 = b
  generalize l.getD (Kp388.index d q 0 q) 0 = c
  generalize (d.h : Int) = h
  generalize (d.g : Int) = g
  grind
theorem leastOf_eq (o : Ok d) (l : List Int) : Kp388.leastOf d l = (trip d.n d.m).map fun y => fr (W d l y.1 y.2.1 y.2.2) ((d.h : Int) - d.g) := by
  unfold Kp388.leastOf
  refine List.map_congr_left fun y hy => ?_
  have h := trip_mem hy
  exact (least_is o l h.1 h.2.2).eq
theorem least_at (o : Ok d) (l : List Int) {s x q : Nat} (hs : s < d.n) (hx : x < d.m) (hq : q < d.n) :
    (Kp388.leastOf d l).getD (Kp388.index d s x q) (0, 1) = fr (W d l s x q) ((d.h : Int) - d.g) := by
  rw [leastOf_eq o, List.getD_eq_getElem?_getD, List.getElem?_map]
  unfold Kp388.index
  rw [trip_get o.n2 o.m2 hs hx hq]
  rfl
theorem less_get (o : Ok d) (i : Nat) : (Kp388.lessTable d).getD i 0 = d.b.getD i 0 - d.a.getD i 0 := by
  unfold Kp388.lessTable
  simp only [List.getD_eq_getElem?_getD, List.getElem?_zipWith]
  have e : d.a.length = d.b.length := by rw [o.la, o.lb]
  by_cases h : i < d.b.length
  · rw [List.getElem?_eq_getElem h, List.getElem?_eq_getElem (by omega)]
    rfl
  · rw [List.getElem?_eq_none (by omega), List.getElem?_eq_none (by omega)]
    rfl
theorem W_less (o : Ok d) (s x q : Nat) : W d (Kp388.lessTable d) s x q = W d d.b s x q - W d d.a s x q := by
  unfold W
  rw [less_get o, less_get o, less_get o]
  grind
theorem fr_zero_iff {u v : Int} (h : 0 < v) : (fr u v == ((0, 1) : Fr)) = decide (u = 0) := by
  by_cases e : u = 0
  · rw [decide_eq_true e]
    exact beq_iff_eq.mpr ((is_fr h).zero_iff.mpr e)
  · rw [decide_eq_false e]
    exact beq_eq_false_iff_ne.mpr fun z => e ((is_fr h).zero_iff.mp z)
theorem fr_beq {u u' v : Int} (h : 0 < v) : (fr u v == fr u' v) = decide (u = u') := by
  by_cases e : u = u'
  · rw [decide_eq_true e, e]
    exact beq_self_eq_true _
  · rw [decide_eq_false e]
    refine beq_eq_false_iff_ne.mpr fun z => e ?_
    have := ((is_fr h).eq_iff (is_fr h)).mp z
    exact Int.eq_of_mul_eq_mul_right (by omega) this
theorem trivial_eq (o : Ok d) (l : List Int) : ((Kp388.leastOf d l).all fun x => x == (0, 1)) = (trip d.n d.m).all fun y => decide (W d l y.1 y.2.1 y.2.2 = 0) := by
  rw [leastOf_eq o, List.all_map]
  congr 1
  funext y
  exact fr_zero_iff o.lo
theorem alike_eq (o : Ok d) : Kp388.alike d = (trip d.n d.m).all fun y => decide (W d d.a y.1 y.2.1 y.2.2 = W d d.b y.1 y.2.1 y.2.2) := by
  unfold Kp388.alike
  rw [trivial_eq o]
  congr 1
  funext y
  rw [W_less o]
  refine decide_eq_decide.mpr ?_
  omega
theorem zipWith_map2 {α β γ δ : Type} (f : α → β) (g : α → γ) (h : β → γ → δ) : ∀ l : List α, List.zipWith h (l.map f) (l.map g) = l.map fun x => h (f x) (g x)
  | [] => rfl
  | x :: l => by simp [zipWith_map2 f g h l]
theorem zip_map2 {α β γ : Type} (f : α → β) (g : α → γ) : ∀ l : List α, (l.map f).zip (l.map g) = l.map fun x => (f x, g x)
  | [] => rfl
  | x :: l => by simp [zip_map2 f g l]
theorem differ_eq (o : Ok d) : ((List.zipWith (fun (x y : Fr) => x == y) (Kp388.leastOf d d.a) (Kp388.leastOf d d.b)).filter fun b => !b).length
    = ((trip d.n d.m).filter fun y => decide (W d d.a y.1 y.2.1 y.2.2 ≠ W d d.b y.1 y.2.1 y.2.2)).length := by
  rw [leastOf_eq o, leastOf_eq o, zipWith_map2, List.filter_map, List.length_map]
  congr 2
  funext y
  simp only [Function.comp]
  rw [fr_beq o.lo]
  simp
end
end SP

set_option Elab.async false
namespace SP
open Kp340 Kp346
/-! far, factor, path: the specification in whole numbers -/
section
variable {d : Kp388.Desk}
/-- how far apart the least forms are there, times h less g -/
def gapW (d : Kp388.Desk) (y : Nat × Nat × Nat) : Int := ((W d d.b y.1 y.2.1 y.2.2 - W d d.a y.1 y.2.1 y.2.2).natAbs : Int)
theorem absF_is {x : Fr} {u v : Int} (h : Is x u v) : Is (Kp388.absF x) (u.natAbs : Int) v := by
  unfold Kp388.absF
  have p := h.pos
  have c := h.cross
  have q := h.x2
  by_cases e : x.1 < 0
  · rw [if_pos e]
    have hu : u < 0 := by
      have h1 := h.neg.num_pos
      have h2 : 0 < (neg x).1 := by show 0 < -x.1; omega
      have := h1.mp h2
      omega
    refine (is_zero.sub h).to p ?_
    have e1 : (u.natAbs : Int) = -u := by omega
    rw [e1]
    grind
  · rw [if_neg e]
    have hu : 0 ≤ u := by
      have h1 := h.neg.num_pos
      have h2 : ¬ 0 < (neg x).1 := by show ¬ 0 < -x.1; omega
      have : ¬ 0 < -u := fun z => h2 (h1.mpr z)
      omega
    have e1 : (u.natAbs : Int) = u := by omega
    rw [e1]
    exact h
theorem gap_is (o : Ok d) (y : Nat × Nat × Nat) : Kp388.absF (sub (fr (W d d.b y.1 y.2.1 y.2.2) ((d.h : Int) - d.g)) (fr (W d d.a y.1 y.2.1 y.2.2) ((d.h : Int) - d.g))) = fr (gapW d y) ((d.h : Int) - d.g) := by
  have h1 := (is_fr (u := W d d.b y.1 y.2.1 y.2.2) o.lo).sub (is_fr (u := W d d.a y.1 y.2.1 y.2.2) o.lo)
  have h2 : Is _ (W d d.b y.1 y.2.1 y.2.2 - W d d.a y.1 y.2.1 y.2.2) ((d.h : Int) - d.g) := h1.to o.lo (by grind)
  exact (absF_is h2).eq
theorem fr_lt {u u' v : Int} (h : 0 < v) : ltF (fr u v) (fr u' v) = decide (u < u') := by
  have h1 := (is_fr (u := u) h).lt_iff (is_fr (u := u') h)
  by_cases c : u < u'
  · rw [decide_eq_true c]
    exact h1.mpr (Int.mul_lt_mul_of_pos_right c h)
  · rw [decide_eq_false c]
    cases e : ltF (fr u v) (fr u' v) with
    | false => rfl
    | true =>
      have := Int.lt_of_mul_lt_mul_right (h1.mp e) (by omega)
      omega
/-- one turn of the search for the greatest difference -/
def farT (d : Kp388.Desk) (b : Int × (Nat × Nat × Nat)) (y : Nat × Nat × Nat) : Int × (Nat × Nat × Nat) := if b.1 < gapW d y then (gapW d y, y) else b
def farI (d : Kp388.Desk) : Int × (Nat × Nat × Nat) := (trip d.n d.m).foldl (farT d) (0, (0, 0, 0))
theorem zip_self_map {α β : Type} (f : α → β) : ∀ l : List α, l.zip (l.map f) = l.map fun x => (x, f x)
  | [] => rfl
  | x :: l => by simp [zip_self_map f l]
theorem far_fold (o : Ok d) : ∀ (l : List (Nat × Nat × Nat)) (b : Int × (Nat × Nat × Nat)),
    (l.map fun y => (y, fr (gapW d y) ((d.h : Int) - d.g))).foldl (fun (b : Fr × (Nat × Nat × Nat)) (z : (Nat × Nat × Nat) × Fr) => if ltF b.1 z.2 then (z.2, z.1) else b) (fr b.1 ((d.h : Int) - d.g), b.2)
      = (fr (l.foldl (farT d) b).1 ((d.h : Int) - d.g), (l.foldl (farT d) b).2)
  | [], b => rfl
  | y :: l, b => by
    rw [List.map_cons, List.foldl_cons, List.foldl_cons]
    dsimp only
    rw [fr_lt o.lo]
    unfold farT
    by_cases c : b.1 < gapW d y
    · rw [decide_eq_true c, if_pos rfl, if_pos c]
      exact far_fold o l (gapW d y, y)
    · rw [decide_eq_false c, if_neg (by decide), if_neg c]
      exact far_fold o l b
theorem far_eq (o : Ok d) : Kp388.far d = (fr (farI d).1 ((d.h : Int) - d.g), (farI d).2) := by
  unfold Kp388.far
  rw [leastOf_eq o, leastOf_eq o, zipWith_map2]
  have e : (fun y : Nat × Nat × Nat => Kp388.absF (sub (fr (W d d.b y.1 y.2.1 y.2.2) ((d.h : Int) - d.g)) (fr (W d d.a y.1 y.2.1 y.2.2) ((d.h : Int) - d.g)))) = fun y => fr (gapW d y) ((d.h : Int) - d.g) := funext fun y => gap_is o y
  rw [e, triples_eq, zip_self_map]
  have z : ((0, 1) : Fr) = fr 0 ((d.h : Int) - d.g) := ((is_fr (u := 0) o.lo).zero_iff.mpr rfl).symm
  rw [z]
  exact far_fold o _ (0, (0, 0, 0))
/-- the factor in whole numbers: of the first place where one is not 0 -/
def facI (d : Kp388.Desk) : Option Fr := match (trip d.n d.m).find? fun y => W d d.a y.1 y.2.1 y.2.2 != 0 || W d d.b y.1 y.2.1 y.2.2 != 0 with
  | none => some (1, 1)
  | some y => let u := W d d.a y.1 y.2.1 y.2.2
    let v := W d d.b y.1 y.2.1 y.2.2
    if u = 0 then none else
    if 0 < u * v ∧ ∀ z ∈ trip d.n d.m, v * W d d.a z.1 z.2.1 z.2.2 = u * W d d.b z.1 z.2.1 z.2.2 then some (fr (v.natAbs : Int) (u.natAbs : Int)) else none
theorem fr_neg_neg {a b : Int} (hb : b < 0) : fr a b = fr (-a) (-b) := by
  unfold fr
  simp only [Int.natAbs_neg]
  rw [if_pos hb, if_neg (show ¬ -b < 0 by omega)]
theorem fac_is {u v lo : Int} (hl : 0 < lo) (hu : u ≠ 0) : Is (mul (fr v lo) (fr (fr u lo).2 (fr u lo).1)) (if u < 0 then -v else v) (u.natAbs : Int) := by
  have h1 := is_fr (u := u) hl
  have c := h1.cross
  have p2 := h1.x2
  by_cases hn : u < 0
  · rw [if_pos hn]
    have hx : (fr u lo).1 < 0 := by
      have h2 := h1.neg.num_pos
      have : 0 < (neg (fr u lo)).1 := h2.mpr (by omega)
      have : 0 < -(fr u lo).1 := this
      omega
    rw [fr_neg_neg hx]
    have h3 : Is (fr (-(fr u lo).2) (-(fr u lo).1)) (-lo) (-u) := (is_fr (by omega)).to (by omega) (by grind)
    have e : (u.natAbs : Int) = -u := by omega
    rw [e]
    refine ((is_fr (u := v) hl).mul h3).to (by omega) ?_
    grind
  · rw [if_neg hn]
    have hu0 : 0 < u := by omega
    have hx : 0 < (fr u lo).1 := h1.num_pos.mpr hu0
    have h3 : Is (fr (fr u lo).2 (fr u lo).1) lo u := (is_fr hx).to hu0 (by grind)
    have e : (u.natAbs : Int) = u := by omega
    rw [e]
    refine ((is_fr (u := v) hl).mul h3).to hu0 ?_
    grind
theorem fr_num_ne {u v : Int} (h : 0 < v) : ((fr u v).1 != 0) = (u != 0) := by
  have := (is_fr (u := u) h).num_zero
  by_cases e : u = 0
  · have e1 := this.mpr e
    rw [e1, e]
  · have e1 : (fr u v).1 ≠ 0 := fun z => e (this.mp z)
    rw [bne_iff_ne.mpr e1, bne_iff_ne.mpr e]
theorem factor_eq (o : Ok d) : Kp388.factor d = facI d := by
  unfold Kp388.factor facI
  dsimp only
  rw [leastOf_eq o, leastOf_eq o, zip_map2, List.find?_map]
  have e : ((fun z : Fr × Fr => z.1.1 != 0 || z.2.1 != 0) ∘ fun y : Nat × Nat × Nat => (fr (W d d.a y.1 y.2.1 y.2.2) ((d.h : Int) - d.g), fr (W d d.b y.1 y.2.1 y.2.2) ((d.h : Int) - d.g))) = fun y => W d d.a y.1 y.2.1 y.2.2 != 0 || W d d.b y.1 y.2.1 y.2.2 != 0 := by
    funext y
    simp only [Function.comp, fr_num_ne o.lo]
  rw [e]
  cases hf : (trip d.n d.m).find? fun y => W d d.a y.1 y.2.1 y.2.2 != 0 || W d d.b y.1 y.2.1 y.2.2 != 0 with
  | none => rfl
  | some y =>
    simp only [Option.map_some]
    generalize hu : W d d.a y.1 y.2.1 y.2.2 = u
    generalize hv : W d d.b y.1 y.2.1 y.2.2 = v
    by_cases h0 : u = 0
    · rw [if_pos h0, if_pos ((is_fr o.lo).num_zero.mpr h0)]
    · rw [if_neg h0, if_neg fun z => h0 ((is_fr o.lo).num_zero.mp z)]
      have hc := fac_is (v := v) o.lo h0
      generalize mul (fr v ((d.h : Int) - d.g)) (fr (fr u ((d.h : Int) - d.g)).2 (fr u ((d.h : Int) - d.g)).1) = c at hc
      have e1 : decide (0 < c.1) = decide (0 < u * v) := by
        refine decide_eq_decide.mpr (hc.num_pos.trans ?_)
        by_cases hn : u < 0
        · rw [if_pos hn]
          constructor
          · intro z
            have := Int.mul_pos (by omega : 0 < -u) z
            grind
          · intro z
            have z1 : 0 < (-v) * (-u) := by grind
            exact Int.pos_of_mul_pos_left z1 (by omega)
        · rw [if_neg hn]
          constructor
          · intro z
            exact Int.mul_pos (by omega) z
          · intro z
            have z1 : 0 < v * u := by grind
            exact Int.pos_of_mul_pos_left z1 (by omega)
      have e2 : ∀ z : Nat × Nat × Nat, (mul c (fr (W d d.a z.1 z.2.1 z.2.2) ((d.h : Int) - d.g)) == fr (W d d.b z.1 z.2.1 z.2.2) ((d.h : Int) - d.g)) = decide (v * W d d.a z.1 z.2.1 z.2.2 = u * W d d.b z.1 z.2.1 z.2.2) := by
        intro z
        have h1 := (hc.mul (is_fr (u := W d d.a z.1 z.2.1 z.2.2) o.lo)).eq_iff (is_fr (u := W d d.b z.1 z.2.1 z.2.2) o.lo)
        rw [Bool.eq_iff_iff, beq_iff_eq, decide_eq_true_eq, h1]
        generalize W d d.a z.1 z.2.1 z.2.2 = A
        generalize W d d.b z.1 z.2.1 z.2.2 = B
        have lo := o.lo
        generalize (d.h : Int) - d.g = l at lo
        by_cases hn : u < 0
        · rw [if_pos hn]
          have e : (u.natAbs : Int) = -u := by omega
          rw [e]
          constructor
          · intro q
            have : (v * A) * l = (u * B) * l := by grind
            exact Int.eq_of_mul_eq_mul_right (by omega) this
          · intro q
            grind
        · rw [if_neg hn]
          have e : (u.natAbs : Int) = u := by omega
          rw [e]
          constructor
          · intro q
            have : (v * A) * l = (u * B) * l := by grind
            exact Int.eq_of_mul_eq_mul_right (by omega) this
          · intro q
            grind
      have e3 : ((trip d.n d.m).map fun y => (fr (W d d.a y.1 y.2.1 y.2.2) ((d.h : Int) - d.g), fr (W d d.b y.1 y.2.1 y.2.2) ((d.h : Int) - d.g))).all (fun w => mul c w.1 == w.2) = decide (∀ z ∈ trip d.n d.m, v * W d d.a z.1 z.2.1 z.2.2 = u * W d d.b z.1 z.2.1 z.2.2) := by
        rw [List.all_map, Bool.eq_iff_iff, List.all_eq_true, decide_eq_true_eq]
        refine ⟨fun h z hz => ?_, fun h z hz => ?_⟩
        · have := h z hz
          simp only [Function.comp] at this
          rw [e2] at this
          exact of_decide_eq_true this
        · simp only [Function.comp]
          rw [e2]
          exact decide_eq_true (h z hz)
      rw [e1, e3, ← Bool.decide_and]
      by_cases hz : 0 < u * v ∧ ∀ z ∈ trip d.n d.m, v * W d d.a z.1 z.2.1 z.2.2 = u * W d d.b z.1 z.2.1 z.2.2
      · rw [decide_eq_true hz, if_pos rfl, if_pos hz, hc.eq]
        congr 2
        by_cases hn : u < 0
        · rw [if_pos hn]
          have : v < 0 := by
            have z1 : 0 < (-v) * (-u) := by have := hz.1; grind
            have := Int.pos_of_mul_pos_left z1 (by omega)
            omega
          omega
        · rw [if_neg hn]
          have : 0 < v := by
            have z1 : 0 < v * u := by have := hz.1; grind
            exact Int.pos_of_mul_pos_left z1 (by omega)
          omega
      · rw [decide_eq_false hz, if_neg (by decide), if_neg hz]
/-- what a path pays, times h to the power of its acts -/
def pathN (d : Kp388.Desk) (t : Nat) : List Nat → Int
  | s :: x :: q :: r => Kp388.pay d t s x q * (d.h : Int) ^ ((q :: r).length / 2 + 1) + (d.g : Int) * pathN d t (q :: r)
  | _ => 0
theorem path_is (o : Ok d) (t : Nat) : ∀ l : List Nat, Is (Kp388.pathPay d t l) (pathN d t l) ((d.h : Int) ^ (l.length / 2))
  | [] => by
    show Is (0, 1) 0 ((d.h : Int) ^ 0)
    rw [Int.pow_zero]
    exact is_zero
  | [a] => by
    have e : [a].length / 2 = 0 := by simp
    rw [e, Int.pow_zero]
    exact is_zero
  | [a, b] => by
    have hh : (0 : Int) < d.h := by have := o.g2; omega
    have e : [a, b].length / 2 = 1 := by simp
    rw [e]
    show Is (0, 1) 0 _
    exact is_zero.to (Int.pow_pos hh) (by rw [Int.zero_mul, Int.zero_mul])
  | s :: x :: q :: r => by
    have hh : (0 : Int) < d.h := by have := o.g2; omega
    have ih := path_is o t (q :: r)
    have lt : Is (Kp388.later d) d.g d.h := is_fr hh
    have e : (s :: x :: q :: r).length / 2 = (q :: r).length / 2 + 1 := by
      simp only [List.length_cons]
      omega
    rw [e]
    show Is (add (ofInt (Kp388.pay d t s x q)) (mul (Kp388.later d) (Kp388.pathPay d t (q :: r)))) (Kp388.pay d t s x q * (d.h : Int) ^ ((q :: r).length / 2 + 1) + (d.g : Int) * pathN d t (q :: r)) _
    refine ((is_int (Kp388.pay d t s x q)).add (lt.mul ih)).to (Int.pow_pos hh) ?_
    rw [Int.pow_succ]
    generalize (d.h : Int) ^ ((q :: r).length / 2) = z
    generalize pathN d t (q :: r) = y
    grind
end
end SP

set_option Elab.async false
namespace SP
open Kp340 Kp346
/-! the least form as a list of whole numbers; far, factor, paths as the program goes about them -/
abbrev ends (n m k : Nat) : Nat × Nat × Nat := (k / n / m, k / n % m, k % n)
theorem trip_ends : ∀ n ≤ 4, ∀ m ≤ 3, trip n m = (List.range (n * m * n)).map (ends n m) := by decide +kernel
set_option synthInstance.maxSize 2000 in
set_option synthInstance.maxHeartbeats 200000 in
theorem trip_cut : ∀ n ≤ 4, ∀ m ≤ 3, ∀ s < n, ∀ x < m, ((trip n m).drop ((s * m + x) * n)).take n = (List.range n).map fun q => (s, x, q) := by decide +kernel
theorem ends_lt {n m k : Nat} (hk : k < n * m * n) : k / n / m < n ∧ k / n % m < m ∧ k % n < n := by
  have hn : 0 < n := by
    rcases Nat.eq_zero_or_pos n with h | h
    · rw [h] at hk
      simp at hk
    · exact h
  have hm : 0 < m := by
    rcases Nat.eq_zero_or_pos m with h | h
    · rw [h] at hk
      simp at hk
    · exact h
  refine ⟨?_, Nat.mod_lt _ hm, Nat.mod_lt _ hn⟩
  rw [Nat.div_lt_iff_lt_mul hm, Nat.div_lt_iff_lt_mul hn]
  exact hk
theorem ends_ix (d : Kp388.Desk) (k : Nat) : Kp388.index d (k / d.n / d.m) (k / d.n % d.m) (k % d.n) = k := by
  unfold Kp388.index
  rw [Nat.div_add_mod' (k / d.n) d.m, Nat.div_add_mod' k d.n]
theorem ix_ends {d : Kp388.Desk} {s x q : Nat} (hx : x < d.m) (hq : q < d.n) : Kp388.index d s x q / d.n / d.m = s ∧ Kp388.index d s x q / d.n % d.m = x ∧ Kp388.index d s x q % d.n = q := by
  unfold Kp388.index
  have e1 : ((s * d.m + x) * d.n + q) / d.n = s * d.m + x := by
    rw [Nat.add_comm, Nat.add_mul_div_right _ _ (by omega), Nat.div_eq_of_lt hq, Nat.zero_add]
  have e2 : ((s * d.m + x) * d.n + q) % d.n = q := by
    rw [Nat.add_comm, Nat.add_mul_mod_self_right, Nat.mod_eq_of_lt hq]
  rw [e1, e2]
  refine ⟨?_, ?_, rfl⟩
  · rw [Nat.add_comm, Nat.add_mul_div_right _ _ (by omega), Nat.div_eq_of_lt hx, Nat.zero_add]
  · rw [Nat.add_comm, Nat.add_mul_mod_self_right, Nat.mod_eq_of_lt hx]
/-- the least form's upper numbers -/
def LF (d : Kp388.Desk) (l : List Int) : List Int := (trip d.n d.m).map fun y => W d l y.1 y.2.1 y.2.2
def WK (d : Kp388.Desk) (l : List Int) (k : Nat) : Int := W d l (k / d.n / d.m) (k / d.n % d.m) (k % d.n)
section
variable {d : Kp388.Desk}
theorem WK_ix {l : List Int} {s x q : Nat} (hx : x < d.m) (hq : q < d.n) : WK d l (Kp388.index d s x q) = W d l s x q := by
  obtain ⟨e1, e2, e3⟩ := ix_ends (s := s) hx hq
  unfold WK
  rw [e1, e2, e3]
theorem LF_eq (o : Ok d) (l : List Int) : LF d l = (List.range (d.n * d.m * d.n)).map (WK d l) := by
  unfold LF
  rw [trip_ends _ o.n2 _ o.m2, List.map_map]
  rfl
theorem LF_len (o : Ok d) (l : List Int) : (LF d l).length = d.n * d.m * d.n := by
  unfold LF
  rw [List.length_map, trip_len _ o.n2 _ o.m2]
theorem LF_cut (o : Ok d) (l : List Int) {s x : Nat} (hs : s < d.n) (hx : x < d.m) : ((LF d l).drop (Kp388.index d s x 0)).take d.n = (List.range d.n).map fun q => W d l s x q := by
  unfold LF Kp388.index
  rw [Nat.add_zero, ← List.map_drop, ← List.map_take, trip_cut _ o.n2 _ o.m2 _ hs _ hx, List.map_map]
  rfl
def zer (l : List Int) : Bool := l.all fun x => decide (x = 0)
theorem triv_LF (o : Ok d) (l : List Int) : ((Kp388.leastOf d l).all fun x => x == (0, 1)) = zer (LF d l) := by
  rw [trivial_eq o]
  unfold zer LF
  rw [List.all_map]
  rfl
theorem alike_LF (o : Ok d) : Kp388.alike d = zer (LF d (Kp388.lessTable d)) := triv_LF o _
theorem less_len (o : Ok d) : (Kp388.lessTable d).length = d.n * d.m * d.n := by
  unfold Kp388.lessTable
  rw [List.length_zipWith, o.la, o.lb]
  omega
theorem eq_range_map {l : List Int} {n : Nat} {f : Nat → Int} (hl : l.length = n) (h : ∀ i < n, l.getD i 0 = f i) : l = (List.range n).map f := by
  refine List.ext_getElem? fun i => ?_
  by_cases c : i < n
  · have e := h i c
    rw [List.getD_eq_getElem?_getD, List.getElem?_eq_getElem (by omega)] at e
    rw [List.getElem?_eq_getElem (by omega), List.getElem?_map, List.getElem?_range c]
    exact congrArg some e
  · rw [List.getElem?_eq_none (by omega), List.getElem?_eq_none (by simp; omega)]
theorem less_range (o : Ok d) : Kp388.lessTable d = (List.range (d.n * d.m * d.n)).map fun k => d.b.getD k 0 - d.a.getD k 0 :=
  eq_range_map (less_len o) fun i _ => less_get o i
/-! far -/
theorem fold_stay {α : Type} (f : α → Int) : ∀ (l : List α) (b : Int × α), (∀ y ∈ l, f y ≤ b.1) → l.foldl (fun b y => if b.1 < f y then (f y, y) else b) b = b
  | [], b, _ => rfl
  | y :: l, b, h => by
    rw [List.foldl_cons, if_neg (by have := h y (by simp); omega)]
    exact fold_stay f l b fun z hz => h z (by simp [hz])
theorem fold_first {α : Type} (f : α → Int) {M : Int} : ∀ (l : List α) (b : Int × α) (j : Nat) (y : α), b.1 < M → l[j]? = some y → f y = M → (∀ z ∈ l, f z ≤ M) → (∀ i z, i < j → l[i]? = some z → f z ≠ M) → l.foldl (fun b y => if b.1 < f y then (f y, y) else b) b = (M, y)
  | [], _, _, _, _, h, _, _, _ => by simp at h
  | x :: l, b, 0, y, hb, h, hy, hl, _ => by
    have e : x = y := Option.some.inj h
    subst e
    rw [List.foldl_cons, if_pos (by omega), fold_stay, hy]
    intro z hz
    show f z ≤ f x
    rw [hy]
    exact hl z (by simp [hz])
  | x :: l, b, j + 1, y, hb, h, hy, hl, hi => by
    have h1 : f x ≠ M := hi 0 x (by omega) rfl
    have h2 := hl x (by simp)
    rw [List.foldl_cons]
    refine fold_first f l _ j y ?_ h hy (fun z hz => hl z (by simp [hz])) fun i z c e => hi (i + 1) z (by omega) e
    split
    · show f x < M
      omega
    · exact hb
theorem far_LF (o : Ok d) {M : Int} {j : Nat} (hM : ((LF d (Kp388.lessTable d)).map fun x => (x.natAbs : Int))[j]? = some M) (hle : ∀ y ∈ (LF d (Kp388.lessTable d)).map fun x => (x.natAbs : Int), y ≤ M)
    (hf : ∀ i z, i < j → ((LF d (Kp388.lessTable d)).map fun x => (x.natAbs : Int))[i]? = some z → z ≠ M) :
    Kp388.far d = (fr M ((d.h : Int) - d.g), ends d.n d.m j) := by
  rw [far_eq o]
  have e : ((LF d (Kp388.lessTable d)).map fun x => (x.natAbs : Int)) = (trip d.n d.m).map (gapW d) := by
    unfold LF
    rw [List.map_map]
    refine List.map_congr_left fun y _ => ?_
    show ((W d (Kp388.lessTable d) y.1 y.2.1 y.2.2).natAbs : Int) = _
    rw [W_less o]
    rfl
  rw [e] at hM hle hf
  have hj : j < d.n * d.m * d.n := by
    have := (List.getElem?_eq_some_iff.mp hM).1
    rw [List.length_map, trip_len _ o.n2 _ o.m2] at this
    exact this
  have ey : (trip d.n d.m)[j]? = some (ends d.n d.m j) := by
    rw [trip_ends _ o.n2 _ o.m2, List.getElem?_map, List.getElem?_range hj]
    rfl
  rw [List.getElem?_map, ey] at hM
  have hg : gapW d (ends d.n d.m j) = M := Option.some.inj hM
  have hl : ∀ z ∈ trip d.n d.m, gapW d z ≤ M := fun z hz => hle _ (List.mem_map_of_mem hz)
  have hi : ∀ i z, i < j → (trip d.n d.m)[i]? = some z → gapW d z ≠ M := fun i z c ez => hf i _ c (by rw [List.getElem?_map, ez]; rfl)
  have hp : 0 ≤ M := by
    rw [← hg]
    unfold gapW
    omega
  have ef : farI d = (M, ends d.n d.m j) := by
    by_cases h0 : M = 0
    · have j0 : j = 0 := by
        rcases Nat.eq_zero_or_pos j with c | c
        · exact c
        · have hn := o.n1
          have hm := o.m1
          have e0 : (trip d.n d.m)[0]? = some (ends d.n d.m 0) := by
            rw [trip_ends _ o.n2 _ o.m2, List.getElem?_map, List.getElem?_range (by omega)]
            rfl
          have h1 := hi 0 _ c e0
          have h2 := hl _ (List.mem_of_getElem? e0)
          have h3 : 0 ≤ gapW d (ends d.n d.m 0) := by
            unfold gapW
            omega
          omega
      subst h0 j0
      have := fold_stay (gapW d) (trip d.n d.m) (0, (0, 0, 0)) hl
      unfold farI farT
      rw [this]
      simp [ends]
    · exact fold_first (gapW d) (trip d.n d.m) (0, (0, 0, 0)) j _ (by show (0 : Int) < M; omega) ey hg hl hi
  rw [ef]
theorem differ_LF (o : Ok d) : ((List.zipWith (fun (x y : Fr) => x == y) (Kp388.leastOf d d.a) (Kp388.leastOf d d.b)).filter fun b => !b).length
    = ((LF d (Kp388.lessTable d)).filter fun x => !decide (x = 0)).length := by
  rw [differ_eq o]
  unfold LF
  rw [List.filter_map, List.length_map]
  congr 2
  funext y
  show decide (W d d.a y.1 y.2.1 y.2.2 ≠ W d d.b y.1 y.2.1 y.2.2) = !decide (W d (Kp388.lessTable d) y.1 y.2.1 y.2.2 = 0)
  rw [W_less o]
  by_cases c : W d d.a y.1 y.2.1 y.2.2 = W d d.b y.1 y.2.1 y.2.2
  · rw [decide_eq_false (by simp [c]), decide_eq_true (by omega)]
    rfl
  · rw [decide_eq_true (by simpa using c), decide_eq_false (by omega)]
    rfl
/-! factor -/
/-- by the first list's first number that is not 0 -/
def facL (as bs : List Int) : Option Fr := match as.findIdx? fun x => !decide (x = 0) with
  | none => if zer bs then some (1, 1) else none
  | some j => if 0 < as.getD j 0 * bs.getD j 0 ∧ ∀ k < as.length, as.getD k 0 * bs.getD j 0 = bs.getD k 0 * as.getD j 0 then some (fr ((bs.getD j 0).natAbs : Int) ((as.getD j 0).natAbs : Int)) else none
theorem zer_find {l : List Int} : (l.findIdx? fun x => !decide (x = 0)) = none ↔ zer l = true := by
  rw [List.findIdx?_eq_none_iff]
  unfold zer
  rw [List.all_eq_true]
  constructor
  · intro h x hx
    have := h x hx
    simpa using this
  · intro h x hx
    have := h x hx
    simpa using this
theorem getD_map {α : Type} {f : α → Int} {l : List α} {k : Nat} {y : α} (h : l[k]? = some y) : (l.map f).getD k 0 = f y := by
  rw [List.getD_eq_getElem?_getD, List.getElem?_map, h]
  rfl
theorem facL_eq {α : Type} (t : List α) (u v : α → Int) : facL (t.map u) (t.map v) = (match t.find? fun y => u y != 0 || v y != 0 with
  | none => some (1, 1)
  | some y => if u y = 0 then none else if 0 < u y * v y ∧ ∀ z ∈ t, v y * u z = u y * v z then some (fr ((v y).natAbs : Int) ((u y).natAbs : Int)) else none) := by
  unfold facL
  cases hj : (t.map u).findIdx? fun x => !decide (x = 0) with
  | none =>
    have hz := zer_find.mp hj
    unfold zer at hz
    rw [List.all_map, List.all_eq_true] at hz
    have hu : ∀ y ∈ t, u y = 0 := fun y hy => of_decide_eq_true (hz y hy)
    cases hf : t.find? fun y => u y != 0 || v y != 0 with
    | none =>
      have hv : zer (t.map v) = true := by
        unfold zer
        rw [List.all_map, List.all_eq_true]
        intro y hy
        have := List.find?_eq_none.mp hf y hy
        simp at this
        show decide (v y = 0) = true
        exact decide_eq_true this.2
      simp only []
      rw [if_pos hv]
    | some y =>
      have hy := List.mem_of_find?_eq_some hf
      have hp := List.find?_some hf
      simp only []
      rw [if_pos (hu y hy)]
      have hv : ¬ zer (t.map v) = true := by
        intro c
        unfold zer at c
        rw [List.all_map, List.all_eq_true] at c
        have e : v y = 0 := of_decide_eq_true (c y hy)
        rw [hu y hy, e] at hp
        simp at hp
      rw [if_neg hv]
  | some j =>
    obtain ⟨hlt, hnz, hb⟩ := List.findIdx?_eq_some_iff_getElem.mp hj
    rw [List.length_map] at hlt
    have hx : t[j]? = some t[j] := List.getElem?_eq_getElem hlt
    have ea := getD_map (f := u) hx
    have eb := getD_map (f := v) hx
    simp only []
    rw [ea, eb]
    have hn : u t[j] ≠ 0 := by
      rw [List.getElem_map] at hnz
      simpa using hnz
    have hbe : ∀ i (h : i < j), u (t[i]'(by omega)) = 0 := fun i h => by
      have := hb i h
      rw [List.getElem_map] at this
      simpa using this
    have eall : (∀ k < (t.map u).length, (t.map u).getD k 0 * v t[j] = (t.map v).getD k 0 * u t[j]) ↔ ∀ z ∈ t, v t[j] * u z = u t[j] * v z := by
      constructor
      · intro h z hz
        obtain ⟨k, hk, rfl⟩ := List.getElem_of_mem hz
        have := h k (by rw [List.length_map]; exact hk)
        rw [getD_map (f := u) (List.getElem?_eq_getElem hk), getD_map (f := v) (List.getElem?_eq_getElem hk)] at this
        rw [Int.mul_comm, this, Int.mul_comm]
      · intro h k hk
        rw [List.length_map] at hk
        rw [getD_map (f := u) (List.getElem?_eq_getElem hk), getD_map (f := v) (List.getElem?_eq_getElem hk)]
        have := h _ (List.getElem_mem hk)
        rw [Int.mul_comm, this, Int.mul_comm]
    cases hf : t.find? fun y => u y != 0 || v y != 0 with
    | none =>
      have := List.find?_eq_none.mp hf _ (List.getElem_mem hlt)
      simp at this
      exact absurd this.1 hn
    | some y =>
      simp only []
      obtain ⟨hp, as, bs, et, hbef⟩ := List.find?_eq_some_iff_append.mp hf
      have hl : as.length ≤ j := by
        apply Nat.le_of_not_lt
        intro c
        have e : t[j]? = as[j]? := by
          rw [et, List.getElem?_append_left c]
        rw [hx] at e
        have hm := List.mem_of_getElem? e.symm
        have := hbef _ hm
        simp at this
        exact hn this.1
      have ey : t[as.length]? = some y := by
        rw [et, List.getElem?_append_right (by omega), Nat.sub_self]
        rfl
      by_cases c : as.length = j
      · rw [c, hx] at ey
        have ey : t[j] = y := Option.some.inj ey
        rw [← ey, if_neg hn]
        by_cases q : 0 < u t[j] * v t[j] ∧ ∀ z ∈ t, v t[j] * u z = u t[j] * v z
        · rw [if_pos q, if_pos ⟨q.1, eall.mpr q.2⟩]
        · rw [if_neg q, if_neg fun z => q ⟨z.1, eall.mp z.2⟩]
      · have hk : as.length < j := by omega
        have ey2 : t[as.length] = y := by
          rw [List.getElem?_eq_getElem (by omega)] at ey
          exact Option.some.inj ey
        have u0 : u y = 0 := by
          rw [← ey2]
          exact hbe _ hk
        have v0 : v y ≠ 0 := by
          rw [u0] at hp
          simpa using hp
        rw [if_pos u0, if_neg]
        rintro ⟨z1, z2⟩
        have := (eall.mp z2) y (List.mem_of_getElem? ey)
        rw [u0, Int.mul_zero] at this
        rcases Int.mul_eq_zero.mp this.symm with w | w
        · exact hn w
        · exact v0 w
theorem factor_LF (o : Ok d) : Kp388.factor d = facL (LF d d.a) (LF d d.b) := by
  rw [factor_eq o]
  unfold LF facI
  rw [facL_eq]
  cases (trip d.n d.m).find? fun y => W d d.a y.1 y.2.1 y.2.2 != 0 || W d d.b y.1 y.2.1 y.2.2 != 0 with
  | none => rfl
  | some y => simp only []
/-! paths -/
/-- what a path pays by a table, times h to the power of its acts -/
def pathT (d : Kp388.Desk) (l : List Int) : List Nat → Int
  | s :: x :: q :: r => l.getD (Kp388.index d s x q) 0 * (d.h : Int) ^ ((q :: r).length / 2 + 1) + (d.g : Int) * pathT d l (q :: r)
  | _ => 0
theorem pathN_T (d : Kp388.Desk) (t : Nat) : ∀ l : List Nat, pathN d t l = pathT d (Kp388.tableOf d t) l
  | [] => rfl
  | [_] => rfl
  | [_, _] => rfl
  | s :: x :: q :: r => by
    have ih := pathN_T d t (q :: r)
    unfold pathN pathT
    rw [ih]
    rfl
theorem pathT_less (o : Ok d) : ∀ l : List Nat, pathT d (Kp388.lessTable d) l = pathT d d.b l - pathT d d.a l
  | [] => rfl
  | [_] => rfl
  | [_, _] => rfl
  | s :: x :: q :: r => by
    have ih := pathT_less o (q :: r)
    unfold pathT
    rw [ih, less_get o]
    generalize (d.h : Int) ^ ((q :: r).length / 2 + 1) = z
    grind
theorem path_T (o : Ok d) (t : Nat) (l : List Nat) : Kp388.pathPay d t l = fr (pathT d (Kp388.tableOf d t) l) ((d.h : Int) ^ (l.length / 2)) := by
  rw [← pathN_T]
  exact (path_is o t l).eq
theorem gap_T (o : Ok d) (l : List Nat) : sub (Kp388.pathPay d 1 l) (Kp388.pathPay d 0 l) = fr (pathT d (Kp388.lessTable d) l) ((d.h : Int) ^ (l.length / 2)) := by
  have hh : (0 : Int) < d.h := by have := o.g2; omega
  have h1 := path_is o 1 l
  have h0 := path_is o 0 l
  have hz : (0 : Int) < (d.h : Int) ^ (l.length / 2) := Int.pow_pos hh
  have := (h1.sub h0).to hz (u' := pathT d (Kp388.lessTable d) l) (by
    rw [pathT_less o, pathN_T, pathN_T]
    show (pathT d d.b l * _ - pathT d d.a l * _) * _ = _
    generalize (d.h : Int) ^ (l.length / 2) = z
    grind)
  exact this.eq
/-! ifset -/
theorem W_with (d : Kp388.Desk) (t : Nat) (e l : List Int) (s x q : Nat) : W (Kp388.withTable d t e) l s x q = W d l s x q := by
  unfold Kp388.withTable
  split <;> rfl
theorem LF_with (d : Kp388.Desk) (t : Nat) (e l : List Int) : LF (Kp388.withTable d t e) l = LF d l := by
  unfold Kp388.withTable
  split <;> rfl
theorem getD_set {l : List Int} {i k : Nat} {v : Int} (hi : i < l.length) : (l.set i v).getD k 0 = if i = k then v else l.getD k 0 := by
  rw [List.getD_eq_getElem?_getD, List.getD_eq_getElem?_getD, List.getElem?_set]
  by_cases c : i = k
  · subst c
    rw [if_pos rfl, if_pos hi, if_pos rfl]
    rfl
  · rw [if_neg c, if_neg c]
theorem less_with (o : Ok d) {t i : Nat} (ht : t < 2) (hi : i < d.n * d.m * d.n) (v : Int) :
    Kp388.lessTable (Kp388.withTable d t ((Kp388.tableOf d t).set i v)) = (Kp388.lessTable d).set i (if t = 1 then v - d.a.getD i 0 else d.b.getD i 0 - v) := by
  have la := o.la
  have lb := o.lb
  have ll := less_len o
  have e0 : ∀ (a b : List Int), a.length = d.n * d.m * d.n → b.length = d.n * d.m * d.n → List.zipWith (fun (y x : Int) => y - x) b a = (List.range (d.n * d.m * d.n)).map fun k => b.getD k 0 - a.getD k 0 := fun a b ha hb => by
    refine eq_range_map (by rw [List.length_zipWith, ha, hb]; omega) fun k hk => ?_
    simp only [List.getD_eq_getElem?_getD, List.getElem?_zipWith]
    rw [List.getElem?_eq_getElem (by omega), List.getElem?_eq_getElem (by omega)]
    rfl
  have e1 : (Kp388.lessTable d).set i (if t = 1 then v - d.a.getD i 0 else d.b.getD i 0 - v) = (List.range (d.n * d.m * d.n)).map fun k => if i = k then (if t = 1 then v - d.a.getD i 0 else d.b.getD i 0 - v) else d.b.getD k 0 - d.a.getD k 0 :=
    eq_range_map (by rw [List.length_set, ll]) fun k hk => by
      rw [getD_set (by omega), less_get o]
  rw [e1]
  have : t = 0 ∨ t = 1 := by omega
  rcases this with rfl | rfl
  · show List.zipWith (fun (y x : Int) => y - x) d.b (d.a.set i v) = _
    rw [e0 _ _ (by rw [List.length_set, la]) lb]
    refine List.map_congr_left fun k _ => ?_
    rw [getD_set (by omega)]
    by_cases c : i = k
    · subst c
      rw [if_pos rfl, if_pos rfl, if_neg (by decide)]
    · rw [if_neg c, if_neg c]
  · show List.zipWith (fun (y x : Int) => y - x) (d.b.set i v) d.a = _
    rw [e0 _ _ la (by rw [List.length_set, lb])]
    refine List.map_congr_left fun k _ => ?_
    rw [getD_set (by omega)]
    by_cases c : i = k
    · subst c
      rw [if_pos rfl, if_pos rfl, if_pos rfl]
    · rw [if_neg c, if_neg c]
/-! bounds -/
theorem mul_bd {a c : Int} {A B : Nat} (ha : a.natAbs ≤ A) (hc : c.natAbs ≤ B) : (a * c).natAbs ≤ A * B := by
  rw [Int.natAbs_mul]
  exact Nat.mul_le_mul ha hc
theorem W_bd (o : Ok d) {l : List Int} (h : ∀ i, -100000 ≤ l.getD i 0 ∧ l.getD i 0 ≤ 100000) (s x q : Nat) : (W d l s x q).natAbs ≤ 3000000 := by
  unfold W
  have g2 := o.g2
  have h2 := o.h2
  have a1 := h (Kp388.index d s x q)
  have a2 := h (Kp388.index d s 0 s)
  have a3 := h (Kp388.index d q 0 q)
  have b1 := mul_bd (a := l.getD (Kp388.index d s x q) 0) (c := (d.h : Int) - d.g) (A := 100000) (B := 10) (by omega) (by omega)
  have b2 := mul_bd (a := l.getD (Kp388.index d s 0 s) 0) (c := (d.h : Int)) (A := 100000) (B := 10) (by omega) (by omega)
  have b3 := mul_bd (a := l.getD (Kp388.index d q 0 q) 0) (c := (d.g : Int)) (A := 100000) (B := 10) (by omega) (by omega)
  omega
end
end SP

set_option Elab.async false
set_option maxRecDepth 100000
set_option maxHeartbeats 2000000
namespace SP
open PySem PySem.Spec PyProof.Rows L2
def topS (i : Nat) : Stmt := PySem.Challenge.pw_shapedpays_s01_answers.main.body.getD i (.Pass ⟨0, 0, 0, 0⟩)
/-- a def that may be called by its name -/
structure Cal (P : Program) (w : World) (K : PySem.W.Frag) (mg : Str → Option Value) (base : Heap) (k : Nat) (x : Str) (sp : Sp) : Prop where
  ex : ∃ (f : Addr) (fd : FuncData) (ps : List Str), FnOk P w K mg base CX0 k f fd ps sp ∧ mg x = some (.ref f) ∧ PySem.W.keepIn K (.ref f) = true ∧ Binds K fd ps []
structure Met (P : Program) (w : World) (K : PySem.W.Frag) (mg : Str → Option Value) (base : Heap) (k : Nat) (C : Addr) (m : Str) (sp : Sp) : Prop where
  ex : ∃ (f : Addr) (fd : FuncData) (ps : List Str), Cls K C ∧ Meth K C m f ∧ FnOk P w K mg base CX0 k f fd ps sp ∧ Binds K fd ps []
structure Mak (P : Program) (w : World) (K : PySem.W.Frag) (mg : Str → Option Value) (base : Heap) (k : Nat) (x : Str) (C : Addr) (sp : Sp) : Prop where
  ex : ∃ (f : Addr) (fd : FuncData) (ps : List Str), Mk K C f ∧ FnOk P w K mg base CX0 k f fd ps sp ∧ mg x = some (.ref C) ∧ Binds K fd ps []
section
variable {X : Cx} {x : Str} {pos : Pos}
theorem pe_gl {v : V} (hg : Gl X x) (h : ∃ u, X.mg x = some u ∧ RelV v u) (hd : (x == ("__debug__" : Str)) = false := by decide) : PE X (.Name x pos) (tC v) := by
  obtain ⟨u, h1, h2⟩ := h
  exact pe_glob hg h1 h2 hd
end
/-! within a comprehension's block: the frame's own K, so that nothing hangs on the block -/
theorem pe_fd {K : PySem.W.Frag} {X : Cx} {e : Expr} {f : Str} {pos : Pos} {ta : TE} (hK : X.K = K) (he : PE X e ta) (hb : attributeBase e f X.env (eval e X.env) = eval e X.env := by rfl) : PE X (.Attribute e f pos) (tFld K ta f) := hK ▸ pe_fld he hb
theorem ix_listK {K : PySem.W.Frag} {X : Cx} (hK : X.K = K) : IxR X (rIxL K) := hK ▸ ix_list
theorem same_new {H : Hp} {r : Addr} {o : HO} (h : H r = none) : Same H (upd H r o) := fun b u e => by
  rw [upd_ne (ne_of_none e h)]
  exact e
theorem if_t {c : Bool} {A B : Prop} (hc : c = true) (h : A) : if c = true then A else B := by
  rw [if_pos hc]
  exact h
theorem if_f {c : Bool} {A B : Prop} (hc : c = false) (h : B) : if c = true then A else B := by
  rw [hc, if_neg Bool.false_ne_true]
  exact h
theorem if_b {c : Bool} {A B : Prop} (h1 : c = true → A) (h2 : c = false → B) : if c = true then A else B := by
  cases c with
  | true => rw [if_pos rfl]; exact h1 rfl
  | false => rw [if_neg Bool.false_ne_true]; exact h2 rfl
theorem take_more {α : Type} : ∀ {l : List α} {i : Nat} {x : α}, l[i]? = some x → l.take (i + 1) = l.take i ++ [x]
  | [], i, x, h => by simp at h
  | a :: l, 0, x, h => by
    have e : a = x := Option.some.inj h
    subst e
    rfl
  | a :: l, i + 1, x, h => by
    have ih := take_more (l := l) (i := i) (x := x) h
    show a :: l.take (i + 1) = a :: l.take i ++ [x]
    rw [ih]
    rfl
theorem map_int_at {ns : List Int} {i : Nat} {y : V} (h : (ns.map V.int)[i]? = some y) : ∃ z, ns[i]? = some z ∧ y = V.int z := by
  rw [List.getElem?_map] at h
  cases e : ns[i]? with
  | none =>
    rw [e] at h
    cases h
  | some z =>
    rw [e] at h
    exact ⟨z, rfl, (Option.some.inj h).symm⟩
theorem same_upd {H H' : Hp} {D : Addr} {o : HO} (s : Same H H') (h : H D = none) : Same H (upd H' D o) := fun b u e => by
  rw [upd_ne (ne_of_none e h)]
  exact s b u e
theorem same_both {H H' : Hp} {D : Addr} {o : HO} (s : Same H H') : Same (upd H D o) (upd H' D o) := fun b u e => by
  by_cases z : b = D
  · subst z
    rw [upd_same] at e ⊢
    exact e
  · rw [upd_ne z] at e ⊢
    exact s b u e
abbrev Desk := Kp388.Desk
def il (l : List Int) : HO := .lst (l.map V.int)
/-- a new list is handed back, nothing is changed -/
def New (H : Hp) (l : List V) (Q : VK) : Prop := ∀ H' r, Same H H' → H r = none → H' r = some (.lst l) → Q (.ref r) H'
theorem pay_at {l : List Int} {i : Nat} (h : i < l.length) : atI (l.map V.int) (i : Int) = some (.int (l.getD i 0)) := by
  refine atI_nat ?_
  rw [List.getElem?_map, List.getElem?_eq_getElem h, List.getD_eq_getElem?_getD, List.getElem?_eq_getElem h]
  rfl
theorem getD_bd {l : List Int} (h : ∀ x ∈ l, -100000 ≤ x ∧ x ≤ 100000) (i : Nat) : -100000 ≤ l.getD i 0 ∧ l.getD i 0 ≤ 100000 := by
  rw [List.getD_eq_getElem?_getD]
  cases e : l[i]? with
  | none => exact ⟨by decide, by decide⟩
  | some x => exact h x (List.mem_of_getElem? e)
theorem ixN_nat {n i : Nat} (h : i < n) : ixN n (i : Int) = some i := by
  unfold ixN
  rw [if_pos (by omega), if_pos (by omega)]
  rfl
theorem mp_more {α : Type} (f : Nat → α) (i : Nat) : (List.range (i + 1)).map f = (List.range i).map f ++ [f i] := by
  rw [List.range_succ, List.map_append]
  rfl
theorem il_more (f : Nat → Int) (i : Nat) : HO.lst (((List.range i).map f).map V.int ++ [V.int (f i)]) = il ((List.range (i + 1)).map f) := by
  unfold il
  rw [mp_more, List.map_append]
  rfl
theorem zadd (i : Nat) : (0 : Int) + (i : Int) = i := by omega
/-- what the top has written -/
structure Txt (K : PySem.W.Frag) (mg : Str → Option Value) (C CS : Addr) : Prop where
  clS : Cls K CS
  cl : Cls K C
  n_places : NoAttr K CS "places"
  n_acts : NoAttr K CS "acts"
  n_g : NoAttr K CS "g"
  n_h : NoAttr K CS "h"
  n_setting : NoAttr K C "setting"
  n_pays : NoAttr K C "pays"
  z_abs : mg "abs" = none
  z_len : mg "len" = none
  z_range : mg "range" = none
  z_list : mg "list" = none
  z_max : mg "max" = none
  g_MOST_IN_PATH : ∃ u, mg "MOST_IN_PATH" = some u ∧ RelV (.int 13) u
  g_NO_SUCH : ∃ u, mg "NO_SUCH" = some u ∧ RelV (.int 2) u
  g_NOT_BEGUN : ∃ u, mg "NOT_BEGUN" = some u ∧ RelV (.int 11) u
  g_NOT_FIT : ∃ u, mg "NOT_FIT" = some u ∧ RelV (.int 22) u
  g_NONE_THERE : ∃ u, mg "NONE_THERE" = some u ∧ RelV (.int 33) u
  g_TOO_MUCH : ∃ u, mg "TOO_MUCH" = some u ∧ RelV (.int 75) u
  g_MOST_IN_ROW : ∃ u, mg "MOST_IN_ROW" = some u ∧ RelV (.int 1000) u
  g_MOST_PAY : ∃ u, mg "MOST_PAY" = some u ∧ RelV (.int 100000) u
  g_MOST_FACTOR : ∃ u, mg "MOST_FACTOR" = some u ∧ RelV (.int 100) u
end SP

set_option Elab.async false
set_option maxRecDepth 100000
set_option maxHeartbeats 2000000
set_option linter.unusedVariables false
namespace SP
open PySem PySem.Spec PyProof.Rows L2
/-! ### refused, within, common_part, fraction; all_zero, first_not_zero, factor_between, is_one_pay, yes_or_no, told_fractions -/
abbrev s_refused : Stmt := topS 18
abbrev n_refused : List Str := ["number"]
theorem sc_refused : FnScope n_refused ["number"] (defScope s_refused) := ⟨rfl, rfl, rfl, by decide +kernel, rfl, by decide +kernel, by decide +kernel⟩
abbrev s_within : Stmt := topS 19
abbrev n_within : List Str := ["numbers", "most", "number"]
theorem sc_within : FnScope n_within ["numbers", "most"] (defScope s_within) := ⟨rfl, rfl, rfl, by decide +kernel, rfl, by decide +kernel, by decide +kernel⟩
abbrev s_common_part : Stmt := topS 2
abbrev n_common_part : List Str := ["a", "b", "rest"]
theorem sc_common_part : FnScope n_common_part ["a", "b"] (defScope s_common_part) := ⟨rfl, rfl, rfl, by decide +kernel, rfl, by decide +kernel, by decide +kernel⟩
abbrev s_fraction : Stmt := topS 3
abbrev n_fraction : List Str := ["upper", "lower", "common"]
theorem sc_fraction : FnScope n_fraction ["upper", "lower"] (defScope s_fraction) := ⟨rfl, rfl, rfl, by decide +kernel, rfl, by decide +kernel, by decide +kernel⟩
abbrev s_all_zero : Stmt := topS 4
abbrev n_all_zero : List Str := ["numbers", "number"]
theorem sc_all_zero : FnScope n_all_zero ["numbers"] (defScope s_all_zero) := ⟨rfl, rfl, rfl, by decide +kernel, rfl, by decide +kernel, by decide +kernel⟩
abbrev s_first_not_zero : Stmt := topS 5
abbrev n_first_not_zero : List Str := ["numbers", "at"]
theorem sc_first_not_zero : FnScope n_first_not_zero ["numbers"] (defScope s_first_not_zero) := ⟨rfl, rfl, rfl, by decide +kernel, rfl, by decide +kernel, by decide +kernel⟩
abbrev s_factor_between : Stmt := topS 6
abbrev n_factor_between : List Str := ["first", "second", "at", "k"]
theorem sc_factor_between : FnScope n_factor_between ["first", "second"] (defScope s_factor_between) := ⟨rfl, rfl, rfl, by decide +kernel, rfl, by decide +kernel, by decide +kernel⟩
abbrev s_is_one_pay : Stmt := topS 20
abbrev n_is_one_pay : List Str := ["row"]
theorem sc_is_one_pay : FnScope n_is_one_pay ["row"] (defScope s_is_one_pay) := ⟨rfl, rfl, rfl, by decide +kernel, rfl, by decide +kernel, by decide +kernel⟩
abbrev s_yes_or_no : Stmt := topS 21
abbrev n_yes_or_no : List Str := ["truth"]
theorem sc_yes_or_no : FnScope n_yes_or_no ["truth"] (defScope s_yes_or_no) := ⟨rfl, rfl, rfl, by decide +kernel, rfl, by decide +kernel, by decide +kernel⟩
abbrev s_told_fractions : Stmt := topS 22
abbrev n_told_fractions : List Str := ["first", "uppers", "lower", "told", "upper"]
theorem sc_told_fractions : FnScope n_told_fractions ["first", "uppers", "lower"] (defScope s_told_fractions) := ⟨rfl, rfl, rfl, by decide +kernel, rfl, by decide +kernel, by decide +kernel⟩
def spRefused : Sp := fun vs H Q _ => ∃ (i : Int), vs = [.int i] ∧ ∀ H' r, Same H H' → H r = none → H' r = some (.lst [.int (-i)]) → Q (.ref r) H'
def ab (i : Int) : Int := if i < 0 then -i else i
theorem ab_nat (i : Int) : (ab i).toNat = i.natAbs := by unfold ab; split <;> omega
def wIn (most : Int) (ns : List Int) : Bool := ns.all fun x => decide (ab x ≤ most)
def spWithin (K : PySem.W.Frag) : Sp := fun vs H Q _ => ∃ (a : Addr) (ns : List Int) (most : Int), vs = [.ref a, .int most] ∧ SqL K H a (ns.map V.int) ∧ Q (.bl (wIn most ns)) H
def spCommon : Sp := fun vs H Q _ => ∃ (a b : Int), vs = [.int a, .int b] ∧ 0 ≤ a ∧ 0 ≤ b ∧ Q (.int (Nat.gcd a.toNat b.toNat : Nat)) H
def frV (u v : Int) : List V := [.int (Kp340.fr u v).1, .int (Kp340.fr u v).2]
def spFraction : Sp := fun vs H Q _ => ∃ (u v : Int), vs = [.int u, .int v] ∧ 0 < v ∧ v < 1073741824 ∧ ∀ H' r, Same H H' → H r = none → H' r = some (.lst (frV u v)) → Q (.ref r) H'
section
variable {P : Program} {w : World} {K : PySem.W.Frag} {mg : Str → Option Value} {base : Heap} {C CS : Addr}
theorem ok_refused {f : Addr} {fd : FuncData} (F : Fun K "refused" "refused" s_refused f fd) : FnOk P w K mg base CX0 1 f fd ["number"] spRefused := by
  refine F.ok sc_refused (fun vs H Q E h => ?_) (fun cdv A outer s H vs Q E hr h => ⟨_, (pss_one (ps_ret (pe_lst (pa_cons (pe_un un_neg (pv 0)) pa_nil)))), ?_⟩)
  · obtain ⟨i, rfl, _⟩ := h
    rfl
  · obtain ⟨i, rfl, k⟩ := h
    exact ⟨_, rfl, _, rfl, by show 1 ≤ sizeLine; decide, fun r hr => k _ r (same_new hr) hr upd_same⟩
theorem ok_within {f : Addr} {fd : FuncData} (F : Fun K "within" "within" s_within f fd) (T : Txt K mg C CS) : FnOk P w K mg base CX0 1 f fd ["numbers", "most"] (spWithin K) := by
  refine F.ok sc_within (fun vs H Q E h => ?_) (fun cdv A outer s H vs Q E hr h => ⟨_, (pss_cons (ps_for PassesOwn.never rfl (pi_list (pv 0)) (pg_name (i := 2) sc_within.nd rfl (Or.inl rfl)) (pss_one (ps_if (pt_cmpR op_gt (pe_callB call_abs (by rfl) T.z_abs (by decide +kernel) (pa_cons (pv 2) pa_nil)) (pv 1) (nomark _)) (pss_one (ps_ret pe_bl)) pss_nil)))
      (pss_one (ps_ret pe_bl))), ?_⟩)
  · obtain ⟨a, ns, most, rfl, _⟩ := h
    rfl
  · obtain ⟨a, ns, most, rfl, hS, k⟩ := h
    refine ⟨_, rfl, a, rfl, ⟨_, hS⟩, for_list (K := K) (a := a) (xs := ns.map V.int) (fun i σ H' => ∃ v : Option V, σ = [some (.ref a), some (.int most), v] ∧ H' = H ∧ wIn most (ns.take i) = true)
      ⟨none, rfl, rfl, rfl⟩ (fun i σ H' _ ⟨_, _, e, _⟩ => e ▸ hS) ?_ ?_⟩
    · rintro i y σ H' hi ⟨v, rfl, rfl, hw⟩
      obtain ⟨z, hz, rfl⟩ := map_int_at hi
      refine ⟨_, rfl, _, rfl, _, rfl, _, _, rfl, rfl, _, rfl, ?_⟩
      refine if_b (fun c => ?_) (fun c => ?_)
      · have hf : wIn most ns = false := by
          have c1 : most < ab z := of_decide_eq_true c
          refine List.all_eq_false.mpr ⟨z, List.mem_of_getElem? hz, ?_⟩
          rw [decide_eq_false (by omega)]
          decide
        rw [hf] at k
        exact k
      · refine ⟨some (.int z), rfl, rfl, ?_⟩
        have c1 : ¬ most < ab z := of_decide_eq_false c
        rw [take_more hz]
        unfold wIn at hw ⊢
        rw [List.all_append, hw]
        show (true && (decide (ab z ≤ most) && true)) = true
        rw [decide_eq_true (by omega)]
        rfl
    · rintro σ H' ⟨v, rfl, rfl, hw⟩
      rw [List.length_map, List.take_length] at hw
      rw [hw] at k
      exact k
def yOf (σ : L2.St) (_ : Hp) : Nat := match σ with
  | _ :: some (.int y) :: _ => y.toNat
  | _ => 0
theorem ok_common {f : Addr} {fd : FuncData} (F : Fun K "common_part" "common_part" s_common_part f fd) : FnOk P w K mg base CX0 1 f fd ["a", "b"] spCommon := by
  refine F.ok sc_common_part (fun vs H Q E h => ?_) (fun cdv A outer s H vs Q E hr h => ⟨_, (pss_cons (ps_while PassesOwn.never (pt_cmpR op_gt (pv 1) pe_int (nomark _)) (pss_cons (ps_set (i := 2) sc_common_part.nd rfl (Or.inl rfl) (pe_op op_mod (pv 0) (pv 1)))
      (pss_cons (ps_set (i := 0) sc_common_part.nd rfl (Or.inl rfl) (pv 1))
      (pss_one (ps_set (i := 1) sc_common_part.nd rfl (Or.inl rfl) (pv 2))))))
      (pss_one (ps_ret (pv 0)))), ?_⟩)
  · obtain ⟨a, b, rfl, _⟩ := h
    rfl
  · obtain ⟨a, b, rfl, ha, hb, k⟩ := h
    refine while_by (fun σ H' => ∃ (x y : Int) (v : Option V), σ = [some (.int x), some (.int y), v] ∧ H' = H ∧ 0 ≤ x ∧ 0 ≤ y ∧ Nat.gcd x.toNat y.toNat = Nat.gcd a.toNat b.toNat) yOf ⟨a, b, none, rfl, rfl, ha, hb, rfl⟩ ?_ ?_
    · rintro σ H' ⟨x, y, v, rfl, rfl, hx, hy, hg⟩
      refine ⟨_, rfl, _, _, rfl, rfl, _, rfl, ?_⟩
      refine if_b (fun c => ?_) (fun c => ?_)
      · have c1 : 0 < y := of_decide_eq_true c
        refine ⟨_, rfl, _, rfl, _, _, rfl, rfl, c1, ?_⟩
        refine ⟨_, rfl, _, rfl, ⟨y, x % y, some (.int (x % y)), rfl, rfl, hy, Int.emod_nonneg _ (by omega), ?_⟩, ?_⟩
        · rw [← hg, Int.toNat_emod hx hy, Nat.gcd_comm x.toNat y.toNat, Nat.gcd_rec y.toNat x.toNat, Nat.gcd_comm]
        · show (x % y).toNat < y.toNat
          have := Int.emod_lt_of_pos x c1
          have := Int.emod_nonneg x (by omega : y ≠ 0)
          omega
      · have c1 : ¬ 0 < y := of_decide_eq_false c
        have e : y = 0 := by omega
        refine ⟨_, rfl, ?_⟩
        subst e
        rw [show (0 : Int).toNat = 0 from rfl, Nat.gcd_zero_right] at hg
        rw [← hg] at k
        have e2 : ((x.toNat : Nat) : Int) = x := by omega
        rw [e2] at k
        exact k
    · rintro σ H' Q1 Q2 hq ⟨v, hv, i, j, e1, e2, kk, e3, q⟩
      exact ⟨v, hv, i, j, e1, e2, kk, e3, hq _ _ q⟩
theorem ok_fraction {f : Addr} {fd : FuncData} (F : Fun K "fraction" "fraction" s_fraction f fd) (T : Txt K mg C CS) (M_common_part : Cal P w K mg base 1 "common_part" spCommon) : FnOk P w K mg base CX0 2 f fd ["upper", "lower"] spFraction := by
  obtain ⟨f_common_part, fd_common_part, ps_common_part, F_common_part, g_common_part, k_common_part, b_common_part⟩ := M_common_part.ex
  refine F.ok sc_fraction (fun vs H Q E h => ?_) (fun cdv A outer s H vs Q E hr h => ⟨_, (pss_cons (ps_set (i := 2) sc_fraction.nd rfl (Or.inl rfl) (pe_call F_common_part (hr.mono (by decide)) rfl g_common_part k_common_part b_common_part .nil pass0 (pa_cons (pe_callB call_abs (by rfl) T.z_abs (by decide +kernel) (pa_cons (pv 0) pa_nil)) (pa_cons (pv 1) pa_nil))))
      (pss_one (ps_ret (pe_lst (pa_cons (pe_op op_fdiv (pv 0) (pv 2)) (pa_cons (pe_op op_fdiv (pv 1) (pv 2)) pa_nil)))))), ?_⟩)
  · obtain ⟨u, v, rfl, _⟩ := h
    rfl
  · obtain ⟨u, v, rfl, hv, hb, k⟩ := h
    have e0 : (v.toNat) = v.natAbs := by omega
    have gp := gpos (a := u) hv
    have gl : Nat.gcd u.natAbs v.natAbs ≤ v.natAbs := Nat.le_of_dvd (by omega) (Nat.gcd_dvd_right _ _)
    refine ⟨_, rfl, _, rfl, _, rfl, ab u, v, rfl, by unfold ab; split <;> omega, by omega, ?_⟩
    rw [ab_nat, e0]
    have c : CDiv u ((Nat.gcd u.natAbs v.natAbs : Nat) : Int) := ⟨by omega, by omega⟩
    refine ⟨_, rfl, _, rfl, _, _, rfl, rfl, c, _, rfl, _, rfl, _, _, rfl, rfl, c, by show 2 ≤ sizeLine; decide, fun r hr => k _ r (same_new hr) hr ?_⟩
    rw [upd_same]
    unfold frV
    rw [fr_eqn hv]
def spAllZero (K : PySem.W.Frag) : Sp := fun vs H Q _ => ∃ (a : Addr) (ns : List Int), vs = [.ref a] ∧ SqL K H a (ns.map V.int) ∧ Q (.bl (zer ns)) H
theorem ok_allzero {f : Addr} {fd : FuncData} (F : Fun K "all_zero" "all_zero" s_all_zero f fd) : FnOk P w K mg base CX0 1 f fd ["numbers"] (spAllZero K) := by
  refine F.ok sc_all_zero (fun vs H Q E h => ?_) (fun cdv A outer s H vs Q E hr h => ⟨_, (pss_cons (ps_for PassesOwn.never rfl (pi_list (pv 0)) (pg_name (i := 1) sc_all_zero.nd rfl (Or.inl rfl)) (pss_one (ps_if (pt_cmpR op_ne (pv 1) pe_int (nomark _)) (pss_one (ps_ret pe_bl)) pss_nil)))
      (pss_one (ps_ret pe_bl))), ?_⟩)
  · obtain ⟨a, ns, rfl, _⟩ := h
    rfl
  · obtain ⟨a, ns, rfl, hS, k⟩ := h
    refine ⟨_, rfl, a, rfl, ⟨_, hS⟩, for_list (K := K) (a := a) (xs := ns.map V.int) (fun i σ H' => ∃ v : Option V, σ = [some (.ref a), v] ∧ H' = H ∧ zer (ns.take i) = true)
      ⟨none, rfl, rfl, rfl⟩ (fun i σ H' _ ⟨_, _, e, _⟩ => e ▸ hS) ?_ ?_⟩
    · rintro i y σ H' hi ⟨v, rfl, rfl, hw⟩
      obtain ⟨z, hz, rfl⟩ := map_int_at hi
      refine ⟨_, rfl, rfl, _, rfl, ?_⟩
      refine if_b (fun c => ?_) (fun c => ?_)
      · have c1 : z ≠ 0 := by
          intro e
          subst e
          simp at c
        have hf : zer ns = false := by
          refine List.all_eq_false.mpr ⟨z, List.mem_of_getElem? hz, ?_⟩
          rw [decide_eq_false c1]
          decide
        rw [hf] at k
        exact k
      · have c1 : z = 0 := by simpa using c
        refine ⟨some (.int z), rfl, rfl, ?_⟩
        rw [take_more hz]
        unfold zer at hw ⊢
        rw [List.all_append, hw, c1]
        rfl
    · rintro σ H' ⟨v, rfl, rfl, hw⟩
      rw [List.length_map, List.take_length] at hw
      rw [hw] at k
      exact k
def fnz (ns : List Int) : Option Nat := ns.findIdx? fun x => !decide (x = 0)
def spFirst (K : PySem.W.Frag) : Sp := fun vs H Q _ => ∃ (a : Addr) (ns : List Int) (j : Nat), vs = [.ref a] ∧ SqL K H a (ns.map V.int) ∧ fnz ns = some j ∧ Q (.int (j : Nat)) H
def atOf1 (j : Nat) (σ : L2.St) (_ : Hp) : Nat := match σ with
  | _ :: some (.int y) :: _ => j - y.toNat
  | _ => 0
theorem fnz_at {ns : List Int} {j : Nat} (h : fnz ns = some j) : j < ns.length ∧ ns.getD j 0 ≠ 0 ∧ ∀ i < j, ns.getD i 0 = 0 := by
  obtain ⟨hlt, hnz, hb⟩ := List.findIdx?_eq_some_iff_getElem.mp h
  refine ⟨hlt, ?_, fun i hi => ?_⟩
  · rw [List.getD_eq_getElem?_getD, List.getElem?_eq_getElem hlt]
    simpa using hnz
  · have := hb i hi
    rw [List.getD_eq_getElem?_getD, List.getElem?_eq_getElem (by omega)]
    simpa using this
theorem ok_first {f : Addr} {fd : FuncData} (F : Fun K "first_not_zero" "first_not_zero" s_first_not_zero f fd) : FnOk P w K mg base CX0 1 f fd ["numbers"] (spFirst K) := by
  refine F.ok sc_first_not_zero (fun vs H Q E h => ?_) (fun cdv A outer s H vs Q E hr h => ⟨_, (pss_cons (ps_set (i := 1) sc_first_not_zero.nd rfl (Or.inl rfl) pe_int)
      (pss_cons (ps_while PassesOwn.never (pt_cmpR op_eq (pe_ix ix_list (pv 0) (pv 1) (fun _ _ => rfl)) pe_int (nomark _)) (pss_one (ps_set (i := 1) sc_first_not_zero.nd rfl (Or.inl rfl) (pe_op op_add (pv 1) pe_int))))
      (pss_one (ps_ret (pv 1))))), ?_⟩)
  · obtain ⟨a, ns, j, rfl, _⟩ := h
    rfl
  · obtain ⟨a, ns, j, rfl, hS, hj, k⟩ := h
    obtain ⟨h1, h2, h3⟩ := fnz_at hj
    refine while_by (fun σ H' => ∃ i : Nat, σ = [some (.ref a), some (.int (i : Nat))] ∧ H' = H ∧ i ≤ j) (atOf1 j) ⟨0, rfl, rfl, by omega⟩ ?_ ?_
    · rintro σ H' ⟨i, rfl, rfl, hi⟩
      refine ⟨_, rfl, _, rfl, a, _, _, _, rfl, rfl, hS, pay_at (by omega), rfl, _, rfl, ?_⟩
      refine if_b (fun c => ?_) (fun c => ?_)
      · have c1 : ns.getD i 0 = 0 := by
          have := of_decide_eq_true c
          exact V.int.inj this
        have c2 : i ≠ j := fun e => h2 (e ▸ c1)
        refine ⟨_, rfl, _, _, rfl, rfl, ⟨i + 1, rfl, rfl, by omega⟩, ?_⟩
        show j - ((i : Int) + 1).toNat < j - ((i : Nat) : Int).toNat
        omega
      · have c1 : ns.getD i 0 ≠ 0 := fun e => by
          have := of_decide_eq_false c
          exact this (congrArg V.int e)
        have c2 : i = j := by
          rcases Nat.lt_or_ge i j with z | z
          · exact absurd (h3 i z) c1
          · omega
        subst c2
        exact ⟨_, rfl, k⟩
    · rintro σ H' Q1 Q2 hq ⟨v, hv, u, hu, p, xs, i, y, e1, e2, e3, e4, e5, kk, e6, q⟩
      exact ⟨v, hv, u, hu, p, xs, i, y, e1, e2, e3, e4, e5, kk, e6, hq _ _ q⟩
/-- a fraction or none -/
def spFacB (K : PySem.W.Frag) : Sp := fun vs H Q _ => ∃ (a b : Addr) (as bs : List Int), vs = [.ref a, .ref b] ∧ SqL K H a (as.map V.int) ∧ SqL K H b (bs.map V.int) ∧ bs.length = as.length ∧ as.length ≤ 1000 ∧ (∀ i, (as.getD i 0).natAbs ≤ 3000000) ∧ (∀ i, (bs.getD i 0).natAbs ≤ 3000000) ∧
  (facL as bs = none → ∀ H', Same H H' → Q .non H') ∧ ∀ x, facL as bs = some x → New H [.int x.1, .int x.2] Q
theorem ab_abs (i : Int) : ab i = (i.natAbs : Int) := by unfold ab; split <;> omega
theorem ok_facb {f : Addr} {fd : FuncData} (F : Fun K "factor_between" "factor_between" s_factor_between f fd) (T : Txt K mg C CS) (M_fraction : Cal P w K mg base 2 "fraction" spFraction) (M_all_zero : Cal P w K mg base 1 "all_zero" (spAllZero K)) (M_first_not_zero : Cal P w K mg base 1 "first_not_zero" (spFirst K)) : FnOk P w K mg base CX0 3 f fd ["first", "second"] (spFacB K) := by
  obtain ⟨f_fraction, fd_fraction, ps_fraction, F_fraction, g_fraction, k_fraction, b_fraction⟩ := M_fraction.ex
  obtain ⟨f_all_zero, fd_all_zero, ps_all_zero, F_all_zero, g_all_zero, k_all_zero, b_all_zero⟩ := M_all_zero.ex
  obtain ⟨f_first_not_zero, fd_first_not_zero, ps_first_not_zero, F_first_not_zero, g_first_not_zero, k_first_not_zero, b_first_not_zero⟩ := M_first_not_zero.ex
  refine F.ok sc_factor_between (fun vs H Q E h => ?_) (fun cdv A outer s H vs Q E hr h => ⟨_, (pss_cons (ps_if (pt_val (pe_call F_all_zero (hr.mono (by decide)) rfl g_all_zero k_all_zero b_all_zero .nil pass0 (pa_cons (pv 0) pa_nil))) (pss_one (ps_ret (pe_ifExp (pt_val (pe_call F_all_zero (hr.mono (by decide)) rfl g_all_zero k_all_zero b_all_zero .nil pass0 (pa_cons (pv 1) pa_nil))) (pe_lst (pa_cons pe_int (pa_cons pe_int pa_nil))) pe_non))) pss_nil)
      (pss_cons (ps_set (i := 2) sc_factor_between.nd rfl (Or.inl rfl) (pe_call F_first_not_zero (hr.mono (by decide)) rfl g_first_not_zero k_first_not_zero b_first_not_zero .nil pass0 (pa_cons (pv 0) pa_nil)))
      (pss_cons (ps_if (pt_cmpR op_le (pe_op op_mul (pe_ix ix_list (pv 0) (pv 2) (fun _ _ => rfl)) (pe_ix ix_list (pv 1) (pv 2) (fun _ _ => rfl))) pe_int (nomark _)) (pss_one (ps_ret pe_non)) pss_nil)
      (pss_cons (ps_for PassesOwn.never rfl (pi_range1 (by rfl) T.z_range (pa_cons (pe_callB call_len_seq (by rfl) T.z_len PySem.boot_len (pa_cons (pv 0) pa_nil)) pa_nil)) (pg_name (i := 3) sc_factor_between.nd rfl (Or.inl rfl)) (pss_one (ps_if (pt_cmpR op_ne (pe_op op_mul (pe_ix ix_list (pv 0) (pv 3) (fun _ _ => rfl)) (pe_ix ix_list (pv 1) (pv 2) (fun _ _ => rfl))) (pe_op op_mul (pe_ix ix_list (pv 1) (pv 3) (fun _ _ => rfl)) (pe_ix ix_list (pv 0) (pv 2) (fun _ _ => rfl))) (nomark _)) (pss_one (ps_ret pe_non)) pss_nil)))
      (pss_one (ps_ret (pe_call F_fraction (hr.mono (by decide)) rfl g_fraction k_fraction b_fraction .nil pass0 (pa_cons (pe_callB call_abs (by rfl) T.z_abs (by decide +kernel) (pa_cons (pe_ix ix_list (pv 1) (pv 2) (fun _ _ => rfl)) pa_nil)) (pa_cons (pe_callB call_abs (by rfl) T.z_abs (by decide +kernel) (pa_cons (pe_ix ix_list (pv 0) (pv 2) (fun _ _ => rfl)) pa_nil)) pa_nil))))))))), ?_⟩)
  · obtain ⟨a, b, as, bs, rfl, _⟩ := h
    rfl
  · obtain ⟨a, b, as, bs, rfl, hA, hB, hl, h1000, ba, bb, kn, ks⟩ := h
    refine ⟨_, rfl, a, as, rfl, hA, _, rfl, ?_⟩
    refine if_b (fun c => ?_) (fun c => ?_)
    · have e : facL as bs = if zer bs = true then some (1, 1) else none := by
        unfold facL
        rw [zer_find.mpr c]
      refine ⟨_, rfl, b, bs, rfl, hB, _, rfl, if_b (fun c2 => ?_) fun c2 => ?_⟩
      · refine ⟨by show 2 ≤ sizeLine; decide, fun r nr => ?_⟩
        rw [if_pos c2] at e
        exact ks _ e _ r (same_new nr) nr upd_same
      · rw [if_neg (by rw [c2]; decide)] at e
        exact kn e _ (Same.refl _)
    · obtain ⟨j, hj⟩ : ∃ j, fnz as = some j := by
        cases e : fnz as with
        | none =>
          have := zer_find.mp e
          rw [c] at this
          cases this
        | some j => exact ⟨j, rfl⟩
      obtain ⟨h1, h2, h3⟩ := fnz_at hj
      have e : facL as bs = if 0 < as.getD j 0 * bs.getD j 0 ∧ ∀ k < as.length, as.getD k 0 * bs.getD j 0 = bs.getD k 0 * as.getD j 0 then some (Kp340.fr ((bs.getD j 0).natAbs : Int) ((as.getD j 0).natAbs : Int)) else none := by
        unfold facL
        have hj' : (as.findIdx? fun x => !decide (x = 0)) = some j := hj
        rw [hj']
      have aj := pay_at h1
      have bj : atI (bs.map V.int) (j : Int) = some (.int (bs.getD j 0)) := pay_at (by omega)
      have c1 := ba j
      have c2 := bb j
      refine ⟨_, rfl, a, as, j, rfl, hA, hj, ?_⟩
      refine ⟨_, rfl, _, rfl, a, _, _, _, rfl, rfl, hA, aj, _, rfl, _, rfl, b, _, _, _, rfl, rfl, hB, bj, _, _, rfl, rfl, .inl ⟨by omega, by omega⟩, _, _, rfl, rfl, _, rfl, ?_⟩
      refine if_b (fun c => ?_) (fun c => ?_)
      · have := of_decide_eq_true c
        rw [if_neg (fun z => by omega)] at e
        exact kn e _ (Same.refl _)
      have hp := of_decide_eq_false c
      refine ⟨_, rfl, a, _, rfl, .inl hA, _, rfl, ?_, ?_, for_range (n := (as.map V.int).length) (fun i σ H' => ∃ v : Option V, σ = [some (.ref a), some (.ref b), some (.int (j : Nat)), v] ∧ H' = H ∧ ∀ k < i, as.getD k 0 * bs.getD j 0 = bs.getD k 0 * as.getD j 0) ⟨none, rfl, rfl, fun k hk => by omega⟩ ?_ ?_⟩
      · rw [List.length_map]; omega
      · rw [List.length_map]; omega
      · rintro i σ H' hi ⟨v, rfl, rfl, hw⟩
        rw [List.length_map] at hi
        rw [zadd]
        have d1 := ba i
        have d2 := bb i
        refine ⟨_, rfl, _, rfl, a, _, _, _, rfl, rfl, hA, pay_at hi, _, rfl, _, rfl, b, _, _, _, rfl, rfl, hB, bj, _, _, rfl, rfl, .inl ⟨by omega, by omega⟩, ?_⟩
        refine ⟨_, rfl, _, rfl, b, _, _, _, rfl, rfl, hB, pay_at (by omega), _, rfl, _, rfl, a, _, _, _, rfl, rfl, hA, aj, _, _, rfl, rfl, .inl ⟨by omega, by omega⟩, rfl, _, rfl, ?_⟩
        refine if_b (fun c => ?_) (fun c => ?_)
        · have c3 : as.getD i 0 * bs.getD j 0 ≠ bs.getD i 0 * as.getD j 0 := fun z => by
            rw [Bool.not_eq_true', decide_eq_false_iff_not] at c
            exact c (congrArg V.int z)
          rw [if_neg (fun z => c3 (z.2 i hi))] at e
          exact kn e _ (Same.refl _)
        · have c3 : as.getD i 0 * bs.getD j 0 = bs.getD i 0 * as.getD j 0 := by
            rw [Bool.not_eq_false', decide_eq_true_eq] at c
            exact V.int.inj c
          refine ⟨_, rfl, rfl, fun k hk => ?_⟩
          rcases Nat.lt_or_ge k i with z | z
          · exact hw k z
          · have : k = i := by omega
            rw [this]
            exact c3
      · rintro σ H' ⟨v, rfl, rfl, hw⟩
        rw [List.length_map] at hw
        rw [if_pos ⟨by omega, hw⟩] at e
        refine ⟨_, rfl, _, rfl, b, _, _, _, rfl, rfl, hB, bj, _, rfl, _, rfl, _, rfl, a, _, _, _, rfl, rfl, hA, aj, _, rfl, ab (bs.getD j 0), ab (as.getD j 0), rfl, ?_, ?_, ?_⟩
        · rw [ab_abs]; omega
        · rw [ab_abs]; omega
        · rw [ab_abs, ab_abs]
          exact ks _ e
def onePay (l : List Int) : Bool := decide (l.length = 1) && wIn 1000 l
def spOnePay (K : PySem.W.Frag) : Sp := fun vs H Q _ => ∃ (a : Addr) (l : List Int), vs = [.ref a] ∧ SqL K H a (l.map V.int) ∧ Q (.bl (onePay l)) H
theorem ok_onepay {f : Addr} {fd : FuncData} (F : Fun K "is_one_pay" "is_one_pay" s_is_one_pay f fd) (T : Txt K mg C CS) (M_within : Cal P w K mg base 1 "within" (spWithin K)) : FnOk P w K mg base CX0 2 f fd ["row"] (spOnePay K) := by
  obtain ⟨f_within, fd_within, ps_within, F_within, g_within, k_within, b_within⟩ := M_within.ex
  refine F.ok sc_is_one_pay (fun vs H Q E h => ?_) (fun cdv A outer s H vs Q E hr h => ⟨_, (pss_one (ps_ret (pe_and (pe_cmpR op_eq (pe_callB call_len_seq (by rfl) T.z_len PySem.boot_len (pa_cons (pv 0) pa_nil)) pe_int (nomark _)) (pe_one (pe_call F_within (hr.mono (by decide)) rfl g_within k_within b_within .nil pass0 (pa_cons (pv 0) (pa_cons (pe_gl rfl T.g_MOST_IN_ROW) pa_nil))))))), ?_⟩)
  · obtain ⟨a, l, rfl, _⟩ := h
    rfl
  · obtain ⟨a, l, rfl, hS, k⟩ := h
    have el : decide (V.int ((l.map V.int).length : Int) = V.int 1) = decide (l.length = 1) := by
      rw [List.length_map]
      refine decide_eq_decide.mpr ⟨fun z => ?_, fun z => by rw [z]; rfl⟩
      have := V.int.inj z
      omega
    unfold onePay at k
    refine ⟨_, rfl, a, _, rfl, .inl hS, rfl, _, rfl, ?_⟩
    try dsimp only
    rw [el]
    refine if_b (fun c => ?_) (fun c => ?_)
    · rw [c, Bool.true_and] at k
      exact ⟨_, rfl, a, l, _, rfl, hS, k⟩
    · rw [c, Bool.false_and] at k
      exact k
def spYes : Sp := fun vs H Q _ => ∃ b : Bool, vs = [.bl b] ∧ New H [.int (if b then 1 else 0)] Q
theorem ok_yes {f : Addr} {fd : FuncData} (F : Fun K "yes_or_no" "yes_or_no" s_yes_or_no f fd) : FnOk P w K mg base CX0 1 f fd ["truth"] spYes := by
  refine F.ok sc_yes_or_no (fun vs H Q E h => ?_) (fun cdv A outer s H vs Q E hr h => ⟨_, (pss_one (ps_ret (pe_ifExp (pt_val (pv 0)) (pe_lst (pa_cons pe_int pa_nil)) (pe_lst (pa_cons pe_int pa_nil))))), ?_⟩)
  · obtain ⟨b, rfl, _⟩ := h
    rfl
  · obtain ⟨b, rfl, k⟩ := h
    refine ⟨_, rfl, _, rfl, if_b (fun c => ?_) fun c => ?_⟩
    · subst c
      exact ⟨by show 1 ≤ sizeLine; decide, fun r nr => k _ r (same_new nr) nr upd_same⟩
    · subst c
      exact ⟨by show 1 ≤ sizeLine; decide, fun r nr => k _ r (same_new nr) nr upd_same⟩
def spTold (K : PySem.W.Frag) : Sp := fun vs H Q _ => ∃ (i v : Int) (a : Addr) (us : List Int), vs = [.int i, .ref a, .int v] ∧ SqL K H a (us.map V.int) ∧ us.length ≤ 1000 ∧ 0 < v ∧ v < 1073741824 ∧ New H (.int i :: us.flatMap fun u => frV u v) Q
theorem flf_len (v : Int) : ∀ us : List Int, (us.flatMap fun u => frV u v).length = 2 * us.length
  | [] => rfl
  | u :: us => by
    rw [List.flatMap_cons, List.length_append, flf_len v us, List.length_cons]
    show 2 + _ = _
    omega
theorem ok_told {f : Addr} {fd : FuncData} (F : Fun K "told_fractions" "told_fractions" s_told_fractions f fd) (T : Txt K mg C CS) (M_fraction : Cal P w K mg base 2 "fraction" spFraction) : FnOk P w K mg base CX0 3 f fd ["first", "uppers", "lower"] (spTold K) := by
  obtain ⟨f_fraction, fd_fraction, ps_fraction, F_fraction, g_fraction, k_fraction, b_fraction⟩ := M_fraction.ex
  refine F.ok sc_told_fractions (fun vs H Q E h => ?_) (fun cdv A outer s H vs Q E hr h => ⟨_, (pss_cons (ps_set (i := 3) sc_told_fractions.nd rfl (Or.inl rfl) (pe_lst (pa_cons (pv 0) pa_nil)))
      (pss_cons (ps_for PassesOwn.never rfl (pi_list (pv 1)) (pg_name (i := 4) sc_told_fractions.nd rfl (Or.inl rfl)) (pss_one (ps_expr (pe_bm PySem.F.plainAttrs_list PySem.F.slot_list_extend PySem.F.type_list_extend mt_extend (pv 3) (pa_cons (pe_call F_fraction (hr.mono (by decide)) rfl g_fraction k_fraction b_fraction .nil pass0 (pa_cons (pv 4) (pa_cons (pv 2) pa_nil))) pa_nil)))))
      (pss_one (ps_ret (pv 3))))), ?_⟩)
  · obtain ⟨i, v, a, us, rfl, _⟩ := h
    rfl
  · obtain ⟨i, v, a, us, rfl, hS, hl, hv, hv2, k⟩ := h
    refine ⟨_, rfl, by show 1 ≤ sizeLine; decide, fun D nD => ?_⟩
    have s1 : Same H (upd H D (.lst [.int i])) := same_new nD
    refine ⟨_, rfl, a, rfl, ⟨_, s1.seq hS⟩, for_list (K := K) (a := a) (xs := us.map V.int) (fun j σ H' => ∃ x : Option V, σ = [some (.int i), some (.ref a), some (.int v), some (.ref D), x] ∧ Same H H' ∧ H' D = some (.lst (.int i :: (us.take j).flatMap fun u => frV u v)))
      ⟨none, rfl, s1, upd_same⟩ (fun j σ H' _ ⟨_, _, s2, _⟩ => s2.seq hS) ?_ ?_⟩
    · rintro j y σ H' hj ⟨x, rfl, s2, hD⟩
      obtain ⟨z, hz, rfl⟩ := map_int_at hj
      refine ⟨_, rfl, .inl ⟨rfl, _, SqL.of hD⟩, _, rfl, _, rfl, z, v, rfl, hv, hv2, fun H3 r s3 nr hr => ?_⟩
      have hD3 := s3 _ _ hD
      refine ⟨D, r, _, _, rfl, rfl, hD3, hr, ?_, some (.int z), rfl, same_upd (s2.trans s3) nD, ?_⟩
      · rw [List.length_cons, flf_len, List.length_take]
        show 2 * (min j us.length) + 1 + 2 ≤ sizeLine
        rw [sizeLine_eq]
        omega
      · rw [upd_same, take_more hz, List.flatMap_append]
        simp
    · rintro σ H' ⟨x, rfl, s2, hD⟩
      rw [List.length_map, List.take_length] at hD
      exact ⟨_, rfl, k _ _ s2 nD hD⟩
end
end SP

set_option Elab.async false
set_option maxRecDepth 100000
set_option maxHeartbeats 2000000
set_option linter.unusedVariables false
namespace SP
open PySem PySem.Spec PyProof.Rows L2
/-! ### Setting -/
theorem lk_here {k : Str} {v : V} {r : List (Str × V)} : List.lookup k ((k, v) :: r) = some v := by
  have e : (k == k) = true := beq_self_eq_true k
  simp only [List.lookup, e]
theorem lk_past {k g : Str} {v : V} {r : List (Str × V)} (h : (k == g) = false) : List.lookup k ((g, v) :: r) = List.lookup k r := by
  simp only [List.lookup, h]
theorem put_here {f : Str} {v x : V} {r : List (Str × V)} : putF f v ((f, x) :: r) = (f, v) :: r := if_pos rfl
theorem put_past {f g : Str} {v x : V} {r : List (Str × V)} (h : ¬ g = f) : putF f v ((g, x) :: r) = (g, x) :: putF f v r := if_neg h
/-- the fields of a setting -/
def sf (n m g h : Int) : List (Str × V) := [("places", .int n), ("acts", .int m), ("g", .int g), ("h", .int h)]
section
variable {n m g h : Int}
theorem sf_places : (sf n m g h).lookup ("places" : Str) = some (.int n) := lk_here
theorem sf_acts : (sf n m g h).lookup ("acts" : Str) = some (.int m) := (lk_past (by decide +kernel)).trans lk_here
theorem sf_g : (sf n m g h).lookup ("g" : Str) = some (.int g) := (lk_past (by decide +kernel)).trans ((lk_past (by decide +kernel)).trans lk_here)
theorem sf_h : (sf n m g h).lookup ("h" : Str) = some (.int h) := (lk_past (by decide +kernel)).trans ((lk_past (by decide +kernel)).trans ((lk_past (by decide +kernel)).trans lk_here))
theorem sf_no {k : Str} (h1 : (k == "places") = false := by decide +kernel) (h2 : (k == "acts") = false := by decide +kernel) (h3 : (k == "g") = false := by decide +kernel) (h4 : (k == "h") = false := by decide +kernel) : (sf n m g h).lookup k = none :=
  (lk_past h1).trans ((lk_past h2).trans ((lk_past h3).trans ((lk_past h4).trans rfl)))
end
/-- a setting's object -/
abbrev so (CS ds : Addr) (d : Desk) : HO := .ins CS ds (sf d.n d.m d.g d.h)
abbrev s_Setting_init : Stmt := inClass (topS 7) 0
abbrev n_Setting_init : List Str := ["self", "places", "acts", "g", "h"]
theorem sc_Setting_init : FnScope n_Setting_init ["self", "places", "acts", "g", "h"] (defScope s_Setting_init) := ⟨rfl, rfl, rfl, by decide +kernel, rfl, by decide +kernel, by decide +kernel⟩
abbrev s_Setting_size : Stmt := inClass (topS 7) 1
abbrev n_Setting_size : List Str := ["self"]
theorem sc_Setting_size : FnScope n_Setting_size ["self"] (defScope s_Setting_size) := ⟨rfl, rfl, rfl, by decide +kernel, rfl, by decide +kernel, by decide +kernel⟩
abbrev s_Setting_spot : Stmt := inClass (topS 7) 2
abbrev n_Setting_spot : List Str := ["self", "s", "x", "q"]
theorem sc_Setting_spot : FnScope n_Setting_spot ["self", "s", "x", "q"] (defScope s_Setting_spot) := ⟨rfl, rfl, rfl, by decide +kernel, rfl, by decide +kernel, by decide +kernel⟩
abbrev s_Setting_where : Stmt := inClass (topS 7) 3
abbrev n_Setting_where : List Str := ["self", "k", "row"]
theorem sc_Setting_where : FnScope n_Setting_where ["self", "k"] (defScope s_Setting_where) := ⟨rfl, rfl, rfl, by decide +kernel, rfl, by decide +kernel, by decide +kernel⟩
abbrev s_Setting_stay : Stmt := inClass (topS 7) 4
abbrev n_Setting_stay : List Str := ["self", "table", "s"]
theorem sc_Setting_stay : FnScope n_Setting_stay ["self", "table", "s"] (defScope s_Setting_stay) := ⟨rfl, rfl, rfl, by decide +kernel, rfl, by decide +kernel, by decide +kernel⟩
abbrev s_Setting_divisor : Stmt := inClass (topS 7) 5
abbrev n_Setting_divisor : List Str := ["self"]
theorem sc_Setting_divisor : FnScope n_Setting_divisor ["self"] (defScope s_Setting_divisor) := ⟨rfl, rfl, rfl, by decide +kernel, rfl, by decide +kernel, by decide +kernel⟩
abbrev s_Setting_own_potentials : Stmt := inClass (topS 7) 6
abbrev n_Setting_own_potentials : List Str := ["self", "table", "s"]
theorem sc_Setting_own_potentials : FnScope n_Setting_own_potentials ["self", "table"] (defScope s_Setting_own_potentials) := ⟨rfl, rfl, rfl, by decide +kernel, rfl, by decide +kernel, by decide +kernel⟩
abbrev s_Setting_least_pay : Stmt := inClass (topS 7) 7
abbrev n_Setting_least_pay : List Str := ["self", "table", "k", "ends", "own", "own_counted"]
theorem sc_Setting_least_pay : FnScope n_Setting_least_pay ["self", "table", "k"] (defScope s_Setting_least_pay) := ⟨rfl, rfl, rfl, by decide +kernel, rfl, by decide +kernel, by decide +kernel⟩
abbrev s_Setting_least_form : Stmt := inClass (topS 7) 8
abbrev n_Setting_least_form : List Str := ["self", "table", "k"]
theorem sc_Setting_least_form : FnScope n_Setting_least_form ["self", "table"] (defScope s_Setting_least_form) := ⟨rfl, rfl, rfl, by decide +kernel, rfl, by decide +kernel, by decide +kernel⟩
abbrev s_Setting_shaped : Stmt := inClass (topS 7) 9
abbrev n_Setting_shaped : List Str := ["self", "table", "row", "pays", "k", "ends"]
theorem sc_Setting_shaped : FnScope n_Setting_shaped ["self", "table", "row"] (defScope s_Setting_shaped) := ⟨rfl, rfl, rfl, by decide +kernel, rfl, by decide +kernel, by decide +kernel⟩
def spSInit (CS : Addr) : Sp := fun vs H Q _ => ∃ (sp ds : Addr) (n m g h : Int), vs = [.ref sp, .int n, .int m, .int g, .int h] ∧ H sp = some (.ins CS ds []) ∧ ∀ H', (∀ b o, H b = some o → b ≠ sp → H' b = some o) → H' sp = some (.ins CS ds (sf n m g h)) → Q .non H'
def sz (d : Desk) : Nat := d.n * d.m * d.n
def spSize (CS : Addr) : Sp := fun vs H Q _ => ∃ (sp ds : Addr) (d : Desk), vs = [.ref sp] ∧ H sp = some (so CS ds d) ∧ Ok d ∧ Q (.int (sz d : Nat)) H
def spSpot (CS : Addr) : Sp := fun vs H Q _ => ∃ (sp ds : Addr) (d : Desk) (s x q : Nat), vs = [.ref sp, .int s, .int x, .int q] ∧ H sp = some (so CS ds d) ∧ Ok d ∧ Q (.int (Kp388.index d s x q : Nat)) H
def endV (d : Desk) (k : Nat) : List V := [.int (k / d.n / d.m : Nat), .int (k / d.n % d.m : Nat), .int (k % d.n : Nat)]
def spWhere (CS : Addr) : Sp := fun vs H Q _ => ∃ (sp ds : Addr) (d : Desk) (k : Nat), vs = [.ref sp, .int k] ∧ H sp = some (so CS ds d) ∧ Ok d ∧ New H (endV d k) Q
def spStay (K : PySem.W.Frag) (CS : Addr) : Sp := fun vs H Q _ => ∃ (sp ds a : Addr) (d : Desk) (l : List Int) (s : Nat), vs = [.ref sp, .ref a, .int s] ∧ H sp = some (so CS ds d) ∧ Ok d ∧ SqL K H a (l.map V.int) ∧ l.length = sz d ∧ s < d.n ∧ Q (.int (l.getD (Kp388.index d s 0 s) 0)) H
def spDiv (CS : Addr) : Sp := fun vs H Q _ => ∃ (sp ds : Addr) (d : Desk), vs = [.ref sp] ∧ H sp = some (so CS ds d) ∧ Q (.int ((d.h : Int) - d.g)) H
def ownL (d : Desk) (l : List Int) : List Int := (List.range d.n).map fun s => -l.getD (Kp388.index d s 0 s) 0 * d.h
def spOwn (K : PySem.W.Frag) (CS : Addr) : Sp := fun vs H Q _ => ∃ (sp ds a : Addr) (d : Desk) (l : List Int), vs = [.ref sp, .ref a] ∧ H sp = some (so CS ds d) ∧ Ok d ∧ SqL K H a (l.map V.int) ∧ l.length = sz d ∧ New H ((ownL d l).map V.int) Q
def spLeastPay (K : PySem.W.Frag) (CS : Addr) : Sp := fun vs H Q _ => ∃ (sp ds a : Addr) (d : Desk) (l : List Int) (k : Nat), vs = [.ref sp, .ref a, .int k] ∧ H sp = some (so CS ds d) ∧ Ok d ∧ SqL K H a (l.map V.int) ∧ l.length = sz d ∧ k < sz d ∧ ∀ H', Same H H' → Q (.int (WK d l k)) H'
def spForm (K : PySem.W.Frag) (CS : Addr) : Sp := fun vs H Q _ => ∃ (sp ds a : Addr) (d : Desk) (l : List Int), vs = [.ref sp, .ref a] ∧ H sp = some (so CS ds d) ∧ Ok d ∧ SqL K H a (l.map V.int) ∧ l.length = sz d ∧ New H ((LF d l).map V.int) Q
def shF (d : Desk) (l row : List Int) (k : Nat) : Int := l.getD k 0 + (d.g : Int) * row.getD (k % d.n) 0 - (d.h : Int) * row.getD (k / d.n / d.m) 0
def shL (d : Desk) (l row : List Int) : List Int := (List.range (sz d)).map (shF d l row)
def spShaped (K : PySem.W.Frag) (CS : Addr) : Sp := fun vs H Q _ => ∃ (sp ds a ar : Addr) (d : Desk) (l row : List Int), vs = [.ref sp, .ref a, .ref ar] ∧ H sp = some (so CS ds d) ∧ Ok d ∧ SqL K H a (l.map V.int) ∧ l.length = sz d ∧ SqL K H ar (row.map V.int) ∧ row.length = d.n ∧ New H ((shL d l row).map V.int) Q
theorem size48 {n m : Nat} (hn : n ≤ 4) (hm : m ≤ 3) : n * m * n ≤ 48 := by
  have h1 := Nat.mul_le_mul hn hm
  have h2 := Nat.mul_le_mul h1 hn
  exact h2
theorem Ok.z48 {d : Desk} (o : Ok d) : sz d ≤ 48 := size48 o.n2 o.m2
theorem small_len {n : Nat} (h : n ≤ 1000) : n < sizeLine := by
  rw [sizeLine_eq]
  omega
section
variable {P : Program} {w : World} {K : PySem.W.Frag} {mg : Str → Option Value} {base : Heap} {C CS : Addr}
theorem ok_sinit {f : Addr} {fd : FuncData} (F : Fun K "__init__" "Setting.__init__" s_Setting_init f fd) (T : Txt K mg C CS) : FnOk P w K mg base CX0 1 f fd ["self", "places", "acts", "g", "h"] (spSInit CS) := by
  refine F.ok sc_Setting_init (fun vs H Q E h => ?_) (fun cdv A outer s H vs Q E hr h => ⟨_, (pss_cons (ps_fld (pv 0) (pv 1) rfl)
      (pss_cons (ps_fld (pv 0) (pv 2) rfl)
      (pss_cons (ps_fld (pv 0) (pv 3) rfl)
      (pss_one (ps_fld (pv 0) (pv 4) rfl))))), ?_⟩)
  · obtain ⟨sp, ds, n, m, g, h, rfl, _⟩ := h
    rfl
  · obtain ⟨sp, ds, n, m, g, h, rfl, hs, k⟩ := h
    refine ⟨_, rfl, _, rfl, sp, CS, ds, _, rfl, hs, T.clS, T.n_places, by show 0 < 1000; decide, ?_⟩
    refine ⟨_, rfl, _, rfl, sp, CS, ds, _, rfl, upd_same, T.clS, T.n_acts, by show 1 < 1000; decide, ?_⟩
    refine ⟨_, rfl, _, rfl, sp, CS, ds, _, rfl, upd_same, T.clS, T.n_g, by show 2 < 1000; decide, ?_⟩
    refine ⟨_, rfl, _, rfl, sp, CS, ds, _, rfl, upd_same, T.clS, T.n_h, by show 3 < 1000; decide, ?_⟩
    try dsimp only
    rw [upd_upd, upd_upd, upd_upd]
    exact k _ (fun b o e hb => (upd_ne hb).trans e) (upd_same.trans rfl)
theorem ok_size {f : Addr} {fd : FuncData} (F : Fun K "size" "Setting.size" s_Setting_size f fd) (T : Txt K mg C CS) : FnOk P w K mg base CX0 1 f fd ["self"] (spSize CS) := by
  refine F.ok sc_Setting_size (fun vs H Q E h => ?_) (fun cdv A outer s H vs Q E hr h => ⟨_, (pss_one (ps_ret (pe_op op_mul (pe_op op_mul (pe_fld (pv 0) rfl) (pe_fld (pv 0) rfl)) (pe_fld (pv 0) rfl)))), ?_⟩)
  · obtain ⟨sp, ds, d, rfl, _⟩ := h
    rfl
  · obtain ⟨sp, ds, d, rfl, hs, o, k⟩ := h
    have h1 := o.n2
    have h2 := o.m2
    refine ⟨_, rfl, sp, CS, ds, _, _, rfl, hs, T.clS, T.n_places, sf_places, _, rfl, sp, CS, ds, _, _, rfl, hs, T.clS, T.n_acts, sf_acts, _, _, rfl, rfl, .inl ⟨by omega, by omega⟩, _, rfl, sp, CS, ds, _, _, rfl, hs, T.clS, T.n_places, sf_places, _, _, rfl, rfl, .inr ⟨by omega, by omega⟩, ?_⟩
    have e : ((sz d : Nat) : Int) = (d.n : Int) * d.m * d.n := by
      unfold sz
      rw [Int.natCast_mul, Int.natCast_mul]
    rw [e] at k
    exact k
theorem ok_spot {f : Addr} {fd : FuncData} (F : Fun K "spot" "Setting.spot" s_Setting_spot f fd) (T : Txt K mg C CS) : FnOk P w K mg base CX0 1 f fd ["self", "s", "x", "q"] (spSpot CS) := by
  refine F.ok sc_Setting_spot (fun vs H Q E h => ?_) (fun cdv A outer s H vs Q E hr h => ⟨_, (pss_one (ps_ret (pe_op op_add (pe_op op_mul (pe_op op_add (pe_op op_mul (pv 1) (pe_fld (pv 0) rfl)) (pv 2)) (pe_fld (pv 0) rfl)) (pv 3)))), ?_⟩)
  · obtain ⟨sp, ds, d, s, x, q, rfl, _⟩ := h
    rfl
  · obtain ⟨sp, ds, d, s, x, q, rfl, hs, o, k⟩ := h
    have h1 := o.n2
    have h2 := o.m2
    refine ⟨_, rfl, _, rfl, sp, CS, ds, _, _, rfl, hs, T.clS, T.n_acts, sf_acts, _, _, rfl, rfl, .inr ⟨by omega, by omega⟩, _, rfl, _, _, rfl, rfl, _, rfl, sp, CS, ds, _, _, rfl, hs, T.clS, T.n_places, sf_places, _, _, rfl, rfl, .inr ⟨by omega, by omega⟩, _, rfl, _, _, rfl, rfl, ?_⟩
    have e : ((Kp388.index d s x q : Nat) : Int) = ((s : Int) * d.m + x) * d.n + q := by
      unfold Kp388.index
      rw [Int.natCast_add, Int.natCast_mul, Int.natCast_add, Int.natCast_mul]
    rw [e] at k
    exact k
theorem ok_where {f : Addr} {fd : FuncData} (F : Fun K "where" "Setting.where" s_Setting_where f fd) (T : Txt K mg C CS) : FnOk P w K mg base CX0 1 f fd ["self", "k"] (spWhere CS) := by
  refine F.ok sc_Setting_where (fun vs H Q E h => ?_) (fun cdv A outer s H vs Q E hr h => ⟨_, (pss_cons (ps_set (i := 2) sc_Setting_where.nd rfl (Or.inl rfl) (pe_op op_fdiv (pv 1) (pe_fld (pv 0) rfl)))
      (pss_one (ps_ret (pe_lst (pa_cons (pe_op op_fdiv (pv 2) (pe_fld (pv 0) rfl)) (pa_cons (pe_op op_mod (pv 2) (pe_fld (pv 0) rfl)) (pa_cons (pe_op op_mod (pv 1) (pe_fld (pv 0) rfl)) pa_nil))))))), ?_⟩)
  · obtain ⟨sp, ds, d, k, rfl, _⟩ := h
    rfl
  · obtain ⟨sp, ds, d, i, rfl, hs, o, k⟩ := h
    have h1 := o.n1
    have h2 := o.n2
    have h3 := o.m1
    have h4 := o.m2
    refine ⟨_, rfl, _, rfl, sp, CS, ds, _, _, rfl, hs, T.clS, T.n_places, sf_places, _, _, rfl, rfl, ⟨by omega, by omega⟩, ?_⟩
    refine ⟨_, rfl, _, rfl, sp, CS, ds, _, _, rfl, hs, T.clS, T.n_acts, sf_acts, _, _, rfl, rfl, ⟨by omega, by omega⟩, _, rfl, _, rfl, sp, CS, ds, _, _, rfl, hs, T.clS, T.n_acts, sf_acts, _, _, rfl, rfl, by omega, _, rfl, _, rfl, sp, CS, ds, _, _, rfl, hs, T.clS, T.n_places, sf_places, _, _, rfl, rfl, by omega, by show 3 ≤ sizeLine; decide, fun r nr => ?_⟩
    exact k _ r (same_new nr) nr upd_same
theorem ok_stay {f : Addr} {fd : FuncData} (F : Fun K "stay" "Setting.stay" s_Setting_stay f fd) (T : Txt K mg C CS) (M_Setting_spot : Met P w K mg base 1 CS "spot" (spSpot CS)) : FnOk P w K mg base CX0 2 f fd ["self", "table", "s"] (spStay K CS) := by
  obtain ⟨f_Setting_spot, fd_Setting_spot, ps_Setting_spot, c_Setting_spot, m_Setting_spot, F_Setting_spot, b_Setting_spot⟩ := M_Setting_spot.ex
  refine F.ok sc_Setting_stay (fun vs H Q E h => ?_) (fun cdv A outer s H vs Q E hr h => ⟨_, (pss_one (ps_ret (pe_ix ix_list (pv 1) (pe_meth (pv 0) c_Setting_spot m_Setting_spot F_Setting_spot (hr.mono (by decide)) b_Setting_spot .nil pass0 (pa_cons (pv 2) (pa_cons pe_int (pa_cons (pv 2) pa_nil)))) (fun _ _ => rfl)))), ?_⟩)
  · obtain ⟨sp, ds, a, d, l, s, rfl, _⟩ := h
    rfl
  · obtain ⟨sp, ds, a, d, l, s, rfl, hs, o, hS, hl, hn, k⟩ := h
    have h3 := o.m1
    refine ⟨_, rfl, _, rfl, sp, ds, _, rfl, hs, sf_no, _, rfl, _, rfl, sp, ds, d, s, 0, s, rfl, hs, o, ?_⟩
    exact ⟨a, _, _, _, rfl, rfl, hS, pay_at (by rw [hl]; exact ix_lt hn (by omega) hn), k⟩
theorem ok_div {f : Addr} {fd : FuncData} (F : Fun K "divisor" "Setting.divisor" s_Setting_divisor f fd) (T : Txt K mg C CS) : FnOk P w K mg base CX0 1 f fd ["self"] (spDiv CS) := by
  refine F.ok sc_Setting_divisor (fun vs H Q E h => ?_) (fun cdv A outer s H vs Q E hr h => ⟨_, (pss_one (ps_ret (pe_op op_sub (pe_fld (pv 0) rfl) (pe_fld (pv 0) rfl)))), ?_⟩)
  · obtain ⟨sp, ds, d, rfl, _⟩ := h
    rfl
  · obtain ⟨sp, ds, d, rfl, hs, k⟩ := h
    exact ⟨_, rfl, sp, CS, ds, _, _, rfl, hs, T.clS, T.n_h, sf_h, _, rfl, sp, CS, ds, _, _, rfl, hs, T.clS, T.n_g, sf_g, _, _, rfl, rfl, k⟩
theorem ok_own {f : Addr} {fd : FuncData} (F : Fun K "own_potentials" "Setting.own_potentials" s_Setting_own_potentials f fd) (T : Txt K mg C CS) (M_Setting_stay : Met P w K mg base 2 CS "stay" (spStay K CS)) : FnOk P w K mg base CX0 3 f fd ["self", "table"] (spOwn K CS) := by
  obtain ⟨f_Setting_stay, fd_Setting_stay, ps_Setting_stay, c_Setting_stay, m_Setting_stay, F_Setting_stay, b_Setting_stay⟩ := M_Setting_stay.ex
  refine F.ok sc_Setting_own_potentials (fun vs H Q E h => ?_) (fun cdv A outer s H vs Q E hr h => ⟨_, (pss_one (ps_ret (pe_lc (own := [("s", 2)]) (g := gName 2) (tt := tYes) rfl sc_Setting_own_potentials.nd (pi_range1 (by rfl) T.z_range (pa_cons (pe_fld (pv 0) rfl) pa_nil)) (blkOk_by (own := [("s", 2)]) (N := n_Setting_own_potentials) (sc := defScope s_Setting_own_potentials) (by decide +kernel)) (fun _ _ _ _ _ => pg_name (i := 2) sc_Setting_own_potentials.nd rfl (Or.inl rfl)) (fun _ _ _ _ _ => pts_nil) (fun _ _ _ _ _ => by exact (pe_op op_mul (pe_un un_neg (pe_meth (pv 0) c_Setting_stay m_Setting_stay F_Setting_stay (hr.mono (by decide)) b_Setting_stay .nil pass0 (pa_cons (pv 1) (pa_cons (pv 2) pa_nil)))) (pe_fd (K := K) rfl (pv 0))))))), ?_⟩)
  · obtain ⟨sp, ds, a, d, l, rfl, _⟩ := h
    rfl
  · obtain ⟨sp, ds, a, d, l, rfl, hs, o, hS, hl, k⟩ := h
    have h2 := o.n2
    have h3 := o.h2
    refine ⟨_, rfl, sp, CS, ds, _, _, rfl, hs, T.clS, T.n_places, sf_places, _, rfl, by omega, by omega, fun D nD => lc_range (lo := 0) (n := d.n) (fun i H' => H' = upd H D (il ((List.range i).map fun s => -l.getD (Kp388.index d s 0 s) 0 * d.h))) rfl ?_ ?_⟩
    · rintro i H' hi rfl
      rw [zadd]
      have s1 : Same H (upd H D (il ((List.range i).map fun s => -l.getD (Kp388.index d s 0 s) 0 * d.h))) := same_new nD
      have hs1 := s1 _ _ hs
      refine ⟨rfl, _, rfl, sp, ds, _, rfl, hs1, sf_no, _, rfl, _, rfl, sp, ds, a, d, l, i, rfl, hs1, o, s1.seq hS, hl, hi, _, rfl, _, rfl, sp, CS, ds, _, _, rfl, hs1, T.clS, T.n_h, sf_h, _, _, rfl, rfl, .inr ⟨by omega, by omega⟩, _, upd_same, ?_, ?_⟩
      · rw [List.length_map, List.length_map, List.length_range]
        exact small_len (by omega)
      · rw [upd_upd]
        exact congrArg (upd H D) (il_more (fun s => -l.getD (Kp388.index d s 0 s) 0 * d.h) i)
    · rintro H' rfl
      exact k _ D (same_new nD) nD upd_same
theorem ok_leastpay {f : Addr} {fd : FuncData} (F : Fun K "least_pay" "Setting.least_pay" s_Setting_least_pay f fd) (T : Txt K mg C CS) (M_Setting_where : Met P w K mg base 1 CS "where" (spWhere CS)) (M_Setting_stay : Met P w K mg base 2 CS "stay" (spStay K CS)) (M_Setting_divisor : Met P w K mg base 1 CS "divisor" (spDiv CS)) : FnOk P w K mg base CX0 3 f fd ["self", "table", "k"] (spLeastPay K CS) := by
  obtain ⟨f_Setting_where, fd_Setting_where, ps_Setting_where, c_Setting_where, m_Setting_where, F_Setting_where, b_Setting_where⟩ := M_Setting_where.ex
  obtain ⟨f_Setting_stay, fd_Setting_stay, ps_Setting_stay, c_Setting_stay, m_Setting_stay, F_Setting_stay, b_Setting_stay⟩ := M_Setting_stay.ex
  obtain ⟨f_Setting_divisor, fd_Setting_divisor, ps_Setting_divisor, c_Setting_divisor, m_Setting_divisor, F_Setting_divisor, b_Setting_divisor⟩ := M_Setting_divisor.ex
  refine F.ok sc_Setting_least_pay (fun vs H Q E h => ?_) (fun cdv A outer s H vs Q E hr h => ⟨_, (pss_cons (ps_set (i := 3) sc_Setting_least_pay.nd rfl (Or.inl rfl) (pe_meth (pv 0) c_Setting_where m_Setting_where F_Setting_where (hr.mono (by decide)) b_Setting_where .nil pass0 (pa_cons (pv 2) pa_nil)))
      (pss_cons (ps_set (i := 4) sc_Setting_least_pay.nd rfl (Or.inl rfl) (pe_op op_mul (pe_un un_neg (pe_meth (pv 0) c_Setting_stay m_Setting_stay F_Setting_stay (hr.mono (by decide)) b_Setting_stay .nil pass0 (pa_cons (pv 1) (pa_cons (pe_ix ix_list (pv 3) pe_int (fun _ _ => rfl)) pa_nil)))) (pe_fld (pv 0) rfl)))
      (pss_cons (ps_set (i := 5) sc_Setting_least_pay.nd rfl (Or.inl rfl) (pe_op op_mul (pe_un un_neg (pe_meth (pv 0) c_Setting_stay m_Setting_stay F_Setting_stay (hr.mono (by decide)) b_Setting_stay .nil pass0 (pa_cons (pv 1) (pa_cons (pe_ix ix_list (pv 3) pe_int (fun _ _ => rfl)) pa_nil)))) (pe_fld (pv 0) rfl)))
      (pss_one (ps_ret (pe_op op_sub (pe_op op_add (pe_op op_mul (pe_ix ix_list (pv 1) (pv 2) (fun _ _ => rfl)) (pe_meth0 (pv 0) c_Setting_divisor m_Setting_divisor F_Setting_divisor (hr.mono (by decide)) b_Setting_divisor .nil pass0)) (pv 4)) (pv 5))))))), ?_⟩)
  · obtain ⟨sp, ds, a, d, l, k, rfl, _⟩ := h
    rfl
  · obtain ⟨sp, ds, a, d, l, i, rfl, hs, o, hS, hl, hi, k⟩ := h
    have h2 := o.h2
    have g2 := o.g2
    obtain ⟨e1, e2, e3⟩ := ends_lt hi
    refine ⟨_, rfl, sp, ds, _, rfl, hs, sf_no, _, rfl, sp, ds, d, i, rfl, hs, o, fun H1 r s1 nr hr => ?_⟩
    have hs1 := s1 _ _ hs
    have hS1 := s1.seq hS
    refine ⟨_, rfl, sp, ds, _, rfl, hs1, sf_no, _, rfl, _, rfl, r, _, _, _, rfl, rfl, SqL.of hr, rfl, sp, ds, a, d, l, i / d.n / d.m, rfl, hs1, o, hS1, hl, e1, _, rfl, _, rfl, sp, CS, ds, _, _, rfl, hs1, T.clS, T.n_h, sf_h, _, _, rfl, rfl, .inr ⟨by omega, by omega⟩, ?_⟩
    refine ⟨_, rfl, sp, ds, _, rfl, hs1, sf_no, _, rfl, _, rfl, r, _, _, _, rfl, rfl, SqL.of hr, rfl, sp, ds, a, d, l, i % d.n, rfl, hs1, o, hS1, hl, e3, _, rfl, _, rfl, sp, CS, ds, _, _, rfl, hs1, T.clS, T.n_g, sf_g, _, _, rfl, rfl, .inr ⟨by omega, by omega⟩, ?_⟩
    refine ⟨_, rfl, _, rfl, a, _, _, _, rfl, rfl, hS1, pay_at (by omega), _, rfl, sp, ds, _, rfl, hs1, sf_no, sp, ds, d, rfl, hs1, _, _, rfl, rfl, .inr ⟨by omega, by omega⟩, _, rfl, _, _, rfl, rfl, _, rfl, _, _, rfl, rfl, ?_⟩
    have e : WK d l i = l.getD i 0 * ((d.h : Int) - d.g) + -l.getD (Kp388.index d (i / d.n / d.m) 0 (i / d.n / d.m)) 0 * d.h - -l.getD (Kp388.index d (i % d.n) 0 (i % d.n)) 0 * d.g := by
      unfold WK W
      rw [ends_ix]
      grind
    have k1 := k _ s1
    rw [e] at k1
    exact k1
theorem ok_form {f : Addr} {fd : FuncData} (F : Fun K "least_form" "Setting.least_form" s_Setting_least_form f fd) (T : Txt K mg C CS) (M_Setting_size : Met P w K mg base 1 CS "size" (spSize CS)) (M_Setting_least_pay : Met P w K mg base 3 CS "least_pay" (spLeastPay K CS)) : FnOk P w K mg base CX0 4 f fd ["self", "table"] (spForm K CS) := by
  obtain ⟨f_Setting_size, fd_Setting_size, ps_Setting_size, c_Setting_size, m_Setting_size, F_Setting_size, b_Setting_size⟩ := M_Setting_size.ex
  obtain ⟨f_Setting_least_pay, fd_Setting_least_pay, ps_Setting_least_pay, c_Setting_least_pay, m_Setting_least_pay, F_Setting_least_pay, b_Setting_least_pay⟩ := M_Setting_least_pay.ex
  refine F.ok sc_Setting_least_form (fun vs H Q E h => ?_) (fun cdv A outer s H vs Q E hr h => ⟨_, (pss_one (ps_ret (pe_lc (own := [("k", 2)]) (g := gName 2) (tt := tYes) rfl sc_Setting_least_form.nd (pi_range1 (by rfl) T.z_range (pa_cons (pe_meth0 (pv 0) c_Setting_size m_Setting_size F_Setting_size (hr.mono (by decide)) b_Setting_size .nil pass0) pa_nil)) (blkOk_by (own := [("k", 2)]) (N := n_Setting_least_form) (sc := defScope s_Setting_least_form) (by decide +kernel)) (fun _ _ _ _ _ => pg_name (i := 2) sc_Setting_least_form.nd rfl (Or.inl rfl)) (fun _ _ _ _ _ => pts_nil) (fun _ _ _ _ _ => by exact (pe_meth (pv 0) c_Setting_least_pay m_Setting_least_pay F_Setting_least_pay (hr.mono (by decide)) b_Setting_least_pay .nil pass0 (pa_cons (pv 1) (pa_cons (pv 2) pa_nil))))))), ?_⟩)
  · obtain ⟨sp, ds, a, d, l, rfl, _⟩ := h
    rfl
  · obtain ⟨sp, ds, a, d, l, rfl, hs, o, hS, hl, k⟩ := h
    have h2 := o.z48
    rw [LF_eq o] at k
    refine ⟨_, rfl, sp, ds, _, rfl, hs, sf_no, sp, ds, d, rfl, hs, o, _, rfl, by omega, by omega, fun D nD => lc_range (lo := 0) (n := sz d) (fun i H' => Same H H' ∧ H' D = some (il ((List.range i).map (WK d l)))) ⟨same_new nD, upd_same⟩ ?_ ?_⟩
    · rintro i H' hi ⟨s1, hD⟩
      rw [zadd]
      have hs1 := s1 _ _ hs
      refine ⟨rfl, _, rfl, sp, ds, _, rfl, hs1, sf_no, _, rfl, _, rfl, sp, ds, a, d, l, i, rfl, hs1, o, s1.seq hS, hl, hi, fun H2 s2 => ⟨_, s2 _ _ hD, ?_, same_upd (s1.trans s2) nD, ?_⟩⟩
      · rw [List.length_map, List.length_map, List.length_range]
        exact small_len (by omega)
      · rw [upd_same]
        exact congrArg some (il_more (WK d l) i)
    · rintro H' ⟨s1, hD⟩
      exact k _ D s1 nD hD
theorem ok_shaped {f : Addr} {fd : FuncData} (F : Fun K "shaped" "Setting.shaped" s_Setting_shaped f fd) (T : Txt K mg C CS) (M_Setting_size : Met P w K mg base 1 CS "size" (spSize CS)) (M_Setting_where : Met P w K mg base 1 CS "where" (spWhere CS)) : FnOk P w K mg base CX0 2 f fd ["self", "table", "row"] (spShaped K CS) := by
  obtain ⟨f_Setting_size, fd_Setting_size, ps_Setting_size, c_Setting_size, m_Setting_size, F_Setting_size, b_Setting_size⟩ := M_Setting_size.ex
  obtain ⟨f_Setting_where, fd_Setting_where, ps_Setting_where, c_Setting_where, m_Setting_where, F_Setting_where, b_Setting_where⟩ := M_Setting_where.ex
  refine F.ok sc_Setting_shaped (fun vs H Q E h => ?_) (fun cdv A outer s H vs Q E hr h => ⟨_, (pss_cons (ps_set (i := 3) sc_Setting_shaped.nd rfl (Or.inl rfl) (pe_lst pa_nil))
      (pss_cons (ps_for PassesOwn.never rfl (pi_range1 (by rfl) T.z_range (pa_cons (pe_meth0 (pv 0) c_Setting_size m_Setting_size F_Setting_size (hr.mono (by decide)) b_Setting_size .nil pass0) pa_nil)) (pg_name (i := 4) sc_Setting_shaped.nd rfl (Or.inl rfl)) (pss_cons (ps_set (i := 5) sc_Setting_shaped.nd rfl (Or.inl rfl) (pe_meth (pv 0) c_Setting_where m_Setting_where F_Setting_where (hr.mono (by decide)) b_Setting_where .nil pass0 (pa_cons (pv 4) pa_nil)))
      (pss_one (ps_expr (pe_bm PySem.F.plainAttrs_list PySem.F.slot_list_append PySem.F.type_list_append mt_append (pv 3) (pa_cons (pe_op op_sub (pe_op op_add (pe_ix ix_list (pv 1) (pv 4) (fun _ _ => rfl)) (pe_op op_mul (pe_fld (pv 0) rfl) (pe_ix ix_list (pv 2) (pe_ix ix_list (pv 5) pe_int (fun _ _ => rfl)) (fun _ _ => rfl)))) (pe_op op_mul (pe_fld (pv 0) rfl) (pe_ix ix_list (pv 2) (pe_ix ix_list (pv 5) pe_int (fun _ _ => rfl)) (fun _ _ => rfl)))) pa_nil))))))
      (pss_one (ps_ret (pv 3))))), ?_⟩)
  · obtain ⟨sp, ds, a, ar, d, l, row, rfl, _⟩ := h
    rfl
  · obtain ⟨sp, ds, a, ar, d, l, row, rfl, hs, o, hS, hl, hR, hrl, k⟩ := h
    have z2 := o.z48
    have h2 := o.h2
    have g2 := o.g2
    refine ⟨Nat.zero_le _, fun D nD => ?_⟩
    have s0 : Same H (upd H D (.lst [])) := same_new nD
    have hs0 := s0 _ _ hs
    refine ⟨_, rfl, sp, ds, _, rfl, hs0, sf_no, sp, ds, d, rfl, hs0, o, _, rfl, by omega, by omega, for_range (n := sz d) (fun i σ H' => ∃ v1 v2 : Option V, σ = [some (.ref sp), some (.ref a), some (.ref ar), some (.ref D), v1, v2] ∧ Same H H' ∧ H' D = some (il ((List.range i).map (shF d l row)))) ⟨none, none, rfl, s0, upd_same⟩ ?_ ?_⟩
    · rintro i σ H' hi ⟨v1, v2, rfl, s1, hD⟩
      rw [zadd]
      have hs1 := s1 _ _ hs
      obtain ⟨e1, e2, e3⟩ := ends_lt hi
      refine ⟨_, rfl, sp, ds, _, rfl, hs1, sf_no, _, rfl, sp, ds, d, i, rfl, hs1, o, fun H2 r s2 nr hr => ?_⟩
      have s3 := s1.trans s2
      have hs3 := s3 _ _ hs
      have hS3 := s3.seq hS
      have hR3 := s3.seq hR
      have hD3 := s2 _ _ hD
      refine ⟨_, rfl, .inl ⟨rfl, _, SqL.of hD3⟩, ?_⟩
      refine ⟨_, rfl, _, rfl, a, _, _, _, rfl, rfl, hS3, pay_at (by omega), _, rfl, sp, CS, ds, _, _, rfl, hs3, T.clS, T.n_g, sf_g, _, rfl, _, rfl, r, _, _, _, rfl, rfl, SqL.of hr, rfl, ar, _, _, _, rfl, rfl, hR3, pay_at (by omega), _, _, rfl, rfl, .inl ⟨by omega, by omega⟩, _, _, rfl, rfl, ?_⟩
      refine ⟨_, rfl, sp, CS, ds, _, _, rfl, hs3, T.clS, T.n_h, sf_h, _, rfl, _, rfl, r, _, _, _, rfl, rfl, SqL.of hr, rfl, ar, _, _, _, rfl, rfl, hR3, pay_at (by omega), _, _, rfl, rfl, .inl ⟨by omega, by omega⟩, _, _, rfl, rfl, D, _, _, rfl, rfl, hD3, ?_, ?_⟩
      · rw [List.length_map, List.length_map, List.length_range]
        exact small_len (by omega)
      · refine ⟨_, _, rfl, same_upd s3 nD, ?_⟩
        rw [upd_same]
        exact congrArg some (il_more (shF d l row) i)
    · rintro σ H' ⟨v1, v2, rfl, s1, hD⟩
      exact ⟨_, rfl, k _ D s1 nD hD⟩
end
end SP

set_option Elab.async false
set_option maxRecDepth 100000
set_option maxHeartbeats 2000000
set_option linter.unusedVariables false
namespace SP
open PySem PySem.Spec PyProof.Rows L2
/-! ### is_path, path_pay -/
abbrev s_Setting_is_path : Stmt := inClass (topS 7) 10
abbrev n_Setting_is_path : List Str := ["self", "row", "k", "limit"]
theorem sc_Setting_is_path : FnScope n_Setting_is_path ["self", "row"] (defScope s_Setting_is_path) := ⟨rfl, rfl, rfl, by decide +kernel, rfl, by decide +kernel, by decide +kernel⟩
abbrev s_Setting_path_pay : Stmt := inClass (topS 7) 11
abbrev n_Setting_path_pay : List Str := ["self", "table", "row", "upper", "lower", "k", "pay"]
theorem sc_Setting_path_pay : FnScope n_Setting_path_pay ["self", "table", "row"] (defScope s_Setting_path_pay) := ⟨rfl, rfl, rfl, by decide +kernel, rfl, by decide +kernel, by decide +kernel⟩
abbrev tn (row : List Int) : List Nat := row.map Int.toNat
def lim (d : Desk) (k : Nat) : Nat := if k % 2 = 0 then d.n else d.m
theorem okPath_iff (d : Desk) (l : List Nat) : Kp388.okPath d l = true ↔ l.length % 2 = 1 ∧ l.length ≤ 13 ∧ ∀ k v, l[k]? = some v → v < lim d k := by
  unfold Kp388.okPath
  rw [Bool.and_eq_true, Bool.and_eq_true, decide_eq_true_eq, decide_eq_true_eq, List.all_eq_true, and_assoc]
  refine and_congr Iff.rfl (and_congr Iff.rfl ⟨fun h k v e => ?_, fun h y hy => ?_⟩)
  · have := h (v, k) (List.mem_zipIdx_iff_getElem?.mpr e)
    unfold lim
    dsimp only at this
    split at this
    · rw [if_pos (by assumption)]
      exact of_decide_eq_true this
    · rw [if_neg (by assumption)]
      exact of_decide_eq_true this
  · have := h y.2 y.1 (List.mem_zipIdx_iff_getElem?.mp hy)
    unfold lim at this
    split
    · rw [if_pos (by assumption)] at this
      exact decide_eq_true this
    · rw [if_neg (by assumption)] at this
      exact decide_eq_true this
theorem tn_at {row : List Int} {i : Nat} (h : i < row.length) : (tn row)[i]? = some (row.getD i 0).toNat := by
  rw [List.getElem?_map, List.getD_eq_getElem?_getD, List.getElem?_eq_getElem h]
  rfl
theorem nn_at {row : List Int} (hn : ∀ x ∈ row, 0 ≤ x) {i : Nat} (h : i < row.length) : 0 ≤ row.getD i 0 := by
  rw [List.getD_eq_getElem?_getD, List.getElem?_eq_getElem h]
  exact hn _ (List.getElem_mem h)
theorem nat_at {row : List Int} (hn : ∀ x ∈ row, 0 ≤ x) {i : Nat} {z : Int} (h : i < row.length) (hz : z = (i : Int)) : atI (row.map V.int) z = some (.int ((row.getD i 0).toNat : Nat)) := by
  have := nn_at hn h
  rw [hz, pay_at h]
  congr 2
  omega
def spIsPath (K : PySem.W.Frag) (CS : Addr) : Sp := fun vs H Q _ => ∃ (sp ds ar : Addr) (d : Desk) (row : List Int), vs = [.ref sp, .ref ar] ∧ H sp = some (so CS ds d) ∧ SqL K H ar (row.map V.int) ∧ (∀ x ∈ row, 0 ≤ x) ∧ row.length ≤ 1000 ∧ Q (.bl (Kp388.okPath d (tn row))) H
def pathV (d : Desk) (l : List Int) (row : List Int) : List V := frV (pathT d l (tn row)) ((d.h : Int) ^ ((tn row).length / 2))
def spPathPay (K : PySem.W.Frag) (CS : Addr) : Sp := fun vs H Q _ => ∃ (sp ds a ar : Addr) (d : Desk) (l row : List Int), vs = [.ref sp, .ref a, .ref ar] ∧ H sp = some (so CS ds d) ∧ Ok d ∧ SqL K H a (l.map V.int) ∧ l.length = sz d ∧ SqL K H ar (row.map V.int) ∧ (∀ x ∈ row, 0 ≤ x) ∧ Kp388.okPath d (tn row) = true ∧ New H (pathV d l row) Q
theorem rg2 : ∀ c ≤ 6, RgC (((2 * c + 1 : Nat) : Int) - 2) 0 (-2) c := by
  intro c hc
  have : c = 0 ∨ c = 1 ∨ c = 2 ∨ c = 3 ∨ c = 4 ∨ c = 5 ∨ c = 6 := by omega
  rcases this with rfl | rfl | rfl | rfl | rfl | rfl | rfl <;> exact ⟨by decide, by decide, by decide, by decide⟩
theorem pow_bd {d : Desk} (o : Ok d) {i : Nat} (hi : i ≤ 6) : 0 < (d.h : Int) ^ i ∧ (d.h : Int) ^ i ≤ 1000000 := by
  have hh : 0 < d.h := by have := o.g2; omega
  have h1 : d.h ^ i ≤ 10 ^ i := Nat.pow_le_pow_left o.h2 i
  have h2 : (10 : Nat) ^ i ≤ 10 ^ 6 := Nat.pow_le_pow_right (by decide) hi
  have h3 : 0 < d.h ^ i := Nat.pow_pos hh
  have e : (d.h : Int) ^ i = ((d.h ^ i : Nat) : Int) := by rw [Int.natCast_pow]
  rw [e]
  omega
theorem drop3 {l : List Nat} {e s x q : Nat} (h1 : l[e]? = some s) (h2 : l[e + 1]? = some x) (h3 : l[e + 2]? = some q) : l.drop e = s :: x :: q :: l.drop (e + 3) := by
  obtain ⟨b1, e1⟩ := List.getElem?_eq_some_iff.mp h1
  obtain ⟨b2, e2⟩ := List.getElem?_eq_some_iff.mp h2
  obtain ⟨b3, e3⟩ := List.getElem?_eq_some_iff.mp h3
  rw [List.drop_eq_getElem_cons b1, List.drop_eq_getElem_cons b2, List.drop_eq_getElem_cons b3, e1, e2, e3]
theorem drop1 {l : List Nat} {e q : Nat} (h3 : l[e]? = some q) : l.drop e = q :: l.drop (e + 1) := by
  obtain ⟨b3, e3⟩ := List.getElem?_eq_some_iff.mp h3
  rw [List.drop_eq_getElem_cons b3, e3]
section
variable {P : Program} {w : World} {K : PySem.W.Frag} {mg : Str → Option Value} {base : Heap} {C CS : Addr}
theorem ok_ispath {f : Addr} {fd : FuncData} (F : Fun K "is_path" "Setting.is_path" s_Setting_is_path f fd) (T : Txt K mg C CS) : FnOk P w K mg base CX0 1 f fd ["self", "row"] (spIsPath K CS) := by
  refine F.ok sc_Setting_is_path (fun vs H Q E h => ?_) (fun cdv A outer s H vs Q E hr h => ⟨_, (pss_cons (ps_if (PW.pt (pw_or (pt_cmpR op_eq (pe_op op_mod (pe_callB call_len_seq (by rfl) T.z_len PySem.boot_len (pa_cons (pv 1) pa_nil)) pe_int) pe_int (nomark _)) (pw_or1 (pt_cmpR op_gt (pe_callB call_len_seq (by rfl) T.z_len PySem.boot_len (pa_cons (pv 1) pa_nil)) (pe_gl rfl T.g_MOST_IN_PATH) (nomark _))))) (pss_one (ps_ret pe_bl)) pss_nil)
      (pss_cons (ps_for PassesOwn.never rfl (pi_range1 (by rfl) T.z_range (pa_cons (pe_callB call_len_seq (by rfl) T.z_len PySem.boot_len (pa_cons (pv 1) pa_nil)) pa_nil)) (pg_name (i := 2) sc_Setting_is_path.nd rfl (Or.inl rfl)) (pss_cons (ps_set (i := 3) sc_Setting_is_path.nd rfl (Or.inl rfl) (pe_ifExp (pt_cmpR op_eq (pe_op op_mod (pv 2) pe_int) pe_int (nomark _)) (pe_fld (pv 0) rfl) (pe_fld (pv 0) rfl)))
      (pss_one (ps_if (pt_cmpR op_ge (pe_ix ix_list (pv 1) (pv 2) (fun _ _ => rfl)) (pv 3) (nomark _)) (pss_one (ps_ret pe_bl)) pss_nil))))
      (pss_one (ps_ret pe_bl)))), ?_⟩)
  · obtain ⟨sp, ds, ar, d, row, rfl, _⟩ := h
    rfl
  · obtain ⟨sp, ds, ar, d, row, rfl, hs, hR, hn, h1000, k⟩ := h
    have lenE : (tn row).length = row.length := List.length_map ..
    have lenV : (row.map V.int).length = row.length := List.length_map ..
    have kf : ¬ (row.length % 2 = 1 ∧ row.length ≤ 13 ∧ ∀ k v, (tn row)[k]? = some v → v < lim d k) → Q (.bl false) H := fun c => by
      have e : Kp388.okPath d (tn row) = false := by
        rw [Bool.eq_false_iff]
        intro z
        have := (okPath_iff d _).mp z
        rw [lenE] at this
        exact c this
      rw [e] at k
      exact k
    refine ⟨_, rfl, ar, _, rfl, .inl hR, _, _, rfl, rfl, (by show (0 : Int) < 2; decide), rfl, _, rfl, ?_⟩
    refine if_b (fun c => iteT ?_) (fun c => ?_)
    · have c1 := V.int.inj (of_decide_eq_true c)
      rw [lenV] at c1
      exact kf fun z => by omega
    have c1 : ¬ ((row.length : Int) % 2 = 0) := fun z => by
      have := of_decide_eq_false c
      rw [lenV] at this
      exact this (congrArg V.int z)
    refine ⟨_, rfl, ar, _, rfl, .inl hR, _, _, rfl, rfl, _, rfl, ?_⟩
    refine if_b (fun c => ?_) (fun c => ?_)
    · have c2 := of_decide_eq_true c
      rw [lenV] at c2
      exact kf fun z => by omega
    have c2 := of_decide_eq_false c
    rw [lenV] at c2
    refine ⟨_, rfl, ar, _, rfl, .inl hR, _, rfl, ?_, ?_, for_range (n := (row.map V.int).length) (fun i σ H' => ∃ v1 v2 : Option V, σ = [some (.ref sp), some (.ref ar), v1, v2] ∧ H' = H ∧ ∀ k v, k < i → (tn row)[k]? = some v → v < lim d k) ⟨none, none, rfl, rfl, fun k v c => by omega⟩ ?_ ?_⟩
    · rw [lenV]; omega
    · rw [lenV]; omega
    · rintro i σ H' hi ⟨v1, v2, rfl, rfl, hw⟩
      rw [lenV] at hi
      rw [zadd]
      have hv := tn_at hi
      refine ⟨_, rfl, _, _, rfl, rfl, (by show (0 : Int) < 2; decide), rfl, _, rfl, ?_⟩
      refine if_b (fun c => ?_) (fun c => ?_)
      · have c3 := V.int.inj (of_decide_eq_true c)
        have el : lim d i = d.n := by
          unfold lim
          rw [if_pos (by omega)]
        refine ⟨_, rfl, sp, CS, ds, _, _, rfl, hs, T.clS, T.n_places, sf_places, _, rfl, _, rfl, ar, _, _, _, rfl, rfl, hR, nat_at hn hi rfl, _, rfl, _, _, rfl, rfl, _, rfl, ?_⟩
        refine if_b (fun c => ?_) (fun c => ?_)
        · have c4 := of_decide_eq_true c
          exact kf fun z => by
            have := z.2.2 i _ hv
            omega
        · have c4 := of_decide_eq_false c
          refine ⟨_, _, rfl, rfl, fun k v hk e => ?_⟩
          rcases Nat.lt_or_ge k i with z | z
          · exact hw k v z e
          · have : k = i := by omega
            subst this
            rw [hv] at e
            have := Option.some.inj e
            omega
      · have c3 : ¬ ((i : Int) % 2 = 0) := fun z => of_decide_eq_false c (congrArg V.int z)
        have el : lim d i = d.m := by
          unfold lim
          rw [if_neg (by omega)]
        refine ⟨_, rfl, sp, CS, ds, _, _, rfl, hs, T.clS, T.n_acts, sf_acts, _, rfl, _, rfl, ar, _, _, _, rfl, rfl, hR, nat_at hn hi rfl, _, rfl, _, _, rfl, rfl, _, rfl, ?_⟩
        refine if_b (fun c => ?_) (fun c => ?_)
        · have c4 := of_decide_eq_true c
          exact kf fun z => by
            have := z.2.2 i _ hv
            omega
        · have c4 := of_decide_eq_false c
          refine ⟨_, _, rfl, rfl, fun k v hk e => ?_⟩
          rcases Nat.lt_or_ge k i with z | z
          · exact hw k v z e
          · have : k = i := by omega
            subst this
            rw [hv] at e
            have := Option.some.inj e
            omega
    · rintro σ H' ⟨v1, v2, rfl, rfl, hw⟩
      rw [lenV] at hw
      have e : Kp388.okPath d (tn row) = true := (okPath_iff d _).mpr ⟨by omega, by omega, fun k v e => hw k v (by
        have := (List.getElem?_eq_some_iff.mp e).1
        omega) e⟩
      rw [e] at k
      exact k
theorem ok_pathpay {f : Addr} {fd : FuncData} (F : Fun K "path_pay" "Setting.path_pay" s_Setting_path_pay f fd) (T : Txt K mg C CS) (M_fraction : Cal P w K mg base 2 "fraction" spFraction) (M_Setting_spot : Met P w K mg base 1 CS "spot" (spSpot CS)) : FnOk P w K mg base CX0 3 f fd ["self", "table", "row"] (spPathPay K CS) := by
  obtain ⟨f_fraction, fd_fraction, ps_fraction, F_fraction, g_fraction, k_fraction, b_fraction⟩ := M_fraction.ex
  obtain ⟨f_Setting_spot, fd_Setting_spot, ps_Setting_spot, c_Setting_spot, m_Setting_spot, F_Setting_spot, b_Setting_spot⟩ := M_Setting_spot.ex
  refine F.ok sc_Setting_path_pay (fun vs H Q E h => ?_) (fun cdv A outer s H vs Q E hr h => ⟨_, (pss_cons (ps_set (i := 3) sc_Setting_path_pay.nd rfl (Or.inl rfl) pe_int)
      (pss_cons (ps_set (i := 4) sc_Setting_path_pay.nd rfl (Or.inl rfl) pe_int)
      (pss_cons (ps_for PassesOwn.never rfl (pi_range3 (by rfl) T.z_range (pa_cons (pe_op op_sub (pe_callB call_len_seq (by rfl) T.z_len PySem.boot_len (pa_cons (pv 2) pa_nil)) pe_int) (pa_cons pe_int (pa_cons (pe_un un_neg pe_int) pa_nil)))) (pg_name (i := 5) sc_Setting_path_pay.nd rfl (Or.inl rfl)) (pss_cons (ps_set (i := 6) sc_Setting_path_pay.nd rfl (Or.inl rfl) (pe_ix ix_list (pv 1) (pe_meth (pv 0) c_Setting_spot m_Setting_spot F_Setting_spot (hr.mono (by decide)) b_Setting_spot .nil pass0 (pa_cons (pe_ix ix_list (pv 2) (pe_op op_sub (pv 5) pe_int) (fun _ _ => rfl)) (pa_cons (pe_ix ix_list (pv 2) (pv 5) (fun _ _ => rfl)) (pa_cons (pe_ix ix_list (pv 2) (pe_op op_add (pv 5) pe_int) (fun _ _ => rfl)) pa_nil)))) (fun _ _ => rfl)))
      (pss_cons (ps_set (i := 4) sc_Setting_path_pay.nd rfl (Or.inl rfl) (pe_op op_mul (pv 4) (pe_fld (pv 0) rfl)))
      (pss_one (ps_set (i := 3) sc_Setting_path_pay.nd rfl (Or.inl rfl) (pe_op op_add (pe_op op_mul (pv 6) (pv 4)) (pe_op op_mul (pe_fld (pv 0) rfl) (pv 3))))))))
      (pss_one (ps_ret (pe_call F_fraction (hr.mono (by decide)) rfl g_fraction k_fraction b_fraction .nil pass0 (pa_cons (pv 3) (pa_cons (pv 4) pa_nil)))))))), ?_⟩)
  · obtain ⟨sp, ds, a, ar, d, l, row, rfl, _⟩ := h
    rfl
  · obtain ⟨sp, ds, a, ar, d, l, row, rfl, hs, o, hS, hl, hR, hn, hp, k⟩ := h
    have lenE : (tn row).length = row.length := List.length_map ..
    have lenV : (row.map V.int).length = row.length := List.length_map ..
    obtain ⟨p1, p2, p3⟩ := (okPath_iff d _).mp hp
    rw [lenE] at p1 p2
    have g2 := o.g2
    have h2 := o.h2
    obtain ⟨c, hc⟩ : ∃ c, row.length = 2 * c + 1 := ⟨row.length / 2, by omega⟩
    have hc6 : c ≤ 6 := by omega
    have ec : ((row.map V.int).length : Int) - 2 = ((2 * c + 1 : Nat) : Int) - 2 := by rw [lenV, hc]
    unfold pathV at k
    have ec2 : (tn row).length / 2 = c := by omega
    rw [ec2] at k
    refine ⟨_, rfl, ar, _, rfl, .inl hR, _, _, rfl, rfl, _, rfl, ((row.map V.int).length : Int) - 2, 0, -2, c, rfl, by rw [ec]; exact rg2 c hc6, ?_⟩
    refine for_rangeC (lo := ((row.map V.int).length : Int) - 2) (c := -2) (n := c) (fun i σ H' => ∃ v1 v2 : Option V, σ = [some (.ref sp), some (.ref a), some (.ref ar), some (.int (pathT d l ((tn row).drop (2 * (c - i))))), some (.int ((d.h : Int) ^ i)), v1, v2] ∧ H' = H) ⟨none, none, ?_, rfl⟩ ?_ ?_
    · have : pathT d l ((tn row).drop (2 * (c - 0))) = 0 := by
        have hq := tn_at (row := row) (i := 2 * (c - 0)) (by omega)
        rw [drop1 hq]
        have : (tn row).drop (2 * (c - 0) + 1) = [] := List.drop_eq_nil_of_le (by omega)
        rw [this]
        rfl
      rw [this]
      rfl
    · rintro i σ H' hi ⟨v1, v2, rfl, rfl⟩
      obtain ⟨e, he⟩ : ∃ e, c = e + i + 1 := ⟨c - i - 1, by omega⟩
      have ek : ((row.map V.int).length : Int) - 2 + (i : Nat) * (-2) = ((2 * e + 1 : Nat) : Int) := by
        rw [lenV, hc]
        omega
      rw [ek]
      have i0 : 2 * e < row.length := by omega
      have i1 : 2 * e + 1 < row.length := by omega
      have i2 : 2 * e + 2 < row.length := by omega
      have t0 := tn_at i0
      have t1 := tn_at i1
      have t2 := tn_at i2
      have b0 := p3 _ _ t0
      have b1 := p3 _ _ t1
      have b2 := p3 _ _ t2
      rw [show lim d (2 * e) = d.n by unfold lim; rw [if_pos (by omega)]] at b0
      rw [show lim d (2 * e + 1) = d.m by unfold lim; rw [if_neg (by omega)]] at b1
      rw [show lim d (2 * e + 2) = d.n by unfold lim; rw [if_pos (by omega)]] at b2
      have hx := ix_lt b0 b1 b2
      have pw := pow_bd o (i := i + 1) (by omega)
      have ep : (d.h : Int) ^ i * (d.h : Int) = (d.h : Int) ^ (i + 1) := (Int.pow_succ ..).symm
      refine ⟨_, rfl, _, rfl, sp, ds, _, rfl, hs, sf_no, _, rfl, _, rfl, _, _, rfl, rfl, ar, _, _, _, rfl, rfl, hR, nat_at hn i0 (by omega), _, rfl, _, rfl, ar, _, _, _, rfl, rfl, hR, nat_at hn i1 rfl, _, rfl, _, rfl, _, _, rfl, rfl, ar, _, _, _, rfl, rfl, hR, nat_at hn i2 (by omega), sp, ds, d, (row.getD (2 * e) 0).toNat, (row.getD (2 * e + 1) 0).toNat, (row.getD (2 * e + 2) 0).toNat, rfl, hs, o, a, _, _, _, rfl, rfl, hS, pay_at (by rw [hl]; exact hx), ?_⟩
      refine ⟨_, rfl, _, rfl, sp, CS, ds, _, _, rfl, hs, T.clS, T.n_h, sf_h, _, _, rfl, rfl, .inr ⟨by omega, by omega⟩, ?_⟩
      try dsimp only
      rw [ep]
      refine ⟨_, rfl, _, rfl, _, _, rfl, rfl, .inr ⟨by omega, by omega⟩, _, rfl, sp, CS, ds, _, _, rfl, hs, T.clS, T.n_g, sf_g, _, rfl, _, _, rfl, rfl, .inl ⟨by omega, by omega⟩, _, _, rfl, rfl, ?_⟩
      refine ⟨some (.int ((2 * e + 1 : Nat) : Int)), some (.int (l.getD (Kp388.index d (row.getD (2 * e) 0).toNat (row.getD (2 * e + 1) 0).toNat (row.getD (2 * e + 2) 0).toNat) 0)), ?_, rfl⟩
      have ed : 2 * (c - (i + 1)) = 2 * e := by omega
      have ed2 : 2 * (c - i) = 2 * e + 2 := by omega
      rw [ed, ed2]
      have e3 : pathT d l ((tn row).drop (2 * e)) = l.getD (Kp388.index d (row.getD (2 * e) 0).toNat (row.getD (2 * e + 1) 0).toNat (row.getD (2 * e + 2) 0).toNat) 0 * (d.h : Int) ^ (i + 1) + (d.g : Int) * pathT d l ((tn row).drop (2 * e + 2)) := by
        rw [drop3 t0 t1 t2, drop1 t2]
        have el : ((row.getD (2 * e + 2) 0).toNat :: (tn row).drop (2 * e + 3)).length / 2 + 1 = i + 1 := by
          rw [List.length_cons, List.length_drop, lenE]
          omega
        rw [pathT, el]
      rw [e3]
      rfl
    · rintro σ H' ⟨v1, v2, rfl, rfl⟩
      have pw := pow_bd o hc6
      rw [Nat.sub_self, Nat.mul_zero, List.drop_zero]
      exact ⟨_, rfl, _, rfl, _, _, rfl, pw.1, by omega, k⟩
end
end SP

set_option Elab.async false
set_option maxRecDepth 100000
set_option maxHeartbeats 2000000
set_option linter.unusedVariables false
namespace SP
open PySem PySem.Spec PyProof.Rows L2
/-! ### how the object of the tables lies in the heap -/
def pf (u : V) (L : Addr) : List (Str × V) := [("setting", u), ("pays", .ref L)]
section
variable {u u' : V} {L L' : Addr}
theorem pf_setting : (pf u L).lookup ("setting" : Str) = some u := lk_here
theorem pf_pays : (pf u L).lookup ("pays" : Str) = some (.ref L) := (lk_past (by decide +kernel)).trans lk_here
theorem pf_no {k : Str} (h1 : (k == "setting") = false := by decide +kernel) (h2 : (k == "pays") = false := by decide +kernel) : (pf u L).lookup k = none := (lk_past h1).trans ((lk_past h2).trans rfl)
theorem put_setting : putF "setting" u' (pf u L) = pf u' L := put_here
theorem put_pays : putF "pays" (.ref L') (pf u L) = pf u L' := (put_past (by decide +kernel)).trans (congrArg _ put_here)
theorem pf_len : (pf u L).length < 1000 := by show 2 < 1000; decide
end
/-- what stands at the parts' places -/
structure Parts (C CS : Addr) (H : Hp) (p : Addr) (d : Desk) (dx sp ds L a b : Addr) : Prop where
  hp : H p = some (.ins C dx (pf (.ref sp) L))
  hs : H sp = some (so CS ds d)
  hL : H L = some (.lst [.ref a, .ref b])
  ha : H a = some (il d.a)
  hb : H b = some (il d.b)
  ab : a ≠ b
/-- the object at p stands for the desk d -/
def Rep (C CS : Addr) (H : Hp) (p : Addr) (d : Desk) : Prop := ∃ dx sp ds L a b, Parts C CS H p d dx sp ds L a b
theorem Parts.mono {C CS p dx sp ds L a b : Addr} {H H' : Hp} {d : Desk} (r : Parts C CS H p d dx sp ds L a b) (s : Same H H') : Parts C CS H' p d dx sp ds L a b := ⟨s _ _ r.hp, s _ _ r.hs, s _ _ r.hL, s _ _ r.ha, s _ _ r.hb, r.ab⟩
theorem Parts.rep {C CS p dx sp ds L a b : Addr} {H : Hp} {d : Desk} (r : Parts C CS H p d dx sp ds L a b) : Rep C CS H p d := ⟨dx, sp, ds, L, a, b, r⟩
theorem Rep.mono {C CS p : Addr} {H H' : Hp} {d : Desk} (r : Rep C CS H p d) (s : Same H H') : Rep C CS H' p d := by
  obtain ⟨dx, sp, ds, L, a, b, r⟩ := r
  exact (r.mono s).rep
theorem il_ne {l : List Int} {x : Addr} {r : List V} : il l ≠ .lst (.ref x :: r) := by
  intro e
  have e1 : l.map V.int = .ref x :: r := HO.lst.inj e
  cases l with
  | nil => cases e1
  | cons y l =>
    have := (List.cons.inj e1).1
    cases this
section
variable {C CS p dx sp ds L a b : Addr} {H : Hp} {d : Desk}
theorem Parts.La (r : Parts C CS H p d dx sp ds L a b) : a ≠ L := ne_of r.ha r.hL il_ne
theorem Parts.Lb (r : Parts C CS H p d dx sp ds L a b) : b ≠ L := ne_of r.hb r.hL il_ne
theorem Parts.pL (r : Parts C CS H p d dx sp ds L a b) : L ≠ p := ne_of r.hL r.hp (by intro q; cases q)
theorem Parts.pa (r : Parts C CS H p d dx sp ds L a b) : a ≠ p := ne_of r.ha r.hp (by intro q; cases q)
theorem Parts.pb (r : Parts C CS H p d dx sp ds L a b) : b ≠ p := ne_of r.hb r.hp (by intro q; cases q)
theorem so_ne {u : V} {C' dx' L' : Addr} : so CS ds d ≠ .ins C' dx' (pf u L') := by
  intro q
  have e := congrArg (fun o : HO => match o with | .ins _ _ fs => fs.length | _ => 0) q
  have e1 : 4 = 2 := e
  omega
theorem Parts.ps (r : Parts C CS H p d dx sp ds L a b) : sp ≠ p := ne_of r.hs r.hp so_ne
theorem Parts.sL (r : Parts C CS H p d dx sp ds L a b) : sp ≠ L := ne_of r.hs r.hL (by intro q; cases q)
theorem Parts.sa (r : Parts C CS H p d dx sp ds L a b) : sp ≠ a := ne_of r.hs r.ha (by intro q; cases q)
theorem Parts.sb (r : Parts C CS H p d dx sp ds L a b) : sp ≠ b := ne_of r.hs r.hb (by intro q; cases q)
/-- a table -/
def tb (d : Desk) (t : Nat) : List Int := Kp388.tableOf d t
theorem tb0 (d : Desk) : tb d 0 = d.a := rfl
theorem tb1 (d : Desk) : tb d 1 = d.b := rfl
theorem Parts.tab (r : Parts C CS H p d dx sp ds L a b) {t : Nat} (ht : t < 2) : ∃ c, atI ([.ref a, .ref b] : List V) (t : Int) = some (.ref c) ∧ H c = some (il (tb d t)) := by
  have : t = 0 ∨ t = 1 := by omega
  rcases this with rfl | rfl
  · exact ⟨a, rfl, r.ha⟩
  · exact ⟨b, rfl, r.hb⟩
theorem Ok.tl (o : Ok d) (t : Nat) : (tb d t).length = sz d := by
  unfold tb Kp388.tableOf
  split
  · exact o.la
  · exact o.lb
theorem Ok.tbd (o : Ok d) (t : Nat) : ∀ x ∈ tb d t, -100000 ≤ x ∧ x ≤ 100000 := by
  unfold tb Kp388.tableOf
  split
  · exact o.ba
  · exact o.bb
theorem Ok.d30 (o : Ok d) : (d.h : Int) - d.g < 1073741824 := by
  have := o.h2
  omega
end
/-- an answer, number by number -/
def al (a : Kp388.Ans) : List Int := a.num :: a.nums
def stepL (d : Desk) (c : Kp388.Call) : List V := (al (Kp388.step (some d) c).2).map V.int
theorem New.on {H H1 : Hp} {l : List V} {Q : VK} (k : New H l Q) (s : Same H H1) : New H1 l Q := fun H' r s1 nr hr => k H' r (s.trans s1) (s.free nr) hr
theorem New.at {H : Hp} {l : List V} {Q : VK} (k : New H l Q) {r : Addr} (nr : H r = none) : Q (.ref r) (upd H r (.lst l)) := k _ r (same_new nr) nr upd_same
def wh4 (t s x q : Nat) : List V := [.int t, .int s, .int x, .int q]
/-! ### begun, has, spot, payis, potof, least, leastrow -/
abbrev s_Tables_begun : Stmt := inClass (topS 23) 1
abbrev n_Tables_begun : List Str := ["self"]
theorem sc_Tables_begun : FnScope n_Tables_begun ["self"] (defScope s_Tables_begun) := ⟨rfl, rfl, rfl, by decide +kernel, rfl, by decide +kernel, by decide +kernel⟩
abbrev s_Tables_has : Stmt := inClass (topS 23) 2
abbrev n_Tables_has : List Str := ["self", "where", "limits", "k"]
theorem sc_Tables_has : FnScope n_Tables_has ["self", "where"] (defScope s_Tables_has) := ⟨rfl, rfl, rfl, by decide +kernel, rfl, by decide +kernel, by decide +kernel⟩
abbrev s_Tables_spot : Stmt := inClass (topS 23) 3
abbrev n_Tables_spot : List Str := ["self", "where"]
theorem sc_Tables_spot : FnScope n_Tables_spot ["self", "where"] (defScope s_Tables_spot) := ⟨rfl, rfl, rfl, by decide +kernel, rfl, by decide +kernel, by decide +kernel⟩
abbrev s_Tables_payis : Stmt := inClass (topS 23) 7
abbrev n_Tables_payis : List Str := ["self", "where"]
theorem sc_Tables_payis : FnScope n_Tables_payis ["self", "where"] (defScope s_Tables_payis) := ⟨rfl, rfl, rfl, by decide +kernel, rfl, by decide +kernel, by decide +kernel⟩
abbrev s_Tables_potof : Stmt := inClass (topS 23) 13
abbrev n_Tables_potof : List Str := ["self", "t", "own"]
theorem sc_Tables_potof : FnScope n_Tables_potof ["self", "t"] (defScope s_Tables_potof) := ⟨rfl, rfl, rfl, by decide +kernel, rfl, by decide +kernel, by decide +kernel⟩
abbrev s_Tables_least : Stmt := inClass (topS 23) 14
abbrev n_Tables_least : List Str := ["self", "where", "pay"]
theorem sc_Tables_least : FnScope n_Tables_least ["self", "where"] (defScope s_Tables_least) := ⟨rfl, rfl, rfl, by decide +kernel, rfl, by decide +kernel, by decide +kernel⟩
abbrev s_Tables_leastrow : Stmt := inClass (topS 23) 15
abbrev n_Tables_leastrow : List Str := ["self", "where", "first", "pays"]
theorem sc_Tables_leastrow : FnScope n_Tables_leastrow ["self", "where"] (defScope s_Tables_leastrow) := ⟨rfl, rfl, rfl, by decide +kernel, rfl, by decide +kernel, by decide +kernel⟩
abbrev s_Tables_is_trivial : Stmt := inClass (topS 23) 16
abbrev n_Tables_is_trivial : List Str := ["self", "table"]
theorem sc_Tables_is_trivial : FnScope n_Tables_is_trivial ["self", "table"] (defScope s_Tables_is_trivial) := ⟨rfl, rfl, rfl, by decide +kernel, rfl, by decide +kernel, by decide +kernel⟩
abbrev s_Tables_trivial : Stmt := inClass (topS 23) 17
abbrev n_Tables_trivial : List Str := ["self", "t"]
theorem sc_Tables_trivial : FnScope n_Tables_trivial ["self", "t"] (defScope s_Tables_trivial) := ⟨rfl, rfl, rfl, by decide +kernel, rfl, by decide +kernel, by decide +kernel⟩
abbrev s_Tables_apart : Stmt := inClass (topS 23) 18
abbrev n_Tables_apart : List Str := ["self", "k"]
theorem sc_Tables_apart : FnScope n_Tables_apart ["self"] (defScope s_Tables_apart) := ⟨rfl, rfl, rfl, by decide +kernel, rfl, by decide +kernel, by decide +kernel⟩
def spBegun (C : Addr) : Sp := fun vs H Q _ => ∃ (p dx L : Addr) (u : V), vs = [.ref p] ∧ H p = some (.ins C dx (pf u L)) ∧ Q (.bl (!decide (u = .non))) H
/-- each number is below its limit -/
def hasB (d : Desk) (ns : List Int) : Bool := (ns.zip [2, (d.n : Int), d.m, d.n]).all fun y => decide (y.1 < y.2)
def spHas (K : PySem.W.Frag) (C CS : Addr) : Sp := fun vs H Q _ => ∃ (p a : Addr) (d : Desk) (ns : List Int), vs = [.ref p, .ref a] ∧ Rep C CS H p d ∧ SqL K H a (ns.map V.int) ∧ ns.length ≤ 4 ∧ ∀ H', Same H H' → Q (.bl (hasB d ns)) H'
def spTSpot (K : PySem.W.Frag) (C CS : Addr) : Sp := fun vs H Q _ => ∃ (p aw : Addr) (d : Desk) (t s x q : Nat), vs = [.ref p, .ref aw] ∧ Rep C CS H p d ∧ Ok d ∧ SqL K H aw (wh4 t s x q) ∧ Q (.int (Kp388.index d s x q : Nat)) H
/-- table, place, act, next place are such -/
structure In4 (d : Desk) (t s x q : Nat) : Prop where
  t : t < 2
  s : s < d.n
  x : x < d.m
  q : q < d.n
def spPayis (K : PySem.W.Frag) (C CS : Addr) : Sp := fun vs H Q _ => ∃ (p a : Addr) (d : Desk) (t s x q : Nat), vs = [.ref p, .ref a] ∧ Rep C CS H p d ∧ Ok d ∧ SqL K H a (wh4 t s x q) ∧ In4 d t s x q ∧ New H (stepL d (.payIs t s x q)) Q
def spPotof (C CS : Addr) : Sp := fun vs H Q _ => ∃ (p : Addr) (d : Desk) (t : Nat), vs = [.ref p, .int t] ∧ Rep C CS H p d ∧ Ok d ∧ t < 2 ∧ New H (stepL d (.potOf t)) Q
def spLeast (K : PySem.W.Frag) (C CS : Addr) : Sp := fun vs H Q _ => ∃ (p a : Addr) (d : Desk) (t s x q : Nat), vs = [.ref p, .ref a] ∧ Rep C CS H p d ∧ Ok d ∧ SqL K H a (wh4 t s x q) ∧ In4 d t s x q ∧ New H (stepL d (.least t s x q)) Q
def spLeastrow (K : PySem.W.Frag) (C CS : Addr) : Sp := fun vs H Q _ => ∃ (p a : Addr) (d : Desk) (t s x : Nat), vs = [.ref p, .ref a] ∧ Rep C CS H p d ∧ Ok d ∧ SqL K H a [.int t, .int s, .int x] ∧ In4 d t s x 0 ∧ New H (stepL d (.leastRow t s x)) Q
def spTriv (K : PySem.W.Frag) (C CS : Addr) : Sp := fun vs H Q _ => ∃ (p a : Addr) (d : Desk) (l : List Int), vs = [.ref p, .ref a] ∧ Rep C CS H p d ∧ Ok d ∧ SqL K H a (l.map V.int) ∧ l.length = sz d ∧ ∀ H', Same H H' → Q (.bl (zer (LF d l))) H'
def spTrivial (C CS : Addr) : Sp := fun vs H Q _ => ∃ (p : Addr) (d : Desk) (t : Nat), vs = [.ref p, .int t] ∧ Rep C CS H p d ∧ Ok d ∧ t < 2 ∧ New H (stepL d (.trivial t)) Q
abbrev less := Kp388.lessTable
def spApart (C CS : Addr) : Sp := fun vs H Q _ => ∃ (p : Addr) (d : Desk), vs = [.ref p] ∧ Rep C CS H p d ∧ Ok d ∧ New H ((less d).map V.int) Q
theorem lim_at (d : Desk) {i : Nat} (h : i < 4) : atI ([.int 2, .int d.n, .int d.m, .int d.n] : List V) (i : Int) = some (.int (([2, (d.n : Int), d.m, d.n] : List Int).getD i 0)) := by
  have : i = 0 ∨ i = 1 ∨ i = 2 ∨ i = 3 := by omega
  rcases this with rfl | rfl | rfl | rfl <;> rfl
theorem zip_at {d : Desk} {ns : List Int} {i : Nat} {z : Int} (h : ns[i]? = some z) (h4 : i < 4) : (ns.zip [2, (d.n : Int), d.m, d.n])[i]? = some (z, ([2, (d.n : Int), d.m, d.n] : List Int).getD i 0) := by
  rw [List.getElem?_zip_eq_some]
  refine ⟨h, ?_⟩
  have : i = 0 ∨ i = 1 ∨ i = 2 ∨ i = 3 := by omega
  rcases this with rfl | rfl | rfl | rfl <;> rfl
theorem zip_take_l {α β : Type} : ∀ (i : Nat) (l : List α) (k : List β), (l.take i).zip k = (l.zip k).take i
  | 0, _, _ => rfl
  | _ + 1, [], _ => rfl
  | i + 1, _ :: _, [] => by simp
  | i + 1, a :: l, b :: k => by simp [zip_take_l i l k]
theorem hasB_more {d : Desk} {ns : List Int} {i : Nat} {z : Int} (hb : hasB d (ns.take i) = true) (h : ns[i]? = some z) (h4 : i < 4) (hl : z < ([2, (d.n : Int), d.m, d.n] : List Int).getD i 0) : hasB d (ns.take (i + 1)) = true := by
  unfold hasB at hb ⊢
  rw [zip_take_l] at hb ⊢
  rw [take_more (zip_at h h4), List.all_append, hb]
  show (true && (decide (z < ([2, (d.n : Int), d.m, d.n] : List Int).getD i 0) && true)) = true
  rw [decide_eq_true hl]
  rfl
theorem isAt_t {d : Desk} {t s x q : Nat} (i : In4 d t s x q) : Kp388.isAt d t s x q = true := by
  have ht := i.t
  unfold Kp388.isAt
  rw [decide_eq_true (by omega : t ≤ 1), decide_eq_true i.s, decide_eq_true i.x, decide_eq_true i.q]
  rfl
theorem In4.ix {d : Desk} {t s x q : Nat} (i : In4 d t s x q) : Kp388.index d s x q < sz d := ix_lt i.s i.x i.q
theorem step_payis {d : Desk} {t s x q : Nat} (i : In4 d t s x q) : stepL d (.payIs t s x q) = [.int 0, .int ((tb d t).getD (Kp388.index d s x q) 0)] := by
  unfold stepL
  show (al (if Kp388.isAt d t s x q = false then Kp388.say (-2) else ⟨0, [Kp388.pay d t s x q]⟩)).map V.int = _
  rw [if_neg (by rw [isAt_t i]; decide)]
  rfl
/-- a number, then fractions -/
def frsV (i : Int) (us : List Int) (v : Int) : List V := .int i :: us.flatMap fun u => frV u v
theorem frs_V (l : List Int) (v : Int) : (al (Kp388.frs (l.map fun u => Kp340.fr u v))).map V.int = frsV l.length l v := by
  unfold Kp388.frs al frsV frV
  simp [List.flatMap_map, List.map_flatMap]
theorem pot_own {d : Desk} (o : Ok d) (l : List Int) : Kp388.potOf d l = (ownL d l).map fun u => Kp340.fr u ((d.h : Int) - d.g) := by
  rw [potOf_eq o]
  unfold ownL
  rw [List.map_map]
  rfl
theorem ownL_len (d : Desk) (l : List Int) : (ownL d l).length = d.n := by
  unfold ownL
  rw [List.length_map, List.length_range]
theorem step_potof {d : Desk} (o : Ok d) {t : Nat} (ht : t < 2) : stepL d (.potOf t) = frsV d.n (ownL d (tb d t)) ((d.h : Int) - d.g) := by
  unfold stepL
  show (al (if 1 < t then Kp388.say (-2) else Kp388.frs (Kp388.potOf d (Kp388.tableOf d t)))).map V.int = _
  rw [if_neg (by omega), pot_own o, frs_V, ownL_len]
  rfl
theorem step_least {d : Desk} (o : Ok d) {t s x q : Nat} (i : In4 d t s x q) : stepL d (.least t s x q) = frsV 0 [WK d (tb d t) (Kp388.index d s x q)] ((d.h : Int) - d.g) := by
  unfold stepL
  show (al (if Kp388.isAt d t s x q = false then Kp388.say (-2) else Kp388.frRow ((Kp388.leastOf d (Kp388.tableOf d t)).getD (Kp388.index d s x q) (0, 1)))).map V.int = _
  rw [if_neg (by rw [isAt_t i]; decide), least_at o _ i.s i.x i.q, WK_ix i.x i.q]
  rfl
theorem step_leastrow {d : Desk} (o : Ok d) {t s x : Nat} (i : In4 d t s x 0) : stepL d (.leastRow t s x) = frsV d.n (((LF d (tb d t)).drop (Kp388.index d s x 0)).take d.n) ((d.h : Int) - d.g) := by
  unfold stepL
  show (al (if Kp388.isAt d t s x 0 = false then Kp388.say (-2) else Kp388.frs ((List.range d.n).map fun q => (Kp388.leastOf d (Kp388.tableOf d t)).getD (Kp388.index d s x q) (0, 1)))).map V.int = _
  rw [if_neg (by rw [isAt_t i]; decide), LF_cut o _ i.s i.x]
  have e : ((List.range d.n).map fun q => (Kp388.leastOf d (Kp388.tableOf d t)).getD (Kp388.index d s x q) (0, 1)) = ((List.range d.n).map fun q => W d (tb d t) s x q).map fun u => Kp340.fr u ((d.h : Int) - d.g) := by
    rw [List.map_map]
    refine List.map_congr_left fun q hq => ?_
    rw [least_at o _ i.s i.x (List.mem_range.mp hq)]
    rfl
  rw [e, frs_V, List.length_map, List.length_range]
theorem step_trivial {d : Desk} (o : Ok d) {t : Nat} (ht : t < 2) : stepL d (.trivial t) = [.int (if zer (LF d (tb d t)) then 1 else 0)] := by
  unfold stepL
  show (al (if 1 < t then Kp388.say (-2) else Kp388.yes ((Kp388.leastOf d (Kp388.tableOf d t)).all fun x => x == (0, 1)))).map V.int = _
  rw [if_neg (by omega), triv_LF o]
  rfl
theorem cut_mid (x y z : List Int) {i j : Int} (hi : i = (x.length : Nat)) (hj : j = ((x.length + y.length : Nat) : Nat)) : cutV ((x ++ (y ++ z)).map V.int) (some i) (some j) = y.map V.int := by
  subst hi hj
  unfold cutV
  rw [HT.sIx_nat, HT.sIx_nat, List.length_map, List.length_append, List.length_append, Nat.min_eq_left (by omega), Nat.min_eq_left (by omega), List.map_append, List.map_append]
  rw [List.drop_left' (by simp), List.take_left' (by simp)]
theorem cut_dt {l : List Int} {i n : Nat} (h : i + n ≤ l.length) : cutV (l.map V.int) (some (i : Int)) (some ((i : Int) + (n : Int))) = ((l.drop i).take n).map V.int := by
  have e : l = l.take i ++ ((l.drop i).take n ++ (l.drop i).drop n) := by rw [List.take_append_drop, List.take_append_drop]
  conv => lhs; rw [e]
  refine cut_mid _ _ _ ?_ ?_
  · rw [List.length_take]
    omega
  · rw [List.length_take, List.length_take, List.length_drop]
    omega
section
variable {P : Program} {w : World} {K : PySem.W.Frag} {mg : Str → Option Value} {base : Heap} {C CS : Addr}
theorem ok_begun {f : Addr} {fd : FuncData} (F : Fun K "begun" "Tables.begun" s_Tables_begun f fd) (T : Txt K mg C CS) : FnOk P w K mg base CX0 1 f fd ["self"] (spBegun C) := by
  refine F.ok sc_Tables_begun (fun vs H Q E h => ?_) (fun cdv A outer s H vs Q E hr h => ⟨_, (pss_one (ps_ret (pe_cmpR op_notN (pe_fld (pv 0) rfl) pe_non (nomark _)))), ?_⟩)
  · obtain ⟨p, dx, L, u, rfl, _⟩ := h
    rfl
  · obtain ⟨p, dx, L, u, rfl, hp, k⟩ := h
    exact ⟨_, rfl, p, C, dx, _, _, rfl, hp, T.cl, T.n_setting, pf_setting, rfl, k⟩
theorem ok_has {f : Addr} {fd : FuncData} (F : Fun K "has" "Tables.has" s_Tables_has f fd) (T : Txt K mg C CS) : FnOk P w K mg base CX0 1 f fd ["self", "where"] (spHas K C CS) := by
  refine F.ok sc_Tables_has (fun vs H Q E h => ?_) (fun cdv A outer s H vs Q E hr h => ⟨_, (pss_cons (ps_set (i := 2) sc_Tables_has.nd rfl (Or.inl rfl) (pe_lst (pa_cons pe_int (pa_cons (pe_fld (pe_fld (pv 0) rfl) rfl) (pa_cons (pe_fld (pe_fld (pv 0) rfl) rfl) (pa_cons (pe_fld (pe_fld (pv 0) rfl) rfl) pa_nil))))))
      (pss_cons (ps_for PassesOwn.never rfl (pi_range1 (by rfl) T.z_range (pa_cons (pe_callB call_len_seq (by rfl) T.z_len PySem.boot_len (pa_cons (pv 1) pa_nil)) pa_nil)) (pg_name (i := 3) sc_Tables_has.nd rfl (Or.inl rfl)) (pss_one (ps_if (pt_cmpR op_ge (pe_ix ix_list (pv 1) (pv 3) (fun _ _ => rfl)) (pe_ix ix_list (pv 2) (pv 3) (fun _ _ => rfl)) (nomark _)) (pss_one (ps_ret pe_bl)) pss_nil)))
      (pss_one (ps_ret pe_bl)))), ?_⟩)
  · obtain ⟨p, a, d, ns, rfl, _⟩ := h
    rfl
  · obtain ⟨p, a, d, ns, rfl, ⟨dx, sp, ds, L, x, y, r⟩, hS, hl, k⟩ := h
    refine ⟨_, rfl, p, C, dx, _, _, rfl, r.hp, T.cl, T.n_setting, pf_setting, sp, CS, ds, _, _, rfl, r.hs, T.clS, T.n_places, sf_places, _, rfl, p, C, dx, _, _, rfl, r.hp, T.cl, T.n_setting, pf_setting, sp, CS, ds, _, _, rfl, r.hs, T.clS, T.n_acts, sf_acts, _, rfl, p, C, dx, _, _, rfl, r.hp, T.cl, T.n_setting, pf_setting, sp, CS, ds, _, _, rfl, r.hs, T.clS, T.n_places, sf_places, by show 4 ≤ sizeLine; decide, fun D hD => ?_⟩
    have s1 : Same H (upd H D (.lst [.int 2, .int d.n, .int d.m, .int d.n])) := same_new hD
    refine ⟨_, rfl, a, _, rfl, .inl (s1.seq hS), _, rfl, ?_, ?_, for_range (n := (ns.map V.int).length) (fun i σ H' => ∃ v : Option V, σ = [some (.ref p), some (.ref a), some (.ref D), v] ∧ H' = upd H D (.lst [.int 2, .int d.n, .int d.m, .int d.n]) ∧ hasB d (ns.take i) = true) ⟨none, rfl, rfl, rfl⟩ ?_ ?_⟩
    · rw [List.length_map]; omega
    · rw [List.length_map]; omega
    · rintro i σ H' hi ⟨v, rfl, rfl, hb⟩
      rw [List.length_map] at hi
      have e0 : (0 : Int) + (i : Int) = i := by omega
      rw [e0]
      have hz : ns[i]? = some (ns.getD i 0) := by
        rw [List.getD_eq_getElem?_getD, List.getElem?_eq_getElem hi]
        rfl
      have hz4 := zip_at (d := d) hz (by omega)
      refine ⟨_, rfl, _, rfl, a, _, _, _, rfl, rfl, s1.seq hS, pay_at hi, _, rfl, _, rfl, D, _, _, _, rfl, rfl, SqL.of upd_same, lim_at d (by omega), _, _, rfl, rfl, _, rfl, ?_⟩
      refine if_b (fun c => ?_) (fun c => ?_)
      · have c1 := of_decide_eq_true c
        have hf : hasB d ns = false := by
          refine List.all_eq_false.mpr ⟨_, List.mem_of_getElem? hz4, ?_⟩
          rw [decide_eq_false (by show ¬ (_ < _); omega)]
          decide
        have k1 := k _ s1
        rw [hf] at k1
        exact k1
      · have c1 := of_decide_eq_false c
        refine ⟨_, rfl, rfl, ?_⟩
        exact hasB_more hb hz (by omega) (by omega)
    · rintro σ H' ⟨v, rfl, rfl, hb⟩
      rw [List.length_map, List.take_length] at hb
      have k1 := k _ s1
      rw [hb] at k1
      exact k1
theorem ok_tspot {f : Addr} {fd : FuncData} (F : Fun K "spot" "Tables.spot" s_Tables_spot f fd) (T : Txt K mg C CS) (M_Setting_spot : Met P w K mg base 1 CS "spot" (spSpot CS)) : FnOk P w K mg base CX0 2 f fd ["self", "where"] (spTSpot K C CS) := by
  obtain ⟨f_Setting_spot, fd_Setting_spot, ps_Setting_spot, c_Setting_spot, m_Setting_spot, F_Setting_spot, b_Setting_spot⟩ := M_Setting_spot.ex
  refine F.ok sc_Tables_spot (fun vs H Q E h => ?_) (fun cdv A outer s H vs Q E hr h => ⟨_, (pss_one (ps_ret (pe_meth (pe_fld (pv 0) rfl) c_Setting_spot m_Setting_spot F_Setting_spot (hr.mono (by decide)) b_Setting_spot .nil pass0 (pa_cons (pe_ix ix_list (pv 1) pe_int (fun _ _ => rfl)) (pa_cons (pe_ix ix_list (pv 1) pe_int (fun _ _ => rfl)) (pa_cons (pe_ix ix_list (pv 1) pe_int (fun _ _ => rfl)) pa_nil)))))), ?_⟩)
  · obtain ⟨p, aw, d, t, s, x, q, rfl, _⟩ := h
    rfl
  · obtain ⟨p, aw, d, t, s, x, q, rfl, ⟨dx, sp, ds, L, a, b, r⟩, o, hw, k⟩ := h
    exact ⟨_, rfl, p, C, dx, _, _, rfl, r.hp, T.cl, T.n_setting, pf_setting, sp, ds, _, rfl, r.hs, sf_no, _, rfl, aw, _, _, _, rfl, rfl, hw, rfl, _, rfl, aw, _, _, _, rfl, rfl, hw, rfl, _, rfl, aw, _, _, _, rfl, rfl, hw, rfl, sp, ds, d, s, x, q, rfl, r.hs, o, k⟩
theorem ok_payis {f : Addr} {fd : FuncData} (F : Fun K "payis" "Tables.payis" s_Tables_payis f fd) (T : Txt K mg C CS) (M_Tables_spot : Met P w K mg base 2 C "spot" (spTSpot K C CS)) : FnOk P w K mg base CX0 3 f fd ["self", "where"] (spPayis K C CS) := by
  obtain ⟨f_Tables_spot, fd_Tables_spot, ps_Tables_spot, c_Tables_spot, m_Tables_spot, F_Tables_spot, b_Tables_spot⟩ := M_Tables_spot.ex
  refine F.ok sc_Tables_payis (fun vs H Q E h => ?_) (fun cdv A outer s H vs Q E hr h => ⟨_, (pss_one (ps_ret (pe_lst (pa_cons pe_int (pa_cons (pe_ix ix_list (pe_ix ix_list (pe_fld (pv 0) rfl) (pe_ix ix_list (pv 1) pe_int (fun _ _ => rfl)) (fun _ _ => rfl)) (pe_meth (pv 0) c_Tables_spot m_Tables_spot F_Tables_spot (hr.mono (by decide)) b_Tables_spot .nil pass0 (pa_cons (pv 1) pa_nil)) (fun _ _ => rfl)) pa_nil))))), ?_⟩)
  · obtain ⟨p, a, d, t, s, x, q, rfl, _⟩ := h
    rfl
  · obtain ⟨p, aw, d, t, s, x, q, rfl, ⟨dx, sp, ds, L, a, b, r⟩, o, hw, i, k⟩ := h
    rw [step_payis i] at k
    obtain ⟨c, ec, hc⟩ := r.tab i.t
    refine ⟨_, rfl, p, C, dx, _, _, rfl, r.hp, T.cl, T.n_pays, pf_pays, _, rfl, aw, _, _, _, rfl, rfl, hw, rfl, L, _, _, _, rfl, rfl, SqL.of r.hL, ec, _, rfl, p, dx, _, rfl, r.hp, pf_no, _, rfl, p, aw, d, t, s, x, q, rfl, r.rep, o, hw, ?_⟩
    exact ⟨c, _, _, _, rfl, rfl, SqL.of hc, pay_at (by rw [o.tl]; exact i.ix), by show 2 ≤ sizeLine; decide, fun D nD => k.at nD⟩
theorem ok_potof {f : Addr} {fd : FuncData} (F : Fun K "potof" "Tables.potof" s_Tables_potof f fd) (T : Txt K mg C CS) (M_Setting_divisor : Met P w K mg base 1 CS "divisor" (spDiv CS)) (M_Setting_own_potentials : Met P w K mg base 3 CS "own_potentials" (spOwn K CS)) (M_told_fractions : Cal P w K mg base 3 "told_fractions" (spTold K)) : FnOk P w K mg base CX0 4 f fd ["self", "t"] (spPotof C CS) := by
  obtain ⟨f_Setting_divisor, fd_Setting_divisor, ps_Setting_divisor, c_Setting_divisor, m_Setting_divisor, F_Setting_divisor, b_Setting_divisor⟩ := M_Setting_divisor.ex
  obtain ⟨f_Setting_own_potentials, fd_Setting_own_potentials, ps_Setting_own_potentials, c_Setting_own_potentials, m_Setting_own_potentials, F_Setting_own_potentials, b_Setting_own_potentials⟩ := M_Setting_own_potentials.ex
  obtain ⟨f_told_fractions, fd_told_fractions, ps_told_fractions, F_told_fractions, g_told_fractions, k_told_fractions, b_told_fractions⟩ := M_told_fractions.ex
  refine F.ok sc_Tables_potof (fun vs H Q E h => ?_) (fun cdv A outer s H vs Q E hr h => ⟨_, (pss_cons (ps_set (i := 2) sc_Tables_potof.nd rfl (Or.inl rfl) (pe_meth (pe_fld (pv 0) rfl) c_Setting_own_potentials m_Setting_own_potentials F_Setting_own_potentials (hr.mono (by decide)) b_Setting_own_potentials .nil pass0 (pa_cons (pe_ix ix_list (pe_fld (pv 0) rfl) (pv 1) (fun _ _ => rfl)) pa_nil)))
      (pss_one (ps_ret (pe_call F_told_fractions (hr.mono (by decide)) rfl g_told_fractions k_told_fractions b_told_fractions .nil pass0 (pa_cons (pe_fld (pe_fld (pv 0) rfl) rfl) (pa_cons (pv 2) (pa_cons (pe_meth0 (pe_fld (pv 0) rfl) c_Setting_divisor m_Setting_divisor F_Setting_divisor (hr.mono (by decide)) b_Setting_divisor .nil pass0) pa_nil))))))), ?_⟩)
  · obtain ⟨p, d, t, rfl, _⟩ := h
    rfl
  · obtain ⟨p, d, t, rfl, ⟨dx, sp, ds, L, a, b, r⟩, o, ht, k⟩ := h
    rw [step_potof o ht] at k
    have h1 := o.n2
    obtain ⟨c, ec, hc⟩ := r.tab ht
    refine ⟨_, rfl, p, C, dx, _, _, rfl, r.hp, T.cl, T.n_setting, pf_setting, sp, ds, _, rfl, r.hs, sf_no, _, rfl, p, C, dx, _, _, rfl, r.hp, T.cl, T.n_pays, pf_pays, _, rfl, L, _, _, _, rfl, rfl, SqL.of r.hL, ec, sp, ds, c, d, tb d t, rfl, r.hs, o, SqL.of hc, o.tl t, fun H1 y s1 ny hy => ?_⟩
    have r1 := r.mono s1
    exact ⟨_, rfl, p, C, dx, _, _, rfl, r1.hp, T.cl, T.n_setting, pf_setting, sp, CS, ds, _, _, rfl, r1.hs, T.clS, T.n_places, sf_places, _, rfl, _, rfl, p, C, dx, _, _, rfl, r1.hp, T.cl, T.n_setting, pf_setting, sp, ds, _, rfl, r1.hs, sf_no, sp, ds, d, rfl, r1.hs, d.n, (d.h : Int) - d.g, y, ownL d (tb d t), rfl, SqL.of hy, by rw [ownL_len]; omega, o.lo, o.d30, k.on s1⟩
theorem ok_least {f : Addr} {fd : FuncData} (F : Fun K "least" "Tables.least" s_Tables_least f fd) (T : Txt K mg C CS) (M_Setting_divisor : Met P w K mg base 1 CS "divisor" (spDiv CS)) (M_Setting_least_pay : Met P w K mg base 3 CS "least_pay" (spLeastPay K CS)) (M_told_fractions : Cal P w K mg base 3 "told_fractions" (spTold K)) (M_Tables_spot : Met P w K mg base 2 C "spot" (spTSpot K C CS)) : FnOk P w K mg base CX0 4 f fd ["self", "where"] (spLeast K C CS) := by
  obtain ⟨f_Setting_divisor, fd_Setting_divisor, ps_Setting_divisor, c_Setting_divisor, m_Setting_divisor, F_Setting_divisor, b_Setting_divisor⟩ := M_Setting_divisor.ex
  obtain ⟨f_Setting_least_pay, fd_Setting_least_pay, ps_Setting_least_pay, c_Setting_least_pay, m_Setting_least_pay, F_Setting_least_pay, b_Setting_least_pay⟩ := M_Setting_least_pay.ex
  obtain ⟨f_told_fractions, fd_told_fractions, ps_told_fractions, F_told_fractions, g_told_fractions, k_told_fractions, b_told_fractions⟩ := M_told_fractions.ex
  obtain ⟨f_Tables_spot, fd_Tables_spot, ps_Tables_spot, c_Tables_spot, m_Tables_spot, F_Tables_spot, b_Tables_spot⟩ := M_Tables_spot.ex
  refine F.ok sc_Tables_least (fun vs H Q E h => ?_) (fun cdv A outer s H vs Q E hr h => ⟨_, (pss_cons (ps_set (i := 2) sc_Tables_least.nd rfl (Or.inl rfl) (pe_meth (pe_fld (pv 0) rfl) c_Setting_least_pay m_Setting_least_pay F_Setting_least_pay (hr.mono (by decide)) b_Setting_least_pay .nil pass0 (pa_cons (pe_ix ix_list (pe_fld (pv 0) rfl) (pe_ix ix_list (pv 1) pe_int (fun _ _ => rfl)) (fun _ _ => rfl)) (pa_cons (pe_meth (pv 0) c_Tables_spot m_Tables_spot F_Tables_spot (hr.mono (by decide)) b_Tables_spot .nil pass0 (pa_cons (pv 1) pa_nil)) pa_nil))))
      (pss_one (ps_ret (pe_call F_told_fractions (hr.mono (by decide)) rfl g_told_fractions k_told_fractions b_told_fractions .nil pass0 (pa_cons pe_int (pa_cons (pe_lst (pa_cons (pv 2) pa_nil)) (pa_cons (pe_meth0 (pe_fld (pv 0) rfl) c_Setting_divisor m_Setting_divisor F_Setting_divisor (hr.mono (by decide)) b_Setting_divisor .nil pass0) pa_nil))))))), ?_⟩)
  · obtain ⟨p, a, d, t, s, x, q, rfl, _⟩ := h
    rfl
  · obtain ⟨p, aw, d, t, s, x, q, rfl, ⟨dx, sp, ds, L, a, b, r⟩, o, hw, i, k⟩ := h
    rw [step_least o i] at k
    obtain ⟨c, ec, hc⟩ := r.tab i.t
    refine ⟨_, rfl, p, C, dx, _, _, rfl, r.hp, T.cl, T.n_setting, pf_setting, sp, ds, _, rfl, r.hs, sf_no, _, rfl, p, C, dx, _, _, rfl, r.hp, T.cl, T.n_pays, pf_pays, _, rfl, aw, _, _, _, rfl, rfl, hw, rfl, L, _, _, _, rfl, rfl, SqL.of r.hL, ec, _, rfl, p, dx, _, rfl, r.hp, pf_no, _, rfl, p, aw, d, t, s, x, q, rfl, r.rep, o, hw, ?_⟩
    refine ⟨sp, ds, c, d, tb d t, Kp388.index d s x q, rfl, r.hs, o, SqL.of hc, o.tl t, i.ix, fun H1 s1 => ?_⟩
    refine ⟨_, rfl, by show 1 ≤ sizeLine; decide, fun y ny => ?_⟩
    have s2 : Same H (upd H1 y (.lst [.int (WK d (tb d t) (Kp388.index d s x q))])) := s1.trans (same_new ny)
    have r2 := r.mono s2
    exact ⟨_, rfl, p, C, dx, _, _, rfl, r2.hp, T.cl, T.n_setting, pf_setting, sp, ds, _, rfl, r2.hs, sf_no, sp, ds, d, rfl, r2.hs, 0, (d.h : Int) - d.g, y, [WK d (tb d t) (Kp388.index d s x q)], rfl, SqL.of upd_same, by show 1 ≤ 1000; decide, o.lo, o.d30, k.on s2⟩
theorem ok_leastrow {f : Addr} {fd : FuncData} (F : Fun K "leastrow" "Tables.leastrow" s_Tables_leastrow f fd) (T : Txt K mg C CS) (M_Setting_spot : Met P w K mg base 1 CS "spot" (spSpot CS)) (M_Setting_divisor : Met P w K mg base 1 CS "divisor" (spDiv CS)) (M_Setting_least_form : Met P w K mg base 4 CS "least_form" (spForm K CS)) (M_told_fractions : Cal P w K mg base 3 "told_fractions" (spTold K)) : FnOk P w K mg base CX0 5 f fd ["self", "where"] (spLeastrow K C CS) := by
  obtain ⟨f_Setting_spot, fd_Setting_spot, ps_Setting_spot, c_Setting_spot, m_Setting_spot, F_Setting_spot, b_Setting_spot⟩ := M_Setting_spot.ex
  obtain ⟨f_Setting_divisor, fd_Setting_divisor, ps_Setting_divisor, c_Setting_divisor, m_Setting_divisor, F_Setting_divisor, b_Setting_divisor⟩ := M_Setting_divisor.ex
  obtain ⟨f_Setting_least_form, fd_Setting_least_form, ps_Setting_least_form, c_Setting_least_form, m_Setting_least_form, F_Setting_least_form, b_Setting_least_form⟩ := M_Setting_least_form.ex
  obtain ⟨f_told_fractions, fd_told_fractions, ps_told_fractions, F_told_fractions, g_told_fractions, k_told_fractions, b_told_fractions⟩ := M_told_fractions.ex
  refine F.ok sc_Tables_leastrow (fun vs H Q E h => ?_) (fun cdv A outer s H vs Q E hr h => ⟨_, (pss_cons (ps_set (i := 2) sc_Tables_leastrow.nd rfl (Or.inl rfl) (pe_meth (pe_fld (pv 0) rfl) c_Setting_spot m_Setting_spot F_Setting_spot (hr.mono (by decide)) b_Setting_spot .nil pass0 (pa_cons (pe_ix ix_list (pv 1) pe_int (fun _ _ => rfl)) (pa_cons (pe_ix ix_list (pv 1) pe_int (fun _ _ => rfl)) (pa_cons pe_int pa_nil)))))
      (pss_cons (ps_set (i := 3) sc_Tables_leastrow.nd rfl (Or.inl rfl) (pe_slice sl_list (pe_meth (pe_fld (pv 0) rfl) c_Setting_least_form m_Setting_least_form F_Setting_least_form (hr.mono (by decide)) b_Setting_least_form .nil pass0 (pa_cons (pe_ix ix_list (pe_fld (pv 0) rfl) (pe_ix ix_list (pv 1) pe_int (fun _ _ => rfl)) (fun _ _ => rfl)) pa_nil)) (po_some (pv 2)) (po_some (pe_op op_add (pv 2) (pe_fld (pe_fld (pv 0) rfl) rfl)))))
      (pss_one (ps_ret (pe_call F_told_fractions (hr.mono (by decide)) rfl g_told_fractions k_told_fractions b_told_fractions .nil pass0 (pa_cons (pe_fld (pe_fld (pv 0) rfl) rfl) (pa_cons (pv 3) (pa_cons (pe_meth0 (pe_fld (pv 0) rfl) c_Setting_divisor m_Setting_divisor F_Setting_divisor (hr.mono (by decide)) b_Setting_divisor .nil pass0) pa_nil)))))))), ?_⟩)
  · obtain ⟨p, a, d, t, s, x, rfl, _⟩ := h
    rfl
  · obtain ⟨p, aw, d, t, s, x, rfl, ⟨dx, sp, ds, L, a, b, r⟩, o, hw, i, k⟩ := h
    rw [step_leastrow o i] at k
    have h1 := o.n2
    obtain ⟨c, ec, hc⟩ := r.tab i.t
    refine ⟨_, rfl, p, C, dx, _, _, rfl, r.hp, T.cl, T.n_setting, pf_setting, sp, ds, _, rfl, r.hs, sf_no, _, rfl, aw, _, _, _, rfl, rfl, hw, rfl, _, rfl, aw, _, _, _, rfl, rfl, hw, rfl, sp, ds, d, s, x, 0, rfl, r.hs, o, ?_⟩
    refine ⟨_, rfl, p, C, dx, _, _, rfl, r.hp, T.cl, T.n_setting, pf_setting, sp, ds, _, rfl, r.hs, sf_no, _, rfl, p, C, dx, _, _, rfl, r.hp, T.cl, T.n_pays, pf_pays, _, rfl, aw, _, _, _, rfl, rfl, hw, rfl, L, _, _, _, rfl, rfl, SqL.of r.hL, ec, sp, ds, c, d, tb d t, rfl, r.hs, o, SqL.of hc, o.tl t, fun H1 y s1 ny hy => ?_⟩
    have r1 := r.mono s1
    refine ⟨_, rfl, _, rfl, _, rfl, _, rfl, p, C, dx, _, _, rfl, r1.hp, T.cl, T.n_setting, pf_setting, sp, CS, ds, _, _, rfl, r1.hs, T.clS, T.n_places, sf_places, _, _, rfl, rfl, _, rfl, y, _, rfl, SqL.of hy, fun z nz => ?_⟩
    have hc := cut_dt (l := LF d (tb d t)) (i := Kp388.index d s x 0) (n := d.n) (by
      rw [LF_len o]
      have := ix_lt (n := d.n) (m := d.m) (s := s) (x := x) (q := d.n - 1) i.s i.x (by have := o.n1; omega)
      unfold Kp388.index
      have := o.n1
      omega)
    try dsimp only
    rw [hc]
    have s2 : Same H (upd H1 z (.lst ((((LF d (tb d t)).drop (Kp388.index d s x 0)).take d.n).map V.int))) := s1.trans (same_new nz)
    have r2 := r.mono s2
    exact ⟨_, rfl, p, C, dx, _, _, rfl, r2.hp, T.cl, T.n_setting, pf_setting, sp, CS, ds, _, _, rfl, r2.hs, T.clS, T.n_places, sf_places, _, rfl, _, rfl, p, C, dx, _, _, rfl, r2.hp, T.cl, T.n_setting, pf_setting, sp, ds, _, rfl, r2.hs, sf_no, sp, ds, d, rfl, r2.hs, d.n, (d.h : Int) - d.g, z, ((LF d (tb d t)).drop (Kp388.index d s x 0)).take d.n, rfl, SqL.of upd_same, by rw [List.length_take]; omega, o.lo, o.d30, k.on s2⟩
theorem ok_triv {f : Addr} {fd : FuncData} (F : Fun K "is_trivial" "Tables.is_trivial" s_Tables_is_trivial f fd) (T : Txt K mg C CS) (M_all_zero : Cal P w K mg base 1 "all_zero" (spAllZero K)) (M_Setting_least_form : Met P w K mg base 4 CS "least_form" (spForm K CS)) : FnOk P w K mg base CX0 5 f fd ["self", "table"] (spTriv K C CS) := by
  obtain ⟨f_all_zero, fd_all_zero, ps_all_zero, F_all_zero, g_all_zero, k_all_zero, b_all_zero⟩ := M_all_zero.ex
  obtain ⟨f_Setting_least_form, fd_Setting_least_form, ps_Setting_least_form, c_Setting_least_form, m_Setting_least_form, F_Setting_least_form, b_Setting_least_form⟩ := M_Setting_least_form.ex
  refine F.ok sc_Tables_is_trivial (fun vs H Q E h => ?_) (fun cdv A outer s H vs Q E hr h => ⟨_, (pss_one (ps_ret (pe_call F_all_zero (hr.mono (by decide)) rfl g_all_zero k_all_zero b_all_zero .nil pass0 (pa_cons (pe_meth (pe_fld (pv 0) rfl) c_Setting_least_form m_Setting_least_form F_Setting_least_form (hr.mono (by decide)) b_Setting_least_form .nil pass0 (pa_cons (pv 1) pa_nil)) pa_nil)))), ?_⟩)
  · obtain ⟨p, a, d, l, rfl, _⟩ := h
    rfl
  · obtain ⟨p, al, d, l, rfl, ⟨dx, sp, ds, L, a, b, r⟩, o, hS, hl, k⟩ := h
    exact ⟨_, rfl, p, C, dx, _, _, rfl, r.hp, T.cl, T.n_setting, pf_setting, sp, ds, _, rfl, r.hs, sf_no, _, rfl, sp, ds, al, d, l, rfl, r.hs, o, hS, hl, fun H1 y s1 ny hy => ⟨y, LF d l, rfl, SqL.of hy, k _ s1⟩⟩
theorem ok_trivial {f : Addr} {fd : FuncData} (F : Fun K "trivial" "Tables.trivial" s_Tables_trivial f fd) (T : Txt K mg C CS) (M_yes_or_no : Cal P w K mg base 1 "yes_or_no" spYes) (M_Tables_is_trivial : Met P w K mg base 5 C "is_trivial" (spTriv K C CS)) : FnOk P w K mg base CX0 6 f fd ["self", "t"] (spTrivial C CS) := by
  obtain ⟨f_yes_or_no, fd_yes_or_no, ps_yes_or_no, F_yes_or_no, g_yes_or_no, k_yes_or_no, b_yes_or_no⟩ := M_yes_or_no.ex
  obtain ⟨f_Tables_is_trivial, fd_Tables_is_trivial, ps_Tables_is_trivial, c_Tables_is_trivial, m_Tables_is_trivial, F_Tables_is_trivial, b_Tables_is_trivial⟩ := M_Tables_is_trivial.ex
  refine F.ok sc_Tables_trivial (fun vs H Q E h => ?_) (fun cdv A outer s H vs Q E hr h => ⟨_, (pss_one (ps_ret (pe_call F_yes_or_no (hr.mono (by decide)) rfl g_yes_or_no k_yes_or_no b_yes_or_no .nil pass0 (pa_cons (pe_meth (pv 0) c_Tables_is_trivial m_Tables_is_trivial F_Tables_is_trivial (hr.mono (by decide)) b_Tables_is_trivial .nil pass0 (pa_cons (pe_ix ix_list (pe_fld (pv 0) rfl) (pv 1) (fun _ _ => rfl)) pa_nil)) pa_nil)))), ?_⟩)
  · obtain ⟨p, d, t, rfl, _⟩ := h
    rfl
  · obtain ⟨p, d, t, rfl, ⟨dx, sp, ds, L, a, b, r⟩, o, ht, k⟩ := h
    rw [step_trivial o ht] at k
    obtain ⟨c, ec, hc⟩ := r.tab ht
    exact ⟨_, rfl, p, dx, _, rfl, r.hp, pf_no, _, rfl, p, C, dx, _, _, rfl, r.hp, T.cl, T.n_pays, pf_pays, _, rfl, L, _, _, _, rfl, rfl, SqL.of r.hL, ec, p, c, d, tb d t, rfl, r.rep, o, SqL.of hc, o.tl t, fun H1 s1 => ⟨_, rfl, k.on s1⟩⟩
theorem ok_apart {f : Addr} {fd : FuncData} (F : Fun K "apart" "Tables.apart" s_Tables_apart f fd) (T : Txt K mg C CS) (M_Setting_size : Met P w K mg base 1 CS "size" (spSize CS)) : FnOk P w K mg base CX0 2 f fd ["self"] (spApart C CS) := by
  obtain ⟨f_Setting_size, fd_Setting_size, ps_Setting_size, c_Setting_size, m_Setting_size, F_Setting_size, b_Setting_size⟩ := M_Setting_size.ex
  refine F.ok sc_Tables_apart (fun vs H Q E h => ?_) (fun cdv A outer s H vs Q E hr h => ⟨_, (pss_one (ps_ret (pe_lc (own := [("k", 1)]) (g := gName 1) (tt := tYes) rfl sc_Tables_apart.nd (pi_range1 (by rfl) T.z_range (pa_cons (pe_meth0 (pe_fld (pv 0) rfl) c_Setting_size m_Setting_size F_Setting_size (hr.mono (by decide)) b_Setting_size .nil pass0) pa_nil)) (blkOk_by (own := [("k", 1)]) (N := n_Tables_apart) (sc := defScope s_Tables_apart) (by decide +kernel)) (fun _ _ _ _ _ => pg_name (i := 1) sc_Tables_apart.nd rfl (Or.inl rfl)) (fun _ _ _ _ _ => pts_nil) (fun _ _ _ _ _ => by exact (pe_op op_sub (pe_ix (ix_listK (K := K) rfl) (pe_ix (ix_listK (K := K) rfl) (pe_fd (K := K) rfl (pv 0)) pe_int (fun _ _ => rfl)) (pv 1) (fun _ _ => rfl)) (pe_ix (ix_listK (K := K) rfl) (pe_ix (ix_listK (K := K) rfl) (pe_fd (K := K) rfl (pv 0)) pe_int (fun _ _ => rfl)) (pv 1) (fun _ _ => rfl))))))), ?_⟩)
  · obtain ⟨p, d, rfl, _⟩ := h
    rfl
  · obtain ⟨p, d, rfl, ⟨dx, sp, ds, L, a, b, r⟩, o, k⟩ := h
    have h2 := o.z48
    have la := o.la
    have lb := o.lb
    have ek : less d = (List.range (sz d)).map fun k => d.b.getD k 0 - d.a.getD k 0 := less_range o
    rw [ek] at k
    refine ⟨_, rfl, p, C, dx, _, _, rfl, r.hp, T.cl, T.n_setting, pf_setting, sp, ds, _, rfl, r.hs, sf_no, sp, ds, d, rfl, r.hs, o, _, rfl, by omega, by omega, fun D nD => lc_range (lo := 0) (n := sz d) (fun i H' => H' = upd H D (il ((List.range i).map fun k => d.b.getD k 0 - d.a.getD k 0))) rfl ?_ ?_⟩
    · rintro i H' hi rfl
      rw [zadd]
      have s1 : Same H (upd H D (il ((List.range i).map fun k => d.b.getD k 0 - d.a.getD k 0))) := same_new nD
      have r1 := r.mono s1
      have hb1 : i < d.b.length := by rw [lb]; exact hi
      have ha1 : i < d.a.length := by rw [la]; exact hi
      refine ⟨rfl, _, rfl, p, C, dx, _, _, rfl, r1.hp, T.cl, T.n_pays, pf_pays, L, _, _, _, rfl, rfl, SqL.of r1.hL, rfl, _, rfl, b, _, _, _, rfl, rfl, SqL.of r1.hb, pay_at hb1, ?_⟩
      refine ⟨_, rfl, p, C, dx, _, _, rfl, r1.hp, T.cl, T.n_pays, pf_pays, L, _, _, _, rfl, rfl, SqL.of r1.hL, rfl, _, rfl, a, _, _, _, rfl, rfl, SqL.of r1.ha, pay_at ha1, _, _, rfl, rfl, _, upd_same, ?_, ?_⟩
      · rw [List.length_map, List.length_map, List.length_range]
        exact small_len (by omega)
      · rw [upd_upd]
        exact congrArg (upd H D) (il_more (fun k => d.b.getD k 0 - d.a.getD k 0) i)
    · rintro H' rfl
      exact k.at nD
end
end SP

set_option Elab.async false
set_option maxRecDepth 100000
set_option maxHeartbeats 2000000
set_option linter.unusedVariables false
namespace SP
open PySem PySem.Spec PyProof.Rows L2
/-! ### alike, potentials, factor, far, differ, ifset, told_path, path, gap -/
abbrev s_Tables_alike : Stmt := inClass (topS 23) 19
abbrev n_Tables_alike : List Str := ["self"]
theorem sc_Tables_alike : FnScope n_Tables_alike ["self"] (defScope s_Tables_alike) := ⟨rfl, rfl, rfl, by decide +kernel, rfl, by decide +kernel, by decide +kernel⟩
abbrev s_Tables_potentials : Stmt := inClass (topS 23) 20
abbrev n_Tables_potentials : List Str := ["self", "table", "own"]
theorem sc_Tables_potentials : FnScope n_Tables_potentials ["self"] (defScope s_Tables_potentials) := ⟨rfl, rfl, rfl, by decide +kernel, rfl, by decide +kernel, by decide +kernel⟩
abbrev s_Tables_factor : Stmt := inClass (topS 23) 21
abbrev n_Tables_factor : List Str := ["self", "first", "second", "found"]
theorem sc_Tables_factor : FnScope n_Tables_factor ["self"] (defScope s_Tables_factor) := ⟨rfl, rfl, rfl, by decide +kernel, rfl, by decide +kernel, by decide +kernel⟩
abbrev s_Tables_far : Stmt := inClass (topS 23) 22
abbrev n_Tables_far : List Str := ["self", "distances", "pay", "most", "told"]
theorem sc_Tables_far : FnScope n_Tables_far ["self"] (defScope s_Tables_far) := ⟨rfl, rfl, rfl, by decide +kernel, rfl, by decide +kernel, by decide +kernel⟩
abbrev s_Tables_differ : Stmt := inClass (topS 23) 23
abbrev n_Tables_differ : List Str := ["self", "unlike", "pay"]
theorem sc_Tables_differ : FnScope n_Tables_differ ["self"] (defScope s_Tables_differ) := ⟨rfl, rfl, rfl, by decide +kernel, rfl, by decide +kernel, by decide +kernel⟩
abbrev s_Tables_ifset : Stmt := inClass (topS 23) 24
abbrev n_Tables_ifset : List Str := ["self", "where", "row", "k", "other", "table"]
theorem sc_Tables_ifset : FnScope n_Tables_ifset ["self", "where", "row"] (defScope s_Tables_ifset) := ⟨rfl, rfl, rfl, by decide +kernel, rfl, by decide +kernel, by decide +kernel⟩
abbrev s_Tables_told_path : Stmt := inClass (topS 23) 25
abbrev n_Tables_told_path : List Str := ["self", "table", "row", "pay"]
theorem sc_Tables_told_path : FnScope n_Tables_told_path ["self", "table", "row"] (defScope s_Tables_told_path) := ⟨rfl, rfl, rfl, by decide +kernel, rfl, by decide +kernel, by decide +kernel⟩
abbrev s_Tables_path : Stmt := inClass (topS 23) 26
abbrev n_Tables_path : List Str := ["self", "t", "row"]
theorem sc_Tables_path : FnScope n_Tables_path ["self", "t", "row"] (defScope s_Tables_path) := ⟨rfl, rfl, rfl, by decide +kernel, rfl, by decide +kernel, by decide +kernel⟩
abbrev s_Tables_gap : Stmt := inClass (topS 23) 27
abbrev n_Tables_gap : List Str := ["self", "row"]
theorem sc_Tables_gap : FnScope n_Tables_gap ["self", "row"] (defScope s_Tables_gap) := ⟨rfl, rfl, rfl, by decide +kernel, rfl, by decide +kernel, by decide +kernel⟩
def spCall0 (C CS : Addr) (c : Kp388.Call) : Sp := fun vs H Q _ => ∃ (p : Addr) (d : Desk), vs = [.ref p] ∧ Rep C CS H p d ∧ Ok d ∧ New H (stepL d c) Q
abbrev spAlike (C CS : Addr) : Sp := spCall0 C CS .alike
abbrev spPots (C CS : Addr) : Sp := spCall0 C CS .potentials
abbrev spFactor (C CS : Addr) : Sp := spCall0 C CS .factor
abbrev spFar (C CS : Addr) : Sp := spCall0 C CS .far
abbrev spDiffer (C CS : Addr) : Sp := spCall0 C CS .differ
def spIfset (K : PySem.W.Frag) (C CS : Addr) : Sp := fun vs H Q _ => ∃ (p aw ar : Addr) (d : Desk) (t s x q : Nat) (l : List Int), vs = [.ref p, .ref aw, .ref ar] ∧ Rep C CS H p d ∧ Ok d ∧ SqL K H aw (wh4 t s x q) ∧ In4 d t s x q ∧ SqL K H ar (l.map V.int) ∧ New H (stepL d (.ifSet t s x q l)) Q
def toldPath (d : Desk) (l row : List Int) : List V := if Kp388.okPath d (tn row) = true then .int 0 :: pathV d l row else [.int (-22)]
def spToldPath (K : PySem.W.Frag) (C CS : Addr) : Sp := fun vs H Q _ => ∃ (p a ar : Addr) (d : Desk) (l row : List Int), vs = [.ref p, .ref a, .ref ar] ∧ Rep C CS H p d ∧ Ok d ∧ SqL K H a (l.map V.int) ∧ l.length = sz d ∧ SqL K H ar (row.map V.int) ∧ (∀ x ∈ row, 0 ≤ x) ∧ row.length ≤ 1000 ∧ New H (toldPath d l row) Q
def spPath (K : PySem.W.Frag) (C CS : Addr) : Sp := fun vs H Q _ => ∃ (p ar : Addr) (d : Desk) (t : Nat) (row : List Int), vs = [.ref p, .int t, .ref ar] ∧ Rep C CS H p d ∧ Ok d ∧ t < 2 ∧ SqL K H ar (row.map V.int) ∧ (∀ x ∈ row, 0 ≤ x) ∧ row.length ≤ 1000 ∧ New H (stepL d (.path t (tn row))) Q
def spGap (K : PySem.W.Frag) (C CS : Addr) : Sp := fun vs H Q _ => ∃ (p ar : Addr) (d : Desk) (row : List Int), vs = [.ref p, .ref ar] ∧ Rep C CS H p d ∧ Ok d ∧ SqL K H ar (row.map V.int) ∧ (∀ x ∈ row, 0 ≤ x) ∧ row.length ≤ 1000 ∧ New H (stepL d (.gap (tn row))) Q
theorem step_alike {d : Desk} (o : Ok d) : stepL d .alike = [.int (if zer (LF d (less d)) then 1 else 0)] := by
  unfold stepL
  show (al (Kp388.yes (Kp388.alike d))).map V.int = _
  rw [alike_LF o]
  rfl
theorem step_pots {d : Desk} (o : Ok d) : stepL d .potentials = if zer (LF d (less d)) then frsV d.n (ownL d (less d)) ((d.h : Int) - d.g) else [.int (-33)] := by
  unfold stepL
  show (al (match Kp388.potentials d with | none => Kp388.say (-33) | some l => Kp388.frs l)).map V.int = _
  unfold Kp388.potentials
  rw [alike_LF o]
  cases zer (LF d (less d)) with
  | true =>
    rw [if_pos rfl, if_pos rfl]
    show (al (Kp388.frs (Kp388.potOf d (less d)))).map V.int = _
    rw [pot_own o, frs_V, ownL_len]
  | false =>
    rw [if_neg (by decide), if_neg (by decide)]
    rfl
theorem step_factor {d : Desk} (o : Ok d) : stepL d .factor = match facL (LF d d.a) (LF d d.b) with
    | none => [.int (-33)]
    | some x => [.int 0, .int x.1, .int x.2] := by
  unfold stepL
  show (al (match Kp388.factor d with | none => Kp388.say (-33) | some c => Kp388.frRow c)).map V.int = _
  rw [factor_LF o]
  cases facL (LF d d.a) (LF d d.b) with
  | none => rfl
  | some x => rfl
theorem step_far {d : Desk} {M : Int} {j : Nat} (h : Kp388.far d = (Kp340.fr M ((d.h : Int) - d.g), ends d.n d.m j)) : stepL d .far = frsV 0 [M] ((d.h : Int) - d.g) ++ endV d j := by
  unfold stepL
  show (al ⟨0, [(Kp388.far d).1.1, (Kp388.far d).1.2, ((Kp388.far d).2.1 : Int), ((Kp388.far d).2.2.1 : Int), ((Kp388.far d).2.2.2 : Int)]⟩).map V.int = _
  rw [h]
  rfl
theorem step_differ {d : Desk} (o : Ok d) : stepL d .differ = [.int (((LF d (less d)).filter fun x => !decide (x = 0)).length : Nat)] := by
  unfold stepL
  show (al (Kp388.say (((List.zipWith (fun (x y : Kp340.Fr) => x == y) (Kp388.leastOf d d.a) (Kp388.leastOf d d.b)).filter fun b => !b).length : Nat))).map V.int = _
  rw [differ_LF o]
  rfl
theorem step_path {d : Desk} (o : Ok d) {t : Nat} (ht : t < 2) (row : List Int) : stepL d (.path t (tn row)) = toldPath d (tb d t) row := by
  unfold stepL toldPath
  show (al (if 1 < t then Kp388.say (-2) else if Kp388.okPath d (tn row) = false then Kp388.say (-22) else Kp388.frRow (Kp388.pathPay d t (tn row)))).map V.int = _
  rw [if_neg (by omega), path_T o]
  cases Kp388.okPath d (tn row) with
  | true =>
    rw [if_neg (by decide), if_pos rfl]
    rfl
  | false =>
    rw [if_pos rfl, if_neg (by decide)]
    rfl
theorem step_gap {d : Desk} (o : Ok d) (row : List Int) : stepL d (.gap (tn row)) = toldPath d (less d) row := by
  unfold stepL toldPath
  show (al (if Kp388.okPath d (tn row) = false then Kp388.say (-22) else Kp388.frRow (Kp346.sub (Kp388.pathPay d 1 (tn row)) (Kp388.pathPay d 0 (tn row))))).map V.int = _
  rw [gap_T o]
  cases Kp388.okPath d (tn row) with
  | true =>
    rw [if_neg (by decide), if_pos rfl]
    rfl
  | false =>
    rw [if_pos rfl, if_neg (by decide)]
    rfl
theorem okPay_eq (x : Int) : Kp388.okPay x = decide (ab x ≤ 1000) := by
  unfold Kp388.okPay
  by_cases h : ab x ≤ 1000
  · rw [decide_eq_true h]
    unfold ab at h
    split at h <;> rw [decide_eq_true (by omega), decide_eq_true (by omega)] <;> rfl
  · rw [decide_eq_false h, Bool.and_eq_false_iff]
    unfold ab at h
    split at h
    · exact .inl (decide_eq_false (by omega))
    · exact .inr (decide_eq_false (by omega))
theorem wIn_okPay (l : List Int) : wIn 1000 l = l.all Kp388.okPay := by
  unfold wIn
  congr 1
  funext x
  exact (okPay_eq x).symm
theorem one_no {l : List Int} (h : onePay l = false) : ∀ v, l = [v] → Kp388.okPay v = false := by
  rintro v rfl
  unfold onePay at h
  rw [wIn_okPay] at h
  simpa using h
theorem one_yes {l : List Int} (h : onePay l = true) : ∃ v, l = [v] ∧ Kp388.okPay v = true := by
  unfold onePay at h
  rw [Bool.and_eq_true, decide_eq_true_eq] at h
  obtain ⟨v, rfl⟩ := List.length_eq_one_iff.mp h.1
  refine ⟨v, rfl, ?_⟩
  have := h.2
  rw [wIn_okPay] at this
  simpa using this
def ifR (d : Desk) (t s x q : Nat) : List Int → Kp388.Ans
  | [v] => if Kp388.okPay v = false then Kp388.say (-22) else Kp388.yes (Kp388.alike (Kp388.withTable d t ((Kp388.tableOf d t).set (Kp388.index d s x q) v)))
  | _ => Kp388.say (-22)
theorem step_if {d : Desk} {t s x q : Nat} (i : In4 d t s x q) (l : List Int) : stepL d (.ifSet t s x q l) = (al (ifR d t s x q l)).map V.int := by
  unfold stepL
  show (al (if Kp388.isAt d t s x q = false then Kp388.say (-2) else _)).map V.int = _
  rw [if_neg (by rw [isAt_t i]; decide)]
  rfl
theorem ifR_no {d : Desk} {t s x q : Nat} : ∀ {l : List Int}, onePay l = false → ifR d t s x q l = Kp388.say (-22)
  | [], _ => rfl
  | [v], h => if_pos (one_no h v rfl)
  | _ :: _ :: _, _ => rfl
theorem okPay_bd {v : Int} (h : Kp388.okPay v = true) : -1000 ≤ v ∧ v ≤ 1000 := by
  unfold Kp388.okPay at h
  rw [Bool.and_eq_true, decide_eq_true_eq, decide_eq_true_eq] at h
  exact h
theorem wT_ok {d : Desk} (o : Ok d) {t : Nat} {l : List Int} (hl : l.length = sz d) (hb : ∀ x ∈ l, -100000 ≤ x ∧ x ≤ 100000) : Ok (Kp388.withTable d t l) := by
  unfold Kp388.withTable
  split
  · exact ⟨o.n1, o.n2, o.m1, o.m2, o.g1, o.g2, o.h2, hl, o.lb, hb, o.bb⟩
  · exact ⟨o.n1, o.n2, o.m1, o.m2, o.g1, o.g2, o.h2, o.la, hl, o.ba, hb⟩
theorem mem_set_bd {l : List Int} {i : Nat} {v : Int} (h : ∀ x ∈ l, -100000 ≤ x ∧ x ≤ 100000) (hv : -100000 ≤ v ∧ v ≤ 100000) : ∀ x ∈ l.set i v, -100000 ≤ x ∧ x ≤ 100000 := fun x hx => by
  rcases List.mem_or_eq_of_mem_set hx with h1 | h1
  · exact h x h1
  · rw [h1]
    exact hv
theorem ifR_yes {d : Desk} (o : Ok d) {t s x q : Nat} (i : In4 d t s x q) {v : Int} (hv : Kp388.okPay v = true) :
    (al (ifR d t s x q [v])).map V.int = [.int (if zer (LF d ((less d).set (Kp388.index d s x q) (if t = 1 then v - d.a.getD (Kp388.index d s x q) 0 else d.b.getD (Kp388.index d s x q) 0 - v))) then 1 else 0)] := by
  have hb := okPay_bd hv
  have o1 : Ok (Kp388.withTable d t ((Kp388.tableOf d t).set (Kp388.index d s x q) v)) := wT_ok o (by rw [List.length_set]; exact o.tl t) (mem_set_bd (o.tbd t) ⟨by omega, by omega⟩)
  show (al (if Kp388.okPay v = false then Kp388.say (-22) else Kp388.yes (Kp388.alike (Kp388.withTable d t ((Kp388.tableOf d t).set (Kp388.index d s x q) v))))).map V.int = _
  rw [if_neg (by rw [hv]; decide), alike_LF o1, LF_with, less_with o i.t i.ix]
  rfl
theorem LF_bd {d : Desk} (o : Ok d) (t i : Nat) : ((LF d (tb d t)).getD i 0).natAbs ≤ 3000000 := by
  rw [List.getD_eq_getElem?_getD]
  cases e : (LF d (tb d t))[i]? with
  | none => show (0 : Int).natAbs ≤ _; decide
  | some z =>
    unfold LF at e
    rw [List.getElem?_map] at e
    cases e1 : (trip d.n d.m)[i]? with
    | none =>
      rw [e1] at e
      cases e
    | some y =>
      rw [e1] at e
      have e2 : W d (tb d t) y.1 y.2.1 y.2.2 = z := Option.some.inj e
      show z.natAbs ≤ _
      rw [← e2]
      exact W_bd o (getD_bd (o.tbd t)) _ _ _
section
variable {P : Program} {w : World} {K : PySem.W.Frag} {mg : Str → Option Value} {base : Heap} {C CS : Addr}
theorem ok_alike {f : Addr} {fd : FuncData} (F : Fun K "alike" "Tables.alike" s_Tables_alike f fd) (T : Txt K mg C CS) (M_yes_or_no : Cal P w K mg base 1 "yes_or_no" spYes) (M_Tables_is_trivial : Met P w K mg base 5 C "is_trivial" (spTriv K C CS)) (M_Tables_apart : Met P w K mg base 2 C "apart" (spApart C CS)) : FnOk P w K mg base CX0 6 f fd ["self"] (spAlike C CS) := by
  obtain ⟨f_yes_or_no, fd_yes_or_no, ps_yes_or_no, F_yes_or_no, g_yes_or_no, k_yes_or_no, b_yes_or_no⟩ := M_yes_or_no.ex
  obtain ⟨f_Tables_is_trivial, fd_Tables_is_trivial, ps_Tables_is_trivial, c_Tables_is_trivial, m_Tables_is_trivial, F_Tables_is_trivial, b_Tables_is_trivial⟩ := M_Tables_is_trivial.ex
  obtain ⟨f_Tables_apart, fd_Tables_apart, ps_Tables_apart, c_Tables_apart, m_Tables_apart, F_Tables_apart, b_Tables_apart⟩ := M_Tables_apart.ex
  refine F.ok sc_Tables_alike (fun vs H Q E h => ?_) (fun cdv A outer s H vs Q E hr h => ⟨_, (pss_one (ps_ret (pe_call F_yes_or_no (hr.mono (by decide)) rfl g_yes_or_no k_yes_or_no b_yes_or_no .nil pass0 (pa_cons (pe_meth (pv 0) c_Tables_is_trivial m_Tables_is_trivial F_Tables_is_trivial (hr.mono (by decide)) b_Tables_is_trivial .nil pass0 (pa_cons (pe_meth0 (pv 0) c_Tables_apart m_Tables_apart F_Tables_apart (hr.mono (by decide)) b_Tables_apart .nil pass0) pa_nil)) pa_nil)))), ?_⟩)
  · obtain ⟨p, d, rfl, _⟩ := h
    rfl
  · obtain ⟨p, d, rfl, ⟨dx, sp, ds, L, a, b, r⟩, o, k⟩ := h
    rw [step_alike o] at k
    refine ⟨_, rfl, p, dx, _, rfl, r.hp, pf_no, _, rfl, p, dx, _, rfl, r.hp, pf_no, p, d, rfl, r.rep, o, fun H1 y s1 ny hy => ?_⟩
    exact ⟨p, y, d, less d, rfl, (r.mono s1).rep, o, SqL.of hy, less_len o, fun H2 s2 => ⟨_, rfl, k.on (s1.trans s2)⟩⟩
theorem ok_pots {f : Addr} {fd : FuncData} (F : Fun K "potentials" "Tables.potentials" s_Tables_potentials f fd) (T : Txt K mg C CS) (M_Setting_divisor : Met P w K mg base 1 CS "divisor" (spDiv CS)) (M_Setting_own_potentials : Met P w K mg base 3 CS "own_potentials" (spOwn K CS)) (M_refused : Cal P w K mg base 1 "refused" spRefused) (M_told_fractions : Cal P w K mg base 3 "told_fractions" (spTold K)) (M_Tables_is_trivial : Met P w K mg base 5 C "is_trivial" (spTriv K C CS)) (M_Tables_apart : Met P w K mg base 2 C "apart" (spApart C CS)) : FnOk P w K mg base CX0 6 f fd ["self"] (spPots C CS) := by
  obtain ⟨f_Setting_divisor, fd_Setting_divisor, ps_Setting_divisor, c_Setting_divisor, m_Setting_divisor, F_Setting_divisor, b_Setting_divisor⟩ := M_Setting_divisor.ex
  obtain ⟨f_Setting_own_potentials, fd_Setting_own_potentials, ps_Setting_own_potentials, c_Setting_own_potentials, m_Setting_own_potentials, F_Setting_own_potentials, b_Setting_own_potentials⟩ := M_Setting_own_potentials.ex
  obtain ⟨f_refused, fd_refused, ps_refused, F_refused, g_refused, k_refused, b_refused⟩ := M_refused.ex
  obtain ⟨f_told_fractions, fd_told_fractions, ps_told_fractions, F_told_fractions, g_told_fractions, k_told_fractions, b_told_fractions⟩ := M_told_fractions.ex
  obtain ⟨f_Tables_is_trivial, fd_Tables_is_trivial, ps_Tables_is_trivial, c_Tables_is_trivial, m_Tables_is_trivial, F_Tables_is_trivial, b_Tables_is_trivial⟩ := M_Tables_is_trivial.ex
  obtain ⟨f_Tables_apart, fd_Tables_apart, ps_Tables_apart, c_Tables_apart, m_Tables_apart, F_Tables_apart, b_Tables_apart⟩ := M_Tables_apart.ex
  refine F.ok sc_Tables_potentials (fun vs H Q E h => ?_) (fun cdv A outer s H vs Q E hr h => ⟨_, (pss_cons (ps_set (i := 1) sc_Tables_potentials.nd rfl (Or.inl rfl) (pe_meth0 (pv 0) c_Tables_apart m_Tables_apart F_Tables_apart (hr.mono (by decide)) b_Tables_apart .nil pass0))
      (pss_cons (ps_if (pt_not (pt_val (pe_meth (pv 0) c_Tables_is_trivial m_Tables_is_trivial F_Tables_is_trivial (hr.mono (by decide)) b_Tables_is_trivial .nil pass0 (pa_cons (pv 1) pa_nil)))) (pss_one (ps_ret (pe_call F_refused (hr.mono (by decide)) rfl g_refused k_refused b_refused .nil pass0 (pa_cons (pe_gl rfl T.g_NONE_THERE) pa_nil)))) pss_nil)
      (pss_cons (ps_set (i := 2) sc_Tables_potentials.nd rfl (Or.inl rfl) (pe_meth (pe_fld (pv 0) rfl) c_Setting_own_potentials m_Setting_own_potentials F_Setting_own_potentials (hr.mono (by decide)) b_Setting_own_potentials .nil pass0 (pa_cons (pv 1) pa_nil)))
      (pss_one (ps_ret (pe_call F_told_fractions (hr.mono (by decide)) rfl g_told_fractions k_told_fractions b_told_fractions .nil pass0 (pa_cons (pe_fld (pe_fld (pv 0) rfl) rfl) (pa_cons (pv 2) (pa_cons (pe_meth0 (pe_fld (pv 0) rfl) c_Setting_divisor m_Setting_divisor F_Setting_divisor (hr.mono (by decide)) b_Setting_divisor .nil pass0) pa_nil))))))))), ?_⟩)
  · obtain ⟨p, d, rfl, _⟩ := h
    rfl
  · obtain ⟨p, d, rfl, ⟨dx, sp, ds, L, a, b, r⟩, o, k⟩ := h
    rw [step_pots o] at k
    have n2 := o.n2
    refine ⟨_, rfl, p, dx, _, rfl, r.hp, pf_no, p, d, rfl, r.rep, o, fun H1 y s1 ny hy => ?_⟩
    have r1 := r.mono s1
    refine ⟨_, rfl, p, dx, _, rfl, r1.hp, pf_no, _, rfl, p, y, d, less d, rfl, r1.rep, o, SqL.of hy, less_len o, fun H2 s2 => ⟨_, rfl, if_b (fun c => ?_) fun c => ?_⟩⟩
    · rw [Bool.not_eq_true'] at c
      rw [c, if_neg (by decide)] at k
      exact ⟨_, rfl, k.on (s1.trans s2)⟩
    · rw [Bool.not_eq_false'] at c
      rw [c, if_pos rfl] at k
      have s3 := s1.trans s2
      have r2 := r.mono s3
      refine ⟨_, rfl, p, C, dx, _, _, rfl, r2.hp, T.cl, T.n_setting, pf_setting, sp, ds, _, rfl, r2.hs, sf_no, _, rfl, sp, ds, y, d, less d, rfl, r2.hs, o, SqL.of (s2 _ _ hy), less_len o, fun H3 z s4 nz hz => ?_⟩
      have r3 := r2.mono s4
      exact ⟨_, rfl, p, C, dx, _, _, rfl, r3.hp, T.cl, T.n_setting, pf_setting, sp, CS, ds, _, _, rfl, r3.hs, T.clS, T.n_places, sf_places, _, rfl, _, rfl, p, C, dx, _, _, rfl, r3.hp, T.cl, T.n_setting, pf_setting, sp, ds, _, rfl, r3.hs, sf_no, sp, ds, d, rfl, r3.hs, d.n, (d.h : Int) - d.g, z, ownL d (less d), rfl, SqL.of hz, by rw [ownL_len]; omega, o.lo, o.d30, k.on (s3.trans s4)⟩
theorem ok_factor {f : Addr} {fd : FuncData} (F : Fun K "factor" "Tables.factor" s_Tables_factor f fd) (T : Txt K mg C CS) (M_factor_between : Cal P w K mg base 3 "factor_between" (spFacB K)) (M_Setting_least_form : Met P w K mg base 4 CS "least_form" (spForm K CS)) (M_refused : Cal P w K mg base 1 "refused" spRefused) : FnOk P w K mg base CX0 5 f fd ["self"] (spFactor C CS) := by
  obtain ⟨f_factor_between, fd_factor_between, ps_factor_between, F_factor_between, g_factor_between, k_factor_between, b_factor_between⟩ := M_factor_between.ex
  obtain ⟨f_Setting_least_form, fd_Setting_least_form, ps_Setting_least_form, c_Setting_least_form, m_Setting_least_form, F_Setting_least_form, b_Setting_least_form⟩ := M_Setting_least_form.ex
  obtain ⟨f_refused, fd_refused, ps_refused, F_refused, g_refused, k_refused, b_refused⟩ := M_refused.ex
  refine F.ok sc_Tables_factor (fun vs H Q E h => ?_) (fun cdv A outer s H vs Q E hr h => ⟨_, (pss_cons (ps_set (i := 1) sc_Tables_factor.nd rfl (Or.inl rfl) (pe_meth (pe_fld (pv 0) rfl) c_Setting_least_form m_Setting_least_form F_Setting_least_form (hr.mono (by decide)) b_Setting_least_form .nil pass0 (pa_cons (pe_ix ix_list (pe_fld (pv 0) rfl) pe_int (fun _ _ => rfl)) pa_nil)))
      (pss_cons (ps_set (i := 2) sc_Tables_factor.nd rfl (Or.inl rfl) (pe_meth (pe_fld (pv 0) rfl) c_Setting_least_form m_Setting_least_form F_Setting_least_form (hr.mono (by decide)) b_Setting_least_form .nil pass0 (pa_cons (pe_ix ix_list (pe_fld (pv 0) rfl) pe_int (fun _ _ => rfl)) pa_nil)))
      (pss_cons (ps_set (i := 3) sc_Tables_factor.nd rfl (Or.inl rfl) (pe_call F_factor_between (hr.mono (by decide)) rfl g_factor_between k_factor_between b_factor_between .nil pass0 (pa_cons (pv 1) (pa_cons (pv 2) pa_nil))))
      (pss_cons (ps_if (pt_cmpR op_isN (pv 3) pe_non (nomark _)) (pss_one (ps_ret (pe_call F_refused (hr.mono (by decide)) rfl g_refused k_refused b_refused .nil pass0 (pa_cons (pe_gl rfl T.g_NONE_THERE) pa_nil)))) pss_nil)
      (pss_one (ps_ret (pe_lst (pa_cons pe_int (pa_cons (pe_ix ix_list (pv 3) pe_int (fun _ _ => rfl)) (pa_cons (pe_ix ix_list (pv 3) pe_int (fun _ _ => rfl)) pa_nil)))))))))), ?_⟩)
  · obtain ⟨p, d, rfl, _⟩ := h
    rfl
  · obtain ⟨p, d, rfl, ⟨dx, sp, ds, L, a, b, r⟩, o, k⟩ := h
    rw [step_factor o] at k
    have z48 := o.z48
    refine ⟨_, rfl, p, C, dx, _, _, rfl, r.hp, T.cl, T.n_setting, pf_setting, sp, ds, _, rfl, r.hs, sf_no, _, rfl, p, C, dx, _, _, rfl, r.hp, T.cl, T.n_pays, pf_pays, L, _, _, _, rfl, rfl, SqL.of r.hL, rfl, sp, ds, a, d, d.a, rfl, r.hs, o, SqL.of r.ha, o.la, fun H1 y s1 ny hy => ?_⟩
    have r1 := r.mono s1
    refine ⟨_, rfl, p, C, dx, _, _, rfl, r1.hp, T.cl, T.n_setting, pf_setting, sp, ds, _, rfl, r1.hs, sf_no, _, rfl, p, C, dx, _, _, rfl, r1.hp, T.cl, T.n_pays, pf_pays, L, _, _, _, rfl, rfl, SqL.of r1.hL, rfl, sp, ds, b, d, d.b, rfl, r1.hs, o, SqL.of r1.hb, o.lb, fun H2 z s2 nz hz => ?_⟩
    have s3 := s1.trans s2
    have r2 := r.mono s3
    refine ⟨_, rfl, _, rfl, y, z, LF d d.a, LF d d.b, rfl, SqL.of (s2 _ _ hy), SqL.of hz, by rw [LF_len o, LF_len o], by rw [LF_len o]; show sz d ≤ 1000; omega, LF_bd o 0, LF_bd o 1, fun e H3 s4 => ?_, fun x e H3 y4 s4 n4 h4 => ?_⟩
    · rw [e] at k
      exact ⟨_, rfl, rfl, _, rfl, if_b (fun c => ⟨_, rfl, k.on (s3.trans s4)⟩) fun c => by cases c⟩
    · rw [e] at k
      refine ⟨_, rfl, rfl, _, rfl, if_b (fun c => by cases c) fun c => ?_⟩
      have q4 := SqL.of (K := K) h4
      exact ⟨_, rfl, y4, _, _, _, rfl, rfl, q4, rfl, _, rfl, y4, _, _, _, rfl, rfl, q4, rfl, by show 3 ≤ sizeLine; decide, fun D nD => (k.on (s3.trans s4)).at nD⟩
theorem ok_differ {f : Addr} {fd : FuncData} (F : Fun K "differ" "Tables.differ" s_Tables_differ f fd) (T : Txt K mg C CS) (M_Setting_least_form : Met P w K mg base 4 CS "least_form" (spForm K CS)) (M_Tables_apart : Met P w K mg base 2 C "apart" (spApart C CS)) : FnOk P w K mg base CX0 5 f fd ["self"] (spDiffer C CS) := by
  obtain ⟨f_Setting_least_form, fd_Setting_least_form, ps_Setting_least_form, c_Setting_least_form, m_Setting_least_form, F_Setting_least_form, b_Setting_least_form⟩ := M_Setting_least_form.ex
  obtain ⟨f_Tables_apart, fd_Tables_apart, ps_Tables_apart, c_Tables_apart, m_Tables_apart, F_Tables_apart, b_Tables_apart⟩ := M_Tables_apart.ex
  refine F.ok sc_Tables_differ (fun vs H Q E h => ?_) (fun cdv A outer s H vs Q E hr h => ⟨_, (pss_cons (ps_setLc (i := 1) (own := [("pay", 2)]) (g := gName 2) rfl sc_Tables_differ.nd rfl rfl (sw_true rfl rfl rfl (by decide +kernel)) (pi_list (pe_meth (pe_fld (pv 0) rfl) c_Setting_least_form m_Setting_least_form F_Setting_least_form (hr.mono (by decide)) b_Setting_least_form .nil pass0 (pa_cons (pe_meth0 (pv 0) c_Tables_apart m_Tables_apart F_Tables_apart (hr.mono (by decide)) b_Tables_apart .nil pass0) pa_nil))) (blkOk_by (own := [("pay", 2)]) (N := n_Tables_differ) (sc := defScope s_Tables_differ) (by decide +kernel)) (fun _ _ _ _ _ => pg_name (i := 2) sc_Tables_differ.nd rfl (Or.inl rfl)) (fun _ _ _ _ _ => (pts_one (pt_cmpR op_ne (pv 2) pe_int (nomark _)))) (fun _ _ _ _ _ => by exact (pv 2)))
      (pss_one (ps_ret (pe_lst (pa_cons (pe_callB call_len_seq (by rfl) T.z_len PySem.boot_len (pa_cons (pv 1) pa_nil)) pa_nil))))), ?_⟩)
  · obtain ⟨p, d, rfl, _⟩ := h
    rfl
  · obtain ⟨p, d, rfl, ⟨dx, sp, ds, L, a, b, r⟩, o, k⟩ := h
    rw [step_differ o] at k
    have z48 := o.z48
    have ll := LF_len o (less d)
    refine ⟨_, rfl, p, C, dx, _, _, rfl, r.hp, T.cl, T.n_setting, pf_setting, sp, ds, _, rfl, r.hs, sf_no, _, rfl, p, dx, _, rfl, r.hp, pf_no, p, d, rfl, r.rep, o, fun H1 y s1 ny hy => ?_⟩
    have r1 := r.mono s1
    refine ⟨sp, ds, y, d, less d, rfl, r1.hs, o, SqL.of hy, less_len o, fun H2 z s2 nz hz => ?_⟩
    have s3 := s1.trans s2
    refine ⟨z, rfl, ⟨_, SqL.of hz⟩, fun D nD => lc_list (K := K) (a := z) (xs := (LF d (less d)).map V.int) (fun i H' => H' = upd H2 D (il (((LF d (less d)).take i).filter fun x => !decide (x = 0)))) rfl ?_ ?_ ?_⟩
    · rintro i H' _ rfl
      exact SqL.of (same_new nD _ _ hz)
    · rintro i v H' hi rfl
      obtain ⟨u, hu, rfl⟩ := map_int_at hi
      refine ⟨rfl, _, rfl, rfl, _, rfl, ?_⟩
      have eu : (!decide (V.int u = V.int 0)) = !decide (u = 0) := by
        congr 1
        exact decide_eq_decide.mpr ⟨fun z => V.int.inj z, fun z => congrArg V.int z⟩
      rw [take_more hu, List.filter_append]
      refine if_b (fun c => ?_) (fun c => ?_)
      · have c1 : (!decide (u = 0)) = true := eu ▸ c
        refine ⟨_, rfl, _, upd_same, ?_, ?_⟩
        · rw [List.length_map]
          have := List.length_filter_le (fun x : Int => !decide (x = 0)) ((LF d (less d)).take i)
          rw [List.length_take] at this
          refine small_len ?_
          have : d.n * d.m * d.n = sz d := rfl
          omega
        · rw [upd_upd]
          show upd H2 D (.lst (_ ++ [V.int u])) = upd H2 D (il _)
          unfold il
          rw [List.map_append, List.filter_cons_of_pos (by exact c1)]
          rfl
      · have c1 : ¬ (!decide (u = 0)) = true := by rw [← eu, c]; decide
        rw [List.filter_cons_of_neg (by exact c1), List.filter_nil, List.append_nil]
    · rintro H' rfl
      rw [List.length_map, List.take_length]
      have h5 := SqL.of (K := K) (upd_same (H := H2) (a := D) (o := il ((LF d (less d)).filter fun x => !decide (x = 0))))
      refine ⟨_, rfl, D, _, rfl, .inl h5, by show 1 ≤ sizeLine; decide, fun y5 n5 => ?_⟩
      rw [List.length_map]
      exact (k.on (s3.trans (same_new nD))).at n5
theorem ok_far {f : Addr} {fd : FuncData} (F : Fun K "far" "Tables.far" s_Tables_far f fd) (T : Txt K mg C CS) (M_Setting_where : Met P w K mg base 1 CS "where" (spWhere CS)) (M_Setting_divisor : Met P w K mg base 1 CS "divisor" (spDiv CS)) (M_Setting_least_form : Met P w K mg base 4 CS "least_form" (spForm K CS)) (M_told_fractions : Cal P w K mg base 3 "told_fractions" (spTold K)) (M_Tables_apart : Met P w K mg base 2 C "apart" (spApart C CS)) : FnOk P w K mg base CX0 5 f fd ["self"] (spFar C CS) := by
  obtain ⟨f_Setting_where, fd_Setting_where, ps_Setting_where, c_Setting_where, m_Setting_where, F_Setting_where, b_Setting_where⟩ := M_Setting_where.ex
  obtain ⟨f_Setting_divisor, fd_Setting_divisor, ps_Setting_divisor, c_Setting_divisor, m_Setting_divisor, F_Setting_divisor, b_Setting_divisor⟩ := M_Setting_divisor.ex
  obtain ⟨f_Setting_least_form, fd_Setting_least_form, ps_Setting_least_form, c_Setting_least_form, m_Setting_least_form, F_Setting_least_form, b_Setting_least_form⟩ := M_Setting_least_form.ex
  obtain ⟨f_told_fractions, fd_told_fractions, ps_told_fractions, F_told_fractions, g_told_fractions, k_told_fractions, b_told_fractions⟩ := M_told_fractions.ex
  obtain ⟨f_Tables_apart, fd_Tables_apart, ps_Tables_apart, c_Tables_apart, m_Tables_apart, F_Tables_apart, b_Tables_apart⟩ := M_Tables_apart.ex
  refine F.ok sc_Tables_far (fun vs H Q E h => ?_) (fun cdv A outer s H vs Q E hr h => ⟨_, (pss_cons (ps_setLc (i := 1) (own := [("pay", 2)]) (g := gName 2) (tt := tYes) rfl sc_Tables_far.nd rfl rfl (sw_true rfl rfl rfl (by decide +kernel)) (pi_list (pe_meth (pe_fld (pv 0) rfl) c_Setting_least_form m_Setting_least_form F_Setting_least_form (hr.mono (by decide)) b_Setting_least_form .nil pass0 (pa_cons (pe_meth0 (pv 0) c_Tables_apart m_Tables_apart F_Tables_apart (hr.mono (by decide)) b_Tables_apart .nil pass0) pa_nil))) (blkOk_by (own := [("pay", 2)]) (N := n_Tables_far) (sc := defScope s_Tables_far) (by decide +kernel)) (fun _ _ _ _ _ => pg_name (i := 2) sc_Tables_far.nd rfl (Or.inl rfl)) (fun _ _ _ _ _ => pts_nil) (fun _ _ _ _ _ => by exact (pe_callB call_abs (by rfl) T.z_abs (by decide +kernel) (pa_cons (pv 2) pa_nil))))
      (pss_cons (ps_set (i := 3) sc_Tables_far.nd rfl (Or.inl rfl) (pe_callB (cr_max rfl) (by rfl) T.z_max (by decide +kernel) (pa_cons (pv 1) pa_nil)))
      (pss_cons (ps_set (i := 4) sc_Tables_far.nd rfl (Or.inl rfl) (pe_call F_told_fractions (hr.mono (by decide)) rfl g_told_fractions k_told_fractions b_told_fractions .nil pass0 (pa_cons pe_int (pa_cons (pe_lst (pa_cons (pv 3) pa_nil)) (pa_cons (pe_meth0 (pe_fld (pv 0) rfl) c_Setting_divisor m_Setting_divisor F_Setting_divisor (hr.mono (by decide)) b_Setting_divisor .nil pass0) pa_nil)))))
      (pss_cons (ps_expr (pe_bm PySem.F.plainAttrs_list PySem.F.slot_list_extend PySem.F.type_list_extend mt_extend (pv 4) (pa_cons (pe_meth (pe_fld (pv 0) rfl) c_Setting_where m_Setting_where F_Setting_where (hr.mono (by decide)) b_Setting_where .nil pass0 (pa_cons (pe_bm PySem.F.plainAttrs_list PySem.F.slot_list_index PySem.F.type_list_index mt_index (pv 1) (pa_cons (pv 3) pa_nil)) pa_nil)) pa_nil)))
      (pss_one (ps_ret (pv 4))))))), ?_⟩)
  · obtain ⟨p, d, rfl, _⟩ := h
    rfl
  · obtain ⟨p, d, rfl, ⟨dx, sp, ds, L, a, b, r⟩, o, k⟩ := h
    have z48 := o.z48
    have ll := LF_len o (less d)
    have lz : d.n * d.m * d.n = sz d := rfl
    refine ⟨_, rfl, p, C, dx, _, _, rfl, r.hp, T.cl, T.n_setting, pf_setting, sp, ds, _, rfl, r.hs, sf_no, _, rfl, p, dx, _, rfl, r.hp, pf_no, p, d, rfl, r.rep, o, fun H1 y s1 ny hy => ?_⟩
    have r1 := r.mono s1
    refine ⟨sp, ds, y, d, less d, rfl, r1.hs, o, SqL.of hy, less_len o, fun H2 z s2 nz hz => ?_⟩
    have s3 := s1.trans s2
    refine ⟨z, rfl, ⟨_, SqL.of hz⟩, fun D nD => lc_list (K := K) (a := z) (xs := (LF d (less d)).map V.int) (fun i H' => H' = upd H2 D (il (((LF d (less d)).take i).map fun x => (x.natAbs : Int)))) rfl ?_ ?_ ?_⟩
    · rintro i H' _ rfl
      exact SqL.of (same_new nD _ _ hz)
    · rintro i v H' hi rfl
      obtain ⟨u, hu, rfl⟩ := map_int_at hi
      refine ⟨rfl, _, rfl, _, rfl, _, upd_same, ?_, ?_⟩
      · rw [List.length_map, List.length_map, List.length_take]
        refine small_len ?_
        omega
      · rw [upd_upd, take_more hu]
        show upd H2 D (.lst (_ ++ [V.int (ab u)])) = upd H2 D (il _)
        rw [ab_abs]
        unfold il
        rw [List.map_append, List.map_append]
        rfl
    · rintro H' rfl
      rw [List.length_map, List.take_length]
      generalize hA : (LF d (less d)).map (fun x => (x.natAbs : Int)) = A
      have hl : A.length = sz d := by rw [← hA, List.length_map, ll, lz]
      have s4 : Same H (upd H2 D (il A)) := s3.trans (same_new nD)
      have hD : upd H2 D (il A) D = some (il A) := upd_same
      generalize upd H2 D (il A) = H4 at s4 hD
      have n1 := o.n1
      have m1 := o.m1
      have h0 : 0 < sz d := by
        have : 0 < d.n * d.m := Nat.mul_pos (by omega) (by omega)
        exact Nat.mul_pos this (by omega)
      refine ⟨_, rfl, D, A, rfl, SqL.of hD, by omega, fun M hM hle => ?_⟩
      obtain ⟨j, hj, hf⟩ : ∃ j, A[j]? = some M ∧ ∀ i z, i < j → A[i]? = some z → z ≠ M := by
        cases e : A.findIdx? fun x => decide (x = M) with
        | none =>
          have := List.findIdx?_eq_none_iff.mp e M hM
          simp at this
        | some j =>
          obtain ⟨b1, b2, b3⟩ := List.findIdx?_eq_some_iff_getElem.mp e
          refine ⟨j, ?_, fun i z hi ez => ?_⟩
          · rw [List.getElem?_eq_getElem b1]
            simp at b2
            rw [b2]
          · have := b3 i hi
            have e5 := (List.getElem?_eq_some_iff.mp ez).2
            rw [e5] at this
            simpa using this
      rw [step_far (far_LF o (hA ▸ hj) (hA ▸ hle) (hA ▸ hf))] at k
      refine ⟨_, rfl, by show 1 ≤ sizeLine; decide, fun y5 n5 => ?_⟩
      have s5 : Same H (upd H4 y5 (.lst [.int M])) := s4.trans (same_new n5)
      have r5 := r.mono s5
      have hD5 := same_new (o := .lst [.int M]) n5 _ _ hD
      refine ⟨_, rfl, p, C, dx, _, _, rfl, r5.hp, T.cl, T.n_setting, pf_setting, sp, ds, _, rfl, r5.hs, sf_no, sp, ds, d, rfl, r5.hs, 0, (d.h : Int) - d.g, y5, [M], rfl, SqL.of upd_same, by show 1 ≤ 1000; decide, o.lo, o.d30, fun H6 y6 s6 n6 h6 => ?_⟩
      have s7 := s5.trans s6
      have r6 := r.mono s7
      have hD6 := s6 _ _ hD5
      refine ⟨_, rfl, .inl ⟨rfl, _, SqL.of h6⟩, _, rfl, p, C, dx, _, _, rfl, r6.hp, T.cl, T.n_setting, pf_setting, sp, ds, _, rfl, r6.hs, sf_no, _, rfl, .inl ⟨rfl, _, SqL.of hD6⟩, _, rfl, D, _, _, j, .int M, rfl, rfl, SqL.of hD6, rfl, ?_, ?_, ?_, ?_, ?_⟩
      · rw [List.all_map]
        exact List.all_eq_true.mpr fun _ _ => rfl
      · rw [List.getElem?_map, hj]
        rfl
      · show (M == M) = true
        exact beq_self_eq_true M
      · intro m z' hm ez
        obtain ⟨u, hu, rfl⟩ := map_int_at ez
        show (u == M) = false
        exact beq_eq_false_iff_ne.mpr (hf m u hm hu)
      refine ⟨sp, ds, d, j, rfl, r6.hs, o, fun H8 y8 s8 n8 h8 => ?_⟩
      have h68 := s8 _ _ h6
      refine ⟨y6, y8, _, _, rfl, rfl, h68, h8, ?_, ?_⟩
      · show 3 + 3 ≤ sizeLine
        decide
      · have f6 := s5.free n6
        exact ⟨_, rfl, k _ y6 (same_upd (s7.trans s8) f6) f6 upd_same⟩
theorem ok_ifset {f : Addr} {fd : FuncData} (F : Fun K "ifset" "Tables.ifset" s_Tables_ifset f fd) (T : Txt K mg C CS) (M_refused : Cal P w K mg base 1 "refused" spRefused) (M_is_one_pay : Cal P w K mg base 2 "is_one_pay" (spOnePay K)) (M_yes_or_no : Cal P w K mg base 1 "yes_or_no" spYes) (M_Tables_spot : Met P w K mg base 2 C "spot" (spTSpot K C CS)) (M_Tables_is_trivial : Met P w K mg base 5 C "is_trivial" (spTriv K C CS)) (M_Tables_apart : Met P w K mg base 2 C "apart" (spApart C CS)) : FnOk P w K mg base CX0 6 f fd ["self", "where", "row"] (spIfset K C CS) := by
  obtain ⟨f_refused, fd_refused, ps_refused, F_refused, g_refused, k_refused, b_refused⟩ := M_refused.ex
  obtain ⟨f_is_one_pay, fd_is_one_pay, ps_is_one_pay, F_is_one_pay, g_is_one_pay, k_is_one_pay, b_is_one_pay⟩ := M_is_one_pay.ex
  obtain ⟨f_yes_or_no, fd_yes_or_no, ps_yes_or_no, F_yes_or_no, g_yes_or_no, k_yes_or_no, b_yes_or_no⟩ := M_yes_or_no.ex
  obtain ⟨f_Tables_spot, fd_Tables_spot, ps_Tables_spot, c_Tables_spot, m_Tables_spot, F_Tables_spot, b_Tables_spot⟩ := M_Tables_spot.ex
  obtain ⟨f_Tables_is_trivial, fd_Tables_is_trivial, ps_Tables_is_trivial, c_Tables_is_trivial, m_Tables_is_trivial, F_Tables_is_trivial, b_Tables_is_trivial⟩ := M_Tables_is_trivial.ex
  obtain ⟨f_Tables_apart, fd_Tables_apart, ps_Tables_apart, c_Tables_apart, m_Tables_apart, F_Tables_apart, b_Tables_apart⟩ := M_Tables_apart.ex
  refine F.ok sc_Tables_ifset (fun vs H Q E h => ?_) (fun cdv A outer s H vs Q E hr h => ⟨_, (pss_cons (ps_if (pt_not (pt_val (pe_call F_is_one_pay (hr.mono (by decide)) rfl g_is_one_pay k_is_one_pay b_is_one_pay .nil pass0 (pa_cons (pv 2) pa_nil)))) (pss_one (ps_ret (pe_call F_refused (hr.mono (by decide)) rfl g_refused k_refused b_refused .nil pass0 (pa_cons (pe_gl rfl T.g_NOT_FIT) pa_nil)))) pss_nil)
      (pss_cons (ps_set (i := 3) sc_Tables_ifset.nd rfl (Or.inl rfl) (pe_meth (pv 0) c_Tables_spot m_Tables_spot F_Tables_spot (hr.mono (by decide)) b_Tables_spot .nil pass0 (pa_cons (pv 1) pa_nil)))
      (pss_cons (ps_set (i := 4) sc_Tables_ifset.nd rfl (Or.inl rfl) (pe_ix ix_list (pe_ix ix_list (pe_fld (pv 0) rfl) (pe_op op_sub pe_int (pe_ix ix_list (pv 1) pe_int (fun _ _ => rfl))) (fun _ _ => rfl)) (pv 3) (fun _ _ => rfl)))
      (pss_cons (ps_set (i := 5) sc_Tables_ifset.nd rfl (Or.inl rfl) (pe_meth0 (pv 0) c_Tables_apart m_Tables_apart F_Tables_apart (hr.mono (by decide)) b_Tables_apart .nil pass0))
      (pss_cons (ps_asg (pe_ifExp (pt_cmpR op_eq (pe_ix ix_list (pv 1) pe_int (fun _ _ => rfl)) pe_int (nomark _)) (pe_op op_sub (pe_ix ix_list (pv 2) pe_int (fun _ _ => rfl)) (pv 4)) (pe_op op_sub (pv 4) (pe_ix ix_list (pv 2) pe_int (fun _ _ => rfl)))) (pg_sub (pv 5) (pv 3) set_list))
      (pss_one (ps_ret (pe_call F_yes_or_no (hr.mono (by decide)) rfl g_yes_or_no k_yes_or_no b_yes_or_no .nil pass0 (pa_cons (pe_meth (pv 0) c_Tables_is_trivial m_Tables_is_trivial F_Tables_is_trivial (hr.mono (by decide)) b_Tables_is_trivial .nil pass0 (pa_cons (pv 5) pa_nil)) pa_nil))))))))), ?_⟩)
  · obtain ⟨p, aw, ar, d, t, s, x, q, l, rfl, _⟩ := h
    rfl
  · obtain ⟨p, aw, ar, d, t, s, x, q, l, rfl, ⟨dx, sp, ds, L, a, b, r⟩, o, hw, i, hl, k⟩ := h
    rw [step_if i] at k
    have ht := i.t
    refine ⟨_, rfl, ar, l, rfl, hl, _, rfl, if_b (fun c => ?_) fun c => ?_⟩
    · rw [Bool.not_eq_true'] at c
      rw [ifR_no c] at k
      exact ⟨_, rfl, k⟩
    rw [Bool.not_eq_false'] at c
    obtain ⟨v, rfl, hv⟩ := one_yes c
    rw [ifR_yes o i hv] at k
    have hix := i.ix
    have la : d.a.length = sz d := o.la
    have lb : d.b.length = sz d := o.lb
    obtain ⟨y, ec, hc⟩ := r.tab (t := 1 - t) (by omega)
    have et : (1 : Int) - (t : Int) = ((1 - t : Nat) : Int) := by omega
    refine ⟨_, rfl, p, dx, _, rfl, r.hp, pf_no, _, rfl, p, aw, d, t, s, x, q, rfl, r.rep, o, hw, ?_⟩
    refine ⟨_, rfl, p, C, dx, _, _, rfl, r.hp, T.cl, T.n_pays, pf_pays, _, rfl, aw, _, _, _, rfl, rfl, hw, rfl, _, _, rfl, rfl, L, _, _, _, rfl, rfl, SqL.of r.hL, et ▸ ec, _, rfl, y, _, _, _, rfl, rfl, SqL.of hc, pay_at (by rw [o.tl]; exact hix), ?_⟩
    refine ⟨_, rfl, p, dx, _, rfl, r.hp, pf_no, p, d, rfl, r.rep, o, fun H1 z s1 nz hz => ?_⟩
    have hw1 := s1.seq hw
    have hl1 := s1.seq hl
    have ll := less_len o
    have hixl : Kp388.index d s x q < ((less d).map V.int).length := by
      rw [List.length_map, ll]
      exact hix
    have go : ∀ u : Int, u = (if t = 1 then v - d.a.getD (Kp388.index d s x q) 0 else d.b.getD (Kp388.index d s x q) 0 - v) → Same H (upd H1 z (.lst (((less d).map V.int).set (Kp388.index d s x q) (.int u)))) ∧ upd H1 z (.lst (((less d).map V.int).set (Kp388.index d s x q) (.int u))) z = some (il ((less d).set (Kp388.index d s x q) u)) := fun u _ => ⟨same_upd s1 nz, by rw [upd_same]; unfold il; rw [List.map_set]⟩
    refine ⟨_, rfl, aw, _, _, _, rfl, rfl, hw1, rfl, rfl, _, rfl, if_b (fun c => ?_) fun c => ?_⟩
    · have c1 : t = 1 := by
        have := V.int.inj (of_decide_eq_true c)
        omega
      subst c1
      obtain ⟨g1, g2⟩ := go (v - (tb d (1 - 1)).getD (Kp388.index d s x q) 0) rfl
      rw [if_pos (rfl : (1 : Nat) = 1)] at k
      refine ⟨_, rfl, ar, _, _, _, rfl, rfl, hl1, rfl, _, rfl, _, _, rfl, rfl, _, rfl, _, rfl, z, _, _, Kp388.index d s x q, rfl, rfl, hz, ixN_nat hixl, ?_⟩
      have r2 := r.mono g1
      exact ⟨_, rfl, p, dx, _, rfl, r2.hp, pf_no, _, rfl, p, z, d, (less d).set (Kp388.index d s x q) (v - (tb d (1 - 1)).getD (Kp388.index d s x q) 0), rfl, r2.rep, o, SqL.of g2, by rw [List.length_set]; exact ll, fun H2 s2 => ⟨_, rfl, k.on (g1.trans s2)⟩⟩
    · have c1 : t = 0 := by
        have : ¬ (t = 1) := fun z => by
          subst z
          exact of_decide_eq_false c rfl
        omega
      subst c1
      obtain ⟨g1, g2⟩ := go ((tb d (1 - 0)).getD (Kp388.index d s x q) 0 - v) rfl
      rw [if_neg (show ¬ (0 : Nat) = 1 by decide)] at k
      refine ⟨_, rfl, _, rfl, ar, _, _, _, rfl, rfl, hl1, rfl, _, _, rfl, rfl, _, rfl, _, rfl, z, _, _, Kp388.index d s x q, rfl, rfl, hz, ixN_nat hixl, ?_⟩
      have r2 := r.mono g1
      exact ⟨_, rfl, p, dx, _, rfl, r2.hp, pf_no, _, rfl, p, z, d, (less d).set (Kp388.index d s x q) ((tb d (1 - 0)).getD (Kp388.index d s x q) 0 - v), rfl, r2.rep, o, SqL.of g2, by rw [List.length_set]; exact ll, fun H2 s2 => ⟨_, rfl, k.on (g1.trans s2)⟩⟩
theorem ok_toldpath {f : Addr} {fd : FuncData} (F : Fun K "told_path" "Tables.told_path" s_Tables_told_path f fd) (T : Txt K mg C CS) (M_Setting_is_path : Met P w K mg base 1 CS "is_path" (spIsPath K CS)) (M_Setting_path_pay : Met P w K mg base 3 CS "path_pay" (spPathPay K CS)) (M_refused : Cal P w K mg base 1 "refused" spRefused) : FnOk P w K mg base CX0 4 f fd ["self", "table", "row"] (spToldPath K C CS) := by
  obtain ⟨f_Setting_is_path, fd_Setting_is_path, ps_Setting_is_path, c_Setting_is_path, m_Setting_is_path, F_Setting_is_path, b_Setting_is_path⟩ := M_Setting_is_path.ex
  obtain ⟨f_Setting_path_pay, fd_Setting_path_pay, ps_Setting_path_pay, c_Setting_path_pay, m_Setting_path_pay, F_Setting_path_pay, b_Setting_path_pay⟩ := M_Setting_path_pay.ex
  obtain ⟨f_refused, fd_refused, ps_refused, F_refused, g_refused, k_refused, b_refused⟩ := M_refused.ex
  refine F.ok sc_Tables_told_path (fun vs H Q E h => ?_) (fun cdv A outer s H vs Q E hr h => ⟨_, (pss_cons (ps_if (pt_not (pt_val (pe_meth (pe_fld (pv 0) rfl) c_Setting_is_path m_Setting_is_path F_Setting_is_path (hr.mono (by decide)) b_Setting_is_path .nil pass0 (pa_cons (pv 2) pa_nil)))) (pss_one (ps_ret (pe_call F_refused (hr.mono (by decide)) rfl g_refused k_refused b_refused .nil pass0 (pa_cons (pe_gl rfl T.g_NOT_FIT) pa_nil)))) pss_nil)
      (pss_cons (ps_set (i := 3) sc_Tables_told_path.nd rfl (Or.inl rfl) (pe_meth (pe_fld (pv 0) rfl) c_Setting_path_pay m_Setting_path_pay F_Setting_path_pay (hr.mono (by decide)) b_Setting_path_pay .nil pass0 (pa_cons (pv 1) (pa_cons (pv 2) pa_nil))))
      (pss_one (ps_ret (pe_lst (pa_cons pe_int (pa_cons (pe_ix ix_list (pv 3) pe_int (fun _ _ => rfl)) (pa_cons (pe_ix ix_list (pv 3) pe_int (fun _ _ => rfl)) pa_nil)))))))), ?_⟩)
  · obtain ⟨p, a, ar, d, l, row, rfl, _⟩ := h
    rfl
  · obtain ⟨p, at_, ar, d, l, row, rfl, ⟨dx, sp, ds, L, a, b, r⟩, o, hS, hl, hR, hn, h1000, k⟩ := h
    unfold toldPath at k
    refine ⟨_, rfl, p, C, dx, _, _, rfl, r.hp, T.cl, T.n_setting, pf_setting, sp, ds, _, rfl, r.hs, sf_no, _, rfl, sp, ds, ar, d, row, rfl, r.hs, hR, hn, h1000, _, rfl, if_b (fun c => ?_) fun c => ?_⟩
    · rw [Bool.not_eq_true'] at c
      rw [c, if_neg (by decide)] at k
      exact ⟨_, rfl, k⟩
    · rw [Bool.not_eq_false'] at c
      rw [c, if_pos rfl] at k
      refine ⟨_, rfl, p, C, dx, _, _, rfl, r.hp, T.cl, T.n_setting, pf_setting, sp, ds, _, rfl, r.hs, sf_no, _, rfl, _, rfl, sp, ds, at_, ar, d, l, row, rfl, r.hs, o, hS, hl, hR, hn, c, fun H1 y s1 ny hy => ?_⟩
      have q1 := SqL.of (K := K) hy
      exact ⟨_, rfl, y, _, _, _, rfl, rfl, q1, rfl, _, rfl, y, _, _, _, rfl, rfl, q1, rfl, by show 3 ≤ sizeLine; decide, fun D nD => (k.on s1).at nD⟩
theorem ok_path {f : Addr} {fd : FuncData} (F : Fun K "path" "Tables.path" s_Tables_path f fd) (T : Txt K mg C CS) (M_Tables_told_path : Met P w K mg base 4 C "told_path" (spToldPath K C CS)) : FnOk P w K mg base CX0 5 f fd ["self", "t", "row"] (spPath K C CS) := by
  obtain ⟨f_Tables_told_path, fd_Tables_told_path, ps_Tables_told_path, c_Tables_told_path, m_Tables_told_path, F_Tables_told_path, b_Tables_told_path⟩ := M_Tables_told_path.ex
  refine F.ok sc_Tables_path (fun vs H Q E h => ?_) (fun cdv A outer s H vs Q E hr h => ⟨_, (pss_one (ps_ret (pe_meth (pv 0) c_Tables_told_path m_Tables_told_path F_Tables_told_path (hr.mono (by decide)) b_Tables_told_path .nil pass0 (pa_cons (pe_ix ix_list (pe_fld (pv 0) rfl) (pv 1) (fun _ _ => rfl)) (pa_cons (pv 2) pa_nil))))), ?_⟩)
  · obtain ⟨p, ar, d, t, row, rfl, _⟩ := h
    rfl
  · obtain ⟨p, ar, d, t, row, rfl, ⟨dx, sp, ds, L, a, b, r⟩, o, ht, hR, hn, h1000, k⟩ := h
    rw [step_path o ht] at k
    obtain ⟨c, ec, hc⟩ := r.tab ht
    exact ⟨_, rfl, p, dx, _, rfl, r.hp, pf_no, _, rfl, p, C, dx, _, _, rfl, r.hp, T.cl, T.n_pays, pf_pays, _, rfl, L, _, _, _, rfl, rfl, SqL.of r.hL, ec, _, rfl, p, c, ar, d, tb d t, row, rfl, r.rep, o, SqL.of hc, o.tl t, hR, hn, h1000, k⟩
theorem ok_gap {f : Addr} {fd : FuncData} (F : Fun K "gap" "Tables.gap" s_Tables_gap f fd) (T : Txt K mg C CS) (M_Tables_apart : Met P w K mg base 2 C "apart" (spApart C CS)) (M_Tables_told_path : Met P w K mg base 4 C "told_path" (spToldPath K C CS)) : FnOk P w K mg base CX0 5 f fd ["self", "row"] (spGap K C CS) := by
  obtain ⟨f_Tables_apart, fd_Tables_apart, ps_Tables_apart, c_Tables_apart, m_Tables_apart, F_Tables_apart, b_Tables_apart⟩ := M_Tables_apart.ex
  obtain ⟨f_Tables_told_path, fd_Tables_told_path, ps_Tables_told_path, c_Tables_told_path, m_Tables_told_path, F_Tables_told_path, b_Tables_told_path⟩ := M_Tables_told_path.ex
  refine F.ok sc_Tables_gap (fun vs H Q E h => ?_) (fun cdv A outer s H vs Q E hr h => ⟨_, (pss_one (ps_ret (pe_meth (pv 0) c_Tables_told_path m_Tables_told_path F_Tables_told_path (hr.mono (by decide)) b_Tables_told_path .nil pass0 (pa_cons (pe_meth0 (pv 0) c_Tables_apart m_Tables_apart F_Tables_apart (hr.mono (by decide)) b_Tables_apart .nil pass0) (pa_cons (pv 1) pa_nil))))), ?_⟩)
  · obtain ⟨p, ar, d, row, rfl, _⟩ := h
    rfl
  · obtain ⟨p, ar, d, row, rfl, ⟨dx, sp, ds, L, a, b, r⟩, o, hR, hn, h1000, k⟩ := h
    rw [step_gap o] at k
    refine ⟨_, rfl, p, dx, _, rfl, r.hp, pf_no, _, rfl, p, dx, _, rfl, r.hp, pf_no, p, d, rfl, r.rep, o, fun H1 y s1 ny hy => ?_⟩
    exact ⟨_, rfl, p, y, ar, d, less d, row, rfl, (r.mono s1).rep, o, SqL.of hy, less_len o, s1.seq hR, hn, h1000, k.on s1⟩
end
end SP

set_option Elab.async false
set_option maxRecDepth 100000
set_option maxHeartbeats 2000000
set_option linter.unusedVariables false
namespace SP
open PySem PySem.Spec PyProof.Rows L2
/-! ### what changes: __init__, begin, set_pay, fill, copy_other, swap, take_bounded, shape, scale -/
abbrev s_Tables_init : Stmt := inClass (topS 23) 0
abbrev n_Tables_init : List Str := ["self"]
theorem sc_Tables_init : FnScope n_Tables_init ["self"] (defScope s_Tables_init) := ⟨rfl, rfl, rfl, by decide +kernel, rfl, by decide +kernel, by decide +kernel⟩
abbrev s_Tables_begin : Stmt := inClass (topS 23) 4
abbrev n_Tables_begin : List Str := ["self", "n", "m", "g", "h", "size"]
theorem sc_Tables_begin : FnScope n_Tables_begin ["self", "n", "m", "g", "h"] (defScope s_Tables_begin) := ⟨rfl, rfl, rfl, by decide +kernel, rfl, by decide +kernel, by decide +kernel⟩
abbrev s_Tables_set_pay : Stmt := inClass (topS 23) 5
abbrev n_Tables_set_pay : List Str := ["self", "where", "row", "table", "k", "was"]
theorem sc_Tables_set_pay : FnScope n_Tables_set_pay ["self", "where", "row"] (defScope s_Tables_set_pay) := ⟨rfl, rfl, rfl, by decide +kernel, rfl, by decide +kernel, by decide +kernel⟩
abbrev s_Tables_fill : Stmt := inClass (topS 23) 6
abbrev n_Tables_fill : List Str := ["self", "t", "row"]
theorem sc_Tables_fill : FnScope n_Tables_fill ["self", "t", "row"] (defScope s_Tables_fill) := ⟨rfl, rfl, rfl, by decide +kernel, rfl, by decide +kernel, by decide +kernel⟩
abbrev s_Tables_copy_other : Stmt := inClass (topS 23) 8
abbrev n_Tables_copy_other : List Str := ["self", "t"]
theorem sc_Tables_copy_other : FnScope n_Tables_copy_other ["self", "t"] (defScope s_Tables_copy_other) := ⟨rfl, rfl, rfl, by decide +kernel, rfl, by decide +kernel, by decide +kernel⟩
abbrev s_Tables_swap : Stmt := inClass (topS 23) 9
abbrev n_Tables_swap : List Str := ["self"]
theorem sc_Tables_swap : FnScope n_Tables_swap ["self"] (defScope s_Tables_swap) := ⟨rfl, rfl, rfl, by decide +kernel, rfl, by decide +kernel, by decide +kernel⟩
abbrev s_Tables_take_bounded : Stmt := inClass (topS 23) 10
abbrev n_Tables_take_bounded : List Str := ["self", "t", "pays"]
theorem sc_Tables_take_bounded : FnScope n_Tables_take_bounded ["self", "t", "pays"] (defScope s_Tables_take_bounded) := ⟨rfl, rfl, rfl, by decide +kernel, rfl, by decide +kernel, by decide +kernel⟩
abbrev s_Tables_shape : Stmt := inClass (topS 23) 11
abbrev n_Tables_shape : List Str := ["self", "t", "row"]
theorem sc_Tables_shape : FnScope n_Tables_shape ["self", "t", "row"] (defScope s_Tables_shape) := ⟨rfl, rfl, rfl, by decide +kernel, rfl, by decide +kernel, by decide +kernel⟩
abbrev s_Tables_scale : Stmt := inClass (topS 23) 12
abbrev n_Tables_scale : List Str := ["self", "t", "c", "pay"]
theorem sc_Tables_scale : FnScope n_Tables_scale ["self", "t", "c"] (defScope s_Tables_scale) := ⟨rfl, rfl, rfl, by decide +kernel, rfl, by decide +kernel, by decide +kernel⟩
/-- the object's parts, and what H0 tracks: none of it is the object's -/
structure Full (C CS : Addr) (H0 H : Hp) (p : Addr) (d : Desk) (dx sp ds L a b : Addr) : Prop where
  r : Parts C CS H p d dx sp ds L a b
  same : Same H0 H
  fp : H0 p = none
  fs : H0 sp = none
  fL : H0 L = none
  fa : H0 a = none
  fb : H0 b = none
  ok : Ok d
/-- the object by the calls' state -/
def AtS (C CS : Addr) (H0 H : Hp) (p : Addr) : Kp388.State → Prop
  | none => Same H0 H ∧ H0 p = none ∧ ∃ dx L, H p = some (.ins C dx (pf .non L))
  | some d => ∃ dx sp ds L a b, Full C CS H0 H p d dx sp ds L a b
theorem AtS.flds {C CS p : Addr} {H0 H : Hp} {st : Kp388.State} (h : AtS C CS H0 H p st) : Same H0 H ∧ H0 p = none ∧ ∃ dx L u, H p = some (.ins C dx (pf u L)) ∧ (!decide (u = V.non)) = st.isSome := by
  cases st with
  | none =>
    obtain ⟨s, n, dx, L, e⟩ := h
    exact ⟨s, n, dx, L, _, e, rfl⟩
  | some d =>
    obtain ⟨dx, sp, ds, L, a, b, u⟩ := h
    exact ⟨u.same, u.fp, dx, L, _, u.r.hp, rfl⟩
theorem Full.mono {C CS p dx sp ds L a b : Addr} {H0 H H' : Hp} {d : Desk} (h : Full C CS H0 H p d dx sp ds L a b) (s : Same H H') : Full C CS H0 H' p d dx sp ds L a b := ⟨h.r.mono s, h.same.trans s, h.fp, h.fs, h.fL, h.fa, h.fb, h.ok⟩
theorem Full.at {C CS p dx sp ds L a b : Addr} {H0 H : Hp} {d : Desk} (h : Full C CS H0 H p d dx sp ds L a b) : AtS C CS H0 H p (some d) := ⟨dx, sp, ds, L, a, b, h⟩
theorem AtS.mono {C CS p : Addr} {H0 H H' : Hp} {st : Kp388.State} (h : AtS C CS H0 H p st) (s : Same H H') : AtS C CS H0 H' p st := by
  cases st with
  | none =>
    obtain ⟨s0, n, dx, L, e⟩ := h
    exact ⟨s0.trans s, n, dx, L, s _ _ e⟩
  | some d =>
    obtain ⟨dx, sp, ds, L, a, b, u⟩ := h
    exact (u.mono s).at
/-- what else is tracked may change -/
theorem AtS.put {C CS p D : Addr} {H0 H : Hp} {st : Kp388.State} {o o' : HO} (h : AtS C CS H0 H p st) (e : H0 D = some o) : AtS C CS (upd H0 D o') (upd H D o') p st := by
  have nd : ∀ {b : Addr}, H0 b = none → b ≠ D := fun {b} hb => (ne_of_none e hb).symm
  cases st with
  | none =>
    obtain ⟨s0, n, dx, L, q⟩ := h
    exact ⟨same_both s0, (upd_ne (nd n)).trans n, dx, L, (upd_ne (nd n)).trans q⟩
  | some d =>
    obtain ⟨dx, sp, ds, L, a, b, u⟩ := h
    have r := u.r
    exact ⟨dx, sp, ds, L, a, b, ⟨(upd_ne (nd u.fp)).trans r.hp, (upd_ne (nd u.fs)).trans r.hs, (upd_ne (nd u.fL)).trans r.hL, (upd_ne (nd u.fa)).trans r.ha, (upd_ne (nd u.fb)).trans r.hb, r.ab⟩, same_both u.same, (upd_ne (nd u.fp)).trans u.fp, (upd_ne (nd u.fs)).trans u.fs, (upd_ne (nd u.fL)).trans u.fL, (upd_ne (nd u.fa)).trans u.fa, (upd_ne (nd u.fb)).trans u.fb, u.ok⟩
/-- a new list of the answer's numbers is handed back, the object stands for the new state -/
def Ret (C CS : Addr) (H0 : Hp) (p : Addr) (y : Kp388.State × Kp388.Ans) (Q : VK) : Prop := ∀ H' r, AtS C CS H0 H' p y.1 → H0 r = none → H' r = some (il (al y.2)) → Q (.ref r) H'
/-- a refusal -/
theorem Ret.no {C CS p : Addr} {H0 H : Hp} {st : Kp388.State} {Q : VK} {i : Int} (k : Ret C CS H0 p (st, Kp388.say (-i)) Q) (h : AtS C CS H0 H p st) : ∀ H' r, Same H H' → H r = none → H' r = some (.lst [.int (-i)]) → Q (.ref r) H' :=
  fun H' r s n e => k H' r (h.mono s) (h.flds.1.free n) e
theorem Ret.new {C CS p : Addr} {H0 H : Hp} {st : Kp388.State} {Q : VK} {a : Kp388.Ans} (k : Ret C CS H0 p (st, a) Q) (h : AtS C CS H0 H p st) : New H ((al a).map V.int) Q :=
  fun H' r s n e => k H' r (h.mono s) (h.flds.1.free n) e
/-- what is handed back behind a change -/
theorem Ret.fin {C CS p : Addr} {H0 H : Hp} {st : Kp388.State} {Q : VK} {a : Kp388.Ans} (k : Ret C CS H0 p (st, a) Q) (h : AtS C CS H0 H p st) : ∀ r, H r = none → Q (.ref r) (upd H r (il (al a))) :=
  fun r n => k _ r (h.mono (same_new n)) (h.flds.1.free n) upd_same
abbrev wT := Kp388.withTable
theorem sf_wT (CS ds : Addr) (d : Desk) (t : Nat) (l : List Int) : so CS ds (wT d t l) = so CS ds d := by
  unfold wT Kp388.withTable
  split <;> rfl
/-- a table's list changed in its place -/
theorem Full.put {C CS p dx sp ds L a b c : Addr} {H0 H : Hp} {d : Desk} (h : Full C CS H0 H p d dx sp ds L a b) {t : Nat} (ht : t < 2) (hc : atI ([.ref a, .ref b] : List V) (t : Int) = some (.ref c)) {l : List Int} (hl : l.length = sz d) (hb : ∀ x ∈ l, -100000 ≤ x ∧ x ≤ 100000) :
    Full C CS H0 (upd H c (il l)) p (wT d t l) dx sp ds L a b := by
  have : t = 0 ∨ t = 1 := by omega
  have r := h.r
  have o := wT_ok (t := t) h.ok hl hb
  rcases this with rfl | rfl
  · have e : a = c := by
      have e1 : some (V.ref a) = some (V.ref c) := hc
      cases e1
      rfl
    subst e
    exact ⟨⟨(upd_ne r.pa.symm).trans r.hp, (upd_ne r.sa).trans r.hs, (upd_ne r.La.symm).trans r.hL, upd_same, (upd_ne r.ab.symm).trans r.hb, r.ab⟩, same_upd h.same h.fa, h.fp, h.fs, h.fL, h.fa, h.fb, o⟩
  · have e : b = c := by
      have e1 : some (V.ref b) = some (V.ref c) := hc
      cases e1
      rfl
    subst e
    exact ⟨⟨(upd_ne r.pb.symm).trans r.hp, (upd_ne r.sb).trans r.hs, (upd_ne r.Lb.symm).trans r.hL, (upd_ne r.ab).trans r.ha, upd_same, r.ab⟩, same_upd h.same h.fb, h.fp, h.fs, h.fL, h.fa, h.fb, o⟩
/-- a table's list, another one -/
theorem Full.swap_in {C CS p dx sp ds L a b y : Addr} {H0 H : Hp} {d : Desk} (h : Full C CS H0 H p d dx sp ds L a b) {t : Nat} (ht : t < 2) {l : List Int} (hy : H y = some (il l)) (fy : H0 y = none) (ya : y ≠ a) (yb : y ≠ b) (hl : l.length = sz d) (hb : ∀ x ∈ l, -100000 ≤ x ∧ x ≤ 100000) :
    AtS C CS H0 (upd H L (.lst (([.ref a, .ref b] : List V).set t (.ref y)))) p (some (wT d t l)) := by
  have : t = 0 ∨ t = 1 := by omega
  have r := h.r
  have o := wT_ok (t := t) h.ok hl hb
  have yL : y ≠ L := ne_of hy r.hL il_ne
  rcases this with rfl | rfl
  · exact ⟨dx, sp, ds, L, y, b, ⟨(upd_ne r.pL.symm).trans r.hp, (upd_ne r.sL).trans r.hs, upd_same, (upd_ne yL).trans hy, (upd_ne r.Lb).trans r.hb, yb⟩, same_upd h.same h.fL, h.fp, h.fs, h.fL, fy, h.fb, o⟩
  · exact ⟨dx, sp, ds, L, a, y, ⟨(upd_ne r.pL.symm).trans r.hp, (upd_ne r.sL).trans r.hs, upd_same, (upd_ne r.La).trans r.ha, (upd_ne yL).trans hy, ya.symm⟩, same_upd h.same h.fL, h.fp, h.fs, h.fL, h.fa, fy, o⟩
theorem ix2 {x y : V} {t : Nat} (ht : t < 2) : ixN ([x, y] : List V).length (t : Int) = some t := by
  have : t = 0 ∨ t = 1 := by omega
  rcases this with rfl | rfl <;> rfl
theorem inRange_eq (l : List Int) : Kp388.inRange l = wIn 100000 l := by
  unfold Kp388.inRange wIn
  congr 1
  funext x
  unfold Kp388.LIMIT
  by_cases h : ab x ≤ 100000
  · rw [decide_eq_true h]
    unfold ab at h
    split at h <;> rw [decide_eq_true (by omega), decide_eq_true (by omega)] <;> rfl
  · rw [decide_eq_false h, Bool.and_eq_false_iff]
    unfold ab at h
    split at h
    · exact .inl (decide_eq_false (by omega))
    · exact .inr (decide_eq_false (by omega))
theorem wIn_bd {m : Int} {l : List Int} (h : wIn m l = true) (hm : m ≤ 100000) : ∀ x ∈ l, -100000 ≤ x ∧ x ≤ 100000 := fun x hx => by
  have := of_decide_eq_true (List.all_eq_true.mp h x hx)
  unfold ab at this
  split at this <;> omega
def spInit (C : Addr) : Sp := fun vs H Q _ => ∃ (p dx : Addr), vs = [.ref p] ∧ H p = some (.ins C dx []) ∧ ∀ H' L, (∀ b o, H b = some o → b ≠ p → H' b = some o) → H L = none → H' p = some (.ins C dx (pf .non L)) → Q .non H'
def spBegin (C CS : Addr) : Sp := fun vs H Q _ => ∃ (H0 : Hp) (p : Addr) (st : Kp388.State) (n m g h : Nat), vs = [.ref p, .int n, .int m, .int g, .int h] ∧ AtS C CS H0 H p st ∧ Ret C CS H0 p (Kp388.step st (.begin_ n m g h)) Q
def spSetPay (K : PySem.W.Frag) (C CS : Addr) : Sp := fun vs H Q _ => ∃ (H0 : Hp) (p aw ar : Addr) (d : Desk) (t s x q : Nat) (l : List Int), vs = [.ref p, .ref aw, .ref ar] ∧ AtS C CS H0 H p (some d) ∧ SqL K H0 aw (wh4 t s x q) ∧ SqL K H0 ar (l.map V.int) ∧ In4 d t s x q ∧ Ret C CS H0 p (Kp388.step (some d) (.set t s x q l)) Q
def spFill (K : PySem.W.Frag) (C CS : Addr) : Sp := fun vs H Q _ => ∃ (H0 : Hp) (p ar : Addr) (d : Desk) (t : Nat) (l : List Int), vs = [.ref p, .int t, .ref ar] ∧ AtS C CS H0 H p (some d) ∧ SqL K H0 ar (l.map V.int) ∧ t < 2 ∧ Ret C CS H0 p (Kp388.step (some d) (.fill t l)) Q
def spCopy (C CS : Addr) : Sp := fun vs H Q _ => ∃ (H0 : Hp) (p : Addr) (d : Desk) (t : Nat), vs = [.ref p, .int t] ∧ AtS C CS H0 H p (some d) ∧ t < 2 ∧ Ret C CS H0 p (Kp388.step (some d) (.copy t)) Q
def spSwap (C CS : Addr) : Sp := fun vs H Q _ => ∃ (H0 : Hp) (p : Addr) (d : Desk), vs = [.ref p] ∧ AtS C CS H0 H p (some d) ∧ Ret C CS H0 p (Kp388.step (some d) .swap) Q
def takes (d : Desk) (t : Nat) (e : List Int) : Kp388.State × Kp388.Ans := if Kp388.inRange e = false then (some d, Kp388.say (-75)) else (some (wT d t e), Kp388.say 0)
def spTake (C CS : Addr) : Sp := fun vs H Q _ => ∃ (H0 : Hp) (p y dx sp ds L a b : Addr) (d : Desk) (t : Nat) (e : List Int), vs = [.ref p, .int t, .ref y] ∧ Full C CS H0 H p d dx sp ds L a b ∧ H y = some (il e) ∧ H0 y = none ∧ y ≠ a ∧ y ≠ b ∧ t < 2 ∧ e.length = sz d ∧ Ret C CS H0 p (takes d t e) Q
def spShape (K : PySem.W.Frag) (C CS : Addr) : Sp := fun vs H Q _ => ∃ (H0 : Hp) (p ar : Addr) (d : Desk) (t : Nat) (l : List Int), vs = [.ref p, .int t, .ref ar] ∧ AtS C CS H0 H p (some d) ∧ SqL K H0 ar (l.map V.int) ∧ t < 2 ∧ Ret C CS H0 p (Kp388.step (some d) (.shape t l)) Q
def spScale (C CS : Addr) : Sp := fun vs H Q _ => ∃ (H0 : Hp) (p : Addr) (d : Desk) (t c : Nat), vs = [.ref p, .int t, .int c] ∧ AtS C CS H0 H p (some d) ∧ t < 2 ∧ Ret C CS H0 p (Kp388.step (some d) (.scale t c)) Q
def setR (d : Desk) (t s x q : Nat) : List Int → Kp388.State × Kp388.Ans
  | [v] => if Kp388.okPay v = false then (some d, Kp388.say (-22)) else (some (wT d t ((tb d t).set (Kp388.index d s x q) v)), ⟨0, [Kp388.pay d t s x q]⟩)
  | _ => (some d, Kp388.say (-22))
theorem setR_no {d : Desk} {t s x q : Nat} : ∀ {l : List Int}, onePay l = false → setR d t s x q l = (some d, Kp388.say (-22))
  | [], _ => rfl
  | [v], h => if_pos (one_no h v rfl)
  | _ :: _ :: _, _ => rfl
theorem step_set {d : Desk} {t s x q : Nat} (i : In4 d t s x q) (l : List Int) : Kp388.step (some d) (.set t s x q l) = setR d t s x q l := by
  show (if Kp388.isAt d t s x q = false then (some d, Kp388.say (-2)) else _) = _
  rw [if_neg (by rw [isAt_t i]; decide)]
  rfl
theorem len_map_ne {l : List Int} {n : Nat} (c : (!decide (V.int ((l.map V.int).length : Int) = V.int n)) = true) : l.length ≠ n := by
  rw [List.length_map] at c
  intro e
  rw [e, decide_eq_true rfl] at c
  cases c
theorem len_map_eq {l : List Int} {n : Nat} (c : (!decide (V.int ((l.map V.int).length : Int) = V.int n)) = false) : l.length = n := by
  rw [List.length_map, Bool.not_eq_false', decide_eq_true_eq] at c
  have := V.int.inj c
  omega
theorem rep_int (k : Nat) : (List.replicate k [V.int 0]).flatten = (List.replicate k (0 : Int)).map V.int := by
  induction k with
  | zero => rfl
  | succ k ih =>
    rw [List.replicate_succ, List.replicate_succ, List.flatten_cons, ih]
    rfl
theorem shL_eq {d : Desk} (o : Ok d) (t : Nat) (l : List Int) : ((Kp388.triples d).map fun y => Kp388.pay d t y.1 y.2.1 y.2.2 + (d.g : Int) * l.getD y.2.2 0 - (d.h : Int) * l.getD y.1 0) = shL d (tb d t) l := by
  rw [triples_eq, trip_ends _ o.n2 _ o.m2, List.map_map]
  unfold shL
  refine List.map_congr_left fun k _ => ?_
  show (tb d t).getD (Kp388.index d (k / d.n / d.m) (k / d.n % d.m) (k % d.n)) 0 + (d.g : Int) * l.getD (k % d.n) 0 - (d.h : Int) * l.getD (k / d.n / d.m) 0 = _
  rw [ends_ix]
  rfl
theorem shL_len (d : Desk) (l row : List Int) : (shL d l row).length = sz d := by
  unfold shL
  rw [List.length_map, List.length_range]
theorem step_shape {d : Desk} (o : Ok d) {t : Nat} (ht : t < 2) (l : List Int) : Kp388.step (some d) (.shape t l) = if l.length ≠ d.n ∨ l.all Kp388.okPay = false then (some d, Kp388.say (-22)) else takes d t (shL d (tb d t) l) := by
  show (if 1 < t then _ else if l.length ≠ d.n ∨ l.all Kp388.okPay = false then _ else takes d t ((Kp388.triples d).map fun y => Kp388.pay d t y.1 y.2.1 y.2.2 + (d.g : Int) * l.getD y.2.2 0 - (d.h : Int) * l.getD y.1 0)) = _
  rw [if_neg (by omega), shL_eq o]
theorem step_scale {d : Desk} {t c : Nat} (ht : t < 2) : Kp388.step (some d) (.scale t c) = if c < 1 ∨ 100 < c then (some d, Kp388.say (-22)) else takes d t ((tb d t).map fun x => (c : Int) * x) := by
  show (if 1 < t then _ else if c < 1 ∨ 100 < c then _ else takes d t ((tb d t).map fun x => x * (c : Int))) = _
  rw [if_neg (by omega)]
  have e : (fun x : Int => x * (c : Int)) = fun x => (c : Int) * x := by
    funext x
    exact Int.mul_comm _ _
  rw [e]
theorem begun_ok {n m g h : Nat} (h1 : 2 ≤ n) (h2 : n ≤ 4) (h3 : 1 ≤ m) (h4 : m ≤ 3) (h5 : 1 ≤ g) (h6 : g < h) (h7 : h ≤ 10) : Ok ⟨n, m, g, h, List.replicate (n * m * n) 0, List.replicate (n * m * n) 0⟩ := by
  have b0 : ∀ x ∈ List.replicate (n * m * n) (0 : Int), -100000 ≤ x ∧ x ≤ 100000 := fun x hx => by
    rw [List.eq_of_mem_replicate hx]
    decide
  exact ⟨h1, h2, h3, h4, h5, h6, h7, List.length_replicate .., List.length_replicate .., b0, b0⟩
section
variable {P : Program} {w : World} {K : PySem.W.Frag} {mg : Str → Option Value} {base : Heap} {C CS : Addr}
theorem ok_init {f : Addr} {fd : FuncData} (F : Fun K "__init__" "Tables.__init__" s_Tables_init f fd) (T : Txt K mg C CS) : FnOk P w K mg base CX0 1 f fd ["self"] (spInit C) := by
  refine F.ok sc_Tables_init (fun vs H Q E h => ?_) (fun cdv A outer s H vs Q E hr h => ⟨_, (pss_cons (ps_fld (pv 0) pe_non rfl)
      (pss_one (ps_fld (pv 0) (pe_lst pa_nil) rfl))), ?_⟩)
  · obtain ⟨p, dx, rfl, _⟩ := h
    rfl
  · obtain ⟨p, dx, rfl, hp, k⟩ := h
    refine ⟨_, rfl, p, C, dx, _, rfl, hp, T.cl, T.n_setting, by show 0 < 1000; decide, ?_⟩
    refine ⟨Nat.zero_le _, fun L hL => ?_⟩
    have npL : p ≠ L := fun q => by
      rw [q, upd_same] at hL
      cases hL
    rw [upd_ne npL.symm] at hL
    refine ⟨_, rfl, p, C, dx, _, rfl, (upd_ne npL).trans upd_same, T.cl, T.n_pays, by show 1 < 1000; decide, ?_⟩
    refine k _ L (fun b o e hb => ?_) hL (upd_same.trans rfl)
    rw [upd_ne hb, upd_ne (ne_of_none e hL), upd_ne hb]
    exact e
theorem ok_begin {f : Addr} {fd : FuncData} (F : Fun K "begin" "Tables.begin" s_Tables_begin f fd) (T : Txt K mg C CS) (M_Setting : Mak P w K mg base 1 "Setting" CS (spSInit CS)) (M_Setting_size : Met P w K mg base 1 CS "size" (spSize CS)) (M_refused : Cal P w K mg base 1 "refused" spRefused) : FnOk P w K mg base CX0 3 f fd ["self", "n", "m", "g", "h"] (spBegin C CS) := by
  obtain ⟨f_Setting, fd_Setting, ps_Setting, mk_Setting, F_Setting, g_Setting, b_Setting⟩ := M_Setting.ex
  obtain ⟨f_Setting_size, fd_Setting_size, ps_Setting_size, c_Setting_size, m_Setting_size, F_Setting_size, b_Setting_size⟩ := M_Setting_size.ex
  obtain ⟨f_refused, fd_refused, ps_refused, F_refused, g_refused, k_refused, b_refused⟩ := M_refused.ex
  refine F.ok sc_Tables_begin (fun vs H Q E h => ?_) (fun cdv A outer s H vs Q E hr h => ⟨_, (pss_cons (ps_if (PW.pt (pw_or (pt_cmpR op_lt (pv 1) pe_int (nomark _)) (pw_or (pt_cmpR op_gt (pv 1) pe_int (nomark _)) (pw_or (pt_cmpR op_lt (pv 2) pe_int (nomark _)) (pw_or1 (pt_cmpR op_gt (pv 2) pe_int (nomark _))))))) (pss_one (ps_ret (pe_call F_refused (hr.mono (by decide)) rfl g_refused k_refused b_refused .nil pass0 (pa_cons (pe_gl rfl T.g_NOT_FIT) pa_nil)))) pss_nil)
      (pss_cons (ps_if (PW.pt (pw_or (pt_cmpR op_lt (pv 3) pe_int (nomark _)) (pw_or (pt_cmpR op_le (pv 4) (pv 3) (nomark _)) (pw_or1 (pt_cmpR op_gt (pv 4) pe_int (nomark _)))))) (pss_one (ps_ret (pe_call F_refused (hr.mono (by decide)) rfl g_refused k_refused b_refused .nil pass0 (pa_cons (pe_gl rfl T.g_NOT_FIT) pa_nil)))) pss_nil)
      (pss_cons (ps_fld (pv 0) (pe_make mk_Setting F_Setting (hr.mono (by decide)) rfl g_Setting b_Setting .nil pass0 (pa_cons (pv 1) (pa_cons (pv 2) (pa_cons (pv 3) (pa_cons (pv 4) pa_nil))))) rfl)
      (pss_cons (ps_set (i := 5) sc_Tables_begin.nd rfl (Or.inl rfl) (pe_meth0 (pe_fld (pv 0) rfl) c_Setting_size m_Setting_size F_Setting_size (hr.mono (by decide)) b_Setting_size .nil pass0))
      (pss_cons (ps_fld (pv 0) (pe_lst (pa_cons (pe_op op_rep (pe_lst (pa_cons pe_int pa_nil)) (pv 5)) (pa_cons (pe_op op_rep (pe_lst (pa_cons pe_int pa_nil)) (pv 5)) pa_nil))) rfl)
      (pss_one (ps_ret (pe_lst (pa_cons (pv 5) pa_nil))))))))), ?_⟩)
  · obtain ⟨H0, p, st, n, m, g, h, rfl, _⟩ := h
    rfl
  · obtain ⟨H0, p, st, n, m, g, h, rfl, hA, k⟩ := h
    have kb : (n < 2 ∨ 4 < n ∨ m < 1 ∨ 3 < m ∨ g < 1 ∨ h ≤ g ∨ 10 < h) → Ret C CS H0 p (st, Kp388.say (-22)) Q := fun c => by
      have e : Kp388.step st (.begin_ n m g h) = (st, Kp388.say (-22)) := if_pos c
      rw [e] at k
      exact k
    refine ⟨_, rfl, _, _, rfl, rfl, _, rfl, if_b (fun c => iteT ⟨_, rfl, (kb (by have := of_decide_eq_true c; omega)).no hA⟩) fun c1 => ?_⟩
    refine ⟨_, rfl, _, _, rfl, rfl, _, rfl, if_b (fun c => iteT ⟨_, rfl, (kb (by have := of_decide_eq_true c; omega)).no hA⟩) fun c2 => ?_⟩
    refine ⟨_, rfl, _, _, rfl, rfl, _, rfl, if_b (fun c => iteT ⟨_, rfl, (kb (by have := of_decide_eq_true c; omega)).no hA⟩) fun c3 => ?_⟩
    refine ⟨_, rfl, _, _, rfl, rfl, _, rfl, if_b (fun c => ⟨_, rfl, (kb (by have := of_decide_eq_true c; omega)).no hA⟩) fun c4 => ?_⟩
    refine ⟨_, rfl, _, _, rfl, rfl, _, rfl, if_b (fun c => iteT ⟨_, rfl, (kb (by have := of_decide_eq_true c; omega)).no hA⟩) fun c5 => ?_⟩
    refine ⟨_, rfl, _, rfl, _, _, rfl, rfl, _, rfl, if_b (fun c => iteT ⟨_, rfl, (kb (by have := of_decide_eq_true c; omega)).no hA⟩) fun c6 => ?_⟩
    refine ⟨_, rfl, _, _, rfl, rfl, _, rfl, if_b (fun c => ⟨_, rfl, (kb (by have := of_decide_eq_true c; omega)).no hA⟩) fun c7 => ?_⟩
    have d1 := of_decide_eq_false c1
    have d2 := of_decide_eq_false c2
    have d3 := of_decide_eq_false c3
    have d4 := of_decide_eq_false c4
    have d5 := of_decide_eq_false c5
    have d6 := of_decide_eq_false c6
    have d7 := of_decide_eq_false c7
    have e : Kp388.step st (.begin_ n m g h) = (some ⟨n, m, g, h, List.replicate (n * m * n) 0, List.replicate (n * m * n) 0⟩, Kp388.say (n * m * n : Nat)) := if_neg (by omega)
    rw [e] at k
    have ob : Ok ⟨n, m, g, h, List.replicate (n * m * n) 0, List.replicate (n * m * n) 0⟩ := begun_ok (by omega) (by omega) (by omega) (by omega) (by omega) (by omega) (by omega)
    have z48 : n * m * n ≤ 48 := size48 (by omega) (by omega)
    generalize hd : (⟨n, m, g, h, List.replicate (n * m * n) 0, List.replicate (n * m * n) 0⟩ : Desk) = d at k ob
    have hz : sz d = n * m * n := by rw [← hd]; rfl
    obtain ⟨hs, hp0, dx, L, u, hp, _⟩ := hA.flds
    refine ⟨_, rfl, _, rfl, _, rfl, _, rfl, fun sp ds nsp nds nes => ?_⟩
    refine ⟨sp, ds, n, m, g, h, rfl, upd_same, fun H1 kp hs1 => ⟨rfl, ?_⟩⟩
    have s1 : Same H H1 := Same.made nsp nds kp
    have hso : H1 sp = some (so CS ds d) := by rw [hs1, ← hd]
    have hp1 := s1 _ _ hp
    have fs := hs.free nsp
    refine ⟨_, rfl, p, C, dx, _, rfl, hp1, T.cl, T.n_setting, pf_len, ?_⟩
    try dsimp only
    rw [put_setting]
    have nsp' : sp ≠ p := ne_of hso hp1 so_ne
    have hp2 : upd H1 p (.ins C dx (pf (.ref sp) L)) p = some (.ins C dx (pf (.ref sp) L)) := upd_same
    have hso2 : upd H1 p (.ins C dx (pf (.ref sp) L)) sp = some (so CS ds d) := (upd_ne nsp').trans hso
    have s2 : Same H0 (upd H1 p (.ins C dx (pf (.ref sp) L))) := same_upd (hs.trans s1) hp0
    generalize upd H1 p (.ins C dx (pf (.ref sp) L)) = H2 at hp2 hso2 s2
    refine ⟨_, rfl, p, C, dx, _, _, rfl, hp2, T.cl, T.n_setting, pf_setting, sp, ds, _, rfl, hso2, sf_no, sp, ds, d, rfl, hso2, ob, ?_⟩
    rw [hz]
    generalize n * m * n = z at z48 k hd hz
    refine ⟨by show 1 ≤ sizeLine; decide, fun x1 nx1 => ?_⟩
    have t1 : Same H2 (upd H2 x1 (.lst [.int 0])) := same_new nx1
    refine ⟨_, rfl, x1, _, _, rfl, rfl, upd_same, by omega, by omega, ?_, fun y1 ny1 => ?_⟩
    · show 1 * z ≤ sizeLine
      rw [sizeLine_eq]
      omega
    try dsimp only
    rw [show ((z : Int)).toNat = z from rfl, rep_int]
    have t2 := t1.trans (same_new (o := .lst ((List.replicate z (0 : Int)).map V.int)) ny1)
    have hy1 : upd (upd H2 x1 (.lst [.int 0])) y1 (.lst ((List.replicate z (0 : Int)).map V.int)) y1 = some (il (List.replicate z 0)) := upd_same
    have f1 := (s2.trans t1).free ny1
    generalize upd (upd H2 x1 (.lst [.int 0])) y1 (.lst ((List.replicate z (0 : Int)).map V.int)) = H3 at t2 hy1
    refine ⟨by show 1 ≤ sizeLine; decide, fun x2 nx2 => ?_⟩
    have t3 : Same H3 (upd H3 x2 (.lst [.int 0])) := same_new nx2
    refine ⟨_, rfl, x2, _, _, rfl, rfl, upd_same, by omega, by omega, ?_, fun y2 ny2 => ?_⟩
    · show 1 * z ≤ sizeLine
      rw [sizeLine_eq]
      omega
    try dsimp only
    rw [show ((z : Int)).toNat = z from rfl, rep_int]
    have t4 := t3.trans (same_new (o := .lst ((List.replicate z (0 : Int)).map V.int)) ny2)
    have hy2 : upd (upd H3 x2 (.lst [.int 0])) y2 (.lst ((List.replicate z (0 : Int)).map V.int)) y2 = some (il (List.replicate z 0)) := upd_same
    have n12 : y1 ≠ y2 := ne_of_none (t3 _ _ hy1) ny2
    have f2 := (s2.trans (t2.trans t3)).free ny2
    generalize upd (upd H3 x2 (.lst [.int 0])) y2 (.lst ((List.replicate z (0 : Int)).map V.int)) = H4 at t4 hy2
    refine ⟨by show 2 ≤ sizeLine; decide, fun L2 nL2 => ?_⟩
    have t5 : Same H4 (upd H4 L2 (.lst [.ref y1, .ref y2])) := same_new nL2
    have hL2 : upd H4 L2 (.lst [.ref y1, .ref y2]) L2 = some (.lst [.ref y1, .ref y2]) := upd_same
    have f3 := (s2.trans (t2.trans t4)).free nL2
    generalize upd H4 L2 (.lst [.ref y1, .ref y2]) = H5 at t5 hL2
    have hp5 := t5 _ _ (t4 _ _ (t2 _ _ hp2))
    have hs5 := t5 _ _ (t4 _ _ (t2 _ _ hso2))
    have g1 := t5 _ _ (t4 _ _ hy1)
    have g2 := t5 _ _ hy2
    refine ⟨_, rfl, p, C, dx, _, rfl, hp5, T.cl, T.n_pays, pf_len, ?_⟩
    try dsimp only
    rw [put_pays]
    have q1 : y1 ≠ p := ne_of g1 hp5 (by intro q; cases q)
    have q2 : y2 ≠ p := ne_of g2 hp5 (by intro q; cases q)
    have q3 : L2 ≠ p := ne_of hL2 hp5 (by intro q; cases q)
    have hA' : AtS C CS H0 (upd H5 p (.ins C dx (pf (.ref sp) L2))) p (some d) := by
      refine ⟨dx, sp, ds, L2, y1, y2, ⟨upd_same, (upd_ne nsp').trans hs5, (upd_ne q3).trans hL2, ?_, ?_, n12⟩, same_upd (s2.trans (t2.trans (t4.trans t5))) hp0, hp0, fs, f3, f1, f2, ob⟩
      · rw [← hd]
        exact (upd_ne q1).trans g1
      · rw [← hd]
        exact (upd_ne q2).trans g2
    refine ⟨_, rfl, by show 1 ≤ sizeLine; decide, ?_⟩
    exact k.fin hA'
theorem ok_setpay {f : Addr} {fd : FuncData} (F : Fun K "set_pay" "Tables.set_pay" s_Tables_set_pay f fd) (T : Txt K mg C CS) (M_refused : Cal P w K mg base 1 "refused" spRefused) (M_is_one_pay : Cal P w K mg base 2 "is_one_pay" (spOnePay K)) (M_Tables_spot : Met P w K mg base 2 C "spot" (spTSpot K C CS)) : FnOk P w K mg base CX0 3 f fd ["self", "where", "row"] (spSetPay K C CS) := by
  obtain ⟨f_refused, fd_refused, ps_refused, F_refused, g_refused, k_refused, b_refused⟩ := M_refused.ex
  obtain ⟨f_is_one_pay, fd_is_one_pay, ps_is_one_pay, F_is_one_pay, g_is_one_pay, k_is_one_pay, b_is_one_pay⟩ := M_is_one_pay.ex
  obtain ⟨f_Tables_spot, fd_Tables_spot, ps_Tables_spot, c_Tables_spot, m_Tables_spot, F_Tables_spot, b_Tables_spot⟩ := M_Tables_spot.ex
  refine F.ok sc_Tables_set_pay (fun vs H Q E h => ?_) (fun cdv A outer s H vs Q E hr h => ⟨_, (pss_cons (ps_if (pt_not (pt_val (pe_call F_is_one_pay (hr.mono (by decide)) rfl g_is_one_pay k_is_one_pay b_is_one_pay .nil pass0 (pa_cons (pv 2) pa_nil)))) (pss_one (ps_ret (pe_call F_refused (hr.mono (by decide)) rfl g_refused k_refused b_refused .nil pass0 (pa_cons (pe_gl rfl T.g_NOT_FIT) pa_nil)))) pss_nil)
      (pss_cons (ps_set (i := 3) sc_Tables_set_pay.nd rfl (Or.inl rfl) (pe_ix ix_list (pe_fld (pv 0) rfl) (pe_ix ix_list (pv 1) pe_int (fun _ _ => rfl)) (fun _ _ => rfl)))
      (pss_cons (ps_set (i := 4) sc_Tables_set_pay.nd rfl (Or.inl rfl) (pe_meth (pv 0) c_Tables_spot m_Tables_spot F_Tables_spot (hr.mono (by decide)) b_Tables_spot .nil pass0 (pa_cons (pv 1) pa_nil)))
      (pss_cons (ps_set (i := 5) sc_Tables_set_pay.nd rfl (Or.inl rfl) (pe_ix ix_list (pv 3) (pv 4) (fun _ _ => rfl)))
      (pss_cons (ps_asg (pe_ix ix_list (pv 2) pe_int (fun _ _ => rfl)) (pg_sub (pv 3) (pv 4) set_list))
      (pss_one (ps_ret (pe_lst (pa_cons pe_int (pa_cons (pv 5) pa_nil)))))))))), ?_⟩)
  · obtain ⟨H0, p, aw, ar, d, t, s, x, q, l, rfl, _⟩ := h
    rfl
  · obtain ⟨H0, p, aw, ar, d, t, s, x, q, l, rfl, hA, hw, hl, i, k⟩ := h
    obtain ⟨dx, sp, ds, L, a, b, u⟩ := hA
    have hA := u.at
    have r := u.r
    have o := u.ok
    rw [step_set i] at k
    have hw1 := u.same.seq hw
    have hl1 := u.same.seq hl
    refine ⟨_, rfl, ar, l, rfl, hl1, _, rfl, if_b (fun c => ?_) fun c => ?_⟩
    · rw [Bool.not_eq_true'] at c
      rw [setR_no c] at k
      exact ⟨_, rfl, k.no hA⟩
    rw [Bool.not_eq_false'] at c
    obtain ⟨v, rfl, hv⟩ := one_yes c
    have hb := okPay_bd hv
    have k1 : Ret C CS H0 p (if Kp388.okPay v = false then (some d, Kp388.say (-22)) else (some (wT d t ((tb d t).set (Kp388.index d s x q) v)), (⟨0, [Kp388.pay d t s x q]⟩ : Kp388.Ans))) Q := k
    rw [if_neg (by rw [hv]; decide)] at k1
    obtain ⟨y, ec, hc⟩ := r.tab i.t
    have hi : Kp388.index d s x q < (tb d t).length := by
      rw [o.tl]
      exact i.ix
    refine ⟨_, rfl, p, C, dx, _, _, rfl, r.hp, T.cl, T.n_pays, pf_pays, _, rfl, aw, _, _, _, rfl, rfl, hw1, rfl, L, _, _, _, rfl, rfl, SqL.of r.hL, ec, ?_⟩
    refine ⟨_, rfl, p, dx, _, rfl, r.hp, pf_no, _, rfl, p, aw, d, t, s, x, q, rfl, r.rep, o, hw1, ?_⟩
    refine ⟨_, rfl, _, rfl, y, _, _, _, rfl, rfl, SqL.of hc, pay_at hi, ?_⟩
    refine ⟨_, rfl, ar, _, _, _, rfl, rfl, hl1, rfl, _, rfl, _, rfl, y, _, _, Kp388.index d s x q, rfl, rfl, hc, ixN_nat (by rw [List.length_map]; exact hi), ?_⟩
    have ew : (((tb d t).map V.int).set (Kp388.index d s x q) (.int v)) = ((tb d t).set (Kp388.index d s x q) v).map V.int := by rw [List.map_set]
    have u1 := u.put i.t ec (l := (tb d t).set (Kp388.index d s x q) v) (by rw [List.length_set, o.tl]) (mem_set_bd (o.tbd t) ⟨by omega, by omega⟩)
    try dsimp only
    rw [ew]
    refine ⟨_, rfl, by show 2 ≤ sizeLine; decide, ?_⟩
    exact k1.fin u1.at
theorem ok_fill {f : Addr} {fd : FuncData} (F : Fun K "fill" "Tables.fill" s_Tables_fill f fd) (T : Txt K mg C CS) (M_refused : Cal P w K mg base 1 "refused" spRefused) (M_within : Cal P w K mg base 1 "within" (spWithin K)) : FnOk P w K mg base CX0 2 f fd ["self", "t", "row"] (spFill K C CS) := by
  obtain ⟨f_refused, fd_refused, ps_refused, F_refused, g_refused, k_refused, b_refused⟩ := M_refused.ex
  obtain ⟨f_within, fd_within, ps_within, F_within, g_within, k_within, b_within⟩ := M_within.ex
  refine F.ok sc_Tables_fill (fun vs H Q E h => ?_) (fun cdv A outer s H vs Q E hr h => ⟨_, (pss_cons (ps_if (PW.pt (pw_or (pt_cmpR op_ne (pe_callB call_len_seq (by rfl) T.z_len PySem.boot_len (pa_cons (pv 2) pa_nil)) (pe_callB call_len_seq (by rfl) T.z_len PySem.boot_len (pa_cons (pe_ix ix_list (pe_fld (pv 0) rfl) (pv 1) (fun _ _ => rfl)) pa_nil)) (nomark _)) (pw_or1 (pt_not (pt_val (pe_call F_within (hr.mono (by decide)) rfl g_within k_within b_within .nil pass0 (pa_cons (pv 2) (pa_cons (pe_gl rfl T.g_MOST_IN_ROW) pa_nil)))))))) (pss_one (ps_ret (pe_call F_refused (hr.mono (by decide)) rfl g_refused k_refused b_refused .nil pass0 (pa_cons (pe_gl rfl T.g_NOT_FIT) pa_nil)))) pss_nil)
      (pss_cons (ps_asg (pe_callTy call_list_of (by rfl) T.z_list (by decide +kernel) (pa_cons (pv 2) pa_nil)) (pg_sub (pe_fld (pv 0) rfl) (pv 1) set_list))
      (pss_one (ps_ret (pe_lst (pa_cons pe_int pa_nil)))))), ?_⟩)
  · obtain ⟨H0, p, ar, d, t, l, rfl, _⟩ := h
    rfl
  · obtain ⟨H0, p, ar, d, t, l, rfl, hA, hl, ht, k⟩ := h
    obtain ⟨dx, sp, ds, L, a, b, u⟩ := hA
    have hA := u.at
    have r := u.r
    have o := u.ok
    have hl1 := u.same.seq hl
    obtain ⟨y, ec, hc⟩ := r.tab ht
    have e : Kp388.step (some d) (.fill t l) = if l.length ≠ Kp388.size d ∨ l.all Kp388.okPay = false then (some d, Kp388.say (-22)) else (some (wT d t l), Kp388.say 0) := by
      show (if 1 < t then _ else _) = _
      rw [if_neg (by omega)]
    rw [e] at k
    refine ⟨_, rfl, ar, _, rfl, .inl hl1, _, rfl, p, C, dx, _, _, rfl, r.hp, T.cl, T.n_pays, pf_pays, _, rfl, L, _, _, _, rfl, rfl, SqL.of r.hL, ec, y, _, rfl, .inl (SqL.of hc), rfl, _, rfl, if_b (fun c => iteT ?_) fun c => ?_⟩
    · rw [List.length_map (as := tb d t), o.tl] at c
      rw [if_pos (.inl (len_map_ne c))] at k
      exact ⟨_, rfl, k.no hA⟩
    rw [List.length_map (as := tb d t), o.tl] at c
    have c1 : l.length = sz d := len_map_eq c
    refine ⟨_, rfl, ar, _, _, rfl, hl1, _, rfl, if_b (fun c => ?_) fun c => ?_⟩
    · rw [wIn_okPay, Bool.not_eq_true'] at c
      rw [if_pos (.inr c)] at k
      exact ⟨_, rfl, k.no hA⟩
    rw [Bool.not_eq_false'] at c
    rw [if_neg (by rw [← wIn_okPay, c]; rintro (z | z); exact z c1; cases z)] at k
    refine ⟨_, rfl, ar, _, rfl, .inl hl1, fun z nz => ?_⟩
    have s1 : Same H (upd H z (.lst (l.map V.int))) := same_new nz
    have u1 := u.mono s1
    have r1 := u1.r
    refine ⟨_, rfl, p, C, dx, _, _, rfl, r1.hp, T.cl, T.n_pays, pf_pays, _, rfl, L, _, _, t, rfl, rfl, r1.hL, ix2 ht, ?_⟩
    have h2 := u1.swap_in ht (l := l) upd_same (u.same.free nz) (ne_of_none r.ha nz).symm (ne_of_none r.hb nz).symm c1 (wIn_bd c (by decide))
    exact ⟨by show 1 ≤ sizeLine; decide, k.fin h2⟩
theorem ok_copy {f : Addr} {fd : FuncData} (F : Fun K "copy_other" "Tables.copy_other" s_Tables_copy_other f fd) (T : Txt K mg C CS) : FnOk P w K mg base CX0 1 f fd ["self", "t"] (spCopy C CS) := by
  refine F.ok sc_Tables_copy_other (fun vs H Q E h => ?_) (fun cdv A outer s H vs Q E hr h => ⟨_, (pss_cons (ps_asg (pe_callTy call_list_of (by rfl) T.z_list (by decide +kernel) (pa_cons (pe_ix ix_list (pe_fld (pv 0) rfl) (pe_op op_sub pe_int (pv 1)) (fun _ _ => rfl)) pa_nil)) (pg_sub (pe_fld (pv 0) rfl) (pv 1) set_list))
      (pss_one (ps_ret (pe_lst (pa_cons pe_int pa_nil))))), ?_⟩)
  · obtain ⟨H0, p, d, t, rfl, _⟩ := h
    rfl
  · obtain ⟨H0, p, d, t, rfl, hA, ht, k⟩ := h
    obtain ⟨dx, sp, ds, L, a, b, u⟩ := hA
    have r := u.r
    have o := u.ok
    obtain ⟨y, ec, hc⟩ := r.tab (t := 1 - t) (by omega)
    have et : (1 : Int) - (t : Int) = ((1 - t : Nat) : Int) := by omega
    have e : Kp388.step (some d) (.copy t) = (some (wT d t (tb d (1 - t))), Kp388.say 0) := by
      show (if 1 < t then _ else _) = _
      rw [if_neg (by omega)]
      rfl
    rw [e] at k
    refine ⟨_, rfl, p, C, dx, _, _, rfl, r.hp, T.cl, T.n_pays, pf_pays, _, rfl, _, _, rfl, rfl, L, _, _, _, rfl, rfl, SqL.of r.hL, et ▸ ec, y, _, rfl, .inl (SqL.of hc), fun z nz => ?_⟩
    have s1 : Same H (upd H z (.lst ((tb d (1 - t)).map V.int))) := same_new nz
    have u1 := u.mono s1
    have r1 := u1.r
    refine ⟨_, rfl, p, C, dx, _, _, rfl, r1.hp, T.cl, T.n_pays, pf_pays, _, rfl, L, _, _, t, rfl, rfl, r1.hL, ix2 ht, ?_⟩
    have h2 := u1.swap_in ht (l := tb d (1 - t)) upd_same (u.same.free nz) (ne_of_none r.ha nz).symm (ne_of_none r.hb nz).symm (o.tl _) (o.tbd _)
    exact ⟨by show 1 ≤ sizeLine; decide, k.fin h2⟩
theorem ok_swap {f : Addr} {fd : FuncData} (F : Fun K "swap" "Tables.swap" s_Tables_swap f fd) (T : Txt K mg C CS) : FnOk P w K mg base CX0 1 f fd ["self"] (spSwap C CS) := by
  refine F.ok sc_Tables_swap (fun vs H Q E h => ?_) (fun cdv A outer s H vs Q E hr h => ⟨_, (pss_cons (ps_fld (pv 0) (pe_lst (pa_cons (pe_ix ix_list (pe_fld (pv 0) rfl) pe_int (fun _ _ => rfl)) (pa_cons (pe_ix ix_list (pe_fld (pv 0) rfl) pe_int (fun _ _ => rfl)) pa_nil))) rfl)
      (pss_one (ps_ret (pe_lst (pa_cons pe_int pa_nil))))), ?_⟩)
  · obtain ⟨H0, p, d, rfl, _⟩ := h
    rfl
  · obtain ⟨H0, p, d, rfl, hA, k⟩ := h
    obtain ⟨dx, sp, ds, L, a, b, u⟩ := hA
    have r := u.r
    have o := u.ok
    have e : Kp388.step (some d) .swap = (some { d with a := d.b, b := d.a }, Kp388.say 0) := rfl
    rw [e] at k
    have o2 : Ok { d with a := d.b, b := d.a } := ⟨o.n1, o.n2, o.m1, o.m2, o.g1, o.g2, o.h2, o.lb, o.la, o.bb, o.ba⟩
    refine ⟨_, rfl, p, C, dx, _, _, rfl, r.hp, T.cl, T.n_pays, pf_pays, L, _, _, _, rfl, rfl, SqL.of r.hL, rfl, _, rfl, p, C, dx, _, _, rfl, r.hp, T.cl, T.n_pays, pf_pays, L, _, _, _, rfl, rfl, SqL.of r.hL, rfl, by show 2 ≤ sizeLine; decide, fun L2 nL2 => ?_⟩
    have s1 : Same H (upd H L2 (.lst [.ref b, .ref a])) := same_new nL2
    have hL2 : upd H L2 (.lst [.ref b, .ref a]) L2 = some (.lst [.ref b, .ref a]) := upd_same
    have fL2 := u.same.free nL2
    generalize upd H L2 (.lst [.ref b, .ref a]) = H1 at s1 hL2
    have u1 := u.mono s1
    have r1 := u1.r
    refine ⟨_, rfl, p, C, dx, _, rfl, r1.hp, T.cl, T.n_pays, pf_len, ?_⟩
    try dsimp only
    rw [put_pays]
    have q3 : L2 ≠ p := ne_of hL2 r1.hp (by intro q; cases q)
    have h2 : AtS C CS H0 (upd H1 p (.ins C dx (pf (.ref sp) L2))) p (some { d with a := d.b, b := d.a }) :=
      ⟨dx, sp, ds, L2, b, a, ⟨upd_same, (upd_ne r1.ps).trans r1.hs, (upd_ne q3).trans hL2, (upd_ne r1.pb).trans r1.hb, (upd_ne r1.pa).trans r1.ha, r1.ab.symm⟩, same_upd u1.same u1.fp, u1.fp, u1.fs, fL2, u1.fb, u1.fa, o2⟩
    exact ⟨by show 1 ≤ sizeLine; decide, k.fin h2⟩
theorem ok_take {f : Addr} {fd : FuncData} (F : Fun K "take_bounded" "Tables.take_bounded" s_Tables_take_bounded f fd) (T : Txt K mg C CS) (M_refused : Cal P w K mg base 1 "refused" spRefused) (M_within : Cal P w K mg base 1 "within" (spWithin K)) : FnOk P w K mg base CX0 2 f fd ["self", "t", "pays"] (spTake C CS) := by
  obtain ⟨f_refused, fd_refused, ps_refused, F_refused, g_refused, k_refused, b_refused⟩ := M_refused.ex
  obtain ⟨f_within, fd_within, ps_within, F_within, g_within, k_within, b_within⟩ := M_within.ex
  refine F.ok sc_Tables_take_bounded (fun vs H Q E h => ?_) (fun cdv A outer s H vs Q E hr h => ⟨_, (pss_cons (ps_if (pt_not (pt_val (pe_call F_within (hr.mono (by decide)) rfl g_within k_within b_within .nil pass0 (pa_cons (pv 2) (pa_cons (pe_gl rfl T.g_MOST_PAY) pa_nil))))) (pss_one (ps_ret (pe_call F_refused (hr.mono (by decide)) rfl g_refused k_refused b_refused .nil pass0 (pa_cons (pe_gl rfl T.g_TOO_MUCH) pa_nil)))) pss_nil)
      (pss_cons (ps_asg (pv 2) (pg_sub (pe_fld (pv 0) rfl) (pv 1) set_list))
      (pss_one (ps_ret (pe_lst (pa_cons pe_int pa_nil)))))), ?_⟩)
  · obtain ⟨H0, p, y, dx, sp, ds, L, a, b, d, t, e, rfl, _⟩ := h
    rfl
  · obtain ⟨H0, p, y, dx, sp, ds, L, a, b, d, t, e, rfl, u, hy, fy, ya, yb, ht, he, k⟩ := h
    have r := u.r
    unfold takes at k
    refine ⟨_, rfl, y, e, _, rfl, SqL.of hy, _, rfl, if_b (fun c => ?_) fun c => ?_⟩
    · rw [Bool.not_eq_true'] at c
      rw [if_pos (by rw [inRange_eq]; exact c)] at k
      exact ⟨_, rfl, k.no u.at⟩
    rw [Bool.not_eq_false'] at c
    rw [if_neg (by rw [inRange_eq, c]; decide)] at k
    refine ⟨_, rfl, _, rfl, p, C, dx, _, _, rfl, r.hp, T.cl, T.n_pays, pf_pays, _, rfl, L, _, _, t, rfl, rfl, r.hL, ix2 ht, ?_⟩
    have h2 := u.swap_in ht hy fy ya yb he (wIn_bd c (by decide))
    exact ⟨by show 1 ≤ sizeLine; decide, k.fin h2⟩
theorem ok_shape {f : Addr} {fd : FuncData} (F : Fun K "shape" "Tables.shape" s_Tables_shape f fd) (T : Txt K mg C CS) (M_Setting_shaped : Met P w K mg base 2 CS "shaped" (spShaped K CS)) (M_refused : Cal P w K mg base 1 "refused" spRefused) (M_within : Cal P w K mg base 1 "within" (spWithin K)) (M_Tables_take_bounded : Met P w K mg base 2 C "take_bounded" (spTake C CS)) : FnOk P w K mg base CX0 3 f fd ["self", "t", "row"] (spShape K C CS) := by
  obtain ⟨f_Setting_shaped, fd_Setting_shaped, ps_Setting_shaped, c_Setting_shaped, m_Setting_shaped, F_Setting_shaped, b_Setting_shaped⟩ := M_Setting_shaped.ex
  obtain ⟨f_refused, fd_refused, ps_refused, F_refused, g_refused, k_refused, b_refused⟩ := M_refused.ex
  obtain ⟨f_within, fd_within, ps_within, F_within, g_within, k_within, b_within⟩ := M_within.ex
  obtain ⟨f_Tables_take_bounded, fd_Tables_take_bounded, ps_Tables_take_bounded, c_Tables_take_bounded, m_Tables_take_bounded, F_Tables_take_bounded, b_Tables_take_bounded⟩ := M_Tables_take_bounded.ex
  refine F.ok sc_Tables_shape (fun vs H Q E h => ?_) (fun cdv A outer s H vs Q E hr h => ⟨_, (pss_cons (ps_if (PW.pt (pw_or (pt_cmpR op_ne (pe_callB call_len_seq (by rfl) T.z_len PySem.boot_len (pa_cons (pv 2) pa_nil)) (pe_fld (pe_fld (pv 0) rfl) rfl) (nomark _)) (pw_or1 (pt_not (pt_val (pe_call F_within (hr.mono (by decide)) rfl g_within k_within b_within .nil pass0 (pa_cons (pv 2) (pa_cons (pe_gl rfl T.g_MOST_IN_ROW) pa_nil)))))))) (pss_one (ps_ret (pe_call F_refused (hr.mono (by decide)) rfl g_refused k_refused b_refused .nil pass0 (pa_cons (pe_gl rfl T.g_NOT_FIT) pa_nil)))) pss_nil)
      (pss_one (ps_ret (pe_meth (pv 0) c_Tables_take_bounded m_Tables_take_bounded F_Tables_take_bounded (hr.mono (by decide)) b_Tables_take_bounded .nil pass0 (pa_cons (pv 1) (pa_cons (pe_meth (pe_fld (pv 0) rfl) c_Setting_shaped m_Setting_shaped F_Setting_shaped (hr.mono (by decide)) b_Setting_shaped .nil pass0 (pa_cons (pe_ix ix_list (pe_fld (pv 0) rfl) (pv 1) (fun _ _ => rfl)) (pa_cons (pv 2) pa_nil))) pa_nil)))))), ?_⟩)
  · obtain ⟨H0, p, ar, d, t, l, rfl, _⟩ := h
    rfl
  · obtain ⟨H0, p, ar, d, t, l, rfl, hA, hl, ht, k⟩ := h
    obtain ⟨dx, sp, ds, L, a, b, u⟩ := hA
    have hA := u.at
    have r := u.r
    have o := u.ok
    have hl1 := u.same.seq hl
    rw [step_shape o ht] at k
    refine ⟨_, rfl, ar, _, rfl, .inl hl1, _, rfl, p, C, dx, _, _, rfl, r.hp, T.cl, T.n_setting, pf_setting, sp, CS, ds, _, _, rfl, r.hs, T.clS, T.n_places, sf_places, rfl, _, rfl, if_b (fun c => iteT ?_) fun c => ?_⟩
    · rw [if_pos (.inl (len_map_ne c))] at k
      exact ⟨_, rfl, k.no hA⟩
    have c1 : l.length = d.n := len_map_eq c
    refine ⟨_, rfl, ar, _, _, rfl, hl1, _, rfl, if_b (fun c => ?_) fun c => ?_⟩
    · rw [wIn_okPay, Bool.not_eq_true'] at c
      rw [if_pos (.inr c)] at k
      exact ⟨_, rfl, k.no hA⟩
    rw [Bool.not_eq_false'] at c
    rw [if_neg (by rw [← wIn_okPay, c]; rintro (z | z); exact z c1; cases z)] at k
    obtain ⟨y, ec, hc⟩ := r.tab ht
    refine ⟨_, rfl, p, dx, _, rfl, r.hp, pf_no, _, rfl, _, rfl, p, C, dx, _, _, rfl, r.hp, T.cl, T.n_setting, pf_setting, sp, ds, _, rfl, r.hs, sf_no, _, rfl, p, C, dx, _, _, rfl, r.hp, T.cl, T.n_pays, pf_pays, _, rfl, L, _, _, _, rfl, rfl, SqL.of r.hL, ec, _, rfl, sp, ds, y, ar, d, tb d t, l, rfl, r.hs, o, SqL.of hc, o.tl t, hl1, c1, fun H1 z s1 nz hz => ?_⟩
    exact ⟨H0, p, z, dx, sp, ds, L, a, b, d, t, shL d (tb d t) l, rfl, u.mono s1, hz, u.same.free nz, (ne_of_none r.ha nz).symm, (ne_of_none r.hb nz).symm, ht, shL_len d _ l, k⟩
theorem ok_scale {f : Addr} {fd : FuncData} (F : Fun K "scale" "Tables.scale" s_Tables_scale f fd) (T : Txt K mg C CS) (M_refused : Cal P w K mg base 1 "refused" spRefused) (M_Tables_take_bounded : Met P w K mg base 2 C "take_bounded" (spTake C CS)) : FnOk P w K mg base CX0 3 f fd ["self", "t", "c"] (spScale C CS) := by
  obtain ⟨f_refused, fd_refused, ps_refused, F_refused, g_refused, k_refused, b_refused⟩ := M_refused.ex
  obtain ⟨f_Tables_take_bounded, fd_Tables_take_bounded, ps_Tables_take_bounded, c_Tables_take_bounded, m_Tables_take_bounded, F_Tables_take_bounded, b_Tables_take_bounded⟩ := M_Tables_take_bounded.ex
  refine F.ok sc_Tables_scale (fun vs H Q E h => ?_) (fun cdv A outer s H vs Q E hr h => ⟨_, (pss_cons (ps_if (PW.pt (pw_or (pt_cmpR op_lt (pv 2) pe_int (nomark _)) (pw_or1 (pt_cmpR op_gt (pv 2) (pe_gl rfl T.g_MOST_FACTOR) (nomark _))))) (pss_one (ps_ret (pe_call F_refused (hr.mono (by decide)) rfl g_refused k_refused b_refused .nil pass0 (pa_cons (pe_gl rfl T.g_NOT_FIT) pa_nil)))) pss_nil)
      (pss_one (ps_ret (pe_meth (pv 0) c_Tables_take_bounded m_Tables_take_bounded F_Tables_take_bounded (hr.mono (by decide)) b_Tables_take_bounded .nil pass0 (pa_cons (pv 1) (pa_cons (pe_lc (own := [("pay", 3)]) (g := gName 3) (tt := tYes) rfl sc_Tables_scale.nd (pi_list (pe_ix ix_list (pe_fld (pv 0) rfl) (pv 1) (fun _ _ => rfl))) (blkOk_by (own := [("pay", 3)]) (N := n_Tables_scale) (sc := defScope s_Tables_scale) (by decide +kernel)) (fun _ _ _ _ _ => pg_name (i := 3) sc_Tables_scale.nd rfl (Or.inl rfl)) (fun _ _ _ _ _ => pts_nil) (fun _ _ _ _ _ => by exact (pe_op op_mul (pv 2) (pv 3)))) pa_nil)))))), ?_⟩)
  · obtain ⟨H0, p, d, t, c, rfl, _⟩ := h
    rfl
  · obtain ⟨H0, p, d, t, c, rfl, hA, ht, k⟩ := h
    obtain ⟨dx, sp, ds, L, a, b, u⟩ := hA
    have hA := u.at
    have r := u.r
    have o := u.ok
    rw [step_scale ht] at k
    refine ⟨_, rfl, _, _, rfl, rfl, _, rfl, if_b (fun c => iteT ?_) fun c1 => ?_⟩
    · have := of_decide_eq_true c
      rw [if_pos (.inl (by omega))] at k
      exact ⟨_, rfl, k.no hA⟩
    refine ⟨_, rfl, _, _, rfl, rfl, _, rfl, if_b (fun c => ?_) fun c2 => ?_⟩
    · have := of_decide_eq_true c
      rw [if_pos (.inr (by omega))] at k
      exact ⟨_, rfl, k.no hA⟩
    have d1 := of_decide_eq_false c1
    have d2 := of_decide_eq_false c2
    rw [if_neg (by omega)] at k
    obtain ⟨y, ec, hc⟩ := r.tab ht
    refine ⟨_, rfl, p, dx, _, rfl, r.hp, pf_no, _, rfl, _, rfl, p, C, dx, _, _, rfl, r.hp, T.cl, T.n_pays, pf_pays, _, rfl, L, _, _, _, rfl, rfl, SqL.of r.hL, ec, y, rfl, ⟨_, SqL.of hc⟩, fun D nD => lc_list (K := K) (a := y) (xs := (tb d t).map V.int) (fun i H' => H' = upd H D (il (((tb d t).take i).map fun x => (c : Int) * x))) rfl ?_ ?_ ?_⟩
    · rintro i H' _ rfl
      exact SqL.of (same_new nD _ _ hc)
    · rintro i v H' hi rfl
      obtain ⟨z, hz, rfl⟩ := map_int_at hi
      refine ⟨rfl, _, rfl, _, rfl, _, _, rfl, rfl, .inl ⟨by omega, by omega⟩, _, upd_same, ?_, ?_⟩
      · rw [List.length_map, List.length_map, List.length_take]
        have := o.tl t
        have := o.z48
        exact small_len (by omega)
      · rw [upd_upd, take_more hz]
        show upd H D (.lst (_ ++ [V.int ((c : Int) * z)])) = upd H D (.lst _)
        simp
    · rintro H' rfl
      rw [List.length_map, List.take_length]
      have s1 : Same H (upd H D (il ((tb d t).map fun x => (c : Int) * x))) := same_new nD
      exact ⟨H0, p, D, dx, sp, ds, L, a, b, d, t, (tb d t).map (fun x => (c : Int) * x), rfl, u.mono s1, upd_same, u.same.free nD, (ne_of_none r.ha nD).symm, (ne_of_none r.hb nD).symm, ht, by rw [List.length_map, o.tl], k⟩
end
end SP

set_option Elab.async false
set_option maxRecDepth 100000
set_option maxHeartbeats 2000000
set_option linter.unusedVariables false
namespace SP
open PySem PySem.Spec PyProof.Rows L2
/-! ### split_calls -/
abbrev s_split_calls : Stmt := topS 24
abbrev n_split_calls : List Str := ["calls", "found", "at", "number", "behind", "numbers", "row", "first"]
theorem sc_split_calls : FnScope n_split_calls ["calls"] (defScope s_split_calls) := ⟨rfl, rfl, rfl, by decide +kernel, rfl, by decide +kernel, by decide +kernel⟩
def tab : List (Str × Nat × Nat × Bool) := [("begin", 4, 0, false), ("set", 4, 4, true), ("fill", 1, 1, true), ("payis", 4, 4, false), ("copy", 1, 1, false), ("shape", 1, 1, true), ("scale", 2, 1, false), ("potof", 1, 1, false), ("least", 4, 4, false), ("leastrow", 3, 3, false),
  ("alike", 0, 0, false), ("potentials", 0, 0, false), ("factor", 0, 0, false), ("far", 0, 0, false), ("differ", 0, 0, false), ("path", 1, 1, true), ("gap", 0, 0, true), ("swap", 0, 0, false), ("ifset", 4, 4, true), ("trivial", 1, 1, false)]
def entry (e : Str × Nat × Nat × Bool) : List V := [.str e.1, .int e.2.1, .int e.2.2.1, .bl e.2.2.2]
structure Tab (K : PySem.W.Frag) (mg : Str → Option Value) (aC : Addr) : Prop where
  g : ∃ u, mg "CALLS" = some u ∧ RelV (.ref aC) u
  ex : ∃ rs : List Addr, (∀ H, SqT K H aC (rs.map V.ref)) ∧ ∀ (i : Nat) (e : Str × Nat × Nat × Bool), tab[i]? = some e → ∃ q : Addr, rs[i]? = some q ∧ ∀ H, SqT K H q (entry e)
theorem Tab.row {K : PySem.W.Frag} {mg : Str → Option Value} {aC : Addr} (T : Tab K mg aC) {i : Nat} {e : Str × Nat × Nat × Bool} (h : tab[i]? = some e) : ∃ (xs : List V) (q : Addr), (∀ H, SqT K H aC xs) ∧ atI xs (i : Int) = some (.ref q) ∧ ∀ H, SqT K H q (entry e) := by
  obtain ⟨rs, h1, h2⟩ := T.ex
  obtain ⟨q, h3, h4⟩ := h2 i e h
  refine ⟨_, q, h1, atI_nat ?_, h4⟩
  rw [List.getElem?_map, h3]
  rfl
/-- the numbers and rows by a call's number -/
theorem shape_in : ∀ i < 20, ∃ e, tab[i]? = some e ∧ PyKp388.shape (i : Nat) = some (e.2.1, if e.2.2.2 then 1 else 0) := by
  intro i hi
  have h : i = 0 ∨ i = 1 ∨ i = 2 ∨ i = 3 ∨ i = 4 ∨ i = 5 ∨ i = 6 ∨ i = 7 ∨ i = 8 ∨ i = 9 ∨ i = 10 ∨ i = 11 ∨ i = 12 ∨ i = 13 ∨ i = 14 ∨ i = 15 ∨ i = 16 ∨ i = 17 ∨ i = 18 ∨ i = 19 := by omega
  rcases h with rfl | rfl | rfl | rfl | rfl | rfl | rfl | rfl | rfl | rfl | rfl | rfl | rfl | rfl | rfl | rfl | rfl | rfl | rfl | rfl <;> exact ⟨_, rfl, by decide⟩
theorem shape_out {p : Int} (h : p < 0 ∨ 20 ≤ p) : PyKp388.shape p = none := by
  unfold PyKp388.shape
  iterate 20 rw [if_neg (by omega)]
theorem shape_of {p : Int} {y : Nat × Nat} (h : PyKp388.shape p = some y) : ∃ i e, p = ((i : Nat) : Int) ∧ i < 20 ∧ tab[i]? = some e ∧ y = (e.2.1, if e.2.2.2 then 1 else 0) := by
  by_cases c : p < 0 ∨ 20 ≤ p
  · rw [shape_out c] at h
    cases h
  · obtain ⟨e, h1, h2⟩ := shape_in p.toNat (by omega)
    have ep : ((p.toNat : Nat) : Int) = p := by omega
    rw [ep, h] at h2
    exact ⟨p.toNat, e, ep.symm, by omega, h1, Option.some.inj h2⟩
abbrev Raw := List (List Int)
/-- a call of the list, by its number, its numbers, its row -/
structure IsCall (c : Raw) (i : Nat) (e : Str × Nat × Nat × Bool) (ns row : List Int) : Prop where
  tb : tab[i]? = some e
  len : ns.length = e.2.1
  eq : c = (((i : Nat) : Int) :: ns) :: (if e.2.2.2 then [row] else [])
  no : e.2.2.2 = false → row = []
theorem isCall_of {c : Raw} (h : PyFlat.okCall PyKp388.shape c) : ∃ i e ns row, IsCall c i e ns row := by
  obtain ⟨p, a, xs, rfl, hs⟩ := h
  obtain ⟨i, e, rfl, hi, ht, hy⟩ := shape_of hs
  have h1 : a.length = e.2.1 := congrArg Prod.fst hy
  have h2 : xs.length = if e.2.2.2 then 1 else 0 := congrArg Prod.snd hy
  cases hb : e.2.2.2 with
  | false =>
    rw [hb, if_neg (by decide)] at h2
    have : xs = [] := List.eq_nil_of_length_eq_zero h2
    subst this
    exact ⟨i, e, a, [], ht, h1, by rw [hb]; rfl, fun _ => rfl⟩
  | true =>
    rw [hb, if_pos rfl] at h2
    obtain ⟨r, rfl⟩ := List.length_eq_one_iff.mp h2
    exact ⟨i, e, a, r, ht, h1, by rw [hb]; rfl, fun z => by rw [hb] at z; cases z⟩
/-- its record in the heap: a tuple of its number, the list of its numbers, its row's list -/
def RecAt (G : Hp) (q : Addr) (c : Raw) : Prop := ∃ i e ns row a b, IsCall c i e ns row ∧ G q = some (.tup [.int ((i : Nat) : Int), .ref a, .ref b]) ∧ G a = some (il ns) ∧ G b = some (il row)
theorem RecAt.mono {G G' : Hp} {q : Addr} {c : Raw} (h : RecAt G q c) (s : Same G G') : RecAt G' q c := by
  obtain ⟨i, e, ns, row, a, b, h1, h2, h3, h4⟩ := h
  exact ⟨i, e, ns, row, a, b, h1, s _ _ h2, s _ _ h3, s _ _ h4⟩
def Recs (G : Hp) : List Addr → List Raw → Prop
  | [], [] => True
  | q :: qs, c :: cs => RecAt G q c ∧ Recs G qs cs
  | _, _ => False
theorem Recs.mono {G G' : Hp} (s : Same G G') : ∀ {qs : List Addr} {cs : List Raw}, Recs G qs cs → Recs G' qs cs
  | [], [], _ => trivial
  | q :: qs, c :: cs, h => ⟨h.1.mono s, Recs.mono s h.2⟩
theorem Recs.snoc {G : Hp} {q : Addr} {c : Raw} (r : RecAt G q c) : ∀ {qs : List Addr} {cs : List Raw}, Recs G qs cs → Recs G (qs ++ [q]) (cs ++ [c])
  | [], [], _ => ⟨r, trivial⟩
  | _ :: qs, _ :: cs, h => ⟨h.1, Recs.snoc r h.2⟩
theorem Recs.len {G : Hp} : ∀ {qs : List Addr} {cs : List Raw}, Recs G qs cs → qs.length = cs.length
  | [], [], _ => rfl
  | _ :: qs, _ :: cs, h => congrArg (· + 1) (Recs.len h.2)
theorem Recs.get {G : Hp} : ∀ {qs : List Addr} {cs : List Raw} {i : Nat} {q : Addr}, Recs G qs cs → qs[i]? = some q → ∃ c, cs[i]? = some c ∧ RecAt G q c
  | _ :: _, c :: _, 0, _, h, e => by
    cases e
    exact ⟨c, rfl, h.1⟩
  | _ :: qs, _ :: cs, i + 1, q, h, e => by
    obtain ⟨c, h1, h2⟩ := Recs.get (qs := qs) (cs := cs) (i := i) (q := q) h.2 (by simpa using e)
    exact ⟨c, by simpa using h1, h2⟩
/-- the promise: a new list of records, all that it holds new -/
def spSplit (K : PySem.W.Frag) : Sp := fun vs H Q _ => ∃ (a : Addr) (ns : List Int) (raw : List Raw), vs = [.ref a] ∧ SqL K H a (ns.map V.int) ∧ ns.length ≤ 3300 ∧ PyFlat.calls PyKp388.shape ns.length ns = some raw ∧
  ∀ (H' G : Hp) (r : Addr) (qs : List Addr), Same H H' → Same G H' → (∀ b o, G b = some o → H b = none) → G r = some (.lst (qs.map V.ref)) → Recs G qs raw → Q (.ref r) H'
def atOf (n : Nat) (σ : L2.St) (_ : Hp) : Nat := match σ with
  | _ :: _ :: some (.int y) :: _ => n - y.toNat
  | _ => 0
theorem put_len_pos {c : Raw} (h : PyFlat.okCall PyKp388.shape c) : 0 < (PyFlat.put1 c).length := by
  obtain ⟨p, a, xs, rfl, _⟩ := h
  show 0 < (p :: a ++ PyFlat.putRows xs).length
  simp
theorem put_app : ∀ (xs ys : List Raw), PyFlat.put (xs ++ ys) = PyFlat.put xs ++ PyFlat.put ys
  | [], _ => rfl
  | x :: xs, ys => by
    show PyFlat.put1 x ++ PyFlat.put (xs ++ ys) = (PyFlat.put1 x ++ PyFlat.put xs) ++ PyFlat.put ys
    rw [put_app xs ys, List.append_assoc]
theorem put_len_le : ∀ (cs : List Raw), (∀ c ∈ cs, PyFlat.okCall PyKp388.shape c) → cs.length ≤ (PyFlat.put cs).length
  | [], _ => Nat.le_refl _
  | c :: cs, h => by
    have h1 := put_len_pos (h c (List.mem_cons_self ..))
    have h2 := put_len_le cs fun c hc => h c (List.mem_cons_of_mem _ hc)
    show cs.length + 1 ≤ (PyFlat.put1 c ++ PyFlat.put cs).length
    rw [List.length_append]
    omega
theorem get_app {x y : List Int} {v : Int} : (x ++ v :: y)[x.length]? = some v := by simp
theorem at_app {x y : List Int} {v i : Int} (hi : i = (x.length : Nat)) : atI ((x ++ v :: y).map V.int) i = some (.int v) := by
  subst hi
  refine atI_nat ?_
  rw [List.getElem?_map, get_app]
  rfl
section
variable {P : Program} {w : World} {K : PySem.W.Frag} {mg : Str → Option Value} {base : Heap} {C CS aC : Addr}
theorem ok_split {f : Addr} {fd : FuncData} (F : Fun K "split_calls" "split_calls" s_split_calls f fd) (T : Txt K mg C CS) (Tc : Tab K mg aC) : FnOk P w K mg base CX0 1 f fd ["calls"] (spSplit K) := by
  refine F.ok sc_split_calls (fun vs H Q E h => ?_) (fun cdv A outer s H vs Q E hr h => ⟨_, (pss_cons (ps_set (i := 1) sc_split_calls.nd rfl (Or.inl rfl) (pe_lst pa_nil))
      (pss_cons (ps_set (i := 2) sc_split_calls.nd rfl (Or.inl rfl) pe_int)
      (pss_cons (ps_while PassesOwn.never (pt_cmpR op_lt (pv 2) (pe_callB call_len_seq (by rfl) T.z_len PySem.boot_len (pa_cons (pv 0) pa_nil)) (nomark _)) (pss_cons (ps_set (i := 3) sc_split_calls.nd rfl (Or.inl rfl) (pe_ix ix_list (pv 0) (pv 2) (fun _ _ => rfl)))
      (pss_cons (ps_set (i := 4) sc_split_calls.nd rfl (Or.inl rfl) (pe_op op_add (pe_op op_add (pv 2) pe_int) (pe_ix ix_tup (pe_ix ix_tup (pe_gl rfl Tc.g) (pv 3) (fun _ _ => rfl)) pe_int (fun _ _ => rfl))))
      (pss_cons (ps_set (i := 5) sc_split_calls.nd rfl (Or.inl rfl) (pe_slice sl_list (pv 0) (po_some (pe_op op_add (pv 2) pe_int)) (po_some (pv 4))))
      (pss_cons (ps_set (i := 6) sc_split_calls.nd rfl (Or.inl rfl) (pe_lst pa_nil))
      (pss_cons (ps_if (pt_truth (pe_ix ix_tup (pe_ix ix_tup (pe_gl rfl Tc.g) (pv 3) (fun _ _ => rfl)) pe_int (fun _ _ => rfl)) (by intro _; rfl)) (pss_cons (ps_set (i := 7) sc_split_calls.nd rfl (Or.inl rfl) (pe_op op_add (pv 4) pe_int))
      (pss_cons (ps_set (i := 4) sc_split_calls.nd rfl (Or.inl rfl) (pe_op op_add (pv 7) (pe_ix ix_list (pv 0) (pv 4) (fun _ _ => rfl))))
      (pss_one (ps_set (i := 6) sc_split_calls.nd rfl (Or.inl rfl) (pe_slice sl_list (pv 0) (po_some (pv 7)) (po_some (pv 4))))))) pss_nil)
      (pss_cons (ps_expr (pe_bm PySem.F.plainAttrs_list PySem.F.slot_list_append PySem.F.type_list_append mt_append (pv 1) (pa_cons (pe_tup (pa_cons (pv 3) (pa_cons (pv 5) (pa_cons (pv 6) pa_nil)))) pa_nil)))
      (pss_one (ps_set (i := 2) sc_split_calls.nd rfl (Or.inl rfl) (pv 4))))))))))
      (pss_one (ps_ret (pv 1)))))), ?_⟩)
  · obtain ⟨a, ns, raw, rfl, _⟩ := h
    rfl
  · obtain ⟨a, ns, raw, rfl, hS, hn, hc, k⟩ := h
    obtain ⟨eN, hok⟩ := PyFlat.put_calls _ _ _ hc
    refine ⟨Nat.zero_le _, fun D nD => ?_⟩
    have s1 : Same H (upd H D (.lst [])) := same_new nD
    refine while_by (fun σ H' => ∃ (done rest : List Raw) (qs : List Addr) (G : Hp) (v3 v4 v5 v6 v7 : Option V), σ = [some (.ref a), some (.ref D), some (.int ((PyFlat.put done).length : Nat)), v3, v4, v5, v6, v7] ∧ raw = done ++ rest ∧ Recs G qs done ∧ Same H H' ∧ Same G H' ∧ (∀ b o, G b = some o → H b = none) ∧ G D = none ∧ H' D = some (.lst (qs.map V.ref))) (atOf ns.length)
      ⟨[], raw, [], fun _ => none, none, none, none, none, none, rfl, rfl, trivial, s1, (fun _ _ e => by cases e), (fun _ _ e => by cases e), rfl, upd_same⟩ ?_ ?_
    · rintro σ H' ⟨done, rest, qs, G, v3, v4, v5, v6, v7, rfl, er, rc, s2, sG, nG, GD, hD⟩
      have hS2 := s2.seq hS
      have eP : ns = PyFlat.put done ++ PyFlat.put rest := by rw [eN, er, put_app]
      refine ⟨_, rfl, _, rfl, a, _, rfl, .inl hS2, _, _, rfl, rfl, _, rfl, if_b (fun c => ?_) fun c => ?_⟩
      · have c1 := of_decide_eq_true c
        rw [List.length_map] at c1
        cases rest with
        | nil =>
          have : ns.length = (PyFlat.put done).length := by
            rw [eP]
            show (PyFlat.put done ++ []).length = _
            rw [List.append_nil]
          omega
        | cons cl rest =>
          have hcl := hok cl (by rw [er]; simp)
          obtain ⟨i, e, args, row, ic⟩ := isCall_of hcl
          obtain ⟨xs, q, t1, t2, t3⟩ := Tc.row ic.tb
          have ep1 : PyFlat.put1 cl = ((i : Nat) : Int) :: (args ++ PyFlat.putRows (if e.2.2.2 then [row] else [])) := by
            rw [ic.eq]
            rfl
          have eP1 : ns = PyFlat.put done ++ ((i : Nat) : Int) :: (args ++ (PyFlat.putRows (if e.2.2.2 then [row] else []) ++ PyFlat.put rest)) := by
            rw [eP]
            show PyFlat.put done ++ (PyFlat.put1 cl ++ PyFlat.put rest) = _
            rw [ep1, List.cons_append, List.append_assoc]
          have eP2 : ns = (PyFlat.put done ++ [((i : Nat) : Int)]) ++ (args ++ (PyFlat.putRows (if e.2.2.2 then [row] else []) ++ PyFlat.put rest)) := by
            rw [eP1]
            simp
          have eD : PyFlat.put (done ++ [cl]) = PyFlat.put done ++ PyFlat.put1 cl := by
            rw [put_app]
            show _ ++ (PyFlat.put1 cl ++ []) = _
            rw [List.append_nil]
          refine ⟨_, rfl, _, rfl, a, _, _, _, rfl, rfl, hS2, by rw [eP1]; exact at_app rfl, ?_⟩
          refine ⟨_, rfl, _, _, rfl, rfl, _, rfl, aC, _, _, _, rfl, rfl, t1 _, t2, q, _, _, _, rfl, rfl, t3 _, rfl, _, _, rfl, rfl, ?_⟩
          have eB : ((PyFlat.put done).length : Int) + 1 + (e.2.1 : Int) = (((PyFlat.put done ++ [((i : Nat) : Int)]).length + args.length : Nat) : Int) := by
            rw [ic.len, List.length_append, List.length_singleton]
            omega
          refine ⟨_, rfl, _, rfl, _, _, rfl, rfl, _, rfl, _, rfl, _, rfl, a, _, rfl, hS2, fun x1 nx1 => ?_⟩
          try dsimp only
          rw [show cutV (ns.map V.int) (some (((PyFlat.put done).length : Int) + 1)) (some (((PyFlat.put done).length : Int) + 1 + (e.2.1 : Int))) = args.map V.int by
            rw [eB, eP2]
            exact cut_mid _ _ _ (by rw [List.length_append, List.length_singleton]; omega) rfl]
          have sx1 : Same H' (upd H' x1 (.lst (args.map V.int))) := same_new nx1
          have hx1 : upd H' x1 (.lst (args.map V.int)) x1 = some (il args) := upd_same
          generalize upd H' x1 (.lst (args.map V.int)) = H1 at sx1 hx1
          refine ⟨Nat.zero_le _, fun x2 nx2 => ?_⟩
          have sx2 : Same H1 (upd H1 x2 (.lst [])) := same_new nx2
          have hx2 : upd H1 x2 (.lst []) x2 = some (il []) := upd_same
          generalize upd H1 x2 (.lst []) = H2 at sx2 hx2
          refine ⟨_, rfl, aC, _, _, _, rfl, rfl, t1 _, t2, q, _, _, _, rfl, rfl, t3 _, rfl, e.2.2.2, rfl, if_b (fun cb => ?_) fun cb => ?_⟩
          · have ic2 := ic
            rw [cb, if_pos rfl] at eP2 ep1
            have eP3 : ns = ((PyFlat.put done ++ [((i : Nat) : Int)]) ++ args) ++ ((row.length : Int) :: (row ++ PyFlat.put rest)) := by
              rw [eP2, List.append_assoc (PyFlat.put done ++ [((i : Nat) : Int)])]
              show _ ++ (args ++ ((((row.length : Int) :: row) ++ []) ++ PyFlat.put rest)) = _
              simp
            have eP4 : ns = (((PyFlat.put done ++ [((i : Nat) : Int)]) ++ args) ++ [(row.length : Int)]) ++ (row ++ PyFlat.put rest) := by
              rw [eP3]
              simp
            refine ⟨_, rfl, _, _, rfl, rfl, ?_⟩
            refine ⟨_, rfl, _, rfl, _, rfl, a, _, _, _, rfl, rfl, sx2.seq (sx1.seq hS2), by rw [eP3]; exact at_app (by rw [List.length_append, eB]), _, _, rfl, rfl, ?_⟩
            refine ⟨_, rfl, _, rfl, _, rfl, _, rfl, _, rfl, a, _, rfl, sx2.seq (sx1.seq hS2), fun x4 nx4 => ?_⟩
            try dsimp only
            rw [show cutV (ns.map V.int) (some (((PyFlat.put done).length : Int) + 1 + (e.2.1 : Int) + 1)) (some (((PyFlat.put done).length : Int) + 1 + (e.2.1 : Int) + 1 + (row.length : Int))) = row.map V.int by
              rw [eB, eP4]
              exact cut_mid _ _ _ (by rw [List.length_append (bs := [(row.length : Int)]), List.length_append (bs := args), List.length_singleton]; omega) (by rw [List.length_append (bs := [(row.length : Int)]), List.length_append (bs := args), List.length_singleton]; omega)]
            have sx4 : Same H2 (upd H2 x4 (.lst (row.map V.int))) := same_new nx4
            have hx4 : upd H2 x4 (.lst (row.map V.int)) x4 = some (il row) := upd_same
            generalize upd H2 x4 (.lst (row.map V.int)) = H3 at sx4 hx4
            have sA := sx1.trans (sx2.trans sx4)
            have fA : Same H H3 := s2.trans sA
            refine ⟨_, rfl, .inl ⟨rfl, _, SqL.of (sA _ _ hD)⟩, _, rfl, _, rfl, _, rfl, by show 3 ≤ sizeLine; decide, fun x3 nx3 => ?_⟩
            have sx3 : Same H3 (upd H3 x3 (.tup [.int ((i : Nat) : Int), .ref x1, .ref x4])) := same_new nx3
            have hx3 : upd H3 x3 (.tup [.int ((i : Nat) : Int), .ref x1, .ref x4]) x3 = some (.tup [.int ((i : Nat) : Int), .ref x1, .ref x4]) := upd_same
            generalize upd H3 x3 (.tup [.int ((i : Nat) : Int), .ref x1, .ref x4]) = H4 at sx3 hx3
            have g1 : x1 ≠ D := (ne_of_none hD nx1).symm
            have g4 : x4 ≠ D := (ne_of_none (sx2 _ _ (sx1 _ _ hD)) nx4).symm
            have g3 : x3 ≠ D := (ne_of_none (sA _ _ hD) nx3).symm
            have j14 : x1 ≠ x4 := ne_of_none (sx2 _ _ hx1) nx4
            have j13 : x1 ≠ x3 := ne_of_none (sx4 _ _ (sx2 _ _ hx1)) nx3
            have j43 : x4 ≠ x3 := ne_of_none hx4 nx3
            have hr2 : (qs.map V.ref).length < sizeLine := by
              have z1 := rc.len
              have z2 := put_len_le raw hok
              rw [← eN, er, List.length_append, List.length_cons] at z2
              rw [List.length_map, sizeLine_eq]
              omega
            refine ⟨D, _, _, rfl, rfl, sx3 _ _ (sA _ _ hD), hr2, ?_⟩
            have f1 := s2.free nx1
            have f4 := (s2.trans (sx1.trans sx2)).free nx4
            have f3 := fA.free nx3
            have G1 := sG.free nx1
            have G4 := (sG.trans (sx1.trans sx2)).free nx4
            have G3 := (sG.trans sA).free nx3
            have a1 : Same G (upd (upd (upd G x1 (il args)) x4 (il row)) x3 (.tup [.int ((i : Nat) : Int), .ref x1, .ref x4])) := fun b o eb => by
              rw [upd_ne (ne_of_none eb G3), upd_ne (ne_of_none eb G4), upd_ne (ne_of_none eb G1)]
              exact eb
            have eat : ((PyFlat.put done).length : Int) + 1 + (e.2.1 : Int) + 1 + (row.length : Int) = ((PyFlat.put (done ++ [cl])).length : Nat) := by
              rw [eD, ep1, List.length_append, List.length_cons, List.length_append, ic.len]
              show _ = ((_ + (_ + ((((row.length : Int) :: row) ++ []).length) + 1) : Nat) : Int)
              simp
              omega
            refine ⟨_, rfl, ⟨done ++ [cl], rest, qs ++ [x3], upd (upd (upd G x1 (il args)) x4 (il row)) x3 (.tup [.int ((i : Nat) : Int), .ref x1, .ref x4]), _, _, _, _, _, by rw [← eat]; rfl, by rw [er]; simp, ?_, ?_, ?_, ?_, ?_, ?_⟩, ?_⟩
            · refine Recs.snoc ⟨i, e, args, row, x1, x4, ic, upd_same, ?_, ?_⟩ (Recs.mono a1 rc)
              · rw [upd_ne j13, upd_ne j14, upd_same]
              · rw [upd_ne j43, upd_same]
            · exact same_upd (fA.trans sx3) nD
            · refine same_upd (fun b o eb => ?_) (by rw [upd_ne g3.symm, upd_ne g4.symm, upd_ne g1.symm]; exact GD)
              by_cases z3 : b = x3
              · subst z3
                rw [upd_same] at eb
                rw [← eb]
                exact hx3
              rw [upd_ne z3] at eb
              by_cases z4 : b = x4
              · subst z4
                rw [upd_same] at eb
                rw [← eb]
                exact sx3 _ _ hx4
              rw [upd_ne z4] at eb
              by_cases z1 : b = x1
              · subst z1
                rw [upd_same] at eb
                rw [← eb]
                exact sx3 _ _ (sx4 _ _ (sx2 _ _ hx1))
              rw [upd_ne z1] at eb
              exact sx3 _ _ (sA _ _ (sG _ _ eb))
            · intro b o eb
              by_cases z3 : b = x3
              · rw [z3]; exact f3
              rw [upd_ne z3] at eb
              by_cases z4 : b = x4
              · rw [z4]; exact f4
              rw [upd_ne z4] at eb
              by_cases z1 : b = x1
              · rw [z1]; exact f1
              rw [upd_ne z1] at eb
              exact nG b o eb
            · rw [upd_ne g3.symm, upd_ne g4.symm, upd_ne g1.symm]
              exact GD
            · rw [upd_same, List.map_append]
              rfl
            · show ns.length - (((PyFlat.put done).length : Int) + 1 + (e.2.1 : Int) + 1 + (row.length : Int)).toNat < ns.length - (((PyFlat.put done).length : Nat) : Int).toNat
              omega
          · have er0 := ic.no cb
            subst er0
            rw [cb, if_neg (by decide)] at ep1
            have sA := sx1.trans sx2
            have fA : Same H H2 := s2.trans sA
            refine ⟨_, rfl, .inl ⟨rfl, _, SqL.of (sA _ _ hD)⟩, _, rfl, _, rfl, _, rfl, by show 3 ≤ sizeLine; decide, fun x3 nx3 => ?_⟩
            have sx3 : Same H2 (upd H2 x3 (.tup [.int ((i : Nat) : Int), .ref x1, .ref x2])) := same_new nx3
            have hx3 : upd H2 x3 (.tup [.int ((i : Nat) : Int), .ref x1, .ref x2]) x3 = some (.tup [.int ((i : Nat) : Int), .ref x1, .ref x2]) := upd_same
            generalize upd H2 x3 (.tup [.int ((i : Nat) : Int), .ref x1, .ref x2]) = H4 at sx3 hx3
            have g1 : x1 ≠ D := (ne_of_none hD nx1).symm
            have g4 : x2 ≠ D := (ne_of_none (sx1 _ _ hD) nx2).symm
            have g3 : x3 ≠ D := (ne_of_none (sA _ _ hD) nx3).symm
            have j14 : x1 ≠ x2 := ne_of_none hx1 nx2
            have j13 : x1 ≠ x3 := ne_of_none (sx2 _ _ hx1) nx3
            have j43 : x2 ≠ x3 := ne_of_none hx2 nx3
            have hr2 : (qs.map V.ref).length < sizeLine := by
              have z1 := rc.len
              have z2 := put_len_le raw hok
              rw [← eN, er, List.length_append, List.length_cons] at z2
              rw [List.length_map, sizeLine_eq]
              omega
            refine ⟨D, _, _, rfl, rfl, sx3 _ _ (sA _ _ hD), hr2, ?_⟩
            have f1 := s2.free nx1
            have f4 := (s2.trans sx1).free nx2
            have f3 := fA.free nx3
            have G1 := sG.free nx1
            have G4 := (sG.trans sx1).free nx2
            have G3 := (sG.trans sA).free nx3
            have a1 : Same G (upd (upd (upd G x1 (il args)) x2 (il [])) x3 (.tup [.int ((i : Nat) : Int), .ref x1, .ref x2])) := fun b o eb => by
              rw [upd_ne (ne_of_none eb G3), upd_ne (ne_of_none eb G4), upd_ne (ne_of_none eb G1)]
              exact eb
            have eat : ((PyFlat.put done).length : Int) + 1 + (e.2.1 : Int) = ((PyFlat.put (done ++ [cl])).length : Nat) := by
              rw [eD, ep1, List.length_append, List.length_cons, List.length_append, ic.len]
              have z0 : (PyFlat.putRows []).length = 0 := rfl
              omega
            refine ⟨_, rfl, ⟨done ++ [cl], rest, qs ++ [x3], upd (upd (upd G x1 (il args)) x2 (il [])) x3 (.tup [.int ((i : Nat) : Int), .ref x1, .ref x2]), _, _, _, _, _, by rw [← eat]; rfl, by rw [er]; simp, ?_, ?_, ?_, ?_, ?_, ?_⟩, ?_⟩
            · refine Recs.snoc ⟨i, e, args, [], x1, x2, ic, upd_same, ?_, ?_⟩ (Recs.mono a1 rc)
              · rw [upd_ne j13, upd_ne j14, upd_same]
              · rw [upd_ne j43, upd_same]
            · exact same_upd (fA.trans sx3) nD
            · refine same_upd (fun b o eb => ?_) (by rw [upd_ne g3.symm, upd_ne g4.symm, upd_ne g1.symm]; exact GD)
              by_cases z3 : b = x3
              · subst z3
                rw [upd_same] at eb
                rw [← eb]
                exact hx3
              rw [upd_ne z3] at eb
              by_cases z4 : b = x2
              · subst z4
                rw [upd_same] at eb
                rw [← eb]
                exact sx3 _ _ hx2
              rw [upd_ne z4] at eb
              by_cases z1 : b = x1
              · subst z1
                rw [upd_same] at eb
                rw [← eb]
                exact sx3 _ _ (sx2 _ _ hx1)
              rw [upd_ne z1] at eb
              exact sx3 _ _ (sA _ _ (sG _ _ eb))
            · intro b o eb
              by_cases z3 : b = x3
              · rw [z3]; exact f3
              rw [upd_ne z3] at eb
              by_cases z4 : b = x2
              · rw [z4]; exact f4
              rw [upd_ne z4] at eb
              by_cases z1 : b = x1
              · rw [z1]; exact f1
              rw [upd_ne z1] at eb
              exact nG b o eb
            · rw [upd_ne g3.symm, upd_ne g4.symm, upd_ne g1.symm]
              exact GD
            · rw [upd_same, List.map_append]
              rfl
            · show ns.length - (((PyFlat.put done).length : Int) + 1 + (e.2.1 : Int)).toNat < ns.length - (((PyFlat.put done).length : Nat) : Int).toNat
              omega
      · have c1 := of_decide_eq_false c
        rw [List.length_map] at c1
        have : rest = [] := by
          cases rest with
          | nil => rfl
          | cons cl rest =>
            have h1 := put_len_pos (hok cl (by rw [er]; simp))
            have h2 : ns.length = (PyFlat.put done).length + ((PyFlat.put1 cl).length + (PyFlat.put rest).length) := by
              rw [eP, List.length_append]
              show _ + (PyFlat.put1 cl ++ PyFlat.put rest).length = _
              rw [List.length_append]
            omega
        subst this
        rw [List.append_nil] at er
        subst er
        refine ⟨_, rfl, k H' (upd G D (.lst (qs.map V.ref))) D qs s2 ?_ ?_ upd_same (Recs.mono (same_new GD) rc)⟩
        · intro b o eb
          by_cases z : b = D
          · subst z
            rw [upd_same] at eb
            rw [← eb]
            exact hD
          rw [upd_ne z] at eb
          exact sG _ _ eb
        · intro b o eb
          by_cases z : b = D
          · rw [z]
            exact nD
          rw [upd_ne z] at eb
          exact nG _ _ eb
    · rintro σ H' Q1 Q2 hq ⟨v, hv, y, hy, z, xs, e1, e2, i, j, e3, e4, kk, e5, q⟩
      exact ⟨v, hv, y, hy, z, xs, e1, e2, i, j, e3, e4, kk, e5, hq _ _ q⟩
end
end SP

set_option Elab.async false
set_option maxRecDepth 100000
set_option maxHeartbeats 2000000
set_option linter.unusedVariables false
namespace SP
open PySem PySem.Spec PyProof.Rows L2
/-! ### answer and what it hands the calls on to -/
abbrev s_change : Stmt := topS 25
abbrev n_change : List Str := ["tables", "name", "numbers", "row"]
theorem sc_change : FnScope n_change ["tables", "name", "numbers", "row"] (defScope s_change) := ⟨rfl, rfl, rfl, by decide +kernel, rfl, by decide +kernel, by decide +kernel⟩
abbrev s_tell_of_one : Stmt := topS 26
abbrev n_tell_of_one : List Str := ["tables", "name", "numbers", "row"]
theorem sc_tell_of_one : FnScope n_tell_of_one ["tables", "name", "numbers", "row"] (defScope s_tell_of_one) := ⟨rfl, rfl, rfl, by decide +kernel, rfl, by decide +kernel, by decide +kernel⟩
abbrev s_tell_of_both : Stmt := topS 27
abbrev n_tell_of_both : List Str := ["tables", "name", "numbers", "row"]
theorem sc_tell_of_both : FnScope n_tell_of_both ["tables", "name", "numbers", "row"] (defScope s_tell_of_both) := ⟨rfl, rfl, rfl, by decide +kernel, rfl, by decide +kernel, by decide +kernel⟩
abbrev s_answer : Stmt := topS 28
abbrev n_answer : List Str := ["tables", "number", "numbers", "row", "name"]
theorem sc_answer : FnScope n_answer ["tables", "number", "numbers", "row"] (defScope s_answer) := ⟨rfl, rfl, rfl, by decide +kernel, rfl, by decide +kernel, by decide +kernel⟩
/-- a call but begin: its name, how many of its numbers are looked at, its numbers, its row -/
inductive Cl : Str → Nat → List Nat → List Int → Kp388.Call → Prop
  | set (t s x q : Nat) (row : List Int) : Cl "set" 4 [t, s, x, q] row (.set t s x q row)
  | fill (t : Nat) (row : List Int) : Cl "fill" 1 [t] row (.fill t row)
  | payis (t s x q : Nat) (row : List Int) : Cl "payis" 4 [t, s, x, q] row (.payIs t s x q)
  | copy (t : Nat) (row : List Int) : Cl "copy" 1 [t] row (.copy t)
  | shape (t : Nat) (row : List Int) : Cl "shape" 1 [t] row (.shape t row)
  | scale (t c : Nat) (row : List Int) : Cl "scale" 1 [t, c] row (.scale t c)
  | potof (t : Nat) (row : List Int) : Cl "potof" 1 [t] row (.potOf t)
  | least (t s x q : Nat) (row : List Int) : Cl "least" 4 [t, s, x, q] row (.least t s x q)
  | leastrow (t s x : Nat) (row : List Int) : Cl "leastrow" 3 [t, s, x] row (.leastRow t s x)
  | alike (row : List Int) : Cl "alike" 0 [] row (.alike)
  | potentials (row : List Int) : Cl "potentials" 0 [] row (.potentials)
  | factor (row : List Int) : Cl "factor" 0 [] row (.factor)
  | far (row : List Int) : Cl "far" 0 [] row (.far)
  | differ (row : List Int) : Cl "differ" 0 [] row (.differ)
  | path (t : Nat) (row : List Int) (hn : ∀ v ∈ row, 0 ≤ v) (hl : row.length ≤ 1000) : Cl "path" 1 [t] row (.path t (tn row))
  | gap (row : List Int) (hn : ∀ v ∈ row, 0 ≤ v) (hl : row.length ≤ 1000) : Cl "gap" 0 [] row (.gap (tn row))
  | swap (row : List Int) : Cl "swap" 0 [] row (.swap)
  | ifset (t s x q : Nat) (row : List Int) : Cl "ifset" 4 [t, s, x, q] row (.ifSet t s x q row)
  | trivial (t : Nat) (row : List Int) : Cl "trivial" 1 [t] row (.trivial t)
def isChg : Kp388.Call → Bool
  | .set _ _ _ _ _ => true
  | .fill _ _ => true
  | .copy _ => true
  | .shape _ _ => true
  | .scale _ _ => true
  | .swap => true
  | _ => false
def isOne : Kp388.Call → Bool
  | .payIs _ _ _ _ => true
  | .potOf _ => true
  | .least _ _ _ _ => true
  | .leastRow _ _ _ => true
  | .path _ _ => true
  | .trivial _ => true
  | _ => false

abbrev nc (as : List Nat) : List Int := as.map (fun n : Nat => (n : Int))
theorem each_nn : ∀ (b : List (Int × Int)) (xs : List Int), PyInside.each b xs = true → (∀ y ∈ b, 0 ≤ y.1) → xs.length ≤ b.length → ∀ x ∈ xs, 0 ≤ x
  | _, [], _, _, _, x, hx => by cases hx
  | [], _ :: _, _, _, h, _, _ => by simp at h
  | (lo, hi) :: b, y :: ys, h, hb, hl, x, hx => by
    have h1 : (PyInside.within lo hi y && PyInside.each b ys) = true := h
    rw [Bool.and_eq_true] at h1
    have h2 := h1.1
    unfold PyInside.within at h2
    rw [Bool.and_eq_true, decide_eq_true_eq] at h2
    have h3 : 0 ≤ lo := hb (lo, hi) (by simp)
    rcases List.mem_cons.mp hx with rfl | hx
    · omega
    · exact each_nn b ys h1.2 (fun z hz => hb z (by simp [hz])) (by simpa using hl) x hx
theorem row_nn {i : Int} {ns row : List Int} {bd : List (Int × Int) × List (Int × Int × Nat × Nat)} {M : Int} {least most : Nat} {b : List (Int × Int × Nat × Nat)} (e : PyKp388.bound i = bd) (h : PyInside.call PyKp388.bound [i :: ns, row] = true) (eb : bd.2 = (0, M, least, most) :: b := by rfl) :
    (∀ v ∈ row, 0 ≤ v) ∧ row.length ≤ most := by
  have h1 : (PyInside.each (PyKp388.bound i).1 ns && PyInside.lists (PyKp388.bound i).2 [row]) = true := h
  rw [e, eb, Bool.and_eq_true] at h1
  have h2 : (decide (least ≤ row.length) && decide (row.length ≤ most) && row.all (PyInside.within 0 M) && PyInside.lists b []) = true := h1.2
  rw [Bool.and_eq_true, Bool.and_eq_true, Bool.and_eq_true, decide_eq_true_eq, decide_eq_true_eq, List.all_eq_true] at h2
  refine ⟨fun v hv => ?_, h2.1.1.2⟩
  have := h2.1.2 v hv
  unfold PyInside.within at this
  rw [Bool.and_eq_true, decide_eq_true_eq] at this
  exact this.1
theorem bound_in : ∀ i < 20, ∃ e, tab[i]? = some e ∧ (PyKp388.bound (i : Nat)).1.length = e.2.1 ∧ ∀ y ∈ (PyKp388.bound (i : Nat)).1, 0 ≤ y.1 := by
  intro i hi
  have h : i = 0 ∨ i = 1 ∨ i = 2 ∨ i = 3 ∨ i = 4 ∨ i = 5 ∨ i = 6 ∨ i = 7 ∨ i = 8 ∨ i = 9 ∨ i = 10 ∨ i = 11 ∨ i = 12 ∨ i = 13 ∨ i = 14 ∨ i = 15 ∨ i = 16 ∨ i = 17 ∨ i = 18 ∨ i = 19 := by omega
  rcases h with rfl | rfl | rfl | rfl | rfl | rfl | rfl | rfl | rfl | rfl | rfl | rfl | rfl | rfl | rfl | rfl | rfl | rfl | rfl | rfl <;> exact ⟨_, rfl, by decide, by decide⟩
theorem nc_of {ns : List Int} (h : ∀ x ∈ ns, 0 ≤ x) : ns = nc (ns.map Int.toNat) := by
  unfold nc
  rw [List.map_map]
  conv => lhs; rw [← List.map_id ns]
  refine List.map_congr_left fun x hx => ?_
  have := h x hx
  show x = ((x.toNat : Nat) : Int)
  omega
theorem cl_of {R0 : Raw} {i : Nat} {e : Str × Nat × Nat × Bool} {ns row : List Int} {X0 : Kp388.Call} (ic : IsCall R0 i e ns row) (hb : PyInside.call PyKp388.bound R0 = true) (hx : Kp388Neutral.callOf (PyKp388.whole R0) = some X0) :
    ∃ as : List Nat, ns = nc as ∧ ((i = 0 ∧ e.1 = "begin" ∧ ∃ n m g h, as = [n, m, g, h] ∧ X0 = .begin_ n m g h) ∨ Cl e.1 e.2.2.1 as row X0) := by
  have hi : i < 20 := (List.getElem?_eq_some_iff.mp ic.tb).1
  obtain ⟨e', h1, h2, h3⟩ := bound_in i hi
  have ee : e' = e := Option.some.inj (h1.symm.trans ic.tb)
  subst ee
  have hnn : ∀ x ∈ ns, 0 ≤ x := by
    have hb1 := hb
    rw [ic.eq] at hb1
    have hb2 : (PyInside.each (PyKp388.bound (i : Nat)).1 ns && PyInside.lists (PyKp388.bound (i : Nat)).2 (if e'.2.2.2 then [row] else [])) = true := hb1
    rw [Bool.and_eq_true] at hb2
    exact each_nn _ _ hb2.1 h3 (by rw [h2, ic.len]; exact Nat.le_refl _)
  refine ⟨ns.map Int.toNat, nc_of hnn, ?_⟩
  have hlen : (ns.map Int.toNat).length = e'.2.1 := by rw [List.length_map, ic.len]
  have en := nc_of hnn
  generalize ns.map Int.toNat = as at hlen en
  subst en
  clear hnn h1 h2 h3
  revert hlen ic
  generalize e' = e
  intro hlen ic
  have h : i = 0 ∨ i = 1 ∨ i = 2 ∨ i = 3 ∨ i = 4 ∨ i = 5 ∨ i = 6 ∨ i = 7 ∨ i = 8 ∨ i = 9 ∨ i = 10 ∨ i = 11 ∨ i = 12 ∨ i = 13 ∨ i = 14 ∨ i = 15 ∨ i = 16 ∨ i = 17 ∨ i = 18 ∨ i = 19 := by omega
  rcases h with rfl | rfl | rfl | rfl | rfl | rfl | rfl | rfl | rfl | rfl | rfl | rfl | rfl | rfl | rfl | rfl | rfl | rfl | rfl | rfl
  · have he : e = (("begin" : Str), 4, 0, false) := (Option.some.inj ic.tb).symm
    subst he
    match as, hlen, ic with
    | [n, m, g, h], _, ic =>
      have hc : R0 = [[((0 : Nat) : Int), (n : Int), (m : Int), (g : Int), (h : Int)]] := ic.eq
      subst hc
      have hx' : some (Kp388.Call.begin_ n m g h) = some X0 := hx
      cases hx'
      exact .inl ⟨rfl, rfl, n, m, g, h, rfl, rfl⟩
  · have he : e = (("set" : Str), 4, 4, true) := (Option.some.inj ic.tb).symm
    subst he
    match as, hlen, ic with
    | [t, s, x, q], _, ic =>
      have hc : R0 = [[((1 : Nat) : Int), (t : Int), (s : Int), (x : Int), (q : Int)], row] := ic.eq
      subst hc
      have hx' : some (Kp388.Call.set t s x q row) = some X0 := hx
      cases hx'
      exact .inr (.set t s x q row)
  · have he : e = (("fill" : Str), 1, 1, true) := (Option.some.inj ic.tb).symm
    subst he
    match as, hlen, ic with
    | [t], _, ic =>
      have hc : R0 = [[((2 : Nat) : Int), (t : Int)], row] := ic.eq
      subst hc
      have hx' : some (Kp388.Call.fill t row) = some X0 := hx
      cases hx'
      exact .inr (.fill t row)
  · have he : e = (("payis" : Str), 4, 4, false) := (Option.some.inj ic.tb).symm
    subst he
    match as, hlen, ic with
    | [t, s, x, q], _, ic =>
      have hc : R0 = [[((3 : Nat) : Int), (t : Int), (s : Int), (x : Int), (q : Int)]] := ic.eq
      subst hc
      have hx' : some (Kp388.Call.payIs t s x q) = some X0 := hx
      cases hx'
      exact .inr (.payis t s x q row)
  · have he : e = (("copy" : Str), 1, 1, false) := (Option.some.inj ic.tb).symm
    subst he
    match as, hlen, ic with
    | [t], _, ic =>
      have hc : R0 = [[((4 : Nat) : Int), (t : Int)]] := ic.eq
      subst hc
      have hx' : some (Kp388.Call.copy t) = some X0 := hx
      cases hx'
      exact .inr (.copy t row)
  · have he : e = (("shape" : Str), 1, 1, true) := (Option.some.inj ic.tb).symm
    subst he
    match as, hlen, ic with
    | [t], _, ic =>
      have hc : R0 = [[((5 : Nat) : Int), (t : Int)], row] := ic.eq
      subst hc
      have hx' : some (Kp388.Call.shape t row) = some X0 := hx
      cases hx'
      exact .inr (.shape t row)
  · have he : e = (("scale" : Str), 2, 1, false) := (Option.some.inj ic.tb).symm
    subst he
    match as, hlen, ic with
    | [t, c], _, ic =>
      have hc : R0 = [[((6 : Nat) : Int), (t : Int), (c : Int)]] := ic.eq
      subst hc
      have hx' : some (Kp388.Call.scale t c) = some X0 := hx
      cases hx'
      exact .inr (.scale t c row)
  · have he : e = (("potof" : Str), 1, 1, false) := (Option.some.inj ic.tb).symm
    subst he
    match as, hlen, ic with
    | [t], _, ic =>
      have hc : R0 = [[((7 : Nat) : Int), (t : Int)]] := ic.eq
      subst hc
      have hx' : some (Kp388.Call.potOf t) = some X0 := hx
      cases hx'
      exact .inr (.potof t row)
  · have he : e = (("least" : Str), 4, 4, false) := (Option.some.inj ic.tb).symm
    subst he
    match as, hlen, ic with
    | [t, s, x, q], _, ic =>
      have hc : R0 = [[((8 : Nat) : Int), (t : Int), (s : Int), (x : Int), (q : Int)]] := ic.eq
      subst hc
      have hx' : some (Kp388.Call.least t s x q) = some X0 := hx
      cases hx'
      exact .inr (.least t s x q row)
  · have he : e = (("leastrow" : Str), 3, 3, false) := (Option.some.inj ic.tb).symm
    subst he
    match as, hlen, ic with
    | [t, s, x], _, ic =>
      have hc : R0 = [[((9 : Nat) : Int), (t : Int), (s : Int), (x : Int)]] := ic.eq
      subst hc
      have hx' : some (Kp388.Call.leastRow t s x) = some X0 := hx
      cases hx'
      exact .inr (.leastrow t s x row)
  · have he : e = (("alike" : Str), 0, 0, false) := (Option.some.inj ic.tb).symm
    subst he
    match as, hlen, ic with
    | [], _, ic =>
      have hc : R0 = [[((10 : Nat) : Int)]] := ic.eq
      subst hc
      have hx' : some (Kp388.Call.alike) = some X0 := hx
      cases hx'
      exact .inr (.alike row)
  · have he : e = (("potentials" : Str), 0, 0, false) := (Option.some.inj ic.tb).symm
    subst he
    match as, hlen, ic with
    | [], _, ic =>
      have hc : R0 = [[((11 : Nat) : Int)]] := ic.eq
      subst hc
      have hx' : some (Kp388.Call.potentials) = some X0 := hx
      cases hx'
      exact .inr (.potentials row)
  · have he : e = (("factor" : Str), 0, 0, false) := (Option.some.inj ic.tb).symm
    subst he
    match as, hlen, ic with
    | [], _, ic =>
      have hc : R0 = [[((12 : Nat) : Int)]] := ic.eq
      subst hc
      have hx' : some (Kp388.Call.factor) = some X0 := hx
      cases hx'
      exact .inr (.factor row)
  · have he : e = (("far" : Str), 0, 0, false) := (Option.some.inj ic.tb).symm
    subst he
    match as, hlen, ic with
    | [], _, ic =>
      have hc : R0 = [[((13 : Nat) : Int)]] := ic.eq
      subst hc
      have hx' : some (Kp388.Call.far) = some X0 := hx
      cases hx'
      exact .inr (.far row)
  · have he : e = (("differ" : Str), 0, 0, false) := (Option.some.inj ic.tb).symm
    subst he
    match as, hlen, ic with
    | [], _, ic =>
      have hc : R0 = [[((14 : Nat) : Int)]] := ic.eq
      subst hc
      have hx' : some (Kp388.Call.differ) = some X0 := hx
      cases hx'
      exact .inr (.differ row)
  · have he : e = (("path" : Str), 1, 1, true) := (Option.some.inj ic.tb).symm
    subst he
    match as, hlen, ic with
    | [t], _, ic =>
      have hc : R0 = [[((15 : Nat) : Int), (t : Int)], row] := ic.eq
      subst hc
      have hx' : some (Kp388.Call.path t (tn row)) = some X0 := hx
      cases hx'
      have hr := row_nn (b := []) (M := 4294967295) (most := 15) (least := 0) (bd := ([(0, 4294967295)], [(0, 4294967295, 0, 15)])) rfl hb
      exact .inr (.path t row hr.1 (by have := hr.2; omega))
  · have he : e = (("gap" : Str), 0, 0, true) := (Option.some.inj ic.tb).symm
    subst he
    match as, hlen, ic with
    | [], _, ic =>
      have hc : R0 = [[((16 : Nat) : Int)], row] := ic.eq
      subst hc
      have hx' : some (Kp388.Call.gap (tn row)) = some X0 := hx
      cases hx'
      have hr := row_nn (b := []) (M := 4294967295) (most := 15) (least := 0) (bd := ([], [(0, 4294967295, 0, 15)])) rfl hb
      exact .inr (.gap row hr.1 (by have := hr.2; omega))
  · have he : e = (("swap" : Str), 0, 0, false) := (Option.some.inj ic.tb).symm
    subst he
    match as, hlen, ic with
    | [], _, ic =>
      have hc : R0 = [[((17 : Nat) : Int)]] := ic.eq
      subst hc
      have hx' : some (Kp388.Call.swap) = some X0 := hx
      cases hx'
      exact .inr (.swap row)
  · have he : e = (("ifset" : Str), 4, 4, true) := (Option.some.inj ic.tb).symm
    subst he
    match as, hlen, ic with
    | [t, s, x, q], _, ic =>
      have hc : R0 = [[((18 : Nat) : Int), (t : Int), (s : Int), (x : Int), (q : Int)], row] := ic.eq
      subst hc
      have hx' : some (Kp388.Call.ifSet t s x q row) = some X0 := hx
      cases hx'
      exact .inr (.ifset t s x q row)
  · have he : e = (("trivial" : Str), 1, 1, false) := (Option.some.inj ic.tb).symm
    subst he
    match as, hlen, ic with
    | [t], _, ic =>
      have hc : R0 = [[((19 : Nat) : Int), (t : Int)]] := ic.eq
      subst hc
      have hx' : some (Kp388.Call.trivial t) = some X0 := hx
      cases hx'
      exact .inr (.trivial t row)
theorem step_none {nm : Str} {k : Nat} {as : List Nat} {row : List Int} {x : Kp388.Call} (h : Cl nm k as row x) : Kp388.step none x = (none, Kp388.say (-11)) := by
  cases h <;> rfl
theorem not_begin {nm : Str} {k : Nat} {as : List Nat} {row : List Int} {x : Kp388.Call} (h : Cl nm k as row x) : decide (V.str nm = V.str "begin") = false := by
  cases h <;> decide +kernel
theorem chg_in {nm : Str} {k : Nat} {as : List Nat} {row : List Int} {x : Kp388.Call} (h : Cl nm k as row x) : inV (.str nm) [.str "set", .str "fill", .str "copy", .str "shape", .str "scale", .str "swap"] = isChg x := by
  cases h <;> first | (show inV _ _ = true; decide +kernel) | (show inV _ _ = false; decide +kernel)
theorem one_in {nm : Str} {k : Nat} {as : List Nat} {row : List Int} {x : Kp388.Call} (h : Cl nm k as row x) : inV (.str nm) [.str "payis", .str "potof", .str "least", .str "leastrow", .str "path", .str "trivial"] = isOne x := by
  cases h <;> first | (show inV _ _ = true; decide +kernel) | (show inV _ _ = false; decide +kernel)
theorem cl_len {nm : Str} {k : Nat} {as : List Nat} {row : List Int} {x : Kp388.Call} (h : Cl nm k as row x) : k ≤ as.length ∧ k ≤ 4 := by
  cases h <;> exact ⟨by simp, by simp⟩
theorem has4 {d : Desk} {t s x q : Nat} : hasB d [(t : Int), (s : Int), (x : Int), (q : Int)] = Kp388.isAt d t s x q := by
  unfold hasB Kp388.isAt
  rw [Bool.eq_iff_iff]
  simp
  omega
theorem has3 {d : Desk} (o : Ok d) {t s x : Nat} : hasB d [(t : Int), (s : Int), (x : Int)] = Kp388.isAt d t s x 0 := by
  have := o.n1
  unfold hasB Kp388.isAt
  rw [Bool.eq_iff_iff]
  simp
  omega
theorem has1 {d : Desk} {t : Nat} : hasB d [(t : Int)] = decide (t < 2) := by
  unfold hasB
  rw [Bool.eq_iff_iff]
  simp
  omega
theorem isAt_in {d : Desk} {t s x q : Nat} (h : Kp388.isAt d t s x q = true) : In4 d t s x q := by
  unfold Kp388.isAt at h
  rw [Bool.and_eq_true, Bool.and_eq_true, Bool.and_eq_true, decide_eq_true_eq, decide_eq_true_eq, decide_eq_true_eq, decide_eq_true_eq] at h
  exact ⟨by omega, h.1.1.2, h.1.2, h.2⟩
theorem step_no {d : Desk} (o : Ok d) {nm : Str} {k : Nat} {as : List Nat} {row : List Int} {x : Kp388.Call} (h : Cl nm k as row x) (hb : hasB d ((nc as).take k) = false) : Kp388.step (some d) x = (some d, Kp388.say (-2)) := by
  have e1 : ∀ {t : Nat} {α : Type} {y z : α}, hasB d [(t : Int)] = false → (if 1 < t then y else z) = y := fun {t _ y z} h => by
    rw [has1, decide_eq_false_iff_not] at h
    exact if_pos (by omega)
  cases h
  · exact if_pos (has4 ▸ hb)
  · exact e1 hb
  · exact congrArg (Prod.mk (some d)) (if_pos (has4 ▸ hb))
  · exact e1 hb
  · exact e1 hb
  · exact e1 hb
  · exact congrArg (Prod.mk (some d)) (e1 hb)
  · exact congrArg (Prod.mk (some d)) (if_pos (has4 ▸ hb))
  · exact congrArg (Prod.mk (some d)) (if_pos (has3 o ▸ hb))
  · cases hb
  · cases hb
  · cases hb
  · cases hb
  · cases hb
  · exact congrArg (Prod.mk (some d)) (e1 hb)
  · cases hb
  · cases hb
  · exact congrArg (Prod.mk (some d)) (if_pos (has4 ▸ hb))
  · exact congrArg (Prod.mk (some d)) (e1 hb)
/-- a call that is looked at, and whose table, place and act are there -/
structure Good (d : Desk) (nm : Str) (ns row : List Int) (x : Kp388.Call) : Prop where
  ex : ∃ k as, ns = nc as ∧ Cl nm k as row x ∧ hasB d ((nc as).take k) = true
def spChange (K : PySem.W.Frag) (C CS : Addr) : Sp := fun vs H Q _ => ∃ (H0 : Hp) (p an ar : Addr) (d : Desk) (nm : Str) (ns row : List Int) (x : Kp388.Call), vs = [.ref p, .str nm, .ref an, .ref ar] ∧ AtS C CS H0 H p (some d) ∧ Good d nm ns row x ∧ isChg x = true ∧ SqL K H0 an (ns.map V.int) ∧ SqL K H0 ar (row.map V.int) ∧ Ret C CS H0 p (Kp388.step (some d) x) Q
def spTellOne (K : PySem.W.Frag) (C CS : Addr) : Sp := fun vs H Q _ => ∃ (p an ar : Addr) (d : Desk) (nm : Str) (ns row : List Int) (x : Kp388.Call), vs = [.ref p, .str nm, .ref an, .ref ar] ∧ Rep C CS H p d ∧ Ok d ∧ Good d nm ns row x ∧ isOne x = true ∧ SqL K H an (ns.map V.int) ∧ SqL K H ar (row.map V.int) ∧ New H (stepL d x) Q
def spTellBoth (K : PySem.W.Frag) (C CS : Addr) : Sp := fun vs H Q _ => ∃ (p an ar : Addr) (d : Desk) (nm : Str) (ns row : List Int) (x : Kp388.Call), vs = [.ref p, .str nm, .ref an, .ref ar] ∧ Rep C CS H p d ∧ Ok d ∧ Good d nm ns row x ∧ isChg x = false ∧ isOne x = false ∧ SqL K H an (ns.map V.int) ∧ SqL K H ar (row.map V.int) ∧ New H (stepL d x) Q
def spAnswer (K : PySem.W.Frag) (C CS : Addr) : Sp := fun vs H Q _ => ∃ (H0 : Hp) (p an ar : Addr) (st : Kp388.State) (c : Raw) (i : Nat) (e : Str × Nat × Nat × Bool) (ns row : List Int) (x : Kp388.Call),
  vs = [.ref p, .int ((i : Nat) : Int), .ref an, .ref ar] ∧ AtS C CS H0 H p st ∧ IsCall c i e ns row ∧ SqL K H0 an (ns.map V.int) ∧ SqL K H0 ar (row.map V.int) ∧ PyInside.call PyKp388.bound c = true ∧ Kp388Neutral.callOf (PyKp388.whole c) = some x ∧ Ret C CS H0 p (Kp388.step st x) Q
theorem cut_take {l : List Int} {k : Nat} (h : k ≤ l.length) : cutV (l.map V.int) none (some (k : Int)) = (l.take k).map V.int := by
  unfold cutV
  rw [HT.sIx_nat, List.length_map, Nat.min_eq_left h]
  show (List.take k (List.drop 0 _)) = _
  rw [List.drop_zero, List.map_take]
theorem t2_of {d : Desk} {t : Nat} (h : hasB d [(t : Int)] = true) : t < 2 := by
  rw [has1] at h
  exact of_decide_eq_true h
theorem cl_quiet {nm : Str} {k : Nat} {as : List Nat} {row : List Int} {x : Kp388.Call} (hc : Cl nm k as row x) (h : isChg x = false) (d : Desk) : Kp388.step (some d) x = (some d, (Kp388.step (some d) x).2) := by
  have : (Kp388.step (some d) x).1 = some d := by
    cases hc <;> first | rfl | (cases h)
  exact Prod.ext this rfl
section
variable {P : Program} {w : World} {K : PySem.W.Frag} {mg : Str → Option Value} {base : Heap} {C CS aC : Addr}
theorem ok_change {f : Addr} {fd : FuncData} (F : Fun K "change" "change" s_change f fd) (T : Txt K mg C CS) (M_Tables_set_pay : Met P w K mg base 3 C "set_pay" (spSetPay K C CS)) (M_Tables_fill : Met P w K mg base 2 C "fill" (spFill K C CS)) (M_Tables_copy_other : Met P w K mg base 1 C "copy_other" (spCopy C CS)) (M_Tables_swap : Met P w K mg base 1 C "swap" (spSwap C CS)) (M_Tables_shape : Met P w K mg base 3 C "shape" (spShape K C CS)) (M_Tables_scale : Met P w K mg base 3 C "scale" (spScale C CS)) : FnOk P w K mg base CX0 4 f fd ["tables", "name", "numbers", "row"] (spChange K C CS) := by
  obtain ⟨f_Tables_set_pay, fd_Tables_set_pay, ps_Tables_set_pay, c_Tables_set_pay, m_Tables_set_pay, F_Tables_set_pay, b_Tables_set_pay⟩ := M_Tables_set_pay.ex
  obtain ⟨f_Tables_fill, fd_Tables_fill, ps_Tables_fill, c_Tables_fill, m_Tables_fill, F_Tables_fill, b_Tables_fill⟩ := M_Tables_fill.ex
  obtain ⟨f_Tables_copy_other, fd_Tables_copy_other, ps_Tables_copy_other, c_Tables_copy_other, m_Tables_copy_other, F_Tables_copy_other, b_Tables_copy_other⟩ := M_Tables_copy_other.ex
  obtain ⟨f_Tables_swap, fd_Tables_swap, ps_Tables_swap, c_Tables_swap, m_Tables_swap, F_Tables_swap, b_Tables_swap⟩ := M_Tables_swap.ex
  obtain ⟨f_Tables_shape, fd_Tables_shape, ps_Tables_shape, c_Tables_shape, m_Tables_shape, F_Tables_shape, b_Tables_shape⟩ := M_Tables_shape.ex
  obtain ⟨f_Tables_scale, fd_Tables_scale, ps_Tables_scale, c_Tables_scale, m_Tables_scale, F_Tables_scale, b_Tables_scale⟩ := M_Tables_scale.ex
  refine F.ok sc_change (fun vs H Q E h => ?_) (fun cdv A outer s H vs Q E hr h => ⟨_, (pss_cons (ps_if (pt_cmpR op_eq (pv 1) pe_str (nomark _)) (pss_one (ps_ret (pe_meth (pv 0) c_Tables_set_pay m_Tables_set_pay F_Tables_set_pay (hr.mono (by decide)) b_Tables_set_pay .nil pass0 (pa_cons (pv 2) (pa_cons (pv 3) pa_nil))))) pss_nil)
      (pss_cons (ps_if (pt_cmpR op_eq (pv 1) pe_str (nomark _)) (pss_one (ps_ret (pe_meth (pv 0) c_Tables_fill m_Tables_fill F_Tables_fill (hr.mono (by decide)) b_Tables_fill .nil pass0 (pa_cons (pe_ix ix_list (pv 2) pe_int (fun _ _ => rfl)) (pa_cons (pv 3) pa_nil))))) pss_nil)
      (pss_cons (ps_if (pt_cmpR op_eq (pv 1) pe_str (nomark _)) (pss_one (ps_ret (pe_meth (pv 0) c_Tables_copy_other m_Tables_copy_other F_Tables_copy_other (hr.mono (by decide)) b_Tables_copy_other .nil pass0 (pa_cons (pe_ix ix_list (pv 2) pe_int (fun _ _ => rfl)) pa_nil)))) pss_nil)
      (pss_cons (ps_if (pt_cmpR op_eq (pv 1) pe_str (nomark _)) (pss_one (ps_ret (pe_meth (pv 0) c_Tables_shape m_Tables_shape F_Tables_shape (hr.mono (by decide)) b_Tables_shape .nil pass0 (pa_cons (pe_ix ix_list (pv 2) pe_int (fun _ _ => rfl)) (pa_cons (pv 3) pa_nil))))) pss_nil)
      (pss_cons (ps_if (pt_cmpR op_eq (pv 1) pe_str (nomark _)) (pss_one (ps_ret (pe_meth (pv 0) c_Tables_scale m_Tables_scale F_Tables_scale (hr.mono (by decide)) b_Tables_scale .nil pass0 (pa_cons (pe_ix ix_list (pv 2) pe_int (fun _ _ => rfl)) (pa_cons (pe_ix ix_list (pv 2) pe_int (fun _ _ => rfl)) pa_nil))))) pss_nil)
      (pss_one (ps_ret (pe_meth0 (pv 0) c_Tables_swap m_Tables_swap F_Tables_swap (hr.mono (by decide)) b_Tables_swap .nil pass0)))))))), ?_⟩)
  · obtain ⟨H0, p, an, ar, d, nm, ns, row, x, rfl, _⟩ := h
    rfl
  · obtain ⟨H0, p, an, ar, d, nm, ns, row, x, rfl, ⟨dx, sp, ds, L, a, b, u⟩, ⟨i, as, rfl, hc, hb⟩, hg, hn, hr0, k⟩ := h
    have hA := u.at
    have r := u.r
    have o := u.ok
    have hn1 := u.same.seq hn
    have hr1 := u.same.seq hr0
    cases hc with
    | set t s x q row =>
      refine ⟨_, rfl, rfl, _, rfl, if_t (by decide +kernel) ?_⟩
      exact ⟨_, rfl, p, dx, _, rfl, r.hp, pf_no, _, rfl, _, rfl, H0, p, an, ar, d, t, s, x, q, row, rfl, hA, hn, hr0, isAt_in (has4 ▸ hb), k⟩
    | fill t row =>
      refine ⟨_, rfl, rfl, _, rfl, if_f (by decide +kernel) ⟨_, rfl, rfl, _, rfl, if_t (by decide +kernel) ?_⟩⟩
      exact ⟨_, rfl, p, dx, _, rfl, r.hp, pf_no, _, rfl, an, _, _, _, rfl, rfl, hn1, rfl, _, rfl, H0, p, ar, d, t, row, rfl, hA, hr0, t2_of hb, k⟩
    | payis t s x q row =>
      cases hg
    | copy t row =>
      refine ⟨_, rfl, rfl, _, rfl, if_f (by decide +kernel) ⟨_, rfl, rfl, _, rfl, if_f (by decide +kernel) ⟨_, rfl, rfl, _, rfl, if_t (by decide +kernel) ?_⟩⟩⟩
      exact ⟨_, rfl, p, dx, _, rfl, r.hp, pf_no, _, rfl, an, _, _, _, rfl, rfl, hn1, rfl, H0, p, d, t, rfl, hA, t2_of hb, k⟩
    | shape t row =>
      refine ⟨_, rfl, rfl, _, rfl, if_f (by decide +kernel) ⟨_, rfl, rfl, _, rfl, if_f (by decide +kernel) ⟨_, rfl, rfl, _, rfl, if_f (by decide +kernel) ⟨_, rfl, rfl, _, rfl, if_t (by decide +kernel) ?_⟩⟩⟩⟩
      exact ⟨_, rfl, p, dx, _, rfl, r.hp, pf_no, _, rfl, an, _, _, _, rfl, rfl, hn1, rfl, _, rfl, H0, p, ar, d, t, row, rfl, hA, hr0, t2_of hb, k⟩
    | scale t c row =>
      refine ⟨_, rfl, rfl, _, rfl, if_f (by decide +kernel) ⟨_, rfl, rfl, _, rfl, if_f (by decide +kernel) ⟨_, rfl, rfl, _, rfl, if_f (by decide +kernel) ⟨_, rfl, rfl, _, rfl, if_f (by decide +kernel) ⟨_, rfl, rfl, _, rfl, if_t (by decide +kernel) ?_⟩⟩⟩⟩⟩
      exact ⟨_, rfl, p, dx, _, rfl, r.hp, pf_no, _, rfl, an, _, _, _, rfl, rfl, hn1, rfl, _, rfl, an, _, _, _, rfl, rfl, hn1, rfl, H0, p, d, t, c, rfl, hA, t2_of hb, k⟩
    | potof t row =>
      cases hg
    | least t s x q row =>
      cases hg
    | leastrow t s x row =>
      cases hg
    | alike row =>
      cases hg
    | potentials row =>
      cases hg
    | factor row =>
      cases hg
    | far row =>
      cases hg
    | differ row =>
      cases hg
    | path t row hn2 hl2 =>
      cases hg
    | gap row hn2 hl2 =>
      cases hg
    | swap row =>
      refine ⟨_, rfl, rfl, _, rfl, if_f (by decide +kernel) ⟨_, rfl, rfl, _, rfl, if_f (by decide +kernel) ⟨_, rfl, rfl, _, rfl, if_f (by decide +kernel) ⟨_, rfl, rfl, _, rfl, if_f (by decide +kernel) ⟨_, rfl, rfl, _, rfl, if_f (by decide +kernel) ?_⟩⟩⟩⟩⟩
      exact ⟨_, rfl, p, dx, _, rfl, r.hp, pf_no, H0, p, d, rfl, hA, k⟩
    | ifset t s x q row =>
      cases hg
    | trivial t row =>
      cases hg
theorem ok_tellone {f : Addr} {fd : FuncData} (F : Fun K "tell_of_one" "tell_of_one" s_tell_of_one f fd) (T : Txt K mg C CS) (M_Tables_payis : Met P w K mg base 3 C "payis" (spPayis K C CS)) (M_Tables_potof : Met P w K mg base 4 C "potof" (spPotof C CS)) (M_Tables_least : Met P w K mg base 4 C "least" (spLeast K C CS)) (M_Tables_leastrow : Met P w K mg base 5 C "leastrow" (spLeastrow K C CS)) (M_Tables_trivial : Met P w K mg base 6 C "trivial" (spTrivial C CS)) (M_Tables_path : Met P w K mg base 5 C "path" (spPath K C CS)) : FnOk P w K mg base CX0 7 f fd ["tables", "name", "numbers", "row"] (spTellOne K C CS) := by
  obtain ⟨f_Tables_payis, fd_Tables_payis, ps_Tables_payis, c_Tables_payis, m_Tables_payis, F_Tables_payis, b_Tables_payis⟩ := M_Tables_payis.ex
  obtain ⟨f_Tables_potof, fd_Tables_potof, ps_Tables_potof, c_Tables_potof, m_Tables_potof, F_Tables_potof, b_Tables_potof⟩ := M_Tables_potof.ex
  obtain ⟨f_Tables_least, fd_Tables_least, ps_Tables_least, c_Tables_least, m_Tables_least, F_Tables_least, b_Tables_least⟩ := M_Tables_least.ex
  obtain ⟨f_Tables_leastrow, fd_Tables_leastrow, ps_Tables_leastrow, c_Tables_leastrow, m_Tables_leastrow, F_Tables_leastrow, b_Tables_leastrow⟩ := M_Tables_leastrow.ex
  obtain ⟨f_Tables_trivial, fd_Tables_trivial, ps_Tables_trivial, c_Tables_trivial, m_Tables_trivial, F_Tables_trivial, b_Tables_trivial⟩ := M_Tables_trivial.ex
  obtain ⟨f_Tables_path, fd_Tables_path, ps_Tables_path, c_Tables_path, m_Tables_path, F_Tables_path, b_Tables_path⟩ := M_Tables_path.ex
  refine F.ok sc_tell_of_one (fun vs H Q E h => ?_) (fun cdv A outer s H vs Q E hr h => ⟨_, (pss_cons (ps_if (pt_cmpR op_eq (pv 1) pe_str (nomark _)) (pss_one (ps_ret (pe_meth (pv 0) c_Tables_payis m_Tables_payis F_Tables_payis (hr.mono (by decide)) b_Tables_payis .nil pass0 (pa_cons (pv 2) pa_nil)))) pss_nil)
      (pss_cons (ps_if (pt_cmpR op_eq (pv 1) pe_str (nomark _)) (pss_one (ps_ret (pe_meth (pv 0) c_Tables_potof m_Tables_potof F_Tables_potof (hr.mono (by decide)) b_Tables_potof .nil pass0 (pa_cons (pe_ix ix_list (pv 2) pe_int (fun _ _ => rfl)) pa_nil)))) pss_nil)
      (pss_cons (ps_if (pt_cmpR op_eq (pv 1) pe_str (nomark _)) (pss_one (ps_ret (pe_meth (pv 0) c_Tables_least m_Tables_least F_Tables_least (hr.mono (by decide)) b_Tables_least .nil pass0 (pa_cons (pv 2) pa_nil)))) pss_nil)
      (pss_cons (ps_if (pt_cmpR op_eq (pv 1) pe_str (nomark _)) (pss_one (ps_ret (pe_meth (pv 0) c_Tables_leastrow m_Tables_leastrow F_Tables_leastrow (hr.mono (by decide)) b_Tables_leastrow .nil pass0 (pa_cons (pv 2) pa_nil)))) pss_nil)
      (pss_cons (ps_if (pt_cmpR op_eq (pv 1) pe_str (nomark _)) (pss_one (ps_ret (pe_meth (pv 0) c_Tables_path m_Tables_path F_Tables_path (hr.mono (by decide)) b_Tables_path .nil pass0 (pa_cons (pe_ix ix_list (pv 2) pe_int (fun _ _ => rfl)) (pa_cons (pv 3) pa_nil))))) pss_nil)
      (pss_one (ps_ret (pe_meth (pv 0) c_Tables_trivial m_Tables_trivial F_Tables_trivial (hr.mono (by decide)) b_Tables_trivial .nil pass0 (pa_cons (pe_ix ix_list (pv 2) pe_int (fun _ _ => rfl)) pa_nil))))))))), ?_⟩)
  · obtain ⟨p, an, ar, d, nm, ns, row, x, rfl, _⟩ := h
    rfl
  · obtain ⟨p, an, ar, d, nm, ns, row, x, rfl, ⟨dx, sp, ds, L, a, b, r⟩, o, ⟨i, as, rfl, hc, hb⟩, hg, hn1, hr1, k⟩ := h
    cases hc with
    | set t s x q row =>
      cases hg
    | fill t row =>
      cases hg
    | payis t s x q row =>
      refine ⟨_, rfl, rfl, _, rfl, if_t (by decide +kernel) ?_⟩
      exact ⟨_, rfl, p, dx, _, rfl, r.hp, pf_no, _, rfl, p, an, d, t, s, x, q, rfl, r.rep, o, hn1, isAt_in (has4 ▸ hb), k⟩
    | copy t row =>
      cases hg
    | shape t row =>
      cases hg
    | scale t c row =>
      cases hg
    | potof t row =>
      refine ⟨_, rfl, rfl, _, rfl, if_f (by decide +kernel) ⟨_, rfl, rfl, _, rfl, if_t (by decide +kernel) ?_⟩⟩
      exact ⟨_, rfl, p, dx, _, rfl, r.hp, pf_no, _, rfl, an, _, _, _, rfl, rfl, hn1, rfl, p, d, t, rfl, r.rep, o, t2_of hb, k⟩
    | least t s x q row =>
      refine ⟨_, rfl, rfl, _, rfl, if_f (by decide +kernel) ⟨_, rfl, rfl, _, rfl, if_f (by decide +kernel) ⟨_, rfl, rfl, _, rfl, if_t (by decide +kernel) ?_⟩⟩⟩
      exact ⟨_, rfl, p, dx, _, rfl, r.hp, pf_no, _, rfl, p, an, d, t, s, x, q, rfl, r.rep, o, hn1, isAt_in (has4 ▸ hb), k⟩
    | leastrow t s x row =>
      refine ⟨_, rfl, rfl, _, rfl, if_f (by decide +kernel) ⟨_, rfl, rfl, _, rfl, if_f (by decide +kernel) ⟨_, rfl, rfl, _, rfl, if_f (by decide +kernel) ⟨_, rfl, rfl, _, rfl, if_t (by decide +kernel) ?_⟩⟩⟩⟩
      exact ⟨_, rfl, p, dx, _, rfl, r.hp, pf_no, _, rfl, p, an, d, t, s, x, rfl, r.rep, o, hn1, isAt_in (has3 o ▸ hb), k⟩
    | alike row =>
      cases hg
    | potentials row =>
      cases hg
    | factor row =>
      cases hg
    | far row =>
      cases hg
    | differ row =>
      cases hg
    | path t row hn2 hl2 =>
      refine ⟨_, rfl, rfl, _, rfl, if_f (by decide +kernel) ⟨_, rfl, rfl, _, rfl, if_f (by decide +kernel) ⟨_, rfl, rfl, _, rfl, if_f (by decide +kernel) ⟨_, rfl, rfl, _, rfl, if_f (by decide +kernel) ⟨_, rfl, rfl, _, rfl, if_t (by decide +kernel) ?_⟩⟩⟩⟩⟩
      exact ⟨_, rfl, p, dx, _, rfl, r.hp, pf_no, _, rfl, an, _, _, _, rfl, rfl, hn1, rfl, _, rfl, p, ar, d, t, row, rfl, r.rep, o, t2_of hb, hr1, hn2, hl2, k⟩
    | gap row hn2 hl2 =>
      cases hg
    | swap row =>
      cases hg
    | ifset t s x q row =>
      cases hg
    | trivial t row =>
      refine ⟨_, rfl, rfl, _, rfl, if_f (by decide +kernel) ⟨_, rfl, rfl, _, rfl, if_f (by decide +kernel) ⟨_, rfl, rfl, _, rfl, if_f (by decide +kernel) ⟨_, rfl, rfl, _, rfl, if_f (by decide +kernel) ⟨_, rfl, rfl, _, rfl, if_f (by decide +kernel) ?_⟩⟩⟩⟩⟩
      exact ⟨_, rfl, p, dx, _, rfl, r.hp, pf_no, _, rfl, an, _, _, _, rfl, rfl, hn1, rfl, p, d, t, rfl, r.rep, o, t2_of hb, k⟩
theorem ok_tellboth {f : Addr} {fd : FuncData} (F : Fun K "tell_of_both" "tell_of_both" s_tell_of_both f fd) (T : Txt K mg C CS) (M_Tables_alike : Met P w K mg base 6 C "alike" (spAlike C CS)) (M_Tables_potentials : Met P w K mg base 6 C "potentials" (spPots C CS)) (M_Tables_factor : Met P w K mg base 5 C "factor" (spFactor C CS)) (M_Tables_far : Met P w K mg base 5 C "far" (spFar C CS)) (M_Tables_differ : Met P w K mg base 5 C "differ" (spDiffer C CS)) (M_Tables_ifset : Met P w K mg base 6 C "ifset" (spIfset K C CS)) (M_Tables_gap : Met P w K mg base 5 C "gap" (spGap K C CS)) : FnOk P w K mg base CX0 7 f fd ["tables", "name", "numbers", "row"] (spTellBoth K C CS) := by
  obtain ⟨f_Tables_alike, fd_Tables_alike, ps_Tables_alike, c_Tables_alike, m_Tables_alike, F_Tables_alike, b_Tables_alike⟩ := M_Tables_alike.ex
  obtain ⟨f_Tables_potentials, fd_Tables_potentials, ps_Tables_potentials, c_Tables_potentials, m_Tables_potentials, F_Tables_potentials, b_Tables_potentials⟩ := M_Tables_potentials.ex
  obtain ⟨f_Tables_factor, fd_Tables_factor, ps_Tables_factor, c_Tables_factor, m_Tables_factor, F_Tables_factor, b_Tables_factor⟩ := M_Tables_factor.ex
  obtain ⟨f_Tables_far, fd_Tables_far, ps_Tables_far, c_Tables_far, m_Tables_far, F_Tables_far, b_Tables_far⟩ := M_Tables_far.ex
  obtain ⟨f_Tables_differ, fd_Tables_differ, ps_Tables_differ, c_Tables_differ, m_Tables_differ, F_Tables_differ, b_Tables_differ⟩ := M_Tables_differ.ex
  obtain ⟨f_Tables_ifset, fd_Tables_ifset, ps_Tables_ifset, c_Tables_ifset, m_Tables_ifset, F_Tables_ifset, b_Tables_ifset⟩ := M_Tables_ifset.ex
  obtain ⟨f_Tables_gap, fd_Tables_gap, ps_Tables_gap, c_Tables_gap, m_Tables_gap, F_Tables_gap, b_Tables_gap⟩ := M_Tables_gap.ex
  refine F.ok sc_tell_of_both (fun vs H Q E h => ?_) (fun cdv A outer s H vs Q E hr h => ⟨_, (pss_cons (ps_if (pt_cmpR op_eq (pv 1) pe_str (nomark _)) (pss_one (ps_ret (pe_meth0 (pv 0) c_Tables_alike m_Tables_alike F_Tables_alike (hr.mono (by decide)) b_Tables_alike .nil pass0))) pss_nil)
      (pss_cons (ps_if (pt_cmpR op_eq (pv 1) pe_str (nomark _)) (pss_one (ps_ret (pe_meth0 (pv 0) c_Tables_potentials m_Tables_potentials F_Tables_potentials (hr.mono (by decide)) b_Tables_potentials .nil pass0))) pss_nil)
      (pss_cons (ps_if (pt_cmpR op_eq (pv 1) pe_str (nomark _)) (pss_one (ps_ret (pe_meth0 (pv 0) c_Tables_factor m_Tables_factor F_Tables_factor (hr.mono (by decide)) b_Tables_factor .nil pass0))) pss_nil)
      (pss_cons (ps_if (pt_cmpR op_eq (pv 1) pe_str (nomark _)) (pss_one (ps_ret (pe_meth0 (pv 0) c_Tables_far m_Tables_far F_Tables_far (hr.mono (by decide)) b_Tables_far .nil pass0))) pss_nil)
      (pss_cons (ps_if (pt_cmpR op_eq (pv 1) pe_str (nomark _)) (pss_one (ps_ret (pe_meth0 (pv 0) c_Tables_differ m_Tables_differ F_Tables_differ (hr.mono (by decide)) b_Tables_differ .nil pass0))) pss_nil)
      (pss_cons (ps_if (pt_cmpR op_eq (pv 1) pe_str (nomark _)) (pss_one (ps_ret (pe_meth (pv 0) c_Tables_gap m_Tables_gap F_Tables_gap (hr.mono (by decide)) b_Tables_gap .nil pass0 (pa_cons (pv 3) pa_nil)))) pss_nil)
      (pss_one (ps_ret (pe_meth (pv 0) c_Tables_ifset m_Tables_ifset F_Tables_ifset (hr.mono (by decide)) b_Tables_ifset .nil pass0 (pa_cons (pv 2) (pa_cons (pv 3) pa_nil))))))))))), ?_⟩)
  · obtain ⟨p, an, ar, d, nm, ns, row, x, rfl, _⟩ := h
    rfl
  · obtain ⟨p, an, ar, d, nm, ns, row, x, rfl, ⟨dx, sp, ds, L, a, b, r⟩, o, ⟨i, as, rfl, hc, hb⟩, hg, hg2, hn1, hr1, k⟩ := h
    cases hc with
    | set t s x q row =>
      first | (cases hg; done) | (cases hg2; done)
    | fill t row =>
      first | (cases hg; done) | (cases hg2; done)
    | payis t s x q row =>
      first | (cases hg; done) | (cases hg2; done)
    | copy t row =>
      first | (cases hg; done) | (cases hg2; done)
    | shape t row =>
      first | (cases hg; done) | (cases hg2; done)
    | scale t c row =>
      first | (cases hg; done) | (cases hg2; done)
    | potof t row =>
      first | (cases hg; done) | (cases hg2; done)
    | least t s x q row =>
      first | (cases hg; done) | (cases hg2; done)
    | leastrow t s x row =>
      first | (cases hg; done) | (cases hg2; done)
    | alike row =>
      refine ⟨_, rfl, rfl, _, rfl, if_t (by decide +kernel) ?_⟩
      exact ⟨_, rfl, p, dx, _, rfl, r.hp, pf_no, p, d, rfl, r.rep, o, k⟩
    | potentials row =>
      refine ⟨_, rfl, rfl, _, rfl, if_f (by decide +kernel) ⟨_, rfl, rfl, _, rfl, if_t (by decide +kernel) ?_⟩⟩
      exact ⟨_, rfl, p, dx, _, rfl, r.hp, pf_no, p, d, rfl, r.rep, o, k⟩
    | factor row =>
      refine ⟨_, rfl, rfl, _, rfl, if_f (by decide +kernel) ⟨_, rfl, rfl, _, rfl, if_f (by decide +kernel) ⟨_, rfl, rfl, _, rfl, if_t (by decide +kernel) ?_⟩⟩⟩
      exact ⟨_, rfl, p, dx, _, rfl, r.hp, pf_no, p, d, rfl, r.rep, o, k⟩
    | far row =>
      refine ⟨_, rfl, rfl, _, rfl, if_f (by decide +kernel) ⟨_, rfl, rfl, _, rfl, if_f (by decide +kernel) ⟨_, rfl, rfl, _, rfl, if_f (by decide +kernel) ⟨_, rfl, rfl, _, rfl, if_t (by decide +kernel) ?_⟩⟩⟩⟩
      exact ⟨_, rfl, p, dx, _, rfl, r.hp, pf_no, p, d, rfl, r.rep, o, k⟩
    | differ row =>
      refine ⟨_, rfl, rfl, _, rfl, if_f (by decide +kernel) ⟨_, rfl, rfl, _, rfl, if_f (by decide +kernel) ⟨_, rfl, rfl, _, rfl, if_f (by decide +kernel) ⟨_, rfl, rfl, _, rfl, if_f (by decide +kernel) ⟨_, rfl, rfl, _, rfl, if_t (by decide +kernel) ?_⟩⟩⟩⟩⟩
      exact ⟨_, rfl, p, dx, _, rfl, r.hp, pf_no, p, d, rfl, r.rep, o, k⟩
    | path t row hn2 hl2 =>
      first | (cases hg; done) | (cases hg2; done)
    | gap row hn2 hl2 =>
      refine ⟨_, rfl, rfl, _, rfl, if_f (by decide +kernel) ⟨_, rfl, rfl, _, rfl, if_f (by decide +kernel) ⟨_, rfl, rfl, _, rfl, if_f (by decide +kernel) ⟨_, rfl, rfl, _, rfl, if_f (by decide +kernel) ⟨_, rfl, rfl, _, rfl, if_f (by decide +kernel) ⟨_, rfl, rfl, _, rfl, if_t (by decide +kernel) ?_⟩⟩⟩⟩⟩⟩
      exact ⟨_, rfl, p, dx, _, rfl, r.hp, pf_no, _, rfl, p, ar, d, row, rfl, r.rep, o, hr1, hn2, hl2, k⟩
    | swap row =>
      first | (cases hg; done) | (cases hg2; done)
    | ifset t s x q row =>
      refine ⟨_, rfl, rfl, _, rfl, if_f (by decide +kernel) ⟨_, rfl, rfl, _, rfl, if_f (by decide +kernel) ⟨_, rfl, rfl, _, rfl, if_f (by decide +kernel) ⟨_, rfl, rfl, _, rfl, if_f (by decide +kernel) ⟨_, rfl, rfl, _, rfl, if_f (by decide +kernel) ⟨_, rfl, rfl, _, rfl, if_f (by decide +kernel) ?_⟩⟩⟩⟩⟩⟩
      exact ⟨_, rfl, p, dx, _, rfl, r.hp, pf_no, _, rfl, _, rfl, p, an, ar, d, t, s, x, q, row, rfl, r.rep, o, hn1, isAt_in (has4 ▸ hb), hr1, k⟩
    | trivial t row =>
      first | (cases hg; done) | (cases hg2; done)
theorem ok_answer {f : Addr} {fd : FuncData} (F : Fun K "answer" "answer" s_answer f fd) (T : Txt K mg C CS) (Tc : Tab K mg aC) (M_refused : Cal P w K mg base 1 "refused" spRefused) (M_Tables_begun : Met P w K mg base 1 C "begun" (spBegun C)) (M_Tables_has : Met P w K mg base 1 C "has" (spHas K C CS)) (M_Tables_begin : Met P w K mg base 3 C "begin" (spBegin C CS)) (M_change : Cal P w K mg base 4 "change" (spChange K C CS)) (M_tell_of_one : Cal P w K mg base 7 "tell_of_one" (spTellOne K C CS)) (M_tell_of_both : Cal P w K mg base 7 "tell_of_both" (spTellBoth K C CS)) : FnOk P w K mg base CX0 8 f fd ["tables", "number", "numbers", "row"] (spAnswer K C CS) := by
  obtain ⟨f_refused, fd_refused, ps_refused, F_refused, g_refused, k_refused, b_refused⟩ := M_refused.ex
  obtain ⟨f_Tables_begun, fd_Tables_begun, ps_Tables_begun, c_Tables_begun, m_Tables_begun, F_Tables_begun, b_Tables_begun⟩ := M_Tables_begun.ex
  obtain ⟨f_Tables_has, fd_Tables_has, ps_Tables_has, c_Tables_has, m_Tables_has, F_Tables_has, b_Tables_has⟩ := M_Tables_has.ex
  obtain ⟨f_Tables_begin, fd_Tables_begin, ps_Tables_begin, c_Tables_begin, m_Tables_begin, F_Tables_begin, b_Tables_begin⟩ := M_Tables_begin.ex
  obtain ⟨f_change, fd_change, ps_change, F_change, g_change, k_change, b_change⟩ := M_change.ex
  obtain ⟨f_tell_of_one, fd_tell_of_one, ps_tell_of_one, F_tell_of_one, g_tell_of_one, k_tell_of_one, b_tell_of_one⟩ := M_tell_of_one.ex
  obtain ⟨f_tell_of_both, fd_tell_of_both, ps_tell_of_both, F_tell_of_both, g_tell_of_both, k_tell_of_both, b_tell_of_both⟩ := M_tell_of_both.ex
  refine F.ok sc_answer (fun vs H Q E h => ?_) (fun cdv A outer s H vs Q E hr h => ⟨_, (pss_cons (ps_set (i := 4) sc_answer.nd rfl (Or.inl rfl) (pe_ix ix_tup (pe_ix ix_tup (pe_gl rfl Tc.g) (pv 1) (fun _ _ => rfl)) pe_int (fun _ _ => rfl)))
      (pss_cons (ps_if (pt_cmpR op_eq (pv 4) pe_str (nomark _)) (pss_one (ps_ret (pe_meth (pv 0) c_Tables_begin m_Tables_begin F_Tables_begin (hr.mono (by decide)) b_Tables_begin .nil pass0 (pa_cons (pe_ix ix_list (pv 2) pe_int (fun _ _ => rfl)) (pa_cons (pe_ix ix_list (pv 2) pe_int (fun _ _ => rfl)) (pa_cons (pe_ix ix_list (pv 2) pe_int (fun _ _ => rfl)) (pa_cons (pe_ix ix_list (pv 2) pe_int (fun _ _ => rfl)) pa_nil))))))) pss_nil)
      (pss_cons (ps_if (pt_not (pt_val (pe_meth0 (pv 0) c_Tables_begun m_Tables_begun F_Tables_begun (hr.mono (by decide)) b_Tables_begun .nil pass0))) (pss_one (ps_ret (pe_call F_refused (hr.mono (by decide)) rfl g_refused k_refused b_refused .nil pass0 (pa_cons (pe_gl rfl T.g_NOT_BEGUN) pa_nil)))) pss_nil)
      (pss_cons (ps_if (pt_not (pt_val (pe_meth (pv 0) c_Tables_has m_Tables_has F_Tables_has (hr.mono (by decide)) b_Tables_has .nil pass0 (pa_cons (pe_slice sl_list (pv 2) po_none (po_some (pe_ix ix_tup (pe_ix ix_tup (pe_gl rfl Tc.g) (pv 1) (fun _ _ => rfl)) pe_int (fun _ _ => rfl)))) pa_nil)))) (pss_one (ps_ret (pe_call F_refused (hr.mono (by decide)) rfl g_refused k_refused b_refused .nil pass0 (pa_cons (pe_gl rfl T.g_NO_SUCH) pa_nil)))) pss_nil)
      (pss_cons (ps_if (pt_cmpR op_in_seq (pv 4) (pe_tup (pa_cons pe_str (pa_cons pe_str (pa_cons pe_str (pa_cons pe_str (pa_cons pe_str (pa_cons pe_str pa_nil))))))) rfl) (pss_one (ps_ret (pe_call F_change (hr.mono (by decide)) rfl g_change k_change b_change .nil pass0 (pa_cons (pv 0) (pa_cons (pv 4) (pa_cons (pv 2) (pa_cons (pv 3) pa_nil))))))) pss_nil)
      (pss_cons (ps_if (pt_cmpR op_in_seq (pv 4) (pe_tup (pa_cons pe_str (pa_cons pe_str (pa_cons pe_str (pa_cons pe_str (pa_cons pe_str (pa_cons pe_str pa_nil))))))) rfl) (pss_one (ps_ret (pe_call F_tell_of_one (hr.mono (by decide)) rfl g_tell_of_one k_tell_of_one b_tell_of_one .nil pass0 (pa_cons (pv 0) (pa_cons (pv 4) (pa_cons (pv 2) (pa_cons (pv 3) pa_nil))))))) pss_nil)
      (pss_one (ps_ret (pe_call F_tell_of_both (hr.mono (by decide)) rfl g_tell_of_both k_tell_of_both b_tell_of_both .nil pass0 (pa_cons (pv 0) (pa_cons (pv 4) (pa_cons (pv 2) (pa_cons (pv 3) pa_nil))))))))))))), ?_⟩)
  · obtain ⟨H0, p, an, ar, st, c, i, e, ns, row, x, rfl, _⟩ := h
    rfl
  · obtain ⟨H0, p, an, ar, st, c, i, e, ns, row, x, rfl, hA, ic, hn, hr0, hbd, hx, k⟩ := h
    obtain ⟨xs, q, t1, t2, t3⟩ := Tc.row ic.tb
    obtain ⟨hs, hp0, dx, L, u, hp, hu⟩ := hA.flds
    have hn1 := hs.seq hn
    have hr1 := hs.seq hr0
    refine ⟨_, rfl, aC, _, _, _, rfl, rfl, t1 _, t2, q, _, _, _, rfl, rfl, t3 _, rfl, ?_⟩
    refine ⟨_, rfl, rfl, _, rfl, ?_⟩
    obtain ⟨as, rfl, hc⟩ := cl_of ic hbd hx
    rcases hc with ⟨_, hb0, n, m, g, h, rfl, rfl⟩ | hc
    · refine if_t (by rw [hb0]; decide +kernel) ?_
      exact ⟨_, rfl, p, dx, _, rfl, hp, pf_no, _, rfl, an, _, _, _, rfl, rfl, hn1, rfl, _, rfl, an, _, _, _, rfl, rfl, hn1, rfl, _, rfl, an, _, _, _, rfl, rfl, hn1, rfl, _, rfl, an, _, _, _, rfl, rfl, hn1, rfl, H0, p, st, n, m, g, h, rfl, hA, k⟩
    refine if_f (not_begin hc) ?_
    refine ⟨_, rfl, p, dx, _, rfl, hp, pf_no, p, dx, L, u, rfl, hp, _, rfl, ?_⟩
    rw [hu]
    cases st with
    | none =>
      rw [step_none hc] at k
      refine if_t rfl ?_
      exact ⟨_, rfl, k.no hA⟩
    | some d =>
      refine if_f rfl ?_
      obtain ⟨dx, sp, ds, L, a, b, u⟩ := hA
      have hA := u.at
      have r := u.r
      have o := u.ok
      obtain ⟨hk, hk4⟩ := cl_len hc
      refine ⟨_, rfl, p, dx, _, rfl, r.hp, pf_no, _, rfl, _, rfl, aC, _, _, _, rfl, rfl, t1 _, t2, q, _, _, _, rfl, rfl, t3 _, rfl, _, rfl, an, _, rfl, hn1, fun y ny => ?_⟩
      try dsimp only
      rw [cut_take (by rw [List.length_map]; exact hk)]
      have s1 : Same H (upd H y (.lst (((nc as).take e.2.2.1).map V.int))) := same_new ny
      refine ⟨p, y, d, (nc as).take e.2.2.1, rfl, (r.mono s1).rep, SqL.of upd_same, by rw [List.length_take]; omega, fun H2 s2 => ⟨_, rfl, if_b (fun c => ?_) fun c => ?_⟩⟩
      · rw [Bool.not_eq_true'] at c
        rw [step_no o hc c] at k
        exact ⟨_, rfl, k.no (hA.mono (s1.trans s2))⟩
      rw [Bool.not_eq_false'] at c
      have good : Good d e.1 (nc as) row x := ⟨_, as, rfl, hc, c⟩
      have s3 := s1.trans s2
      have hA3 := hA.mono s3
      refine ⟨_, rfl, by show 6 ≤ sizeLine; decide, fun y4 n4 => ⟨y4, _, rfl, .inr (SqT.of upd_same), rfl, rfl, _, rfl, ?_⟩⟩
      have s4 := s3.trans (same_new (o := .tup [.str "set", .str "fill", .str "copy", .str "shape", .str "scale", .str "swap"]) n4)
      have hA4 := hA.mono s4
      have r4 := r.mono s4
      generalize upd H2 y4 (.tup [.str "set", .str "fill", .str "copy", .str "shape", .str "scale", .str "swap"]) = H4 at s4 hA4 r4
      refine if_b (fun c4 => ?_) fun c4 => ?_
      · have c5 : isChg x = true := (chg_in hc).symm.trans c4
        exact ⟨_, rfl, _, rfl, _, rfl, _, rfl, H0, p, an, ar, d, e.1, nc as, row, x, rfl, hA4, good, c5, hn, hr0, k⟩
      have c5 : isChg x = false := (chg_in hc).symm.trans c4
      rw [cl_quiet hc c5 d] at k
      refine ⟨_, rfl, by show 6 ≤ sizeLine; decide, fun y6 n6 => ⟨y6, _, rfl, .inr (SqT.of upd_same), rfl, rfl, _, rfl, ?_⟩⟩
      have s6 := s4.trans (same_new (o := .tup [.str "payis", .str "potof", .str "least", .str "leastrow", .str "path", .str "trivial"]) n6)
      have hA6 := hA.mono s6
      have r6 := r.mono s6
      generalize upd H4 y6 (.tup [.str "payis", .str "potof", .str "least", .str "leastrow", .str "path", .str "trivial"]) = H6 at s6 hA6 r6
      refine if_b (fun c6 => ?_) fun c6 => ?_
      · have c7 : isOne x = true := (one_in hc).symm.trans c6
        exact ⟨_, rfl, _, rfl, _, rfl, _, rfl, p, an, ar, d, e.1, nc as, row, x, rfl, r6.rep, o, good, c7, s6.seq hn1, s6.seq hr1, k.new hA6⟩
      · have c7 : isOne x = false := (one_in hc).symm.trans c6
        exact ⟨_, rfl, _, rfl, _, rfl, _, rfl, p, an, ar, d, e.1, nc as, row, x, rfl, r6.rep, o, good, c5, c7, s6.seq hn1, s6.seq hr1, k.new hA6⟩
end
end SP

set_option Elab.async false
set_option maxRecDepth 100000
set_option maxHeartbeats 2000000
set_option linter.unusedVariables false
namespace SP
open PySem PySem.Spec PyProof.Rows L2
/-! ### answers -/
abbrev s_answers : Stmt := topS 29
abbrev n_answers : List Str := ["calls", "tables", "told", "call", "numbers"]
theorem sc_answers : FnScope n_answers ["calls"] (defScope s_answers) := ⟨rfl, rfl, rfl, by decide +kernel, rfl, by decide +kernel, by decide +kernel⟩
def spAns (K : PySem.W.Frag) : Sp := fun vs H Q _ => ∃ (a : Addr) (ns : List Int), vs = [.ref a] ∧ SqL K H a (ns.map V.int) ∧ ns.length ≤ 3300 ∧ PyKp388.answers_asked ns = true ∧
  ∀ (H' : Hp) (p : Addr), H' p = some (.lst ((PyKp388.answers ns).map V.int)) → Q (.ref p) H'
abbrev nst := Kp388Neutral.step
def aft (s : Kp388.State) (cs : List Raw) : Kp388.State := cs.foldl (fun s c => (nst s c).1) s
theorem played_snoc : ∀ (cs : List Raw) (s : Kp388.State) (c : Raw), PyFlat.played nst s (cs ++ [c]) = PyFlat.played nst s cs ++ [(nst (aft s cs) c).2]
  | [], s, c => rfl
  | x :: cs, s, c => by
    show (nst s x).2 :: PyFlat.played nst (nst s x).1 (cs ++ [c]) = (nst s x).2 :: (PyFlat.played nst (nst s x).1 cs ++ _)
    rw [played_snoc cs]
    rfl
theorem aft_snoc (cs : List Raw) (s : Kp388.State) (c : Raw) : aft s (cs ++ [c]) = (nst (aft s cs) c).1 := by
  unfold aft
  rw [List.foldl_append]
  rfl
theorem told_snoc (xs : List (List Int)) (y : List Int) : PyFlat.told (xs ++ [y]) = PyFlat.told xs ++ ((y.length : Int) :: y) := by
  unfold PyFlat.told
  rw [List.flatMap_append]
  simp
theorem told_app (xs ys : List (List Int)) : PyFlat.told (xs ++ ys) = PyFlat.told xs ++ PyFlat.told ys := by
  unfold PyFlat.told
  rw [List.flatMap_append]
theorem played_app : ∀ (cs ds : List Raw) (s : Kp388.State), PyFlat.played nst s (cs ++ ds) = PyFlat.played nst s cs ++ PyFlat.played nst (aft s cs) ds
  | [], ds, s => rfl
  | x :: cs, ds, s => by
    show (nst s x).2 :: PyFlat.played nst (nst s x).1 (cs ++ ds) = (nst s x).2 :: (PyFlat.played nst (nst s x).1 cs ++ _)
    rw [played_app cs]
    rfl
/-- what stands told behind some calls -/
def tl (cs : List Raw) : List Int := PyFlat.told (PyFlat.played nst none cs)
theorem tl_le (cs ds : List Raw) : (tl cs).length ≤ (tl (cs ++ ds)).length := by
  unfold tl
  rw [played_app, told_app, List.length_append]
  omega
theorem asked_of {ns : List Int} (h : PyKp388.answers_asked ns = true) : ∃ raw : List Raw, PyFlat.calls PyKp388.shape ns.length ns = some raw ∧ PyInside.calls PyKp388.bound raw = true ∧ Kp388Neutral.asked (raw.map PyKp388.whole) = true ∧ PyKp388.answers ns = tl (raw.map PyKp388.whole) ∧ (tl (raw.map PyKp388.whole)).length ≤ 10000000 := by
  unfold PyKp388.answers_asked at h
  cases e : PyFlat.calls PyKp388.shape ns.length ns with
  | none =>
    rw [e] at h
    cases h
  | some raw =>
    rw [e] at h
    have h1 : (!raw.isEmpty && PyFlat.atMost 60 raw && PyInside.calls PyKp388.bound raw && Kp388Neutral.asked (raw.map PyKp388.whole) && PyFlat.short 10000000 (PyKp388.answers ns)) = true := h
    simp only [Bool.and_eq_true] at h1
    have ea : PyKp388.answers ns = tl (raw.map PyKp388.whole) := by
      unfold PyKp388.answers PyKp388.calls
      rw [e]
      rfl
    refine ⟨raw, rfl, h1.1.1.2, h1.1.2, ea, ?_⟩
    rw [← ea]
    exact of_decide_eq_true h1.2
/-- a call that is asked is one of the calls -/
theorem callOf_asked {c : Raw} (h : Kp388Neutral.asked1 c = true) : ∃ x, Kp388Neutral.callOf c = some x := by
  unfold Kp388Neutral.asked1 at h
  split at h <;> first | exact ⟨_, rfl⟩ | cases h
theorem nst_of {s : Kp388.State} {c : Raw} {x : Kp388.Call} (h : Kp388Neutral.callOf c = some x) : nst s c = ((Kp388.step s x).1, al (Kp388.step s x).2) := by
  unfold nst Kp388Neutral.step
  rw [h]
  rfl
section
variable {P : Program} {w : World} {K : PySem.W.Frag} {mg : Str → Option Value} {base : Heap} {C CS : Addr}
theorem ok_answers {f : Addr} {fd : FuncData} (F : Fun K "answers" "answers" s_answers f fd) (T : Txt K mg C CS) (M_Tables : Mak P w K mg base 1 "Tables" C (spInit C)) (M_split_calls : Cal P w K mg base 1 "split_calls" (spSplit K)) (M_answer : Cal P w K mg base 8 "answer" (spAnswer K C CS)) : FnOk P w K mg base CX0 9 f fd ["calls"] (spAns K) := by
  obtain ⟨f_Tables, fd_Tables, ps_Tables, mk_Tables, F_Tables, g_Tables, b_Tables⟩ := M_Tables.ex
  obtain ⟨f_split_calls, fd_split_calls, ps_split_calls, F_split_calls, g_split_calls, k_split_calls, b_split_calls⟩ := M_split_calls.ex
  obtain ⟨f_answer, fd_answer, ps_answer, F_answer, g_answer, k_answer, b_answer⟩ := M_answer.ex
  refine F.ok sc_answers (fun vs H Q E h => ?_) (fun cdv A outer s H vs Q E hr h => ⟨_, (pss_cons (ps_set (i := 1) sc_answers.nd rfl (Or.inl rfl) (pe_make0 mk_Tables F_Tables (hr.mono (by decide)) rfl g_Tables b_Tables .nil pass0))
      (pss_cons (ps_set (i := 2) sc_answers.nd rfl (Or.inl rfl) (pe_lst pa_nil))
      (pss_cons (ps_for PassesOwn.never rfl (pi_list (pe_call F_split_calls (hr.mono (by decide)) rfl g_split_calls k_split_calls b_split_calls .nil pass0 (pa_cons (pv 0) pa_nil))) (pg_name (i := 3) sc_answers.nd rfl (Or.inl rfl)) (pss_cons (ps_set (i := 4) sc_answers.nd rfl (Or.inl rfl) (pe_call F_answer (hr.mono (by decide)) rfl g_answer k_answer b_answer .nil pass0 (pa_cons (pv 1) (pa_cons (pe_ix ix_tup (pv 3) pe_int (fun _ _ => rfl)) (pa_cons (pe_ix ix_tup (pv 3) pe_int (fun _ _ => rfl)) (pa_cons (pe_ix ix_tup (pv 3) pe_int (fun _ _ => rfl)) pa_nil))))))
      (pss_cons (ps_expr (pe_bm PySem.F.plainAttrs_list PySem.F.slot_list_append PySem.F.type_list_append mt_append (pv 2) (pa_cons (pe_callB call_len_seq (by rfl) T.z_len PySem.boot_len (pa_cons (pv 4) pa_nil)) pa_nil)))
      (pss_one (ps_expr (pe_bm PySem.F.plainAttrs_list PySem.F.slot_list_extend PySem.F.type_list_extend mt_extend (pv 2) (pa_cons (pv 4) pa_nil)))))))
      (pss_one (ps_ret (pv 2)))))), ?_⟩)
  · obtain ⟨a, ns, rfl, _⟩ := h
    rfl
  · obtain ⟨a, ns, rfl, hS, hn, hask, k⟩ := h
    obtain ⟨raw, hraw, hin, has, ea, hlen⟩ := asked_of hask
    rw [ea] at k
    intro p dx np ndx nep
    refine ⟨p, dx, rfl, upd_same, fun H1 L kp nL hp => ⟨rfl, ?_⟩⟩
    have s1 : Same H H1 := Same.made np ndx kp
    refine ⟨Nat.zero_le _, fun D nD => ?_⟩
    have s2 : Same H1 (upd H1 D (.lst [])) := same_new nD
    have hD : upd H1 D (.lst []) D = some (.lst []) := upd_same
    have hp2 := s2 _ _ hp
    generalize upd H1 D (.lst []) = H2 at s2 hD hp2
    refine ⟨_, rfl, a, ns, raw, rfl, (s1.trans s2).seq hS, hn, hraw, fun H3 G r qs s3 sG nG Gr rc => ?_⟩
    have GD : G D = none := by
      cases e : G D with
      | none => rfl
      | some o =>
        have := nG _ _ e
        rw [hD] at this
        cases this
    have Gp : G p = none := by
      cases e : G p with
      | none => rfl
      | some o =>
        have := nG _ _ e
        rw [hp2] at this
        cases this
    have npD : p ≠ D := ne_of_none hp nD
    have nr : r ≠ D := ne_of_none Gr GD
    have hA0 : AtS C CS (upd G D (il [])) H3 p none := by
      refine ⟨fun b o eb => ?_, ?_, dx, L, s3 _ _ hp2⟩
      · by_cases z : b = D
        · subst z
          rw [upd_same] at eb
          rw [← eb]
          exact s3 _ _ hD
        rw [upd_ne z] at eb
        exact sG _ _ eb
      · rw [upd_ne npD]
        exact Gp
    refine ⟨r, rfl, ⟨_, SqL.of (sG _ _ Gr)⟩, for_list (K := K) (a := r) (xs := qs.map V.ref) (fun i σ H' => ∃ v1 v2 : Option V, σ = [some (.ref a), some (.ref p), some (.ref D), v1, v2] ∧ AtS C CS (upd G D (il (tl ((raw.take i).map PyKp388.whole)))) H' p (aft none ((raw.take i).map PyKp388.whole))) ⟨none, none, rfl, hA0⟩ ?_ ?_ ?_⟩
    · rintro i σ H' _ ⟨v1, v2, _, hA⟩
      exact SqL.of (hA.flds.1 _ _ ((upd_ne nr).trans Gr))
    · rintro i y σ H' hi ⟨v1, v2, rfl, hA⟩
      obtain ⟨q, hq, rfl⟩ : ∃ q, qs[i]? = some q ∧ y = V.ref q := by
        rw [List.getElem?_map] at hi
        cases e : qs[i]? with
        | none =>
          rw [e] at hi
          cases hi
        | some z =>
          rw [e] at hi
          exact ⟨z, rfl, (Option.some.inj hi).symm⟩
      obtain ⟨c, hc, n, e, args, row, an, ar, ic, g1, g2, g3⟩ := rc.get hq
      have sA := hA.flds.1
      have j1 : q ≠ D := ne_of_none g1 GD
      have j2 : an ≠ D := ne_of_none g2 GD
      have j3 : ar ≠ D := ne_of_none g3 GD
      have e1 : upd G D (il (tl ((raw.take i).map PyKp388.whole))) q = _ := (upd_ne j1).trans g1
      have e2 : upd G D (il (tl ((raw.take i).map PyKp388.whole))) an = _ := (upd_ne j2).trans g2
      have e3 : upd G D (il (tl ((raw.take i).map PyKp388.whole))) ar = _ := (upd_ne j3).trans g3
      have hcm : c ∈ raw := List.mem_of_getElem? hc
      have hb : PyInside.call PyKp388.bound c = true := List.all_eq_true.mp hin c hcm
      have ha1 : Kp388Neutral.asked1 (PyKp388.whole c) = true := by
        unfold Kp388Neutral.asked at has
        simp only [Bool.and_eq_true] at has
        exact List.all_eq_true.mp has.2.2 _ (List.mem_map_of_mem hcm)
      obtain ⟨x, hx⟩ := callOf_asked ha1
      have hst := nst_of (s := aft none ((raw.take i).map PyKp388.whole)) hx
      have hq' := SqT.of (K := K) (sA _ _ e1)
      refine ⟨_, rfl, _, rfl, q, _, _, _, rfl, rfl, hq', rfl, _, rfl, q, _, _, _, rfl, rfl, hq', rfl, _, rfl, q, _, _, _, rfl, rfl, hq', rfl, ?_⟩
      refine ⟨upd G D (il (tl ((raw.take i).map PyKp388.whole))), p, an, ar, aft none ((raw.take i).map PyKp388.whole), c, n, e, args, row, x, rfl, hA, ic, SqL.of e2, SqL.of e3, hb, hx, fun H4 z hA4 nz hz => ?_⟩
      have s4 := hA4.flds.1
      have hD4 : H4 D = some (il (tl ((raw.take i).map PyKp388.whole))) := s4 _ _ upd_same
      have nzD : z ≠ D := fun zz => by
        rw [zz, upd_same] at nz
        cases nz
      have emore : (raw.take (i + 1)).map PyKp388.whole = (raw.take i).map PyKp388.whole ++ [PyKp388.whole c] := by
        rw [take_more hc, List.map_append]
        rfl
      have et : tl ((raw.take (i + 1)).map PyKp388.whole) = tl ((raw.take i).map PyKp388.whole) ++ (((al (Kp388.step (aft none ((raw.take i).map PyKp388.whole)) x).2).length : Int) :: al (Kp388.step (aft none ((raw.take i).map PyKp388.whole)) x).2) := by
        rw [emore]
        unfold tl
        rw [played_snoc, told_snoc, hst]
      have ea2 : aft none ((raw.take (i + 1)).map PyKp388.whole) = (Kp388.step (aft none ((raw.take i).map PyKp388.whole)) x).1 := by
        rw [emore, aft_snoc, hst]
      have hle : (tl ((raw.take (i + 1)).map PyKp388.whole)).length ≤ 10000000 := by
        have h1 := tl_le ((raw.take (i + 1)).map PyKp388.whole) ((raw.drop (i + 1)).map PyKp388.whole)
        rw [← List.map_append, List.take_append_drop] at h1
        omega
      rw [et, List.length_append, List.length_cons] at hle
      rw [et, ea2]
      generalize tl ((raw.take i).map PyKp388.whole) = told at hD4 hle hA4 nz ⊢
      generalize Kp388.step (aft none ((raw.take i).map PyKp388.whole)) x = y at hz hle hA4 ⊢
      refine ⟨_, rfl, .inl ⟨rfl, _, SqL.of hD4⟩, _, rfl, z, _, rfl, .inl (SqL.of hz), D, _, _, rfl, rfl, hD4, ?_, ?_⟩
      · rw [List.length_map, sizeLine_eq]
        omega
      refine ⟨_, rfl, .inl ⟨rfl, _, SqL.of upd_same⟩, _, rfl, D, z, _, _, rfl, rfl, upd_same, (upd_ne nzD).trans hz, ?_, ?_⟩
      · rw [List.length_append, List.length_map, List.length_map, List.length_singleton, sizeLine_eq]
        omega
      refine ⟨_, _, rfl, ?_⟩
      rw [upd_upd]
      have hA5 := hA4.put (o' := il (told ++ (((al y.2).length : Int) :: al y.2))) upd_same
      rw [upd_upd] at hA5
      have el : (told.map V.int ++ [V.int (((al y.2).map V.int).length : Nat)] ++ (al y.2).map V.int) = (told ++ (((al y.2).length : Int) :: al y.2)).map V.int := by
        rw [List.length_map, List.map_append]
        simp
      rw [el]
      exact hA5
    · rintro σ H' ⟨v1, v2, rfl, hA⟩
      rw [List.length_map, rc.len, List.take_length] at hA
      exact ⟨_, rfl, k _ D (hA.flds.1 _ _ upd_same)⟩
end
end SP

set_option Elab.async false
set_option maxRecDepth 100000
set_option maxHeartbeats 2000000
set_option linter.unusedVariables false
namespace SP
open PySem PySem.Spec PyProof.Rows L2
open PySem.W (Codec)
theorem all_mk {P : Program} {w : World} {K : PySem.W.Frag} {h : Heap} {mg : Str → Option Value} {fa C CS aC0 f1 f2 f3 f4 f5 f6 f7 f8 f9 f10 f11 f12 f13 f14 f15 f16 f17 f18 f19 f20 f21 f22 f23 f24 f25 f26 f27 f28 f29 f30 f31 f32 f33 f34 f35 f36 f37 f38 f39 f40 f41 f42 f43 f44 f45 f46 f47 f48 f49 f50 f51 f52 f53 f54 f55 f56 : Addr} (X : K.In h) (G : h.Ns mainGlobals mg) (hfa : mg "answers" = some (.ref fa))
    {od1 an1 : Option Addr} {sl1 : Array (Option Value)} {oc1 kV1 dc1 pm1 cd1 ct1 : Value}
    {od2 an2 : Option Addr} {sl2 : Array (Option Value)} {oc2 kV2 dc2 pm2 cd2 ct2 : Value}
    {od3 an3 : Option Addr} {sl3 : Array (Option Value)} {oc3 kV3 dc3 pm3 cd3 ct3 : Value}
    {od4 an4 : Option Addr} {sl4 : Array (Option Value)} {oc4 kV4 dc4 pm4 cd4 ct4 : Value}
    {od5 an5 : Option Addr} {sl5 : Array (Option Value)} {oc5 kV5 dc5 pm5 cd5 ct5 : Value}
    {od6 an6 : Option Addr} {sl6 : Array (Option Value)} {oc6 kV6 dc6 pm6 cd6 ct6 : Value}
    {od7 an7 : Option Addr} {sl7 : Array (Option Value)} {oc7 kV7 dc7 pm7 cd7 ct7 : Value}
    {od8 an8 : Option Addr} {sl8 : Array (Option Value)} {oc8 kV8 dc8 pm8 cd8 ct8 : Value}
    {od9 an9 : Option Addr} {sl9 : Array (Option Value)} {oc9 kV9 dc9 pm9 cd9 ct9 : Value}
    {od10 an10 : Option Addr} {sl10 : Array (Option Value)} {oc10 kV10 dc10 pm10 cd10 ct10 : Value}
    {od11 an11 : Option Addr} {sl11 : Array (Option Value)} {oc11 kV11 dc11 pm11 cd11 ct11 : Value}
    {od12 an12 : Option Addr} {sl12 : Array (Option Value)} {oc12 kV12 dc12 pm12 cd12 ct12 : Value}
    {od13 an13 : Option Addr} {sl13 : Array (Option Value)} {oc13 kV13 dc13 pm13 cd13 ct13 : Value}
    {od14 an14 : Option Addr} {sl14 : Array (Option Value)} {oc14 kV14 dc14 pm14 cd14 ct14 : Value}
    {od15 an15 : Option Addr} {sl15 : Array (Option Value)} {oc15 kV15 dc15 pm15 cd15 ct15 : Value}
    {od16 an16 : Option Addr} {sl16 : Array (Option Value)} {oc16 kV16 dc16 pm16 cd16 ct16 : Value}
    {od17 an17 : Option Addr} {sl17 : Array (Option Value)} {oc17 kV17 dc17 pm17 cd17 ct17 : Value}
    {od18 an18 : Option Addr} {sl18 : Array (Option Value)} {oc18 kV18 dc18 pm18 cd18 ct18 : Value}
    {od19 an19 : Option Addr} {sl19 : Array (Option Value)} {oc19 kV19 dc19 pm19 cd19 ct19 : Value}
    {od20 an20 : Option Addr} {sl20 : Array (Option Value)} {oc20 kV20 dc20 pm20 cd20 ct20 : Value}
    {od21 an21 : Option Addr} {sl21 : Array (Option Value)} {oc21 kV21 dc21 pm21 cd21 ct21 : Value}
    {od22 an22 : Option Addr} {sl22 : Array (Option Value)} {oc22 kV22 dc22 pm22 cd22 ct22 : Value}
    {od23 an23 : Option Addr} {sl23 : Array (Option Value)} {oc23 kV23 dc23 pm23 cd23 ct23 : Value}
    {od24 an24 : Option Addr} {sl24 : Array (Option Value)} {oc24 kV24 dc24 pm24 cd24 ct24 : Value}
    {od25 an25 : Option Addr} {sl25 : Array (Option Value)} {oc25 kV25 dc25 pm25 cd25 ct25 : Value}
    {od26 an26 : Option Addr} {sl26 : Array (Option Value)} {oc26 kV26 dc26 pm26 cd26 ct26 : Value}
    {od27 an27 : Option Addr} {sl27 : Array (Option Value)} {oc27 kV27 dc27 pm27 cd27 ct27 : Value}
    {od28 an28 : Option Addr} {sl28 : Array (Option Value)} {oc28 kV28 dc28 pm28 cd28 ct28 : Value}
    {od29 an29 : Option Addr} {sl29 : Array (Option Value)} {oc29 kV29 dc29 pm29 cd29 ct29 : Value}
    {od30 an30 : Option Addr} {sl30 : Array (Option Value)} {oc30 kV30 dc30 pm30 cd30 ct30 : Value}
    {od31 an31 : Option Addr} {sl31 : Array (Option Value)} {oc31 kV31 dc31 pm31 cd31 ct31 : Value}
    {od32 an32 : Option Addr} {sl32 : Array (Option Value)} {oc32 kV32 dc32 pm32 cd32 ct32 : Value}
    {od33 an33 : Option Addr} {sl33 : Array (Option Value)} {oc33 kV33 dc33 pm33 cd33 ct33 : Value}
    {od34 an34 : Option Addr} {sl34 : Array (Option Value)} {oc34 kV34 dc34 pm34 cd34 ct34 : Value}
    {od35 an35 : Option Addr} {sl35 : Array (Option Value)} {oc35 kV35 dc35 pm35 cd35 ct35 : Value}
    {od36 an36 : Option Addr} {sl36 : Array (Option Value)} {oc36 kV36 dc36 pm36 cd36 ct36 : Value}
    {od37 an37 : Option Addr} {sl37 : Array (Option Value)} {oc37 kV37 dc37 pm37 cd37 ct37 : Value}
    {od38 an38 : Option Addr} {sl38 : Array (Option Value)} {oc38 kV38 dc38 pm38 cd38 ct38 : Value}
    {od39 an39 : Option Addr} {sl39 : Array (Option Value)} {oc39 kV39 dc39 pm39 cd39 ct39 : Value}
    {od40 an40 : Option Addr} {sl40 : Array (Option Value)} {oc40 kV40 dc40 pm40 cd40 ct40 : Value}
    {od41 an41 : Option Addr} {sl41 : Array (Option Value)} {oc41 kV41 dc41 pm41 cd41 ct41 : Value}
    {od42 an42 : Option Addr} {sl42 : Array (Option Value)} {oc42 kV42 dc42 pm42 cd42 ct42 : Value}
    {od43 an43 : Option Addr} {sl43 : Array (Option Value)} {oc43 kV43 dc43 pm43 cd43 ct43 : Value}
    {od44 an44 : Option Addr} {sl44 : Array (Option Value)} {oc44 kV44 dc44 pm44 cd44 ct44 : Value}
    {od45 an45 : Option Addr} {sl45 : Array (Option Value)} {oc45 kV45 dc45 pm45 cd45 ct45 : Value}
    {od46 an46 : Option Addr} {sl46 : Array (Option Value)} {oc46 kV46 dc46 pm46 cd46 ct46 : Value}
    {od47 an47 : Option Addr} {sl47 : Array (Option Value)} {oc47 kV47 dc47 pm47 cd47 ct47 : Value}
    {od48 an48 : Option Addr} {sl48 : Array (Option Value)} {oc48 kV48 dc48 pm48 cd48 ct48 : Value}
    {od49 an49 : Option Addr} {sl49 : Array (Option Value)} {oc49 kV49 dc49 pm49 cd49 ct49 : Value}
    {od50 an50 : Option Addr} {sl50 : Array (Option Value)} {oc50 kV50 dc50 pm50 cd50 ct50 : Value}
    {od51 an51 : Option Addr} {sl51 : Array (Option Value)} {oc51 kV51 dc51 pm51 cd51 ct51 : Value}
    {od52 an52 : Option Addr} {sl52 : Array (Option Value)} {oc52 kV52 dc52 pm52 cd52 ct52 : Value}
    {od53 an53 : Option Addr} {sl53 : Array (Option Value)} {oc53 kV53 dc53 pm53 cd53 ct53 : Value}
    {od54 an54 : Option Addr} {sl54 : Array (Option Value)} {oc54 kV54 dc54 pm54 cd54 ct54 : Value}
    {od55 an55 : Option Addr} {sl55 : Array (Option Value)} {oc55 kV55 dc55 pm55 cd55 ct55 : Value}
    {od56 an56 : Option Addr} {sl56 : Array (Option Value)} {oc56 kV56 dc56 pm56 cd56 ct56 : Value}
    {t_MOST_IN_PATH : Tok}
    {t_NO_SUCH : Tok}
    {t_NOT_BEGUN : Tok}
    {t_NOT_FIT : Tok}
    {t_NONE_THERE : Tok}
    {t_TOO_MUCH : Tok}
    {t_MOST_IN_ROW : Tok}
    {t_MOST_PAY : Tok}
    {t_MOST_FACTOR : Tok}
    {r0 r1 r2 r3 r4 r5 r6 r7 r8 r9 r10 r11 r12 r13 r14 r15 r16 r17 r18 r19 : Addr} {odT : Option Addr} {slT : Array (Option Value)} {nT : Nat}
    {tk0_0 tk0_1 tk0_2 : Tok} {odR0 : Option Addr} {slR0 : Array (Option Value)} {nR0 : Nat}
    {tk1_0 tk1_1 tk1_2 : Tok} {odR1 : Option Addr} {slR1 : Array (Option Value)} {nR1 : Nat}
    {tk2_0 tk2_1 tk2_2 : Tok} {odR2 : Option Addr} {slR2 : Array (Option Value)} {nR2 : Nat}
    {tk3_0 tk3_1 tk3_2 : Tok} {odR3 : Option Addr} {slR3 : Array (Option Value)} {nR3 : Nat}
    {tk4_0 tk4_1 tk4_2 : Tok} {odR4 : Option Addr} {slR4 : Array (Option Value)} {nR4 : Nat}
    {tk5_0 tk5_1 tk5_2 : Tok} {odR5 : Option Addr} {slR5 : Array (Option Value)} {nR5 : Nat}
    {tk6_0 tk6_1 tk6_2 : Tok} {odR6 : Option Addr} {slR6 : Array (Option Value)} {nR6 : Nat}
    {tk7_0 tk7_1 tk7_2 : Tok} {odR7 : Option Addr} {slR7 : Array (Option Value)} {nR7 : Nat}
    {tk8_0 tk8_1 tk8_2 : Tok} {odR8 : Option Addr} {slR8 : Array (Option Value)} {nR8 : Nat}
    {tk9_0 tk9_1 tk9_2 : Tok} {odR9 : Option Addr} {slR9 : Array (Option Value)} {nR9 : Nat}
    {tk10_0 tk10_1 tk10_2 : Tok} {odR10 : Option Addr} {slR10 : Array (Option Value)} {nR10 : Nat}
    {tk11_0 tk11_1 tk11_2 : Tok} {odR11 : Option Addr} {slR11 : Array (Option Value)} {nR11 : Nat}
    {tk12_0 tk12_1 tk12_2 : Tok} {odR12 : Option Addr} {slR12 : Array (Option Value)} {nR12 : Nat}
    {tk13_0 tk13_1 tk13_2 : Tok} {odR13 : Option Addr} {slR13 : Array (Option Value)} {nR13 : Nat}
    {tk14_0 tk14_1 tk14_2 : Tok} {odR14 : Option Addr} {slR14 : Array (Option Value)} {nR14 : Nat}
    {tk15_0 tk15_1 tk15_2 : Tok} {odR15 : Option Addr} {slR15 : Array (Option Value)} {nR15 : Nat}
    {tk16_0 tk16_1 tk16_2 : Tok} {odR16 : Option Addr} {slR16 : Array (Option Value)} {nR16 : Nat}
    {tk17_0 tk17_1 tk17_2 : Tok} {odR17 : Option Addr} {slR17 : Array (Option Value)} {nR17 : Nat}
    {tk18_0 tk18_1 tk18_2 : Tok} {odR18 : Option Addr} {slR18 : Array (Option Value)} {nR18 : Nat}
    {tk19_0 tk19_1 tk19_2 : Tok} {odR19 : Option Addr} {slR19 : Array (Option Value)} {nR19 : Nat}
    (aCS : PySem.W.nsIn K mainGlobals "Setting" = some (some (.ref CS))) (pgCS : PySem.W.plainGet K CS Str.empty = true) (hdCS : PySem.W.hasDictIn K CS = true) (poCS : PySem.W.plainOver K CS = true) (saCS : PySem.W.findIn K (.ref CS) "__setattr__" = some (some (.builtin "object.__setattr__"))) (mkCS : PySem.W.makesIn K CS = true) (kcCS : PySem.W.keepIn K (.ref CS) = true)
    (aC : PySem.W.nsIn K mainGlobals "Tables" = some (some (.ref C))) (pgC : PySem.W.plainGet K C Str.empty = true) (hdC : PySem.W.hasDictIn K C = true) (poC : PySem.W.plainOver K C = true) (saC : PySem.W.findIn K (.ref C) "__setattr__" = some (some (.builtin "object.__setattr__"))) (mkC : PySem.W.makesIn K C = true) (kcC : PySem.W.keepIn K (.ref C) = true)
    (a1 : PySem.W.nsIn K mainGlobals "common_part" = some (some (.ref f1)))
    (l1 : K.lookup f1 = some ⟨oc1, od1, .func (PySem.W.fnOf "common_part" "common_part" (defArgs s_common_part) (defBody s_common_part) (defScope s_common_part) .none kV1 dc1 pm1 an1 cd1 ct1), sl1⟩) (c1 : PySem.W.codeIn K cd1 "common_part" = true) (k1 : PySem.W.keepIn K (.ref f1) = true)
    (a2 : PySem.W.nsIn K mainGlobals "fraction" = some (some (.ref f2)))
    (l2 : K.lookup f2 = some ⟨oc2, od2, .func (PySem.W.fnOf "fraction" "fraction" (defArgs s_fraction) (defBody s_fraction) (defScope s_fraction) .none kV2 dc2 pm2 an2 cd2 ct2), sl2⟩) (c2 : PySem.W.codeIn K cd2 "fraction" = true) (k2 : PySem.W.keepIn K (.ref f2) = true)
    (a3 : PySem.W.nsIn K mainGlobals "all_zero" = some (some (.ref f3)))
    (l3 : K.lookup f3 = some ⟨oc3, od3, .func (PySem.W.fnOf "all_zero" "all_zero" (defArgs s_all_zero) (defBody s_all_zero) (defScope s_all_zero) .none kV3 dc3 pm3 an3 cd3 ct3), sl3⟩) (c3 : PySem.W.codeIn K cd3 "all_zero" = true) (k3 : PySem.W.keepIn K (.ref f3) = true)
    (a4 : PySem.W.nsIn K mainGlobals "first_not_zero" = some (some (.ref f4)))
    (l4 : K.lookup f4 = some ⟨oc4, od4, .func (PySem.W.fnOf "first_not_zero" "first_not_zero" (defArgs s_first_not_zero) (defBody s_first_not_zero) (defScope s_first_not_zero) .none kV4 dc4 pm4 an4 cd4 ct4), sl4⟩) (c4 : PySem.W.codeIn K cd4 "first_not_zero" = true) (k4 : PySem.W.keepIn K (.ref f4) = true)
    (a5 : PySem.W.nsIn K mainGlobals "factor_between" = some (some (.ref f5)))
    (l5 : K.lookup f5 = some ⟨oc5, od5, .func (PySem.W.fnOf "factor_between" "factor_between" (defArgs s_factor_between) (defBody s_factor_between) (defScope s_factor_between) .none kV5 dc5 pm5 an5 cd5 ct5), sl5⟩) (c5 : PySem.W.codeIn K cd5 "factor_between" = true) (k5 : PySem.W.keepIn K (.ref f5) = true)
    (a6 : PySem.W.findIn K (.ref CS) "__init__" = some (some (.ref f6))) (i6 : PySem.W.isFn K (.ref f6) = true)
    (l6 : K.lookup f6 = some ⟨oc6, od6, .func (PySem.W.fnOf "__init__" "Setting.__init__" (defArgs s_Setting_init) (defBody s_Setting_init) (defScope s_Setting_init) .none kV6 dc6 pm6 an6 cd6 ct6), sl6⟩) (c6 : PySem.W.codeIn K cd6 "Setting.__init__" = true) (k6 : PySem.W.keepIn K (.ref f6) = true)
    (a7 : PySem.W.findIn K (.ref CS) "size" = some (some (.ref f7))) (i7 : PySem.W.isFn K (.ref f7) = true)
    (l7 : K.lookup f7 = some ⟨oc7, od7, .func (PySem.W.fnOf "size" "Setting.size" (defArgs s_Setting_size) (defBody s_Setting_size) (defScope s_Setting_size) .none kV7 dc7 pm7 an7 cd7 ct7), sl7⟩) (c7 : PySem.W.codeIn K cd7 "Setting.size" = true) (k7 : PySem.W.keepIn K (.ref f7) = true)
    (a8 : PySem.W.findIn K (.ref CS) "spot" = some (some (.ref f8))) (i8 : PySem.W.isFn K (.ref f8) = true)
    (l8 : K.lookup f8 = some ⟨oc8, od8, .func (PySem.W.fnOf "spot" "Setting.spot" (defArgs s_Setting_spot) (defBody s_Setting_spot) (defScope s_Setting_spot) .none kV8 dc8 pm8 an8 cd8 ct8), sl8⟩) (c8 : PySem.W.codeIn K cd8 "Setting.spot" = true) (k8 : PySem.W.keepIn K (.ref f8) = true)
    (a9 : PySem.W.findIn K (.ref CS) "where" = some (some (.ref f9))) (i9 : PySem.W.isFn K (.ref f9) = true)
    (l9 : K.lookup f9 = some ⟨oc9, od9, .func (PySem.W.fnOf "where" "Setting.where" (defArgs s_Setting_where) (defBody s_Setting_where) (defScope s_Setting_where) .none kV9 dc9 pm9 an9 cd9 ct9), sl9⟩) (c9 : PySem.W.codeIn K cd9 "Setting.where" = true) (k9 : PySem.W.keepIn K (.ref f9) = true)
    (a10 : PySem.W.findIn K (.ref CS) "stay" = some (some (.ref f10))) (i10 : PySem.W.isFn K (.ref f10) = true)
    (l10 : K.lookup f10 = some ⟨oc10, od10, .func (PySem.W.fnOf "stay" "Setting.stay" (defArgs s_Setting_stay) (defBody s_Setting_stay) (defScope s_Setting_stay) .none kV10 dc10 pm10 an10 cd10 ct10), sl10⟩) (c10 : PySem.W.codeIn K cd10 "Setting.stay" = true) (k10 : PySem.W.keepIn K (.ref f10) = true)
    (a11 : PySem.W.findIn K (.ref CS) "divisor" = some (some (.ref f11))) (i11 : PySem.W.isFn K (.ref f11) = true)
    (l11 : K.lookup f11 = some ⟨oc11, od11, .func (PySem.W.fnOf "divisor" "Setting.divisor" (defArgs s_Setting_divisor) (defBody s_Setting_divisor) (defScope s_Setting_divisor) .none kV11 dc11 pm11 an11 cd11 ct11), sl11⟩) (c11 : PySem.W.codeIn K cd11 "Setting.divisor" = true) (k11 : PySem.W.keepIn K (.ref f11) = true)
    (a12 : PySem.W.findIn K (.ref CS) "own_potentials" = some (some (.ref f12))) (i12 : PySem.W.isFn K (.ref f12) = true)
    (l12 : K.lookup f12 = some ⟨oc12, od12, .func (PySem.W.fnOf "own_potentials" "Setting.own_potentials" (defArgs s_Setting_own_potentials) (defBody s_Setting_own_potentials) (defScope s_Setting_own_potentials) .none kV12 dc12 pm12 an12 cd12 ct12), sl12⟩) (c12 : PySem.W.codeIn K cd12 "Setting.own_potentials" = true) (k12 : PySem.W.keepIn K (.ref f12) = true)
    (a13 : PySem.W.findIn K (.ref CS) "least_pay" = some (some (.ref f13))) (i13 : PySem.W.isFn K (.ref f13) = true)
    (l13 : K.lookup f13 = some ⟨oc13, od13, .func (PySem.W.fnOf "least_pay" "Setting.least_pay" (defArgs s_Setting_least_pay) (defBody s_Setting_least_pay) (defScope s_Setting_least_pay) .none kV13 dc13 pm13 an13 cd13 ct13), sl13⟩) (c13 : PySem.W.codeIn K cd13 "Setting.least_pay" = true) (k13 : PySem.W.keepIn K (.ref f13) = true)
    (a14 : PySem.W.findIn K (.ref CS) "least_form" = some (some (.ref f14))) (i14 : PySem.W.isFn K (.ref f14) = true)
    (l14 : K.lookup f14 = some ⟨oc14, od14, .func (PySem.W.fnOf "least_form" "Setting.least_form" (defArgs s_Setting_least_form) (defBody s_Setting_least_form) (defScope s_Setting_least_form) .none kV14 dc14 pm14 an14 cd14 ct14), sl14⟩) (c14 : PySem.W.codeIn K cd14 "Setting.least_form" = true) (k14 : PySem.W.keepIn K (.ref f14) = true)
    (a15 : PySem.W.findIn K (.ref CS) "shaped" = some (some (.ref f15))) (i15 : PySem.W.isFn K (.ref f15) = true)
    (l15 : K.lookup f15 = some ⟨oc15, od15, .func (PySem.W.fnOf "shaped" "Setting.shaped" (defArgs s_Setting_shaped) (defBody s_Setting_shaped) (defScope s_Setting_shaped) .none kV15 dc15 pm15 an15 cd15 ct15), sl15⟩) (c15 : PySem.W.codeIn K cd15 "Setting.shaped" = true) (k15 : PySem.W.keepIn K (.ref f15) = true)
    (a16 : PySem.W.findIn K (.ref CS) "is_path" = some (some (.ref f16))) (i16 : PySem.W.isFn K (.ref f16) = true)
    (l16 : K.lookup f16 = some ⟨oc16, od16, .func (PySem.W.fnOf "is_path" "Setting.is_path" (defArgs s_Setting_is_path) (defBody s_Setting_is_path) (defScope s_Setting_is_path) .none kV16 dc16 pm16 an16 cd16 ct16), sl16⟩) (c16 : PySem.W.codeIn K cd16 "Setting.is_path" = true) (k16 : PySem.W.keepIn K (.ref f16) = true)
    (a17 : PySem.W.findIn K (.ref CS) "path_pay" = some (some (.ref f17))) (i17 : PySem.W.isFn K (.ref f17) = true)
    (l17 : K.lookup f17 = some ⟨oc17, od17, .func (PySem.W.fnOf "path_pay" "Setting.path_pay" (defArgs s_Setting_path_pay) (defBody s_Setting_path_pay) (defScope s_Setting_path_pay) .none kV17 dc17 pm17 an17 cd17 ct17), sl17⟩) (c17 : PySem.W.codeIn K cd17 "Setting.path_pay" = true) (k17 : PySem.W.keepIn K (.ref f17) = true)
    (a18 : PySem.W.nsIn K mainGlobals "refused" = some (some (.ref f18)))
    (l18 : K.lookup f18 = some ⟨oc18, od18, .func (PySem.W.fnOf "refused" "refused" (defArgs s_refused) (defBody s_refused) (defScope s_refused) .none kV18 dc18 pm18 an18 cd18 ct18), sl18⟩) (c18 : PySem.W.codeIn K cd18 "refused" = true) (k18 : PySem.W.keepIn K (.ref f18) = true)
    (a19 : PySem.W.nsIn K mainGlobals "within" = some (some (.ref f19)))
    (l19 : K.lookup f19 = some ⟨oc19, od19, .func (PySem.W.fnOf "within" "within" (defArgs s_within) (defBody s_within) (defScope s_within) .none kV19 dc19 pm19 an19 cd19 ct19), sl19⟩) (c19 : PySem.W.codeIn K cd19 "within" = true) (k19 : PySem.W.keepIn K (.ref f19) = true)
    (a20 : PySem.W.nsIn K mainGlobals "is_one_pay" = some (some (.ref f20)))
    (l20 : K.lookup f20 = some ⟨oc20, od20, .func (PySem.W.fnOf "is_one_pay" "is_one_pay" (defArgs s_is_one_pay) (defBody s_is_one_pay) (defScope s_is_one_pay) .none kV20 dc20 pm20 an20 cd20 ct20), sl20⟩) (c20 : PySem.W.codeIn K cd20 "is_one_pay" = true) (k20 : PySem.W.keepIn K (.ref f20) = true)
    (a21 : PySem.W.nsIn K mainGlobals "yes_or_no" = some (some (.ref f21)))
    (l21 : K.lookup f21 = some ⟨oc21, od21, .func (PySem.W.fnOf "yes_or_no" "yes_or_no" (defArgs s_yes_or_no) (defBody s_yes_or_no) (defScope s_yes_or_no) .none kV21 dc21 pm21 an21 cd21 ct21), sl21⟩) (c21 : PySem.W.codeIn K cd21 "yes_or_no" = true) (k21 : PySem.W.keepIn K (.ref f21) = true)
    (a22 : PySem.W.nsIn K mainGlobals "told_fractions" = some (some (.ref f22)))
    (l22 : K.lookup f22 = some ⟨oc22, od22, .func (PySem.W.fnOf "told_fractions" "told_fractions" (defArgs s_told_fractions) (defBody s_told_fractions) (defScope s_told_fractions) .none kV22 dc22 pm22 an22 cd22 ct22), sl22⟩) (c22 : PySem.W.codeIn K cd22 "told_fractions" = true) (k22 : PySem.W.keepIn K (.ref f22) = true)
    (a23 : PySem.W.findIn K (.ref C) "__init__" = some (some (.ref f23))) (i23 : PySem.W.isFn K (.ref f23) = true)
    (l23 : K.lookup f23 = some ⟨oc23, od23, .func (PySem.W.fnOf "__init__" "Tables.__init__" (defArgs s_Tables_init) (defBody s_Tables_init) (defScope s_Tables_init) .none kV23 dc23 pm23 an23 cd23 ct23), sl23⟩) (c23 : PySem.W.codeIn K cd23 "Tables.__init__" = true) (k23 : PySem.W.keepIn K (.ref f23) = true)
    (a24 : PySem.W.findIn K (.ref C) "begun" = some (some (.ref f24))) (i24 : PySem.W.isFn K (.ref f24) = true)
    (l24 : K.lookup f24 = some ⟨oc24, od24, .func (PySem.W.fnOf "begun" "Tables.begun" (defArgs s_Tables_begun) (defBody s_Tables_begun) (defScope s_Tables_begun) .none kV24 dc24 pm24 an24 cd24 ct24), sl24⟩) (c24 : PySem.W.codeIn K cd24 "Tables.begun" = true) (k24 : PySem.W.keepIn K (.ref f24) = true)
    (a25 : PySem.W.findIn K (.ref C) "has" = some (some (.ref f25))) (i25 : PySem.W.isFn K (.ref f25) = true)
    (l25 : K.lookup f25 = some ⟨oc25, od25, .func (PySem.W.fnOf "has" "Tables.has" (defArgs s_Tables_has) (defBody s_Tables_has) (defScope s_Tables_has) .none kV25 dc25 pm25 an25 cd25 ct25), sl25⟩) (c25 : PySem.W.codeIn K cd25 "Tables.has" = true) (k25 : PySem.W.keepIn K (.ref f25) = true)
    (a26 : PySem.W.findIn K (.ref C) "spot" = some (some (.ref f26))) (i26 : PySem.W.isFn K (.ref f26) = true)
    (l26 : K.lookup f26 = some ⟨oc26, od26, .func (PySem.W.fnOf "spot" "Tables.spot" (defArgs s_Tables_spot) (defBody s_Tables_spot) (defScope s_Tables_spot) .none kV26 dc26 pm26 an26 cd26 ct26), sl26⟩) (c26 : PySem.W.codeIn K cd26 "Tables.spot" = true) (k26 : PySem.W.keepIn K (.ref f26) = true)
    (a27 : PySem.W.findIn K (.ref C) "begin" = some (some (.ref f27))) (i27 : PySem.W.isFn K (.ref f27) = true)
    (l27 : K.lookup f27 = some ⟨oc27, od27, .func (PySem.W.fnOf "begin" "Tables.begin" (defArgs s_Tables_begin) (defBody s_Tables_begin) (defScope s_Tables_begin) .none kV27 dc27 pm27 an27 cd27 ct27), sl27⟩) (c27 : PySem.W.codeIn K cd27 "Tables.begin" = true) (k27 : PySem.W.keepIn K (.ref f27) = true)
    (a28 : PySem.W.findIn K (.ref C) "set_pay" = some (some (.ref f28))) (i28 : PySem.W.isFn K (.ref f28) = true)
    (l28 : K.lookup f28 = some ⟨oc28, od28, .func (PySem.W.fnOf "set_pay" "Tables.set_pay" (defArgs s_Tables_set_pay) (defBody s_Tables_set_pay) (defScope s_Tables_set_pay) .none kV28 dc28 pm28 an28 cd28 ct28), sl28⟩) (c28 : PySem.W.codeIn K cd28 "Tables.set_pay" = true) (k28 : PySem.W.keepIn K (.ref f28) = true)
    (a29 : PySem.W.findIn K (.ref C) "fill" = some (some (.ref f29))) (i29 : PySem.W.isFn K (.ref f29) = true)
    (l29 : K.lookup f29 = some ⟨oc29, od29, .func (PySem.W.fnOf "fill" "Tables.fill" (defArgs s_Tables_fill) (defBody s_Tables_fill) (defScope s_Tables_fill) .none kV29 dc29 pm29 an29 cd29 ct29), sl29⟩) (c29 : PySem.W.codeIn K cd29 "Tables.fill" = true) (k29 : PySem.W.keepIn K (.ref f29) = true)
    (a30 : PySem.W.findIn K (.ref C) "payis" = some (some (.ref f30))) (i30 : PySem.W.isFn K (.ref f30) = true)
    (l30 : K.lookup f30 = some ⟨oc30, od30, .func (PySem.W.fnOf "payis" "Tables.payis" (defArgs s_Tables_payis) (defBody s_Tables_payis) (defScope s_Tables_payis) .none kV30 dc30 pm30 an30 cd30 ct30), sl30⟩) (c30 : PySem.W.codeIn K cd30 "Tables.payis" = true) (k30 : PySem.W.keepIn K (.ref f30) = true)
    (a31 : PySem.W.findIn K (.ref C) "copy_other" = some (some (.ref f31))) (i31 : PySem.W.isFn K (.ref f31) = true)
    (l31 : K.lookup f31 = some ⟨oc31, od31, .func (PySem.W.fnOf "copy_other" "Tables.copy_other" (defArgs s_Tables_copy_other) (defBody s_Tables_copy_other) (defScope s_Tables_copy_other) .none kV31 dc31 pm31 an31 cd31 ct31), sl31⟩) (c31 : PySem.W.codeIn K cd31 "Tables.copy_other" = true) (k31 : PySem.W.keepIn K (.ref f31) = true)
    (a32 : PySem.W.findIn K (.ref C) "swap" = some (some (.ref f32))) (i32 : PySem.W.isFn K (.ref f32) = true)
    (l32 : K.lookup f32 = some ⟨oc32, od32, .func (PySem.W.fnOf "swap" "Tables.swap" (defArgs s_Tables_swap) (defBody s_Tables_swap) (defScope s_Tables_swap) .none kV32 dc32 pm32 an32 cd32 ct32), sl32⟩) (c32 : PySem.W.codeIn K cd32 "Tables.swap" = true) (k32 : PySem.W.keepIn K (.ref f32) = true)
    (a33 : PySem.W.findIn K (.ref C) "take_bounded" = some (some (.ref f33))) (i33 : PySem.W.isFn K (.ref f33) = true)
    (l33 : K.lookup f33 = some ⟨oc33, od33, .func (PySem.W.fnOf "take_bounded" "Tables.take_bounded" (defArgs s_Tables_take_bounded) (defBody s_Tables_take_bounded) (defScope s_Tables_take_bounded) .none kV33 dc33 pm33 an33 cd33 ct33), sl33⟩) (c33 : PySem.W.codeIn K cd33 "Tables.take_bounded" = true) (k33 : PySem.W.keepIn K (.ref f33) = true)
    (a34 : PySem.W.findIn K (.ref C) "shape" = some (some (.ref f34))) (i34 : PySem.W.isFn K (.ref f34) = true)
    (l34 : K.lookup f34 = some ⟨oc34, od34, .func (PySem.W.fnOf "shape" "Tables.shape" (defArgs s_Tables_shape) (defBody s_Tables_shape) (defScope s_Tables_shape) .none kV34 dc34 pm34 an34 cd34 ct34), sl34⟩) (c34 : PySem.W.codeIn K cd34 "Tables.shape" = true) (k34 : PySem.W.keepIn K (.ref f34) = true)
    (a35 : PySem.W.findIn K (.ref C) "scale" = some (some (.ref f35))) (i35 : PySem.W.isFn K (.ref f35) = true)
    (l35 : K.lookup f35 = some ⟨oc35, od35, .func (PySem.W.fnOf "scale" "Tables.scale" (defArgs s_Tables_scale) (defBody s_Tables_scale) (defScope s_Tables_scale) .none kV35 dc35 pm35 an35 cd35 ct35), sl35⟩) (c35 : PySem.W.codeIn K cd35 "Tables.scale" = true) (k35 : PySem.W.keepIn K (.ref f35) = true)
    (a36 : PySem.W.findIn K (.ref C) "potof" = some (some (.ref f36))) (i36 : PySem.W.isFn K (.ref f36) = true)
    (l36 : K.lookup f36 = some ⟨oc36, od36, .func (PySem.W.fnOf "potof" "Tables.potof" (defArgs s_Tables_potof) (defBody s_Tables_potof) (defScope s_Tables_potof) .none kV36 dc36 pm36 an36 cd36 ct36), sl36⟩) (c36 : PySem.W.codeIn K cd36 "Tables.potof" = true) (k36 : PySem.W.keepIn K (.ref f36) = true)
    (a37 : PySem.W.findIn K (.ref C) "least" = some (some (.ref f37))) (i37 : PySem.W.isFn K (.ref f37) = true)
    (l37 : K.lookup f37 = some ⟨oc37, od37, .func (PySem.W.fnOf "least" "Tables.least" (defArgs s_Tables_least) (defBody s_Tables_least) (defScope s_Tables_least) .none kV37 dc37 pm37 an37 cd37 ct37), sl37⟩) (c37 : PySem.W.codeIn K cd37 "Tables.least" = true) (k37 : PySem.W.keepIn K (.ref f37) = true)
    (a38 : PySem.W.findIn K (.ref C) "leastrow" = some (some (.ref f38))) (i38 : PySem.W.isFn K (.ref f38) = true)
    (l38 : K.lookup f38 = some ⟨oc38, od38, .func (PySem.W.fnOf "leastrow" "Tables.leastrow" (defArgs s_Tables_leastrow) (defBody s_Tables_leastrow) (defScope s_Tables_leastrow) .none kV38 dc38 pm38 an38 cd38 ct38), sl38⟩) (c38 : PySem.W.codeIn K cd38 "Tables.leastrow" = true) (k38 : PySem.W.keepIn K (.ref f38) = true)
    (a39 : PySem.W.findIn K (.ref C) "is_trivial" = some (some (.ref f39))) (i39 : PySem.W.isFn K (.ref f39) = true)
    (l39 : K.lookup f39 = some ⟨oc39, od39, .func (PySem.W.fnOf "is_trivial" "Tables.is_trivial" (defArgs s_Tables_is_trivial) (defBody s_Tables_is_trivial) (defScope s_Tables_is_trivial) .none kV39 dc39 pm39 an39 cd39 ct39), sl39⟩) (c39 : PySem.W.codeIn K cd39 "Tables.is_trivial" = true) (k39 : PySem.W.keepIn K (.ref f39) = true)
    (a40 : PySem.W.findIn K (.ref C) "trivial" = some (some (.ref f40))) (i40 : PySem.W.isFn K (.ref f40) = true)
    (l40 : K.lookup f40 = some ⟨oc40, od40, .func (PySem.W.fnOf "trivial" "Tables.trivial" (defArgs s_Tables_trivial) (defBody s_Tables_trivial) (defScope s_Tables_trivial) .none kV40 dc40 pm40 an40 cd40 ct40), sl40⟩) (c40 : PySem.W.codeIn K cd40 "Tables.trivial" = true) (k40 : PySem.W.keepIn K (.ref f40) = true)
    (a41 : PySem.W.findIn K (.ref C) "apart" = some (some (.ref f41))) (i41 : PySem.W.isFn K (.ref f41) = true)
    (l41 : K.lookup f41 = some ⟨oc41, od41, .func (PySem.W.fnOf "apart" "Tables.apart" (defArgs s_Tables_apart) (defBody s_Tables_apart) (defScope s_Tables_apart) .none kV41 dc41 pm41 an41 cd41 ct41), sl41⟩) (c41 : PySem.W.codeIn K cd41 "Tables.apart" = true) (k41 : PySem.W.keepIn K (.ref f41) = true)
    (a42 : PySem.W.findIn K (.ref C) "alike" = some (some (.ref f42))) (i42 : PySem.W.isFn K (.ref f42) = true)
    (l42 : K.lookup f42 = some ⟨oc42, od42, .func (PySem.W.fnOf "alike" "Tables.alike" (defArgs s_Tables_alike) (defBody s_Tables_alike) (defScope s_Tables_alike) .none kV42 dc42 pm42 an42 cd42 ct42), sl42⟩) (c42 : PySem.W.codeIn K cd42 "Tables.alike" = true) (k42 : PySem.W.keepIn K (.ref f42) = true)
    (a43 : PySem.W.findIn K (.ref C) "potentials" = some (some (.ref f43))) (i43 : PySem.W.isFn K (.ref f43) = true)
    (l43 : K.lookup f43 = some ⟨oc43, od43, .func (PySem.W.fnOf "potentials" "Tables.potentials" (defArgs s_Tables_potentials) (defBody s_Tables_potentials) (defScope s_Tables_potentials) .none kV43 dc43 pm43 an43 cd43 ct43), sl43⟩) (c43 : PySem.W.codeIn K cd43 "Tables.potentials" = true) (k43 : PySem.W.keepIn K (.ref f43) = true)
    (a44 : PySem.W.findIn K (.ref C) "factor" = some (some (.ref f44))) (i44 : PySem.W.isFn K (.ref f44) = true)
    (l44 : K.lookup f44 = some ⟨oc44, od44, .func (PySem.W.fnOf "factor" "Tables.factor" (defArgs s_Tables_factor) (defBody s_Tables_factor) (defScope s_Tables_factor) .none kV44 dc44 pm44 an44 cd44 ct44), sl44⟩) (c44 : PySem.W.codeIn K cd44 "Tables.factor" = true) (k44 : PySem.W.keepIn K (.ref f44) = true)
    (a45 : PySem.W.findIn K (.ref C) "far" = some (some (.ref f45))) (i45 : PySem.W.isFn K (.ref f45) = true)
    (l45 : K.lookup f45 = some ⟨oc45, od45, .func (PySem.W.fnOf "far" "Tables.far" (defArgs s_Tables_far) (defBody s_Tables_far) (defScope s_Tables_far) .none kV45 dc45 pm45 an45 cd45 ct45), sl45⟩) (c45 : PySem.W.codeIn K cd45 "Tables.far" = true) (k45 : PySem.W.keepIn K (.ref f45) = true)
    (a46 : PySem.W.findIn K (.ref C) "differ" = some (some (.ref f46))) (i46 : PySem.W.isFn K (.ref f46) = true)
    (l46 : K.lookup f46 = some ⟨oc46, od46, .func (PySem.W.fnOf "differ" "Tables.differ" (defArgs s_Tables_differ) (defBody s_Tables_differ) (defScope s_Tables_differ) .none kV46 dc46 pm46 an46 cd46 ct46), sl46⟩) (c46 : PySem.W.codeIn K cd46 "Tables.differ" = true) (k46 : PySem.W.keepIn K (.ref f46) = true)
    (a47 : PySem.W.findIn K (.ref C) "ifset" = some (some (.ref f47))) (i47 : PySem.W.isFn K (.ref f47) = true)
    (l47 : K.lookup f47 = some ⟨oc47, od47, .func (PySem.W.fnOf "ifset" "Tables.ifset" (defArgs s_Tables_ifset) (defBody s_Tables_ifset) (defScope s_Tables_ifset) .none kV47 dc47 pm47 an47 cd47 ct47), sl47⟩) (c47 : PySem.W.codeIn K cd47 "Tables.ifset" = true) (k47 : PySem.W.keepIn K (.ref f47) = true)
    (a48 : PySem.W.findIn K (.ref C) "told_path" = some (some (.ref f48))) (i48 : PySem.W.isFn K (.ref f48) = true)
    (l48 : K.lookup f48 = some ⟨oc48, od48, .func (PySem.W.fnOf "told_path" "Tables.told_path" (defArgs s_Tables_told_path) (defBody s_Tables_told_path) (defScope s_Tables_told_path) .none kV48 dc48 pm48 an48 cd48 ct48), sl48⟩) (c48 : PySem.W.codeIn K cd48 "Tables.told_path" = true) (k48 : PySem.W.keepIn K (.ref f48) = true)
    (a49 : PySem.W.findIn K (.ref C) "path" = some (some (.ref f49))) (i49 : PySem.W.isFn K (.ref f49) = true)
    (l49 : K.lookup f49 = some ⟨oc49, od49, .func (PySem.W.fnOf "path" "Tables.path" (defArgs s_Tables_path) (defBody s_Tables_path) (defScope s_Tables_path) .none kV49 dc49 pm49 an49 cd49 ct49), sl49⟩) (c49 : PySem.W.codeIn K cd49 "Tables.path" = true) (k49 : PySem.W.keepIn K (.ref f49) = true)
    (a50 : PySem.W.findIn K (.ref C) "gap" = some (some (.ref f50))) (i50 : PySem.W.isFn K (.ref f50) = true)
    (l50 : K.lookup f50 = some ⟨oc50, od50, .func (PySem.W.fnOf "gap" "Tables.gap" (defArgs s_Tables_gap) (defBody s_Tables_gap) (defScope s_Tables_gap) .none kV50 dc50 pm50 an50 cd50 ct50), sl50⟩) (c50 : PySem.W.codeIn K cd50 "Tables.gap" = true) (k50 : PySem.W.keepIn K (.ref f50) = true)
    (a51 : PySem.W.nsIn K mainGlobals "split_calls" = some (some (.ref f51)))
    (l51 : K.lookup f51 = some ⟨oc51, od51, .func (PySem.W.fnOf "split_calls" "split_calls" (defArgs s_split_calls) (defBody s_split_calls) (defScope s_split_calls) .none kV51 dc51 pm51 an51 cd51 ct51), sl51⟩) (c51 : PySem.W.codeIn K cd51 "split_calls" = true) (k51 : PySem.W.keepIn K (.ref f51) = true)
    (a52 : PySem.W.nsIn K mainGlobals "change" = some (some (.ref f52)))
    (l52 : K.lookup f52 = some ⟨oc52, od52, .func (PySem.W.fnOf "change" "change" (defArgs s_change) (defBody s_change) (defScope s_change) .none kV52 dc52 pm52 an52 cd52 ct52), sl52⟩) (c52 : PySem.W.codeIn K cd52 "change" = true) (k52 : PySem.W.keepIn K (.ref f52) = true)
    (a53 : PySem.W.nsIn K mainGlobals "tell_of_one" = some (some (.ref f53)))
    (l53 : K.lookup f53 = some ⟨oc53, od53, .func (PySem.W.fnOf "tell_of_one" "tell_of_one" (defArgs s_tell_of_one) (defBody s_tell_of_one) (defScope s_tell_of_one) .none kV53 dc53 pm53 an53 cd53 ct53), sl53⟩) (c53 : PySem.W.codeIn K cd53 "tell_of_one" = true) (k53 : PySem.W.keepIn K (.ref f53) = true)
    (a54 : PySem.W.nsIn K mainGlobals "tell_of_both" = some (some (.ref f54)))
    (l54 : K.lookup f54 = some ⟨oc54, od54, .func (PySem.W.fnOf "tell_of_both" "tell_of_both" (defArgs s_tell_of_both) (defBody s_tell_of_both) (defScope s_tell_of_both) .none kV54 dc54 pm54 an54 cd54 ct54), sl54⟩) (c54 : PySem.W.codeIn K cd54 "tell_of_both" = true) (k54 : PySem.W.keepIn K (.ref f54) = true)
    (a55 : PySem.W.nsIn K mainGlobals "answer" = some (some (.ref f55)))
    (l55 : K.lookup f55 = some ⟨oc55, od55, .func (PySem.W.fnOf "answer" "answer" (defArgs s_answer) (defBody s_answer) (defScope s_answer) .none kV55 dc55 pm55 an55 cd55 ct55), sl55⟩) (c55 : PySem.W.codeIn K cd55 "answer" = true) (k55 : PySem.W.keepIn K (.ref f55) = true)
    (a56 : PySem.W.nsIn K mainGlobals "answers" = some (some (.ref f56)))
    (l56 : K.lookup f56 = some ⟨oc56, od56, .func (PySem.W.fnOf "answers" "answers" (defArgs s_answers) (defBody s_answers) (defScope s_answers) .none kV56 dc56 pm56 an56 cd56 ct56), sl56⟩) (c56 : PySem.W.codeIn K cd56 "answers" = true) (k56 : PySem.W.keepIn K (.ref f56) = true)
    (nf_places : PySem.W.findIn K (.ref CS) "places" = some none)
    (nf_acts : PySem.W.findIn K (.ref CS) "acts" = some none)
    (nf_g : PySem.W.findIn K (.ref CS) "g" = some none)
    (nf_h : PySem.W.findIn K (.ref CS) "h" = some none)
    (nf_setting : PySem.W.findIn K (.ref C) "setting" = some none)
    (nf_pays : PySem.W.findIn K (.ref C) "pays" = some none)
    (zb_abs : PySem.W.nsIn K mainGlobals "abs" = some none)
    (zb_len : PySem.W.nsIn K mainGlobals "len" = some none)
    (zb_range : PySem.W.nsIn K mainGlobals "range" = some none)
    (zb_list : PySem.W.nsIn K mainGlobals "list" = some none)
    (zb_max : PySem.W.nsIn K mainGlobals "max" = some none)
    (gc_MOST_IN_PATH : PySem.W.nsIn K mainGlobals "MOST_IN_PATH" = some (some (.int 13 t_MOST_IN_PATH)))
    (gc_NO_SUCH : PySem.W.nsIn K mainGlobals "NO_SUCH" = some (some (.int 2 t_NO_SUCH)))
    (gc_NOT_BEGUN : PySem.W.nsIn K mainGlobals "NOT_BEGUN" = some (some (.int 11 t_NOT_BEGUN)))
    (gc_NOT_FIT : PySem.W.nsIn K mainGlobals "NOT_FIT" = some (some (.int 22 t_NOT_FIT)))
    (gc_NONE_THERE : PySem.W.nsIn K mainGlobals "NONE_THERE" = some (some (.int 33 t_NONE_THERE)))
    (gc_TOO_MUCH : PySem.W.nsIn K mainGlobals "TOO_MUCH" = some (some (.int 75 t_TOO_MUCH)))
    (gc_MOST_IN_ROW : PySem.W.nsIn K mainGlobals "MOST_IN_ROW" = some (some (.int 1000 t_MOST_IN_ROW)))
    (gc_MOST_PAY : PySem.W.nsIn K mainGlobals "MOST_PAY" = some (some (.int 100000 t_MOST_PAY)))
    (gc_MOST_FACTOR : PySem.W.nsIn K mainGlobals "MOST_FACTOR" = some (some (.int 100 t_MOST_FACTOR)))
    (aT : PySem.W.nsIn K mainGlobals "CALLS" = some (some (.ref aC0))) (lT : K.lookup aC0 = some ⟨.type "tuple", odT, .seq #[.ref r0, .ref r1, .ref r2, .ref r3, .ref r4, .ref r5, .ref r6, .ref r7, .ref r8, .ref r9, .ref r10, .ref r11, .ref r12, .ref r13, .ref r14, .ref r15, .ref r16, .ref r17, .ref r18, .ref r19] nT, slT⟩)
    (lR0 : K.lookup r0 = some ⟨.type "tuple", odR0, .seq #[.str "begin" tk0_0, .int 4 tk0_1, .int 0 tk0_2, .bool false] nR0, slR0⟩)
    (lR1 : K.lookup r1 = some ⟨.type "tuple", odR1, .seq #[.str "set" tk1_0, .int 4 tk1_1, .int 4 tk1_2, .bool true] nR1, slR1⟩)
    (lR2 : K.lookup r2 = some ⟨.type "tuple", odR2, .seq #[.str "fill" tk2_0, .int 1 tk2_1, .int 1 tk2_2, .bool true] nR2, slR2⟩)
    (lR3 : K.lookup r3 = some ⟨.type "tuple", odR3, .seq #[.str "payis" tk3_0, .int 4 tk3_1, .int 4 tk3_2, .bool false] nR3, slR3⟩)
    (lR4 : K.lookup r4 = some ⟨.type "tuple", odR4, .seq #[.str "copy" tk4_0, .int 1 tk4_1, .int 1 tk4_2, .bool false] nR4, slR4⟩)
    (lR5 : K.lookup r5 = some ⟨.type "tuple", odR5, .seq #[.str "shape" tk5_0, .int 1 tk5_1, .int 1 tk5_2, .bool true] nR5, slR5⟩)
    (lR6 : K.lookup r6 = some ⟨.type "tuple", odR6, .seq #[.str "scale" tk6_0, .int 2 tk6_1, .int 1 tk6_2, .bool false] nR6, slR6⟩)
    (lR7 : K.lookup r7 = some ⟨.type "tuple", odR7, .seq #[.str "potof" tk7_0, .int 1 tk7_1, .int 1 tk7_2, .bool false] nR7, slR7⟩)
    (lR8 : K.lookup r8 = some ⟨.type "tuple", odR8, .seq #[.str "least" tk8_0, .int 4 tk8_1, .int 4 tk8_2, .bool false] nR8, slR8⟩)
    (lR9 : K.lookup r9 = some ⟨.type "tuple", odR9, .seq #[.str "leastrow" tk9_0, .int 3 tk9_1, .int 3 tk9_2, .bool false] nR9, slR9⟩)
    (lR10 : K.lookup r10 = some ⟨.type "tuple", odR10, .seq #[.str "alike" tk10_0, .int 0 tk10_1, .int 0 tk10_2, .bool false] nR10, slR10⟩)
    (lR11 : K.lookup r11 = some ⟨.type "tuple", odR11, .seq #[.str "potentials" tk11_0, .int 0 tk11_1, .int 0 tk11_2, .bool false] nR11, slR11⟩)
    (lR12 : K.lookup r12 = some ⟨.type "tuple", odR12, .seq #[.str "factor" tk12_0, .int 0 tk12_1, .int 0 tk12_2, .bool false] nR12, slR12⟩)
    (lR13 : K.lookup r13 = some ⟨.type "tuple", odR13, .seq #[.str "far" tk13_0, .int 0 tk13_1, .int 0 tk13_2, .bool false] nR13, slR13⟩)
    (lR14 : K.lookup r14 = some ⟨.type "tuple", odR14, .seq #[.str "differ" tk14_0, .int 0 tk14_1, .int 0 tk14_2, .bool false] nR14, slR14⟩)
    (lR15 : K.lookup r15 = some ⟨.type "tuple", odR15, .seq #[.str "path" tk15_0, .int 1 tk15_1, .int 1 tk15_2, .bool true] nR15, slR15⟩)
    (lR16 : K.lookup r16 = some ⟨.type "tuple", odR16, .seq #[.str "gap" tk16_0, .int 0 tk16_1, .int 0 tk16_2, .bool true] nR16, slR16⟩)
    (lR17 : K.lookup r17 = some ⟨.type "tuple", odR17, .seq #[.str "swap" tk17_0, .int 0 tk17_1, .int 0 tk17_2, .bool false] nR17, slR17⟩)
    (lR18 : K.lookup r18 = some ⟨.type "tuple", odR18, .seq #[.str "ifset" tk18_0, .int 4 tk18_1, .int 4 tk18_2, .bool true] nR18, slR18⟩)
    (lR19 : K.lookup r19 = some ⟨.type "tuple", odR19, .seq #[.str "trivial" tk19_0, .int 1 tk19_1, .int 1 tk19_2, .bool false] nR19, slR19⟩)
    : ∃ fd : FuncData, (∀ (s : Shared) (us : List Value), us.length = (["calls"] : List Str).length → BindsTo s fd ⟨us, []⟩ ((["calls"] : List Str).zip us)) ∧ ∀ base : Heap, K.In base → base.Ns mainGlobals mg → FnOk P w K mg base CX0 9 fa fd ["calls"] (spAns K) := by
  have e := hfa.symm.trans (PySem.W.mg_of X G a56)
  cases e
  have clCS : Cls K CS := ⟨pgCS, hdCS, poCS, saCS⟩
  have clC : Cls K C := ⟨pgC, hdC, poC, saC⟩
  have T : Txt K mg C CS := ⟨clCS, clC, nf_places, nf_acts, nf_g, nf_h, nf_setting, nf_pays, PySem.W.mg_none_of X G zb_abs, PySem.W.mg_none_of X G zb_len, PySem.W.mg_none_of X G zb_range, PySem.W.mg_none_of X G zb_list, PySem.W.mg_none_of X G zb_max, ⟨_, PySem.W.mg_of X G gc_MOST_IN_PATH, ⟨_, rfl⟩⟩, ⟨_, PySem.W.mg_of X G gc_NO_SUCH, ⟨_, rfl⟩⟩, ⟨_, PySem.W.mg_of X G gc_NOT_BEGUN, ⟨_, rfl⟩⟩, ⟨_, PySem.W.mg_of X G gc_NOT_FIT, ⟨_, rfl⟩⟩, ⟨_, PySem.W.mg_of X G gc_NONE_THERE, ⟨_, rfl⟩⟩, ⟨_, PySem.W.mg_of X G gc_TOO_MUCH, ⟨_, rfl⟩⟩, ⟨_, PySem.W.mg_of X G gc_MOST_IN_ROW, ⟨_, rfl⟩⟩, ⟨_, PySem.W.mg_of X G gc_MOST_PAY, ⟨_, rfl⟩⟩, ⟨_, PySem.W.mg_of X G gc_MOST_FACTOR, ⟨_, rfl⟩⟩⟩
  have Tc : Tab K mg aC0 := by
    refine ⟨⟨_, PySem.W.mg_of X G aT, rfl⟩, [r0, r1, r2, r3, r4, r5, r6, r7, r8, r9, r10, r11, r12, r13, r14, r15, r16, r17, r18, r19], fun H => .inr ⟨_, _, _, lT, rfl, rfl, by show 20 ≤ sizeLine; decide, ?_⟩, fun i e h => ?_⟩
    · exact (.cons rfl (.cons rfl (.cons rfl (.cons rfl (.cons rfl (.cons rfl (.cons rfl (.cons rfl (.cons rfl (.cons rfl (.cons rfl (.cons rfl (.cons rfl (.cons rfl (.cons rfl (.cons rfl (.cons rfl (.cons rfl (.cons rfl (.cons rfl .nil))))))))))))))))))))
    · have hi : i < 20 := by
        have := (List.getElem?_eq_some_iff.mp h).1
        exact this
      have hd : i = 0 ∨ i = 1 ∨ i = 2 ∨ i = 3 ∨ i = 4 ∨ i = 5 ∨ i = 6 ∨ i = 7 ∨ i = 8 ∨ i = 9 ∨ i = 10 ∨ i = 11 ∨ i = 12 ∨ i = 13 ∨ i = 14 ∨ i = 15 ∨ i = 16 ∨ i = 17 ∨ i = 18 ∨ i = 19 := by omega
      rcases hd with rfl | rfl | rfl | rfl | rfl | rfl | rfl | rfl | rfl | rfl | rfl | rfl | rfl | rfl | rfl | rfl | rfl | rfl | rfl | rfl
      · cases h; exact ⟨_, rfl, fun H => .inr ⟨_, _, _, lR0, rfl, rfl, by show 4 ≤ sizeLine; decide, (.cons ⟨_, rfl⟩ (.cons ⟨_, rfl⟩ (.cons ⟨_, rfl⟩ (.cons rfl .nil))))⟩⟩
      · cases h; exact ⟨_, rfl, fun H => .inr ⟨_, _, _, lR1, rfl, rfl, by show 4 ≤ sizeLine; decide, (.cons ⟨_, rfl⟩ (.cons ⟨_, rfl⟩ (.cons ⟨_, rfl⟩ (.cons rfl .nil))))⟩⟩
      · cases h; exact ⟨_, rfl, fun H => .inr ⟨_, _, _, lR2, rfl, rfl, by show 4 ≤ sizeLine; decide, (.cons ⟨_, rfl⟩ (.cons ⟨_, rfl⟩ (.cons ⟨_, rfl⟩ (.cons rfl .nil))))⟩⟩
      · cases h; exact ⟨_, rfl, fun H => .inr ⟨_, _, _, lR3, rfl, rfl, by show 4 ≤ sizeLine; decide, (.cons ⟨_, rfl⟩ (.cons ⟨_, rfl⟩ (.cons ⟨_, rfl⟩ (.cons rfl .nil))))⟩⟩
      · cases h; exact ⟨_, rfl, fun H => .inr ⟨_, _, _, lR4, rfl, rfl, by show 4 ≤ sizeLine; decide, (.cons ⟨_, rfl⟩ (.cons ⟨_, rfl⟩ (.cons ⟨_, rfl⟩ (.cons rfl .nil))))⟩⟩
      · cases h; exact ⟨_, rfl, fun H => .inr ⟨_, _, _, lR5, rfl, rfl, by show 4 ≤ sizeLine; decide, (.cons ⟨_, rfl⟩ (.cons ⟨_, rfl⟩ (.cons ⟨_, rfl⟩ (.cons rfl .nil))))⟩⟩
      · cases h; exact ⟨_, rfl, fun H => .inr ⟨_, _, _, lR6, rfl, rfl, by show 4 ≤ sizeLine; decide, (.cons ⟨_, rfl⟩ (.cons ⟨_, rfl⟩ (.cons ⟨_, rfl⟩ (.cons rfl .nil))))⟩⟩
      · cases h; exact ⟨_, rfl, fun H => .inr ⟨_, _, _, lR7, rfl, rfl, by show 4 ≤ sizeLine; decide, (.cons ⟨_, rfl⟩ (.cons ⟨_, rfl⟩ (.cons ⟨_, rfl⟩ (.cons rfl .nil))))⟩⟩
      · cases h; exact ⟨_, rfl, fun H => .inr ⟨_, _, _, lR8, rfl, rfl, by show 4 ≤ sizeLine; decide, (.cons ⟨_, rfl⟩ (.cons ⟨_, rfl⟩ (.cons ⟨_, rfl⟩ (.cons rfl .nil))))⟩⟩
      · cases h; exact ⟨_, rfl, fun H => .inr ⟨_, _, _, lR9, rfl, rfl, by show 4 ≤ sizeLine; decide, (.cons ⟨_, rfl⟩ (.cons ⟨_, rfl⟩ (.cons ⟨_, rfl⟩ (.cons rfl .nil))))⟩⟩
      · cases h; exact ⟨_, rfl, fun H => .inr ⟨_, _, _, lR10, rfl, rfl, by show 4 ≤ sizeLine; decide, (.cons ⟨_, rfl⟩ (.cons ⟨_, rfl⟩ (.cons ⟨_, rfl⟩ (.cons rfl .nil))))⟩⟩
      · cases h; exact ⟨_, rfl, fun H => .inr ⟨_, _, _, lR11, rfl, rfl, by show 4 ≤ sizeLine; decide, (.cons ⟨_, rfl⟩ (.cons ⟨_, rfl⟩ (.cons ⟨_, rfl⟩ (.cons rfl .nil))))⟩⟩
      · cases h; exact ⟨_, rfl, fun H => .inr ⟨_, _, _, lR12, rfl, rfl, by show 4 ≤ sizeLine; decide, (.cons ⟨_, rfl⟩ (.cons ⟨_, rfl⟩ (.cons ⟨_, rfl⟩ (.cons rfl .nil))))⟩⟩
      · cases h; exact ⟨_, rfl, fun H => .inr ⟨_, _, _, lR13, rfl, rfl, by show 4 ≤ sizeLine; decide, (.cons ⟨_, rfl⟩ (.cons ⟨_, rfl⟩ (.cons ⟨_, rfl⟩ (.cons rfl .nil))))⟩⟩
      · cases h; exact ⟨_, rfl, fun H => .inr ⟨_, _, _, lR14, rfl, rfl, by show 4 ≤ sizeLine; decide, (.cons ⟨_, rfl⟩ (.cons ⟨_, rfl⟩ (.cons ⟨_, rfl⟩ (.cons rfl .nil))))⟩⟩
      · cases h; exact ⟨_, rfl, fun H => .inr ⟨_, _, _, lR15, rfl, rfl, by show 4 ≤ sizeLine; decide, (.cons ⟨_, rfl⟩ (.cons ⟨_, rfl⟩ (.cons ⟨_, rfl⟩ (.cons rfl .nil))))⟩⟩
      · cases h; exact ⟨_, rfl, fun H => .inr ⟨_, _, _, lR16, rfl, rfl, by show 4 ≤ sizeLine; decide, (.cons ⟨_, rfl⟩ (.cons ⟨_, rfl⟩ (.cons ⟨_, rfl⟩ (.cons rfl .nil))))⟩⟩
      · cases h; exact ⟨_, rfl, fun H => .inr ⟨_, _, _, lR17, rfl, rfl, by show 4 ≤ sizeLine; decide, (.cons ⟨_, rfl⟩ (.cons ⟨_, rfl⟩ (.cons ⟨_, rfl⟩ (.cons rfl .nil))))⟩⟩
      · cases h; exact ⟨_, rfl, fun H => .inr ⟨_, _, _, lR18, rfl, rfl, by show 4 ≤ sizeLine; decide, (.cons ⟨_, rfl⟩ (.cons ⟨_, rfl⟩ (.cons ⟨_, rfl⟩ (.cons rfl .nil))))⟩⟩
      · cases h; exact ⟨_, rfl, fun H => .inr ⟨_, _, _, lR19, rfl, rfl, by show 4 ≤ sizeLine; decide, (.cons ⟨_, rfl⟩ (.cons ⟨_, rfl⟩ (.cons ⟨_, rfl⟩ (.cons rfl .nil))))⟩⟩
  have F1 := fun_mk (st := s_common_part) l1 c1 k1
  have b1 := F1.binds (ps := ["a", "b"]) fun _ _ _ _ _ _ us hl => match us, hl with | [_, _], _ => rfl
  have F2 := fun_mk (st := s_fraction) l2 c2 k2
  have b2 := F2.binds (ps := ["upper", "lower"]) fun _ _ _ _ _ _ us hl => match us, hl with | [_, _], _ => rfl
  have F3 := fun_mk (st := s_all_zero) l3 c3 k3
  have b3 := F3.binds (ps := ["numbers"]) fun _ _ _ _ _ _ us hl => match us, hl with | [_], _ => rfl
  have F4 := fun_mk (st := s_first_not_zero) l4 c4 k4
  have b4 := F4.binds (ps := ["numbers"]) fun _ _ _ _ _ _ us hl => match us, hl with | [_], _ => rfl
  have F5 := fun_mk (st := s_factor_between) l5 c5 k5
  have b5 := F5.binds (ps := ["first", "second"]) fun _ _ _ _ _ _ us hl => match us, hl with | [_, _], _ => rfl
  have F6 := fun_mk (st := s_Setting_init) l6 c6 k6
  have b6 := F6.binds (ps := ["self", "places", "acts", "g", "h"]) fun _ _ _ _ _ _ us hl => match us, hl with | [_, _, _, _, _], _ => rfl
  have F7 := fun_mk (st := s_Setting_size) l7 c7 k7
  have b7 := F7.binds (ps := ["self"]) fun _ _ _ _ _ _ us hl => match us, hl with | [_], _ => rfl
  have F8 := fun_mk (st := s_Setting_spot) l8 c8 k8
  have b8 := F8.binds (ps := ["self", "s", "x", "q"]) fun _ _ _ _ _ _ us hl => match us, hl with | [_, _, _, _], _ => rfl
  have F9 := fun_mk (st := s_Setting_where) l9 c9 k9
  have b9 := F9.binds (ps := ["self", "k"]) fun _ _ _ _ _ _ us hl => match us, hl with | [_, _], _ => rfl
  have F10 := fun_mk (st := s_Setting_stay) l10 c10 k10
  have b10 := F10.binds (ps := ["self", "table", "s"]) fun _ _ _ _ _ _ us hl => match us, hl with | [_, _, _], _ => rfl
  have F11 := fun_mk (st := s_Setting_divisor) l11 c11 k11
  have b11 := F11.binds (ps := ["self"]) fun _ _ _ _ _ _ us hl => match us, hl with | [_], _ => rfl
  have F12 := fun_mk (st := s_Setting_own_potentials) l12 c12 k12
  have b12 := F12.binds (ps := ["self", "table"]) fun _ _ _ _ _ _ us hl => match us, hl with | [_, _], _ => rfl
  have F13 := fun_mk (st := s_Setting_least_pay) l13 c13 k13
  have b13 := F13.binds (ps := ["self", "table", "k"]) fun _ _ _ _ _ _ us hl => match us, hl with | [_, _, _], _ => rfl
  have F14 := fun_mk (st := s_Setting_least_form) l14 c14 k14
  have b14 := F14.binds (ps := ["self", "table"]) fun _ _ _ _ _ _ us hl => match us, hl with | [_, _], _ => rfl
  have F15 := fun_mk (st := s_Setting_shaped) l15 c15 k15
  have b15 := F15.binds (ps := ["self", "table", "row"]) fun _ _ _ _ _ _ us hl => match us, hl with | [_, _, _], _ => rfl
  have F16 := fun_mk (st := s_Setting_is_path) l16 c16 k16
  have b16 := F16.binds (ps := ["self", "row"]) fun _ _ _ _ _ _ us hl => match us, hl with | [_, _], _ => rfl
  have F17 := fun_mk (st := s_Setting_path_pay) l17 c17 k17
  have b17 := F17.binds (ps := ["self", "table", "row"]) fun _ _ _ _ _ _ us hl => match us, hl with | [_, _, _], _ => rfl
  have F18 := fun_mk (st := s_refused) l18 c18 k18
  have b18 := F18.binds (ps := ["number"]) fun _ _ _ _ _ _ us hl => match us, hl with | [_], _ => rfl
  have F19 := fun_mk (st := s_within) l19 c19 k19
  have b19 := F19.binds (ps := ["numbers", "most"]) fun _ _ _ _ _ _ us hl => match us, hl with | [_, _], _ => rfl
  have F20 := fun_mk (st := s_is_one_pay) l20 c20 k20
  have b20 := F20.binds (ps := ["row"]) fun _ _ _ _ _ _ us hl => match us, hl with | [_], _ => rfl
  have F21 := fun_mk (st := s_yes_or_no) l21 c21 k21
  have b21 := F21.binds (ps := ["truth"]) fun _ _ _ _ _ _ us hl => match us, hl with | [_], _ => rfl
  have F22 := fun_mk (st := s_told_fractions) l22 c22 k22
  have b22 := F22.binds (ps := ["first", "uppers", "lower"]) fun _ _ _ _ _ _ us hl => match us, hl with | [_, _, _], _ => rfl
  have F23 := fun_mk (st := s_Tables_init) l23 c23 k23
  have b23 := F23.binds (ps := ["self"]) fun _ _ _ _ _ _ us hl => match us, hl with | [_], _ => rfl
  have F24 := fun_mk (st := s_Tables_begun) l24 c24 k24
  have b24 := F24.binds (ps := ["self"]) fun _ _ _ _ _ _ us hl => match us, hl with | [_], _ => rfl
  have F25 := fun_mk (st := s_Tables_has) l25 c25 k25
  have b25 := F25.binds (ps := ["self", "where"]) fun _ _ _ _ _ _ us hl => match us, hl with | [_, _], _ => rfl
  have F26 := fun_mk (st := s_Tables_spot) l26 c26 k26
  have b26 := F26.binds (ps := ["self", "where"]) fun _ _ _ _ _ _ us hl => match us, hl with | [_, _], _ => rfl
  have F27 := fun_mk (st := s_Tables_begin) l27 c27 k27
  have b27 := F27.binds (ps := ["self", "n", "m", "g", "h"]) fun _ _ _ _ _ _ us hl => match us, hl with | [_, _, _, _, _], _ => rfl
  have F28 := fun_mk (st := s_Tables_set_pay) l28 c28 k28
  have b28 := F28.binds (ps := ["self", "where", "row"]) fun _ _ _ _ _ _ us hl => match us, hl with | [_, _, _], _ => rfl
  have F29 := fun_mk (st := s_Tables_fill) l29 c29 k29
  have b29 := F29.binds (ps := ["self", "t", "row"]) fun _ _ _ _ _ _ us hl => match us, hl with | [_, _, _], _ => rfl
  have F30 := fun_mk (st := s_Tables_payis) l30 c30 k30
  have b30 := F30.binds (ps := ["self", "where"]) fun _ _ _ _ _ _ us hl => match us, hl with | [_, _], _ => rfl
  have F31 := fun_mk (st := s_Tables_copy_other) l31 c31 k31
  have b31 := F31.binds (ps := ["self", "t"]) fun _ _ _ _ _ _ us hl => match us, hl with | [_, _], _ => rfl
  have F32 := fun_mk (st := s_Tables_swap) l32 c32 k32
  have b32 := F32.binds (ps := ["self"]) fun _ _ _ _ _ _ us hl => match us, hl with | [_], _ => rfl
  have F33 := fun_mk (st := s_Tables_take_bounded) l33 c33 k33
  have b33 := F33.binds (ps := ["self", "t", "pays"]) fun _ _ _ _ _ _ us hl => match us, hl with | [_, _, _], _ => rfl
  have F34 := fun_mk (st := s_Tables_shape) l34 c34 k34
  have b34 := F34.binds (ps := ["self", "t", "row"]) fun _ _ _ _ _ _ us hl => match us, hl with | [_, _, _], _ => rfl
  have F35 := fun_mk (st := s_Tables_scale) l35 c35 k35
  have b35 := F35.binds (ps := ["self", "t", "c"]) fun _ _ _ _ _ _ us hl => match us, hl with | [_, _, _], _ => rfl
  have F36 := fun_mk (st := s_Tables_potof) l36 c36 k36
  have b36 := F36.binds (ps := ["self", "t"]) fun _ _ _ _ _ _ us hl => match us, hl with | [_, _], _ => rfl
  have F37 := fun_mk (st := s_Tables_least) l37 c37 k37
  have b37 := F37.binds (ps := ["self", "where"]) fun _ _ _ _ _ _ us hl => match us, hl with | [_, _], _ => rfl
  have F38 := fun_mk (st := s_Tables_leastrow) l38 c38 k38
  have b38 := F38.binds (ps := ["self", "where"]) fun _ _ _ _ _ _ us hl => match us, hl with | [_, _], _ => rfl
  have F39 := fun_mk (st := s_Tables_is_trivial) l39 c39 k39
  have b39 := F39.binds (ps := ["self", "table"]) fun _ _ _ _ _ _ us hl => match us, hl with | [_, _], _ => rfl
  have F40 := fun_mk (st := s_Tables_trivial) l40 c40 k40
  have b40 := F40.binds (ps := ["self", "t"]) fun _ _ _ _ _ _ us hl => match us, hl with | [_, _], _ => rfl
  have F41 := fun_mk (st := s_Tables_apart) l41 c41 k41
  have b41 := F41.binds (ps := ["self"]) fun _ _ _ _ _ _ us hl => match us, hl with | [_], _ => rfl
  have F42 := fun_mk (st := s_Tables_alike) l42 c42 k42
  have b42 := F42.binds (ps := ["self"]) fun _ _ _ _ _ _ us hl => match us, hl with | [_], _ => rfl
  have F43 := fun_mk (st := s_Tables_potentials) l43 c43 k43
  have b43 := F43.binds (ps := ["self"]) fun _ _ _ _ _ _ us hl => match us, hl with | [_], _ => rfl
  have F44 := fun_mk (st := s_Tables_factor) l44 c44 k44
  have b44 := F44.binds (ps := ["self"]) fun _ _ _ _ _ _ us hl => match us, hl with | [_], _ => rfl
  have F45 := fun_mk (st := s_Tables_far) l45 c45 k45
  have b45 := F45.binds (ps := ["self"]) fun _ _ _ _ _ _ us hl => match us, hl with | [_], _ => rfl
  have F46 := fun_mk (st := s_Tables_differ) l46 c46 k46
  have b46 := F46.binds (ps := ["self"]) fun _ _ _ _ _ _ us hl => match us, hl with | [_], _ => rfl
  have F47 := fun_mk (st := s_Tables_ifset) l47 c47 k47
  have b47 := F47.binds (ps := ["self", "where", "row"]) fun _ _ _ _ _ _ us hl => match us, hl with | [_, _, _], _ => rfl
  have F48 := fun_mk (st := s_Tables_told_path) l48 c48 k48
  have b48 := F48.binds (ps := ["self", "table", "row"]) fun _ _ _ _ _ _ us hl => match us, hl with | [_, _, _], _ => rfl
  have F49 := fun_mk (st := s_Tables_path) l49 c49 k49
  have b49 := F49.binds (ps := ["self", "t", "row"]) fun _ _ _ _ _ _ us hl => match us, hl with | [_, _, _], _ => rfl
  have F50 := fun_mk (st := s_Tables_gap) l50 c50 k50
  have b50 := F50.binds (ps := ["self", "row"]) fun _ _ _ _ _ _ us hl => match us, hl with | [_, _], _ => rfl
  have F51 := fun_mk (st := s_split_calls) l51 c51 k51
  have b51 := F51.binds (ps := ["calls"]) fun _ _ _ _ _ _ us hl => match us, hl with | [_], _ => rfl
  have F52 := fun_mk (st := s_change) l52 c52 k52
  have b52 := F52.binds (ps := ["tables", "name", "numbers", "row"]) fun _ _ _ _ _ _ us hl => match us, hl with | [_, _, _, _], _ => rfl
  have F53 := fun_mk (st := s_tell_of_one) l53 c53 k53
  have b53 := F53.binds (ps := ["tables", "name", "numbers", "row"]) fun _ _ _ _ _ _ us hl => match us, hl with | [_, _, _, _], _ => rfl
  have F54 := fun_mk (st := s_tell_of_both) l54 c54 k54
  have b54 := F54.binds (ps := ["tables", "name", "numbers", "row"]) fun _ _ _ _ _ _ us hl => match us, hl with | [_, _, _, _], _ => rfl
  have F55 := fun_mk (st := s_answer) l55 c55 k55
  have b55 := F55.binds (ps := ["tables", "number", "numbers", "row"]) fun _ _ _ _ _ _ us hl => match us, hl with | [_, _, _, _], _ => rfl
  have F56 := fun_mk (st := s_answers) l56 c56 k56
  have b56 := F56.binds (ps := ["calls"]) fun _ _ _ _ _ _ us hl => match us, hl with | [_], _ => rfl
  refine ⟨PySem.W.fnOf "answers" "answers" (defArgs s_answers) (defBody s_answers) (defScope s_answers) .none kV56 dc56 pm56 an56 cd56 ct56, fun s us hu => match us, hu with | [_], _ => .of_eq rfl, fun base _ _ => ?_⟩
  have M_common_part : Cal P w K mg base 1 "common_part" spCommon := ⟨f1, _, _, (ok_common F1 ), PySem.W.mg_of X G a1, k1, b1⟩
  have M_fraction : Cal P w K mg base 2 "fraction" spFraction := ⟨f2, _, _, (ok_fraction F2 T M_common_part), PySem.W.mg_of X G a2, k2, b2⟩
  have M_all_zero : Cal P w K mg base 1 "all_zero" (spAllZero K) := ⟨f3, _, _, (ok_allzero F3 ), PySem.W.mg_of X G a3, k3, b3⟩
  have M_first_not_zero : Cal P w K mg base 1 "first_not_zero" (spFirst K) := ⟨f4, _, _, (ok_first F4 ), PySem.W.mg_of X G a4, k4, b4⟩
  have M_factor_between : Cal P w K mg base 3 "factor_between" (spFacB K) := ⟨f5, _, _, (ok_facb F5 T M_fraction M_all_zero M_first_not_zero), PySem.W.mg_of X G a5, k5, b5⟩
  have M_Setting : Mak P w K mg base 1 "Setting" CS (spSInit CS) := ⟨f6, _, _, ⟨mkCS, a6, i6, kcCS⟩, (ok_sinit F6 T), PySem.W.mg_of X G aCS, b6⟩
  have M_Setting_size : Met P w K mg base 1 CS "size" (spSize CS) := ⟨f7, _, _, clCS, ⟨a7, i7, k7⟩, (ok_size F7 T), b7⟩
  have M_Setting_spot : Met P w K mg base 1 CS "spot" (spSpot CS) := ⟨f8, _, _, clCS, ⟨a8, i8, k8⟩, (ok_spot F8 T), b8⟩
  have M_Setting_where : Met P w K mg base 1 CS "where" (spWhere CS) := ⟨f9, _, _, clCS, ⟨a9, i9, k9⟩, (ok_where F9 T), b9⟩
  have M_Setting_stay : Met P w K mg base 2 CS "stay" (spStay K CS) := ⟨f10, _, _, clCS, ⟨a10, i10, k10⟩, (ok_stay F10 T M_Setting_spot), b10⟩
  have M_Setting_divisor : Met P w K mg base 1 CS "divisor" (spDiv CS) := ⟨f11, _, _, clCS, ⟨a11, i11, k11⟩, (ok_div F11 T), b11⟩
  have M_Setting_own_potentials : Met P w K mg base 3 CS "own_potentials" (spOwn K CS) := ⟨f12, _, _, clCS, ⟨a12, i12, k12⟩, (ok_own F12 T M_Setting_stay), b12⟩
  have M_Setting_least_pay : Met P w K mg base 3 CS "least_pay" (spLeastPay K CS) := ⟨f13, _, _, clCS, ⟨a13, i13, k13⟩, (ok_leastpay F13 T M_Setting_where M_Setting_stay M_Setting_divisor), b13⟩
  have M_Setting_least_form : Met P w K mg base 4 CS "least_form" (spForm K CS) := ⟨f14, _, _, clCS, ⟨a14, i14, k14⟩, (ok_form F14 T M_Setting_size M_Setting_least_pay), b14⟩
  have M_Setting_shaped : Met P w K mg base 2 CS "shaped" (spShaped K CS) := ⟨f15, _, _, clCS, ⟨a15, i15, k15⟩, (ok_shaped F15 T M_Setting_size M_Setting_where), b15⟩
  have M_Setting_is_path : Met P w K mg base 1 CS "is_path" (spIsPath K CS) := ⟨f16, _, _, clCS, ⟨a16, i16, k16⟩, (ok_ispath F16 T), b16⟩
  have M_Setting_path_pay : Met P w K mg base 3 CS "path_pay" (spPathPay K CS) := ⟨f17, _, _, clCS, ⟨a17, i17, k17⟩, (ok_pathpay F17 T M_fraction M_Setting_spot), b17⟩
  have M_refused : Cal P w K mg base 1 "refused" spRefused := ⟨f18, _, _, (ok_refused F18 ), PySem.W.mg_of X G a18, k18, b18⟩
  have M_within : Cal P w K mg base 1 "within" (spWithin K) := ⟨f19, _, _, (ok_within F19 T), PySem.W.mg_of X G a19, k19, b19⟩
  have M_is_one_pay : Cal P w K mg base 2 "is_one_pay" (spOnePay K) := ⟨f20, _, _, (ok_onepay F20 T M_within), PySem.W.mg_of X G a20, k20, b20⟩
  have M_yes_or_no : Cal P w K mg base 1 "yes_or_no" spYes := ⟨f21, _, _, (ok_yes F21 ), PySem.W.mg_of X G a21, k21, b21⟩
  have M_told_fractions : Cal P w K mg base 3 "told_fractions" (spTold K) := ⟨f22, _, _, (ok_told F22 T M_fraction), PySem.W.mg_of X G a22, k22, b22⟩
  have M_Tables : Mak P w K mg base 1 "Tables" C (spInit C) := ⟨f23, _, _, ⟨mkC, a23, i23, kcC⟩, (ok_init F23 T), PySem.W.mg_of X G aC, b23⟩
  have M_Tables_begun : Met P w K mg base 1 C "begun" (spBegun C) := ⟨f24, _, _, clC, ⟨a24, i24, k24⟩, (ok_begun F24 T), b24⟩
  have M_Tables_has : Met P w K mg base 1 C "has" (spHas K C CS) := ⟨f25, _, _, clC, ⟨a25, i25, k25⟩, (ok_has F25 T), b25⟩
  have M_Tables_spot : Met P w K mg base 2 C "spot" (spTSpot K C CS) := ⟨f26, _, _, clC, ⟨a26, i26, k26⟩, (ok_tspot F26 T M_Setting_spot), b26⟩
  have M_Tables_begin : Met P w K mg base 3 C "begin" (spBegin C CS) := ⟨f27, _, _, clC, ⟨a27, i27, k27⟩, (ok_begin F27 T M_Setting M_Setting_size M_refused), b27⟩
  have M_Tables_set_pay : Met P w K mg base 3 C "set_pay" (spSetPay K C CS) := ⟨f28, _, _, clC, ⟨a28, i28, k28⟩, (ok_setpay F28 T M_refused M_is_one_pay M_Tables_spot), b28⟩
  have M_Tables_fill : Met P w K mg base 2 C "fill" (spFill K C CS) := ⟨f29, _, _, clC, ⟨a29, i29, k29⟩, (ok_fill F29 T M_refused M_within), b29⟩
  have M_Tables_payis : Met P w K mg base 3 C "payis" (spPayis K C CS) := ⟨f30, _, _, clC, ⟨a30, i30, k30⟩, (ok_payis F30 T M_Tables_spot), b30⟩
  have M_Tables_copy_other : Met P w K mg base 1 C "copy_other" (spCopy C CS) := ⟨f31, _, _, clC, ⟨a31, i31, k31⟩, (ok_copy F31 T), b31⟩
  have M_Tables_swap : Met P w K mg base 1 C "swap" (spSwap C CS) := ⟨f32, _, _, clC, ⟨a32, i32, k32⟩, (ok_swap F32 T), b32⟩
  have M_Tables_take_bounded : Met P w K mg base 2 C "take_bounded" (spTake C CS) := ⟨f33, _, _, clC, ⟨a33, i33, k33⟩, (ok_take F33 T M_refused M_within), b33⟩
  have M_Tables_shape : Met P w K mg base 3 C "shape" (spShape K C CS) := ⟨f34, _, _, clC, ⟨a34, i34, k34⟩, (ok_shape F34 T M_Setting_shaped M_refused M_within M_Tables_take_bounded), b34⟩
  have M_Tables_scale : Met P w K mg base 3 C "scale" (spScale C CS) := ⟨f35, _, _, clC, ⟨a35, i35, k35⟩, (ok_scale F35 T M_refused M_Tables_take_bounded), b35⟩
  have M_Tables_potof : Met P w K mg base 4 C "potof" (spPotof C CS) := ⟨f36, _, _, clC, ⟨a36, i36, k36⟩, (ok_potof F36 T M_Setting_divisor M_Setting_own_potentials M_told_fractions), b36⟩
  have M_Tables_least : Met P w K mg base 4 C "least" (spLeast K C CS) := ⟨f37, _, _, clC, ⟨a37, i37, k37⟩, (ok_least F37 T M_Setting_divisor M_Setting_least_pay M_told_fractions M_Tables_spot), b37⟩
  have M_Tables_leastrow : Met P w K mg base 5 C "leastrow" (spLeastrow K C CS) := ⟨f38, _, _, clC, ⟨a38, i38, k38⟩, (ok_leastrow F38 T M_Setting_spot M_Setting_divisor M_Setting_least_form M_told_fractions), b38⟩
  have M_Tables_is_trivial : Met P w K mg base 5 C "is_trivial" (spTriv K C CS) := ⟨f39, _, _, clC, ⟨a39, i39, k39⟩, (ok_triv F39 T M_all_zero M_Setting_least_form), b39⟩
  have M_Tables_trivial : Met P w K mg base 6 C "trivial" (spTrivial C CS) := ⟨f40, _, _, clC, ⟨a40, i40, k40⟩, (ok_trivial F40 T M_yes_or_no M_Tables_is_trivial), b40⟩
  have M_Tables_apart : Met P w K mg base 2 C "apart" (spApart C CS) := ⟨f41, _, _, clC, ⟨a41, i41, k41⟩, (ok_apart F41 T M_Setting_size), b41⟩
  have M_Tables_alike : Met P w K mg base 6 C "alike" (spAlike C CS) := ⟨f42, _, _, clC, ⟨a42, i42, k42⟩, (ok_alike F42 T M_yes_or_no M_Tables_is_trivial M_Tables_apart), b42⟩
  have M_Tables_potentials : Met P w K mg base 6 C "potentials" (spPots C CS) := ⟨f43, _, _, clC, ⟨a43, i43, k43⟩, (ok_pots F43 T M_Setting_divisor M_Setting_own_potentials M_refused M_told_fractions M_Tables_is_trivial M_Tables_apart), b43⟩
  have M_Tables_factor : Met P w K mg base 5 C "factor" (spFactor C CS) := ⟨f44, _, _, clC, ⟨a44, i44, k44⟩, (ok_factor F44 T M_factor_between M_Setting_least_form M_refused), b44⟩
  have M_Tables_far : Met P w K mg base 5 C "far" (spFar C CS) := ⟨f45, _, _, clC, ⟨a45, i45, k45⟩, (ok_far F45 T M_Setting_where M_Setting_divisor M_Setting_least_form M_told_fractions M_Tables_apart), b45⟩
  have M_Tables_differ : Met P w K mg base 5 C "differ" (spDiffer C CS) := ⟨f46, _, _, clC, ⟨a46, i46, k46⟩, (ok_differ F46 T M_Setting_least_form M_Tables_apart), b46⟩
  have M_Tables_ifset : Met P w K mg base 6 C "ifset" (spIfset K C CS) := ⟨f47, _, _, clC, ⟨a47, i47, k47⟩, (ok_ifset F47 T M_refused M_is_one_pay M_yes_or_no M_Tables_spot M_Tables_is_trivial M_Tables_apart), b47⟩
  have M_Tables_told_path : Met P w K mg base 4 C "told_path" (spToldPath K C CS) := ⟨f48, _, _, clC, ⟨a48, i48, k48⟩, (ok_toldpath F48 T M_Setting_is_path M_Setting_path_pay M_refused), b48⟩
  have M_Tables_path : Met P w K mg base 5 C "path" (spPath K C CS) := ⟨f49, _, _, clC, ⟨a49, i49, k49⟩, (ok_path F49 T M_Tables_told_path), b49⟩
  have M_Tables_gap : Met P w K mg base 5 C "gap" (spGap K C CS) := ⟨f50, _, _, clC, ⟨a50, i50, k50⟩, (ok_gap F50 T M_Tables_apart M_Tables_told_path), b50⟩
  have M_split_calls : Cal P w K mg base 1 "split_calls" (spSplit K) := ⟨f51, _, _, (ok_split F51 T Tc), PySem.W.mg_of X G a51, k51, b51⟩
  have M_change : Cal P w K mg base 4 "change" (spChange K C CS) := ⟨f52, _, _, (ok_change F52 T M_Tables_set_pay M_Tables_fill M_Tables_copy_other M_Tables_swap M_Tables_shape M_Tables_scale), PySem.W.mg_of X G a52, k52, b52⟩
  have M_tell_of_one : Cal P w K mg base 7 "tell_of_one" (spTellOne K C CS) := ⟨f53, _, _, (ok_tellone F53 T M_Tables_payis M_Tables_potof M_Tables_least M_Tables_leastrow M_Tables_trivial M_Tables_path), PySem.W.mg_of X G a53, k53, b53⟩
  have M_tell_of_both : Cal P w K mg base 7 "tell_of_both" (spTellBoth K C CS) := ⟨f54, _, _, (ok_tellboth F54 T M_Tables_alike M_Tables_potentials M_Tables_factor M_Tables_far M_Tables_differ M_Tables_ifset M_Tables_gap), PySem.W.mg_of X G a54, k54, b54⟩
  have M_answer : Cal P w K mg base 8 "answer" (spAnswer K C CS) := ⟨f55, _, _, (ok_answer F55 T Tc M_refused M_Tables_begun M_Tables_has M_Tables_begin M_change M_tell_of_one M_tell_of_both), PySem.W.mg_of X G a55, k55, b55⟩
  exact (ok_answers F56 T M_Tables M_split_calls M_answer)
end SP
open PySem PySem.W PyProof.Rows
set_option maxRecDepth 100000 in
set_option maxHeartbeats 8000000 in
theorem PySem.Challenge.cw_shapedpays_s01_answers_holds : PySem.Challenge.rw_shapedpays_s01_answers.Holds := by
  w_on; k_headS; (case hw => exact ⟨[.list [.int 10]], by decide +kernel, by decide +kernel⟩)
  k_fillS
  refine L2.walk_specK (r := PySem.Challenge.rw_shapedpays_s01_answers) (k := 9) (CX := L2.CX0) (ps := ["calls"]) (sp := SP.spAns) (by decide +kernel) rfl rfl ⟨rfl, by decide, by decide⟩ (fun w h Y => PySem.W.kIn_of Y) ?F ?S (fun _ _ _ _ z => z)
  case F =>
    intro w mg fa h Y KX G hmg
    refine' SP.all_mk KX G hmg ?aCS ?pgCS ?hdCS ?poCS ?saCS ?mkCS ?kcCS ?aC ?pgC ?hdC ?poC ?saC ?mkC ?kcC ?a1 ?l1 ?c1 ?k1 ?a2 ?l2 ?c2 ?k2 ?a3 ?l3 ?c3 ?k3 ?a4 ?l4 ?c4 ?k4 ?a5 ?l5 ?c5 ?k5 ?a6 ?i6 ?l6 ?c6 ?k6 ?a7 ?i7 ?l7 ?c7 ?k7 ?a8 ?i8 ?l8 ?c8 ?k8 ?a9 ?i9 ?l9 ?c9 ?k9 ?a10 ?i10 ?l10 ?c10 ?k10 ?a11 ?i11 ?l11 ?c11 ?k11 ?a12 ?i12 ?l12 ?c12 ?k12 ?a13 ?i13 ?l13 ?c13 ?k13 ?a14 ?i14 ?l14 ?c14 ?k14 ?a15 ?i15 ?l15 ?c15 ?k15 ?a16 ?i16 ?l16 ?c16 ?k16 ?a17 ?i17 ?l17 ?c17 ?k17 ?a18 ?l18 ?c18 ?k18 ?a19 ?l19 ?c19 ?k19 ?a20 ?l20 ?c20 ?k20 ?a21 ?l21 ?c21 ?k21 ?a22 ?l22 ?c22 ?k22 ?a23 ?i23 ?l23 ?c23 ?k23 ?a24 ?i24 ?l24 ?c24 ?k24 ?a25 ?i25 ?l25 ?c25 ?k25 ?a26 ?i26 ?l26 ?c26 ?k26 ?a27 ?i27 ?l27 ?c27 ?k27 ?a28 ?i28 ?l28 ?c28 ?k28 ?a29 ?i29 ?l29 ?c29 ?k29 ?a30 ?i30 ?l30 ?c30 ?k30 ?a31 ?i31 ?l31 ?c31 ?k31 ?a32 ?i32 ?l32 ?c32 ?k32 ?a33 ?i33 ?l33 ?c33 ?k33 ?a34 ?i34 ?l34 ?c34 ?k34 ?a35 ?i35 ?l35 ?c35 ?k35 ?a36 ?i36 ?l36 ?c36 ?k36 ?a37 ?i37 ?l37 ?c37 ?k37 ?a38 ?i38 ?l38 ?c38 ?k38 ?a39 ?i39 ?l39 ?c39 ?k39 ?a40 ?i40 ?l40 ?c40 ?k40 ?a41 ?i41 ?l41 ?c41 ?k41 ?a42 ?i42 ?l42 ?c42 ?k42 ?a43 ?i43 ?l43 ?c43 ?k43 ?a44 ?i44 ?l44 ?c44 ?k44 ?a45 ?i45 ?l45 ?c45 ?k45 ?a46 ?i46 ?l46 ?c46 ?k46 ?a47 ?i47 ?l47 ?c47 ?k47 ?a48 ?i48 ?l48 ?c48 ?k48 ?a49 ?i49 ?l49 ?c49 ?k49 ?a50 ?i50 ?l50 ?c50 ?k50 ?a51 ?l51 ?c51 ?k51 ?a52 ?l52 ?c52 ?k52 ?a53 ?l53 ?c53 ?k53 ?a54 ?l54 ?c54 ?k54 ?a55 ?l55 ?c55 ?k55 ?a56 ?l56 ?c56 ?k56 ?nf_places ?nf_acts ?nf_g ?nf_h ?nf_setting ?nf_pays ?zb_abs ?zb_len ?zb_range ?zb_list ?zb_max ?gc_MOST_IN_PATH ?gc_NO_SUCH ?gc_NOT_BEGUN ?gc_NOT_FIT ?gc_NONE_THERE ?gc_TOO_MUCH ?gc_MOST_IN_ROW ?gc_MOST_PAY ?gc_MOST_FACTOR ?aT ?lT ?lR0 ?lR1 ?lR2 ?lR3 ?lR4 ?lR5 ?lR6 ?lR7 ?lR8 ?lR9 ?lR10 ?lR11 ?lR12 ?lR13 ?lR14 ?lR15 ?lR16 ?lR17 ?lR18 ?lR19
    (case aCS => k_is)
    (case pgCS => k_is)
    (case hdCS => k_is)
    (case poCS => k_is)
    (case saCS => k_is)
    (case mkCS => k_is)
    (case kcCS => k_is)
    (case aC => k_is)
    (case pgC => k_is)
    (case hdC => k_is)
    (case poC => k_is)
    (case saC => k_is)
    (case mkC => k_is)
    (case kcC => k_is)
    (case a1 => k_is)
    (case l1 => k_is)
    (case c1 => k_is)
    (case k1 => k_is)
    (case a2 => k_is)
    (case l2 => k_is)
    (case c2 => k_is)
    (case k2 => k_is)
    (case a3 => k_is)
    (case l3 => k_is)
    (case c3 => k_is)
    (case k3 => k_is)
    (case a4 => k_is)
    (case l4 => k_is)
    (case c4 => k_is)
    (case k4 => k_is)
    (case a5 => k_is)
    (case l5 => k_is)
    (case c5 => k_is)
    (case k5 => k_is)
    (case a6 => k_is)
    (case i6 => k_is)
    (case l6 => k_is)
    (case c6 => k_is)
    (case k6 => k_is)
    (case a7 => k_is)
    (case i7 => k_is)
    (case l7 => k_is)
    (case c7 => k_is)
    (case k7 => k_is)
    (case a8 => k_is)
    (case i8 => k_is)
    (case l8 => k_is)
    (case c8 => k_is)
    (case k8 => k_is)
    (case a9 => k_is)
    (case i9 => k_is)
    (case l9 => k_is)
    (case c9 => k_is)
    (case k9 => k_is)
    (case a10 => k_is)
    (case i10 => k_is)
    (case l10 => k_is)
    (case c10 => k_is)
    (case k10 => k_is)
    (case a11 => k_is)
    (case i11 => k_is)
    (case l11 => k_is)
    (case c11 => k_is)
    (case k11 => k_is)
    (case a12 => k_is)
    (case i12 => k_is)
    (case l12 => k_is)
    (case c12 => k_is)
    (case k12 => k_is)
    (case a13 => k_is)
    (case i13 => k_is)
    (case l13 => k_is)
    (case c13 => k_is)
    (case k13 => k_is)
    (case a14 => k_is)
    (case i14 => k_is)
    (case l14 => k_is)
    (case c14 => k_is)
    (case k14 => k_is)
    (case a15 => k_is)
    (case i15 => k_is)
    (case l15 => k_is)
    (case c15 => k_is)
    (case k15 => k_is)
    (case a16 => k_is)
    (case i16 => k_is)
    (case l16 => k_is)
    (case c16 => k_is)
    (case k16 => k_is)
    (case a17 => k_is)
    (case i17 => k_is)
    (case l17 => k_is)
    (case c17 => k_is)
    (case k17 => k_is)
    (case a18 => k_is)
    (case l18 => k_is)
    (case c18 => k_is)
    (case k18 => k_is)
    (case a19 => k_is)
    (case l19 => k_is)
    (case c19 => k_is)
    (case k19 => k_is)
    (case a20 => k_is)
    (case l20 => k_is)
    (case c20 => k_is)
    (case k20 => k_is)
    (case a21 => k_is)
    (case l21 => k_is)
    (case c21 => k_is)
    (case k21 => k_is)
    (case a22 => k_is)
    (case l22 => k_is)
    (case c22 => k_is)
    (case k22 => k_is)
    (case a23 => k_is)
    (case i23 => k_is)
    (case l23 => k_is)
    (case c23 => k_is)
    (case k23 => k_is)
    (case a24 => k_is)
    (case i24 => k_is)
    (case l24 => k_is)
    (case c24 => k_is)
    (case k24 => k_is)
    (case a25 => k_is)
    (case i25 => k_is)
    (case l25 => k_is)
    (case c25 => k_is)
    (case k25 => k_is)
    (case a26 => k_is)
    (case i26 => k_is)
    (case l26 => k_is)
    (case c26 => k_is)
    (case k26 => k_is)
    (case a27 => k_is)
    (case i27 => k_is)
    (case l27 => k_is)
    (case c27 => k_is)
    (case k27 => k_is)
    (case a28 => k_is)
    (case i28 => k_is)
    (case l28 => k_is)
    (case c28 => k_is)
    (case k28 => k_is)
    (case a29 => k_is)
    (case i29 => k_is)
    (case l29 => k_is)
    (case c29 => k_is)
    (case k29 => k_is)
    (case a30 => k_is)
    (case i30 => k_is)
    (case l30 => k_is)
    (case c30 => k_is)
    (case k30 => k_is)
    (case a31 => k_is)
    (case i31 => k_is)
    (case l31 => k_is)
    (case c31 => k_is)
    (case k31 => k_is)
    (case a32 => k_is)
    (case i32 => k_is)
    (case l32 => k_is)
    (case c32 => k_is)
    (case k32 => k_is)
    (case a33 => k_is)
    (case i33 => k_is)
    (case l33 => k_is)
    (case c33 => k_is)
    (case k33 => k_is)
    (case a34 => k_is)
    (case i34 => k_is)
    (case l34 => k_is)
    (case c34 => k_is)
    (case k34 => k_is)
    (case a35 => k_is)
    (case i35 => k_is)
    (case l35 => k_is)
    (case c35 => k_is)
    (case k35 => k_is)
    (case a36 => k_is)
    (case i36 => k_is)
    (case l36 => k_is)
    (case c36 => k_is)
    (case k36 => k_is)
    (case a37 => k_is)
    (case i37 => k_is)
    (case l37 => k_is)
    (case c37 => k_is)
    (case k37 => k_is)
    (case a38 => k_is)
    (case i38 => k_is)
    (case l38 => k_is)
    (case c38 => k_is)
    (case k38 => k_is)
    (case a39 => k_is)
    (case i39 => k_is)
    (case l39 => k_is)
    (case c39 => k_is)
    (case k39 => k_is)
    (case a40 => k_is)
    (case i40 => k_is)
    (case l40 => k_is)
    (case c40 => k_is)
    (case k40 => k_is)
    (case a41 => k_is)
    (case i41 => k_is)
    (case l41 => k_is)
    (case c41 => k_is)
    (case k41 => k_is)
    (case a42 => k_is)
    (case i42 => k_is)
    (case l42 => k_is)
    (case c42 => k_is)
    (case k42 => k_is)
    (case a43 => k_is)
    (case i43 => k_is)
    (case l43 => k_is)
    (case c43 => k_is)
    (case k43 => k_is)
    (case a44 => k_is)
    (case i44 => k_is)
    (case l44 => k_is)
    (case c44 => k_is)
    (case k44 => k_is)
    (case a45 => k_is)
    (case i45 => k_is)
    (case l45 => k_is)
    (case c45 => k_is)
    (case k45 => k_is)
    (case a46 => k_is)
    (case i46 => k_is)
    (case l46 => k_is)
    (case c46 => k_is)
    (case k46 => k_is)
    (case a47 => k_is)
    (case i47 => k_is)
    (case l47 => k_is)
    (case c47 => k_is)
    (case k47 => k_is)
    (case a48 => k_is)
    (case i48 => k_is)
    (case l48 => k_is)
    (case c48 => k_is)
    (case k48 => k_is)
    (case a49 => k_is)
    (case i49 => k_is)
    (case l49 => k_is)
    (case c49 => k_is)
    (case k49 => k_is)
    (case a50 => k_is)
    (case i50 => k_is)
    (case l50 => k_is)
    (case c50 => k_is)
    (case k50 => k_is)
    (case a51 => k_is)
    (case l51 => k_is)
    (case c51 => k_is)
    (case k51 => k_is)
    (case a52 => k_is)
    (case l52 => k_is)
    (case c52 => k_is)
    (case k52 => k_is)
    (case a53 => k_is)
    (case l53 => k_is)
    (case c53 => k_is)
    (case k53 => k_is)
    (case a54 => k_is)
    (case l54 => k_is)
    (case c54 => k_is)
    (case k54 => k_is)
    (case a55 => k_is)
    (case l55 => k_is)
    (case c55 => k_is)
    (case k55 => k_is)
    (case a56 => k_is)
    (case l56 => k_is)
    (case c56 => k_is)
    (case k56 => k_is)
    (case nf_places => k_is)
    (case nf_acts => k_is)
    (case nf_g => k_is)
    (case nf_h => k_is)
    (case nf_setting => k_is)
    (case nf_pays => k_is)
    (case zb_abs => k_is)
    (case zb_len => k_is)
    (case zb_range => k_is)
    (case zb_list => k_is)
    (case zb_max => k_is)
    (case gc_MOST_IN_PATH => k_is)
    (case gc_NO_SUCH => k_is)
    (case gc_NOT_BEGUN => k_is)
    (case gc_NOT_FIT => k_is)
    (case gc_NONE_THERE => k_is)
    (case gc_TOO_MUCH => k_is)
    (case gc_MOST_IN_ROW => k_is)
    (case gc_MOST_PAY => k_is)
    (case gc_MOST_FACTOR => k_is)
    (case aT => k_is)
    (case lT => k_is)
    (case lR0 => k_is)
    (case lR1 => k_is)
    (case lR2 => k_is)
    (case lR3 => k_is)
    (case lR4 => k_is)
    (case lR5 => k_is)
    (case lR6 => k_is)
    (case lR7 => k_is)
    (case lR8 => k_is)
    (case lR9 => k_is)
    (case lR10 => k_is)
    (case lR11 => k_is)
    (case lR12 => k_is)
    (case lR13 => k_is)
    (case lR14 => k_is)
    (case lR15 => k_is)
    (case lR16 => k_is)
    (case lR17 => k_is)
    (case lR18 => k_is)
    (case lR19 => k_is)
  case S =>
    intro K H xs a hO hwi hask hx
    cases hx with
    | cons h1 h2 =>
      cases h2
      cases h1 with
      | lst hs ha =>
        have e := L2.ints_dw a.1 _ ha
        subst e
        have q : ((Codec.inLen 0 3300 a.1 && a.1.all (Codec.inInt (-1000000000000000000000000000000) 1000000000000000000000000000000)) && true) = true := hwi
        rw [Bool.and_eq_true, Bool.and_eq_true] at q
        exact ⟨_, a.1, rfl, hs, (Codec.inNat_iff.mp q.1.1).2, hask, fun H' p hp => .lst (L2.SqL.of hp) (L2.dw_ints _)⟩
#print axioms PySem.Challenge.cw_shapedpays_s01_answers_holds

