import PyProof.Rows.All
import Wide.All
import OpenK.AllK
import Wide.FinOn
import Open.SpecLaws
import KE.OsGo
import HandS.ForSpec
import HandS.Comp
import HandS.Iter
import HandS.Walk
import HandS.CallLocal
import PyFlatLaws
import PySem.Challenge.RW_drawnoils_s01_answers
set_option Elab.async false
namespace Oil
open Si83 (Part Order Material less lowest)
/-! ### Fractions -/
/-- what stronger_by hands back -/
def cross (x y : Part) : Int := (x.n : Int) * (y.d : Int) - (y.n : Int) * (x.d : Int)
structure Good (p : Part) : Prop where
  d : 0 < p.d
  g : Nat.gcd p.n p.d = 1
theorem less_iff {x y : Part} : less x y = true ↔ 0 < cross y x := by
  unfold less cross
  rw [decide_eq_true_iff]
  omega
theorem less_iff' {x y : Part} : less x y = true ↔ cross x y < 0 := by
  unfold less cross
  rw [decide_eq_true_iff]
  omega
theorem cross_self (x : Part) : cross x x = 0 := by
  unfold cross
  omega
theorem cross_swap (x y : Part) : cross x y = - cross y x := by
  unfold cross
  omega
theorem good_eq {x y : Part} (hx : Good x) (hy : Good y) (h : cross x y = 0) : x = y := by
  have e : x.n * y.d = y.n * x.d := by
    unfold cross at h
    omega
  have d1 : x.d ∣ y.d := by
    have q : x.d ∣ x.n * y.d := e ▸ Nat.dvd_mul_left x.d y.n
    exact Nat.Coprime.dvd_of_dvd_mul_left (k := x.d) (m := x.n) (n := y.d) (Nat.Coprime.symm hx.g) q
  have d2 : y.d ∣ x.d := by
    have q : y.d ∣ y.n * x.d := e ▸ Nat.dvd_mul_left y.d x.n
    exact Nat.Coprime.dvd_of_dvd_mul_left (k := y.d) (m := y.n) (n := x.d) (Nat.Coprime.symm hy.g) q
  have ed : x.d = y.d := Nat.dvd_antisymm d1 d2
  have en : x.n = y.n := by
    rw [ed] at e
    exact Nat.eq_of_mul_eq_mul_right hy.d e
  cases x
  cases y
  simp only at ed en
  rw [ed, en]
theorem good_iff {x y : Part} (hx : Good x) (hy : Good y) : cross x y = 0 ↔ x = y :=
  ⟨good_eq hx hy, fun e => by rw [e]; exact cross_self y⟩
theorem lowest_eq {n d : Nat} (hd : 0 < d) : lowest n d = ⟨n / Nat.gcd n d, d / Nat.gcd n d⟩ := by
  have hg : Nat.gcd n d ≠ 0 := Nat.ne_of_gt (Nat.gcd_pos_of_pos_right n hd)
  show (if Nat.gcd n d = 0 then (⟨n, d⟩ : Part) else ⟨n / Nat.gcd n d, d / Nat.gcd n d⟩) = _
  rw [if_neg hg]
theorem lowest_good {n d : Nat} (hd : 0 < d) : Good (lowest n d) := by
  have hg : 0 < Nat.gcd n d := Nat.gcd_pos_of_pos_right n hd
  rw [lowest_eq hd]
  refine ⟨Nat.div_pos (Nat.le_of_dvd hd (Nat.gcd_dvd_right n d)) hg, ?_⟩
  show Nat.gcd (n / Nat.gcd n d) (d / Nat.gcd n d) = 1
  rw [Nat.gcd_div (Nat.gcd_dvd_left n d) (Nat.gcd_dvd_right n d), Nat.div_self hg]
theorem lowest_n {n d : Nat} (hd : 0 < d) : (lowest n d).n ≤ n := by
  rw [lowest_eq hd]
  exact Nat.div_le_self _ _
theorem lowest_less {n d : Nat} (hd : 0 < d) (x : Part) : less x (lowest n d) = true ↔ cross x ⟨n, d⟩ < 0 := by
  have hg : 0 < Nat.gcd n d := Nat.gcd_pos_of_pos_right n hd
  have e1 : n / Nat.gcd n d * Nat.gcd n d = n := Nat.div_mul_cancel (Nat.gcd_dvd_left n d)
  have e2 : d / Nat.gcd n d * Nat.gcd n d = d := Nat.div_mul_cancel (Nat.gcd_dvd_right n d)
  rw [lowest_eq hd]
  unfold less cross
  rw [decide_eq_true_iff]
  show x.n * (d / Nat.gcd n d) < n / Nat.gcd n d * x.d ↔ (x.n : Int) * (d : Int) - (n : Int) * (x.d : Int) < 0
  have k : x.n * (d / Nat.gcd n d) < n / Nat.gcd n d * x.d ↔ x.n * (d / Nat.gcd n d) * Nat.gcd n d < n / Nat.gcd n d * x.d * Nat.gcd n d :=
    (Nat.mul_lt_mul_right hg).symm
  rw [k]
  have e3 : x.n * (d / Nat.gcd n d) * Nat.gcd n d = x.n * d := by rw [Nat.mul_assoc, e2]
  have e4 : n / Nat.gcd n d * x.d * Nat.gcd n d = n * x.d := by rw [Nat.mul_right_comm, e1]
  rw [e3, e4]
  omega
/-! ### Sums over a formula -/
def hasL (l : List Nat) (ms : List Material) (k : Nat) : List Nat := List.zipWith (fun d (m : Material) => d * m.parts.getD k 0) l ms
def chgL (l : List Nat) (ms : List Material) : List Nat := List.zipWith (fun d (m : Material) => Si83.apart d m.wanted) l ms
theorem range_zip {α : Type} (g : Nat → Material → α) (d0 : Material) : ∀ (l : List Nat) (ms : List Material), l.length = ms.length →
    ((List.range ms.length).map fun i => g (l.getD i 0) (ms.getD i d0)) = List.zipWith g l ms
  | [], [], _ => rfl
  | x :: l, m :: ms, h => by
    have ih := range_zip g d0 l ms (Nat.succ.inj h)
    rw [List.length_cons, List.range_succ_eq_map, List.map_cons, List.map_map, List.zipWith_cons_cons, ← ih]
    rfl
theorem has_eq {o : Order} {l : List Nat} (h : l.length = o.materials.length) (k : Nat) : o.has l k = (hasL l o.materials k).sum :=
  congrArg List.sum (range_zip (fun d m => d * m.parts.getD k 0) ⟨[0, 0, 0], 0, 0⟩ l o.materials h)
theorem changed_eq {o : Order} {l : List Nat} (h : l.length = o.materials.length) : o.changed l = (chgL l o.materials).sum :=
  congrArg List.sum (range_zip (fun d m => Si83.apart d m.wanted) ⟨[0, 0, 0], 0, 0⟩ l o.materials h)
/-! ### What stands of an order -/
structure MatOk (m : Material) : Prop where
  len : m.parts.length = 3
  part : ∀ x ∈ m.parts, x ≤ 1000
  wm : m.wanted ≤ m.most
  most : m.most ≤ 6
structure OrdOk (o : Order) : Prop where
  len : o.bounds.length = 3
  bnd : ∀ x ∈ o.bounds, x ≤ 10000
  cnt : o.materials.length ≤ 4
  mats : ∀ m ∈ o.materials, MatOk m
/-- a formula as it may be looked at: so many numbers, each 6 at the most -/
structure RowOk (o : Order) (l : List Nat) : Prop where
  len : l.length = o.materials.length
  six : ∀ x ∈ l, x ≤ 6
theorem sum_le {b : Nat} : ∀ {l : List Nat}, (∀ x ∈ l, x ≤ b) → l.sum ≤ l.length * b
  | [], _ => by simp
  | x :: l, h => by
    have h1 := sum_le (b := b) (l := l) fun y hy => h y (List.mem_cons_of_mem x hy)
    have h2 := h x List.mem_cons_self
    rw [List.sum_cons, List.length_cons, Nat.add_mul]
    omega
theorem RowOk.sum {o : Order} {l : List Nat} (O : OrdOk o) (R : RowOk o l) : l.sum ≤ 24 := by
  have h := sum_le R.six
  have h2 := O.cnt
  rw [R.len] at h
  omega
theorem getD_le {l : List Nat} {b : Nat} (h : ∀ x ∈ l, x ≤ b) (i : Nat) : l.getD i 0 ≤ b := by
  rw [List.getD_eq_getElem?_getD]
  cases e : l[i]? with
  | none => exact Nat.zero_le _
  | some x => exact h x (List.mem_of_getElem? e)
theorem OrdOk.bound {o : Order} (O : OrdOk o) (k : Nat) : o.bound k ≤ 10000 := getD_le O.bnd k
theorem has_le {o : Order} {l : List Nat} (O : OrdOk o) (R : RowOk o l) (k : Nat) : o.has l k ≤ 24000 := by
  rw [has_eq R.len]
  have h : ∀ x ∈ hasL l o.materials k, x ≤ 6000 := by
    intro x hx
    unfold hasL at hx
    rw [List.mem_iff_getElem?] at hx
    obtain ⟨i, hi⟩ := hx
    rw [List.getElem?_zipWith] at hi
    cases e1 : l[i]? with
    | none => rw [e1] at hi; cases hi
    | some d =>
      cases e2 : o.materials[i]? with
      | none => rw [e1, e2] at hi; cases hi
      | some m =>
        rw [e1, e2] at hi
        have e3 : d * m.parts.getD k 0 = x := Option.some.inj hi
        rw [← e3]
        have a1 : d ≤ 6 := R.six d (List.mem_of_getElem? e1)
        have a2 : m.parts.getD k 0 ≤ 1000 := getD_le (O.mats m (List.mem_of_getElem? e2)).part k
        exact Nat.mul_le_mul a1 a2
  have h2 := sum_le h
  have h3 : (hasL l o.materials k).length ≤ 4 := by
    unfold hasL
    rw [List.length_zipWith]
    have := O.cnt
    omega
  omega
theorem by_none {o : Order} {l : List Nat} {k : Nat} (h : o.has l k = 0) : o.by_ l k = none := if_pos h
theorem by_some {o : Order} {l : List Nat} {k : Nat} (h : o.has l k ≠ 0) : o.by_ l k = some (lowest (o.bound k * l.sum) (10 * o.has l k)) := if_neg h
/-- shares as they come -/
structure Fit (p : Part) : Prop extends Good p where
  n : p.n ≤ 240000
theorem by_fit {o : Order} {l : List Nat} (O : OrdOk o) (R : RowOk o l) {k : Nat} {p : Part} (h : o.by_ l k = some p) : Fit p := by
  by_cases c : o.has l k = 0
  · rw [by_none c] at h
    cases h
  · rw [by_some c] at h
    have e := Option.some.inj h
    have hd : 0 < 10 * o.has l k := by omega
    have q := lowest_n (n := o.bound k * l.sum) hd
    have q2 : o.bound k * l.sum ≤ 10000 * 24 := Nat.mul_le_mul (O.bound k) (R.sum O)
    subst e
    exact ⟨lowest_good hd, by omega⟩
theorem all_fit : Fit Si83.all_ := ⟨⟨by decide, by decide⟩, by decide⟩
/-- one turn of share_of -/
def shareTurn (o : Order) (l : List Nat) (m : Part) (k : Nat) : Part := match o.by_ l k with
  | none => m
  | some x => if less x m = true then x else m
theorem strong_eq (o : Order) (l : List Nat) : o.strong l = (List.range 3).foldl (shareTurn o l) Si83.all_ := rfl
theorem shareTurn_fit {o : Order} {l : List Nat} (O : OrdOk o) (R : RowOk o l) {m : Part} (h : Fit m) (k : Nat) : Fit (shareTurn o l m k) := by
  unfold shareTurn
  cases e : o.by_ l k with
  | none => exact h
  | some x =>
    show Fit (if less x m = true then x else m)
    by_cases c : less x m = true
    · rw [if_pos c]
      exact by_fit O R e
    · rw [if_neg c]
      exact h
/-- behind i turns -/
def shareAt (o : Order) (l : List Nat) (i : Nat) : Part := (List.range i).foldl (shareTurn o l) Si83.all_
theorem shareAt_succ (o : Order) (l : List Nat) (i : Nat) : shareAt o l (i + 1) = shareTurn o l (shareAt o l i) i := by
  unfold shareAt
  rw [List.range_succ, List.foldl_append]
  rfl
theorem shareAt_fit {o : Order} {l : List Nat} (O : OrdOk o) (R : RowOk o l) : ∀ i, Fit (shareAt o l i)
  | 0 => all_fit
  | i + 1 => by
    rw [shareAt_succ]
    exact shareTurn_fit O R (shareAt_fit O R i) i
theorem strong_fit {o : Order} {l : List Nat} (O : OrdOk o) (R : RowOk o l) : Fit (o.strong l) := shareAt_fit O R 3
theorem turn_none {o : Order} {l : List Nat} {m : Part} {k : Nat} (h : o.by_ l k = none) : shareTurn o l m k = m := by
  unfold shareTurn
  rw [h]
theorem turn_less {o : Order} {l : List Nat} {m x : Part} {k : Nat} (h : o.by_ l k = some x) (c : 0 < cross m x) : shareTurn o l m k = x := by
  unfold shareTurn
  rw [h]
  exact if_pos (less_iff.mpr c)
theorem turn_more {o : Order} {l : List Nat} {m x : Part} {k : Nat} (h : o.by_ l k = some x) (c : ¬ 0 < cross m x) : shareTurn o l m k = m := by
  unfold shareTurn
  rw [h]
  exact if_neg fun q => c (less_iff.mp q)
/-! ### Formulas -/
/-- one material more -/
def longer (fs : List (List Nat)) (n : Nat) : List (List Nat) := fs.flatMap fun f => (List.range (n + 1)).map fun d => f ++ [d]
def grown (ns : List Nat) : List (List Nat) := ns.foldl longer [[]]
theorem flatMap_assoc' {α β γ : Type} (f : α → List β) (g : β → List γ) : ∀ l : List α, (l.flatMap f).flatMap g = l.flatMap fun a => (f a).flatMap g
  | [] => rfl
  | a :: l => by
    rw [List.flatMap_cons, List.flatMap_append, flatMap_assoc' f g l, List.flatMap_cons]
theorem flatMap_map' {α β γ : Type} (f : α → β) (g : β → List γ) : ∀ l : List α, (l.map f).flatMap g = l.flatMap fun a => g (f a)
  | [] => rfl
  | a :: l => by
    rw [List.map_cons, List.flatMap_cons, flatMap_map' f g l, List.flatMap_cons]
theorem map_flatMap' {α β γ : Type} (f : α → List β) (g : β → γ) : ∀ l : List α, (l.flatMap f).map g = l.flatMap fun a => (f a).map g
  | [] => rfl
  | a :: l => by
    rw [List.flatMap_cons, List.map_append, map_flatMap' f g l, List.flatMap_cons]
theorem flatMap_one {α : Type} : ∀ l : List α, (l.flatMap fun a => [a]) = l
  | [] => rfl
  | a :: l => by
    rw [List.flatMap_cons, flatMap_one l]
    rfl
theorem grown_all : ∀ (ns : List Nat) (fs : List (List Nat)), ns.foldl longer fs = fs.flatMap fun f => (Si83.rows ns).map fun r => f ++ r
  | [], fs => by
    have e : (fun (f : List Nat) => (Si83.rows []).map fun r => f ++ r) = fun f => [f] := by
      funext f
      show [f ++ []] = [f]
      rw [List.append_nil]
    rw [e, flatMap_one]
    rfl
  | n :: ns, fs => by
    rw [List.foldl_cons, grown_all ns (longer fs n)]
    unfold longer
    rw [flatMap_assoc']
    congr 1
    funext f
    rw [flatMap_map']
    show ((List.range (n + 1)).flatMap fun d => (Si83.rows ns).map fun r => f ++ [d] ++ r) = ((List.range (n + 1)).flatMap fun t => (Si83.rows ns).map fun l => t :: l).map fun r => f ++ r
    rw [map_flatMap']
    congr 1
    funext d
    rw [List.map_map]
    congr 1
    funext r
    show f ++ [d] ++ r = f ++ (d :: r)
    rw [List.append_assoc]
    rfl
theorem grown_rows (ns : List Nat) : grown ns = Si83.rows ns := by
  unfold grown
  rw [grown_all]
  show ((Si83.rows ns).map fun r => [] ++ r) ++ [] = Si83.rows ns
  rw [List.append_nil]
  exact List.map_id _
theorem grown_succ {ns : List Nat} {i n : Nat} (h : ns[i]? = some n) : grown (ns.take (i + 1)) = longer (grown (ns.take i)) n := by
  unfold grown
  have e : ns.take (i + 1) = ns.take i ++ [n] := by
    rw [List.take_add_one, h]
    rfl
  rw [e, List.foldl_append]
  rfl
theorem rows_mem : ∀ (ns l : List Nat), l ∈ Si83.rows ns → l.length = ns.length ∧ ∀ i, l.getD i 0 ≤ ns.getD i 0
  | [], l, h => by
    have e : l = [] := List.mem_singleton.mp h
    subst e
    exact ⟨rfl, fun i => Nat.le_refl _⟩
  | n :: ns, l, h => by
    have h' : l ∈ (List.range (n + 1)).flatMap fun t => (Si83.rows ns).map fun r => t :: r := h
    rw [List.mem_flatMap] at h'
    obtain ⟨t, ht, hl⟩ := h'
    rw [List.mem_map] at hl
    obtain ⟨r, hr, e⟩ := hl
    have ih := rows_mem ns r hr
    have htn : t < n + 1 := List.mem_range.mp ht
    subst e
    refine ⟨by rw [List.length_cons, List.length_cons, ih.1], fun i => ?_⟩
    cases i with
    | zero => exact Nat.le_of_lt_succ htn
    | succ i => exact ih.2 i
def mosts (o : Order) : List Nat := o.materials.map fun m => m.most
theorem getD_map (ms : List Material) (i : Nat) : (ms.map fun m => m.most).getD i 0 = (ms.getD i ⟨[0, 0, 0], 0, 0⟩).most := by
  rw [List.getD_eq_getElem?_getD, List.getD_eq_getElem?_getD, List.getElem?_map]
  cases ms[i]? <;> rfl
theorem formulas_eq (o : Order) : o.formulas = (grown (mosts o)).filter fun l => decide (0 < l.sum) := by
  rw [grown_rows]
  show (Si83.rows (mosts o)).filter o.right = _
  refine List.filter_congr fun l hl => ?_
  have h := rows_mem _ l hl
  have h1 : l.length = o.materials.length := by
    rw [h.1]
    exact List.length_map ..
  have e1 : o.told l = true := by
    unfold Order.told
    exact beq_iff_eq.mpr h1
  have e2 : ((List.range o.count).all fun i => decide (l.getD i 0 ≤ (o.material i).most)) = true := by
    rw [List.all_eq_true]
    intro i _
    have q := h.2 i
    unfold mosts at q
    rw [getD_map] at q
    exact decide_eq_true q
  unfold Order.right
  rw [e1, e2, Bool.true_and, Bool.true_and]
theorem formulas_ok {o : Order} (O : OrdOk o) {l : List Nat} (h : l ∈ o.formulas) : RowOk o l := by
  have h' : l ∈ (Si83.rows (mosts o)).filter o.right := h
  have h2 := rows_mem _ l (List.mem_filter.mp h').1
  refine ⟨by rw [h2.1]; exact List.length_map .., fun x hx => ?_⟩
  obtain ⟨i, hi⟩ := List.mem_iff_getElem?.mp hx
  have e1 : l.getD i 0 = x := by
    rw [List.getD_eq_getElem?_getD, hi]
    rfl
  have q := h2.2 i
  rw [e1] at q
  refine Nat.le_trans q (getD_le (b := 6) ?_ i)
  intro y hy
  unfold mosts at hy
  obtain ⟨m, hm, e⟩ := List.mem_map.mp hy
  rw [← e]
  exact (O.mats m hm).most
theorem grown_ok {o : Order} (O : OrdOk o) {l : List Nat} (h : l ∈ grown (mosts o)) : RowOk o l := by
  rw [grown_rows] at h
  have h2 := rows_mem _ l h
  refine ⟨by rw [h2.1]; exact List.length_map .., fun x hx => ?_⟩
  obtain ⟨i, hi⟩ := List.mem_iff_getElem?.mp hx
  have e1 : l.getD i 0 = x := by
    rw [List.getD_eq_getElem?_getD, hi]
    rfl
  have q := h2.2 i
  rw [e1] at q
  refine Nat.le_trans q (getD_le (b := 6) ?_ i)
  intro y hy
  unfold mosts at hy
  obtain ⟨m, hm, e⟩ := List.mem_map.mp hy
  rw [← e]
  exact (O.mats m hm).most
theorem longer_len (fs : List (List Nat)) (n : Nat) : (longer fs n).length = fs.length * (n + 1) := by
  unfold longer
  induction fs with
  | nil => simp
  | cons f fs ih =>
    rw [List.flatMap_cons, List.length_append, ih, List.length_map, List.length_range, List.length_cons, Nat.add_mul]
    omega
theorem grown_len {ns : List Nat} (h6 : ∀ x ∈ ns, x ≤ 6) : ∀ (i : Nat), (grown (ns.take i)).length ≤ 7 ^ i
  | 0 => by
    show (grown []).length ≤ 1
    exact Nat.le_refl 1
  | i + 1 => by
    have ih := grown_len h6 i
    cases e : ns[i]? with
    | none =>
      have hl : ns.length ≤ i := List.getElem?_eq_none_iff.mp e
      have e1 : ns.take (i + 1) = ns := List.take_of_length_le (by omega)
      have e2 : ns.take i = ns := List.take_of_length_le hl
      rw [e2] at ih
      rw [e1]
      have : 7 ^ i ≤ 7 ^ (i + 1) := Nat.pow_le_pow_right (by decide) (by omega)
      omega
    | some n =>
      rw [grown_succ e, longer_len]
      have hn : n ≤ 6 := h6 n (List.mem_of_getElem? e)
      have : (grown (ns.take i)).length * (n + 1) ≤ 7 ^ i * 7 := Nat.mul_le_mul ih (by omega)
      rw [Nat.pow_succ]
      exact this
theorem mosts_six {o : Order} (O : OrdOk o) : ∀ x ∈ mosts o, x ≤ 6 := by
  intro y hy
  unfold mosts at hy
  obtain ⟨m, hm, e⟩ := List.mem_map.mp hy
  rw [← e]
  exact (O.mats m hm).most
theorem mosts_len (o : Order) : (mosts o).length = o.materials.length := List.length_map ..
theorem pow7 {i : Nat} (h : i ≤ 4) : 7 ^ i ≤ 2401 := Nat.pow_le_pow_right (n := 7) (by decide) h
theorem grown_lt {o : Order} (O : OrdOk o) {i : Nat} (h : i ≤ o.materials.length) : (grown ((mosts o).take i)).length ≤ 2401 :=
  Nat.le_trans (grown_len (mosts_six O) i) (pow7 (Nat.le_trans h O.cnt))
theorem formulas_len {o : Order} (O : OrdOk o) : o.formulas.length ≤ 2401 := by
  rw [formulas_eq]
  refine Nat.le_trans (List.length_filter_le ..) ?_
  have h := grown_lt O (Nat.le_refl _)
  have e : (mosts o).take o.materials.length = mosts o := List.take_of_length_le (by rw [mosts_len] <;> exact Nat.le_refl _)
  rw [e] at h
  exact h
/-! ### May a formula be? -/
theorem told_iff {o : Order} {l : List Nat} : o.told l = true ↔ l.length = o.materials.length := by
  unfold Order.told
  exact beq_iff_eq
theorem right_iff {o : Order} {l : List Nat} (h : l.length = o.materials.length) : o.right l = true ↔ (∀ (i d : Nat) (m : Material), l[i]? = some d → o.materials[i]? = some m → d ≤ m.most) ∧ 0 < l.sum := by
  unfold Order.right
  rw [told_iff.mpr h, Bool.true_and, Bool.and_eq_true, decide_eq_true_iff, List.all_eq_true]
  refine and_congr ⟨fun k i d m h1 h2 => ?_, fun k i hi => ?_⟩ Iff.rfl
  · have hi : i < o.materials.length := by
      cases Nat.lt_or_ge i o.materials.length with
      | inl q => exact q
      | inr q => rw [List.getElem?_eq_none_iff.mpr q] at h2; cases h2
    have q := of_decide_eq_true (k i (List.mem_range.mpr hi))
    unfold Order.material at q
    rw [List.getD_eq_getElem?_getD, List.getD_eq_getElem?_getD, h1, h2] at q
    exact q
  · have hi2 : i < o.materials.length := List.mem_range.mp hi
    refine decide_eq_true ?_
    unfold Order.material
    rw [List.getD_eq_getElem?_getD, List.getD_eq_getElem?_getD]
    have e1 : l[i]? = some (l[i]'(by omega)) := List.getElem?_eq_getElem (by omega)
    have e2 : o.materials[i]? = some (o.materials[i]'hi2) := List.getElem?_eq_getElem hi2
    rw [e1, e2]
    exact k i _ _ e1 e2
theorem right_ok {o : Order} (O : OrdOk o) {l : List Nat} (h : l.length = o.materials.length) (r : o.right l = true) : RowOk o l := by
  refine ⟨h, fun x hx => ?_⟩
  obtain ⟨i, hi⟩ := List.mem_iff_getElem?.mp hx
  have hl : i < l.length := by
    cases Nat.lt_or_ge i l.length with
    | inl q => exact q
    | inr q => rw [List.getElem?_eq_none_iff.mpr q] at hi; cases hi
  have e2 : o.materials[i]? = some (o.materials[i]'(by omega)) := List.getElem?_eq_getElem (by omega)
  have q := ((right_iff h).mp r).1 i x _ hi e2
  exact Nat.le_trans q (O.mats _ (List.mem_of_getElem? e2)).most
/-! ### The best -/
structure Off where
  row : List Nat
  s : Part
  c : Nat
def offOf (o : Order) (l : List Nat) : Off := ⟨l, o.strong l, o.changed l⟩
def ltS (x y : Off) : Bool := decide (0 < cross x.s y.s) || (decide (cross x.s y.s = 0) && decide (x.c < y.c))
def ltN (x y : Off) : Bool := if x.c = y.c then decide (0 < cross x.s y.s) else decide (x.c < y.c)
abbrev BSt := Option (Off × Nat)
def bestTurn (lt : Off → Off → Bool) (b : BSt) (x : Off) : BSt := match b with
  | none => some (x, 1)
  | some (y, n) => if lt x y = true then some (x, 1) else if lt y x = true then some (y, n) else some (y, n + 1)
def zsOf (l : List Nat) : List Int := l.map fun (n : Nat) => (n : Int)
def bestTold : BSt → List Int
  | none => [-6]
  | some (x, n) => [0, (x.s.n : Int), (x.s.d : Int), (x.c : Int), (n : Int)] ++ zsOf x.row
def best (lt : Off → Off → Bool) (xs : List Off) : BSt := xs.foldl (bestTurn lt) none
theorem best_more {lt : Off → Off → Bool} {xs : List Off} {i : Nat} {x : Off} (h : xs[i]? = some x) : best lt (xs.take (i + 1)) = bestTurn lt (best lt (xs.take i)) x := by
  have e : xs.take (i + 1) = xs.take i ++ [x] := by
    rw [List.take_add_one, h]
    rfl
  unfold best
  rw [e, List.foldl_append]
  rfl
/-- a state of the specification, as ours -/
def mine (b : Option Si83.Best) : BSt := b.map fun b => (⟨b.row, b.strong, b.changed⟩, b.many)
theorem told_mine (b : Option Si83.Best) : bestTold (mine b) = (Si83.toldBest b).v :: (Si83.toldBest b).l := by
  cases b with
  | none => rfl
  | some b => rfl
/-- the specification's two turns -/
def specS (o : Order) (r : Option Si83.Best) (l : List Nat) : Option Si83.Best := match r with
  | none => some ⟨o.strong l, o.changed l, 1, l⟩
  | some x => if (less x.strong (o.strong l) || (o.strong l == x.strong && decide (o.changed l < x.changed))) = true then some ⟨o.strong l, o.changed l, 1, l⟩ else if o.strong l = x.strong ∧ o.changed l = x.changed then some { x with many := x.many + 1 } else some x
def specN (o : Order) (r : Option Si83.Best) (l : List Nat) : Option Si83.Best := match r with
  | none => some ⟨o.strong l, o.changed l, 1, l⟩
  | some x => if (decide (o.changed l < x.changed) || (o.changed l == x.changed && less x.strong (o.strong l))) = true then some ⟨o.strong l, o.changed l, 1, l⟩ else if o.strong l = x.strong ∧ o.changed l = x.changed then some { x with many := x.many + 1 } else some x
def bestFit (b : Option Si83.Best) : Prop := ∀ x, b = some x → Fit x.strong
theorem turnS {o : Order} {l : List Nat} (F : Fit (o.strong l)) {b : Option Si83.Best} (hb : bestFit b) : bestTurn ltS (mine b) (offOf o l) = mine (specS o b l) ∧ bestFit (specS o b l) := by
  cases b with
  | none =>
    refine ⟨rfl, ?_⟩
    rintro x ⟨⟩
    exact F
  | some x =>
    have Fx := hb x rfl
    have ge : cross (o.strong l) x.strong = 0 ↔ o.strong l = x.strong := good_iff F.toGood Fx.toGood
    have sw := cross_swap (o.strong l) x.strong
    show (if ltS (offOf o l) ⟨x.row, x.strong, x.changed⟩ = true then some (offOf o l, 1) else if ltS ⟨x.row, x.strong, x.changed⟩ (offOf o l) = true then some (⟨x.row, x.strong, x.changed⟩, x.many) else some (⟨x.row, x.strong, x.changed⟩, x.many + 1)) = _ ∧ _
    have e1 : ltS (offOf o l) ⟨x.row, x.strong, x.changed⟩ = true ↔ (0 < cross (o.strong l) x.strong ∨ (cross (o.strong l) x.strong = 0 ∧ o.changed l < x.changed)) := by
      show (decide (0 < cross (o.strong l) x.strong) || (decide (cross (o.strong l) x.strong = 0) && decide (o.changed l < x.changed))) = true ↔ _
      rw [Bool.or_eq_true, Bool.and_eq_true, decide_eq_true_iff, decide_eq_true_iff, decide_eq_true_iff]
    have e2 : ltS ⟨x.row, x.strong, x.changed⟩ (offOf o l) = true ↔ (0 < cross x.strong (o.strong l) ∨ (cross x.strong (o.strong l) = 0 ∧ x.changed < o.changed l)) := by
      show (decide (0 < cross x.strong (o.strong l)) || (decide (cross x.strong (o.strong l) = 0) && decide (x.changed < o.changed l))) = true ↔ _
      rw [Bool.or_eq_true, Bool.and_eq_true, decide_eq_true_iff, decide_eq_true_iff, decide_eq_true_iff]
    have e3 : (less x.strong (o.strong l) || (o.strong l == x.strong && decide (o.changed l < x.changed))) = true ↔ (0 < cross (o.strong l) x.strong ∨ (cross (o.strong l) x.strong = 0 ∧ o.changed l < x.changed)) := by
      rw [Bool.or_eq_true, Bool.and_eq_true, decide_eq_true_iff, less_iff, beq_iff_eq, ge]
    by_cases c1 : 0 < cross (o.strong l) x.strong ∨ (cross (o.strong l) x.strong = 0 ∧ o.changed l < x.changed)
    · have es : specS o (some x) l = some ⟨o.strong l, o.changed l, 1, l⟩ := if_pos (e3.mpr c1)
      rw [if_pos (e1.mpr c1), es]
      refine ⟨rfl, ?_⟩
      rintro y ⟨⟩
      exact F
    · have es : specS o (some x) l = if o.strong l = x.strong ∧ o.changed l = x.changed then some { x with many := x.many + 1 } else some x := if_neg fun q => c1 (e3.mp q)
      rw [if_neg fun q => c1 (e1.mp q), es]
      by_cases c2 : o.strong l = x.strong ∧ o.changed l = x.changed
      · have n2 : ¬ (0 < cross x.strong (o.strong l) ∨ (cross x.strong (o.strong l) = 0 ∧ x.changed < o.changed l)) := by
          have := ge.mpr c2.1
          omega
        rw [if_neg fun q => n2 (e2.mp q), if_pos c2]
        refine ⟨rfl, ?_⟩
        rintro y ⟨⟩
        exact Fx
      · have n2 : 0 < cross x.strong (o.strong l) ∨ (cross x.strong (o.strong l) = 0 ∧ x.changed < o.changed l) := by
          by_cases z : cross (o.strong l) x.strong = 0
          · have z2 := ge.mp z
            have z3 : ¬ o.changed l = x.changed := fun q => c2 ⟨z2, q⟩
            omega
          · omega
        rw [if_pos (e2.mpr n2), if_neg c2]
        refine ⟨rfl, ?_⟩
        rintro y ⟨⟩
        exact Fx
theorem turnN {o : Order} {l : List Nat} (F : Fit (o.strong l)) {b : Option Si83.Best} (hb : bestFit b) : bestTurn ltN (mine b) (offOf o l) = mine (specN o b l) ∧ bestFit (specN o b l) := by
  cases b with
  | none =>
    refine ⟨rfl, ?_⟩
    rintro x ⟨⟩
    exact F
  | some x =>
    have Fx := hb x rfl
    have ge : cross (o.strong l) x.strong = 0 ↔ o.strong l = x.strong := good_iff F.toGood Fx.toGood
    have sw := cross_swap (o.strong l) x.strong
    show (if ltN (offOf o l) ⟨x.row, x.strong, x.changed⟩ = true then some (offOf o l, 1) else if ltN ⟨x.row, x.strong, x.changed⟩ (offOf o l) = true then some (⟨x.row, x.strong, x.changed⟩, x.many) else some (⟨x.row, x.strong, x.changed⟩, x.many + 1)) = _ ∧ _
    have e1 : ltN (offOf o l) ⟨x.row, x.strong, x.changed⟩ = true ↔ (o.changed l < x.changed ∨ (o.changed l = x.changed ∧ 0 < cross (o.strong l) x.strong)) := by
      show (if o.changed l = x.changed then decide (0 < cross (o.strong l) x.strong) else decide (o.changed l < x.changed)) = true ↔ _
      by_cases z : o.changed l = x.changed
      · rw [if_pos z, decide_eq_true_iff]
        omega
      · rw [if_neg z, decide_eq_true_iff]
        omega
    have e2 : ltN ⟨x.row, x.strong, x.changed⟩ (offOf o l) = true ↔ (x.changed < o.changed l ∨ (x.changed = o.changed l ∧ 0 < cross x.strong (o.strong l))) := by
      show (if x.changed = o.changed l then decide (0 < cross x.strong (o.strong l)) else decide (x.changed < o.changed l)) = true ↔ _
      by_cases z : x.changed = o.changed l
      · rw [if_pos z, decide_eq_true_iff]
        omega
      · rw [if_neg z, decide_eq_true_iff]
        omega
    have e3 : (decide (o.changed l < x.changed) || (o.changed l == x.changed && less x.strong (o.strong l))) = true ↔ (o.changed l < x.changed ∨ (o.changed l = x.changed ∧ 0 < cross (o.strong l) x.strong)) := by
      rw [Bool.or_eq_true, Bool.and_eq_true, decide_eq_true_iff, less_iff, beq_iff_eq]
    by_cases c1 : o.changed l < x.changed ∨ (o.changed l = x.changed ∧ 0 < cross (o.strong l) x.strong)
    · have es : specN o (some x) l = some ⟨o.strong l, o.changed l, 1, l⟩ := if_pos (e3.mpr c1)
      rw [if_pos (e1.mpr c1), es]
      refine ⟨rfl, ?_⟩
      rintro y ⟨⟩
      exact F
    · have es : specN o (some x) l = if o.strong l = x.strong ∧ o.changed l = x.changed then some { x with many := x.many + 1 } else some x := if_neg fun q => c1 (e3.mp q)
      rw [if_neg fun q => c1 (e1.mp q), es]
      by_cases c2 : o.strong l = x.strong ∧ o.changed l = x.changed
      · have n2 : ¬ (x.changed < o.changed l ∨ (x.changed = o.changed l ∧ 0 < cross x.strong (o.strong l))) := by
          have := ge.mpr c2.1
          have := c2.2
          omega
        rw [if_neg fun q => n2 (e2.mp q), if_pos c2]
        refine ⟨rfl, ?_⟩
        rintro y ⟨⟩
        exact Fx
      · have n2 : x.changed < o.changed l ∨ (x.changed = o.changed l ∧ 0 < cross x.strong (o.strong l)) := by
          by_cases z : cross (o.strong l) x.strong = 0
          · have z2 := ge.mp z
            have z3 : ¬ o.changed l = x.changed := fun q => c2 ⟨z2, q⟩
            omega
          · omega
        rw [if_pos (e2.mpr n2), if_neg c2]
        refine ⟨rfl, ?_⟩
        rintro y ⟨⟩
        exact Fx
theorem foldS {o : Order} : ∀ (ls : List (List Nat)) (b : Option Si83.Best), (∀ l ∈ ls, Fit (o.strong l)) → bestFit b → (ls.map (offOf o)).foldl (bestTurn ltS) (mine b) = mine (ls.foldl (specS o) b)
  | [], _, _, _ => rfl
  | l :: ls, b, h, hb => by
    have t := turnS (h l List.mem_cons_self) hb
    rw [List.map_cons, List.foldl_cons, List.foldl_cons, t.1]
    exact foldS ls _ (fun x hx => h x (List.mem_cons_of_mem l hx)) t.2
theorem foldN {o : Order} : ∀ (ls : List (List Nat)) (b : Option Si83.Best), (∀ l ∈ ls, Fit (o.strong l)) → bestFit b → (ls.map (offOf o)).foldl (bestTurn ltN) (mine b) = mine (ls.foldl (specN o) b)
  | [], _, _, _ => rfl
  | l :: ls, b, h, hb => by
    have t := turnN (h l List.mem_cons_self) hb
    rw [List.map_cons, List.foldl_cons, List.foldl_cons, t.1]
    exact foldN ls _ (fun x hx => h x (List.mem_cons_of_mem l hx)) t.2
/-- strongest's own list -/
def upTo (o : Order) (c : Nat) : List (List Nat) := o.formulas.filter fun l => decide (o.changed l ≤ c)
theorem strongest_is {o : Order} (O : OrdOk o) (c : Nat) : bestTold (best ltS ((upTo o c).map (offOf o))) = (Si83.toldBest (o.strongest c)).v :: (Si83.toldBest (o.strongest c)).l := by
  rw [← told_mine]
  refine congrArg bestTold (foldS (upTo o c) none (fun l hl => ?_) fun x h => by cases h)
  exact strong_fit O (formulas_ok O (List.mem_filter.mp hl).1)
/-- nearest's own list -/
def asStrong (p q : Nat) (xs : List Off) : List Off := xs.filter fun x => decide (0 ≤ cross x.s ⟨p, q⟩)
theorem filter_map' {α β : Type} (f : α → β) (t : β → Bool) : ∀ l : List α, (l.map f).filter t = (l.filter fun a => t (f a)).map f
  | [] => rfl
  | a :: l => by
    have ih := filter_map' f t l
    by_cases h : t (f a) = true
    · rw [List.map_cons, List.filter_cons_of_pos h, ih]
      simp only [List.filter_cons, h, if_true, List.map_cons]
    · rw [List.map_cons, List.filter_cons_of_neg h, ih]
      simp only [List.filter_cons, h, if_false, Bool.false_eq_true]
theorem nearest_is {o : Order} (O : OrdOk o) {p q : Nat} (hq : 0 < q) : bestTold (best ltN (asStrong p q (o.formulas.map (offOf o)))) = (Si83.toldBest (o.nearest (lowest p q))).v :: (Si83.toldBest (o.nearest (lowest p q))).l := by
  rw [← told_mine]
  refine congrArg bestTold ?_
  have e : asStrong p q (o.formulas.map (offOf o)) = (o.formulas.filter fun l => !less (o.strong l) (lowest p q)).map (offOf o) := by
    unfold asStrong
    rw [filter_map']
    congr 1
    refine List.filter_congr fun l _ => ?_
    show decide (0 ≤ cross (o.strong l) ⟨p, q⟩) = !less (o.strong l) (lowest p q)
    have k := lowest_less (n := p) hq (o.strong l)
    cases e : less (o.strong l) (lowest p q) with
    | true =>
      have := k.mp e
      exact decide_eq_false (by omega)
    | false =>
      refine decide_eq_true ?_
      rcases Int.lt_or_le (cross (o.strong l) ⟨p, q⟩) 0 with z | z
      · rw [k.mpr z] at e
        cases e
      · exact z
  rw [e]
  exact foldN _ none (fun l hl => strong_fit O (formulas_ok O (List.mem_filter.mp hl).1)) fun x h => by cases h
end Oil
namespace Oil
open Si83 (Part Order Material less lowest)
abbrev CM : Nat := 4294967295
/-- a call as it is handed in -/
def flat : Si83.Call → List Int
  | .begins b => 0 :: zsOf b
  | .material m => 1 :: (zsOf m.parts ++ [(m.wanted : Int), (m.most : Int)])
  | .check l => 2 :: (l.length : Int) :: zsOf l
  | .strongest c => [3, (c : Int)]
  | .nearest p q => [4, (p : Int), (q : Int)]
def callOk : Si83.Call → Prop
  | .begins b => b.length = 3 ∧ ∀ x ∈ b, x ≤ CM
  | .material m => m.parts.length = 3 ∧ (∀ x ∈ m.parts, x ≤ CM) ∧ m.wanted ≤ CM ∧ m.most ≤ CM
  | .check l => l.length ≤ 6 ∧ ∀ x ∈ l, x ≤ CM
  | .strongest c => c ≤ CM
  | .nearest p q => p ≤ CM ∧ q ≤ CM
theorem within_iff {lo hi z : Int} : PyInside.within lo hi z = true ↔ lo ≤ z ∧ z ≤ hi := by
  unfold PyInside.within
  rw [Bool.and_eq_true, decide_eq_true_iff, decide_eq_true_iff]
theorem nat_of {z : Int} (h : 0 ≤ z) : ((z.toNat : Nat) : Int) = z := Int.toNat_of_nonneg h
theorem nat_le {z : Int} (h : z ≤ 4294967295) : z.toNat ≤ CM := by
  show z.toNat ≤ 4294967295
  omega
theorem ints_back : ∀ {l : List Int}, (∀ x ∈ l, 0 ≤ x) → zsOf (l.map Int.toNat) = l
  | [], _ => rfl
  | x :: l, h => by
    have ih := ints_back (l := l) fun y hy => h y (List.mem_cons_of_mem x hy)
    have e := nat_of (h x List.mem_cons_self)
    show ((x.toNat : Nat) : Int) :: zsOf (l.map Int.toNat) = x :: l
    rw [ih, e]
theorem call_read {c : List (List Int)} (h : PyFlat.okCall PySi83.shape c) (b : PyInside.call PySi83.bound c = true) :
    ∃ q : Si83.Call, callOk q ∧ PyFlat.put1 c = flat q ∧ Si83Neutral.callOf ((PySi83.whole c).headD []) = some q := by
  obtain ⟨p, a, xs, rfl, hs⟩ := h
  unfold PySi83.shape at hs
  by_cases h0 : p = 0
  · rw [if_pos h0] at hs
    subst h0
    obtain ⟨ha, hx⟩ := Prod.mk.inj (Option.some.inj hs)
    match a, xs, ha, hx with
    | [x0, x1, x2], [], _, _ =>
      have b' : (PyInside.within 0 4294967295 x0 && (PyInside.within 0 4294967295 x1 && (PyInside.within 0 4294967295 x2 && true)) && true) = true := b
      simp only [Bool.and_eq_true, within_iff, and_true] at b'
      obtain ⟨a0, a1, a2⟩ := b'
      refine ⟨.begins [x0.toNat, x1.toNat, x2.toNat], ⟨rfl, ?_⟩, ?_, rfl⟩
      · intro x hx
        simp only [List.mem_cons, List.not_mem_nil, or_false] at hx
        rcases hx with rfl | rfl | rfl
        · exact nat_le a0.2
        · exact nat_le a1.2
        · exact nat_le a2.2
      · show [0, x0, x1, x2] = [0, ((x0.toNat : Nat) : Int), ((x1.toNat : Nat) : Int), ((x2.toNat : Nat) : Int)]
        rw [nat_of a0.1, nat_of a1.1, nat_of a2.1]
  · rw [if_neg h0] at hs
    by_cases h1 : p = 1
    · rw [if_pos h1] at hs
      subst h1
      obtain ⟨ha, hx⟩ := Prod.mk.inj (Option.some.inj hs)
      match a, xs, ha, hx with
      | [x0, x1, x2, x3, x4], [], _, _ =>
        have b' : (PyInside.within 0 4294967295 x0 && (PyInside.within 0 4294967295 x1 && (PyInside.within 0 4294967295 x2 && (PyInside.within 0 4294967295 x3 && (PyInside.within 0 4294967295 x4 && true)))) && true) = true := b
        simp only [Bool.and_eq_true, within_iff, and_true] at b'
        obtain ⟨a0, a1, a2, a3, a4⟩ := b'
        refine ⟨.material ⟨[x0.toNat, x1.toNat, x2.toNat], x3.toNat, x4.toNat⟩, ⟨rfl, ?_, nat_le a3.2, nat_le a4.2⟩, ?_, rfl⟩
        · intro x hx
          simp only [List.mem_cons, List.not_mem_nil, or_false] at hx
          rcases hx with rfl | rfl | rfl
          · exact nat_le a0.2
          · exact nat_le a1.2
          · exact nat_le a2.2
        · show [1, x0, x1, x2, x3, x4] = [1, ((x0.toNat : Nat) : Int), ((x1.toNat : Nat) : Int), ((x2.toNat : Nat) : Int), ((x3.toNat : Nat) : Int), ((x4.toNat : Nat) : Int)]
          rw [nat_of a0.1, nat_of a1.1, nat_of a2.1, nat_of a3.1, nat_of a4.1]
    · rw [if_neg h1] at hs
      by_cases h2 : p = 2
      · rw [if_pos h2] at hs
        subst h2
        obtain ⟨ha, hx⟩ := Prod.mk.inj (Option.some.inj hs)
        match a, xs, ha, hx with
        | [], [r], _, _ =>
          have b' : (true && (decide (0 ≤ r.length) && decide (r.length ≤ 6) && r.all (PyInside.within 0 4294967295) && true)) = true := b
          simp only [Bool.and_eq_true, decide_eq_true_iff, List.all_eq_true, within_iff, and_true, true_and] at b'
          obtain ⟨⟨_, hl⟩, hr⟩ := b'
          refine ⟨.check (r.map Int.toNat), ⟨by rw [List.length_map]; exact hl, ?_⟩, ?_, ?_⟩
          · intro x hx
            obtain ⟨y, hy, e⟩ := List.mem_map.mp hx
            rw [← e]
            exact nat_le (hr y hy).2
          · show 2 :: ((r.length : Int) :: r ++ []) = 2 :: (((r.map Int.toNat).length : Nat) : Int) :: zsOf (r.map Int.toNat)
            rw [ints_back fun x hx => (hr x hx).1, List.length_map, List.append_nil]
          · show (if (r.map Int.toNat).length ≤ 6 then some (Si83.Call.check (r.map Int.toNat)) else none) = _
            rw [if_pos (by rw [List.length_map]; exact hl)]
      · rw [if_neg h2] at hs
        by_cases h3 : p = 3
        · rw [if_pos h3] at hs
          subst h3
          obtain ⟨ha, hx⟩ := Prod.mk.inj (Option.some.inj hs)
          match a, xs, ha, hx with
          | [x0], [], _, _ =>
            have b' : (PyInside.within 0 4294967295 x0 && true && true) = true := b
            simp only [Bool.and_eq_true, within_iff, and_true] at b'
            refine ⟨.strongest x0.toNat, nat_le b'.2, ?_, rfl⟩
            show [3, x0] = [3, ((x0.toNat : Nat) : Int)]
            rw [nat_of b'.1]
        · rw [if_neg h3] at hs
          by_cases h4 : p = 4
          · rw [if_pos h4] at hs
            subst h4
            obtain ⟨ha, hx⟩ := Prod.mk.inj (Option.some.inj hs)
            match a, xs, ha, hx with
            | [x0, x1], [], _, _ =>
              have b' : (PyInside.within 0 4294967295 x0 && (PyInside.within 0 4294967295 x1 && true) && true) = true := b
              simp only [Bool.and_eq_true, within_iff, and_true] at b'
              obtain ⟨a0, a1⟩ := b'
              refine ⟨.nearest x0.toNat x1.toNat, ⟨nat_le a0.2, nat_le a1.2⟩, ?_, rfl⟩
              show [4, x0, x1] = [4, ((x0.toNat : Nat) : Int), ((x1.toNat : Nat) : Int)]
              rw [nat_of a0.1, nat_of a1.1]
          · rw [if_neg h4] at hs
            cases hs
/-- what one call tells -/
def ansOf (o : Order) (q : Si83.Call) : List Int := (Si83.step o q).2.v :: (Si83.step o q).2.l
def piece (o : Order) (q : Si83.Call) : List Int := ((ansOf o q).length : Int) :: ansOf o q
def after (o : Order) (qs : List Si83.Call) : Order := qs.foldl (fun o q => (Si83.step o q).1) o
def out (o : Order) : List Si83.Call → List Int
  | [] => []
  | q :: r => piece o q ++ out (Si83.step o q).1 r
def flats (qs : List Si83.Call) : List Int := qs.flatMap flat
theorem out_more : ∀ (d : List Si83.Call) (o : Order) (q : Si83.Call), out o (d ++ [q]) = out o d ++ piece (after o d) q
  | [], o, q => by
    show piece o q ++ [] = [] ++ piece o q
    rw [List.append_nil]
    rfl
  | c :: d, o, q => by
    show piece o c ++ out (Si83.step o c).1 (d ++ [q]) = piece o c ++ out (Si83.step o c).1 d ++ piece (after (Si83.step o c).1 d) q
    rw [out_more d, List.append_assoc]
theorem out_len : ∀ (d r : List Si83.Call) (o : Order), (out o d).length ≤ (out o (d ++ r)).length
  | [], r, o => Nat.zero_le _
  | c :: d, r, o => by
    have ih := out_len d r (Si83.step o c).1
    show (piece o c ++ out (Si83.step o c).1 d).length ≤ (piece o c ++ out (Si83.step o c).1 (d ++ r)).length
    rw [List.length_append, List.length_append]
    omega
theorem after_more (d : List Si83.Call) (o : Order) (q : Si83.Call) : after o (d ++ [q]) = (Si83.step (after o d) q).1 := by
  unfold after
  rw [List.foldl_append]
  rfl
theorem flats_more (d : List Si83.Call) (q : Si83.Call) : flats (d ++ [q]) = flats d ++ flat q := by
  unfold flats
  rw [List.flatMap_append, List.flatMap_cons, List.flatMap_nil, List.append_nil]
theorem flats_cons (q : Si83.Call) (d : List Si83.Call) : flats (q :: d) = flat q ++ flats d := by
  unfold flats
  rw [List.flatMap_cons]
theorem flats_app (d r : List Si83.Call) : flats (d ++ r) = flats d ++ flats r := by
  unfold flats
  rw [List.flatMap_append]
theorem flat_pos (q : Si83.Call) : 0 < (flat q).length := by
  cases q <;> exact Nat.succ_pos _
theorem whole_len {c : List (List Int)} (q : Si83.Call) (h : Si83Neutral.callOf ((PySi83.whole c).headD []) = some q) (o : Order) : Si83Neutral.step o (PySi83.whole c) = ((Si83.step o q).1, ansOf o q) := by
  unfold Si83Neutral.step
  rw [h]
  rfl
theorem read_all : ∀ (cs : List (List (List Int))), (∀ c ∈ cs, PyFlat.okCall PySi83.shape c) → PyInside.calls PySi83.bound cs = true →
    ∃ qs : List Si83.Call, (∀ q ∈ qs, callOk q) ∧ PyFlat.put cs = flats qs ∧ qs.length = cs.length ∧ ∀ o : Order, PyFlat.told (PyFlat.played Si83Neutral.step o (cs.map PySi83.whole)) = out o qs
  | [], _, _ => ⟨[], (fun q h => by cases h), rfl, rfl, fun o => rfl⟩
  | c :: cs, h, b => by
    have b' : (PyInside.call PySi83.bound c && PyInside.calls PySi83.bound cs) = true := b
    rw [Bool.and_eq_true] at b'
    obtain ⟨q, k1, k2, k3⟩ := call_read (h c List.mem_cons_self) b'.1
    obtain ⟨qs, a1, a2, a3, a4⟩ := read_all cs (fun d hd => h d (List.mem_cons_of_mem c hd)) b'.2
    refine ⟨q :: qs, ?_, ?_, by rw [List.length_cons, List.length_cons, a3], fun o => ?_⟩
    · intro x hx
      rcases List.mem_cons.mp hx with rfl | hx
      · exact k1
      · exact a1 x hx
    · show PyFlat.put1 c ++ PyFlat.put cs = _
      rw [k2, a2, flats_cons]
    · have e := whole_len q k3 o
      show PyFlat.told ((Si83Neutral.step o (PySi83.whole c)).2 :: PyFlat.played Si83Neutral.step (Si83Neutral.step o (PySi83.whole c)).1 (cs.map PySi83.whole)) = piece o q ++ out (Si83.step o q).1 qs
      rw [e, ← a4]
      rfl
/-- THE READING: what is asked is a row of calls, and what is due is told call by call -/
theorem asked_read {l : List Int} (h : PySi83.answers_asked l = true) : ∃ qs : List Si83.Call, (∀ q ∈ qs, callOk q) ∧ l = flats qs ∧ PySi83.answers l = out Si83.init qs ∧ (out Si83.init qs).length ≤ 10000000 := by
  unfold PySi83.answers_asked at h
  cases e : PyFlat.calls PySi83.shape l.length l with
  | none =>
    rw [e] at h
    cases h
  | some raw =>
    rw [e] at h
    have h' : (!raw.isEmpty && PyFlat.atMost 60 raw && PyInside.calls PySi83.bound raw && Si83Neutral.asked (raw.map PySi83.whole) && PyFlat.short 10000000 (PySi83.answers l)) = true := h
    rw [Bool.and_eq_true, Bool.and_eq_true, Bool.and_eq_true] at h'
    obtain ⟨⟨⟨_, h1⟩, _⟩, h2⟩ := h'
    obtain ⟨r1, r2⟩ := PyFlat.put_calls _ _ _ e
    obtain ⟨qs, a1, a2, _, a4⟩ := read_all raw r2 h1
    have ea : PySi83.answers l = out Si83.init qs := by
      unfold PySi83.answers PySi83.calls
      rw [e]
      exact a4 Si83.init
    refine ⟨qs, a1, r1.trans a2, ea, ?_⟩
    rw [← ea]
    exact of_decide_eq_true h2
/-! ### What each call does, case by case -/
theorem init_ok : OrdOk Si83.init := ⟨rfl, by decide, by decide, fun m h => by cases h⟩
theorem all_le {l : List Nat} {b : Nat} : (l.all fun n => decide (n ≤ b)) = true ↔ ∀ x ∈ l, x ≤ b := by
  rw [List.all_eq_true]
  exact ⟨fun h x hx => of_decide_eq_true (h x hx), fun h x hx => decide_eq_true (h x hx)⟩
theorem begins_no {o : Order} {b : List Nat} (h : ¬ ∀ x ∈ b, x ≤ 10000) : Si83.step o (.begins b) = (o, Si83.ok (-1)) := by
  refine if_pos (Or.inr ?_)
  cases e : (b.all fun n => decide (n ≤ 10000)) with
  | true => exact absurd (all_le.mp e) h
  | false => rfl
theorem begins_yes {o : Order} {b : List Nat} (hl : b.length = 3) (h : ∀ x ∈ b, x ≤ 10000) : Si83.step o (.begins b) = (⟨b, []⟩, Si83.ok 0) := by
  refine if_neg ?_
  rintro (z | z)
  · exact z hl
  · rw [all_le.mpr h] at z
    cases z
theorem material_no {o : Order} {m : Material} (h : ¬ (∀ x ∈ m.parts, x ≤ 1000) ∨ m.most < m.wanted ∨ 6 < m.most) : Si83.step o (.material m) = (o, Si83.ok (-1)) := by
  refine if_pos ?_
  rcases h with h | h | h
  · refine Or.inr (Or.inl ?_)
    cases e : (m.parts.all fun n => decide (n ≤ Si83.THOUSAND)) with
    | true => exact absurd (all_le.mp e) h
    | false => rfl
  · exact Or.inr (Or.inr (Or.inr h))
  · exact Or.inr (Or.inr (Or.inl h))
theorem material_if {o : Order} {m : Material} (hl : m.parts.length = 3) (h1 : ∀ x ∈ m.parts, x ≤ 1000) (h2 : m.wanted ≤ m.most) (h3 : m.most ≤ 6) :
    Si83.step o (.material m) = if 4 ≤ o.materials.length then (o, Si83.ok (-5)) else ({ o with materials := o.materials ++ [m] }, Si83.ok ((o.materials.length : Nat) : Int)) := by
  refine if_neg ?_
  rintro (z | z | z | z)
  · exact z hl
  · have e : (m.parts.all fun n => decide (n ≤ Si83.THOUSAND)) = true := all_le.mpr h1
    rw [e] at z
    cases z
  · exact absurd z (Nat.not_lt.mpr h3)
  · exact absurd z (Nat.not_lt.mpr h2)
theorem step_ok {o : Order} {q : Si83.Call} (O : OrdOk o) (h : callOk q) : OrdOk (Si83.step o q).1 := by
  cases q with
  | begins b =>
    by_cases c : ∀ x ∈ b, x ≤ 10000
    · rw [begins_yes h.1 c]
      exact ⟨h.1, c, by show 0 ≤ 4; decide, fun m hm => by cases hm⟩
    · rw [begins_no c]
      exact O
  | material m =>
    by_cases c : ¬ (∀ x ∈ m.parts, x ≤ 1000) ∨ m.most < m.wanted ∨ 6 < m.most
    · rw [material_no c]
      exact O
    · have c1 : ∀ x ∈ m.parts, x ≤ 1000 := Classical.byContradiction fun z => c (Or.inl z)
      have c2 : m.wanted ≤ m.most := Nat.not_lt.mp fun z => c (Or.inr (Or.inl z))
      have c3 : m.most ≤ 6 := Nat.not_lt.mp fun z => c (Or.inr (Or.inr z))
      rw [material_if h.1 c1 c2 c3]
      by_cases c4 : 4 ≤ o.materials.length
      · rw [if_pos c4]
        exact O
      · rw [if_neg c4]
        refine ⟨O.len, O.bnd, ?_, fun x hx => ?_⟩
        · show (o.materials ++ [m]).length ≤ 4
          rw [List.length_append, List.length_singleton]
          omega
        · rcases List.mem_append.mp hx with hx | hx
          · exact O.mats x hx
          · rw [List.mem_singleton.mp hx]
            exact ⟨h.1, c1, c2, c3⟩
  | check l =>
    show OrdOk (if o.told l = false then (o, Si83.ok (-1)) else if o.right l = false then (o, Si83.ok (-4)) else (o, (⟨0, Si83.«ints» (Si83.both (o.strong l) ++ (o.changed l :: o.holds l))⟩ : Si83.Ans))).1
    split
    · exact O
    · split <;> exact O
  | strongest c => exact O
  | nearest p q =>
    show OrdOk (if p < 1 ∨ q < p ∨ 10000 < q then (o, Si83.ok (-1)) else (o, Si83.toldBest (o.nearest (lowest p q)))).1
    split <;> exact O
theorem after_ok : ∀ {d : List Si83.Call} {o : Order}, OrdOk o → (∀ q ∈ d, callOk q) → OrdOk (after o d)
  | [], _, O, _ => O
  | q :: d, o, O, h => after_ok (d := d) (o := (Si83.step o q).1) (step_ok O (h q List.mem_cons_self)) fun x hx => h x (List.mem_cons_of_mem q hx)
theorem check_len {o : Order} {l : List Nat} (h : ¬ l.length = o.materials.length) : Si83.step o (.check l) = (o, Si83.ok (-1)) := by
  refine if_pos ?_
  cases e : o.told l with
  | true => exact absurd (told_iff.mp e) h
  | false => rfl
theorem check_no {o : Order} {l : List Nat} (h : l.length = o.materials.length) (r : o.right l = false) : Si83.step o (.check l) = (o, Si83.ok (-4)) := by
  refine (if_neg ?_).trans (if_pos r)
  rw [told_iff.mpr h]
  exact Bool.noConfusion
theorem check_yes {o : Order} {l : List Nat} (h : l.length = o.materials.length) (r : o.right l = true) : Si83.step o (.check l) = (o, (⟨0, Si83.«ints» (Si83.both (o.strong l) ++ (o.changed l :: o.holds l))⟩ : Si83.Ans)) := by
  refine (if_neg ?_).trans (if_neg ?_)
  · rw [told_iff.mpr h]
    exact Bool.noConfusion
  · rw [r]
    exact Bool.noConfusion
theorem nearest_no {o : Order} {p q : Nat} (h : p < 1 ∨ q < p ∨ 10000 < q) : Si83.step o (.nearest p q) = (o, Si83.ok (-1)) := if_pos h
theorem nearest_yes {o : Order} {p q : Nat} (h : ¬ (p < 1 ∨ q < p ∨ 10000 < q)) : Si83.step o (.nearest p q) = (o, Si83.toldBest (o.nearest (lowest p q))) := if_neg h
end Oil
set_option maxRecDepth 100000
set_option maxHeartbeats 4000000
namespace Oil
open PySem PySem.Spec PyProof.Rows L2
open Si83 (Part Material less lowest)
/-- the i-th statement of the program -/
def top (i : Nat) : Stmt := PySem.Challenge.pw_drawnoils_s01_answers.main.body.getD i (.Pass ⟨0, 0, 0, 0⟩)
/-! ### Values -/
def natsV (l : List Nat) : List V := l.map fun (n : Nat) => V.int (n : Int)
def intsV (l : List Int) : List V := l.map V.int
def partV (p : Part) : List V := [.int (p.n : Int), .int (p.d : Int)]
/-! ### A def of the program that keeps its promise, as it is called by its name -/
structure Def (P : Program) (w : World) (K : PySem.W.Frag) (mg : Str → Option Value) (base : Heap) (k : Nat) (x : Str) (f : Addr) (ps : List Str) (sp : Sp) : Prop where
  ex : ∃ fd : FuncData, FnOk P w K mg base CX0 k f fd ps sp ∧ Binds K fd ps [] ∧ PySem.W.keepIn K (.ref f) = true
  g : mg x = some (.ref f)
section
variable {X : Cx} {k : Nat} {f : Addr} {ps : List Str} {sp : Sp} {x : Str} {p pos : Pos} {e : Expr} {es : List Expr} {t : TA}
theorem pe_callD (D : Def X.prog X.w X.K X.mg X.base k x f ps sp) (hr : Room k X.A) (hg : Gl X x) (ha : PA X (e :: es) t)
    (hdb : (x == ("__debug__" : Str)) = false := by decide) (he : starEach (e :: es) X.env = (false, eval e X.env) :: starEach es X.env := by rfl) (hpl : (backTo pos (starEach es X.env)).any (·.1) = false := by rfl) : PE X (.Call (.Name x p) (e :: es) [] pos) (tCall sp [] E0 t) := by
  obtain ⟨fd, F, b, kp⟩ := D.ex
  exact pe_call F hr hg D.g kp b .nil pass0 ha hdb he hpl
end
/-! ### Heaps -/
theorem same_upd {H : Hp} {p : Addr} {o : HO} (h : H p = none) : Same H (upd H p o) := fun b u e => by
  rw [upd_ne (ne_of_none e h)]
  exact e
theorem same_put {H H1 : Hp} {p : Addr} {o : HO} (S : Same H H1) (h : H p = none) : Same H (upd H1 p o) := fun b u e => by
  rw [upd_ne (ne_of_none e h)]
  exact S b u e
/-- a comprehension without a test -/
theorem yesT {σ : L2.St} {H : Hp} {A B : Hp → Prop} (h : A H) : tYes σ H (fun b H' => if b = true then A H' else B H') := by
  show (if true = true then A H else B H)
  rw [if_pos rfl]
  exact h
theorem lk_here {k : Str} {v : V} {r : List (Str × V)} : List.lookup k ((k, v) :: r) = some v := by
  have e : (k == k) = true := beq_self_eq_true k
  simp only [List.lookup, e]
theorem lk_past {k g : Str} {v : V} {r : List (Str × V)} (h : (k == g) = false) : List.lookup k ((g, v) :: r) = List.lookup k r := by
  simp only [List.lookup, h]
theorem put_here {f : Str} {v x : V} {r : List (Str × V)} : putF f v ((f, x) :: r) = (f, v) :: r := if_pos rfl
theorem put_past {f g : Str} {v x : V} {r : List (Str × V)} (h : ¬ g = f) : putF f v ((g, x) :: r) = (g, x) :: putF f v r := if_neg h
end Oil
set_option maxRecDepth 100000
set_option maxHeartbeats 4000000
namespace Oil
open PySem PySem.Spec PyProof.Rows L2
open Si83 (Part Material less lowest)
/-! ### What the top has written of the classes, the constants, the built-in names -/
structure Txt (K : PySem.W.Frag) (mg : Str → Option Value) (CM CO CF CR : Addr) : Prop where
  cM : Cls K CM
  cO : Cls K CO
  cF : Cls K CF
  cR : Cls K CR
  mP : NoAttr K CM "parts"
  mW : NoAttr K CM "wanted"
  mO : NoAttr K CM "most"
  oB : NoAttr K CO "bounds"
  oM : NoAttr K CO "materials"
  fF : NoAttr K CF "formula"
  fS : NoAttr K CF "share"
  fC : NoAttr K CF "changed"
  rN : NoAttr K CR "numbers"
  rP : NoAttr K CR "place"
  gM : mg "Material" = some (.ref CM)
  gO : mg "Order" = some (.ref CO)
  gF : mg "Offer" = some (.ref CF)
  gR : mg "Reader" = some (.ref CR)
  bSum : mg "sum" = none
  bZip : mg "zip" = none
  bRange : mg "range" = none
  bAbs : mg "abs" = none
  bMax : mg "max" = none
  bLen : mg "len" = none
  kSub : ∃ t, mg "SUBSTANCES" = some (.int 3 t)
  kBound : ∃ t, mg "MOST_BOUND" = some (.int 10000 t)
  kPart : ∃ t, mg "MOST_PART" = some (.int 1000 t)
  kDrops : ∃ t, mg "MOST_DROPS" = some (.int 6 t)
  kMats : ∃ t, mg "MOST_MATERIALS" = some (.int 4 t)
  kBelow : ∃ t, mg "MOST_BELOW" = some (.int 10000 t)
  kBegins : ∃ t, mg "BEGINS" = some (.int 0 t)
  kMaterial : ∃ t, mg "MATERIAL" = some (.int 1 t)
  kCheck : ∃ t, mg "CHECK" = some (.int 2 t)
  kStrongest : ∃ t, mg "STRONGEST" = some (.int 3 t)
  kWrong : ∃ t, mg "WRONG_NUMBER" = some (.int (-1) t)
  kMay : ∃ t, mg "MAY_NOT_BE" = some (.int (-4) t)
  kRoom : ∃ t, mg "NO_ROOM" = some (.int (-5) t)
  kForm : ∃ t, mg "NO_FORMULA" = some (.int (-6) t)
theorem pe_const {X : Cx} {x : Str} {pos : Pos} {n : Int} (h : ∃ t, X.mg x = some (.int n t)) (hg : Gl X x) (hd : (x == ("__debug__" : Str)) = false := by decide) : PE X (.Name x pos) (tC (.int n)) := by
  obtain ⟨t, e⟩ := h
  exact pe_glob hg e ⟨t, rfl⟩ hd
/-! ### How an order lies in the heap. t: a list that is none of its parts -/
def matF (q : Material) (p : Addr) : List (Str × V) := [("parts", .ref p), ("wanted", .int (q.wanted : Int)), ("most", .int (q.most : Int))]
def ordF (b m : Addr) : List (Str × V) := [("bounds", .ref b), ("materials", .ref m)]
structure MatIn (CM t m : Addr) (H : Hp) (a dx p : Addr) (q : Material) : Prop where
  ob : H a = some (.ins CM dx (matF q p))
  parts : H p = some (.lst (natsV q.parts))
  pm : p ≠ m
  pt : p ≠ t
def MatAt (CM t m : Addr) (H : Hp) (a : Addr) (q : Material) : Prop := ∃ dx p, MatIn CM t m H a dx p q
structure OrdIn (CM CO t : Addr) (H : Hp) (a m dx b : Addr) (as : List Addr) (o : Si83.Order) : Prop where
  ob : H a = some (.ins CO dx (ordF b m))
  bounds : H b = some (.lst (natsV o.bounds))
  mats : H m = some (.lst (as.map V.ref))
  bm : b ≠ m
  bt : b ≠ t
  mt : m ≠ t
  len : as.length = o.materials.length
  each : ∀ (i : Nat) (x : Addr) (q : Material), as[i]? = some x → o.materials[i]? = some q → MatAt CM t m H x q
def OrdAt (CM CO t : Addr) (H : Hp) (a m : Addr) (o : Si83.Order) : Prop := ∃ dx b as, OrdIn CM CO t H a m dx b as o
/-- an order to be read -/
def RdO (CM CO : Addr) (H : Hp) (a : Addr) (o : Si83.Order) : Prop := ∃ t m, OrdAt CM CO t H a m o
theorem OrdIn.keep {CM CO t : Addr} {H H' : Hp} {a m dx b : Addr} {as : List Addr} {o : Si83.Order} {ts : List V} (O : OrdIn CM CO t H a m dx b as o) (ht : H t = some (.lst ts)) (k : ∀ c u, H c = some u → c ≠ t → H' c = some u) : OrdIn CM CO t H' a m dx b as o :=
  ⟨k _ _ O.ob (ne_of O.ob ht (by intro z; cases z)), k _ _ O.bounds O.bt, k _ _ O.mats O.mt, O.bm, O.bt, O.mt, O.len, fun i x q h1 h2 => by
    obtain ⟨dy, p, M⟩ := O.each i x q h1 h2
    exact ⟨dy, p, k _ _ M.ob (ne_of M.ob ht (by intro z; cases z)), k _ _ M.parts M.pt, M.pm, M.pt⟩⟩
theorem OrdIn.same {CM CO t : Addr} {H H' : Hp} {a m dx b : Addr} {as : List Addr} {o : Si83.Order} (O : OrdIn CM CO t H a m dx b as o) (k : Same H H') : OrdIn CM CO t H' a m dx b as o :=
  ⟨k _ _ O.ob, k _ _ O.bounds, k _ _ O.mats, O.bm, O.bt, O.mt, O.len, fun i x q h1 h2 => by
    obtain ⟨dy, p, M⟩ := O.each i x q h1 h2
    exact ⟨dy, p, k _ _ M.ob, k _ _ M.parts, M.pm, M.pt⟩⟩
theorem OrdAt.same {CM CO t : Addr} {H H' : Hp} {a m : Addr} {o : Si83.Order} (O : OrdAt CM CO t H a m o) (k : Same H H') : OrdAt CM CO t H' a m o := by
  obtain ⟨dx, b, as, O⟩ := O
  exact ⟨dx, b, as, O.same k⟩
theorem OrdAt.rd {CM CO t : Addr} {H : Hp} {a m : Addr} {o : Si83.Order} (O : OrdAt CM CO t H a m o) : RdO CM CO H a o := ⟨t, m, O⟩
theorem RdO.same {CM CO : Addr} {H H' : Hp} {a : Addr} {o : Si83.Order} (O : RdO CM CO H a o) (k : Same H H') : RdO CM CO H' a o := by
  obtain ⟨t, m, O⟩ := O
  exact ⟨t, m, O.same k⟩
theorem ordF_b (b m : Addr) : (ordF b m).lookup ("bounds" : Str) = some (.ref b) := lk_here
theorem ordF_m (b m : Addr) : (ordF b m).lookup ("materials" : Str) = some (.ref m) := (lk_past (by decide +kernel)).trans lk_here
theorem matF_p (q : Material) (p : Addr) : (matF q p).lookup ("parts" : Str) = some (.ref p) := lk_here
theorem matF_w (q : Material) (p : Addr) : (matF q p).lookup ("wanted" : Str) = some (.int (q.wanted : Int)) := (lk_past (by decide +kernel)).trans lk_here
theorem matF_m (q : Material) (p : Addr) : (matF q p).lookup ("most" : Str) = some (.int (q.most : Int)) := (lk_past (by decide +kernel)).trans ((lk_past (by decide +kernel)).trans lk_here)
/-! ### Lists of numbers -/
theorem natsV_ints (l : List Nat) : natsV l = (zsOf l).map V.int := by
  unfold natsV zsOf
  rw [List.map_map]
  rfl
theorem ints_sum : ∀ l : List Nat, (zsOf l).sum = ((l.sum : Nat) : Int)
  | [] => rfl
  | x :: l => by
    show (x : Int) + (zsOf l).sum = (((x :: l).sum : Nat) : Int)
    rw [ints_sum l, List.sum_cons]
    omega
theorem ints_len (l : List Nat) : (zsOf l).length = l.length := List.length_map ..
theorem natsV_len (l : List Nat) : (natsV l).length = l.length := List.length_map ..
theorem natsV_get {l : List Nat} {i n : Nat} (h : l[i]? = some n) : (natsV l)[i]? = some (.int (n : Int)) := by
  unfold natsV
  rw [List.getElem?_map, h]
  rfl
theorem natsV_of {l : List Nat} {i : Nat} {v : V} (h : (natsV l)[i]? = some v) : ∃ n, l[i]? = some n ∧ v = .int (n : Int) := by
  unfold natsV at h
  rw [List.getElem?_map] at h
  cases e : l[i]? with
  | none => rw [e] at h; cases h
  | some n =>
    rw [e] at h
    exact ⟨n, rfl, (Option.some.inj h).symm⟩
theorem refs_of {as : List Addr} {i : Nat} {v : V} (h : (as.map V.ref)[i]? = some v) : ∃ x, as[i]? = some x ∧ v = .ref x := by
  rw [List.getElem?_map] at h
  cases e : as[i]? with
  | none => rw [e] at h; cases h
  | some n =>
    rw [e] at h
    exact ⟨n, rfl, (Option.some.inj h).symm⟩
theorem get_some {α : Type} {l : List α} {i : Nat} (h : i < l.length) : ∃ x, l[i]? = some x := ⟨l[i], List.getElem?_eq_getElem h⟩
theorem natsV_take {l : List Nat} {i n : Nat} (h : l[i]? = some n) : natsV (l.take (i + 1)) = natsV (l.take i) ++ [.int (n : Int)] := by
  have e : l.take (i + 1) = l.take i ++ [n] := by
    rw [List.take_add_one, h]
    rfl
  rw [e]
  unfold natsV
  rw [List.map_append]
  rfl
theorem getD_some {l : List Nat} {i n : Nat} (h : l[i]? = some n) : l.getD i 0 = n := by
  rw [List.getD_eq_getElem?_getD, h]
  rfl
theorem RowOk.get {o : Si83.Order} {l : List Nat} (R : RowOk o l) {i : Nat} (h : i < o.materials.length) : ∃ d q, l[i]? = some d ∧ o.materials[i]? = some q ∧ d ≤ 6 := by
  obtain ⟨d, hd⟩ := get_some (l := l) (i := i) (by rw [R.len]; exact h)
  obtain ⟨q, hq⟩ := get_some h
  exact ⟨d, q, hd, hq, R.six d (List.mem_of_getElem? hd)⟩
theorem hasL_get {l : List Nat} {ms : List Material} {k i d : Nat} {q : Material} (h1 : l[i]? = some d) (h2 : ms[i]? = some q) : (hasL l ms k)[i]? = some (d * q.parts.getD k 0) := by
  unfold hasL
  rw [List.getElem?_zipWith, h1, h2]
theorem chgL_get {l : List Nat} {ms : List Material} {i d : Nat} {q : Material} (h1 : l[i]? = some d) (h2 : ms[i]? = some q) : (chgL l ms)[i]? = some (Si83.apart d q.wanted) := by
  unfold chgL
  rw [List.getElem?_zipWith, h1, h2]
theorem hasL_len {o : Si83.Order} {l : List Nat} (R : l.length = o.materials.length) (k : Nat) : (hasL l o.materials k).length = o.materials.length := by
  unfold hasL
  rw [List.length_zipWith, R, Nat.min_self]
theorem chgL_len {o : Si83.Order} {l : List Nat} (R : l.length = o.materials.length) : (chgL l o.materials).length = o.materials.length := by
  unfold chgL
  rw [List.length_zipWith, R, Nat.min_self]
theorem small_line {n : Nat} (h : n ≤ 100000) : n < sizeLine := Nat.lt_of_le_of_lt h (by decide)
end Oil
set_option maxRecDepth 100000
set_option maxHeartbeats 4000000
namespace Oil
open PySem PySem.Spec PyProof.Rows L2
open Si83 (Part Material less lowest)
abbrev sLow : Stmt := top 19
def spLow : Sp := fun vs H Q _ => ∃ (a b : Nat), vs = [.int (a : Int), .int (b : Int)] ∧ 0 < b ∧ b < 1073741824 ∧ ∀ (H' : Hp) (p : Addr), Same H H' → H' p = some (.tup (partV (lowest a b))) → Q (.ref p) H'
theorem scLow : FnScope ["above", "below", "divisor", "rest", "remainder"] ["above", "below"] (defScope sLow) := ⟨rfl, rfl, rfl, by decide +kernel, rfl, by decide +kernel, by decide +kernel⟩
def lowSt (a b x y : Nat) (v : Option V) : L2.St := [some (.int (a : Int)), some (.int (b : Int)), some (.int (x : Int)), some (.int (y : Int)), v]
def lowM (σ : L2.St) : Nat := match σ with
  | [_, _, _, some (.int y), _] => y.toNat
  | _ => 0
theorem fmod_nat (x y : Nat) : (x : Int).fmod (y : Int) = ((x % y : Nat) : Int) := by
  rw [Int.fmod_eq_emod_of_nonneg _ (Int.natCast_nonneg y)]
  exact (Int.natCast_emod x y).symm
theorem fdiv_nat (x y : Nat) : (x : Int).fdiv (y : Int) = ((x / y : Nat) : Int) := by
  rw [Int.fdiv_eq_ediv_of_nonneg _ (Int.natCast_nonneg y)]
  exact (Int.natCast_ediv x y).symm
section
variable {P : Program} {w : World} {K : PySem.W.Frag} {mg : Str → Option Value} {base : Heap} {f : Addr} {fd : FuncData}
theorem ok_low (F : Fun K "lowest_terms" "lowest_terms" sLow f fd) : FnOk P w K mg base CX0 1 f fd ["above", "below"] spLow := by
  refine F.ok scLow (fun vs H Q E h => ?_) (fun cdv A outer s H vs Q E hr h => ⟨_,
    pss_cons (ps_set (i := 2) scLow.nd rfl (Or.inl rfl) (pv 0))
    (pss_cons (ps_set (i := 3) scLow.nd rfl (Or.inl rfl) (pv 1))
    (pss_cons (ps_while PassesOwn.never (pt_cmpR op_gt (pv 3) pe_int (nomark _))
      (pss_cons (ps_set (i := 4) scLow.nd rfl (Or.inl rfl) (pe_op op_modN (pv 2) (pv 3)))
      (pss_cons (ps_set (i := 2) scLow.nd rfl (Or.inl rfl) (pv 3))
      (pss_one (ps_set (i := 3) scLow.nd rfl (Or.inl rfl) (pv 4))))))
    (pss_one (ps_ret (pe_tup (pa_cons (pe_op op_fdivN (pv 0) (pv 2)) (pa_cons (pe_op op_fdivN (pv 1) (pv 2)) pa_nil))))))), ?_⟩)
  · obtain ⟨a, b, rfl, _⟩ := h
    rfl
  · obtain ⟨a, b, rfl, hb, hb2, k⟩ := h
    refine ⟨_, rfl, _, rfl, ?_⟩
    refine while_by (fun σ H' => H' = H ∧ ∃ (x y : Nat) (v : Option V), σ = lowSt a b x y v ∧ Nat.gcd x y = Nat.gcd a b) (fun σ _ => lowM σ) ⟨rfl, a, b, none, rfl, rfl⟩ ?_ ?_
    · rintro σ H' ⟨rfl, x, y, v, rfl, g⟩
      refine ⟨_, rfl, _, _, rfl, rfl, _, rfl, ?_⟩
      by_cases c : y = 0
      · subst c
        have e : decide ((0 : Int) < ((0 : Nat) : Int)) = false := by decide
        rw [e]
        refine iteF ?_
        rw [Nat.gcd_zero_right] at g
        subst g
        have g0 : 0 < Nat.gcd a b := Nat.gcd_pos_of_pos_right a hb
        have g1 : Nat.gcd a b < 1073741824 := Nat.lt_of_le_of_lt (Nat.le_of_dvd hb (Nat.gcd_dvd_right a b)) hb2
        refine ⟨_, rfl, _, rfl, _, _, rfl, rfl, ⟨by omega, by omega⟩, _, rfl, _, rfl, _, _, rfl, rfl, ⟨by omega, by omega⟩, by show 2 ≤ sizeLine; decide, fun p hp => ?_⟩
        refine k _ p (same_upd hp) ?_
        rw [upd_same, lowest_eq hb]
        show some (HO.tup [.int ((a : Int).fdiv (Nat.gcd a b : Nat)), .int ((b : Int).fdiv (Nat.gcd a b : Nat))]) = _
        rw [fdiv_nat, fdiv_nat]
        rfl
      · have e : decide ((0 : Int) < (y : Int)) = true := decide_eq_true (by omega)
        rw [e]
        refine iteT ?_
        refine ⟨_, rfl, _, rfl, _, _, rfl, rfl, by omega, _, rfl, _, rfl, ⟨rfl, y, x % y, some (.int ((x % y : Nat) : Int)), ?_, ?_⟩, ?_⟩
        · show ([some (.int (a : Int)), some (.int (b : Int)), some (.int (y : Int)), some (.int ((x : Int).fmod (y : Int))), some (.int ((x : Int).fmod (y : Int)))] : L2.St) = _
          rw [fmod_nat]
          rfl
        · rw [← g, Nat.gcd_comm x y, Nat.gcd_rec y x, Nat.gcd_comm]
        · show ((x : Int).fmod (y : Int)).toNat < (y : Int).toNat
          rw [fmod_nat]
          show ((x % y : Nat) : Int).toNat < (y : Int).toNat
          have := Nat.mod_lt x (Nat.pos_of_ne_zero c)
          omega
    · rintro σ H' Q1 Q2 hq ⟨v, hv, i, j, e1, e2, k, ek, q⟩
      exact ⟨v, hv, i, j, e1, e2, k, ek, hq _ _ q⟩
end
end Oil
set_option maxRecDepth 100000
set_option maxHeartbeats 4000000
namespace Oil
open PySem PySem.Spec PyProof.Rows L2
open Si83 (Part Material less lowest)
abbrev sStr : Stmt := top 20
def spStr : Sp := fun vs H Q _ => ∃ (s t : Addr) (x y : Part), vs = [.ref s, .ref t] ∧ H s = some (.tup (partV x)) ∧ H t = some (.tup (partV y)) ∧ x.n ≤ 240000 ∧ y.n ≤ 240000 ∧ Q (.int (cross x y)) H
theorem scStr : FnScope ["share", "other"] ["share", "other"] (defScope sStr) := ⟨rfl, rfl, rfl, by decide +kernel, rfl, by decide +kernel, by decide +kernel⟩
theorem part0 (x : Part) : atI (partV x) 0 = some (.int (x.n : Int)) := at_of (j := 0) rfl rfl
theorem part1 (x : Part) : atI (partV x) 1 = some (.int (x.d : Int)) := at_of (j := 1) rfl rfl
section
variable {P : Program} {w : World} {K : PySem.W.Frag} {mg : Str → Option Value} {base : Heap} {f : Addr} {fd : FuncData}
theorem ok_str (F : Fun K "stronger_by" "stronger_by" sStr f fd) : FnOk P w K mg base CX0 1 f fd ["share", "other"] spStr := by
  refine F.ok scStr (fun vs H Q E h => ?_) (fun cdv A outer s H vs Q E hr h => ⟨_,
    pss_one (ps_ret (pe_op op_sub (pe_op op_mul (pe_ix ix_tup (pv 0) pe_int (fun _ _ => rfl)) (pe_ix ix_tup (pv 1) pe_int (fun _ _ => rfl)))
      (pe_op op_mul (pe_ix ix_tup (pv 1) pe_int (fun _ _ => rfl)) (pe_ix ix_tup (pv 0) pe_int (fun _ _ => rfl))))), ?_⟩)
  · obtain ⟨s, t, x, y, rfl, _⟩ := h
    rfl
  · obtain ⟨s, t, x, y, rfl, hs, ht, bx, bY, q⟩ := h
    refine ⟨_, rfl, s, partV x, _, _, rfl, rfl, SqT.of hs, part0 x, _, rfl, t, partV y, _, _, rfl, rfl, SqT.of ht, part1 y, _, _, rfl, rfl, Or.inl ⟨by omega, by omega⟩, ?_⟩
    refine ⟨_, rfl, t, partV y, _, _, rfl, rfl, SqT.of ht, part0 y, _, rfl, s, partV x, _, _, rfl, rfl, SqT.of hs, part1 x, _, _, rfl, rfl, Or.inl ⟨by omega, by omega⟩, ?_⟩
    exact ⟨_, _, rfl, rfl, q⟩
end
end Oil
set_option maxRecDepth 100000
set_option maxHeartbeats 4000000
namespace Oil
open PySem PySem.Spec PyProof.Rows L2
open Si83 (Part Material less lowest)
abbrev sAmt : Stmt := top 21
abbrev nAmt : List Str := ["order", "formula", "substance", "drops", "oil"]
def spAmt (CM CO : Addr) : Sp := fun vs H Q _ => ∃ (a p : Addr) (o : Si83.Order) (l : List Nat) (k : Nat), vs = [.ref a, .ref p, .int (k : Int)] ∧ RdO CM CO H a o ∧ H p = some (.lst (natsV l)) ∧ OrdOk o ∧ RowOk o l ∧ k < 3 ∧
  ∀ H' : Hp, Same H H' → Q (.int ((o.has l k : Nat) : Int)) H'
theorem scAmt : FnScope nAmt ["order", "formula", "substance"] (defScope sAmt) := ⟨rfl, rfl, rfl, by decide +kernel, rfl, by decide +kernel, by decide +kernel⟩
section
variable {P : Program} {w : World} {K : PySem.W.Frag} {mg : Str → Option Value} {base : Heap} {f : Addr} {fd : FuncData} {CM CO CF CR : Addr}
theorem ok_amt (T : Txt K mg CM CO CF CR) (F : Fun K "amount_of" "amount_of" sAmt f fd) : FnOk P w K mg base CX0 1 f fd ["order", "formula", "substance"] (spAmt CM CO) := by
  refine F.ok scAmt (fun vs H Q E h => ?_) (fun cdv A outer s H vs Q E hr h => ⟨_,
    pss_one (ps_ret (pe_callB (cr_sum rfl) (by rfl) T.bSum (by decide +kernel) (pa_cons
      (pe_lc (own := [("drops", 3), ("oil", 4)]) (g := gTup K 2 (gCons (gName 3) (gCons (gName 4) gNil))) (tt := tYes) (te := tOp (rI CMul fun i j => .int (i * j)) (tVar 3) (tOp (rIxL K) (tFld K (tVar 4) "parts") (tVar 2))) rfl scAmt.nd (pi_zip (by rfl) T.bZip (pa_cons (pv 1) (pa_cons (pe_fld (pv 0) rfl) pa_nil)))
        (blkOk_by (N := nAmt) (sc := defScope sAmt) (by decide +kernel))
        (fun _ _ _ _ _ => by exact pg_tup rfl (pgs_cons (pg_name (i := 3) scAmt.nd rfl (Or.inl rfl)) (pgs_cons (pg_name (i := 4) scAmt.nd rfl (Or.inl rfl)) pgs_nil)))
        (fun _ _ _ _ _ => pts_nil)
        (fun _ _ _ _ _ => by exact pe_op op_mul (pv 3) (pe_ix ix_list (pe_fld (pv 4) rfl) (pv 2) (fun _ _ => rfl))))
      pa_nil))), ?_⟩)
  · obtain ⟨a, p, o, l, k, rfl, _⟩ := h
    rfl
  · obtain ⟨a, p, o, l, k, rfl, ⟨t, m, dx, b, as, O⟩, hp, Ok, R, hk, q⟩ := h
    refine ⟨_, rfl, _, rfl, a, CO, dx, _, _, rfl, O.ob, T.cO, T.oM, ordF_m b m, p, m, natsV l, as.map V.ref, rfl, SqL.of hp, SqL.of O.mats, fun D hD => ?_⟩
    refine lc_it (walk_zip (n := o.materials.length) (by rw [natsV_len, List.length_map, O.len, R.len, Nat.min_self]))
      (fun i H' => Same H H' ∧ H' D = some (.lst (natsV ((hasL l o.materials k).take i)))) ⟨same_upd hD, upd_same⟩ (fun i H' _ z => ⟨SqL.of (z.1 _ _ hp), SqL.of (z.1 _ _ O.mats)⟩) ?_ ?_
    · rintro i x H1 H2 hi ⟨S1, hD1⟩ ⟨T1, y, z, rfl, hT, rfl, hy, hz⟩
      obtain ⟨d, e1, rfl⟩ := natsV_of hy
      obtain ⟨mx, e2, rfl⟩ := refs_of hz
      obtain ⟨d', mt, e3, e4, h6⟩ := R.get hi
      have ed : d' = d := Option.some.inj (e3.symm.trans e1)
      subst ed
      have S2 : Same H (upd H1 T1 (.tup [.int (d' : Int), .ref mx])) := S1.trans (same_upd hT)
      obtain ⟨dy, pp, M⟩ := O.each i mx mt e2 e4
      refine ⟨T1, _, rfl, SqT.of upd_same, rfl, _, _, rfl, _, _, rfl, rfl, rfl, ?_⟩
      refine yesT ?_
      have hl3 : mt.parts.length = 3 := (Ok.mats mt (List.mem_of_getElem? e4)).len
      obtain ⟨pk, hpk⟩ := get_some (l := mt.parts) (i := k) (by rw [hl3]; exact hk)
      refine ⟨_, rfl, _, rfl, mx, CM, dy, _, _, rfl, S2 _ _ M.ob, T.cM, T.mP, matF_p mt pp, _, rfl, pp, natsV mt.parts, _, _, rfl, rfl, SqL.of (S2 _ _ M.parts), atI_nat (natsV_get hpk), _, _, rfl, rfl, Or.inl ⟨by omega, by omega⟩, ?_⟩
      refine ⟨_, (same_upd hT) _ _ hD1, ?_, same_put S2 hD, ?_⟩
      · rw [natsV_len, List.length_take]
        have := hasL_len R.len k
        have := Ok.cnt
        exact small_line (by omega)
      · rw [upd_same, natsV_take (hasL_get e1 e4), getD_some hpk]
        rfl
    · rintro H' ⟨S, hD'⟩
      have ht : (hasL l o.materials k).take o.materials.length = hasL l o.materials k := List.take_of_length_le (by rw [hasL_len R.len]; exact Nat.le_refl _)
      rw [ht, natsV_ints] at hD'
      refine ⟨D, _, rfl, SqL.of hD', ?_⟩
      rw [ints_sum, ← has_eq R.len]
      exact q H' S
end
end Oil
set_option maxRecDepth 100000
set_option maxHeartbeats 4000000
namespace Oil
open PySem PySem.Spec PyProof.Rows L2
open Si83 (Part Material less lowest)
abbrev sSab : Stmt := top 22
abbrev nSab : List Str := ["order", "formula", "substance", "amount"]
/-- a fraction, or none, as a value -/
def TellsOf (H : Hp) (Q : VK) (r : Option Part) : Prop := (r = none → ∀ H' : Hp, Same H H' → Q .non H') ∧ ∀ x, r = some x → ∀ (H' : Hp) (s : Addr), Same H H' → H' s = some (.tup (partV x)) → Q (.ref s) H'
def spSab (CM CO : Addr) : Sp := fun vs H Q _ => ∃ (a p : Addr) (o : Si83.Order) (l : List Nat) (k : Nat), vs = [.ref a, .ref p, .int (k : Int)] ∧ RdO CM CO H a o ∧ H p = some (.lst (natsV l)) ∧ OrdOk o ∧ RowOk o l ∧ k < 3 ∧ TellsOf H Q (o.by_ l k)
theorem scSab : FnScope nSab ["order", "formula", "substance"] (defScope sSab) := ⟨rfl, rfl, rfl, by decide +kernel, rfl, by decide +kernel, by decide +kernel⟩
section
variable {P : Program} {w : World} {K : PySem.W.Frag} {mg : Str → Option Value} {base : Heap} {f fA fL : Addr} {fd : FuncData} {CM CO CF CR : Addr}
theorem ok_sab (T : Txt K mg CM CO CF CR) (F : Fun K "share_at_bound" "share_at_bound" sSab f fd) (DA : Def P w K mg base 1 "amount_of" fA ["order", "formula", "substance"] (spAmt CM CO)) (DL : Def P w K mg base 1 "lowest_terms" fL ["above", "below"] spLow) :
    FnOk P w K mg base CX0 2 f fd ["order", "formula", "substance"] (spSab CM CO) := by
  refine F.ok scSab (fun vs H Q E h => ?_) (fun cdv A outer s H vs Q E hr h => ⟨_,
    pss_cons (ps_set (i := 3) scSab.nd rfl (Or.inl rfl) (pe_callD DA hr rfl (pa_cons (pv 0) (pa_cons (pv 1) (pa_cons (pv 2) pa_nil)))))
    (pss_cons (ps_if (pt_cmpR op_eq (pv 3) pe_int (nomark _)) (pss_one (ps_ret pe_non)) pss_nil)
    (pss_one (ps_ret (pe_callD DL hr rfl (pa_cons
      (pe_op op_mul (pe_ix ix_list (pe_fld (pv 0) rfl) (pv 2) (fun _ _ => rfl)) (pe_callB (cr_sum rfl) (by rfl) T.bSum (by decide +kernel) (pa_cons (pv 1) pa_nil)))
      (pa_cons (pe_op op_mul pe_int (pv 3)) pa_nil)))))), ?_⟩)
  · obtain ⟨a, p, o, l, k, rfl, _⟩ := h
    rfl
  · obtain ⟨a, p, o, l, k, rfl, O, hp, Ok, R, hk, kN, kS⟩ := h
    refine ⟨_, rfl, _, rfl, _, rfl, a, p, o, l, k, rfl, O, hp, Ok, R, hk, fun H1 S1 => ?_⟩
    refine ⟨_, rfl, rfl, _, rfl, ?_⟩
    by_cases c : o.has l k = 0
    · rw [c]
      exact iteT (kN (by_none c) H1 S1)
    · have e : decide (V.int ((o.has l k : Nat) : Int) = V.int 0) = false := decide_eq_false fun z => by
        injection z with z
        omega
      rw [e]
      refine iteF ?_
      obtain ⟨t, m, dx, b, as, O1⟩ := O.same S1
      obtain ⟨bk, hbk⟩ := get_some (l := o.bounds) (i := k) (by rw [Ok.len]; exact hk)
      have eb : o.bound k = bk := getD_some hbk
      have hb2 := Ok.bound k
      have hh := has_le Ok R k
      have hs := S1 _ _ hp
      rw [natsV_ints] at hs
      refine ⟨_, rfl, a, CO, dx, _, _, rfl, O1.ob, T.cO, T.oB, ordF_b b m, _, rfl, b, natsV o.bounds, _, _, rfl, rfl, SqL.of O1.bounds, atI_nat (natsV_get hbk), _, rfl, p, _, rfl, SqL.of hs, _, _, rfl, rfl, Or.inl ⟨by omega, by omega⟩, ?_⟩
      refine ⟨_, rfl, _, _, rfl, rfl, Or.inl ⟨by decide, by decide⟩, ?_⟩
      refine ⟨o.bound k * l.sum, 10 * o.has l k, ?_, by omega, by omega, fun H2 q S2 hq => kS _ (by_some c) H2 q (S1.trans S2) hq⟩
      rw [ints_sum, eb, Int.natCast_mul, Int.natCast_mul]
      rfl
end
end Oil
set_option maxRecDepth 100000
set_option maxHeartbeats 4000000
namespace Oil
open PySem PySem.Spec PyProof.Rows L2
open Si83 (Part Material less lowest)
abbrev sChg : Stmt := top 25
abbrev nChg : List Str := ["order", "formula", "drops", "oil"]
def spChg (CM CO : Addr) : Sp := fun vs H Q _ => ∃ (a p : Addr) (o : Si83.Order) (l : List Nat), vs = [.ref a, .ref p] ∧ RdO CM CO H a o ∧ H p = some (.lst (natsV l)) ∧ OrdOk o ∧ RowOk o l ∧
  ∀ H' : Hp, Same H H' → Q (.int ((o.changed l : Nat) : Int)) H'
theorem scChg : FnScope nChg ["order", "formula"] (defScope sChg) := ⟨rfl, rfl, rfl, by decide +kernel, rfl, by decide +kernel, by decide +kernel⟩
theorem abs_apart (d w : Nat) : (if (d : Int) - (w : Int) < 0 then -((d : Int) - (w : Int)) else (d : Int) - (w : Int)) = ((Si83.apart d w : Nat) : Int) := by
  unfold Si83.apart
  split <;> omega
section
variable {P : Program} {w : World} {K : PySem.W.Frag} {mg : Str → Option Value} {base : Heap} {f : Addr} {fd : FuncData} {CM CO CF CR : Addr}
theorem ok_chg (T : Txt K mg CM CO CF CR) (F : Fun K "changed_by" "changed_by" sChg f fd) : FnOk P w K mg base CX0 1 f fd ["order", "formula"] (spChg CM CO) := by
  refine F.ok scChg (fun vs H Q E h => ?_) (fun cdv A outer s H vs Q E hr h => ⟨_,
    pss_one (ps_ret (pe_callB (cr_sum rfl) (by rfl) T.bSum (by decide +kernel) (pa_cons
      (pe_lc (own := [("drops", 2), ("oil", 3)]) (g := gTup K 2 (gCons (gName 2) (gCons (gName 3) gNil))) (tt := tYes)
        (te := tCB (fun xs H Q => ∃ i, xs = [.int i] ∧ Q (.int (if i < 0 then -i else i)) H) (tCons (tOp (rI0 fun i j => .int (i - j)) (tVar 2) (tFld K (tVar 3) "wanted")) tNil))
        rfl scChg.nd (pi_zip (by rfl) T.bZip (pa_cons (pv 1) (pa_cons (pe_fld (pv 0) rfl) pa_nil)))
        (blkOk_by (N := nChg) (sc := defScope sChg) (by decide +kernel))
        (fun _ _ _ _ _ => by exact pg_tup rfl (pgs_cons (pg_name (i := 2) scChg.nd rfl (Or.inl rfl)) (pgs_cons (pg_name (i := 3) scChg.nd rfl (Or.inl rfl)) pgs_nil)))
        (fun _ _ _ _ _ => pts_nil)
        (fun _ _ _ _ _ => by exact pe_callB call_abs (by rfl) T.bAbs (by decide +kernel) (pa_cons (pe_op op_sub (pv 2) (pe_fld (pv 3) rfl)) pa_nil)))
      pa_nil))), ?_⟩)
  · obtain ⟨a, p, o, l, rfl, _⟩ := h
    rfl
  · obtain ⟨a, p, o, l, rfl, ⟨t, m, dx, b, as, O⟩, hp, Ok, R, q⟩ := h
    refine ⟨_, rfl, _, rfl, a, CO, dx, _, _, rfl, O.ob, T.cO, T.oM, ordF_m b m, p, m, natsV l, as.map V.ref, rfl, SqL.of hp, SqL.of O.mats, fun D hD => ?_⟩
    refine lc_it (walk_zip (n := o.materials.length) (by rw [natsV_len, List.length_map, O.len, R.len, Nat.min_self]))
      (fun i H' => Same H H' ∧ H' D = some (.lst (natsV ((chgL l o.materials).take i)))) ⟨same_upd hD, upd_same⟩ (fun i H' _ z => ⟨SqL.of (z.1 _ _ hp), SqL.of (z.1 _ _ O.mats)⟩) ?_ ?_
    · rintro i x H1 H2 hi ⟨S1, hD1⟩ ⟨T1, y, z, rfl, hT, rfl, hy, hz⟩
      obtain ⟨d, e1, rfl⟩ := natsV_of hy
      obtain ⟨mx, e2, rfl⟩ := refs_of hz
      obtain ⟨d', mt, e3, e4, h6⟩ := R.get hi
      have ed : d' = d := Option.some.inj (e3.symm.trans e1)
      subst ed
      have S2 : Same H (upd H1 T1 (.tup [.int (d' : Int), .ref mx])) := S1.trans (same_upd hT)
      obtain ⟨dy, pp, M⟩ := O.each i mx mt e2 e4
      refine ⟨T1, _, rfl, SqT.of upd_same, rfl, _, _, rfl, _, _, rfl, rfl, rfl, ?_⟩
      refine yesT ?_
      refine ⟨_, rfl, _, rfl, mx, CM, dy, _, _, rfl, S2 _ _ M.ob, T.cM, T.mW, matF_w mt pp, _, _, rfl, rfl, _, rfl, ?_⟩
      refine ⟨_, (same_upd hT) _ _ hD1, ?_, same_put S2 hD, ?_⟩
      · rw [natsV_len, List.length_take]
        have := chgL_len R.len
        have := Ok.cnt
        exact small_line (by omega)
      · rw [upd_same, natsV_take (chgL_get e1 e4), ← abs_apart]
    · rintro H' ⟨S, hD'⟩
      have ht : (chgL l o.materials).take o.materials.length = chgL l o.materials := List.take_of_length_le (by rw [chgL_len R.len]; exact Nat.le_refl _)
      rw [ht, natsV_ints] at hD'
      refine ⟨D, _, rfl, SqL.of hD', ?_⟩
      rw [ints_sum, ← changed_eq R.len]
      exact q H' S
end
end Oil
set_option maxRecDepth 100000
set_option maxHeartbeats 4000000
namespace Oil
open PySem PySem.Spec PyProof.Rows L2
open Si83 (Part Material less lowest)
abbrev sMay : Stmt := top 26
abbrev nMay : List Str := ["order", "formula", "drops", "oil"]
def spMay (CM CO : Addr) : Sp := fun vs H Q _ => ∃ (a p : Addr) (o : Si83.Order) (l : List Nat), vs = [.ref a, .ref p] ∧ RdO CM CO H a o ∧ H p = some (.lst (natsV l)) ∧ l.length = o.materials.length ∧
  ∀ H' : Hp, Same H H' → Q (.bl (o.right l)) H'
theorem scMay : FnScope nMay ["order", "formula"] (defScope sMay) := ⟨rfl, rfl, rfl, by decide +kernel, rfl, by decide +kernel, by decide +kernel⟩
section
variable {P : Program} {w : World} {K : PySem.W.Frag} {mg : Str → Option Value} {base : Heap} {f : Addr} {fd : FuncData} {CM CO CF CR : Addr}
theorem ok_may (T : Txt K mg CM CO CF CR) (F : Fun K "may_be" "may_be" sMay f fd) : FnOk P w K mg base CX0 1 f fd ["order", "formula"] (spMay CM CO) := by
  refine F.ok scMay (fun vs H Q E h => ?_) (fun cdv A outer s H vs Q E hr h => ⟨_,
    pss_cons (ps_for PassesOwn.never rfl (pi_zip (by rfl) T.bZip (pa_cons (pv 1) (pa_cons (pe_fld (pv 0) rfl) pa_nil)))
      (pg_tup rfl (pgs_cons (pg_name (i := 2) scMay.nd rfl (Or.inl rfl)) (pgs_cons (pg_name (i := 3) scMay.nd rfl (Or.inl rfl)) pgs_nil)))
      (pss_one (ps_if (pt_cmpR op_gt (pv 2) (pe_fld (pv 3) rfl) (nomark _)) (pss_one (ps_ret pe_bl)) pss_nil)))
    (pss_one (ps_ret (pe_cmpR op_gt (pe_callB (cr_sum rfl) (by rfl) T.bSum (by decide +kernel) (pa_cons (pv 1) pa_nil)) pe_int (nomark _)))), ?_⟩)
  · obtain ⟨a, p, o, l, rfl, _⟩ := h
    rfl
  · obtain ⟨a, p, o, l, rfl, ⟨t, m, dx, b, as, O⟩, hp, hl, q⟩ := h
    refine ⟨_, rfl, _, rfl, a, CO, dx, _, _, rfl, O.ob, T.cO, T.oM, ordF_m b m, p, m, natsV l, as.map V.ref, rfl, SqL.of hp, SqL.of O.mats, ?_⟩
    refine for_it (walk_zip (n := o.materials.length) (by rw [natsV_len, List.length_map, O.len, hl, Nat.min_self]))
      (fun i σ H' => (∃ v2 v3 : Option V, σ = [some (.ref a), some (.ref p), v2, v3]) ∧ Same H H' ∧ ∀ (j d : Nat) (mt : Material), j < i → l[j]? = some d → o.materials[j]? = some mt → d ≤ mt.most) ⟨⟨none, none, rfl⟩, Same.refl H, fun j d mt h => absurd h (Nat.not_lt_zero j)⟩
      (fun i σ H' _ z => ⟨SqL.of (z.2.1 _ _ hp), SqL.of (z.2.1 _ _ O.mats)⟩) ?_ ?_
    · rintro i x σ H1 H2 hi ⟨⟨v2, v3, rfl⟩, S1, hj⟩ ⟨T1, y, z, rfl, hT, rfl, hy, hz⟩
      obtain ⟨d, e1, rfl⟩ := natsV_of hy
      obtain ⟨mx, e2, rfl⟩ := refs_of hz
      obtain ⟨mt, e4⟩ := get_some hi
      have S2 : Same H (upd H1 T1 (.tup [.int (d : Int), .ref mx])) := S1.trans (same_upd hT)
      obtain ⟨dy, pp, M⟩ := O.each i mx mt e2 e4
      refine ⟨T1, _, rfl, SqT.of upd_same, rfl, _, _, rfl, _, _, rfl, rfl, ?_⟩
      refine ⟨_, rfl, _, rfl, mx, CM, dy, _, _, rfl, S2 _ _ M.ob, T.cM, T.mO, matF_m mt pp, _, _, rfl, rfl, _, rfl, ?_⟩
      by_cases c : mt.most < d
      · have e : decide ((mt.most : Int) < (d : Int)) = true := decide_eq_true (by omega)
        rw [e]
        refine iteT ?_
        have er : o.right l = false := by
          cases z : o.right l with
          | false => rfl
          | true => exact absurd (((right_iff hl).mp z).1 i d mt e1 e4) (Nat.not_le.mpr c)
        have qq := q _ S2
        rw [er] at qq
        exact qq
      · have e : decide ((mt.most : Int) < (d : Int)) = false := decide_eq_false (by omega)
        rw [e]
        refine iteF ?_
        refine ⟨⟨_, _, rfl⟩, S2, fun j d' mt' h1 h2 h3 => ?_⟩
        by_cases cj : j = i
        · subst cj
          have z1 : d = d' := Option.some.inj (e1.symm.trans h2)
          have z2 : mt = mt' := Option.some.inj (e4.symm.trans h3)
          rw [← z1, ← z2]
          omega
        · exact hj j d' mt' (by omega) h2 h3
    · rintro σ H' ⟨⟨v2, v3, rfl⟩, S1, hj⟩
      have hs := S1 _ _ hp
      rw [natsV_ints] at hs
      refine ⟨_, rfl, p, _, rfl, SqL.of hs, _, _, rfl, rfl, ?_⟩
      have er : o.right l = decide ((0 : Int) < (zsOf l).sum) := by
        have hall : ∀ (i d : Nat) (m : Material), l[i]? = some d → o.materials[i]? = some m → d ≤ m.most := fun i d mt h1 h2 => hj i d mt (List.getElem?_eq_some_iff.mp h2).1 h1 h2
        rw [ints_sum]
        cases z : o.right l with
        | true =>
          have := ((right_iff hl).mp z).2
          exact (decide_eq_true (by omega)).symm
        | false =>
          refine (decide_eq_false fun c => ?_).symm
          have : o.right l = true := (right_iff hl).mpr ⟨hall, by omega⟩
          rw [z] at this
          cases this
      have qq := q _ S1
      rw [er] at qq
      exact qq
end
end Oil
set_option maxRecDepth 100000
set_option maxHeartbeats 4000000
namespace Oil
open PySem PySem.Spec PyProof.Rows L2
open Si83 (Part Material less lowest)
abbrev sFor : Stmt := top 27
abbrev nFor : List Str := ["order", "formulas", "oil", "longer", "formula", "drops"]
/-- lists of numbers at addresses, none of them at L -/
structure ListsAt (H : Hp) (L : Addr) (ps : List Addr) (ls : List (List Nat)) : Prop where
  len : ps.length = ls.length
  each : ∀ (i : Nat) (p : Addr) (l : List Nat), ps[i]? = some p → ls[i]? = some l → H p = some (.lst (natsV l)) ∧ p ≠ L
theorem ListsAt.same {H H' : Hp} {L : Addr} {ps : List Addr} {ls : List (List Nat)} (A : ListsAt H L ps ls) (S : Same H H') : ListsAt H' L ps ls :=
  ⟨A.len, fun i p l h1 h2 => ⟨S _ _ (A.each i p l h1 h2).1, (A.each i p l h1 h2).2⟩⟩
theorem ListsAt.put {H : Hp} {L : Addr} {o : HO} {ps : List Addr} {ls : List (List Nat)} (A : ListsAt H L ps ls) : ListsAt (upd H L o) L ps ls :=
  ⟨A.len, fun i p l h1 h2 => ⟨by rw [upd_ne (A.each i p l h1 h2).2]; exact (A.each i p l h1 h2).1, (A.each i p l h1 h2).2⟩⟩
theorem ListsAt.nil {H : Hp} {L : Addr} : ListsAt H L [] [] := ⟨rfl, fun i p l h => by simp at h⟩
theorem ListsAt.snoc {H : Hp} {L : Addr} {ps : List Addr} {ls : List (List Nat)} {p : Addr} {l : List Nat} (A : ListsAt H L ps ls) (h : H p = some (.lst (natsV l))) (ne : p ≠ L) : ListsAt H L (ps ++ [p]) (ls ++ [l]) := by
  refine ⟨by rw [List.length_append, List.length_append, A.len]; rfl, fun i q k h1 h2 => ?_⟩
  by_cases c : i < ps.length
  · rw [List.getElem?_append_left c] at h1
    rw [List.getElem?_append_left (by rw [← A.len]; exact c)] at h2
    exact A.each i q k h1 h2
  · have c1 : ps.length ≤ i := Nat.not_lt.mp c
    rw [List.getElem?_append_right c1] at h1
    rw [List.getElem?_append_right (by rw [← A.len]; exact c1), ← A.len] at h2
    have ei : i - ps.length = 0 := by
      have := (List.getElem?_eq_some_iff.mp h1).1
      simp only [List.length_singleton] at this
      omega
    rw [ei] at h1 h2
    have e1 : p = q := Option.some.inj h1
    have e2 : l = k := Option.some.inj h2
    rw [← e1, ← e2]
    exact ⟨h, ne⟩
def spFor (CM CO : Addr) : Sp := fun vs H Q _ => ∃ (a : Addr) (o : Si83.Order), vs = [.ref a] ∧ RdO CM CO H a o ∧ OrdOk o ∧
  ∀ (H' : Hp) (p : Addr) (ps : List Addr), Same H H' → H' p = some (.lst (ps.map V.ref)) → ListsAt H' p ps o.formulas → Q (.ref p) H'
theorem scFor : FnScope nFor ["order"] (defScope sFor) := ⟨rfl, rfl, rfl, by decide +kernel, rfl, by decide +kernel, by decide +kernel⟩
/-- what stands in longer behind j formulas and d drops more -/
def part2 (gs : List (List Nat)) (n j d : Nat) : List (List Nat) := longer (gs.take j) n ++ (List.range d).map fun e => gs.getD j [] ++ [e]
theorem longer_snoc (gs : List (List Nat)) (g : List Nat) (n : Nat) : longer (gs ++ [g]) n = longer gs n ++ (List.range (n + 1)).map fun e => g ++ [e] := by
  unfold longer
  rw [List.flatMap_append, List.flatMap_cons, List.flatMap_nil, List.append_nil]
theorem part2_end {gs : List (List Nat)} {j : Nat} {g : List Nat} (n : Nat) (h : gs[j]? = some g) : part2 gs n j (n + 1) = longer (gs.take (j + 1)) n := by
  have e : gs.take (j + 1) = gs.take j ++ [g] := by
    rw [List.take_add_one, h]
    rfl
  have e2 : gs.getD j [] = g := by
    rw [List.getD_eq_getElem?_getD, h]
    rfl
  unfold part2
  rw [e, longer_snoc, e2]
theorem part2_zero (gs : List (List Nat)) (n j : Nat) : part2 gs n j 0 = longer (gs.take j) n := List.append_nil _
theorem part2_succ {gs : List (List Nat)} {j : Nat} {g : List Nat} (n d : Nat) (h : gs[j]? = some g) : part2 gs n j (d + 1) = part2 gs n j d ++ [g ++ [d]] := by
  have e2 : gs.getD j [] = g := by
    rw [List.getD_eq_getElem?_getD, h]
    rfl
  unfold part2
  rw [List.range_succ, List.map_append, ← List.append_assoc, e2]
  rfl
theorem part2_len {gs : List (List Nat)} {n j d : Nat} (hg : gs.length ≤ 2401) (hn : n ≤ 6) (hd : d ≤ 7) : (part2 gs n j d).length ≤ 20000 := by
  unfold part2
  rw [List.length_append, longer_len, List.length_map, List.length_range, List.length_take]
  have : min j gs.length * (n + 1) ≤ 2401 * 7 := Nat.mul_le_mul (by omega) (by omega)
  omega
section
variable {P : Program} {w : World} {K : PySem.W.Frag} {mg : Str → Option Value} {base : Heap} {f : Addr} {fd : FuncData} {CM CO CF CR : Addr}
theorem ok_for (T : Txt K mg CM CO CF CR) (F : Fun K "formulas_that_may_be" "formulas_that_may_be" sFor f fd) : FnOk P w K mg base CX0 1 f fd ["order"] (spFor CM CO) := by
  refine F.ok scFor (fun vs H Q E h => ?_) (fun cdv A outer s H vs Q E hr h => ⟨_,
    pss_cons (ps_set (i := 1) scFor.nd rfl (Or.inl rfl) (pe_lst (pa_cons (pe_lst pa_nil) pa_nil)))
    (pss_cons (ps_for PassesOwn.never rfl (pi_list (pe_fld (pv 0) rfl)) (pg_name (i := 2) scFor.nd rfl (Or.inl rfl))
      (pss_cons (ps_set (i := 3) scFor.nd rfl (Or.inl rfl) (pe_lst pa_nil))
      (pss_cons (ps_for PassesOwn.never rfl (pi_list (pv 1)) (pg_name (i := 4) scFor.nd rfl (Or.inl rfl))
        (pss_one (ps_for PassesOwn.never rfl (pi_range1 rfl T.bRange (pa_cons (pe_op op_add (pe_fld (pv 2) rfl) pe_int) pa_nil)) (pg_name (i := 5) scFor.nd rfl (Or.inl rfl))
          (pss_one (ps_expr (pe_bm PySem.F.plainAttrs_list PySem.F.slot_list_append PySem.F.type_list_append mt_append (pv 3) (pa_cons (pe_op op_cat (pv 4) (pe_lst (pa_cons (pv 5) pa_nil))) pa_nil)))))))
      (pss_one (ps_set (i := 1) scFor.nd rfl (Or.inl rfl) (pv 3))))))
    (pss_one (ps_ret (pe_lc (own := [("formula", 4)]) (g := gName 4) (tt := tTest (tOp (rI0 fun i j => .bl (decide (j < i))) (tCB (rSum K) (tCons (tVar 4) tNil)) (tC (.int 0)))) (te := tVar 4) rfl scFor.nd (pi_list (pv 1))
      (blkOk_by (N := nFor) (sc := defScope sFor) (by decide +kernel))
      (fun _ _ _ _ _ => by exact pg_name (i := 4) scFor.nd rfl (Or.inl rfl))
      (fun _ _ _ _ _ => by exact pts_one (pt_cmpR op_gt (pe_callB (cr_sum rfl) (by rfl) T.bSum (by decide +kernel) (pa_cons (pv 4) pa_nil)) pe_int (nomark _)))
      (fun _ _ _ _ _ => by exact pv 4))))), ?_⟩)
  · obtain ⟨a, o, rfl, _⟩ := h
    rfl
  · obtain ⟨a, o, rfl, ⟨t, m, dx, b, as, O⟩, Ok, q⟩ := h
    -- formulas = [[]]
    refine ⟨by show 0 ≤ sizeLine; decide, fun p0 hp0 => ⟨by show 1 ≤ sizeLine; decide, fun F0 hF0 => ?_⟩⟩
    have S0 : Same H (upd (upd H p0 (.lst [])) F0 (.lst [.ref p0])) := (same_upd hp0).trans (same_upd hF0)
    have hp01 : p0 ≠ F0 := ne_of_none (H := upd H p0 (.lst [])) upd_same hF0
    refine ⟨_, rfl, a, CO, dx, _, _, rfl, S0 _ _ O.ob, T.cO, T.oM, ordF_m b m, m, rfl, ⟨_, SqL.of (S0 _ _ O.mats)⟩, ?_⟩
    refine for_it (walk_list (xs := as.map V.ref)) (fun i σ H1 => (∃ (Fi : Addr) (ps : List Addr) (v2 v3 v4 v5 : Option V), σ = [some (.ref a), some (.ref Fi), v2, v3, v4, v5] ∧ H1 Fi = some (.lst (ps.map V.ref)) ∧ ListsAt H1 Fi ps (grown ((mosts o).take i))) ∧ Same H H1)
      ⟨⟨F0, [p0], none, none, none, none, rfl, upd_same, ListsAt.snoc (ps := []) (ls := []) ListsAt.nil (by rw [upd_ne hp01]; exact upd_same) hp01⟩, S0⟩ (fun i σ H1 _ z => SqL.of (z.2 _ _ O.mats)) ?_ ?_
    · rintro i x σ H1 H1' hi ⟨⟨Fi, ps, v2, v3, v4, v5, rfl, hFi, A⟩, S1⟩ ⟨rfl, hx⟩
      obtain ⟨mx, e2, rfl⟩ := refs_of hx
      rw [List.length_map, O.len] at hi
      obtain ⟨mt, e4⟩ := get_some hi
      obtain ⟨dy, pp, M⟩ := O.each i mx mt e2 e4
      have em : (mosts o)[i]? = some mt.most := by
        unfold mosts
        rw [List.getElem?_map, e4]
        rfl
      have h6 : mt.most ≤ 6 := (Ok.mats mt (List.mem_of_getElem? e4)).most
      generalize hgs : grown ((mosts o).take i) = gs at A
      have hgl : gs.length ≤ 2401 := by
        rw [← hgs]
        exact grown_lt Ok (Nat.le_of_lt hi)
      -- longer = []
      refine ⟨by show 0 ≤ sizeLine; decide, fun L hL => ?_⟩
      refine ⟨_, rfl, Fi, rfl, ⟨_, SqL.of (same_upd hL _ _ hFi)⟩, ?_⟩
      refine for_it (walk_list (xs := ps.map V.ref)) (fun j σ H2 => (∃ (qs : List Addr) (v4 v5 : Option V), σ = [some (.ref a), some (.ref Fi), some (.ref mx), some (.ref L), v4, v5] ∧ H2 L = some (.lst (qs.map V.ref)) ∧ ListsAt H2 L qs (part2 gs mt.most j 0)) ∧ Same H1' H2)
        ⟨⟨[], v4, v5, rfl, upd_same, by rw [part2_zero]; exact ListsAt.nil⟩, same_upd hL⟩ (fun j σ H2 _ z => SqL.of (z.2 _ _ hFi)) ?_ ?_
      · rintro j y σ H2 H2' hj ⟨⟨qs, w4, w5, rfl, hL2, B⟩, S2⟩ ⟨rfl, hy⟩
        obtain ⟨pj, ej, rfl⟩ := refs_of hy
        rw [List.length_map, A.len] at hj
        obtain ⟨g, eg⟩ := get_some hj
        obtain ⟨hpj, _⟩ := A.each j pj g ej eg
        refine ⟨_, rfl, mx, CM, dy, _, _, rfl, S2 _ _ (S1 _ _ M.ob), T.cM, T.mO, matF_m mt pp, _, _, rfl, rfl, ((mt.most : Int) + 1), rfl, by omega, by omega, ?_⟩
        have en : ((mt.most : Int) + 1).toNat = mt.most + 1 := by omega
        rw [en]
        refine for_it (walk_range (lo := 0) (n := mt.most + 1)) (fun d σ H3 => (∃ (qs : List Addr) (v5 : Option V), σ = [some (.ref a), some (.ref Fi), some (.ref mx), some (.ref L), some (.ref pj), v5] ∧ H3 L = some (.lst (qs.map V.ref)) ∧ ListsAt H3 L qs (part2 gs mt.most j d)) ∧ Same H1' H3)
          ⟨⟨qs, w5, rfl, hL2, B⟩, S2⟩ (fun _ _ _ _ _ => True.intro) ?_ ?_
        · rintro d y σ H3 H3' hd ⟨⟨qs3, w53, rfl, hL3, B3⟩, S3⟩ ⟨rfl, ey⟩
          have ed : y = .int (d : Int) := ey.trans (congrArg V.int (by omega))
          subst ed
          refine ⟨_, rfl, Or.inl ⟨rfl, _, SqL.of hL3⟩, _, rfl, _, rfl, by show 1 ≤ sizeLine; decide, fun r hr3 => ?_⟩
          have hpj3 := S3 _ _ hpj
          refine ⟨pj, r, natsV g, _, rfl, rfl, same_upd hr3 _ _ hpj3, upd_same, ?_, fun u hu => ?_⟩
          · have hm : g ∈ grown ((mosts o).take i) := by
              rw [hgs]
              exact List.mem_of_getElem? eg
            rw [grown_rows] at hm
            have := (rows_mem _ _ hm).1
            have h4 : ((mosts o).take i).length ≤ 4 := by
              rw [List.length_take, mosts_len]
              have := Ok.cnt
              omega
            rw [natsV_len]
            show g.length + 1 ≤ sizeLine
            have := small_line (n := g.length + 1) (by omega)
            omega
          · have Sr : Same H3' (upd (upd H3' r (.lst [.int (d : Int)])) u (.lst (natsV g ++ [.int (d : Int)]))) := (same_upd hr3).trans (same_upd hu)
            have uL : u ≠ L := (ne_of_none (same_upd hr3 _ _ hL3) hu).symm
            have hql : qs3.length = (part2 gs mt.most j d).length := B3.len
            have hqb := part2_len (n := mt.most) (j := j) (d := d) hgl h6 (by omega)
            refine ⟨L, _, _, rfl, rfl, Sr _ _ hL3, by rw [List.length_map, hql]; exact small_line (by omega), ⟨qs3 ++ [u], _, rfl, ?_, ?_⟩, fun c o' hc => ?_⟩
            · rw [upd_same, List.map_append]
              rfl
            · rw [part2_succ _ _ eg]
              refine ListsAt.snoc ((B3.same Sr).put) ?_ uL
              rw [upd_ne uL, upd_same]
              unfold natsV
              rw [List.map_append]
              rfl
            · have cL : c ≠ L := ne_of_none hc hL
              rw [upd_ne cL]
              exact Sr _ _ (S3 _ _ hc)
        · rintro σ H3 ⟨⟨qs3, w53, rfl, hL3, B3⟩, S3⟩
          rw [part2_end _ eg, ← part2_zero gs mt.most (j + 1)] at B3
          exact ⟨⟨qs3, _, _, rfl, hL3, B3⟩, S3⟩
      · rintro σ H2 ⟨⟨qs, w4, w5, rfl, hL2, B⟩, S2⟩
        refine ⟨_, rfl, ⟨L, qs, _, _, _, _, rfl, hL2, ?_⟩, S1.trans S2⟩
        rw [List.length_map, A.len, part2_zero, List.take_length, ← hgs, ← grown_succ em] at B
        exact B
    · rintro σ H1 ⟨⟨Fi, ps, v2, v3, v4, v5, rfl, hFi, A⟩, S1⟩
      have et : (mosts o).take (as.map V.ref).length = mosts o := List.take_of_length_le (by rw [mosts_len, List.length_map, O.len]; exact Nat.le_refl _)
      rw [et] at A
      refine ⟨_, rfl, Fi, rfl, ⟨_, SqL.of hFi⟩, fun D hD => ?_⟩
      refine lc_it (walk_list (xs := ps.map V.ref)) (fun i H2 => Same H1 H2 ∧ ∃ qs : List Addr, H2 D = some (.lst (qs.map V.ref)) ∧ ListsAt H2 D qs (((grown (mosts o)).take i).filter fun l => decide (0 < l.sum)))
        ⟨same_upd hD, [], upd_same, ListsAt.nil⟩ (fun i H2 _ z => SqL.of (z.1 _ _ hFi)) ?_ ?_
      · rintro i x H2 H2' hi ⟨S2, qs, hD2, B⟩ ⟨rfl, hx⟩
        obtain ⟨pi, ei, rfl⟩ := refs_of hx
        rw [List.length_map, A.len] at hi
        obtain ⟨g, eg⟩ := get_some hi
        obtain ⟨hpi, _⟩ := A.each i pi g ei eg
        have hs := S2 _ _ hpi
        have hs' := hs
        rw [natsV_ints] at hs
        have e : (grown (mosts o)).take (i + 1) = (grown (mosts o)).take i ++ [g] := by
          rw [List.take_add_one, eg]
          rfl
        have pD : pi ≠ D := ne_of_none hpi hD
        refine ⟨rfl, _, rfl, pi, _, rfl, SqL.of hs, _, _, rfl, rfl, _, rfl, ?_⟩
        rw [ints_sum, e, List.filter_append]
        by_cases c : 0 < g.sum
        · have ec : decide ((0 : Int) < ((g.sum : Nat) : Int)) = true := decide_eq_true (by omega)
          rw [ec]
          refine iteT ⟨_, rfl, _, hD2, ?_, same_put S2 hD, qs ++ [pi], ?_, ?_⟩
          · rw [List.length_map, B.len]
            have h1 := List.length_filter_le (fun l : List Nat => decide (0 < l.sum)) ((grown (mosts o)).take i)
            rw [List.length_take] at h1
            have h2 := grown_lt Ok (Nat.le_refl o.materials.length)
            have et2 : (mosts o).take o.materials.length = mosts o := List.take_of_length_le (by rw [mosts_len]; exact Nat.le_refl _)
            rw [et2] at h2
            exact small_line (by omega)
          · rw [upd_same, List.map_append]
            rfl
          · have ef : [g].filter (fun l => decide (0 < l.sum)) = [g] := List.filter_cons_of_pos (decide_eq_true c)
            rw [ef]
            exact B.put.snoc (by rw [upd_ne pD]; exact hs') pD
        · have ec : decide ((0 : Int) < ((g.sum : Nat) : Int)) = false := decide_eq_false (by omega)
          rw [ec]
          have ef : [g].filter (fun l => decide (0 < l.sum)) = [] := List.filter_cons_of_neg (fun z => c (of_decide_eq_true z))
          rw [ef, List.append_nil]
          exact iteF ⟨S2, qs, hD2, B⟩
      · rintro H2 ⟨S2, qs, hD2, B⟩
        rw [List.length_map, A.len, List.take_length, ← formulas_eq] at B
        exact q H2 D qs (S1.trans S2) hD2 B
end
end Oil
set_option maxRecDepth 100000
set_option maxHeartbeats 4000000
namespace Oil
open PySem PySem.Spec PyProof.Rows L2
open Si83 (Part Material less lowest)
abbrev sShr : Stmt := top 23
abbrev nShr : List Str := ["order", "formula", "greatest", "substance", "share"]
def spShr (CM CO : Addr) : Sp := fun vs H Q _ => ∃ (a p : Addr) (o : Si83.Order) (l : List Nat), vs = [.ref a, .ref p] ∧ RdO CM CO H a o ∧ H p = some (.lst (natsV l)) ∧ OrdOk o ∧ RowOk o l ∧
  ∀ (H' : Hp) (s : Addr), Same H H' → H' s = some (.tup (partV (o.strong l))) → Q (.ref s) H'
theorem scShr : FnScope nShr ["order", "formula"] (defScope sShr) := ⟨rfl, rfl, rfl, by decide +kernel, rfl, by decide +kernel, by decide +kernel⟩
section
variable {P : Program} {w : World} {K : PySem.W.Frag} {mg : Str → Option Value} {base : Heap} {f fA fL : Addr} {fd : FuncData} {CM CO CF CR : Addr}
theorem ok_shr (T : Txt K mg CM CO CF CR) (F : Fun K "share_of" "share_of" sShr f fd) (DA : Def P w K mg base 2 "share_at_bound" fA ["order", "formula", "substance"] (spSab CM CO)) (DL : Def P w K mg base 1 "stronger_by" fL ["share", "other"] spStr) :
    FnOk P w K mg base CX0 3 f fd ["order", "formula"] (spShr CM CO) := by
  refine F.ok scShr (fun vs H Q E h => ?_) (fun cdv A outer s H vs Q E hr h => ⟨_,
    pss_cons (ps_set (i := 2) scShr.nd rfl (Or.inl rfl) (pe_tup (pa_cons pe_int (pa_cons pe_int pa_nil))))
    (pss_cons (ps_for PassesOwn.never rfl (pi_range1 rfl T.bRange (pa_cons (pe_const T.kSub rfl) pa_nil)) (pg_name (i := 3) scShr.nd rfl (Or.inl rfl))
      (pss_cons (ps_set (i := 4) scShr.nd rfl (Or.inl rfl) (pe_callD DA hr rfl (pa_cons (pv 0) (pa_cons (pv 1) (pa_cons (pv 3) pa_nil)))))
      (pss_one (ps_if (PW.pt (pw_and (pt_cmpR op_notN (pv 4) pe_non (nomark _)) (pw_and1 (pt_cmpR op_gt (pe_callD DL (hr.mono (by decide)) rfl (pa_cons (pv 2) (pa_cons (pv 4) pa_nil))) pe_int (nomark _)))))
        (pss_one (ps_set (i := 2) scShr.nd rfl (Or.inl rfl) (pv 4))) pss_nil))))
    (pss_one (ps_ret (pv 2)))), ?_⟩)
  · obtain ⟨a, p, o, l, rfl, _⟩ := h
    rfl
  · obtain ⟨a, p, o, l, rfl, O, hp, Ok, R, q⟩ := h
    refine ⟨by show 2 ≤ sizeLine; decide, fun g0 hg0 => ?_⟩
    refine ⟨3, rfl, by decide, by decide, ?_⟩
    refine for_it (walk_range (lo := 0) (n := 3)) (fun i σ H1 => (∃ (g : Addr) (v3 v4 : Option V), σ = [some (.ref a), some (.ref p), some (.ref g), v3, v4] ∧ H1 g = some (.tup (partV (shareAt o l i)))) ∧ Same H H1)
      ⟨⟨g0, none, none, rfl, upd_same⟩, same_upd hg0⟩ (fun _ _ _ _ _ => True.intro) ?_ ?_
    · rintro i y σ H1 H1' hi ⟨⟨g, v3, v4, rfl, hg⟩, S1⟩ ⟨rfl, ey⟩
      have ed : y = .int (i : Int) := ey.trans (congrArg V.int (by omega))
      subst ed
      refine ⟨_, rfl, _, rfl, _, rfl, a, p, o, l, i, rfl, O.same S1, S1 _ _ hp, Ok, R, hi, fun eN H2 S2 => ?_, fun x eS H2 s S2 hs => ?_⟩
      · refine ⟨_, rfl, rfl, _, rfl, iteF ⟨⟨g, _, _, rfl, ?_⟩, S1.trans S2⟩⟩
        rw [shareAt_succ, turn_none eN]
        exact S2 _ _ hg
      · have Fx := by_fit Ok R eS
        have Fg := shareAt_fit Ok R i
        refine ⟨_, rfl, rfl, _, rfl, ?_⟩
        refine iteT ?_
        refine ⟨_, rfl, _, rfl, g, s, _, x, rfl, S2 _ _ hg, hs, Fg.n, Fx.n, _, _, rfl, rfl, _, rfl, ?_⟩
        by_cases c : 0 < cross (shareAt o l i) x
        · have e : decide ((0 : Int) < cross (shareAt o l i) x) = true := decide_eq_true c
          rw [e]
          refine iteT ⟨_, rfl, ⟨s, _, _, rfl, ?_⟩, S1.trans S2⟩
          rw [shareAt_succ, turn_less eS c]
          exact hs
        · have e : decide ((0 : Int) < cross (shareAt o l i) x) = false := decide_eq_false c
          rw [e]
          refine iteF ⟨⟨g, _, _, rfl, ?_⟩, S1.trans S2⟩
          rw [shareAt_succ, turn_more eS c]
          exact S2 _ _ hg
    · rintro σ H1 ⟨⟨g, v3, v4, rfl, hg⟩, S1⟩
      exact ⟨_, rfl, q H1 g S1 hg⟩
end
end Oil
set_option maxRecDepth 100000
set_option maxHeartbeats 4000000
namespace Oil
open PySem PySem.Spec PyProof.Rows L2
open Si83 (Part Material less lowest)
abbrev sHol : Stmt := top 24
abbrev nHol : List Str := ["order", "formula", "greatest", "substance"]
def spHol (CM CO : Addr) : Sp := fun vs H Q _ => ∃ (a p g : Addr) (o : Si83.Order) (l : List Nat), vs = [.ref a, .ref p, .ref g] ∧ RdO CM CO H a o ∧ H p = some (.lst (natsV l)) ∧ OrdOk o ∧ RowOk o l ∧ H g = some (.tup (partV (o.strong l))) ∧
  ∀ (H' : Hp) (q : Addr), Same H H' → H' q = some (.lst (natsV (o.holds l))) → Q (.ref q) H'
theorem scHol : FnScope nHol ["order", "formula", "greatest"] (defScope sHol) := ⟨rfl, rfl, rfl, by decide +kernel, rfl, by decide +kernel, by decide +kernel⟩
def partD (x : Part) : PyData := .tuple [.int (x.n : Int), .int (x.d : Int)]
theorem partD_of {K : PySem.W.Frag} {H : Hp} {s : Addr} {x : Part} (h : H s = some (.tup (partV x))) : Dp K H (.ref s) (partD x) := .tup (SqT.of h) (.cons (.int _) (.cons (.int _) .nil))
theorem partD_eqv (x y : Part) : PyData.eqv (partD x) (partD y) = decide (x = y) := by
  show ((x.n : Int) == (y.n : Int) && ((x.d : Int) == (y.d : Int) && true)) = decide (x = y)
  by_cases h : x = y
  · subst h
    simp
  · rw [decide_eq_false h, Bool.and_true]
    by_cases c : (x.n : Int) = (y.n : Int)
    · have d : ¬ (x.d : Int) = (y.d : Int) := fun z => h (by
        cases x
        cases y
        simp only at c z
        congr 1 <;> omega)
      have e : ((x.d : Int) == (y.d : Int)) = false := beq_eq_false_iff_ne.mpr d
      rw [e, Bool.and_false]
    · have e : ((x.n : Int) == (y.n : Int)) = false := beq_eq_false_iff_ne.mpr c
      rw [e, Bool.false_and]
def holdsTo (o : Si83.Order) (l : List Nat) (i : Nat) : List Nat := (List.range i).filter fun k => o.by_ l k == some (o.strong l)
theorem holdsTo_yes {o : Si83.Order} {l : List Nat} {i : Nat} (h : o.by_ l i = some (o.strong l)) : holdsTo o l (i + 1) = holdsTo o l i ++ [i] := by
  unfold holdsTo
  rw [List.range_succ, List.filter_append]
  congr 1
  exact List.filter_cons_of_pos (beq_iff_eq.mpr h)
theorem holdsTo_no {o : Si83.Order} {l : List Nat} {i : Nat} (h : ¬ o.by_ l i = some (o.strong l)) : holdsTo o l (i + 1) = holdsTo o l i := by
  unfold holdsTo
  rw [List.range_succ, List.filter_append]
  have e : [i].filter (fun k => o.by_ l k == some (o.strong l)) = [] := List.filter_cons_of_neg fun z => h (beq_iff_eq.mp z)
  rw [e, List.append_nil]
theorem holdsTo_len (o : Si83.Order) (l : List Nat) (i : Nat) : (holdsTo o l i).length ≤ i := by
  unfold holdsTo
  have := List.length_filter_le (fun k => o.by_ l k == some (o.strong l)) (List.range i)
  rw [List.length_range] at this
  exact this
section
variable {P : Program} {w : World} {K : PySem.W.Frag} {mg : Str → Option Value} {base : Heap} {f fA : Addr} {fd : FuncData} {CM CO CF CR : Addr}
theorem ok_hol (T : Txt K mg CM CO CF CR) (F : Fun K "holding_back" "holding_back" sHol f fd) (DA : Def P w K mg base 2 "share_at_bound" fA ["order", "formula", "substance"] (spSab CM CO)) :
    FnOk P w K mg base CX0 3 f fd ["order", "formula", "greatest"] (spHol CM CO) := by
  refine F.ok scHol (fun vs H Q E h => ?_) (fun cdv A outer s H vs Q E hr h => ⟨_,
    pss_one (ps_ret (pe_lc (own := [("substance", 3)]) (g := gName 3) (tt := tTest (tOp (rEqD K) (tCall (spSab CM CO) [] E0 (tCons (tVar 0) (tCons (tVar 1) (tCons (tVar 3) tNil)))) (tVar 2))) (te := tVar 3) rfl scHol.nd
      (pi_range1 rfl T.bRange (pa_cons (pe_const T.kSub rfl) pa_nil))
      (blkOk_by (N := nHol) (sc := defScope sHol) (by decide +kernel))
      (fun _ _ _ _ _ => by exact pg_name (i := 3) scHol.nd rfl (Or.inl rfl))
      (fun _ _ _ _ _ => by exact pts_one (pt_cmpR (op_eqD hr.units) (pe_callD DA hr rfl (pa_cons (pv 0) (pa_cons (pv 1) (pa_cons (pv 3) pa_nil)))) (pv 2) (nomark _)))
      (fun _ _ _ _ _ => by exact pv 3))), ?_⟩)
  · obtain ⟨a, p, g, o, l, rfl, _⟩ := h
    rfl
  · obtain ⟨a, p, g, o, l, rfl, O, hp, Ok, R, hg, q⟩ := h
    refine ⟨3, rfl, by decide, by decide, fun D hD => ?_⟩
    refine lc_it (walk_range (lo := 0) (n := 3)) (fun i H' => Same H H' ∧ H' D = some (.lst (natsV (holdsTo o l i)))) ⟨same_upd hD, upd_same⟩ (fun _ _ _ _ => True.intro) ?_ ?_
    · rintro i y H1 H1' hi ⟨S1, hD1⟩ ⟨rfl, ey⟩
      have ed : y = .int (i : Int) := ey.trans (congrArg V.int (by omega))
      subst ed
      have hlen := holdsTo_len o l i
      refine ⟨rfl, _, rfl, _, rfl, _, rfl, a, p, o, l, i, rfl, O.same S1, S1 _ _ hp, Ok, R, hi, fun eN H2 S2 => ?_, fun x eS H2 s S2 hs => ?_⟩
      · refine ⟨_, rfl, .none, partD (o.strong l), .non, partD_of (S2 _ _ (S1 _ _ hg)), rfl, rfl, _, rfl, ?_⟩
        refine iteF ⟨S1.trans S2, ?_⟩
        rw [holdsTo_no (by rw [eN]; exact fun z => by cases z)]
        exact S2 _ _ hD1
      · refine ⟨_, rfl, partD x, partD (o.strong l), partD_of hs, partD_of (S2 _ _ (S1 _ _ hg)), rfl, rfl, _, rfl, ?_⟩
        rw [partD_eqv]
        by_cases c : x = o.strong l
        · rw [decide_eq_true c]
          refine iteT ⟨_, rfl, _, S2 _ _ hD1, ?_, same_put (S1.trans S2) hD, ?_⟩
          · rw [natsV_len]
            exact small_line (by omega)
          · rw [upd_same, holdsTo_yes (by rw [eS, c])]
            unfold natsV
            rw [List.map_append]
            rfl
        · rw [decide_eq_false c]
          refine iteF ⟨S1.trans S2, ?_⟩
          rw [holdsTo_no (by rw [eS]; exact fun z => c (Option.some.inj z))]
          exact S2 _ _ hD1
    · rintro H1 ⟨S1, hD1⟩
      exact q H1 D S1 hD1
end
end Oil
set_option maxRecDepth 100000
set_option maxHeartbeats 4000000
namespace Oil
open PySem PySem.Spec PyProof.Rows L2
open Si83 (Part Material less lowest)
/-! ### Classes that make, methods -/
structure Maker (P : Program) (w : World) (K : PySem.W.Frag) (mg : Str → Option Value) (base : Heap) (k : Nat) (x : Str) (C : Addr) (ps : List Str) (sp : Sp) : Prop where
  ex : ∃ (f : Addr) (fd : FuncData), Mk K C f ∧ FnOk P w K mg base CX0 k f fd ps sp ∧ Binds K fd ps []
  g : mg x = some (.ref C)
structure Mth (P : Program) (w : World) (K : PySem.W.Frag) (mg : Str → Option Value) (base : Heap) (k : Nat) (C : Addr) (m : Str) (ps : List Str) (sp : Sp) : Prop where
  ex : ∃ (f : Addr) (fd : FuncData), Meth K C m f ∧ FnOk P w K mg base CX0 k f fd ps sp ∧ Binds K fd ps []
section
variable {X : Cx} {k : Nat} {C : Addr} {ps : List Str} {sp : Sp} {x m : Str} {p pos apos : Pos} {o e : Expr} {es : List Expr} {ta : TE} {t : TA}
theorem pe_makeD (M : Maker X.prog X.w X.K X.mg X.base k x C ps sp) (hr : Room (k + 1) X.A) (hg : Gl X x) (ha : PA X (e :: es) t)
    (hdb : (x == ("__debug__" : Str)) = false := by decide) (he : starEach (e :: es) X.env = (false, eval e X.env) :: starEach es X.env := by rfl) (hpl : (backTo pos (starEach es X.env)).any (·.1) = false := by rfl) : PE X (.Call (.Name x p) (e :: es) [] pos) (tMake C sp [] E0 t) := by
  obtain ⟨f, fd, M1, F, b⟩ := M.ex
  exact pe_make M1 F hr hg M.g b .nil pass0 ha hdb he hpl
theorem pe_makeD0 (M : Maker X.prog X.w X.K X.mg X.base k x C ps sp) (hr : Room (k + 1) X.A) (hg : Gl X x) (hdb : (x == ("__debug__" : Str)) = false := by decide) : PE X (.Call (.Name x p) [] [] pos) (tMake C sp [] E0 tNil) := by
  obtain ⟨f, fd, M1, F, b⟩ := M.ex
  exact pe_make0 M1 F hr hg M.g b .nil pass0 hdb
theorem pe_methD {pl : Sem Bool} (M : Mth X.prog X.w X.K X.mg X.base k C m ps sp) (c : Cls X.K C) (hr : Room k X.A) (ho : PE X o ta) (ha : PA X (e :: es) t)
    (hst : starEach (e :: es) X.env = (false, eval e X.env) :: starEach es X.env := by rfl) (hpl : (backTo pos (starEach es X.env)).any (·.1) = false := by rfl)
    (ht : eval (.Call (.Attribute o m apos) (e :: es) [] pos) X.env = (do
      let ov ← eval o X.env
      standAt apos.atName
      let (f, first) ← holding [ov] (getMethod ov m pl)
      callWith pos f first (backTo pos (starEach (e :: es) X.env)) (backToKw pos (keywordEach [] X.env))) := by rfl) : PE X (.Call (.Attribute o m apos) (e :: es) [] pos) (tMeth C m sp [] E0 ta t) := by
  obtain ⟨f, fd, M1, F, b⟩ := M.ex
  exact pe_meth (pl := pl) ho c M1 F hr b .nil pass0 ha hst hpl ht
theorem pe_methD0 {pl : Sem Bool} (M : Mth X.prog X.w X.K X.mg X.base k C m ps sp) (c : Cls X.K C) (hr : Room k X.A) (ho : PE X o ta)
    (ht : eval (.Call (.Attribute o m apos) [] [] pos) X.env = (do
      let ov ← eval o X.env
      standAt apos.atName
      let (f, first) ← holding [ov] (getMethod ov m pl)
      callWith pos f first (backTo pos (starEach [] X.env)) (backToKw pos (keywordEach [] X.env))) := by rfl) : PE X (.Call (.Attribute o m apos) [] [] pos) (tMeth C m sp [] E0 ta tNil) := by
  obtain ⟨f, fd, M1, F, b⟩ := M.ex
  exact pe_meth0 (pl := pl) ho c M1 F hr b .nil pass0 ht
end
/-- all but what stands at x is as it was -/
def But (x : Addr) (H H' : Hp) : Prop := ∀ c u, H c = some u → c ≠ x → H' c = some u
theorem But.trans {x : Addr} {H H1 H2 : Hp} (a : But x H H1) (b : But x H1 H2) : But x H H2 := fun c u h n => b c u (a c u h n) n
theorem same_but {x : Addr} {H H' : Hp} (a : Same H H') : But x H H' := fun c u h _ => a c u h
theorem but_upd {x : Addr} {H : Hp} {o : HO} : But x H (upd H x o) := fun c u h n => by
  rw [upd_ne n]
  exact h
end Oil
set_option maxRecDepth 100000
set_option maxHeartbeats 4000000
namespace Oil
open PySem PySem.Spec PyProof.Rows L2
open Si83 (Part Material less lowest)
/-! Material, Order, Offer: their beginnings -/
abbrev sIM : Stmt := inClass (top 15) 0
abbrev sIO : Stmt := inClass (top 16) 0
abbrev sIF : Stmt := inClass (top 17) 0
def offF (p s : Addr) (c : Nat) : List (Str × V) := [("formula", .ref p), ("share", .ref s), ("changed", .int (c : Int))]
theorem matF_new (q : Material) (p : Addr) : putF "most" (.int (q.most : Int)) (putF "wanted" (.int (q.wanted : Int)) (putF "parts" (.ref p) [])) = matF q p := by
  have e1 : putF ("parts" : Str) (.ref p) [] = ([("parts", .ref p)] : List (Str × V)) := rfl
  have e2 : putF ("wanted" : Str) (.int (q.wanted : Int)) ([("parts", .ref p)] : List (Str × V)) = ([("parts", .ref p), ("wanted", .int (q.wanted : Int))] : List (Str × V)) := (put_past (by decide +kernel)).trans rfl
  have e3 : putF ("most" : Str) (.int (q.most : Int)) ([("parts", .ref p), ("wanted", .int (q.wanted : Int))] : List (Str × V)) = matF q p := (put_past (by decide +kernel)).trans (congrArg _ ((put_past (by decide +kernel)).trans rfl))
  rw [e1, e2, e3]
theorem offF_new (p s : Addr) (c : Nat) : putF "changed" (.int (c : Int)) (putF "share" (.ref s) (putF "formula" (.ref p) [])) = offF p s c := by
  have e1 : putF ("formula" : Str) (.ref p) [] = ([("formula", .ref p)] : List (Str × V)) := rfl
  have e2 : putF ("share" : Str) (.ref s) ([("formula", .ref p)] : List (Str × V)) = ([("formula", .ref p), ("share", .ref s)] : List (Str × V)) := (put_past (by decide +kernel)).trans rfl
  have e3 : putF ("changed" : Str) (.int (c : Int)) ([("formula", .ref p), ("share", .ref s)] : List (Str × V)) = offF p s c := (put_past (by decide +kernel)).trans (congrArg _ ((put_past (by decide +kernel)).trans rfl))
  rw [e1, e2, e3]
theorem ordF_new (b m : Addr) : putF "materials" (.ref m) (putF "bounds" (.ref b) []) = ordF b m := by
  have e1 : putF ("bounds" : Str) (.ref b) [] = ([("bounds", .ref b)] : List (Str × V)) := rfl
  have e2 : putF ("materials" : Str) (.ref m) ([("bounds", .ref b)] : List (Str × V)) = ordF b m := (put_past (by decide +kernel)).trans rfl
  rw [e1, e2]
def spIM (CM : Addr) : Sp := fun vs H Q _ => ∃ (x dx p : Addr) (q : Material), vs = [.ref x, .ref p, .int (q.wanted : Int), .int (q.most : Int)] ∧ H x = some (.ins CM dx []) ∧
  ∀ H' : Hp, H' x = some (.ins CM dx (matF q p)) → But x H H' → Q .non H'
def spIO (CO : Addr) : Sp := fun vs H Q _ => ∃ (x dx : Addr), vs = [.ref x] ∧ H x = some (.ins CO dx []) ∧
  ∀ (H' : Hp) (b m : Addr), H' x = some (.ins CO dx (ordF b m)) → H' b = some (.lst (natsV [10000, 10000, 10000])) → H' m = some (.lst []) → H b = none → H m = none → b ≠ m → But x H H' → Q .non H'
def spIF (CF : Addr) : Sp := fun vs H Q _ => ∃ (x dx p s : Addr) (c : Nat), vs = [.ref x, .ref p, .ref s, .int (c : Int)] ∧ H x = some (.ins CF dx []) ∧
  ∀ H' : Hp, H' x = some (.ins CF dx (offF p s c)) → But x H H' → Q .non H'
theorem scIM : FnScope ["self", "parts", "wanted", "most"] ["self", "parts", "wanted", "most"] (defScope sIM) := ⟨rfl, rfl, rfl, by decide +kernel, rfl, by decide +kernel, by decide +kernel⟩
theorem scIO : FnScope ["self"] ["self"] (defScope sIO) := ⟨rfl, rfl, rfl, by decide +kernel, rfl, by decide +kernel, by decide +kernel⟩
theorem scIF : FnScope ["self", "formula", "share", "changed"] ["self", "formula", "share", "changed"] (defScope sIF) := ⟨rfl, rfl, rfl, by decide +kernel, rfl, by decide +kernel, by decide +kernel⟩
section
variable {P : Program} {w : World} {K : PySem.W.Frag} {mg : Str → Option Value} {base : Heap} {f : Addr} {fd : FuncData} {CM CO CF CR : Addr}
theorem ok_im (T : Txt K mg CM CO CF CR) (F : Fun K "__init__" "Material.__init__" sIM f fd) : FnOk P w K mg base CX0 1 f fd ["self", "parts", "wanted", "most"] (spIM CM) := by
  refine F.ok scIM (fun vs H Q E h => ?_) (fun cdv A outer s H vs Q E hr h => ⟨_,
    pss_cons (ps_fld (pv 0) (pv 1) rfl) (pss_cons (ps_fld (pv 0) (pv 2) rfl) (pss_one (ps_fld (pv 0) (pv 3) rfl))), ?_⟩)
  · obtain ⟨x, dx, p, q, rfl, _⟩ := h
    rfl
  · obtain ⟨x, dx, p, q, rfl, hx, k⟩ := h
    refine ⟨_, rfl, _, rfl, x, CM, dx, [], rfl, hx, T.cM, T.mP, (by show 0 < 1000; decide), ?_⟩
    refine ⟨_, rfl, _, rfl, x, CM, dx, _, rfl, upd_same, T.cM, T.mW, (by show 1 < 1000; decide), ?_⟩
    refine ⟨_, rfl, _, rfl, x, CM, dx, _, rfl, upd_same, T.cM, T.mO, (by show 2 < 1000; decide), ?_⟩
    refine k _ (Eq.trans upd_same (congrArg (fun z => some (HO.ins CM dx z)) ?_)) ((but_upd.trans but_upd).trans but_upd)
    exact matF_new q p
theorem ok_if (T : Txt K mg CM CO CF CR) (F : Fun K "__init__" "Offer.__init__" sIF f fd) : FnOk P w K mg base CX0 1 f fd ["self", "formula", "share", "changed"] (spIF CF) := by
  refine F.ok scIF (fun vs H Q E h => ?_) (fun cdv A outer s H vs Q E hr h => ⟨_,
    pss_cons (ps_fld (pv 0) (pv 1) rfl) (pss_cons (ps_fld (pv 0) (pv 2) rfl) (pss_one (ps_fld (pv 0) (pv 3) rfl))), ?_⟩)
  · obtain ⟨x, dx, p, s, c, rfl, _⟩ := h
    rfl
  · obtain ⟨x, dx, p, s, c, rfl, hx, k⟩ := h
    refine ⟨_, rfl, _, rfl, x, CF, dx, [], rfl, hx, T.cF, T.fF, (by show 0 < 1000; decide), ?_⟩
    refine ⟨_, rfl, _, rfl, x, CF, dx, _, rfl, upd_same, T.cF, T.fS, (by show 1 < 1000; decide), ?_⟩
    refine ⟨_, rfl, _, rfl, x, CF, dx, _, rfl, upd_same, T.cF, T.fC, (by show 2 < 1000; decide), ?_⟩
    refine k _ (Eq.trans upd_same (congrArg (fun z => some (HO.ins CF dx z)) ?_)) ((but_upd.trans but_upd).trans but_upd)
    exact offF_new p s c
theorem ok_io (T : Txt K mg CM CO CF CR) (F : Fun K "__init__" "Order.__init__" sIO f fd) : FnOk P w K mg base CX0 1 f fd ["self"] (spIO CO) := by
  refine F.ok scIO (fun vs H Q E h => ?_) (fun cdv A outer s H vs Q E hr h => ⟨_,
    pss_cons (ps_fld (pv 0) (pe_op op_rep (pe_lst (pa_cons (pe_const T.kBound rfl) pa_nil)) (pe_const T.kSub rfl)) rfl) (pss_one (ps_fld (pv 0) (pe_lst pa_nil) rfl)), ?_⟩)
  · obtain ⟨x, dx, rfl, _⟩ := h
    rfl
  · obtain ⟨x, dx, rfl, hx, k⟩ := h
    refine ⟨by show 1 ≤ sizeLine; decide, fun l hl => ?_⟩
    refine ⟨l, 3, _, rfl, rfl, upd_same, by decide, by decide, by show 1 * (3 : Int).toNat ≤ sizeLine; decide, fun b hb => ?_⟩
    have S1 : Same H (upd (upd H l (.lst [.int 10000])) b (.lst (List.replicate (3 : Int).toNat [.int 10000]).flatten)) := (same_upd hl).trans (same_upd hb)
    have hbH : H b = none := (same_upd hl).free hb
    refine ⟨_, rfl, x, CO, dx, [], rfl, S1 _ _ hx, T.cO, T.oB, (by show 0 < 1000; decide), ?_⟩
    refine ⟨by show 0 ≤ sizeLine; decide, fun m hm => ?_⟩
    have xb : b ≠ x := (ne_of_none hx hbH).symm
    have mx : m ≠ x := fun z => by
      rw [z, upd_same] at hm
      cases hm
    have mb : m ≠ b := fun z => by
      rw [z, upd_ne xb, upd_same] at hm
      cases hm
    have hmH : H m = none := by
      rw [upd_ne mx] at hm
      exact S1.free hm
    refine ⟨_, rfl, x, CO, dx, _, rfl, (upd_ne mx.symm).trans upd_same, T.cO, T.oM, (by show 1 < 1000; decide), ?_⟩
    refine k _ b m (Eq.trans upd_same (congrArg (fun z => some (HO.ins CO dx z)) ?_)) ?_ ?_ hbH hmH mb.symm ?_
    · exact ordF_new b m
    · rw [upd_ne xb, upd_ne mb.symm, upd_ne xb, upd_same]
      rfl
    · rw [upd_ne mx, upd_same]
    · intro c u hc n
      rw [upd_ne n, upd_ne (ne_of_none hc hmH), upd_ne n]
      exact S1 _ _ hc
end
end Oil
set_option maxRecDepth 100000
set_option maxHeartbeats 4000000
namespace Oil
open PySem PySem.Spec PyProof.Rows L2
open Si83 (Part Material less lowest)
abbrev sOff : Stmt := top 28
structure OffIn (CF : Addr) (H : Hp) (x dx p s : Addr) (q : Off) : Prop where
  ob : H x = some (.ins CF dx (offF p s q.c))
  row : H p = some (.lst (natsV q.row))
  sh : H s = some (.tup (partV q.s))
def OffAt (CF : Addr) (H : Hp) (x : Addr) (q : Off) : Prop := ∃ dx p s, OffIn CF H x dx p s q
theorem OffAt.same {CF : Addr} {H H' : Hp} {x : Addr} {q : Off} (O : OffAt CF H x q) (S : Same H H') : OffAt CF H' x q := by
  obtain ⟨dx, p, s, O⟩ := O
  exact ⟨dx, p, s, S _ _ O.ob, S _ _ O.row, S _ _ O.sh⟩
theorem offF_f (p s : Addr) (c : Nat) : (offF p s c).lookup ("formula" : Str) = some (.ref p) := lk_here
theorem offF_s (p s : Addr) (c : Nat) : (offF p s c).lookup ("share" : Str) = some (.ref s) := (lk_past (by decide +kernel)).trans lk_here
theorem offF_c (p s : Addr) (c : Nat) : (offF p s c).lookup ("changed" : Str) = some (.int (c : Int)) := (lk_past (by decide +kernel)).trans ((lk_past (by decide +kernel)).trans lk_here)
def spOff (CM CO CF : Addr) : Sp := fun vs H Q _ => ∃ (a p : Addr) (o : Si83.Order) (l : List Nat), vs = [.ref a, .ref p] ∧ RdO CM CO H a o ∧ H p = some (.lst (natsV l)) ∧ OrdOk o ∧ RowOk o l ∧
  ∀ (H' : Hp) (x dx s : Addr), Same H H' → OffIn CF H' x dx p s (offOf o l) → H x = none → Q (.ref x) H'
theorem scOff : FnScope ["order", "formula"] ["order", "formula"] (defScope sOff) := ⟨rfl, rfl, rfl, by decide +kernel, rfl, by decide +kernel, by decide +kernel⟩
section
variable {P : Program} {w : World} {K : PySem.W.Frag} {mg : Str → Option Value} {base : Heap} {f fS fC : Addr} {fd : FuncData} {CM CO CF CR : Addr}
theorem ok_off (F : Fun K "offer_of" "offer_of" sOff f fd) (M : Maker P w K mg base 1 "Offer" CF ["self", "formula", "share", "changed"] (spIF CF))
    (DS : Def P w K mg base 3 "share_of" fS ["order", "formula"] (spShr CM CO)) (DC : Def P w K mg base 1 "changed_by" fC ["order", "formula"] (spChg CM CO)) :
    FnOk P w K mg base CX0 4 f fd ["order", "formula"] (spOff CM CO CF) := by
  refine F.ok scOff (fun vs H Q E h => ?_) (fun cdv A outer s H vs Q E hr h => ⟨_,
    pss_one (ps_ret (pe_makeD M (hr.mono (by decide)) rfl (pa_cons (pv 1) (pa_cons (pe_callD DS hr rfl (pa_cons (pv 0) (pa_cons (pv 1) pa_nil))) (pa_cons (pe_callD DC (hr.mono (by decide)) rfl (pa_cons (pv 0) (pa_cons (pv 1) pa_nil))) pa_nil))))), ?_⟩)
  · obtain ⟨a, p, o, l, rfl, _⟩ := h
    rfl
  · obtain ⟨a, p, o, l, rfl, O, hp, Ok, R, q⟩ := h
    refine ⟨_, rfl, _, rfl, _, rfl, a, p, o, l, rfl, O, hp, Ok, R, fun H1 s1 S1 hs => ?_⟩
    refine ⟨_, rfl, _, rfl, a, p, o, l, rfl, O.same S1, S1 _ _ hp, Ok, R, fun H2 S2 => ?_⟩
    intro x dx nx nd ne
    refine ⟨x, dx, p, s1, o.changed l, rfl, upd_same, fun H3 h3 B => ⟨rfl, ?_⟩⟩
    have S3 : Same H2 H3 := Same.made nx nd B
    have S12 := S1.trans S2
    exact q H3 x dx s1 (S12.trans S3) ⟨h3, S3 _ _ (S12 _ _ hp), S3 _ _ (S2 _ _ hs)⟩ (S12.free nx)
end
end Oil
set_option maxRecDepth 100000
set_option maxHeartbeats 4000000
namespace Oil
open PySem PySem.Spec PyProof.Rows L2
open Si83 (Part Material less lowest)
abbrev sBs : Stmt := top 29
abbrev sBn : Stmt := top 30
def spBet (CF : Addr) (lt : Off → Off → Bool) : Sp := fun vs H Q _ => ∃ (x y : Addr) (q r : Off), vs = [.ref x, .ref y] ∧ OffAt CF H x q ∧ OffAt CF H y r ∧ q.s.n ≤ 240000 ∧ r.s.n ≤ 240000 ∧ Q (.bl (lt q r)) H
theorem scBs : FnScope ["offer", "other", "gain"] ["offer", "other"] (defScope sBs) := ⟨rfl, rfl, rfl, by decide +kernel, rfl, by decide +kernel, by decide +kernel⟩
theorem scBn : FnScope ["offer", "other"] ["offer", "other"] (defScope sBn) := ⟨rfl, rfl, rfl, by decide +kernel, rfl, by decide +kernel, by decide +kernel⟩
theorem dec_int {i j : Int} : decide (V.int i = V.int j) = decide (i = j) := decide_eq_decide.mpr ⟨fun z => by injection z, fun z => by rw [z]⟩
section
variable {P : Program} {w : World} {K : PySem.W.Frag} {mg : Str → Option Value} {base : Heap} {f fS : Addr} {fd : FuncData} {CM CO CF CR : Addr}
theorem ok_bs (T : Txt K mg CM CO CF CR) (F : Fun K "better_as_strongest" "better_as_strongest" sBs f fd) (DS : Def P w K mg base 1 "stronger_by" fS ["share", "other"] spStr) :
    FnOk P w K mg base CX0 2 f fd ["offer", "other"] (spBet CF ltS) := by
  refine F.ok scBs (fun vs H Q E h => ?_) (fun cdv A outer s H vs Q E hr h => ⟨_,
    pss_cons (ps_set (i := 2) scBs.nd rfl (Or.inl rfl) (pe_callD DS hr rfl (pa_cons (pe_fld (pv 0) rfl) (pa_cons (pe_fld (pv 1) rfl) pa_nil))))
    (pss_one (ps_ret (pe_or (pe_cmpR op_gt (pv 2) pe_int (nomark _)) (pe_one (pe_and (pe_cmpR op_eq (pv 2) pe_int (nomark _)) (pe_one (pe_cmpR op_lt (pe_fld (pv 0) rfl) (pe_fld (pv 1) rfl) (nomark _)))))))), ?_⟩)
  · obtain ⟨x, y, q, r, rfl, _⟩ := h
    rfl
  · obtain ⟨x, y, q, r, rfl, ⟨dx, px, sx, X1⟩, ⟨dy, py, sy, Y1⟩, bx, bY, k⟩ := h
    refine ⟨_, rfl, x, CF, dx, _, _, rfl, X1.ob, T.cF, T.fS, offF_s _ _ _, _, rfl, y, CF, dy, _, _, rfl, Y1.ob, T.cF, T.fS, offF_s _ _ _, ?_⟩
    refine ⟨sx, sy, q.s, r.s, rfl, X1.sh, Y1.sh, bx, bY, ?_⟩
    refine ⟨_, rfl, _, _, rfl, rfl, _, rfl, ?_⟩
    have e0 : ltS q r = (decide (0 < cross q.s r.s) || (decide (cross q.s r.s = 0) && decide (q.c < r.c))) := rfl
    by_cases c1 : 0 < cross q.s r.s
    · have e : decide ((0 : Int) < cross q.s r.s) = true := decide_eq_true c1
      rw [e] at e0 ⊢
      rw [e0] at k
      exact iteT k
    · have e : decide ((0 : Int) < cross q.s r.s) = false := decide_eq_false c1
      rw [e] at e0 ⊢
      rw [e0] at k
      refine iteF ?_
      refine ⟨_, rfl, rfl, _, rfl, ?_⟩
      rw [dec_int]
      by_cases c2 : cross q.s r.s = 0
      · have e2 : decide (cross q.s r.s = 0) = true := decide_eq_true c2
        rw [e2] at k ⊢
        refine iteT ?_
        refine ⟨_, rfl, x, CF, dx, _, _, rfl, X1.ob, T.cF, T.fC, offF_c _ _ _, _, rfl, y, CF, dy, _, _, rfl, Y1.ob, T.cF, T.fC, offF_c _ _ _, _, _, rfl, rfl, ?_⟩
        have e3 : decide ((q.c : Int) < (r.c : Int)) = decide (q.c < r.c) := decide_eq_decide.mpr ⟨fun z => by omega, fun z => by omega⟩
        rw [← e3] at k
        exact k
      · have e2 : decide (cross q.s r.s = 0) = false := decide_eq_false c2
        rw [e2] at k ⊢
        exact iteF k
theorem ok_bn (T : Txt K mg CM CO CF CR) (F : Fun K "better_as_nearest" "better_as_nearest" sBn f fd) (DS : Def P w K mg base 1 "stronger_by" fS ["share", "other"] spStr) :
    FnOk P w K mg base CX0 2 f fd ["offer", "other"] (spBet CF ltN) := by
  refine F.ok scBn (fun vs H Q E h => ?_) (fun cdv A outer s H vs Q E hr h => ⟨_,
    pss_cons (ps_if (pt_cmpR op_eq (pe_fld (pv 0) rfl) (pe_fld (pv 1) rfl) (nomark _))
      (pss_one (ps_ret (pe_cmpR op_gt (pe_callD DS hr rfl (pa_cons (pe_fld (pv 0) rfl) (pa_cons (pe_fld (pv 1) rfl) pa_nil))) pe_int (nomark _)))) pss_nil)
    (pss_one (ps_ret (pe_cmpR op_lt (pe_fld (pv 0) rfl) (pe_fld (pv 1) rfl) (nomark _)))), ?_⟩)
  · obtain ⟨x, y, q, r, rfl, _⟩ := h
    rfl
  · obtain ⟨x, y, q, r, rfl, ⟨dx, px, sx, X1⟩, ⟨dy, py, sy, Y1⟩, bx, bY, k⟩ := h
    refine ⟨_, rfl, x, CF, dx, _, _, rfl, X1.ob, T.cF, T.fC, offF_c _ _ _, _, rfl, y, CF, dy, _, _, rfl, Y1.ob, T.cF, T.fC, offF_c _ _ _, rfl, _, rfl, ?_⟩
    rw [dec_int]
    have e0 : ltN q r = if q.c = r.c then decide (0 < cross q.s r.s) else decide (q.c < r.c) := rfl
    by_cases c1 : q.c = r.c
    · rw [if_pos c1] at e0
      rw [e0] at k
      have e : decide ((q.c : Int) = (r.c : Int)) = true := decide_eq_true (by omega)
      rw [e]
      refine iteT ?_
      refine ⟨_, rfl, x, CF, dx, _, _, rfl, X1.ob, T.cF, T.fS, offF_s _ _ _, _, rfl, y, CF, dy, _, _, rfl, Y1.ob, T.cF, T.fS, offF_s _ _ _, ?_⟩
      exact ⟨sx, sy, q.s, r.s, rfl, X1.sh, Y1.sh, bx, bY, _, _, rfl, rfl, k⟩
    · rw [if_neg c1] at e0
      rw [e0] at k
      have e : decide ((q.c : Int) = (r.c : Int)) = false := decide_eq_false (by omega)
      rw [e]
      refine iteF ?_
      refine ⟨_, rfl, x, CF, dx, _, _, rfl, X1.ob, T.cF, T.fC, offF_c _ _ _, _, rfl, y, CF, dy, _, _, rfl, Y1.ob, T.cF, T.fC, offF_c _ _ _, _, _, rfl, rfl, ?_⟩
      have e3 : decide ((q.c : Int) < (r.c : Int)) = decide (q.c < r.c) := decide_eq_decide.mpr ⟨fun z => by omega, fun z => by omega⟩
      rw [← e3] at k
      exact k
end
end Oil
set_option maxRecDepth 100000
set_option maxHeartbeats 4000000
namespace Oil
open PySem PySem.Spec PyProof.Rows L2
open Si83 (Part Material less lowest)
abbrev sBest : Stmt := top 31
abbrev nBest : List Str := ["offers", "better", "best", "as_good", "offer"]
structure OffsAt (CF : Addr) (H : Hp) (ps : List Addr) (qs : List Off) : Prop where
  len : ps.length = qs.length
  each : ∀ (i : Nat) (p : Addr) (q : Off), ps[i]? = some p → qs[i]? = some q → OffAt CF H p q
theorem OffsAt.same {CF : Addr} {H H' : Hp} {ps : List Addr} {qs : List Off} (O : OffsAt CF H ps qs) (S : Same H H') : OffsAt CF H' ps qs := ⟨O.len, fun i p q h1 h2 => (O.each i p q h1 h2).same S⟩
structure OffOk (q : Off) : Prop where
  n : q.s.n ≤ 240000
  row : q.row.length ≤ 4
/-- what the loop's slots hold of the best so far -/
def BestAt (CF : Addr) (H : Hp) : BSt → V → Int → Prop
  | none, v, n => v = .non ∧ n = 0
  | some (q, m), v, n => ∃ x, v = .ref x ∧ OffAt CF H x q ∧ n = (m : Int) ∧ OffOk q
theorem BestAt.same {CF : Addr} {H H' : Hp} {b : BSt} {v : V} {n : Int} (B : BestAt CF H b v n) (S : Same H H') : BestAt CF H' b v n := by
  cases b with
  | none => exact B
  | some b =>
    obtain ⟨x, e, A, en, ok⟩ := B
    exact ⟨x, e, A.same S, en, ok⟩
def spBest (CF : Addr) (fB : Addr) (lt : Off → Off → Bool) : Sp := fun vs H Q _ => ∃ (a : Addr) (ps : List Addr) (qs : List Off), vs = [.ref a, .ref fB] ∧ H a = some (.lst (ps.map V.ref)) ∧ OffsAt CF H ps qs ∧ (∀ q ∈ qs, OffOk q) ∧
  ∀ (H' : Hp) (p : Addr), Same H H' → H' p = some (.lst (intsV (bestTold (best lt qs)))) → H p = none → Q (.ref p) H'
theorem scBest : FnScope nBest ["offers", "better"] (defScope sBest) := ⟨rfl, rfl, rfl, by decide +kernel, rfl, by decide +kernel, by decide +kernel⟩
section
variable {P : Program} {w : World} {K : PySem.W.Frag} {mg : Str → Option Value} {base : Heap} {f fB : Addr} {fd : FuncData} {CM CO CF CR : Addr} {xB : Str} {lt : Off → Off → Bool}
theorem ok_best (T : Txt K mg CM CO CF CR) (F : Fun K "best_answer" "best_answer" sBest f fd) (DB : Def P w K mg base 2 xB fB ["offer", "other"] (spBet CF lt)) :
    FnOk P w K mg base CX0 3 f fd ["offers", "better"] (spBest CF fB lt) := by
  obtain ⟨fdB, FB, bB, kB⟩ := DB.ex
  refine F.ok scBest (fun vs H Q E h => ?_) (fun cdv A outer s H vs Q E hr h => ⟨_,
    pss_cons (ps_set (i := 2) scBest.nd rfl (Or.inl rfl) pe_non)
    (pss_cons (ps_set (i := 3) scBest.nd rfl (Or.inl rfl) pe_int)
    (pss_cons (ps_for PassesOwn.never rfl (pi_list (pv 0)) (pg_name (i := 4) scBest.nd rfl (Or.inl rfl))
      (pss_one (ps_if (PW.pt (pw_or (pt_cmpR op_isN (pv 2) pe_non (nomark _)) (pw_or1 (pt_val (pe_callL (i := 1) FB hr rfl (Or.inl rfl) kB bB .nil pass0 (pa_cons (pv 4) (pa_cons (pv 2) pa_nil)))))))
        (pss_cons (ps_set (i := 2) scBest.nd rfl (Or.inl rfl) (pv 4)) (pss_one (ps_set (i := 3) scBest.nd rfl (Or.inl rfl) pe_int)))
        (pss_one (ps_if (pt_not (pt_val (pe_callL (i := 1) FB hr rfl (Or.inl rfl) kB bB .nil pass0 (pa_cons (pv 2) (pa_cons (pv 4) pa_nil)))))
          (pss_one (ps_set (i := 3) scBest.nd rfl (Or.inl rfl) (pe_op op_add (pv 3) pe_int))) pss_nil)))))
    (pss_cons (ps_if (pt_cmpR op_isN (pv 2) pe_non (nomark _)) (pss_one (ps_ret (pe_lst (pa_cons (pe_const T.kForm rfl) pa_nil)))) pss_nil)
    (pss_one (ps_ret (pe_op op_cat (pe_lst (pa_cons pe_int (pa_cons (pe_ix ix_tup (pe_fld (pv 2) rfl) pe_int (fun _ _ => rfl)) (pa_cons (pe_ix ix_tup (pe_fld (pv 2) rfl) pe_int (fun _ _ => rfl)) (pa_cons (pe_fld (pv 2) rfl) (pa_cons (pv 3) pa_nil)))))) (pe_fld (pv 2) rfl))))))), ?_⟩)
  · obtain ⟨a, ps, qs, rfl, _⟩ := h
    rfl
  · obtain ⟨a, ps, qs, rfl, ha, O, ok, k⟩ := h
    refine ⟨_, rfl, a, rfl, ⟨_, SqL.of ha⟩, ?_⟩
    refine for_it (walk_list (xs := ps.map V.ref)) (fun i σ H' => H' = H ∧ ∃ (v : V) (n : Int) (v4 : Option V), σ = [some (.ref a), some (.ref fB), some v, some (.int n), v4] ∧ BestAt CF H (best lt (qs.take i)) v n)
      ⟨rfl, .non, 0, none, rfl, rfl, rfl⟩ (fun i σ H' _ z => by rw [z.1]; exact SqL.of ha) ?_ ?_
    · rintro i x σ H1 H1' hi ⟨rfl, v, n, v4, rfl, B⟩ ⟨rfl, hx⟩
      obtain ⟨x4, e4, rfl⟩ := refs_of hx
      rw [List.length_map, O.len] at hi
      obtain ⟨q, eq⟩ := get_some hi
      have X4 := O.each i x4 q e4 eq
      have okq := ok q (List.mem_of_getElem? eq)
      rw [best_more eq]
      generalize best lt (qs.take i) = b at B
      cases b with
      | none =>
        obtain ⟨rfl, rfl⟩ := B
        refine ⟨_, rfl, rfl, _, rfl, ?_⟩
        refine iteT ?_
        exact iteT ⟨_, rfl, rfl, _, _, _, rfl, x4, rfl, X4, rfl, okq⟩
      | some b =>
        obtain ⟨r, m⟩ := b
        obtain ⟨xb, rfl, Xb, rfl, okr⟩ := B
        refine ⟨_, rfl, rfl, _, rfl, ?_⟩
        refine iteF ?_
        refine ⟨rfl, _, rfl, _, rfl, x4, xb, q, r, rfl, X4, Xb, okq.n, okr.n, _, rfl, ?_⟩
        by_cases c1 : lt q r = true
        · have eb : bestTurn lt (some (r, m)) q = some (q, 1) := if_pos c1
          rw [c1, eb]
          exact iteT ⟨_, rfl, rfl, _, _, _, rfl, x4, rfl, X4, rfl, okq⟩
        · have c1' : lt q r = false := Bool.eq_false_iff.mpr c1
          rw [c1']
          refine iteF ?_
          refine ⟨rfl, _, rfl, _, rfl, xb, x4, r, q, rfl, Xb, X4, okr.n, okq.n, _, rfl, ?_⟩
          by_cases c2 : lt r q = true
          · have eb : bestTurn lt (some (r, m)) q = some (r, m) := (if_neg c1).trans (if_pos c2)
            rw [c2, eb]
            exact iteF ⟨rfl, _, _, _, rfl, xb, rfl, Xb, rfl, okr⟩
          · have eb : bestTurn lt (some (r, m)) q = some (r, m + 1) := (if_neg c1).trans (if_neg c2)
            rw [Bool.eq_false_iff.mpr c2, eb]
            refine iteT ⟨_, rfl, _, _, rfl, rfl, rfl, _, _, _, rfl, xb, rfl, Xb, ?_, okr⟩
            omega
    · rintro σ H1 ⟨rfl, v, n, v4, rfl, B⟩
      have et : qs.take (ps.map V.ref).length = qs := List.take_of_length_le (by rw [List.length_map, O.len]; exact Nat.le_refl _)
      rw [et] at B
      generalize hb : best lt qs = b at B k
      cases b with
      | none =>
        obtain ⟨rfl, rfl⟩ := B
        refine ⟨_, rfl, rfl, _, rfl, ?_⟩
        refine iteT ⟨by show 1 ≤ sizeLine; decide, fun p hp => ?_⟩
        exact k _ p (same_upd hp) upd_same hp
      | some b =>
        obtain ⟨r, m⟩ := b
        obtain ⟨xb, rfl, ⟨dx, p, s1, X⟩, rfl, okr⟩ := B
        refine ⟨_, rfl, rfl, _, rfl, ?_⟩
        refine iteF ?_
        refine ⟨_, rfl, xb, CF, dx, _, _, rfl, X.ob, T.cF, T.fS, offF_s _ _ _, s1, _, _, _, rfl, rfl, SqT.of X.sh, part0 r.s, ?_⟩
        refine ⟨_, rfl, xb, CF, dx, _, _, rfl, X.ob, T.cF, T.fS, offF_s _ _ _, s1, _, _, _, rfl, rfl, SqT.of X.sh, part1 r.s, ?_⟩
        refine ⟨_, rfl, xb, CF, dx, _, _, rfl, X.ob, T.cF, T.fC, offF_c _ _ _, _, rfl, by show 5 ≤ sizeLine; decide, fun l hl => ?_⟩
        have Sl : Same H1 (upd H1 l (.lst [.int 0, .int (r.s.n : Int), .int (r.s.d : Int), .int (r.c : Int), .int (m : Int)])) := same_upd hl
        refine ⟨_, rfl, xb, CF, dx, _, _, rfl, Sl _ _ X.ob, T.cF, T.fF, offF_f _ _ _, l, p, _, _, rfl, rfl, upd_same, Sl _ _ X.row, ?_, fun u hu => ?_⟩
        · rw [natsV_len]
          have := okr.row
          show 5 + r.row.length ≤ sizeLine
          have := small_line (n := 5 + r.row.length) (by omega)
          omega
        · refine k _ u (Sl.trans (same_upd hu)) ?_ (Sl.free hu)
          rw [upd_same, natsV_ints]
          rfl
end
end Oil
set_option maxRecDepth 100000
set_option maxHeartbeats 4000000
namespace Oil
open PySem PySem.Spec PyProof.Rows L2
open Si83 (Part Material less lowest)
abbrev sSt : Stmt := top 35
abbrev nSt : List Str := ["order", "drops", "formulas", "formula"]
/-- offers at addresses, their formulas at none that is D -/
structure OffsIn (CF D : Addr) (H : Hp) (xs : List Addr) (qs : List Off) : Prop where
  len : xs.length = qs.length
  each : ∀ (i : Nat) (x : Addr) (q : Off), xs[i]? = some x → qs[i]? = some q → ∃ dx p s, OffIn CF H x dx p s q ∧ p ≠ D
theorem OffIn.same {CF : Addr} {H H' : Hp} {x dx p s : Addr} {q : Off} (O : OffIn CF H x dx p s q) (S : Same H H') : OffIn CF H' x dx p s q := ⟨S _ _ O.ob, S _ _ O.row, S _ _ O.sh⟩
theorem OffsIn.same {CF D : Addr} {H H' : Hp} {xs : List Addr} {qs : List Off} (O : OffsIn CF D H xs qs) (S : Same H H') : OffsIn CF D H' xs qs :=
  ⟨O.len, fun i x q h1 h2 => by
    obtain ⟨dx, p, s, X, n⟩ := O.each i x q h1 h2
    exact ⟨dx, p, s, X.same S, n⟩⟩
theorem OffsIn.put {CF D : Addr} {H : Hp} {xs : List Addr} {qs : List Off} {ys zs : List V} (O : OffsIn CF D H xs qs) (hD : H D = some (.lst ys)) : OffsIn CF D (upd H D (.lst zs)) xs qs :=
  ⟨O.len, fun i x q h1 h2 => by
    obtain ⟨dx, p, s, X, n⟩ := O.each i x q h1 h2
    refine ⟨dx, p, s, ⟨?_, ?_, ?_⟩, n⟩
    · rw [upd_ne (ne_of X.ob hD (by intro z; cases z))]
      exact X.ob
    · rw [upd_ne n]
      exact X.row
    · rw [upd_ne (ne_of X.sh hD (by intro z; cases z))]
      exact X.sh⟩
theorem OffsIn.nil {CF D : Addr} {H : Hp} : OffsIn CF D H [] [] := ⟨rfl, fun i x q h => by simp at h⟩
theorem OffsIn.snoc {CF D : Addr} {H : Hp} {xs : List Addr} {qs : List Off} {x dx p s : Addr} {q : Off} (O : OffsIn CF D H xs qs) (X : OffIn CF H x dx p s q) (n : p ≠ D) : OffsIn CF D H (xs ++ [x]) (qs ++ [q]) := by
  refine ⟨by rw [List.length_append, List.length_append, O.len]; rfl, fun i y r h1 h2 => ?_⟩
  by_cases c : i < xs.length
  · rw [List.getElem?_append_left c] at h1
    rw [List.getElem?_append_left (by rw [← O.len]; exact c)] at h2
    exact O.each i y r h1 h2
  · have c1 : xs.length ≤ i := Nat.not_lt.mp c
    rw [List.getElem?_append_right c1] at h1
    rw [List.getElem?_append_right (by rw [← O.len]; exact c1), ← O.len] at h2
    have ei : i - xs.length = 0 := by
      have := (List.getElem?_eq_some_iff.mp h1).1
      simp only [List.length_singleton] at this
      omega
    rw [ei] at h1 h2
    have e1 : x = y := Option.some.inj h1
    have e2 : q = r := Option.some.inj h2
    rw [← e1, ← e2]
    exact ⟨dx, p, s, X, n⟩
theorem OffsIn.offs {CF D : Addr} {H : Hp} {xs : List Addr} {qs : List Off} (O : OffsIn CF D H xs qs) : OffsAt CF H xs qs :=
  ⟨O.len, fun i x q h1 h2 => by
    obtain ⟨dx, p, s, X, _⟩ := O.each i x q h1 h2
    exact ⟨dx, p, s, X⟩⟩
theorem take_snoc {α : Type} {l : List α} {i : Nat} {g : α} (h : l[i]? = some g) : l.take (i + 1) = l.take i ++ [g] := by
  rw [List.take_add_one, h]
  rfl
theorem offOk {o : Si83.Order} (Ok : OrdOk o) {l : List Nat} (h : l ∈ o.formulas) : OffOk (offOf o l) := by
  have R := formulas_ok Ok h
  refine ⟨(strong_fit Ok R).n, ?_⟩
  show l.length ≤ 4
  rw [R.len]
  exact Ok.cnt
def spSt (CM CO : Addr) : Sp := fun vs H Q _ => ∃ (a : Addr) (o : Si83.Order) (c : Nat), vs = [.ref a, .int (c : Int)] ∧ RdO CM CO H a o ∧ OrdOk o ∧
  ∀ (H' : Hp) (p : Addr), Same H H' → H' p = some (.lst (intsV (bestTold (best ltS ((upTo o c).map (offOf o)))))) → H p = none → Q (.ref p) H'
theorem scSt : FnScope nSt ["order", "drops"] (defScope sSt) := ⟨rfl, rfl, rfl, by decide +kernel, rfl, by decide +kernel, by decide +kernel⟩
section
variable {P : Program} {w : World} {K : PySem.W.Frag} {mg : Str → Option Value} {base : Heap} {f fC fA fO fB fW : Addr} {fd : FuncData} {CM CO CF CR : Addr}
theorem ok_st (F : Fun K "strongest" "strongest" sSt f fd) (DC : Def P w K mg base 1 "changed_by" fC ["order", "formula"] (spChg CM CO)) (DA : Def P w K mg base 1 "formulas_that_may_be" fA ["order"] (spFor CM CO))
    (DO : Def P w K mg base 4 "offer_of" fO ["order", "formula"] (spOff CM CO CF)) (DW : Def P w K mg base 2 "better_as_strongest" fW ["offer", "other"] (spBet CF ltS)) (DB : Def P w K mg base 3 "best_answer" fB ["offers", "better"] (spBest CF fW ltS)) :
    FnOk P w K mg base CX0 5 f fd ["order", "drops"] (spSt CM CO) := by
  refine F.ok scSt (fun vs H Q E h => ?_) (fun cdv A outer s H vs Q E hr h => ⟨_,
    pss_cons (ps_setLc (i := 2) (own := [("formula", 3)]) (g := gName 3) (tt := tTest (tOp (rI0 fun i j => .bl (decide (i ≤ j))) (tCall (spChg CM CO) [] E0 (tCons (tVar 0) (tCons (tVar 3) tNil))) (tVar 1))) (te := tVar 3) rfl scSt.nd rfl rfl (sw_true rfl rfl rfl (by decide +kernel))
      (pi_list (pe_callD DA (hr.mono (by decide)) rfl (pa_cons (pv 0) pa_nil)))
      (blkOk_by (N := nSt) (sc := defScope sSt) (by decide +kernel))
      (fun _ _ _ _ _ => by exact pg_name (i := 3) scSt.nd rfl (Or.inl rfl))
      (fun _ _ _ _ _ => by exact pts_one (pt_cmpR op_le (pe_callD DC (hr.mono (by decide)) rfl (pa_cons (pv 0) (pa_cons (pv 3) pa_nil))) (pv 1) (nomark _)))
      (fun _ _ _ _ _ => by exact pv 3))
    (pss_one (ps_ret (pe_callD DB (hr.mono (by decide)) rfl (pa_cons
      (pe_lc (own := [("formula", 3)]) (g := gName 3) (tt := tYes) (te := tCall (spOff CM CO CF) [] E0 (tCons (tVar 0) (tCons (tVar 3) tNil))) rfl scSt.nd (pi_list (pv 2))
        (blkOk_by (N := nSt) (sc := defScope sSt) (by decide +kernel))
        (fun _ _ _ _ _ => by exact pg_name (i := 3) scSt.nd rfl (Or.inl rfl))
        (fun _ _ _ _ _ => by exact pts_nil)
        (fun _ _ _ _ _ => by exact pe_callD DO hr rfl (pa_cons (pv 0) (pa_cons (pv 3) pa_nil))))
      (pa_cons (pe_glob (v := .ref fW) rfl DW.g rfl) pa_nil))))), ?_⟩)
  · obtain ⟨a, o, c, rfl, _⟩ := h
    rfl
  · obtain ⟨a, o, c, rfl, O, Ok, k⟩ := h
    refine ⟨_, rfl, a, o, rfl, O, Ok, fun H1 F0 ps S1 hF A1 => ?_⟩
    refine ⟨F0, rfl, ⟨_, SqL.of hF⟩, fun D hD => ?_⟩
    refine lc_it (walk_list (xs := ps.map V.ref)) (fun i H2 => Same H1 H2 ∧ ∃ rs : List Addr, H2 D = some (.lst (rs.map V.ref)) ∧ ListsAt H2 D rs ((o.formulas.take i).filter fun l => decide (o.changed l ≤ c)))
      ⟨same_upd hD, [], upd_same, ListsAt.nil⟩ (fun i H2 _ z => SqL.of (z.1 _ _ hF)) ?_ ?_
    · rintro i x H2 H2' hi ⟨S2, rs, hD2, B⟩ ⟨rfl, hx⟩
      obtain ⟨pi, ei, rfl⟩ := refs_of hx
      rw [List.length_map, A1.len] at hi
      obtain ⟨g, eg⟩ := get_some hi
      obtain ⟨hpi, _⟩ := A1.each i pi g ei eg
      have R := formulas_ok Ok (List.mem_of_getElem? eg)
      have pD : pi ≠ D := ne_of_none hpi hD
      refine ⟨rfl, _, rfl, _, rfl, a, pi, o, g, rfl, O.same (S1.trans S2), S2 _ _ hpi, Ok, R, fun H3 S3 => ?_⟩
      refine ⟨_, rfl, _, _, rfl, rfl, _, rfl, ?_⟩
      rw [take_snoc eg, List.filter_append]
      by_cases c1 : o.changed g ≤ c
      · have ec : decide (((o.changed g : Nat) : Int) ≤ (c : Int)) = true := decide_eq_true (by omega)
        rw [ec]
        have ef : [g].filter (fun l => decide (o.changed l ≤ c)) = [g] := List.filter_cons_of_pos (decide_eq_true c1)
        rw [ef]
        refine iteT ⟨_, rfl, _, S3 _ _ hD2, ?_, same_put (S2.trans S3) hD, rs ++ [pi], ?_, ?_⟩
        · rw [List.length_map, B.len]
          have h1 := List.length_filter_le (fun l : List Nat => decide (o.changed l ≤ c)) (o.formulas.take i)
          rw [List.length_take] at h1
          have h2 := formulas_len Ok
          exact small_line (by omega)
        · rw [upd_same, List.map_append]
          rfl
        · exact (B.same S3).put.snoc (by rw [upd_ne pD]; exact S3 _ _ (S2 _ _ hpi)) pD
      · have ec : decide (((o.changed g : Nat) : Int) ≤ (c : Int)) = false := decide_eq_false (by omega)
        rw [ec]
        have ef : [g].filter (fun l => decide (o.changed l ≤ c)) = [] := List.filter_cons_of_neg (fun z => c1 (of_decide_eq_true z))
        rw [ef, List.append_nil]
        exact iteF ⟨S2.trans S3, rs, S3 _ _ hD2, B.same S3⟩
    · rintro H2 ⟨S2, rs, hD2, B⟩
      rw [List.length_map, A1.len, List.take_length] at B
      have B' : ListsAt H2 D rs (upTo o c) := B
      have S12 := S1.trans S2
      refine ⟨_, rfl, D, rfl, ⟨_, SqL.of hD2⟩, fun D2 hD2n => ?_⟩
      refine lc_it (walk_list (xs := rs.map V.ref)) (fun i H3 => Same H2 H3 ∧ ∃ xs : List Addr, H3 D2 = some (.lst (xs.map V.ref)) ∧ OffsIn CF D2 H3 xs (((upTo o c).take i).map (offOf o)))
        ⟨same_upd hD2n, [], upd_same, OffsIn.nil⟩ (fun i H3 _ z => SqL.of (z.1 _ _ hD2)) ?_ ?_
      · rintro i x H3 H3' hi ⟨S3, xs, hD3, B3⟩ ⟨rfl, hx⟩
        obtain ⟨pi, ei, rfl⟩ := refs_of hx
        rw [List.length_map, B'.len] at hi
        obtain ⟨g, eg⟩ := get_some hi
        obtain ⟨hpi, _⟩ := B'.each i pi g ei eg
        have R := formulas_ok Ok (List.mem_filter.mp (List.mem_of_getElem? eg)).1
        have pD : pi ≠ D2 := ne_of_none hpi hD2n
        refine ⟨rfl, ?_⟩
        refine yesT ?_
        refine ⟨_, rfl, _, rfl, a, pi, o, g, rfl, O.same (S12.trans S3), S3 _ _ hpi, Ok, R, fun H4 x4 dx4 s4 S4 X4 n4 => ?_⟩
        refine ⟨_, S4 _ _ hD3, ?_, same_put (S3.trans S4) hD2n, xs ++ [x4], ?_, ?_⟩
        · rw [List.length_map, B3.len, List.length_map, List.length_take]
          have h1 := List.length_filter_le (fun l : List Nat => decide (o.changed l ≤ c)) o.formulas
          have h2 := formulas_len Ok
          have h3 : (upTo o c).length ≤ o.formulas.length := h1
          exact small_line (by omega)
        · rw [upd_same, List.map_append]
          rfl
        · rw [take_snoc eg, List.map_append]
          refine ((B3.same S4).put (S4 _ _ hD3)).snoc (dx := dx4) (p := pi) (s := s4) ⟨?_, ?_, ?_⟩ pD
          · rw [upd_ne (ne_of X4.ob (S4 _ _ hD3) (by intro z; cases z))]
            exact X4.ob
          · rw [upd_ne pD]
            exact X4.row
          · rw [upd_ne (ne_of X4.sh (S4 _ _ hD3) (by intro z; cases z))]
            exact X4.sh
      · rintro H3 ⟨S3, xs, hD3, B3⟩
        rw [List.length_map, B'.len, List.take_length] at B3
        refine ⟨D2, xs, _, rfl, hD3, B3.offs, fun q hq => ?_, fun H4 p S4 hp np => ?_⟩
        · obtain ⟨l, hl, e⟩ := List.mem_map.mp hq
          rw [← e]
          exact offOk Ok (List.mem_filter.mp hl).1
        · exact k H4 p ((S12.trans S3).trans S4) hp ((S12.trans S3).free np)
end
end Oil
set_option maxRecDepth 100000
set_option maxHeartbeats 4000000
namespace Oil
open PySem PySem.Spec PyProof.Rows L2
open Si83 (Part Material less lowest)
abbrev sNe : Stmt := top 36
abbrev nNe : List Str := ["order", "above", "below", "offers", "strong", "formula", "offer"]
def spNe (CM CO : Addr) : Sp := fun vs H Q _ => ∃ (a : Addr) (o : Si83.Order) (p q : Nat), vs = [.ref a, .int (p : Int), .int (q : Int)] ∧ RdO CM CO H a o ∧ OrdOk o ∧
  ∀ (H' : Hp) (r : Addr), Same H H' → H' r = some (.lst (intsV (ansOf o (.nearest p q)))) → H r = none → Q (.ref r) H'
theorem scNe : FnScope nNe ["order", "above", "below"] (defScope sNe) := ⟨rfl, rfl, rfl, by decide +kernel, rfl, by decide +kernel, by decide +kernel⟩
theorem no_ans {p q : Nat} {o : Si83.Order} (h : p < 1 ∨ q < p ∨ 10000 < q) : ansOf o (.nearest p q) = [-1] := by
  unfold ansOf
  rw [nearest_no h]
  rfl
section
variable {P : Program} {w : World} {K : PySem.W.Frag} {mg : Str → Option Value} {base : Heap} {f fS fA fO fB fW : Addr} {fd : FuncData} {CM CO CF CR : Addr}
theorem ok_ne (T : Txt K mg CM CO CF CR) (F : Fun K "nearest" "nearest" sNe f fd) (DS : Def P w K mg base 1 "stronger_by" fS ["share", "other"] spStr) (DA : Def P w K mg base 1 "formulas_that_may_be" fA ["order"] (spFor CM CO))
    (DO : Def P w K mg base 4 "offer_of" fO ["order", "formula"] (spOff CM CO CF)) (DW : Def P w K mg base 2 "better_as_nearest" fW ["offer", "other"] (spBet CF ltN)) (DB : Def P w K mg base 3 "best_answer" fB ["offers", "better"] (spBest CF fW ltN)) :
    FnOk P w K mg base CX0 5 f fd ["order", "above", "below"] (spNe CM CO) := by
  refine F.ok scNe (fun vs H Q E h => ?_) (fun cdv A outer s H vs Q E hr h => ⟨_,
    pss_cons (ps_if (PW.pt (pw_or (pt_cmpR op_lt (pv 1) pe_int (nomark _)) (pw_or (pt_cmpR op_gt (pv 1) (pv 2) (nomark _)) (pw_or1 (pt_cmpR op_gt (pv 2) (pe_const T.kBelow rfl) (nomark _))))))
      (pss_one (ps_ret (pe_lst (pa_cons (pe_const T.kWrong rfl) pa_nil)))) pss_nil)
    (pss_cons (ps_setLc (i := 3) (own := [("formula", 5)]) (g := gName 5) (tt := tYes) (te := tCall (spOff CM CO CF) [] E0 (tCons (tVar 0) (tCons (tVar 5) tNil))) rfl scNe.nd rfl rfl (sw_true rfl rfl rfl (by decide +kernel))
      (pi_list (pe_callD DA (hr.mono (by decide)) rfl (pa_cons (pv 0) pa_nil)))
      (blkOk_by (N := nNe) (sc := defScope sNe) (by decide +kernel))
      (fun _ _ _ _ _ => by exact pg_name (i := 5) scNe.nd rfl (Or.inl rfl))
      (fun _ _ _ _ _ => by exact pts_nil)
      (fun _ _ _ _ _ => by exact pe_callD DO hr rfl (pa_cons (pv 0) (pa_cons (pv 5) pa_nil))))
    (pss_cons (ps_setLc (i := 4) (own := [("offer", 6)]) (g := gName 6) (tt := tTest (tOp (rI0 fun i j => .bl (decide (j ≤ i))) (tCall spStr [] E0 (tCons (tFld K (tVar 6) "share") (tCons (tTup (tCons (tVar 1) (tCons (tVar 2) tNil))) tNil))) (tC (.int 0)))) (te := tVar 6) rfl scNe.nd rfl rfl (sw_true rfl rfl rfl (by decide +kernel))
      (pi_list (pv 3))
      (blkOk_by (N := nNe) (sc := defScope sNe) (by decide +kernel))
      (fun _ _ _ _ _ => by exact pg_name (i := 6) scNe.nd rfl (Or.inl rfl))
      (fun _ _ _ _ _ => by exact pts_one (pt_cmpR op_ge (pe_callD DS (hr.mono (by decide)) rfl (pa_cons (pe_fld (pv 6) rfl) (pa_cons (pe_tup (pa_cons (pv 1) (pa_cons (pv 2) pa_nil))) pa_nil))) pe_int (nomark _)))
      (fun _ _ _ _ _ => by exact pv 6))
    (pss_one (ps_ret (pe_callD DB (hr.mono (by decide)) rfl (pa_cons (pv 4) (pa_cons (pe_glob (v := .ref fW) rfl DW.g rfl) pa_nil))))))), ?_⟩)
  · obtain ⟨a, o, p, q, rfl, _⟩ := h
    rfl
  · obtain ⟨a, o, p, q, rfl, O, Ok, k⟩ := h
    have wrong : (p < 1 ∨ q < p ∨ 10000 < q) → tRet (tLst (tCons (tC (.int (-1))) tNil)) { nx := fun _ H' => Q .non H', rt := Q } (L2.start nNe [.ref a, .int (p : Int), .int (q : Int)]) H := fun c => by
      refine ⟨by show 1 ≤ sizeLine; decide, fun r hr1 => k _ r (same_upd hr1) ?_ hr1⟩
      rw [no_ans c]
      exact upd_same
    refine ⟨_, rfl, _, _, rfl, rfl, _, rfl, ?_⟩
    by_cases c1 : p < 1
    · have e : decide ((p : Int) < 1) = true := decide_eq_true (by omega)
      rw [e]
      refine iteT ?_
      refine iteT ?_
      exact wrong (Or.inl c1)
    have e : decide ((p : Int) < 1) = false := decide_eq_false (by omega)
    rw [e]
    refine iteF ?_
    refine ⟨_, rfl, _, rfl, _, _, rfl, rfl, _, rfl, ?_⟩
    by_cases c2 : q < p
    · have e : decide ((q : Int) < (p : Int)) = true := decide_eq_true (by omega)
      rw [e]
      refine iteT ?_
      refine iteT ?_
      exact wrong (Or.inr (Or.inl c2))
    have e : decide ((q : Int) < (p : Int)) = false := decide_eq_false (by omega)
    rw [e]
    refine iteF ?_
    refine ⟨_, rfl, _, _, rfl, rfl, _, rfl, ?_⟩
    by_cases c3 : 10000 < q
    · have e : decide ((10000 : Int) < (q : Int)) = true := decide_eq_true (by omega)
      rw [e]
      refine iteT ?_
      exact wrong (Or.inr (Or.inr c3))
    have e : decide ((10000 : Int) < (q : Int)) = false := decide_eq_false (by omega)
    rw [e]
    refine iteF ?_
    clear wrong
    have k' : ∀ (H' : Hp) (r : Addr), Same H H' → H' r = some (.lst (intsV (bestTold (best ltN (asStrong p q (o.formulas.map (offOf o))))))) → H r = none → Q (.ref r) H' := fun H' r S h n => by
      refine k H' r S ?_ n
      have ea : ansOf o (.nearest p q) = bestTold (best ltN (asStrong p q (o.formulas.map (offOf o)))) := by
        unfold ansOf
        rw [nearest_yes (by omega), nearest_is Ok (by omega)]
      rw [ea]
      exact h
    clear k
    refine ⟨_, rfl, a, o, rfl, O, Ok, fun H1 F0 ps S1 hF A1 => ?_⟩
    refine ⟨F0, rfl, ⟨_, SqL.of hF⟩, fun D hD => ?_⟩
    refine lc_it (walk_list (xs := ps.map V.ref)) (fun i H3 => Same H1 H3 ∧ ∃ xs : List Addr, H3 D = some (.lst (xs.map V.ref)) ∧ OffsIn CF D H3 xs ((o.formulas.take i).map (offOf o)))
      ⟨same_upd hD, [], upd_same, OffsIn.nil⟩ (fun i H3 _ z => SqL.of (z.1 _ _ hF)) ?_ ?_
    · rintro i x H3 H3' hi ⟨S3, xs, hD3, B3⟩ ⟨rfl, hx⟩
      obtain ⟨pi, ei, rfl⟩ := refs_of hx
      rw [List.length_map, A1.len] at hi
      obtain ⟨g, eg⟩ := get_some hi
      obtain ⟨hpi, _⟩ := A1.each i pi g ei eg
      have R := formulas_ok Ok (List.mem_of_getElem? eg)
      have pD : pi ≠ D := ne_of_none hpi hD
      refine ⟨rfl, ?_⟩
      refine yesT ?_
      refine ⟨_, rfl, _, rfl, a, pi, o, g, rfl, O.same (S1.trans S3), S3 _ _ hpi, Ok, R, fun H4 x4 dx4 s4 S4 X4 n4 => ?_⟩
      refine ⟨_, S4 _ _ hD3, ?_, same_put (S3.trans S4) hD, xs ++ [x4], ?_, ?_⟩
      · rw [List.length_map, B3.len, List.length_map, List.length_take]
        have h2 := formulas_len Ok
        exact small_line (by omega)
      · rw [upd_same, List.map_append]
        rfl
      · rw [take_snoc eg, List.map_append]
        refine ((B3.same S4).put (S4 _ _ hD3)).snoc (dx := dx4) (p := pi) (s := s4) ⟨?_, ?_, ?_⟩ pD
        · rw [upd_ne (ne_of X4.ob (S4 _ _ hD3) (by intro z; cases z))]
          exact X4.ob
        · rw [upd_ne pD]
          exact X4.row
        · rw [upd_ne (ne_of X4.sh (S4 _ _ hD3) (by intro z; cases z))]
          exact X4.sh
    · rintro H2 ⟨S2, xs, hD2, B2⟩
      rw [List.length_map, A1.len, List.take_length] at B2
      have S12 := S1.trans S2
      refine ⟨_, rfl, D, rfl, ⟨_, SqL.of hD2⟩, fun D2 hD2n => ?_⟩
      refine lc_it (walk_list (xs := xs.map V.ref)) (fun i H3 => Same H2 H3 ∧ ∃ ys : List Addr, H3 D2 = some (.lst (ys.map V.ref)) ∧ OffsIn CF D2 H3 ys (asStrong p q ((o.formulas.map (offOf o)).take i)))
        ⟨same_upd hD2n, [], upd_same, OffsIn.nil⟩ (fun i H3 _ z => SqL.of (z.1 _ _ hD2)) ?_ ?_
      · rintro i x H3 H3' hi ⟨S3, ys, hD3, B3⟩ ⟨rfl, hx⟩
        obtain ⟨xi, ei, rfl⟩ := refs_of hx
        rw [List.length_map, B2.len] at hi
        obtain ⟨g, eg⟩ := get_some hi
        obtain ⟨dx, pp, sp, X, _⟩ := B2.each i xi g ei eg
        have okg : OffOk g := by
          obtain ⟨l, hl, e⟩ := List.mem_map.mp (List.mem_of_getElem? eg)
          rw [← e]
          exact offOk Ok hl
        have pD : pp ≠ D2 := ne_of_none X.row hD2n
        have X3 := X.same S3
        refine ⟨rfl, _, rfl, xi, CF, dx, _, _, rfl, X3.ob, T.cF, T.fS, offF_s _ _ _, _, rfl, _, rfl, by show 2 ≤ sizeLine; decide, fun tp htp => ?_⟩
        have St : Same H3' (upd H3' tp (.tup (partV ⟨p, q⟩))) := same_upd htp
        refine ⟨sp, tp, g.s, ⟨p, q⟩, rfl, St _ _ X3.sh, upd_same, okg.n, by show p ≤ 240000; omega, ?_⟩
        refine ⟨_, _, rfl, rfl, _, rfl, ?_⟩
        have ea : asStrong p q ((o.formulas.map (offOf o)).take (i + 1)) = asStrong p q ((o.formulas.map (offOf o)).take i) ++ asStrong p q [g] := by
          unfold asStrong
          rw [take_snoc eg, List.filter_append]
        rw [ea]
        by_cases c4 : 0 ≤ cross g.s ⟨p, q⟩
        · have ec : decide ((0 : Int) ≤ cross g.s ⟨p, q⟩) = true := decide_eq_true c4
          rw [ec]
          have ef : asStrong p q [g] = [g] := List.filter_cons_of_pos (decide_eq_true c4)
          rw [ef]
          refine iteT ⟨_, rfl, _, St _ _ hD3, ?_, same_put (S3.trans St) hD2n, ys ++ [xi], ?_, ?_⟩
          · rw [List.length_map, B3.len]
            have h1 := List.length_filter_le (fun x : Off => decide (0 ≤ cross x.s ⟨p, q⟩)) ((o.formulas.map (offOf o)).take i)
            rw [List.length_take, List.length_map] at h1
            have h3 : (asStrong p q ((o.formulas.map (offOf o)).take i)).length ≤ min i o.formulas.length := h1
            have h2 := formulas_len Ok
            exact small_line (by omega)
          · rw [upd_same, List.map_append]
            rfl
          · have X4 := X3.same St
            refine ((B3.same St).put (St _ _ hD3)).snoc (dx := dx) (p := pp) (s := sp) ⟨?_, ?_, ?_⟩ pD
            · rw [upd_ne (ne_of X4.ob (St _ _ hD3) (by intro z; cases z))]
              exact X4.ob
            · rw [upd_ne pD]
              exact X4.row
            · rw [upd_ne (ne_of X4.sh (St _ _ hD3) (by intro z; cases z))]
              exact X4.sh
        · have ec : decide ((0 : Int) ≤ cross g.s ⟨p, q⟩) = false := decide_eq_false c4
          rw [ec]
          have ef : asStrong p q [g] = [] := List.filter_cons_of_neg (fun z => c4 (of_decide_eq_true z))
          rw [ef, List.append_nil]
          exact iteF ⟨S3.trans St, ys, St _ _ hD3, B3.same St⟩
      · rintro H3 ⟨S3, ys, hD3, B3⟩
        rw [List.length_map, B2.len, List.take_length] at B3
        refine ⟨_, rfl, D2, ys, _, rfl, hD3, B3.offs, fun r hr2 => ?_, fun H4 r S4 hp np => ?_⟩
        · obtain ⟨l, hl, e⟩ := List.mem_map.mp (List.mem_filter.mp hr2).1
          rw [← e]
          exact offOk Ok hl
        · exact k' H4 r ((S12.trans S3).trans S4) hp ((S12.trans S3).free np)
end
end Oil
set_option maxRecDepth 100000
set_option maxHeartbeats 4000000
namespace Oil
open PySem PySem.Spec PyProof.Rows L2
open Si83 (Part Material less lowest)
abbrev sChk : Stmt := top 34
abbrev nChk : List Str := ["order", "formula", "share"]
def spChk (CM CO : Addr) : Sp := fun vs H Q _ => ∃ (a p : Addr) (o : Si83.Order) (l : List Nat), vs = [.ref a, .ref p] ∧ RdO CM CO H a o ∧ OrdOk o ∧ H p = some (.lst (natsV l)) ∧
  ∀ (H' : Hp) (r : Addr), Same H H' → H' r = some (.lst (intsV (ansOf o (.check l)))) → H r = none → Q (.ref r) H'
theorem scChk : FnScope nChk ["order", "formula"] (defScope sChk) := ⟨rfl, rfl, rfl, by decide +kernel, rfl, by decide +kernel, by decide +kernel⟩
theorem holds_len (o : Si83.Order) (l : List Nat) : (o.holds l).length ≤ 3 := holdsTo_len o l 3
section
variable {P : Program} {w : World} {K : PySem.W.Frag} {mg : Str → Option Value} {base : Heap} {f fM fS fC fH : Addr} {fd : FuncData} {CM CO CF CR : Addr}
theorem ok_chk (T : Txt K mg CM CO CF CR) (F : Fun K "check" "check" sChk f fd) (DM : Def P w K mg base 1 "may_be" fM ["order", "formula"] (spMay CM CO)) (DS : Def P w K mg base 3 "share_of" fS ["order", "formula"] (spShr CM CO))
    (DC : Def P w K mg base 1 "changed_by" fC ["order", "formula"] (spChg CM CO)) (DH : Def P w K mg base 3 "holding_back" fH ["order", "formula", "greatest"] (spHol CM CO)) :
    FnOk P w K mg base CX0 4 f fd ["order", "formula"] (spChk CM CO) := by
  refine F.ok scChk (fun vs H Q E h => ?_) (fun cdv A outer s H vs Q E hr h => ⟨_,
    pss_cons (ps_if (pt_cmpR op_ne (pe_callB call_len_seq (by rfl) T.bLen PySem.boot_len (pa_cons (pv 1) pa_nil)) (pe_callB call_len_seq (by rfl) T.bLen PySem.boot_len (pa_cons (pe_fld (pv 0) rfl) pa_nil)) (nomark _))
      (pss_one (ps_ret (pe_lst (pa_cons (pe_const T.kWrong rfl) pa_nil)))) pss_nil)
    (pss_cons (ps_if (pt_not (pt_val (pe_callD DM (hr.mono (by decide)) rfl (pa_cons (pv 0) (pa_cons (pv 1) pa_nil))))) (pss_one (ps_ret (pe_lst (pa_cons (pe_const T.kMay rfl) pa_nil)))) pss_nil)
    (pss_cons (ps_set (i := 2) scChk.nd rfl (Or.inl rfl) (pe_callD DS hr rfl (pa_cons (pv 0) (pa_cons (pv 1) pa_nil))))
    (pss_one (ps_ret (pe_op op_cat (pe_lst (pa_cons pe_int (pa_cons (pe_ix ix_tup (pv 2) pe_int (fun _ _ => rfl)) (pa_cons (pe_ix ix_tup (pv 2) pe_int (fun _ _ => rfl)) (pa_cons (pe_callD DC (hr.mono (by decide)) rfl (pa_cons (pv 0) (pa_cons (pv 1) pa_nil))) pa_nil)))))
      (pe_callD DH hr rfl (pa_cons (pv 0) (pa_cons (pv 1) (pa_cons (pv 2) pa_nil))))))))), ?_⟩)
  · obtain ⟨a, p, o, l, rfl, _⟩ := h
    rfl
  · obtain ⟨a, p, o, l, rfl, O, Ok, hp, k⟩ := h
    obtain ⟨t, m, dx, b, as, O1⟩ := O
    have O : RdO CM CO H a o := ⟨t, m, dx, b, as, O1⟩
    refine ⟨_, rfl, p, _, rfl, Or.inl (SqL.of hp), _, rfl, a, CO, dx, _, _, rfl, O1.ob, T.cO, T.oM, ordF_m b m, m, _, rfl, Or.inl (SqL.of O1.mats), rfl, _, rfl, ?_⟩
    have e0 : decide (V.int (((natsV l).length : Nat) : Int) = V.int (((as.map V.ref).length : Nat) : Int)) = decide (l.length = o.materials.length) := by
      rw [natsV_len, List.length_map, O1.len]
      refine decide_eq_decide.mpr ⟨fun z => ?_, fun z => by rw [z]⟩
      injection z with z
      omega
    rw [e0]
    by_cases c1 : l.length = o.materials.length
    · rw [decide_eq_true c1]
      refine iteF ?_
      refine ⟨_, rfl, _, rfl, a, p, o, l, rfl, O, hp, c1, fun H1 S1 => ⟨_, rfl, ?_⟩⟩
      cases c2 : o.right l with
      | false =>
        refine iteT ⟨by show 1 ≤ sizeLine; decide, fun r hr1 => k _ r (S1.trans (same_upd hr1)) ?_ (S1.free hr1)⟩
        have ea : ansOf o (.check l) = [-4] := by
          unfold ansOf
          rw [check_no c1 c2]
          rfl
        rw [ea]
        exact upd_same
      | true =>
        have R := right_ok Ok c1 c2
        refine iteF ?_
        refine ⟨_, rfl, _, rfl, a, p, o, l, rfl, O.same S1, S1 _ _ hp, Ok, R, fun H2 s2 S2 hs => ?_⟩
        have S12 := S1.trans S2
        refine ⟨_, rfl, s2, _, _, _, rfl, rfl, SqT.of hs, part0 _, _, rfl, s2, _, _, _, rfl, rfl, SqT.of hs, part1 _, ?_⟩
        refine ⟨_, rfl, _, rfl, a, p, o, l, rfl, O.same S12, S12 _ _ hp, Ok, R, fun H3 S3 => ?_⟩
        refine ⟨by show 4 ≤ sizeLine; decide, fun d hd => ?_⟩
        have Sd : Same H3 (upd H3 d (.lst [.int 0, .int ((o.strong l).n : Int), .int ((o.strong l).d : Int), .int ((o.changed l : Nat) : Int)])) := same_upd hd
        have S4 := (S12.trans S3).trans Sd
        refine ⟨_, rfl, _, rfl, _, rfl, a, p, s2, o, l, rfl, O.same S4, S4 _ _ hp, Ok, R, Sd _ _ (S3 _ _ hs), fun H5 u S5 hu => ?_⟩
        refine ⟨d, u, _, _, rfl, rfl, S5 _ _ upd_same, hu, ?_, fun r hr2 => ?_⟩
        · rw [natsV_len]
          have := holds_len o l
          show 4 + (o.holds l).length ≤ sizeLine
          have := small_line (n := 4 + (o.holds l).length) (by omega)
          omega
        · refine k _ r ((S4.trans S5).trans (same_upd hr2)) ?_ ((S4.trans S5).free hr2)
          have ea : ansOf o (.check l) = [0, ((o.strong l).n : Int), ((o.strong l).d : Int), ((o.changed l : Nat) : Int)] ++ zsOf (o.holds l) := by
            unfold ansOf
            rw [check_yes c1 c2]
            rfl
          rw [ea, upd_same, natsV_ints]
          unfold intsV
          rw [List.map_append]
          rfl
    · rw [decide_eq_false c1]
      refine iteT ⟨by show 1 ≤ sizeLine; decide, fun r hr1 => k _ r (same_upd hr1) ?_ hr1⟩
      have ea : ansOf o (.check l) = [-1] := by
        unfold ansOf
        rw [check_len c1]
        rfl
      rw [ea]
      exact upd_same
end
end Oil
set_option maxRecDepth 100000
set_option maxHeartbeats 4000000
namespace Oil
open PySem PySem.Spec PyProof.Rows L2
open Si83 (Part Material less lowest)
abbrev sBeg : Stmt := top 32
abbrev sMat : Stmt := top 33
/-- all but what stands at a and at m is as it was -/
def But2 (a m : Addr) (H H' : Hp) : Prop := ∀ c u, H c = some u → c ≠ a → c ≠ m → H' c = some u
theorem same_but2 {a m : Addr} {H H' : Hp} (S : Same H H') : But2 a m H H' := fun c u h _ _ => S c u h
/-- what a call that may change the order leaves -/
def CallEnd (CM CO t : Addr) (H : Hp) (Q : VK) (a m : Addr) (o : Si83.Order) (q : Si83.Call) : Prop :=
  ∀ (H' : Hp) (r m' : Addr), OrdAt CM CO t H' a m' (Si83.step o q).1 → H' r = some (.lst (intsV (ansOf o q))) → H r = none → But2 a m H H' → Q (.ref r) H'
def spBeg (CM CO : Addr) : Sp := fun vs H Q _ => ∃ (a m b t : Addr) (o : Si83.Order) (l : List Nat) (ts : List V), vs = [.ref a, .ref b] ∧ OrdAt CM CO t H a m o ∧ H t = some (.lst ts) ∧ H b = some (.lst (natsV l)) ∧ b ≠ t ∧ l.length = 3 ∧ CallEnd CM CO t H Q a m o (.begins l)
def spMat (CM CO : Addr) : Sp := fun vs H Q _ => ∃ (a m p t : Addr) (o : Si83.Order) (q : Material) (ts : List V), vs = [.ref a, .ref p, .int (q.wanted : Int), .int (q.most : Int)] ∧ OrdAt CM CO t H a m o ∧ OrdOk o ∧ H t = some (.lst ts) ∧ H p = some (.lst (natsV q.parts)) ∧ p ≠ t ∧ p ≠ m ∧ q.parts.length = 3 ∧ CallEnd CM CO t H Q a m o (.material q)
theorem scBeg : FnScope ["order", "bounds"] ["order", "bounds"] (defScope sBeg) := ⟨rfl, rfl, rfl, by decide +kernel, rfl, by decide +kernel, by decide +kernel⟩
theorem scMat : FnScope ["order", "parts", "wanted", "most"] ["order", "parts", "wanted", "most"] (defScope sMat) := ⟨rfl, rfl, rfl, by decide +kernel, rfl, by decide +kernel, by decide +kernel⟩
theorem ordF_b2 (b b' m : Addr) : putF "bounds" (.ref b') (ordF b m) = ordF b' m := put_here
theorem ordF_m2 (b m m' : Addr) : putF "materials" (.ref m') (ordF b m) = ordF b m' := (put_past (by decide +kernel)).trans (congrArg _ put_here)
/-- the greatest of some numbers lies above a bound: one of them does -/
theorem max_gt {l : List Nat} {z : Int} {b : Nat} (h1 : z ∈ zsOf l) (h2 : ∀ y ∈ zsOf l, y ≤ z) : (b : Int) < z ↔ ¬ ∀ x ∈ l, x ≤ b := by
  constructor
  · intro h k
    obtain ⟨x, hx, e⟩ := List.mem_map.mp h1
    have := k x hx
    omega
  · intro k
    refine Classical.byContradiction fun c => k fun x hx => ?_
    have := h2 (x : Int) (List.mem_map.mpr ⟨x, hx, rfl⟩)
    omega
section
variable {P : Program} {w : World} {K : PySem.W.Frag} {mg : Str → Option Value} {base : Heap} {f : Addr} {fd : FuncData} {CM CO CF CR : Addr}
theorem ok_beg (T : Txt K mg CM CO CF CR) (F : Fun K "begins" "begins" sBeg f fd) : FnOk P w K mg base CX0 1 f fd ["order", "bounds"] (spBeg CM CO) := by
  refine F.ok scBeg (fun vs H Q E h => ?_) (fun cdv A outer s H vs Q E hr h => ⟨_,
    pss_cons (ps_if (pt_cmpR op_gt (pe_callB (cr_max rfl) (by rfl) T.bMax (by decide +kernel) (pa_cons (pv 1) pa_nil)) (pe_const T.kBound rfl) (nomark _)) (pss_one (ps_ret (pe_lst (pa_cons (pe_const T.kWrong rfl) pa_nil)))) pss_nil)
    (pss_cons (ps_fld (pv 0) (pv 1) rfl)
    (pss_cons (ps_fld (pv 0) (pe_lst pa_nil) rfl)
    (pss_one (ps_ret (pe_lst (pa_cons pe_int pa_nil)))))), ?_⟩)
  · obtain ⟨a, m, b, t, o, l, ts, rfl, _⟩ := h
    rfl
  · obtain ⟨a, m, b, t, o, l, ts, rfl, O, ht, hb, bt, hl, k⟩ := h
    obtain ⟨dx, b0, as, O1⟩ := O
    have hb' := hb
    rw [natsV_ints] at hb'
    refine ⟨_, rfl, b, zsOf l, rfl, SqL.of hb', by rw [ints_len, hl]; decide, fun z hz1 hz2 => ⟨_, _, rfl, rfl, _, rfl, ?_⟩⟩
    by_cases c : ∀ x ∈ l, x ≤ 10000
    · have e : decide ((10000 : Int) < z) = false := decide_eq_false fun q => (max_gt (b := 10000) hz1 hz2).mp q c
      rw [e]
      refine iteF ?_
      refine ⟨_, rfl, _, rfl, a, CO, dx, _, rfl, O1.ob, T.cO, T.oB, (by show 2 < 1000; decide), ?_⟩
      have ba : b ≠ a := ne_of hb O1.ob (by intro z; cases z)
      have ta : t ≠ a := ne_of ht O1.ob (by intro z; cases z)
      refine ⟨by show 0 ≤ sizeLine; decide, fun m' hm' => ?_⟩
      have ma : m' ≠ a := fun z => by
        rw [z, upd_same] at hm'
        cases hm'
      have hm'H : H m' = none := by
        rw [upd_ne ma] at hm'
        exact hm'
      refine ⟨_, rfl, a, CO, dx, _, rfl, (upd_ne ma.symm).trans upd_same, T.cO, T.oM, ?_, ?_⟩
      · rw [ordF_b2]
        show 2 < 1000
        decide
      rw [ordF_b2, ordF_m2]
      refine ⟨by show 1 ≤ sizeLine; decide, fun r hr1 => ?_⟩
      have ra : r ≠ a := fun z => by
        rw [z, upd_same] at hr1
        cases hr1
      rw [upd_ne ra] at hr1
      have rm : r ≠ m' := fun z => by
        rw [z, upd_same] at hr1
        cases hr1
      rw [upd_ne rm, upd_ne ra] at hr1
      have bm : b ≠ m' := ne_of_none hb hm'H
      have br : b ≠ r := ne_of_none hb hr1
      refine k _ r m' ⟨dx, b, [], ?_, ?_, ?_, bm, bt, (ne_of_none ht hm'H).symm, ?_, ?_⟩ ?_ hr1 ?_
      · rw [upd_ne ra.symm, upd_same]
      · rw [begins_yes hl c, upd_ne br, upd_ne ba, upd_ne bm, upd_ne ba]
        exact hb
      · rw [upd_ne rm.symm, upd_ne ma, upd_same]
        rfl
      · rw [begins_yes hl c]
        rfl
      · intro i x q h1 h2
        simp at h1
      · have ea : ansOf o (.begins l) = [0] := by
          unfold ansOf
          rw [begins_yes hl c]
          rfl
        rw [ea]
        exact upd_same
      · intro x u hx n1 n2
        rw [upd_ne (ne_of_none hx hr1), upd_ne n1, upd_ne (ne_of_none hx hm'H), upd_ne n1]
        exact hx
    · have e : decide ((10000 : Int) < z) = true := decide_eq_true ((max_gt (b := 10000) hz1 hz2).mpr c)
      rw [e]
      refine iteT ⟨by show 1 ≤ sizeLine; decide, fun r hr1 => k _ r m ?_ ?_ hr1 (same_but2 (same_upd hr1))⟩
      · rw [begins_no c]
        exact ⟨dx, b0, as, O1.same (same_upd hr1)⟩
      · have ea : ansOf o (.begins l) = [-1] := by
          unfold ansOf
          rw [begins_no c]
          rfl
        rw [ea]
        exact upd_same
theorem ok_mat (T : Txt K mg CM CO CF CR) (F : Fun K "material" "material" sMat f fd) (M : Maker P w K mg base 1 "Material" CM ["self", "parts", "wanted", "most"] (spIM CM)) : FnOk P w K mg base CX0 3 f fd ["order", "parts", "wanted", "most"] (spMat CM CO) := by
  refine F.ok scMat (fun vs H Q E h => ?_) (fun cdv A outer s H vs Q E hr h => ⟨_,
    pss_cons (ps_if (PW.pt (pw_or (pt_cmpR op_gt (pe_callB (cr_max rfl) (by rfl) T.bMax (by decide +kernel) (pa_cons (pv 1) pa_nil)) (pe_const T.kPart rfl) (nomark _)) (pw_or (pt_cmpR op_gt (pv 2) (pv 3) (nomark _)) (pw_or1 (pt_cmpR op_gt (pv 3) (pe_const T.kDrops rfl) (nomark _))))))
      (pss_one (ps_ret (pe_lst (pa_cons (pe_const T.kWrong rfl) pa_nil)))) pss_nil)
    (pss_cons (ps_if (pt_cmpR op_eq (pe_callB call_len_seq (by rfl) T.bLen PySem.boot_len (pa_cons (pe_fld (pv 0) rfl) pa_nil)) (pe_const T.kMats rfl) (nomark _)) (pss_one (ps_ret (pe_lst (pa_cons (pe_const T.kRoom rfl) pa_nil)))) pss_nil)
    (pss_cons (ps_expr (pe_bm PySem.F.plainAttrs_list PySem.F.slot_list_append PySem.F.type_list_append mt_append (pe_fld (pv 0) rfl) (pa_cons (pe_makeD M hr rfl (pa_cons (pv 1) (pa_cons (pv 2) (pa_cons (pv 3) pa_nil)))) pa_nil)))
    (pss_one (ps_ret (pe_lst (pa_cons (pe_op op_sub (pe_callB call_len_seq (by rfl) T.bLen PySem.boot_len (pa_cons (pe_fld (pv 0) rfl) pa_nil)) pe_int) pa_nil)))))), ?_⟩)
  · obtain ⟨a, m, p, t, o, q, ts, rfl, _⟩ := h
    rfl
  · obtain ⟨a, m, p, t, o, q, ts, rfl, O, Ok, ht, hp, pt, pm, hl, k⟩ := h
    obtain ⟨dx, b0, as, O1⟩ := O
    have hp' := hp
    rw [natsV_ints] at hp'
    have wrong : (¬ (∀ x ∈ q.parts, x ≤ 1000) ∨ q.most < q.wanted ∨ 6 < q.most) → tRet (tLst (tCons (tC (.int (-1))) tNil)) { nx := fun _ H' => Q .non H', rt := Q } (L2.start ["order", "parts", "wanted", "most"] [.ref a, .ref p, .int (q.wanted : Int), .int (q.most : Int)]) H := fun c => by
      refine ⟨by show 1 ≤ sizeLine; decide, fun r hr1 => k _ r m ?_ ?_ hr1 (same_but2 (same_upd hr1))⟩
      · rw [material_no c]
        exact ⟨dx, b0, as, O1.same (same_upd hr1)⟩
      · have ea : ansOf o (.material q) = [-1] := by
          unfold ansOf
          rw [material_no c]
          rfl
        rw [ea]
        exact upd_same
    refine ⟨_, rfl, p, zsOf q.parts, rfl, SqL.of hp', by rw [ints_len, hl]; decide, fun z hz1 hz2 => ⟨_, _, rfl, rfl, _, rfl, ?_⟩⟩
    by_cases c1 : ∀ x ∈ q.parts, x ≤ 1000
    case neg =>
      have e : decide ((1000 : Int) < z) = true := decide_eq_true ((max_gt (b := 1000) hz1 hz2).mpr c1)
      rw [e]
      refine iteT ?_
      refine iteT ?_
      exact wrong (Or.inl c1)
    have e : decide ((1000 : Int) < z) = false := decide_eq_false fun q => (max_gt (b := 1000) hz1 hz2).mp q c1
    rw [e]
    refine iteF ?_
    refine ⟨_, rfl, _, rfl, _, _, rfl, rfl, _, rfl, ?_⟩
    by_cases c2 : q.most < q.wanted
    · have e : decide ((q.most : Int) < (q.wanted : Int)) = true := decide_eq_true (by omega)
      rw [e]
      refine iteT ?_
      refine iteT ?_
      exact wrong (Or.inr (Or.inl c2))
    have e : decide ((q.most : Int) < (q.wanted : Int)) = false := decide_eq_false (by omega)
    rw [e]
    refine iteF ?_
    refine ⟨_, rfl, _, _, rfl, rfl, _, rfl, ?_⟩
    by_cases c3 : 6 < q.most
    · have e : decide ((6 : Int) < (q.most : Int)) = true := decide_eq_true (by omega)
      rw [e]
      refine iteT ?_
      exact wrong (Or.inr (Or.inr c3))
    have e : decide ((6 : Int) < (q.most : Int)) = false := decide_eq_false (by omega)
    rw [e]
    refine iteF ?_
    clear wrong
    have es := material_if (o := o) hl c1 (Nat.not_lt.mp c2) (Nat.not_lt.mp c3)
    refine ⟨_, rfl, a, CO, dx, _, _, rfl, O1.ob, T.cO, T.oM, ordF_m b0 m, m, _, rfl, Or.inl (SqL.of O1.mats), rfl, _, rfl, ?_⟩
    have e0 : decide (V.int (((as.map V.ref).length : Nat) : Int) = V.int 4) = decide (4 ≤ o.materials.length) := by
      rw [List.length_map, O1.len]
      have := Ok.cnt
      refine decide_eq_decide.mpr ⟨fun z => ?_, fun z => ?_⟩
      · injection z with z
        omega
      · have : o.materials.length = 4 := by omega
        rw [this]
        rfl
    rw [e0]
    by_cases c4 : 4 ≤ o.materials.length
    · rw [if_pos c4] at es
      rw [decide_eq_true c4]
      refine iteT ⟨by show 1 ≤ sizeLine; decide, fun r hr1 => k _ r m ?_ ?_ hr1 (same_but2 (same_upd hr1))⟩
      · rw [es]
        exact ⟨dx, b0, as, O1.same (same_upd hr1)⟩
      · have ea : ansOf o (.material q) = [-5] := by
          unfold ansOf
          rw [es]
          rfl
        rw [ea]
        exact upd_same
    · rw [if_neg c4] at es
      rw [decide_eq_false c4]
      refine iteF ?_
      refine ⟨_, rfl, a, CO, dx, _, _, rfl, O1.ob, T.cO, T.oM, ordF_m b0 m, Or.inl ⟨rfl, _, SqL.of O1.mats⟩, _, rfl, _, rfl, _, rfl, ?_⟩
      intro x dy nx nd ne
      refine ⟨x, dy, p, q, rfl, upd_same, fun H1 h1 B => ⟨rfl, ?_⟩⟩
      have S1 : Same H H1 := Same.made nx nd B
      have hm1 := S1 _ _ O1.mats
      have xm : x ≠ m := ne_of h1 hm1 (by intro z; cases z)
      have am : a ≠ m := ne_of O1.ob O1.mats (by intro z; cases z)
      refine ⟨m, _, _, rfl, rfl, hm1, ?_, ?_⟩
      · rw [List.length_map, O1.len]
        exact small_line (by omega)
      have hm2 : upd H1 m (.lst (as.map V.ref ++ [.ref x])) m = some (.lst ((as ++ [x]).map V.ref)) := by
        rw [upd_same, List.map_append]
        rfl
      have keep : ∀ c u, H c = some u → c ≠ m → upd H1 m (.lst (as.map V.ref ++ [.ref x])) c = some u := fun c u hc n => by
        rw [upd_ne n]
        exact S1 _ _ hc
      generalize hH2 : upd H1 m (.lst (as.map V.ref ++ [.ref x])) = H2 at hm2 keep
      have hx2 : H2 x = some (.ins CM dy (matF q p)) := by
        rw [← hH2, upd_ne xm]
        exact h1
      have O2 : OrdIn CM CO t H2 a m dx b0 (as ++ [x]) (Si83.step o (.material q)).1 := by
        rw [es]
        refine ⟨keep _ _ O1.ob am, keep _ _ O1.bounds O1.bm, hm2, O1.bm, O1.bt, O1.mt, ?_, fun i y r h1 h2 => ?_⟩
        · show (as ++ [x]).length = (o.materials ++ [q]).length
          rw [List.length_append, List.length_append, O1.len]
          rfl
        · have h2' : (o.materials ++ [q])[i]? = some r := h2
          by_cases c : i < as.length
          · rw [List.getElem?_append_left c] at h1
            rw [List.getElem?_append_left (by rw [← O1.len]; exact c)] at h2'
            obtain ⟨dz, pz, M⟩ := O1.each i y r h1 h2'
            exact ⟨dz, pz, keep _ _ M.ob (ne_of M.ob O1.mats (by intro z; cases z)), keep _ _ M.parts M.pm, M.pm, M.pt⟩
          · have c1 : as.length ≤ i := Nat.not_lt.mp c
            rw [List.getElem?_append_right c1] at h1
            rw [List.getElem?_append_right (by rw [← O1.len]; exact c1), ← O1.len] at h2'
            have ei : i - as.length = 0 := by
              have := (List.getElem?_eq_some_iff.mp h1).1
              simp only [List.length_singleton] at this
              omega
            rw [ei] at h1 h2'
            have e1 : x = y := Option.some.inj h1
            have e2 : q = r := Option.some.inj h2'
            rw [← e1, ← e2]
            exact ⟨dy, p, hx2, keep _ _ hp pm, pm, pt⟩
      refine ⟨_, rfl, a, CO, dx, _, _, rfl, O2.ob, T.cO, T.oM, ordF_m b0 m, m, _, rfl, Or.inl (SqL.of O2.mats), _, _, rfl, rfl, by show 1 ≤ sizeLine; decide, fun r hr1 => ?_⟩
      have hrH : H r = none := by
        have rm : r ≠ m := fun z => by
          rw [z, O2.mats] at hr1
          cases hr1
        rw [← hH2, upd_ne rm] at hr1
        exact S1.free hr1
      refine k _ r m ⟨dx, b0, _, O2.same (same_upd hr1)⟩ ?_ hrH ?_
      · have ea : ansOf o (.material q) = [((o.materials.length : Nat) : Int)] := by
          unfold ansOf
          rw [es]
          rfl
        rw [ea, upd_same]
        have el : ((as ++ [x]).map V.ref).length = o.materials.length + 1 := by
          rw [List.length_map, List.length_append, O1.len]
          rfl
        show some (HO.lst [.int ((((as ++ [x]).map V.ref).length : Nat) - 1 : Int)]) = some (HO.lst [.int ((o.materials.length : Nat) : Int)])
        rw [el]
        have : (((o.materials.length + 1 : Nat) : Int) - 1) = ((o.materials.length : Nat) : Int) := by omega
        rw [this]
      · intro c u hc n1 n2
        rw [upd_ne (ne_of_none hc hrH)]
        exact keep _ _ hc n2
end
end Oil
set_option maxRecDepth 100000
set_option maxHeartbeats 4000000
namespace Oil
open PySem PySem.Spec PyProof.Rows L2
open Si83 (Part Material less lowest)
/-! Reader -/
abbrev sIR : Stmt := inClass (top 18) 0
abbrev sEnd : Stmt := inClass (top 18) 1
abbrev sTake : Stmt := inClass (top 18) 2
abbrev sOne : Stmt := inClass (top 18) 3
def rdF (n : Addr) (i : Nat) : List (Str × V) := [("numbers", .ref n), ("place", .int (i : Int))]
def RdrAt (CR : Addr) (H : Hp) (r n : Addr) (i : Nat) : Prop := ∃ dx, H r = some (.ins CR dx (rdF n i))
theorem rdF_n (n : Addr) (i : Nat) : (rdF n i).lookup ("numbers" : Str) = some (.ref n) := lk_here
theorem rdF_p (n : Addr) (i : Nat) : (rdF n i).lookup ("place" : Str) = some (.int (i : Int)) := (lk_past (by decide +kernel)).trans lk_here
theorem rdF_put (n : Addr) (i j : Nat) : putF "place" (.int (j : Int)) (rdF n i) = rdF n j := (put_past (by decide +kernel)).trans (congrArg _ put_here)
theorem rdF_new (n : Addr) : putF "place" (.int 0) (putF "numbers" (.ref n) []) = rdF n 0 := (put_past (by decide +kernel)).trans rfl
theorem rdF_m1 (n : Addr) (i : Nat) : (rdF n i).lookup ("take" : Str) = none := (lk_past (by decide +kernel)).trans ((lk_past (by decide +kernel)).trans rfl)
theorem rdF_m2 (n : Addr) (i : Nat) : (rdF n i).lookup ("take_one" : Str) = none := (lk_past (by decide +kernel)).trans ((lk_past (by decide +kernel)).trans rfl)
theorem rdF_m3 (n : Addr) (i : Nat) : (rdF n i).lookup ("at_end" : Str) = none := (lk_past (by decide +kernel)).trans ((lk_past (by decide +kernel)).trans rfl)
theorem but_seq {K : PySem.W.Frag} {H H' : Hp} {r n C dx : Addr} {fs : List (Str × V)} {xs : List V} (B : But r H H') (h : H r = some (.ins C dx fs)) (S : SqL K H n xs) : SqL K H' n xs := by
  rcases S with (S | ⟨o, S⟩) | S
  · exact .inl (.inl (B _ _ S (ne_of S h (by intro z; cases z))))
  · exact .inl (.inr ⟨o, B _ _ S (ne_of S h (by intro z; cases z))⟩)
  · exact .inr S
theorem cut_nat (ns : List Int) (i c : Nat) (h : i + c ≤ ns.length) : cutV (intsV ns) (some (i : Int)) (some ((i : Int) + (c : Int))) = intsV ((ns.drop i).take c) := by
  have hl : (intsV ns).length = ns.length := List.length_map ..
  have e1 : HT.sIx (intsV ns).length 0 (some (i : Int)) = i := by
    rw [HT.sIx_nat, hl]
    omega
  have e2 : HT.sIx (intsV ns).length (intsV ns).length (some ((i : Int) + (c : Int))) = i + c := by
    have ec : (i : Int) + (c : Int) = ((i + c : Nat) : Int) := by omega
    rw [ec, HT.sIx_nat, hl]
    omega
  unfold cutV
  rw [e1, e2]
  have e3 : i + c - i = c := by omega
  rw [e3]
  unfold intsV
  rw [List.map_take, List.map_drop]
def spIR (CR : Addr) : Sp := fun vs H Q _ => ∃ (x dx n : Addr), vs = [.ref x, .ref n] ∧ H x = some (.ins CR dx []) ∧
  ∀ H' : Hp, H' x = some (.ins CR dx (rdF n 0)) → But x H H' → Q .non H'
def spEnd (K : PySem.W.Frag) (CR : Addr) : Sp := fun vs H Q _ => ∃ (r n : Addr) (i : Nat) (ns : List Int), vs = [.ref r] ∧ RdrAt CR H r n i ∧ SqL K H n (intsV ns) ∧ Q (.bl (decide (i = ns.length))) H
def spTake (K : PySem.W.Frag) (CR : Addr) : Sp := fun vs H Q _ => ∃ (r n : Addr) (i c : Nat) (ns : List Int), vs = [.ref r, .int (c : Int)] ∧ RdrAt CR H r n i ∧ SqL K H n (intsV ns) ∧ i + c ≤ ns.length ∧
  ∀ (H' : Hp) (p : Addr), RdrAt CR H' r n (i + c) → H' p = some (.lst (intsV ((ns.drop i).take c))) → H p = none → But r H H' → Q (.ref p) H'
def spOne (K : PySem.W.Frag) (CR : Addr) : Sp := fun vs H Q _ => ∃ (r n : Addr) (i : Nat) (z : Int) (ns : List Int), vs = [.ref r] ∧ RdrAt CR H r n i ∧ SqL K H n (intsV ns) ∧ ns[i]? = some z ∧
  ∀ H' : Hp, RdrAt CR H' r n (i + 1) → But r H H' → Q (.int z) H'
theorem scIR : FnScope ["self", "numbers"] ["self", "numbers"] (defScope sIR) := ⟨rfl, rfl, rfl, by decide +kernel, rfl, by decide +kernel, by decide +kernel⟩
theorem scEnd : FnScope ["self"] ["self"] (defScope sEnd) := ⟨rfl, rfl, rfl, by decide +kernel, rfl, by decide +kernel, by decide +kernel⟩
theorem scTake : FnScope ["self", "count", "taken"] ["self", "count"] (defScope sTake) := ⟨rfl, rfl, rfl, by decide +kernel, rfl, by decide +kernel, by decide +kernel⟩
theorem scOne : FnScope ["self"] ["self"] (defScope sOne) := ⟨rfl, rfl, rfl, by decide +kernel, rfl, by decide +kernel, by decide +kernel⟩
section
variable {P : Program} {w : World} {K : PySem.W.Frag} {mg : Str → Option Value} {base : Heap} {f : Addr} {fd : FuncData} {CM CO CF CR : Addr}
theorem ok_ir (T : Txt K mg CM CO CF CR) (F : Fun K "__init__" "Reader.__init__" sIR f fd) : FnOk P w K mg base CX0 1 f fd ["self", "numbers"] (spIR CR) := by
  refine F.ok scIR (fun vs H Q E h => ?_) (fun cdv A outer s H vs Q E hr h => ⟨_, pss_cons (ps_fld (pv 0) (pv 1) rfl) (pss_one (ps_fld (pv 0) pe_int rfl)), ?_⟩)
  · obtain ⟨x, dx, n, rfl, _⟩ := h
    rfl
  · obtain ⟨x, dx, n, rfl, hx, k⟩ := h
    refine ⟨_, rfl, _, rfl, x, CR, dx, [], rfl, hx, T.cR, T.rN, (by show 0 < 1000; decide), ?_⟩
    refine ⟨_, rfl, x, CR, dx, _, rfl, upd_same, T.cR, T.rP, (by show 1 < 1000; decide), ?_⟩
    exact k _ (Eq.trans upd_same (congrArg (fun z => some (HO.ins CR dx z)) (rdF_new n))) (but_upd.trans but_upd)
theorem ok_end (T : Txt K mg CM CO CF CR) (F : Fun K "at_end" "Reader.at_end" sEnd f fd) : FnOk P w K mg base CX0 1 f fd ["self"] (spEnd K CR) := by
  refine F.ok scEnd (fun vs H Q E h => ?_) (fun cdv A outer s H vs Q E hr h => ⟨_, pss_one (ps_ret (pe_cmpR op_eq (pe_fld (pv 0) rfl) (pe_callB call_len_seq (by rfl) T.bLen PySem.boot_len (pa_cons (pe_fld (pv 0) rfl) pa_nil)) (nomark _))), ?_⟩)
  · obtain ⟨r, n, i, ns, rfl, _⟩ := h
    rfl
  · obtain ⟨r, n, i, ns, rfl, ⟨dx, hr1⟩, hS, q⟩ := h
    refine ⟨_, rfl, r, CR, dx, _, _, rfl, hr1, T.cR, T.rP, rdF_p n i, _, rfl, r, CR, dx, _, _, rfl, hr1, T.cR, T.rN, rdF_n n i, n, _, rfl, Or.inl hS, rfl, ?_⟩
    have e : decide (i = ns.length) = decide (V.int (i : Int) = V.int (((intsV ns).length : Nat) : Int)) := by
      have hl : (intsV ns).length = ns.length := List.length_map ..
      rw [hl]
      refine decide_eq_decide.mpr ⟨fun z => by rw [z], fun z => ?_⟩
      injection z with z
      omega
    rw [e] at q
    exact q
theorem ok_take (T : Txt K mg CM CO CF CR) (F : Fun K "take" "Reader.take" sTake f fd) : FnOk P w K mg base CX0 1 f fd ["self", "count"] (spTake K CR) := by
  refine F.ok scTake (fun vs H Q E h => ?_) (fun cdv A outer s H vs Q E hr h => ⟨_,
    pss_cons (ps_set (i := 2) scTake.nd rfl (Or.inl rfl) (pe_slice sl_list (pe_fld (pv 0) rfl) (po_some (pe_fld (pv 0) rfl)) (po_some (pe_op op_add (pe_fld (pv 0) rfl) (pv 1)))))
    (pss_cons (ps_fld (pv 0) (pe_op op_add (pe_fld (pv 0) rfl) (pv 1)) rfl)
    (pss_one (ps_ret (pv 2)))), ?_⟩)
  · obtain ⟨r, n, i, c, ns, rfl, _⟩ := h
    rfl
  · obtain ⟨r, n, i, c, ns, rfl, ⟨dx, hr1⟩, hS, hic, k⟩ := h
    refine ⟨_, rfl, r, CR, dx, _, _, rfl, hr1, T.cR, T.rN, rdF_n n i, _, rfl, r, CR, dx, _, _, rfl, hr1, T.cR, T.rP, rdF_p n i, _, rfl, ?_⟩
    refine ⟨_, rfl, r, CR, dx, _, _, rfl, hr1, T.cR, T.rP, rdF_p n i, _, rfl, _, _, rfl, rfl, _, rfl, n, _, rfl, hS, fun p hp => ?_⟩
    have S1 : Same H (upd H p (.lst (cutV (intsV ns) (some (i : Int)) (some ((i : Int) + (c : Int)))))) := same_upd hp
    have pr : p ≠ r := (ne_of_none hr1 hp).symm
    refine ⟨_, rfl, r, CR, dx, _, _, rfl, S1 _ _ hr1, T.cR, T.rP, rdF_p n i, _, rfl, _, _, rfl, rfl, _, rfl, r, CR, dx, _, rfl, S1 _ _ hr1, T.cR, T.rP, (by show 2 < 1000; decide), ?_⟩
    refine ⟨_, rfl, k _ p ⟨dx, Eq.trans upd_same (congrArg (fun z => some (HO.ins CR dx z)) ?_)⟩ ?_ hp ((same_but S1).trans but_upd)⟩
    · have e : (i : Int) + (c : Int) = ((i + c : Nat) : Int) := by omega
      show putF "place" (.int ((i : Int) + (c : Int))) (rdF n i) = _
      rw [e]
      exact rdF_put n i (i + c)
    · rw [upd_ne pr, upd_same, cut_nat ns i c hic]
theorem ok_one (T : Txt K mg CM CO CF CR) (F : Fun K "take_one" "Reader.take_one" sOne f fd) (M : Mth P w K mg base 1 CR "take" ["self", "count"] (spTake K CR)) : FnOk P w K mg base CX0 2 f fd ["self"] (spOne K CR) := by
  refine F.ok scOne (fun vs H Q E h => ?_) (fun cdv A outer s H vs Q E hr h => ⟨_,
    pss_one (ps_ret (pe_ix ix_list (pe_methD M T.cR hr (pv 0) (pa_cons pe_int pa_nil)) pe_int (fun _ _ => rfl))), ?_⟩)
  · obtain ⟨r, n, i, z, ns, rfl, _⟩ := h
    rfl
  · obtain ⟨r, n, i, z, ns, rfl, R, hS, hz, k⟩ := h
    obtain ⟨dx, hr1⟩ := R
    have hi : i < ns.length := (List.getElem?_eq_some_iff.mp hz).1
    refine ⟨_, rfl, r, dx, _, rfl, hr1, rdF_m1 n i, r, n, i, 1, ns, rfl, ⟨dx, hr1⟩, hS, by omega, fun H1 p R1 hp hn B => ?_⟩
    refine ⟨p, _, _, _, rfl, rfl, SqL.of hp, at_of (j := 0) (v := .int z) rfl ?_, k H1 R1 B⟩
    have e : (ns.drop i).take 1 = [z] := by
      rw [List.drop_eq_getElem_cons hi]
      have ez : ns[i] = z := (List.getElem?_eq_some_iff.mp hz).2
      rw [ez]
      rfl
    rw [e]
    rfl
end
end Oil
set_option maxRecDepth 100000
set_option maxHeartbeats 4000000
namespace Oil
open PySem PySem.Spec PyProof.Rows L2
open Si83 (Part Material less lowest)
abbrev sNx : Stmt := top 37
abbrev nNx : List Str := ["order", "reader", "call", "parts", "drops", "fraction"]
theorem rd_ord {CO CR dx dr b m n : Addr} {i : Nat} : HO.ins CO dx (ordF b m) ≠ HO.ins CR dr (rdF n i) := by
  intro z
  injection z with _ _ z
  injection z with z _
  injection z with z _
  exact absurd z (by decide +kernel)
theorem rd_mat {CM CR dx dr p n : Addr} {i : Nat} {q : Material} : HO.ins CM dx (matF q p) ≠ HO.ins CR dr (rdF n i) := by
  intro z
  injection z with _ _ z
  injection z with z _
  injection z with z _
  exact absurd z (by decide +kernel)
theorem OrdAt.butR {CM CO CR t : Addr} {H H' : Hp} {a m r n : Addr} {i : Nat} {o : Si83.Order} (O : OrdAt CM CO t H a m o) (R : RdrAt CR H r n i) (B : But r H H') : OrdAt CM CO t H' a m o := by
  obtain ⟨dx, b, as, O⟩ := O
  obtain ⟨dr, R⟩ := R
  exact ⟨dx, b, as, B _ _ O.ob (ne_of O.ob R rd_ord), B _ _ O.bounds (ne_of O.bounds R (by intro z; cases z)), B _ _ O.mats (ne_of O.mats R (by intro z; cases z)), O.bm, O.bt, O.mt, O.len, fun j x q h1 h2 => by
    obtain ⟨dy, p, M⟩ := O.each j x q h1 h2
    exact ⟨dy, p, B _ _ M.ob (ne_of M.ob R rd_mat), B _ _ M.parts (ne_of M.parts R (by intro z; cases z)), M.pm, M.pt⟩⟩
/-- what stands of the rest: the reader and the numbers -/
theorem RdrAt.but2 {CM CO CR t : Addr} {H H' : Hp} {a m r n : Addr} {i : Nat} {o : Si83.Order} (R : RdrAt CR H r n i) (O : OrdAt CM CO t H a m o) (B : But2 a m H H') : RdrAt CR H' r n i := by
  obtain ⟨dx, b, as, O⟩ := O
  obtain ⟨dr, R⟩ := R
  exact ⟨dr, B _ _ R (ne_of O.ob R rd_ord).symm (ne_of R O.mats (by intro z; cases z))⟩
theorem seq_but2 {K : PySem.W.Frag} {CM CO t : Addr} {H H' : Hp} {a m n : Addr} {z : Int} {ns : List Int} {o : Si83.Order} (S : SqL K H n (intsV (z :: ns))) (O : OrdAt CM CO t H a m o) (B : But2 a m H H') : SqL K H' n (intsV (z :: ns)) := by
  obtain ⟨dx, b, as, O⟩ := O
  rcases S with (S | ⟨o', S⟩) | S
  · refine .inl (.inl (B _ _ S (ne_of S O.ob (by intro z; cases z)) (ne_of S O.mats ?_)))
    intro y
    injection y with y
    cases as with
    | nil => cases y
    | cons c as =>
      injection y with y _
      cases y
  · exact .inl (.inr ⟨o', B _ _ S (ne_of S O.ob (by intro z; cases z)) (ne_of S O.mats (by intro z; cases z))⟩)
  · exact .inr S
def spNx (K : PySem.W.Frag) (CM CO CR : Addr) : Sp := fun vs H Q _ => ∃ (a m r n t : Addr) (i : Nat) (o : Si83.Order) (q : Si83.Call) (ns rest : List Int) (ts : List V), vs = [.ref a, .ref r] ∧ OrdAt CM CO t H a m o ∧ OrdOk o ∧ RdrAt CR H r n i ∧ SqL K H n (intsV ns) ∧ H t = some (.lst ts) ∧
  callOk q ∧ ns.drop i = flat q ++ rest ∧
  ∀ (H' : Hp) (p m' : Addr), OrdAt CM CO t H' a m' (Si83.step o q).1 → RdrAt CR H' r n (i + (flat q).length) → SqL K H' n (intsV ns) → H' p = some (.lst (intsV (ansOf o q))) → H p = none → H' t = some (.lst ts) → Q (.ref p) H'
theorem scNx : FnScope nNx ["order", "reader"] (defScope sNx) := ⟨rfl, rfl, rfl, by decide +kernel, rfl, by decide +kernel, by decide +kernel⟩
theorem OrdAt.ref {CM CO t : Addr} {H : Hp} {a m : Addr} {o : Si83.Order} (O : OrdAt CM CO t H a m o) : (∃ dx fs, H a = some (.ins CO dx fs)) ∧ (∃ xs, H m = some (.lst xs)) ∧ m ≠ t := by
  obtain ⟨dx, b, as, O⟩ := O
  exact ⟨⟨dx, _, O.ob⟩, ⟨_, O.mats⟩, O.mt⟩
theorem but_free {r c : Addr} {H H' : Hp} {u : HO} (B : But r H H') (h : H' r = some u) (n : H' c = none) : H c = none := by
  cases e : H c with
  | none => rfl
  | some v =>
    by_cases z : c = r
    · rw [z, h] at n
      cases n
    · rw [B _ _ e z] at n
      cases n
/-- the end of each call: what the called def leaves is what is due -/
theorem nx_fin {K : PySem.W.Frag} {CM CO CR a m r n t : Addr} {H H2 : Hp} {Q : VK} {i j : Nat} {o : Si83.Order} {q : Si83.Call} {z0 : Int} {ns : List Int} {ts : List V}
    (k : ∀ (H' : Hp) (p m' : Addr), OrdAt CM CO t H' a m' (Si83.step o q).1 → RdrAt CR H' r n (i + (flat q).length) → SqL K H' n (intsV (z0 :: ns)) → H' p = some (.lst (intsV (ansOf o q))) → H p = none → H' t = some (.lst ts) → Q (.ref p) H')
    (O2 : OrdAt CM CO t H2 a m o) (R2 : RdrAt CR H2 r n j) (S2 : SqL K H2 n (intsV (z0 :: ns))) (ht2 : H2 t = some (.lst ts)) (B : But r H H2) (ej : j = i + (flat q).length) : CallEnd CM CO t H2 Q a m o q := by
  intro H3 p m' O3 hp np B3
  subst ej
  obtain ⟨⟨dx, fs, ha⟩, _, mt⟩ := O2.ref
  obtain ⟨dr, hr⟩ := R2
  exact k H3 p m' O3 (RdrAt.but2 ⟨dr, hr⟩ O2 B3) (seq_but2 S2 O2 B3) hp (but_free B hr np) (B3 _ _ ht2 (ne_of ht2 ha (by intro z; cases z)) mt.symm)
/-- .. of a call that leaves the order as it is -/
theorem nx_pure {CM CO a m t : Addr} {H2 : Hp} {Q : VK} {o : Si83.Order} {q : Si83.Call} (C : CallEnd CM CO t H2 Q a m o q) (O2 : OrdAt CM CO t H2 a m o) (es : (Si83.step o q).1 = o) :
    ∀ (H' : Hp) (p : Addr), Same H2 H' → H' p = some (.lst (intsV (ansOf o q))) → H2 p = none → Q (.ref p) H' := fun H' p S hp np =>
  C H' p m (by rw [es]; exact O2.same S) hp np (same_but2 S)
theorem step_check (o : Si83.Order) (l : List Nat) : (Si83.step o (.check l)).1 = o := by
  by_cases c1 : l.length = o.materials.length
  · cases c2 : o.right l with
    | false => rw [check_no c1 c2]
    | true => rw [check_yes c1 c2]
  · rw [check_len c1]
theorem step_nearest (o : Si83.Order) (p q : Nat) : (Si83.step o (.nearest p q)).1 = o := by
  by_cases c : p < 1 ∨ q < p ∨ 10000 < q
  · rw [nearest_no c]
  · rw [nearest_yes c]
theorem ints_natsV (l : List Nat) : intsV (zsOf l) = natsV l := (natsV_ints l).symm
theorem drop_get {ns l : List Int} {i : Nat} (h : ns.drop i = l) (j : Nat) : ns[i + j]? = l[j]? := by
  rw [← h, List.getElem?_drop]
theorem drop_len {ns l r : List Int} {i : Nat} (h : ns.drop i = l ++ r) (hl : 0 < l.length) : i + l.length ≤ ns.length := by
  have e := congrArg List.length h
  rw [List.length_drop, List.length_append] at e
  omega
theorem drop_more {ns l r : List Int} {i : Nat} (h : ns.drop i = l ++ r) : ns.drop (i + l.length) = r := by
  rw [← List.drop_drop, h]
  exact List.drop_left
theorem drop_one {ns r : List Int} {z : Int} {i : Nat} (h : ns.drop i = z :: r) : ns.drop (i + 1) = r := by
  rw [← List.drop_drop, h]
  rfl
theorem dec_call {i j : Int} : decide (V.int i = V.int j) = decide (i = j) := dec_int
theorem three {l : List Nat} (h : l.length = 3) : ∃ x y z, l = [x, y, z] := match l, h with
  | [x, y, z], _ => ⟨x, y, z, rfl⟩
section
variable {P : Program} {w : World} {K : PySem.W.Frag} {mg : Str → Option Value} {base : Heap} {f fB fM fC fS fN : Addr} {fd : FuncData} {CM CO CF CR : Addr}
theorem ok_nx (T : Txt K mg CM CO CF CR) (F : Fun K "next_answer" "next_answer" sNx f fd) (MT : Mth P w K mg base 1 CR "take" ["self", "count"] (spTake K CR)) (MO : Mth P w K mg base 2 CR "take_one" ["self"] (spOne K CR))
    (DB : Def P w K mg base 1 "begins" fB ["order", "bounds"] (spBeg CM CO)) (DM : Def P w K mg base 3 "material" fM ["order", "parts", "wanted", "most"] (spMat CM CO)) (DC : Def P w K mg base 4 "check" fC ["order", "formula"] (spChk CM CO))
    (DS : Def P w K mg base 5 "strongest" fS ["order", "drops"] (spSt CM CO)) (DN : Def P w K mg base 5 "nearest" fN ["order", "above", "below"] (spNe CM CO)) :
    FnOk P w K mg base CX0 6 f fd ["order", "reader"] (spNx K CM CO CR) := by
  refine F.ok scNx (fun vs H Q E h => ?_) (fun cdv A outer s H vs Q E hr h => ⟨_,
    pss_cons (ps_set (i := 2) scNx.nd rfl (Or.inl rfl) (pe_methD0 MO T.cR (hr.mono (by decide)) (pv 1)))
    (pss_cons (ps_if (pt_cmpR op_eq (pv 2) (pe_const T.kBegins rfl) (nomark _)) (pss_one (ps_ret (pe_callD DB (hr.mono (by decide)) rfl (pa_cons (pv 0) (pa_cons (pe_methD MT T.cR (hr.mono (by decide)) (pv 1) (pa_cons (pe_const T.kSub rfl) pa_nil)) pa_nil))))) pss_nil)
    (pss_cons (ps_if (pt_cmpR op_eq (pv 2) (pe_const T.kMaterial rfl) (nomark _))
      (pss_cons (ps_set (i := 3) scNx.nd rfl (Or.inl rfl) (pe_methD MT T.cR (hr.mono (by decide)) (pv 1) (pa_cons (pe_const T.kSub rfl) pa_nil)))
      (pss_cons (ps_set (i := 4) scNx.nd rfl (Or.inl rfl) (pe_methD MT T.cR (hr.mono (by decide)) (pv 1) (pa_cons pe_int pa_nil)))
      (pss_one (ps_ret (pe_callD DM (hr.mono (by decide)) rfl (pa_cons (pv 0) (pa_cons (pv 3) (pa_cons (pe_ix ix_list (pv 4) pe_int (fun _ _ => rfl)) (pa_cons (pe_ix ix_list (pv 4) pe_int (fun _ _ => rfl)) pa_nil))))))))) pss_nil)
    (pss_cons (ps_if (pt_cmpR op_eq (pv 2) (pe_const T.kCheck rfl) (nomark _)) (pss_one (ps_ret (pe_callD DC (hr.mono (by decide)) rfl (pa_cons (pv 0) (pa_cons (pe_methD MT T.cR (hr.mono (by decide)) (pv 1) (pa_cons (pe_methD0 MO T.cR (hr.mono (by decide)) (pv 1)) pa_nil)) pa_nil))))) pss_nil)
    (pss_cons (ps_if (pt_cmpR op_eq (pv 2) (pe_const T.kStrongest rfl) (nomark _)) (pss_one (ps_ret (pe_callD DS hr rfl (pa_cons (pv 0) (pa_cons (pe_methD0 MO T.cR (hr.mono (by decide)) (pv 1)) pa_nil))))) pss_nil)
    (pss_cons (ps_set (i := 5) scNx.nd rfl (Or.inl rfl) (pe_methD MT T.cR (hr.mono (by decide)) (pv 1) (pa_cons pe_int pa_nil)))
    (pss_one (ps_ret (pe_callD DN hr rfl (pa_cons (pv 0) (pa_cons (pe_ix ix_list (pv 5) pe_int (fun _ _ => rfl)) (pa_cons (pe_ix ix_list (pv 5) pe_int (fun _ _ => rfl)) pa_nil))))))))))), ?_⟩)
  · obtain ⟨a, m, r, n, t, i, o, q, ns, rest, ts, rfl, _⟩ := h
    rfl
  · obtain ⟨a, m, r, n, t, i, o, q, ns, rest, ts, rfl, O, Ok, R, S, ht, cq, hd, k⟩ := h
    obtain ⟨z0, ns0, rfl⟩ : ∃ z0 ns0, ns = z0 :: ns0 := by
      cases ns with
      | nil =>
        rw [List.drop_nil] at hd
        cases q <;> cases hd
      | cons z0 ns0 => exact ⟨z0, ns0, rfl⟩
    generalize hns : z0 :: ns0 = ns at S hd
    obtain ⟨dr, hr1⟩ := R
    have R : RdrAt CR H r n i := ⟨dr, hr1⟩
    have first : ∀ z tl, flat q = z :: tl → ns[i]? = some z ∧ ns.drop (i + 1) = tl ++ rest ∧ i + 1 + tl.length ≤ ns.length := fun z tl e => by
      rw [e] at hd
      have h1 := drop_get hd 0
      have h2 := drop_one (z := z) (r := tl ++ rest) hd
      have h3 := drop_len hd (by show 0 < tl.length + 1; omega)
      exact ⟨h1, h2, by rw [List.length_cons] at h3; omega⟩
    cases q with
    | begins b =>
      obtain ⟨f1, f2, f3⟩ := first 0 (zsOf b) rfl
      rw [ints_len] at f3
      refine ⟨_, rfl, r, dr, _, rfl, hr1, rdF_m2 n i, r, n, i, 0, ns, rfl, R, S, f1, fun H1 R1 B1 => ?_⟩
      have O1 := O.butR R B1
      have S1 := but_seq B1 hr1 S
      have ht1 := B1 _ _ ht (ne_of ht hr1 (by intro z; cases z))
      refine ⟨_, rfl, rfl, _, rfl, ?_⟩
      rw [show decide (V.int (0 : Int) = V.int 0) = true from by decide]
      refine iteT ?_
      obtain ⟨dr1, hr2⟩ := R1
      refine ⟨_, rfl, _, rfl, r, dr1, _, rfl, hr2, rdF_m1 n _, r, n, i + 1, 3, ns, rfl, ⟨dr1, hr2⟩, S1, by rw [cq.1] at f3; omega, fun H2 p R2 hp np B2 => ?_⟩
      have e3 : (ns.drop (i + 1)).take 3 = zsOf b := by
        rw [f2]
        have : (zsOf b).length = 3 := by rw [ints_len]; exact cq.1
        rw [← this]
        exact List.take_left
      rw [e3, ints_natsV] at hp
      have ht2 := B2 _ _ ht1 (ne_of ht1 hr2 (by intro z; cases z))
      refine ⟨a, m, p, t, o, b, ts, rfl, O1.butR ⟨dr1, hr2⟩ B2, ht2, hp, (ne_of_none ht1 np).symm, cq.1, ?_⟩
      subst hns
      refine nx_fin k (O1.butR ⟨dr1, hr2⟩ B2) R2 (but_seq B2 hr2 S1) ht2 (B1.trans B2) ?_
      show i + 1 + 3 = i + ((zsOf b).length + 1)
      rw [ints_len, cq.1]
    | material mt =>
      obtain ⟨f1, f2, f3⟩ := first 1 (zsOf mt.parts ++ [(mt.wanted : Int), (mt.most : Int)]) rfl
      have l3 : (zsOf mt.parts).length = 3 := by rw [ints_len]; exact cq.1
      have f3' : i + 1 + 5 ≤ ns.length := by
        rw [List.length_append, l3] at f3
        exact f3
      refine ⟨_, rfl, r, dr, _, rfl, hr1, rdF_m2 n i, r, n, i, 1, ns, rfl, R, S, f1, fun H1 R1 B1 => ?_⟩
      have O1 := O.butR R B1
      have S1 := but_seq B1 hr1 S
      have ht1 := B1 _ _ ht (ne_of ht hr1 (by intro z; cases z))
      refine ⟨_, rfl, rfl, _, rfl, ?_⟩
      rw [show decide (V.int (1 : Int) = V.int 0) = false from by decide]
      refine iteF ?_
      refine ⟨_, rfl, rfl, _, rfl, ?_⟩
      rw [show decide (V.int (1 : Int) = V.int 1) = true from by decide]
      refine iteT ?_
      obtain ⟨dr1, hr2⟩ := R1
      refine ⟨_, rfl, r, dr1, _, rfl, hr2, rdF_m1 n _, r, n, i + 1, 3, ns, rfl, ⟨dr1, hr2⟩, S1, by omega, fun H2 p R2 hp np B2 => ?_⟩
      have e3 : (ns.drop (i + 1)).take 3 = zsOf mt.parts := by
        rw [f2, List.append_assoc, ← l3]
        exact List.take_left
      rw [e3, ints_natsV] at hp
      have ht2 := B2 _ _ ht1 (ne_of ht1 hr2 (by intro z; cases z))
      have O2 := O1.butR ⟨dr1, hr2⟩ B2
      have S2 := but_seq B2 hr2 S1
      obtain ⟨dr2, hr3⟩ := R2
      refine ⟨_, rfl, r, dr2, _, rfl, hr3, rdF_m1 n _, r, n, i + 1 + 3, 2, ns, rfl, ⟨dr2, hr3⟩, S2, by omega, fun H3 p2 R3 hp2 np2 B3 => ?_⟩
      have e4 : (ns.drop (i + 1 + 3)).take 2 = [(mt.wanted : Int), (mt.most : Int)] := by
        rw [List.append_assoc] at f2
        have := drop_more f2
        rw [l3] at this
        rw [this]
        rfl
      rw [e4] at hp2
      have pr : p ≠ r := ne_of hp hr3 (by intro z; cases z)
      have hp3 := B3 _ _ hp pr
      have ht3 := B3 _ _ ht2 (ne_of ht2 hr3 (by intro z; cases z))
      have O3 := O2.butR ⟨dr2, hr3⟩ B3
      obtain ⟨_, ⟨_, hm1⟩, _⟩ := O1.ref
      refine ⟨_, rfl, _, rfl, _, rfl, p2, _, _, _, rfl, rfl, SqL.of hp2, at_of (j := 0) rfl rfl, _, rfl, p2, _, _, _, rfl, rfl, SqL.of hp2, at_of (j := 1) rfl rfl, ?_⟩
      refine ⟨a, m, p, t, o, mt, ts, rfl, O3, Ok, ht3, hp3, (ne_of_none ht1 np).symm, (ne_of_none hm1 np).symm, cq.1, ?_⟩
      subst hns
      refine nx_fin k O3 R3 (but_seq B3 hr3 S2) ht3 ((B1.trans B2).trans B3) ?_
      show i + 1 + 3 + 2 = i + ((zsOf mt.parts ++ [(mt.wanted : Int), (mt.most : Int)]).length + 1)
      rw [List.length_append, l3]
      rfl
    | check l =>
      obtain ⟨f1, f2, f3⟩ := first 2 ((l.length : Int) :: zsOf l) rfl
      rw [List.length_cons, ints_len] at f3
      refine ⟨_, rfl, r, dr, _, rfl, hr1, rdF_m2 n i, r, n, i, 2, ns, rfl, R, S, f1, fun H1 R1 B1 => ?_⟩
      have O1 := O.butR R B1
      have S1 := but_seq B1 hr1 S
      have ht1 := B1 _ _ ht (ne_of ht hr1 (by intro z; cases z))
      refine ⟨_, rfl, rfl, _, rfl, ?_⟩
      rw [show decide (V.int (2 : Int) = V.int 0) = false from by decide]
      refine iteF ?_
      refine ⟨_, rfl, rfl, _, rfl, ?_⟩
      rw [show decide (V.int (2 : Int) = V.int 1) = false from by decide]
      refine iteF ?_
      refine ⟨_, rfl, rfl, _, rfl, ?_⟩
      rw [show decide (V.int (2 : Int) = V.int 2) = true from by decide]
      refine iteT ?_
      obtain ⟨dr1, hr2⟩ := R1
      have g1 : ns[i + 1]? = some (l.length : Int) := drop_get (j := 0) f2
      refine ⟨_, rfl, _, rfl, r, dr1, _, rfl, hr2, rdF_m1 n _, _, rfl, r, dr1, _, rfl, hr2, rdF_m2 n _, r, n, i + 1, (l.length : Int), ns, rfl, ⟨dr1, hr2⟩, S1, g1, fun H2 R2 B2 => ?_⟩
      have ht2 := B2 _ _ ht1 (ne_of ht1 hr2 (by intro z; cases z))
      have O2 := O1.butR ⟨dr1, hr2⟩ B2
      have S2 := but_seq B2 hr2 S1
      obtain ⟨dr2, hr3⟩ := R2
      refine ⟨r, n, i + 1 + 1, l.length, ns, rfl, ⟨dr2, hr3⟩, S2, by omega, fun H3 p R3 hp np B3 => ?_⟩
      have e3 : (ns.drop (i + 1 + 1)).take l.length = zsOf l := by
        rw [drop_one f2, ← ints_len l]
        exact List.take_left
      rw [e3, ints_natsV] at hp
      have ht3 := B3 _ _ ht2 (ne_of ht2 hr3 (by intro z; cases z))
      have O3 := O2.butR ⟨dr2, hr3⟩ B3
      refine ⟨a, p, o, l, rfl, O3.rd, Ok, hp, ?_⟩
      subst hns
      refine nx_pure (nx_fin k O3 R3 (but_seq B3 hr3 S2) ht3 ((B1.trans B2).trans B3) ?_) O3 (step_check o l)
      show i + 1 + 1 + l.length = i + ((zsOf l).length + 1 + 1)
      rw [ints_len]
      omega
    | strongest c =>
      obtain ⟨f1, f2, f3⟩ := first 3 [(c : Int)] rfl
      refine ⟨_, rfl, r, dr, _, rfl, hr1, rdF_m2 n i, r, n, i, 3, ns, rfl, R, S, f1, fun H1 R1 B1 => ?_⟩
      have O1 := O.butR R B1
      have S1 := but_seq B1 hr1 S
      have ht1 := B1 _ _ ht (ne_of ht hr1 (by intro z; cases z))
      refine ⟨_, rfl, rfl, _, rfl, ?_⟩
      rw [show decide (V.int (3 : Int) = V.int 0) = false from by decide]
      refine iteF ?_
      refine ⟨_, rfl, rfl, _, rfl, ?_⟩
      rw [show decide (V.int (3 : Int) = V.int 1) = false from by decide]
      refine iteF ?_
      refine ⟨_, rfl, rfl, _, rfl, ?_⟩
      rw [show decide (V.int (3 : Int) = V.int 2) = false from by decide]
      refine iteF ?_
      refine ⟨_, rfl, rfl, _, rfl, ?_⟩
      rw [show decide (V.int (3 : Int) = V.int 3) = true from by decide]
      refine iteT ?_
      obtain ⟨dr1, hr2⟩ := R1
      have g1 : ns[i + 1]? = some (c : Int) := drop_get (j := 0) f2
      refine ⟨_, rfl, _, rfl, r, dr1, _, rfl, hr2, rdF_m2 n _, r, n, i + 1, (c : Int), ns, rfl, ⟨dr1, hr2⟩, S1, g1, fun H2 R2 B2 => ?_⟩
      have ht2 := B2 _ _ ht1 (ne_of ht1 hr2 (by intro z; cases z))
      have O2 := O1.butR ⟨dr1, hr2⟩ B2
      have S2 := but_seq B2 hr2 S1
      refine ⟨a, o, c, rfl, O2.rd, Ok, ?_⟩
      have ea : ansOf o (.strongest c) = bestTold (best ltS ((upTo o c).map (offOf o))) := (strongest_is Ok c).symm
      rw [← ea]
      subst hns
      exact nx_pure (nx_fin k O2 R2 S2 ht2 (B1.trans B2) rfl) O2 rfl
    | nearest c d =>
      obtain ⟨f1, f2, f3⟩ := first 4 [(c : Int), (d : Int)] rfl
      refine ⟨_, rfl, r, dr, _, rfl, hr1, rdF_m2 n i, r, n, i, 4, ns, rfl, R, S, f1, fun H1 R1 B1 => ?_⟩
      have O1 := O.butR R B1
      have S1 := but_seq B1 hr1 S
      have ht1 := B1 _ _ ht (ne_of ht hr1 (by intro z; cases z))
      refine ⟨_, rfl, rfl, _, rfl, ?_⟩
      rw [show decide (V.int (4 : Int) = V.int 0) = false from by decide]
      refine iteF ?_
      refine ⟨_, rfl, rfl, _, rfl, ?_⟩
      rw [show decide (V.int (4 : Int) = V.int 1) = false from by decide]
      refine iteF ?_
      refine ⟨_, rfl, rfl, _, rfl, ?_⟩
      rw [show decide (V.int (4 : Int) = V.int 2) = false from by decide]
      refine iteF ?_
      refine ⟨_, rfl, rfl, _, rfl, ?_⟩
      rw [show decide (V.int (4 : Int) = V.int 3) = false from by decide]
      refine iteF ?_
      obtain ⟨dr1, hr2⟩ := R1
      refine ⟨_, rfl, r, dr1, _, rfl, hr2, rdF_m1 n _, r, n, i + 1, 2, ns, rfl, ⟨dr1, hr2⟩, S1, f3, fun H2 p R2 hp np B2 => ?_⟩
      have e3 : (ns.drop (i + 1)).take 2 = [(c : Int), (d : Int)] := by
        rw [f2]
        rfl
      rw [e3] at hp
      have ht2 := B2 _ _ ht1 (ne_of ht1 hr2 (by intro z; cases z))
      have O2 := O1.butR ⟨dr1, hr2⟩ B2
      have S2 := but_seq B2 hr2 S1
      refine ⟨_, rfl, _, rfl, p, _, _, _, rfl, rfl, SqL.of hp, at_of (j := 0) rfl rfl, _, rfl, p, _, _, _, rfl, rfl, SqL.of hp, at_of (j := 1) rfl rfl, ?_⟩
      refine ⟨a, o, c, d, rfl, O2.rd, Ok, ?_⟩
      subst hns
      exact nx_pure (nx_fin k O2 R2 S2 ht2 (B1.trans B2) rfl) O2 (step_nearest o c d)
end
end Oil
set_option maxRecDepth 100000
set_option maxHeartbeats 4000000
namespace Oil
open PySem PySem.Spec PyProof.Rows L2
open Si83 (Part Material less lowest)
abbrev sAns : Stmt := top 38
abbrev nAns : List Str := ["calls", "order", "reader", "told", "answer"]
def spAns (K : PySem.W.Frag) : Sp := fun vs H Q _ => ∃ (n : Addr) (ns : List Int), vs = [.ref n] ∧ SqL K H n (ns.map V.int) ∧ PySi83.answers_asked ns = true ∧
  ∀ (H' : Hp) (p : Addr), H' p = some (.lst ((PySi83.answers ns).map V.int)) → Q (.ref p) H'
theorem scAns : FnScope nAns ["calls"] (defScope sAns) := ⟨rfl, rfl, rfl, by decide +kernel, rfl, by decide +kernel, by decide +kernel⟩
/-- the numbers handed in, whatever is written at t -/
def SqA (K : PySem.W.Frag) (t : Addr) (H : Hp) (n : Addr) (xs : List V) : Prop := (n ≠ t ∧ SqL K H n xs) ∨ ∀ H' : Hp, SqL K H' n xs
theorem SqA.sq {K : PySem.W.Frag} {t n : Addr} {H : Hp} {xs : List V} (S : SqA K t H n xs) : SqL K H n xs := by
  rcases S with S | S
  · exact S.2
  · exact S H
theorem SqA.of {K : PySem.W.Frag} {t n : Addr} {H H' : Hp} {xs : List V} (S : SqA K t H n xs) (h : SqL K H' n xs) : SqA K t H' n xs := by
  rcases S with S | S
  · exact .inl ⟨S.1, h⟩
  · exact .inr S
theorem SqA.put {K : PySem.W.Frag} {t n : Addr} {H : Hp} {o : HO} {xs : List V} (S : SqA K t H n xs) : SqA K t (upd H t o) n xs := by
  rcases S with ⟨ne, S⟩ | S
  · refine .inl ⟨ne, ?_⟩
    rcases S with (S | ⟨o', S⟩) | S
    · exact .inl (.inl (by rw [upd_ne ne]; exact S))
    · exact .inl (.inr ⟨o', by rw [upd_ne ne]; exact S⟩)
    · exact .inr S
  · exact .inr S
theorem SqA.new {K : PySem.W.Frag} {t n : Addr} {H : Hp} {xs : List V} (S : SqL K H n xs) (ht : H t = none) : SqA K t H n xs := by
  rcases S with (S | ⟨o', S⟩) | S
  · exact .inl ⟨ne_of_none S ht, .inl (.inl S)⟩
  · exact .inl ⟨ne_of_none S ht, .inl (.inr ⟨o', S⟩)⟩
  · exact .inr fun H' => .inr S
/-- ahead of a turn: d is done, r is left -/
def AnsW (K : PySem.W.Frag) (CM CO CR n a y t : Addr) (qs : List Si83.Call) (k : Nat) (σ : L2.St) (H : Hp) : Prop := ∃ (d r : List Si83.Call) (m : Addr) (v4 : Option V), qs = d ++ r ∧ r.length = k ∧
  σ = [some (.ref n), some (.ref a), some (.ref y), some (.ref t), v4] ∧ OrdAt CM CO t H a m (after Si83.init d) ∧ RdrAt CR H y n (flats d).length ∧ SqA K t H n (intsV (flats qs)) ∧ H t = some (.lst (intsV (out Si83.init d)))
section
variable {P : Program} {w : World} {K : PySem.W.Frag} {mg : Str → Option Value} {base : Heap} {f fN : Addr} {fd : FuncData} {CM CO CF CR : Addr}
theorem ok_ans (T : Txt K mg CM CO CF CR) (F : Fun K "answers" "answers" sAns f fd) (MO : Maker P w K mg base 1 "Order" CO ["self"] (spIO CO)) (MR : Maker P w K mg base 1 "Reader" CR ["self", "numbers"] (spIR CR))
    (ME : Mth P w K mg base 1 CR "at_end" ["self"] (spEnd K CR)) (DN : Def P w K mg base 6 "next_answer" fN ["order", "reader"] (spNx K CM CO CR)) :
    FnOk P w K mg base CX0 7 f fd ["calls"] (spAns K) := by
  refine F.ok scAns (fun vs H Q E h => ?_) (fun cdv A outer s H vs Q E hr h => ⟨_,
    pss_cons (ps_set (i := 1) scAns.nd rfl (Or.inl rfl) (pe_makeD0 MO (hr.mono (by decide)) rfl))
    (pss_cons (ps_set (i := 2) scAns.nd rfl (Or.inl rfl) (pe_makeD MR (hr.mono (by decide)) rfl (pa_cons (pv 0) pa_nil)))
    (pss_cons (ps_set (i := 3) scAns.nd rfl (Or.inl rfl) (pe_lst pa_nil))
    (pss_cons (ps_while PassesOwn.never (pt_not (pt_val (pe_methD0 ME T.cR (hr.mono (by decide)) (pv 2))))
      (pss_cons (ps_set (i := 4) scAns.nd rfl (Or.inl rfl) (pe_callD DN hr rfl (pa_cons (pv 1) (pa_cons (pv 2) pa_nil))))
      (pss_cons (ps_expr (pe_bm PySem.F.plainAttrs_list PySem.F.slot_list_append PySem.F.type_list_append mt_append (pv 3) (pa_cons (pe_callB call_len_seq (by rfl) T.bLen PySem.boot_len (pa_cons (pv 4) pa_nil)) pa_nil)))
      (pss_one (ps_expr (pe_bm PySem.F.plainAttrs_list PySem.F.slot_list_extend PySem.F.type_list_extend mt_extend (pv 3) (pa_cons (pv 4) pa_nil)))))))
    (pss_one (ps_ret (pv 3)))))), ?_⟩)
  · obtain ⟨n, ns, rfl, _⟩ := h
    rfl
  · obtain ⟨n, ns, rfl, S, hask, k⟩ := h
    obtain ⟨qs, okq, rfl, eans, hlen⟩ := asked_read hask
    rw [eans] at k
    -- order = Order()
    intro a dx nx nd ne
    refine ⟨a, dx, rfl, upd_same, fun H1 b m h1 hb hm nb nm bm B => ⟨rfl, ?_⟩⟩
    have S1 : Same H H1 := Same.made nx nd B
    -- reader = Reader(calls)
    refine ⟨_, rfl, ?_⟩
    intro y dy ny nyd ney
    refine ⟨y, dy, n, rfl, upd_same, fun H2 h2 B2 => ⟨rfl, ?_⟩⟩
    have S2 : Same H1 H2 := Same.made ny nyd B2
    -- told = []
    refine ⟨by show 0 ≤ sizeLine; decide, fun t ht => ?_⟩
    have S3 : Same H2 (upd H2 t (.lst [])) := same_upd ht
    have SA : SqA K t (upd H2 t (.lst [])) n (intsV (flats qs)) := (SqA.new ((S1.trans S2).seq S) ht).put
    have O0 : OrdAt CM CO t (upd H2 t (.lst [])) a m (after Si83.init []) := ⟨dx, b, [], S3 _ _ (S2 _ _ h1), S3 _ _ (S2 _ _ hb), S3 _ _ (S2 _ _ hm), bm, ne_of_none (S2 _ _ hb) ht, ne_of_none (S2 _ _ hm) ht, rfl, fun i x q h => by simp at h⟩
    have ht0 : upd H2 t (.lst []) t = some (.lst (intsV (out Si83.init []))) := upd_same
    refine ⟨fun k σ H' => AnsW K CM CO CR n a y t qs k σ H', ⟨qs.length, [], qs, m, none, rfl, rfl, rfl, O0, ⟨dy, S3 _ _ h2⟩, SA, ht0⟩, ?_⟩
    rintro k0 σ H4 ⟨d, r, m4, v4, eq, ek, rfl, O4, R4, S4, ht4⟩
    have R4' := R4
    obtain ⟨dr, hr4⟩ := R4
    refine ⟨_, rfl, y, dr, _, rfl, hr4, rdF_m3 n _, y, n, (flats d).length, flats qs, rfl, R4', S4.sq, _, rfl, ?_⟩
    have okd : ∀ q ∈ d, callOk q := fun q hq => okq q (by rw [eq]; exact List.mem_append_left r hq)
    have Ok := after_ok init_ok okd
    cases r with
    | nil =>
      rw [List.append_nil] at eq
      subst eq
      have e : decide ((flats qs).length = (flats qs).length) = true := decide_eq_true rfl
      rw [e]
      refine iteF ?_
      exact ⟨_, rfl, k H4 t ht4⟩
    | cons q r =>
      have efl : flats qs = flats d ++ (flat q ++ flats r) := by rw [eq, flats_app, flats_cons]
      have hq := flat_pos q
      have e : decide ((flats d).length = (flats qs).length) = false := decide_eq_false fun z => by
        rw [efl, List.length_append, List.length_append] at z
        omega
      rw [e]
      refine iteT ?_
      have eq2 : qs = (d ++ [q]) ++ r := by
        rw [eq, List.append_assoc]
        rfl
      refine ⟨fun σ' H' => AnsW K CM CO CR n a y t qs r.length σ' H', fun σ' H' z => ⟨r.length, by rw [← ek]; exact Nat.lt_succ_self _, z⟩, ?_⟩
      have hd : (flats qs).drop (flats d).length = flat q ++ flats r := by
        rw [efl]
        exact List.drop_left
      refine ⟨_, rfl, _, rfl, a, m4, y, n, t, (flats d).length, after Si83.init d, q, flats qs, flats r, _, rfl, O4, Ok, R4', S4.sq, ht4, okq q (by rw [eq]; exact List.mem_append_right d List.mem_cons_self), hd, fun H5 p m5 O5 R5 S5 hp np ht5 => ?_⟩
      have hout := out_more d Si83.init q
      have hol : (out Si83.init (d ++ [q])).length ≤ 10000000 := Nat.le_trans (by rw [eq2]; exact out_len (d ++ [q]) r Si83.init) hlen
      have hpl : (out Si83.init (d ++ [q])).length = (out Si83.init d).length + ((ansOf (after Si83.init d) q).length + 1) := by
        rw [hout, List.length_append]
        rfl
      have il : ∀ l : List Int, (intsV l).length = l.length := fun l => List.length_map ..
      have pt : p ≠ t := (ne_of_none ht4 np).symm
      have szl : sizeLine = 16777216 := rfl
      refine ⟨_, rfl, Or.inl ⟨rfl, _, SqL.of ht5⟩, _, rfl, p, _, rfl, Or.inl (SqL.of hp), t, _, _, rfl, rfl, ht5, by rw [il, szl]; omega, ?_⟩
      refine ⟨_, rfl, Or.inl ⟨rfl, _, SqL.of upd_same⟩, _, rfl, t, p, _, _, rfl, rfl, upd_same, (by rw [upd_ne pt]; exact hp), ?_, ?_⟩
      · rw [List.length_append, il, il, szl]
        show (out Si83.init d).length + 1 + (ansOf (after Si83.init d) q).length ≤ 16777216
        omega
      rw [upd_upd]
      refine ⟨d ++ [q], r, m5, _, eq2, rfl, rfl, ?_, ?_, ?_, ?_⟩
      · rw [after_more]
        obtain ⟨dx5, b5, as5, O5⟩ := O5
        exact ⟨dx5, b5, as5, O5.keep ht5 but_upd⟩
      · obtain ⟨dr5, hr5⟩ := R5
        refine ⟨dr5, ?_⟩
        rw [upd_ne (ne_of hr5 ht5 (by intro z; cases z)), flats_more, List.length_append]
        exact hr5
      · exact (S4.of S5).put
      · rw [upd_same, hout, il]
        unfold intsV piece
        rw [List.map_append, List.append_assoc]
        rfl
end
end Oil
set_option maxRecDepth 100000
set_option maxHeartbeats 4000000
namespace Oil
open PySem PySem.Spec PyProof.Rows L2
open Si83 (Part Material less lowest)
theorem all_mk {P : Program} {w : World} {K : PySem.W.Frag} {h : Heap} {mg : Str → Option Value} {fa CM CO CF CR fLow fStr fAmt fSab fShr fHol fChg fMay fFor fOff fBs fBn fBest fBeg fMat fChk fSt fNe fNx fAns fIM fIO fIF fIR fEnd fTake fOne : Addr} (X : K.In h) (G : h.Ns mainGlobals mg) (hfa : mg "answers" = some (.ref fa))
    {t_kSub t_kBound t_kPart t_kDrops t_kMats t_kBelow t_kBegins t_kMaterial t_kCheck t_kStrongest t_kWrong t_kMay t_kRoom t_kForm : Tok}
    {odLow anLow odStr anStr odAmt anAmt odSab anSab odShr anShr odHol anHol odChg anChg odMay anMay odFor anFor odOff anOff odBs anBs odBn anBn odBest anBest odBeg anBeg odMat anMat odChk anChk odSt anSt odNe anNe odNx anNx odAns anAns odIM anIM odIO anIO odIF anIF odIR anIR odEnd anEnd odTake anTake odOne anOne : Option Addr}
    {slLow slStr slAmt slSab slShr slHol slChg slMay slFor slOff slBs slBn slBest slBeg slMat slChk slSt slNe slNx slAns slIM slIO slIF slIR slEnd slTake slOne : Array (Option Value)}
    {ocLow kVLow dcLow pmLow cdLow ctLow ocStr kVStr dcStr pmStr cdStr ctStr ocAmt kVAmt dcAmt pmAmt cdAmt ctAmt ocSab kVSab dcSab pmSab cdSab ctSab ocShr kVShr dcShr pmShr cdShr ctShr ocHol kVHol dcHol pmHol cdHol ctHol ocChg kVChg dcChg pmChg cdChg ctChg ocMay kVMay dcMay pmMay cdMay ctMay ocFor kVFor dcFor pmFor cdFor ctFor ocOff kVOff dcOff pmOff cdOff ctOff ocBs kVBs dcBs pmBs cdBs ctBs ocBn kVBn dcBn pmBn cdBn ctBn ocBest kVBest dcBest pmBest cdBest ctBest ocBeg kVBeg dcBeg pmBeg cdBeg ctBeg ocMat kVMat dcMat pmMat cdMat ctMat ocChk kVChk dcChk pmChk cdChk ctChk ocSt kVSt dcSt pmSt cdSt ctSt ocNe kVNe dcNe pmNe cdNe ctNe ocNx kVNx dcNx pmNx cdNx ctNx ocAns kVAns dcAns pmAns cdAns ctAns ocIM kVIM dcIM pmIM cdIM ctIM ocIO kVIO dcIO pmIO cdIO ctIO ocIF kVIF dcIF pmIF cdIF ctIF ocIR kVIR dcIR pmIR cdIR ctIR ocEnd kVEnd dcEnd pmEnd cdEnd ctEnd ocTake kVTake dcTake pmTake cdTake ctTake ocOne kVOne dcOne pmOne cdOne ctOne : Value}
    (gM : PySem.W.nsIn K mainGlobals "Material" = some (some (.ref CM)))
    (pgM : PySem.W.plainGet K CM Str.empty = true)
    (hdM : PySem.W.hasDictIn K CM = true)
    (poM : PySem.W.plainOver K CM = true)
    (saM : PySem.W.findIn K (.ref CM) "__setattr__" = some (some (.builtin "object.__setattr__")))
    (mkM : PySem.W.makesIn K CM = true)
    (kcM : PySem.W.keepIn K (.ref CM) = true)
    (gO : PySem.W.nsIn K mainGlobals "Order" = some (some (.ref CO)))
    (pgO : PySem.W.plainGet K CO Str.empty = true)
    (hdO : PySem.W.hasDictIn K CO = true)
    (poO : PySem.W.plainOver K CO = true)
    (saO : PySem.W.findIn K (.ref CO) "__setattr__" = some (some (.builtin "object.__setattr__")))
    (mkO : PySem.W.makesIn K CO = true)
    (kcO : PySem.W.keepIn K (.ref CO) = true)
    (gF : PySem.W.nsIn K mainGlobals "Offer" = some (some (.ref CF)))
    (pgF : PySem.W.plainGet K CF Str.empty = true)
    (hdF : PySem.W.hasDictIn K CF = true)
    (poF : PySem.W.plainOver K CF = true)
    (saF : PySem.W.findIn K (.ref CF) "__setattr__" = some (some (.builtin "object.__setattr__")))
    (mkF : PySem.W.makesIn K CF = true)
    (kcF : PySem.W.keepIn K (.ref CF) = true)
    (gR : PySem.W.nsIn K mainGlobals "Reader" = some (some (.ref CR)))
    (pgR : PySem.W.plainGet K CR Str.empty = true)
    (hdR : PySem.W.hasDictIn K CR = true)
    (poR : PySem.W.plainOver K CR = true)
    (saR : PySem.W.findIn K (.ref CR) "__setattr__" = some (some (.builtin "object.__setattr__")))
    (mkR : PySem.W.makesIn K CR = true)
    (kcR : PySem.W.keepIn K (.ref CR) = true)
    (mP : PySem.W.findIn K (.ref CM) "parts" = some none)
    (mW : PySem.W.findIn K (.ref CM) "wanted" = some none)
    (mO : PySem.W.findIn K (.ref CM) "most" = some none)
    (oB : PySem.W.findIn K (.ref CO) "bounds" = some none)
    (oM : PySem.W.findIn K (.ref CO) "materials" = some none)
    (fF : PySem.W.findIn K (.ref CF) "formula" = some none)
    (fS : PySem.W.findIn K (.ref CF) "share" = some none)
    (fC : PySem.W.findIn K (.ref CF) "changed" = some none)
    (rN : PySem.W.findIn K (.ref CR) "numbers" = some none)
    (rP : PySem.W.findIn K (.ref CR) "place" = some none)
    (bSum : PySem.W.nsIn K mainGlobals "sum" = some none)
    (bZip : PySem.W.nsIn K mainGlobals "zip" = some none)
    (bRange : PySem.W.nsIn K mainGlobals "range" = some none)
    (bAbs : PySem.W.nsIn K mainGlobals "abs" = some none)
    (bMax : PySem.W.nsIn K mainGlobals "max" = some none)
    (bLen : PySem.W.nsIn K mainGlobals "len" = some none)
    (v_kSub : PySem.W.nsIn K mainGlobals "SUBSTANCES" = some (some (.int 3 t_kSub)))
    (v_kBound : PySem.W.nsIn K mainGlobals "MOST_BOUND" = some (some (.int 10000 t_kBound)))
    (v_kPart : PySem.W.nsIn K mainGlobals "MOST_PART" = some (some (.int 1000 t_kPart)))
    (v_kDrops : PySem.W.nsIn K mainGlobals "MOST_DROPS" = some (some (.int 6 t_kDrops)))
    (v_kMats : PySem.W.nsIn K mainGlobals "MOST_MATERIALS" = some (some (.int 4 t_kMats)))
    (v_kBelow : PySem.W.nsIn K mainGlobals "MOST_BELOW" = some (some (.int 10000 t_kBelow)))
    (v_kBegins : PySem.W.nsIn K mainGlobals "BEGINS" = some (some (.int 0 t_kBegins)))
    (v_kMaterial : PySem.W.nsIn K mainGlobals "MATERIAL" = some (some (.int 1 t_kMaterial)))
    (v_kCheck : PySem.W.nsIn K mainGlobals "CHECK" = some (some (.int 2 t_kCheck)))
    (v_kStrongest : PySem.W.nsIn K mainGlobals "STRONGEST" = some (some (.int 3 t_kStrongest)))
    (v_kWrong : PySem.W.nsIn K mainGlobals "WRONG_NUMBER" = some (some (.int (-1) t_kWrong)))
    (v_kMay : PySem.W.nsIn K mainGlobals "MAY_NOT_BE" = some (some (.int (-4) t_kMay)))
    (v_kRoom : PySem.W.nsIn K mainGlobals "NO_ROOM" = some (some (.int (-5) t_kRoom)))
    (v_kForm : PySem.W.nsIn K mainGlobals "NO_FORMULA" = some (some (.int (-6) t_kForm)))
    (aLow : PySem.W.nsIn K mainGlobals "lowest_terms" = some (some (.ref fLow)))
    (lLow : K.lookup fLow = some ⟨ocLow, odLow, .func (PySem.W.fnOf "lowest_terms" "lowest_terms" (defArgs sLow) (defBody sLow) (defScope sLow) .none kVLow dcLow pmLow anLow cdLow ctLow), slLow⟩)
    (cLow : PySem.W.codeIn K cdLow "lowest_terms" = true)
    (kLow : PySem.W.keepIn K (.ref fLow) = true)
    (aStr : PySem.W.nsIn K mainGlobals "stronger_by" = some (some (.ref fStr)))
    (lStr : K.lookup fStr = some ⟨ocStr, odStr, .func (PySem.W.fnOf "stronger_by" "stronger_by" (defArgs sStr) (defBody sStr) (defScope sStr) .none kVStr dcStr pmStr anStr cdStr ctStr), slStr⟩)
    (cStr : PySem.W.codeIn K cdStr "stronger_by" = true)
    (kStr : PySem.W.keepIn K (.ref fStr) = true)
    (aAmt : PySem.W.nsIn K mainGlobals "amount_of" = some (some (.ref fAmt)))
    (lAmt : K.lookup fAmt = some ⟨ocAmt, odAmt, .func (PySem.W.fnOf "amount_of" "amount_of" (defArgs sAmt) (defBody sAmt) (defScope sAmt) .none kVAmt dcAmt pmAmt anAmt cdAmt ctAmt), slAmt⟩)
    (cAmt : PySem.W.codeIn K cdAmt "amount_of" = true)
    (kAmt : PySem.W.keepIn K (.ref fAmt) = true)
    (aSab : PySem.W.nsIn K mainGlobals "share_at_bound" = some (some (.ref fSab)))
    (lSab : K.lookup fSab = some ⟨ocSab, odSab, .func (PySem.W.fnOf "share_at_bound" "share_at_bound" (defArgs sSab) (defBody sSab) (defScope sSab) .none kVSab dcSab pmSab anSab cdSab ctSab), slSab⟩)
    (cSab : PySem.W.codeIn K cdSab "share_at_bound" = true)
    (kSab : PySem.W.keepIn K (.ref fSab) = true)
    (aShr : PySem.W.nsIn K mainGlobals "share_of" = some (some (.ref fShr)))
    (lShr : K.lookup fShr = some ⟨ocShr, odShr, .func (PySem.W.fnOf "share_of" "share_of" (defArgs sShr) (defBody sShr) (defScope sShr) .none kVShr dcShr pmShr anShr cdShr ctShr), slShr⟩)
    (cShr : PySem.W.codeIn K cdShr "share_of" = true)
    (kShr : PySem.W.keepIn K (.ref fShr) = true)
    (aHol : PySem.W.nsIn K mainGlobals "holding_back" = some (some (.ref fHol)))
    (lHol : K.lookup fHol = some ⟨ocHol, odHol, .func (PySem.W.fnOf "holding_back" "holding_back" (defArgs sHol) (defBody sHol) (defScope sHol) .none kVHol dcHol pmHol anHol cdHol ctHol), slHol⟩)
    (cHol : PySem.W.codeIn K cdHol "holding_back" = true)
    (kHol : PySem.W.keepIn K (.ref fHol) = true)
    (aChg : PySem.W.nsIn K mainGlobals "changed_by" = some (some (.ref fChg)))
    (lChg : K.lookup fChg = some ⟨ocChg, odChg, .func (PySem.W.fnOf "changed_by" "changed_by" (defArgs sChg) (defBody sChg) (defScope sChg) .none kVChg dcChg pmChg anChg cdChg ctChg), slChg⟩)
    (cChg : PySem.W.codeIn K cdChg "changed_by" = true)
    (kChg : PySem.W.keepIn K (.ref fChg) = true)
    (aMay : PySem.W.nsIn K mainGlobals "may_be" = some (some (.ref fMay)))
    (lMay : K.lookup fMay = some ⟨ocMay, odMay, .func (PySem.W.fnOf "may_be" "may_be" (defArgs sMay) (defBody sMay) (defScope sMay) .none kVMay dcMay pmMay anMay cdMay ctMay), slMay⟩)
    (cMay : PySem.W.codeIn K cdMay "may_be" = true)
    (kMay : PySem.W.keepIn K (.ref fMay) = true)
    (aFor : PySem.W.nsIn K mainGlobals "formulas_that_may_be" = some (some (.ref fFor)))
    (lFor : K.lookup fFor = some ⟨ocFor, odFor, .func (PySem.W.fnOf "formulas_that_may_be" "formulas_that_may_be" (defArgs sFor) (defBody sFor) (defScope sFor) .none kVFor dcFor pmFor anFor cdFor ctFor), slFor⟩)
    (cFor : PySem.W.codeIn K cdFor "formulas_that_may_be" = true)
    (kFor : PySem.W.keepIn K (.ref fFor) = true)
    (aOff : PySem.W.nsIn K mainGlobals "offer_of" = some (some (.ref fOff)))
    (lOff : K.lookup fOff = some ⟨ocOff, odOff, .func (PySem.W.fnOf "offer_of" "offer_of" (defArgs sOff) (defBody sOff) (defScope sOff) .none kVOff dcOff pmOff anOff cdOff ctOff), slOff⟩)
    (cOff : PySem.W.codeIn K cdOff "offer_of" = true)
    (kOff : PySem.W.keepIn K (.ref fOff) = true)
    (aBs : PySem.W.nsIn K mainGlobals "better_as_strongest" = some (some (.ref fBs)))
    (lBs : K.lookup fBs = some ⟨ocBs, odBs, .func (PySem.W.fnOf "better_as_strongest" "better_as_strongest" (defArgs sBs) (defBody sBs) (defScope sBs) .none kVBs dcBs pmBs anBs cdBs ctBs), slBs⟩)
    (cBs : PySem.W.codeIn K cdBs "better_as_strongest" = true)
    (kBs : PySem.W.keepIn K (.ref fBs) = true)
    (aBn : PySem.W.nsIn K mainGlobals "better_as_nearest" = some (some (.ref fBn)))
    (lBn : K.lookup fBn = some ⟨ocBn, odBn, .func (PySem.W.fnOf "better_as_nearest" "better_as_nearest" (defArgs sBn) (defBody sBn) (defScope sBn) .none kVBn dcBn pmBn anBn cdBn ctBn), slBn⟩)
    (cBn : PySem.W.codeIn K cdBn "better_as_nearest" = true)
    (kBn : PySem.W.keepIn K (.ref fBn) = true)
    (aBest : PySem.W.nsIn K mainGlobals "best_answer" = some (some (.ref fBest)))
    (lBest : K.lookup fBest = some ⟨ocBest, odBest, .func (PySem.W.fnOf "best_answer" "best_answer" (defArgs sBest) (defBody sBest) (defScope sBest) .none kVBest dcBest pmBest anBest cdBest ctBest), slBest⟩)
    (cBest : PySem.W.codeIn K cdBest "best_answer" = true)
    (kBest : PySem.W.keepIn K (.ref fBest) = true)
    (aBeg : PySem.W.nsIn K mainGlobals "begins" = some (some (.ref fBeg)))
    (lBeg : K.lookup fBeg = some ⟨ocBeg, odBeg, .func (PySem.W.fnOf "begins" "begins" (defArgs sBeg) (defBody sBeg) (defScope sBeg) .none kVBeg dcBeg pmBeg anBeg cdBeg ctBeg), slBeg⟩)
    (cBeg : PySem.W.codeIn K cdBeg "begins" = true)
    (kBeg : PySem.W.keepIn K (.ref fBeg) = true)
    (aMat : PySem.W.nsIn K mainGlobals "material" = some (some (.ref fMat)))
    (lMat : K.lookup fMat = some ⟨ocMat, odMat, .func (PySem.W.fnOf "material" "material" (defArgs sMat) (defBody sMat) (defScope sMat) .none kVMat dcMat pmMat anMat cdMat ctMat), slMat⟩)
    (cMat : PySem.W.codeIn K cdMat "material" = true)
    (kMat : PySem.W.keepIn K (.ref fMat) = true)
    (aChk : PySem.W.nsIn K mainGlobals "check" = some (some (.ref fChk)))
    (lChk : K.lookup fChk = some ⟨ocChk, odChk, .func (PySem.W.fnOf "check" "check" (defArgs sChk) (defBody sChk) (defScope sChk) .none kVChk dcChk pmChk anChk cdChk ctChk), slChk⟩)
    (cChk : PySem.W.codeIn K cdChk "check" = true)
    (kChk : PySem.W.keepIn K (.ref fChk) = true)
    (aSt : PySem.W.nsIn K mainGlobals "strongest" = some (some (.ref fSt)))
    (lSt : K.lookup fSt = some ⟨ocSt, odSt, .func (PySem.W.fnOf "strongest" "strongest" (defArgs sSt) (defBody sSt) (defScope sSt) .none kVSt dcSt pmSt anSt cdSt ctSt), slSt⟩)
    (cSt : PySem.W.codeIn K cdSt "strongest" = true)
    (kSt : PySem.W.keepIn K (.ref fSt) = true)
    (aNe : PySem.W.nsIn K mainGlobals "nearest" = some (some (.ref fNe)))
    (lNe : K.lookup fNe = some ⟨ocNe, odNe, .func (PySem.W.fnOf "nearest" "nearest" (defArgs sNe) (defBody sNe) (defScope sNe) .none kVNe dcNe pmNe anNe cdNe ctNe), slNe⟩)
    (cNe : PySem.W.codeIn K cdNe "nearest" = true)
    (kNe : PySem.W.keepIn K (.ref fNe) = true)
    (aNx : PySem.W.nsIn K mainGlobals "next_answer" = some (some (.ref fNx)))
    (lNx : K.lookup fNx = some ⟨ocNx, odNx, .func (PySem.W.fnOf "next_answer" "next_answer" (defArgs sNx) (defBody sNx) (defScope sNx) .none kVNx dcNx pmNx anNx cdNx ctNx), slNx⟩)
    (cNx : PySem.W.codeIn K cdNx "next_answer" = true)
    (kNx : PySem.W.keepIn K (.ref fNx) = true)
    (aAns : PySem.W.nsIn K mainGlobals "answers" = some (some (.ref fAns)))
    (lAns : K.lookup fAns = some ⟨ocAns, odAns, .func (PySem.W.fnOf "answers" "answers" (defArgs sAns) (defBody sAns) (defScope sAns) .none kVAns dcAns pmAns anAns cdAns ctAns), slAns⟩)
    (cAns : PySem.W.codeIn K cdAns "answers" = true)
    (kAns : PySem.W.keepIn K (.ref fAns) = true)
    (aIM : PySem.W.findIn K (.ref CM) "__init__" = some (some (.ref fIM)))
    (iIM : PySem.W.isFn K (.ref fIM) = true)
    (lIM : K.lookup fIM = some ⟨ocIM, odIM, .func (PySem.W.fnOf "__init__" "Material.__init__" (defArgs sIM) (defBody sIM) (defScope sIM) .none kVIM dcIM pmIM anIM cdIM ctIM), slIM⟩)
    (cIM : PySem.W.codeIn K cdIM "Material.__init__" = true)
    (kIM : PySem.W.keepIn K (.ref fIM) = true)
    (aIO : PySem.W.findIn K (.ref CO) "__init__" = some (some (.ref fIO)))
    (iIO : PySem.W.isFn K (.ref fIO) = true)
    (lIO : K.lookup fIO = some ⟨ocIO, odIO, .func (PySem.W.fnOf "__init__" "Order.__init__" (defArgs sIO) (defBody sIO) (defScope sIO) .none kVIO dcIO pmIO anIO cdIO ctIO), slIO⟩)
    (cIO : PySem.W.codeIn K cdIO "Order.__init__" = true)
    (kIO : PySem.W.keepIn K (.ref fIO) = true)
    (aIF : PySem.W.findIn K (.ref CF) "__init__" = some (some (.ref fIF)))
    (iIF : PySem.W.isFn K (.ref fIF) = true)
    (lIF : K.lookup fIF = some ⟨ocIF, odIF, .func (PySem.W.fnOf "__init__" "Offer.__init__" (defArgs sIF) (defBody sIF) (defScope sIF) .none kVIF dcIF pmIF anIF cdIF ctIF), slIF⟩)
    (cIF : PySem.W.codeIn K cdIF "Offer.__init__" = true)
    (kIF : PySem.W.keepIn K (.ref fIF) = true)
    (aIR : PySem.W.findIn K (.ref CR) "__init__" = some (some (.ref fIR)))
    (iIR : PySem.W.isFn K (.ref fIR) = true)
    (lIR : K.lookup fIR = some ⟨ocIR, odIR, .func (PySem.W.fnOf "__init__" "Reader.__init__" (defArgs sIR) (defBody sIR) (defScope sIR) .none kVIR dcIR pmIR anIR cdIR ctIR), slIR⟩)
    (cIR : PySem.W.codeIn K cdIR "Reader.__init__" = true)
    (kIR : PySem.W.keepIn K (.ref fIR) = true)
    (aEnd : PySem.W.findIn K (.ref CR) "at_end" = some (some (.ref fEnd)))
    (iEnd : PySem.W.isFn K (.ref fEnd) = true)
    (lEnd : K.lookup fEnd = some ⟨ocEnd, odEnd, .func (PySem.W.fnOf "at_end" "Reader.at_end" (defArgs sEnd) (defBody sEnd) (defScope sEnd) .none kVEnd dcEnd pmEnd anEnd cdEnd ctEnd), slEnd⟩)
    (cEnd : PySem.W.codeIn K cdEnd "Reader.at_end" = true)
    (kEnd : PySem.W.keepIn K (.ref fEnd) = true)
    (aTake : PySem.W.findIn K (.ref CR) "take" = some (some (.ref fTake)))
    (iTake : PySem.W.isFn K (.ref fTake) = true)
    (lTake : K.lookup fTake = some ⟨ocTake, odTake, .func (PySem.W.fnOf "take" "Reader.take" (defArgs sTake) (defBody sTake) (defScope sTake) .none kVTake dcTake pmTake anTake cdTake ctTake), slTake⟩)
    (cTake : PySem.W.codeIn K cdTake "Reader.take" = true)
    (kTake : PySem.W.keepIn K (.ref fTake) = true)
    (aOne : PySem.W.findIn K (.ref CR) "take_one" = some (some (.ref fOne)))
    (iOne : PySem.W.isFn K (.ref fOne) = true)
    (lOne : K.lookup fOne = some ⟨ocOne, odOne, .func (PySem.W.fnOf "take_one" "Reader.take_one" (defArgs sOne) (defBody sOne) (defScope sOne) .none kVOne dcOne pmOne anOne cdOne ctOne), slOne⟩)
    (cOne : PySem.W.codeIn K cdOne "Reader.take_one" = true)
    (kOne : PySem.W.keepIn K (.ref fOne) = true)
    : ∃ fd : FuncData, (∀ (s : Shared) (us : List Value), us.length = (["calls"] : List Str).length → BindsTo s fd ⟨us, []⟩ ((["calls"] : List Str).zip us)) ∧ ∀ base : Heap, K.In base → base.Ns mainGlobals mg → FnOk P w K mg base CX0 7 fa fd ["calls"] (spAns K) := by
  have e := hfa.symm.trans (PySem.W.mg_of X G aAns)
  cases e
  have T : Txt K mg CM CO CF CR := ⟨⟨pgM, hdM, poM, saM⟩, ⟨pgO, hdO, poO, saO⟩, ⟨pgF, hdF, poF, saF⟩, ⟨pgR, hdR, poR, saR⟩, mP, mW, mO, oB, oM, fF, fS, fC, rN, rP, PySem.W.mg_of X G gM, PySem.W.mg_of X G gO, PySem.W.mg_of X G gF, PySem.W.mg_of X G gR, PySem.W.mg_none_of X G bSum, PySem.W.mg_none_of X G bZip, PySem.W.mg_none_of X G bRange, PySem.W.mg_none_of X G bAbs, PySem.W.mg_none_of X G bMax, PySem.W.mg_none_of X G bLen, ⟨_, PySem.W.mg_of X G v_kSub⟩, ⟨_, PySem.W.mg_of X G v_kBound⟩, ⟨_, PySem.W.mg_of X G v_kPart⟩, ⟨_, PySem.W.mg_of X G v_kDrops⟩, ⟨_, PySem.W.mg_of X G v_kMats⟩, ⟨_, PySem.W.mg_of X G v_kBelow⟩, ⟨_, PySem.W.mg_of X G v_kBegins⟩, ⟨_, PySem.W.mg_of X G v_kMaterial⟩, ⟨_, PySem.W.mg_of X G v_kCheck⟩, ⟨_, PySem.W.mg_of X G v_kStrongest⟩, ⟨_, PySem.W.mg_of X G v_kWrong⟩, ⟨_, PySem.W.mg_of X G v_kMay⟩, ⟨_, PySem.W.mg_of X G v_kRoom⟩, ⟨_, PySem.W.mg_of X G v_kForm⟩⟩
  have FLow := fun_mk (st := sLow) lLow cLow kLow
  have FStr := fun_mk (st := sStr) lStr cStr kStr
  have FAmt := fun_mk (st := sAmt) lAmt cAmt kAmt
  have FSab := fun_mk (st := sSab) lSab cSab kSab
  have FShr := fun_mk (st := sShr) lShr cShr kShr
  have FHol := fun_mk (st := sHol) lHol cHol kHol
  have FChg := fun_mk (st := sChg) lChg cChg kChg
  have FMay := fun_mk (st := sMay) lMay cMay kMay
  have FFor := fun_mk (st := sFor) lFor cFor kFor
  have FOff := fun_mk (st := sOff) lOff cOff kOff
  have FBs := fun_mk (st := sBs) lBs cBs kBs
  have FBn := fun_mk (st := sBn) lBn cBn kBn
  have FBest := fun_mk (st := sBest) lBest cBest kBest
  have FBeg := fun_mk (st := sBeg) lBeg cBeg kBeg
  have FMat := fun_mk (st := sMat) lMat cMat kMat
  have FChk := fun_mk (st := sChk) lChk cChk kChk
  have FSt := fun_mk (st := sSt) lSt cSt kSt
  have FNe := fun_mk (st := sNe) lNe cNe kNe
  have FNx := fun_mk (st := sNx) lNx cNx kNx
  have FAns := fun_mk (st := sAns) lAns cAns kAns
  have FIM := fun_mk (st := sIM) lIM cIM kIM
  have FIO := fun_mk (st := sIO) lIO cIO kIO
  have FIF := fun_mk (st := sIF) lIF cIF kIF
  have FIR := fun_mk (st := sIR) lIR cIR kIR
  have FEnd := fun_mk (st := sEnd) lEnd cEnd kEnd
  have FTake := fun_mk (st := sTake) lTake cTake kTake
  have FOne := fun_mk (st := sOne) lOne cOne kOne
  have bLow := FLow.binds (ps := ["above", "below"]) fun _ _ _ _ _ _ us hl => match us, hl with | [_, _], _ => rfl
  have bStr := FStr.binds (ps := ["share", "other"]) fun _ _ _ _ _ _ us hl => match us, hl with | [_, _], _ => rfl
  have bAmt := FAmt.binds (ps := ["order", "formula", "substance"]) fun _ _ _ _ _ _ us hl => match us, hl with | [_, _, _], _ => rfl
  have bSab := FSab.binds (ps := ["order", "formula", "substance"]) fun _ _ _ _ _ _ us hl => match us, hl with | [_, _, _], _ => rfl
  have bShr := FShr.binds (ps := ["order", "formula"]) fun _ _ _ _ _ _ us hl => match us, hl with | [_, _], _ => rfl
  have bHol := FHol.binds (ps := ["order", "formula", "greatest"]) fun _ _ _ _ _ _ us hl => match us, hl with | [_, _, _], _ => rfl
  have bChg := FChg.binds (ps := ["order", "formula"]) fun _ _ _ _ _ _ us hl => match us, hl with | [_, _], _ => rfl
  have bMay := FMay.binds (ps := ["order", "formula"]) fun _ _ _ _ _ _ us hl => match us, hl with | [_, _], _ => rfl
  have bFor := FFor.binds (ps := ["order"]) fun _ _ _ _ _ _ us hl => match us, hl with | [_], _ => rfl
  have bOff := FOff.binds (ps := ["order", "formula"]) fun _ _ _ _ _ _ us hl => match us, hl with | [_, _], _ => rfl
  have bBs := FBs.binds (ps := ["offer", "other"]) fun _ _ _ _ _ _ us hl => match us, hl with | [_, _], _ => rfl
  have bBn := FBn.binds (ps := ["offer", "other"]) fun _ _ _ _ _ _ us hl => match us, hl with | [_, _], _ => rfl
  have bBest := FBest.binds (ps := ["offers", "better"]) fun _ _ _ _ _ _ us hl => match us, hl with | [_, _], _ => rfl
  have bBeg := FBeg.binds (ps := ["order", "bounds"]) fun _ _ _ _ _ _ us hl => match us, hl with | [_, _], _ => rfl
  have bMat := FMat.binds (ps := ["order", "parts", "wanted", "most"]) fun _ _ _ _ _ _ us hl => match us, hl with | [_, _, _, _], _ => rfl
  have bChk := FChk.binds (ps := ["order", "formula"]) fun _ _ _ _ _ _ us hl => match us, hl with | [_, _], _ => rfl
  have bSt := FSt.binds (ps := ["order", "drops"]) fun _ _ _ _ _ _ us hl => match us, hl with | [_, _], _ => rfl
  have bNe := FNe.binds (ps := ["order", "above", "below"]) fun _ _ _ _ _ _ us hl => match us, hl with | [_, _, _], _ => rfl
  have bNx := FNx.binds (ps := ["order", "reader"]) fun _ _ _ _ _ _ us hl => match us, hl with | [_, _], _ => rfl
  have bIM := FIM.binds (ps := ["self", "parts", "wanted", "most"]) fun _ _ _ _ _ _ us hl => match us, hl with | [_, _, _, _], _ => rfl
  have bIO := FIO.binds (ps := ["self"]) fun _ _ _ _ _ _ us hl => match us, hl with | [_], _ => rfl
  have bIF := FIF.binds (ps := ["self", "formula", "share", "changed"]) fun _ _ _ _ _ _ us hl => match us, hl with | [_, _, _, _], _ => rfl
  have bIR := FIR.binds (ps := ["self", "numbers"]) fun _ _ _ _ _ _ us hl => match us, hl with | [_, _], _ => rfl
  have bEnd := FEnd.binds (ps := ["self"]) fun _ _ _ _ _ _ us hl => match us, hl with | [_], _ => rfl
  have bTake := FTake.binds (ps := ["self", "count"]) fun _ _ _ _ _ _ us hl => match us, hl with | [_, _], _ => rfl
  have bOne := FOne.binds (ps := ["self"]) fun _ _ _ _ _ _ us hl => match us, hl with | [_], _ => rfl
  refine ⟨PySem.W.fnOf "answers" "answers" (defArgs sAns) (defBody sAns) (defScope sAns) .none kVAns dcAns pmAns anAns cdAns ctAns, fun s us hu => match us, hu with | [_], _ => .of_eq rfl, fun base _ _ => ?_⟩
  have DLow : Def P w K mg base 1 "lowest_terms" fLow ["above", "below"] spLow := ⟨⟨_, ok_low FLow, bLow, kLow⟩, PySem.W.mg_of X G aLow⟩
  have DStr : Def P w K mg base 1 "stronger_by" fStr ["share", "other"] spStr := ⟨⟨_, ok_str FStr, bStr, kStr⟩, PySem.W.mg_of X G aStr⟩
  have DAmt : Def P w K mg base 1 "amount_of" fAmt ["order", "formula", "substance"] (spAmt CM CO) := ⟨⟨_, ok_amt T FAmt, bAmt, kAmt⟩, PySem.W.mg_of X G aAmt⟩
  have DSab : Def P w K mg base 2 "share_at_bound" fSab ["order", "formula", "substance"] (spSab CM CO) := ⟨⟨_, ok_sab T FSab DAmt DLow, bSab, kSab⟩, PySem.W.mg_of X G aSab⟩
  have DShr : Def P w K mg base 3 "share_of" fShr ["order", "formula"] (spShr CM CO) := ⟨⟨_, ok_shr T FShr DSab DStr, bShr, kShr⟩, PySem.W.mg_of X G aShr⟩
  have DHol : Def P w K mg base 3 "holding_back" fHol ["order", "formula", "greatest"] (spHol CM CO) := ⟨⟨_, ok_hol T FHol DSab, bHol, kHol⟩, PySem.W.mg_of X G aHol⟩
  have DChg : Def P w K mg base 1 "changed_by" fChg ["order", "formula"] (spChg CM CO) := ⟨⟨_, ok_chg T FChg, bChg, kChg⟩, PySem.W.mg_of X G aChg⟩
  have DMay : Def P w K mg base 1 "may_be" fMay ["order", "formula"] (spMay CM CO) := ⟨⟨_, ok_may T FMay, bMay, kMay⟩, PySem.W.mg_of X G aMay⟩
  have DFor : Def P w K mg base 1 "formulas_that_may_be" fFor ["order"] (spFor CM CO) := ⟨⟨_, ok_for T FFor, bFor, kFor⟩, PySem.W.mg_of X G aFor⟩
  have MIM : Maker P w K mg base 1 "Material" CM ["self", "parts", "wanted", "most"] (spIM CM) := ⟨⟨fIM, _, ⟨mkM, aIM, iIM, kcM⟩, ok_im T FIM, bIM⟩, PySem.W.mg_of X G gM⟩
  have MIO : Maker P w K mg base 1 "Order" CO ["self"] (spIO CO) := ⟨⟨fIO, _, ⟨mkO, aIO, iIO, kcO⟩, ok_io T FIO, bIO⟩, PySem.W.mg_of X G gO⟩
  have MIF : Maker P w K mg base 1 "Offer" CF ["self", "formula", "share", "changed"] (spIF CF) := ⟨⟨fIF, _, ⟨mkF, aIF, iIF, kcF⟩, ok_if T FIF, bIF⟩, PySem.W.mg_of X G gF⟩
  have MIR : Maker P w K mg base 1 "Reader" CR ["self", "numbers"] (spIR CR) := ⟨⟨fIR, _, ⟨mkR, aIR, iIR, kcR⟩, ok_ir T FIR, bIR⟩, PySem.W.mg_of X G gR⟩
  have TEnd : Mth P w K mg base 1 CR "at_end" ["self"] (spEnd K CR) := ⟨⟨fEnd, _, ⟨aEnd, iEnd, kEnd⟩, ok_end T FEnd, bEnd⟩⟩
  have TTake : Mth P w K mg base 1 CR "take" ["self", "count"] (spTake K CR) := ⟨⟨fTake, _, ⟨aTake, iTake, kTake⟩, ok_take T FTake, bTake⟩⟩
  have TOne : Mth P w K mg base 2 CR "take_one" ["self"] (spOne K CR) := ⟨⟨fOne, _, ⟨aOne, iOne, kOne⟩, ok_one T FOne TTake, bOne⟩⟩
  have DOff : Def P w K mg base 4 "offer_of" fOff ["order", "formula"] (spOff CM CO CF) := ⟨⟨_, ok_off FOff MIF DShr DChg, bOff, kOff⟩, PySem.W.mg_of X G aOff⟩
  have DBs : Def P w K mg base 2 "better_as_strongest" fBs ["offer", "other"] (spBet CF ltS) := ⟨⟨_, ok_bs T FBs DStr, bBs, kBs⟩, PySem.W.mg_of X G aBs⟩
  have DBn : Def P w K mg base 2 "better_as_nearest" fBn ["offer", "other"] (spBet CF ltN) := ⟨⟨_, ok_bn T FBn DStr, bBn, kBn⟩, PySem.W.mg_of X G aBn⟩
  have DBs2 : Def P w K mg base 3 "best_answer" fBest ["offers", "better"] (spBest CF fBs ltS) := ⟨⟨_, ok_best T FBest DBs, bBest, kBest⟩, PySem.W.mg_of X G aBest⟩
  have DBn2 : Def P w K mg base 3 "best_answer" fBest ["offers", "better"] (spBest CF fBn ltN) := ⟨⟨_, ok_best T FBest DBn, bBest, kBest⟩, PySem.W.mg_of X G aBest⟩
  have DBeg : Def P w K mg base 1 "begins" fBeg ["order", "bounds"] (spBeg CM CO) := ⟨⟨_, ok_beg T FBeg, bBeg, kBeg⟩, PySem.W.mg_of X G aBeg⟩
  have DMat : Def P w K mg base 3 "material" fMat ["order", "parts", "wanted", "most"] (spMat CM CO) := ⟨⟨_, ok_mat T FMat MIM, bMat, kMat⟩, PySem.W.mg_of X G aMat⟩
  have DChk : Def P w K mg base 4 "check" fChk ["order", "formula"] (spChk CM CO) := ⟨⟨_, ok_chk T FChk DMay DShr DChg DHol, bChk, kChk⟩, PySem.W.mg_of X G aChk⟩
  have DSt : Def P w K mg base 5 "strongest" fSt ["order", "drops"] (spSt CM CO) := ⟨⟨_, ok_st FSt DChg DFor DOff DBs DBs2, bSt, kSt⟩, PySem.W.mg_of X G aSt⟩
  have DNe : Def P w K mg base 5 "nearest" fNe ["order", "above", "below"] (spNe CM CO) := ⟨⟨_, ok_ne T FNe DStr DFor DOff DBn DBn2, bNe, kNe⟩, PySem.W.mg_of X G aNe⟩
  have DNx : Def P w K mg base 6 "next_answer" fNx ["order", "reader"] (spNx K CM CO CR) := ⟨⟨_, ok_nx T FNx TTake TOne DBeg DMat DChk DSt DNe, bNx, kNx⟩, PySem.W.mg_of X G aNx⟩
  exact ok_ans T FAns MIO MIR TEnd DNx
end Oil
open PySem PySem.W PyProof.Rows
set_option maxRecDepth 100000 in
set_option maxHeartbeats 8000000 in
theorem PySem.Challenge.cw_drawnoils_s01_answers_holds : PySem.Challenge.rw_drawnoils_s01_answers.Holds := by
  w_on; k_headS; (case hw => exact ⟨[.list [.int 0, .int 0, .int 0, .int 0]], by decide +kernel, by decide +kernel⟩)
  k_fillS
  refine L2.walk_specK (r := PySem.Challenge.rw_drawnoils_s01_answers) (k := 7) (CX := L2.CX0) (ps := ["calls"]) (sp := Oil.spAns) (by decide +kernel) rfl rfl ⟨rfl, by decide, by decide⟩ (fun w h Y => PySem.W.kIn_of Y) ?F ?S (fun _ _ _ _ z => z)
  case F =>
    intro w mg fa h Y KX G hmg
    refine' Oil.all_mk KX G hmg ?gM ?pgM ?hdM ?poM ?saM ?mkM ?kcM ?gO ?pgO ?hdO ?poO ?saO ?mkO ?kcO ?gF ?pgF ?hdF ?poF ?saF ?mkF ?kcF ?gR ?pgR ?hdR ?poR ?saR ?mkR ?kcR ?mP ?mW ?mO ?oB ?oM ?fF ?fS ?fC ?rN ?rP ?bSum ?bZip ?bRange ?bAbs ?bMax ?bLen ?v_kSub ?v_kBound ?v_kPart ?v_kDrops ?v_kMats ?v_kBelow ?v_kBegins ?v_kMaterial ?v_kCheck ?v_kStrongest ?v_kWrong ?v_kMay ?v_kRoom ?v_kForm ?aLow ?lLow ?cLow ?kLow ?aStr ?lStr ?cStr ?kStr ?aAmt ?lAmt ?cAmt ?kAmt ?aSab ?lSab ?cSab ?kSab ?aShr ?lShr ?cShr ?kShr ?aHol ?lHol ?cHol ?kHol ?aChg ?lChg ?cChg ?kChg ?aMay ?lMay ?cMay ?kMay ?aFor ?lFor ?cFor ?kFor ?aOff ?lOff ?cOff ?kOff ?aBs ?lBs ?cBs ?kBs ?aBn ?lBn ?cBn ?kBn ?aBest ?lBest ?cBest ?kBest ?aBeg ?lBeg ?cBeg ?kBeg ?aMat ?lMat ?cMat ?kMat ?aChk ?lChk ?cChk ?kChk ?aSt ?lSt ?cSt ?kSt ?aNe ?lNe ?cNe ?kNe ?aNx ?lNx ?cNx ?kNx ?aAns ?lAns ?cAns ?kAns ?aIM ?iIM ?lIM ?cIM ?kIM ?aIO ?iIO ?lIO ?cIO ?kIO ?aIF ?iIF ?lIF ?cIF ?kIF ?aIR ?iIR ?lIR ?cIR ?kIR ?aEnd ?iEnd ?lEnd ?cEnd ?kEnd ?aTake ?iTake ?lTake ?cTake ?kTake ?aOne ?iOne ?lOne ?cOne ?kOne
    (case gM => k_is)
    (case pgM => k_is)
    (case hdM => k_is)
    (case poM => k_is)
    (case saM => k_is)
    (case mkM => k_is)
    (case kcM => k_is)
    (case gO => k_is)
    (case pgO => k_is)
    (case hdO => k_is)
    (case poO => k_is)
    (case saO => k_is)
    (case mkO => k_is)
    (case kcO => k_is)
    (case gF => k_is)
    (case pgF => k_is)
    (case hdF => k_is)
    (case poF => k_is)
    (case saF => k_is)
    (case mkF => k_is)
    (case kcF => k_is)
    (case gR => k_is)
    (case pgR => k_is)
    (case hdR => k_is)
    (case poR => k_is)
    (case saR => k_is)
    (case mkR => k_is)
    (case kcR => k_is)
    (case mP => k_is)
    (case mW => k_is)
    (case mO => k_is)
    (case oB => k_is)
    (case oM => k_is)
    (case fF => k_is)
    (case fS => k_is)
    (case fC => k_is)
    (case rN => k_is)
    (case rP => k_is)
    (case bSum => k_is)
    (case bZip => k_is)
    (case bRange => k_is)
    (case bAbs => k_is)
    (case bMax => k_is)
    (case bLen => k_is)
    (case v_kSub => k_is)
    (case v_kBound => k_is)
    (case v_kPart => k_is)
    (case v_kDrops => k_is)
    (case v_kMats => k_is)
    (case v_kBelow => k_is)
    (case v_kBegins => k_is)
    (case v_kMaterial => k_is)
    (case v_kCheck => k_is)
    (case v_kStrongest => k_is)
    (case v_kWrong => k_is)
    (case v_kMay => k_is)
    (case v_kRoom => k_is)
    (case v_kForm => k_is)
    (case aLow => k_is)
    (case lLow => k_is)
    (case cLow => k_is)
    (case kLow => k_is)
    (case aStr => k_is)
    (case lStr => k_is)
    (case cStr => k_is)
    (case kStr => k_is)
    (case aAmt => k_is)
    (case lAmt => k_is)
    (case cAmt => k_is)
    (case kAmt => k_is)
    (case aSab => k_is)
    (case lSab => k_is)
    (case cSab => k_is)
    (case kSab => k_is)
    (case aShr => k_is)
    (case lShr => k_is)
    (case cShr => k_is)
    (case kShr => k_is)
    (case aHol => k_is)
    (case lHol => k_is)
    (case cHol => k_is)
    (case kHol => k_is)
    (case aChg => k_is)
    (case lChg => k_is)
    (case cChg => k_is)
    (case kChg => k_is)
    (case aMay => k_is)
    (case lMay => k_is)
    (case cMay => k_is)
    (case kMay => k_is)
    (case aFor => k_is)
    (case lFor => k_is)
    (case cFor => k_is)
    (case kFor => k_is)
    (case aOff => k_is)
    (case lOff => k_is)
    (case cOff => k_is)
    (case kOff => k_is)
    (case aBs => k_is)
    (case lBs => k_is)
    (case cBs => k_is)
    (case kBs => k_is)
    (case aBn => k_is)
    (case lBn => k_is)
    (case cBn => k_is)
    (case kBn => k_is)
    (case aBest => k_is)
    (case lBest => k_is)
    (case cBest => k_is)
    (case kBest => k_is)
    (case aBeg => k_is)
    (case lBeg => k_is)
    (case cBeg => k_is)
    (case kBeg => k_is)
    (case aMat => k_is)
    (case lMat => k_is)
    (case cMat => k_is)
    (case kMat => k_is)
    (case aChk => k_is)
    (case lChk => k_is)
    (case cChk => k_is)
    (case kChk => k_is)
    (case aSt => k_is)
    (case lSt => k_is)
    (case cSt => k_is)
    (case kSt => k_is)
    (case aNe => k_is)
    (case lNe => k_is)
    (case cNe => k_is)
    (case kNe => k_is)
    (case aNx => k_is)
    (case lNx => k_is)
    (case cNx => k_is)
    (case kNx => k_is)
    (case aAns => k_is)
    (case lAns => k_is)
    (case cAns => k_is)
    (case kAns => k_is)
    (case aIM => k_is)
    (case iIM => k_is)
    (case lIM => k_is)
    (case cIM => k_is)
    (case kIM => k_is)
    (case aIO => k_is)
    (case iIO => k_is)
    (case lIO => k_is)
    (case cIO => k_is)
    (case kIO => k_is)
    (case aIF => k_is)
    (case iIF => k_is)
    (case lIF => k_is)
    (case cIF => k_is)
    (case kIF => k_is)
    (case aIR => k_is)
    (case iIR => k_is)
    (case lIR => k_is)
    (case cIR => k_is)
    (case kIR => k_is)
    (case aEnd => k_is)
    (case iEnd => k_is)
    (case lEnd => k_is)
    (case cEnd => k_is)
    (case kEnd => k_is)
    (case aTake => k_is)
    (case iTake => k_is)
    (case lTake => k_is)
    (case cTake => k_is)
    (case kTake => k_is)
    (case aOne => k_is)
    (case iOne => k_is)
    (case lOne => k_is)
    (case cOne => k_is)
    (case kOne => k_is)
  case S =>
    intro K H xs a hO hwi hask hx
    cases hx with
    | cons h1 h2 =>
      cases h2
      cases h1 with
      | lst hs ha =>
        have e := L2.ints_dw a.1 _ ha
        subst e
        exact ⟨_, a.1, rfl, hs, hask, fun H' p hp => .lst (L2.SqL.of hp) (L2.dw_ints _)⟩
#print axioms PySem.Challenge.cw_drawnoils_s01_answers_holds
