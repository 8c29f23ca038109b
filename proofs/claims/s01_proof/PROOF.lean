import PyProof.Rows.All
import Wide.All
import OpenK.AllK
import Wide.FinOn
import PyProof.EqAt
import PyProof.EqKinds
import PyProof.TupleCall
import HandS.Base
import HandS.Call
import HandS.Dict
import HandS.ForSpec
import HandS.ForMost
import HandS.Walk
import HandS.Zip
import HandS.TupAny
import HandS.Wide
import HandS.Flow
import KE.KTupSum
import KE.KRevSl
import KE.GoesMore
import KE.KTurns
import KE.OsGo
import Open.SpecLaws
import PyWideLaws
import PySem.Challenge.RW_triesagaindesk_s01_answers
section
set_option Elab.async false
set_option maxRecDepth 100000
/-! The mirror: what the program computes, over whole numbers and lists; and that it is what the specification says. -/
namespace Ta
open Rp06 (Kind Test House)

/-! ### least numbers -/
/-- m is a least one of l -/
def IsMin (m : Int) (l : List Int) : Prop := m ∈ l ∧ ∀ x ∈ l, m ≤ x
theorem IsMin.uniq {m k : Int} {l : List Int} (a : IsMin m l) (b : IsMin k l) : m = k := by
  have h1 := a.2 k b.1
  have h2 := b.2 m a.1
  omega
def imin : List Int → Int
  | [] => 0
  | [x] => x
  | x :: y :: r => min x (imin (y :: r))
theorem imin_is : ∀ {l : List Int}, l ≠ [] → IsMin (imin l) l
  | [], h => (h rfl).elim
  | [x], _ => by
    refine ⟨by simp [imin], fun y hy => ?_⟩
    simp at hy
    simp [imin, hy]
  | x :: y :: r, _ => by
    have ih := imin_is (l := y :: r) (by simp)
    refine ⟨?_, fun z hz => ?_⟩
    · show min x (imin (y :: r)) ∈ x :: y :: r
      by_cases h : x ≤ imin (y :: r)
      · rw [Int.min_eq_left h]; simp
      · rw [Int.min_eq_right (by omega)]
        exact List.mem_cons_of_mem _ ih.1
    · show min x (imin (y :: r)) ≤ z
      rcases List.mem_cons.mp hz with e | hz
      · subst e; omega
      · have := ih.2 z hz
        omega
theorem imin_eq {m : Int} {l : List Int} (h : IsMin m l) : imin l = m :=
  (imin_is (fun e => by rw [e] at h; exact nomatch h.1)).uniq h

/-! ### the program's functions -/
/-- what stays the same of a suspect: its failing tries a kind, its verdicts -/
structure Dat where
  fl : List Int
  vd : List (List Int)
def wAfter (fl ws : List Int) (passed : Bool) (d : Int) : List Int :=
  if passed = true then (ws.zip fl).map fun p => p.1 * (d - p.2) else (ws.zip fl).map fun p => p.1 * p.2
def vCosts (vd : List (List Int)) (ws : List Int) : List Int := vd.map fun c => ((ws.zip c).map fun p => p.1 * p.2).sum
def prods (W : List (List Int)) : Int := W.foldl (fun a w => a * w.sum) 1
def scale (d : Int) (W : List (List Int)) (n : Nat) : Int := prods W * d ^ n
def without (W : List (List Int)) (j : Nat) : List (List Int) := W.take j ++ W.drop (j + 1)
def stopTerm (d : Int) (Ds : List Dat) (W : List (List Int)) (n j : Nat) : Int :=
  imin (vCosts (Ds.getD j ⟨[], []⟩).vd (W.getD j [])) * scale d (without W j) n
def stopping (d : Int) (Ds : List Dat) (W : List (List Int)) (n : Nat) : Int :=
  ((List.range Ds.length).map (stopTerm d Ds W n)).sum
def behind (d : Int) (Ds : List Dat) (j : Nat) (passed : Bool) (W : List (List Int)) : List (List Int) :=
  W.take j ++ [wAfter (Ds.getD j ⟨[], []⟩).fl (W.getD j []) passed d] ++ W.drop (j + 1)
def least (d c : Int) (Ds : List Dat) : Nat → List (List Int) → Int
  | 0, W => imin [stopping d Ds W 0]
  | n + 1, W => imin (stopping d Ds W (n + 1) :: (List.range Ds.length).map fun j =>
      c * scale d W (n + 1) + least d c Ds n (behind d Ds j false W) + least d c Ds n (behind d Ds j true W))
def trying (d c : Int) (Ds : List Dat) (n j : Nat) (W : List (List Int)) : Int :=
  c * scale d W (n + 1) + least d c Ds n (behind d Ds j false W) + least d c Ds n (behind d Ds j true W)
def beginnings (d c : Int) (Ds : List Dat) : Nat → List (List Int) → List Int
  | 0, W => [stopping d Ds W 0]
  | n + 1, W => stopping d Ds W (n + 1) :: (List.range Ds.length).map fun j => trying d c Ds n j W
theorem least_eq (d c : Int) (Ds : List Dat) (n : Nat) (W : List (List Int)) : least d c Ds n W = imin (beginnings d c Ds n W) := by
  cases n <;> rfl
theorem beginnings_ne (d c : Int) (Ds : List Dat) (n : Nat) (W : List (List Int)) : beginnings d c Ds n W ≠ [] := by
  cases n <;> simp [beginnings]

/-! ### the specification's tests as such data -/
def ws (d : Nat) (t : Test) : List Int := t.kinds.map fun x => ((t.now d x : Nat) : Int)
def fls (t : Test) : List Int := t.kinds.map fun x => ((x.fails : Nat) : Int)
def natInts (l : List Nat) : List Int := l.map fun (n : Nat) => (n : Int)
def dat (t : Test) : Dat := ⟨fls t, t.loss.map natInts⟩
def Wof (d : Nat) (ts : List Test) : List (List Int) := ts.map (ws d)
def Dof (ts : List Test) : List Dat := ts.map dat

/-- what the house knows of a test -/
structure TestOk (d : Nat) (t : Test) : Prop where
  kn : t.kinds ≠ []
  kl : t.kinds.length ≤ 4
  kf : ∀ x ∈ t.kinds, x.fails ≤ d
  vn : t.loss ≠ []
  vl : t.loss.length ≤ 4
  vr : ∀ r ∈ t.loss, r.length = t.kinds.length ∧ ∀ x ∈ r, x ≤ 1000

theorem sum_cast : ∀ l : List Nat, ((Rp06.sum l : Nat) : Int) = (l.map fun (n : Nat) => (n : Int)).sum
  | [] => rfl
  | x :: r => by
    have ih := sum_cast r
    show ((x + Rp06.sum r : Nat) : Int) = _
    rw [List.map_cons, List.sum_cons, ← ih]
    omega
theorem total_cast (d : Nat) (t : Test) : ((t.total d : Nat) : Int) = (ws d t).sum := by
  unfold Test.total ws
  rw [sum_cast, List.map_map]
  rfl
theorem zip_map_map {α β γ δ : Type} (f : α → γ) (g : β → δ) : ∀ (l : List α) (m : List β), (l.map f).zip (m.map g) = (l.zip m).map fun p => (f p.1, g p.2)
  | [], _ => by simp
  | _ :: _, [] => by simp
  | a :: l, b :: m => by simp [zip_map_map f g l m]
theorem zip_self {α γ δ : Type} (f : α → γ) (g : α → δ) : ∀ (l : List α), (l.map f).zip (l.map g) = l.map fun x => (f x, g x)
  | [] => rfl
  | a :: l => by simp [zip_self f g l]

theorem now_fail (d : Nat) (t : Test) (x : Kind) : (t.after false).now d x = t.now d x * x.fails := by
  show x.weight * (x.fails ^ (t.f + 1) * (d - x.fails) ^ t.s) = x.weight * (x.fails ^ t.f * (d - x.fails) ^ t.s) * x.fails
  rw [Nat.pow_succ]
  simp only [Nat.mul_assoc, Nat.mul_comm, Nat.mul_left_comm]
theorem now_pass (d : Nat) (t : Test) (x : Kind) : (t.after true).now d x = t.now d x * (d - x.fails) := by
  show x.weight * (x.fails ^ t.f * (d - x.fails) ^ (t.s + 1)) = x.weight * (x.fails ^ t.f * (d - x.fails) ^ t.s) * (d - x.fails)
  rw [Nat.pow_succ]
  simp only [Nat.mul_assoc, Nat.mul_comm, Nat.mul_left_comm]
theorem after_kinds (t : Test) (p : Bool) : (t.after p).kinds = t.kinds := by cases p <;> rfl
theorem after_loss (t : Test) (p : Bool) : (t.after p).loss = t.loss := by cases p <;> rfl
theorem dat_after (t : Test) (p : Bool) : dat (t.after p) = dat t := by cases p <;> rfl
theorem ws_after {d : Nat} {t : Test} (h : ∀ x ∈ t.kinds, x.fails ≤ d) (p : Bool) : ws d (t.after p) = wAfter (fls t) (ws d t) p (d : Int) := by
  unfold wAfter ws fls
  rw [after_kinds, zip_self]
  cases p with
  | true =>
    rw [if_pos rfl, List.map_map]
    refine List.map_congr_left fun x hx => ?_
    show (((t.after true).now d x : Nat) : Int) = (t.now d x : Int) * ((d : Int) - (x.fails : Int))
    rw [now_pass, Int.natCast_mul, Int.natCast_sub (h x hx)]
  | false =>
    rw [if_neg (by decide), List.map_map]
    refine List.map_congr_left fun x _ => ?_
    show (((t.after false).now d x : Nat) : Int) = (t.now d x : Int) * (x.fails : Int)
    rw [now_fail, Int.natCast_mul]

/-! ### tests behind a result -/
theorem after_list (ts : List Test) (j : Nat) (p : Bool) (hj : j < ts.length) : Rp06.after ts j p = ts.take j ++ [(ts.getD j ⟨[], [], 0, 0⟩).after p] ++ ts.drop (j + 1) := by
  refine List.ext_getElem? fun i => ?_
  unfold Rp06.after
  rw [List.getElem?_map]
  by_cases hi : i < ts.length
  · rw [List.getElem?_range hi]
    simp only [Option.map_some]
    by_cases e : i = j
    · subst e
      rw [if_pos rfl, List.append_assoc, List.getElem?_append_right (by simp; omega)]
      simp [Nat.min_eq_left (Nat.le_of_lt hi)]
    · rw [if_neg e]
      by_cases lt : i < j
      · rw [List.append_assoc, List.getElem?_append_left (by simp; omega), List.getElem?_take_of_lt lt]
        rw [List.getD_eq_getElem?_getD, List.getElem?_eq_getElem hi]; rfl
      · rw [List.append_assoc, List.getElem?_append_right (by simp; omega)]
        simp only [List.length_take, Nat.min_eq_left (Nat.le_of_lt hj)]
        obtain ⟨k, hk⟩ : ∃ k, i = j + 1 + k := ⟨i - (j + 1), by omega⟩
        subst hk
        rw [show j + 1 + k - j = k + 1 by omega]
        show _ = (ts.drop (j + 1))[k]?
        rw [List.getElem?_drop, List.getD_eq_getElem?_getD, List.getElem?_eq_getElem hi]; rfl
  · rw [List.getElem?_eq_none (by simp; omega), Option.map_none]
    refine (List.getElem?_eq_none ?_).symm
    simp; omega
theorem after_length (ts : List Test) (j : Nat) (p : Bool) : (Rp06.after ts j p).length = ts.length := by
  unfold Rp06.after
  simp
theorem after_get {ts : List Test} {j i : Nat} {p : Bool} {t : Test} (h : ts[i]? = some t) : (Rp06.after ts j p)[i]? = some (if i = j then t.after p else t) := by
  have hi : i < ts.length := (List.getElem?_eq_some_iff.mp h).1
  unfold Rp06.after
  rw [List.getElem?_map, List.getElem?_range hi]
  have e : ts.getD i ⟨[], [], 0, 0⟩ = t := by rw [List.getD_eq_getElem?_getD, h]; rfl
  rw [Option.map_some, e]
theorem Dof_after (ts : List Test) (j : Nat) (p : Bool) : Dof (Rp06.after ts j p) = Dof ts := by
  refine List.ext_getElem? fun i => ?_
  unfold Dof
  rw [List.getElem?_map, List.getElem?_map]
  cases h : ts[i]? with
  | none =>
    have : ts.length ≤ i := List.getElem?_eq_none_iff.mp h
    rw [List.getElem?_eq_none (by rw [after_length]; exact this)]
  | some t =>
    rw [after_get h, Option.map_some, Option.map_some]
    by_cases e : i = j
    · rw [if_pos e, dat_after]
    · rw [if_neg e]
theorem getD_map' {α β : Type} (f : α → β) (l : List α) (j : Nat) (a : α) (b : β) (h : j < l.length) : (l.map f).getD j b = f (l.getD j a) := by
  rw [List.getD_eq_getElem?_getD, List.getD_eq_getElem?_getD, List.getElem?_map, List.getElem?_eq_getElem h]
  rfl
theorem Wof_after {d : Nat} {ts : List Test} {j : Nat} (hj : j < ts.length) (h : ∀ t ∈ ts, ∀ x ∈ t.kinds, x.fails ≤ d) (p : Bool) :
    Wof d (Rp06.after ts j p) = behind (d : Int) (Dof ts) j p (Wof d ts) := by
  rw [after_list ts j p hj]
  unfold behind Wof Dof
  rw [List.map_append, List.map_append, List.map_take, List.map_drop]
  rw [getD_map' dat ts j ⟨[], [], 0, 0⟩ _ hj, getD_map' (ws d) ts j ⟨[], [], 0, 0⟩ _ hj]
  have hm : ts.getD j ⟨[], [], 0, 0⟩ ∈ ts := by
    rw [List.getD_eq_getElem?_getD, List.getElem?_eq_getElem hj]
    exact List.getElem_mem hj
  rw [List.map_singleton, ws_after (h _ hm)]
  rfl
end Ta
end
section
set_option Elab.async false
set_option maxRecDepth 100000
namespace Ta
open Rp06 (Kind Test House)

/-! ### products and sums -/
def prodR : List (List Int) → Int
  | [] => 1
  | w :: r => w.sum * prodR r
theorem prods_go : ∀ (W : List (List Int)) (k : Int), W.foldl (fun a w => a * w.sum) k = k * prodR W
  | [], k => by simp [prodR]
  | w :: r, k => by
    rw [List.foldl_cons, prods_go r, prodR, Int.mul_assoc]
theorem prods_eq (W : List (List Int)) : prods W = prodR W := by
  unfold prods
  rw [prods_go, Int.one_mul]
theorem all_cast (d : Nat) : ∀ ts : List Test, ((Rp06.all d ts : Nat) : Int) = prods (Wof d ts)
  | [] => rfl
  | t :: r => by
    have ih := all_cast d r
    rw [prods_eq] at ih ⊢
    show ((t.total d * Rp06.all d r : Nat) : Int) = (ws d t).sum * prodR (Wof d r)
    rw [Int.natCast_mul, ih, total_cast]
theorem scale_cast (d : Nat) (ts : List Test) (n : Nat) : ((Rp06.all d ts * d ^ n : Nat) : Int) = scale (d : Int) (Wof d ts) n := by
  unfold scale
  rw [Int.natCast_mul, all_cast, Int.natCast_pow]

/-! ### the first least one -/
structure First (g : Nat → Nat) (n b : Nat) : Prop where
  lt : b < n
  le : ∀ v, v < n → g b ≤ g v
  before : ∀ v, v < b → g b < g v
theorem first_fold (g : Nat → Nat) : ∀ n, 0 < n → First g n ((List.range n).foldl (fun b v => if g v < g b then v else b) 0)
  | 0, h => (Nat.lt_irrefl 0 h).elim
  | 1, _ => by
    have e : (List.range 1).foldl (fun b v => if g v < g b then v else b) 0 = 0 := by
      simp [List.range_succ]
    rw [e]
    exact ⟨by omega, fun v hv => by
      have : v = 0 := by omega
      subst this; exact Nat.le_refl _, fun v hv => by omega⟩
  | n + 2, _ => by
    have ih := first_fold g (n + 1) (by omega)
    rw [List.range_succ, List.foldl_append]
    generalize (List.range (n + 1)).foldl (fun b v => if g v < g b then v else b) 0 = b at ih
    show First g (n + 2) (if g (n + 1) < g b then n + 1 else b)
    obtain ⟨h1, h2, h3⟩ := ih
    by_cases c : g (n + 1) < g b
    · rw [if_pos c]
      refine ⟨by omega, fun v hv => ?_, fun v hv => ?_⟩
      · by_cases e : v = n + 1
        · subst e; exact Nat.le_refl _
        · have := h2 v (by omega); omega
      · have := h2 v (by omega); omega
    · rw [if_neg c]
      refine ⟨by omega, fun v hv => ?_, h3⟩
      by_cases e : v = n + 1
      · subst e; omega
      · exact h2 v (by omega)

/-! ### verdicts -/
theorem charge_cast (d : Nat) (t : Test) (v : Nat) (hv : v < t.loss.length) : (vCosts (dat t).vd (ws d t))[v]? = some ((t.charge d v : Nat) : Int) := by
  unfold vCosts dat
  simp only [List.getElem?_map]
  rw [List.getElem?_eq_getElem hv]
  simp only [Option.map_some, Option.some.injEq]
  unfold Test.charge
  rw [sum_cast, List.map_map]
  have e : t.loss.getD v [] = t.loss[v] := by
    rw [List.getD_eq_getElem?_getD, List.getElem?_eq_getElem hv]; rfl
  rw [e]
  unfold ws natInts
  rw [zip_map_map, List.map_map]
  refine congrArg List.sum (List.map_congr_left fun p _ => ?_)
  show ((t.now d p.1 : Nat) : Int) * ((p.2 : Nat) : Int) = ((t.now d p.1 * p.2 : Nat) : Int)
  rw [Int.natCast_mul]
theorem vCosts_length (d : Nat) (t : Test) : (vCosts (dat t).vd (ws d t)).length = t.loss.length := by
  unfold vCosts dat
  simp
theorem verdict_first {d : Nat} {t : Test} (h : t.loss ≠ []) : First (t.charge d) t.loss.length (t.verdict d) :=
  first_fold _ _ (List.length_pos_iff.mpr h)
theorem least_min {d : Nat} {t : Test} (h : t.loss ≠ []) : IsMin ((t.least d : Nat) : Int) (vCosts (dat t).vd (ws d t)) := by
  have f := verdict_first (d := d) h
  refine ⟨List.mem_of_getElem? (charge_cast d t _ f.lt), fun x hx => ?_⟩
  obtain ⟨j, hj⟩ := List.mem_iff_getElem?.mp hx
  have hl : j < t.loss.length := by
    have := (List.getElem?_eq_some_iff.mp hj).1
    rwa [vCosts_length] at this
  rw [charge_cast d t j hl] at hj
  have e := Option.some.inj hj
  rw [← e]
  have := f.le j hl
  unfold Test.least
  omega
theorem least_imin {d : Nat} {t : Test} (h : t.loss ≠ []) : imin (vCosts (dat t).vd (ws d t)) = ((t.least d : Nat) : Int) := imin_eq (least_min h)

/-! ### stopping -/
theorem without_zero (w : List Int) (W : List (List Int)) : without (w :: W) 0 = W := rfl
theorem without_succ (w : List Int) (W : List (List Int)) (j : Nat) : without (w :: W) (j + 1) = w :: without W j := rfl
theorem sum_mul (k : Int) : ∀ l : List Int, (l.map fun x => k * x).sum = k * l.sum
  | [] => by simp
  | x :: r => by
    rw [List.map_cons, List.sum_cons, List.sum_cons, sum_mul k r, Int.mul_add]
theorem sum_mul_r (k : Int) : ∀ l : List Int, (l.map fun x => x * k).sum = l.sum * k
  | [] => by simp
  | x :: r => by
    rw [List.map_cons, List.sum_cons, List.sum_cons, sum_mul_r k r, Int.add_mul]
theorem rest_sum (d : Nat) : ∀ ts : List Test, (∀ t ∈ ts, t.loss ≠ []) →
    ((List.range ts.length).map fun j => imin (vCosts ((Dof ts).getD j ⟨[], []⟩).vd ((Wof d ts).getD j [])) * prodR (without (Wof d ts) j)).sum = ((Rp06.rest d ts : Nat) : Int)
  | [], _ => rfl
  | t :: r, h => by
    have ih := rest_sum d r fun u hu => h u (List.mem_cons_of_mem _ hu)
    rw [List.length_cons, List.range_succ_eq_map, List.map_cons, List.sum_cons, List.map_map]
    show imin (vCosts (dat t).vd (ws d t)) * prodR (Wof d r) + ((List.range r.length).map fun j => imin (vCosts ((Dof r).getD j ⟨[], []⟩).vd ((Wof d r).getD j [])) * ((ws d t).sum * prodR (without (Wof d r) j))).sum = _
    have e : ∀ j, imin (vCosts ((Dof r).getD j ⟨[], []⟩).vd ((Wof d r).getD j [])) * ((ws d t).sum * prodR (without (Wof d r) j)) =
        (ws d t).sum * (imin (vCosts ((Dof r).getD j ⟨[], []⟩).vd ((Wof d r).getD j [])) * prodR (without (Wof d r) j)) := fun j => by
      rw [← Int.mul_assoc, Int.mul_comm (imin _), Int.mul_assoc]
    simp only [e]
    have e2 := sum_mul (ws d t).sum ((List.range r.length).map fun j => imin (vCosts ((Dof r).getD j ⟨[], []⟩).vd ((Wof d r).getD j [])) * prodR (without (Wof d r) j))
    rw [List.map_map] at e2
    rw [show (List.map (fun j => (ws d t).sum * (imin (vCosts ((Dof r).getD j ⟨[], []⟩).vd ((Wof d r).getD j [])) * prodR (without (Wof d r) j))) (List.range r.length)).sum = _ from e2, ih]
    rw [least_imin (h t List.mem_cons_self), ← prods_eq, ← all_cast, ← total_cast]
    show _ = ((t.least d * Rp06.all d r + t.total d * Rp06.rest d r : Nat) : Int)
    rw [Int.natCast_add, Int.natCast_mul, Int.natCast_mul]
theorem stopping_cast {d : Nat} {ts : List Test} (h : ∀ t ∈ ts, t.loss ≠ []) (n : Nat) : stopping (d : Int) (Dof ts) (Wof d ts) n = ((Rp06.rest d ts * d ^ n : Nat) : Int) := by
  unfold stopping
  rw [Int.natCast_mul, ← rest_sum d ts h, Int.natCast_pow, ← sum_mul_r, List.map_map]
  have e : (Dof ts).length = ts.length := by simp [Dof]
  rw [e]
  refine congrArg List.sum (List.map_congr_left fun j _ => ?_)
  show stopTerm _ _ _ _ _ = _
  unfold stopTerm scale
  rw [prods_eq]
  exact (Int.mul_assoc _ _ _).symm

/-! ### the best way -/
theorem leastF_is : ∀ (l : List Nat) (a : Nat), IsMin ((Rp06.least a l : Nat) : Int) (((a :: l).map fun (n : Nat) => (n : Int)))
  | [], a => ⟨by simp [Rp06.least], fun x hx => by simp at hx; simp [Rp06.least, hx]⟩
  | y :: r, a => by
    have ih := leastF_is r (if y < a then y else a)
    show IsMin ((Rp06.least (if y < a then y else a) r : Nat) : Int) _
    obtain ⟨h1, h2⟩ := ih
    rw [List.map_cons] at h1 h2 ⊢
    rw [List.map_cons]
    have hb := h2 _ List.mem_cons_self
    refine ⟨?_, fun x hx => ?_⟩
    · rcases List.mem_cons.mp h1 with e | e
      · rw [e]
        by_cases c : y < a
        · rw [if_pos c]; exact List.mem_cons_of_mem _ List.mem_cons_self
        · rw [if_neg c]; exact List.mem_cons_self
      · exact List.mem_cons_of_mem _ (List.mem_cons_of_mem _ e)
    · rcases List.mem_cons.mp hx with e | hx
      · subst e
        refine Int.le_trans hb ?_
        split <;> omega
      · rcases List.mem_cons.mp hx with e | hx
        · subst e
          refine Int.le_trans hb ?_
          split <;> omega
        · exact h2 x (List.mem_cons_of_mem _ hx)
/-- what holds of all tests of a house -/
def AllOk (d : Nat) (ts : List Test) : Prop := ∀ t ∈ ts, TestOk d t
theorem TestOk.after {d : Nat} {t : Test} (h : TestOk d t) (p : Bool) : TestOk d (t.after p) := by
  cases p <;> exact ⟨h.kn, h.kl, h.kf, h.vn, h.vl, h.vr⟩
theorem AllOk.after {d : Nat} {ts : List Test} (h : AllOk d ts) (j : Nat) (p : Bool) : AllOk d (Rp06.after ts j p) := by
  intro t ht
  obtain ⟨i, hi⟩ := List.mem_iff_getElem?.mp ht
  have hl : i < ts.length := by
    have := (List.getElem?_eq_some_iff.mp hi).1
    rwa [after_length] at this
  have e := after_get (j := j) (p := p) (List.getElem?_eq_getElem hl)
  rw [hi] at e
  have e := Option.some.inj e
  rw [e]
  have hm := h _ (List.getElem_mem hl)
  by_cases c : i = j
  · rw [if_pos c]; exact hm.after p
  · rw [if_neg c]; exact hm
theorem best_cast {d c : Nat} : ∀ (n : Nat) (ts : List Test), AllOk d ts → least (d : Int) (c : Int) (Dof ts) n (Wof d ts) = ((Rp06.best d c n ts : Nat) : Int)
  | 0, ts, h => by
    show imin [stopping _ _ _ 0] = ((Rp06.rest d ts : Nat) : Int)
    rw [stopping_cast (fun t ht => (h t ht).vn)]
    simp [imin]
  | n + 1, ts, h => by
    have key : beginnings (d : Int) (c : Int) (Dof ts) (n + 1) (Wof d ts) = ((Rp06.rest d ts * d ^ (n + 1)) :: (List.range ts.length).map fun j =>
        c * (Rp06.all d ts * d ^ (n + 1)) + (Rp06.best d c n (Rp06.after ts j false) + Rp06.best d c n (Rp06.after ts j true))).map fun (n : Nat) => (n : Int) := by
      show stopping _ _ _ _ :: _ = _
      rw [List.map_cons, stopping_cast (fun t ht => (h t ht).vn), List.map_map]
      refine congrArg (List.cons _) ?_
      have e : (Dof ts).length = ts.length := by simp [Dof]
      rw [e]
      refine List.map_congr_left fun j hj => ?_
      have hj' : j < ts.length := List.mem_range.mp hj
      have hf : ∀ t ∈ ts, ∀ x ∈ t.kinds, x.fails ≤ d := fun t ht => (h t ht).kf
      show trying _ _ _ _ _ _ = ((c * (Rp06.all d ts * d ^ (n + 1)) + (Rp06.best d c n (Rp06.after ts j false) + Rp06.best d c n (Rp06.after ts j true)) : Nat) : Int)
      unfold trying
      rw [← Wof_after hj' hf false, ← Wof_after hj' hf true]
      have b1 := best_cast (c := c) n (Rp06.after ts j false) (h.after j false)
      have b2 := best_cast (c := c) n (Rp06.after ts j true) (h.after j true)
      rw [Dof_after] at b1 b2
      rw [b1, b2, Int.natCast_add, Int.natCast_add, Int.natCast_mul, scale_cast, Int.add_assoc]
    rw [least_eq, key]
    exact imin_eq (leastF_is _ _)
theorem beginnings_cast {d c n : Nat} {ts : List Test} (h : AllOk d ts) : beginnings (d : Int) (c : Int) (Dof ts) (n + 1) (Wof d ts) =
    ((Rp06.rest d ts * d ^ (n + 1)) :: (List.range ts.length).map fun j => Rp06.again d c n ts j).map fun (n : Nat) => (n : Int) := by
  show stopping _ _ _ _ :: _ = _
  rw [List.map_cons, stopping_cast (fun t ht => (h t ht).vn), List.map_map]
  refine congrArg (List.cons _) ?_
  have e : (Dof ts).length = ts.length := by simp [Dof]
  rw [e]
  refine List.map_congr_left fun j hj => ?_
  have hj' : j < ts.length := List.mem_range.mp hj
  have hf : ∀ t ∈ ts, ∀ x ∈ t.kinds, x.fails ≤ d := fun t ht => (h t ht).kf
  show trying _ _ _ _ _ _ = ((Rp06.again d c n ts j : Nat) : Int)
  unfold trying Rp06.again
  rw [← Wof_after hj' hf false, ← Wof_after hj' hf true]
  have b1 := best_cast (c := c) n (Rp06.after ts j false) (h.after j false)
  have b2 := best_cast (c := c) n (Rp06.after ts j true) (h.after j true)
  rw [Dof_after] at b1 b2
  rw [b1, b2, Int.natCast_add, Int.natCast_add, Int.natCast_mul, scale_cast, Int.add_assoc]
end Ta
end
section
set_option Elab.async false
set_option maxRecDepth 100000
namespace Ta
open Rp06 (Kind Test House)

/-! ### what to do next -/
theorem cast_get {l : List Nat} {k : Nat} {m : Nat} (h : (l.map fun (n : Nat) => (n : Int))[k]? = some (m : Int)) : l[k]? = some m := by
  rw [List.getElem?_map] at h
  cases e : l[k]? with
  | none => rw [e] at h; cases h
  | some x =>
    rw [e] at h
    have h3 : (x : Int) = (m : Int) := Option.some.inj h
    have e2 : x = m := by omega
    rw [e2]
theorem find_range (p : Nat → Bool) : ∀ (n k : Nat), k < n → p k = true → (∀ i, i < k → p i = false) → (List.range n).find? p = some k := by
  intro n k hk hp hb
  rw [List.find?_range_eq_some]
  exact ⟨hp, List.mem_range.mpr hk, fun i hi => by rw [hb i hi]; rfl⟩
theorem next_of_index {d c n : Nat} {ts : List Test} {k : Nat} (h : AllOk d ts) (hk : (beginnings (d : Int) (c : Int) (Dof ts) n (Wof d ts))[k]? = some ((Rp06.best d c n ts : Nat) : Int))
    (hb : ∀ i, i < k → (beginnings (d : Int) (c : Int) (Dof ts) n (Wof d ts))[i]? ≠ some ((Rp06.best d c n ts : Nat) : Int)) :
    Rp06.next d c n ts = if k = 0 then none else some (k - 1) := by
  cases n with
  | zero =>
    have : k = 0 := by
      have := (List.getElem?_eq_some_iff.mp hk).1
      simp only [beginnings, List.length_cons, List.length_nil] at this
      omega
    rw [if_pos this]
    rfl
  | succ n =>
    rw [beginnings_cast h] at hk hb
    have hk := cast_get hk
    have hb : ∀ i, i < k → ((Rp06.rest d ts * d ^ (n + 1)) :: (List.range ts.length).map fun j => Rp06.again d c n ts j)[i]? ≠ some (Rp06.best d c (n + 1) ts) := fun i hi e => by
      refine hb i hi ?_
      rw [List.getElem?_map, e]
      rfl
    show (if Rp06.best d c (n + 1) ts = Rp06.rest d ts * d ^ (n + 1) then none else (List.range ts.length).find? fun j => Rp06.again d c n ts j == Rp06.best d c (n + 1) ts) = _
    cases k with
    | zero =>
      have e : Rp06.rest d ts * d ^ (n + 1) = Rp06.best d c (n + 1) ts := Option.some.inj hk
      rw [if_pos e.symm, if_pos rfl]
    | succ k =>
      rw [if_neg (Nat.succ_ne_zero k)]
      have h0 := hb 0 (by omega)
      rw [if_neg (fun e => h0 (congrArg some e.symm))]
      have hk : ((List.range ts.length).map fun j => Rp06.again d c n ts j)[k]? = some (Rp06.best d c (n + 1) ts) := hk
      rw [List.getElem?_map] at hk
      have hl : k < ts.length := by
        have := (List.getElem?_eq_some_iff.mp (show ((List.range ts.length).map fun j => Rp06.again d c n ts j)[k]? = some (Rp06.best d c (n + 1) ts) by rw [List.getElem?_map]; exact hk)).1
        simpa using this
      rw [List.getElem?_range hl] at hk
      have hk : Rp06.again d c n ts k = Rp06.best d c (n + 1) ts := Option.some.inj hk
      rw [find_range _ ts.length k hl (by rw [hk]; exact beq_self_eq_true _) fun i hi => ?_]
      · rfl
      · have := hb (i + 1) (by omega)
        have e : ((List.range ts.length).map fun j => Rp06.again d c n ts j)[i]? = some (Rp06.again d c n ts i) := by
          rw [List.getElem?_map, List.getElem?_range (by omega)]
          rfl
        have this : ((List.range ts.length).map fun j => Rp06.again d c n ts j)[i]? ≠ some (Rp06.best d c (n + 1) ts) := this
        rw [e] at this
        exact beq_eq_false_iff_ne.mpr fun z => this (congrArg some z)
theorem shown_cast (d n : Nat) (ts : List Test) (u : Nat) : ((Rp06.shown d n ts u : Nat) : Int) = ((u : Int) * 1000000).fdiv (scale (d : Int) (Wof d ts) n) := by
  rw [← scale_cast, Rp06.shown]
  rw [Int.fdiv_eq_ediv_of_nonneg _ (Int.natCast_nonneg _)]
  rw [show ((u : Int) * 1000000) = ((1000000 * u : Nat) : Int) by omega]
  exact Int.natCast_ediv _ _

/-! ### the house -/
structure HouseOk (h : House) : Prop where
  lo : 2 ≤ h.whole
  hi : h.whole ≤ 20
  co : h.cost ≤ 1000
  le : h.left ≤ 4
  tl : h.tests.length ≤ 3
  ok : AllOk h.whole h.tests
  pos : ∀ t ∈ h.tests, 0 < t.total h.whole
  bd : ∀ t ∈ h.tests, ∀ x ∈ t.kinds, t.now h.whole x * 20 ^ h.left ≤ 16000000
theorem HouseOk.init : HouseOk Rp06.init :=
  ⟨by decide, by decide, by decide, by decide, by decide, (fun _ h => nomatch h), (fun _ h => nomatch h), (fun _ h => nomatch h)⟩
theorem HouseOk.begins {d c n : Nat} (h : ¬ (d < 2 ∨ Rp06.WHOLE < d ∨ Rp06.COST < c ∨ Rp06.TRIES < n)) : HouseOk ⟨d, c, n, []⟩ := by
  have e1 : Rp06.WHOLE = 20 := rfl
  have e2 : Rp06.COST = 1000 := rfl
  have e3 : Rp06.TRIES = 4 := rfl
  exact ⟨by show 2 ≤ d; omega, by show d ≤ 20; omega, by show c ≤ 1000; omega, by show n ≤ 4; omega, Nat.zero_le _, (fun _ h => nomatch h), (fun _ h => nomatch h), (fun _ h => nomatch h)⟩
theorem now_after_le {d : Nat} {t : Test} {x : Kind} (hd : d ≤ 20) (hx : x.fails ≤ d) (p : Bool) : (t.after p).now d x ≤ t.now d x * 20 := by
  cases p with
  | true => rw [now_pass]; exact Nat.mul_le_mul_left _ (by omega)
  | false => rw [now_fail]; exact Nat.mul_le_mul_left _ (by omega)
theorem HouseOk.got {h : House} {j q : Nat} (k : HouseOk h) (hl : 0 < h.left) (hz : ¬ ((h.at_ j).after (q != 0)).total h.whole = 0) : HouseOk (h.got j q) := by
  have e : ∀ t ∈ Rp06.after h.tests j (q != 0), ∃ i u, h.tests[i]? = some u ∧ t = if i = j then u.after (q != 0) else u := fun t ht => by
    obtain ⟨i, hi⟩ := List.mem_iff_getElem?.mp ht
    have hl : i < h.tests.length := by
      have := (List.getElem?_eq_some_iff.mp hi).1
      rwa [after_length] at this
    refine ⟨i, h.tests[i], List.getElem?_eq_getElem hl, ?_⟩
    have e := after_get (j := j) (p := q != 0) (List.getElem?_eq_getElem hl)
    rw [hi] at e
    exact Option.some.inj e
  refine ⟨k.lo, k.hi, k.co, by show h.left - 1 ≤ 4; have := k.le; omega, by show (Rp06.after _ _ _).length ≤ 3; rw [after_length]; exact k.tl, k.ok.after j _, fun t ht => ?_, fun t ht x hx => ?_⟩
  · obtain ⟨i, u, hi, rfl⟩ := e t ht
    show 0 < Test.total _ h.whole
    by_cases c : i = j
    · rw [if_pos c]
      have : h.at_ j = u := by
        unfold House.at_
        rw [List.getD_eq_getElem?_getD, ← c, hi]
        rfl
      rw [this] at hz
      omega
    · rw [if_neg c]
      exact k.pos u (List.mem_of_getElem? hi)
  · obtain ⟨i, u, hi, rfl⟩ := e t ht
    show Test.now _ h.whole x * 20 ^ (h.left - 1) ≤ 16000000
    have hm := List.mem_of_getElem? hi
    obtain ⟨m, hm'⟩ : ∃ m, h.left = m + 1 := ⟨h.left - 1, by omega⟩
    by_cases c : i = j
    · rw [if_pos c] at hx ⊢
      rw [after_kinds] at hx
      have b := k.bd u hm x hx
      have a := now_after_le (t := u) k.hi ((k.ok u hm).kf x hx) (q != 0)
      rw [hm'] at b ⊢
      rw [Nat.pow_succ] at b
      refine Nat.le_trans (Nat.mul_le_mul_right _ a) ?_
      show u.now h.whole x * 20 * 20 ^ m ≤ 16000000
      rw [Nat.mul_assoc, Nat.mul_comm 20]
      exact b
    · rw [if_neg c] at hx ⊢
      have b := k.bd u hm x hx
      refine Nat.le_trans (Nat.mul_le_mul_left _ ?_) b
      exact Nat.pow_le_pow_right (by decide) (by omega)
theorem pairs_spec : ∀ {l : List Nat} {ks : List Kind}, Rp06.pairs l = some ks → l.length = 2 * ks.length
  | [], ks, h => by
    have := Option.some.inj h
    subst this
    rfl
  | [_], ks, h => nomatch h
  | w :: k :: r, ks, h => by
    have h : (Rp06.pairs r).map (fun l => ⟨w, k⟩ :: l) = some ks := h
    cases e : Rp06.pairs r with
    | none => rw [e] at h; cases h
    | some ms =>
      rw [e] at h
      have := Option.some.inj h
      subst this
      have ih := pairs_spec e
      show r.length + 2 = 2 * (ms.length + 1)
      omega
theorem kinds_spec {d : Nat} {l : List Nat} {ks : List Kind} (h : Rp06.kinds? d l = some ks) : Rp06.pairs l = some ks ∧ ks ≠ [] ∧ ks.length ≤ 4 ∧ ∀ x ∈ ks, 1 ≤ x.weight ∧ x.weight ≤ 100 ∧ x.fails ≤ d := by
  unfold Rp06.kinds? at h
  cases e : Rp06.pairs l with
  | none => rw [e] at h; cases h
  | some ms =>
    rw [e] at h
    dsimp only at h
    split at h
    · rename_i c
      have := Option.some.inj h
      subst this
      refine ⟨rfl, c.1, c.2.1, fun x hx => ?_⟩
      have := List.all_eq_true.mp c.2.2 x hx
      simpa using this
    · cases h
theorem HouseOk.test {h : House} {k : List Nat} {l : List (List Nat)} {ks : List Kind} (H : HouseOk h) (ht : ¬ h.tests.length = Rp06.TESTS) (hk : Rp06.kinds? h.whole k = some ks)
    (hl : ¬ (l = [] ∨ Rp06.VERDICTS < l.length ∨ (l.all fun r => r.length == ks.length && r.all fun x => decide (x ≤ Rp06.COST)) = false)) : HouseOk { h with tests := h.tests ++ [⟨ks, l, 0, 0⟩] } := by
  have e1 : Rp06.TESTS = 3 := rfl
  have e2 : Rp06.VERDICTS = 4 := rfl
  obtain ⟨_, k1, k2, k3⟩ := kinds_spec hk
  have now0 : ∀ x : Kind, Test.now ⟨ks, l, 0, 0⟩ h.whole x = x.weight := fun x => by
    show x.weight * (x.fails ^ 0 * (h.whole - x.fails) ^ 0) = x.weight
    simp
  have hn : ¬ l = [] := fun z => hl (.inl z)
  have hv : ¬ Rp06.VERDICTS < l.length := fun z => hl (.inr (.inl z))
  have ha : (l.all fun r => r.length == ks.length && r.all fun x => decide (x ≤ Rp06.COST)) = true := by
    cases e : l.all fun r => r.length == ks.length && r.all fun x => decide (x ≤ Rp06.COST) with
    | true => rfl
    | false => exact (hl (.inr (.inr e))).elim
  have T : TestOk h.whole ⟨ks, l, 0, 0⟩ := ⟨k1, k2, fun x hx => (k3 x hx).2.2, hn, by show l.length ≤ 4; omega, fun r hr => by
    have := List.all_eq_true.mp ha r hr
    simp only [Bool.and_eq_true, beq_iff_eq, List.all_eq_true, decide_eq_true_eq] at this
    exact this⟩
  have tl := H.tl
  refine ⟨H.lo, H.hi, H.co, H.le, by show (h.tests ++ [_]).length ≤ 3; rw [List.length_append, List.length_singleton]; omega, fun t ht => ?_, fun t ht => ?_, fun t ht x hx => ?_⟩
  · rcases List.mem_append.mp ht with ht | ht
    · exact H.ok t ht
    · rw [List.mem_singleton.mp ht]; exact T
  · rcases List.mem_append.mp ht with ht | ht
    · exact H.pos t ht
    · rw [List.mem_singleton.mp ht]
      show 0 < Rp06.sum (ks.map _)
      cases ks with
      | nil => exact (k1 rfl).elim
      | cons x r =>
        have := (k3 x List.mem_cons_self).1
        show 0 < Test.now _ _ x + Rp06.sum _
        rw [now0]
        omega
  · rcases List.mem_append.mp ht with ht | ht
    · exact H.bd t ht x hx
    · rw [List.mem_singleton.mp ht] at hx ⊢
      have b := (k3 x hx).2.1
      show Test.now _ h.whole x * 20 ^ h.left ≤ 16000000
      rw [now0]
      have : 20 ^ h.left ≤ 20 ^ 4 := Nat.pow_le_pow_right (by decide) H.le
      exact Nat.le_trans (Nat.mul_le_mul b this) (by decide)
theorem HouseOk.step {h : House} (H : HouseOk h) (c : Rp06.Call) : HouseOk (Rp06.step h c).1 := by
  cases c with
  | begins d c n =>
    show HouseOk (if _ then _ else _ : House × Rp06.Ans).1
    split
    · exact H
    · rename_i z; exact HouseOk.begins z
  | test k l =>
    show HouseOk (if _ then _ else _ : House × Rp06.Ans).1
    split
    · exact H
    · rename_i z
      cases e : Rp06.kinds? h.whole k with
      | none => exact H
      | some ks =>
        dsimp only
        split
        · exact H
        · rename_i y; exact H.test z e y
  | result j q =>
    show HouseOk (if _ then _ else _ : House × Rp06.Ans).1
    split
    · exact H
    · split
      · exact H
      · split
        · exact H
        · rename_i a b c
          exact H.got (by omega) c
  | best => exact H
  | chances j => show HouseOk (if _ then _ else _ : House × Rp06.Ans).1; split <;> exact H
  | fails j => show HouseOk (if _ then _ else _ : House × Rp06.Ans).1; split <;> exact H
  | worth n => show HouseOk (if _ then _ else _ : House × Rp06.Ans).1; split <;> exact H
  | would j q =>
    show HouseOk (if _ then _ else _ : House × Rp06.Ans).1
    split
    · exact H
    · split
      · exact H
      · split <;> exact H
  | state => exact H

/-! ### bounds within the ways -/
/-- so many tries are left: no weight will pass 16000000 -/
def WBd (n : Nat) (W : List (List Int)) : Prop := ∀ w ∈ W, w.length ≤ 4 ∧ ∀ x ∈ w, 0 ≤ x ∧ x * 20 ^ n ≤ 16000000
structure DatOk (d : Int) (D : Dat) (w : List Int) : Prop where
  fl : D.fl.length = w.length
  fb : ∀ x ∈ D.fl, 0 ≤ x ∧ x ≤ d
  vn : D.vd ≠ []
  vl : D.vd.length ≤ 4
  vr : ∀ r ∈ D.vd, r.length = w.length ∧ ∀ x ∈ r, 0 ≤ x ∧ x ≤ 1000
/-- the tests' data and their weights fit -/
structure WOk (d : Int) (Ds : List Dat) (n : Nat) (W : List (List Int)) : Prop where
  d0 : 2 ≤ d
  d1 : d ≤ 20
  len : Ds.length = W.length
  most : Ds.length ≤ 3
  bd : WBd n W
  dat : ∀ (j : Nat) (D : Dat) (w : List Int), Ds[j]? = some D → W[j]? = some w → DatOk d D w
theorem wAfter_mem {fl w : List Int} {p : Bool} {d x : Int} (h : x ∈ wAfter fl w p d) : ∃ a b, a ∈ w ∧ b ∈ fl ∧ x = a * (if p = true then d - b else b) := by
  unfold wAfter at h
  cases p with
  | true =>
    rw [if_pos rfl] at h
    obtain ⟨⟨a, b⟩, hm, rfl⟩ := List.mem_map.mp h
    exact ⟨a, b, (List.of_mem_zip hm).1, (List.of_mem_zip hm).2, rfl⟩
  | false =>
    rw [if_neg (by decide)] at h
    obtain ⟨⟨a, b⟩, hm, rfl⟩ := List.mem_map.mp h
    exact ⟨a, b, (List.of_mem_zip hm).1, (List.of_mem_zip hm).2, rfl⟩
theorem wAfter_length {fl w : List Int} (h : fl.length = w.length) (p : Bool) (d : Int) : (wAfter fl w p d).length = w.length := by
  unfold wAfter
  split <;> simp [h]
theorem behind_get {d : Int} {Ds : List Dat} {j : Nat} {p : Bool} {W : List (List Int)} (hj : j < W.length) (i : Nat) :
    (behind d Ds j p W)[i]? = if i = j then some (wAfter (Ds.getD j ⟨[], []⟩).fl (W.getD j []) p d) else W[i]? := by
  unfold behind
  rw [List.append_assoc]
  by_cases lt : i < j
  · rw [if_neg (by omega), List.getElem?_append_left (by simp; omega), List.getElem?_take_of_lt lt]
  · rw [List.getElem?_append_right (by simp; omega)]
    simp only [List.length_take, Nat.min_eq_left (Nat.le_of_lt hj)]
    by_cases e : i = j
    · subst e
      rw [if_pos rfl, Nat.sub_self]
      rfl
    · rw [if_neg e]
      obtain ⟨k, hk⟩ : ∃ k, i = j + 1 + k := ⟨i - (j + 1), by omega⟩
      subst hk
      rw [show j + 1 + k - j = k + 1 by omega]
      show (W.drop (j + 1))[k]? = _
      rw [List.getElem?_drop]
theorem behind_length {d : Int} {Ds : List Dat} {j : Nat} {p : Bool} {W : List (List Int)} (hj : j < W.length) : (behind d Ds j p W).length = W.length := by
  unfold behind
  simp
  omega
theorem WOk.behind {d : Int} {Ds : List Dat} {n j : Nat} {W : List (List Int)} (h : WOk d Ds (n + 1) W) (hj : j < W.length) (p : Bool) : WOk d Ds n (behind d Ds j p W) := by
  have hj2 : j < Ds.length := by rw [h.len]; exact hj
  have eW : W.getD j [] = W[j] := by rw [List.getD_eq_getElem?_getD, List.getElem?_eq_getElem hj]; rfl
  have eD : Ds.getD j ⟨[], []⟩ = Ds[j] := by rw [List.getD_eq_getElem?_getD, List.getElem?_eq_getElem hj2]; rfl
  have hD := h.dat j _ _ (List.getElem?_eq_getElem hj2) (List.getElem?_eq_getElem hj)
  refine ⟨h.d0, h.d1, by rw [behind_length hj]; exact h.len, h.most, fun w hw => ?_, fun i D w hi hw => ?_⟩
  · obtain ⟨i, hi⟩ := List.mem_iff_getElem?.mp hw
    rw [behind_get hj] at hi
    by_cases e : i = j
    · rw [if_pos e, eW, eD] at hi
      have hi := Option.some.inj hi
      subst hi
      have hb := h.bd _ (List.getElem_mem hj)
      refine ⟨by rw [wAfter_length hD.fl]; exact hb.1, fun x hx => ?_⟩
      obtain ⟨a, b, ha, hb', rfl⟩ := wAfter_mem hx
      obtain ⟨a0, a1⟩ := hb.2 a ha
      obtain ⟨b0, b1⟩ := hD.fb b hb'
      have hk : 0 ≤ (if p = true then d - b else b) ∧ (if p = true then d - b else b) ≤ 20 := by
        have := h.d1
        split <;> omega
      generalize (if p = true then d - b else b) = k at hk
      have h20 : (0 : Int) ≤ 20 ^ n := Int.le_of_lt (Int.pow_pos (by decide))
      refine ⟨Int.mul_nonneg a0 hk.1, ?_⟩
      rw [Int.mul_assoc]
      refine Int.le_trans (Int.mul_le_mul_of_nonneg_left (Int.mul_le_mul_of_nonneg_right hk.2 h20) a0) ?_
      rw [Int.pow_succ, Int.mul_comm (20 ^ n)] at a1
      exact a1
    · rw [if_neg e] at hi
      have hb := h.bd _ (List.mem_of_getElem? hi)
      refine ⟨hb.1, fun x hx => ?_⟩
      obtain ⟨a0, a1⟩ := hb.2 x hx
      refine ⟨a0, Int.le_trans (Int.mul_le_mul_of_nonneg_left ?_ a0) a1⟩
      rw [Int.pow_succ]
      have : (0 : Int) ≤ 20 ^ n := Int.le_of_lt (Int.pow_pos (by decide))
      omega
  · rw [behind_get hj] at hw
    by_cases e : i = j
    · rw [if_pos e, eW, eD] at hw
      have hw := Option.some.inj hw
      subst hw
      rw [e, List.getElem?_eq_getElem hj2] at hi
      have hi := Option.some.inj hi
      subst hi
      have l := wAfter_length hD.fl p d
      exact ⟨hD.fl.trans l.symm, hD.fb, hD.vn, hD.vl, fun r hr => ⟨(hD.vr r hr).1.trans l.symm, (hD.vr r hr).2⟩⟩
    · rw [if_neg e] at hw
      exact h.dat i D w hi hw
theorem HouseOk.wok {h : House} (H : HouseOk h) : WOk (h.whole : Int) (Dof h.tests) h.left (Wof h.whole h.tests) := by
  refine ⟨by have := H.lo; omega, by have := H.hi; omega, by simp [Dof, Wof], by simp only [Dof, List.length_map]; exact H.tl, fun w hw => ?_, fun j D w hD hw => ?_⟩
  · obtain ⟨t, ht, rfl⟩ := List.mem_map.mp hw
    refine ⟨by simp only [ws, List.length_map]; exact (H.ok t ht).kl, fun x hx => ?_⟩
    obtain ⟨k, hk, rfl⟩ := List.mem_map.mp hx
    refine ⟨Int.natCast_nonneg _, ?_⟩
    have b := H.bd t ht k hk
    have e : ((t.now h.whole k * 20 ^ h.left : Nat) : Int) ≤ ((16000000 : Nat) : Int) := Int.ofNat_le.mpr b
    rw [Int.natCast_mul, Int.natCast_pow] at e
    exact e
  · unfold Dof at hD
    unfold Wof at hw
    rw [List.getElem?_map] at hD hw
    cases e : h.tests[j]? with
    | none => rw [e] at hD; cases hD
    | some t =>
      rw [e] at hD hw
      have hD := Option.some.inj hD
      have hw := Option.some.inj hw
      subst hD hw
      have T := H.ok t (List.mem_of_getElem? e)
      refine ⟨by simp [dat, fls, ws], fun x hx => ?_, by simp [dat, T.vn], by simp only [dat, List.length_map]; exact T.vl, fun r hr => ?_⟩
      · obtain ⟨k, hk, rfl⟩ := List.mem_map.mp hx
        have := T.kf k hk
        omega
      · obtain ⟨l, hl, rfl⟩ := List.mem_map.mp hr
        refine ⟨by simp only [natInts, ws, List.length_map]; exact (T.vr l hl).1, fun x hx => ?_⟩
        obtain ⟨y, hy, rfl⟩ := List.mem_map.mp hx
        have := (T.vr l hl).2 y hy
        omega
/-- fewer tries -/
theorem WOk.mono {d : Int} {Ds : List Dat} {n m : Nat} {W : List (List Int)} (h : WOk d Ds n W) (hm : m ≤ n) : WOk d Ds m W := by
  refine ⟨h.d0, h.d1, h.len, h.most, fun w hw => ⟨(h.bd w hw).1, fun x hx => ?_⟩, h.dat⟩
  obtain ⟨a0, a1⟩ := (h.bd w hw).2 x hx
  refine ⟨a0, Int.le_trans (Int.mul_le_mul_of_nonneg_left ?_ a0) a1⟩
  exact Int.ofNat_le.mpr (Nat.pow_le_pow_right (n := 20) (by decide) hm) |> fun e => by rw [Int.natCast_pow, Int.natCast_pow] at e; exact e
end Ta
end
section
set_option Elab.async false
set_option maxRecDepth 100000
/-! The forms of calls; what the specification says of each, over whole numbers. -/
namespace Ta
open Rp06 (Kind Test House)
def W32 (z : Int) : Prop := 0 ≤ z ∧ z ≤ 4294967295
def Row (k : List Int) : Prop := k.length ≤ 12 ∧ ∀ x ∈ k, W32 x
inductive Shape : Int → List Int → List (List Int) → Prop
  | begins {d c n : Int} : W32 d → W32 c → W32 n → Shape 0 [d, c, n] []
  | test {k : List Int} {l : List (List Int)} : Row k → l.length ≤ 6 → (∀ r ∈ l, Row r) → Shape 1 [] (k :: l)
  | result {j q : Int} : W32 j → W32 q → Shape 2 [j, q] []
  | best : Shape 3 [] []
  | chances {j : Int} : W32 j → Shape 4 [j] []
  | fails {j : Int} : W32 j → Shape 5 [j] []
  | worth {n : Int} : W32 n → Shape 6 [n] []
  | would {j q : Int} : W32 j → W32 q → Shape 7 [j, q] []
  | state : Shape 8 [] []
theorem within_iff {z : Int} : PyInside.within 0 4294967295 z = true ↔ W32 z := by
  unfold PyInside.within W32
  simp
theorem form0 {ns : List Int} {xs : List (List Int)} {p : Int} {a : List (Int × Int)} (e : PyRp06.form p = some (a, (0, 0, 0, 0), [], (0, 0, 0, 0, 0, 0, 0))) (h : PyRp06.fits ((p :: ns) :: xs) = true) : ns.length = a.length ∧ PyInside.each a ns = true ∧ xs = [] := by
  unfold PyRp06.fits at h
  dsimp only at h
  rw [e] at h
  simp at h
  obtain ⟨⟨⟨⟨⟨⟨h1, h2⟩, h3⟩, _⟩, h4⟩, _⟩, _⟩ := h
  exact ⟨by omega, h2, h4⟩
theorem one_of {ns : List Int} (h : ns.length = 1) : ∃ a, ns = [a] := by
  match ns, h with
  | [a], _ => exact ⟨a, rfl⟩
theorem two_of {ns : List Int} (h : ns.length = 2) : ∃ a b, ns = [a, b] := by
  match ns, h with
  | [a, b], _ => exact ⟨a, b, rfl⟩
theorem three_of {ns : List Int} (h : ns.length = 3) : ∃ a b c, ns = [a, b, c] := by
  match ns, h with
  | [a, b, c], _ => exact ⟨a, b, c, rfl⟩
theorem fits_shape {p : Int} {ns : List Int} {xs : List (List Int)} (h : PyRp06.fits ((p :: ns) :: xs) = true) : Shape p ns xs := by
  by_cases h0 : p = 0
  · subst h0
    obtain ⟨h1, h2, rfl⟩ := form0 (a := [(0, 4294967295), (0, 4294967295), (0, 4294967295)]) rfl h
    obtain ⟨a, b, c, rfl⟩ := three_of h1
    simp only [PyInside.each, Bool.and_eq_true, within_iff] at h2
    exact .begins h2.1 h2.2.1 h2.2.2.1
  by_cases h1 : p = 1
  · subst h1
    cases xs with
    | nil =>
      unfold PyRp06.fits at h
      simp [PyRp06.form] at h
    | cons k l =>
      unfold PyRp06.fits at h
      simp [PyRp06.form, PyInside.lists] at h
      obtain ⟨⟨⟨⟨⟨_, h1⟩, _⟩, h2⟩, h3⟩, h4, h5⟩ := h
      subst h1
      exact .test ⟨h4, fun x hx => within_iff.mp (h5 x hx)⟩ h2 fun r hr => ⟨(h3 r hr).1, fun x hx => within_iff.mp ((h3 r hr).2 x hx)⟩
  by_cases h2 : p = 2
  · subst h2
    obtain ⟨h1, h2, rfl⟩ := form0 (a := [(0, 4294967295), (0, 4294967295)]) rfl h
    obtain ⟨a, b, rfl⟩ := two_of h1
    simp only [PyInside.each, Bool.and_eq_true, within_iff] at h2
    exact .result h2.1 h2.2.1
  by_cases h3 : p = 3
  · subst h3
    obtain ⟨h1, _, rfl⟩ := form0 (a := []) rfl h
    cases List.eq_nil_of_length_eq_zero h1
    exact .best
  by_cases h4 : p = 4
  · subst h4
    obtain ⟨h1, h2, rfl⟩ := form0 (a := [(0, 4294967295)]) rfl h
    obtain ⟨a, rfl⟩ := one_of h1
    simp only [PyInside.each, Bool.and_eq_true, within_iff] at h2
    exact .chances h2.1
  by_cases h5 : p = 5
  · subst h5
    obtain ⟨h1, h2, rfl⟩ := form0 (a := [(0, 4294967295)]) rfl h
    obtain ⟨a, rfl⟩ := one_of h1
    simp only [PyInside.each, Bool.and_eq_true, within_iff] at h2
    exact .fails h2.1
  by_cases h6 : p = 6
  · subst h6
    obtain ⟨h1, h2, rfl⟩ := form0 (a := [(0, 4294967295)]) rfl h
    obtain ⟨a, rfl⟩ := one_of h1
    simp only [PyInside.each, Bool.and_eq_true, within_iff] at h2
    exact .worth h2.1
  by_cases h7 : p = 7
  · subst h7
    obtain ⟨h1, h2, rfl⟩ := form0 (a := [(0, 4294967295), (0, 4294967295)]) rfl h
    obtain ⟨a, b, rfl⟩ := two_of h1
    simp only [PyInside.each, Bool.and_eq_true, within_iff] at h2
    exact .would h2.1 h2.2.1
  by_cases h8 : p = 8
  · subst h8
    obtain ⟨h1, _, rfl⟩ := form0 (a := []) rfl h
    cases List.eq_nil_of_length_eq_zero h1
    exact .state
  unfold PyRp06.fits at h
  have e : PyRp06.form p = none := by
    unfold PyRp06.form
    rw [if_neg h0, if_neg h1, if_neg h2, if_neg h3, if_neg h4, if_neg h5, if_neg h6, if_neg h7, if_neg h8]
  dsimp only at h
  rw [e] at h
  cases h
/-- the first, the third, .. -/
def odds {α : Type} : List α → List α
  | [] => []
  | [x] => [x]
  | x :: _ :: r => x :: odds r
theorem fmap_ext {α β : Type} {f g : α → Option β} : ∀ {l : List α}, (∀ x ∈ l, f x = g x) → l.filterMap f = l.filterMap g
  | [], _ => rfl
  | x :: r, h => by
    rw [List.filterMap_cons, List.filterMap_cons, h x List.mem_cons_self, fmap_ext fun y hy => h y (List.mem_cons_of_mem _ hy)]
theorem odds_pick {α : Type} : ∀ l : List α, (List.range ((l.length + 1) / 2)).filterMap (fun k => l[2 * k]?) = odds l
  | [] => by simp [odds]
  | [x] => by simp [odds, List.range_succ]
  | x :: y :: r => by
    have ih := odds_pick r
    have e : ((x :: y :: r).length + 1) / 2 = (r.length + 1) / 2 + 1 := by
      show (r.length + 2 + 1) / 2 = _
      omega
    rw [e, List.range_succ_eq_map, List.filterMap_cons]
    show x :: List.filterMap _ (List.map Nat.succ _) = x :: odds r
    rw [List.filterMap_map, ← ih]
    refine congrArg (List.cons x) ?_
    refine congrArg (fun f => List.filterMap f _) (funext fun k => ?_)
    show (x :: y :: r)[2 * (k + 1)]? = r[2 * k]?
    rw [show 2 * (k + 1) = 2 * k + 1 + 1 by omega]
    rfl
theorem odds_length {α : Type} : ∀ l : List α, (odds l).length = (l.length + 1) / 2
  | [] => by simp [odds]
  | [x] => by simp [odds]
  | x :: y :: r => by
    show (odds r).length + 1 = (r.length + 2 + 1) / 2
    rw [odds_length r]
    omega
theorem odds_map {α β : Type} (f : α → β) : ∀ l : List α, odds (l.map f) = (odds l).map f
  | [] => rfl
  | [x] => rfl
  | x :: y :: r => by
    show f x :: odds (r.map f) = f x :: (odds r).map f
    rw [odds_map f r]
def kindsFit (ks : List Int) (d : Int) : Bool :=
  if ks.length % 2 ≠ 0 ∨ ¬ (1 ≤ ks.length / 2 ∧ ks.length / 2 ≤ 4) then false
  else (odds ks).all (fun x => decide (1 ≤ x) && decide (x ≤ 100)) && (odds (ks.drop 1)).all fun x => decide (0 ≤ x) && decide (x ≤ d)
def verdictFits (cs : List Int) (n : Int) : Bool := decide ((cs.length : Int) = n) && cs.all fun x => decide (0 ≤ x) && decide (x ≤ 1000)
def wellFormed (ks : List Int) (vs : List (List Int)) (d : Int) : Bool := kindsFit ks d && (decide (1 ≤ vs.length ∧ vs.length ≤ 4) && vs.all fun c => verdictFits c ((ks.length : Int) / 2))
/-! ### the form of a test -/
theorem toNat_cast {x : Int} (h : 0 ≤ x) : ((x.toNat : Nat) : Int) = x := Int.toNat_of_nonneg h
theorem pairs_even : ∀ (k : List Int), (∀ x ∈ k, 0 ≤ x) → k.length % 2 = 0 → ∃ ks, Rp06.pairs (Rp06Neutral.nats k) = some ks ∧ ks.length = k.length / 2 ∧ odds k = ks.map (fun x => ((x.weight : Nat) : Int)) ∧ odds (k.drop 1) = ks.map fun x => ((x.fails : Nat) : Int)
  | [], _, _ => ⟨[], rfl, rfl, rfl, rfl⟩
  | [_], _, h => nomatch h
  | x :: y :: r, h0, h => by
    obtain ⟨ks, h1, h2, h3, h4⟩ := pairs_even r (fun z hz => h0 z (List.mem_cons_of_mem _ (List.mem_cons_of_mem _ hz))) (by simp only [List.length_cons] at h; omega)
    refine ⟨⟨x.toNat, y.toNat⟩ :: ks, ?_, ?_, ?_, ?_⟩
    · show (Rp06.pairs (Rp06Neutral.nats r)).map _ = _
      rw [h1]
      rfl
    · show ks.length + 1 = (r.length + 2) / 2
      omega
    · show x :: odds r = ((x.toNat : Nat) : Int) :: _
      rw [h3, toNat_cast (h0 x List.mem_cons_self)]
    · have hy : ((y.toNat : Nat) : Int) = y := toNat_cast (h0 y (List.mem_cons_of_mem _ List.mem_cons_self))
      show odds (y :: r) = ((y.toNat : Nat) : Int) :: _
      rw [hy, ← h4]
      cases r with
      | nil => rfl
      | cons z r => rfl
theorem pairs_odd : ∀ (k : List Int), k.length % 2 ≠ 0 → Rp06.pairs (Rp06Neutral.nats k) = none
  | [], h => absurd rfl h
  | [_], _ => rfl
  | x :: y :: r, h => by
    show (Rp06.pairs (Rp06Neutral.nats r)).map _ = _
    rw [pairs_odd r (by simp only [List.length_cons] at h; omega)]
    rfl
/-- what a test that is told well has; else what it lacks -/
theorem test_form {k : List Int} {l : List (List Int)} {d : Nat} (hk : Row k) (hl : ∀ r ∈ l, Row r) :
    (wellFormed k l (d : Int) = true ∧ ∃ ks, Rp06.kinds? d (Rp06Neutral.nats k) = some ks ∧ ¬ (l.map Rp06Neutral.nats = [] ∨ Rp06.VERDICTS < (l.map Rp06Neutral.nats).length ∨ ((l.map Rp06Neutral.nats).all fun r => r.length == ks.length && r.all fun x => decide (x ≤ Rp06.COST)) = false) ∧
      odds k = ks.map (fun x => ((x.weight : Nat) : Int)) ∧ odds (k.drop 1) = ks.map fun x => ((x.fails : Nat) : Int)) ∨
    (wellFormed k l (d : Int) = false ∧ (Rp06.kinds? d (Rp06Neutral.nats k) = none ∨ ∃ ks, Rp06.kinds? d (Rp06Neutral.nats k) = some ks ∧
      (l.map Rp06Neutral.nats = [] ∨ Rp06.VERDICTS < (l.map Rp06Neutral.nats).length ∨ ((l.map Rp06Neutral.nats).all fun r => r.length == ks.length && r.all fun x => decide (x ≤ Rp06.COST)) = false))) := by
  have hk0 : ∀ x ∈ k, 0 ≤ x := fun x hx => (hk.2 x hx).1
  by_cases hp : k.length % 2 = 0
  · obtain ⟨ks, h1, h2, h3, h4⟩ := pairs_even k hk0 hp
    have ek : Rp06.kinds? d (Rp06Neutral.nats k) = if kindsFit k (d : Int) = true then some ks else none := by
      unfold Rp06.kinds?
      rw [h1]
      dsimp only
      have hc : (ks ≠ [] ∧ ks.length ≤ Rp06.KINDS ∧ (ks.all fun x => decide (1 ≤ x.weight) && (decide (x.weight ≤ 100) && decide (x.fails ≤ d))) = true) ↔ kindsFit k (d : Int) = true := by
        unfold kindsFit
        have hK : Rp06.KINDS = 4 := rfl
        have hne : ks ≠ [] ↔ 1 ≤ ks.length := by
          rw [← List.length_pos_iff]
          exact Iff.rfl
        rw [hne, hK, h3, h4]
        by_cases hb : 1 ≤ ks.length ∧ ks.length ≤ 4
        · rw [if_neg (by omega)]
          simp only [Bool.and_eq_true, List.all_eq_true, List.mem_map, decide_eq_true_eq]
          constructor
          · rintro ⟨_, _, h⟩
            refine ⟨?_, ?_⟩
            · rintro x ⟨y, hy, rfl⟩
              have := h y hy
              omega
            · rintro x ⟨y, hy, rfl⟩
              have := h y hy
              omega
          · rintro ⟨g1, g2⟩
            refine ⟨hb.1, hb.2, fun y hy => ?_⟩
            have a1 := g1 _ ⟨y, hy, rfl⟩
            have a2 := g2 _ ⟨y, hy, rfl⟩
            omega
        · rw [if_pos (by omega)]
          constructor
          · rintro ⟨g1, g2, _⟩
            exact absurd ⟨g1, g2⟩ hb
          · intro z
            cases z
      by_cases c : kindsFit k (d : Int) = true
      · rw [if_pos c, if_pos (hc.mpr c)]
      · rw [if_neg c, if_neg (fun z => c (hc.mp z))]
    have ev : (l.all fun c => verdictFits c ((k.length : Int) / 2)) = ((l.map Rp06Neutral.nats).all fun r => r.length == ks.length && r.all fun x => decide (x ≤ Rp06.COST)) := by
      rw [List.all_map]
      have hC : Rp06.COST = 1000 := rfl
      have key : ∀ c ∈ l, verdictFits c ((k.length : Int) / 2) = ((Rp06Neutral.nats c).length == ks.length && (Rp06Neutral.nats c).all fun x => decide (x ≤ Rp06.COST)) := fun c hc => by
        unfold verdictFits Rp06Neutral.nats
        rw [List.length_map, List.all_map, hC]
        have e1 : decide ((c.length : Int) = (k.length : Int) / 2) = (c.length == ks.length) := by
          rw [show (c.length == ks.length) = decide (c.length = ks.length) from rfl, decide_eq_decide, h2]
          omega
        rw [e1]
        refine congrArg (fun z => _ && z) ?_
        rw [Bool.eq_iff_iff, List.all_eq_true, List.all_eq_true]
        refine forall_congr' fun x => forall_congr' fun hx => ?_
        have := ((hl c hc).2 x hx).1
        show (decide (0 ≤ x) && decide (x ≤ 1000)) = true ↔ decide (x.toNat ≤ 1000) = true
        simp only [Bool.and_eq_true, decide_eq_true_eq]
        omega
      rw [Bool.eq_iff_iff, List.all_eq_true, List.all_eq_true]
      exact forall_congr' fun c => forall_congr' fun hc => by
        rw [key c hc]
        exact Iff.rfl
    have hV : Rp06.VERDICTS = 4 := rfl
    have hnil : l.map Rp06Neutral.nats = [] ↔ l.length = 0 := by rw [List.map_eq_nil_iff, List.length_eq_zero_iff]
    rw [ek, hnil, hV, List.length_map]
    unfold wellFormed
    cases e1 : kindsFit k (d : Int) with
    | false => exact .inr ⟨rfl, .inl (if_neg (by decide))⟩
    | true =>
      rw [if_pos rfl, Bool.true_and]
      by_cases hb : 1 ≤ l.length ∧ l.length ≤ 4
      · rw [decide_eq_true hb, Bool.true_and]
        cases e2 : l.all fun c => verdictFits c ((k.length : Int) / 2) with
        | true =>
          refine .inl ⟨rfl, ks, rfl, ?_, h3, h4⟩
          rintro (z | z | z)
          · omega
          · omega
          · rw [← ev, e2] at z
            cases z
        | false =>
          refine .inr ⟨rfl, .inr ⟨ks, rfl, .inr (.inr ?_)⟩⟩
          rw [← ev, e2]
      · rw [decide_eq_false hb, Bool.false_and]
        refine .inr ⟨rfl, .inr ⟨ks, rfl, ?_⟩⟩
        omega
  · have e : Rp06.kinds? d (Rp06Neutral.nats k) = none := by
      unfold Rp06.kinds?
      rw [pairs_odd k hp]
    refine .inr ⟨?_, .inl e⟩
    unfold wellFormed kindsFit
    rw [if_pos (.inl hp), Bool.false_and]
end Ta
end
section
set_option Elab.async false
set_option maxRecDepth 100000
set_option maxHeartbeats 2000000
/-! Keys that are tuples of tuples: what a dict does with them. -/
namespace Ta
open PySem PySem.Spec PyProof.Rows L2
section
variable {prog : Program} {w : World}
/-- the items of a tuple, their hashes, how many tokens these draw -/
inductive HItems (prog : Program) (w : World) (A : Around) (hp : Heap) : List Value → List Int → Nat → Prop
  | nil : HItems prog w A hp [] [] 0
  | cons {v : Value} {vs : List Value} {k : Int} {ks : List Int} {dr n : Nat} :
      (∀ (E : Value → Shared → Prop) (s : Shared) (Q : Int → Shared → Prop), s.heap = hp → Q k { s with toks := s.toks + dr } → wpAny (model prog w) A (pyHash v) Q E s) →
      HItems prog w A hp vs ks n → HItems prog w A hp (v :: vs) (k :: ks) (dr + n)
/-- two tuples' items, whether they are equal -/
inductive EItems (prog : Program) (w : World) (A : Around) (hp : Heap) : List Value → List Value → Bool → Prop
  | nil : EItems prog w A hp [] [] true
  | left {v : Value} {vs : List Value} : EItems prog w A hp (v :: vs) [] false
  | right {v : Value} {vs : List Value} : EItems prog w A hp [] (v :: vs) false
  | cons {u v : Value} {us vs : List Value} {b r : Bool} :
      (∀ (E : Value → Shared → Prop) (s : Shared) (Q : Bool → Shared → Prop), s.heap = hp → Q b s → wpAny (model prog w) A (eqBool u v) Q E s) →
      EItems prog w A hp us vs r → EItems prog w A hp (u :: us) (v :: vs) (b && r)
def IsTu (h : Heap) (a : Addr) (items : List Value) : Prop := ∃ o its n, h.get? a = some o ∧ o.cls = .type "tuple" ∧ o.data = .seq its n ∧ its.toList = items
theorem IsTu.ty {s : Shared} {a : Addr} {items : List Value} (x : IsTu s.heap a items) : s.TypeIs (.ref a) "tuple" := let ⟨o, _, _, e, c, _⟩ := x; ⟨o, e, c⟩
theorem IsTu.uniq {h : Heap} {a : Addr} {x y : List Value} (p : IsTu h a x) (q : IsTu h a y) : x = y := by
  obtain ⟨o, i, n, e, _, d, rfl⟩ := p
  obtain ⟨o', i', n', e', _, d', rfl⟩ := q
  cases e.symm.trans e'
  cases d.symm.trans d'
  rfl
theorem IsTu.keeps {h h' : Heap} {a d : Addr} {o : Obj} {es ep} {x : List Value} (p : IsTu h a x) (ho : h.get? d = some o) (hd : o.data = .dict es ep) (hs : Heap.SameBut d h h') : IsTu h' a x := by
  obtain ⟨o', i, n, e, c, d', r⟩ := p
  refine ⟨o', i, n, (hs.2 a fun z => ?_).trans e, c, d', r⟩
  subst z
  cases e.symm.trans ho
  cases d'.symm.trans hd
variable {A : Around} {E : Value → Shared → Prop} {s : Shared}
theorem hash_tu {a : Addr} {items : List Value} {ks : List Int} {n : Nat} {Q : Int → Shared → Prop} (hu : A.units < cLine) (ht : IsTu s.heap a items) (hi : HItems prog w A.in1 s.heap items ks n)
    (h : Q (reduceHash (Builtin.Tuple.tupleHashOf ks)) { s with toks := s.toks + (n + 1) }) : wpAny (model prog w) A (pyHash (.ref a)) Q E s := by
  have hT := ht.ty
  obtain ⟨o, its, m, ho, hc, hd, rfl⟩ := ht
  unfold pyHash
  first | unfold pyHashByItsType | skip
  first | refine wpAny_bind (wpAny_cRoomFor_or (.inr hu) ?_) | skip
  refine wpAny_bind (wpAny_specialOf hT F.slot_tuple_hash.lookup ?_)
  show wpAny _ _ (if (some (Value.builtin "tuple.__hash__") == some Value.none) = true then _ else _) Q E s
  rw [if_neg (by rw [beq_builtin_none]; exact Bool.false_ne_true)]
  refine wpAny_bind (wpAny_specialOf hT F.slot_tuple_hash.lookup ?_)
  show wpAny _ _ (callSpecialIfBoundUnlessNone? (.ref a) "__hash__" _ >>= _) Q E s
  refine wpAny_bind (wpAny_callSpecialIfBoundUnlessNone?_slot hT F.slot_tuple_hash (wpAny_call_entry F.slot_tuple_hash hT F.entry_tuple_hash ?_ (F.args_tuple_hash_1 _)))
  show wpAny _ _ (Builtin.Tuple.tupleItemsOf (.ref a) >>= _) _ _ s
  refine wpAny_bind (wpAny_tupleItemsOf ho hd ?_)
  refine wpAny_bind ?_
  rw [← Array.forIn_toList]
  refine wpAny_forIn_list _
    (fun rest (b : Array Int) s' => ∃ hs k, HItems prog w A.in1 s.heap rest hs k ∧ b.toList ++ hs = ks ∧ ∃ c, c + k = n ∧ s' = { s with toks := s.toks + c })
    _ ?_ ?_ _ _ ⟨ks, n, hi, by simp, 0, by omega, rfl⟩
  · rintro x rest b s' ⟨hs, k, hl, hb, c, hc', rfl⟩
    cases hl with
    | @cons _ _ k1 ks' dr n' h1 hl' =>
      refine wpAny_bind (h1 _ _ _ rfl ?_)
      first
        | exact wpAny_pure ⟨ks', n', hl', by simp [← hb], c + dr, by omega, by simp [Nat.add_assoc]⟩
        | exact wpAny_bind (wpAny_pure (wpAny_pure ⟨ks', n', hl', by simp [← hb], c + dr, by omega, by simp [Nat.add_assoc]⟩))
  · rintro b s' ⟨hs, k, hl, hb, c, hc', rfl⟩
    cases hl
    rw [List.append_nil] at hb
    show wpAny _ _ (retInt (Builtin.Tuple.tupleHashOf b.toList)) _ _ _
    rw [hb]
    refine wpAny_ret_mkInt ?_
    have ec : c = n := by omega
    subst ec
    show wpAny _ _ (if (decide (-(2 : Int) ^ 63 ≤ Builtin.Tuple.tupleHashOf ks) && decide (Builtin.Tuple.tupleHashOf ks < 2 ^ 63)) = true then _ else _) Q E _
    unfold reduceHash at h
    by_cases hr : (decide (-(2 : Int) ^ 63 ≤ Builtin.Tuple.tupleHashOf ks) && decide (Builtin.Tuple.tupleHashOf ks < 2 ^ 63)) = true
    · rw [if_pos hr]
      rw [if_pos hr] at h
      exact wpAny_pure (by simpa [Nat.add_assoc] using h)
    · rw [if_neg hr]
      rw [if_neg hr] at h
      exact wpAny_bind (wpAny_rule (wpAny_pure (by simpa [Nat.add_assoc] using h)))
theorem eq_tu_tree {a b : Addr} {us vs : List Value} {r : Bool} {P : Fin → Shared → Prop} (ha : IsTu s.heap a us) (hb : IsTu s.heap b vs) (he : EItems prog w A s.heap us vs r)
    (h : P (.done (.ret (.bool r))) s) : wpAny (model prog w) A (Builtin.«tuple.__eq__» ⟨[.ref a, .ref b], []⟩) P E s := by
  have hTb := hb.ty
  obtain ⟨oa, xs, na, hoa, _, hda, rfl⟩ := ha
  obtain ⟨ob, ys, nb, hob, _, hdb, rfl⟩ := hb
  show wpAny _ _ (isInstance (.ref b) (.type "tuple") >>= _) _ _ s
  refine wpAny_bind (wpAny_isInstance hTb isSubtype_tuple_tuple ?_)
  simp only [Bool.not_true, Bool.false_eq_true, if_false]
  refine wpAny_bind (wpAny_tupleItemsOf hoa hda (wpAny_bind (wpAny_tupleItemsOf hob hdb ?_)))
  refine wpAny_bind ?_
  refine wpAny_forIn_list _
    (fun rest q s' => q.1 = none ∧ s' = s ∧ ∃ us vs t, rest = List.zip us vs ∧ EItems prog w A s.heap us vs t ∧ t = r ∧ (us.length == vs.length) = (xs.size == ys.size))
    _ ?_ ?_ _ _ ⟨rfl, rfl, xs.toList, ys.toList, r, rfl, he, rfl, by simp⟩
  · rintro ⟨u, v⟩ rest q s' ⟨hq, rfl, us, vs, t, hz, hi, ht, hlen⟩
    cases hi with
    | nil => simp at hz
    | left => simp at hz
    | right => simp at hz
    | @cons u' v' us' vs' b' r' h1 hi' =>
      simp only [List.zip_cons_cons, List.cons.injEq, Prod.mk.injEq] at hz
      obtain ⟨⟨rfl, rfl⟩, rfl⟩ := hz
      refine wpAny_bind (h1 _ _ _ rfl ?_)
      cases b' with
      | true =>
        simp only [Bool.not_true, Bool.false_eq_true, if_false]
        exact wpAny_pure ⟨rfl, rfl, us', vs', r', rfl, hi', by rw [← ht]; rfl, by simpa using hlen⟩
      | false =>
        simp only [Bool.not_false, if_true]
        have hf : r = false := by rw [← ht]; rfl
        rw [hf] at h
        exact wpAny_bind (wpAny_pure (wpAny_pure (wpAny_pure h)))
  · rintro ⟨q1, q2⟩ s' ⟨hq, rfl, us, vs, t, hz, hi, ht, hlen⟩
    simp only at hq
    subst hq
    refine wpAny_pure ?_
    have hfin : (xs.size == ys.size) = r := by
      rw [← hlen, ← ht]
      cases hi with
      | nil => rfl
      | left => rfl
      | right => rfl
      | cons _ _ => simp at hz
    show P (.done (.ret (.bool (xs.size == ys.size)))) s'
    rw [hfin]; exact h
theorem eq_tu {a b : Addr} {us vs : List Value} {r : Bool} {Q : Bool → Shared → Prop} (hu : A.units < cLine) (ha : IsTu s.heap a us) (hb : IsTu s.heap b vs) (he : EItems prog w A.in1 s.heap us vs r)
    (hr : a = b → r = true) (h : Q r s) : wpAny (model prog w) A (eqBool (.ref a) (.ref b)) Q E s := by
  unfold eqBool
  try with_reducible refine wpAny_holding ?_
  show wpAny _ _ (if (Value.ref a == Value.ref b) = true then _ else _) Q E s
  by_cases hab : (Value.ref a == Value.ref b) = true
  · rw [if_pos hab]
    have e : a = b := by have := eq_of_beq hab; injection this
    rw [hr e] at h
    exact wpAny_bind (wpAny_rule (wpAny_pure h))
  · rw [if_neg hab]
    exact wpAny_bind (wpAny_richCompare_same_room (op := .Eq) ha.ty hb.ty F.slot_tuple_eq
      (wpAny_call_entry F.slot_tuple_eq ha.ty F.entry_tuple_eq (eq_tu_tree ha hb he ⟨_, rfl, (fun e => nomatch e), wpAny_truthy_bool h⟩) (F.args_tuple_eq_2 _ _)) hu)
/-- no item's == does anything but look -/
def QItems (prog : Program) (w : World) (A : Around) (hp : Heap) (n : Nat) (vs : List Value) : Prop :=
  ∀ v ∈ vs, ∀ (E : Value → Shared → Prop) (s : Shared) (Q : Bool → Shared → Prop), s.heap = hp → Q true s → wpAny (model prog w) A (eqIsQuiet n v) Q E s
theorem quiet_tu {n : Nat} {a : Addr} {vs : List Value} {Q : Bool → Shared → Prop} (ht : IsTu s.heap a vs) (hq : QItems prog w A s.heap n vs) (h : Q true s) : wpAny (model prog w) A (eqIsQuiet (n + 1) (.ref a)) Q E s := by
  have hT := ht.ty
  obtain ⟨o, its, m, ho, _, hd, rfl⟩ := ht
  unfold eqIsQuiet
  refine wpAny_bind (wpAny_specialOf hT F.slot_tuple_eq.lookup ?_)
  show wpAny _ _ (isInstance (.ref a) (.type "tuple") >>= _) _ _ s
  refine wpAny_bind (wpAny_isInstance hT isSubtype_tuple_tuple ?_)
  simp only [Bool.not_true, Bool.false_eq_true, if_false]
  refine wpAny_bind (wpAny_seqItems ho hd (wpAny_bind ?_))
  show wpAny _ _ (forIn its _ _) _ _ s
  rw [← Array.forIn_toList]
  refine wpAny_forIn_list _ (fun rest r s' => r.1 = none ∧ s' = s ∧ ∀ v ∈ rest, v ∈ its.toList) _ ?_ ?_ _ _ ⟨rfl, rfl, fun _ hv => hv⟩
  · rintro v rest r s' ⟨hr, rfl, hall⟩
    refine wpAny_bind (hq v (hall v List.mem_cons_self) _ _ _ rfl ?_)
    simp only [Bool.not_true, Bool.false_eq_true, if_false]
    exact wpAny_pure ⟨rfl, rfl, fun u hu' => hall u (List.mem_cons_of_mem _ hu')⟩
  · rintro ⟨r1, r2⟩ s' ⟨hr, rfl, _⟩
    simp only at hr
    subst hr
    exact wpAny_pure h
end

/-! ### what a value is: an int; a tuple of such -/
/-- kinds of values, by what they are worth -/
structure VKd (prog : Program) (w : World) (K : Type) [DecidableEq K] where
  vis : Heap → K → Value → Prop
  hsh : K → Int
  drw : K → Nat
  dep : Nat
  inj : ∀ {h : Heap} {v : Value} {x y : K}, vis h x v → vis h y v → x = y
  keeps : ∀ {h h' : Heap} {k : K} {v : Value} {d : Addr} {o : Obj} {es ep}, vis h k v → h.get? d = some o → o.data = .dict es ep → Heap.SameBut d h h' → vis h' k v
  hash : ∀ {A : Around} {E : Value → Shared → Prop} {s : Shared} {k : K} {v : Value} {Q : Int → Shared → Prop}, A.units + dep ≤ cLine → vis s.heap k v → Q (hsh k) { s with toks := s.toks + drw k } →
    wpAny (model prog w) A (pyHash v) Q E s
  eq : ∀ {A : Around} {E : Value → Shared → Prop} {s : Shared} {x y : K} {u v : Value} {Q : Bool → Shared → Prop}, A.units + dep ≤ cLine → vis s.heap x u → vis s.heap y v → Q (decide (x = y)) s →
    wpAny (model prog w) A (eqBool u v) Q E s
  quiet : ∀ {A : Around} {E : Value → Shared → Prop} {s : Shared} {k : K} {v : Value} {n : Nat} {Q : Bool → Shared → Prop}, dep ≤ n → vis s.heap k v → Q true s → wpAny (model prog w) A (eqIsQuiet n v) Q E s
def intVK (prog : Program) (w : World) : VKd prog w Int where
  vis := fun _ k v => ∃ t, v = .int k t
  hsh := hashInt
  drw := fun _ => 1
  dep := 0
  inj := fun ⟨t, e⟩ ⟨u, e'⟩ => by subst e; injection e'
  keeps := fun h _ _ _ => h
  hash := fun _ ⟨t, e⟩ h => by subst e; exact wpAny_pyHash_int h
  eq := fun {A E s x y u v Q} _ ⟨t, e⟩ ⟨t', e'⟩ h => by
    subst e e'
    refine wpAny_eqBool_int ?_
    rw [show (x == y) = decide (x = y) from rfl]
    exact h
  quiet := fun {A E s k v n Q} _ ⟨t, e⟩ h => by
    subst e
    rw [eqIsQuiet_byValue n rfl]
    exact wpAny_pure h
section
variable {prog : Program} {w : World} {K : Type} [DecidableEq K] (kd : VKd prog w K)
def TuIs (h : Heap) (ks : List K) (v : Value) : Prop := ∃ a items, v = .ref a ∧ IsTu h a items ∧ Paired (kd.vis h) ks items
variable {kd}
theorem paired_inj {h : Heap} : ∀ {x y : List K} {vs : List Value}, Paired (kd.vis h) x vs → Paired (kd.vis h) y vs → x = y
  | _, _, _, .nil, .nil => rfl
  | _, _, _, .cons a t, .cons b u => by rw [kd.inj a b, paired_inj t u]
theorem paired_hash {A : Around} {hp : Heap} (hu : A.units + kd.dep ≤ cLine) : ∀ {ks : List K} {vs : List Value}, Paired (kd.vis hp) ks vs → HItems prog w A hp vs (ks.map kd.hsh) ((ks.map kd.drw).foldr (· + ·) 0)
  | _, _, .nil => .nil
  | _, _, .cons a t => .cons (fun E s Q e h => kd.hash hu (by rw [e]; exact a) h) (paired_hash hu t)
theorem paired_eq {A : Around} {hp : Heap} (hu : A.units + kd.dep ≤ cLine) : ∀ {x y : List K} {us vs : List Value}, Paired (kd.vis hp) x us → Paired (kd.vis hp) y vs → EItems prog w A hp us vs (decide (x = y))
  | _, _, _, _, .nil, .nil => by simpa using EItems.nil
  | _, _, _, _, .nil, .cons _ _ => by simpa using EItems.right
  | _, _, _, _, .cons _ _, .nil => by simpa using EItems.left
  | _, _, _, _, .cons (a := p) (l₁ := x) a t, .cons (a := q) (l₁ := y) b u => by
    have e : decide (p :: x = q :: y) = (decide (p = q) && decide (x = y)) := by
      rw [← Bool.decide_and]
      exact decide_eq_decide.mpr List.cons_eq_cons
    rw [e]
    exact .cons (fun E s Q e h => kd.eq hu (by rw [e]; exact a) (by rw [e]; exact b) h) (paired_eq hu t u)
theorem paired_quiet {A : Around} {hp : Heap} {n : Nat} (hn : kd.dep ≤ n) {ks : List K} {vs : List Value} (r : Paired (kd.vis hp) ks vs) : QItems prog w A hp n vs := by
  induction r with
  | nil => intro v hv; exact nomatch hv
  | cons a t ih =>
    intro v hv
    rcases List.mem_cons.mp hv with e | hv
    · subst e
      exact fun E s Q e h => kd.quiet hn (by rw [e]; exact a) h
    · exact ih v hv
end
def tupVK {prog : Program} {w : World} {K : Type} [DecidableEq K] (kd : VKd prog w K) : VKd prog w (List K) where
  vis := TuIs kd
  hsh := fun ks => reduceHash (Builtin.Tuple.tupleHashOf (ks.map kd.hsh))
  drw := fun ks => (ks.map kd.drw).foldr (· + ·) 0 + 1
  dep := kd.dep + 1
  inj := fun ⟨a, i, e, t, p⟩ ⟨a', i', e', t', p'⟩ => by
    subst e
    injection e' with e'
    subst e'
    cases t.uniq t'
    exact paired_inj p p'
  keeps := fun ⟨a, i, e, t, p⟩ ho hd hs => ⟨a, i, e, t.keeps ho hd hs, Paired.mapP p fun _ _ z => kd.keeps z ho hd hs⟩
  hash := fun {A E s k v Q} hu ⟨a, i, e, t, p⟩ h => by
    subst e
    exact hash_tu (by omega) t (paired_hash (A := A.in1) (by show A.units + 1 + kd.dep ≤ cLine; omega) p) h
  eq := fun {A E s x y u v Q} hu ⟨a, i, e, t, p⟩ ⟨a', i', e', t', p'⟩ h => by
    subst e e'
    refine eq_tu (by omega) t t' (paired_eq (A := A.in1) (by show A.units + 1 + kd.dep ≤ cLine; omega) p p') (fun z => ?_) h
    subst z
    cases t.uniq t'
    rw [paired_inj p p']
    simp
  quiet := fun {A E s k v n Q} hn ⟨a, i, e, t, p⟩ h => by
    subst e
    obtain ⟨m, rfl⟩ : ∃ m, n = m + 1 := ⟨n - 1, by omega⟩
    exact quiet_tu t (paired_quiet (by omega) p) h
/-! ### pairs -/
section
variable {prog : Program} {w : World} {K L : Type} [DecidableEq K] [DecidableEq L] (kd : VKd prog w K) (ld : VKd prog w L)
def PairIs (h : Heap) (k : K × L) (a : Addr) : Prop := ∃ u v, IsTu h a [u, v] ∧ kd.vis h k.1 u ∧ ld.vis h k.2 v
/-- dicts whose keys are pairs -/
def pairKind (hk : kd.dep ≤ 7) (hl : ld.dep ≤ 7) : HeapKind prog w (K × L) where
  is := PairIs kd ld
  hash := fun k => reduceHash (Builtin.Tuple.tupleHashOf [kd.hsh k.1, ld.hsh k.2])
  draws := fun k => kd.drw k.1 + (ld.drw k.2 + 0) + 1
  room := fun A => A.units + (kd.dep + ld.dep) + 1 ≤ cLine
  inj := fun {h a x y} ⟨u, v, t, p, q⟩ ⟨u', v', t', p', q'⟩ => by
    have e := t.uniq t'
    injection e with e1 e2
    injection e2 with e2 _
    subst e1 e2
    exact Prod.ext (kd.inj p p') (ld.inj q q')
  keeps := fun ⟨u, v, t, p, q⟩ ho hd hs => ⟨u, v, t.keeps ho hd hs, kd.keeps p ho hd hs, ld.keeps q ho hd hs⟩
  pyHash := fun {A E s k a Q} hu ⟨u, v, t, p, q⟩ h => by
    refine hash_tu (by omega) t (.cons (fun E s' Q e h => kd.hash (A := A.in1) ?_ (by rw [e]; exact p) h) (.cons (fun E s' Q e h => ld.hash (A := A.in1) ?_ (by rw [e]; exact q) h) .nil)) h
    · show A.units + 1 + kd.dep ≤ cLine; omega
    · show A.units + 1 + ld.dep ≤ cLine; omega
  eqBool := fun {A E s x y a b Q} hu ⟨u, v, t, p, q⟩ ⟨u', v', t', p', q'⟩ h => by
    have e : decide (x = y) = (decide (x.1 = y.1) && (decide (x.2 = y.2) && true)) := by
      rw [Bool.and_true, ← Bool.decide_and]
      exact decide_eq_decide.mpr Prod.ext_iff
    rw [e] at h
    refine eq_tu (by omega) t t' (.cons (fun E s' Q e h => kd.eq (A := A.in1) ?_ (by rw [e]; exact p) (by rw [e]; exact p') h) (.cons (fun E s' Q e h => ld.eq (A := A.in1) ?_ (by rw [e]; exact q) (by rw [e]; exact q') h) .nil)) (fun z => ?_) h
    · show A.units + 1 + kd.dep ≤ cLine; omega
    · show A.units + 1 + ld.dep ≤ cLine; omega
    · subst z
      have e2 := t.uniq t'
      injection e2 with e1 e2
      injection e2 with e2 _
      subst e1 e2
      rw [kd.inj p p', ld.inj q q']
      simp
  quiet := fun {A E s k a Q} ⟨u, v, t, p, q⟩ h => by
    refine quiet_tu t (fun x hx E s' Q e h => ?_) h
    rcases List.mem_cons.mp hx with z | hx
    · subst z
      exact kd.quiet hk (by rw [e]; exact p) h
    · cases List.mem_singleton.mp hx
      exact ld.quiet hl (by rw [e]; exact q) h
end
end Ta
end
section
set_option Elab.async false
set_option maxRecDepth 100000
set_option maxHeartbeats 2000000
set_option linter.all false
/-! A dict whose keys are pairs of a tuple of tuples of ints and an int; its values are ints. -/
namespace Ta
open PySem PySem.Spec PyProof.Rows L2
abbrev Place := List (List Int) × Int
def kK (P : Program) (w : World) : HeapKind P w Place := pairKind (tupVK (tupVK (intVK P w))) (intVK P w) (show 2 ≤ 7 by decide) (show 0 ≤ 7 by decide)
/-- a tuple of tuples of ints stands at c -/
def WAt (H : Hp) (c : Addr) (W : List (List Int)) : Prop := ∃ ps : List Addr, H c = some (.tup (ps.map V.ref)) ∧ Paired (fun p u => H p = some (.tup (u.map V.int))) ps W
/-- the key stands at b -/
def KeyAt (H : Hp) (b : Addr) (k : Place) : Prop := ∃ c, H b = some (.tup [.ref c, .int k.2]) ∧ WAt H c k.1
abbrev Ent := Place × Addr × Int
def lookN (xs : List Ent) (k : Place) : Option Int := (xs.find? fun e => decide (e.1 = k)).map (·.2.2)
abbrev EntRel : List Ent → List (Place × Addr × Value) → Prop := Paired fun p q => p.1 = q.1 ∧ p.2.1 = q.2.1 ∧ ∃ t, q.2.2 = .int p.2.2 t
def DnIs (P : Program) (w : World) (a : Addr) (xs : List Ent) (h : Heap) : Prop := xs.length ≤ sizeLine ∧ (a == sysModules) = false ∧ ∃ ys, EntRel xs ys ∧
  ∃ o es ep, h.get? a = some o ∧ o.ExactDict ∧ o.data = .dict es ep ∧ es.toList = ys.map (entryOfKey (kK P w)) ∧ (ys.map (·.1)).Nodup
def DnO (P : Program) (w : World) (a : Addr) (xs : List Ent) : HO := .ext (DnIs P w a xs)
/-- all that stands in it stands in the heap -/
def DnAt (P : Program) (w : World) (H : Hp) (a : Addr) (xs : List Ent) : Prop := H a = some (DnO P w a xs) ∧ ∀ e ∈ xs, KeyAt H e.2.1 e.1
section
variable {P : Program} {w : World} {H : Hp} {h : Heap} {a : Addr}
theorem DnIs.stays {xs : List Ent} {h1 h2 : Heap} (x : DnIs P w a xs h1) (k : ∀ o, h1.get? a = some o → h2.get? a = some o) : DnIs P w a xs h2 := by
  obtain ⟨z, y, ys, r, o, es, ep, e, q⟩ := x
  exact ⟨z, y, ys, r, o, es, ep, k _ e, q⟩
theorem dn_new {xs : List Ent} (x : DnIs P w a xs h) : ObjOk P w H h a (DnO P w a xs) := by
  refine ⟨x, ?_, fun h1 h2 p k => p.stays k⟩
  obtain ⟨_, _, _, _, o, _, _, e, _⟩ := x
  exact ⟨o, e⟩
/-- a tracked tuple, as an object -/
theorem tu_of {xs : List V} (ok : HOk P w H h) (e : H a = some (.tup xs)) : ∃ its, Vals xs its ∧ IsTu h a its := by
  obtain ⟨_, its, r, o, h1, h2, n, h3⟩ := (show ObjOk P w H h a (.tup xs) from ok a _ e)
  exact ⟨its, r, o, its.toArray, n, h1, h2, h3, by simp⟩
theorem ints_vk : ∀ {l : List Int} {us : List Value}, Vals (l.map V.int) us → Paired ((intVK P w).vis h) l us
  | [], _, .nil => .nil
  | _ :: _, _, .cons r t => .cons r (ints_vk t)
theorem row_vk (ok : HOk P w H h) {l : List Int} (e : H a = some (.tup (l.map V.int))) : (tupVK (intVK P w)).vis h l (.ref a) := by
  obtain ⟨its, r, t⟩ := tu_of ok e
  exact ⟨a, its, rfl, t, ints_vk r⟩
theorem rows_vk (ok : HOk P w H h) : ∀ {ps : List Addr} {W : List (List Int)} {us : List Value}, Paired (fun p u => H p = some (.tup (u.map V.int))) ps W → Vals (ps.map V.ref) us → Paired ((tupVK (intVK P w)).vis h) W us
  | _, _, _, .nil, .nil => .nil
  | _, _, _, .cons e t, .cons r u => by
    cases (show _ = Value.ref _ from r)
    exact .cons (row_vk ok e) (rows_vk ok t u)
theorem w_vk (ok : HOk P w H h) {c : Addr} {W : List (List Int)} (x : WAt H c W) : (tupVK (tupVK (intVK P w))).vis h W (.ref c) := by
  obtain ⟨ps, e, r⟩ := x
  obtain ⟨its, v, t⟩ := tu_of ok e
  exact ⟨c, its, rfl, t, rows_vk ok r v⟩
theorem key_vk (ok : HOk P w H h) {b : Addr} {k : Place} (x : KeyAt H b k) : (kK P w).is h k b := by
  obtain ⟨c, e, x⟩ := x
  obtain ⟨its, v, t⟩ := tu_of ok e
  cases v with
  | cons r1 v =>
    cases v with
    | cons r2 v =>
      cases v
      cases (show _ = Value.ref _ from r1)
      exact ⟨_, _, t, w_vk ok x, r2⟩
theorem EntRel.look {xs : List Ent} {ys : List (Place × Addr × Value)} (r : EntRel xs ys) (k : Place) :
    (lookN xs k = none ∧ atKey ys k = none) ∨ ∃ v b t, lookN xs k = some v ∧ atKey ys k = some (b, .int v t) := by
  induction r with
  | nil => exact .inl ⟨rfl, rfl⟩
  | @cons p q ps qs z t ih =>
    obtain ⟨z1, z2, u, z3⟩ := z
    by_cases e : p.1 = k
    · refine .inr ⟨p.2.2, q.2.1, u, ?_, ?_⟩
      · simp [lookN, List.find?_cons, e]
      · have e' : q.1 = k := z1.symm.trans e
        have : q.2 = (q.2.1, Value.int p.2.2 u) := by rw [← z3]
        rw [← this]
        simp [atKey, List.find?_cons, e']
    · have e' : ¬ q.1 = k := fun y => e (z1.trans y)
      have e1 : lookN (p :: ps) k = lookN ps k := by simp [lookN, List.find?_cons, e]
      have e2 : atKey (q :: qs) k = atKey qs k := by simp [atKey, List.find?_cons, e']
      rw [e1, e2]
      exact ih
theorem EntRel.keys {xs : List Ent} {ys : List (Place × Addr × Value)} (r : EntRel xs ys) (hk : ∀ e ∈ xs, KeyAt H e.2.1 e.1) (ok : HOk P w H h) : ∀ y ∈ ys, (kK P w).is h y.1 y.2.1 := by
  induction r with
  | nil => intro y hy; exact nomatch hy
  | @cons p q ps qs z t ih =>
    intro y hy
    rcases List.mem_cons.mp hy with e | hy
    · subst e
      have := key_vk (w := w) ok (hk p List.mem_cons_self)
      rw [z.1, z.2.1] at this
      exact this
    · exact ih (fun e he => hk e (List.mem_cons_of_mem _ he)) y hy
theorem dn_of {xs : List Ent} (ok : HOk P w H h) (x : DnAt P w H a xs) : xs.length ≤ sizeLine ∧ (a == sysModules) = false ∧ ∃ ys, EntRel xs ys ∧ h.DictOfH (kK P w) a ys := by
  obtain ⟨⟨z, y, ys, r, o, es, ep, e, e1, e2, e3, e4⟩, _⟩ := (show ObjOk P w H h a (DnO P w a xs) from ok a _ x.1)
  exact ⟨z, y, ys, r, o, es, ep, e, e1, e2, e3, r.keys x.2 ok, e4⟩
end
section
variable {X : Cx} {pins : List (Addr × Obj)} {σ : L2.St} {H : Hp} {s : Shared} {a b : Addr} {A : Around} {E : Value → Shared → Prop} {xs : List Ent} {k : Place}
theorem kK_room {P : Program} {w : World} {A : Around} (hu : A.units + 10 < cLine) : (kK P w).room A.in1 := by
  show A.units + 1 + (2 + 0) + 1 ≤ cLine
  omega
theorem dn_get {Q : Value → Shared → Prop} {v : Int} (hu : A.units + 10 < cLine) (I : Inv X pins σ H s) (d : DnAt X.prog X.w H a xs) (hk : KeyAt H b k) (l : lookN xs k = some v)
    (h : ∀ t s', Inv X pins σ H s' → Q (.int v t) s') : wpAny (model X.prog X.w) A (getItem (.ref a) (.ref b)) Q E s := by
  obtain ⟨z, y, ys, r, dd⟩ := dn_of I.hok d
  rcases r.look k with ⟨q, _⟩ | ⟨v', b', t, q, q'⟩
  · rw [l] at q; cases q
  · rw [l] at q
    cases q
    exact wpAny_getItem_heap (kK_room hu) (key_vk I.hok hk) dd q' (h t _ (I.tok _))
theorem dn_notIn {Q : Value → Shared → Prop} (hu : A.units + 10 < cLine) (I : Inv X pins σ H s) (d : DnAt X.prog X.w H a xs) (hk : KeyAt H b k)
    (h : ∀ s', Inv X pins σ H s' → Q (.bool (!(lookN xs k).isSome)) s') : wpAny (model X.prog X.w) A (compareOp .NotIn (.ref b) (.ref a)) Q E s := by
  obtain ⟨z, y, ys, r, dd⟩ := dn_of I.hok d
  refine wpAny_notIn_heap (kK_room hu) (key_vk I.hok hk) y dd ?_
  have e : (atKey ys k).isSome = (lookN xs k).isSome := by
    rcases r.look k with ⟨q, q'⟩ | ⟨v', b', t, q, q'⟩ <;> rw [q, q'] <;> rfl
  rw [e]
  exact h _ (I.tok _)
theorem dn_put {Q : Unit → Shared → Prop} {v : Int} {u : Value} (hu : A.units + 10 < cLine) (I : Inv X pins σ H s) (d : DnAt X.prog X.w H a xs) (hk : KeyAt H b k) (l : lookN xs k = none) (hz : xs.length < sizeLine)
    (rv : RelV (.int v) u) (h : ∀ s', Inv X pins σ (upd H a (DnO X.prog X.w a (xs ++ [(k, b, v)]))) s' → Q () s') : wpAny (model X.prog X.w) A (setItem (.ref a) (.ref b) u) Q E s := by
  obtain ⟨z, y, ys, r, dd⟩ := dn_of I.hok d
  have q' : atKey ys k = none := by
    rcases r.look k with ⟨_, q'⟩ | ⟨v', b', t, q, _⟩
    · exact q'
    · rw [l] at q; cases q
  have hl : ys.length ≤ sizeLine := by rw [← Paired.length r]; exact z
  refine wpAny_setItem_heap (hsz := hl) (kK_room hu) (key_vk I.hok hk) dd fun h' dd' hs => h _ ?_
  rw [storedH_new q'] at dd'
  obtain ⟨o, es, ep, e, e1, e2, e3, _, e4⟩ := dd'
  exact d_write I (by rw [d.1]; exact True.intro) hs ⟨o, e⟩ (dn_new ⟨by rw [List.length_append, List.length_singleton]; omega, y, _, Paired.snoc (a := (k, b, v)) (b := (k, b, u)) r ⟨rfl, rfl, rv⟩, o, es, ep, e, e1, e2, e3, e4⟩)
theorem dn_ty (I : Inv X pins σ H s) (d : DnAt X.prog X.w H a xs) : s.TypeIs (.ref a) "dict" := by
  obtain ⟨_, _, ys, _, dd⟩ := dn_of I.hok d
  exact dd.typeIs
end
/-! ### the readings and their rules -/
def tNNew (P : Program) (w : World) : TE := fun _ H Q => ∀ p, H p = none → Q (.ref p) (upd H p (DnO P w p []))
def tNNotIn (P : Program) (w : World) (ty td : TE) : TE := fun σ H Q => ty σ H fun y H1 => td σ H1 fun x H2 => ∃ a b xs k, x = .ref a ∧ y = .ref b ∧ DnAt P w H2 a xs ∧ KeyAt H2 b k ∧ Q (.bl (!(lookN xs k).isSome)) H2
def tNGet (P : Program) (w : World) (td ty : TE) : TE := fun σ H Q => td σ H fun x H1 => ty σ H1 fun y H2 => ∃ a b xs k v, x = .ref a ∧ y = .ref b ∧ DnAt P w H2 a xs ∧ KeyAt H2 b k ∧ lookN xs k = some v ∧ Q (.int v) H2
def sNPut (P : Program) (w : World) (td ty tv : TE) : TS := fun D σ H => tv σ H fun v H1 => td σ H1 fun x H2 => ty σ H2 fun y H3 => ∃ a b xs k n, x = .ref a ∧ y = .ref b ∧ v = .int n ∧ DnAt P w H3 a xs ∧ KeyAt H3 b k ∧
  lookN xs k = none ∧ xs.length < sizeLine ∧ D.nx σ (upd H3 a (DnO P w a (xs ++ [(k, b, n)])))
section
variable {X : Cx} {o i value : Expr} {pos pos' : Pos} {td ty tv : TE}
theorem dn_empty {P : Program} {w : World} {H : Hp} (h : Heap) (hb : sysModules < h.objs.size) : ObjOk P w H (h.push { cls := .type "dict", data := .dict #[] }) h.objs.size (DnO P w h.objs.size []) :=
  dn_new ⟨Nat.zero_le _, beq_eq_false_iff_ne.mpr (Ne.symm (Nat.ne_of_lt hb)), [], .nil, _, #[], 0, Heap.get?_push_size _ rfl, ⟨rfl, rfl, rfl⟩, rfl, rfl, List.nodup_nil⟩
theorem pe_nnew : PE X (.Dict [] [] pos) (tNNew X.prog X.w) := ⟨fun pins s σ H Q I h =>
  wpAny_Dict_empty ⟨.ref s.heap.objs.size, _, I.laid (a := s.heap.objs.size) (o := DnO X.prog X.w s.heap.objs.size []) (t' := s.toks) (fun _ _ q => Heap.get?_push_of_some _ q) (Nat.le_refl _)
    (dn_empty s.heap I.big), rfl, h _ (I.hok.fresh (Nat.le_refl _))⟩⟩
theorem pc_nnotin (hu : X.A.units + 10 < cLine) (hi : PE X i ty) (ho : PE X o td) : PC X .NotIn i o (tNNotIn X.prog X.w ty td) := by
  refine ⟨fun pins s σ H Q I h => ?_⟩
  refine thn (hi.run pins s σ H _ I h) fun iv s1 ⟨y, H1, I1, ry, q1⟩ => thn (ho.run pins s1 σ H1 _ I1 q1) fun u s2 ⟨x, H2, I2, rx, a, b, xs, k, ex, ey, d, hk, q2⟩ => ?_
  subst ex ey
  obtain rfl : u = Value.ref a := rx
  obtain rfl : iv = Value.ref b := ry
  exact dn_notIn hu I2 d hk fun s3 I3 => ⟨.bl (!(lookN xs k).isSome), H2, I3, rfl, q2⟩
theorem pe_nget (hu : X.A.units + 10 < cLine) (ho : PE X o td) (hi : PE X i ty) (hs : NoSl i) : PE X (.Subscript o i pos) (tNGet X.prog X.w td ty) := by
  refine ⟨fun pins s σ H Q I h => ?_⟩
  refine subD_of PySem.F.slot_dict_getitem.lookup hs (thn (ho.run pins s σ H _ I h) fun u s1 ⟨x, H1, I1, rx, q1⟩ => thn (hi.run pins s1 σ H1 _ I1 q1) fun iv s2 ⟨y, H2, I2, ry, a, b, xs, k, v, ex, ey, d, hk, l, q2⟩ => ?_)
  subst ex ey
  obtain rfl : u = Value.ref a := rx
  obtain rfl : iv = Value.ref b := ry
  exact ⟨dn_ty I2 d, dn_get hu I2 d hk l fun t s3 I3 => ⟨.int v, H2, I3, ⟨t, rfl⟩, q2⟩⟩
theorem ps_nput (hu : X.A.units + 10 < cLine) (ho : PE X o td) (hi : PE X i ty) (hv : PE X value tv) (hs : swapsWith value (some (.Subscript o i pos')) pos.line X.env = pure false) :
    PS X (.Assign [.Subscript o i pos'] value pos) (sNPut X.prog X.w td ty tv) := by
  refine ⟨fun pins s σ H D I h => ?_⟩
  refine wpAny_Assign_Subscript (thn (hv.run pins s σ H _ I h) fun r s1 ⟨v, H1, I1, rv, q1⟩ => thn (ho.run pins s1 σ H1 _ I1 q1) fun u s2 ⟨x, H2, I2, rx, q2⟩ =>
    thn (hi.run pins s2 σ H2 _ I2 q2) fun iv s3 ⟨y, H3, I3, ry, a, b, xs, k, n, ex, ey, ev, d, hk, l, hz, q3⟩ => ?_) hs
  subst ex ey ev
  obtain rfl : u = Value.ref a := rx
  obtain rfl : iv = Value.ref b := ry
  exact dn_put hu I3 d hk l hz rv fun s4 I4 => ⟨σ, _, I4, q3⟩
end
end Ta
end
section
set_option Elab.async false
set_option maxRecDepth 100000
set_option maxHeartbeats 2000000
set_option linter.all false
/-! Rules that the layer lacks: every second item of a list; the sum of a tuple; x *= y; zip of tuples as a walk. -/
namespace Ta
open PySem PySem.Spec PyProof.Rows L2 RZ
theorem odds_vals : ∀ {xs : List V} {us : List Value}, Vals xs us → Vals (odds xs) (odds us)
  | _, _, .nil => .nil
  | _, _, .cons r .nil => .cons r .nil
  | _, _, .cons r (.cons _ t) => .cons r (odds_vals t)
theorem pick_two (items : Array Value) (i : Nat) : slicePick items (some (i : Int)) none (some 2) = (odds (items.toList.drop i)).toArray := by
  have e1 : (sliceBounds (some (i : Int)) none (some 2) items.size) = (((min i items.size : Nat) : Int), (items.size : Int), 2) := by
    unfold sliceBounds
    have : ¬ ((i : Int) < 0) := by omega
    simp only [Option.getD_some, this, if_false]
    have e : (if (2 : Int) > 0 then max 0 (min (i : Int) (items.size : Int)) else max (-1) (min (i : Int) ((items.size : Int) - 1))) = ((min i items.size : Nat) : Int) := by
      rw [if_pos (by decide)]
      omega
    rw [e]
    rfl
  unfold slicePick
  rw [e1]
  refine congrArg List.toArray ?_
  rw [← odds_pick, List.length_drop, Array.length_toList]
  show (sliceRange ((min i items.size : Nat) : Int) (items.size : Int) 2).filterMap (fun x => items[x]?) = _
  unfold sliceRange
  have hp : (2 : Int) > 0 := by decide
  simp only [hp, if_true]
  rw [List.filterMap_map]
  have hc : (if ((min i items.size : Nat) : Int) < (items.size : Int) then ((items.size : Int) - ((min i items.size : Nat) : Int) + 2 - 1) / 2 else 0).toNat = (items.size - i + 1) / 2 := by
    split <;> omega
  rw [hc]
  refine fmap_ext fun k hk => ?_
  have hk := List.mem_range.mp hk
  show items[(((min i items.size : Nat) : Int) + 2 * (k : Int)).toNat]? = _
  rw [List.getElem?_drop, Array.getElem?_toList]
  congr 1
  omega
/-- xs[i::2], i written -/
def tOdds (K : PySem.W.Frag) (te : TE) (i : Nat) : TE := fun σ H Q => te σ H fun x H1 => ∃ a xs, x = .ref a ∧ SqL K H1 a xs ∧ ∀ p, H1 p = none → Q (.ref p) (upd H1 p (.lst (odds (xs.drop i))))
section
variable {X : Cx}
theorem pe_odds {e : Expr} {te : TE} {i k k2 : Nat} {p1 p2 p3 pos : Pos} (he : PE X e te) :
    PE X (.Subscript e (.Slice (some (.Constant (.int (i : Int)) k p1)) none (some (.Constant (.int 2) k2 p2)) p3) pos) (tOdds X.K te i) := by
  refine ⟨fun pins s σ H Q I h => ?_⟩
  refine Subscript_ (thn (he.run pins s σ H _ I h) fun v s1 ⟨x, H1, I1, r1, q1⟩ => ?_)
  obtain ⟨a, xs, ex, hx, q⟩ := q1
  subst ex
  cases r1
  have hlo : PO X (some (.Constant (.int (i : Int)) k p1)) (tPart (tC (.int (i : Int)))) := po_some pe_int
  have hst : PO X (some (.Constant (.int 2) k2 p2)) (tPart (tC (.int 2))) := po_some pe_int
  refine wpAny_Slice (thn (hlo.run pins s1 σ H1 (fun o H2 => o = some (i : Int) ∧ H2 = H1) I1 ⟨_, rfl, rfl, rfl⟩) fun vl s2 ⟨l, H2, I2, pl, el, e2⟩ => ?_)
  subst el e2
  refine thn (po_none.run pins s2 σ H2 (fun o H3 => o = none ∧ H3 = H2) I2 ⟨rfl, rfl⟩) fun vu s3 ⟨u, H3, I3, pu, eu, e3⟩ => ?_
  subst eu e3
  refine thn (hst.run pins s3 σ H3 (fun o H4 => o = some 2 ∧ H4 = H3) I3 ⟨_, rfl, rfl, rfl⟩) fun vs s4 ⟨o, H4, I4, ps, eo, e4⟩ => ?_
  subst eo e4
  have I5 : Inv X pins σ H4 { s4 with heap := s4.heap.push { cls := .type "slice", data := .fields #[vl, vu, vs] } } := I4.kept (t' := s4.toks) fun b ob q => Heap.get?_push_of_some _ q
  obtain ⟨its, r, ht, hz⟩ := I5.list hx
  have hlen := r.length
  refine tail_any (ops := [.ref a, .ref s4.heap.objs.size]) ht.isList.typeIs (PySem.slot_list_getitem.lookup) ?_ (by with_unfolding_all rfl)
  refine wpAny_getItem_list_slice ht.isList (Heap.IsSliceOf.new _ vl vu vs) pl pu ps (by decide) ?_ (by rw [List.size_toArray]; omega)
  rw [pick_two]
  refine ⟨.ref _, _, I5.laid (t' := s4.toks) (o := .lst (odds (xs.drop i))) (fun b ob q => Heap.get?_push_of_some _ q) (Nat.le_refl _) ?_, rfl, q _ (I5.hok.fresh (Nat.le_refl _))⟩
  have hd : (xs.drop i).length ≤ xs.length := by rw [List.length_drop]; omega
  exact ⟨by rw [odds_length]; omega, _, 0, odds_vals (r.drop i), Heap.get?_push_size _ rfl⟩
/-- sum of a tuple of ints -/
def rSumT (K : PySem.W.Frag) : List V → Hp → VK → Prop := fun vs H Q => ∃ (a : Addr) (ns : List Int), vs = [V.ref a] ∧ SqT K H a (ns.map V.int) ∧ Q (.int ns.sum) H
theorem sumT_raw {prog : Program} {w : World} {A : Around} {E : Value → Shared → Prop} {s : Shared} {l : Addr} {its : List Value} {ns : List Int} {Q : Value → Shared → Prop} (hh : A.handled = none) (hl : s.heap.IsTuple l its.toArray) (hi : IntsAre its ns)
    (h : ∀ h' tk t', (∀ b o, s.heap.get? b = some o → h'.get? b = some o) → Q (.int ns.sum t') { s with heap := h', toks := tk }) : wpAny (model prog w) A (call (.builtin "sum") [.ref l]) Q E s := by
  obtain ⟨xs, e⟩ := hi.allInts.items
  have hn : numsOf (intItems xs).toList = ns := by rw [← e]; exact hi.numsOf
  rw [nums_intItems] at hn
  rw [e] at hl
  refine PySem.W.ktm_sumG hh hl fun h' tk t' hk => ?_
  have := h h' tk t' hk
  rw [preSum_eq, List.take_of_length_le (by simp), hn]
  exact this
theorem cr_sumT (hc : X.calm = true) : CallR X (.builtin "sum") (rSumT X.K) := by
  intro pins s σ H vs us Q I r h
  obtain ⟨a, ns, rfl, hs, q⟩ := h
  obtain ⟨its, rv, hl, _⟩ := I.tuple hs
  rw [Vals.ref1 r]
  exact sumT_raw (I.ok.hd hc) hl rv.ints fun h' tk t' hk => ⟨.int _, H, I.kept hk, ⟨_, rfl⟩, q⟩
/-- x *= y, one of them below 2 ^ 64 -/
def ipMul : TIp := fun x y H Q => ∃ i j, x = .int i ∧ y = .int j ∧ CMul i j ∧ Q (.int (i * j)) H
theorem ip_mul : PIp X .Mult ipMul := by
  intro pins s σ H x y v u Q I r1 r2 h
  obtain ⟨i, j, e1, e2, hm, q⟩ := h
  subst e1 e2
  obtain ⟨t, rfl⟩ := r1
  obtain ⟨t', rfl⟩ := r2
  exact imul_int ⟨.int _, H, I.tok _, ⟨_, rfl⟩, q⟩ hm.ok
end
section
variable {K : PySem.W.Frag} {a b : Addr} {xs ys : List V}
theorem walk_zipT {n : Nat} (hn : n = min xs.length ys.length) : Walk (ItzT K a b) n (fun H => SqT K H a xs ∧ SqT K H b ys) (YPair (fun i => xs[i]?) (fun i => ys[i]?)) := by
  subst hn
  refine ⟨fun i _ hi q => ?_, fun _ q => ⟨xs, ys, q.1, q.2, by omega⟩, fun i H v H' _ q y => ?_⟩
  · exact ⟨xs, ys, xs[i]'(by omega), ys[i]'(by omega), q.1, q.2, List.getElem?_eq_getElem (by omega), List.getElem?_eq_getElem (by omega)⟩
  · obtain ⟨T, x, z, h1, h2, h3, h4, h5⟩ := y
    exact ⟨T, x, z, h1, h2, h3, h4 xs q.1, h5 ys q.2⟩
end
end Ta
end
section
set_option Elab.async false
set_option maxRecDepth 100000
set_option maxHeartbeats 2000000
set_option linter.all false
/-! The text by places, and small words for all defs. -/
namespace Ta
open PySem PySem.Spec PyProof.Rows L2
def top (i : Nat) : Stmt := PySem.Challenge.pw_triesagaindesk_s01_answers.main.body.getD i (.Pass ⟨0, 0, 0, 0⟩)
abbrev cSus : Stmt := top 8
abbrev cWays : Stmt := top 10
abbrev cHouse : Stmt := top 23
abbrev cRd : Stmt := top 25
abbrev sKindsFit : Stmt := top 5
abbrev sVerdictFits : Stmt := top 6
abbrev sWellFormed : Stmt := top 7
abbrev sSusInit : Stmt := inClass cSus 0
abbrev sTake : Stmt := inClass cSus 1
abbrev sWAfter : Stmt := inClass cSus 2
abbrev sVCosts : Stmt := inClass cSus 3
abbrev sBestV : Stmt := inClass cSus 4
abbrev sWaysInit : Stmt := inClass cWays 0
abbrev sScale : Stmt := inClass cWays 1
abbrev sStopping : Stmt := inClass cWays 2
abbrev sBehind : Stmt := inClass cWays 3
abbrev sTrying : Stmt := inClass cWays 4
abbrev sBeginnings : Stmt := inClass cWays 5
abbrev sLeast : Stmt := inClass cWays 6
abbrev sRdInit : Stmt := inClass cRd 0
abbrev sAtEnd : Stmt := inClass cRd 1
abbrev sTakeNumber : Stmt := inClass cRd 2
abbrev sTakeList : Stmt := inClass cRd 3
abbrev sTakeLists : Stmt := inClass cRd 4
abbrev sHInit : Stmt := inClass cHouse 0
abbrev sBegins : Stmt := inClass cHouse 1
abbrev sTest : Stmt := inClass cHouse 2
abbrev sWhyNot : Stmt := inClass cHouse 3
abbrev sResult : Stmt := inClass cHouse 4
abbrev sWaysOn : Stmt := inClass cHouse 5
abbrev sWNow : Stmt := inClass cHouse 6
abbrev sBestFrom : Stmt := inClass cHouse 7
abbrev sBest : Stmt := inClass cHouse 8
abbrev sChances : Stmt := inClass cHouse 9
abbrev sFails : Stmt := inClass cHouse 10
abbrev sWorth : Stmt := inClass cHouse 11
abbrev sWould : Stmt := inClass cHouse 12
abbrev sState : Stmt := inClass cHouse 13
abbrev sAnswerCall : Stmt := top 36
abbrev sAnswers : Stmt := top 37
/-! ### attributes -/
theorem lk0 {k : Str} {v : V} {r : List (Str × V)} : List.lookup k ((k, v) :: r) = some v := by
  have e : (k == k) = true := beq_self_eq_true k
  simp only [List.lookup, e]
theorem lkp {k g : Str} {v : V} {r : List (Str × V)} (h : (k == g) = false) : List.lookup k ((g, v) :: r) = List.lookup k r := by
  simp only [List.lookup, h]
theorem pt0 {f : Str} {v x : V} {r : List (Str × V)} : putF f v ((f, x) :: r) = (f, v) :: r := if_pos rfl
theorem ptp {f g : Str} {v x : V} {r : List (Str × V)} (h : ¬ g = f) : putF f v ((g, x) :: r) = (g, x) :: putF f v r := if_neg h
/-- all stands as it was, but what stands at a -/
def But (a : Addr) (H H' : Hp) : Prop := ∀ b o, H b = some o → b ≠ a → H' b = some o
theorem But.trans {a : Addr} {H H' H'' : Hp} (x : But a H H') (y : But a H' H'') : But a H H'' := fun b o e n => y b o (x b o e n) n
theorem But.upd {a : Addr} {H : Hp} {o : HO} : But a H (L2.upd H a o) := fun b u e n => by rw [upd_ne n]; exact e
theorem But.refl {a : Addr} {H : Hp} : But a H H := fun _ _ e _ => e
theorem But.new {a p : Addr} {H : Hp} {o : HO} (h : H p = none) : But a H (L2.upd H p o) := fun b u e n => by rw [upd_ne (ne_of_none e h)]; exact e
theorem Same.new {p : Addr} {H : Hp} {o : HO} (h : H p = none) : Same H (L2.upd H p o) := fun b u e => by rw [upd_ne (ne_of_none e h)]; exact e
theorem Same.step {H H' H'' : Hp} (x : Same H H') (y : Same H' H'') : Same H H'' := fun b o e => y b o (x b o e)
theorem Same.but {a : Addr} {H H' : Hp} (x : Same H H') : But a H H' := fun b o e _ => x b o e
theorem But.free {a b : Addr} {H H' : Hp} (x : But a H H') (n : b ≠ a) (h : H' b = none) : H b = none := by
  cases z : H b with
  | none => rfl
  | some o => rw [x b o z n] at h; cases h
/-- a list stands where an instance changes -/
theorem But.seq {K : PySem.W.Frag} {a l C dx : Addr} {H H' : Hp} {xs : List V} {fs : List (Str × V)} (x : But a H H') (n : H a = some (.ins C dx fs)) (h : SqL K H l xs) : SqL K H' l xs := by
  rcases h with (h | ⟨o, h⟩) | h
  · exact .inl (.inl (x _ _ h (ne_of h n (fun z => nomatch z))))
  · exact .inl (.inr ⟨o, x _ _ h (ne_of h n (fun z => nomatch z))⟩)
  · exact .inr h
/-- a constant of the module, an int -/
def GI (mg : Str → Option Value) (x : Str) (n : Int) : Prop := ∃ t, mg x = some (.int n t)
theorem pe_gi {X : Cx} {x : Str} {n : Int} {pos : Pos} (g : GI X.mg x n) (hg : Gl X x := by rfl) (hd : (x == ("__debug__" : Str)) = false := by decide) : PE X (.Name x pos) (tC (.int n)) := by
  obtain ⟨t, e⟩ := g
  exact pe_glob hg e ⟨t, rfl⟩ hd
theorem itec {c : Bool} {A B : Prop} (h1 : c = true → A) (h2 : c = false → B) : if c = true then A else B := by
  cases c with
  | true => exact iteT (h1 rfl)
  | false => exact iteF (h2 rfl)
theorem Same.refl {H : Hp} : Same H H := fun _ _ e => e
theorem Same.seqT {K : PySem.W.Frag} {H H' : Hp} {a : Addr} {xs : List V} (e : Same H H') (h : SqT K H a xs) : SqT K H' a xs := by
  rcases h with (h | ⟨o, h⟩) | h
  · exact .inl (.inl (e _ _ h))
  · exact .inl (.inr ⟨o, e _ _ h⟩)
  · exact .inr h
theorem dV (x y : Int) : decide (V.int x = V.int y) = decide (x = y) := decide_eq_decide.mpr ⟨fun e => V.int.inj e, fun e => congrArg _ e⟩
theorem ndV {x y : Int} (h : (!decide (V.int x = V.int y)) = true) : ¬ x = y := by
  rw [dV] at h
  intro e
  rw [decide_eq_true e] at h
  cases h
theorem ydV {x y : Int} (h : (!decide (V.int x = V.int y)) = false) : x = y := by
  rw [dV] at h
  cases e : decide (x = y) with
  | true => exact of_decide_eq_true e
  | false => rw [e] at h; cases h
theorem notd {p : Prop} [Decidable p] (h : (!decide p) = true) : ¬ p := fun e => by
  rw [decide_eq_true e] at h
  cases h
theorem yesd {p : Prop} [Decidable p] (h : (!decide p) = false) : p := by
  cases e : decide p with
  | true => exact of_decide_eq_true e
  | false => rw [e] at h; cases h
theorem yesT {σ : L2.St} {H : Hp} {R : Bool → Hp → Prop} (h : R true H) : tYes σ H R := h
/-! rules with the written part told, for comprehensions -/
def rLenS (K : PySem.W.Frag) : List V → Hp → L2.VK → Prop := fun xs H Q => ∃ p ys, xs = [V.ref p] ∧ (SqL K H p ys ∨ SqT K H p ys) ∧ Q (V.int ((ys.length : Nat) : Int)) H
theorem len_seqK {X : Cx} (K : PySem.W.Frag) (h : X.K = K) : CallR X (.builtin "len") (rLenS K) := by
  subst h
  exact call_len_seq
theorem cr_sumK {X : Cx} (K : PySem.W.Frag) (h : X.K = K) (hc : X.calm = true) : CallR X (.builtin "sum") (rSum K) := by
  subst h
  exact cr_sum hc
theorem cr_sumTK {X : Cx} (K : PySem.W.Frag) (h : X.K = K) (hc : X.calm = true) : CallR X (.builtin "sum") (rSumT K) := by
  subst h
  exact cr_sumT hc
def rTupOf (K : PySem.W.Frag) : List V → Hp → L2.VK → Prop := fun xs H Q => ∃ p ys, xs = [.ref p] ∧ ((SqL K H p ys ∧ ∀ l, H l = none → Q (.ref l) (L2.upd H l (.tup ys))) ∨ (SqT K H p ys ∧ Q (.ref p) H))
theorem call_tupK {X : Cx} (K : PySem.W.Frag) (h : X.K = K) : CallR X (.type "tuple") (rTupOf K) := by
  subst h
  exact call_tuple_of
theorem get_int {ns : List Int} {i : Nat} {y : V} (h : (ns.map V.int)[i]? = some y) : ∃ z, ns[i]? = some z ∧ y = V.int z := by
  rw [List.getElem?_map] at h
  cases e : ns[i]? with
  | none => rw [e] at h; cases h
  | some z => rw [e] at h; exact ⟨z, rfl, (Option.some.inj h).symm⟩
theorem get_ref {ps : List Addr} {i : Nat} {y : V} (h : (ps.map V.ref)[i]? = some y) : ∃ z, ps[i]? = some z ∧ y = V.ref z := by
  rw [List.getElem?_map] at h
  cases e : ps[i]? with
  | none => rw [e] at h; cases h
  | some z => rw [e] at h; exact ⟨z, rfl, (Option.some.inj h).symm⟩
theorem take_more {α : Type} {l : List α} {i : Nat} {x : α} (h : l[i]? = some x) : l.take (i + 1) = l.take i ++ [x] := by
  rw [List.take_succ, h]
  rfl
end Ta
end
section
set_option Elab.async false
set_option maxRecDepth 100000
set_option maxHeartbeats 2000000
set_option linter.all false
/-! Reader -/
namespace Ta
open PySem PySem.Spec PyProof.Rows L2
structure RdTxt (K : PySem.W.Frag) (mg : Str → Option Value) (C : Addr) : Prop where
  cl : Cls K C
  nN : NoAttr K C "numbers"
  nP : NoAttr K C "place"
  len : mg "len" = none
  rng : mg "range" = none
def rdF (L : Addr) (i : Nat) : List (Str × V) := [("numbers", .ref L), ("place", .int (i : Int))]
theorem rdF_n (L : Addr) (i : Nat) : (rdF L i).lookup ("numbers" : Str) = some (.ref L) := lk0
theorem rdF_p (L : Addr) (i : Nat) : (rdF L i).lookup ("place" : Str) = some (.int (i : Int)) := (lkp (by decide +kernel)).trans lk0
theorem rdF_no (L : Addr) (i : Nat) {m : Str} (h1 : (m == "numbers") = false) (h2 : (m == "place") = false) : (rdF L i).lookup m = none := (lkp h1).trans ((lkp h2).trans rfl)
theorem rdF_put (L : Addr) (i j : Nat) : putF "place" (.int (j : Int)) (rdF L i) = rdF L j := (ptp (by decide +kernel)).trans (congrArg _ pt0)
theorem rdF_new (L : Addr) : putF "place" (.int 0) (putF "numbers" (.ref L) []) = rdF L 0 := (ptp (by decide +kernel)).trans rfl
/-- a reader of the list at L, which holds ns; l is still to be taken -/
def RdAt (C : Addr) (H : Hp) (a L : Addr) (ns l : List Int) : Prop := ∃ (dx : Addr) (i : Nat), H a = some (.ins C dx (rdF L i)) ∧ ns.drop i = l ∧ i ≤ ns.length
/-! promises -/
def spRdInit (C : Addr) : Sp := fun vs H Q _ => ∃ (p dx L : Addr) (ns : List Int), vs = [.ref p, .ref L] ∧ H p = some (.ins C dx []) ∧ ∀ H' : Hp, RdAt C H' p L ns ns → But p H H' → Q .non H'
def spAtEnd (K : PySem.W.Frag) (C : Addr) : Sp := fun vs H Q _ => ∃ (p L : Addr) (ns l : List Int), vs = [.ref p] ∧ RdAt C H p L ns l ∧ SqL K H L (ns.map V.int) ∧ Q (.bl (decide (l = []))) H
def spTakeNumber (K : PySem.W.Frag) (C : Addr) : Sp := fun vs H Q _ => ∃ (p L : Addr) (ns l : List Int) (x : Int), vs = [.ref p] ∧ RdAt C H p L ns (x :: l) ∧ SqL K H L (ns.map V.int) ∧
  ∀ H', RdAt C H' p L ns l → But p H H' → Q (.int x) H'
def spTakeList (K : PySem.W.Frag) (C : Addr) : Sp := fun vs H Q _ => ∃ (p L : Addr) (ns x l : List Int), vs = [.ref p] ∧ RdAt C H p L ns (PyFlat.putRow x ++ l) ∧ SqL K H L (ns.map V.int) ∧
  ∀ H' q, RdAt C H' p L ns l → But p H H' → H q = none → H' q = some (.lst (x.map V.int)) → Q (.ref q) H'
def spTakeLists (K : PySem.W.Frag) (C : Addr) : Sp := fun vs H Q _ => ∃ (p L : Addr) (ns : List Int) (xs : List (List Int)) (l : List Int), vs = [.ref p] ∧ RdAt C H p L ns ((xs.length : Int) :: (PyFlat.putRows xs ++ l)) ∧ ns.length ≤ 5700 ∧
  SqL K H L (ns.map V.int) ∧ ∀ H' q (ps : List Addr), RdAt C H' p L ns l → But p H H' → H q = none → H' q = some (.lst (ps.map V.ref)) → Paired (fun p x => H p = none ∧ H' p = some (.lst (x.map V.int))) ps xs → Q (.ref q) H'
section
variable {P : Program} {w : World} {K : PySem.W.Frag} {mg : Str → Option Value} {base : Heap}
theorem scRI : FnScope ["self", "numbers"] ["self", "numbers"] (defScope sRdInit) := ⟨rfl, rfl, rfl, by decide +kernel, rfl, by decide +kernel, by decide +kernel⟩
theorem ok_rdInit {f C : Addr} {fd : FuncData} (F : Fun K "__init__" "Reader.__init__" sRdInit f fd) (T : RdTxt K mg C) : FnOk P w K mg base CX0 1 f fd ["self", "numbers"] (spRdInit C) := by
  refine F.ok scRI (fun vs H Q E h => ?_) (fun cdv A outer s H vs Q E hr h => ?_)
  · obtain ⟨p, dx, L, ns, rfl, _⟩ := h
    rfl
  · obtain ⟨p, dx, L, ns, rfl, hp, k⟩ := h
    refine ⟨_, pss_cons (ps_fld (pv 0) (pv 1) rfl) (pss_one (ps_fld (pv 0) pe_int rfl)), ?_⟩
    refine ⟨_, rfl, _, rfl, p, C, dx, [], rfl, hp, T.cl, T.nN, (by show 0 < 1000; decide), ?_⟩
    refine ⟨_, rfl, p, C, dx, _, rfl, upd_same, T.cl, T.nP, (by show 1 < 1000; decide), ?_⟩
    exact k _ ⟨dx, 0, Eq.trans upd_same (congrArg (fun q => some (HO.ins C dx q)) (rdF_new L)), rfl, Nat.zero_le _⟩ (But.upd.trans But.upd)
theorem scAE : FnScope ["self"] ["self"] (defScope sAtEnd) := ⟨rfl, rfl, rfl, by decide +kernel, rfl, by decide +kernel, by decide +kernel⟩
theorem ok_atEnd {f C : Addr} {fd : FuncData} (F : Fun K "at_end" "Reader.at_end" sAtEnd f fd) (T : RdTxt K mg C) : FnOk P w K mg base CX0 1 f fd ["self"] (spAtEnd K C) := by
  refine F.ok scAE (fun vs H Q E h => ?_) (fun cdv A outer s H vs Q E hr h => ?_)
  · obtain ⟨p, L, ns, l, rfl, _⟩ := h
    rfl
  · obtain ⟨p, L, ns, l, rfl, ⟨dx, i, hp, hd, hi⟩, hs, q⟩ := h
    refine ⟨_, pss_one (ps_ret (pe_cmpR op_ge (pe_fld (pv 0) rfl) (pe_callB call_len_seq (by rfl) T.len PySem.boot_len (pa_cons (pe_fld (pv 0) rfl) pa_nil)) (nomark _))), ?_⟩
    refine ⟨_, rfl, p, C, dx, _, _, rfl, hp, T.cl, T.nP, rdF_p _ _, _, rfl, p, C, dx, _, _, rfl, hp, T.cl, T.nN, rdF_n _ _, L, _, rfl, .inl hs, _, _, rfl, rfl, ?_⟩
    have e : decide (((ns.map V.int).length : Int) ≤ (i : Int)) = decide (l = []) := by
      rw [List.length_map, ← hd, decide_eq_decide, List.drop_eq_nil_iff]
      omega
    show Q (.bl (decide (((ns.map V.int).length : Int) ≤ (i : Int)))) H
    rw [e]
    exact q
theorem scTN : FnScope ["self", "number"] ["self"] (defScope sTakeNumber) := ⟨rfl, rfl, rfl, by decide +kernel, rfl, by decide +kernel, by decide +kernel⟩
theorem drop_head {α : Type} {ns l : List α} {i : Nat} {x : α} (h : ns.drop i = x :: l) : ns[i]? = some x ∧ ns.drop (i + 1) = l ∧ i + 1 ≤ ns.length := by
  have hl : i < ns.length := by
    have := congrArg List.length h
    rw [List.length_drop, List.length_cons] at this
    omega
  rw [List.drop_eq_getElem_cons hl] at h
  injection h with h1 h2
  exact ⟨by rw [List.getElem?_eq_getElem hl, h1], h2, hl⟩
theorem ok_takeNumber {f C : Addr} {fd : FuncData} (F : Fun K "take_number" "Reader.take_number" sTakeNumber f fd) (T : RdTxt K mg C) : FnOk P w K mg base CX0 1 f fd ["self"] (spTakeNumber K C) := by
  refine F.ok scTN (fun vs H Q E h => ?_) (fun cdv A outer s H vs Q E hr h => ?_)
  · obtain ⟨p, L, ns, l, x, rfl, _⟩ := h
    rfl
  · obtain ⟨p, L, ns, l, x, rfl, ⟨dx, i, hp, hd, hi⟩, hs, q⟩ := h
    refine ⟨_, pss_cons (ps_set (i := 1) scTN.nd rfl (Or.inl rfl) (pe_ix ix_list (pe_fld (pv 0) rfl) (pe_fld (pv 0) rfl) (fun _ _ => rfl)))
      (pss_cons (ps_fldaug (pv 0) pe_int in_add) (pss_one (ps_ret (pv 1)))), ?_⟩
    obtain ⟨h1, h2, h3⟩ := drop_head hd
    refine ⟨_, rfl, p, C, dx, _, _, rfl, hp, T.cl, T.nN, rdF_n _ _, _, rfl, p, C, dx, _, _, rfl, hp, T.cl, T.nP, rdF_p _ _, L, _, _, _, rfl, rfl, hs, atI_nat (by rw [List.getElem?_map, h1]; rfl), ?_⟩
    refine ⟨_, rfl, p, C, dx, _, _, rfl, hp, T.cl, T.nP, rdF_p _ _, _, _, rfl, rfl, dx, _, hp, (by show 2 < 1000; decide), ?_⟩
    refine ⟨_, rfl, ?_⟩
    refine q _ ⟨dx, i + 1, Eq.trans upd_same (congrArg (fun q => some (HO.ins C dx q)) (rdF_put L i (i + 1))), h2, h3⟩ But.upd
theorem scTL : FnScope ["self", "length", "begin"] ["self"] (defScope sTakeList) := ⟨rfl, rfl, rfl, by decide +kernel, rfl, by decide +kernel, by decide +kernel⟩
theorem cut_mid {xs : List V} {i k : Nat} (h : i + k ≤ xs.length) : cutV xs (some (i : Int)) (some ((i + k : Nat) : Int)) = (xs.drop i).take k := by
  unfold cutV
  rw [HT.sIx_nat, HT.sIx_nat, Nat.min_eq_left h, Nat.min_eq_left (show i ≤ xs.length by omega)]
  congr 1
  omega
theorem ok_takeList {f C f1 : Addr} {fd fd1 : FuncData} (F : Fun K "take_list" "Reader.take_list" sTakeList f fd) (T : RdTxt K mg C) (F1 : Fun K "take_number" "Reader.take_number" sTakeNumber f1 fd1) (b1 : Binds K fd1 ["self"] [])
    (m1 : Meth K C "take_number" f1) : FnOk P w K mg base CX0 2 f fd ["self"] (spTakeList K C) := by
  have G1 : FnOk P w K mg base CX0 1 f1 fd1 ["self"] (spTakeNumber K C) := ok_takeNumber F1 T
  refine F.ok scTL (fun vs H Q E h => ?_) (fun cdv A outer s H vs Q E hr h => ?_)
  · obtain ⟨p, L, ns, x, l, rfl, _⟩ := h
    rfl
  · obtain ⟨p, L, ns, x, l, rfl, ⟨dx, i, hp, hd, hi⟩, hs, q⟩ := h
    refine ⟨_, pss_cons (ps_set (i := 1) scTL.nd rfl (Or.inl rfl) (pe_meth0 (pv 0) T.cl m1 G1 hr b1 .nil pass0))
      (pss_cons (ps_set (i := 2) scTL.nd rfl (Or.inl rfl) (pe_fld (pv 0) rfl))
      (pss_cons (ps_fldaug (pv 0) (pv 1) in_add)
      (pss_one (ps_ret (pe_slice sl_list (pe_fld (pv 0) rfl) (po_some (pv 2)) (po_some (pe_fld (pv 0) rfl))))))), ?_⟩
    refine ⟨_, rfl, p, dx, _, rfl, hp, rdF_no _ _ (by decide +kernel) (by decide +kernel), p, L, ns, x ++ l, x.length, rfl, ⟨dx, i, hp, hd, hi⟩, hs, fun H1 R1 B1 => ?_⟩
    obtain ⟨dx1, j, hp1, hd1, hj⟩ := R1
    have hs1 := B1.seq hp hs
    have hl : j + x.length ≤ ns.length := by
      have := congrArg List.length hd1
      rw [List.length_drop, List.length_append] at this
      omega
    refine ⟨_, rfl, p, C, dx1, _, _, rfl, hp1, T.cl, T.nP, rdF_p _ _, ?_⟩
    refine ⟨_, rfl, p, C, dx1, _, _, rfl, hp1, T.cl, T.nP, rdF_p _ _, _, rfl, _, _, rfl, rfl, dx1, _, hp1, (by show 2 < 1000; decide), ?_⟩
    have hp2 : upd H1 p (.ins C dx1 (putF "place" (.int ((j : Int) + (x.length : Int))) (rdF L j))) p = some (.ins C dx1 (rdF L (j + x.length))) := by
      rw [upd_same, show (j : Int) + (x.length : Int) = ((j + x.length : Nat) : Int) by omega, rdF_put]
    refine ⟨_, rfl, p, C, dx1, _, _, rfl, hp2, T.cl, T.nN, rdF_n _ _, _, rfl, _, rfl, _, rfl, p, C, dx1, _, _, rfl, hp2, T.cl, T.nP, rdF_p _ _, _, rfl, L, _, rfl, (But.upd (a := p)).seq hp1 hs1, fun r hr => ?_⟩
    have e : cutV (ns.map V.int) (some (j : Int)) (some ((j + x.length : Nat) : Int)) = x.map V.int := by
      rw [cut_mid (by rw [List.length_map]; exact hl), ← List.map_drop, ← List.map_take, hd1, List.take_left]
    rw [e]
    have nrp : p ≠ r := ne_of_none hp2 hr
    have hr1 : H1 r = none := by rw [upd_ne nrp.symm] at hr; exact hr
    have hr0 : H r = none := by
      cases z : H r with
      | none => rfl
      | some o => rw [B1 r o z nrp.symm] at hr1; cases hr1
    refine q _ r ⟨dx1, j + x.length, (upd_ne nrp).trans hp2, ?_, hl⟩ (B1.trans (But.upd.trans (But.new hr))) hr0 upd_same
    rw [← List.drop_drop, hd1, List.drop_left]
theorem scTS : FnScope ["self", "count", "taken", "turn"] ["self"] (defScope sTakeLists) := ⟨rfl, rfl, rfl, by decide +kernel, rfl, by decide +kernel, by decide +kernel⟩
theorem putRows_len : ∀ xs : List (List Int), xs.length ≤ (PyFlat.putRows xs).length
  | [] => Nat.le_refl _
  | x :: r => by
    have := putRows_len r
    show r.length + 1 ≤ (PyFlat.putRow x ++ PyFlat.putRows r).length
    rw [List.length_append]
    show r.length + 1 ≤ (x.length + 1) + _
    omega
theorem putRows_drop {xs : List (List Int)} {i : Nat} {x : List Int} (h : xs[i]? = some x) : PyFlat.putRows (xs.drop i) = PyFlat.putRow x ++ PyFlat.putRows (xs.drop (i + 1)) := by
  have hl := (List.getElem?_eq_some_iff.mp h).1
  rw [List.drop_eq_getElem_cons hl, (List.getElem?_eq_some_iff.mp h).2]
  rfl
theorem Paired.snocP {α β : Type} {F : α → β → Prop} {a : α} {b : β} {l : List α} {m : List β} (r : Paired F l m) (h : F a b) : Paired F (l ++ [a]) (m ++ [b]) := Paired.snoc r h
theorem ok_takeLists {f C f1 f2 : Addr} {fd fd1 fd2 : FuncData} (F : Fun K "take_lists" "Reader.take_lists" sTakeLists f fd) (T : RdTxt K mg C) (F1 : Fun K "take_number" "Reader.take_number" sTakeNumber f1 fd1) (b1 : Binds K fd1 ["self"] [])
    (m1 : Meth K C "take_number" f1) (F2 : Fun K "take_list" "Reader.take_list" sTakeList f2 fd2) (b2 : Binds K fd2 ["self"] []) (m2 : Meth K C "take_list" f2) : FnOk P w K mg base CX0 3 f fd ["self"] (spTakeLists K C) := by
  have G1 : FnOk P w K mg base CX0 1 f1 fd1 ["self"] (spTakeNumber K C) := ok_takeNumber F1 T
  have G2 : FnOk P w K mg base CX0 2 f2 fd2 ["self"] (spTakeList K C) := ok_takeList F2 T F1 b1 m1
  refine F.ok scTS (fun vs H Q E h => ?_) (fun cdv A outer s H vs Q E hr h => ?_)
  · obtain ⟨p, L, ns, xs, l, rfl, _⟩ := h
    rfl
  · obtain ⟨p, L, ns, xs, l, rfl, R, hn, hs, q⟩ := h
    have hr1 : Room 1 _ := hr.mono (by decide)
    refine ⟨_, pss_cons (ps_set (i := 1) scTS.nd rfl (Or.inl rfl) (pe_meth0 (pv 0) T.cl m1 G1 hr1 b1 .nil pass0))
      (pss_cons (ps_set (i := 2) scTS.nd rfl (Or.inl rfl) (pe_lst pa_nil))
      (pss_cons (ps_for PassesOwn.never rfl (pi_range1 rfl T.rng (pa_cons (pv 1) pa_nil)) (pg_name (i := 3) scTS.nd rfl (Or.inl rfl))
        (pss_one (ps_expr (pe_bm PySem.F.plainAttrs_list PySem.F.slot_list_append PySem.F.type_list_append mt_append (pv 2) (pa_cons (pe_meth0 (pv 0) T.cl m2 G2 hr b2 .nil pass0) pa_nil)))))
      (pss_one (ps_ret (pv 2))))), ?_⟩
    obtain ⟨dx, i, hp, hd, hi⟩ := id R
    have hcount : xs.length ≤ 5700 := by
      have := congrArg List.length hd
      rw [List.length_drop, List.length_cons, List.length_append] at this
      have := putRows_len xs
      omega
    refine ⟨_, rfl, p, dx, _, rfl, hp, rdF_no _ _ (by decide +kernel) (by decide +kernel), p, L, ns, _, _, rfl, R, hs, fun H1 R1 B1 => ?_⟩
    refine ⟨Nat.zero_le _, fun t ht => ?_⟩
    obtain ⟨dx1, i1, hp1, hd1, hi1⟩ := id R1
    have npt : p ≠ t := ne_of_none hp1 ht
    refine ⟨_, rfl, _, rfl, by omega, by omega, for_range (n := xs.length) (fun i σ H' => ∃ (v : Option V) (ps : List Addr), σ = [some (.ref p), some (.int (xs.length : Int)), some (.ref t), v] ∧
      RdAt C H' p L ns (PyFlat.putRows (xs.drop i) ++ l) ∧ But p H H' ∧ H' t = some (.lst (ps.map V.ref)) ∧ ps.length = i ∧ Paired (fun r x => r ≠ t ∧ H r = none ∧ H' r = some (.lst (x.map V.int))) ps (xs.take i)) ?_ ?_ ?_⟩
    · exact ⟨none, [], rfl, ⟨dx1, i1, (upd_ne npt).trans hp1, hd1, hi1⟩, B1.trans (But.new ht), upd_same, rfl, .nil⟩
    · rintro i σ H' hi ⟨v, ps, rfl, R5, B5, hT, hlen, hps⟩
      obtain ⟨x, hx⟩ : ∃ x, xs[i]? = some x := ⟨_, List.getElem?_eq_getElem hi⟩
      rw [putRows_drop hx, List.append_assoc] at R5
      obtain ⟨dx5, i5, hp5, hd5, hi5⟩ := id R5
      have hs5 : SqL K H' L (ns.map V.int) := B5.seq hp hs
      refine ⟨_, rfl, .inl ⟨rfl, _, SqL.of hT⟩, _, rfl, p, dx5, _, rfl, hp5, rdF_no _ _ (by decide +kernel) (by decide +kernel), p, L, ns, x, _, rfl, R5, hs5, fun H6 r R6 B6 hr6 hr6' => ?_⟩
      have hT6 : H6 t = some (.lst (ps.map V.ref)) := B6 _ _ hT npt.symm
      refine ⟨t, _, _, rfl, rfl, hT6, (by rw [List.length_map, hlen]; have : i < 5700 := by omega
                                          exact Nat.lt_of_lt_of_le this (by decide)), ?_⟩
      have nrt : r ≠ t := fun e => by rw [e, hT] at hr6; cases hr6
      have nrp : r ≠ p := fun e => by rw [e, hp5] at hr6; cases hr6
      obtain ⟨dx6, i6, hp6, hd6, hi6⟩ := R6
      refine ⟨_, ps ++ [r], rfl, ⟨dx6, i6, (upd_ne npt).trans hp6, hd6, hi6⟩, fun b o e n => ?_, ?_, ?_, ?_⟩
      · have nbt : b ≠ t := fun z => by
          rw [z] at e
          rw [B1 t o e npt.symm] at ht
          cases ht
        rw [upd_ne nbt]
        exact B6 b o (B5 b o e n) n
      · rw [upd_same, List.map_append]
        rfl
      · rw [List.length_append, hlen]
        rfl
      · rw [take_more hx]
        refine Paired.snocP (Paired.mapP hps fun a y z => ⟨z.1, z.2.1, ?_⟩) ⟨nrt, B5.free nrp hr6, (upd_ne nrt).trans hr6'⟩
        rw [upd_ne z.1]
        refine B6 _ _ z.2.2 fun e => ?_
        rw [e] at z
        rw [hp5] at z
        exact nomatch (Option.some.inj z.2.2)
    · rintro σ H' ⟨v, ps, rfl, R5, B5, hT, hlen, hps⟩
      rw [List.drop_length] at R5
      rw [List.take_length] at hps
      refine ⟨_, rfl, ?_⟩
      exact q _ t ps R5 B5 (B1.free npt.symm ht) hT (Paired.mapP hps fun a y z => z.2)
end
end Ta
end
section
set_option Elab.async false
set_option maxRecDepth 100000
set_option maxHeartbeats 2000000
set_option linter.all false
/-! The form of a test. -/
namespace Ta
open PySem PySem.Spec PyProof.Rows L2
/-! ### comprehensions that make ys -/
def LcInv (H1 : Hp) (D : Addr) (ys : List V) (i : Nat) (H : Hp) : Prop := Same H1 H ∧ H D = some (.lst (ys.take i))
theorem LcInv.start {H1 : Hp} {D : Addr} {ys : List V} (h : H1 D = none) : LcInv H1 D ys 0 (upd H1 D (.lst [])) := ⟨Same.new h, upd_same⟩
theorem LcInv.fin {H1 H H4 : Hp} {D : Addr} {ys : List V} {i : Nat} {y : V} (I : LcInv H1 D ys i H) (h : H1 D = none) (S : Same H H4) (e : ys[i]? = some y) (hl : i < 1000) :
    ∃ acc, H4 D = some (.lst acc) ∧ acc.length < sizeLine ∧ LcInv H1 D ys (i + 1) (upd H4 D (.lst (acc ++ [y]))) := by
  refine ⟨ys.take i, S _ _ I.2, ?_, fun b o q => ?_, ?_⟩
  · rw [List.length_take]
    exact Nat.lt_of_le_of_lt (Nat.min_le_left _ _) (Nat.lt_trans hl (by decide))
  · rw [upd_ne (ne_of_none q h)]
    exact S _ _ (I.1 _ _ q)
  · rw [upd_same, take_more e]
structure FitTxt (mg : Str → Option Value) : Prop where
  len : mg "len" = none
  all : mg "all" = none
  gK : GI mg "MOST_KINDS" 4
  gV : GI mg "MOST_VERDICTS" 4
  gW : GI mg "MOST_WEIGHT" 100
  gC : GI mg "MOST_VERDICT_COST" 1000
def spKindsFit (K : PySem.W.Frag) : Sp := fun vs H Q _ => ∃ (a : Addr) (ks : List Int) (d : Int), vs = [.ref a, .int d] ∧ SqL K H a (ks.map V.int) ∧ ks.length ≤ 12 ∧ ∀ H', Same H H' → Q (.bl (kindsFit ks d)) H'
section
variable {P : Program} {w : World} {K : PySem.W.Frag} {mg : Str → Option Value} {base : Heap}
theorem scKF : FnScope ["kinds", "whole", "weights_fit", "weight", "failing"] ["kinds", "whole"] (defScope sKindsFit) := ⟨rfl, rfl, rfl, by decide +kernel, rfl, by decide +kernel, by decide +kernel⟩
theorem ok_kindsFit {f : Addr} {fd : FuncData} (F : Fun K "kinds_fit" "kinds_fit" sKindsFit f fd) (T : FitTxt mg) : FnOk P w K mg base CX0 1 f fd ["kinds", "whole"] (spKindsFit K) := by
  refine F.ok scKF (fun vs H Q E h => ?_) (fun cdv A outer s H vs Q E hr h => ?_)
  · obtain ⟨a, ks, d, rfl, _⟩ := h
    rfl
  · obtain ⟨a, ks, d, rfl, hs, hl, q⟩ := h
    refine ⟨_, pss_cons (ps_if (PW.pt (pw_or (pt_cmpR op_ne (pe_op op_mod (pe_callB call_len_seq (by rfl) T.len PySem.boot_len (pa_cons (pv 0) pa_nil)) pe_int) pe_int (nomark _))
        (pw_or1 (pt_not (pt_chain op_le op_le pe_int (pe_op op_fdiv (pe_callB call_len_seq (by rfl) T.len PySem.boot_len (pa_cons (pv 0) pa_nil)) pe_int) (pe_gi T.gK)))))) (pss_one (ps_ret pe_bl)) pss_nil)
      (pss_cons (ps_set (i := 2) scKF.nd rfl (Or.inl rfl) (pe_callB (cr_all rfl) (by rfl) T.all (by decide +kernel) (pa_cons
        (pe_lc (own := [("weight", 3)]) (g := gName 3) (tt := tYes) rfl scKF.nd (pi_list (pe_odds (i := 0) (pv 0))) (blkOk_by (own := [("weight", 3)]) (N := ["kinds", "whole", "weights_fit", "weight", "failing"]) (sc := defScope sKindsFit) (by decide +kernel))
          (fun _ _ _ _ _ => pg_name (i := 3) scKF.nd rfl (Or.inl rfl)) (fun _ _ _ _ _ => pts_nil) (fun _ _ _ _ _ => pe_chain op_le op_le pe_int (pv 3) (pe_gi T.gW))) pa_nil)))
      (pss_one (ps_ret (pe_and (pv 2) (pe_one (pe_callB (cr_all rfl) (by rfl) T.all (by decide +kernel) (pa_cons
        (pe_lc (own := [("failing", 4)]) (g := gName 4) (tt := tYes) rfl scKF.nd (pi_list (pe_odds (i := 1) (pv 0))) (blkOk_by (own := [("failing", 4)]) (N := ["kinds", "whole", "weights_fit", "weight", "failing"]) (sc := defScope sKindsFit) (by decide +kernel))
          (fun _ _ _ _ _ => pg_name (i := 4) scKF.nd rfl (Or.inl rfl)) (fun _ _ _ _ _ => pts_nil) (fun _ _ _ _ _ => pe_chain op_le op_le pe_int (pv 4) (pv 1))) pa_nil))))))), ?_⟩
    refine ⟨_, rfl, a, _, rfl, .inl hs, _, _, rfl, rfl, (by show (0 : Int) < 2; decide), rfl, _, rfl, ?_⟩
    have e1 : (ks.map V.int).length = ks.length := List.length_map _
    refine itec (fun h1 => ?_) (fun h1 => ?_)
    · refine iteT ?_
      have e : kindsFit ks d = false := by
        have z := ndV h1
        rw [e1] at z
        exact if_pos (.inl (by omega))
      rw [e] at q
      exact q H Same.refl
    · have g1 : ks.length % 2 = 0 := by
        have z := ydV h1
        rw [e1] at z
        omega
      refine ⟨_, rfl, a, _, rfl, .inl hs, _, _, rfl, rfl, ⟨by decide, by decide⟩, _, _, rfl, rfl, _, rfl, ?_⟩
      have bad : ¬ (1 ≤ ks.length / 2 ∧ ks.length / 2 ≤ 4) → kindsFit ks d = false := fun z => by
        unfold kindsFit
        rw [if_pos (.inr z)]
      refine itec (fun h2 => ?_) (fun h2 => ?_)
      · have g2 : 1 ≤ ks.length / 2 := by
          have := of_decide_eq_true h2
          rw [e1] at this
          omega
        refine ⟨_, _, rfl, rfl, _, rfl, ?_⟩
        refine itec (fun h3 => ?_) (fun h3 => ?_)
        · rw [bad (fun z => ?_)] at q
          · exact q H Same.refl
          · have := notd h3
            rw [e1] at this
            omega
        · have g3 : ks.length / 2 ≤ 4 := by
            have := yesd h3
            rw [e1] at this
            omega
          have hodd : ∀ i, (odds (ks.drop i)).length ≤ 12 := fun i => by
            rw [odds_length, List.length_drop]
            omega
          -- weights_fit = all([1 <= weight <= MOST_WEIGHT for weight in kinds[0::2]])
          refine ⟨_, rfl, a, _, rfl, hs, fun p hp => ⟨p, rfl, ⟨_, SqL.of upd_same⟩, fun D hD => ?_⟩⟩
          have s1 : Same H (upd H p (.lst (odds ((ks.map V.int).drop 0)))) := Same.new hp
          have sq1 : SqL K (upd H p (.lst (odds ((ks.map V.int).drop 0)))) p ((odds (ks.drop 0)).map V.int) := by
            rw [← odds_map, List.map_drop]
            exact SqL.of upd_same
          refine lc_list (K := K) (a := p) (xs := (odds (ks.drop 0)).map V.int) (LcInv _ D ((odds (ks.drop 0)).map fun x => V.bl (decide (1 ≤ x) && decide (x ≤ 100)))) (LcInv.start hD) (fun i H' _ I => I.1.seq sq1) ?_ ?_
          · rintro i y H' hi I
            obtain ⟨x, hx, rfl⟩ := get_int hi
            have hil : i < 1000 := by
              have := (List.getElem?_eq_some_iff.mp hx).1
              have := hodd 0
              omega
            refine ⟨rfl, yesT ?_⟩
            refine iteT ?_
            refine ⟨_, rfl, _, _, rfl, rfl, _, rfl, ?_⟩
            refine itec (fun c1 => ?_) (fun c1 => ?_)
            · refine ⟨_, _, rfl, rfl, I.fin hD Same.refl ?_ hil⟩
              rw [List.getElem?_map, hx, Option.map_some, c1, Bool.true_and]
            · refine I.fin hD Same.refl ?_ hil
              rw [List.getElem?_map, hx, Option.map_some, c1, Bool.false_and]
          · rintro H2 ⟨S2, hD2⟩
            have hD2 : H2 D = some (.lst (((odds (ks.drop 0)).map fun x => decide (1 ≤ x) && decide (x ≤ 100)).map V.bl)) := by
              rw [hD2, List.map_map, List.take_of_length_le (by simp)]
              rfl
            refine ⟨D, _, rfl, SqL.of hD2, ?_⟩
            have hs2 : SqL K H2 a (ks.map V.int) := (Same.step s1 S2).seq hs
            have good : kindsFit ks d = (((odds (ks.drop 0)).map fun x => decide (1 ≤ x) && decide (x ≤ 100)).all id && ((odds (ks.drop 1)).map fun x => decide (0 ≤ x) && decide (x ≤ d)).all id) := by
              unfold kindsFit
              rw [if_neg (by omega), List.all_map, List.all_map]
              rfl
            refine ⟨_, rfl, _, rfl, ?_⟩
            refine itec (fun c1 => ?_) (fun c1 => ?_)
            · rw [c1, Bool.true_and] at good
              rw [good] at q
              refine ⟨_, rfl, a, _, rfl, hs2, fun p2 hp2 => ⟨p2, rfl, ⟨_, SqL.of upd_same⟩, fun D2 hD3 => ?_⟩⟩
              have s3 : Same H2 (upd H2 p2 (.lst (odds ((ks.map V.int).drop 1)))) := Same.new hp2
              have sq3 : SqL K (upd H2 p2 (.lst (odds ((ks.map V.int).drop 1)))) p2 ((odds (ks.drop 1)).map V.int) := by
                rw [← odds_map, List.map_drop]
                exact SqL.of upd_same
              refine lc_list (K := K) (a := p2) (xs := (odds (ks.drop 1)).map V.int) (LcInv _ D2 ((odds (ks.drop 1)).map fun x => V.bl (decide (0 ≤ x) && decide (x ≤ d)))) (LcInv.start hD3) (fun i H' _ I => I.1.seq sq3) ?_ ?_
              · rintro i y H' hi I
                obtain ⟨x, hx, rfl⟩ := get_int hi
                have hil : i < 1000 := by
                  have := (List.getElem?_eq_some_iff.mp hx).1
                  have := hodd 1
                  omega
                refine ⟨rfl, yesT ?_⟩
                refine iteT ?_
                refine ⟨_, rfl, _, _, rfl, rfl, _, rfl, ?_⟩
                refine itec (fun c1 => ?_) (fun c1 => ?_)
                · refine ⟨_, rfl, _, _, rfl, rfl, I.fin hD3 Same.refl ?_ hil⟩
                  rw [List.getElem?_map, hx, Option.map_some, c1, Bool.true_and]
                · refine I.fin hD3 Same.refl ?_ hil
                  rw [List.getElem?_map, hx, Option.map_some, c1, Bool.false_and]
              · rintro H4 ⟨S4, hD4⟩
                have hD4 : H4 D2 = some (.lst (((odds (ks.drop 1)).map fun x => decide (0 ≤ x) && decide (x ≤ d)).map V.bl)) := by
                  rw [hD4, List.map_map, List.take_of_length_le (by simp)]
                  rfl
                refine ⟨D2, _, rfl, SqL.of hD4, ?_⟩
                exact q _ (Same.step s1 (Same.step S2 (Same.step s3 S4)))
            · rw [c1, Bool.false_and] at good
              rw [good] at q
              exact q _ (Same.step s1 S2)
      · refine ⟨_, rfl, ?_⟩
        refine iteT ?_
        rw [bad (fun z => ?_)] at q
        · exact q H Same.refl
        · have := of_decide_eq_false h2
          rw [e1] at this
          omega
end
def spVerdictFits (K : PySem.W.Frag) : Sp := fun vs H Q _ => ∃ (a : Addr) (cs : List Int) (n : Int), vs = [.ref a, .int n] ∧ SqL K H a (cs.map V.int) ∧ cs.length ≤ 12 ∧ ∀ H', Same H H' → Q (.bl (verdictFits cs n)) H'
/-- a list of lists of ints -/
def RowsAt (K : PySem.W.Frag) (H : Hp) (b : Addr) (vs : List (List Int)) : Prop := ∃ ps : List Addr, SqL K H b (ps.map V.ref) ∧ Paired (fun p x => SqL K H p (x.map V.int)) ps vs
theorem RowsAt.keeps {K : PySem.W.Frag} {H H' : Hp} {b : Addr} {vs : List (List Int)} (r : RowsAt K H b vs) (s : Same H H') : RowsAt K H' b vs := let ⟨ps, h, p⟩ := r; ⟨ps, s.seq h, Paired.mapP p fun _ _ z => s.seq z⟩
def spWellFormed (K : PySem.W.Frag) : Sp := fun us H Q _ => ∃ (a b : Addr) (ks : List Int) (vs : List (List Int)) (d : Int), us = [.ref a, .ref b, .int d] ∧ SqL K H a (ks.map V.int) ∧ ks.length ≤ 12 ∧ RowsAt K H b vs ∧ vs.length ≤ 6 ∧ (∀ c ∈ vs, c.length ≤ 12) ∧
  ∀ H', Same H H' → Q (.bl (wellFormed ks vs d)) H'
theorem Paired.at_ {α β : Type} {F : α → β → Prop} : ∀ {l : List α} {m : List β} {i : Nat} {b : β}, Paired F l m → m[i]? = some b → ∃ a, l[i]? = some a ∧ F a b
  | _, _, _, _, .nil, h => by simp at h
  | _, _, 0, _, .cons r _, h => by
    have := Option.some.inj h
    subst this
    exact ⟨_, rfl, r⟩
  | _, _, i + 1, b, .cons _ t, h => by
    obtain ⟨a, h1, h2⟩ := Paired.at_ (i := i) (b := b) t h
    exact ⟨a, h1, h2⟩
theorem Paired.at' {α β : Type} {F : α → β → Prop} : ∀ {l : List α} {m : List β} {i : Nat} {a : α}, Paired F l m → l[i]? = some a → ∃ b, m[i]? = some b ∧ F a b
  | _, _, _, _, .nil, h => by simp at h
  | _, _, 0, _, .cons r _, h => by
    have := Option.some.inj h
    subst this
    exact ⟨_, rfl, r⟩
  | _, _, i + 1, b, .cons _ t, h => by
    obtain ⟨a, h1, h2⟩ := Paired.at' (i := i) (a := b) t h
    exact ⟨a, h1, h2⟩
section
variable {P : Program} {w : World} {K : PySem.W.Frag} {mg : Str → Option Value} {base : Heap}
theorem scVF : FnScope ["costs", "kind_count", "cost"] ["costs", "kind_count"] (defScope sVerdictFits) := ⟨rfl, rfl, rfl, by decide +kernel, rfl, by decide +kernel, by decide +kernel⟩
theorem ok_verdictFits {f : Addr} {fd : FuncData} (F : Fun K "verdict_fits" "verdict_fits" sVerdictFits f fd) (T : FitTxt mg) : FnOk P w K mg base CX0 1 f fd ["costs", "kind_count"] (spVerdictFits K) := by
  refine F.ok scVF (fun vs H Q E h => ?_) (fun cdv A outer s H vs Q E hr h => ?_)
  · obtain ⟨a, ks, d, rfl, _⟩ := h
    rfl
  · obtain ⟨a, cs, n, rfl, hs, hl, q⟩ := h
    refine ⟨_, pss_one (ps_ret (pe_and (pe_cmpR op_eq (pe_callB call_len_seq (by rfl) T.len PySem.boot_len (pa_cons (pv 0) pa_nil)) (pv 1) (nomark _)) (pe_one (pe_callB (cr_all rfl) (by rfl) T.all (by decide +kernel) (pa_cons
        (pe_lc (own := [("cost", 2)]) (g := gName 2) (tt := tYes) rfl scVF.nd (pi_list (pv 0)) (blkOk_by (own := [("cost", 2)]) (N := ["costs", "kind_count", "cost"]) (sc := defScope sVerdictFits) (by decide +kernel))
          (fun _ _ _ _ _ => pg_name (i := 2) scVF.nd rfl (Or.inl rfl)) (fun _ _ _ _ _ => pts_nil) (fun _ _ _ _ _ => pe_chain op_le op_le pe_int (pv 2) (pe_gi T.gC))) pa_nil))))), ?_⟩
    have e1 : (cs.map V.int).length = cs.length := List.length_map _
    refine ⟨_, rfl, a, _, rfl, .inl hs, _, rfl, rfl, _, rfl, ?_⟩
    rw [dV, e1]
    refine itec (fun c1 => ?_) (fun c1 => ?_)
    · refine ⟨_, rfl, a, rfl, ⟨_, hs⟩, fun D hD => ?_⟩
      refine lc_list (K := K) (a := a) (xs := cs.map V.int) (LcInv _ D (cs.map fun x => V.bl (decide (0 ≤ x) && decide (x ≤ 1000)))) (LcInv.start hD) (fun i H' _ I => I.1.seq hs) ?_ ?_
      · rintro i y H' hi I
        obtain ⟨x, hx, rfl⟩ := get_int hi
        have hil : i < 1000 := by
          have := (List.getElem?_eq_some_iff.mp hx).1
          omega
        refine ⟨rfl, yesT ?_⟩
        refine iteT ?_
        refine ⟨_, rfl, _, _, rfl, rfl, _, rfl, ?_⟩
        refine itec (fun c1 => ?_) (fun c1 => ?_)
        · refine ⟨_, _, rfl, rfl, I.fin hD Same.refl ?_ hil⟩
          rw [List.getElem?_map, hx, Option.map_some, c1, Bool.true_and]
        · refine I.fin hD Same.refl ?_ hil
          rw [List.getElem?_map, hx, Option.map_some, c1, Bool.false_and]
      · rintro H2 ⟨S2, hD2⟩
        have hD2 : H2 D = some (.lst ((cs.map fun x => decide (0 ≤ x) && decide (x ≤ 1000)).map V.bl)) := by
          rw [hD2, List.map_map, List.take_of_length_le (by simp)]
          rfl
        refine ⟨D, _, rfl, SqL.of hD2, ?_⟩
        have e : verdictFits cs n = (cs.map fun x => decide (0 ≤ x) && decide (x ≤ 1000)).all id := by
          unfold verdictFits
          rw [c1, Bool.true_and, List.all_map]
          rfl
        rw [e] at q
        exact q _ S2
    · have e : verdictFits cs n = false := by
        unfold verdictFits
        rw [c1, Bool.false_and]
      rw [e] at q
      exact q _ Same.refl
theorem scWF : FnScope ["kinds", "verdicts", "whole", "costs"] ["kinds", "verdicts", "whole"] (defScope sWellFormed) := ⟨rfl, rfl, rfl, by decide +kernel, rfl, by decide +kernel, by decide +kernel⟩
theorem ok_wellFormed {f f1 f2 : Addr} {fd fd1 fd2 : FuncData} (F : Fun K "is_well_formed" "is_well_formed" sWellFormed f fd) (T : FitTxt mg) (F1 : Fun K "kinds_fit" "kinds_fit" sKindsFit f1 fd1) (b1 : Binds K fd1 ["kinds", "whole"] []) (g1 : mg "kinds_fit" = some (.ref f1))
    (F2 : Fun K "verdict_fits" "verdict_fits" sVerdictFits f2 fd2) (b2 : Binds K fd2 ["costs", "kind_count"] []) (g2 : mg "verdict_fits" = some (.ref f2)) : FnOk P w K mg base CX0 2 f fd ["kinds", "verdicts", "whole"] (spWellFormed K) := by
  have G1 : FnOk P w K mg base CX0 1 f1 fd1 ["kinds", "whole"] (spKindsFit K) := ok_kindsFit F1 T
  have G2 : FnOk P w K mg base CX0 1 f2 fd2 ["costs", "kind_count"] (spVerdictFits K) := ok_verdictFits F2 T
  refine F.ok scWF (fun vs H Q E h => ?_) (fun cdv A outer s H vs Q E hr h => ?_)
  · obtain ⟨a, b, ks, vs, d, rfl, _⟩ := h
    rfl
  · obtain ⟨a, b, ks, vs, d, rfl, hs, hl, R, hv, hc, q⟩ := h
    refine ⟨_, pss_cons (ps_if (PW.pt (pw_or (pt_not (pt_val (pe_call G1 hr rfl g1 F1.kp b1 .nil pass0 (pa_cons (pv 0) (pa_cons (pv 2) pa_nil)))))
        (pw_or1 (pt_not (pt_chain op_le op_le pe_int (pe_callB call_len_seq (by rfl) T.len PySem.boot_len (pa_cons (pv 1) pa_nil)) (pe_gi T.gV)))))) (pss_one (ps_ret pe_bl)) pss_nil)
      (pss_one (ps_ret (pe_callB (cr_all rfl) (by rfl) T.all (by decide +kernel) (pa_cons
        (pe_lc (own := [("costs", 3)]) (g := gName 3) (tt := tYes) rfl scWF.nd (pi_list (pv 1)) (blkOk_by (own := [("costs", 3)]) (N := ["kinds", "verdicts", "whole", "costs"]) (sc := defScope sWellFormed) (by decide +kernel))
          (fun _ _ _ _ _ => pg_name (i := 3) scWF.nd rfl (Or.inl rfl)) (fun _ _ _ _ _ => pts_nil)
          (fun _ _ _ _ _ => pe_call G2 hr rfl g2 F2.kp b2 .nil pass0 (pa_cons (pv 3) (pa_cons (pe_op op_fdiv (pe_callB (len_seqK K rfl) (by rfl) T.len PySem.boot_len (pa_cons (pv 0) pa_nil)) pe_int) pa_nil)))) pa_nil)))), ?_⟩
    obtain ⟨ps, hps, rows⟩ := id R
    have e1 : (ks.map V.int).length = ks.length := List.length_map _
    have e2 : (ps.map V.ref).length = vs.length := by rw [List.length_map]; exact Paired.length rows
    refine ⟨_, rfl, _, rfl, a, ks, d, rfl, hs, hl, fun H1 S1 => ⟨_, rfl, ?_⟩⟩
    refine itec (fun h1 => ?_) (fun h1 => ?_)
    · refine iteT ?_
      have e : wellFormed ks vs d = false := by
        unfold wellFormed
        cases z : kindsFit ks d with
        | false => rfl
        | true => rw [z] at h1; cases h1
      rw [e] at q
      exact q _ S1
    · have k1 : kindsFit ks d = true := by
        cases z : kindsFit ks d with
        | true => rfl
        | false => rw [z] at h1; cases h1
      have R1 := R.keeps S1
      refine ⟨_, rfl, b, _, rfl, .inl (S1.seq hps), _, _, rfl, rfl, _, rfl, ?_⟩
      have bad : ¬ (1 ≤ vs.length ∧ vs.length ≤ 4) → wellFormed ks vs d = false := fun z => by
        unfold wellFormed
        rw [decide_eq_false z, Bool.false_and, Bool.and_false]
      refine itec (fun h2 => ?_) (fun h2 => ?_)
      · have g2 := of_decide_eq_true h2
        rw [e2] at g2
        refine ⟨_, _, rfl, rfl, _, rfl, ?_⟩
        refine itec (fun h3 => ?_) (fun h3 => ?_)
        · have g3 := notd h3
          rw [e2] at g3
          rw [bad (by omega)] at q
          exact q _ S1
        · have g3 := yesd h3
          rw [e2] at g3
          have good : wellFormed ks vs d = (vs.map fun c => verdictFits c ((ks.length : Int) / 2)).all id := by
            unfold wellFormed
            rw [k1, decide_eq_true (by omega), Bool.true_and, Bool.true_and, List.all_map]
            rfl
          rw [good] at q
          refine ⟨_, rfl, b, rfl, ⟨_, S1.seq hps⟩, fun D hD => ?_⟩
          refine lc_list (K := K) (a := b) (xs := ps.map V.ref) (LcInv _ D (vs.map fun c => V.bl (verdictFits c ((ks.length : Int) / 2)))) (LcInv.start hD) (fun i H' _ I => I.1.seq (S1.seq hps)) ?_ ?_
          · rintro i y H' hi I
            obtain ⟨p, hp, rfl⟩ := get_ref hi
            obtain ⟨c, hc', hrow⟩ := Paired.at' rows hp
            have hil : i < 1000 := by
              have := (List.getElem?_eq_some_iff.mp hc').1
              omega
            have S2 : Same H H' := Same.step S1 I.1
            refine ⟨rfl, yesT ?_⟩
            refine iteT ?_
            refine ⟨_, rfl, _, rfl, a, _, rfl, .inl (S2.seq hs), _, _, rfl, rfl, ⟨by decide, by decide⟩, p, c, _, rfl, S2.seq hrow, hc c (List.mem_of_getElem? hc'), fun H3 S3 => ?_⟩
            refine I.fin hD S3 ?_ hil
            rw [List.getElem?_map, hc', Option.map_some, e1]
          · rintro H2 ⟨S2, hD2⟩
            have hD2 : H2 D = some (.lst ((vs.map fun c => verdictFits c ((ks.length : Int) / 2)).map V.bl)) := by
              rw [hD2, e2, List.map_map, List.take_of_length_le (by simp)]
              rfl
            exact ⟨D, _, rfl, SqL.of hD2, q _ (Same.step S1 S2)⟩
      · refine ⟨_, rfl, ?_⟩
        refine iteT ?_
        have g2 := of_decide_eq_false h2
        rw [e2] at g2
        rw [bad (by omega)] at q
        exact q _ S1
end
end Ta
end
section
set_option Elab.async false
set_option maxRecDepth 100000
set_option maxHeartbeats 2000000
set_option linter.all false
/-! Suspect -/
namespace Ta
open PySem PySem.Spec PyProof.Rows L2 RZ
structure SusTxt (K : PySem.W.Frag) (mg : Str → Option Value) (C : Addr) : Prop where
  cl : Cls K C
  nW : NoAttr K C "weights"
  nF : NoAttr K C "failing"
  nV : NoAttr K C "verdicts"
  nA : NoAttr K C "failures"
  nP : NoAttr K C "passes"
  tup : mg "tuple" = none
  zip : mg "zip" = none
  sum : mg "sum" = none
  min : mg "min" = none
/-- a suspect's fields; k: how often it has failed and passed -/
def susF (pw pf lv : Addr) (k : Int × Int) : List (Str × V) := [("weights", .ref pw), ("failing", .ref pf), ("verdicts", .ref lv), ("failures", .int k.1), ("passes", .int k.2)]
section
variable (pw pf lv : Addr) (k : Int × Int)
theorem susF_w : (susF pw pf lv k).lookup ("weights" : Str) = some (.ref pw) := lk0
theorem susF_f : (susF pw pf lv k).lookup ("failing" : Str) = some (.ref pf) := (lkp (by decide +kernel)).trans lk0
theorem susF_v : (susF pw pf lv k).lookup ("verdicts" : Str) = some (.ref lv) := (lkp (by decide +kernel)).trans ((lkp (by decide +kernel)).trans lk0)
theorem susF_a : (susF pw pf lv k).lookup ("failures" : Str) = some (.int k.1) := (lkp (by decide +kernel)).trans ((lkp (by decide +kernel)).trans ((lkp (by decide +kernel)).trans lk0))
theorem susF_p : (susF pw pf lv k).lookup ("passes" : Str) = some (.int k.2) := (lkp (by decide +kernel)).trans ((lkp (by decide +kernel)).trans ((lkp (by decide +kernel)).trans ((lkp (by decide +kernel)).trans lk0)))
theorem susF_no {m : Str} (h : ((m == "weights") || (m == "failing") || (m == "verdicts") || (m == "failures") || (m == "passes")) = false) : (susF pw pf lv k).lookup m = none := by
  simp only [Bool.or_eq_false_iff] at h
  obtain ⟨⟨⟨⟨h1, h2⟩, h3⟩, h4⟩, h5⟩ := h
  exact (lkp h1).trans ((lkp h2).trans ((lkp h3).trans ((lkp h4).trans ((lkp h5).trans rfl))))
theorem susF_put (pw' : Addr) : putF "weights" (.ref pw') (susF pw pf lv k) = susF pw' pf lv k := pt0
theorem susF_putA (n : Int) : putF "failures" (.int n) (susF pw pf lv k) = susF pw pf lv (n, k.2) := (ptp (by decide +kernel)).trans (congrArg _ ((ptp (by decide +kernel)).trans (congrArg _ ((ptp (by decide +kernel)).trans (congrArg _ pt0)))))
theorem susF_putP (n : Int) : putF "passes" (.int n) (susF pw pf lv k) = susF pw pf lv (k.1, n) := (ptp (by decide +kernel)).trans (congrArg _ ((ptp (by decide +kernel)).trans (congrArg _ ((ptp (by decide +kernel)).trans (congrArg _ ((ptp (by decide +kernel)).trans (congrArg _ pt0)))))))
theorem susF_new : putF "passes" (.int 0) (putF "failures" (.int 0) (putF "verdicts" (.ref lv) (putF "failing" (.ref pf) (putF "weights" (.ref pw) [])))) = susF pw pf lv (0, 0) := by
  have e1 : putF "failing" (.ref pf) (putF "weights" (.ref pw) []) = ([("weights", V.ref pw), ("failing", V.ref pf)] : List (Str × V)) := (ptp (by decide +kernel)).trans rfl
  have e2 : putF "verdicts" (.ref lv) ([("weights", V.ref pw), ("failing", V.ref pf)] : List (Str × V)) = ([("weights", V.ref pw), ("failing", V.ref pf), ("verdicts", V.ref lv)] : List (Str × V)) :=
    (ptp (by decide +kernel)).trans (congrArg _ ((ptp (by decide +kernel)).trans rfl))
  have e3 : putF "failures" (.int 0) ([("weights", V.ref pw), ("failing", V.ref pf), ("verdicts", V.ref lv)] : List (Str × V)) = ([("weights", V.ref pw), ("failing", V.ref pf), ("verdicts", V.ref lv), ("failures", V.int 0)] : List (Str × V)) :=
    (ptp (by decide +kernel)).trans (congrArg _ ((ptp (by decide +kernel)).trans (congrArg _ ((ptp (by decide +kernel)).trans rfl))))
  rw [e1, e2, e3]
  exact (ptp (by decide +kernel)).trans (congrArg _ ((ptp (by decide +kernel)).trans (congrArg _ ((ptp (by decide +kernel)).trans (congrArg _ ((ptp (by decide +kernel)).trans rfl))))))
end
/-- tuples of ints in a list -/
def TupsAt (H : Hp) (lv : Addr) (vd : List (List Int)) : Prop := ∃ ps : List Addr, H lv = some (.lst (ps.map V.ref)) ∧ Paired (fun p r => H p = some (.tup (r.map V.int))) ps vd
/-- a suspect: its data, where its weights are -/
def SusO (C : Addr) (H : Hp) (a pw : Addr) (D : Dat) : Prop := ∃ dx pf lv k, H a = some (.ins C dx (susF pw pf lv k)) ∧ H pf = some (.tup (D.fl.map V.int)) ∧ TupsAt H lv D.vd
def SusAt (C : Addr) (H : Hp) (a : Addr) (w : List Int) (D : Dat) : Prop := ∃ pw, SusO C H a pw D ∧ H pw = some (.tup (w.map V.int))
theorem TupsAt.keeps {H H' : Hp} {l : Addr} {vd : List (List Int)} (x : TupsAt H l vd) (s : Same H H') : TupsAt H' l vd := let ⟨ps, h, r⟩ := x; ⟨ps, s _ _ h, Paired.mapP r fun _ _ z => s _ _ z⟩
theorem SusO.keeps {C : Addr} {H H' : Hp} {a pw : Addr} {D : Dat} (x : SusO C H a pw D) (s : Same H H') : SusO C H' a pw D := let ⟨dx, pf, lv, k, h1, h2, h3⟩ := x; ⟨dx, pf, lv, k, s _ _ h1, s _ _ h2, h3.keeps s⟩
theorem SusAt.keeps {C : Addr} {H H' : Hp} {a : Addr} {w : List Int} {D : Dat} (x : SusAt C H a w D) (s : Same H H') : SusAt C H' a w D := let ⟨pw, h1, h2⟩ := x; ⟨pw, h1.keeps s, s _ _ h2⟩
/-- small enough to be multiplied -/
def Small (l : List Int) : Prop := ∀ x ∈ l, 0 ≤ x ∧ x ≤ 16000000
def spWAfter (K : PySem.W.Frag) (C : Addr) : Sp := fun vs H Q _ => ∃ (a pw t : Addr) (D : Dat) (w : List Int) (p : Bool) (d : Int), vs = [.ref a, .ref t, .bl p, .int d] ∧ SusO C H a pw D ∧ H t = some (.tup (w.map V.int)) ∧ D.fl.length = w.length ∧ w.length ≤ 4 ∧ Small w ∧
  ∀ H' r, Same H H' → H r = none → H' r = some (.tup ((wAfter D.fl w p d).map V.int)) → Q (.ref r) H'
theorem zip_get {α β γ : Type} {f : α × β → γ} {l : List α} {m : List β} {i : Nat} {x : α} {y : β} (h1 : l[i]? = some x) (h2 : m[i]? = some y) : ((l.zip m).map f)[i]? = some (f (x, y)) := by
  rw [List.getElem?_map, List.getElem?_zip_eq_some (z := (x, y)) |>.mpr ⟨h1, h2⟩]
  rfl
section
variable {P : Program} {w : World} {K : PySem.W.Frag} {mg : Str → Option Value} {base : Heap}
abbrev nWA : List Str := ["self", "weights", "passed", "whole", "weight", "failing"]
theorem scWA : FnScope nWA ["self", "weights", "passed", "whole"] (defScope sWAfter) := ⟨rfl, rfl, rfl, by decide +kernel, rfl, by decide +kernel, by decide +kernel⟩
abbrev gPair (K : PySem.W.Frag) (i j : Nat) : TG := gTup K 2 (gCons (gName i) (gCons (gName j) gNil))
theorem ok_wAfter {f C : Addr} {fd : FuncData} (F : Fun K "weights_after" "Suspect.weights_after" sWAfter f fd) (T : SusTxt K mg C) : FnOk P w K mg base CX0 1 f fd ["self", "weights", "passed", "whole"] (spWAfter K C) := by
  refine F.ok scWA (fun vs H Q E h => ?_) (fun cdv A outer s H vs Q E hr h => ?_)
  · obtain ⟨a, pw, t, D, u, p, d, rfl, _⟩ := h
    rfl
  · obtain ⟨a, pw, t, D, u, p, d, rfl, ⟨dx, pf, lv, kc, ha, hf, _⟩, ht, hlen, h4, sm, q⟩ := h
    refine ⟨_, pss_cons (ps_if (pt_val (pv 2)) (pss_one (ps_ret (pe_callTy (call_tupK K rfl) (by rfl) T.tup (by decide +kernel) (pa_cons
        (pe_lc (own := [("weight", 4), ("failing", 5)]) (g := gPair K 4 5) (tt := tYes) rfl scWA.nd (pi_zipA (by rfl) T.zip (pa_cons (pv 1) (pa_cons (pe_fld (pv 0) rfl) pa_nil))) (blkOk_by (own := [("weight", 4), ("failing", 5)]) (N := nWA) (sc := defScope sWAfter) (by decide +kernel))
          (fun _ _ _ _ _ => pg_tup rfl (pgs_cons (pg_name (i := 4) scWA.nd rfl (Or.inl rfl)) (pgs_cons (pg_name (i := 5) scWA.nd rfl (Or.inl rfl)) pgs_nil))) (fun _ _ _ _ _ => pts_nil)
          (fun _ _ _ _ _ => pe_op op_mul (pv 4) (pe_op op_sub (pv 3) (pv 5)))) pa_nil)))) pss_nil)
      (pss_one (ps_ret (pe_callTy (call_tupK K rfl) (by rfl) T.tup (by decide +kernel) (pa_cons
        (pe_lc (own := [("weight", 4), ("failing", 5)]) (g := gPair K 4 5) (tt := tYes) rfl scWA.nd (pi_zipA (by rfl) T.zip (pa_cons (pv 1) (pa_cons (pe_fld (pv 0) rfl) pa_nil))) (blkOk_by (own := [("weight", 4), ("failing", 5)]) (N := nWA) (sc := defScope sWAfter) (by decide +kernel))
          (fun _ _ _ _ _ => pg_tup rfl (pgs_cons (pg_name (i := 4) scWA.nd rfl (Or.inl rfl)) (pgs_cons (pg_name (i := 5) scWA.nd rfl (Or.inl rfl)) pgs_nil))) (fun _ _ _ _ _ => pts_nil)
          (fun _ _ _ _ _ => pe_op op_mul (pv 4) (pv 5))) pa_nil)))), ?_⟩
    refine ⟨_, rfl, _, rfl, ?_⟩
    refine itec (fun hp => ?_) (fun hp => ?_)
    · refine ⟨_, rfl, _, rfl, a, C, dx, _, _, rfl, ha, T.cl, T.nF, susF_f _ _ _ _, t, pf, _, _, rfl, .inr ⟨SqT.of ht, SqT.of hf, fun L hL => ?_⟩⟩
      refine lc_it (walk_zipT rfl) (LcInv _ L ((wAfter D.fl u true d).map V.int)) (LcInv.start hL) (fun i H' _ I => ⟨Same.seqT I.1 (SqT.of ht), Same.seqT I.1 (SqT.of hf)⟩) ?_ ?_
      · rintro i v H' H2 hi I ⟨T', x0, y0, rfl, hT', rfl, hx0, hy0⟩
        obtain ⟨x, hx, rfl⟩ := get_int hx0
        obtain ⟨y, hy, rfl⟩ := get_int hy0
        refine ⟨T', _, rfl, SqT.of upd_same, rfl, _, _, rfl, _, _, rfl, rfl, rfl, yesT ?_⟩
        refine iteT ?_
        have sx := sm x (List.mem_of_getElem? hx)
        refine ⟨_, rfl, _, rfl, _, rfl, _, _, rfl, rfl, _, _, rfl, rfl, .inl ⟨by omega, by omega⟩, I.fin hL (Same.new hT') ?_ ?_⟩
        · rw [wAfter, if_pos rfl, List.getElem?_map, zip_get hx hy]
          rfl
        · have := (List.getElem?_eq_some_iff.mp hx).1
          omega
      · rintro H2 ⟨S2, hD2⟩
        rw [List.take_of_length_le (by rw [List.length_map, wAfter_length hlen, List.length_map, List.length_map]; omega)] at hD2
        rw [hp] at q
        exact ⟨L, _, rfl, .inl ⟨SqL.of hD2, fun r hr => q _ r (Same.step S2 (Same.new hr)) (S2.free hr) upd_same⟩⟩
    · refine ⟨_, rfl, _, rfl, a, C, dx, _, _, rfl, ha, T.cl, T.nF, susF_f _ _ _ _, t, pf, _, _, rfl, .inr ⟨SqT.of ht, SqT.of hf, fun L hL => ?_⟩⟩
      refine lc_it (walk_zipT rfl) (LcInv _ L ((wAfter D.fl u false d).map V.int)) (LcInv.start hL) (fun i H' _ I => ⟨Same.seqT I.1 (SqT.of ht), Same.seqT I.1 (SqT.of hf)⟩) ?_ ?_
      · rintro i v H' H2 hi I ⟨T', x0, y0, rfl, hT', rfl, hx0, hy0⟩
        obtain ⟨x, hx, rfl⟩ := get_int hx0
        obtain ⟨y, hy, rfl⟩ := get_int hy0
        refine ⟨T', _, rfl, SqT.of upd_same, rfl, _, _, rfl, _, _, rfl, rfl, rfl, yesT ?_⟩
        refine iteT ?_
        have sx := sm x (List.mem_of_getElem? hx)
        refine ⟨_, rfl, _, rfl, _, _, rfl, rfl, .inl ⟨by omega, by omega⟩, I.fin hL (Same.new hT') ?_ ?_⟩
        · rw [wAfter, if_neg (by decide), List.getElem?_map, zip_get hx hy]
          rfl
        · have := (List.getElem?_eq_some_iff.mp hx).1
          omega
      · rintro H2 ⟨S2, hD2⟩
        rw [List.take_of_length_le (by rw [List.length_map, wAfter_length hlen, List.length_map, List.length_map]; omega)] at hD2
        rw [hp] at q
        exact ⟨L, _, rfl, .inl ⟨SqL.of hD2, fun r hr => q _ r (Same.step S2 (Same.new hr)) (S2.free hr) upd_same⟩⟩
end
/-- a block whose names are all its own or the module's: it hangs on no scope around it -/
theorem blkOk0 {N : List Str} {sc scope : Scope} {own : List (Str × Nat)} (k : scope.kind = .function) (u : ∀ y ∈ scope.names, scope.names.lookup y.1 = some y.2) (i : ∀ p ∈ own, N[p.2]? = some p.1) (f : ∀ y ∈ scope.names, y.2 ≠ .free)
    (o : ∀ y ∈ scope.names, y.1 ∈ own.map (·.1) ∨ y.1 ∉ N) : BlkOk N sc scope own := ⟨k, u, i, fun y hy e => absurd e (f y hy), fun y hy _ => o y hy⟩
theorem pi_zipK {X : Cx} (K : PySem.W.Frag) (h : X.K = K) {e e2 : Expr} {ta : TA} {p pos tpos : Pos} {elts : List Expr} {kk : Nat} (hg : Gl X "zip") (hm : X.mg "zip" = none) (ha : PA X [e, e2] ta)
    (hs : starEach [e, e2] X.env = (false, eval e X.env) :: starEach [e2] X.env := by rfl) (hpl : (backTo pos (starEach [e2] X.env)).any (·.1) = false := by rfl) :
    PI X (.Tuple elts kk tpos) (.Call (.Name "zip" p) [e, e2] [] pos) (iZipA K ta) := by
  subst h
  exact pi_zipA hg hm ha hs hpl
def spVCosts (K : PySem.W.Frag) (C : Addr) : Sp := fun vs H Q _ => ∃ (a pw t : Addr) (D : Dat) (w : List Int), vs = [.ref a, .ref t] ∧ SusO C H a pw D ∧ H t = some (.tup (w.map V.int)) ∧ D.vd.length ≤ 4 ∧ w.length ≤ 4 ∧ Small w ∧
  ∀ H' r, Same H H' → H r = none → H' r = some (.lst ((vCosts D.vd w).map V.int)) → Q (.ref r) H'
section
variable {P : Program} {w : World} {K : PySem.W.Frag} {mg : Str → Option Value} {base : Heap}
abbrev nVC : List Str := ["self", "weights", "costs", "weight", "cost"]
theorem scVC : FnScope nVC ["self", "weights"] (defScope sVCosts) := ⟨rfl, rfl, rfl, by decide +kernel, rfl, by decide +kernel, by decide +kernel⟩
theorem ok_vCosts {f C : Addr} {fd : FuncData} (F : Fun K "verdict_costs" "Suspect.verdict_costs" sVCosts f fd) (T : SusTxt K mg C) : FnOk P w K mg base CX0 1 f fd ["self", "weights"] (spVCosts K C) := by
  refine F.ok scVC (fun vs H Q E h => ?_) (fun cdv A outer s H vs Q E hr h => ?_)
  · obtain ⟨a, pw, t, D, u, rfl, _⟩ := h
    rfl
  · obtain ⟨a, pw, t, D, u, rfl, ⟨dx, pf, lv, kc, ha, hf, ps, hlv, hps⟩, ht, h4v, h4, sm, q⟩ := h
    refine ⟨_, pss_one (ps_ret (pe_lc (own := [("costs", 2)]) (g := gName 2) (tt := tYes) rfl scVC.nd (pi_list (pe_fld (pv 0) rfl)) (blkOk_by (own := [("costs", 2)]) (N := nVC) (sc := defScope sVCosts) (by decide +kernel))
        (fun _ _ _ _ _ => pg_name (i := 2) scVC.nd rfl (Or.inl rfl)) (fun _ _ _ _ _ => pts_nil)
        (fun _ _ _ _ _ => pe_callB (cr_sumK K rfl rfl) (by rfl) T.sum (by decide +kernel) (pa_cons
          (pe_lc (own := [("weight", 3), ("cost", 4)]) (g := gPair K 3 4) (tt := tYes) rfl scVC.nd (pi_zipK K rfl (by rfl) T.zip (pa_cons (pv 1) (pa_cons (pv 2) pa_nil))) (blkOk0 (own := [("weight", 3), ("cost", 4)]) (N := nVC) rfl (by decide +kernel) (by decide +kernel) (by decide +kernel) (by decide +kernel))
            (fun _ _ _ _ _ => pg_tup rfl (pgs_cons (pg_name (i := 3) scVC.nd rfl (Or.inl rfl)) (pgs_cons (pg_name (i := 4) scVC.nd rfl (Or.inl rfl)) pgs_nil))) (fun _ _ _ _ _ => pts_nil)
            (fun _ _ _ _ _ => pe_op op_mul (pv 3) (pv 4))) pa_nil)))), ?_⟩
    have e2 : (ps.map V.ref).length = D.vd.length := by rw [List.length_map]; exact Paired.length hps
    refine ⟨_, rfl, a, C, dx, _, _, rfl, ha, T.cl, T.nV, susF_v _ _ _ _, lv, rfl, ⟨_, SqL.of hlv⟩, fun L hL => ?_⟩
    refine lc_list (K := K) (a := lv) (xs := ps.map V.ref) (LcInv _ L ((vCosts D.vd u).map V.int)) (LcInv.start hL) (fun i H' _ I => I.1.seq (SqL.of hlv)) ?_ ?_
    · rintro i y H' hi I
      obtain ⟨p, hp, rfl⟩ := get_ref hi
      obtain ⟨c, hc, hrow⟩ := Paired.at' hps hp
      have hil : i < 1000 := by
        have := (List.getElem?_eq_some_iff.mp hc).1
        omega
      refine ⟨rfl, yesT ?_⟩
      refine iteT ?_
      have ht2 := I.1 _ _ ht
      have hp2 := I.1 _ _ hrow
      refine ⟨_, rfl, _, rfl, t, p, _, _, rfl, .inr ⟨SqT.of ht2, SqT.of hp2, fun M hM => ?_⟩⟩
      refine lc_it (walk_zipT rfl) (LcInv _ M (((u.zip c).map fun z => z.1 * z.2).map V.int)) (LcInv.start hM) (fun i H' _ J => ⟨Same.seqT J.1 (SqT.of ht2), Same.seqT J.1 (SqT.of hp2)⟩) ?_ ?_
      · rintro j v H3 H4 hj J ⟨T', x0, y0, rfl, hT', rfl, hx0, hy0⟩
        obtain ⟨x, hx, rfl⟩ := get_int hx0
        obtain ⟨y, hy, rfl⟩ := get_int hy0
        refine ⟨T', _, rfl, SqT.of upd_same, rfl, _, _, rfl, _, _, rfl, rfl, rfl, yesT ?_⟩
        refine iteT ?_
        have sx := sm x (List.mem_of_getElem? hx)
        refine ⟨_, rfl, _, rfl, _, _, rfl, rfl, .inl ⟨by omega, by omega⟩, J.fin hM (Same.new hT') ?_ ?_⟩
        · rw [List.getElem?_map, zip_get hx hy]
          rfl
        · have := (List.getElem?_eq_some_iff.mp hx).1
          omega
      · rintro H3 ⟨S3, hM3⟩
        rw [List.take_of_length_le (by simp)] at hM3
        refine ⟨M, _, rfl, SqL.of hM3, I.fin hL S3 ?_ hil⟩
        rw [List.getElem?_map, vCosts, List.getElem?_map, hc]
        rfl
    · rintro H2 ⟨S2, hD2⟩
      rw [List.take_of_length_le (by rw [e2, List.length_map, vCosts, List.length_map]; exact Nat.le_refl _)] at hD2
      exact q _ L S2 hL hD2
abbrev nBV : List Str := ["self", "weights", "costs"]
theorem scBV : FnScope nBV ["self", "weights"] (defScope sBestV) := ⟨rfl, rfl, rfl, by decide +kernel, rfl, by decide +kernel, by decide +kernel⟩
/-- the first of the least ones -/
def FirstMin (l : List Int) (j : Nat) : Prop := ∃ m, IsMin m l ∧ l[j]? = some m ∧ ∀ i, i < j → l[i]? ≠ some m
def spBestV (K : PySem.W.Frag) (C : Addr) : Sp := fun vs H Q _ => ∃ (a pw t : Addr) (D : Dat) (w : List Int), vs = [.ref a, .ref t] ∧ SusO C H a pw D ∧ H t = some (.tup (w.map V.int)) ∧ D.vd ≠ [] ∧ D.vd.length ≤ 4 ∧ w.length ≤ 4 ∧ Small w ∧
  ∀ H' j, Same H H' → FirstMin (vCosts D.vd w) j → Q (.int (j : Nat)) H'
theorem first_min : ∀ {l : List Int}, l ≠ [] → ∃ j, FirstMin l j := by
  intro l h
  have I := imin_is h
  obtain ⟨j, hj⟩ := List.mem_iff_getElem?.mp I.1
  suffices ∀ n j, j < n → l[j]? = some (imin l) → ∃ j, FirstMin l j from this (j + 1) j (by omega) hj
  intro n
  induction n with
  | zero => intro j hj; omega
  | succ n ih =>
    intro j hj e
    by_cases c : ∃ i, i < j ∧ l[i]? = some (imin l)
    · obtain ⟨i, hi, e'⟩ := c
      exact ih i (by omega) e'
    · exact ⟨j, imin l, I, e, fun i hi e' => c ⟨i, hi, e'⟩⟩
theorem eqV_int (x y : Int) : eqV (.int x) (.int y) = decide (x = y) := rfl
theorem flat_ints (l : List Int) : (l.map V.int).all flatV = true := by
  rw [List.all_map]
  exact List.all_eq_true.mpr fun _ _ => rfl
theorem first_ints {l : List Int} {m : Int} {j : Nat} (h : ∀ i, i < j → l[i]? ≠ some m) : ∀ (k : Nat) (z : V), k < j → (l.map V.int)[k]? = some z → eqV z (.int m) = false := by
  intro k z hk hz
  obtain ⟨x, hx, rfl⟩ := get_int hz
  rw [eqV_int]
  exact decide_eq_false fun e => h k hk (by rw [hx, e])
theorem ok_bestV {f C f1 : Addr} {fd fd1 : FuncData} (F : Fun K "best_verdict" "Suspect.best_verdict" sBestV f fd) (T : SusTxt K mg C) (F1 : Fun K "verdict_costs" "Suspect.verdict_costs" sVCosts f1 fd1) (b1 : Binds K fd1 ["self", "weights"] []) (m1 : Meth K C "verdict_costs" f1) :
    FnOk P w K mg base CX0 2 f fd ["self", "weights"] (spBestV K C) := by
  have G1 : FnOk P w K mg base CX0 1 f1 fd1 ["self", "weights"] (spVCosts K C) := ok_vCosts F1 T
  refine F.ok scBV (fun vs H Q E h => ?_) (fun cdv A outer s H vs Q E hr h => ?_)
  · obtain ⟨a, pw, t, D, u, rfl, _⟩ := h
    rfl
  · obtain ⟨a, pw, t, D, u, rfl, O, ht, hne, h4v, h4, sm, q⟩ := h
    obtain ⟨dx, pf, lv, kc, ha, hf, hv⟩ := id O
    refine ⟨_, pss_cons (ps_set (i := 2) scBV.nd rfl (Or.inl rfl) (pe_meth (pv 0) T.cl m1 G1 hr b1 .nil pass0 (pa_cons (pv 1) pa_nil)))
      (pss_one (ps_ret (pe_bm PySem.F.plainAttrs_list PySem.F.slot_list_index PySem.F.type_list_index mt_index (pv 2) (pa_cons (pe_callB (cr_min rfl) (by rfl) T.min (by decide +kernel) (pa_cons (pv 2) pa_nil)) pa_nil)))), ?_⟩
    refine ⟨_, rfl, a, dx, _, rfl, ha, susF_no _ _ _ _ (by decide +kernel), _, rfl, a, pw, t, D, u, rfl, O, ht, h4v, h4, sm, fun H1 r S1 hr1 hr1' => ?_⟩
    have hn : vCosts D.vd u ≠ [] := by
      intro z
      exact hne (List.map_eq_nil_iff.mp z)
    refine ⟨_, rfl, .inl ⟨rfl, _, SqL.of hr1'⟩, _, rfl, r, _, rfl, SqL.of hr1', List.length_pos_iff.mpr hn, fun m hm hle => ?_⟩
    obtain ⟨j, m', I, e1, e2⟩ := first_min hn
    cases I.uniq ⟨hm, hle⟩
    refine ⟨r, _, _, j, _, rfl, rfl, SqL.of hr1', rfl, flat_ints _, by rw [List.getElem?_map, e1]; rfl, by rw [eqV_int]; exact decide_eq_true rfl, first_ints e2, q _ j S1 ⟨m, I, e1, e2⟩⟩
abbrev nSI : List Str := ["self", "kinds", "verdicts", "costs"]
theorem scSI : FnScope nSI ["self", "kinds", "verdicts"] (defScope sSusInit) := ⟨rfl, rfl, rfl, by decide +kernel, rfl, by decide +kernel, by decide +kernel⟩
def spSusInit (K : PySem.W.Frag) (C : Addr) : Sp := fun us H Q _ => ∃ (p dx a b : Addr) (ks : List Int) (vs : List (List Int)), us = [.ref p, .ref a, .ref b] ∧ H p = some (.ins C dx []) ∧ SqL K H a (ks.map V.int) ∧ RowsAt K H b vs ∧ vs.length ≤ 6 ∧
  ∀ H' pw pf lv, But p H H' → H' p = some (.ins C dx (susF pw pf lv (0, 0))) → H' pw = some (.tup ((odds ks).map V.int)) → H' pf = some (.tup ((odds (ks.drop 1)).map V.int)) → TupsAt H' lv vs → H lv = none → Q .non H'
theorem RowsAt.but {C dx p : Addr} {fs : List (Str × V)} {H H' : Hp} {b : Addr} {vs : List (List Int)} (r : RowsAt K H b vs) (s : But p H H') (h : H p = some (.ins C dx fs)) : RowsAt K H' b vs := let ⟨ps, h1, p1⟩ := r; ⟨ps, s.seq h h1, Paired.mapP p1 fun _ _ z => s.seq h z⟩
theorem ok_susInit {f C : Addr} {fd : FuncData} (F : Fun K "__init__" "Suspect.__init__" sSusInit f fd) (T : SusTxt K mg C) : FnOk P w K mg base CX0 1 f fd ["self", "kinds", "verdicts"] (spSusInit K C) := by
  refine F.ok scSI (fun vs H Q E h => ?_) (fun cdv A outer s H vs Q E hr h => ?_)
  · obtain ⟨p, dx, a, b, ks, vs, rfl, _⟩ := h
    rfl
  · obtain ⟨p, dx, a, b, ks, vs, rfl, hp, hs, R, hv, q⟩ := h
    refine ⟨_, pss_cons (ps_fld (pv 0) (pe_callTy (call_tupK K rfl) (by rfl) T.tup (by decide +kernel) (pa_cons (pe_odds (i := 0) (pv 1)) pa_nil)) rfl)
      (pss_cons (ps_fld (pv 0) (pe_callTy (call_tupK K rfl) (by rfl) T.tup (by decide +kernel) (pa_cons (pe_odds (i := 1) (pv 1)) pa_nil)) rfl)
      (pss_cons (ps_fld (pv 0) (pe_lc (own := [("costs", 3)]) (g := gName 3) (tt := tYes) rfl scSI.nd (pi_list (pv 2)) (blkOk_by (own := [("costs", 3)]) (N := nSI) (sc := defScope sSusInit) (by decide +kernel))
        (fun _ _ _ _ _ => pg_name (i := 3) scSI.nd rfl (Or.inl rfl)) (fun _ _ _ _ _ => pts_nil) (fun _ _ _ _ _ => pe_callTy (call_tupK K rfl) (by rfl) T.tup (by decide +kernel) (pa_cons (pv 3) pa_nil))) rfl)
      (pss_cons (ps_fld (pv 0) pe_int rfl) (pss_one (ps_fld (pv 0) pe_int rfl))))), ?_⟩
    -- self.weights = tuple(kinds[0::2])
    refine ⟨_, rfl, a, _, rfl, hs, fun p1 hp1 => ⟨p1, _, rfl, .inl ⟨SqL.of upd_same, fun t1 ht1 => ?_⟩⟩⟩
    have n1 : p ≠ p1 := ne_of_none hp hp1
    have n2 : p ≠ t1 := fun e => by rw [← e, upd_ne n1, hp] at ht1; cases ht1
    have hpa : upd (upd H p1 (.lst (odds ((ks.map V.int).drop 0)))) t1 (.tup (odds ((ks.map V.int).drop 0))) p = some (.ins C dx []) := by rw [upd_ne n2, upd_ne n1]; exact hp
    refine ⟨_, rfl, p, C, dx, [], rfl, hpa, T.cl, T.nW, (by show 0 < 1000; decide), ?_⟩
    obtain ⟨H1, eH1⟩ : ∃ H1, H1 = upd (upd (upd H p1 (.lst (odds ((ks.map V.int).drop 0)))) t1 (.tup (odds ((ks.map V.int).drop 0)))) p (.ins C dx (putF "weights" (.ref t1) [])) := ⟨_, rfl⟩
    have B1 : But p H H1 := by rw [eH1]; exact (But.new hp1).trans ((But.new ht1).trans But.upd)
    have hq1 : H1 p = some (.ins C dx (putF "weights" (.ref t1) [])) := by rw [eH1]; exact upd_same
    have hw1 : H1 t1 = some (.tup ((odds ks).map V.int)) := by
      rw [eH1, upd_ne n2.symm, upd_same, List.drop_zero, odds_map]
    rw [← eH1]
    clear eH1 hpa n1 n2 ht1 hp1
    -- self.failing = tuple(kinds[1::2])
    refine ⟨_, rfl, a, _, rfl, B1.seq hp hs, fun p2 hp2 => ⟨p2, _, rfl, .inl ⟨SqL.of upd_same, fun t2 ht2 => ?_⟩⟩⟩
    have n1 : p ≠ p2 := ne_of_none hq1 hp2
    have n2 : p ≠ t2 := fun e => by rw [← e, upd_ne n1, hq1] at ht2; cases ht2
    have hpb : upd (upd H1 p2 (.lst (odds ((ks.map V.int).drop 1)))) t2 (.tup (odds ((ks.map V.int).drop 1))) p = some (.ins C dx (putF "weights" (.ref t1) [])) := by rw [upd_ne n2, upd_ne n1]; exact hq1
    refine ⟨_, rfl, p, C, dx, _, rfl, hpb, T.cl, T.nF, (by show 1 < 1000; decide), ?_⟩
    obtain ⟨H2, eH2⟩ : ∃ H2, H2 = upd (upd (upd H1 p2 (.lst (odds ((ks.map V.int).drop 1)))) t2 (.tup (odds ((ks.map V.int).drop 1)))) p (.ins C dx (putF "failing" (.ref t2) (putF "weights" (.ref t1) []))) := ⟨_, rfl⟩
    have B2 : But p H1 H2 := by rw [eH2]; exact (But.new hp2).trans ((But.new ht2).trans But.upd)
    have hq2 : H2 p = some (.ins C dx (putF "failing" (.ref t2) (putF "weights" (.ref t1) []))) := by rw [eH2]; exact upd_same
    have hw2 : H2 t2 = some (.tup ((odds (ks.drop 1)).map V.int)) := by
      rw [eH2, upd_ne n2.symm, upd_same, ← List.map_drop, odds_map]
    rw [← eH2]
    clear eH2 hpb n1 n2 ht2 hp2
    have hw12 : H2 t1 = some (.tup ((odds ks).map V.int)) := B2 _ _ hw1 fun e => by rw [e, hq1] at hw1; cases hw1
    -- self.verdicts = [tuple(costs) for costs in verdicts]
    obtain ⟨ps, hb, rows⟩ := (R.but B1 hp).but B2 hq1
    have e2 : (ps.map V.ref).length = vs.length := by rw [List.length_map]; exact Paired.length rows
    refine ⟨_, rfl, b, rfl, ⟨_, hb⟩, fun L hL => ?_⟩
    refine lc_list (K := K) (a := b) (xs := ps.map V.ref) (fun i H' => Same H2 H' ∧ ∃ qs : List Addr, H' L = some (.lst (qs.map V.ref)) ∧ qs.length = i ∧ Paired (fun q r => q ≠ L ∧ H' q = some (.tup (r.map V.int))) qs (vs.take i))
      ⟨Same.new hL, [], upd_same, rfl, .nil⟩ (fun i H' _ I => I.1.seq hb) ?_ ?_
    · rintro i y H' hi ⟨S, qs, hL', hlen, hqs⟩
      obtain ⟨c, hc, rfl⟩ := get_ref hi
      obtain ⟨r, hr', hrow⟩ := Paired.at' rows hc
      refine ⟨rfl, yesT ?_⟩
      refine iteT ?_
      refine ⟨_, rfl, c, _, rfl, .inl ⟨S.seq hrow, fun t ht => ?_⟩⟩
      have nLt : L ≠ t := ne_of_none hL' ht
      refine ⟨_, (upd_ne nLt).trans hL', ?_, fun x o e => ?_, qs ++ [t], ?_, ?_, ?_⟩
      · rw [List.length_map, hlen]
        have := (List.getElem?_eq_some_iff.mp hr').1
        exact Nat.lt_of_le_of_lt (show i ≤ 1000 by omega) (by decide)
      · rw [upd_ne (ne_of_none e hL), upd_ne (ne_of_none (S _ _ e) ht)]
        exact S _ _ e
      · rw [upd_same, List.map_append]
        rfl
      · rw [List.length_append, hlen]
        rfl
      · rw [take_more hr']
        refine Paired.snoc (Paired.mapP hqs fun q z h => ⟨h.1, ?_⟩) ⟨nLt.symm, by rw [upd_ne nLt.symm, upd_same]⟩
        rw [upd_ne h.1, upd_ne (ne_of_none h.2 ht)]
        exact h.2
    · rintro H3 ⟨S, qs, hL', hlen, hqs⟩
      rw [e2, List.take_length] at hqs
      have hq3 := S _ _ hq2
      refine ⟨_, rfl, p, C, dx, _, rfl, hq3, T.cl, T.nV, (by show 2 < 1000; decide), ?_⟩
      have hnp : ∀ z o, H3 z = some o → (∀ fs, o ≠ .ins C dx fs) → z ≠ p := fun z o h n e => by
        rw [e, hq3] at h
        exact n _ (Option.some.inj h).symm
      refine ⟨_, rfl, p, C, dx, _, rfl, upd_same, T.cl, T.nA, (by show 3 < 1000; decide), ?_⟩
      refine ⟨_, rfl, p, C, dx, _, rfl, upd_same, T.cl, T.nP, (by show 4 < 1000; decide), ?_⟩
      rw [upd_upd, upd_upd]
      have nLp : L ≠ p := fun e => by rw [e, hq2] at hL; cases hL
      have fL : H L = none := B1.free nLp (B2.free nLp hL)
      refine q _ t1 t2 L (B1.trans (B2.trans (fun z o e n => ?_))) ?_ ?_ ?_ ⟨qs, ?_, ?_⟩ fL
      · rw [upd_ne n]
        exact S _ _ e
      · rw [upd_same, susF_new]
      · rw [upd_ne (hnp _ _ (S _ _ hw12) fun _ z => nomatch z)]
        exact S _ _ hw12
      · rw [upd_ne (hnp _ _ (S _ _ hw2) fun _ z => nomatch z)]
        exact S _ _ hw2
      · rw [upd_ne nLp]
        exact hL'
      · refine Paired.mapP hqs fun q z h => ?_
        rw [upd_ne (hnp _ _ h.2 fun _ z => nomatch z)]
        exact h.2
/-! ### take_result -/
abbrev nTk : List Str := ["self", "passed", "whole"]
theorem scTk : FnScope nTk ["self", "passed", "whole"] (defScope sTake) := ⟨rfl, rfl, rfl, by decide +kernel, rfl, by decide +kernel, by decide +kernel⟩
def bump (p : Bool) (k : Int × Int) : Int × Int := if p = true then (k.1, k.2 + 1) else (k.1 + 1, k.2)
def spTake (K : PySem.W.Frag) (C : Addr) : Sp := fun us H Q _ => ∃ (a dx pw pf lv : Addr) (k : Int × Int) (D : Dat) (w : List Int) (p : Bool) (d : Int), us = [.ref a, .bl p, .int d] ∧ H a = some (.ins C dx (susF pw pf lv k)) ∧ H pf = some (.tup (D.fl.map V.int)) ∧ TupsAt H lv D.vd ∧
  H pw = some (.tup (w.map V.int)) ∧ D.fl.length = w.length ∧ w.length ≤ 4 ∧ Small w ∧
  ∀ H' r, But a H H' → H' r = some (.tup ((wAfter D.fl w p d).map V.int)) → H' a = some (.ins C dx (susF r pf lv (bump p k))) → Q .non H'
theorem ok_take {f C f1 : Addr} {fd fd1 : FuncData} (F : Fun K "take_result" "Suspect.take_result" sTake f fd) (T : SusTxt K mg C) (F1 : Fun K "weights_after" "Suspect.weights_after" sWAfter f1 fd1) (b1 : Binds K fd1 ["self", "weights", "passed", "whole"] []) (m1 : Meth K C "weights_after" f1) :
    FnOk P w K mg base CX0 2 f fd ["self", "passed", "whole"] (spTake K C) := by
  have G1 : FnOk P w K mg base CX0 1 f1 fd1 ["self", "weights", "passed", "whole"] (spWAfter K C) := ok_wAfter F1 T
  refine F.ok scTk (fun vs H Q E h => ?_) (fun cdv A outer s H vs Q E hr h => ?_)
  · obtain ⟨a, dx, pw, pf, lv, k, D, u, p, d, rfl, _⟩ := h
    rfl
  · obtain ⟨a, dx, pw, pf, lv, k, D, u, p, d, rfl, ha, hf, hv, hw, hlen, h4, sm, q⟩ := h
    refine ⟨_, pss_cons (ps_fld (pv 0) (pe_meth (pv 0) T.cl m1 G1 hr b1 .nil pass0 (pa_cons (pe_fld (pv 0) rfl) (pa_cons (pv 1) (pa_cons (pv 2) pa_nil)))) rfl)
      (pss_one (ps_if (pt_val (pv 1)) (pss_one (ps_fldaug (pv 0) pe_int in_add)) (pss_one (ps_fldaug (pv 0) pe_int in_add)))), ?_⟩
    refine ⟨_, rfl, a, dx, _, rfl, ha, susF_no _ _ _ _ (by decide +kernel), _, rfl, a, C, dx, _, _, rfl, ha, T.cl, T.nW, susF_w _ _ _ _, _, rfl, _, rfl, a, pw, pw, D, u, p, d, rfl, ⟨dx, pf, lv, k, ha, hf, hv⟩, hw, hlen, h4, sm, fun H1 r S1 hr1 h1 => ?_⟩
    have ha1 := S1 _ _ ha
    have nra : r ≠ a := fun e => by rw [e, ha] at hr1; cases hr1
    refine ⟨_, rfl, a, C, dx, _, rfl, ha1, T.cl, T.nW, (by show 5 < 1000; decide), ?_⟩
    rw [susF_put]
    have hb : ∀ o, But a H (upd (upd H1 a (.ins C dx (susF r pf lv k))) a o) := fun o => (Same.but S1).trans (But.upd.trans But.upd)
    refine ⟨_, rfl, _, rfl, ?_⟩
    refine itec (fun hp => ?_) (fun hp => ?_)
    · refine ⟨_, rfl, a, C, dx, _, _, rfl, upd_same, T.cl, T.nP, susF_p _ _ _ _, _, _, rfl, rfl, dx, _, upd_same, (by show 5 < 1000; decide), ?_⟩
      refine q _ r (hb _) ?_ ?_
      · rw [upd_ne nra, upd_ne nra]
        exact h1
      · rw [upd_same, susF_putP, hp]
        rfl
    · refine ⟨_, rfl, a, C, dx, _, _, rfl, upd_same, T.cl, T.nA, susF_a _ _ _ _, _, _, rfl, rfl, dx, _, upd_same, (by show 5 < 1000; decide), ?_⟩
      refine q _ r (hb _) ?_ ?_
      · rw [upd_ne nra, upd_ne nra]
        exact h1
      · rw [upd_same, susF_putA, hp]
        rfl
end
end Ta
end
section
set_option Elab.async false
set_option maxRecDepth 100000
set_option maxHeartbeats 2000000
set_option linter.all false
/-! zip of a list and a tuple -/
namespace Ta
open PySem PySem.Spec PyProof.Rows L2 RZ
/-- a list and a tuple side by side -/
def ItM (K : PySem.W.Frag) (a b : Addr) : It where
  go := fun i H => ∃ (us vs : List V) (u v : V), (SqL K H a us ∧ us[i]? = some u) ∧ SqT K H b vs ∧ vs[i]? = some v
  yld := fun i H r H' => ∃ T u v, r = .ref T ∧ H T = none ∧ H' = upd H T (.tup [u, v]) ∧ (∀ us, SqL K H a us → us[i]? = some u) ∧ ∀ vs, SqT K H b vs → vs[i]? = some v
  stop := fun i H => ∃ us vs : List V, SqL K H a us ∧ SqT K H b vs ∧ i = min us.length vs.length
def MSt (z TI TO i1 i2 a b : Addr) (i : Nat) (h : Heap) : Prop := (IsZip h z TI TO .none ∧ IsPair h TI (.ref i1) (.ref i2) ∧ ∃ x y, IsPair h TO x y) ∧ h.IsListIter i1 a i ∧ h.IsTupleIter i2 b i
theorem sepM {z TI TO i1 i2 a b : Addr} (D : ZipApart z TI TO i1 i2 a b) : ZipSep2 z TI TO i1 i2 [i1, a] [i2, b] := by
  have e1 := D.i1z
  have e2 := D.l1z
  have e3 := D.TOi1
  have e4 := D.l1TO
  have e5 := D.i2z
  have e6 := D.l2z
  have e7 := D.TOi2
  have e8 := D.l2TO
  have e9 := D.i12
  have e10 := D.l2i1
  have e11 := D.l1i2
  refine ⟨D.TIz, D.TOz, D.TITO, D.TIi1, by simp, ?_, ?_, D.TIi2, by simp, ?_, ?_, ?_, ?_⟩
  · simp [e1.symm, e2.symm]
  · simp [e3, e4.symm]
  · simp [e5.symm, e6.symm]
  · simp [e7, e8.symm]
  · simp [e9, e10.symm]
  · simp [e9.symm, e11.symm]
theorem cells5 {c z TI TO i1 i2 : Addr} (h : c ∈ [z, TI, TO, i1, i2]) : c = z ∨ c = TI ∨ c = TO ∨ c = i1 ∨ c = i2 := by simpa using h
theorem MSt.has {z TI TO i1 i2 a b c : Addr} {i : Nat} {h : Heap} (st : MSt z TI TO i1 i2 a b i h) (hc : c ∈ [z, TI, TO, i1, i2]) : ∃ o, h.get? c = some o ∧ ∀ v, o.data ≠ .cell v := by
  obtain ⟨⟨hz, hTI, x, y, hTO⟩, ⟨o1, e1, _, d1⟩, o2, e2, _, d2⟩ := st
  rcases cells5 hc with rfl | rfl | rfl | rfl | rfl
  · exact ⟨_, hz, fun v z => nomatch z⟩
  · exact ⟨_, hTI, fun v z => nomatch z⟩
  · exact ⟨_, hTO, fun v z => nomatch z⟩
  · exact ⟨_, e1, fun v z => by rw [d1] at z; cases z⟩
  · exact ⟨_, e2, fun v z => by rw [d2] at z; cases z⟩
theorem turnM {P : Program} {w : World} {K : PySem.W.Frag} {elts : List Expr} {kk : Nat} {tpos : Pos} {a b z TI TO i1 i2 : Addr} (D : ZipApart z TI TO i1 i2 a b) :
    Turn P w K (.Tuple elts kk tpos) (ItM K a b) [z, TI, TO, i1, i2] z (MSt z TI TO i1 i2 a b) where
  mem := by simp
  obj := fun i h st c hc => st.has hc
  keep := fun i h h' st k => by
    obtain ⟨⟨hz, hTI, x, y, hTO⟩, g1, g2⟩ := st
    exact ⟨⟨k z (by simp) _ hz, k TI (by simp) _ hTI, x, y, k TO (by simp) _ hTO⟩, g1.at fun o q => k i1 (by simp) o q, g2.at fun o q => k i2 (by simp) o q⟩
  item := by
    intro X hP hw hK hc i pins s σ H E I hf st hg
    subst hP hw hK
    have lt5 : ∀ c ∈ [z, TI, TO, i1, i2], c < s.heap.objs.size := fun c hm => let ⟨_, e, _⟩ := st.has hm; Heap.lt_size e
    obtain ⟨⟨hz, hTI, x0, y0, hTO⟩, g1, g2⟩ := st
    obtain ⟨us, vs, u, v, ⟨qu, hu⟩, qv, hv⟩ := hg
    obtain ⟨its, rv, pl, _⟩ := I.list qu
    obtain ⟨its2, rv2, pt, _⟩ := I.tuple qv
    have hd : X.A.in1.handled = none := I.ok.hd hc
    have D1 : Draws X.prog X.w X.A.in1 i1 [i1, a] its.toArray.size (fun i v => its.toArray[i]? = some v) (fun i h => h.IsListIter i1 a i ∧ h.IsList a its.toArray) := Draws.list hd i1 a D.l1i1 its.toArray
    have D2 : Draws X.prog X.w X.A.in1 i2 [i2, b] its2.toArray.size (fun i v => its2.toArray[i]? = some v) (fun i h => h.IsTupleIter i2 b i ∧ h.IsTuple b its2.toArray) := Draws.tuple hd i2 b D.l2i2 its2.toArray
    have z1 : its.toArray.size = its.length := List.size_toArray
    have z2 : its2.toArray.size = its2.length := List.size_toArray
    have hl1 := rv.length
    have hl2 := rv2.length
    have b1 := (List.getElem?_eq_some_iff.mp hu).1
    have b2 := (List.getElem?_eq_some_iff.mp hv).1
    refine wpAny_pyNext_zipD2_item (sepM D) D1 D2 hz hTI hTO ⟨g1, pl.isList⟩ ⟨g2, pt⟩ (by omega) (by omega) fun x1 x2 h' tk p1 p2 hz' hTO' s1 s2 hT hsz hk => ?_
    obtain ⟨w1, hw1, r1⟩ := rv.get hu
    obtain ⟨w2, hw2, r2⟩ := rv2.get hv
    have ex1 : x1 = w1 := by
      have p1 : its.toArray[i]? = some x1 := p1
      rw [show its.toArray[i]? = some w1 by simpa using hw1] at p1
      exact (Option.some.inj p1).symm
    have ex2 : x2 = w2 := by
      have p2 : its2.toArray[i]? = some x2 := p2
      rw [show its2.toArray[i]? = some w2 by simpa using hw2] at p2
      exact (Option.some.inj p2).symm
    subst ex1 ex2
    have hzl : z < s.heap.objs.size := Heap.lt_size hz
    refine ⟨_, rfl, wpAny_letOwnedTupleGo_zip (s := { s with heap := h', toks := tk }) hz' fun h2 hz2 sb => ?_⟩
    have stay : ∀ c o, c ≠ z → h'.get? c = some o → h2.get? c = some o := fun c o n q => (sb.2 c n).trans q
    have hT2 := stay _ _ (Nat.ne_of_gt hzl) hT
    have made : ObjOk X.prog X.w (upd H s.heap.objs.size (.tup [u, v])) h2 s.heap.objs.size (.tup [u, v]) := ⟨by show 2 ≤ sizeLine; decide, [x1, x2], .cons r1 (.cons r2 .nil), ⟨_, hT2, rfl, _, rfl⟩⟩
    have I1 : Inv X pins σ (upd H s.heap.objs.size (.tup [u, v])) { s with heap := h2, toks := tk } := I.turnedNew (t' := tk) (ch := [z, TI, TO, i1, i2])
      (fun c o hb q => by
        have n : c ≠ z ∧ c ≠ TI ∧ c ≠ TO ∧ c ≠ i1 ∧ c ≠ i2 := by simpa using hb
        exact stay _ _ n.1 (hk c o n.1 n.2.2.1 n.2.2.2.1 n.2.2.2.2 q)) hf (Nat.le_refl _) made
    refine ⟨.ref s.heap.objs.size, _, I1, rfl, ⟨_, u, v, rfl, I.hok.fresh (Nat.le_refl _), rfl, fun l hl => ?_, fun l hl => ?_⟩, ⟨⟨hz2, ?_, x1, x2, ?_⟩, ?_, ?_⟩, fun c hcm => ?_⟩
    · rw [I.list_inj hl qu]; exact hu
    · rw [I.tuple_inj hl qv]; exact hv
    · exact stay _ _ D.TIz (hk _ _ D.TIz D.TITO D.TIi1 D.TIi2 hTI)
    · exact stay _ _ D.TOz hTO'
    · exact s1.1.at fun o q => stay _ _ D.i1z q
    · exact s2.1.at fun o q => stay _ _ D.i2z q
    · rw [upd_ne (Nat.ne_of_lt (lt5 c hcm))]
      exact (hf c hcm).1
  done := by
    intro X hP hw hK hc i pins s σ H E I hf st hg
    subst hP hw hK
    obtain ⟨⟨hz, hTI, x0, y0, hTO⟩, g1, g2⟩ := st
    obtain ⟨us, vs, qu, qv, he⟩ := hg
    obtain ⟨its, rv, pl, _⟩ := I.list qu
    obtain ⟨its2, rv2, pt, _⟩ := I.tuple qv
    have hd : X.A.in1.handled = none := I.ok.hd hc
    have D1 : Draws X.prog X.w X.A.in1 i1 [i1, a] its.toArray.size (fun i v => its.toArray[i]? = some v) (fun i h => h.IsListIter i1 a i ∧ h.IsList a its.toArray) := Draws.list hd i1 a D.l1i1 its.toArray
    have D2 : Draws X.prog X.w X.A.in1 i2 [i2, b] its2.toArray.size (fun i v => its2.toArray[i]? = some v) (fun i h => h.IsTupleIter i2 b i ∧ h.IsTuple b its2.toArray) := Draws.tuple hd i2 b D.l2i2 its2.toArray
    have z1 : its.toArray.size = its.length := List.size_toArray
    have z2 : its2.toArray.size = its2.length := List.size_toArray
    have hl1 := rv.length
    have hl2 := rv2.length
    refine wpAny_pyNext_zipD2_end (sepM D) D1 D2 hz hTI hTO ⟨g1, pl.isList⟩ ⟨g2, pt⟩ (by omega) (by omega) (by omega) fun h' tk hk => ⟨rfl, ?_⟩
    refine I.turnedL (t' := tk) (ch := [z, TI, TO, i1, i2]) (fun c o hb q => ?_) hf
    have n : c ≠ z ∧ c ≠ TI ∧ c ≠ TO ∧ c ≠ i1 ∧ c ≠ i2 := by simpa using hb
    exact hk c o n.1 n.2.2.1 n.2.2.2.1 n.2.2.2.2 q
  self := fun A i s Q E st h => wpAny_pyIter_zip st.1.1 h
def iZipM (K : PySem.W.Frag) (ta : TA) : TI := fun σ H R => ta σ H fun rs H1 => ∃ a b us vs, rs = [.ref a, .ref b] ∧ SqL K H1 a us ∧ SqT K H1 b vs ∧ R (ItM K a b) H1
theorem pi_zipM {X : Cx} {e e2 : Expr} {ta : TA} {p pos tpos : Pos} {elts : List Expr} {kk : Nat} (hg : Gl X "zip") (hm : X.mg "zip" = none) (ha : PA X [e, e2] ta)
    (hs : starEach [e, e2] X.env = (false, eval e X.env) :: starEach [e2] X.env := by rfl) (hpl : (backTo pos (starEach [e2] X.env)).any (·.1) = false := by rfl) :
    PI X (.Tuple elts kk tpos) (.Call (.Name "zip" p) [e, e2] [] pos) (iZipM X.K ta) := by
  refine ⟨fun pins s σ H R I h => Call_ (ld_blt I hg hm PyProof.Rows.boot_zip (PyProof.Rows.callWith_type1 (thn (ha.run pos pins s σ H _ I h) fun ws s1 ⟨rs, H1, I1, r1, q1⟩ => ?_) hs hpl))⟩
  obtain ⟨a, b, us, vs, rfl, qu, qv, q⟩ := q1
  cases r1 with
  | cons r rr =>
    cases rr with
    | cons r' rr =>
      cases rr
      cases r
      cases r'
      obtain ⟨its, rv, pl, _⟩ := I1.list qu
      obtain ⟨its2, rv2, pt, _⟩ := I1.tuple qv
      obtain ⟨o2, ho2, _⟩ := id pt
      refine zip_begins2 (begins_list a its.toArray) (begins_tuple b its2.toArray) pl.isList pt fun h' hz hTI hTO c1 c2 hsz hk => wpAny_pyIter_zip hz ?_
      have D := PySem.W.ktu_apart s1.heap.objs.size a b pl.lt (Heap.lt_size ho2)
      refine ⟨s1.heap.objs.size + 4, [s1.heap.objs.size + 4, s1.heap.objs.size + 2, s1.heap.objs.size + 3, s1.heap.objs.size, s1.heap.objs.size + 1], _, _, H1, rfl, I1.kept (t' := s1.toks) hk, turnM D,
        ⟨⟨hz, hTI, _, _, hTO⟩, ⟨_, c1, rfl, rfl⟩, ⟨_, c2, rfl, rfl⟩⟩, fun c hcm => ?_, q⟩
      have hle : s1.heap.objs.size ≤ c := by
        rcases cells5 hcm with z | z | z | z | z <;> rw [z] <;> omega
      exact I1.fpOk hle (I1.hok.fresh hle)
theorem walk_zipM {K : PySem.W.Frag} {a b : Addr} {us vs : List V} {n : Nat} (hn : n = min us.length vs.length) : Walk (ItM K a b) n (fun H => SqL K H a us ∧ SqT K H b vs) (YPair (fun i => us[i]?) (fun i => vs[i]?)) := by
  subst hn
  refine ⟨fun i _ hi q => ?_, fun _ q => ⟨us, vs, q.1, q.2, rfl⟩, fun i H r H' _ q y => ?_⟩
  · exact ⟨us, vs, us[i]'(by omega), vs[i]'(by omega), ⟨q.1, List.getElem?_eq_getElem (by omega)⟩, q.2, List.getElem?_eq_getElem (by omega)⟩
  · obtain ⟨T, x, z, h1, h2, h3, h4, h5⟩ := y
    exact ⟨T, x, z, h1, h2, h3, h4 us q.1, h5 vs q.2⟩
end Ta
end
section
set_option Elab.async false
set_option maxRecDepth 100000
set_option maxHeartbeats 2000000
set_option linter.all false
/-! Ways: what does not call itself -/
namespace Ta
open PySem PySem.Spec PyProof.Rows L2 RZ
structure WaysTxt (K : PySem.W.Frag) (mg : Str → Option Value) (C : Addr) : Prop where
  cl : Cls K C
  nW : NoAttr K C "whole"
  nC : NoAttr K C "try_cost"
  nS : NoAttr K C "suspects"
  nK : NoAttr K C "known"
  sum : mg "sum" = none
  min : mg "min" = none
  len : mg "len" = none
  rng : mg "range" = none
  enum : mg "enumerate" = none
def wayF (d c : Int) (L kd : Addr) : List (Str × V) := [("whole", .int d), ("try_cost", .int c), ("suspects", .ref L), ("known", .ref kd)]
section
variable (d c : Int) (L kd : Addr)
theorem wayF_w : (wayF d c L kd).lookup ("whole" : Str) = some (.int d) := lk0
theorem wayF_c : (wayF d c L kd).lookup ("try_cost" : Str) = some (.int c) := (lkp (by decide +kernel)).trans lk0
theorem wayF_s : (wayF d c L kd).lookup ("suspects" : Str) = some (.ref L) := (lkp (by decide +kernel)).trans ((lkp (by decide +kernel)).trans lk0)
theorem wayF_k : (wayF d c L kd).lookup ("known" : Str) = some (.ref kd) := (lkp (by decide +kernel)).trans ((lkp (by decide +kernel)).trans ((lkp (by decide +kernel)).trans lk0))
theorem wayF_no {m : Str} (h1 : (m == "whole") = false) (h2 : (m == "try_cost") = false) (h3 : (m == "suspects") = false) (h4 : (m == "known") = false) : (wayF d c L kd).lookup m = none :=
  (lkp h1).trans ((lkp h2).trans ((lkp h3).trans ((lkp h4).trans rfl)))
theorem wayF_new : putF "known" (.ref kd) (putF "suspects" (.ref L) (putF "try_cost" (.int c) (putF "whole" (.int d) []))) = wayF d c L kd := by
  have e1 : putF "try_cost" (.int c) (putF "whole" (.int d) []) = ([("whole", V.int d), ("try_cost", V.int c)] : List (Str × V)) := (ptp (by decide +kernel)).trans rfl
  have e2 : putF "suspects" (.ref L) ([("whole", V.int d), ("try_cost", V.int c)] : List (Str × V)) = ([("whole", V.int d), ("try_cost", V.int c), ("suspects", V.ref L)] : List (Str × V)) :=
    (ptp (by decide +kernel)).trans (congrArg _ ((ptp (by decide +kernel)).trans rfl))
  rw [e1, e2]
  exact (ptp (by decide +kernel)).trans (congrArg _ ((ptp (by decide +kernel)).trans (congrArg _ ((ptp (by decide +kernel)).trans rfl))))
end
/-- an instance of Ways -/
def WayO (C : Addr) (H : Hp) (a : Addr) (d c : Int) (L kd : Addr) : Prop := ∃ dx, H a = some (.ins C dx (wayF d c L kd))
/-- a list of suspects, their data -/
def SussO (Cs : Addr) (H : Hp) (L : Addr) (Ds : List Dat) : Prop := ∃ ps : List Addr, H L = some (.lst (ps.map V.ref)) ∧ Paired (fun p D => ∃ pw, SusO Cs H p pw D) ps Ds
/-- all that is tracked stands, but a dict of ours may have grown -/
theorem But.tups {kd : Addr} {φ : Heap → Prop} {H H' : Hp} {l : Addr} {vd : List (List Int)} (x : TupsAt H l vd) (s : But kd H H') (h : H kd = some (.ext φ)) : TupsAt H' l vd := by
  obtain ⟨ps, h1, r⟩ := x
  exact ⟨ps, s _ _ h1 (ne_of h1 h fun z => nomatch z), Paired.mapP r fun _ _ z => s _ _ z (ne_of z h fun z => nomatch z)⟩
theorem But.susO {kd : Addr} {φ : Heap → Prop} {C : Addr} {H H' : Hp} {a pw : Addr} {D : Dat} (s : But kd H H') (h : H kd = some (.ext φ)) (x : SusO C H a pw D) : SusO C H' a pw D := by
  obtain ⟨dx, pf, lv, k, h1, h2, h3⟩ := x
  exact ⟨dx, pf, lv, k, s _ _ h1 (ne_of h1 h fun z => nomatch z), s _ _ h2 (ne_of h2 h fun z => nomatch z), But.tups h3 s h⟩
theorem But.sussO {kd : Addr} {φ : Heap → Prop} {C : Addr} {H H' : Hp} {L : Addr} {Ds : List Dat} (s : But kd H H') (h : H kd = some (.ext φ)) (x : SussO C H L Ds) : SussO C H' L Ds := by
  obtain ⟨ps, h1, r⟩ := x
  exact ⟨ps, s _ _ h1 (ne_of h1 h fun z => nomatch z), Paired.mapP r fun _ _ ⟨pw, z⟩ => ⟨pw, s.susO h z⟩⟩
theorem But.tup {kd : Addr} {φ : Heap → Prop} {H H' : Hp} {t : Addr} {xs : List V} (s : But kd H H') (h : H kd = some (.ext φ)) (x : H t = some (.tup xs)) : H' t = some (.tup xs) := s _ _ x (ne_of x h fun z => nomatch z)
theorem But.wAt {kd : Addr} {φ : Heap → Prop} {H H' : Hp} {t : Addr} {W : List (List Int)} (s : But kd H H') (h : H kd = some (.ext φ)) (x : WAt H t W) : WAt H' t W := by
  obtain ⟨ps, h1, r⟩ := x
  exact ⟨ps, s.tup h h1, Paired.mapP r fun _ _ z => s.tup h z⟩
theorem But.keyAt {kd : Addr} {φ : Heap → Prop} {H H' : Hp} {t : Addr} {k : Place} (s : But kd H H') (h : H kd = some (.ext φ)) (x : KeyAt H t k) : KeyAt H' t k := by
  obtain ⟨c, h1, r⟩ := x
  exact ⟨c, s.tup h h1, s.wAt h r⟩
theorem SussO.keeps {C : Addr} {H H' : Hp} {L : Addr} {Ds : List Dat} (x : SussO C H L Ds) (s : Same H H') : SussO C H' L Ds := let ⟨ps, h1, r⟩ := x; ⟨ps, s _ _ h1, Paired.mapP r fun _ _ ⟨pw, z⟩ => ⟨pw, z.keeps s⟩⟩
theorem WAt.keeps {H H' : Hp} {t : Addr} {W : List (List Int)} (x : WAt H t W) (s : Same H H') : WAt H' t W := let ⟨ps, h1, r⟩ := x; ⟨ps, s _ _ h1, Paired.mapP r fun _ _ z => s _ _ z⟩
theorem WayO.keeps {C : Addr} {H H' : Hp} {a : Addr} {d c : Int} {L kd : Addr} (x : WayO C H a d c L kd) (s : Same H H') : WayO C H' a d c L kd := let ⟨dx, h⟩ := x; ⟨dx, s _ _ h⟩
/-! ### bounds -/
theorem sum_bd : ∀ {l : List Int}, (∀ x ∈ l, 0 ≤ x ∧ x ≤ 16000000) → 0 ≤ l.sum ∧ l.sum ≤ 16000000 * (l.length : Int)
  | [], _ => by simp
  | x :: r, h => by
    have ih := sum_bd fun y hy => h y (List.mem_cons_of_mem _ hy)
    have hx := h x List.mem_cons_self
    rw [List.sum_cons, List.length_cons]
    omega
theorem WBd.small {n : Nat} {W : List (List Int)} (h : WBd n W) {w : List Int} (hw : w ∈ W) : w.length ≤ 4 ∧ Small w := by
  refine ⟨(h w hw).1, fun x hx => ?_⟩
  obtain ⟨a, b⟩ := (h w hw).2 x hx
  refine ⟨a, Int.le_trans ?_ b⟩
  have : (1 : Int) ≤ 20 ^ n := by
    have : (0 : Int) < 20 ^ n := Int.pow_pos (by decide)
    omega
  have := Int.mul_le_mul_of_nonneg_left this a
  omega
theorem Small.sum {w : List Int} (s : Small w) (h : w.length ≤ 4) : 0 ≤ w.sum ∧ w.sum ≤ 64000000 := by
  have := sum_bd s
  omega
/-- all weights small -/
def AllSmall (W : List (List Int)) : Prop := ∀ w ∈ W, w.length ≤ 4 ∧ Small w
def spScale (C : Addr) : Sp := fun vs H Q _ => ∃ (a t L kd : Addr) (d c : Int) (W : List (List Int)) (n : Nat), vs = [.ref a, .ref t, .int (n : Int)] ∧ WayO C H a d c L kd ∧ WAt H t W ∧ AllSmall W ∧ 2 ≤ d ∧ d ≤ 20 ∧ n ≤ 4 ∧ Q (.int (scale d W n)) H
section
variable {P : Program} {w : World} {K : PySem.W.Frag} {mg : Str → Option Value} {base : Heap}
abbrev nSc : List Str := ["self", "weights", "tries", "product", "own", "turn"]
theorem scSc : FnScope nSc ["self", "weights", "tries"] (defScope sScale) := ⟨rfl, rfl, rfl, by decide +kernel, rfl, by decide +kernel, by decide +kernel⟩
theorem prods_more {W : List (List Int)} {i : Nat} {u : List Int} (h : W[i]? = some u) : prods (W.take (i + 1)) = prods (W.take i) * u.sum := by
  unfold prods
  rw [take_more h, List.foldl_append]
  rfl
theorem ok_scale {f C : Addr} {fd : FuncData} (F : Fun K "scale" "Ways.scale" sScale f fd) (T : WaysTxt K mg C) : FnOk P w K mg base CX0 1 f fd ["self", "weights", "tries"] (spScale C) := by
  refine F.ok scSc (fun vs H Q E h => ?_) (fun cdv A outer s H vs Q E hr h => ?_)
  · obtain ⟨a, t, L, kd, d, c, W, n, rfl, _⟩ := h
    rfl
  · obtain ⟨a, t, L, kd, d, c, W, n, rfl, ⟨dx, ha⟩, ⟨ps, ht, hps⟩, sm, d0, d1, hn, q⟩ := h
    refine ⟨_, pss_cons (ps_set (i := 3) scSc.nd rfl (Or.inl rfl) pe_int)
      (pss_cons (ps_for PassesOwn.never rfl (pi_tup (pv 1)) (pg_name (i := 4) scSc.nd rfl (Or.inl rfl))
        (pss_one (ps_aug (i := 3) scSc.nd rfl (Or.inl rfl) (pe_callB (cr_sumT rfl) (by rfl) T.sum (by decide +kernel) (pa_cons (pv 4) pa_nil)) ip_mul)))
      (pss_cons (ps_for PassesOwn.never rfl (pi_range1 rfl T.rng (pa_cons (pv 2) pa_nil)) (pg_name (i := 5) scSc.nd rfl (Or.inl rfl))
        (pss_one (ps_aug (i := 3) scSc.nd rfl (Or.inl rfl) (pe_fld (pv 0) rfl) ip_mul)))
      (pss_one (ps_ret (pv 3))))), ?_⟩
    have e2 : (ps.map V.ref).length = W.length := by rw [List.length_map]; exact Paired.length hps
    refine ⟨_, rfl, t, rfl, ⟨_, SqT.of ht⟩, for_tup (K := K) (a := t) (xs := ps.map V.ref) (fun i σ H' => H' = H ∧ ∃ v, σ = [some (.ref a), some (.ref t), some (.int (n : Int)), some (.int (prods (W.take i))), v, none])
      ⟨rfl, none, rfl⟩ (fun i σ H' _ I => by rw [I.1]; exact SqT.of ht) ?_ ?_⟩
    · rintro i y σ H' hi ⟨rfl, v, rfl⟩
      obtain ⟨p, hp, rfl⟩ := get_ref hi
      obtain ⟨u, hu, hrow⟩ := Paired.at' hps hp
      have hb := sm u (List.mem_of_getElem? hu)
      have hs := hb.2.sum hb.1
      refine ⟨_, rfl, _, rfl, p, u, rfl, SqT.of hrow, _, _, rfl, rfl, .inr ⟨by omega, by omega⟩, rfl, some (.ref p), ?_⟩
      rw [prods_more hu]
      rfl
    · rintro σ H' ⟨rfl, v, rfl⟩
      rw [e2, List.take_length]
      refine ⟨_, rfl, _, rfl, by omega, by omega, for_range (n := n) (fun i σ H2 => H2 = H' ∧ ∃ v u, σ = [some (.ref a), some (.ref t), some (.int (n : Int)), some (.int (scale d W i)), v, u]) ⟨rfl, v, none, ?_⟩ ?_ ?_⟩
      · unfold scale
        rw [Int.pow_zero, Int.mul_one]
      · rintro i σ H' hi ⟨rfl, v, u, rfl⟩
        refine ⟨_, rfl, _, rfl, a, C, dx, _, _, rfl, ha, T.cl, T.nW, wayF_w _ _ _ _, _, _, rfl, rfl, .inr ⟨by omega, by omega⟩, rfl, v, some (.int (0 + (i : Int))), ?_⟩
        have e : scale d W i * d = scale d W (i + 1) := by
          unfold scale
          rw [Int.pow_succ, Int.mul_assoc]
        rw [e]
        rfl
      · rintro σ H' ⟨rfl, v, u, rfl⟩
        exact ⟨_, rfl, q⟩
end
/-! ### slices and sums of tuples, wherever they come to lie -/
theorem slA_any {K : PySem.W.Frag} {H : Hp} {a : Addr} {xs : List V} {lo hi : Option Int} {Q : L2.VK} (h : H a = some (.tup xs)) (q : ∀ H' p, Same H H' → H' p = some (.tup (cutV xs lo hi)) → Q (.ref p) H') : rSlA K (.ref a) lo hi H Q := by
  refine ⟨a, xs, rfl, SqT.of h, fun z => q H a Same.refl ?_, fun _ p hp => q _ p (Same.new hp) upd_same⟩
  rw [h]
  unfold cutV
  rw [z.1, z.2, List.drop_zero, Nat.sub_zero, List.take_length]
theorem catA_any {K : PySem.W.Frag} {H : Hp} {a b : Addr} {xs ys : List V} {Q : L2.VK} (h1 : H a = some (.tup xs)) (h2 : H b = some (.tup ys)) (hl : xs.length + ys.length ≤ 1000) (q : ∀ H' p, Same H H' → H' p = some (.tup (xs ++ ys)) → Q (.ref p) H') :
    rCatA K (.ref a) (.ref b) H Q := by
  refine ⟨a, b, xs, ys, rfl, rfl, SqT.of h1, SqT.of h2, Nat.le_trans hl (by decide), fun e => ?_, fun _ e => ?_, fun _ _ p hp => q _ p (Same.new hp) upd_same⟩
  · exact q H b Same.refl (by rw [h2, e, List.nil_append])
  · exact q H a Same.refl (by rw [h1, e, List.append_nil])
theorem npt {σ : L2.St} {H : Hp} {R : Option Int → Hp → Prop} (h : R none H) : tNoPart σ H R := h
theorem cut_to {xs : List V} {j : Nat} (h : j ≤ xs.length) : cutV xs none (some (j : Int)) = xs.take j := by
  unfold cutV
  rw [HT.sIx_nat, HT.sIx_none, Nat.min_eq_left h, List.drop_zero, Nat.sub_zero]
theorem cut_from {xs : List V} {j : Nat} (h : j ≤ xs.length) : cutV xs (some (j : Int)) none = xs.drop j := by
  unfold cutV
  rw [HT.sIx_nat, HT.sIx_none, Nat.min_eq_left h]
  exact List.take_of_length_le (by rw [List.length_drop]; omega)
theorem Paired.takeP {α β : Type} {F : α → β → Prop} : ∀ {l : List α} {m : List β} (i : Nat), Paired F l m → Paired F (l.take i) (m.take i)
  | _, _, 0, _ => .nil
  | _, _, _ + 1, .nil => .nil
  | _, _, i + 1, .cons r t => .cons r (Paired.takeP i t)
theorem Paired.dropP {α β : Type} {F : α → β → Prop} : ∀ {l : List α} {m : List β} (i : Nat), Paired F l m → Paired F (l.drop i) (m.drop i)
  | _, _, 0, r => r
  | _, _, _ + 1, .nil => .nil
  | _, _, i + 1, .cons _ t => Paired.dropP i t
theorem Paired.appP {α β : Type} {F : α → β → Prop} : ∀ {l l' : List α} {m m' : List β}, Paired F l m → Paired F l' m' → Paired F (l ++ l') (m ++ m')
  | _, _, _, _, .nil, s => s
  | _, _, _, _, .cons r t, s => .cons r (Paired.appP t s)
theorem cost_bd {u c : List Int} (hu : Small u) (hc : ∀ x ∈ c, 0 ≤ x ∧ x ≤ 1000) (h4 : u.length ≤ 4) : 0 ≤ ((u.zip c).map fun p => p.1 * p.2).sum ∧ ((u.zip c).map fun p => p.1 * p.2).sum ≤ 64000000000 := by
  have key : ∀ (l : List (Int × Int)), (∀ p ∈ l, 0 ≤ p.1 ∧ p.1 ≤ 16000000 ∧ 0 ≤ p.2 ∧ p.2 ≤ 1000) → 0 ≤ (l.map fun p => p.1 * p.2).sum ∧ (l.map fun p => p.1 * p.2).sum ≤ 16000000000 * (l.length : Int) := by
    intro l
    induction l with
    | nil => intro _; simp
    | cons p r ih =>
      intro h
      have ih := ih fun x hx => h x (List.mem_cons_of_mem _ hx)
      obtain ⟨a0, a1, b0, b1⟩ := h p List.mem_cons_self
      rw [List.map_cons, List.sum_cons, List.length_cons]
      have h1 := Int.mul_nonneg a0 b0
      have h2 : p.1 * p.2 ≤ 16000000 * 1000 := Int.le_trans (Int.mul_le_mul_of_nonneg_left b1 a0) (Int.mul_le_mul_of_nonneg_right a1 (by decide))
      omega
  have := key (u.zip c) fun p hp => by
    have z := List.of_mem_zip (show (p.1, p.2) ∈ u.zip c from hp)
    have h1 := hu _ z.1
    have h2 := hc _ z.2
    omega
  rw [List.length_zip] at this
  omega
theorem vCosts_bd {D : Dat} {d : Int} {u : List Int} (hD : DatOk d D u) (hu : Small u) (h4 : u.length ≤ 4) {x : Int} (hx : x ∈ vCosts D.vd u) : 0 ≤ x ∧ x ≤ 64000000000 := by
  obtain ⟨c, hc, rfl⟩ := List.mem_map.mp hx
  exact cost_bd hu (hD.vr c hc).2 h4
theorem WOk.small {d : Int} {Ds : List Dat} {n : Nat} {W : List (List Int)} (h : WOk d Ds n W) : AllSmall W := fun _ hw => h.bd.small hw
theorem AllSmall.without {W : List (List Int)} (h : AllSmall W) (j : Nat) : AllSmall (without W j) := fun u hu => by
  rcases List.mem_append.mp hu with z | z
  · exact h u (List.mem_of_mem_take z)
  · exact h u (List.mem_of_mem_drop z)
def spStopping (C Cs : Addr) : Sp := fun vs H Q _ => ∃ (a t L kd : Addr) (d c : Int) (Ds : List Dat) (W : List (List Int)) (n : Nat), vs = [.ref a, .ref t, .int (n : Int)] ∧ WayO C H a d c L kd ∧ SussO Cs H L Ds ∧ WAt H t W ∧ WOk d Ds n W ∧ n ≤ 4 ∧
  ∀ H', Same H H' → Q (.int (stopping d Ds W n)) H'
def spBehind (C Cs : Addr) : Sp := fun vs H Q _ => ∃ (a t L kd : Addr) (d c : Int) (Ds : List Dat) (W : List (List Int)) (n j : Nat) (p : Bool), vs = [.ref a, .int (j : Int), .bl p, .ref t] ∧ WayO C H a d c L kd ∧ SussO Cs H L Ds ∧ WAt H t W ∧ WOk d Ds n W ∧ j < W.length ∧
  ∀ H' r, Same H H' → WAt H' r (behind d Ds j p W) → Q (.ref r) H'
section
variable {P : Program} {w : World} {K : PySem.W.Frag} {mg : Str → Option Value} {base : Heap}
abbrev nSt : List Str := ["self", "weights", "tries", "total", "number", "suspect", "others"]
theorem scSt : FnScope nSt ["self", "weights", "tries"] (defScope sStopping) := ⟨rfl, rfl, rfl, by decide +kernel, rfl, by decide +kernel, by decide +kernel⟩
theorem range_more (f : Nat → Int) (i : Nat) : ((List.range (i + 1)).map f).sum = ((List.range i).map f).sum + f i := by
  rw [List.range_succ, List.map_append, List.sum_append]
  simp
theorem ok_stopping {f C Cs f1 f2 : Addr} {fd fd1 fd2 : FuncData} (F : Fun K "stopping" "Ways.stopping" sStopping f fd) (T : WaysTxt K mg C) (Ts : SusTxt K mg Cs) (F1 : Fun K "verdict_costs" "Suspect.verdict_costs" sVCosts f1 fd1) (b1 : Binds K fd1 ["self", "weights"] []) (m1 : Meth K Cs "verdict_costs" f1)
    (F2 : Fun K "scale" "Ways.scale" sScale f2 fd2) (b2 : Binds K fd2 ["self", "weights", "tries"] []) (m2 : Meth K C "scale" f2) : FnOk P w K mg base CX0 2 f fd ["self", "weights", "tries"] (spStopping C Cs) := by
  have G1 : FnOk P w K mg base CX0 1 f1 fd1 ["self", "weights"] (spVCosts K Cs) := ok_vCosts F1 Ts
  have G2 : FnOk P w K mg base CX0 1 f2 fd2 ["self", "weights", "tries"] (spScale C) := ok_scale F2 T
  refine F.ok scSt (fun vs H Q E h => ?_) (fun cdv A outer s H vs Q E hr h => ?_)
  · obtain ⟨a, t, L, kd, d, c, Ds, W, n, rfl, _⟩ := h
    rfl
  · obtain ⟨a, t, L, kd, d, c, Ds, W, n, rfl, O, S, R, ok, hn, q⟩ := h
    refine ⟨_, pss_cons (ps_set (i := 3) scSt.nd rfl (Or.inl rfl) pe_int)
      (pss_cons (ps_for PassesOwn.never rfl (pi_enum (by rfl) T.enum (pa_cons (pe_fld (pv 0) rfl) pa_nil)) (pg_tup rfl (pgs_cons (pg_name (i := 4) scSt.nd rfl (Or.inl rfl)) (pgs_cons (pg_name (i := 5) scSt.nd rfl (Or.inl rfl)) pgs_nil)))
        (pss_cons (ps_set (i := 6) scSt.nd rfl (Or.inl rfl) (pe_op op_catA (pe_slice sl_tupA (pv 1) po_none (po_some (pv 4))) (pe_slice sl_tupA (pv 1) (po_some (pe_op op_add (pv 4) pe_int)) po_none)))
        (pss_one (ps_aug (i := 3) scSt.nd rfl (Or.inl rfl) (pe_op op_mul (pe_callB (cr_min rfl) (by rfl) T.min (by decide +kernel) (pa_cons (pe_meth (pv 5) Ts.cl m1 G1 hr b1 .nil pass0 (pa_cons (pe_ix ix_tup (pv 1) (pv 4) (fun _ _ => rfl)) pa_nil)) pa_nil))
          (pe_meth (pv 0) T.cl m2 G2 hr b2 .nil pass0 (pa_cons (pv 6) (pa_cons (pv 2) pa_nil)))) ip_add))))
      (pss_one (ps_ret (pv 3)))), ?_⟩
    obtain ⟨dx, ha⟩ := id O
    obtain ⟨ss, hL, hss⟩ := id S
    obtain ⟨ps, ht, hps⟩ := id R
    have e1 : (ss.map V.ref).length = Ds.length := by rw [List.length_map]; exact Paired.length hss
    have e2 : (ps.map V.ref).length = W.length := by rw [List.length_map]; exact Paired.length hps
    refine ⟨_, rfl, a, C, dx, _, _, rfl, ha, T.cl, T.nS, wayF_s _ _ _ _, L, _, rfl, SqL.of hL, for_it walk_enum (fun i σ H' => Same H H' ∧ ∃ v4 v5 v6, σ = [some (.ref a), some (.ref t), some (.int (n : Int)), some (.int ((List.range i).map (stopTerm d Ds W n)).sum), v4, v5, v6])
      ⟨Same.refl, none, none, none, rfl⟩ (fun i σ H' _ I => I.1.seq (SqL.of hL)) ?_ ?_⟩
    · rintro i v σ H' H2 hi ⟨S1, v4, v5, v6, rfl⟩ ⟨T', x0, y0, rfl, hT', rfl, hx0, hy0⟩
      obtain rfl := Option.some.inj hx0
      obtain ⟨s0, hs0, rfl⟩ := get_ref hy0
      obtain ⟨D, hD, pw, sO⟩ := Paired.at' hss hs0
      have hiD : i < Ds.length := (List.getElem?_eq_some_iff.mp hD).1
      have hiW : i < W.length := by rw [← ok.len]; exact hiD
      obtain ⟨u, hu⟩ : ∃ u, W[i]? = some u := ⟨_, List.getElem?_eq_getElem hiW⟩
      obtain ⟨p, hp, hrow⟩ := Paired.at_ hps hu
      have S2 : Same H (upd H' T' (.tup [.int (i : Int), .ref s0])) := Same.step S1 (Same.new hT')
      refine ⟨T', _, rfl, SqT.of upd_same, rfl, _, _, rfl, _, _, rfl, rfl, ?_⟩
      refine ⟨_, rfl, _, rfl, _, rfl, slA_any (S2 _ _ ht) fun H3 r3 S3 h3 => ?_⟩
      have S23 := Same.step S2 S3
      refine ⟨_, rfl, _, rfl, _, _, rfl, rfl, _, rfl, npt (slA_any (S23 _ _ ht) fun H4 r4 S4 h4 => ?_)⟩
      have S24 := Same.step S23 S4
      rw [cut_to (by omega)] at h3
      rw [show (i : Int) + 1 = ((i + 1 : Nat) : Int) by omega, cut_from (by omega)] at h4
      have hW3 := ok.most
      have hlen := ok.len
      refine catA_any (S4 _ _ h3) h4 (by rw [List.length_take, List.length_drop]; omega) fun H5 r5 S5 h5 => ?_
      have S25 := Same.step S24 S5
      rw [← List.map_take, ← List.map_drop, ← List.map_append] at h5
      have R5 : WAt H5 r5 (without W i) := ⟨_, h5, Paired.appP (Paired.takeP i (Paired.mapP hps fun _ _ z => S25 _ _ z)) (Paired.dropP (i + 1) (Paired.mapP hps fun _ _ z => S25 _ _ z))⟩
      have hsm := ok.small u (List.mem_of_getElem? hu)
      have hdat := ok.dat i D u hD hu
      obtain ⟨dxs, pfs, lvs, kcs, hs1, _, _⟩ := sO.keeps S25
      refine ⟨_, rfl, _, rfl, s0, dxs, _, rfl, hs1, susF_no _ _ _ _ (by decide +kernel), _, rfl, _, rfl, t, _, _, _, rfl, rfl, SqT.of (S25 _ _ ht), atI_nat (by rw [List.getElem?_map, hp]; rfl),
        s0, pw, p, D, u, rfl, sO.keeps S25, S25 _ _ hrow, hdat.vl, hsm.1, hsm.2, fun H6 r6 S6 hr6 h6 => ?_⟩
      have S26 := Same.step S25 S6
      have hne : vCosts D.vd u ≠ [] := fun z => hdat.vn (List.map_eq_nil_iff.mp z)
      refine ⟨r6, _, rfl, SqL.of h6, List.length_pos_iff.mpr hne, fun m hm hle => ?_⟩
      have em : imin (vCosts D.vd u) = m := imin_eq ⟨hm, hle⟩
      have hb := vCosts_bd hdat hsm.2 hsm.1 hm
      refine ⟨_, rfl, a, dx, _, rfl, S26 _ _ ha, wayF_no _ _ _ _ (by decide +kernel) (by decide +kernel) (by decide +kernel) (by decide +kernel), _, rfl, _, rfl, a, r5, L, kd, d, c, without W i, n, rfl, O.keeps S26, R5.keeps S6,
        ok.small.without i, ok.d0, ok.d1, hn, _, _, rfl, rfl, .inl ⟨by omega, by omega⟩, _, _, rfl, rfl, S26, some (.int (i : Int)), some (.ref s0), some (.ref r5), ?_⟩
      have e : stopTerm d Ds W n i = m * scale d (without W i) n := by
        unfold stopTerm
        rw [List.getD_eq_getElem?_getD, List.getD_eq_getElem?_getD, hD, hu, ← em]
        rfl
      rw [range_more, e]
      rfl
    · rintro σ H' ⟨S1, v4, v5, v6, rfl⟩
      rw [e1]
      exact ⟨_, rfl, q _ S1⟩
abbrev nBh : List Str := ["self", "number", "passed", "weights", "own"]
theorem scBh : FnScope nBh ["self", "number", "passed", "weights"] (defScope sBehind) := ⟨rfl, rfl, rfl, by decide +kernel, rfl, by decide +kernel, by decide +kernel⟩
theorem ok_behind {f C Cs f1 : Addr} {fd fd1 : FuncData} (F : Fun K "behind" "Ways.behind" sBehind f fd) (T : WaysTxt K mg C) (Ts : SusTxt K mg Cs) (F1 : Fun K "weights_after" "Suspect.weights_after" sWAfter f1 fd1) (b1 : Binds K fd1 ["self", "weights", "passed", "whole"] []) (m1 : Meth K Cs "weights_after" f1) :
    FnOk P w K mg base CX0 2 f fd ["self", "number", "passed", "weights"] (spBehind C Cs) := by
  have G1 : FnOk P w K mg base CX0 1 f1 fd1 ["self", "weights", "passed", "whole"] (spWAfter K Cs) := ok_wAfter F1 Ts
  refine F.ok scBh (fun vs H Q E h => ?_) (fun cdv A outer s H vs Q E hr h => ?_)
  · obtain ⟨a, t, L, kd, d, c, Ds, W, n, j, p, rfl, _⟩ := h
    rfl
  · obtain ⟨a, t, L, kd, d, c, Ds, W, n, j, pb, rfl, O, S, R, ok, hj, q⟩ := h
    refine ⟨_, pss_cons (ps_set (i := 4) scBh.nd rfl (Or.inl rfl) (pe_meth (pe_ix ix_list (pe_fld (pv 0) rfl) (pv 1) (fun _ _ => rfl)) Ts.cl m1 G1 hr b1 .nil pass0
        (pa_cons (pe_ix ix_tup (pv 3) (pv 1) (fun _ _ => rfl)) (pa_cons (pv 2) (pa_cons (pe_fld (pv 0) rfl) pa_nil)))))
      (pss_one (ps_ret (pe_op op_catA (pe_op op_catA (pe_slice sl_tupA (pv 3) po_none (po_some (pv 1))) (pe_tup (pa_cons (pv 4) pa_nil))) (pe_slice sl_tupA (pv 3) (po_some (pe_op op_add (pv 1) pe_int)) po_none)))), ?_⟩
    obtain ⟨dx, ha⟩ := id O
    obtain ⟨ss, hL, hss⟩ := id S
    obtain ⟨ps, ht, hps⟩ := id R
    have e2 : (ps.map V.ref).length = W.length := by rw [List.length_map]; exact Paired.length hps
    have hW3 := ok.most
    have hlen := ok.len
    obtain ⟨u, hu⟩ : ∃ u, W[j]? = some u := ⟨_, List.getElem?_eq_getElem hj⟩
    obtain ⟨D, hD⟩ : ∃ D, Ds[j]? = some D := ⟨_, List.getElem?_eq_getElem (by omega)⟩
    obtain ⟨p, hp, hrow⟩ := Paired.at_ hps hu
    obtain ⟨s0, hs0, pw, sO⟩ := Paired.at_ hss hD
    have hsm := ok.small u (List.mem_of_getElem? hu)
    have hdat := ok.dat j D u hD hu
    obtain ⟨dxs, pfs, lvs, kcs, hs1, _, _⟩ := id sO
    refine ⟨_, rfl, a, C, dx, _, _, rfl, ha, T.cl, T.nS, wayF_s _ _ _ _, _, rfl, L, _, _, _, rfl, rfl, SqL.of hL, atI_nat (by rw [List.getElem?_map, hs0]; rfl), s0, dxs, _, rfl, hs1,
      susF_no _ _ _ _ (by decide +kernel), _, rfl, _, rfl, t, _, _, _, rfl, rfl, SqT.of ht, atI_nat (by rw [List.getElem?_map, hp]; rfl), _, rfl, _, rfl, a, C, dx, _, _, rfl, ha, T.cl, T.nW, wayF_w _ _ _ _,
      s0, pw, p, D, u, pb, d, rfl, sO, hrow, hdat.fl, hsm.1, hsm.2, fun H1 r1 S1 hr1 h1 => ?_⟩
    refine ⟨_, rfl, _, rfl, _, rfl, slA_any (S1 _ _ ht) fun H2 r2 S2 h2 => ?_⟩
    have S12 := Same.step S1 S2
    rw [cut_to (by omega)] at h2
    refine ⟨_, rfl, (by show 1 ≤ sizeLine; decide), fun r3 hr3 => ?_⟩
    have S13 := Same.step S12 (Same.new (o := .tup [.ref r1]) hr3)
    refine catA_any ((upd_ne (ne_of_none h2 hr3)).trans h2) upd_same (by rw [List.length_take]; show _ + 1 ≤ 1000; omega) fun H4 r4 S4 h4 => ?_
    have S14 := Same.step S13 S4
    refine ⟨_, rfl, _, rfl, _, _, rfl, rfl, _, rfl, npt (slA_any (S14 _ _ ht) fun H5 r5 S5 h5 => ?_)⟩
    rw [show (j : Int) + 1 = ((j + 1 : Nat) : Int) by omega, cut_from (by omega)] at h5
    have S15 := Same.step S14 S5
    refine catA_any (S5 _ _ h4) h5 (by rw [List.length_append, List.length_take, List.length_drop]; show _ + 1 + _ ≤ 1000; omega) fun H6 r6 S6 h6 => ?_
    have S16 := Same.step S15 S6
    refine q _ r6 S16 ⟨ps.take j ++ [r1] ++ ps.drop (j + 1), ?_, ?_⟩
    · rw [h6, List.map_append, List.map_append, List.map_take, List.map_drop]
      rfl
    · have hr16 : H6 r1 = some (.tup ((wAfter D.fl u pb d).map V.int)) := (Same.step S2 (Same.step (Same.new hr3) (Same.step S4 (Same.step S5 S6)))) _ _ h1
      have eW : W.getD j [] = u := by rw [List.getD_eq_getElem?_getD, hu]; rfl
      have eD : Ds.getD j ⟨[], []⟩ = D := by rw [List.getD_eq_getElem?_getD, hD]; rfl
      unfold behind
      rw [eW, eD]
      exact Paired.appP (Paired.appP (Paired.takeP j (Paired.mapP hps fun _ _ z => S16 _ _ z)) (.cons hr16 .nil)) (Paired.dropP (j + 1) (Paired.mapP hps fun _ _ z => S16 _ _ z))
end
end Ta
end
section
set_option Elab.async false
set_option maxRecDepth 100000
set_option maxHeartbeats 2000000
set_option linter.all false
/-! Ways: what calls itself -/
namespace Ta
open PySem PySem.Spec PyProof.Rows L2 RZ
/-- how many places least may note -/
def Bn : Nat → Nat
  | 0 => 1
  | n + 1 => 1 + 6 * Bn n
def BB : Nat → Nat
  | 0 => 0
  | n + 1 => 6 * Bn n
theorem Bn_eq (n : Nat) : Bn n = 1 + BB n := by cases n <;> rfl
/-- what is noted is true -/
def Valid (d c : Int) (Ds : List Dat) (xs : List Ent) : Prop := ∀ e ∈ xs, ∃ m : Nat, e.1.2 = (m : Int) ∧ e.2.2 = least d c Ds m e.1.1
structure WaysAt (P : Program) (w : World) (C Cs : Addr) (H : Hp) (a kd : Addr) (d c : Int) (L : Addr) (Ds : List Dat) (xs : List Ent) : Prop where
  o : WayO C H a d c L kd
  s : SussO Cs H L Ds
  n : DnAt P w H kd xs
  v : Valid d c Ds xs
  c0 : 0 ≤ c ∧ c ≤ 1000
/-- the notes have grown, by places with fewer tries than m, at most b of them -/
def Grow (m b : Nat) (xs xs' : List Ent) : Prop := (∀ e ∈ xs', e ∈ xs ∨ e.1.2 < (m : Int)) ∧ xs'.length ≤ xs.length + b
theorem Grow.refl {m b : Nat} {xs : List Ent} : Grow m b xs xs := ⟨fun _ h => .inl h, Nat.le_add_right _ _⟩
theorem Grow.trans {m b1 b2 : Nat} {xs ys zs : List Ent} (g : Grow m b1 xs ys) (h : Grow m b2 ys zs) : Grow m (b1 + b2) xs zs :=
  ⟨fun e he => (h.1 e he).elim (fun z => g.1 e z) .inr, by have := g.2; have := h.2; omega⟩
theorem Grow.mono {m m' b b' : Nat} {xs ys : List Ent} (g : Grow m b xs ys) (hm : m ≤ m') (hb : b ≤ b') : Grow m' b' xs ys :=
  ⟨fun e he => (g.1 e he).elim .inl fun z => .inr (by omega), by have := g.2; omega⟩
theorem KeyAt.keeps {H H' : Hp} {t : Addr} {k : Place} (x : KeyAt H t k) (s : Same H H') : KeyAt H' t k := let ⟨c, h, r⟩ := x; ⟨c, s _ _ h, r.keeps s⟩
section
variable {P : Program} {w : World} {C Cs : Addr} {H H' : Hp} {a kd : Addr} {d c : Int} {L : Addr} {Ds : List Dat} {xs : List Ent}
theorem WaysAt.keeps (x : WaysAt P w C Cs H a kd d c L Ds xs) (s : Same H H') : WaysAt P w C Cs H' a kd d c L Ds xs :=
  ⟨x.o.keeps s, x.s.keeps s, ⟨s _ _ x.n.1, fun e he => (x.n.2 e he).keeps s⟩, x.v, x.c0⟩
theorem WaysAt.wAt {t : Addr} {W : List (List Int)} (x : WaysAt P w C Cs H a kd d c L Ds xs) (s : But kd H H') (r : WAt H t W) : WAt H' t W := s.wAt (φ := DnIs P w kd xs) x.n.1 r
theorem look_some {k : Place} {v : Int} (h : lookN xs k = some v) : ∃ e ∈ xs, e.1 = k ∧ e.2.2 = v := by
  unfold lookN at h
  cases e : xs.find? fun e => decide (e.1 = k) with
  | none => rw [e] at h; cases h
  | some y =>
    rw [e] at h
    exact ⟨y, List.mem_of_find?_eq_some e, of_decide_eq_true (List.find?_some (p := fun (e : Ent) => decide (e.1 = k)) e), Option.some.inj h⟩
theorem look_none {k : Place} (h : ∀ e ∈ xs, e.1 ≠ k) : lookN xs k = none := by
  unfold lookN
  rw [List.find?_eq_none.mpr fun e he => by rw [decide_eq_false (h e he)]; decide]
  rfl
theorem look_not {k : Place} (h : lookN xs k = none) : ∀ e ∈ xs, e.1 ≠ k := fun e he z => by
  unfold lookN at h
  rw [Option.map_eq_none_iff, List.find?_eq_none] at h
  exact h e he (decide_eq_true z)
theorem look_snoc {k : Place} {b : Addr} {v : Int} (h : lookN xs k = none) : lookN (xs ++ [(k, b, v)]) k = some v := by
  have h' := look_not h
  unfold lookN
  rw [List.find?_append, List.find?_eq_none.mpr fun e he => by rw [decide_eq_false (h' e he)]; decide]
  simp
theorem WaysAt.look {m : Nat} {W : List (List Int)} {v : Int} (x : WaysAt P w C Cs H a kd d c L Ds xs) (h : lookN xs (W, (m : Int)) = some v) : v = least d c Ds m W := by
  obtain ⟨e, he, e1, e2⟩ := look_some h
  obtain ⟨m', z1, z2⟩ := x.v e he
  rw [e1] at z1 z2
  have : m = m' := by
    have : ((m : Nat) : Int) = (m' : Int) := z1
    omega
  rw [← e2, z2, this]
end
theorem tup_lst {H : Hp} {r t : Addr} {l l' : List V} {xs : List V} (h : H r = some (.lst l)) (x : H t = some (.tup xs)) : upd H r (.lst l') t = some (.tup xs) := (upd_ne (ne_of x h fun z => nomatch z)).trans x
theorem KeyAt.lst {H : Hp} {r t : Addr} {l l' : List V} {k : Place} (x : KeyAt H t k) (h : H r = some (.lst l)) : KeyAt (upd H r (.lst l')) t k := by
  obtain ⟨c, h1, ps, h2, r1⟩ := x
  exact ⟨c, tup_lst h h1, ps, tup_lst h h2, Paired.mapP r1 fun _ _ z => tup_lst h z⟩
/-- a list of ours grows -/
theorem WaysAt.lst {P : Program} {w : World} {C Cs : Addr} {H H4 : Hp} {a kd r : Addr} {d c : Int} {L : Addr} {Ds : List Dat} {xs xs4 : List Ent} {l l' : List V} (X4 : WaysAt P w C Cs H4 a kd d c L Ds xs4) (X : WaysAt P w C Cs H a kd d c L Ds xs) (B : But kd H H4) (hr : H r = none)
    (h : H4 r = some (.lst l)) : WaysAt P w C Cs (upd H4 r (.lst l')) a kd d c L Ds xs4 ∧ But kd H (upd H4 r (.lst l')) := by
  have B5 : But kd H (upd H4 r (.lst l')) := fun z o e n => (upd_ne (ne_of_none e hr)).trans (B z o e n)
  refine ⟨⟨?_, B5.sussO (φ := DnIs P w kd xs) X.n.1 X.s, ⟨(upd_ne (ne_of X4.n.1 h fun z => nomatch z)).trans X4.n.1, fun e he => (X4.n.2 e he).lst h⟩, X4.v, X.c0⟩, B5⟩
  obtain ⟨dx, ha⟩ := X.o
  exact ⟨dx, B5 _ _ ha (ne_of ha X.n.1 fun z => nomatch z)⟩
/-- a place is noted -/
theorem WaysAt.put {P : Program} {w : World} {C Cs : Addr} {H : Hp} {a kd b : Addr} {d c : Int} {L : Addr} {Ds : List Dat} {xs : List Ent} {W : List (List Int)} {n : Nat} {m : Int} (X : WaysAt P w C Cs H a kd d c L Ds xs) (key : KeyAt H b (W, (n : Int))) (hm : m = least d c Ds n W) :
    WaysAt P w C Cs (upd H kd (DnO P w kd (xs ++ [((W, (n : Int)), b, m)]))) a kd d c L Ds (xs ++ [((W, (n : Int)), b, m)]) := by
  have B : But kd H (upd H kd (DnO P w kd (xs ++ [((W, (n : Int)), b, m)]))) := But.upd
  have hk : H kd = some (.ext (DnIs P w kd xs)) := X.n.1
  refine ⟨?_, B.sussO hk X.s, ⟨upd_same, fun e he => ?_⟩, fun e he => ?_, X.c0⟩
  · obtain ⟨dx, ha⟩ := X.o
    exact ⟨dx, B _ _ ha (ne_of ha X.n.1 fun z => nomatch z)⟩
  · rcases List.mem_append.mp he with he | he
    · exact B.keyAt hk (X.n.2 e he)
    · rw [List.mem_singleton.mp he]
      exact B.keyAt hk key
  · rcases List.mem_append.mp he with he | he
    · exact X.v e he
    · rw [List.mem_singleton.mp he]
      exact ⟨n, rfl, hm⟩
def spLeast (P : Program) (w : World) (C Cs : Addr) (n : Nat) : Sp := fun vs H Q _ => ∃ (a t kd L : Addr) (d c : Int) (Ds : List Dat) (xs : List Ent) (W : List (List Int)), vs = [.ref a, .ref t, .int (n : Int)] ∧ WaysAt P w C Cs H a kd d c L Ds xs ∧ WAt H t W ∧ WOk d Ds n W ∧
  xs.length + Bn n ≤ 100000 ∧ ∀ H' xs', But kd H H' → WaysAt P w C Cs H' a kd d c L Ds xs' → Grow (n + 1) (Bn n) xs xs' → Q (.int (least d c Ds n W)) H'
def spTrying (P : Program) (w : World) (C Cs : Addr) (n : Nat) : Sp := fun vs H Q _ => ∃ (a t kd L : Addr) (d c : Int) (Ds : List Dat) (xs : List Ent) (W : List (List Int)) (j : Nat), vs = [.ref a, .int (j : Int), .ref t, .int ((n + 1 : Nat) : Int)] ∧ WaysAt P w C Cs H a kd d c L Ds xs ∧ WAt H t W ∧ WOk d Ds (n + 1) W ∧
  j < W.length ∧ xs.length + 2 * Bn n ≤ 100000 ∧ ∀ H' xs', But kd H H' → WaysAt P w C Cs H' a kd d c L Ds xs' → Grow (n + 1) (2 * Bn n) xs xs' → Q (.int (trying d c Ds n j W)) H'
def spBeg (P : Program) (w : World) (C Cs : Addr) (n : Nat) : Sp := fun vs H Q _ => ∃ (a t kd L : Addr) (d c : Int) (Ds : List Dat) (xs : List Ent) (W : List (List Int)), vs = [.ref a, .ref t, .int (n : Int)] ∧ WaysAt P w C Cs H a kd d c L Ds xs ∧ WAt H t W ∧ WOk d Ds n W ∧
  xs.length + BB n ≤ 100000 ∧ ∀ H' r xs', But kd H H' → WaysAt P w C Cs H' a kd d c L Ds xs' → Grow n (BB n) xs xs' → H r = none → H' r = some (.lst ((beginnings d c Ds n W).map V.int)) → Q (.ref r) H'
/-- the methods -/
structure WaysFns (K : PySem.W.Frag) (C Cs fA fV fSc fSt fB fT fG fL : Addr) (dA dV dSc dSt dB dT dG dL : FuncData) : Prop where
  FA : Fun K "weights_after" "Suspect.weights_after" sWAfter fA dA
  bA : Binds K dA ["self", "weights", "passed", "whole"] []
  mA : Meth K Cs "weights_after" fA
  FV : Fun K "verdict_costs" "Suspect.verdict_costs" sVCosts fV dV
  bV : Binds K dV ["self", "weights"] []
  mV : Meth K Cs "verdict_costs" fV
  FSc : Fun K "scale" "Ways.scale" sScale fSc dSc
  bSc : Binds K dSc ["self", "weights", "tries"] []
  mSc : Meth K C "scale" fSc
  FSt : Fun K "stopping" "Ways.stopping" sStopping fSt dSt
  bSt : Binds K dSt ["self", "weights", "tries"] []
  mSt : Meth K C "stopping" fSt
  FB : Fun K "behind" "Ways.behind" sBehind fB dB
  bB : Binds K dB ["self", "number", "passed", "weights"] []
  mB : Meth K C "behind" fB
  FT : Fun K "trying" "Ways.trying" sTrying fT dT
  bT : Binds K dT ["self", "number", "weights", "tries"] []
  mT : Meth K C "trying" fT
  FG : Fun K "beginnings" "Ways.beginnings" sBeginnings fG dG
  bG : Binds K dG ["self", "weights", "tries"] []
  mG : Meth K C "beginnings" fG
  FL : Fun K "least" "Ways.least" sLeast fL dL
  bL : Binds K dL ["self", "weights", "tries"] []
  mL : Meth K C "least" fL
section
variable {P : Program} {w : World} {K : PySem.W.Frag} {mg : Str → Option Value} {base : Heap} {C Cs fA fV fSc fSt fB fT fG fL : Addr} {dA dV dSc dSt dB dT dG dL : FuncData}
abbrev nTr : List Str := ["self", "number", "weights", "tries", "spent", "failed", "passed"]
theorem scTr : FnScope nTr ["self", "number", "weights", "tries"] (defScope sTrying) := ⟨rfl, rfl, rfl, by decide +kernel, rfl, by decide +kernel, by decide +kernel⟩
theorem ok_trying {n k : Nat} (N : WaysFns K C Cs fA fV fSc fSt fB fT fG fL dA dV dSc dSt dB dT dG dL) (T : WaysTxt K mg C) (Ts : SusTxt K mg Cs) (hn : n + 1 ≤ 4) (hk : 2 ≤ k)
    (GL : FnOk P w K mg base CX0 k fL dL ["self", "weights", "tries"] (spLeast P w C Cs n)) : FnOk P w K mg base CX0 (k + 1) fT dT ["self", "number", "weights", "tries"] (spTrying P w C Cs n) := by
  have GS : FnOk P w K mg base CX0 1 fSc dSc ["self", "weights", "tries"] (spScale C) := ok_scale N.FSc T
  have GB : FnOk P w K mg base CX0 2 fB dB ["self", "number", "passed", "weights"] (spBehind C Cs) := ok_behind N.FB T Ts N.FA N.bA N.mA
  refine N.FT.ok scTr (fun vs H Q E h => ?_) (fun cdv A outer s H vs Q E hr h => ?_)
  · obtain ⟨a, t, kd, L, d, c, Ds, xs, W, j, rfl, _⟩ := h
    rfl
  · obtain ⟨a, t, kd, L, d, c, Ds, xs, W, j, rfl, X, R, ok, hj, hx, q⟩ := h
    have hr1 : Room 1 _ := hr.mono (by omega)
    have hr2 : Room 2 _ := hr.mono hk
    refine ⟨_, pss_cons (ps_set (i := 4) scTr.nd rfl (Or.inl rfl) (pe_op op_mul (pe_fld (pv 0) rfl) (pe_meth (pv 0) T.cl N.mSc GS hr1 N.bSc .nil pass0 (pa_cons (pv 2) (pa_cons (pv 3) pa_nil)))))
      (pss_cons (ps_set (i := 5) scTr.nd rfl (Or.inl rfl) (pe_meth (pv 0) T.cl N.mL GL hr N.bL .nil pass0 (pa_cons (pe_meth (pv 0) T.cl N.mB GB hr2 N.bB .nil pass0 (pa_cons (pv 1) (pa_cons pe_bl (pa_cons (pv 2) pa_nil)))) (pa_cons (pe_op op_sub (pv 3) pe_int) pa_nil))))
      (pss_cons (ps_set (i := 6) scTr.nd rfl (Or.inl rfl) (pe_meth (pv 0) T.cl N.mL GL hr N.bL .nil pass0 (pa_cons (pe_meth (pv 0) T.cl N.mB GB hr2 N.bB .nil pass0 (pa_cons (pv 1) (pa_cons pe_bl (pa_cons (pv 2) pa_nil)))) (pa_cons (pe_op op_sub (pv 3) pe_int) pa_nil))))
      (pss_one (ps_ret (pe_op op_add (pe_op op_add (pv 4) (pv 5)) (pv 6)))))), ?_⟩
    have hno : ∀ (d c : Int) (L kd : Addr), (wayF d c L kd).lookup ("scale" : Str) = none ∧ (wayF d c L kd).lookup ("least" : Str) = none ∧ (wayF d c L kd).lookup ("behind" : Str) = none := fun d c L kd =>
      ⟨wayF_no _ _ _ _ (by decide +kernel) (by decide +kernel) (by decide +kernel) (by decide +kernel), wayF_no _ _ _ _ (by decide +kernel) (by decide +kernel) (by decide +kernel) (by decide +kernel), wayF_no _ _ _ _ (by decide +kernel) (by decide +kernel) (by decide +kernel) (by decide +kernel)⟩
    obtain ⟨dx, ha⟩ := id X.o
    have c0 := X.c0
    -- spent
    refine ⟨_, rfl, a, C, dx, _, _, rfl, ha, T.cl, T.nC, wayF_c _ _ _ _, _, rfl, a, dx, _, rfl, ha, (hno _ _ _ _).1, _, rfl, _, rfl, a, t, L, kd, d, c, W, n + 1, rfl, X.o, R, ok.small, ok.d0, ok.d1, hn, _, _, rfl, rfl, .inl ⟨by omega, by omega⟩, ?_⟩
    -- failed
    refine ⟨_, rfl, a, dx, _, rfl, ha, (hno _ _ _ _).2.1, _, rfl, a, dx, _, rfl, ha, (hno _ _ _ _).2.2, _, rfl, _, rfl, a, t, L, kd, d, c, Ds, W, n + 1, j, false, rfl, X.o, X.s, R, ok, hj, fun H1 r1 S1 R1 => ?_⟩
    refine ⟨_, rfl, _, _, rfl, rfl, ?_⟩
    refine ⟨a, r1, kd, L, d, c, Ds, xs, _, ?_, X.keeps S1, R1, ok.behind hj false, by omega, fun H2 xs2 B2 X2 g2 => ?_⟩
    · show [V.ref a, V.ref r1, V.int (((n + 1 : Nat) : Int) - 1)] = _
      rw [show ((n + 1 : Nat) : Int) - 1 = (n : Int) by omega]
    have B02 : But kd H H2 := (Same.but S1).trans B2
    obtain ⟨dx2, ha2⟩ := id X2.o
    -- passed
    refine ⟨_, rfl, a, dx2, _, rfl, ha2, (hno _ _ _ _).2.1, _, rfl, a, dx2, _, rfl, ha2, (hno _ _ _ _).2.2, _, rfl, _, rfl, a, t, L, kd, d, c, Ds, W, n + 1, j, true, rfl, X2.o, X2.s, X.wAt B02 R, ok, hj, fun H3 r3 S3 R3 => ?_⟩
    refine ⟨_, rfl, _, _, rfl, rfl, ?_⟩
    refine ⟨a, r3, kd, L, d, c, Ds, xs2, _, ?_, X2.keeps S3, R3, ok.behind hj true, by have := g2.2; omega, fun H4 xs4 B4 X4 g4 => ?_⟩
    · show [V.ref a, V.ref r3, V.int (((n + 1 : Nat) : Int) - 1)] = _
      rw [show ((n + 1 : Nat) : Int) - 1 = (n : Int) by omega]
    refine ⟨_, rfl, _, rfl, _, _, rfl, rfl, _, rfl, _, _, rfl, rfl, ?_⟩
    exact q _ xs4 (B02.trans ((Same.but S3).trans B4)) X4 ((g2.trans g4).mono (Nat.le_refl _) (by omega))
abbrev nBg : List Str := ["self", "weights", "tries", "costs", "number"]
theorem scBg : FnScope nBg ["self", "weights", "tries"] (defScope sBeginnings) := ⟨rfl, rfl, rfl, by decide +kernel, rfl, by decide +kernel, by decide +kernel⟩
theorem ok_beg0 (N : WaysFns K C Cs fA fV fSc fSt fB fT fG fL dA dV dSc dSt dB dT dG dL) (T : WaysTxt K mg C) (Ts : SusTxt K mg Cs) : FnOk P w K mg base CX0 3 fG dG ["self", "weights", "tries"] (spBeg P w C Cs 0) := by
  have GS : FnOk P w K mg base CX0 2 fSt dSt ["self", "weights", "tries"] (spStopping C Cs) := ok_stopping N.FSt T Ts N.FV N.bV N.mV N.FSc N.bSc N.mSc
  refine N.FG.ok scBg (fun vs H Q E h => ?_) (fun cdv A outer s H vs Q E hr h => ?_)
  · obtain ⟨a, t, kd, L, d, c, Ds, xs, W, rfl, _⟩ := h
    rfl
  · obtain ⟨a, t, kd, L, d, c, Ds, xs, W, rfl, X, R, ok, hx, q⟩ := h
    refine ⟨_, pss_cons (ps_set (i := 3) scBg.nd rfl (Or.inl rfl) (pe_lst (pa_cons (pe_meth (pv 0) T.cl N.mSt GS hr N.bSt .nil pass0 (pa_cons (pv 1) (pa_cons (pv 2) pa_nil))) pa_nil)))
      (pss_cons (ps_if (pt_cmpR op_gt (pv 2) pe_int (nomark _)) (pss_one ps_never) pss_nil)
      (pss_one (ps_ret (pv 3)))), ?_⟩
    obtain ⟨dx, ha⟩ := id X.o
    refine ⟨_, rfl, a, dx, _, rfl, ha, wayF_no _ _ _ _ (by decide +kernel) (by decide +kernel) (by decide +kernel) (by decide +kernel), _, rfl, _, rfl, a, t, L, kd, d, c, Ds, W, 0, rfl, X.o, X.s, R, ok, by decide, fun H1 S1 => ?_⟩
    refine ⟨(by show 1 ≤ sizeLine; decide), fun r hr1 => ?_⟩
    refine ⟨_, rfl, _, _, rfl, rfl, _, rfl, ?_⟩
    refine itec (fun h1 => ?_) (fun h1 => ?_)
    · exact absurd (of_decide_eq_true h1) (by decide)
    · refine ⟨_, rfl, ?_⟩
      have S2 : Same H (upd H1 r (.lst [.int (stopping d Ds W 0)])) := Same.step S1 (Same.new hr1)
      exact q _ r xs (Same.but S2) (X.keeps S2) Grow.refl (S1.free hr1) upd_same
theorem ok_beg {n k : Nat} (N : WaysFns K C Cs fA fV fSc fSt fB fT fG fL dA dV dSc dSt dB dT dG dL) (T : WaysTxt K mg C) (Ts : SusTxt K mg Cs) (hn : n + 1 ≤ 4) (hk : 2 ≤ k)
    (GT : FnOk P w K mg base CX0 k fT dT ["self", "number", "weights", "tries"] (spTrying P w C Cs n)) : FnOk P w K mg base CX0 (k + 1) fG dG ["self", "weights", "tries"] (spBeg P w C Cs (n + 1)) := by
  have GS : FnOk P w K mg base CX0 2 fSt dSt ["self", "weights", "tries"] (spStopping C Cs) := ok_stopping N.FSt T Ts N.FV N.bV N.mV N.FSc N.bSc N.mSc
  refine N.FG.ok scBg (fun vs H Q E h => ?_) (fun cdv A outer s H vs Q E hr h => ?_)
  · obtain ⟨a, t, kd, L, d, c, Ds, xs, W, rfl, _⟩ := h
    rfl
  · obtain ⟨a, t, kd, L, d, c, Ds, xs, W, rfl, X, R, ok, hx, q⟩ := h
    have hr2 : Room 2 _ := hr.mono hk
    refine ⟨_, pss_cons (ps_set (i := 3) scBg.nd rfl (Or.inl rfl) (pe_lst (pa_cons (pe_meth (pv 0) T.cl N.mSt GS hr2 N.bSt .nil pass0 (pa_cons (pv 1) (pa_cons (pv 2) pa_nil))) pa_nil)))
      (pss_cons (ps_if (pt_cmpR op_gt (pv 2) pe_int (nomark _))
        (pss_one (ps_for PassesOwn.never rfl (pi_range1 rfl T.rng (pa_cons (pe_callB call_len_seq (by rfl) T.len PySem.boot_len (pa_cons (pe_fld (pv 0) rfl) pa_nil)) pa_nil)) (pg_name (i := 4) scBg.nd rfl (Or.inl rfl))
          (pss_one (ps_expr (pe_bm PySem.F.plainAttrs_list PySem.F.slot_list_append PySem.F.type_list_append mt_append (pv 3) (pa_cons (pe_meth (pv 0) T.cl N.mT GT hr N.bT .nil pass0 (pa_cons (pv 4) (pa_cons (pv 1) (pa_cons (pv 2) pa_nil)))) pa_nil)))))) pss_nil)
      (pss_one (ps_ret (pv 3)))), ?_⟩
    obtain ⟨dx, ha⟩ := id X.o
    have hlen := ok.len
    have h3 := ok.most
    refine ⟨_, rfl, a, dx, _, rfl, ha, wayF_no _ _ _ _ (by decide +kernel) (by decide +kernel) (by decide +kernel) (by decide +kernel), _, rfl, _, rfl, a, t, L, kd, d, c, Ds, W, n + 1, rfl, X.o, X.s, R, ok, hn, fun H1 S1 => ?_⟩
    refine ⟨(by show 1 ≤ sizeLine; decide), fun r hr1 => ?_⟩
    have S2 : Same H (upd H1 r (.lst [.int (stopping d Ds W (n + 1))])) := Same.step S1 (Same.new hr1)
    have X2 := X.keeps S2
    refine ⟨_, rfl, _, _, rfl, rfl, _, rfl, ?_⟩
    refine itec (fun h1 => ?_) (fun h1 => ?_)
    · obtain ⟨ss, hL, hss⟩ := id X2.s
      obtain ⟨dx2, ha2⟩ := id X2.o
      have e1 : (ss.map V.ref).length = Ds.length := by rw [List.length_map]; exact Paired.length hss
      refine ⟨_, rfl, a, C, dx2, _, _, rfl, ha2, T.cl, T.nS, wayF_s _ _ _ _, L, _, rfl, .inl (SqL.of hL), ?_⟩
      rw [e1]
      refine ⟨_, rfl, by omega, by omega, for_range (n := Ds.length) (fun i σ H' => ∃ (v : Option V) (xs' : List Ent), σ = [some (.ref a), some (.ref t), some (.int ((n + 1 : Nat) : Int)), some (.ref r), v] ∧
        But kd H H' ∧ WaysAt P w C Cs H' a kd d c L Ds xs' ∧ Grow (n + 1) (i * (2 * Bn n)) xs xs' ∧ H' r = some (.lst ((stopping d Ds W (n + 1) :: (List.range i).map fun j => trying d c Ds n j W).map V.int))) ?_ ?_ ?_⟩
      · exact ⟨none, xs, rfl, Same.but S2, X2, Grow.refl, upd_same⟩
      · rintro i σ H' hi ⟨v, xs', rfl, B3, X3, g3, h3r⟩
        obtain ⟨dx3, ha3⟩ := id X3.o
        have hb : i * (2 * Bn n) ≤ 2 * (2 * Bn n) := Nat.mul_le_mul_right _ (by omega)
        have hBB : BB (n + 1) = 6 * Bn n := rfl
        refine ⟨_, rfl, .inl ⟨rfl, _, SqL.of h3r⟩, _, rfl, a, dx3, _, rfl, ha3, wayF_no _ _ _ _ (by decide +kernel) (by decide +kernel) (by decide +kernel) (by decide +kernel), _, rfl, _, rfl, _, rfl, a, t, kd, L, d, c, Ds, xs', W, i, ?_, X3, X.wAt B3 R, ok, by omega,
          by have := g3.2; omega, fun H4 xs4 B4 X4 g4 => ?_⟩
        · show [V.ref a, V.int (0 + (i : Int)), V.ref t, _] = _
          rw [Int.zero_add]
        have nrk : r ≠ kd := ne_of h3r X3.n.1 fun z => nomatch z
        have h4r := B4 _ _ h3r nrk
        refine ⟨r, _, _, rfl, rfl, h4r, ?_, ?_⟩
        · rw [List.length_map, List.length_cons, List.length_map, List.length_range]
          exact Nat.lt_of_le_of_lt (show i + 1 ≤ 1000 by omega) (by decide)
        obtain ⟨X5, B5⟩ := X4.lst (l' := (stopping d Ds W (n + 1) :: (List.range i).map fun j => trying d c Ds n j W).map V.int ++ [.int (trying d c Ds n i W)]) X (B3.trans B4) (S1.free hr1) h4r
        refine ⟨_, xs4, rfl, B5, X5, (g3.trans g4).mono (Nat.le_refl _) (Nat.le_of_eq (Nat.succ_mul i (2 * Bn n)).symm), ?_⟩
        rw [upd_same, List.range_succ, List.map_append, List.map_cons, List.map_cons, List.map_append]
        rfl
      · rintro σ H' ⟨v, xs', rfl, B3, X3, g3, h3r⟩
        refine ⟨_, rfl, ?_⟩
        have hBB : BB (n + 1) = 6 * Bn n := rfl
        have hb : Ds.length * (2 * Bn n) ≤ 3 * (2 * Bn n) := Nat.mul_le_mul_right _ h3
        exact q _ r xs' B3 X3 (g3.mono (Nat.le_refl _) (by omega)) (S1.free hr1) h3r
    · have := of_decide_eq_false h1
      exact absurd (show (0 : Int) < ((n + 1 : Nat) : Int) by omega) this
abbrev nLe : List Str := ["self", "weights", "tries", "place"]
theorem scLe : FnScope nLe ["self", "weights", "tries"] (defScope sLeast) := ⟨rfl, rfl, rfl, by decide +kernel, rfl, by decide +kernel, by decide +kernel⟩
theorem ok_least {n k : Nat} (N : WaysFns K C Cs fA fV fSc fSt fB fT fG fL dA dV dSc dSt dB dT dG dL) (T : WaysTxt K mg C)
    (GG : FnOk P w K mg base CX0 k fG dG ["self", "weights", "tries"] (spBeg P w C Cs n)) : FnOk P w K mg base CX0 (k + 1) fL dL ["self", "weights", "tries"] (spLeast P w C Cs n) := by
  refine N.FL.ok scLe (fun vs H Q E h => ?_) (fun cdv A outer s H vs Q E hr h => ?_)
  · obtain ⟨a, t, kd, L, d, c, Ds, xs, W, rfl, _⟩ := h
    rfl
  · obtain ⟨a, t, kd, L, d, c, Ds, xs, W, rfl, X, R, ok, hx, q⟩ := h
    have hu : ((A.deeper (envOfC ("Ways.least" : Str) (defScope sLeast) s.heap.objs.size fL cdv)).units) + 10 < cLine := Nat.lt_of_le_of_lt (Nat.add_le_add_left (by decide : 10 ≤ 64) _) hr.units
    refine ⟨_, pss_cons (ps_set (i := 3) scLe.nd rfl (Or.inl rfl) (pe_tup (pa_cons (pv 1) (pa_cons (pv 2) pa_nil))))
      (pss_cons (ps_if (pt_cmp (pc_nnotin hu (pv 3) (pe_fld (pv 0) rfl)) rfl)
        (pss_one (ps_nput hu (pe_fld (pv 0) rfl) (pv 3) (pe_callB (cr_min rfl) (by rfl) T.min (by decide +kernel) (pa_cons (pe_meth (pv 0) T.cl N.mG GG hr N.bG .nil pass0 (pa_cons (pv 1) (pa_cons (pv 2) pa_nil))) pa_nil)) rfl)) pss_nil)
      (pss_one (ps_ret (pe_nget hu (pe_fld (pv 0) rfl) (pv 3) (fun _ _ => rfl))))), ?_⟩
    refine ⟨_, rfl, _, rfl, (by show 2 ≤ sizeLine; decide), fun b hb => ?_⟩
    have S1 : Same H (upd H b (.tup [.ref t, .int (n : Int)])) := Same.new hb
    have X1 := X.keeps S1
    have R1 := R.keeps S1
    have key1 : KeyAt (upd H b (.tup [.ref t, .int (n : Int)])) b (W, (n : Int)) := ⟨t, upd_same, R1⟩
    obtain ⟨dx1, ha1⟩ := id X1.o
    refine ⟨_, rfl, _, rfl, a, C, dx1, _, _, rfl, ha1, T.cl, T.nK, wayF_k _ _ _ _, kd, b, xs, (W, (n : Int)), rfl, rfl, X1.n, key1, _, rfl, ?_⟩
    refine itec (fun h1 => ?_) (fun h1 => ?_)
    · have l1 : lookN xs (W, (n : Int)) = none := by
        cases z : lookN xs (W, (n : Int)) with
        | none => rfl
        | some v => rw [z] at h1; cases h1
      have hBn := Bn_eq n
      refine ⟨_, rfl, a, dx1, _, rfl, ha1, wayF_no _ _ _ _ (by decide +kernel) (by decide +kernel) (by decide +kernel) (by decide +kernel), _, rfl, _, rfl, a, t, kd, L, d, c, Ds, xs, W, rfl, X1, R1, ok, by omega, fun H2 r xs2 B2 X2 g2 hr2 h2 => ?_⟩
      refine ⟨r, _, rfl, SqL.of h2, List.length_pos_iff.mpr (beginnings_ne _ _ _ _ _), fun m hm hle => ?_⟩
      have em : m = least d c Ds n W := by rw [least_eq, imin_eq ⟨hm, hle⟩]
      obtain ⟨dx2, ha2⟩ := id X2.o
      have key2 : KeyAt H2 b (W, (n : Int)) := B2.keyAt (φ := DnIs P w kd xs) X1.n.1 key1
      have l2 : lookN xs2 (W, (n : Int)) = none := look_none fun e he z => by
        rcases g2.1 e he with y | y
        · exact look_not l1 e y z
        · rw [z] at y
          exact absurd y (by show ¬ ((n : Nat) : Int) < (n : Int); omega)
      have hz : xs2.length < sizeLine := Nat.lt_of_le_of_lt (show xs2.length ≤ 100000 by have := g2.2; omega) (by decide)
      refine ⟨_, rfl, a, C, dx2, _, _, rfl, ha2, T.cl, T.nK, wayF_k _ _ _ _, _, rfl, kd, b, xs2, (W, (n : Int)), m, rfl, rfl, rfl, X2.n, key2, l2, hz, ?_⟩
      have X3 := X2.put (b := b) (m := m) key2 em
      obtain ⟨dx3, ha3⟩ := id X3.o
      have key3 := (But.upd (H := H2) (a := kd) (o := DnO P w kd (xs2 ++ [((W, (n : Int)), b, m)]))).keyAt (φ := DnIs P w kd xs2) X2.n.1 key2
      refine ⟨_, rfl, a, C, dx3, _, _, rfl, ha3, T.cl, T.nK, wayF_k _ _ _ _, _, rfl, kd, b, _, (W, (n : Int)), m, rfl, rfl, X3.n, key3, look_snoc l2, ?_⟩
      rw [em] at X3 ⊢
      refine q _ _ ((Same.but S1).trans (B2.trans But.upd)) X3 ⟨fun e he => ?_, ?_⟩
      · rcases List.mem_append.mp he with he | he
        · exact (g2.1 e he).imp id fun z => by omega
        · rw [List.mem_singleton.mp he]
          exact .inr (show ((n : Nat) : Int) < ((n + 1 : Nat) : Int) by omega)
      · rw [List.length_append, List.length_singleton]
        have := g2.2
        omega
    · obtain ⟨v, l1⟩ : ∃ v, lookN xs (W, (n : Int)) = some v := by
        cases z : lookN xs (W, (n : Int)) with
        | none => rw [z] at h1; cases h1
        | some v => exact ⟨v, rfl⟩
      refine ⟨_, rfl, a, C, dx1, _, _, rfl, ha1, T.cl, T.nK, wayF_k _ _ _ _, _, rfl, kd, b, xs, (W, (n : Int)), v, rfl, rfl, X1.n, key1, l1, ?_⟩
      rw [X1.look l1]
      exact q _ xs (Same.but S1) X1 Grow.refl
/-! ### all of it -/
theorem ok_leastAll (N : WaysFns K C Cs fA fV fSc fSt fB fT fG fL dA dV dSc dSt dB dT dG dL) (T : WaysTxt K mg C) (Ts : SusTxt K mg Cs) : ∀ n, n ≤ 4 → FnOk P w K mg base CX0 (4 + 3 * n) fL dL ["self", "weights", "tries"] (spLeast P w C Cs n)
  | 0, _ => ok_least N T (ok_beg0 N T Ts)
  | n + 1, h => ok_least N T (ok_beg (k := 4 + 3 * n + 1) N T Ts h (by omega) (ok_trying N T Ts h (by omega) (ok_leastAll N T Ts n (by omega))))
theorem ok_begAll (N : WaysFns K C Cs fA fV fSc fSt fB fT fG fL dA dV dSc dSt dB dT dG dL) (T : WaysTxt K mg C) (Ts : SusTxt K mg Cs) : ∀ n, n ≤ 4 → FnOk P w K mg base CX0 (3 + 3 * n) fG dG ["self", "weights", "tries"] (spBeg P w C Cs n)
  | 0, _ => ok_beg0 N T Ts
  | n + 1, h => by
    rw [show 3 + 3 * (n + 1) = 4 + 3 * n + 1 + 1 by omega]
    exact ok_beg N T Ts h (by omega) (ok_trying N T Ts h (by omega) (ok_leastAll N T Ts n (by omega)))
end
end Ta
end
section
set_option Elab.async false
set_option maxRecDepth 100000
set_option maxHeartbeats 2000000
set_option linter.all false
/-! answers: the loop over the calls; how a house lies in the heap is left open -/
namespace Ta
open PySem PySem.Spec PyProof.Rows L2
/-- how a house lies in the heap: what it owns (lists and instances), where it is -/
abbrev HP := Hp → List Addr → Addr → Rp06.House → Prop
/-- it leans on what it owns and on tuples alone -/
def HP.Keeps (HA : HP) : Prop := ∀ H H' S h st, HA H S h st → (∀ b o, b ∈ S → H b = some o → H' b = some o) → (∀ b xs, H b = some (.tup xs) → H' b = some (.tup xs)) → HA H' S h st
def HP.There (HA : HP) : Prop := ∀ H S h st, HA H S h st → ∀ b ∈ S, ∃ o, H b = some o
/-- what is not owned stands; what is owned then was, or is new -/
def Fr (S : List Addr) (H : Hp) (S' : List Addr) (H' : Hp) : Prop := (∀ b o, H b = some o → b ∉ S → H' b = some o) ∧ ∀ b ∈ S', b ∈ S ∨ H b = none
def spHInit (HA : HP) (C : Addr) : Sp := fun vs H Q _ => ∃ (p dx : Addr), vs = [.ref p] ∧ H p = some (.ins C dx []) ∧ ∀ H' S, But p H H' → (∀ b ∈ S, b = p ∨ H b = none) → HA H' S p Rp06.init → Q .non H'
def spCall (HA : HP) : Sp := fun vs H Q _ => ∃ (h nl ll : Addr) (S : List Addr) (st : Rp06.House) (p : Int) (ns : List Int) (ps : List Addr) (xs : List (List Int)), vs = [.ref h, .int p, .ref nl, .ref ll] ∧ HA H S h st ∧ HouseOk st ∧
  H nl = some (.lst (ns.map V.int)) ∧ nl ∉ S ∧ H ll = some (.lst (ps.map V.ref)) ∧ ll ∉ S ∧ Paired (fun p x => p ∉ S ∧ H p = some (.lst (x.map V.int))) ps xs ∧ PyRp06.fits ((p :: ns) :: xs) = true ∧
  ∀ H' S' r, Fr S H S' H' → HA H' S' h (Rp06Neutral.step st ((p :: ns) :: xs)).1 → r ∉ S' → H r = none → H' r = some (.lst ((Rp06Neutral.step st ((p :: ns) :: xs)).2.map V.int)) → Q (.ref r) H'
def spAnswers (K : PySem.W.Frag) : Sp := fun vs H Q _ => ∃ (a : Addr) (ns : List Int), vs = [.ref a] ∧ SqL K H a (ns.map V.int) ∧ ns.length ≤ 5700 ∧ PyRp06.answers_asked ns = true ∧
  ∀ (H' : Hp) (p : Addr), H' p = some (.lst ((PyRp06.answers ns).map V.int)) → Q (.ref p) H'
/-! ### the mathematics of the line -/
theorem told_cons (a : List Int) (l : List (List Int)) : PyFlat.told (a :: l) = ((a.length : Int) :: a) ++ PyFlat.told l := rfl
theorem put_nil {cs : List (List (List Int))} (h : ∀ c ∈ cs, PyWide.okCall c) (e : PyWide.put cs = []) : cs = [] := by
  cases cs with
  | nil => rfl
  | cons c r =>
    obtain ⟨p, ns, xs, rfl⟩ := h c List.mem_cons_self
    exact nomatch (show p :: _ = [] from e)
theorem put_head (p : Int) (ns : List Int) (xs : List (List Int)) (r : List (List (List Int))) : PyWide.put (((p :: ns) :: xs) :: r) = p :: (PyFlat.putRow ns ++ ((xs.length : Int) :: (PyFlat.putRows xs ++ PyWide.put r))) :=
  PyWide.put1_append p ns xs (PyWide.put r)
theorem step_ok {st : Rp06.House} (h : HouseOk st) (c : List (List Int)) : HouseOk (Rp06Neutral.step st c).1 := by
  unfold Rp06Neutral.step
  cases Rp06Neutral.callOf c with
  | none => exact h
  | some x => exact h.step x
theorem asked_parts {ns : List Int} (h : PyRp06.answers_asked ns = true) : ∃ cs, ns = PyWide.put cs ∧ (∀ c ∈ cs, PyWide.okCall c) ∧ (∀ c ∈ cs, PyRp06.fits c = true) ∧ PyRp06.answers ns = PyFlat.told (PyFlat.played Rp06Neutral.step Rp06.init cs) ∧ (PyRp06.answers ns).length ≤ 10000000 := by
  unfold PyRp06.answers_asked at h
  cases e : PyRp06.calls ns with
  | none => rw [e] at h; cases h
  | some cs =>
    rw [e] at h
    simp only [Bool.and_eq_true, List.all_eq_true, PyFlat.short, decide_eq_true_eq] at h
    obtain ⟨h1, h2⟩ := PyWide.put_calls _ _ _ (show PyWide.calls ns.length ns = some cs from e)
    refine ⟨cs, h1, h2, h.1.1.1.2, ?_, h.2⟩
    unfold PyRp06.answers
    rw [e]
    rfl
/-- between two calls -/
structure LoopI (HA : HP) (CR : Addr) (H0 H : Hp) (a rd h td : Addr) (ns A : List Int) (rest : List (List (List Int))) (st : Rp06.House) (tl : List Int) (S : List Addr) : Prop where
  same : Same H0 H
  fr : H0 rd = none
  ft : H0 td = none
  fs : ∀ b ∈ S, H0 b = none
  rS : rd ∉ S
  tS : td ∉ S
  rdr : RdAt CR H rd a ns (PyWide.put rest)
  ha : HA H S h st
  ok : HouseOk st
  told : H td = some (.lst (tl.map V.int))
  an : tl ++ PyFlat.told (PyFlat.played Rp06Neutral.step st rest) = A
  okc : ∀ c ∈ rest, PyWide.okCall c
  fit : ∀ c ∈ rest, PyRp06.fits c = true
section
variable {P : Program} {w : World} {K : PySem.W.Frag} {mg : Str → Option Value} {base : Heap}
structure AnsTxt (mg : Str → Option Value) (CR CH fC : Addr) : Prop where
  len : mg "len" = none
  gR : mg "Reader" = some (.ref CR)
  gH : mg "House" = some (.ref CH)
  gC : mg "answer_call" = some (.ref fC)
structure RdFns (K : PySem.W.Frag) (CR fI fE fN fL fS : Addr) (dI dE dN dL dS : FuncData) : Prop where
  mk_ : Mk K CR fI
  FI : Fun K "__init__" "Reader.__init__" sRdInit fI dI
  bI : Binds K dI ["self", "numbers"] []
  FE : Fun K "at_end" "Reader.at_end" sAtEnd fE dE
  bE : Binds K dE ["self"] []
  mE : Meth K CR "at_end" fE
  FN : Fun K "take_number" "Reader.take_number" sTakeNumber fN dN
  bN : Binds K dN ["self"] []
  mN : Meth K CR "take_number" fN
  FL : Fun K "take_list" "Reader.take_list" sTakeList fL dL
  bL : Binds K dL ["self"] []
  mL : Meth K CR "take_list" fL
  FS : Fun K "take_lists" "Reader.take_lists" sTakeLists fS dS
  bS : Binds K dS ["self"] []
  mS : Meth K CR "take_lists" fS
abbrev nAn : List Str := ["calls", "reader", "house", "told", "call", "numbers", "lists", "answer"]
theorem scAn : FnScope nAn ["calls"] (defScope sAnswers) := ⟨rfl, rfl, rfl, by decide +kernel, rfl, by decide +kernel, by decide +kernel⟩
theorem ok_answers {HA : HP} {f CR CH fI fE fN fL fS fH fC : Addr} {fd dI dE dN dL dS dH dC : FuncData} {k : Nat} (F : Fun K "answers" "answers" sAnswers f fd) (T : RdTxt K mg CR) (TA : AnsTxt mg CR CH fC) (N : RdFns K CR fI fE fN fL fS dI dE dN dL dS)
    (hHA : HA.Keeps) (hTh : HA.There) (MH : Mk K CH fH) (GH : FnOk P w K mg base CX0 1 fH dH ["self"] (spHInit HA CH)) (bH : Binds K dH ["self"] []) (hk : 3 ≤ k)
    (GC : FnOk P w K mg base CX0 k fC dC ["house", "call", "numbers", "lists"] (spCall HA)) (kC : PySem.W.keepIn K (.ref fC) = true) (bC : Binds K dC ["house", "call", "numbers", "lists"] []) : FnOk P w K mg base CX0 (k + 1) f fd ["calls"] (spAnswers K) := by
  have GI : FnOk P w K mg base CX0 1 fI dI ["self", "numbers"] (spRdInit CR) := ok_rdInit N.FI T
  have GE : FnOk P w K mg base CX0 1 fE dE ["self"] (spAtEnd K CR) := ok_atEnd N.FE T
  have GN : FnOk P w K mg base CX0 1 fN dN ["self"] (spTakeNumber K CR) := ok_takeNumber N.FN T
  have GL : FnOk P w K mg base CX0 2 fL dL ["self"] (spTakeList K CR) := ok_takeList N.FL T N.FN N.bN N.mN
  have GS : FnOk P w K mg base CX0 3 fS dS ["self"] (spTakeLists K CR) := ok_takeLists N.FS T N.FN N.bN N.mN N.FL N.bL N.mL
  refine F.ok scAn (fun vs H Q E h => ?_) (fun cdv A outer s H vs Q E hr h => ?_)
  · obtain ⟨a, ns, rfl, _⟩ := h
    rfl
  · obtain ⟨a, ns, rfl, hs, hlen, hask, q⟩ := h
    have hr1 : Room 1 _ := hr.mono (by omega)
    have hr2 : Room 2 _ := hr.mono (by omega)
    have hr3 : Room 3 _ := hr.mono hk
    refine ⟨_, pss_cons (ps_set (i := 1) scAn.nd rfl (Or.inl rfl) (pe_make N.mk_ GI hr2 rfl TA.gR N.bI .nil pass0 (pa_cons (pv 0) pa_nil)))
      (pss_cons (ps_set (i := 2) scAn.nd rfl (Or.inl rfl) (pe_make0 MH GH hr2 rfl TA.gH bH .nil pass0))
      (pss_cons (ps_set (i := 3) scAn.nd rfl (Or.inl rfl) (pe_lst pa_nil))
      (pss_cons (ps_while PassesOwn.never (pt_not (pt_val (pe_meth0 (pv 1) T.cl N.mE GE hr1 N.bE .nil pass0)))
        (pss_cons (ps_set (i := 4) scAn.nd rfl (Or.inl rfl) (pe_meth0 (pv 1) T.cl N.mN GN hr1 N.bN .nil pass0))
        (pss_cons (ps_set (i := 5) scAn.nd rfl (Or.inl rfl) (pe_meth0 (pv 1) T.cl N.mL GL hr2 N.bL .nil pass0))
        (pss_cons (ps_set (i := 6) scAn.nd rfl (Or.inl rfl) (pe_meth0 (pv 1) T.cl N.mS GS hr3 N.bS .nil pass0))
        (pss_cons (ps_set (i := 7) scAn.nd rfl (Or.inl rfl) (pe_call GC hr rfl TA.gC kC bC .nil pass0 (pa_cons (pv 2) (pa_cons (pv 4) (pa_cons (pv 5) (pa_cons (pv 6) pa_nil))))))
        (pss_cons (ps_expr (pe_bm PySem.F.plainAttrs_list PySem.F.slot_list_append PySem.F.type_list_append mt_append (pv 3) (pa_cons (pe_callB call_len_seq (by rfl) TA.len PySem.boot_len (pa_cons (pv 7) pa_nil)) pa_nil)))
        (pss_one (ps_expr (pe_bm PySem.F.plainAttrs_list PySem.F.slot_list_extend PySem.F.type_list_extend mt_extend (pv 3) (pa_cons (pv 7) pa_nil))))))))))
      (pss_one (ps_ret (pv 3)))))), ?_⟩
    obtain ⟨cs, hput, hok, hfit, hans, hsz⟩ := asked_parts hask
    -- reader, house, told
    refine ⟨_, rfl, fun x dx nx ndx nex => ?_⟩
    refine ⟨x, dx, a, ns, rfl, upd_same, fun H1 R1 B1 => ⟨rfl, ?_⟩⟩
    have s1 : Same H H1 := Same.made nx ndx B1
    intro y dy ny ndy ney
    refine ⟨y, dy, rfl, upd_same, fun H2 S B2 hS hA2 => ⟨rfl, ?_⟩⟩
    have s2 : Same H1 H2 := Same.made ny ndy B2
    refine ⟨Nat.zero_le _, fun td htd => ?_⟩
    obtain ⟨dxr, ir, hrd, hdr, hir⟩ := id R1
    have hx1 : H2 x = some (.ins CR dxr (rdF a ir)) := s2 _ _ hrd
    have nxt : x ≠ td := ne_of_none hx1 htd
    have fS : ∀ b ∈ S, H1 b = none := fun b hb => by
      rcases hS b hb with e | e
      · rw [e]; exact ny
      · cases z : H1 b with
        | none => rfl
        | some o =>
          have nby : b ≠ y := fun e' => by rw [e', ny] at z; cases z
          have nbd : b ≠ dy := fun e' => by rw [e', ndy] at z; cases z
          rw [upd_ne nby, upd_ne nbd, z] at e
          cases e
    refine ⟨fun m σ H' => ∃ rest st tl S v4 v5 v6 v7, m = rest.length ∧ σ = [some (.ref a), some (.ref x), some (.ref y), some (.ref td), v4, v5, v6, v7] ∧ LoopI HA CR H H' a x y td ns (PyRp06.answers ns) rest st tl S,
      ⟨_, cs, Rp06.init, [], S, none, none, none, none, rfl, rfl, ?_⟩, ?_⟩
    · refine ⟨Same.step s1 (Same.step s2 (Same.new htd)), nx, (Same.step s1 s2).free htd, fun b hb => s1.free (fS b hb), fun h => ?_, fun h => ?_, ?_, ?_, HouseOk.init, upd_same, ?_, hok, hfit⟩
      · rw [fS x h] at hrd; cases hrd
      · obtain ⟨o, e⟩ := hTh _ _ _ _ hA2 td h
        rw [htd] at e; cases e
      · refine ⟨dxr, ir, (upd_ne nxt).trans hx1, ?_, hir⟩
        rw [hdr, ← hput]
      · refine hHA _ _ _ _ _ hA2 (fun b o hb e => ?_) (fun b xs e => (upd_ne (ne_of_none e htd)).trans e)
        exact (upd_ne (ne_of_none e htd)).trans e
      · rw [hans]; rfl
    · rintro m σ H' ⟨rest, st, tl, S, v4, v5, v6, v7, rfl, rfl, I⟩
      obtain ⟨dxr, ir, hrd, hdr, hir⟩ := id I.rdr
      have no : ∀ {m : Str}, (m == "numbers") = false → (m == "place") = false → (rdF a ir).lookup m = none := fun h1 h2 => rdF_no _ _ h1 h2
      refine ⟨_, rfl, x, dxr, _, rfl, hrd, no (by decide +kernel) (by decide +kernel), x, a, ns, _, rfl, I.rdr, I.same.seq hs, _, rfl, ?_⟩
      refine itec (fun h1 => ?_) (fun h1 => ?_)
      · have hne := notd h1
        cases rest with
        | nil => exact absurd rfl hne
        | cons c rest =>
          obtain ⟨p, ns', xs, rfl⟩ := I.okc c List.mem_cons_self
          have I1 := I.rdr
          rw [put_head] at I1
          refine ⟨fun σ' H'' => ∃ st tl S v4 v5 v6 v7, σ' = [some (.ref a), some (.ref x), some (.ref y), some (.ref td), v4, v5, v6, v7] ∧ LoopI HA CR H H'' a x y td ns (PyRp06.answers ns) rest st tl S,
            fun σ' H'' ⟨st, tl, S, v4, v5, v6, v7, e, J⟩ => ⟨rest.length, Nat.lt_succ_self _, rest, st, tl, S, v4, v5, v6, v7, rfl, e, J⟩, ?_⟩
          -- call = reader.take_number()
          refine ⟨_, rfl, x, dxr, _, rfl, hrd, no (by decide +kernel) (by decide +kernel), x, a, ns, _, p, rfl, I1, I.same.seq hs, fun H1 R1 B1 => ?_⟩
          obtain ⟨dx1, i1, hx1, _, _⟩ := id R1
          have hs1 : SqL K H1 a (ns.map V.int) := B1.seq hrd (I.same.seq hs)
          -- numbers = reader.take_list()
          refine ⟨_, rfl, x, dx1, _, rfl, hx1, rdF_no _ _ (by decide +kernel) (by decide +kernel), x, a, ns, ns', _, rfl, R1, hs1, fun H2 nl R2 B2 fn hn => ?_⟩
          obtain ⟨dx2, i2, hx2, _, _⟩ := id R2
          have hs2 : SqL K H2 a (ns.map V.int) := B2.seq hx1 hs1
          -- lists = reader.take_lists()
          refine ⟨_, rfl, x, dx2, _, rfl, hx2, rdF_no _ _ (by decide +kernel) (by decide +kernel), x, a, ns, xs, _, rfl, R2, hlen, hs2, fun H3 ll ps R3 B3 fl hl hps => ?_⟩
          obtain ⟨dx3, i3, hx3, hd3, hi3⟩ := id R3
          have B13 : But x H' H3 := B1.trans (B2.trans B3)
          have hth := hTh _ _ _ _ I.ha
          have inS : ∀ b ∈ S, ∃ o, H' b = some o ∧ H1 b = some o ∧ H2 b = some o ∧ H3 b = some o := fun b hb => by
            obtain ⟨o, e⟩ := hth b hb
            have nbx : b ≠ x := fun z => I.rS (z ▸ hb)
            exact ⟨o, e, B1 _ _ e nbx, B2 _ _ (B1 _ _ e nbx) nbx, B13 _ _ e nbx⟩
          have hA3 : HA H3 S y st := hHA _ _ _ _ _ I.ha (fun b o hb e => B13 _ _ e fun z => I.rS (z ▸ hb)) (fun b zs e => B13 _ _ e (ne_of e hrd fun z => nomatch z))
          have nlS : nl ∉ S := fun h => by
            obtain ⟨o, _, e, _⟩ := inS nl h
            rw [fn] at e; cases e
          have llS : ll ∉ S := fun h => by
            obtain ⟨o, _, _, e, _⟩ := inS ll h
            rw [fl] at e; cases e
          have psS : Paired (fun p x => p ∉ S ∧ H3 p = some (.lst (x.map V.int))) ps xs := Paired.mapP hps fun b z e => by
            refine ⟨fun h => ?_, e.2⟩
            obtain ⟨o, _, _, e', _⟩ := inS b h
            rw [e.1] at e'
            cases e'
          have nnx : nl ≠ x := fun z => by rw [z, hx1] at fn; cases fn
          have hn3 : H3 nl = some (.lst (ns'.map V.int)) := B3 _ _ hn nnx
          -- answer = answer_call(house, call, numbers, lists)
          refine ⟨_, rfl, _, rfl, _, rfl, _, rfl, y, nl, ll, S, st, p, ns', ps, xs, rfl, hA3, I.ok, hn3, nlS, hl, llS, psS, I.fit _ List.mem_cons_self, fun H4 S4 r F4 hA4 rS4 fr4 hr4 => ?_⟩
          have ntx : td ≠ x := ne_of I.told hrd fun z => nomatch z
          have ht3 : H3 td = some (.lst (tl.map V.int)) := B13 _ _ I.told ntx
          have ht4 := F4.1 _ _ ht3 I.tS
          have hx4 := F4.1 _ _ hx3 I.rS
          have ts4 : td ∉ S4 := fun h => (F4.2 td h).elim I.tS fun e => by rw [ht3] at e; cases e
          have rs4 : x ∉ S4 := fun h => (F4.2 x h).elim I.rS fun e => by rw [hx3] at e; cases e
          have s3 : Same H H3 := fun b o e => B13 _ _ (I.same _ _ e) fun z => by rw [z, I.fr] at e; cases e
          have s4 : Same H H4 := fun b o e => F4.1 _ _ (s3 _ _ e) fun h => by rw [I.fs b h] at e; cases e
          have hlenA : tl.length + (1 + (Rp06Neutral.step st ((p :: ns') :: xs)).2.length) ≤ 10000000 := by
            have := I.an
            rw [PyFlat.played, told_cons] at this
            have := congrArg List.length this
            simp only [List.length_append, List.length_cons] at this
            omega
          have h16 : (10000000 : Nat) < sizeLine := by decide
          have ntr : td ≠ r := fun z => by rw [← z, ht3] at fr4; cases fr4
          refine ⟨_, rfl, .inl ⟨rfl, _, SqL.of ht4⟩, _, rfl, r, _, rfl, .inl (SqL.of hr4), td, _, _, rfl, rfl, ht4, by rw [List.length_map]; omega, ?_⟩
          refine ⟨_, rfl, .inl ⟨rfl, _, SqL.of upd_same⟩, _, rfl, td, r, _, _, rfl, rfl, upd_same, (upd_ne ntr.symm).trans hr4, by simp only [List.length_append, List.length_map, List.length_singleton]; omega, ?_⟩
          refine ⟨(Rp06Neutral.step st ((p :: ns') :: xs)).1, tl ++ (((Rp06Neutral.step st ((p :: ns') :: xs)).2.length : Int) :: (Rp06Neutral.step st ((p :: ns') :: xs)).2), S4, _, _, _, _, rfl, ?_⟩
          rw [upd_upd]
          have up : ∀ b o, b ≠ td → H4 b = some o → ∀ z, upd H4 td z b = some o := fun b o n e z => (upd_ne n).trans e
          refine ⟨fun b o e => up _ _ (fun z => by rw [z, I.ft] at e; cases e) (s4 _ _ e) _, I.fr, I.ft, fun b hb => (F4.2 b hb).elim (I.fs b) fun e => s3.free e, rs4, ts4, ⟨dx3, i3, up _ _ ntx.symm hx4 _, hd3, hi3⟩,
            hHA _ _ _ _ _ hA4 (fun b o hb e => up _ _ (fun z => ts4 (z ▸ hb)) e _) (fun b zs e => up _ _ (ne_of e ht4 fun z => nomatch z) e _), step_ok I.ok _, ?_, ?_, fun c hc => I.okc c (List.mem_cons_of_mem _ hc), fun c hc => I.fit c (List.mem_cons_of_mem _ hc)⟩
          · rw [upd_same]
            simp
          · rw [← I.an, PyFlat.played, told_cons, List.append_assoc]
      · have he := yesd h1
        cases put_nil I.okc he
        refine ⟨_, rfl, q _ td ?_⟩
        rw [I.told, ← I.an]
        simp [PyFlat.played, PyFlat.told]
end
end Ta
end
section
set_option Elab.async false
set_option maxRecDepth 100000
set_option maxHeartbeats 2000000
set_option linter.all false
/-! What the top has written, by words -/
namespace Ta
open PySem PySem.Spec PyProof.Rows L2
/-- a method of the class at C -/
def MOk (K : PySem.W.Frag) (C : Addr) (x qual : Str) (st : Stmt) (ps : List Str) : Prop := ∃ f fd, Fun K x qual st f fd ∧ Binds K fd ps [] ∧ Meth K C x f
/-- how the class at C is made -/
def IOk (K : PySem.W.Frag) (C : Addr) (qual : Str) (st : Stmt) (ps : List Str) : Prop := ∃ f fd, Fun K "__init__" qual st f fd ∧ Binds K fd ps [] ∧ Mk K C f
/-- a def of the module -/
def DOk (K : PySem.W.Frag) (mg : Str → Option Value) (x : Str) (st : Stmt) (ps : List Str) : Prop := ∃ f fd, Fun K x x st f fd ∧ Binds K fd ps [] ∧ mg x = some (.ref f)
section
variable {K : PySem.W.Frag} {mg : Str → Option Value} {C f : Addr} {x qual : Str} {st : Stmt} {ps : List Str} {oc : Value} {od an : Option Addr} {sl : Array (Option Value)} {kV dc pm cd ct : Value}
abbrev BindsBy (x qual : Str) (st : Stmt) (ps : List Str) : Prop := ∀ (kV doc pm : Value) (an : Option Addr) (cdv ct : Value) (us : List Value), us.length = ps.length → bindArgs (PySem.W.fnOf x qual (defArgs st) (defBody st) (defScope st) .none kV doc pm an cdv ct) ⟨us, []⟩ = pure (ps.zip us)
theorem mok_mk (hb : BindsBy x qual st ps) (a : PySem.W.findIn K (.ref C) x = some (some (.ref f))) (i : PySem.W.isFn K (.ref f) = true)
    (l : K.lookup f = some ⟨oc, od, .func (PySem.W.fnOf x qual (defArgs st) (defBody st) (defScope st) .none kV dc pm an cd ct), sl⟩) (c : PySem.W.codeIn K cd qual = true) (k : PySem.W.keepIn K (.ref f) = true) : MOk K C x qual st ps :=
  ⟨f, _, fun_mk l c k, (fun_mk (st := st) l c k).binds hb, a, i, k⟩
theorem iok_mk (hb : BindsBy "__init__" qual st ps) (a : PySem.W.findIn K (.ref C) "__init__" = some (some (.ref f))) (i : PySem.W.isFn K (.ref f) = true)
    (l : K.lookup f = some ⟨oc, od, .func (PySem.W.fnOf "__init__" qual (defArgs st) (defBody st) (defScope st) .none kV dc pm an cd ct), sl⟩) (c : PySem.W.codeIn K cd qual = true) (k : PySem.W.keepIn K (.ref f) = true)
    (mk : PySem.W.makesIn K C = true) (kc : PySem.W.keepIn K (.ref C) = true) : IOk K C qual st ps :=
  ⟨f, _, fun_mk l c k, (fun_mk (st := st) l c k).binds hb, mk, a, i, kc⟩
theorem dok_mk {h : Heap} (X : K.In h) (G : h.Ns mainGlobals mg) (hb : BindsBy x x st ps) (a : PySem.W.nsIn K mainGlobals x = some (some (.ref f)))
    (l : K.lookup f = some ⟨oc, od, .func (PySem.W.fnOf x x (defArgs st) (defBody st) (defScope st) .none kV dc pm an cd ct), sl⟩) (c : PySem.W.codeIn K cd x = true) (k : PySem.W.keepIn K (.ref f) = true) : DOk K mg x st ps :=
  ⟨f, _, fun_mk l c k, (fun_mk (st := st) l c k).binds hb, PySem.W.mg_of X G a⟩
theorem gi_mk {h : Heap} (X : K.In h) (G : h.Ns mainGlobals mg) {n : Int} {t : Tok} (a : PySem.W.nsIn K mainGlobals x = some (some (.int n t))) : GI mg x n := ⟨t, PySem.W.mg_of X G a⟩
theorem cls_mk (pg : PySem.W.plainGet K C Str.empty = true) (hd : PySem.W.hasDictIn K C = true) (po : PySem.W.plainOver K C = true) (sa : PySem.W.findIn K (.ref C) "__setattr__" = some (some (.builtin "object.__setattr__"))) : Cls K C := ⟨pg, hd, po, sa⟩
end
end Ta
end
section
set_option Elab.async false
set_option maxRecDepth 100000
set_option maxHeartbeats 2000000
set_option linter.all false
/-! The mathematics of the house's answers. -/
namespace Ta
open Rp06 (Kind Test House)
theorem verdict_of {d : Nat} {t : Test} (h : t.loss ≠ []) {j : Nat} (f : FirstMin (vCosts (dat t).vd (ws d t)) j) : j = t.verdict d := by
  obtain ⟨m, I, e1, e2⟩ := f
  have F := verdict_first (d := d) h
  have em : m = ((t.least d : Nat) : Int) := I.uniq (least_min h)
  have ev := charge_cast d t _ F.lt
  have hj : j < t.loss.length := by
    have := (List.getElem?_eq_some_iff.mp e1).1
    rwa [vCosts_length] at this
  rcases Nat.lt_trichotomy j (t.verdict d) with c | c | c
  · have b := F.before j c
    rw [charge_cast d t j hj] at e1
    have e1 := Option.some.inj e1
    rw [em] at e1
    unfold Test.least at e1
    omega
  · exact c
  · exact absurd (by rw [ev, em]; rfl) (e2 _ c)
/-! ### scales -/
theorem prodR_bd : ∀ {W : List (List Int)}, AllSmall W → 0 ≤ prodR W ∧ prodR W ≤ 64000000 ^ W.length
  | [], _ => by simp [prodR]
  | u :: r, h => by
    obtain ⟨a0, a1⟩ := prodR_bd (W := r) fun x hx => h x (List.mem_cons_of_mem _ hx)
    have hu := h u List.mem_cons_self
    obtain ⟨b0, b1⟩ := hu.2.sum hu.1
    show 0 ≤ u.sum * prodR r ∧ u.sum * prodR r ≤ 64000000 ^ (r.length + 1)
    refine ⟨Int.mul_nonneg b0 a0, ?_⟩
    rw [Int.pow_succ, Int.mul_comm (64000000 ^ r.length)]
    exact Int.le_trans (Int.mul_le_mul_of_nonneg_left a1 b0) (Int.mul_le_mul_of_nonneg_right b1 (Int.le_of_lt (Int.pow_pos (by decide))))
theorem pow_bd {d : Int} (d0 : 2 ≤ d) (d1 : d ≤ 20) : ∀ n : Nat, 0 < d ^ n ∧ d ^ n ≤ 20 ^ n
  | 0 => by simp
  | n + 1 => by
    obtain ⟨a0, a1⟩ := pow_bd d0 d1 n
    rw [Int.pow_succ, Int.pow_succ]
    refine ⟨Int.mul_pos a0 (by omega), ?_⟩
    exact Int.le_trans (Int.mul_le_mul_of_nonneg_left d1 (Int.le_of_lt a0)) (Int.mul_le_mul_of_nonneg_right a1 (by decide))
theorem int_pow_mono {a : Int} (ha : 1 ≤ a) {n m : Nat} (h : n ≤ m) : a ^ n ≤ a ^ m := by
  obtain ⟨k, rfl⟩ : ∃ k, m = n + k := ⟨m - n, by omega⟩
  clear h
  induction k with
  | zero => exact Int.le_refl _
  | succ k ih =>
    rw [← Nat.add_assoc, Int.pow_succ]
    have p : (0 : Int) < a ^ (n + k) := Int.pow_pos (by omega)
    have := Int.mul_le_mul_of_nonneg_left ha (Int.le_of_lt p)
    omega
theorem scale_bd {d : Int} {n : Nat} {W : List (List Int)} (h : AllSmall W) (hl : W.length ≤ 3) (d0 : 2 ≤ d) (d1 : d ≤ 20) (hn : n ≤ 4) : 0 ≤ scale d W n ∧ (scale d W n).natAbs < 2 ^ 200 := by
  obtain ⟨a0, a1⟩ := prodR_bd h
  obtain ⟨b0, b1⟩ := pow_bd d0 d1 n
  have a2 : prodR W ≤ 64000000 ^ 3 := Int.le_trans a1 (int_pow_mono (by decide) hl)
  have b2 : d ^ n ≤ 20 ^ 4 := Int.le_trans b1 (int_pow_mono (by decide) hn)
  have e : scale d W n = prodR W * d ^ n := by unfold scale; rw [prods_eq]
  have c0 : 0 ≤ scale d W n := by rw [e]; exact Int.mul_nonneg a0 (Int.le_of_lt b0)
  have c1 : scale d W n ≤ 64000000 ^ 3 * 20 ^ 4 := by
    rw [e]
    exact Int.le_trans (Int.mul_le_mul_of_nonneg_left b2 a0) (Int.mul_le_mul_of_nonneg_right a2 (by decide))
  refine ⟨c0, ?_⟩
  have k1 : (64000000 ^ 3 * 20 ^ 4 : Int) = 41943040000000000000000000000 := by decide
  have k2 : (2 : Nat) ^ 200 = 1606938044258990275541962092341162602522202993782792835301376 := by decide
  rw [k1] at c1
  rw [k2]
  omega
theorem all_pos {d : Nat} : ∀ {ts : List Test}, (∀ t ∈ ts, 0 < t.total d) → 0 < Rp06.all d ts
  | [], _ => Nat.one_pos
  | t :: r, h => by
    show 0 < t.total d * Rp06.all d r
    exact Nat.mul_pos (h t List.mem_cons_self) (all_pos fun u hu => h u (List.mem_cons_of_mem _ hu))
theorem HouseOk.scale {st : House} (H : HouseOk st) : 0 < scale (st.whole : Int) (Wof st.whole st.tests) st.left ∧ (Ta.scale (st.whole : Int) (Wof st.whole st.tests) st.left).natAbs < 2 ^ 200 := by
  have w := H.wok
  refine ⟨?_, (scale_bd w.small (by rw [← w.len]; exact w.most) w.d0 w.d1 H.le).2⟩
  rw [← scale_cast]
  have := all_pos H.pos
  have := Nat.mul_pos this (Nat.pow_pos (n := st.left) (show 0 < st.whole by have := H.lo; omega))
  omega
theorem shown_ediv (d n : Nat) (ts : List Test) (u : Nat) : ((Rp06.shown d n ts u : Nat) : Int) = (u : Int) * 1000000 / scale (d : Int) (Wof d ts) n := by
  rw [shown_cast, Int.fdiv_eq_ediv_of_nonneg]
  rw [← scale_cast]
  exact Int.natCast_nonneg _
/-- fewer tries left -/
theorem HouseOk.fewer {st : House} (H : HouseOk st) {n : Nat} (h : n ≤ st.left) : HouseOk { st with left := n } := by
  refine ⟨H.lo, H.hi, H.co, Nat.le_trans h H.le, H.tl, H.ok, H.pos, fun t ht x hx => Nat.le_trans (Nat.mul_le_mul_left _ ?_) (H.bd t ht x hx)⟩
  exact Nat.pow_le_pow_right (by decide) h
/-! ### answers -/
theorem way_out {st : House} (H : HouseOk st) {m : Int} {k : Nat} (I : IsMin m (beginnings (st.whole : Int) (st.cost : Int) (Dof st.tests) st.left (Wof st.whole st.tests)))
    (e1 : (beginnings (st.whole : Int) (st.cost : Int) (Dof st.tests) st.left (Wof st.whole st.tests))[k]? = some m) (e2 : ∀ i, i < k → (beginnings (st.whole : Int) (st.cost : Int) (Dof st.tests) st.left (Wof st.whole st.tests))[i]? ≠ some m) :
    Rp06Neutral.out st.way = if k = 0 then 0 :: ((st.tests.map fun t => ((t.verdict st.whole : Nat) : Int)) ++ [m * 1000000 / scale (st.whole : Int) (Wof st.whole st.tests) st.left]) else [1, (k : Int) - 1, m * 1000000 / scale (st.whole : Int) (Wof st.whole st.tests) st.left] := by
  have em : m = ((Rp06.best st.whole st.cost st.left st.tests : Nat) : Int) := by rw [← best_cast st.left st.tests H.ok, least_eq, imin_eq I]
  subst em
  have hn := next_of_index H.ok e1 e2
  unfold House.way
  rw [hn, ← shown_ediv]
  by_cases c : k = 0
  · rw [if_pos c, if_pos c]
    show (0 : Int) :: List.map _ (_ ++ [_]) = _
    rw [List.map_append, List.map_map]
    rfl
  · rw [if_neg c, if_neg c]
    show [1, ((k - 1 : Nat) : Int), _] = _
    rw [show ((k - 1 : Nat) : Int) = (k : Int) - 1 by omega]
theorem mil_div (a b : Nat) : ((Rp06.MILLION * a / b : Nat) : Int) = (a : Int) * 1000000 / (b : Int) := by
  rw [show (a : Int) * 1000000 = ((Rp06.MILLION * a : Nat) : Int) by show _ = ((1000000 * a : Nat) : Int); omega]
  exact Int.natCast_ediv _ _
theorem chances_out (d : Nat) (t : Test) : Rp06Neutral.out ⟨(t.kinds.length : Nat), t.kinds.map fun x => Rp06.MILLION * t.now d x / t.total d⟩ = ((ws d t).length : Int) :: (ws d t).map fun x => x * 1000000 / (ws d t).sum := by
  unfold Rp06Neutral.out
  dsimp only
  rw [List.map_map, ← total_cast]
  unfold ws
  rw [List.length_map, List.map_map]
  refine congrArg _ (List.map_congr_left fun x _ => ?_)
  exact mil_div _ _
theorem fails_out {d : Nat} {t : Test} (h : TestOk d t) : ((Rp06.MILLION * (t.after false).total d / (t.total d * d) : Nat) : Int) = (wAfter (fls t) (ws d t) false (d : Int)).sum * 1000000 / ((ws d t).sum * (d : Int)) := by
  rw [mil_div, total_cast, ws_after h.kf, Int.natCast_mul, total_cast]
theorem HouseOk.ws {st : House} (H : HouseOk st) {t : Test} (ht : t ∈ st.tests) : (ws st.whole t).length ≤ 4 ∧ Small (ws st.whole t) ∧ 0 < (ws st.whole t).sum ∧ (ws st.whole t).sum ≤ 64000000 := by
  have w := H.wok.small _ (List.mem_map_of_mem (f := Ta.ws st.whole) ht)
  refine ⟨w.1, w.2, ?_, (w.2.sum w.1).2⟩
  rw [← total_cast]
  have := H.pos t ht
  omega
/-- the refusal of a result; 0: none -/
def whyNot (st : House) (j : Nat) (p : Bool) : Int := if st.tests.length ≤ j then -2 else if st.left = 0 then -3 else if ((st.at_ j).after p).total st.whole = 0 then -6 else 0
theorem at_get {st : House} {j : Nat} {t : Test} (h : st.tests[j]? = some t) : st.at_ j = t := by
  unfold House.at_
  rw [List.getD_eq_getElem?_getD, h]
  rfl
end Ta
end
section
set_option Elab.async false
set_option maxRecDepth 100000
set_option maxHeartbeats 2000000
set_option linter.all false
/-! House: how it lies in the heap -/
namespace Ta
open PySem PySem.Spec PyProof.Rows L2 RZ
open Rp06 (Kind Test House)
structure HouTxt (K : PySem.W.Frag) (mg : Str → Option Value) (C : Addr) : Prop where
  cl : Cls K C
  nW : NoAttr K C "whole"
  nC : NoAttr K C "try_cost"
  nL : NoAttr K C "left"
  nS : NoAttr K C "suspects"
  len : mg "len" = none
  sum : mg "sum" = none
  min : mg "min" = none
  tup : mg "tuple" = none
  zip : mg "zip" = none
  gM : GI mg "MILLION" 1000000
  gLW : GI mg "LEAST_WHOLE" 2
  gMW : GI mg "MOST_WHOLE" 20
  gTC : GI mg "MOST_TRY_COST" 1000
  gMT : GI mg "MOST_TRIES" 4
  gMS : GI mg "MOST_SUSPECTS" 3
  gOR : GI mg "OUT_OF_RANGE" (-1)
  gNS : GI mg "NO_SUCH_TEST" (-2)
  gNL : GI mg "NO_TRIES_LEFT" (-3)
  gCB : GI mg "CANNOT_BE" (-6)
  gTM : GI mg "TOO_MANY_TESTS" (-7)
def houF (d c n : Int) (L : Addr) : List (Str × V) := [("whole", .int d), ("try_cost", .int c), ("left", .int n), ("suspects", .ref L)]
section
variable (d c n : Int) (L : Addr)
theorem houF_w : (houF d c n L).lookup ("whole" : Str) = some (.int d) := lk0
theorem houF_c : (houF d c n L).lookup ("try_cost" : Str) = some (.int c) := (lkp (by decide +kernel)).trans lk0
theorem houF_l : (houF d c n L).lookup ("left" : Str) = some (.int n) := (lkp (by decide +kernel)).trans ((lkp (by decide +kernel)).trans lk0)
theorem houF_s : (houF d c n L).lookup ("suspects" : Str) = some (.ref L) := (lkp (by decide +kernel)).trans ((lkp (by decide +kernel)).trans ((lkp (by decide +kernel)).trans lk0))
theorem houF_no {m : Str} (h : ((m == "whole") || (m == "try_cost") || (m == "left") || (m == "suspects")) = false) : (houF d c n L).lookup m = none := by
  simp only [Bool.or_eq_false_iff] at h
  obtain ⟨⟨⟨h1, h2⟩, h3⟩, h4⟩ := h
  exact (lkp h1).trans ((lkp h2).trans ((lkp h3).trans ((lkp h4).trans rfl)))
theorem houF_putW (x : Int) : putF "whole" (.int x) (houF d c n L) = houF x c n L := pt0
theorem houF_putC (x : Int) : putF "try_cost" (.int x) (houF d c n L) = houF d x n L := (ptp (by decide +kernel)).trans (congrArg _ pt0)
theorem houF_putL (x : Int) : putF "left" (.int x) (houF d c n L) = houF d c x L := (ptp (by decide +kernel)).trans (congrArg _ ((ptp (by decide +kernel)).trans (congrArg _ pt0)))
theorem houF_putS (x : Addr) : putF "suspects" (.ref x) (houF d c n L) = houF d c n x := (ptp (by decide +kernel)).trans (congrArg _ ((ptp (by decide +kernel)).trans (congrArg _ ((ptp (by decide +kernel)).trans (congrArg _ pt0)))))
theorem houF_new : putF "suspects" (.ref L) (putF "left" (.int n) (putF "try_cost" (.int c) (putF "whole" (.int d) []))) = houF d c n L := by
  have e1 : putF "try_cost" (.int c) (putF "whole" (.int d) []) = ([("whole", V.int d), ("try_cost", V.int c)] : List (Str × V)) := (ptp (by decide +kernel)).trans rfl
  have e2 : putF "left" (.int n) ([("whole", V.int d), ("try_cost", V.int c)] : List (Str × V)) = ([("whole", V.int d), ("try_cost", V.int c), ("left", V.int n)] : List (Str × V)) :=
    (ptp (by decide +kernel)).trans (congrArg _ ((ptp (by decide +kernel)).trans rfl))
  rw [e1, e2]
  exact (ptp (by decide +kernel)).trans (congrArg _ ((ptp (by decide +kernel)).trans (congrArg _ ((ptp (by decide +kernel)).trans rfl))))
end
/-- a test, where it lies -/
def TestAt (Cs : Addr) (d : Nat) (H : Hp) (S : List Addr) (L p : Addr) (t : Test) : Prop := ∃ dx pw pf lv, H p = some (.ins Cs dx (susF pw pf lv ((t.f : Int), (t.s : Int)))) ∧ H pw = some (.tup ((ws d t).map V.int)) ∧ H pf = some (.tup ((fls t).map V.int)) ∧
  TupsAt H lv (dat t).vd ∧ p ∈ S ∧ lv ∈ S ∧ lv ≠ L
structure HouO (CH Cs : Addr) (H : Hp) (S : List Addr) (h dx L : Addr) (ps : List Addr) (st : House) : Prop where
  o : H h = some (.ins CH dx (houF st.whole st.cost st.left L))
  l : H L = some (.lst (ps.map V.ref))
  t : Paired (TestAt Cs st.whole H S L) ps st.tests
  nd : ps.Nodup
  hS : h ∈ S
  lS : L ∈ S
  th : ∀ b ∈ S, ∃ o, H b = some o
def HouAt (CH Cs : Addr) : HP := fun H S h st => ∃ dx L ps, HouO CH Cs H S h dx L ps st
theorem TestAt.move {Cs : Addr} {d : Nat} {H H' : Hp} {S S' : List Addr} {L p : Addr} {t : Test} (x : TestAt Cs d H S L p t) (kp : ∀ o, p ∈ S → H p = some o → H' p = some o) (kl : ∀ b xs, b ∈ S → b ≠ L → H b = some (.lst xs) → H' b = some (.lst xs))
    (u : ∀ b xs, H b = some (.tup xs) → H' b = some (.tup xs)) (s : ∀ b ∈ S, b ∈ S') : TestAt Cs d H' S' L p t := by
  obtain ⟨dx, pw, pf, lv, h1, h2, h3, ⟨ps, h4, h5⟩, h6, h7, h8⟩ := x
  exact ⟨dx, pw, pf, lv, kp _ h6 h1, u _ _ h2, u _ _ h3, ⟨ps, kl _ _ h7 h8 h4, Paired.mapP h5 fun _ _ z => u _ _ z⟩, s _ h6, s _ h7, h8⟩
section
variable {CH Cs : Addr} {H H' : Hp} {S : List Addr} {h dx L : Addr} {ps : List Addr} {st : House}
theorem HouO.keep2 (x : HouO CH Cs H S h dx L ps st) (k : ∀ b o, b ∈ S → H b = some o → H' b = some o) (u : ∀ b xs, H b = some (.tup xs) → H' b = some (.tup xs)) : HouO CH Cs H' S h dx L ps st :=
  ⟨k _ _ x.hS x.o, k _ _ x.lS x.l, Paired.mapP x.t fun _ _ z => z.move (fun _ m e => k _ _ m e) (fun _ _ m _ e => k _ _ m e) u fun _ e => e, x.nd, x.hS, x.lS, fun b hb => let ⟨o, e⟩ := x.th b hb; ⟨o, k _ _ hb e⟩⟩
theorem HouO.keeps (x : HouO CH Cs H S h dx L ps st) (s : Same H H') : HouO CH Cs H' S h dx L ps st := x.keep2 (fun b o _ e => s _ _ e) fun b xs e => s _ _ e
theorem hou_keeps : (HouAt CH Cs).Keeps := fun _ _ _ _ _ x k u => let ⟨dx, L, ps, y⟩ := x; ⟨dx, L, ps, y.keep2 k u⟩
theorem hou_there : (HouAt CH Cs).There := fun _ _ _ _ x => let ⟨_, _, _, y⟩ := x; y.th
theorem TestAt.sus {d : Nat} {p : Addr} {t : Test} (x : TestAt Cs d H S L p t) : ∃ pw, SusO Cs H p pw (dat t) ∧ H pw = some (.tup ((ws d t).map V.int)) := by
  obtain ⟨dx, pw, pf, lv, h1, h2, h3, h4, _, _⟩ := x
  exact ⟨pw, ⟨dx, pf, lv, _, h1, h3, h4⟩, h2⟩
theorem Paired.mapR {α β γ : Type} {F : α → γ → Prop} (g : β → γ) : ∀ {l : List α} {m : List β}, Paired (fun a b => F a (g b)) l m → Paired F l (m.map g)
  | _, _, .nil => .nil
  | _, _, .cons r t => .cons r (Paired.mapR g t)
theorem HouO.suss (x : HouO CH Cs H S h dx L ps st) : SussO Cs H L (Dof st.tests) := by
  refine ⟨ps, x.l, Paired.mapR dat (Paired.mapP x.t fun _ _ z => ?_)⟩
  obtain ⟨pw, z1, _⟩ := z.sus
  exact ⟨pw, z1⟩
theorem HouO.len (x : HouO CH Cs H S h dx L ps st) : (ps.map V.ref).length = st.tests.length := by rw [List.length_map]; exact Paired.length x.t
end
/-- what is answered to a call, the house behind it -/
def Ret (HA : HP) (H : Hp) (S : List Addr) (h : Addr) (st : House) (c : Rp06.Call) (Q : L2.VK) : Prop := ∀ H' S' r, Fr S H S' H' → HA H' S' h (Rp06.step st c).1 → r ∉ S' → H r = none → H' r = some (.lst ((Rp06Neutral.out (Rp06.step st c).2).map V.int)) → Q (.ref r) H'
theorem Ret.keep {CH Cs : Addr} {H H' : Hp} {S : List Addr} {h dx L r : Addr} {ps : List Addr} {st : House} {c : Rp06.Call} {Q : L2.VK} {a : Rp06.Ans} {l : List Int} (R : Ret (HouAt CH Cs) H S h st c Q) (x : HouO CH Cs H S h dx L ps st) (e : Rp06.step st c = (st, a)) (e2 : Rp06Neutral.out a = l)
    (s : Same H H') (hr : H r = none) (h' : H' r = some (.lst (l.map V.int))) : Q (.ref r) H' := by
  refine R H' S r ⟨fun b o z _ => s _ _ z, fun b z => .inl z⟩ ?_ (fun z => ?_) hr ?_
  · rw [e]
    exact ⟨dx, L, ps, x.keeps s⟩
  · obtain ⟨o, y⟩ := x.th r z
    rw [hr] at y
    cases y
  · rw [e, e2]
    exact h'
/-- a method of the class at C that keeps its promise; an __init__ -/
def MFn (P : Program) (w : World) (K : PySem.W.Frag) (mg : Str → Option Value) (base : Heap) (k : Nat) (C : Addr) (x : Str) (ps : List Str) (sp : Sp) : Prop := ∃ f fd, FnOk P w K mg base CX0 k f fd ps sp ∧ Binds K fd ps [] ∧ Meth K C x f
def IFn (P : Program) (w : World) (K : PySem.W.Frag) (mg : Str → Option Value) (base : Heap) (k : Nat) (C : Addr) (ps : List Str) (sp : Sp) : Prop := ∃ f fd, FnOk P w K mg base CX0 k f fd ps sp ∧ Binds K fd ps [] ∧ Mk K C f
/-- a def of the module that keeps its promise -/
def DFn (P : Program) (w : World) (K : PySem.W.Frag) (mg : Str → Option Value) (base : Heap) (k : Nat) (x : Str) (ps : List Str) (sp : Sp) : Prop := ∃ f fd, FnOk P w K mg base CX0 k f fd ps sp ∧ Binds K fd ps [] ∧ mg x = some (.ref f) ∧ PySem.W.keepIn K (.ref f) = true
theorem pe_fldK {X : Cx} (K : PySem.W.Frag) (h : X.K = K) {e : Expr} {ta : TE} {f : Str} {pos : Pos} (he : PE X e ta) (hb : attributeBase e f X.env (eval e X.env) = eval e X.env) : PE X (.Attribute e f pos) (tFld K ta f) := by
  subst h
  exact pe_fld he hb
end Ta
end
section
set_option Elab.async false
set_option maxRecDepth 100000
set_option maxHeartbeats 2000000
set_option linter.all false
/-! House: how it begins; Ways: how it is made -/
namespace Ta
open PySem PySem.Spec PyProof.Rows L2 RZ
open Rp06 (Kind Test House)
theorem upd_free {H : Hp} {a b : Addr} {o : HO} (h : upd H a o b = none) : b ≠ a ∧ H b = none := by
  have n : b ≠ a := fun e => by rw [e, upd_same] at h; cases h
  exact ⟨n, by rw [upd_ne n] at h; exact h⟩
section
variable {P : Program} {w : World} {K : PySem.W.Frag} {mg : Str → Option Value} {base : Heap} {CH Cs CW : Addr}
theorem scHI : FnScope ["self"] ["self"] (defScope sHInit) := ⟨rfl, rfl, rfl, by decide +kernel, rfl, by decide +kernel, by decide +kernel⟩
theorem if_house (M : IOk K CH "House.__init__" sHInit ["self"]) (T : HouTxt K mg CH) : IFn P w K mg base 1 CH ["self"] (spHInit (HouAt CH Cs) CH) := by
  obtain ⟨f, fd, F, b, mk⟩ := M
  refine ⟨f, fd, F.ok scHI (fun vs H Q E h => ?_) (fun cdv A outer s H vs Q E hr h => ?_), b, mk⟩
  · obtain ⟨p, dx, rfl, _⟩ := h
    rfl
  · obtain ⟨p, dx, rfl, hp, q⟩ := h
    refine ⟨_, pss_cons (ps_fld (pv 0) pe_int rfl) (pss_cons (ps_fld (pv 0) pe_int rfl) (pss_cons (ps_fld (pv 0) pe_int rfl) (pss_one (ps_fld (pv 0) (pe_lst pa_nil) rfl)))), ?_⟩
    refine ⟨_, rfl, p, CH, dx, [], rfl, hp, T.cl, T.nW, (by show 0 < 1000; decide), ?_⟩
    refine ⟨_, rfl, p, CH, dx, _, rfl, upd_same, T.cl, T.nC, (by show 1 < 1000; decide), ?_⟩
    refine ⟨_, rfl, p, CH, dx, _, rfl, upd_same, T.cl, T.nL, (by show 2 < 1000; decide), ?_⟩
    rw [upd_upd, upd_upd]
    refine ⟨Nat.zero_le _, fun L hL => ?_⟩
    obtain ⟨nLp, fL⟩ := upd_free hL
    refine ⟨_, rfl, p, CH, dx, _, rfl, (upd_ne nLp.symm).trans upd_same, T.cl, T.nS, (by show 3 < 1000; decide), ?_⟩
    rw [houF_new]
    refine q _ [p, L] (fun b o e n => ?_) (fun b hb => ?_) ⟨dx, L, [], upd_same, (upd_ne nLp).trans upd_same, .nil, List.nodup_nil, by simp, by simp, fun b hb => ?_⟩
    · rw [upd_ne n, upd_ne (ne_of_none e fL), upd_ne n]
      exact e
    · rcases List.mem_cons.mp hb with e | hb
      · exact .inl e
      · rw [List.mem_singleton.mp hb]
        exact .inr fL
    · rcases List.mem_cons.mp hb with e | hb
      · rw [e]
        exact ⟨_, upd_same⟩
      · rw [List.mem_singleton.mp hb]
        exact ⟨_, (upd_ne nLp).trans upd_same⟩
/-! ### begins -/
abbrev nBe : List Str := ["self", "whole", "try_cost", "tries"]
theorem scBe : FnScope nBe nBe (defScope sBegins) := ⟨rfl, rfl, rfl, by decide +kernel, rfl, by decide +kernel, by decide +kernel⟩
def spBegins (HA : HP) : Sp := fun vs H Q _ => ∃ (h : Addr) (S : List Addr) (st : House) (d c n : Nat), vs = [.ref h, .int (d : Int), .int (c : Int), .int (n : Int)] ∧ HA H S h st ∧ HouseOk st ∧ Ret HA H S h st (.begins d c n) Q
theorem mf_begins (M : MOk K CH "begins" "House.begins" sBegins nBe) (T : HouTxt K mg CH) : MFn P w K mg base 1 CH "begins" nBe (spBegins (HouAt CH Cs)) := by
  obtain ⟨f, fd, F, b, m⟩ := M
  refine ⟨f, fd, F.ok scBe (fun vs H Q E h => ?_) (fun cdv A outer s H vs Q E hr h => ?_), b, m⟩
  · obtain ⟨h, S, st, d, c, n, rfl, _⟩ := h
    rfl
  · obtain ⟨h, S, st, d, c, n, rfl, ⟨dx, L, ps, hA⟩, ok, R⟩ := h
    refine ⟨_, pss_cons (ps_if (PW.pt (pw_or (pt_not (pt_chain op_le op_le (pe_gi T.gLW) (pv 1) (pe_gi T.gMW))) (pw_or (pt_cmpR op_gt (pv 2) (pe_gi T.gTC) (nomark _)) (pw_or1 (pt_cmpR op_gt (pv 3) (pe_gi T.gMT) (nomark _))))))
        (pss_one (ps_ret (pe_lst (pa_cons (pe_gi T.gOR) pa_nil)))) pss_nil)
      (pss_cons (ps_fld (pv 0) (pv 1) rfl) (pss_cons (ps_fld (pv 0) (pv 2) rfl) (pss_cons (ps_fld (pv 0) (pv 3) rfl) (pss_cons (ps_fld (pv 0) (pe_lst pa_nil) rfl)
      (pss_one (ps_ret (pe_lst (pa_cons pe_int pa_nil)))))))), ?_⟩
    have bad : (d < 2 ∨ Rp06.WHOLE < d ∨ Rp06.COST < c ∨ Rp06.TRIES < n) → (1 ≤ sizeLine ∧ ∀ l, H l = none → Q (.ref l) (upd H l (.lst [.int (-1)]))) := fun z =>
      ⟨by decide, fun l hl => R.keep hA (a := Rp06.ok (-1)) (l := [-1]) (if_pos z) rfl (Same.new hl) hl upd_same⟩
    have e1 : Rp06.WHOLE = 20 := rfl
    have e2 : Rp06.COST = 1000 := rfl
    have e3 : Rp06.TRIES = 4 := rfl
    refine ⟨_, rfl, _, _, rfl, rfl, _, rfl, ?_⟩
    refine itec (fun h1 => ?_) (fun h1 => ?_)
    · have g1 := of_decide_eq_true h1
      refine ⟨_, _, rfl, rfl, _, rfl, ?_⟩
      refine itec (fun h2 => ?_) (fun h2 => ?_)
      · have g2 := notd h2
        exact bad (by omega)
      · have g2 := yesd h2
        refine ⟨_, rfl, _, _, rfl, rfl, _, rfl, ?_⟩
        refine itec (fun h3 => ?_) (fun h3 => ?_)
        · have g3 := of_decide_eq_true h3
          exact bad (by omega)
        · have g3 := of_decide_eq_false h3
          refine ⟨_, rfl, _, _, rfl, rfl, _, rfl, ?_⟩
          refine itec (fun h4 => ?_) (fun h4 => ?_)
          · have g4 := of_decide_eq_true h4
            exact bad (by omega)
          · have g4 := of_decide_eq_false h4
            have hz : ¬ (d < 2 ∨ Rp06.WHOLE < d ∨ Rp06.COST < c ∨ Rp06.TRIES < n) := by omega
            refine ⟨_, rfl, _, rfl, h, CH, dx, _, rfl, hA.o, T.cl, T.nW, (by show 4 < 1000; decide), ?_⟩
            rw [houF_putW]
            refine ⟨_, rfl, _, rfl, h, CH, dx, _, rfl, upd_same, T.cl, T.nC, (by show 4 < 1000; decide), ?_⟩
            rw [houF_putC, upd_upd]
            refine ⟨_, rfl, _, rfl, h, CH, dx, _, rfl, upd_same, T.cl, T.nL, (by show 4 < 1000; decide), ?_⟩
            rw [houF_putL, upd_upd]
            refine ⟨Nat.zero_le _, fun L2 hL => ?_⟩
            obtain ⟨nLh, fL⟩ := upd_free hL
            refine ⟨_, rfl, h, CH, dx, _, rfl, (upd_ne nLh.symm).trans upd_same, T.cl, T.nS, (by show 4 < 1000; decide), ?_⟩
            rw [houF_putS]
            refine ⟨by show 1 ≤ sizeLine; decide, fun r hr => ?_⟩
            obtain ⟨nrh, hr1⟩ := upd_free hr
            obtain ⟨nrL, hr2⟩ := upd_free hr1
            obtain ⟨_, fr⟩ := upd_free hr2
            have est : Rp06.step st (.begins d c n) = (⟨d, c, n, []⟩, Rp06.ok 0) := if_neg hz
            have hL' : ∀ o1 o2 o3, upd (upd (upd (upd H h o1) L2 (.lst [])) h o2) r o3 L2 = some (.lst []) := fun o1 o2 o3 => by rw [upd_ne nrL.symm, upd_ne nLh, upd_same]
            refine R _ (L2 :: S) r ⟨fun b o e n => ?_, fun b hb => ?_⟩ ?_ (fun hb => ?_) fr ?_
            · have nbh : b ≠ h := fun z => n (z ▸ hA.hS)
              rw [upd_ne (ne_of_none e fr), upd_ne nbh, upd_ne (ne_of_none e fL), upd_ne nbh]
              exact e
            · rcases List.mem_cons.mp hb with z | z
              · rw [z]; exact .inr fL
              · exact .inl z
            · rw [est]
              refine ⟨dx, L2, [], ?_, hL' _ _ _, .nil, List.nodup_nil, List.mem_cons_of_mem _ hA.hS, List.mem_cons_self, fun b hb => ?_⟩
              · rw [upd_ne nrh.symm, upd_same]
              · rcases List.mem_cons.mp hb with z | z
                · rw [z]; exact ⟨_, hL' _ _ _⟩
                · obtain ⟨o, e⟩ := hA.th b z
                  by_cases c : b = h
                  · rw [c]; exact ⟨_, (upd_ne nrh.symm).trans upd_same⟩
                  · refine ⟨o, ?_⟩
                    rw [upd_ne (ne_of_none e fr), upd_ne c, upd_ne (ne_of_none e fL), upd_ne c]
                    exact e
            · rcases List.mem_cons.mp hb with z | z
              · exact nrL z
              · obtain ⟨o, e⟩ := hA.th r z
                rw [fr] at e
                cases e
            · rw [est, upd_same]
              rfl
    · have g1 := of_decide_eq_false h1
      refine ⟨_, rfl, ?_⟩
      refine iteT ?_
      exact bad (by omega)
/-! ### Ways -/
theorem scWI : FnScope ["self", "whole", "try_cost", "suspects"] ["self", "whole", "try_cost", "suspects"] (defScope sWaysInit) := ⟨rfl, rfl, rfl, by decide +kernel, rfl, by decide +kernel, by decide +kernel⟩
def spWaysInit (P : Program) (w : World) (C : Addr) : Sp := fun vs H Q _ => ∃ (p dx L : Addr) (d c : Int), vs = [.ref p, .int d, .int c, .ref L] ∧ H p = some (.ins C dx []) ∧ ∀ H' kd, But p H H' → H' p = some (.ins C dx (wayF d c L kd)) → H kd = none → H' kd = some (DnO P w kd []) → Q .non H'
theorem if_ways (M : IOk K CW "Ways.__init__" sWaysInit ["self", "whole", "try_cost", "suspects"]) (T : WaysTxt K mg CW) : IFn P w K mg base 1 CW ["self", "whole", "try_cost", "suspects"] (spWaysInit P w CW) := by
  obtain ⟨f, fd, F, b, mk⟩ := M
  refine ⟨f, fd, F.ok scWI (fun vs H Q E h => ?_) (fun cdv A outer s H vs Q E hr h => ?_), b, mk⟩
  · obtain ⟨p, dx, L, d, c, rfl, _⟩ := h
    rfl
  · obtain ⟨p, dx, L, d, c, rfl, hp, q⟩ := h
    refine ⟨_, pss_cons (ps_fld (pv 0) (pv 1) rfl) (pss_cons (ps_fld (pv 0) (pv 2) rfl) (pss_cons (ps_fld (pv 0) (pv 3) rfl) (pss_one (ps_fld (pv 0) pe_nnew rfl)))), ?_⟩
    refine ⟨_, rfl, _, rfl, p, CW, dx, [], rfl, hp, T.cl, T.nW, (by show 0 < 1000; decide), ?_⟩
    refine ⟨_, rfl, _, rfl, p, CW, dx, _, rfl, upd_same, T.cl, T.nC, (by show 1 < 1000; decide), ?_⟩
    refine ⟨_, rfl, _, rfl, p, CW, dx, _, rfl, upd_same, T.cl, T.nS, (by show 2 < 1000; decide), ?_⟩
    rw [upd_upd, upd_upd]
    intro kd hkd
    obtain ⟨nkp, fk⟩ := upd_free hkd
    refine ⟨_, rfl, p, CW, dx, _, rfl, (upd_ne nkp.symm).trans upd_same, T.cl, T.nK, (by show 3 < 1000; decide), ?_⟩
    rw [wayF_new]
    refine q _ kd (fun b o e n => ?_) upd_same fk ((upd_ne nkp).trans upd_same)
    rw [upd_ne n, upd_ne (ne_of_none e fk), upd_ne n]
    exact e
end
end Ta
end
section
set_option Elab.async false
set_option maxRecDepth 100000
set_option maxHeartbeats 2000000
set_option linter.all false
/-! House: a test is told -/
namespace Ta
open PySem PySem.Spec PyProof.Rows L2 RZ
open Rp06 (Kind Test House)
theorem nats_ints {l : List Int} (h : ∀ x ∈ l, 0 ≤ x) : natInts (Rp06Neutral.nats l) = l := by
  unfold natInts Rp06Neutral.nats
  rw [List.map_map]
  have : ∀ x ∈ l, ((fun (n : Nat) => (n : Int)) ∘ Int.toNat) x = id x := fun x hx => toNat_cast (h x hx)
  rw [List.map_congr_left this, List.map_id]
section
variable {P : Program} {w : World} {K : PySem.W.Frag} {mg : Str → Option Value} {base : Heap} {CH Cs CW : Addr}
abbrev nTe : List Str := ["self", "kinds", "verdicts"]
theorem scTe : FnScope nTe nTe (defScope sTest) := ⟨rfl, rfl, rfl, by decide +kernel, rfl, by decide +kernel, by decide +kernel⟩
def spTest (K : PySem.W.Frag) (HA : HP) : Sp := fun vs H Q _ => ∃ (h a b : Addr) (S : List Addr) (st : House) (k : List Int) (l : List (List Int)), vs = [.ref h, .ref a, .ref b] ∧ HA H S h st ∧ HouseOk st ∧ SqL K H a (k.map V.int) ∧ Row k ∧ RowsAt K H b l ∧ l.length ≤ 6 ∧ (∀ r ∈ l, Row r) ∧
  Ret HA H S h st (.test (Rp06Neutral.nats k) (l.map Rp06Neutral.nats)) Q
theorem mf_test (M : MOk K CH "test" "House.test" sTest nTe) (T : HouTxt K mg CH) (DW : DFn P w K mg base 2 "is_well_formed" ["kinds", "verdicts", "whole"] (spWellFormed K)) (IS : IFn P w K mg base 1 Cs ["self", "kinds", "verdicts"] (spSusInit K Cs)) (gS : mg "Suspect" = some (.ref Cs)) :
    MFn P w K mg base 3 CH "test" nTe (spTest K (HouAt CH Cs)) := by
  obtain ⟨f, fd, F, b, m⟩ := M
  obtain ⟨fW, dW, GW, bW, gW, kW⟩ := DW
  obtain ⟨fS, dS, GS, bS, mS⟩ := IS
  refine ⟨f, fd, F.ok scTe (fun vs H Q E h => ?_) (fun cdv A outer s H vs Q E hr h => ?_), b, m⟩
  · obtain ⟨h, a, b, S, st, k, l, rfl, _⟩ := h
    rfl
  · obtain ⟨h, a, b, S, st, k, l, rfl, ⟨dx, L, ps, hA⟩, ok, hs, hk, hrow, hl, hrows, R⟩ := h
    refine ⟨_, pss_cons (ps_if (pt_cmpR op_ge (pe_callB call_len_seq (by rfl) T.len PySem.boot_len (pa_cons (pe_fld (pv 0) rfl) pa_nil)) (pe_gi T.gMS) (nomark _)) (pss_one (ps_ret (pe_lst (pa_cons (pe_gi T.gTM) pa_nil)))) pss_nil)
      (pss_cons (ps_if (pt_not (pt_val (pe_call GW hr rfl gW kW bW .nil pass0 (pa_cons (pv 1) (pa_cons (pv 2) (pa_cons (pe_fld (pv 0) rfl) pa_nil)))))) (pss_one (ps_ret (pe_lst (pa_cons (pe_gi T.gOR) pa_nil)))) pss_nil)
      (pss_cons (ps_expr (pe_bm PySem.F.plainAttrs_list PySem.F.slot_list_append PySem.F.type_list_append mt_append (pe_fld (pv 0) rfl) (pa_cons (pe_make mS GS hr rfl gS bS .nil pass0 (pa_cons (pv 1) (pa_cons (pv 2) pa_nil))) pa_nil)))
      (pss_one (ps_ret (pe_lst (pa_cons (pe_callB call_len_seq (by rfl) T.len PySem.boot_len (pa_cons (pe_fld (pv 0) rfl) pa_nil)) pa_nil)))))), ?_⟩
    have hlen := hA.len
    have e3 : Rp06.TESTS = 3 := rfl
    have tl := ok.tl
    refine ⟨_, rfl, h, CH, dx, _, _, rfl, hA.o, T.cl, T.nS, houF_s _ _ _ _, L, _, rfl, .inl (SqL.of hA.l), _, _, rfl, rfl, _, rfl, ?_⟩
    refine itec (fun h1 => ?_) (fun h1 => ?_)
    · have g1 := of_decide_eq_true h1
      rw [hlen] at g1
      exact ⟨by show 1 ≤ sizeLine; decide, fun r hr => R.keep hA (a := Rp06.ok (-7)) (l := [-7]) (if_pos (by omega)) rfl (Same.new hr) hr upd_same⟩
    · have g1 := of_decide_eq_false h1
      rw [hlen] at g1
      have n3 : ¬ st.tests.length = Rp06.TESTS := by omega
      refine ⟨_, rfl, _, rfl, _, rfl, h, CH, dx, _, _, rfl, hA.o, T.cl, T.nW, houF_w _ _ _ _, a, b, k, l, (st.whole : Int), rfl, hs, hk.1, hrow, hl, fun c hc => (hrows c hc).1, fun H1 S1 => ⟨_, rfl, ?_⟩⟩
      rcases test_form (d := st.whole) hk hrows with ⟨wf, ks, hks, hno, o1, o2⟩ | ⟨wf, hbad⟩
      · rw [wf]
        refine iteF ?_
        have hA1 := hA.keeps S1
        refine ⟨_, rfl, h, CH, dx, _, _, rfl, hA1.o, T.cl, T.nS, houF_s _ _ _ _, .inl ⟨rfl, _, SqL.of hA1.l⟩, _, rfl, _, rfl, fun x dxx nx ndx nex => ?_⟩
        have s0 : Same H1 (upd (upd H1 dxx (.own x)) x (.ins Cs dxx [])) := Same.made nx ndx But.refl
        refine ⟨x, dxx, a, b, k, l, rfl, upd_same, s0.seq (S1.seq hs), hrow.keeps (Same.step S1 s0), hl, fun H2 pw pf lv B2 hx2 hw2 hf2 hv2 flv => ⟨rfl, ?_⟩⟩
        have s2 : Same H1 H2 := Same.made nx ndx B2
        have s02 : Same H H2 := Same.step S1 s2
        have hA2 := hA.keeps s02
        refine ⟨L, _, _, rfl, rfl, hA2.l, ?_, ?_⟩
        · rw [hlen]
          exact Nat.lt_of_le_of_lt tl (by decide)
        have nhL : h ≠ L := ne_of hA2.o hA2.l fun z => nomatch z
        refine ⟨_, rfl, h, CH, dx, _, _, rfl, (upd_ne nhL).trans hA2.o, T.cl, T.nS, houF_s _ _ _ _, L, _, rfl, .inl (SqL.of upd_same), by show 1 ≤ sizeLine; decide, fun r hr => ?_⟩
        obtain ⟨nrL, fr2⟩ := upd_free hr
        have fr : H r = none := s02.free fr2
        have fx : H x = none := S1.free nx
        have fv : H lv = none := S1.free (s0.free flv)
        have up : ∀ c o o1 o2, H2 c = some o → c ≠ L → upd (upd H2 L o1) r o2 c = some o := fun c o o1 o2 e n => by
          rw [upd_ne (ne_of_none e fr2), upd_ne n]
          exact e
        have nxL : x ≠ L := ne_of hx2 hA2.l fun z => nomatch z
        obtain ⟨qs, hv3, hv4⟩ := hv2
        have nvL : lv ≠ L := fun e => by rw [e, hA.l] at fv; cases fv
        have est : Rp06.step st (.test (Rp06Neutral.nats k) (l.map Rp06Neutral.nats)) = ({ st with tests := st.tests ++ [⟨ks, l.map Rp06Neutral.nats, 0, 0⟩] }, Rp06.ok (st.tests.length + 1 : Nat)) := by
          show (if _ then _ else _) = _
          rw [if_neg n3, hks]
          exact if_neg hno
        have tups : ∀ c xs o1 o2, H2 c = some (.tup xs) → upd (upd H2 L o1) r o2 c = some (.tup xs) := fun c xs o1 o2 e => up _ _ _ _ e (ne_of e hA2.l fun z => nomatch z)
        refine R _ (x :: lv :: S) r ⟨fun c o e n => ?_, fun c hc => ?_⟩ ?_ (fun hc => ?_) fr ?_
        · exact up _ _ _ _ (s02 _ _ e) fun z => n (z ▸ hA.lS)
        · rcases List.mem_cons.mp hc with z | z
          · rw [z]; exact .inr fx
          · rcases List.mem_cons.mp z with z | z
            · rw [z]; exact .inr fv
            · exact .inl z
        · rw [est]
          have memS : ∀ c ∈ S, c ∈ x :: lv :: S := fun c hc => List.mem_cons_of_mem _ (List.mem_cons_of_mem _ hc)
          refine ⟨dx, L, ps ++ [x], up _ _ _ _ hA2.o nhL, ?_, ?_, ?_, memS _ hA.hS, memS _ hA.lS, fun c hc => ?_⟩
          · rw [upd_ne nrL.symm, upd_same, List.map_append]
            rfl
          · refine Paired.snoc (Paired.mapP hA2.t fun p t z => ?_) ?_
            · obtain ⟨_, _, _, _, hp, _⟩ := id z
              have npL : p ≠ L := ne_of hp hA2.l fun z => nomatch z
              exact z.move (fun o _ e => up _ _ _ _ e npL) (fun c xs _ n e => up _ _ _ _ e n) (fun c xs e => tups _ _ _ _ e) memS
            · refine ⟨dxx, pw, pf, lv, up _ _ _ _ hx2 nxL, ?_, ?_, ⟨qs, up _ _ _ _ hv3 nvL, ?_⟩, List.mem_cons_self, List.mem_cons_of_mem _ List.mem_cons_self, nvL⟩
              · have e : ws st.whole ⟨ks, l.map Rp06Neutral.nats, 0, 0⟩ = odds k := by
                  rw [o1]
                  refine List.map_congr_left fun y _ => ?_
                  show ((y.weight * (y.fails ^ 0 * (st.whole - y.fails) ^ 0) : Nat) : Int) = _
                  simp
                rw [e]
                exact tups _ _ _ _ hw2
              · have e : fls ⟨ks, l.map Rp06Neutral.nats, 0, 0⟩ = odds (k.drop 1) := by
                  rw [o2]
                  rfl
                rw [e]
                exact tups _ _ _ _ hf2
              · have e : (dat ⟨ks, l.map Rp06Neutral.nats, 0, 0⟩).vd = l := by
                  show (l.map Rp06Neutral.nats).map natInts = l
                  rw [List.map_map]
                  have : ∀ y ∈ l, (natInts ∘ Rp06Neutral.nats) y = id y := fun y hy => nats_ints fun z hz => ((hrows y hy).2 z hz).1
                  rw [List.map_congr_left this, List.map_id]
                rw [e]
                exact Paired.mapP hv4 fun _ _ z => tups _ _ _ _ z
          · refine List.nodup_append.mpr ⟨hA.nd, by simp, fun c hc y hy => ?_⟩
            rw [List.mem_singleton.mp hy]
            obtain ⟨i, hi⟩ := List.mem_iff_getElem?.mp hc
            obtain ⟨t, _, _, _, _, _, hp, _⟩ := Paired.at' hA.t hi
            exact ne_of_none hp fx
          · rcases List.mem_cons.mp hc with z | z
            · rw [z]; exact ⟨_, up _ _ _ _ hx2 nxL⟩
            · rcases List.mem_cons.mp z with z | z
              · rw [z]; exact ⟨_, up _ _ _ _ hv3 nvL⟩
              · by_cases e : c = L
                · rw [e]; exact ⟨_, (upd_ne nrL.symm).trans upd_same⟩
                · obtain ⟨o, y⟩ := hA2.th c z
                  exact ⟨o, up _ _ _ _ y e⟩
        · rcases List.mem_cons.mp hc with z | z
          · rw [z, hx2] at fr2; cases fr2
          · rcases List.mem_cons.mp z with z | z
            · rw [z, hv3] at fr2; cases fr2
            · obtain ⟨o, y⟩ := hA.th r z
              rw [fr] at y; cases y
        · rw [est, upd_same]
          have hl2 : (ps.map V.ref ++ [V.ref x]).length = st.tests.length + 1 := by rw [List.length_append, hlen]; rfl
          rw [hl2]
          rfl
      · rw [wf]
        refine iteT ?_
        refine ⟨by show 1 ≤ sizeLine; decide, fun r hr => R.keep hA (a := Rp06.ok (-1)) (l := [-1]) ?_ rfl (Same.step S1 (Same.new hr)) (S1.free hr) upd_same⟩
        show (if _ then _ else _) = _
        rw [if_neg n3]
        rcases hbad with e | ⟨ks, e, z⟩
        · rw [e]
        · rw [e]
          exact if_pos z
end
end Ta
end
section
set_option Elab.async false
set_option maxRecDepth 100000
set_option maxHeartbeats 2000000
set_option linter.all false
/-! House: results, ways on, weights now -/
namespace Ta
open PySem PySem.Spec PyProof.Rows L2 RZ
open Rp06 (Kind Test House)
theorem HouO.at_ {CH Cs : Addr} {H : Hp} {S : List Addr} {h dx L : Addr} {ps : List Addr} {st : House} (x : HouO CH Cs H S h dx L ps st) {j : Nat} (hj : j < st.tests.length) : ∃ t p, st.tests[j]? = some t ∧ ps[j]? = some p ∧ TestAt Cs st.whole H S L p t ∧ st.at_ j = t ∧ t ∈ st.tests := by
  have ht : st.tests[j]? = some st.tests[j] := List.getElem?_eq_getElem hj
  obtain ⟨p, hp, z⟩ := Paired.at_ x.t ht
  exact ⟨_, p, ht, hp, z, at_get ht, List.mem_of_getElem? ht⟩
section
variable {P : Program} {w : World} {K : PySem.W.Frag} {mg : Str → Option Value} {base : Heap} {CH Cs CW : Addr}
abbrev nWy : List Str := ["self", "number", "passed", "suspect"]
theorem scWy : FnScope nWy ["self", "number", "passed"] (defScope sWhyNot) := ⟨rfl, rfl, rfl, by decide +kernel, rfl, by decide +kernel, by decide +kernel⟩
def spWhyNot (HA : HP) : Sp := fun vs H Q _ => ∃ (h : Addr) (S : List Addr) (st : House) (j : Nat) (p : Bool), vs = [.ref h, .int (j : Int), .bl p] ∧ HA H S h st ∧ HouseOk st ∧ ∀ H', Same H H' → Q (.int (whyNot st j p)) H'
theorem mf_whyNot (M : MOk K CH "why_not" "House.why_not" sWhyNot ["self", "number", "passed"]) (T : HouTxt K mg CH) (Ts : SusTxt K mg Cs) (MA : MFn P w K mg base 1 Cs "weights_after" ["self", "weights", "passed", "whole"] (spWAfter K Cs)) :
    MFn P w K mg base 2 CH "why_not" ["self", "number", "passed"] (spWhyNot (HouAt CH Cs)) := by
  obtain ⟨f, fd, F, b, m⟩ := M
  obtain ⟨fA, dA, GA, bA, mA⟩ := MA
  refine ⟨f, fd, F.ok scWy (fun vs H Q E h => ?_) (fun cdv A outer s H vs Q E hr h => ?_), b, m⟩
  · obtain ⟨h, S, st, j, p, rfl, _⟩ := h
    rfl
  · obtain ⟨h, S, st, j, p, rfl, ⟨dx, L, ps, hA⟩, ok, q⟩ := h
    refine ⟨_, pss_cons (ps_if (pt_cmpR op_ge (pv 1) (pe_callB call_len_seq (by rfl) T.len PySem.boot_len (pa_cons (pe_fld (pv 0) rfl) pa_nil)) (nomark _)) (pss_one (ps_ret (pe_gi T.gNS))) pss_nil)
      (pss_cons (ps_if (pt_cmpR op_eq (pe_fld (pv 0) rfl) pe_int (nomark _)) (pss_one (ps_ret (pe_gi T.gNL))) pss_nil)
      (pss_cons (ps_set (i := 3) scWy.nd rfl (Or.inl rfl) (pe_ix ix_list (pe_fld (pv 0) rfl) (pv 1) (fun _ _ => rfl)))
      (pss_cons (ps_if (pt_cmpR op_eq (pe_callB (cr_sumT rfl) (by rfl) T.sum (by decide +kernel) (pa_cons (pe_meth (pv 3) Ts.cl mA GA hr bA .nil pass0 (pa_cons (pe_fld (pv 3) rfl) (pa_cons (pv 2) (pa_cons (pe_fld (pv 0) rfl) pa_nil)))) pa_nil)) pe_int (nomark _))
        (pss_one (ps_ret (pe_gi T.gCB))) pss_nil)
      (pss_one (ps_ret pe_int))))), ?_⟩
    have hlen := hA.len
    refine ⟨_, rfl, _, rfl, h, CH, dx, _, _, rfl, hA.o, T.cl, T.nS, houF_s _ _ _ _, L, _, rfl, .inl (SqL.of hA.l), _, _, rfl, rfl, _, rfl, ?_⟩
    rw [hlen]
    refine itec (fun h1 => ?_) (fun h1 => ?_)
    · have g1 := of_decide_eq_true h1
      have e : whyNot st j p = -2 := if_pos (by omega)
      rw [e] at q
      exact q _ Same.refl
    · have g1 := of_decide_eq_false h1
      have n1 : ¬ st.tests.length ≤ j := by omega
      refine ⟨_, rfl, h, CH, dx, _, _, rfl, hA.o, T.cl, T.nL, houF_l _ _ _ _, rfl, _, rfl, ?_⟩
      rw [dV]
      refine itec (fun h2 => ?_) (fun h2 => ?_)
      · have g2 := of_decide_eq_true h2
        have e : whyNot st j p = -3 := (if_neg n1).trans (if_pos (by omega))
        rw [e] at q
        exact q _ Same.refl
      · have g2 := of_decide_eq_false h2
        have n2 : ¬ st.left = 0 := by omega
        obtain ⟨t, p0, ht, hp0, z, eat, hm⟩ := hA.at_ (show j < st.tests.length by omega)
        obtain ⟨dxs, pw, pf, lv, y1, y2, y3, y4, _, _⟩ := id z
        refine ⟨_, rfl, h, CH, dx, _, _, rfl, hA.o, T.cl, T.nS, houF_s _ _ _ _, _, rfl, L, _, _, _, rfl, rfl, SqL.of hA.l, atI_nat (by rw [List.getElem?_map, hp0]; rfl), ?_⟩
        obtain ⟨h4, sm, _, _⟩ := ok.ws hm
        have tk := ok.ok t hm
        refine ⟨_, rfl, p0, dxs, _, rfl, y1, susF_no _ _ _ _ (by decide +kernel), _, rfl, p0, Cs, dxs, _, _, rfl, y1, Ts.cl, Ts.nW, susF_w _ _ _ _, _, rfl, _, rfl, h, CH, dx, _, _, rfl, hA.o, T.cl, T.nW, houF_w _ _ _ _,
          p0, pw, pw, dat t, ws st.whole t, p, (st.whole : Int), rfl, ⟨dxs, pf, lv, _, y1, y3, y4⟩, y2, (by simp [dat, fls, ws]), h4, sm, fun H1 r S1 hr1 h1 => ?_⟩
        refine ⟨r, _, rfl, SqT.of h1, rfl, _, rfl, ?_⟩
        have es : (wAfter (dat t).fl (ws st.whole t) p (st.whole : Int)).sum = (((t.after p).total st.whole : Nat) : Int) := by
          rw [total_cast, ws_after tk.kf]
          rfl
        rw [dV, es]
        refine itec (fun h3 => ?_) (fun h3 => ?_)
        · have g3 := of_decide_eq_true h3
          have e : whyNot st j p = -6 := (if_neg n1).trans ((if_neg n2).trans (if_pos (by rw [eat]; omega)))
          rw [e] at q
          exact q _ S1
        · have g3 := of_decide_eq_false h3
          have e : whyNot st j p = 0 := (if_neg n1).trans ((if_neg n2).trans (if_neg (by rw [eat]; omega)))
          rw [e] at q
          exact q _ S1
/-! ### ways_on -/
theorem scWO : FnScope ["self"] ["self"] (defScope sWaysOn) := ⟨rfl, rfl, rfl, by decide +kernel, rfl, by decide +kernel, by decide +kernel⟩
def spWaysOn (P : Program) (w : World) (CW Cs : Addr) (HA : HP) : Sp := fun vs H Q _ => ∃ (h : Addr) (S : List Addr) (st : House), vs = [.ref h] ∧ HA H S h st ∧ HouseOk st ∧
  ∀ H' a kd L, Same H H' → WaysAt P w CW Cs H' a kd (st.whole : Int) (st.cost : Int) L (Dof st.tests) [] → H kd = none → Q (.ref a) H'
theorem mf_waysOn (M : MOk K CH "ways_on" "House.ways_on" sWaysOn ["self"]) (T : HouTxt K mg CH) (IW : IFn P w K mg base 1 CW ["self", "whole", "try_cost", "suspects"] (spWaysInit P w CW)) (gW : mg "Ways" = some (.ref CW)) :
    MFn P w K mg base 3 CH "ways_on" ["self"] (spWaysOn P w CW Cs (HouAt CH Cs)) := by
  obtain ⟨f, fd, F, b, m⟩ := M
  obtain ⟨fI, dI, GI', bI, mI⟩ := IW
  refine ⟨f, fd, F.ok scWO (fun vs H Q E h => ?_) (fun cdv A outer s H vs Q E hr h => ?_), b, m⟩
  · obtain ⟨h, S, st, rfl, _⟩ := h
    rfl
  · obtain ⟨h, S, st, rfl, ⟨dx, L, ps, hA⟩, ok, q⟩ := h
    refine ⟨_, pss_one (ps_ret (pe_make mI GI' hr rfl gW bI .nil pass0 (pa_cons (pe_fld (pv 0) rfl) (pa_cons (pe_fld (pv 0) rfl) (pa_cons (pe_fld (pv 0) rfl) pa_nil))))), ?_⟩
    refine ⟨_, rfl, h, CH, dx, _, _, rfl, hA.o, T.cl, T.nW, houF_w _ _ _ _, _, rfl, h, CH, dx, _, _, rfl, hA.o, T.cl, T.nC, houF_c _ _ _ _, _, rfl, h, CH, dx, _, _, rfl, hA.o, T.cl, T.nS, houF_s _ _ _ _, fun x dxx nx ndx nex => ?_⟩
    have s0 : Same H (upd (upd H dxx (.own x)) x (.ins CW dxx [])) := Same.made nx ndx But.refl
    refine ⟨x, dxx, L, _, _, rfl, upd_same, fun H1 kd B1 hx1 fk hk1 => ⟨rfl, ?_⟩⟩
    have s1 : Same H H1 := Same.made nx ndx B1
    refine q _ x kd L s1 ⟨⟨dxx, hx1⟩, (hA.keeps s1).suss, ⟨hk1, fun e he => nomatch he⟩, (fun e he => nomatch he), ?_⟩ (s0.free fk)
    have := ok.co
    omega
/-! ### weights_now -/
theorem scWN : FnScope ["self", "suspect"] ["self"] (defScope sWNow) := ⟨rfl, rfl, rfl, by decide +kernel, rfl, by decide +kernel, by decide +kernel⟩
def spWNow (HA : HP) : Sp := fun vs H Q _ => ∃ (h : Addr) (S : List Addr) (st : House), vs = [.ref h] ∧ HA H S h st ∧ HouseOk st ∧ ∀ H' t, Same H H' → WAt H' t (Wof st.whole st.tests) → Q (.ref t) H'
/-- the places of the weights -/
theorem weights_split {d : Nat} {H : Hp} {S : List Addr} {L : Addr} : ∀ {ps : List Addr} {ts : List Test}, Paired (TestAt Cs d H S L) ps ts → ∃ qs : List Addr, Paired (fun p q => ∃ dx pf lv k, H p = some (.ins Cs dx (susF q pf lv k))) ps qs ∧ Paired (fun q t => H q = some (.tup ((ws d t).map V.int))) qs ts
  | _, _, .nil => ⟨[], .nil, .nil⟩
  | _, _, .cons r t => by
    obtain ⟨qs, h1, h2⟩ := weights_split t
    obtain ⟨dx, pw, pf, lv, y1, y2, _⟩ := r
    exact ⟨pw :: qs, .cons ⟨dx, pf, lv, _, y1⟩ h1, .cons y2 h2⟩
theorem mf_wNow (M : MOk K CH "weights_now" "House.weights_now" sWNow ["self"]) (T : HouTxt K mg CH) (Ts : SusTxt K mg Cs) : MFn P w K mg base 1 CH "weights_now" ["self"] (spWNow (HouAt CH Cs)) := by
  obtain ⟨f, fd, F, b, m⟩ := M
  refine ⟨f, fd, F.ok scWN (fun vs H Q E h => ?_) (fun cdv A outer s H vs Q E hr h => ?_), b, m⟩
  · obtain ⟨h, S, st, rfl, _⟩ := h
    rfl
  · obtain ⟨h, S, st, rfl, ⟨dx, L, ps, hA⟩, ok, q⟩ := h
    refine ⟨_, pss_one (ps_ret (pe_callTy (call_tupK K rfl) (by rfl) T.tup (by decide +kernel) (pa_cons
      (pe_lc (own := [("suspect", 1)]) (g := gName 1) (tt := tYes) rfl scWN.nd (pi_list (pe_fld (pv 0) rfl)) (blkOk_by (own := [("suspect", 1)]) (N := ["self", "suspect"]) (sc := defScope sWNow) (by decide +kernel))
        (fun _ _ _ _ _ => pg_name (i := 1) scWN.nd rfl (Or.inl rfl)) (fun _ _ _ _ _ => pts_nil) (fun _ _ _ _ _ => pe_fldK K rfl (pv 1) rfl)) pa_nil))), ?_⟩
    obtain ⟨qs, w1, w2⟩ := weights_split hA.t
    have hlen := hA.len
    have tl := ok.tl
    refine ⟨_, rfl, h, CH, dx, _, _, rfl, hA.o, T.cl, T.nS, houF_s _ _ _ _, L, rfl, ⟨_, SqL.of hA.l⟩, fun D hD => ?_⟩
    refine lc_list (K := K) (a := L) (xs := ps.map V.ref) (LcInv _ D (qs.map V.ref)) (LcInv.start hD) (fun i H' _ I => I.1.seq (SqL.of hA.l)) ?_ ?_
    · rintro i y H' hi I
      obtain ⟨p, hp, rfl⟩ := get_ref hi
      obtain ⟨pw, hpw, dxs, pf, lv, k, y1⟩ := Paired.at' w1 hp
      have hil : i < 1000 := by
        have := (List.getElem?_eq_some_iff.mp hp).1
        have := Paired.length hA.t
        omega
      refine ⟨rfl, yesT ?_⟩
      refine iteT ?_
      refine ⟨_, rfl, p, Cs, dxs, _, _, rfl, I.1 _ _ y1, Ts.cl, Ts.nW, susF_w _ _ _ _, I.fin hD Same.refl ?_ hil⟩
      rw [List.getElem?_map, hpw]
      rfl
    · rintro H2 ⟨S2, hD2⟩
      have hl : (qs.map V.ref).length = (ps.map V.ref).length := by rw [List.length_map, List.length_map]; exact (Paired.length w1).symm
      rw [List.take_of_length_le (by omega)] at hD2
      refine ⟨D, _, rfl, .inl ⟨SqL.of hD2, fun r hr => q _ r (Same.step S2 (Same.new hr)) ⟨qs, upd_same, Paired.mapR (ws st.whole) (Paired.mapP w2 fun _ _ z => ?_)⟩⟩⟩
      exact (Same.step S2 (Same.new hr)) _ _ z
end
end Ta
end
section
set_option Elab.async false
set_option maxRecDepth 100000
set_option maxHeartbeats 2000000
set_option linter.all false
/-! House: a result is told -/
namespace Ta
open PySem PySem.Spec PyProof.Rows L2 RZ
open Rp06 (Kind Test House)
theorem ne0 (q : Nat) : (!decide (V.int (q : Int) = V.int 0)) = (q != 0) := by
  rw [dV]
  show (!decide ((q : Int) = 0)) = !(decide (q = 0))
  have : decide ((q : Int) = 0) = decide (q = 0) := by rw [decide_eq_decide]; omega
  rw [this]
theorem whyNot_neg {st : House} {j q : Nat} (h : whyNot st j (q != 0) < 0) : Rp06.step st (.result j q) = (st, Rp06.ok (whyNot st j (q != 0))) ∧ Rp06.step st (.would j q) = (st, Rp06.ok (whyNot st j (q != 0))) := by
  unfold whyNot at h ⊢
  by_cases c1 : st.tests.length ≤ j
  · rw [if_pos c1]
    exact ⟨if_pos c1, if_pos c1⟩
  · rw [if_neg c1] at h ⊢
    by_cases c2 : st.left = 0
    · rw [if_pos c2]
      exact ⟨(if_neg c1).trans (if_pos c2), (if_neg c1).trans (if_pos c2)⟩
    · rw [if_neg c2] at h ⊢
      by_cases c3 : ((st.at_ j).after (q != 0)).total st.whole = 0
      · rw [if_pos c3]
        exact ⟨(if_neg c1).trans ((if_neg c2).trans (if_pos c3)), (if_neg c1).trans ((if_neg c2).trans (if_pos c3))⟩
      · rw [if_neg c3] at h
        exact absurd h (by decide)
theorem whyNot_ok {st : House} {j : Nat} {p : Bool} (h : ¬ whyNot st j p < 0) : j < st.tests.length ∧ 0 < st.left ∧ ¬ ((st.at_ j).after p).total st.whole = 0 := by
  unfold whyNot at h
  by_cases c1 : st.tests.length ≤ j
  · rw [if_pos c1] at h
    exact absurd (by decide) h
  · rw [if_neg c1] at h
    by_cases c2 : st.left = 0
    · rw [if_pos c2] at h
      exact absurd (by decide) h
    · rw [if_neg c2] at h
      by_cases c3 : ((st.at_ j).after p).total st.whole = 0
      · rw [if_pos c3] at h
        exact absurd (by decide) h
      · exact ⟨by omega, by omega, c3⟩
theorem Paired.ofGet {α β : Type} {F : α → β → Prop} : ∀ {l : List α} {m : List β}, l.length = m.length → (∀ (i : Nat) a b, l[i]? = some a → m[i]? = some b → F a b) → Paired F l m
  | [], [], _, _ => .nil
  | a :: l, b :: m, h, g => .cons (g 0 a b rfl rfl) (Paired.ofGet (by simpa using h) fun i x y hx hy => g (i + 1) x y hx hy)
theorem nodup_at {α : Type} : ∀ {l : List α} {i j : Nat} {a : α}, l.Nodup → l[i]? = some a → l[j]? = some a → i = j := by
  intro l i j a nd hi hj
  obtain ⟨li, ei⟩ := List.getElem?_eq_some_iff.mp hi
  obtain ⟨lj, ej⟩ := List.getElem?_eq_some_iff.mp hj
  rcases Nat.lt_trichotomy i j with c | c | c
  · exact absurd (ei.trans ej.symm) (List.pairwise_iff_getElem.mp nd i j li lj c)
  · exact c
  · exact absurd (ej.trans ei.symm) (List.pairwise_iff_getElem.mp nd j i lj li c)
theorem hou_sus {CH Cs dx dy pw pf lv L : Addr} {d c n : Int} {k : Int × Int} : HO.ins CH dx (houF d c n L) ≠ HO.ins Cs dy (susF pw pf lv k) := fun z => by
  injection z with _ _ e
  exact absurd (congrArg List.length e) (by show ¬ (4 = 5); decide)
section
variable {P : Program} {w : World} {K : PySem.W.Frag} {mg : Str → Option Value} {base : Heap} {CH Cs CW : Addr}
abbrev nRs : List Str := ["self", "number", "passed", "refusal"]
theorem scRs : FnScope nRs ["self", "number", "passed"] (defScope sResult) := ⟨rfl, rfl, rfl, by decide +kernel, rfl, by decide +kernel, by decide +kernel⟩
def spResult (HA : HP) : Sp := fun vs H Q _ => ∃ (h : Addr) (S : List Addr) (st : House) (j q : Nat), vs = [.ref h, .int (j : Int), .int (q : Int)] ∧ HA H S h st ∧ HouseOk st ∧ Ret HA H S h st (.result j q) Q
theorem mf_result (M : MOk K CH "result" "House.result" sResult ["self", "number", "passed"]) (T : HouTxt K mg CH) (Ts : SusTxt K mg Cs) (MY : MFn P w K mg base 2 CH "why_not" ["self", "number", "passed"] (spWhyNot (HouAt CH Cs)))
    (MT : MFn P w K mg base 2 Cs "take_result" ["self", "passed", "whole"] (spTake K Cs)) : MFn P w K mg base 3 CH "result" ["self", "number", "passed"] (spResult (HouAt CH Cs)) := by
  obtain ⟨f, fd, F, b, m⟩ := M
  obtain ⟨fY, dY, GY, bY, mY⟩ := MY
  obtain ⟨fT, dT, GT, bT, mT⟩ := MT
  refine ⟨f, fd, F.ok scRs (fun vs H Q E h => ?_) (fun cdv A outer s H vs Q E hr h => ?_), b, m⟩
  · obtain ⟨h, S, st, j, q, rfl, _⟩ := h
    rfl
  · obtain ⟨h, S, st, j, q, rfl, ⟨dx, L, ps, hA⟩, ok, R⟩ := h
    refine ⟨_, pss_cons (ps_set (i := 3) scRs.nd rfl (Or.inl rfl) (pe_meth (pv 0) T.cl mY GY hr bY .nil pass0 (pa_cons (pv 1) (pa_cons (pe_cmpR op_ne (pv 2) pe_int (nomark _)) pa_nil))))
      (pss_cons (ps_if (pt_cmpR op_lt (pv 3) pe_int (nomark _)) (pss_one (ps_ret (pe_lst (pa_cons (pv 3) pa_nil)))) pss_nil)
      (pss_cons (ps_expr (pe_meth (pe_ix ix_list (pe_fld (pv 0) rfl) (pv 1) (fun _ _ => rfl)) Ts.cl mT GT hr bT .nil pass0 (pa_cons (pe_cmpR op_ne (pv 2) pe_int (nomark _)) (pa_cons (pe_fld (pv 0) rfl) pa_nil))))
      (pss_cons (ps_fldaug (pv 0) pe_int in_sub)
      (pss_one (ps_ret (pe_lst (pa_cons (pe_fld (pv 0) rfl) pa_nil))))))), ?_⟩
    refine ⟨_, rfl, h, dx, _, rfl, hA.o, houF_no _ _ _ _ (by decide +kernel), _, rfl, _, rfl, rfl, h, S, st, j, q != 0, congrArg (fun z => [V.ref h, V.int (j : Int), V.bl z]) (ne0 q), ⟨dx, L, ps, hA⟩, ok, fun H1 S1 => ?_⟩
    have hA1 := hA.keeps S1
    refine ⟨_, rfl, _, _, rfl, rfl, _, rfl, ?_⟩
    refine itec (fun h1 => ?_) (fun h1 => ?_)
    · have g1 := of_decide_eq_true h1
      exact ⟨_, rfl, by show 1 ≤ sizeLine; decide, fun r hr => R.keep hA (a := Rp06.ok (whyNot st j (q != 0))) (l := [whyNot st j (q != 0)]) (whyNot_neg g1).1 rfl (Same.step S1 (Same.new hr)) (S1.free hr) upd_same⟩
    · have g1 := of_decide_eq_false h1
      obtain ⟨hj, hl, hz⟩ := whyNot_ok g1
      obtain ⟨t, p0, ht, hp0, z, eat, hm⟩ := hA1.at_ hj
      obtain ⟨dxs, pw, pf, lv, y1, y2, y3, y4, y5, y6, y7⟩ := id z
      obtain ⟨h4, sm, _, _⟩ := ok.ws hm
      have tk := ok.ok t hm
      refine ⟨_, rfl, h, CH, dx, _, _, rfl, hA1.o, T.cl, T.nS, houF_s _ _ _ _, _, rfl, L, _, _, _, rfl, rfl, SqL.of hA1.l, atI_nat (by rw [List.getElem?_map, hp0]; rfl), p0, dxs, _, rfl, y1, susF_no _ _ _ _ (by decide +kernel),
        _, rfl, rfl, _, rfl, h, CH, dx, _, _, rfl, hA1.o, T.cl, T.nW, houF_w _ _ _ _, p0, dxs, pw, pf, lv, _, dat t, ws st.whole t, q != 0, (st.whole : Int), congrArg (fun z => [V.ref p0, V.bl z, V.int (st.whole : Int)]) (ne0 q), y1, y3, y4, y2, (by simp [dat, fls, ws]), h4, sm, fun H2 r B2 h2r h2p => ?_⟩
      have nhp : h ≠ p0 := ne_of hA1.o y1 hou_sus
      have ho2 := B2 _ _ hA1.o nhp
      refine ⟨_, rfl, h, CH, dx, _, _, rfl, ho2, T.cl, T.nL, houF_l _ _ _ _, _, _, rfl, rfl, dx, _, ho2, (by show 4 < 1000; decide), ?_⟩
      rw [houF_putL, show (st.left : Int) - 1 = ((st.left - 1 : Nat) : Int) by omega]
      refine ⟨_, rfl, h, CH, dx, _, _, rfl, upd_same, T.cl, T.nL, houF_l _ _ _ _, by show 1 ≤ sizeLine; decide, fun r2 hr2 => ?_⟩
      obtain ⟨nrh, fr2⟩ := upd_free hr2
      have nrp : r2 ≠ p0 := fun e => by rw [e, h2p] at fr2; cases fr2
      have fr : H r2 = none := S1.free (B2.free nrp fr2)
      have up : ∀ c o o1 o2, H1 c = some o → c ≠ p0 → c ≠ h → upd (upd H2 h o1) r2 o2 c = some o := fun c o o1 o2 e n1 n2 => by
        have e2 := B2 _ _ e n1
        rw [upd_ne (ne_of_none e2 fr2), upd_ne n2]
        exact e2
      have tups : ∀ c xs o1 o2, H1 c = some (.tup xs) → upd (upd H2 h o1) r2 o2 c = some (.tup xs) := fun c xs o1 o2 e => up _ _ _ _ e (ne_of e y1 fun z => nomatch z) (ne_of e hA1.o fun z => nomatch z)
      have est : Rp06.step st (.result j q) = (st.got j q, Rp06.ok (st.left - 1 : Nat)) := (if_neg (by omega)).trans ((if_neg (by omega)).trans (if_neg hz))
      refine R _ S r2 ⟨fun c o e n => ?_, fun c hc => .inl hc⟩ ?_ (fun hc => ?_) fr ?_
      · exact up _ _ _ _ (S1 _ _ e) (fun z => n (z ▸ y5)) (fun z => n (z ▸ hA.hS))
      · rw [est]
        refine ⟨dx, L, ps, (upd_ne nrh.symm).trans upd_same, ?_, ?_, hA.nd, hA.hS, hA.lS, fun c hc => ?_⟩
        · exact up _ _ _ _ hA1.l (ne_of hA1.l y1 fun z => nomatch z) (ne_of hA1.l hA1.o fun z => nomatch z)
        · refine Paired.ofGet ?_ fun i p t2 hp ht2 => ?_
          · show ps.length = (Rp06.after _ _ _).length
            rw [after_length]
            exact Paired.length hA.t
          · obtain ⟨u, hu, zu⟩ := Paired.at' hA1.t hp
            have ht2 : (Rp06.after st.tests j (q != 0))[i]? = some t2 := ht2
            rw [after_get hu] at ht2
            have e2 := Option.some.inj ht2
            subst e2
            by_cases c : i = j
            · subst c
              rw [if_pos rfl]
              have e3 : p = p0 := by rw [hp] at hp0; exact Option.some.inj hp0
              have e4 : u = t := by rw [hu] at ht; exact Option.some.inj ht
              subst e3 e4
              have np : p ≠ r2 := nrp.symm
              refine ⟨dxs, r, pf, lv, ?_, ?_, ?_, ?_, y5, y6, y7⟩
              · rw [upd_ne np, upd_ne nhp.symm, h2p]
                have e : bump (q != 0) ((u.f : Int), (u.s : Int)) = (((u.after (q != 0)).f : Int), ((u.after (q != 0)).s : Int)) := by
                  cases q != 0 <;> rfl
                rw [e]
              · have nr2 : r ≠ r2 := fun e => by rw [e, fr2] at h2r; cases h2r
                have nrh' : r ≠ h := ne_of h2r ho2 fun z => nomatch z
                rw [upd_ne nr2, upd_ne nrh', h2r]
                show _ = some (HO.tup ((ws st.whole (u.after (q != 0))).map V.int))
                rw [ws_after tk.kf]
                rfl
              · have e : fls (u.after (q != 0)) = fls u := by
                  unfold fls
                  rw [after_kinds]
                rw [e]
                exact tups _ _ _ _ y3
              · rw [dat_after]
                obtain ⟨qs, y41, y42⟩ := y4
                exact ⟨qs, up _ _ _ _ y41 (ne_of y41 y1 fun z => nomatch z) (ne_of y41 hA1.o fun z => nomatch z), Paired.mapP y42 fun _ _ z => tups _ _ _ _ z⟩
            · rw [if_neg c]
              have npp : p ≠ p0 := fun e => c (nodup_at hA.nd hp (e ▸ hp0))
              obtain ⟨_, _, _, _, yp, _⟩ := id zu
              have nph : p ≠ h := (ne_of hA1.o yp hou_sus).symm
              exact zu.move (fun o _ e => up _ _ _ _ e npp nph) (fun c xs _ _ e => up _ _ _ _ e (ne_of e y1 fun z => nomatch z) (ne_of e hA1.o fun z => nomatch z)) (fun c xs e => tups _ _ _ _ e) fun _ e => e
        · obtain ⟨o, e⟩ := hA1.th c hc
          by_cases c1 : c = h
          · rw [c1]; exact ⟨_, (upd_ne nrh.symm).trans upd_same⟩
          · by_cases c2 : c = p0
            · rw [c2]; exact ⟨_, by rw [upd_ne nrp.symm, upd_ne nhp.symm]; exact h2p⟩
            · exact ⟨o, up _ _ _ _ e c2 c1⟩
      · obtain ⟨o, e⟩ := hA.th r2 hc
        rw [fr] at e; cases e
      · rw [est, upd_same]
        rfl
end
end Ta
end
section
set_option Elab.async false
set_option maxRecDepth 100000
set_option maxHeartbeats 2000000
set_option linter.all false
/-! House: the best way -/
namespace Ta
open PySem PySem.Spec PyProof.Rows L2 RZ
open Rp06 (Kind Test House)
theorem BB_le : ∀ n, n ≤ 4 → BB n ≤ 100000
  | 0, _ => by decide
  | 1, _ => by decide
  | 2, _ => by decide
  | 3, _ => by decide
  | 4, _ => by decide
  | n + 5, h => by omega
theorem Bn_le : ∀ n, n ≤ 4 → Bn n ≤ 100000
  | 0, _ => by decide
  | 1, _ => by decide
  | 2, _ => by decide
  | 3, _ => by decide
  | 4, _ => by decide
  | n + 5, h => by omega
/-- a dict of ours that was not there may grow -/
theorem But.fresh {kd : Addr} {H H1 H2 : Hp} (s : Same H H1) (b : But kd H1 H2) (f : H kd = none) : Same H H2 := fun c o e => b _ _ (s _ _ e) (ne_of_none e f)
theorem get_dof {ts : List Test} {i : Nat} {D : Dat} (h : (Dof ts)[i]? = some D) : ∃ t, ts[i]? = some t ∧ D = dat t := by
  unfold Dof at h
  rw [List.getElem?_map] at h
  cases e : ts[i]? with
  | none => rw [e] at h; cases h
  | some t => rw [e] at h; exact ⟨t, rfl, (Option.some.inj h).symm⟩
section
variable {P : Program} {w : World} {K : PySem.W.Frag} {mg : Str → Option Value} {base : Heap} {CH Cs CW : Addr}
/-- the methods of Ways, for any number of tries -/
structure WaysM (P : Program) (w : World) (K : PySem.W.Frag) (mg : Str → Option Value) (base : Heap) (CW Cs : Addr) : Prop where
  beg : ∀ n, n ≤ 4 → MFn P w K mg base (3 + 3 * n) CW "beginnings" ["self", "weights", "tries"] (spBeg P w CW Cs n)
  least : ∀ n, n ≤ 4 → MFn P w K mg base (4 + 3 * n) CW "least" ["self", "weights", "tries"] (spLeast P w CW Cs n)
  scale : MFn P w K mg base 1 CW "scale" ["self", "weights", "tries"] (spScale CW)
  behind : MFn P w K mg base 2 CW "behind" ["self", "number", "passed", "weights"] (spBehind CW Cs)
abbrev nBF : List Str := ["self", "weights", "tries", "ways", "costs", "least", "told", "choice", "verdicts", "suspect", "own"]
theorem scBF : FnScope nBF ["self", "weights", "tries"] (defScope sBestFrom) := ⟨rfl, rfl, rfl, by decide +kernel, rfl, by decide +kernel, by decide +kernel⟩
def spBestFrom (HA : HP) : Sp := fun vs H Q _ => ∃ (h t : Addr) (S : List Addr) (st : House) (ts : List Test) (n : Nat), vs = [.ref h, .ref t, .int (n : Int)] ∧ HA H S h st ∧ HouseOk st ∧ Dof ts = Dof st.tests ∧ HouseOk ⟨st.whole, st.cost, n, ts⟩ ∧ WAt H t (Wof st.whole ts) ∧
  ∀ H' r, Same H H' → H r = none → H' r = some (.lst ((Rp06Neutral.out (House.way ⟨st.whole, st.cost, n, ts⟩)).map V.int)) → Q (.ref r) H'
theorem mf_bestFrom (M : MOk K CH "best_from" "House.best_from" sBestFrom ["self", "weights", "tries"]) (T : HouTxt K mg CH) (Ts : SusTxt K mg Cs) (Tw : WaysTxt K mg CW) (WM : WaysM P w K mg base CW Cs) (MO : MFn P w K mg base 3 CH "ways_on" ["self"] (spWaysOn P w CW Cs (HouAt CH Cs)))
    (MV : MFn P w K mg base 2 Cs "best_verdict" ["self", "weights"] (spBestV K Cs)) : MFn P w K mg base 16 CH "best_from" ["self", "weights", "tries"] (spBestFrom (HouAt CH Cs)) := by
  obtain ⟨f, fd, F, b, m⟩ := M
  obtain ⟨fO, dO, GO, bO, mO⟩ := MO
  obtain ⟨fV, dV', GV, bV, mV⟩ := MV
  obtain ⟨fS, dS, GS, bS, mS⟩ := WM.scale
  refine ⟨f, fd, F.ok scBF (fun vs H Q E h => ?_) (fun cdv A outer s H vs Q E hr h => ?_), b, m⟩
  · obtain ⟨h, t, S, st, ts, n, rfl, _⟩ := h
    rfl
  · obtain ⟨h, t, S, st, ts, n, rfl, ⟨dx, L, ps, hA⟩, ok, eD, ok2, hW, q⟩ := h
    have hn : n ≤ 4 := ok2.le
    obtain ⟨fG, dG, GG, bG, mG⟩ := WM.beg n hn
    have hr1 : Room 1 _ := hr.mono (by decide)
    have hr2 : Room 2 _ := hr.mono (by decide)
    have hr3 : Room 3 _ := hr.mono (by decide)
    have hrG : Room (3 + 3 * n) _ := hr.mono (by omega)
    refine ⟨_, pss_cons (ps_set (i := 3) scBF.nd rfl (Or.inl rfl) (pe_meth0 (pv 0) T.cl mO GO hr3 bO .nil pass0))
      (pss_cons (ps_set (i := 4) scBF.nd rfl (Or.inl rfl) (pe_meth (pv 3) Tw.cl mG GG hrG bG .nil pass0 (pa_cons (pv 1) (pa_cons (pv 2) pa_nil))))
      (pss_cons (ps_set (i := 5) scBF.nd rfl (Or.inl rfl) (pe_callB (cr_min rfl) (by rfl) T.min (by decide +kernel) (pa_cons (pv 4) pa_nil)))
      (pss_cons (ps_set (i := 6) scBF.nd rfl (Or.inl rfl) (pe_op op_fdivW (pe_op op_mul (pv 5) (pe_gi T.gM)) (pe_meth (pv 3) Tw.cl mS GS hr1 bS .nil pass0 (pa_cons (pv 1) (pa_cons (pv 2) pa_nil)))))
      (pss_cons (ps_set (i := 7) scBF.nd rfl (Or.inl rfl) (pe_bm PySem.F.plainAttrs_list PySem.F.slot_list_index PySem.F.type_list_index mt_index (pv 4) (pa_cons (pv 5) pa_nil)))
      (pss_cons (ps_if (pt_cmpR op_eq (pv 7) pe_int (nomark _))
        (pss_cons (ps_setLc (i := 8) (own := [("suspect", 9), ("own", 10)]) (g := gPair K 9 10) (tt := tYes) rfl scBF.nd rfl rfl (sw_true rfl rfl rfl (by decide +kernel)) (pi_zipM (by rfl) T.zip (pa_cons (pe_fld (pv 0) rfl) (pa_cons (pv 1) pa_nil)))
            (blkOk_by (own := [("suspect", 9), ("own", 10)]) (N := nBF) (sc := defScope sBestFrom) (by decide +kernel))
            (fun _ _ _ _ _ => pg_tup rfl (pgs_cons (pg_name (i := 9) scBF.nd rfl (Or.inl rfl)) (pgs_cons (pg_name (i := 10) scBF.nd rfl (Or.inl rfl)) pgs_nil))) (fun _ _ _ _ _ => pts_nil)
            (fun _ _ _ _ _ => pe_meth (pv 9) Ts.cl mV GV hr2 bV .nil pass0 (pa_cons (pv 10) pa_nil)))
        (pss_one (ps_ret (pe_op op_cat (pe_op op_cat (pe_lst (pa_cons pe_int pa_nil)) (pv 8)) (pe_lst (pa_cons (pv 6) pa_nil)))))) pss_nil)
      (pss_one (ps_ret (pe_lst (pa_cons pe_int (pa_cons (pe_op op_sub (pv 7) pe_int) (pa_cons (pv 6) pa_nil))))))))))), ?_⟩
    have wok : WOk (st.whole : Int) (Dof st.tests) n (Wof st.whole ts) := by
      have z := ok2.wok
      rw [← eD]
      exact z
    obtain ⟨sc0, sc1⟩ := ok2.scale
    have sc0 : 0 < scale (st.whole : Int) (Wof st.whole ts) n := sc0
    have sc1 : (scale (st.whole : Int) (Wof st.whole ts) n).natAbs < 2 ^ 200 := sc1
    -- ways, costs
    refine ⟨_, rfl, h, dx, _, rfl, hA.o, houF_no _ _ _ _ (by decide +kernel), h, S, st, rfl, ⟨dx, L, ps, hA⟩, ok, fun H1 a kd L1 S1 X1 fk => ?_⟩
    obtain ⟨dxa, ha1⟩ := id X1.o
    refine ⟨_, rfl, a, dxa, _, rfl, ha1, wayF_no _ _ _ _ (by decide +kernel) (by decide +kernel) (by decide +kernel) (by decide +kernel), _, rfl, _, rfl, a, t, kd, L1, _, _, _, [], _, rfl, X1, hW.keeps S1, wok,
      (by have := BB_le n hn; show 0 + BB n ≤ 100000; omega), fun H2 r xs2 B2 X2 g2 hr2 h2 => ?_⟩
    have S2 : Same H H2 := But.fresh S1 B2 fk
    have hA2 := hA.keeps S2
    obtain ⟨dxa2, ha2⟩ := id X2.o
    -- least
    refine ⟨_, rfl, r, _, rfl, SqL.of h2, List.length_pos_iff.mpr (beginnings_ne _ _ _ _ _), fun mn hm hle => ?_⟩
    -- told
    refine ⟨_, rfl, _, _, rfl, rfl, .inr ⟨by decide, by decide⟩, _, rfl, a, dxa2, _, rfl, ha2, wayF_no _ _ _ _ (by decide +kernel) (by decide +kernel) (by decide +kernel) (by decide +kernel), _, rfl, _, rfl, a, t, L1, kd, _, _, _, n, rfl, X2.o, hW.keeps S2, wok.small, wok.d0, wok.d1, hn,
      _, _, rfl, rfl, wide_div sc0 sc1 (by decide) (by decide), ?_⟩
    -- choice
    obtain ⟨k, m', I, e1, e2⟩ := first_min (beginnings_ne (st.whole : Int) (st.cost : Int) (Dof st.tests) n (Wof st.whole ts))
    cases I.uniq ⟨hm, hle⟩
    refine ⟨_, rfl, .inl ⟨rfl, _, SqL.of h2⟩, _, rfl, r, _, _, k, _, rfl, rfl, SqL.of h2, rfl, flat_ints _, by rw [List.getElem?_map, e1]; rfl, by rw [eqV_int]; exact decide_eq_true rfl, first_ints e2, ?_⟩
    have out := way_out (k := k) (m := mn) ok2 (by rw [← eD] at I; exact I) (by rw [← eD] at e1; exact e1) (by rw [← eD] at e2; exact e2)
    have out : Rp06Neutral.out (House.way ⟨st.whole, st.cost, n, ts⟩) = if k = 0 then 0 :: ((ts.map fun t => ((t.verdict st.whole : Nat) : Int)) ++ [mn * 1000000 / scale (st.whole : Int) (Wof st.whole ts) n]) else [1, (k : Int) - 1, mn * 1000000 / scale (st.whole : Int) (Wof st.whole ts) n] := out
    rw [out] at q
    refine ⟨_, rfl, rfl, _, rfl, ?_⟩
    rw [dV]
    refine itec (fun h1 => ?_) (fun h1 => ?_)
    · have k0 : k = 0 := by have := of_decide_eq_true h1; omega
      rw [if_pos k0] at q
      obtain ⟨qs, hqs, hqw⟩ := hW.keeps S2
      have hss := hA2.suss
      rw [← eD] at hss
      obtain ⟨ps', hL', hpd⟩ := hss
      have hl1 : ps'.length = ts.length := by
        have := Paired.length hpd
        rw [this]
        simp [Dof]
      have hl2 : qs.length = ts.length := by
        have := Paired.length hqw
        rw [this]
        simp [Wof]
      have h3 : ts.length ≤ 3 := ok2.tl
      refine ⟨_, rfl, h, CH, dx, _, _, rfl, hA2.o, T.cl, T.nS, houF_s _ _ _ _, _, rfl, L, t, _, _, rfl, SqL.of hL', SqT.of hqs, fun D hD => ?_⟩
      refine lc_it (walk_zipM rfl) (LcInv _ D (ts.map fun t => V.int ((t.verdict st.whole : Nat) : Int))) (LcInv.start hD) (fun i H' _ J => ⟨J.1.seq (SqL.of hL'), Same.seqT J.1 (SqT.of hqs)⟩) ?_ ?_
      · rintro i v H3 H4 hi J ⟨T', x0, y0, rfl, hT', rfl, hx0, hy0⟩
        obtain ⟨p, hp, rfl⟩ := get_ref hx0
        obtain ⟨q0, hq0, rfl⟩ := get_ref hy0
        obtain ⟨D0, hD0, pw, sO⟩ := Paired.at' hpd hp
        obtain ⟨u, hu, hur⟩ := Paired.at' hqw hq0
        obtain ⟨t0, ht0, rfl⟩ := get_dof hD0
        have eu : u = ws st.whole t0 := by
          unfold Wof at hu
          rw [List.getElem?_map, ht0] at hu
          exact (Option.some.inj hu).symm
        subst eu
        have hm0 := List.mem_of_getElem? ht0
        have tk := ok2.ok t0 hm0
        obtain ⟨z4, zs, _, _⟩ := ok2.ws (t := t0) hm0
        have Sx : Same H2 (upd H3 T' (.tup [.ref p, .ref q0])) := Same.step J.1 (Same.new hT')
        refine ⟨T', _, rfl, SqT.of upd_same, rfl, _, _, rfl, _, _, rfl, rfl, rfl, yesT ?_⟩
        refine iteT ?_
        obtain ⟨dxs, pfs, lvs, kcs, hs1, _, _⟩ := sO.keeps Sx
        refine ⟨_, rfl, p, dxs, _, rfl, hs1, susF_no _ _ _ _ (by decide +kernel), _, rfl, p, pw, q0, dat t0, ws st.whole t0, rfl, sO.keeps Sx, Sx _ _ hur, (by simp [dat, tk.vn]), (by simp only [dat, List.length_map]; exact tk.vl), z4, zs, fun H5 j S5 fm => ?_⟩
        refine J.fin hD (Same.step (Same.new hT') S5) ?_ ?_
        · rw [List.getElem?_map, ht0, verdict_of tk.vn fm]
          rfl
        · have := (List.getElem?_eq_some_iff.mp ht0).1
          omega
      · rintro H3 ⟨S3, hD3⟩
        rw [List.take_of_length_le (by rw [List.length_map, List.length_map, List.length_map]; omega)] at hD3
        refine ⟨by show 1 ≤ sizeLine; decide, fun l1 hl1' => ⟨_, rfl, l1, D, _, _, rfl, rfl, upd_same, (upd_ne (ne_of_none hD3 hl1')).trans hD3, ?_, fun l2 hl2' => ⟨_, rfl, by show 1 ≤ sizeLine; decide, fun l3 hl3' => ?_⟩⟩⟩
        · rw [List.length_map]
          exact Nat.le_trans (show 1 + ts.length ≤ 1000 by omega) (by decide)
        refine ⟨l2, l3, _, _, rfl, rfl, (upd_ne (ne_of_none upd_same hl3')).trans upd_same, upd_same, ?_, fun r2 hr2' => ?_⟩
        · rw [List.length_append, List.length_map]
          exact Nat.le_trans (show 1 + ts.length + 1 ≤ 1000 by omega) (by decide)
        have Sz : Same H _ := Same.step S2 (Same.step S3 (Same.step (Same.new hl1') (Same.step (Same.new hl2') (Same.new (o := .lst [.int (mn * 1000000 / scale (st.whole : Int) (Wof st.whole ts) n)]) hl3'))))
        refine q _ r2 (Same.step Sz (Same.new hr2')) (Sz.free hr2') ?_
        rw [upd_same]
        simp [List.map_append, Function.comp_def]
    · have k0 : ¬ k = 0 := by have := of_decide_eq_false h1; omega
      rw [if_neg k0] at q
      refine ⟨_, rfl, _, _, rfl, rfl, _, rfl, by show 3 ≤ sizeLine; decide, fun r2 hr2' => ?_⟩
      exact q _ r2 (Same.step S2 (Same.new hr2')) (S2.free hr2') upd_same
end
end Ta
end
section
set_option Elab.async false
set_option maxRecDepth 100000
set_option maxHeartbeats 2000000
set_option linter.all false
/-! House: best, would, worth -/
namespace Ta
open PySem PySem.Spec PyProof.Rows L2 RZ
open Rp06 (Kind Test House)
section
variable {P : Program} {w : World} {K : PySem.W.Frag} {mg : Str → Option Value} {base : Heap} {CH Cs CW : Addr}
theorem scBe0 : FnScope ["self"] ["self"] (defScope sBest) := ⟨rfl, rfl, rfl, by decide +kernel, rfl, by decide +kernel, by decide +kernel⟩
def spBest (HA : HP) : Sp := fun vs H Q _ => ∃ (h : Addr) (S : List Addr) (st : House), vs = [.ref h] ∧ HA H S h st ∧ HouseOk st ∧ Ret HA H S h st .best Q
theorem mf_best (M : MOk K CH "best" "House.best" sBest ["self"]) (T : HouTxt K mg CH) (MF : MFn P w K mg base 16 CH "best_from" ["self", "weights", "tries"] (spBestFrom (HouAt CH Cs))) (MN : MFn P w K mg base 1 CH "weights_now" ["self"] (spWNow (HouAt CH Cs))) :
    MFn P w K mg base 17 CH "best" ["self"] (spBest (HouAt CH Cs)) := by
  obtain ⟨f, fd, F, b, m⟩ := M
  obtain ⟨fF, dF, GF, bF, mF⟩ := MF
  obtain ⟨fN, dN, GN, bN, mN⟩ := MN
  refine ⟨f, fd, F.ok scBe0 (fun vs H Q E h => ?_) (fun cdv A outer s H vs Q E hr h => ?_), b, m⟩
  · obtain ⟨h, S, st, rfl, _⟩ := h
    rfl
  · obtain ⟨h, S, st, rfl, ⟨dx, L, ps, hA⟩, ok, R⟩ := h
    have hr1 : Room 1 _ := hr.mono (by decide)
    refine ⟨_, pss_one (ps_ret (pe_meth (pv 0) T.cl mF GF hr bF .nil pass0 (pa_cons (pe_meth0 (pv 0) T.cl mN GN hr1 bN .nil pass0) (pa_cons (pe_fld (pv 0) rfl) pa_nil)))), ?_⟩
    refine ⟨_, rfl, h, dx, _, rfl, hA.o, houF_no _ _ _ _ (by decide +kernel), _, rfl, h, dx, _, rfl, hA.o, houF_no _ _ _ _ (by decide +kernel), h, S, st, rfl, ⟨dx, L, ps, hA⟩, ok, fun H1 t S1 W1 => ?_⟩
    have hA1 := hA.keeps S1
    refine ⟨_, rfl, h, CH, dx, _, _, rfl, hA1.o, T.cl, T.nL, houF_l _ _ _ _, h, t, S, st, st.tests, st.left, rfl, ⟨dx, L, ps, hA1⟩, ok, rfl, ok, W1, fun H2 r S2 hr2 h2 => ?_⟩
    exact R.keep hA (a := st.way) rfl rfl (Same.step S1 S2) (S1.free hr2) h2
/-! ### would -/
abbrev nWd : List Str := ["self", "number", "passed", "refusal", "behind"]
theorem scWd : FnScope nWd ["self", "number", "passed"] (defScope sWould) := ⟨rfl, rfl, rfl, by decide +kernel, rfl, by decide +kernel, by decide +kernel⟩
def spWould (HA : HP) : Sp := fun vs H Q _ => ∃ (h : Addr) (S : List Addr) (st : House) (j q : Nat), vs = [.ref h, .int (j : Int), .int (q : Int)] ∧ HA H S h st ∧ HouseOk st ∧ Ret HA H S h st (.would j q) Q
theorem mf_would (M : MOk K CH "would" "House.would" sWould ["self", "number", "passed"]) (T : HouTxt K mg CH) (Tw : WaysTxt K mg CW) (WM : WaysM P w K mg base CW Cs) (MY : MFn P w K mg base 2 CH "why_not" ["self", "number", "passed"] (spWhyNot (HouAt CH Cs)))
    (MO : MFn P w K mg base 3 CH "ways_on" ["self"] (spWaysOn P w CW Cs (HouAt CH Cs))) (MF : MFn P w K mg base 16 CH "best_from" ["self", "weights", "tries"] (spBestFrom (HouAt CH Cs))) (MN : MFn P w K mg base 1 CH "weights_now" ["self"] (spWNow (HouAt CH Cs))) :
    MFn P w K mg base 17 CH "would" ["self", "number", "passed"] (spWould (HouAt CH Cs)) := by
  obtain ⟨f, fd, F, b, m⟩ := M
  obtain ⟨fY, dY, GY, bY, mY⟩ := MY
  obtain ⟨fO, dO, GO, bO, mO⟩ := MO
  obtain ⟨fF, dF, GF, bF, mF⟩ := MF
  obtain ⟨fN, dN, GN, bN, mN⟩ := MN
  obtain ⟨fB, dB, GB, bB, mB⟩ := WM.behind
  refine ⟨f, fd, F.ok scWd (fun vs H Q E h => ?_) (fun cdv A outer s H vs Q E hr h => ?_), b, m⟩
  · obtain ⟨h, S, st, j, q, rfl, _⟩ := h
    rfl
  · obtain ⟨h, S, st, j, q, rfl, ⟨dx, L, ps, hA⟩, ok, R⟩ := h
    have hr1 : Room 1 _ := hr.mono (by decide)
    have hr2 : Room 2 _ := hr.mono (by decide)
    have hr3 : Room 3 _ := hr.mono (by decide)
    refine ⟨_, pss_cons (ps_set (i := 3) scWd.nd rfl (Or.inl rfl) (pe_meth (pv 0) T.cl mY GY hr2 bY .nil pass0 (pa_cons (pv 1) (pa_cons (pe_cmpR op_ne (pv 2) pe_int (nomark _)) pa_nil))))
      (pss_cons (ps_if (pt_cmpR op_lt (pv 3) pe_int (nomark _)) (pss_one (ps_ret (pe_lst (pa_cons (pv 3) pa_nil)))) pss_nil)
      (pss_cons (ps_set (i := 4) scWd.nd rfl (Or.inl rfl) (pe_meth (pe_meth0 (pv 0) T.cl mO GO hr3 bO .nil pass0) Tw.cl mB GB hr2 bB .nil pass0 (pa_cons (pv 1) (pa_cons (pe_cmpR op_ne (pv 2) pe_int (nomark _)) (pa_cons (pe_meth0 (pv 0) T.cl mN GN hr1 bN .nil pass0) pa_nil)))))
      (pss_one (ps_ret (pe_meth (pv 0) T.cl mF GF hr bF .nil pass0 (pa_cons (pv 4) (pa_cons (pe_op op_sub (pe_fld (pv 0) rfl) pe_int) pa_nil))))))), ?_⟩
    refine ⟨_, rfl, h, dx, _, rfl, hA.o, houF_no _ _ _ _ (by decide +kernel), _, rfl, _, rfl, rfl, h, S, st, j, q != 0, congrArg (fun z => [V.ref h, V.int (j : Int), V.bl z]) (ne0 q), ⟨dx, L, ps, hA⟩, ok, fun H1 S1 => ?_⟩
    have hA1 := hA.keeps S1
    refine ⟨_, rfl, _, _, rfl, rfl, _, rfl, ?_⟩
    refine itec (fun h1 => ?_) (fun h1 => ?_)
    · have g1 := of_decide_eq_true h1
      exact ⟨_, rfl, by show 1 ≤ sizeLine; decide, fun r hr => R.keep hA (a := Rp06.ok (whyNot st j (q != 0))) (l := [whyNot st j (q != 0)]) (whyNot_neg g1).2 rfl (Same.step S1 (Same.new hr)) (S1.free hr) upd_same⟩
    · have g1 := of_decide_eq_false h1
      obtain ⟨hj, hl, hz⟩ := whyNot_ok g1
      refine ⟨_, rfl, h, dx, _, rfl, hA1.o, houF_no _ _ _ _ (by decide +kernel), h, S, st, rfl, ⟨dx, L, ps, hA1⟩, ok, fun H2 a kd L2 S2 X2 fk => ?_⟩
      have S12 := Same.step S1 S2
      have hA2 := hA.keeps S12
      obtain ⟨dxa, ha2⟩ := id X2.o
      refine ⟨a, dxa, _, rfl, ha2, wayF_no _ _ _ _ (by decide +kernel) (by decide +kernel) (by decide +kernel) (by decide +kernel), _, rfl, _, rfl, rfl, _, rfl, h, dx, _, rfl, hA2.o, houF_no _ _ _ _ (by decide +kernel), h, S, st, rfl, ⟨dx, L, ps, hA2⟩, ok, fun H3 t S3 W3 => ?_⟩
      refine ⟨a, t, L2, kd, _, _, _, _, st.left, j, q != 0, congrArg (fun z => [V.ref a, V.int (j : Int), V.bl z, V.ref t]) (ne0 q), X2.o.keeps S3, X2.s.keeps S3, W3, ok.wok, (by simp only [Wof, List.length_map]; exact hj), fun H4 r S4 W4 => ?_⟩
      have S14 := Same.step S12 (Same.step S3 S4)
      have hA4 := hA.keeps S14
      rw [← Wof_after hj (fun t ht => (ok.ok t ht).kf)] at W4
      refine ⟨_, rfl, h, dx, _, rfl, hA4.o, houF_no _ _ _ _ (by decide +kernel), _, rfl, _, rfl, h, CH, dx, _, _, rfl, hA4.o, T.cl, T.nL, houF_l _ _ _ _, _, _, rfl, rfl, h, r, S, st, Rp06.after st.tests j (q != 0), st.left - 1, ?_, ⟨dx, L, ps, hA4⟩, ok, Dof_after _ _ _, ok.got hl hz, W4, fun H5 r2 S5 hr5 h5 => ?_⟩
      · show [V.ref h, V.ref r, V.int ((st.left : Int) - 1)] = _
        rw [show (st.left : Int) - 1 = ((st.left - 1 : Nat) : Int) by omega]
      · have est : Rp06.step st (.would j q) = (st, (st.got j q).way) := (if_neg (by omega)).trans ((if_neg (by omega)).trans (if_neg hz))
        exact R.keep hA est rfl (Same.step S14 S5) (S14.free hr5) h5
/-! ### worth -/
abbrev nWt : List Str := ["self", "tries", "ways", "weights"]
theorem scWt : FnScope nWt ["self", "tries"] (defScope sWorth) := ⟨rfl, rfl, rfl, by decide +kernel, rfl, by decide +kernel, by decide +kernel⟩
def spWorth (HA : HP) : Sp := fun vs H Q _ => ∃ (h : Addr) (S : List Addr) (st : House) (n : Nat), vs = [.ref h, .int (n : Int)] ∧ HA H S h st ∧ HouseOk st ∧ Ret HA H S h st (.worth n) Q
theorem mf_worth (M : MOk K CH "worth" "House.worth" sWorth ["self", "tries"]) (T : HouTxt K mg CH) (Tw : WaysTxt K mg CW) (WM : WaysM P w K mg base CW Cs)
    (MO : MFn P w K mg base 3 CH "ways_on" ["self"] (spWaysOn P w CW Cs (HouAt CH Cs))) (MN : MFn P w K mg base 1 CH "weights_now" ["self"] (spWNow (HouAt CH Cs))) : MFn P w K mg base 17 CH "worth" ["self", "tries"] (spWorth (HouAt CH Cs)) := by
  obtain ⟨f, fd, F, b, m⟩ := M
  obtain ⟨fO, dO, GO, bO, mO⟩ := MO
  obtain ⟨fN, dN, GN, bN, mN⟩ := MN
  obtain ⟨fS, dS, GS, bS, mS⟩ := WM.scale
  refine ⟨f, fd, F.ok scWt (fun vs H Q E h => ?_) (fun cdv A outer s H vs Q E hr h => ?_), b, m⟩
  · obtain ⟨h, S, st, n, rfl, _⟩ := h
    rfl
  · obtain ⟨h, S, st, n, rfl, ⟨dx, L, ps, hA⟩, ok, R⟩ := h
    have hr1 : Room 1 _ := hr.mono (by decide)
    have hr3 : Room 3 _ := hr.mono (by decide)
    by_cases hn : n ≤ st.left
    · have ok2 := ok.fewer hn
      have hn4 : n ≤ 4 := ok2.le
      obtain ⟨fL, dL, GL, bL, mL⟩ := WM.least n hn4
      have hrL : Room (4 + 3 * n) _ := hr.mono (by omega)
      refine ⟨_, pss_cons (ps_if (pt_cmpR op_gt (pv 1) (pe_fld (pv 0) rfl) (nomark _)) (pss_one (ps_ret (pe_lst (pa_cons (pe_gi T.gOR) pa_nil)))) pss_nil)
        (pss_cons (ps_set (i := 2) scWt.nd rfl (Or.inl rfl) (pe_meth0 (pv 0) T.cl mO GO hr3 bO .nil pass0))
        (pss_cons (ps_set (i := 3) scWt.nd rfl (Or.inl rfl) (pe_meth0 (pv 0) T.cl mN GN hr1 bN .nil pass0))
        (pss_one (ps_ret (pe_lst (pa_cons (pe_op op_fdivW (pe_op op_mul (pe_meth (pv 2) Tw.cl mL GL hrL bL .nil pass0 (pa_cons (pv 3) (pa_cons (pv 1) pa_nil))) (pe_gi T.gM)) (pe_meth (pv 2) Tw.cl mS GS hr1 bS .nil pass0 (pa_cons (pv 3) (pa_cons (pv 1) pa_nil)))) pa_nil)))))), ?_⟩
      refine ⟨_, rfl, _, rfl, h, CH, dx, _, _, rfl, hA.o, T.cl, T.nL, houF_l _ _ _ _, _, _, rfl, rfl, _, rfl, ?_⟩
      refine itec (fun h1 => ?_) (fun h1 => ?_)
      · have := of_decide_eq_true h1
        omega
      · refine ⟨_, rfl, h, dx, _, rfl, hA.o, houF_no _ _ _ _ (by decide +kernel), h, S, st, rfl, ⟨dx, L, ps, hA⟩, ok, fun H1 a kd L1 S1 X1 fk => ?_⟩
        have hA1 := hA.keeps S1
        refine ⟨_, rfl, h, dx, _, rfl, hA1.o, houF_no _ _ _ _ (by decide +kernel), h, S, st, rfl, ⟨dx, L, ps, hA1⟩, ok, fun H2 t S2 W2 => ?_⟩
        have X2 := X1.keeps S2
        have S12 := Same.step S1 S2
        obtain ⟨dxa, ha2⟩ := id X2.o
        have wok : WOk (st.whole : Int) (Dof st.tests) n (Wof st.whole st.tests) := ok2.wok
        obtain ⟨sc0, sc1⟩ := ok2.scale
        have sc0 : 0 < scale (st.whole : Int) (Wof st.whole st.tests) n := sc0
        have sc1 : (scale (st.whole : Int) (Wof st.whole st.tests) n).natAbs < 2 ^ 200 := sc1
        refine ⟨_, rfl, a, dxa, _, rfl, ha2, wayF_no _ _ _ _ (by decide +kernel) (by decide +kernel) (by decide +kernel) (by decide +kernel), _, rfl, _, rfl, a, t, kd, L1, _, _, _, [], _, rfl, X2, W2, wok, (by have := Bn_le n hn4; show 0 + Bn n ≤ 100000; omega), fun H3 xs3 B3 X3 g3 => ?_⟩
        have S3 : Same H H3 := But.fresh S12 B3 fk
        obtain ⟨dxa3, ha3⟩ := id X3.o
        refine ⟨_, _, rfl, rfl, .inr ⟨by decide, by decide⟩, _, rfl, a, dxa3, _, rfl, ha3, wayF_no _ _ _ _ (by decide +kernel) (by decide +kernel) (by decide +kernel) (by decide +kernel), _, rfl, _, rfl, a, t, L1, kd, _, _, _, n, rfl, X3.o, X2.wAt B3 W2, wok.small, wok.d0, wok.d1, hn4,
          _, _, rfl, rfl, wide_div sc0 sc1 (by decide) (by decide), by show 1 ≤ sizeLine; decide, fun r hr => ?_⟩
        have est : Rp06.step st (.worth n) = (st, Rp06.ok (Rp06.shown st.whole n st.tests (Rp06.best st.whole st.cost n st.tests) : Nat)) := if_neg (by omega)
        refine R.keep hA est (l := [least (st.whole : Int) (st.cost : Int) (Dof st.tests) n (Wof st.whole st.tests) * 1000000 / scale (st.whole : Int) (Wof st.whole st.tests) n]) ?_ (Same.step S3 (Same.new hr)) (S3.free hr) upd_same
        show [((Rp06.shown st.whole n st.tests (Rp06.best st.whole st.cost n st.tests) : Nat) : Int)] = _
        rw [shown_ediv, best_cast n st.tests ok.ok]
    · refine ⟨_, pss_cons (ps_if (pt_cmpR op_gt (pv 1) (pe_fld (pv 0) rfl) (nomark _)) (pss_one (ps_ret (pe_lst (pa_cons (pe_gi T.gOR) pa_nil)))) pss_nil)
        (pss_cons ps_never (pss_cons ps_never (pss_one ps_never))), ?_⟩
      refine ⟨_, rfl, _, rfl, h, CH, dx, _, _, rfl, hA.o, T.cl, T.nL, houF_l _ _ _ _, _, _, rfl, rfl, _, rfl, ?_⟩
      refine itec (fun h1 => ?_) (fun h1 => ?_)
      · exact ⟨by show 1 ≤ sizeLine; decide, fun r hr => R.keep hA (a := Rp06.ok (-1)) (l := [-1]) (if_pos (by omega)) rfl (Same.new hr) hr upd_same⟩
      · have := of_decide_eq_false h1
        omega
end
end Ta
end
section
set_option Elab.async false
set_option maxRecDepth 100000
set_option maxHeartbeats 2000000
set_option linter.all false
/-! House: chances, fails, state -/
namespace Ta
open PySem PySem.Spec PyProof.Rows L2 RZ
open Rp06 (Kind Test House)
section
variable {P : Program} {w : World} {K : PySem.W.Frag} {mg : Str → Option Value} {base : Heap} {CH Cs CW : Addr}
abbrev nCh : List Str := ["self", "number", "weights", "weight"]
theorem scCh : FnScope nCh ["self", "number"] (defScope sChances) := ⟨rfl, rfl, rfl, by decide +kernel, rfl, by decide +kernel, by decide +kernel⟩
def spChances (HA : HP) : Sp := fun vs H Q _ => ∃ (h : Addr) (S : List Addr) (st : House) (j : Nat), vs = [.ref h, .int (j : Int)] ∧ HA H S h st ∧ HouseOk st ∧ Ret HA H S h st (.chances j) Q
theorem mf_chances (M : MOk K CH "chances" "House.chances" sChances ["self", "number"]) (T : HouTxt K mg CH) (Ts : SusTxt K mg Cs) : MFn P w K mg base 1 CH "chances" ["self", "number"] (spChances (HouAt CH Cs)) := by
  obtain ⟨f, fd, F, b, m⟩ := M
  refine ⟨f, fd, F.ok scCh (fun vs H Q E h => ?_) (fun cdv A outer s H vs Q E hr h => ?_), b, m⟩
  · obtain ⟨h, S, st, j, rfl, _⟩ := h
    rfl
  · obtain ⟨h, S, st, j, rfl, ⟨dx, L, ps, hA⟩, ok, R⟩ := h
    refine ⟨_, pss_cons (ps_if (pt_cmpR op_ge (pv 1) (pe_callB call_len_seq (by rfl) T.len PySem.boot_len (pa_cons (pe_fld (pv 0) rfl) pa_nil)) (nomark _)) (pss_one (ps_ret (pe_lst (pa_cons (pe_gi T.gNS) pa_nil)))) pss_nil)
      (pss_cons (ps_set (i := 2) scCh.nd rfl (Or.inr rfl) (pe_fld (pe_ix ix_list (pe_fld (pv 0) rfl) (pv 1) (fun _ _ => rfl)) rfl))
      (pss_one (ps_ret (pe_op op_cat (pe_lst (pa_cons (pe_callB call_len_seq (by rfl) T.len PySem.boot_len (pa_cons (pv 2) pa_nil)) pa_nil))
        (pe_lc (own := [("weight", 3)]) (g := gName 3) (tt := tYes) rfl scCh.nd (pi_tup (pv 2)) (blkOk_by (own := [("weight", 3)]) (N := nCh) (sc := defScope sChances) (by decide +kernel))
          (fun _ _ _ _ _ => pg_name (i := 3) scCh.nd rfl (Or.inl rfl)) (fun _ _ _ _ _ => pts_nil)
          (fun _ _ _ _ _ => pe_op op_fdiv (pe_op op_mul (pv 3) (pe_gi T.gM)) (pe_callB (cr_sumTK K rfl rfl) (by rfl) T.sum (by decide +kernel) (pa_cons (pv 2) pa_nil)))))))), ?_⟩
    have hlen := hA.len
    refine ⟨_, rfl, _, rfl, h, CH, dx, _, _, rfl, hA.o, T.cl, T.nS, houF_s _ _ _ _, L, _, rfl, .inl (SqL.of hA.l), _, _, rfl, rfl, _, rfl, ?_⟩
    rw [hlen]
    refine itec (fun h1 => ?_) (fun h1 => ?_)
    · have g1 := of_decide_eq_true h1
      exact ⟨by show 1 ≤ sizeLine; decide, fun r hr => R.keep hA (a := Rp06.ok (-2)) (l := [-2]) (if_pos (by omega)) rfl (Same.new hr) hr upd_same⟩
    · have g1 := of_decide_eq_false h1
      obtain ⟨t, p0, ht, hp0, z, eat, hm⟩ := hA.at_ (show j < st.tests.length by omega)
      obtain ⟨dxs, pw, pf, lv, y1, y2, y3, y4, _, _⟩ := id z
      obtain ⟨h4, sm, sp, sb⟩ := ok.ws hm
      refine ⟨_, rfl, h, CH, dx, _, _, rfl, hA.o, T.cl, T.nS, houF_s _ _ _ _, _, rfl, L, _, _, _, rfl, rfl, SqL.of hA.l, atI_nat (by rw [List.getElem?_map, hp0]; rfl), p0, Cs, dxs, _, _, rfl, y1, Ts.cl, Ts.nW, susF_w _ _ _ _, ?_⟩
      refine ⟨_, rfl, pw, _, rfl, .inr (SqT.of y2), by show 1 ≤ sizeLine; decide, fun l1 hl1 => ?_⟩
      have S1 := Same.new (o := .lst [.int ((((ws st.whole t).map V.int).length : Nat) : Int)]) hl1
      refine ⟨_, rfl, pw, rfl, ⟨_, SqT.of (S1 _ _ y2)⟩, fun D hD => ?_⟩
      refine lc_tup (K := K) (a := pw) (xs := (ws st.whole t).map V.int) (LcInv _ D (((ws st.whole t).map fun x => x * 1000000 / (ws st.whole t).sum).map V.int)) (LcInv.start hD) (fun i H' _ I => Same.seqT I.1 (SqT.of (S1 _ _ y2))) ?_ ?_
      · rintro i y H' hi I
        obtain ⟨x, hx, rfl⟩ := get_int hi
        have sx := sm x (List.mem_of_getElem? hx)
        refine ⟨rfl, yesT ?_⟩
        refine iteT ?_
        refine ⟨_, rfl, _, _, rfl, rfl, .inr ⟨by decide, by decide⟩, _, rfl, pw, ws st.whole t, rfl, Same.seqT I.1 (SqT.of (S1 _ _ y2)), _, _, rfl, rfl, ⟨sp, by omega⟩, I.fin hD Same.refl ?_ ?_⟩
        · rw [List.getElem?_map, List.getElem?_map, hx]
          rfl
        · have := (List.getElem?_eq_some_iff.mp hx).1
          omega
      · rintro H2 ⟨S2, hD2⟩
        rw [List.take_of_length_le (by simp)] at hD2
        refine ⟨l1, D, _, _, rfl, rfl, S2 _ _ upd_same, hD2, ?_, fun r hr => ?_⟩
        · simp only [List.length_map]
          exact Nat.le_trans (show 1 + (ws st.whole t).length ≤ 1000 by omega) (by decide)
        have S12 := Same.step S1 S2
        have est : Rp06.step st (.chances j) = (st, ⟨(t.kinds.length : Nat), t.kinds.map fun x => Rp06.MILLION * t.now st.whole x / t.total st.whole⟩) := by
          show (if _ then _ else _) = _
          rw [if_neg (by omega), eat]
        refine R.keep hA est (chances_out st.whole t) (Same.step S12 (Same.new hr)) (S12.free hr) ?_
        rw [upd_same, List.map_cons, List.length_map]
        rfl
/-! ### fails -/
abbrev nFa : List Str := ["self", "number", "suspect", "failing"]
theorem scFa : FnScope nFa ["self", "number"] (defScope sFails) := ⟨rfl, rfl, rfl, by decide +kernel, rfl, by decide +kernel, by decide +kernel⟩
def spFails (HA : HP) : Sp := fun vs H Q _ => ∃ (h : Addr) (S : List Addr) (st : House) (j : Nat), vs = [.ref h, .int (j : Int)] ∧ HA H S h st ∧ HouseOk st ∧ Ret HA H S h st (.fails j) Q
theorem mf_fails (M : MOk K CH "fails" "House.fails" sFails ["self", "number"]) (T : HouTxt K mg CH) (Ts : SusTxt K mg Cs) (MA : MFn P w K mg base 1 Cs "weights_after" ["self", "weights", "passed", "whole"] (spWAfter K Cs)) :
    MFn P w K mg base 2 CH "fails" ["self", "number"] (spFails (HouAt CH Cs)) := by
  obtain ⟨f, fd, F, b, m⟩ := M
  obtain ⟨fA, dA, GA, bA, mA⟩ := MA
  refine ⟨f, fd, F.ok scFa (fun vs H Q E h => ?_) (fun cdv A outer s H vs Q E hr h => ?_), b, m⟩
  · obtain ⟨h, S, st, j, rfl, _⟩ := h
    rfl
  · obtain ⟨h, S, st, j, rfl, ⟨dx, L, ps, hA⟩, ok, R⟩ := h
    refine ⟨_, pss_cons (ps_if (pt_cmpR op_ge (pv 1) (pe_callB call_len_seq (by rfl) T.len PySem.boot_len (pa_cons (pe_fld (pv 0) rfl) pa_nil)) (nomark _)) (pss_one (ps_ret (pe_lst (pa_cons (pe_gi T.gNS) pa_nil)))) pss_nil)
      (pss_cons (ps_set (i := 2) scFa.nd rfl (Or.inl rfl) (pe_ix ix_list (pe_fld (pv 0) rfl) (pv 1) (fun _ _ => rfl)))
      (pss_cons (ps_set (i := 3) scFa.nd rfl (Or.inl rfl) (pe_callB (cr_sumT rfl) (by rfl) T.sum (by decide +kernel) (pa_cons (pe_meth (pv 2) Ts.cl mA GA hr bA .nil pass0 (pa_cons (pe_fld (pv 2) rfl) (pa_cons pe_bl (pa_cons (pe_fld (pv 0) rfl) pa_nil)))) pa_nil)))
      (pss_one (ps_ret (pe_lst (pa_cons (pe_op op_fdivW (pe_op op_mul (pv 3) (pe_gi T.gM)) (pe_op op_mul (pe_callB (cr_sumT rfl) (by rfl) T.sum (by decide +kernel) (pa_cons (pe_fld (pv 2) rfl) pa_nil)) (pe_fld (pv 0) rfl))) pa_nil)))))), ?_⟩
    have hlen := hA.len
    refine ⟨_, rfl, _, rfl, h, CH, dx, _, _, rfl, hA.o, T.cl, T.nS, houF_s _ _ _ _, L, _, rfl, .inl (SqL.of hA.l), _, _, rfl, rfl, _, rfl, ?_⟩
    rw [hlen]
    refine itec (fun h1 => ?_) (fun h1 => ?_)
    · have g1 := of_decide_eq_true h1
      exact ⟨by show 1 ≤ sizeLine; decide, fun r hr => R.keep hA (a := Rp06.ok (-2)) (l := [-2]) (if_pos (by omega)) rfl (Same.new hr) hr upd_same⟩
    · have g1 := of_decide_eq_false h1
      obtain ⟨t, p0, ht, hp0, z, eat, hm⟩ := hA.at_ (show j < st.tests.length by omega)
      obtain ⟨dxs, pw, pf, lv, y1, y2, y3, y4, _, _⟩ := id z
      obtain ⟨h4, sm, sp, sb⟩ := ok.ws hm
      have tk := ok.ok t hm
      have d0 := ok.lo
      have d1 := ok.hi
      refine ⟨_, rfl, h, CH, dx, _, _, rfl, hA.o, T.cl, T.nS, houF_s _ _ _ _, _, rfl, L, _, _, _, rfl, rfl, SqL.of hA.l, atI_nat (by rw [List.getElem?_map, hp0]; rfl), ?_⟩
      refine ⟨_, rfl, p0, dxs, _, rfl, y1, susF_no _ _ _ _ (by decide +kernel), _, rfl, p0, Cs, dxs, _, _, rfl, y1, Ts.cl, Ts.nW, susF_w _ _ _ _, _, rfl, h, CH, dx, _, _, rfl, hA.o, T.cl, T.nW, houF_w _ _ _ _,
        p0, pw, pw, dat t, ws st.whole t, false, (st.whole : Int), rfl, ⟨dxs, pf, lv, _, y1, y3, y4⟩, y2, (by simp [dat, fls, ws]), h4, sm, fun H1 r S1 hr1 h1 => ?_⟩
      refine ⟨r, _, rfl, SqT.of h1, ?_⟩
      have hA1 := hA.keeps S1
      have e1 : 0 < (ws st.whole t).sum * (st.whole : Int) := Int.mul_pos sp (by omega)
      have e2 : (ws st.whole t).sum * (st.whole : Int) ≤ 64000000 * 20 := Int.le_trans (Int.mul_le_mul_of_nonneg_left (show (st.whole : Int) ≤ 20 by omega) (Int.le_of_lt sp)) (Int.mul_le_mul_of_nonneg_right sb (by decide))
      have e3 : ((ws st.whole t).sum * (st.whole : Int)).natAbs < 2 ^ 40 := by
        have : (2 : Nat) ^ 40 = 1099511627776 := by decide
        rw [this]
        omega
      refine ⟨_, rfl, _, _, rfl, rfl, .inr ⟨by decide, by decide⟩, _, rfl, p0, Cs, dxs, _, _, rfl, S1 _ _ y1, Ts.cl, Ts.nW, susF_w _ _ _ _, pw, ws st.whole t, rfl, SqT.of (S1 _ _ y2), _, rfl, h, CH, dx, _, _, rfl, hA1.o, T.cl, T.nW, houF_w _ _ _ _, _, _, rfl, rfl, .inr ⟨by omega, by omega⟩,
        _, _, rfl, rfl, wide_div e1 e3 (by decide) (by decide), by show 1 ≤ sizeLine; decide, fun r2 hr2 => ?_⟩
      have est : Rp06.step st (.fails j) = (st, Rp06.ok (Rp06.MILLION * (t.after false).total st.whole / (t.total st.whole * st.whole) : Nat)) := by
        show (if _ then _ else _) = _
        rw [if_neg (by omega), eat]
      refine R.keep hA est (l := [(wAfter (fls t) (ws st.whole t) false (st.whole : Int)).sum * 1000000 / ((ws st.whole t).sum * (st.whole : Int))]) ?_ (Same.step S1 (Same.new hr2)) (S1.free hr2) upd_same
      show [((Rp06.MILLION * (t.after false).total st.whole / (t.total st.whole * st.whole) : Nat) : Int)] = _
      rw [fails_out tk]
/-! ### state -/
abbrev nSt' : List Str := ["self", "told", "suspect"]
theorem scSt' : FnScope nSt' ["self"] (defScope sState) := ⟨rfl, rfl, rfl, by decide +kernel, rfl, by decide +kernel, by decide +kernel⟩
def spState (HA : HP) : Sp := fun vs H Q _ => ∃ (h : Addr) (S : List Addr) (st : House), vs = [.ref h] ∧ HA H S h st ∧ HouseOk st ∧ Ret HA H S h st .state Q
def stateL (st : House) (i : Nat) : List Int := (st.tests.length : Int) :: (st.left : Int) :: (st.tests.take i).flatMap fun t => [(t.f : Int), (t.s : Int)]
theorem stateL_more {st : House} {i : Nat} {t : Test} (h : st.tests[i]? = some t) : stateL st (i + 1) = stateL st i ++ [(t.f : Int), (t.s : Int)] := by
  unfold stateL
  rw [take_more h, List.flatMap_append]
  simp
theorem stateL_len (st : House) : ∀ i, (stateL st i).length ≤ 2 + 2 * i
  | 0 => by simp [stateL]
  | i + 1 => by
    have ih := stateL_len st i
    cases e : st.tests[i]? with
    | none =>
      have hl := List.getElem?_eq_none_iff.mp e
      have : st.tests.take (i + 1) = st.tests.take i := by rw [List.take_of_length_le hl, List.take_of_length_le (by omega)]
      unfold stateL at ih ⊢
      rw [this]
      omega
    | some t =>
      rw [stateL_more e, List.length_append]
      show _ + 2 ≤ _
      omega
theorem mf_state (M : MOk K CH "state" "House.state" sState ["self"]) (T : HouTxt K mg CH) (Ts : SusTxt K mg Cs) : MFn P w K mg base 1 CH "state" ["self"] (spState (HouAt CH Cs)) := by
  obtain ⟨f, fd, F, b, m⟩ := M
  refine ⟨f, fd, F.ok scSt' (fun vs H Q E h => ?_) (fun cdv A outer s H vs Q E hr h => ?_), b, m⟩
  · obtain ⟨h, S, st, rfl, _⟩ := h
    rfl
  · obtain ⟨h, S, st, rfl, ⟨dx, L, ps, hA⟩, ok, R⟩ := h
    refine ⟨_, pss_cons (ps_set (i := 1) scSt'.nd rfl (Or.inl rfl) (pe_lst (pa_cons (pe_callB call_len_seq (by rfl) T.len PySem.boot_len (pa_cons (pe_fld (pv 0) rfl) pa_nil)) (pa_cons (pe_fld (pv 0) rfl) pa_nil))))
      (pss_cons (ps_for PassesOwn.never rfl (pi_list (pe_fld (pv 0) rfl)) (pg_name (i := 2) scSt'.nd rfl (Or.inl rfl))
        (pss_one (ps_expr (pe_bm PySem.F.plainAttrs_list PySem.F.slot_list_extend PySem.F.type_list_extend mt_extend (pv 1) (pa_cons (pe_lst (pa_cons (pe_fld (pv 2) rfl) (pa_cons (pe_fld (pv 2) rfl) pa_nil))) pa_nil)))))
      (pss_one (ps_ret (pv 1)))), ?_⟩
    have hlen := hA.len
    have tl := ok.tl
    refine ⟨_, rfl, h, CH, dx, _, _, rfl, hA.o, T.cl, T.nS, houF_s _ _ _ _, L, _, rfl, .inl (SqL.of hA.l), _, rfl, h, CH, dx, _, _, rfl, hA.o, T.cl, T.nL, houF_l _ _ _ _, by show 2 ≤ sizeLine; decide, fun td htd => ?_⟩
    rw [hlen]
    have S1 := Same.new (o := .lst [.int (st.tests.length : Int), .int (st.left : Int)]) htd
    have hA1 := hA.keeps S1
    refine ⟨_, rfl, h, CH, dx, _, _, rfl, hA1.o, T.cl, T.nS, houF_s _ _ _ _, L, rfl, ⟨_, SqL.of hA1.l⟩, for_list (K := K) (a := L) (xs := ps.map V.ref) (fun i σ H' => Same H H' ∧ ∃ v, σ = [some (.ref h), some (.ref td), v] ∧ H' td = some (.lst ((stateL st i).map V.int))) ?_ ?_ ?_ ?_⟩
    · exact ⟨S1, none, rfl, upd_same⟩
    · rintro i σ H' _ ⟨S2, _⟩
      exact S2.seq (SqL.of hA.l)
    · rintro i y σ H' hi ⟨S2, v, rfl, hT⟩
      obtain ⟨p, hp, rfl⟩ := get_ref hi
      obtain ⟨t, ht, dxs, pw, pf, lv, y1, _⟩ := Paired.at' hA.t hp
      have y2 := S2 _ _ y1
      have hi3 : i < st.tests.length := (List.getElem?_eq_some_iff.mp ht).1
      refine ⟨_, rfl, .inl ⟨rfl, _, SqL.of hT⟩, _, rfl, p, Cs, dxs, _, _, rfl, y2, Ts.cl, Ts.nA, susF_a _ _ _ _, _, rfl, p, Cs, dxs, _, _, rfl, y2, Ts.cl, Ts.nP, susF_p _ _ _ _, by show 2 ≤ sizeLine; decide, fun l2 hl2 => ?_⟩
      have ntl : td ≠ l2 := ne_of_none hT hl2
      refine ⟨td, l2, _, _, rfl, rfl, (upd_ne ntl).trans hT, upd_same, ?_, ?_⟩
      · have := stateL_len st i
        rw [List.length_map]
        exact Nat.le_trans (show (stateL st i).length + 2 ≤ 1000 by omega) (by decide)
      refine ⟨fun c o e => ?_, _, rfl, ?_⟩
      · rw [upd_ne (ne_of_none e htd), upd_ne (ne_of_none (S2 _ _ e) hl2)]
        exact S2 _ _ e
      · rw [upd_same, stateL_more ht, List.map_append]
        rfl
    · rintro σ H' ⟨S2, v, rfl, hT⟩
      rw [hlen] at hT
      refine ⟨_, rfl, ?_⟩
      refine R.keep hA (a := ⟨(st.tests.length : Nat), st.left :: st.tests.flatMap fun t => [t.f, t.s]⟩) rfl (l := stateL st st.tests.length) ?_ S2 htd hT
      unfold stateL Rp06Neutral.out
      rw [List.take_length, List.map_cons, List.map_flatMap]
      rfl
end
end Ta
end
section
set_option Elab.async false
set_option maxRecDepth 100000
set_option maxHeartbeats 2000000
set_option linter.all false
/-! answer_call -/
namespace Ta
open PySem PySem.Spec PyProof.Rows L2 RZ
open Rp06 (Kind Test House)
structure CallTxt (mg : Str → Option Value) : Prop where
  g0 : GI mg "BEGINS" 0
  g1 : GI mg "TEST" 1
  g2 : GI mg "RESULT" 2
  g3 : GI mg "BEST" 3
  g4 : GI mg "CHANCES" 4
  g5 : GI mg "FAILS" 5
  g6 : GI mg "WORTH" 6
  g7 : GI mg "WOULD" 7
  g8 : GI mg "STATE" 8
theorem ifNo {x y : Int} {A B : Prop} (h : x ≠ y) (b : B) : if decide (V.int x = V.int y) = true then A else B := by
  rw [dV, decide_eq_false h]
  exact b
theorem ifYes {x : Int} {A B : Prop} (a : A) : if decide (V.int x = V.int x) = true then A else B := by
  rw [dV, decide_eq_true rfl]
  exact a
theorem Ret.from_ {HA : HP} {H H1 : Hp} {S : List Addr} {h : Addr} {st : House} {c : Rp06.Call} {Q : L2.VK} (R : Ret HA H S h st c Q) (s : Same H H1) : Ret HA H1 S h st c Q := fun H' S' r F a n f e =>
  R H' S' r ⟨fun b o z m => F.1 _ _ (s _ _ z) m, fun b hb => (F.2 b hb).imp id fun z => s.free z⟩ a n (s.free f) e
section
variable {P : Program} {w : World} {K : PySem.W.Frag} {mg : Str → Option Value} {base : Heap} {CH Cs CW : Addr}
abbrev nAC : List Str := ["house", "call", "numbers", "lists"]
theorem scAC : FnScope nAC nAC (defScope sAnswerCall) := ⟨rfl, rfl, rfl, by decide +kernel, rfl, by decide +kernel, by decide +kernel⟩
structure HouseM (P : Program) (w : World) (K : PySem.W.Frag) (mg : Str → Option Value) (base : Heap) (CH Cs : Addr) : Prop where
  begins : MFn P w K mg base 1 CH "begins" nBe (spBegins (HouAt CH Cs))
  test : MFn P w K mg base 3 CH "test" nTe (spTest K (HouAt CH Cs))
  result : MFn P w K mg base 3 CH "result" ["self", "number", "passed"] (spResult (HouAt CH Cs))
  best : MFn P w K mg base 17 CH "best" ["self"] (spBest (HouAt CH Cs))
  chances : MFn P w K mg base 1 CH "chances" ["self", "number"] (spChances (HouAt CH Cs))
  fails : MFn P w K mg base 2 CH "fails" ["self", "number"] (spFails (HouAt CH Cs))
  worth : MFn P w K mg base 17 CH "worth" ["self", "tries"] (spWorth (HouAt CH Cs))
  would : MFn P w K mg base 17 CH "would" ["self", "number", "passed"] (spWould (HouAt CH Cs))
  state : MFn P w K mg base 1 CH "state" ["self"] (spState (HouAt CH Cs))
theorem df_call (D : DOk K mg "answer_call" sAnswerCall nAC) (T : HouTxt K mg CH) (C : CallTxt mg) (M : HouseM P w K mg base CH Cs) : DFn P w K mg base 18 "answer_call" nAC (spCall (HouAt CH Cs)) := by
  obtain ⟨f, fd, F, b, g⟩ := D
  obtain ⟨f0, d0, G0, b0, m0⟩ := M.begins
  obtain ⟨f1, d1, G1, b1, m1⟩ := M.test
  obtain ⟨f2, d2, G2, b2, m2⟩ := M.result
  obtain ⟨f3, d3, G3, b3, m3⟩ := M.best
  obtain ⟨f4, d4, G4, b4, m4⟩ := M.chances
  obtain ⟨f5, d5, G5, b5, m5⟩ := M.fails
  obtain ⟨f6, d6, G6, b6, m6⟩ := M.worth
  obtain ⟨f7, d7, G7, b7, m7⟩ := M.would
  obtain ⟨f8, d8, G8, b8, m8⟩ := M.state
  refine ⟨f, fd, F.ok scAC (fun vs H Q E h => ?_) (fun cdv A outer s H vs Q E hr h => ?_), b, g, F.kp⟩
  · obtain ⟨h, nl, ll, S, st, p, ns, ps, xs, rfl, _⟩ := h
    rfl
  · obtain ⟨h, nl, ll, S, st, p, ns, ps, xs, rfl, ⟨dx, L, ss, hA⟩, ok, hn, nS, hl, lS, hps, hfit, q⟩ := h
    have hr1 : Room 1 _ := hr.mono (by decide)
    have hr2 : Room 2 _ := hr.mono (by decide)
    have hr3 : Room 3 _ := hr.mono (by decide)
    refine ⟨_, pss_cons (ps_if (pt_cmpR op_eq (pv 1) (pe_gi C.g0) (nomark _)) (pss_one (ps_ret (pe_meth (pv 0) T.cl m0 G0 hr1 b0 .nil pass0 (pa_cons (pe_ix ix_list (pv 2) pe_int (fun _ _ => rfl)) (pa_cons (pe_ix ix_list (pv 2) pe_int (fun _ _ => rfl)) (pa_cons (pe_ix ix_list (pv 2) pe_int (fun _ _ => rfl)) pa_nil)))))) pss_nil)
      (pss_cons (ps_if (pt_cmpR op_eq (pv 1) (pe_gi C.g1) (nomark _)) (pss_one (ps_ret (pe_meth (pv 0) T.cl m1 G1 hr3 b1 .nil pass0 (pa_cons (pe_ix ix_list (pv 3) pe_int (fun _ _ => rfl)) (pa_cons (pe_slice sl_list (pv 3) (po_some pe_int) po_none) pa_nil))))) pss_nil)
      (pss_cons (ps_if (pt_cmpR op_eq (pv 1) (pe_gi C.g2) (nomark _)) (pss_one (ps_ret (pe_meth (pv 0) T.cl m2 G2 hr3 b2 .nil pass0 (pa_cons (pe_ix ix_list (pv 2) pe_int (fun _ _ => rfl)) (pa_cons (pe_ix ix_list (pv 2) pe_int (fun _ _ => rfl)) pa_nil))))) pss_nil)
      (pss_cons (ps_if (pt_cmpR op_eq (pv 1) (pe_gi C.g3) (nomark _)) (pss_one (ps_ret (pe_meth0 (pv 0) T.cl m3 G3 hr b3 .nil pass0))) pss_nil)
      (pss_cons (ps_if (pt_cmpR op_eq (pv 1) (pe_gi C.g4) (nomark _)) (pss_one (ps_ret (pe_meth (pv 0) T.cl m4 G4 hr1 b4 .nil pass0 (pa_cons (pe_ix ix_list (pv 2) pe_int (fun _ _ => rfl)) pa_nil)))) pss_nil)
      (pss_cons (ps_if (pt_cmpR op_eq (pv 1) (pe_gi C.g5) (nomark _)) (pss_one (ps_ret (pe_meth (pv 0) T.cl m5 G5 hr2 b5 .nil pass0 (pa_cons (pe_ix ix_list (pv 2) pe_int (fun _ _ => rfl)) pa_nil)))) pss_nil)
      (pss_cons (ps_if (pt_cmpR op_eq (pv 1) (pe_gi C.g6) (nomark _)) (pss_one (ps_ret (pe_meth (pv 0) T.cl m6 G6 hr b6 .nil pass0 (pa_cons (pe_ix ix_list (pv 2) pe_int (fun _ _ => rfl)) pa_nil)))) pss_nil)
      (pss_cons (ps_if (pt_cmpR op_eq (pv 1) (pe_gi C.g7) (nomark _)) (pss_one (ps_ret (pe_meth (pv 0) T.cl m7 G7 hr b7 .nil pass0 (pa_cons (pe_ix ix_list (pv 2) pe_int (fun _ _ => rfl)) (pa_cons (pe_ix ix_list (pv 2) pe_int (fun _ _ => rfl)) pa_nil))))) pss_nil)
      (pss_cons (ps_if (pt_cmpR op_eq (pv 1) (pe_gi C.g8) (nomark _)) (pss_one (ps_ret (pe_meth0 (pv 0) T.cl m8 G8 hr1 b8 .nil pass0))) pss_nil)
      (pss_one ps_never))))))))), ?_⟩
    have hS := fits_shape hfit
    have no : ∀ {m : Str}, ((m == "whole") || (m == "try_cost") || (m == "left") || (m == "suspects")) = false → (houF st.whole st.cost st.left L).lookup m = none := fun e => houF_no _ _ _ _ e
    cases hS with
    | begins w1 w2 w3 =>
      rename_i d c n
      refine ⟨_, rfl, rfl, _, rfl, ifYes ?_⟩
      refine ⟨_, rfl, h, dx, _, rfl, hA.o, no (by decide +kernel), _, rfl, nl, _, _, _, rfl, rfl, SqL.of hn, atI_nat (j := 0) rfl, _, rfl, nl, _, _, _, rfl, rfl, SqL.of hn, atI_nat (j := 1) rfl, _, rfl, nl, _, _, _, rfl, rfl, SqL.of hn, atI_nat (j := 2) rfl,
        h, S, st, d.toNat, c.toNat, n.toNat, ?_, ⟨dx, L, ss, hA⟩, ok, fun H' S' r a b c d e => q H' S' r a b c d e⟩
      rw [toNat_cast w1.1, toNat_cast w2.1, toNat_cast w3.1]
      try rfl
    | test wk wl wr =>
      rename_i k l
      cases hps with
      | cons hp0 hps' =>
        rename_i p0 ps'
        refine ⟨_, rfl, rfl, _, rfl, ifNo (by decide) ?_⟩
        refine ⟨_, rfl, rfl, _, rfl, ifYes ?_⟩
        refine ⟨_, rfl, h, dx, _, rfl, hA.o, no (by decide +kernel), _, rfl, ll, _, _, _, rfl, rfl, SqL.of hl, atI_nat (j := 0) rfl, _, rfl, _, rfl, npt ⟨ll, _, rfl, SqL.of hl, fun r hr => ?_⟩⟩
        have e1 : cutV ((p0 :: ps').map V.ref) (some 1) none = ps'.map V.ref := cut_from (j := 1) (by simp)
        rw [e1]
        have S1 := Same.new (o := .lst (ps'.map V.ref)) hr
        refine ⟨h, p0, r, S, st, k, l, rfl, ⟨dx, L, ss, hA.keeps S1⟩, ok, SqL.of (S1 _ _ hp0.2), wk, ⟨ps', SqL.of upd_same, Paired.mapP hps' fun _ _ z => SqL.of (S1 _ _ z.2)⟩, wl, wr, ?_⟩
        have R : Ret (HouAt CH Cs) H S h st (.test (Rp06Neutral.nats k) (l.map Rp06Neutral.nats)) Q := fun H' S' r a b c d e => q H' S' r a b c d e
        exact R.from_ S1
    | result w1 w2 =>
      rename_i j p
      refine ⟨_, rfl, rfl, _, rfl, ifNo (by decide) ?_⟩
      refine ⟨_, rfl, rfl, _, rfl, ifNo (by decide) ?_⟩
      refine ⟨_, rfl, rfl, _, rfl, ifYes ?_⟩
      refine ⟨_, rfl, h, dx, _, rfl, hA.o, no (by decide +kernel), _, rfl, nl, _, _, _, rfl, rfl, SqL.of hn, atI_nat (j := 0) rfl, _, rfl, nl, _, _, _, rfl, rfl, SqL.of hn, atI_nat (j := 1) rfl,
        h, S, st, j.toNat, p.toNat, ?_, ⟨dx, L, ss, hA⟩, ok, fun H' S' r a b c d e => q H' S' r a b c d e⟩
      rw [toNat_cast w1.1, toNat_cast w2.1]
      try rfl
    | best =>
      refine ⟨_, rfl, rfl, _, rfl, ifNo (by decide) ?_⟩
      refine ⟨_, rfl, rfl, _, rfl, ifNo (by decide) ?_⟩
      refine ⟨_, rfl, rfl, _, rfl, ifNo (by decide) ?_⟩
      refine ⟨_, rfl, rfl, _, rfl, ifYes ?_⟩
      exact ⟨_, rfl, h, dx, _, rfl, hA.o, no (by decide +kernel), h, S, st, rfl, ⟨dx, L, ss, hA⟩, ok, fun H' S' r a b c d e => q H' S' r a b c d e⟩
    | chances w1 =>
      rename_i j
      refine ⟨_, rfl, rfl, _, rfl, ifNo (by decide) ?_⟩
      refine ⟨_, rfl, rfl, _, rfl, ifNo (by decide) ?_⟩
      refine ⟨_, rfl, rfl, _, rfl, ifNo (by decide) ?_⟩
      refine ⟨_, rfl, rfl, _, rfl, ifNo (by decide) ?_⟩
      refine ⟨_, rfl, rfl, _, rfl, ifYes ?_⟩
      refine ⟨_, rfl, h, dx, _, rfl, hA.o, no (by decide +kernel), _, rfl, nl, _, _, _, rfl, rfl, SqL.of hn, atI_nat (j := 0) rfl, h, S, st, j.toNat, ?_, ⟨dx, L, ss, hA⟩, ok, fun H' S' r a b c d e => q H' S' r a b c d e⟩
      rw [toNat_cast w1.1]
      try rfl
    | fails w1 =>
      rename_i j
      refine ⟨_, rfl, rfl, _, rfl, ifNo (by decide) ?_⟩
      refine ⟨_, rfl, rfl, _, rfl, ifNo (by decide) ?_⟩
      refine ⟨_, rfl, rfl, _, rfl, ifNo (by decide) ?_⟩
      refine ⟨_, rfl, rfl, _, rfl, ifNo (by decide) ?_⟩
      refine ⟨_, rfl, rfl, _, rfl, ifNo (by decide) ?_⟩
      refine ⟨_, rfl, rfl, _, rfl, ifYes ?_⟩
      refine ⟨_, rfl, h, dx, _, rfl, hA.o, no (by decide +kernel), _, rfl, nl, _, _, _, rfl, rfl, SqL.of hn, atI_nat (j := 0) rfl, h, S, st, j.toNat, ?_, ⟨dx, L, ss, hA⟩, ok, fun H' S' r a b c d e => q H' S' r a b c d e⟩
      rw [toNat_cast w1.1]
      try rfl
    | worth w1 =>
      rename_i j
      refine ⟨_, rfl, rfl, _, rfl, ifNo (by decide) ?_⟩
      refine ⟨_, rfl, rfl, _, rfl, ifNo (by decide) ?_⟩
      refine ⟨_, rfl, rfl, _, rfl, ifNo (by decide) ?_⟩
      refine ⟨_, rfl, rfl, _, rfl, ifNo (by decide) ?_⟩
      refine ⟨_, rfl, rfl, _, rfl, ifNo (by decide) ?_⟩
      refine ⟨_, rfl, rfl, _, rfl, ifNo (by decide) ?_⟩
      refine ⟨_, rfl, rfl, _, rfl, ifYes ?_⟩
      refine ⟨_, rfl, h, dx, _, rfl, hA.o, no (by decide +kernel), _, rfl, nl, _, _, _, rfl, rfl, SqL.of hn, atI_nat (j := 0) rfl, h, S, st, j.toNat, ?_, ⟨dx, L, ss, hA⟩, ok, fun H' S' r a b c d e => q H' S' r a b c d e⟩
      rw [toNat_cast w1.1]
      try rfl
    | would w1 w2 =>
      rename_i j p
      refine ⟨_, rfl, rfl, _, rfl, ifNo (by decide) ?_⟩
      refine ⟨_, rfl, rfl, _, rfl, ifNo (by decide) ?_⟩
      refine ⟨_, rfl, rfl, _, rfl, ifNo (by decide) ?_⟩
      refine ⟨_, rfl, rfl, _, rfl, ifNo (by decide) ?_⟩
      refine ⟨_, rfl, rfl, _, rfl, ifNo (by decide) ?_⟩
      refine ⟨_, rfl, rfl, _, rfl, ifNo (by decide) ?_⟩
      refine ⟨_, rfl, rfl, _, rfl, ifNo (by decide) ?_⟩
      refine ⟨_, rfl, rfl, _, rfl, ifYes ?_⟩
      refine ⟨_, rfl, h, dx, _, rfl, hA.o, no (by decide +kernel), _, rfl, nl, _, _, _, rfl, rfl, SqL.of hn, atI_nat (j := 0) rfl, _, rfl, nl, _, _, _, rfl, rfl, SqL.of hn, atI_nat (j := 1) rfl,
        h, S, st, j.toNat, p.toNat, ?_, ⟨dx, L, ss, hA⟩, ok, fun H' S' r a b c d e => q H' S' r a b c d e⟩
      rw [toNat_cast w1.1, toNat_cast w2.1]
      try rfl
    | state =>
      refine ⟨_, rfl, rfl, _, rfl, ifNo (by decide) ?_⟩
      refine ⟨_, rfl, rfl, _, rfl, ifNo (by decide) ?_⟩
      refine ⟨_, rfl, rfl, _, rfl, ifNo (by decide) ?_⟩
      refine ⟨_, rfl, rfl, _, rfl, ifNo (by decide) ?_⟩
      refine ⟨_, rfl, rfl, _, rfl, ifNo (by decide) ?_⟩
      refine ⟨_, rfl, rfl, _, rfl, ifNo (by decide) ?_⟩
      refine ⟨_, rfl, rfl, _, rfl, ifNo (by decide) ?_⟩
      refine ⟨_, rfl, rfl, _, rfl, ifNo (by decide) ?_⟩
      refine ⟨_, rfl, rfl, _, rfl, ifYes ?_⟩
      exact ⟨_, rfl, h, dx, _, rfl, hA.o, no (by decide +kernel), h, S, st, rfl, ⟨dx, L, ss, hA⟩, ok, fun H' S' r a b c d e => q H' S' r a b c d e⟩
end
end Ta
end
section
set_option Elab.async false
set_option maxRecDepth 100000
set_option maxHeartbeats 2000000
set_option linter.all false
/-! All of it -/
namespace Ta
open PySem PySem.Spec PyProof.Rows L2
theorem all_mk {P : Program} {w : World} {K : PySem.W.Frag} {h : Heap} {mg : Str → Option Value} {fa CReader CSuspect CWays CHouse : Addr} (X : K.In h) (G : h.Ns mainGlobals mg) (hfa : mg "answers" = some (.ref fa))
    (aReader : PySem.W.nsIn K mainGlobals "Reader" = some (some (.ref CReader)))
    (lReader : Cls K CReader)
    (nReader_numbers : NoAttr K CReader "numbers")
    (nReader_place : NoAttr K CReader "place")
    (iReader : IOk K CReader "Reader.__init__" sRdInit ["self", "numbers"])
    (mReader_at_end : MOk K CReader "at_end" "Reader.at_end" sAtEnd ["self"])
    (mReader_take_number : MOk K CReader "take_number" "Reader.take_number" sTakeNumber ["self"])
    (mReader_take_list : MOk K CReader "take_list" "Reader.take_list" sTakeList ["self"])
    (mReader_take_lists : MOk K CReader "take_lists" "Reader.take_lists" sTakeLists ["self"])
    (aSuspect : PySem.W.nsIn K mainGlobals "Suspect" = some (some (.ref CSuspect)))
    (lSuspect : Cls K CSuspect)
    (nSuspect_weights : NoAttr K CSuspect "weights")
    (nSuspect_failing : NoAttr K CSuspect "failing")
    (nSuspect_verdicts : NoAttr K CSuspect "verdicts")
    (nSuspect_failures : NoAttr K CSuspect "failures")
    (nSuspect_passes : NoAttr K CSuspect "passes")
    (iSuspect : IOk K CSuspect "Suspect.__init__" sSusInit ["self", "kinds", "verdicts"])
    (mSuspect_take_result : MOk K CSuspect "take_result" "Suspect.take_result" sTake ["self", "passed", "whole"])
    (mSuspect_weights_after : MOk K CSuspect "weights_after" "Suspect.weights_after" sWAfter ["self", "weights", "passed", "whole"])
    (mSuspect_verdict_costs : MOk K CSuspect "verdict_costs" "Suspect.verdict_costs" sVCosts ["self", "weights"])
    (mSuspect_best_verdict : MOk K CSuspect "best_verdict" "Suspect.best_verdict" sBestV ["self", "weights"])
    (aWays : PySem.W.nsIn K mainGlobals "Ways" = some (some (.ref CWays)))
    (lWays : Cls K CWays)
    (nWays_whole : NoAttr K CWays "whole")
    (nWays_try_cost : NoAttr K CWays "try_cost")
    (nWays_suspects : NoAttr K CWays "suspects")
    (nWays_known : NoAttr K CWays "known")
    (iWays : IOk K CWays "Ways.__init__" sWaysInit ["self", "whole", "try_cost", "suspects"])
    (mWays_scale : MOk K CWays "scale" "Ways.scale" sScale ["self", "weights", "tries"])
    (mWays_stopping : MOk K CWays "stopping" "Ways.stopping" sStopping ["self", "weights", "tries"])
    (mWays_behind : MOk K CWays "behind" "Ways.behind" sBehind ["self", "number", "passed", "weights"])
    (mWays_trying : MOk K CWays "trying" "Ways.trying" sTrying ["self", "number", "weights", "tries"])
    (mWays_beginnings : MOk K CWays "beginnings" "Ways.beginnings" sBeginnings ["self", "weights", "tries"])
    (mWays_least : MOk K CWays "least" "Ways.least" sLeast ["self", "weights", "tries"])
    (aHouse : PySem.W.nsIn K mainGlobals "House" = some (some (.ref CHouse)))
    (lHouse : Cls K CHouse)
    (nHouse_whole : NoAttr K CHouse "whole")
    (nHouse_try_cost : NoAttr K CHouse "try_cost")
    (nHouse_left : NoAttr K CHouse "left")
    (nHouse_suspects : NoAttr K CHouse "suspects")
    (iHouse : IOk K CHouse "House.__init__" sHInit ["self"])
    (mHouse_begins : MOk K CHouse "begins" "House.begins" sBegins ["self", "whole", "try_cost", "tries"])
    (mHouse_test : MOk K CHouse "test" "House.test" sTest ["self", "kinds", "verdicts"])
    (mHouse_why_not : MOk K CHouse "why_not" "House.why_not" sWhyNot ["self", "number", "passed"])
    (mHouse_result : MOk K CHouse "result" "House.result" sResult ["self", "number", "passed"])
    (mHouse_ways_on : MOk K CHouse "ways_on" "House.ways_on" sWaysOn ["self"])
    (mHouse_weights_now : MOk K CHouse "weights_now" "House.weights_now" sWNow ["self"])
    (mHouse_best_from : MOk K CHouse "best_from" "House.best_from" sBestFrom ["self", "weights", "tries"])
    (mHouse_best : MOk K CHouse "best" "House.best" sBest ["self"])
    (mHouse_chances : MOk K CHouse "chances" "House.chances" sChances ["self", "number"])
    (mHouse_fails : MOk K CHouse "fails" "House.fails" sFails ["self", "number"])
    (mHouse_worth : MOk K CHouse "worth" "House.worth" sWorth ["self", "tries"])
    (mHouse_would : MOk K CHouse "would" "House.would" sWould ["self", "number", "passed"])
    (mHouse_state : MOk K CHouse "state" "House.state" sState ["self"])
    (d_kinds_fit : DOk K mg "kinds_fit" sKindsFit ["kinds", "whole"])
    (d_verdict_fits : DOk K mg "verdict_fits" sVerdictFits ["costs", "kind_count"])
    (d_is_well_formed : DOk K mg "is_well_formed" sWellFormed ["kinds", "verdicts", "whole"])
    (d_answer_call : DOk K mg "answer_call" sAnswerCall ["house", "call", "numbers", "lists"])
    (d_answers : DOk K mg "answers" sAnswers ["calls"])
    (g_MOST_KINDS : GI mg "MOST_KINDS" (4))
    (g_MOST_VERDICTS : GI mg "MOST_VERDICTS" (4))
    (g_MOST_WEIGHT : GI mg "MOST_WEIGHT" (100))
    (g_MOST_VERDICT_COST : GI mg "MOST_VERDICT_COST" (1000))
    (g_MILLION : GI mg "MILLION" (1000000))
    (g_LEAST_WHOLE : GI mg "LEAST_WHOLE" (2))
    (g_MOST_WHOLE : GI mg "MOST_WHOLE" (20))
    (g_MOST_TRY_COST : GI mg "MOST_TRY_COST" (1000))
    (g_MOST_TRIES : GI mg "MOST_TRIES" (4))
    (g_MOST_SUSPECTS : GI mg "MOST_SUSPECTS" (3))
    (g_OUT_OF_RANGE : GI mg "OUT_OF_RANGE" (-1))
    (g_NO_SUCH_TEST : GI mg "NO_SUCH_TEST" (-2))
    (g_NO_TRIES_LEFT : GI mg "NO_TRIES_LEFT" (-3))
    (g_CANNOT_BE : GI mg "CANNOT_BE" (-6))
    (g_TOO_MANY_TESTS : GI mg "TOO_MANY_TESTS" (-7))
    (g_BEGINS : GI mg "BEGINS" (0))
    (g_TEST : GI mg "TEST" (1))
    (g_RESULT : GI mg "RESULT" (2))
    (g_BEST : GI mg "BEST" (3))
    (g_CHANCES : GI mg "CHANCES" (4))
    (g_FAILS : GI mg "FAILS" (5))
    (g_WORTH : GI mg "WORTH" (6))
    (g_WOULD : GI mg "WOULD" (7))
    (g_STATE : GI mg "STATE" (8))
    (z_len : PySem.W.nsIn K mainGlobals "len" = some none)
    (z_range : PySem.W.nsIn K mainGlobals "range" = some none)
    (z_all : PySem.W.nsIn K mainGlobals "all" = some none)
    (z_tuple : PySem.W.nsIn K mainGlobals "tuple" = some none)
    (z_zip : PySem.W.nsIn K mainGlobals "zip" = some none)
    (z_sum : PySem.W.nsIn K mainGlobals "sum" = some none)
    (z_min : PySem.W.nsIn K mainGlobals "min" = some none)
    (z_enumerate : PySem.W.nsIn K mainGlobals "enumerate" = some none)
    : ∃ fd : FuncData, (∀ (s : Shared) (us : List Value), us.length = (["calls"] : List Str).length → BindsTo s fd ⟨us, []⟩ ((["calls"] : List Str).zip us)) ∧ ∀ base : Heap, K.In base → base.Ns mainGlobals mg → FnOk P w K mg base CX0 19 fa fd ["calls"] (spAnswers K) := by
  obtain ⟨fAn, fdAn, FAn, bAn, gAn⟩ := d_answers
  have e := hfa.symm.trans gAn
  cases e
  have zlen : mg "len" = none := PySem.W.mg_none_of X G z_len
  have zrng : mg "range" = none := PySem.W.mg_none_of X G z_range
  have zall : mg "all" = none := PySem.W.mg_none_of X G z_all
  have ztup : mg "tuple" = none := PySem.W.mg_none_of X G z_tuple
  have zzip : mg "zip" = none := PySem.W.mg_none_of X G z_zip
  have zsum : mg "sum" = none := PySem.W.mg_none_of X G z_sum
  have zmin : mg "min" = none := PySem.W.mg_none_of X G z_min
  have zenu : mg "enumerate" = none := PySem.W.mg_none_of X G z_enumerate
  have TR : RdTxt K mg CReader := ⟨lReader, nReader_numbers, nReader_place, zlen, zrng⟩
  have TS : SusTxt K mg CSuspect := ⟨lSuspect, nSuspect_weights, nSuspect_failing, nSuspect_verdicts, nSuspect_failures, nSuspect_passes, ztup, zzip, zsum, zmin⟩
  have TW : WaysTxt K mg CWays := ⟨lWays, nWays_whole, nWays_try_cost, nWays_suspects, nWays_known, zsum, zmin, zlen, zrng, zenu⟩
  have TH : HouTxt K mg CHouse := ⟨lHouse, nHouse_whole, nHouse_try_cost, nHouse_left, nHouse_suspects, zlen, zsum, zmin, ztup, zzip, g_MILLION, g_LEAST_WHOLE, g_MOST_WHOLE, g_MOST_TRY_COST, g_MOST_TRIES, g_MOST_SUSPECTS, g_OUT_OF_RANGE, g_NO_SUCH_TEST, g_NO_TRIES_LEFT, g_CANNOT_BE, g_TOO_MANY_TESTS⟩
  have TF : FitTxt mg := ⟨zlen, zall, g_MOST_KINDS, g_MOST_VERDICTS, g_MOST_WEIGHT, g_MOST_VERDICT_COST⟩
  have TC : CallTxt mg := ⟨g_BEGINS, g_TEST, g_RESULT, g_BEST, g_CHANCES, g_FAILS, g_WORTH, g_WOULD, g_STATE⟩
  refine ⟨fdAn, fun s us hu => ?_, fun base _ _ => ?_⟩
  · obtain ⟨oc, od, kV, doc, pm, an, cdv, ct, osl, rfl, lk, hcd⟩ := FAn.ex
    exact match us, hu with | [_], _ => .of_eq rfl
  · obtain ⟨fKF, dKF, FKF, bKF, gKF⟩ := d_kinds_fit
    obtain ⟨fVF, dVF, FVF, bVF, gVF⟩ := d_verdict_fits
    obtain ⟨fWF, dWF, FWF, bWF, gWF⟩ := d_is_well_formed
    have DW : DFn P w K mg base 2 "is_well_formed" ["kinds", "verdicts", "whole"] (spWellFormed K) := ⟨fWF, dWF, ok_wellFormed FWF TF FKF bKF gKF FVF bVF gVF, bWF, gWF, FWF.kp⟩
    obtain ⟨fSI, dSI, FSI, bSI, mkS⟩ := iSuspect
    have IS : IFn P w K mg base 1 CSuspect ["self", "kinds", "verdicts"] (spSusInit K CSuspect) := ⟨fSI, dSI, ok_susInit FSI TS, bSI, mkS⟩
    obtain ⟨fA, dA, FA, bA, mA⟩ := mSuspect_weights_after
    obtain ⟨fV, dV, FV, bV, mV⟩ := mSuspect_verdict_costs
    obtain ⟨fTk, dTk, FTk, bTk, mTk⟩ := mSuspect_take_result
    obtain ⟨fBV, dBV, FBV, bBV, mBV⟩ := mSuspect_best_verdict
    have MA : MFn P w K mg base 1 CSuspect "weights_after" ["self", "weights", "passed", "whole"] (spWAfter K CSuspect) := ⟨fA, dA, ok_wAfter FA TS, bA, mA⟩
    have MT : MFn P w K mg base 2 CSuspect "take_result" ["self", "passed", "whole"] (spTake K CSuspect) := ⟨fTk, dTk, ok_take FTk TS FA bA mA, bTk, mTk⟩
    have MV : MFn P w K mg base 2 CSuspect "best_verdict" ["self", "weights"] (spBestV K CSuspect) := ⟨fBV, dBV, ok_bestV FBV TS FV bV mV, bBV, mBV⟩
    obtain ⟨fSc, dSc, FSc, bSc, mSc⟩ := mWays_scale
    obtain ⟨fSt, dSt, FSt, bSt, mSt⟩ := mWays_stopping
    obtain ⟨fB, dB, FB, bB, mB⟩ := mWays_behind
    obtain ⟨fT, dT, FT, bT, mT⟩ := mWays_trying
    obtain ⟨fG, dG, FG, bG, mG⟩ := mWays_beginnings
    obtain ⟨fL, dL, FL, bL, mL⟩ := mWays_least
    have N : WaysFns K CWays CSuspect fA fV fSc fSt fB fT fG fL dA dV dSc dSt dB dT dG dL := ⟨FA, bA, mA, FV, bV, mV, FSc, bSc, mSc, FSt, bSt, mSt, FB, bB, mB, FT, bT, mT, FG, bG, mG, FL, bL, mL⟩
    have WM : WaysM P w K mg base CWays CSuspect := ⟨fun n hn => ⟨fG, dG, ok_begAll N TW TS n hn, bG, mG⟩, fun n hn => ⟨fL, dL, ok_leastAll N TW TS n hn, bL, mL⟩, ⟨fSc, dSc, ok_scale FSc TW, bSc, mSc⟩, ⟨fB, dB, ok_behind FB TW TS FA bA mA, bB, mB⟩⟩
    have IW : IFn P w K mg base 1 CWays ["self", "whole", "try_cost", "suspects"] (spWaysInit P w CWays) := if_ways iWays TW
    have MY : MFn P w K mg base 2 CHouse "why_not" ["self", "number", "passed"] (spWhyNot (HouAt CHouse CSuspect)) := mf_whyNot mHouse_why_not TH TS MA
    have MO : MFn P w K mg base 3 CHouse "ways_on" ["self"] (spWaysOn P w CWays CSuspect (HouAt CHouse CSuspect)) := mf_waysOn mHouse_ways_on TH IW (PySem.W.mg_of X G aWays)
    have MN : MFn P w K mg base 1 CHouse "weights_now" ["self"] (spWNow (HouAt CHouse CSuspect)) := mf_wNow mHouse_weights_now TH TS
    have MF : MFn P w K mg base 16 CHouse "best_from" ["self", "weights", "tries"] (spBestFrom (HouAt CHouse CSuspect)) := mf_bestFrom mHouse_best_from TH TS TW WM MO MV
    have HM : HouseM P w K mg base CHouse CSuspect := ⟨mf_begins mHouse_begins TH, mf_test mHouse_test TH DW IS (PySem.W.mg_of X G aSuspect), mf_result mHouse_result TH TS MY MT, mf_best mHouse_best TH MF MN, mf_chances mHouse_chances TH TS, mf_fails mHouse_fails TH TS MA,
      mf_worth mHouse_worth TH TW WM MO MN, mf_would mHouse_would TH TW WM MY MO MF MN, mf_state mHouse_state TH TS⟩
    obtain ⟨fC, dC, GC, bC, gC, kC⟩ := df_call (P := P) (w := w) (base := base) d_answer_call TH TC HM
    obtain ⟨fH, dH, GH, bH, mkH⟩ := if_house (P := P) (w := w) (mg := mg) (base := base) (Cs := CSuspect) iHouse TH
    obtain ⟨fI, dI, FI, bI, mkR⟩ := iReader
    obtain ⟨fE, dE, FE, bE, mE⟩ := mReader_at_end
    obtain ⟨fN, dN, FN, bN, mN⟩ := mReader_take_number
    obtain ⟨fRL, dRL, FRL, bRL, mRL⟩ := mReader_take_list
    obtain ⟨fRS, dRS, FRS, bRS, mRS⟩ := mReader_take_lists
    exact ok_answers FAn TR ⟨zlen, PySem.W.mg_of X G aReader, PySem.W.mg_of X G aHouse, gC⟩ ⟨mkR, FI, bI, FE, bE, mE, FN, bN, mN, FRL, bRL, mRL, FRS, bRS, mRS⟩ hou_keeps hou_there mkH GH bH (by decide) GC kC bC
end Ta
end
section
set_option Elab.async false
set_option maxRecDepth 100000
set_option linter.all false
open PySem PySem.W PyProof.Rows
set_option maxHeartbeats 8000000 in
theorem PySem.Challenge.cw_triesagaindesk_s01_answers_holds : PySem.Challenge.rw_triesagaindesk_s01_answers.Holds := by
  w_on; k_headS; (case hw => exact ⟨[.list [.int 8, .int 0, .int 0]], by decide +kernel, by decide +kernel⟩)
  k_fillS
  refine L2.walk_specK (r := PySem.Challenge.rw_triesagaindesk_s01_answers) (k := 19) (CX := L2.CX0) (ps := ["calls"]) (sp := Ta.spAnswers) (by decide +kernel) rfl rfl ⟨rfl, by decide, by decide⟩ (fun w h Y => PySem.W.kIn_of Y) ?F ?S (fun _ _ _ _ z => z)
  case F =>
    intro w mg fa h Y KX G hmg
    refine' Ta.all_mk KX G hmg ?aReader ?lReader ?nReader_numbers ?nReader_place ?iReader ?mReader_at_end ?mReader_take_number ?mReader_take_list ?mReader_take_lists ?aSuspect ?lSuspect ?nSuspect_weights ?nSuspect_failing ?nSuspect_verdicts ?nSuspect_failures ?nSuspect_passes ?iSuspect ?mSuspect_take_result ?mSuspect_weights_after ?mSuspect_verdict_costs ?mSuspect_best_verdict ?aWays ?lWays ?nWays_whole ?nWays_try_cost ?nWays_suspects ?nWays_known ?iWays ?mWays_scale ?mWays_stopping ?mWays_behind ?mWays_trying ?mWays_beginnings ?mWays_least ?aHouse ?lHouse ?nHouse_whole ?nHouse_try_cost ?nHouse_left ?nHouse_suspects ?iHouse ?mHouse_begins ?mHouse_test ?mHouse_why_not ?mHouse_result ?mHouse_ways_on ?mHouse_weights_now ?mHouse_best_from ?mHouse_best ?mHouse_chances ?mHouse_fails ?mHouse_worth ?mHouse_would ?mHouse_state ?d_kinds_fit ?d_verdict_fits ?d_is_well_formed ?d_answer_call ?d_answers ?g_MOST_KINDS ?g_MOST_VERDICTS ?g_MOST_WEIGHT ?g_MOST_VERDICT_COST ?g_MILLION ?g_LEAST_WHOLE ?g_MOST_WHOLE ?g_MOST_TRY_COST ?g_MOST_TRIES ?g_MOST_SUSPECTS ?g_OUT_OF_RANGE ?g_NO_SUCH_TEST ?g_NO_TRIES_LEFT ?g_CANNOT_BE ?g_TOO_MANY_TESTS ?g_BEGINS ?g_TEST ?g_RESULT ?g_BEST ?g_CHANCES ?g_FAILS ?g_WORTH ?g_WOULD ?g_STATE ?z_len ?z_range ?z_all ?z_tuple ?z_zip ?z_sum ?z_min ?z_enumerate
    (case aReader => k_is)
    (case lReader => refine' Ta.cls_mk ?pg1 ?hd1 ?po1 ?sa1; (case pg1 => k_is); (case hd1 => k_is); (case po1 => k_is); (case sa1 => k_is))
    (case nReader_numbers => show PySem.W.findIn _ _ _ = some none; k_is)
    (case nReader_place => show PySem.W.findIn _ _ _ = some none; k_is)
    (case iReader => refine' Ta.iok_mk (fun _ _ _ _ _ _ us hl => match us, hl with | [_, _], _ => rfl) ?a2 ?i2 ?l2 ?c2 ?k2 ?mk2 ?kc2; (case a2 => k_is); (case i2 => k_is); (case l2 => k_is); (case c2 => k_is); (case k2 => k_is); (case mk2 => k_is); (case kc2 => k_is))
    (case mReader_at_end => refine' Ta.mok_mk (fun _ _ _ _ _ _ us hl => match us, hl with | [_], _ => rfl) ?a3 ?i3 ?l3 ?c3 ?k3; (case a3 => k_is); (case i3 => k_is); (case l3 => k_is); (case c3 => k_is); (case k3 => k_is))
    (case mReader_take_number => refine' Ta.mok_mk (fun _ _ _ _ _ _ us hl => match us, hl with | [_], _ => rfl) ?a4 ?i4 ?l4 ?c4 ?k4; (case a4 => k_is); (case i4 => k_is); (case l4 => k_is); (case c4 => k_is); (case k4 => k_is))
    (case mReader_take_list => refine' Ta.mok_mk (fun _ _ _ _ _ _ us hl => match us, hl with | [_], _ => rfl) ?a5 ?i5 ?l5 ?c5 ?k5; (case a5 => k_is); (case i5 => k_is); (case l5 => k_is); (case c5 => k_is); (case k5 => k_is))
    (case mReader_take_lists => refine' Ta.mok_mk (fun _ _ _ _ _ _ us hl => match us, hl with | [_], _ => rfl) ?a6 ?i6 ?l6 ?c6 ?k6; (case a6 => k_is); (case i6 => k_is); (case l6 => k_is); (case c6 => k_is); (case k6 => k_is))
    (case aSuspect => k_is)
    (case lSuspect => refine' Ta.cls_mk ?pg7 ?hd7 ?po7 ?sa7; (case pg7 => k_is); (case hd7 => k_is); (case po7 => k_is); (case sa7 => k_is))
    (case nSuspect_weights => show PySem.W.findIn _ _ _ = some none; k_is)
    (case nSuspect_failing => show PySem.W.findIn _ _ _ = some none; k_is)
    (case nSuspect_verdicts => show PySem.W.findIn _ _ _ = some none; k_is)
    (case nSuspect_failures => show PySem.W.findIn _ _ _ = some none; k_is)
    (case nSuspect_passes => show PySem.W.findIn _ _ _ = some none; k_is)
    (case iSuspect => refine' Ta.iok_mk (fun _ _ _ _ _ _ us hl => match us, hl with | [_, _, _], _ => rfl) ?a8 ?i8 ?l8 ?c8 ?k8 ?mk8 ?kc8; (case a8 => k_is); (case i8 => k_is); (case l8 => k_is); (case c8 => k_is); (case k8 => k_is); (case mk8 => k_is); (case kc8 => k_is))
    (case mSuspect_take_result => refine' Ta.mok_mk (fun _ _ _ _ _ _ us hl => match us, hl with | [_, _, _], _ => rfl) ?a9 ?i9 ?l9 ?c9 ?k9; (case a9 => k_is); (case i9 => k_is); (case l9 => k_is); (case c9 => k_is); (case k9 => k_is))
    (case mSuspect_weights_after => refine' Ta.mok_mk (fun _ _ _ _ _ _ us hl => match us, hl with | [_, _, _, _], _ => rfl) ?a10 ?i10 ?l10 ?c10 ?k10; (case a10 => k_is); (case i10 => k_is); (case l10 => k_is); (case c10 => k_is); (case k10 => k_is))
    (case mSuspect_verdict_costs => refine' Ta.mok_mk (fun _ _ _ _ _ _ us hl => match us, hl with | [_, _], _ => rfl) ?a11 ?i11 ?l11 ?c11 ?k11; (case a11 => k_is); (case i11 => k_is); (case l11 => k_is); (case c11 => k_is); (case k11 => k_is))
    (case mSuspect_best_verdict => refine' Ta.mok_mk (fun _ _ _ _ _ _ us hl => match us, hl with | [_, _], _ => rfl) ?a12 ?i12 ?l12 ?c12 ?k12; (case a12 => k_is); (case i12 => k_is); (case l12 => k_is); (case c12 => k_is); (case k12 => k_is))
    (case aWays => k_is)
    (case lWays => refine' Ta.cls_mk ?pg13 ?hd13 ?po13 ?sa13; (case pg13 => k_is); (case hd13 => k_is); (case po13 => k_is); (case sa13 => k_is))
    (case nWays_whole => show PySem.W.findIn _ _ _ = some none; k_is)
    (case nWays_try_cost => show PySem.W.findIn _ _ _ = some none; k_is)
    (case nWays_suspects => show PySem.W.findIn _ _ _ = some none; k_is)
    (case nWays_known => show PySem.W.findIn _ _ _ = some none; k_is)
    (case iWays => refine' Ta.iok_mk (fun _ _ _ _ _ _ us hl => match us, hl with | [_, _, _, _], _ => rfl) ?a14 ?i14 ?l14 ?c14 ?k14 ?mk14 ?kc14; (case a14 => k_is); (case i14 => k_is); (case l14 => k_is); (case c14 => k_is); (case k14 => k_is); (case mk14 => k_is); (case kc14 => k_is))
    (case mWays_scale => refine' Ta.mok_mk (fun _ _ _ _ _ _ us hl => match us, hl with | [_, _, _], _ => rfl) ?a15 ?i15 ?l15 ?c15 ?k15; (case a15 => k_is); (case i15 => k_is); (case l15 => k_is); (case c15 => k_is); (case k15 => k_is))
    (case mWays_stopping => refine' Ta.mok_mk (fun _ _ _ _ _ _ us hl => match us, hl with | [_, _, _], _ => rfl) ?a16 ?i16 ?l16 ?c16 ?k16; (case a16 => k_is); (case i16 => k_is); (case l16 => k_is); (case c16 => k_is); (case k16 => k_is))
    (case mWays_behind => refine' Ta.mok_mk (fun _ _ _ _ _ _ us hl => match us, hl with | [_, _, _, _], _ => rfl) ?a17 ?i17 ?l17 ?c17 ?k17; (case a17 => k_is); (case i17 => k_is); (case l17 => k_is); (case c17 => k_is); (case k17 => k_is))
    (case mWays_trying => refine' Ta.mok_mk (fun _ _ _ _ _ _ us hl => match us, hl with | [_, _, _, _], _ => rfl) ?a18 ?i18 ?l18 ?c18 ?k18; (case a18 => k_is); (case i18 => k_is); (case l18 => k_is); (case c18 => k_is); (case k18 => k_is))
    (case mWays_beginnings => refine' Ta.mok_mk (fun _ _ _ _ _ _ us hl => match us, hl with | [_, _, _], _ => rfl) ?a19 ?i19 ?l19 ?c19 ?k19; (case a19 => k_is); (case i19 => k_is); (case l19 => k_is); (case c19 => k_is); (case k19 => k_is))
    (case mWays_least => refine' Ta.mok_mk (fun _ _ _ _ _ _ us hl => match us, hl with | [_, _, _], _ => rfl) ?a20 ?i20 ?l20 ?c20 ?k20; (case a20 => k_is); (case i20 => k_is); (case l20 => k_is); (case c20 => k_is); (case k20 => k_is))
    (case aHouse => k_is)
    (case lHouse => refine' Ta.cls_mk ?pg21 ?hd21 ?po21 ?sa21; (case pg21 => k_is); (case hd21 => k_is); (case po21 => k_is); (case sa21 => k_is))
    (case nHouse_whole => show PySem.W.findIn _ _ _ = some none; k_is)
    (case nHouse_try_cost => show PySem.W.findIn _ _ _ = some none; k_is)
    (case nHouse_left => show PySem.W.findIn _ _ _ = some none; k_is)
    (case nHouse_suspects => show PySem.W.findIn _ _ _ = some none; k_is)
    (case iHouse => refine' Ta.iok_mk (fun _ _ _ _ _ _ us hl => match us, hl with | [_], _ => rfl) ?a22 ?i22 ?l22 ?c22 ?k22 ?mk22 ?kc22; (case a22 => k_is); (case i22 => k_is); (case l22 => k_is); (case c22 => k_is); (case k22 => k_is); (case mk22 => k_is); (case kc22 => k_is))
    (case mHouse_begins => refine' Ta.mok_mk (fun _ _ _ _ _ _ us hl => match us, hl with | [_, _, _, _], _ => rfl) ?a23 ?i23 ?l23 ?c23 ?k23; (case a23 => k_is); (case i23 => k_is); (case l23 => k_is); (case c23 => k_is); (case k23 => k_is))
    (case mHouse_test => refine' Ta.mok_mk (fun _ _ _ _ _ _ us hl => match us, hl with | [_, _, _], _ => rfl) ?a24 ?i24 ?l24 ?c24 ?k24; (case a24 => k_is); (case i24 => k_is); (case l24 => k_is); (case c24 => k_is); (case k24 => k_is))
    (case mHouse_why_not => refine' Ta.mok_mk (fun _ _ _ _ _ _ us hl => match us, hl with | [_, _, _], _ => rfl) ?a25 ?i25 ?l25 ?c25 ?k25; (case a25 => k_is); (case i25 => k_is); (case l25 => k_is); (case c25 => k_is); (case k25 => k_is))
    (case mHouse_result => refine' Ta.mok_mk (fun _ _ _ _ _ _ us hl => match us, hl with | [_, _, _], _ => rfl) ?a26 ?i26 ?l26 ?c26 ?k26; (case a26 => k_is); (case i26 => k_is); (case l26 => k_is); (case c26 => k_is); (case k26 => k_is))
    (case mHouse_ways_on => refine' Ta.mok_mk (fun _ _ _ _ _ _ us hl => match us, hl with | [_], _ => rfl) ?a27 ?i27 ?l27 ?c27 ?k27; (case a27 => k_is); (case i27 => k_is); (case l27 => k_is); (case c27 => k_is); (case k27 => k_is))
    (case mHouse_weights_now => refine' Ta.mok_mk (fun _ _ _ _ _ _ us hl => match us, hl with | [_], _ => rfl) ?a28 ?i28 ?l28 ?c28 ?k28; (case a28 => k_is); (case i28 => k_is); (case l28 => k_is); (case c28 => k_is); (case k28 => k_is))
    (case mHouse_best_from => refine' Ta.mok_mk (fun _ _ _ _ _ _ us hl => match us, hl with | [_, _, _], _ => rfl) ?a29 ?i29 ?l29 ?c29 ?k29; (case a29 => k_is); (case i29 => k_is); (case l29 => k_is); (case c29 => k_is); (case k29 => k_is))
    (case mHouse_best => refine' Ta.mok_mk (fun _ _ _ _ _ _ us hl => match us, hl with | [_], _ => rfl) ?a30 ?i30 ?l30 ?c30 ?k30; (case a30 => k_is); (case i30 => k_is); (case l30 => k_is); (case c30 => k_is); (case k30 => k_is))
    (case mHouse_chances => refine' Ta.mok_mk (fun _ _ _ _ _ _ us hl => match us, hl with | [_, _], _ => rfl) ?a31 ?i31 ?l31 ?c31 ?k31; (case a31 => k_is); (case i31 => k_is); (case l31 => k_is); (case c31 => k_is); (case k31 => k_is))
    (case mHouse_fails => refine' Ta.mok_mk (fun _ _ _ _ _ _ us hl => match us, hl with | [_, _], _ => rfl) ?a32 ?i32 ?l32 ?c32 ?k32; (case a32 => k_is); (case i32 => k_is); (case l32 => k_is); (case c32 => k_is); (case k32 => k_is))
    (case mHouse_worth => refine' Ta.mok_mk (fun _ _ _ _ _ _ us hl => match us, hl with | [_, _], _ => rfl) ?a33 ?i33 ?l33 ?c33 ?k33; (case a33 => k_is); (case i33 => k_is); (case l33 => k_is); (case c33 => k_is); (case k33 => k_is))
    (case mHouse_would => refine' Ta.mok_mk (fun _ _ _ _ _ _ us hl => match us, hl with | [_, _, _], _ => rfl) ?a34 ?i34 ?l34 ?c34 ?k34; (case a34 => k_is); (case i34 => k_is); (case l34 => k_is); (case c34 => k_is); (case k34 => k_is))
    (case mHouse_state => refine' Ta.mok_mk (fun _ _ _ _ _ _ us hl => match us, hl with | [_], _ => rfl) ?a35 ?i35 ?l35 ?c35 ?k35; (case a35 => k_is); (case i35 => k_is); (case l35 => k_is); (case c35 => k_is); (case k35 => k_is))
    (case d_kinds_fit => refine' Ta.dok_mk KX G (fun _ _ _ _ _ _ us hl => match us, hl with | [_, _], _ => rfl) ?a36 ?l36 ?c36 ?k36; (case a36 => k_is); (case l36 => k_is); (case c36 => k_is); (case k36 => k_is))
    (case d_verdict_fits => refine' Ta.dok_mk KX G (fun _ _ _ _ _ _ us hl => match us, hl with | [_, _], _ => rfl) ?a37 ?l37 ?c37 ?k37; (case a37 => k_is); (case l37 => k_is); (case c37 => k_is); (case k37 => k_is))
    (case d_is_well_formed => refine' Ta.dok_mk KX G (fun _ _ _ _ _ _ us hl => match us, hl with | [_, _, _], _ => rfl) ?a38 ?l38 ?c38 ?k38; (case a38 => k_is); (case l38 => k_is); (case c38 => k_is); (case k38 => k_is))
    (case d_answer_call => refine' Ta.dok_mk KX G (fun _ _ _ _ _ _ us hl => match us, hl with | [_, _, _, _], _ => rfl) ?a39 ?l39 ?c39 ?k39; (case a39 => k_is); (case l39 => k_is); (case c39 => k_is); (case k39 => k_is))
    (case d_answers => refine' Ta.dok_mk KX G (fun _ _ _ _ _ _ us hl => match us, hl with | [_], _ => rfl) ?a40 ?l40 ?c40 ?k40; (case a40 => k_is); (case l40 => k_is); (case c40 => k_is); (case k40 => k_is))
    (case g_MOST_KINDS => refine' Ta.gi_mk KX G ?a41; (case a41 => k_is))
    (case g_MOST_VERDICTS => refine' Ta.gi_mk KX G ?a42; (case a42 => k_is))
    (case g_MOST_WEIGHT => refine' Ta.gi_mk KX G ?a43; (case a43 => k_is))
    (case g_MOST_VERDICT_COST => refine' Ta.gi_mk KX G ?a44; (case a44 => k_is))
    (case g_MILLION => refine' Ta.gi_mk KX G ?a45; (case a45 => k_is))
    (case g_LEAST_WHOLE => refine' Ta.gi_mk KX G ?a46; (case a46 => k_is))
    (case g_MOST_WHOLE => refine' Ta.gi_mk KX G ?a47; (case a47 => k_is))
    (case g_MOST_TRY_COST => refine' Ta.gi_mk KX G ?a48; (case a48 => k_is))
    (case g_MOST_TRIES => refine' Ta.gi_mk KX G ?a49; (case a49 => k_is))
    (case g_MOST_SUSPECTS => refine' Ta.gi_mk KX G ?a50; (case a50 => k_is))
    (case g_OUT_OF_RANGE => refine' Ta.gi_mk KX G ?a51; (case a51 => k_is))
    (case g_NO_SUCH_TEST => refine' Ta.gi_mk KX G ?a52; (case a52 => k_is))
    (case g_NO_TRIES_LEFT => refine' Ta.gi_mk KX G ?a53; (case a53 => k_is))
    (case g_CANNOT_BE => refine' Ta.gi_mk KX G ?a54; (case a54 => k_is))
    (case g_TOO_MANY_TESTS => refine' Ta.gi_mk KX G ?a55; (case a55 => k_is))
    (case g_BEGINS => refine' Ta.gi_mk KX G ?a56; (case a56 => k_is))
    (case g_TEST => refine' Ta.gi_mk KX G ?a57; (case a57 => k_is))
    (case g_RESULT => refine' Ta.gi_mk KX G ?a58; (case a58 => k_is))
    (case g_BEST => refine' Ta.gi_mk KX G ?a59; (case a59 => k_is))
    (case g_CHANCES => refine' Ta.gi_mk KX G ?a60; (case a60 => k_is))
    (case g_FAILS => refine' Ta.gi_mk KX G ?a61; (case a61 => k_is))
    (case g_WORTH => refine' Ta.gi_mk KX G ?a62; (case a62 => k_is))
    (case g_WOULD => refine' Ta.gi_mk KX G ?a63; (case a63 => k_is))
    (case g_STATE => refine' Ta.gi_mk KX G ?a64; (case a64 => k_is))
    (case z_len => k_is)
    (case z_range => k_is)
    (case z_all => k_is)
    (case z_tuple => k_is)
    (case z_zip => k_is)
    (case z_sum => k_is)
    (case z_min => k_is)
    (case z_enumerate => k_is)
  case S =>
    intro K H xs a hO hwi hask hx
    cases hx with
    | cons h1 h2 =>
      cases h2
      cases h1 with
      | lst hs ha =>
        have e := L2.ints_dw a.1 _ ha
        subst e
        have q : ((Codec.inLen 0 5700 a.1 && a.1.all (Codec.inInt 0 4294967295)) && true) = true := hwi
        rw [Bool.and_eq_true, Bool.and_eq_true] at q
        exact ⟨_, a.1, rfl, hs, (Codec.inNat_iff.mp q.1.1).2, hask, fun H' p hp => .lst (L2.SqL.of hp) (L2.dw_ints _)⟩
end
