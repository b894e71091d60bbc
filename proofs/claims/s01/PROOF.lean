import PyProof.Rows.All
import KE.OsGo
import HandS.ForSpec
import PyKp415
import Wide.All
import OpenK.AllK
import Wide.FinOn
import Open.SpecLaws
import PyWideLaws
import HandS.TryMany
import HandS.Comp
import HandS.Iter
import HandS.Zip
import HandS.Walk
import HandS.Wide
import HandS.WideBits
import PySem.Challenge.RW_sessionsigns_s01_answers
import KE.KStateDown
import HandS.Head0
import HandS.Head1
import HandS.Head2
import HandS.Head3
import HandS.Head4
import HandS.HeadHook1
import HandS.HeadHook2
set_option Elab.async false
set_option maxHeartbeats 4000000
/-! Part 1: plain Lean. Whole numbers that the program reckons with, against the specification's fractions. -/
namespace Kp
open Kp415 (Model)

structure Ok (m : Model) : Prop where
  len : m.productionWeights.length = m.testWeights.length
  n1 : 1 ≤ m.testWeights.length
  n5 : m.testWeights.length ≤ 5
  s1 : 1 ≤ m.testWeights.sum
  s2 : m.testWeights.sum ≤ 495
  p1 : 1 ≤ m.productionWeights.sum
  p2 : m.productionWeights.sum ≤ 495
  a : m.priorNum ≤ m.priorDen
  b1 : 1 ≤ m.priorDen
  b2 : m.priorDen ≤ 99

def toI (l : List Nat) : List Int := l.map fun (x : Nat) => (x : Int)
def tsp (m : Model) : List Int := (toI m.testWeights).map fun w => w * (m.productionWeights.sum : Int)
def psp (m : Model) : List Int := (toI m.productionWeights).map fun w => w * (m.testWeights.sum : Int)
def sw (m : Model) : Int := (m.testWeights.sum : Int) * (m.productionWeights.sum : Int)
def jtp (m : Model) : List Int := (tsp m).map fun x => (m.priorNum : Int) * x
def jpp (m : Model) : List Int := (psp m).map fun x => ((m.priorDen : Int) - (m.priorNum : Int)) * x
def jw (m : Model) : Int := (m.priorDen : Int) * sw m
def frac (a d : Int) : List Int := Kp415.fraction ((a : Rat) / (d : Rat))
def absI (i : Int) : Int := if i < 0 then -i else i
def maxI (i j : Int) : Int := if j > i then j else i
def hdiff (ts ps : List Int) : Int := ((ts.zip ps).map fun p => absI (p.1 - p.2)).sum
def gsum (ts ps : List Int) : Int := ((ts.zip ps).map fun p => maxI p.1 p.2).sum
def at0 (l : List Int) (i : Nat) : Int := l.getD i 0

theorem toI_length (l : List Nat) : (toI l).length = l.length := List.length_map ..
theorem toI_sum : ∀ l : List Nat, (toI l).sum = ((l.sum : Nat) : Int)
  | [] => rfl
  | a :: r => by
    show ((a : Int) :: toI r).sum = (((a :: r).sum : Nat) : Int)
    rw [List.sum_cons, List.sum_cons, toI_sum r]
    omega
theorem toI_at (l : List Nat) (i : Nat) : at0 (toI l) i = ((l.getD i 0 : Nat) : Int) := by
  unfold at0 toI
  rw [List.getD_eq_getElem?_getD, List.getD_eq_getElem?_getD, List.getElem?_map]
  cases l[i]? <;> rfl
theorem map_at {f : Int → Int} (h : f 0 = 0) (l : List Int) (i : Nat) : at0 (l.map f) i = f (at0 l i) := by
  unfold at0
  rw [List.getD_eq_getElem?_getD, List.getD_eq_getElem?_getD, List.getElem?_map]
  cases l[i]? with
  | none => exact h.symm
  | some x => rfl
theorem tsp_length (m : Model) : (tsp m).length = m.testWeights.length := by
  unfold tsp; rw [List.length_map, toI_length]
theorem psp_length (m : Model) : (psp m).length = m.productionWeights.length := by
  unfold psp; rw [List.length_map, toI_length]
theorem jtp_length (m : Model) : (jtp m).length = m.testWeights.length := by
  unfold jtp; rw [List.length_map, tsp_length]
theorem jpp_length (m : Model) : (jpp m).length = m.productionWeights.length := by
  unfold jpp; rw [List.length_map, psp_length]

theorem sw_pos {m : Model} (k : Ok m) : 0 < sw m := Int.mul_pos (by have := k.s1; omega) (by have := k.p1; omega)
theorem jw_pos {m : Model} (k : Ok m) : 0 < jw m := Int.mul_pos (by have := k.b1; omega) (sw_pos k)

/-! fractions over one denominator -/
theorem rpos {d : Int} (h : 0 < d) : (0 : Rat) < (d : Rat) := Rat.intCast_pos.mpr h
theorem rne {d : Int} (h : 0 < d) : (d : Rat) ≠ 0 := fun e => by
  have := Rat.intCast_eq_zero_iff.mp e
  omega
theorem div_lt_div {x y W : Rat} (hW : 0 < W) : x / W < y / W ↔ x < y := by
  have hne : W ≠ 0 := (Rat.ne_of_gt hW)
  rw [Rat.div_lt_iff hW, Rat.div_mul_cancel hne]
theorem absolute_div {x d : Int} (h : 0 < d) : Kp415.absolute ((x : Rat) / (d : Rat)) = ((absI x : Int) : Rat) / (d : Rat) := by
  have h0 : ((x : Rat) / (d : Rat) < 0) ↔ x < 0 := by
    rw [Rat.div_lt_iff (rpos h), Rat.zero_mul]
    exact Rat.intCast_neg_iff
  unfold Kp415.absolute absI
  by_cases c : x < 0
  · rw [if_pos (h0.mpr c), if_pos c, Rat.intCast_neg, Rat.div_def, Rat.div_def, Rat.neg_mul]
  · rw [if_neg (fun z => c (h0.mp z)), if_neg c]
theorem larger_div {x y d : Int} (h : 0 < d) : Kp415.larger ((x : Rat) / (d : Rat)) ((y : Rat) / (d : Rat)) = ((maxI x y : Int) : Rat) / (d : Rat) := by
  have h0 : ((x : Rat) / (d : Rat) < (y : Rat) / (d : Rat)) ↔ x < y := by
    rw [div_lt_div (rpos h)]
    exact Rat.intCast_lt_intCast
  unfold Kp415.larger maxI
  by_cases c : x < y
  · rw [if_pos (h0.mpr c), if_pos c]
  · rw [if_neg (fun z => c (h0.mp z)), if_neg c]
theorem add_div (a b W : Rat) : a / W + b / W = (a + b) / W := by
  rw [Rat.div_def, Rat.div_def, Rat.div_def, Rat.add_mul]
theorem sub_div (a b W : Rat) : a / W - b / W = (a - b) / W := by
  rw [Rat.div_def, Rat.div_def, Rat.div_def, Rat.sub_eq_add_neg, Rat.sub_eq_add_neg, Rat.add_mul, Rat.neg_mul]
theorem sum_div {α : Type} {g : α → Int} {f : α → Rat} {W : Rat} : ∀ {l : List α}, (∀ s ∈ l, f s = ((g s : Int) : Rat) / W) → (l.map f).sum = (((l.map g).sum : Int) : Rat) / W
  | [], _ => by
    show (0 : Rat) = ((0 : Int) : Rat) / W
    rw [Rat.intCast_zero, Rat.div_def, Rat.zero_mul]
  | a :: r, h => by
    rw [List.map_cons, List.map_cons, List.sum_cons, List.sum_cons, sum_div (g := g) (l := r) fun s hs => h s (List.mem_cons_of_mem _ hs), h a List.mem_cons_self, add_div, Rat.intCast_add]
theorem zip_range {β : Type} {xs ys : List Int} {f : Int × Int → β} (h : xs.length = ys.length) : (xs.zip ys).map f = (List.range xs.length).map fun s => f (at0 xs s, at0 ys s) := by
  apply List.ext_getElem
  · simp [h]
  · intro i h1 h2
    simp only [List.length_map, List.length_range] at h2
    simp only [List.getElem_map, List.getElem_zip, List.getElem_range, at0]
    rw [List.getD_eq_getElem?_getD, List.getD_eq_getElem?_getD, List.getElem?_eq_getElem h2, List.getElem?_eq_getElem (h ▸ h2)]
    rfl

/-! shares and joint probabilities -/
theorem share_cast (w s : Nat) : ((w : Nat) : Rat) / ((s : Nat) : Rat) = ((w : Int) : Rat) / ((s : Int) : Rat) := by
  rw [Rat.intCast_natCast, Rat.intCast_natCast]
theorem testShare_is {m : Model} (k : Ok m) (s : Nat) : Kp415.testShare m s = ((at0 (tsp m) s : Int) : Rat) / ((sw m : Int) : Rat) := by
  have e : at0 (tsp m) s = (m.testWeights.getD s 0 : Nat) * (m.productionWeights.sum : Int) := by
    unfold tsp
    rw [map_at (by omega), toI_at]
  have h1 : ((m.testWeights.sum : Nat) : Rat) ≠ 0 := by
    have := k.s1
    intro z
    have := Rat.natCast_eq_zero_iff.mp z
    omega
  have h2 : ((m.productionWeights.sum : Nat) : Rat) ≠ 0 := by
    have := k.p1
    intro z
    have := Rat.natCast_eq_zero_iff.mp z
    omega
  unfold Kp415.testShare Kp415.share sw
  rw [e, Rat.intCast_mul, Rat.intCast_mul, Rat.intCast_natCast, Rat.intCast_natCast, Rat.intCast_natCast]
  grind
theorem productionShare_is {m : Model} (k : Ok m) (s : Nat) : Kp415.productionShare m s = ((at0 (psp m) s : Int) : Rat) / ((sw m : Int) : Rat) := by
  have e : at0 (psp m) s = (m.productionWeights.getD s 0 : Nat) * (m.testWeights.sum : Int) := by
    unfold psp
    rw [map_at (by omega), toI_at]
  have h1 : ((m.testWeights.sum : Nat) : Rat) ≠ 0 := by
    have := k.s1
    intro z
    have := Rat.natCast_eq_zero_iff.mp z
    omega
  have h2 : ((m.productionWeights.sum : Nat) : Rat) ≠ 0 := by
    have := k.p1
    intro z
    have := Rat.natCast_eq_zero_iff.mp z
    omega
  unfold Kp415.productionShare Kp415.share sw
  rw [e, Rat.intCast_mul, Rat.intCast_mul, Rat.intCast_natCast, Rat.intCast_natCast, Rat.intCast_natCast]
  grind
theorem priorTest_is (m : Model) : Kp415.priorTest m = (((m.priorNum : Nat) : Int) : Rat) / (((m.priorDen : Nat) : Int) : Rat) := by
  unfold Kp415.priorTest
  rw [Rat.intCast_natCast, Rat.intCast_natCast]
theorem den_ne {m : Model} (k : Ok m) : (((m.priorDen : Nat) : Int) : Rat) ≠ 0 := rne (by have := k.b1; omega)
theorem priorProduction_is {m : Model} (k : Ok m) : Kp415.priorProduction m = (((m.priorDen : Int) - (m.priorNum : Int) : Int) : Rat) / (((m.priorDen : Nat) : Int) : Rat) := by
  have h := den_ne k
  unfold Kp415.priorProduction
  rw [priorTest_is, Rat.intCast_sub]
  grind
theorem jointTest_is {m : Model} (k : Ok m) (s : Nat) : Kp415.jointTest m s = ((at0 (jtp m) s : Int) : Rat) / ((jw m : Int) : Rat) := by
  have h := den_ne k
  have h2 := rne (sw_pos k)
  unfold Kp415.jointTest jtp jw
  rw [testShare_is k, priorTest_is, map_at (by omega), Rat.intCast_mul, Rat.intCast_mul]
  grind
theorem jointProduction_is {m : Model} (k : Ok m) (s : Nat) : Kp415.jointProduction m s = ((at0 (jpp m) s : Int) : Rat) / ((jw m : Int) : Rat) := by
  have h := den_ne k
  have h2 := rne (sw_pos k)
  unfold Kp415.jointProduction jpp jw
  rw [productionShare_is k, priorProduction_is k, map_at (by omega), Rat.intCast_mul, Rat.intCast_mul]
  grind
theorem prob_is {m : Model} (k : Ok m) (s : Nat) : Kp415.signalProbability m s = ((at0 (jtp m) s + at0 (jpp m) s : Int) : Rat) / ((jw m : Int) : Rat) := by
  unfold Kp415.signalProbability
  rw [jointTest_is k, jointProduction_is k, add_div, Rat.intCast_add]
theorem div_zero_iff {x d : Int} (h : 0 < d) : (x : Rat) / (d : Rat) = 0 ↔ x = 0 := by
  have hd := rne h
  constructor
  · intro e
    have q : (x : Rat) / (d : Rat) * (d : Rat) = 0 := by rw [e, Rat.zero_mul]
    rw [Rat.div_mul_cancel hd] at q
    exact Rat.intCast_eq_zero_iff.mp q
  · intro e
    rw [e, Rat.intCast_zero, Rat.div_def, Rat.zero_mul]
theorem prob_zero {m : Model} (k : Ok m) (s : Nat) : Kp415.signalProbability m s = 0 ↔ at0 (jtp m) s + at0 (jpp m) s = 0 := by
  rw [prob_is k]
  exact div_zero_iff (jw_pos k)
theorem joint_zero {m : Model} (k : Ok m) (s : Nat) : Kp415.jointTest m s = 0 ↔ at0 (jtp m) s = 0 := by
  rw [jointTest_is k]
  exact div_zero_iff (jw_pos k)
theorem jointP_zero {m : Model} (k : Ok m) (s : Nat) : Kp415.jointProduction m s = 0 ↔ at0 (jpp m) s = 0 := by
  rw [jointProduction_is k]
  exact div_zero_iff (jw_pos k)
theorem joint_lt {m : Model} (k : Ok m) (s : Nat) : Kp415.jointTest m s < Kp415.jointProduction m s ↔ at0 (jtp m) s < at0 (jpp m) s := by
  rw [jointTest_is k, jointProduction_is k, div_lt_div (rpos (jw_pos k))]
  exact Rat.intCast_lt_intCast
theorem div_div_same {a b d : Int} (h : 0 < d) (hb : b ≠ 0) : ((a : Rat) / (d : Rat)) / ((b : Rat) / (d : Rat)) = (a : Rat) / (b : Rat) := by
  have h1 := rne h
  have h2 : (b : Rat) ≠ 0 := fun z => hb (Rat.intCast_eq_zero_iff.mp z)
  grind
theorem posterior_is {m : Model} (k : Ok m) (s : Nat) (h : at0 (jtp m) s + at0 (jpp m) s ≠ 0) : Kp415.fraction (Kp415.posteriorTest m s) = frac (at0 (jtp m) s) (at0 (jtp m) s + at0 (jpp m) s) := by
  unfold Kp415.posteriorTest frac
  rw [jointTest_is k, prob_is k, div_div_same (jw_pos k) h]
theorem probf_is {m : Model} (k : Ok m) (s : Nat) : Kp415.fraction (Kp415.signalProbability m s) = frac (at0 (jtp m) s + at0 (jpp m) s) (jw m) := by
  unfold frac
  rw [prob_is k]

/-! the distance, the accuracies -/
theorem half_div {x d : Int} (h : 0 < d) : ((x : Rat) / (d : Rat)) / 2 = (x : Rat) / ((2 * d : Int) : Rat) := by
  have h1 := rne h
  rw [Rat.intCast_mul]
  have : ((2 : Int) : Rat) = 2 := rfl
  rw [this]
  grind
theorem variation_is {m : Model} (k : Ok m) : Kp415.fraction (Kp415.totalVariation m) = frac (hdiff (tsp m) (psp m)) (2 * sw m) := by
  unfold Kp415.totalVariation frac hdiff Kp415.signalCount
  rw [zip_range (by rw [tsp_length, psp_length, k.len]), tsp_length]
  rw [sum_div (W := ((sw m : Int) : Rat)) (g := fun s => absI (at0 (tsp m) s - at0 (psp m) s)), half_div (sw_pos k)]
  intro s _
  rw [testShare_is k, productionShare_is k, sub_div, ← Rat.intCast_sub, absolute_div (sw_pos k)]
theorem accuracy_is {m : Model} (k : Ok m) : Kp415.fraction (Kp415.bestAccuracy m) = frac (gsum (jtp m) (jpp m)) (jw m) := by
  unfold Kp415.bestAccuracy frac gsum Kp415.signalCount
  rw [zip_range (by rw [jtp_length, jpp_length, k.len]), jtp_length]
  rw [sum_div (W := ((jw m : Int) : Rat)) (g := fun s => maxI (at0 (jtp m) s) (at0 (jpp m) s))]
  intro s _
  rw [jointTest_is k, jointProduction_is k, larger_div (jw_pos k)]
theorem blind_is {m : Model} (k : Ok m) : Kp415.fraction (Kp415.blindAccuracy m) = frac (maxI (m.priorNum : Int) ((m.priorDen : Int) - (m.priorNum : Int))) (m.priorDen : Int) := by
  unfold Kp415.blindAccuracy frac
  rw [priorTest_is, priorProduction_is k, larger_div (by have := k.b1; omega)]
def kinds (m : Model) : List Int := ((jtp m).zip (jpp m)).map fun p => if p.1 < p.2 then 0 else 1
theorem guesses_is {m : Model} (k : Ok m) : ((List.range (Kp415.signalCount m)).map fun s => if Kp415.jointTest m s < Kp415.jointProduction m s then (0 : Int) else 1) = kinds m := by
  unfold kinds
  rw [zip_range (by rw [jtp_length, jpp_length, k.len]), jtp_length]
  show _ = List.map (fun s => if at0 (jtp m) s < at0 (jpp m) s then (0 : Int) else 1) (List.range m.testWeights.length)
  refine List.map_congr_left fun s _ => ?_
  by_cases c : at0 (jtp m) s < at0 (jpp m) s
  · rw [if_pos c, if_pos ((joint_lt k s).mpr c)]
  · rw [if_neg c, if_neg fun z => c ((joint_lt k s).mp z)]
/-- a fraction in lowest terms, by the greatest common divisor -/
theorem frac_gcd {a d : Int} (h : 0 < d) : frac a d = [a / ((Int.gcd a d : Nat) : Int), d / ((Int.gcd a d : Nat) : Int)] := by
  unfold frac Kp415.fraction
  rw [← Rat.divInt_eq_div, Rat.num_divInt, Rat.den_divInt, if_neg (by omega), Int.sign_eq_one_of_pos h, Int.one_mul, Int.gcd_comm d a]
  have e : ((d.natAbs : Nat) : Int) = d := by omega
  rw [Int.natCast_ediv, e]
end Kp
set_option Elab.async false
set_option maxHeartbeats 4000000
namespace Kp
open Kp415 (Model)
/-! ### merging -/
def put1 (acc : List Nat) (p : Nat × Nat) : List Nat := acc.set p.2 (acc.getD p.2 0 + p.1)
/-- the loop of the program: weight, target -/
def mergeN (ws mp : List Nat) : List Nat := (ws.zip mp).foldl put1 (List.replicate ws.length 0)
theorem put1_length (acc : List Nat) (p : Nat × Nat) : (put1 acc p).length = acc.length := List.length_set ..
theorem puts_length : ∀ (l : List (Nat × Nat)) (acc : List Nat), (l.foldl put1 acc).length = acc.length
  | [], _ => rfl
  | p :: r, acc => by rw [List.foldl_cons, puts_length r, put1_length]
theorem put1_at (acc : List Nat) (p : Nat × Nat) (t : Nat) (h : p.2 < acc.length) : (put1 acc p).getD t 0 = acc.getD t 0 + if p.2 = t then p.1 else 0 := by
  unfold put1
  rw [List.getD_eq_getElem?_getD, List.getD_eq_getElem?_getD, List.getD_eq_getElem?_getD, List.getElem?_set]
  by_cases c : p.2 = t
  · subst c
    rw [if_pos rfl, if_pos h, if_pos rfl]
    rfl
  · rw [if_neg c, if_neg c]
    rfl
theorem puts_at (t : Nat) : ∀ (l : List (Nat × Nat)) (acc : List Nat), (∀ p ∈ l, p.2 < acc.length) → (l.foldl put1 acc).getD t 0 = acc.getD t 0 + ((l.filter fun p => p.2 == t).map (·.1)).sum
  | [], acc, _ => rfl
  | p :: r, acc, h => by
    rw [List.foldl_cons, puts_at t r (put1 acc p) (fun q hq => by rw [put1_length]; exact h q (List.mem_cons_of_mem _ hq)), put1_at acc p t (h p List.mem_cons_self)]
    by_cases c : p.2 = t
    · rw [if_pos c, List.filter_cons_of_pos (by simp [c]), List.map_cons, List.sum_cons, Nat.add_assoc]
    · rw [if_neg c, List.filter_cons_of_neg (by simp [c])]
      rfl
theorem put1_sum : ∀ (acc : List Nat) (w j : Nat), j < acc.length → (put1 acc (w, j)).sum = acc.sum + w
  | [], _, _, h => absurd h (Nat.not_lt_zero _)
  | a :: r, w, 0, _ => by
    show (a + w + r.sum) = a + r.sum + w
    omega
  | a :: r, w, j + 1, h => by
    have ih := put1_sum r w j (Nat.lt_of_succ_lt_succ h)
    show a + (put1 r (w, j)).sum = a + r.sum + w
    omega
theorem puts_sum : ∀ (l : List (Nat × Nat)) (acc : List Nat), (∀ p ∈ l, p.2 < acc.length) → (l.foldl put1 acc).sum = acc.sum + (l.map (·.1)).sum
  | [], acc, _ => rfl
  | p :: r, acc, h => by
    rw [List.foldl_cons, puts_sum r (put1 acc p) (fun q hq => by rw [put1_length]; exact h q (List.mem_cons_of_mem _ hq)), List.map_cons, List.sum_cons]
    obtain ⟨w, j⟩ := p
    have := put1_sum acc w j (h (w, j) List.mem_cons_self)
    show (put1 acc (w, j)).sum + (r.map (·.1)).sum = acc.sum + (w + (r.map (·.1)).sum)
    omega
theorem zip_rangeN {β : Type} {xs ys : List Nat} {f : Nat × Nat → β} (h : xs.length = ys.length) : (xs.zip ys).map f = (List.range xs.length).map fun s => f (xs.getD s 0, ys.getD s 0) := by
  apply List.ext_getElem
  · simp [h]
  · intro i h1 h2
    simp only [List.length_map, List.length_range] at h2
    simp only [List.getElem_map, List.getElem_zip, List.getElem_range]
    rw [List.getD_eq_getElem?_getD, List.getD_eq_getElem?_getD, List.getElem?_eq_getElem h2, List.getElem?_eq_getElem (h ▸ h2)]
    rfl
theorem zip_is_range {xs ys : List Nat} (h : xs.length = ys.length) : xs.zip ys = (List.range xs.length).map fun s => (xs.getD s 0, ys.getD s 0) := by
  have := zip_rangeN (f := id) h
  rw [List.map_id] at this
  exact this
theorem zip_lt {ws mp : List Nat} {n : Nat} (h : ∀ x ∈ mp, x < n) : ∀ p ∈ ws.zip mp, p.2 < n := fun p hp => h _ (List.of_mem_zip hp).2
theorem mergeN_is {ws mp : List Nat} (hl : ws.length = mp.length) (h : ∀ x ∈ mp, x < ws.length) : mergeN ws mp = Kp415.mergeWeights ws mp := by
  have hz : ∀ p ∈ ws.zip mp, p.2 < (List.replicate ws.length 0).length := by
    rw [List.length_replicate]
    exact zip_lt h
  apply List.ext_getElem
  · unfold mergeN Kp415.mergeWeights
    rw [puts_length, List.length_replicate, List.length_map, List.length_range]
  · intro t h1 h2
    have h3 : t < ws.length := by
      unfold Kp415.mergeWeights at h2
      rw [List.length_map, List.length_range] at h2
      exact h2
    have e1 : (mergeN ws mp)[t] = (mergeN ws mp).getD t 0 := by
      rw [List.getD_eq_getElem?_getD, List.getElem?_eq_getElem h1]
      rfl
    rw [e1]
    have e3 : (Kp415.mergeWeights ws mp)[t] = (((List.range ws.length).filter fun s => mp.getD s 0 == t).map fun s => ws.getD s 0).sum := by
      simp only [Kp415.mergeWeights, List.getElem_map, List.getElem_range]
    rw [e3]
    unfold mergeN
    rw [puts_at t _ _ hz, zip_is_range hl, List.filter_map, List.map_map]
    have e2 : (List.replicate ws.length 0).getD t 0 = 0 := by
      rw [List.getD_eq_getElem?_getD, List.getElem?_replicate, if_pos h3]
      rfl
    rw [e2, Nat.zero_add]
    rfl
theorem zeros_sum : ∀ n : Nat, (List.replicate n 0).sum = 0
  | 0 => rfl
  | n + 1 => by rw [List.replicate_succ, List.sum_cons, zeros_sum n]
theorem mergeN_sum {ws mp : List Nat} (hl : ws.length = mp.length) (h : ∀ x ∈ mp, x < ws.length) : (mergeN ws mp).sum = ws.sum := by
  have hz : ∀ p ∈ ws.zip mp, p.2 < (List.replicate ws.length 0).length := by
    rw [List.length_replicate]
    exact zip_lt h
  unfold mergeN
  rw [puts_sum _ _ hz, zeros_sum, List.map_fst_zip (by omega), Nat.zero_add]
theorem mergeN_length (ws mp : List Nat) : (mergeN ws mp).length = ws.length := by
  unfold mergeN
  rw [puts_length, List.length_replicate]
theorem merge_ok {m : Model} {mp : List Nat} (k : Ok m) (hl : mp.length = m.testWeights.length) (h : ∀ x ∈ mp, x < m.testWeights.length) : Ok (Kp415.mergeSignals m mp) := by
  have e1 := mergeN_is (ws := m.testWeights) (mp := mp) hl.symm h
  have e2 := mergeN_is (ws := m.productionWeights) (mp := mp) (by rw [k.len, hl]) (by rw [k.len]; exact h)
  have l1 := mergeN_length m.testWeights mp
  have l2 := mergeN_length m.productionWeights mp
  have s1 := mergeN_sum (ws := m.testWeights) (mp := mp) hl.symm h
  have s2 := mergeN_sum (ws := m.productionWeights) (mp := mp) (by rw [k.len, hl]) (by rw [k.len]; exact h)
  rw [e1] at l1 s1
  rw [e2] at l2 s2
  obtain ⟨a1, a2, a3, a4, a5, a6, a7, a8, a9, a10⟩ := k
  refine ⟨?_, ?_, ?_, ?_, ?_, ?_, ?_, a8, a9, a10⟩
  · show (Kp415.mergeWeights m.productionWeights mp).length = (Kp415.mergeWeights m.testWeights mp).length
    omega
  · show 1 ≤ (Kp415.mergeWeights m.testWeights mp).length
    omega
  · show (Kp415.mergeWeights m.testWeights mp).length ≤ 5
    omega
  · show 1 ≤ (Kp415.mergeWeights m.testWeights mp).sum
    omega
  · show (Kp415.mergeWeights m.testWeights mp).sum ≤ 495
    omega
  · show 1 ≤ (Kp415.mergeWeights m.productionWeights mp).sum
    omega
  · show (Kp415.mergeWeights m.productionWeights mp).sum ≤ 495
    omega

/-! ### sequences -/
def prodI (l : List Int) : Int := l.foldl (· * ·) 1
/-- the products of the program: all sequences of this length -/
def prods (parts : List Int) : Nat → List Int
  | 0 => [1]
  | k + 1 => (prods parts k).flatMap fun p => parts.map fun x => p * x
def powI (b : Int) : Nat → Int
  | 0 => 1
  | k + 1 => powI b k * b
theorem foldl_mul (l : List Int) : ∀ a : Int, l.foldl (· * ·) a = a * prodI l := by
  unfold prodI
  induction l with
  | nil => intro a; exact (Int.mul_one a).symm
  | cons x r ih =>
    intro a
    rw [List.foldl_cons, List.foldl_cons, ih (a * x), ih (1 * x), Int.one_mul, Int.mul_assoc]
theorem prodI_cons (x : Int) (r : List Int) : prodI (x :: r) = x * prodI r := by
  show List.foldl (· * ·) (1 * x) r = _
  rw [Int.one_mul, foldl_mul]
theorem foldl_mulR (l : List Rat) : ∀ a : Rat, l.foldl (· * ·) a = a * Kp415.product l := by
  unfold Kp415.product
  induction l with
  | nil => intro a; exact (Rat.mul_one a).symm
  | cons x r ih =>
    intro a
    rw [List.foldl_cons, List.foldl_cons, ih (a * x), ih (1 * x), Rat.one_mul, Rat.mul_assoc]
theorem product_cons (x : Rat) (r : List Rat) : Kp415.product (x :: r) = x * Kp415.product r := by
  show List.foldl (· * ·) (1 * x) r = _
  rw [Rat.one_mul, foldl_mulR]
theorem product_div {f : Nat → Rat} {g : Nat → Int} {d : Int} (hd : 0 < d) (h : ∀ s, f s = ((g s : Int) : Rat) / (d : Rat)) : ∀ w : List Nat, Kp415.product (w.map f) = ((prodI (w.map g) : Int) : Rat) / ((powI d w.length : Int) : Rat)
  | [] => by
    show (1 : Rat) = (1 : Rat) / (1 : Rat)
    rw [Rat.div_def, Rat.mul_inv_cancel 1 (by decide)]
  | s :: r => by
    have ih := product_div hd h r
    have h1 := rne hd
    rw [List.map_cons, List.map_cons, product_cons, prodI_cons, ih, h s]
    show _ = _ / ((powI d r.length * d : Int) : Rat)
    rw [Rat.intCast_mul, Rat.intCast_mul, Rat.div_def, Rat.div_def, Rat.div_def, Rat.inv_mul_rev]
    grind
theorem powI_pos {d : Int} (h : 0 < d) : ∀ k, 0 < powI d k
  | 0 => by show (0 : Int) < 1; decide
  | k + 1 => Int.mul_pos (powI_pos h k) h
theorem seq_length (n : Nat) : ∀ (k : Nat) (w : List Nat), w ∈ Kp415.sequences n k → w.length = k
  | 0, w, h => by
    have : w = [] := by simpa [Kp415.sequences] using h
    rw [this]
    rfl
  | k + 1, w, h => by
    simp only [Kp415.sequences, List.mem_flatMap, List.mem_map] at h
    obtain ⟨s, _, r, hr, rfl⟩ := h
    rw [List.length_cons, seq_length n k r hr]
theorem at_range (l : List Int) : (List.range l.length).map (at0 l) = l := by
  apply List.ext_getElem
  · simp
  · intro i h1 h2
    simp only [List.getElem_map, List.getElem_range, at0]
    rw [List.getD_eq_getElem?_getD, List.getElem?_eq_getElem h2]
    rfl
theorem flatMap_congr {α β : Type} {f g : α → List β} : ∀ {l : List α}, (∀ a ∈ l, f a = g a) → l.flatMap f = l.flatMap g
  | [], _ => rfl
  | a :: r, h => by
    rw [List.flatMap_cons, List.flatMap_cons, h a List.mem_cons_self, flatMap_congr (l := r) fun b hb => h b (List.mem_cons_of_mem _ hb)]
theorem prods_step (parts : List Int) : ∀ k, ((List.range parts.length).flatMap fun s => (prods parts k).map fun q => at0 parts s * q) = prods parts (k + 1)
  | 0 => by
    show ((List.range parts.length).flatMap fun s => [at0 parts s * 1]) = (([1] : List Int).flatMap fun p => parts.map fun x => p * x)
    rw [List.flatMap_singleton, ← List.map_eq_flatMap]
    have e1 : (fun s => at0 parts s * 1) = at0 parts := funext fun s => Int.mul_one _
    have e2 : (fun x : Int => 1 * x) = id := funext fun x => Int.one_mul x
    rw [e1, e2, at_range, List.map_id]
  | k + 1 => by
    have ih := prods_step parts k
    have e : ∀ s, ((prods parts (k + 1)).map fun q => at0 parts s * q) = ((prods parts k).map fun q => at0 parts s * q).flatMap fun p => parts.map fun x => p * x := by
      intro s
      show (((prods parts k).flatMap fun p => parts.map fun x => p * x).map fun q => at0 parts s * q) = _
      rw [List.map_flatMap, List.flatMap_map]
      refine flatMap_congr fun p _ => ?_
      rw [List.map_map]
      refine List.map_congr_left fun x _ => ?_
      show at0 parts s * (p * x) = at0 parts s * p * x
      rw [Int.mul_assoc]
    have e2 : ((List.range parts.length).flatMap fun s => (prods parts (k + 1)).map fun q => at0 parts s * q) = ((List.range parts.length).flatMap fun s => ((prods parts k).map fun q => at0 parts s * q).flatMap fun p => parts.map fun x => p * x) :=
      flatMap_congr fun s _ => e s
    rw [e2, ← List.flatMap_assoc, ih]
    rfl
theorem prods_is (parts : List Int) : ∀ k, prods parts k = (Kp415.sequences parts.length k).map fun w => prodI (w.map (at0 parts))
  | 0 => rfl
  | k + 1 => by
    rw [← prods_step, prods_is parts k]
    show _ = (((List.range parts.length).flatMap fun s => (Kp415.sequences parts.length k).map fun rest => s :: rest).map fun w => prodI (w.map (at0 parts)))
    rw [List.map_flatMap]
    refine flatMap_congr fun s _ => ?_
    rw [List.map_map, List.map_map]
    refine List.map_congr_left fun w _ => ?_
    show at0 parts s * prodI (w.map (at0 parts)) = prodI (at0 parts s :: w.map (at0 parts))
    rw [prodI_cons]
theorem zip_maps {α : Type} {f g : α → Int} {h : Int × Int → Int} : ∀ l : List α, ((l.map f).zip (l.map g)).map h = l.map fun x => h (f x, g x)
  | [] => rfl
  | a :: r => by
    show h (f a, g a) :: ((r.map f).zip (r.map g)).map h = h (f a, g a) :: r.map fun x => h (f x, g x)
    rw [zip_maps r]
def seqTv (m : Model) (k : Nat) : List Int := frac (hdiff (prods (tsp m) k) (prods (psp m) k)) (2 * powI (sw m) k)
def seqAcc (m : Model) (k : Nat) : List Int := frac (gsum ((prods (tsp m) k).map fun x => (m.priorNum : Int) * x) ((prods (psp m) k).map fun x => ((m.priorDen : Int) - (m.priorNum : Int)) * x)) ((m.priorDen : Int) * powI (sw m) k)
theorem seqTv_is {m : Model} (k : Ok m) (n : Nat) : Kp415.fraction (Kp415.sequenceTotalVariation m n) = seqTv m n := by
  have hp := powI_pos (sw_pos k) n
  unfold Kp415.sequenceTotalVariation seqTv frac hdiff Kp415.signalCount
  rw [prods_is, prods_is, psp_length, tsp_length, k.len, zip_maps]
  rw [sum_div (W := ((powI (sw m) n : Int) : Rat)) (g := fun w => absI (prodI (w.map (at0 (tsp m))) - prodI (w.map (at0 (psp m))))), half_div hp]
  intro w hw
  rw [product_div (sw_pos k) (testShare_is k), product_div (sw_pos k) (productionShare_is k), seq_length _ _ _ hw, sub_div, ← Rat.intCast_sub, absolute_div hp]
theorem scaled {a b x d : Int} (hb : 0 < b) (hd : 0 < d) : ((a : Rat) / (b : Rat)) * ((x : Rat) / (d : Rat)) = ((a * x : Int) : Rat) / ((b * d : Int) : Rat) := by
  have h1 := rne hb
  have h2 := rne hd
  rw [Rat.intCast_mul, Rat.intCast_mul]
  grind
theorem seqAcc_is {m : Model} (k : Ok m) (n : Nat) : Kp415.fraction (Kp415.sequenceAccuracy m n) = seqAcc m n := by
  have hp := powI_pos (sw_pos k) n
  have hb : 0 < (m.priorDen : Int) := by have := k.b1; omega
  unfold Kp415.sequenceAccuracy seqAcc frac gsum Kp415.signalCount
  rw [prods_is, prods_is, psp_length, tsp_length, k.len, List.map_map, List.map_map, zip_maps]
  rw [sum_div (W := (((m.priorDen : Int) * powI (sw m) n : Int) : Rat)) (g := fun w => maxI ((m.priorNum : Int) * prodI (w.map (at0 (tsp m)))) (((m.priorDen : Int) - (m.priorNum : Int)) * prodI (w.map (at0 (psp m)))))]
  · rfl
  intro w hw
  rw [product_div (sw_pos k) (testShare_is k), product_div (sw_pos k) (productionShare_is k), seq_length _ _ _ hw, priorTest_is, priorProduction_is k, scaled hb hp, scaled hb hp, larger_div (Int.mul_pos hb hp)]
def seqJt (m : Model) (w : List Nat) : Int := (m.priorNum : Int) * prodI (w.map (at0 (tsp m)))
def seqJp (m : Model) (w : List Nat) : Int := ((m.priorDen : Int) - (m.priorNum : Int)) * prodI (w.map (at0 (psp m)))
theorem seqJoint_is {m : Model} (k : Ok m) (w : List Nat) : Kp415.priorTest m * Kp415.product (w.map (Kp415.testShare m)) = ((seqJt m w : Int) : Rat) / (((m.priorDen : Int) * powI (sw m) w.length : Int) : Rat) := by
  have hp := powI_pos (sw_pos k) w.length
  have hb : 0 < (m.priorDen : Int) := by have := k.b1; omega
  rw [product_div (sw_pos k) (testShare_is k), priorTest_is, scaled hb hp]
  rfl
theorem seqJointP_is {m : Model} (k : Ok m) (w : List Nat) : Kp415.priorProduction m * Kp415.product (w.map (Kp415.productionShare m)) = ((seqJp m w : Int) : Rat) / (((m.priorDen : Int) * powI (sw m) w.length : Int) : Rat) := by
  have hp := powI_pos (sw_pos k) w.length
  have hb : 0 < (m.priorDen : Int) := by have := k.b1; omega
  rw [product_div (sw_pos k) (productionShare_is k), priorProduction_is k, scaled hb hp]
  rfl
theorem seqProb_zero {m : Model} (k : Ok m) (w : List Nat) : Kp415.priorTest m * Kp415.product (w.map (Kp415.testShare m)) + Kp415.priorProduction m * Kp415.product (w.map (Kp415.productionShare m)) = 0 ↔ seqJt m w + seqJp m w = 0 := by
  have hp := powI_pos (sw_pos k) w.length
  have hb : 0 < (m.priorDen : Int) := by have := k.b1; omega
  rw [seqJoint_is k, seqJointP_is k, add_div, ← Rat.intCast_add]
  exact div_zero_iff (Int.mul_pos hb hp)
theorem seqPost_is {m : Model} (k : Ok m) (w : List Nat) (h : seqJt m w + seqJp m w ≠ 0) :
    Kp415.fraction (Kp415.priorTest m * Kp415.product (w.map (Kp415.testShare m)) / (Kp415.priorTest m * Kp415.product (w.map (Kp415.testShare m)) + Kp415.priorProduction m * Kp415.product (w.map (Kp415.productionShare m)))) = frac (seqJt m w) (seqJt m w + seqJp m w) := by
  have hp := powI_pos (sw_pos k) w.length
  have hb : 0 < (m.priorDen : Int) := by have := k.b1; omega
  unfold frac
  rw [seqJoint_is k, seqJointP_is k, add_div, ← Rat.intCast_add, div_div_same (Int.mul_pos hb hp) h]

/-! ### sets -/
def upTo (parts : List Int) (mask i : Nat) : Int := (((List.range i).filter fun s => Kp415.contains mask s).map fun s => at0 parts s).sum
def setPart (parts : List Int) (mask : Nat) : Int := upTo parts mask parts.length
theorem upTo_succ (parts : List Int) (mask i : Nat) : upTo parts mask (i + 1) = if Kp415.contains mask i = true then upTo parts mask i + at0 parts i else upTo parts mask i := by
  unfold upTo
  rw [List.range_succ, List.filter_append, List.map_append, List.sum_append]
  by_cases c : Kp415.contains mask i = true
  · rw [if_pos c, List.filter_cons_of_pos c]
    simp
  · rw [if_neg c, List.filter_cons_of_neg c]
    simp
theorem setShare_t {m : Model} (k : Ok m) (set : Nat) : Kp415.setShare m.testWeights set = ((setPart (tsp m) set : Int) : Rat) / ((sw m : Int) : Rat) := by
  unfold Kp415.setShare setPart upTo
  rw [tsp_length]
  refine sum_div (g := fun s => at0 (tsp m) s) fun s _ => ?_
  exact testShare_is k s
theorem setShare_p {m : Model} (k : Ok m) (set : Nat) : Kp415.setShare m.productionWeights set = ((setPart (psp m) set : Int) : Rat) / ((sw m : Int) : Rat) := by
  unfold Kp415.setShare setPart upTo
  rw [psp_length]
  refine sum_div (g := fun s => at0 (psp m) s) fun s _ => ?_
  exact productionShare_is k s
def gaps (m : Model) : List Int := ((tsp m).zip (psp m)).map fun p => p.1 - p.2
theorem gaps_length {m : Model} (k : Ok m) : (gaps m).length = m.testWeights.length := by
  unfold gaps
  rw [List.length_map, List.length_zip, tsp_length, psp_length, k.len, Nat.min_self]
theorem gaps_at {m : Model} (k : Ok m) (i : Nat) : at0 (gaps m) i = at0 (tsp m) i - at0 (psp m) i := by
  have hl : (tsp m).length = (psp m).length := by rw [tsp_length, psp_length, k.len]
  unfold gaps
  rw [zip_range hl]
  by_cases c : i < (tsp m).length
  · unfold at0
    rw [List.getD_eq_getElem?_getD, List.getElem?_map, List.getElem?_range c]
    rfl
  · unfold at0
    have c2 : (psp m).length ≤ i := by omega
    rw [List.getD_eq_getElem?_getD, List.getElem?_map, List.getElem?_eq_none (by rw [List.length_range]; omega), List.getD_eq_getElem?_getD, List.getD_eq_getElem?_getD, List.getElem?_eq_none (by omega), List.getElem?_eq_none c2]
    rfl
theorem sum_sub {α : Type} {f g : α → Int} : ∀ l : List α, (l.map fun s => f s - g s).sum = (l.map f).sum - (l.map g).sum
  | [] => rfl
  | a :: r => by
    rw [List.map_cons, List.map_cons, List.map_cons, List.sum_cons, List.sum_cons, List.sum_cons, sum_sub r]
    omega
theorem gap_part {m : Model} (k : Ok m) (set : Nat) : setPart (gaps m) set = setPart (tsp m) set - setPart (psp m) set := by
  unfold setPart upTo
  rw [gaps_length k, tsp_length, psp_length, k.len, ← sum_sub]
  exact congrArg List.sum (List.map_congr_left fun s _ => gaps_at k s)
theorem gap_is {m : Model} (k : Ok m) (set : Nat) : Kp415.shareGap m set = ((setPart (gaps m) set : Int) : Rat) / ((sw m : Int) : Rat) := by
  unfold Kp415.shareGap
  rw [setShare_t k, setShare_p k, sub_div, ← Rat.intCast_sub, gap_part k]
def widStep (parts : List Int) (best set : Nat) : Nat := if setPart parts best < setPart parts set then set else best
def widest (m : Model) : Nat := (List.range (2 ^ m.testWeights.length)).foldl (widStep (gaps m)) 0
theorem widest_is {m : Model} (k : Ok m) : Kp415.widestGapSet m = widest m := by
  unfold Kp415.widestGapSet widest Kp415.signalCount
  refine congrArg (fun f => List.foldl f 0 (List.range (2 ^ m.testWeights.length))) ?_
  funext best set
  unfold widStep
  have e : Kp415.shareGap m best < Kp415.shareGap m set ↔ setPart (gaps m) best < setPart (gaps m) set := by
    rw [gap_is k, gap_is k, div_lt_div (rpos (sw_pos k))]
    exact Rat.intCast_lt_intCast
  by_cases c : setPart (gaps m) best < setPart (gaps m) set
  · rw [if_pos c, if_pos (e.mpr c)]
  · rw [if_neg c, if_neg fun z => c (e.mp z)]
def detStep (ts ps : List Int) (bound den : Int) (best set : Nat) : Nat := if setPart ps set * den ≤ bound ∧ setPart ts best < setPart ts set then set else best
def detector (m : Model) (num den : Nat) : Nat := (List.range (2 ^ m.testWeights.length)).foldl (detStep (tsp m) (psp m) ((num : Int) * sw m) (den : Int)) 0
theorem le_bound {x n d W : Int} (hd : 0 < d) (hW : 0 < W) : (x : Rat) / (W : Rat) ≤ (n : Rat) / (d : Rat) ↔ x * d ≤ n * W := by
  have h1 := rpos hd
  have h2 := rpos hW
  have n1 := rne hd
  have n2 := rne hW
  rw [← Rat.not_lt, Rat.div_lt_iff h1, Rat.not_lt]
  have e : (x : Rat) / (W : Rat) * (d : Rat) = ((x * d : Int) : Rat) / (W : Rat) := by
    rw [Rat.intCast_mul]
    grind
  rw [e, ← Rat.not_lt, Rat.lt_div_iff h2, Rat.not_lt, ← Rat.intCast_mul]
  exact Rat.intCast_le_intCast
theorem detector_is {m : Model} (k : Ok m) {num den : Nat} (hd : 1 ≤ den) : Kp415.bestDetector m (Kp415.toRat num den) = detector m num den := by
  unfold Kp415.bestDetector detector Kp415.signalCount
  refine congrArg (fun f => List.foldl f 0 (List.range (2 ^ m.testWeights.length))) ?_
  funext best set
  unfold detStep
  have e1 : Kp415.setShare m.testWeights best < Kp415.setShare m.testWeights set ↔ setPart (tsp m) best < setPart (tsp m) set := by
    rw [setShare_t k, setShare_t k, div_lt_div (rpos (sw_pos k))]
    exact Rat.intCast_lt_intCast
  have e2 : Kp415.setShare m.productionWeights set ≤ Kp415.toRat num den ↔ setPart (psp m) set * (den : Int) ≤ (num : Int) * sw m := by
    unfold Kp415.toRat
    rw [setShare_p k, share_cast]
    exact le_bound (by omega) (sw_pos k)
  by_cases c : setPart (psp m) set * (den : Int) ≤ (num : Int) * sw m ∧ setPart (tsp m) best < setPart (tsp m) set
  · rw [if_pos c, if_pos ⟨e2.mpr c.1, e1.mpr c.2⟩]
  · rw [if_neg c, if_neg fun z => c ⟨e2.mp z.1, e1.mp z.2⟩]
theorem setf_t {m : Model} (k : Ok m) (set : Nat) : Kp415.fraction (Kp415.setShare m.testWeights set) = frac (setPart (tsp m) set) (sw m) := by
  unfold frac
  rw [setShare_t k]
theorem setf_p {m : Model} (k : Ok m) (set : Nat) : Kp415.fraction (Kp415.setShare m.productionWeights set) = frac (setPart (psp m) set) (sw m) := by
  unfold frac
  rw [setShare_p k]
theorem setf_g {m : Model} (k : Ok m) (set : Nat) : Kp415.fraction (Kp415.shareGap m set) = frac (setPart (gaps m) set) (sw m) := by
  unfold frac
  rw [gap_is k]
end Kp
set_option Elab.async false
set_option linter.all false
set_option maxRecDepth 100000
set_option maxHeartbeats 4000000
/-! Part 3: rules of one's own, the heap, the promises. -/
namespace Kp
open PySem PySem.Spec PyProof.Rows L2
open PySem.W (Codec)
abbrev topS (i : Nat) : Stmt := PySem.Challenge.rw_sessionsigns_s01_answers.prog.main.body.getD i (.Pass ⟨0, 0, 0, 0⟩)

/-! ### a def that stands at the top under its name -/
structure Def (K : PySem.W.Frag) (mg : Str → Option Value) (x : Str) (st : Stmt) (ps : List Str) : Prop where
  ex : ∃ (f : Addr) (fd : FuncData), Fun K x x st f fd ∧ Binds K fd ps [] ∧ mg x = some (.ref f)
/-- what it keeps, for its callers -/
structure Has (P : Program) (w : World) (K : PySem.W.Frag) (mg : Str → Option Value) (base : Heap) (CX : CXT) (k : Nat) (x : Str) (sp : Sp) : Prop where
  ex : ∃ (f : Addr) (fd : FuncData) (ps : List Str), FnOk P w K mg base CX k f fd ps sp ∧ mg x = some (.ref f) ∧ PySem.W.keepIn K (.ref f) = true ∧ Binds K fd ps []
section
variable {P : Program} {w : World} {K : PySem.W.Frag} {mg : Str → Option Value} {base : Heap}
theorem Def.ok {x : Str} {st : Stmt} {N ps : List Str} {k : Nat} {sp : Sp} (D : Def K mg x st ps) (S : FnScope N ps (defScope st)) (len : ∀ vs H Q E, sp vs H Q E → vs.length = ps.length)
    (hbody : ∀ (f : Addr) (cdv : Value) (A : Around) (outer : List Env) (s : Shared) (H : Hp) (vs : List V) (Q : VK) (E : XK), Room k (A.deeper (envOfC x (defScope st) s.heap.objs.size f cdv)) → sp vs H Q E →
      ∃ t, PSs (cxOf CX0 P w K mg base N x (defScope st) f cdv A outer s H E).nox (defBody st) t ∧ t { nx := fun _ H' => Q .non H', rt := Q } (start N vs) H) : Has P w K mg base CX0 (k + 1) x sp := by
  obtain ⟨f, fd, F, b, g⟩ := D.ex
  exact ⟨f, fd, ps, F.ok S len (fun cdv A outer s H vs Q E hr h => hbody f cdv A outer s H vs Q E hr h), g, F.kp, b⟩
theorem Def.okX {x : Str} {st : Stmt} {N ps : List Str} {k : Nat} {sp : Sp} (D : Def K mg x st ps) (S : FnScope N ps (defScope st)) (len : ∀ vs H Q E, sp vs H Q E → vs.length = ps.length)
    (hbody : ∀ (f : Addr) (cdv : Value) (A : Around) (outer : List Env) (s : Shared) (H : Hp) (vs : List V) (Q : VK) (E : XK), Room k (A.deeper (envOfC x (defScope st) s.heap.objs.size f cdv)) → sp vs H Q E →
      ∃ t, PSs (cxOf (L2.CX P w) P w K mg base N x (defScope st) f cdv A outer s H E) (defBody st) t ∧ t { nx := fun _ H' => Q .non H', rt := Q } (start N vs) H) : Has P w K mg base (L2.CX P w) (k + 1) x sp := by
  obtain ⟨f, fd, F, b, g⟩ := D.ex
  exact ⟨f, fd, ps, F.okX S len (fun cdv A outer s H vs Q E hr h => hbody f cdv A outer s H vs Q E hr h), g, F.kp, b⟩
end
def tC1 (sp : Sp) (E : XK) (t : TA) : TE := fun σ H Q => t σ H fun vs H1 => sp vs H1 Q E
section
variable {X : Cx} {CX : CXT} {j k : Nat} {x : Str} {sp : Sp} {E : XK} {p pos : Pos} {e : Expr} {es : List Expr} {t : TA}
theorem tCall_nil : tCall sp [] E t = tC1 sp E t := by
  funext σ H Q
  unfold tCall tC1
  refine congrArg (t σ H) ?_
  funext vs H1
  rw [List.append_nil]
/-- f(e, ..) -/
theorem pe_h (c : Has X.prog X.w X.K X.mg X.base CX k x sp) (hr : Room j X.A) (hk : k ≤ j) (hg : Gl X x) (hx : Passes CX X E) (ha : PA X (e :: es) t)
    (hdb : (x == ("__debug__" : Str)) = false := by decide) (he : starEach (e :: es) X.env = (false, eval e X.env) :: starEach es X.env := by rfl) (hpl : (backTo pos (starEach es X.env)).any (·.1) = false := by rfl) :
    PE X (.Call (.Name x p) (e :: es) [] pos) (tC1 sp E t) := by
  obtain ⟨f, fd, ps, F, g, kp, b⟩ := c.ex
  have h := pe_call (dvs := []) (ds := []) (p := p) (pos := pos) F (hr.mono hk) hg g kp b .nil hx ha hdb he hpl
  rw [tCall_nil] at h
  exact h
/-- the same within a try -/
theorem pe_hS {E : L2.St → XK} (c : Has X.prog X.w X.K X.mg X.base CX k x sp) (hr : Room j X.A) (hk : k ≤ j) (hg : Gl X x) (hx : ∀ σ, PassesAt CX X σ (E σ)) (ha : PA X (e :: es) t)
    (hdb : (x == ("__debug__" : Str)) = false := by decide) (he : starEach (e :: es) X.env = (false, eval e X.env) :: starEach es X.env := by rfl) (hpl : (backTo pos (starEach es X.env)).any (·.1) = false := by rfl) :
    PE X (.Call (.Name x p) (e :: es) [] pos) (tCallS sp E t) := by
  obtain ⟨f, fd, ps, F, g, kp, b⟩ := c.ex
  exact pe_callS F (hr.mono hk) hg g kp b hx ha hdb he hpl
/-- X(), X an own exception class without own __init__ -/
theorem pmk_own0 {C : Addr} {bmB : List Value} {B newId initId : String} (F : ExcBaseFacts B newId initId bmB) (q : PySem.W.excIn X.K C bmB newId = true) (gC : X.mg x = some (.ref C)) (kC : PySem.W.keepIn X.K (.ref C) = true) (r : Raises X (.ref C)) (hg : Gl X x)
    (hdb : (x == ("__debug__" : Str)) = false := by decide) : PMk X (.Call (.Name x p) [] [] pos) (fun _ H Q => Q (.ref C) none H) := by
  intro pins s σ H Q I h
  refine wpAny_Call_Name_kw (ld_glob I hg gC ?_ hdb)
  refine PySem.W.callWith_K0 I.kIn kC ?_
  obtain ⟨bm, N, nm, qn, bs, hdct, sn, sub, ab, col, dd, k0, k1, k2, k3, k5, mN, hC, hN, hni, T⟩ := exc_obj I.kIn q
  refine wpAny_call_exc_subT F T hC hN hni (fun h' e hm => ?_) (by show 0 ≤ sizeLine; rw [sizeLine_eq]; omega)
  exact mk_of I hm r h (I.hok.gone hm.new)
/-- d[i] of a list, by values (for d[i] op= e) -/
theorem get_list : PGet X (rIxL X.K) := by
  intro pins s σ H x y v u Q I rx ry h
  obtain ⟨p, xs, i, z, rfl, rfl, hq, he, q⟩ := h
  cases rx
  obtain ⟨t, rfl⟩ := ry
  obtain ⟨its, r, pl, hz⟩ := I.list hq
  obtain ⟨j, h1, h2, h3, h4, h5⟩ := atI_get he
  obtain ⟨w, ew, rw'⟩ := r.get h2
  have hl := r.length
  have hn := line63
  have fin : EP X pins σ Q w s := ⟨z, H, I, rw', q⟩
  by_cases h0 : 0 ≤ i
  · have hj : i.toNat = j := by
      rw [seqIndex_of h0 h5] at h1
      exact Option.some.inj h1
    exact wpAny_getItem_list pl.isList h0 (by omega) (by rw [hj]; simpa using ew) fin
  · have hj : (i + (its.toArray.size : Int)).toNat = j := by
      rw [seqIndex_neg (by omega) h4] at h1
      rw [List.size_toArray, ← hl]
      exact Option.some.inj h1
    exact wpAny_getItem_list_neg pl.isList (by omega) (by rw [List.size_toArray] <;> omega) (by omega) (by rw [hj]; simpa using ew) fin
theorem pe_gc {v : V} (hg : Gl X x) (h : ∃ u, X.mg x = some u ∧ RelV v u) (hdb : (x == ("__debug__" : Str)) = false := by decide) : PE X (.Name x pos) (tC v) := by
  obtain ⟨u, e1, r⟩ := h
  exact pe_glob hg e1 r hdb
theorem ip_mul : PIp X .Mult (rI CMul fun i j => .int (i * j)) := iop_mul
end

/-! ### a written dict of defs, by whole numbers: called -/
def KeysInt (P : Program) (w : World) : List DictEntry → Prop
  | [] => True
  | e :: r => (∃ i t, e.key = .int i t ∧ e.hash = (intKind P w).hash i) ∧ KeysInt P w r
theorem KeysInt.all {P : Program} {w : World} : ∀ {l : List DictEntry}, KeysInt P w l → ∀ e ∈ l, ∃ i t, e.key = .int i t ∧ e.hash = (intKind P w).hash i
  | _ :: _, ⟨h, _⟩, _, .head _ => h
  | _ :: _, ⟨_, r⟩, _, .tail _ m => r.all _ m
/-- at d: the table; at the number i: the def f -/
structure Tab (P : Program) (w : World) (K : PySem.W.Frag) (d : Addr) (tab : Int → Option Addr) : Prop where
  ex : ∃ (es : Array DictEntry) (n : Nat), K.lookup d = some ⟨.type "dict", none, .dict es n, #[]⟩ ∧ KeysInt P w es.toList ∧ (∀ i f, tab i = some f → findBy Value.isInt es i = some (.ref f))
theorem Tab.mapOf {P : Program} {w : World} {K : PySem.W.Frag} {h : Heap} {d : Addr} {es : Array DictEntry} {n : Nat} (X : K.In h) (hl : K.lookup d = some ⟨.type "dict", none, .dict es n, #[]⟩) (hk : KeysInt P w es.toList) :
    h.MapOf (intKind P w) d (fun k => findBy Value.isInt es k) :=
  ⟨_, es, n, X _ _ hl, ⟨rfl, rfl, rfl⟩, rfl, fun e he => by
    obtain ⟨x, t, e1, e2⟩ := hk.all e (Array.mem_toList_iff.mpr he)
    exact ⟨x, by rw [e1]; exact intKind_is P w x t, e2⟩, fun _ => rfl⟩
/-- e(e, ..): the callee an expression -/
def tTab (tab : Int → Option Addr) (S : Int → Sp) (E : XK) (td ty : TE) (t : TA) (d : Addr) : TE := fun σ H Q => td σ H fun x H0 => ty σ H0 fun y H1 => ∃ i f, x = .ref d ∧ y = .int i ∧ tab i = some f ∧ t σ H1 fun vs H2 => S i vs H2 Q E
section
variable {X : Cx} {CX : CXT} {j k : Nat} {E : XK} {pos pos2 : Pos} {a b e : Expr} {es : List Expr} {ta tb : TE} {t : TA} {d : Addr} {tab : Int → Option Addr} {S : Int → Sp}
theorem pe_tab (T : Tab X.prog X.w X.K d tab) (c : ∀ i f, tab i = some f → ∃ (fd : FuncData) (ps : List Str), FnOk X.prog X.w X.K X.mg X.base CX k f fd ps (S i) ∧ PySem.W.keepIn X.K (.ref f) = true ∧ Binds X.K fd ps [])
    (hr : Room j X.A) (hk : k ≤ j) (hx : Passes CX X E) (ha : PE X a ta) (hb : PE X b tb) (hs : PlainIx b) (hes : PA X (e :: es) t)
    (ht : eval (.Call (.Subscript a b pos2) (e :: es) [] pos) X.env = (do callWith pos (← eval (.Subscript a b pos2) X.env) [] (backTo pos (starEach (e :: es) X.env)) (backToKw pos (keywordEach [] X.env))) := by rfl)
    (he : starEach (e :: es) X.env = (false, eval e X.env) :: starEach es X.env := by rfl) (hpl : (backTo pos (starEach es X.env)).any (·.1) = false := by rfl) :
    PE X (.Call (.Subscript a b pos2) (e :: es) [] pos) (tTab tab S E ta tb t d) := by
  refine ⟨fun pins s σ H Q I h => ?_⟩
  refine Call_ ?_ ht
  refine Subscript_ (binT ha hb I (R := fun x y H1 => ∃ i f, x = .ref d ∧ y = .int i ∧ tab i = some f ∧ t σ H1 fun vs H2 => S i vs H2 Q E) h fun v u s2 x y H2 I2 rx ry q => ?_)
  obtain ⟨i, f, rfl, rfl, hi, q⟩ := q
  obtain rfl : v = Value.ref d := rx
  obtain ⟨tk, rfl⟩ := (show ∃ tk, u = Value.int i tk from ry)
  obtain ⟨en, n, hl, hkk, hf⟩ := T.ex
  obtain ⟨fd, ps, F, kp, bd⟩ := c i f hi
  have hm := Tab.mapOf I2.kIn hl hkk
  refine tail_any hm.typeIs slot_dict_getitem.lookup (wpAny_getItem_of (intKind_is X.prog X.w i tk) hm (hf i f hi) ?_) (hs _ _)
  refine PySem.W.callWith_K (h₀ := X.base) I2.ok.mod.kin kp (thn (hes.run pos pins _ σ H2 _ (I2.tok _) q) fun us s3 ⟨vs, H3, I3, r, q3⟩ => ⟨I3.kIn, ?_⟩) he hpl
  exact run_fn (dvs := []) (ds := []) F (hr.mono hk) bd .nil hx I3 r (by rw [List.append_nil]; exact q3)
end
end Kp
set_option Elab.async false
set_option linter.all false
set_option maxRecDepth 100000
set_option maxHeartbeats 4000000
namespace Kp
open PySem PySem.Spec PyProof.Rows L2
abbrev Md := Kp415.Model

abbrev VL (l : List Int) : List V := l.map V.int
/-- what the top has written, beside the defs -/
structure Txt (K : PySem.W.Frag) (mg : Str → Option Value) (C CI CN CU CO CP : Addr) : Prop where
  cl : Cls K C
  ci : Cls K CI
  nC : NoAttr K C "signal_count"
  nT : NoAttr K C "test_weights"
  nP : NoAttr K C "production_weights"
  nA : NoAttr K C "prior_num"
  nB : NoAttr K C "prior_den"
  nM : NoAttr K CI "model"
  gModel : mg "Model" = some (.ref C)
  gInstance : mg "Instance" = some (.ref CI)
  len : mg "len" = none
  range : mg "range" = none
  zip : mg "zip" = none
  enumerate : mg "enumerate" = none
  sum : mg "sum" = none
  max : mg "max" = none
  abs : mg "abs" = none
  list : mg "list" = none
  gCREATE : ∃ u, mg "CREATE" = some u ∧ RelV (.int 0) u
  gMOST_SIGNALS : ∃ u, mg "MOST_SIGNALS" = some u ∧ RelV (.int 5) u
  gGREATEST_WEIGHT : ∃ u, mg "GREATEST_WEIGHT" = some u ∧ RelV (.int 99) u
  gGREATEST_DEN : ∃ u, mg "GREATEST_DEN" = some u ∧ RelV (.int 99) u
  gGREATEST_LENGTH : ∃ u, mg "GREATEST_LENGTH" = some u ∧ RelV (.int 3) u
  gLONGEST_SEQUENCE : ∃ u, mg "LONGEST_SEQUENCE" = some u ∧ RelV (.int 6) u
  gN : mg "NoModel" = some (.ref CN)
  xN : PySem.W.excIn K CN [.type "Exception", .type "BaseException", .type "object"] "Exception.__new__" = true
  kN : PySem.W.keepIn K (.ref CN) = true
  bN : PySem.W.subIn K (.ref CN) (.type "BaseException") = some true
  tN : PySem.W.typeIn K (.ref CN) = some (.type "type")
  gU : mg "UnknownSignal" = some (.ref CU)
  xU : PySem.W.excIn K CU [.type "Exception", .type "BaseException", .type "object"] "Exception.__new__" = true
  kU : PySem.W.keepIn K (.ref CU) = true
  bU : PySem.W.subIn K (.ref CU) (.type "BaseException") = some true
  tU : PySem.W.typeIn K (.ref CU) = some (.type "type")
  gO : mg "OutsideLimits" = some (.ref CO)
  xO : PySem.W.excIn K CO [.type "Exception", .type "BaseException", .type "object"] "Exception.__new__" = true
  kO : PySem.W.keepIn K (.ref CO) = true
  bO : PySem.W.subIn K (.ref CO) (.type "BaseException") = some true
  tO : PySem.W.typeIn K (.ref CO) = some (.type "type")
  gP : mg "UndefinedPosterior" = some (.ref CP)
  xP : PySem.W.excIn K CP [.type "Exception", .type "BaseException", .type "object"] "Exception.__new__" = true
  kP : PySem.W.keepIn K (.ref CP) = true
  bP : PySem.W.subIn K (.ref CP) (.type "BaseException") = some true
  tP : PySem.W.typeIn K (.ref CP) = some (.type "type")
  eNN : PySem.W.exmOne K (.ref CN) (.ref CN) = some true
  eUN : PySem.W.exmOne K (.ref CU) (.ref CN) = some false
  eUU : PySem.W.exmOne K (.ref CU) (.ref CU) = some true
  eON : PySem.W.exmOne K (.ref CO) (.ref CN) = some false
  eOU : PySem.W.exmOne K (.ref CO) (.ref CU) = some false
  eOO : PySem.W.exmOne K (.ref CO) (.ref CO) = some true
  ePN : PySem.W.exmOne K (.ref CP) (.ref CN) = some false
  ePU : PySem.W.exmOne K (.ref CP) (.ref CU) = some false
  ePO : PySem.W.exmOne K (.ref CP) (.ref CO) = some false
  ePP : PySem.W.exmOne K (.ref CP) (.ref CP) = some true

theorem ifY {c : Bool} {A B : Prop} (hc : c = true) (h : A) : if c = true then A else B := by
  rw [if_pos hc]
  exact h
theorem ifN {c : Bool} {A B : Prop} (hc : c = false) (h : B) : if c = true then A else B := by
  rw [hc, if_neg Bool.false_ne_true]
  exact h
/-! ### heaps -/
theorem Same.new {H : Hp} {p : Addr} {o : HO} (h : H p = none) : Same H (upd H p o) := fun b u e => by
  rw [upd_ne (ne_of_none e h)]
  exact e
/-- all stands but what is at a -/
def Else (a : Addr) (H H' : Hp) : Prop := ∀ b o, H b = some o → b ≠ a → H' b = some o
theorem Same.els {H H' : Hp} {a : Addr} (s : Same H H') : Else a H H' := fun b o e _ => s b o e
theorem Else.then {H H1 H2 : Hp} {a : Addr} (e : Else a H H1) (s : Same H1 H2) : Else a H H2 := fun b o q n => s b o (e b o q n)
theorem Else.pre {H H1 H2 : Hp} {a : Addr} (s : Same H H1) (e : Else a H1 H2) : Else a H H2 := fun b o q n => e b o (s b o q) n
theorem Else.trans {H H1 H2 : Hp} {a : Addr} (e : Else a H H1) (f : Else a H1 H2) : Else a H H2 := fun b o q n => f b o (e b o q n) n
theorem Else.upd {H : Hp} {a : Addr} {o : HO} : Else a H (upd H a o) := fun b u q n => by
  rw [upd_ne n]
  exact q
/-- as before, a list at p besides: what was made of new things from a heap that is the same -/
theorem lk_here {k : Str} {v : V} {r : List (Str × V)} : List.lookup k ((k, v) :: r) = some v := by
  have e : (k == k) = true := beq_self_eq_true k
  simp only [List.lookup, e]
theorem lk_past {k g : Str} {v : V} {r : List (Str × V)} (h : (k == g) = false) : List.lookup k ((g, v) :: r) = List.lookup k r := by
  simp only [List.lookup, h]
theorem put_here {f : Str} {v x : V} {r : List (Str × V)} : putF f v ((f, x) :: r) = (f, v) :: r := if_pos rfl
theorem put_past {f g : Str} {v x : V} {r : List (Str × V)} (h : ¬ g = f) : putF f v ((g, x) :: r) = (g, x) :: putF f v r := if_neg h

/-! ### how a model lies in the heap -/
def mF (n : Int) (pt pp : V) (a b : Int) : List (Str × V) := [("signal_count", .int n), ("test_weights", pt), ("production_weights", pp), ("prior_num", .int a), ("prior_den", .int b)]
theorem mF_n {n a b : Int} {pt pp : V} : (mF n pt pp a b).lookup ("signal_count" : Str) = some (.int n) := lk_here
theorem mF_t {n a b : Int} {pt pp : V} : (mF n pt pp a b).lookup ("test_weights" : Str) = some pt := (lk_past (by decide +kernel)).trans lk_here
theorem mF_p {n a b : Int} {pt pp : V} : (mF n pt pp a b).lookup ("production_weights" : Str) = some pp := (lk_past (by decide +kernel)).trans ((lk_past (by decide +kernel)).trans lk_here)
theorem mF_a {n a b : Int} {pt pp : V} : (mF n pt pp a b).lookup ("prior_num" : Str) = some (.int a) := (lk_past (by decide +kernel)).trans ((lk_past (by decide +kernel)).trans ((lk_past (by decide +kernel)).trans lk_here))
theorem mF_b {n a b : Int} {pt pp : V} : (mF n pt pp a b).lookup ("prior_den" : Str) = some (.int b) := (lk_past (by decide +kernel)).trans ((lk_past (by decide +kernel)).trans ((lk_past (by decide +kernel)).trans ((lk_past (by decide +kernel)).trans lk_here)))
theorem mF_put_t {n a b : Int} {pt pp y : V} : putF "test_weights" y (mF n pt pp a b) = mF n y pp a b := (put_past (by decide +kernel)).trans (congrArg _ put_here)
theorem mF_put_p {n a b : Int} {pt pp y : V} : putF "production_weights" y (mF n pt pp a b) = mF n pt y a b := (put_past (by decide +kernel)).trans (congrArg _ ((put_past (by decide +kernel)).trans (congrArg _ put_here)))
theorem mF_put_a {n a b y : Int} {pt pp : V} : putF "prior_num" (.int y) (mF n pt pp a b) = mF n pt pp y b := (put_past (by decide +kernel)).trans (congrArg _ ((put_past (by decide +kernel)).trans (congrArg _ ((put_past (by decide +kernel)).trans (congrArg _ put_here)))))
theorem mF_put_b {n a b y : Int} {pt pp : V} : putF "prior_den" (.int y) (mF n pt pp a b) = mF n pt pp a y := (put_past (by decide +kernel)).trans (congrArg _ ((put_past (by decide +kernel)).trans (congrArg _ ((put_past (by decide +kernel)).trans (congrArg _ ((put_past (by decide +kernel)).trans (congrArg _ put_here)))))))
/-- at a: the model's object, its two lists -/
structure MAt (C : Addr) (H : Hp) (a : Addr) (m : Md) (dx pt pp : Addr) : Prop where
  o : H a = some (.ins C dx (mF (m.testWeights.length : Int) (.ref pt) (.ref pp) (m.priorNum : Int) (m.priorDen : Int)))
  t : H pt = some (.lst (VL (toI m.testWeights)))
  p : H pp = some (.lst (VL (toI m.productionWeights)))
def ModelAt (C : Addr) (H : Hp) (a : Addr) (m : Md) : Prop := ∃ dx pt pp, MAt C H a m dx pt pp
theorem MAt.same {C a dx pt pp : Addr} {m : Md} {H H' : Hp} (s : Same H H') (h : MAt C H a m dx pt pp) : MAt C H' a m dx pt pp := ⟨s _ _ h.o, s _ _ h.t, s _ _ h.p⟩
theorem ModelAt.same {C a : Addr} {m : Md} {H H' : Hp} (s : Same H H') (h : ModelAt C H a m) : ModelAt C H' a m := by
  obtain ⟨dx, pt, pp, h⟩ := h
  exact ⟨dx, pt, pp, h.same s⟩

/-! ### promises -/
/-- hands back the number z, all that stood stands -/
def RetI (H : Hp) (Q : VK) (z : Int) : Prop := ∀ H', Same H H' → Q (.int z) H'
/-- hands back a new list of these numbers -/
def RetL (H : Hp) (Q : VK) (l : List Int) : Prop := ∀ H' p, Same H H' → H p = none → H' p = some (.lst (VL l)) → Q (.ref p) H'
theorem RetL.at {H H1 : Hp} {Q : VK} {l : List Int} (k : RetL H Q l) (s : Same H H1) {p : Addr} (h : H1 p = none) : Q (.ref p) (upd H1 p (.lst (VL l))) :=
  k _ p (s.trans (Same.new h)) (s.free h) upd_same
theorem RetL.pass {H H1 H2 : Hp} {Q : VK} {l : List Int} (k : RetL H Q l) (s : Same H H1) {p : Addr} (s2 : Same H1 H2) (h : H1 p = none) (e : H2 p = some (.lst (VL l))) : Q (.ref p) H2 :=
  k _ p (s.trans s2) (s.free h) e
theorem RetL.is {H : Hp} {Q : VK} {l l' : List Int} (k : RetL H Q l) (e : l = l') : RetL H Q l' := by
  rw [← e]
  exact k
/-- of a model: a list, a number -/
def spML (C : Addr) (g : Md → List Int) : Sp := fun vs H Q _ => ∃ a m, vs = [.ref a] ∧ ModelAt C H a m ∧ Ok m ∧ RetL H Q (g m)
def spMI (C : Addr) (g : Md → Int) : Sp := fun vs H Q _ => ∃ a m, vs = [.ref a] ∧ ModelAt C H a m ∧ Ok m ∧ RetI H Q (g m)
/-- of a model and a number -/
def spMnL (C : Addr) (ask : Md → Nat → Prop) (g : Md → Nat → List Int) : Sp := fun vs H Q _ => ∃ a m n, vs = [.ref a, .int ((n : Nat) : Int)] ∧ ModelAt C H a m ∧ Ok m ∧ ask m n ∧ RetL H Q (g m n)
def spMnI (C : Addr) (ask : Md → Nat → Prop) (g : Md → Nat → Int) : Sp := fun vs H Q _ => ∃ a m n, vs = [.ref a, .int ((n : Nat) : Int)] ∧ ModelAt C H a m ∧ Ok m ∧ ask m n ∧ RetI H Q (g m n)
/-- of a model and a list of numbers -/
def spMlL (K : PySem.W.Frag) (C : Addr) (ask : Md → List Nat → Prop) (g : Md → List Nat → List Int) : Sp := fun vs H Q _ => ∃ a m l ns, vs = [.ref a, .ref l] ∧ ModelAt C H a m ∧ Ok m ∧ SqL K H l (VL (toI ns)) ∧ ask m ns ∧ RetL H Q (g m ns)
def spMlI (K : PySem.W.Frag) (C : Addr) (ask : Md → List Nat → Prop) (g : Md → List Nat → Int) : Sp := fun vs H Q _ => ∃ a m l ns, vs = [.ref a, .ref l] ∧ ModelAt C H a m ∧ Ok m ∧ SqL K H l (VL (toI ns)) ∧ ask m ns ∧ RetI H Q (g m ns)
def spGcd : Sp := fun vs H Q _ => ∃ a b : Int, vs = [.int a, .int b] ∧ 0 < b ∧ Q (.int ((Int.gcd a b : Nat) : Int)) H
def spLow : Sp := fun vs H Q _ => ∃ a b : Int, vs = [.int a, .int b] ∧ 0 < b ∧ b.natAbs < 2 ^ 200 ∧ RetL H Q (frac a b)
def spPow : Sp := fun vs H Q _ => ∃ (b : Int) (k : Nat), vs = [.int b, .int (k : Int)] ∧ (-(2 ^ 64) < b ∧ b < 2 ^ 64) ∧ k ≤ 1000 ∧ RetI H Q (powI b k)
section
variable {K : PySem.W.Frag}
/-- [e for x in l], l a list of whole numbers: D is the new list's address -/
theorem lc_nums {a : Addr} {l : List Int} {f : Int → Int} {te : TE} {σ : L2.St} {H1 : Hp} {D : Addr} {i : Nat} {Qd : Hp → Prop} (hn : H1 D = none) (ha : SqL K H1 a (VL l)) (hz : l.length ≤ 1000000)
    (ht : ∀ z ∈ l, ∀ (H' : Hp) (Q : VK), Same H1 H' → Q (.int (f z)) H' → te ((σ.set i none).set i (some (.int z))) H' Q) (hd : ∀ H', Same H1 H' → H' D = some (.lst (VL (l.map f))) → Qd H') :
    ∃ W : Nat → Nat → Hp → Prop, (∃ m, W 0 m (upd H1 D (.lst []))) ∧ ∀ j m H, W j m H →
      ((Itl K a).stop j H ∧ Qd H) ∨ ((Itl K a).go j H ∧ ∃ Nx : Hp → Prop, (∀ H', Nx H' → ∃ m', m' < m ∧ W (j + 1) m' H') ∧ ∀ x H', (Itl K a).yld j H x H' → gName i x (wipe σ [i]) H' fun σ2 H2 => wipe σ2 [i] = wipe σ [i] ∧ tYes σ2 H2 fun b H3 =>
        if b = true then te σ2 H3 fun y H4 => ∃ acc, H4 D = some (.lst acc) ∧ acc.length < sizeLine ∧ Nx (upd H4 D (.lst (acc ++ [y]))) else Nx H3) := by
  refine lc_list (K := K) (a := a) (xs := VL l) (fun j H' => Same H1 H' ∧ H' D = some (.lst (VL ((l.take j).map f)))) ⟨Same.new hn, upd_same⟩ (fun j H' _ h => h.1.seq ha) ?_ ?_
  · rintro j x H' hx ⟨s1, e⟩
    obtain ⟨z, hz1, rfl⟩ : ∃ z, l[j]? = some z ∧ x = V.int z := by
      rw [List.getElem?_map] at hx
      cases q : l[j]? with
      | none => rw [q] at hx; cases hx
      | some z => rw [q] at hx; exact ⟨z, rfl, (Option.some.inj hx).symm⟩
    refine ⟨?_, ?_⟩
    · show (((σ.set i none).set i (some (V.int z))).set i none) = σ.set i none
      rw [List.set_set, List.set_set]
    · refine ht z (List.mem_of_getElem? hz1) H' _ s1 ?_
      refine ⟨_, e, ?_, fun b o q => ?_, ?_⟩
      · rw [List.length_map, List.length_map, List.length_take]
        exact Nat.lt_of_le_of_lt (by omega) (show 1000000 < sizeLine by decide)
      · have q1 := s1 b o q
        rw [upd_ne (ne_of_none q hn)]
        exact q1
      · rw [upd_same, List.take_add_one, hz1]
        simp
  · rintro H' ⟨s1, e⟩
    refine hd H' s1 ?_
    rw [e, List.length_map, List.take_length]
end
/-! ### ratios -/
abbrev s_greatest_common_divisor : Stmt := topS 6
theorem sc_greatest_common_divisor : FnScope ["first", "second", "larger", "smaller", "rest"] ["first", "second"] (defScope s_greatest_common_divisor) := ⟨rfl, rfl, rfl, by decide +kernel, rfl, by decide +kernel, by decide +kernel⟩
abbrev s_lowest_terms : Stmt := topS 7
theorem sc_lowest_terms : FnScope ["num", "den", "divisor"] ["num", "den"] (defScope s_lowest_terms) := ⟨rfl, rfl, rfl, by decide +kernel, rfl, by decide +kernel, by decide +kernel⟩
abbrev s_power : Stmt := topS 8
theorem sc_power : FnScope ["base", "exponent", "product", "step"] ["base", "exponent"] (defScope s_power) := ⟨rfl, rfl, rfl, by decide +kernel, rfl, by decide +kernel, by decide +kernel⟩
section
variable {P : Program} {w : World} {K : PySem.W.Frag} {mg : Str → Option Value} {base : Heap} {C CI CN CU CO CP : Addr}
theorem gcd_step {a b : Int} (h : 0 < b) : Int.gcd b (a % b) = Int.gcd a b := by
  have e := Int.gcd_add_mul_left_left b (a % b) (a / b)
  rw [Int.emod_add_mul_ediv] at e
  rw [Int.gcd_comm b (a % b), ← e]
theorem ok_greatest_common_divisor (D : Def K mg "greatest_common_divisor" s_greatest_common_divisor ["first", "second"]) : Has P w K mg base CX0 1 "greatest_common_divisor" spGcd := by
  refine D.ok sc_greatest_common_divisor (fun vs H Q E h => ?_) (fun f cdv A outer s H vs Q E hr h => ?_)
  · obtain ⟨a, b, rfl, _⟩ := h
    rfl
  refine ⟨_, (pss_cons (ps_set (i := 2) sc_greatest_common_divisor.nd rfl (Or.inl rfl) (pv 0)) (pss_cons (ps_set (i := 3) sc_greatest_common_divisor.nd rfl (Or.inl rfl) (pv 1)) (pss_cons (ps_while PassesOwn.never (pt_cmpR op_ne (pv 3) pe_int (nomark _)) (pss_cons (ps_set (i := 4) sc_greatest_common_divisor.nd rfl (Or.inl rfl) (pe_op op_mod (pv 2) (pv 3))) (pss_cons (ps_set (i := 2) sc_greatest_common_divisor.nd rfl (Or.inl rfl) (pv 3)) (pss_one (ps_set (i := 3) sc_greatest_common_divisor.nd rfl (Or.inl rfl) (pv 4)))))) (pss_one (ps_ret (pv 2)))))), ?_⟩
  obtain ⟨a, b, rfl, hb, k⟩ := h
  refine ⟨_, rfl, _, rfl, ?_⟩
  refine while_by (fun σ H' => ∃ (x y : Int) (v : Option V), σ = [some (.int a), some (.int b), some (.int x), some (.int y), v] ∧ H' = H ∧ 0 ≤ y ∧ (0 < y ∨ 0 < x) ∧ Int.gcd x y = Int.gcd a b)
    (fun σ _ => match (σ[3]? : Option (Option V)) with | some (some (V.int y)) => y.toNat | _ => 0) ⟨a, b, none, rfl, rfl, by omega, .inl hb, rfl⟩ ?_ ?_
  · rintro σ H' ⟨x, y, v, rfl, rfl, h0, h1, h2⟩
    refine ⟨_, rfl, rfl, _, rfl, ?_⟩
    by_cases c : y = 0
    · subst c
      refine ifN rfl ?_
      refine ⟨_, rfl, ?_⟩
      have e : x = ((Int.gcd a b : Nat) : Int) := by
        rw [← h2, Int.gcd_zero_right]
        omega
      rw [e]
      exact k
    · have c' : (!decide (V.int y = V.int 0)) = true := by
        rw [decide_eq_false (fun z => c (V.int.inj z))]
        rfl
      refine ifY c' ?_
      have hy : 0 < y := by omega
      refine ⟨_, rfl, _, rfl, _, _, rfl, rfl, hy, ?_⟩
      refine ⟨_, rfl, _, rfl, ?_⟩
      refine ⟨⟨y, x % y, some (.int (x % y)), rfl, rfl, Int.emod_nonneg _ c, .inr hy, by rw [gcd_step hy, h2]⟩, ?_⟩
      have z := Int.emod_lt_of_pos x hy
      show (x % y).toNat < y.toNat
      omega
  · rintro σ H0 Q1 Q2 hq ⟨v, e, s1, b1, e1, q⟩
    exact ⟨v, e, s1, b1, e1, hq _ _ q⟩
theorem ok_lowest_terms (h_greatest_common_divisor : Has P w K mg base CX0 1 "greatest_common_divisor" spGcd) (D : Def K mg "lowest_terms" s_lowest_terms ["num", "den"]) : Has P w K mg base CX0 2 "lowest_terms" spLow := by
  refine D.ok sc_lowest_terms (fun vs H Q E h => ?_) (fun f cdv A outer s H vs Q E hr h => ?_)
  · obtain ⟨a, b, rfl, _⟩ := h
    rfl
  refine ⟨_, (pss_cons (ps_set (i := 2) sc_lowest_terms.nd rfl (Or.inl rfl) (pe_h h_greatest_common_divisor hr (by decide) rfl pass0 (pa_cons (pv 0) (pa_cons (pv 1) pa_nil)))) (pss_one (ps_ret (pe_lst (pa_cons (pe_op op_fdivW (pv 0) (pv 2)) (pa_cons (pe_op op_fdivW (pv 1) (pv 2)) pa_nil)))))), ?_⟩
  obtain ⟨a, b, rfl, hb, hz, k⟩ := h
  refine ⟨_, rfl, _, rfl, a, b, rfl, hb, ?_⟩
  have hg : 0 < Int.gcd a b := Int.gcd_pos_of_ne_zero_right _ (by omega)
  have hgb : (Int.gcd a b : Nat) ≤ b.natAbs := Int.gcd_le_natAbs_right _ (by omega)
  have hd : CDivW a ((Int.gcd a b : Nat) : Int) := wide_div (b := 200) (by omega) (by show (Int.gcd a b) < 2 ^ 200; exact Nat.lt_of_le_of_lt hgb hz) (by decide) (by decide)
  have hd2 : CDivW b ((Int.gcd a b : Nat) : Int) := hd
  refine ⟨_, rfl, _, rfl, _, _, rfl, rfl, hd, _, rfl, _, rfl, _, _, rfl, rfl, hd2, (by show 2 ≤ sizeLine; decide), fun p hp => ?_⟩
  have q := k.at (Same.refl H) hp
  rw [frac_gcd hb] at q
  exact q
theorem ok_power (T : Txt K mg C CI CN CU CO CP) (D : Def K mg "power" s_power ["base", "exponent"]) : Has P w K mg base CX0 1 "power" spPow := by
  refine D.ok sc_power (fun vs H Q E h => ?_) (fun f cdv A outer s H vs Q E hr h => ?_)
  · obtain ⟨a, b, rfl, _⟩ := h
    rfl
  refine ⟨_, (pss_cons (ps_set (i := 2) sc_power.nd rfl (Or.inl rfl) pe_int) (pss_cons (ps_for PassesOwn.never rfl (pi_range1 rfl T.range (pa_cons (pv 1) pa_nil)) (pg_name (i := 3) sc_power.nd rfl (Or.inl rfl)) (pss_one (ps_aug (i := 2) sc_power.nd rfl (Or.inl rfl) (pv 0) ip_mul))) (pss_one (ps_ret (pv 2))))), ?_⟩
  obtain ⟨b, n, rfl, hb, hn, k⟩ := h
  refine ⟨_, rfl, (n : Int), rfl, by omega, by omega, for_range (n := n) (fun i σ H' => ∃ v : Option V, σ = [some (.int b), some (.int (n : Int)), some (.int (powI b i)), v] ∧ H' = H) ⟨none, rfl, rfl⟩ ?_ ?_⟩
  · rintro i σ H' hi ⟨v, rfl, rfl⟩
    refine ⟨_, rfl, _, rfl, _, _, rfl, rfl, .inr hb, ?_⟩
    exact ⟨some (.int (0 + i)), rfl, rfl⟩
  · rintro σ H' ⟨v, rfl, rfl⟩
    exact ⟨_, rfl, k _ (Same.refl _)⟩
end
end Kp
set_option Elab.async false
set_option linter.all false
set_option maxRecDepth 100000
set_option maxHeartbeats 4000000
namespace Kp
open PySem PySem.Spec PyProof.Rows L2
/-! ### chances -/
def spPair (K : PySem.W.Frag) (g : List Int → List Int → Int → List Int) : Sp := fun vs H Q _ => ∃ (a b : Addr) (xs ys : List Int) (z : Int), vs = [.ref a, .ref b, .int z] ∧ SqL K H a (VL xs) ∧ SqL K H b (VL ys) ∧ xs.length = ys.length ∧ 0 < z ∧ z.natAbs < 2 ^ 190 ∧ RetL H Q (g xs ys z)
def isSig (m : Md) (s : Nat) : Prop := s < m.testWeights.length
def hasProb (m : Md) (s : Nat) : Prop := s < m.testWeights.length ∧ at0 (jtp m) s + at0 (jpp m) s ≠ 0
abbrev s_test_share_parts : Stmt := topS 10
theorem sc_test_share_parts : FnScope ["model", "factor", "weight"] ["model"] (defScope s_test_share_parts) := ⟨rfl, rfl, rfl, by decide +kernel, rfl, by decide +kernel, by decide +kernel⟩
abbrev s_production_share_parts : Stmt := topS 11
theorem sc_production_share_parts : FnScope ["model", "factor", "weight"] ["model"] (defScope s_production_share_parts) := ⟨rfl, rfl, rfl, by decide +kernel, rfl, by decide +kernel, by decide +kernel⟩
abbrev s_share_whole : Stmt := topS 12
theorem sc_share_whole : FnScope ["model"] ["model"] (defScope s_share_whole) := ⟨rfl, rfl, rfl, by decide +kernel, rfl, by decide +kernel, by decide +kernel⟩
abbrev s_joint_test_parts : Stmt := topS 13
theorem sc_joint_test_parts : FnScope ["model", "part"] ["model"] (defScope s_joint_test_parts) := ⟨rfl, rfl, rfl, by decide +kernel, rfl, by decide +kernel, by decide +kernel⟩
abbrev s_joint_production_parts : Stmt := topS 14
theorem sc_joint_production_parts : FnScope ["model", "factor", "part"] ["model"] (defScope s_joint_production_parts) := ⟨rfl, rfl, rfl, by decide +kernel, rfl, by decide +kernel, by decide +kernel⟩
abbrev s_joint_whole : Stmt := topS 15
theorem sc_joint_whole : FnScope ["model"] ["model"] (defScope s_joint_whole) := ⟨rfl, rfl, rfl, by decide +kernel, rfl, by decide +kernel, by decide +kernel⟩
abbrev s_probability_part : Stmt := topS 16
theorem sc_probability_part : FnScope ["model", "signal"] ["model", "signal"] (defScope s_probability_part) := ⟨rfl, rfl, rfl, by decide +kernel, rfl, by decide +kernel, by decide +kernel⟩
abbrev s_probability_fraction : Stmt := topS 17
theorem sc_probability_fraction : FnScope ["model", "signal"] ["model", "signal"] (defScope s_probability_fraction) := ⟨rfl, rfl, rfl, by decide +kernel, rfl, by decide +kernel, by decide +kernel⟩
abbrev s_posterior_fraction : Stmt := topS 18
theorem sc_posterior_fraction : FnScope ["model", "signal"] ["model", "signal"] (defScope s_posterior_fraction) := ⟨rfl, rfl, rfl, by decide +kernel, rfl, by decide +kernel, by decide +kernel⟩
abbrev s_half_difference : Stmt := topS 19
theorem sc_half_difference : FnScope ["test_parts", "production_parts", "whole", "total", "test_part", "production_part"] ["test_parts", "production_parts", "whole"] (defScope s_half_difference) := ⟨rfl, rfl, rfl, by decide +kernel, rfl, by decide +kernel, by decide +kernel⟩
abbrev s_greater_sum : Stmt := topS 20
theorem sc_greater_sum : FnScope ["test_parts", "production_parts", "whole", "total", "test_part", "production_part"] ["test_parts", "production_parts", "whole"] (defScope s_greater_sum) := ⟨rfl, rfl, rfl, by decide +kernel, rfl, by decide +kernel, by decide +kernel⟩
abbrev s_variation_fraction : Stmt := topS 21
theorem sc_variation_fraction : FnScope ["model"] ["model"] (defScope s_variation_fraction) := ⟨rfl, rfl, rfl, by decide +kernel, rfl, by decide +kernel, by decide +kernel⟩
abbrev s_accuracy_fraction : Stmt := topS 22
theorem sc_accuracy_fraction : FnScope ["model"] ["model"] (defScope s_accuracy_fraction) := ⟨rfl, rfl, rfl, by decide +kernel, rfl, by decide +kernel, by decide +kernel⟩
abbrev s_blind_fraction : Stmt := topS 23
theorem sc_blind_fraction : FnScope ["model"] ["model"] (defScope s_blind_fraction) := ⟨rfl, rfl, rfl, by decide +kernel, rfl, by decide +kernel, by decide +kernel⟩
abbrev s_likelier_kinds : Stmt := topS 24
theorem sc_likelier_kinds : FnScope ["model", "kinds", "test_part", "production_part"] ["model"] (defScope s_likelier_kinds) := ⟨rfl, rfl, rfl, by decide +kernel, rfl, by decide +kernel, by decide +kernel⟩
/-! bounds -/
theorem mem_le_sum : ∀ {l : List Nat} {x : Nat}, x ∈ l → x ≤ l.sum
  | a :: r, x, h => by
    rw [List.sum_cons]
    rcases List.mem_cons.mp h with e | e
    · omega
    · have := mem_le_sum e
      omega
theorem toI_mem {l : List Nat} {z : Int} (h : z ∈ toI l) : 0 ≤ z ∧ z ≤ (l.sum : Nat) := by
  obtain ⟨x, hx, rfl⟩ := List.mem_map.mp h
  have := mem_le_sum hx
  omega
theorem mul_le_of {a b A B : Int} (h1 : 0 ≤ a) (h2 : a ≤ A) (h3 : 0 ≤ b) (h4 : b ≤ B) : 0 ≤ a * b ∧ a * b ≤ A * B :=
  ⟨Int.mul_nonneg h1 h3, Int.mul_le_mul h2 h4 h3 (by omega)⟩
theorem tsp_mem {m : Md} (k : Ok m) {z : Int} (h : z ∈ tsp m) : 0 ≤ z ∧ z ≤ 245025 := by
  obtain ⟨x, hx, rfl⟩ := List.mem_map.mp h
  have b := toI_mem hx
  exact mul_le_of (A := 495) (B := 495) b.1 (by have := k.s2; omega) (by omega) (by have := k.p2; omega)
theorem psp_mem {m : Md} (k : Ok m) {z : Int} (h : z ∈ psp m) : 0 ≤ z ∧ z ≤ 245025 := by
  obtain ⟨x, hx, rfl⟩ := List.mem_map.mp h
  have b := toI_mem hx
  exact mul_le_of (A := 495) (B := 495) b.1 (by have := k.p2; omega) (by omega) (by have := k.s2; omega)
theorem jtp_mem {m : Md} (k : Ok m) {z : Int} (h : z ∈ jtp m) : 0 ≤ z ∧ z ≤ 24257475 := by
  obtain ⟨x, hx, rfl⟩ := List.mem_map.mp h
  have b := tsp_mem k hx
  exact mul_le_of (A := 99) (B := 245025) (by omega) (by have := k.a; have := k.b2; omega) b.1 b.2
theorem jpp_mem {m : Md} (k : Ok m) {z : Int} (h : z ∈ jpp m) : 0 ≤ z ∧ z ≤ 24257475 := by
  obtain ⟨x, hx, rfl⟩ := List.mem_map.mp h
  have b := psp_mem k hx
  exact mul_le_of (A := 99) (B := 245025) (by have := k.a; omega) (by have := k.a; have := k.b2; omega) b.1 b.2
theorem sw_le {m : Md} (k : Ok m) : 0 < sw m ∧ sw m ≤ 245025 :=
  ⟨sw_pos k, (mul_le_of (A := 495) (B := 495) (by omega) (by have := k.s2; omega) (by omega) (by have := k.p2; omega)).2⟩
theorem jw_le {m : Md} (k : Ok m) : 0 < jw m ∧ jw m ≤ 24257475 :=
  ⟨jw_pos k, (mul_le_of (A := 99) (B := 245025) (by omega) (by have := k.b2; omega) (by have := sw_le k; omega) (sw_le k).2).2⟩
theorem pow_of {z : Int} (h1 : 0 ≤ z) (h2 : z < 2 ^ 150) {n : Nat} (h : 150 ≤ n) : z.natAbs < 2 ^ n := by
  have h3 : z.natAbs < 2 ^ 150 := by omega
  exact Nat.lt_of_lt_of_le h3 (Nat.pow_le_pow_right (by decide) h)
theorem len5 {m : Md} (k : Ok m) {n : Nat} (h : n = m.testWeights.length) : n ≤ 1000000 := by
  have := k.n5
  omega
/-- the item at a place that there is -/
theorem at0_get {l : List Int} {i : Nat} (h : i < l.length) : (VL l)[i]? = some (.int (at0 l i)) := by
  rw [List.getElem?_map]
  unfold at0
  rw [List.getD_eq_getElem?_getD, List.getElem?_eq_getElem h]
  rfl
theorem at0_mem {l : List Int} {i : Nat} (h : i < l.length) : at0 l i ∈ l := by
  unfold at0
  rw [List.getD_eq_getElem?_getD, List.getElem?_eq_getElem h]
  exact List.getElem_mem h
section
variable {P : Program} {w : World} {K : PySem.W.Frag} {mg : Str → Option Value} {base : Heap} {C CI CN CU CO CP : Addr}
theorem ok_test_share_parts (T : Txt K mg C CI CN CU CO CP) (D : Def K mg "test_share_parts" s_test_share_parts ["model"]) : Has P w K mg base CX0 1 "test_share_parts" (spML C tsp) := by
  refine D.ok sc_test_share_parts (fun vs H Q E h => ?_) (fun f cdv A outer s H vs Q E hr h => ?_)
  · obtain ⟨a, m, rfl, _⟩ := h
    rfl
  refine ⟨_, (pss_cons (ps_set (i := 1) sc_test_share_parts.nd rfl (Or.inr rfl) (pe_callB (cr_sum rfl) (by rfl) T.sum (by decide +kernel) (pa_cons (pe_fld (pv 0) rfl) pa_nil))) (pss_one (ps_ret (pe_lc (own := [("weight", 2)]) (g := gName 2) (tt := tYes) rfl sc_test_share_parts.nd (pi_list (pe_fld (pv 0) rfl)) (blkOk_by (N := ["model", "factor", "weight"]) (sc := defScope s_test_share_parts) (by decide +kernel)) (fun _ _ _ _ _ => pg_name (i := 2) sc_test_share_parts.nd rfl (Or.inl rfl)) (fun _ _ _ _ _ => pts_nil) (fun _ _ _ _ _ => by exact (pe_op op_mul (pv 2) (pv 1))))))), ?_⟩
  obtain ⟨a, m, rfl, ⟨dx, pt, pp, h⟩, ok, k⟩ := h
  refine ⟨_, rfl, a, C, dx, _, _, rfl, h.o, T.cl, T.nP, mF_p, pp, toI m.productionWeights, rfl, SqL.of h.p, ?_⟩
  have e := toI_sum m.productionWeights
  have b := ok.p2
  refine ⟨_, rfl, a, C, dx, _, _, rfl, h.o, T.cl, T.nT, mF_t, pt, rfl, ⟨_, SqL.of h.t⟩, fun D hD => lc_nums (f := fun z => z * (toI m.productionWeights).sum) hD (SqL.of h.t) (len5 ok (toI_length _)) (fun z hz H' Q' s1 q => ⟨_, rfl, _, rfl, _, _, rfl, rfl, .inr ⟨by omega, by omega⟩, q⟩) fun H' s1 q => k H' D s1 hD ?_⟩
  rw [q, e]
  rfl
theorem ok_production_share_parts (T : Txt K mg C CI CN CU CO CP) (D : Def K mg "production_share_parts" s_production_share_parts ["model"]) : Has P w K mg base CX0 1 "production_share_parts" (spML C psp) := by
  refine D.ok sc_production_share_parts (fun vs H Q E h => ?_) (fun f cdv A outer s H vs Q E hr h => ?_)
  · obtain ⟨a, m, rfl, _⟩ := h
    rfl
  refine ⟨_, (pss_cons (ps_set (i := 1) sc_production_share_parts.nd rfl (Or.inr rfl) (pe_callB (cr_sum rfl) (by rfl) T.sum (by decide +kernel) (pa_cons (pe_fld (pv 0) rfl) pa_nil))) (pss_one (ps_ret (pe_lc (own := [("weight", 2)]) (g := gName 2) (tt := tYes) rfl sc_production_share_parts.nd (pi_list (pe_fld (pv 0) rfl)) (blkOk_by (N := ["model", "factor", "weight"]) (sc := defScope s_production_share_parts) (by decide +kernel)) (fun _ _ _ _ _ => pg_name (i := 2) sc_production_share_parts.nd rfl (Or.inl rfl)) (fun _ _ _ _ _ => pts_nil) (fun _ _ _ _ _ => by exact (pe_op op_mul (pv 2) (pv 1))))))), ?_⟩
  obtain ⟨a, m, rfl, ⟨dx, pt, pp, h⟩, ok, k⟩ := h
  refine ⟨_, rfl, a, C, dx, _, _, rfl, h.o, T.cl, T.nT, mF_t, pt, toI m.testWeights, rfl, SqL.of h.t, ?_⟩
  have e := toI_sum m.testWeights
  have b := ok.s2
  refine ⟨_, rfl, a, C, dx, _, _, rfl, h.o, T.cl, T.nP, mF_p, pp, rfl, ⟨_, SqL.of h.p⟩, fun D hD => lc_nums (f := fun z => z * (toI m.testWeights).sum) hD (SqL.of h.p) (len5 ok ((toI_length _).trans ok.len)) (fun z hz H' Q' s1 q => ⟨_, rfl, _, rfl, _, _, rfl, rfl, .inr ⟨by omega, by omega⟩, q⟩) fun H' s1 q => k H' D s1 hD ?_⟩
  rw [q, e]
  rfl
theorem ok_share_whole (T : Txt K mg C CI CN CU CO CP) (D : Def K mg "share_whole" s_share_whole ["model"]) : Has P w K mg base CX0 1 "share_whole" (spMI C sw) := by
  refine D.ok sc_share_whole (fun vs H Q E h => ?_) (fun f cdv A outer s H vs Q E hr h => ?_)
  · obtain ⟨a, m, rfl, _⟩ := h
    rfl
  refine ⟨_, (pss_one (ps_ret (pe_op op_mul (pe_callB (cr_sum rfl) (by rfl) T.sum (by decide +kernel) (pa_cons (pe_fld (pv 0) rfl) pa_nil)) (pe_callB (cr_sum rfl) (by rfl) T.sum (by decide +kernel) (pa_cons (pe_fld (pv 0) rfl) pa_nil))))), ?_⟩
  obtain ⟨a, m, rfl, ⟨dx, pt, pp, h⟩, ok, k⟩ := h
  have e1 := toI_sum m.testWeights
  have e2 := toI_sum m.productionWeights
  have b := ok.s2
  have q := k H (Same.refl H)
  unfold sw at q
  rw [← e1, ← e2] at q
  exact ⟨_, rfl, a, C, dx, _, _, rfl, h.o, T.cl, T.nT, mF_t, pt, toI m.testWeights, rfl, SqL.of h.t, _, rfl, a, C, dx, _, _, rfl, h.o, T.cl, T.nP, mF_p, pp, toI m.productionWeights, rfl, SqL.of h.p, _, _, rfl, rfl, .inl ⟨by omega, by omega⟩, q⟩
theorem ok_joint_test_parts (T : Txt K mg C CI CN CU CO CP) (h_test_share_parts : Has P w K mg base CX0 1 "test_share_parts" (spML C tsp)) (D : Def K mg "joint_test_parts" s_joint_test_parts ["model"]) : Has P w K mg base CX0 2 "joint_test_parts" (spML C jtp) := by
  refine D.ok sc_joint_test_parts (fun vs H Q E h => ?_) (fun f cdv A outer s H vs Q E hr h => ?_)
  · obtain ⟨a, m, rfl, _⟩ := h
    rfl
  refine ⟨_, (pss_one (ps_ret (pe_lc (te := tOp (rI CMul fun i j => .int (i * j)) (tFld K (tVar 0) "prior_num") (tVar 1)) (own := [("part", 1)]) (g := gName 1) (tt := tYes) rfl sc_joint_test_parts.nd (pi_list (pe_h h_test_share_parts hr (by decide) rfl pass0 (pa_cons (pv 0) pa_nil))) (blkOk_by (N := ["model", "part"]) (sc := defScope s_joint_test_parts) (by decide +kernel)) (fun _ _ _ _ _ => pg_name (i := 1) sc_joint_test_parts.nd rfl (Or.inl rfl)) (fun _ _ _ _ _ => pts_nil) (fun _ _ _ _ _ => by exact (pe_op op_mul (pe_fld (pv 0) rfl) (pv 1)))))), ?_⟩
  obtain ⟨a, m, rfl, hm, ok, k⟩ := h
  have b := ok.a
  have b2 := ok.b2
  refine ⟨_, rfl, a, m, rfl, hm, ok, fun H1 p s1 n1 e1 => ⟨p, rfl, ⟨_, SqL.of e1⟩, fun D hD => lc_nums (f := fun z => (m.priorNum : Int) * z) hD (SqL.of e1) (len5 ok (tsp_length m)) (fun z hz H' Q' s2 q => ?_) fun H' s2 q => k H' D (s1.trans s2) (s1.free hD) q⟩⟩
  obtain ⟨dx, pt, pp, h⟩ := hm.same (s1.trans s2)
  exact ⟨_, rfl, a, C, dx, _, _, rfl, h.o, T.cl, T.nA, mF_a, _, rfl, _, _, rfl, rfl, .inl ⟨by omega, by omega⟩, q⟩
theorem ok_joint_production_parts (T : Txt K mg C CI CN CU CO CP) (h_production_share_parts : Has P w K mg base CX0 1 "production_share_parts" (spML C psp)) (D : Def K mg "joint_production_parts" s_joint_production_parts ["model"]) : Has P w K mg base CX0 2 "joint_production_parts" (spML C jpp) := by
  refine D.ok sc_joint_production_parts (fun vs H Q E h => ?_) (fun f cdv A outer s H vs Q E hr h => ?_)
  · obtain ⟨a, m, rfl, _⟩ := h
    rfl
  refine ⟨_, (pss_cons (ps_set (i := 1) sc_joint_production_parts.nd rfl (Or.inr rfl) (pe_op op_sub (pe_fld (pv 0) rfl) (pe_fld (pv 0) rfl))) (pss_one (ps_ret (pe_lc (own := [("part", 2)]) (g := gName 2) (tt := tYes) rfl sc_joint_production_parts.nd (pi_list (pe_h h_production_share_parts hr (by decide) rfl pass0 (pa_cons (pv 0) pa_nil))) (blkOk_by (N := ["model", "factor", "part"]) (sc := defScope s_joint_production_parts) (by decide +kernel)) (fun _ _ _ _ _ => pg_name (i := 2) sc_joint_production_parts.nd rfl (Or.inl rfl)) (fun _ _ _ _ _ => pts_nil) (fun _ _ _ _ _ => by exact (pe_op op_mul (pv 1) (pv 2))))))), ?_⟩
  obtain ⟨a, m, rfl, hm, ok, k⟩ := h
  have b := ok.a
  have b2 := ok.b2
  obtain ⟨dx, pt, pp, h⟩ := id hm
  refine ⟨_, rfl, a, C, dx, _, _, rfl, h.o, T.cl, T.nB, mF_b, _, rfl, a, C, dx, _, _, rfl, h.o, T.cl, T.nA, mF_a, _, _, rfl, rfl, ?_⟩
  refine ⟨_, rfl, a, m, rfl, hm, ok, fun H1 p s1 n1 e1 => ⟨p, rfl, ⟨_, SqL.of e1⟩, fun D hD => lc_nums (f := fun z => ((m.priorDen : Int) - (m.priorNum : Int)) * z) hD (SqL.of e1) (len5 ok ((psp_length m).trans ok.len)) (fun z hz H' Q' s2 q => ?_) fun H' s2 q => k H' D (s1.trans s2) (s1.free hD) q⟩⟩
  exact ⟨_, rfl, _, rfl, _, _, rfl, rfl, .inl ⟨by omega, by omega⟩, q⟩
theorem ok_joint_whole (T : Txt K mg C CI CN CU CO CP) (h_share_whole : Has P w K mg base CX0 1 "share_whole" (spMI C sw)) (D : Def K mg "joint_whole" s_joint_whole ["model"]) : Has P w K mg base CX0 2 "joint_whole" (spMI C jw) := by
  refine D.ok sc_joint_whole (fun vs H Q E h => ?_) (fun f cdv A outer s H vs Q E hr h => ?_)
  · obtain ⟨a, m, rfl, _⟩ := h
    rfl
  refine ⟨_, (pss_one (ps_ret (pe_op op_mul (pe_fld (pv 0) rfl) (pe_h h_share_whole hr (by decide) rfl pass0 (pa_cons (pv 0) pa_nil))))), ?_⟩
  obtain ⟨a, m, rfl, hm, ok, k⟩ := h
  have b2 := ok.b2
  obtain ⟨dx, pt, pp, h⟩ := id hm
  exact ⟨_, rfl, a, C, dx, _, _, rfl, h.o, T.cl, T.nB, mF_b, _, rfl, a, m, rfl, hm, ok, fun H1 s1 => ⟨_, _, rfl, rfl, .inl ⟨by omega, by omega⟩, k H1 s1⟩⟩
theorem ok_probability_part (T : Txt K mg C CI CN CU CO CP) (h_joint_test_parts : Has P w K mg base CX0 2 "joint_test_parts" (spML C jtp)) (h_joint_production_parts : Has P w K mg base CX0 2 "joint_production_parts" (spML C jpp)) (D : Def K mg "probability_part" s_probability_part ["model", "signal"]) :
    Has P w K mg base CX0 3 "probability_part" (spMnI C isSig fun m s => at0 (jtp m) s + at0 (jpp m) s) := by
  refine D.ok sc_probability_part (fun vs H Q E h => ?_) (fun f cdv A outer s H vs Q E hr h => ?_)
  · obtain ⟨a, m, n, rfl, _⟩ := h
    rfl
  refine ⟨_, (pss_one (ps_ret (pe_op op_add (pe_ix ix_list (pe_h h_joint_test_parts hr (by decide) rfl pass0 (pa_cons (pv 0) pa_nil)) (pv 1) (fun _ _ => rfl)) (pe_ix ix_list (pe_h h_joint_production_parts hr (by decide) rfl pass0 (pa_cons (pv 0) pa_nil)) (pv 1) (fun _ _ => rfl))))), ?_⟩
  obtain ⟨a, m, n, rfl, hm, ok, hn, k⟩ := h
  have hn' : n < m.testWeights.length := hn
  refine ⟨_, rfl, a, m, rfl, hm, ok, fun H1 p s1 n1 e1 => ⟨_, rfl, p, _, _, _, rfl, rfl, SqL.of e1, atI_nat (at0_get (by rw [jtp_length]; exact hn')), ?_⟩⟩
  refine ⟨_, rfl, a, m, rfl, hm.same s1, ok, fun H2 p2 s2 n2 e2 => ⟨_, rfl, p2, _, _, _, rfl, rfl, SqL.of e2, atI_nat (at0_get (by rw [jpp_length, ok.len]; exact hn')), ?_⟩⟩
  exact ⟨_, _, rfl, rfl, k H2 (s1.trans s2)⟩
theorem ok_probability_fraction (T : Txt K mg C CI CN CU CO CP) (h_lowest_terms : Has P w K mg base CX0 2 "lowest_terms" spLow) (h_joint_whole : Has P w K mg base CX0 2 "joint_whole" (spMI C jw)) (h_probability_part : Has P w K mg base CX0 3 "probability_part" (spMnI C isSig fun m s => at0 (jtp m) s + at0 (jpp m) s)) (D : Def K mg "probability_fraction" s_probability_fraction ["model", "signal"]) :
    Has P w K mg base CX0 4 "probability_fraction" (spMnL C isSig fun m s => Kp415.fraction (Kp415.signalProbability m s)) := by
  refine D.ok sc_probability_fraction (fun vs H Q E h => ?_) (fun f cdv A outer s H vs Q E hr h => ?_)
  · obtain ⟨a, m, n, rfl, _⟩ := h
    rfl
  refine ⟨_, (pss_one (ps_ret (pe_h h_lowest_terms hr (by decide) rfl pass0 (pa_cons (pe_h h_probability_part hr (by decide) rfl pass0 (pa_cons (pv 0) (pa_cons (pv 1) pa_nil))) (pa_cons (pe_h h_joint_whole hr (by decide) rfl pass0 (pa_cons (pv 0) pa_nil)) pa_nil))))), ?_⟩
  obtain ⟨a, m, n, rfl, hm, ok, hn, k⟩ := h
  have b := jw_le ok
  refine ⟨_, rfl, _, rfl, a, m, n, rfl, hm, ok, hn, fun H1 s1 => ?_⟩
  refine ⟨_, rfl, a, m, rfl, hm.same s1, ok, fun H2 s2 => ?_⟩
  exact ⟨_, _, rfl, b.1, pow_of (by omega) (by omega) (by omega), fun H3 p s3 n3 e3 => (k.is (probf_is ok n)) H3 p ((s1.trans s2).trans s3) ((s1.trans s2).free n3) e3⟩
theorem ok_posterior_fraction (T : Txt K mg C CI CN CU CO CP) (h_lowest_terms : Has P w K mg base CX0 2 "lowest_terms" spLow) (h_joint_test_parts : Has P w K mg base CX0 2 "joint_test_parts" (spML C jtp)) (h_probability_part : Has P w K mg base CX0 3 "probability_part" (spMnI C isSig fun m s => at0 (jtp m) s + at0 (jpp m) s)) (D : Def K mg "posterior_fraction" s_posterior_fraction ["model", "signal"]) :
    Has P w K mg base CX0 4 "posterior_fraction" (spMnL C hasProb fun m s => Kp415.fraction (Kp415.posteriorTest m s)) := by
  refine D.ok sc_posterior_fraction (fun vs H Q E h => ?_) (fun f cdv A outer s H vs Q E hr h => ?_)
  · obtain ⟨a, m, n, rfl, _⟩ := h
    rfl
  refine ⟨_, (pss_one (ps_ret (pe_h h_lowest_terms hr (by decide) rfl pass0 (pa_cons (pe_ix ix_list (pe_h h_joint_test_parts hr (by decide) rfl pass0 (pa_cons (pv 0) pa_nil)) (pv 1) (fun _ _ => rfl)) (pa_cons (pe_h h_probability_part hr (by decide) rfl pass0 (pa_cons (pv 0) (pa_cons (pv 1) pa_nil))) pa_nil))))), ?_⟩
  obtain ⟨a, m, n, rfl, hm, ok, ⟨hn, h0⟩, k⟩ := h
  have l1 : n < (jtp m).length := by rw [jtp_length]; exact hn
  have l2 : n < (jpp m).length := by rw [jpp_length, ok.len]; exact hn
  have b1 := jtp_mem ok (at0_mem l1)
  have b2 := jpp_mem ok (at0_mem l2)
  refine ⟨_, rfl, a, m, rfl, hm, ok, fun H1 p s1 n1 e1 => ⟨_, rfl, p, _, _, _, rfl, rfl, SqL.of e1, atI_nat (at0_get l1), ?_⟩⟩
  refine ⟨_, rfl, _, rfl, a, m, n, rfl, hm.same s1, ok, hn, fun H2 s2 => ?_⟩
  have q0 : 0 < at0 (jtp m) n + at0 (jpp m) n := by omega
  have q1 : (at0 (jtp m) n + at0 (jpp m) n).natAbs < 2 ^ 200 := pow_of (by omega) (by omega) (by omega)
  exact ⟨_, _, rfl, q0, q1, fun H3 p s3 n3 e3 => (k.is (posterior_is ok n h0)) H3 p ((s1.trans s2).trans s3) ((s1.trans s2).free n3) e3⟩
end
end Kp
set_option Elab.async false
set_option linter.all false
set_option maxRecDepth 100000
set_option maxHeartbeats 4000000
namespace Kp
open PySem PySem.Spec PyProof.Rows L2
theorem VL_get {l : List Int} {i : Nat} {x : V} (h : (VL l)[i]? = some x) : ∃ z, l[i]? = some z ∧ x = .int z := by
  rw [List.getElem?_map] at h
  cases q : l[i]? with
  | none =>
    rw [q] at h
    cases h
  | some z =>
    rw [q] at h
    exact ⟨z, rfl, (Option.some.inj h).symm⟩
theorem zip_get {xs ys : List Int} {i : Nat} {x y : Int} (h1 : xs[i]? = some x) (h2 : ys[i]? = some y) : (xs.zip ys)[i]? = some (x, y) := by
  rw [List.getElem?_zip_eq_some]
  exact ⟨h1, h2⟩
theorem map_get {α β : Type} {f : α → β} {l : List α} {i : Nat} {x : α} (h : l[i]? = some x) : (l.map f)[i]? = some (f x) := by
  rw [List.getElem?_map, h]
  rfl
theorem take_get {α : Type} {l : List α} {i : Nat} {x : α} (h : l[i]? = some x) : l.take (i + 1) = l.take i ++ [x] := by
  rw [List.take_add_one, h]
  rfl
/-- the sum so far of a walk over two lists -/
def zUp (f : Int × Int → Int) (xs ys : List Int) (i : Nat) : Int := (((xs.zip ys).map f).take i).sum
theorem zUp_succ {f : Int × Int → Int} {xs ys : List Int} {i : Nat} {x y : Int} (h1 : xs[i]? = some x) (h2 : ys[i]? = some y) : zUp f xs ys (i + 1) = zUp f xs ys i + f (x, y) :=
  sum_take (map_get (zip_get h1 h2))
theorem zUp_end {f : Int × Int → Int} {xs ys : List Int} (h : xs.length = ys.length) : zUp f xs ys xs.length = ((xs.zip ys).map f).sum := by
  unfold zUp
  rw [List.take_of_length_le (by rw [List.length_map, List.length_zip]; omega)]
section
variable {P : Program} {w : World} {K : PySem.W.Frag} {mg : Str → Option Value} {base : Heap} {C CI CN CU CO CP : Addr}
theorem ok_half_difference (T : Txt K mg C CI CN CU CO CP) (h_lowest_terms : Has P w K mg base CX0 2 "lowest_terms" spLow) (D : Def K mg "half_difference" s_half_difference ["test_parts", "production_parts", "whole"]) :
    Has P w K mg base CX0 3 "half_difference" (spPair K fun xs ys z => frac (hdiff xs ys) (2 * z)) := by
  refine D.ok sc_half_difference (fun vs H Q E h => ?_) (fun f cdv A outer s H vs Q E hr h => ?_)
  · obtain ⟨a, b, xs, ys, z, rfl, _⟩ := h
    rfl
  refine ⟨_, (pss_cons (ps_set (i := 3) sc_half_difference.nd rfl (Or.inl rfl) pe_int) (pss_cons (ps_for PassesOwn.never rfl (pi_zip (by rfl) T.zip (pa_cons (pv 0) (pa_cons (pv 1) pa_nil))) (pg_tup rfl (pgs_cons (pg_name (i := 4) sc_half_difference.nd rfl (Or.inl rfl)) (pgs_cons (pg_name (i := 5) sc_half_difference.nd rfl (Or.inl rfl)) pgs_nil))) (pss_one (ps_aug (i := 3) sc_half_difference.nd rfl (Or.inl rfl) (pe_callB call_abs (by rfl) T.abs (by decide +kernel) (pa_cons (pe_op op_sub (pv 4) (pv 5)) pa_nil)) ip_add))) (pss_one (ps_ret (pe_h h_lowest_terms hr (by decide) rfl pass0 (pa_cons (pv 3) (pa_cons (pe_op op_mul pe_int (pv 2)) pa_nil))))))), ?_⟩
  obtain ⟨a, b, xs, ys, z, rfl, hx, hy, hl, hz, hz2, k⟩ := h
  refine ⟨_, rfl, _, rfl, a, b, VL xs, VL ys, rfl, hx, hy, RZ.for_zipL (by rw [List.length_map, List.length_map, hl]) (fun i σ H' => ∃ v u : Option V, σ = [some (.ref a), some (.ref b), some (.int z), some (.int (zUp (fun p => absI (p.1 - p.2)) xs ys i)), v, u] ∧ Same H H')
    ⟨none, none, rfl, Same.refl H⟩ (fun i σ H' ⟨_, _, _, s1⟩ => ⟨s1.seq hx, s1.seq hy⟩) ?_ ?_⟩
  · rintro i x y t σ H' ix iy ⟨v, u, rfl, s1⟩ ht
    obtain ⟨x, jx, rfl⟩ := VL_get ix
    obtain ⟨y, jy, rfl⟩ := VL_get iy
    refine ⟨t, _, rfl, SqT.of upd_same, rfl, _, _, rfl, _, _, rfl, rfl, ?_⟩
    refine ⟨_, rfl, _, rfl, _, rfl, _, _, rfl, rfl, _, rfl, _, _, rfl, rfl, ?_⟩
    refine ⟨some (.int x), some (.int y), ?_, s1.trans (Same.new ht)⟩
    rw [zUp_succ jx jy]
    rfl
  · rintro σ H' ⟨v, u, rfl, s1⟩
    refine ⟨_, rfl, _, rfl, _, _, rfl, rfl, .inl ⟨by omega, by omega⟩, ?_⟩
    refine ⟨_, _, rfl, by omega, ?_, fun H2 p s2 n2 e2 => k H2 p (s1.trans s2) (s1.free n2) ?_⟩
    · have e : (2 * z).natAbs = 2 * z.natAbs := by omega
      rw [e]
      exact Nat.lt_of_lt_of_le (Nat.mul_lt_mul_of_pos_left hz2 (by decide)) (by decide)
    · rw [e2]
      show _ = some (HO.lst (VL (frac (hdiff xs ys) (2 * z))))
      rw [List.length_map, zUp_end hl]
      rfl
theorem ok_greater_sum (T : Txt K mg C CI CN CU CO CP) (h_lowest_terms : Has P w K mg base CX0 2 "lowest_terms" spLow) (D : Def K mg "greater_sum" s_greater_sum ["test_parts", "production_parts", "whole"]) :
    Has P w K mg base CX0 3 "greater_sum" (spPair K fun xs ys z => frac (gsum xs ys) z) := by
  refine D.ok sc_greater_sum (fun vs H Q E h => ?_) (fun f cdv A outer s H vs Q E hr h => ?_)
  · obtain ⟨a, b, xs, ys, z, rfl, _⟩ := h
    rfl
  refine ⟨_, (pss_cons (ps_set (i := 3) sc_greater_sum.nd rfl (Or.inl rfl) pe_int) (pss_cons (ps_for PassesOwn.never rfl (pi_zip (by rfl) T.zip (pa_cons (pv 0) (pa_cons (pv 1) pa_nil))) (pg_tup rfl (pgs_cons (pg_name (i := 4) sc_greater_sum.nd rfl (Or.inl rfl)) (pgs_cons (pg_name (i := 5) sc_greater_sum.nd rfl (Or.inl rfl)) pgs_nil))) (pss_one (ps_aug (i := 3) sc_greater_sum.nd rfl (Or.inl rfl) (pe_callB (call_max2 rfl) (by rfl) T.max (by decide +kernel) (pa_cons (pv 4) (pa_cons (pv 5) pa_nil))) ip_add))) (pss_one (ps_ret (pe_h h_lowest_terms hr (by decide) rfl pass0 (pa_cons (pv 3) (pa_cons (pv 2) pa_nil))))))), ?_⟩
  obtain ⟨a, b, xs, ys, z, rfl, hx, hy, hl, hz, hz2, k⟩ := h
  refine ⟨_, rfl, _, rfl, a, b, VL xs, VL ys, rfl, hx, hy, RZ.for_zipL (by rw [List.length_map, List.length_map, hl]) (fun i σ H' => ∃ v u : Option V, σ = [some (.ref a), some (.ref b), some (.int z), some (.int (zUp (fun p => maxI p.1 p.2) xs ys i)), v, u] ∧ Same H H')
    ⟨none, none, rfl, Same.refl H⟩ (fun i σ H' ⟨_, _, _, s1⟩ => ⟨s1.seq hx, s1.seq hy⟩) ?_ ?_⟩
  · rintro i x y t σ H' ix iy ⟨v, u, rfl, s1⟩ ht
    obtain ⟨x, jx, rfl⟩ := VL_get ix
    obtain ⟨y, jy, rfl⟩ := VL_get iy
    refine ⟨t, _, rfl, SqT.of upd_same, rfl, _, _, rfl, _, _, rfl, rfl, ?_⟩
    refine ⟨_, rfl, _, rfl, _, rfl, _, _, rfl, _, _, rfl, rfl, ?_⟩
    refine ⟨some (.int x), some (.int y), ?_, s1.trans (Same.new ht)⟩
    rw [zUp_succ jx jy]
    rfl
  · rintro σ H' ⟨v, u, rfl, s1⟩
    refine ⟨_, rfl, _, rfl, _, _, rfl, hz, Nat.lt_of_lt_of_le hz2 (by decide), fun H2 p s2 n2 e2 => k H2 p (s1.trans s2) (s1.free n2) ?_⟩
    rw [e2]
    show _ = some (HO.lst (VL (frac (gsum xs ys) z)))
    rw [List.length_map, zUp_end hl]
    rfl
theorem ok_variation_fraction (T : Txt K mg C CI CN CU CO CP) (h_half_difference : Has P w K mg base CX0 3 "half_difference" (spPair K fun xs ys z => frac (hdiff xs ys) (2 * z))) (h_test_share_parts : Has P w K mg base CX0 1 "test_share_parts" (spML C tsp)) (h_production_share_parts : Has P w K mg base CX0 1 "production_share_parts" (spML C psp)) (h_share_whole : Has P w K mg base CX0 1 "share_whole" (spMI C sw))
    (D : Def K mg "variation_fraction" s_variation_fraction ["model"]) : Has P w K mg base CX0 4 "variation_fraction" (spML C fun m => Kp415.fraction (Kp415.totalVariation m)) := by
  refine D.ok sc_variation_fraction (fun vs H Q E h => ?_) (fun f cdv A outer s H vs Q E hr h => ?_)
  · obtain ⟨a, m, rfl, _⟩ := h
    rfl
  refine ⟨_, (pss_one (ps_ret (pe_h h_half_difference hr (by decide) rfl pass0 (pa_cons (pe_h h_test_share_parts hr (by decide) rfl pass0 (pa_cons (pv 0) pa_nil)) (pa_cons (pe_h h_production_share_parts hr (by decide) rfl pass0 (pa_cons (pv 0) pa_nil)) (pa_cons (pe_h h_share_whole hr (by decide) rfl pass0 (pa_cons (pv 0) pa_nil)) pa_nil)))))), ?_⟩
  obtain ⟨a, m, rfl, hm, ok, k⟩ := h
  have b := sw_le ok
  refine ⟨_, rfl, a, m, rfl, hm, ok, fun H1 p1 s1 n1 e1 => ?_⟩
  refine ⟨_, rfl, a, m, rfl, hm.same s1, ok, fun H2 p2 s2 n2 e2 => ?_⟩
  refine ⟨_, rfl, a, m, rfl, hm.same (s1.trans s2), ok, fun H3 s3 => ?_⟩
  exact ⟨p1, p2, tsp m, psp m, sw m, rfl, SqL.of (s3 _ _ (s2 _ _ e1)), SqL.of (s3 _ _ e2), by rw [tsp_length, psp_length, ok.len], b.1, pow_of (by omega) (by omega) (by omega),
    fun H4 p s4 n4 e4 => (k.is (variation_is ok)) H4 p ((s1.trans s2).trans (s3.trans s4)) ((s1.trans (s2.trans s3)).free n4) e4⟩
theorem ok_accuracy_fraction (T : Txt K mg C CI CN CU CO CP) (h_greater_sum : Has P w K mg base CX0 3 "greater_sum" (spPair K fun xs ys z => frac (gsum xs ys) z)) (h_joint_test_parts : Has P w K mg base CX0 2 "joint_test_parts" (spML C jtp)) (h_joint_production_parts : Has P w K mg base CX0 2 "joint_production_parts" (spML C jpp)) (h_joint_whole : Has P w K mg base CX0 2 "joint_whole" (spMI C jw))
    (D : Def K mg "accuracy_fraction" s_accuracy_fraction ["model"]) : Has P w K mg base CX0 4 "accuracy_fraction" (spML C fun m => Kp415.fraction (Kp415.bestAccuracy m)) := by
  refine D.ok sc_accuracy_fraction (fun vs H Q E h => ?_) (fun f cdv A outer s H vs Q E hr h => ?_)
  · obtain ⟨a, m, rfl, _⟩ := h
    rfl
  refine ⟨_, (pss_one (ps_ret (pe_h h_greater_sum hr (by decide) rfl pass0 (pa_cons (pe_h h_joint_test_parts hr (by decide) rfl pass0 (pa_cons (pv 0) pa_nil)) (pa_cons (pe_h h_joint_production_parts hr (by decide) rfl pass0 (pa_cons (pv 0) pa_nil)) (pa_cons (pe_h h_joint_whole hr (by decide) rfl pass0 (pa_cons (pv 0) pa_nil)) pa_nil)))))), ?_⟩
  obtain ⟨a, m, rfl, hm, ok, k⟩ := h
  have b := jw_le ok
  refine ⟨_, rfl, a, m, rfl, hm, ok, fun H1 p1 s1 n1 e1 => ?_⟩
  refine ⟨_, rfl, a, m, rfl, hm.same s1, ok, fun H2 p2 s2 n2 e2 => ?_⟩
  refine ⟨_, rfl, a, m, rfl, hm.same (s1.trans s2), ok, fun H3 s3 => ?_⟩
  exact ⟨p1, p2, jtp m, jpp m, jw m, rfl, SqL.of (s3 _ _ (s2 _ _ e1)), SqL.of (s3 _ _ e2), by rw [jtp_length, jpp_length, ok.len], b.1, pow_of (by omega) (by omega) (by omega),
    fun H4 p s4 n4 e4 => (k.is (accuracy_is ok)) H4 p ((s1.trans s2).trans (s3.trans s4)) ((s1.trans (s2.trans s3)).free n4) e4⟩
theorem ok_blind_fraction (T : Txt K mg C CI CN CU CO CP) (h_lowest_terms : Has P w K mg base CX0 2 "lowest_terms" spLow) (D : Def K mg "blind_fraction" s_blind_fraction ["model"]) : Has P w K mg base CX0 3 "blind_fraction" (spML C fun m => Kp415.fraction (Kp415.blindAccuracy m)) := by
  refine D.ok sc_blind_fraction (fun vs H Q E h => ?_) (fun f cdv A outer s H vs Q E hr h => ?_)
  · obtain ⟨a, m, rfl, _⟩ := h
    rfl
  refine ⟨_, (pss_one (ps_ret (pe_h h_lowest_terms hr (by decide) rfl pass0 (pa_cons (pe_callB (call_max2 rfl) (by rfl) T.max (by decide +kernel) (pa_cons (pe_fld (pv 0) rfl) (pa_cons (pe_op op_sub (pe_fld (pv 0) rfl) (pe_fld (pv 0) rfl)) pa_nil))) (pa_cons (pe_fld (pv 0) rfl) pa_nil))))), ?_⟩
  obtain ⟨a, m, rfl, hm, ok, k⟩ := h
  have b1 := ok.b1
  have b2 := ok.b2
  obtain ⟨dx, pt, pp, h⟩ := id hm
  refine ⟨_, rfl, a, C, dx, _, _, rfl, h.o, T.cl, T.nA, mF_a, _, rfl, a, C, dx, _, _, rfl, h.o, T.cl, T.nB, mF_b, _, rfl, a, C, dx, _, _, rfl, h.o, T.cl, T.nA, mF_a, _, _, rfl, rfl, _, _, rfl, ?_⟩
  refine ⟨_, rfl, a, C, dx, _, _, rfl, h.o, T.cl, T.nB, mF_b, _, _, rfl, by omega, pow_of (by omega) (by omega) (by omega), fun H1 p s1 n1 e1 => (k.is (blind_is ok)) H1 p s1 n1 e1⟩
theorem ok_likelier_kinds (T : Txt K mg C CI CN CU CO CP) (h_joint_test_parts : Has P w K mg base CX0 2 "joint_test_parts" (spML C jtp)) (h_joint_production_parts : Has P w K mg base CX0 2 "joint_production_parts" (spML C jpp)) (D : Def K mg "likelier_kinds" s_likelier_kinds ["model"]) :
    Has P w K mg base CX0 3 "likelier_kinds" (spML C kinds) := by
  refine D.ok sc_likelier_kinds (fun vs H Q E h => ?_) (fun f cdv A outer s H vs Q E hr h => ?_)
  · obtain ⟨a, m, rfl, _⟩ := h
    rfl
  refine ⟨_, (pss_cons (ps_set (i := 1) sc_likelier_kinds.nd rfl (Or.inl rfl) (pe_lst pa_nil)) (pss_cons (ps_for PassesOwn.never rfl (pi_zip (by rfl) T.zip (pa_cons (pe_h h_joint_test_parts hr (by decide) rfl pass0 (pa_cons (pv 0) pa_nil)) (pa_cons (pe_h h_joint_production_parts hr (by decide) rfl pass0 (pa_cons (pv 0) pa_nil)) pa_nil))) (pg_tup rfl (pgs_cons (pg_name (i := 2) sc_likelier_kinds.nd rfl (Or.inl rfl)) (pgs_cons (pg_name (i := 3) sc_likelier_kinds.nd rfl (Or.inl rfl)) pgs_nil))) (pss_one (ps_expr (pe_bm PySem.F.plainAttrs_list PySem.F.slot_list_append PySem.F.type_list_append mt_append (pv 1) (pa_cons (pe_ifExp (pt_cmpR op_lt (pv 2) (pv 3) (nomark _)) pe_int pe_int) pa_nil))))) (pss_one (ps_ret (pv 1))))), ?_⟩
  obtain ⟨a, m, rfl, hm, ok, k⟩ := h
  have l1 := jtp_length m
  have l2 : (jpp m).length = m.testWeights.length := (jpp_length m).trans ok.len
  have n5 := ok.n5
  refine ⟨(by show 0 ≤ sizeLine; decide), fun d hd => ?_⟩
  have s0 : Same H (upd H d (.lst [])) := Same.new hd
  refine ⟨_, rfl, a, m, rfl, hm.same s0, ok, fun H1 p1 s1 n1 e1 => ?_⟩
  refine ⟨_, rfl, a, m, rfl, hm.same (s0.trans s1), ok, fun H2 p2 s2 n2 e2 => ?_⟩
  have d2 : H2 d = some (.lst []) := s2 _ _ (s1 _ _ upd_same)
  have q1 : p1 ≠ d := fun z => by
    rw [z, upd_same] at n1
    cases n1
  have q2 : p2 ≠ d := fun z => by
    rw [z, s1 _ _ upd_same] at n2
    cases n2
  refine ⟨p1, p2, VL (jtp m), VL (jpp m), rfl, SqL.of (s2 _ _ e1), SqL.of e2, RZ.for_zipL (by rw [List.length_map, List.length_map, l1, l2]) (fun i σ H' => ∃ v u : Option V, σ = [some (.ref a), some (.ref d), v, u] ∧ Else d H2 H' ∧ H' d = some (.lst (VL ((kinds m).take i))))
    ⟨none, none, rfl, Same.els (Same.refl _), d2⟩ (fun i σ H' ⟨_, _, _, f1, _⟩ => ⟨SqL.of (f1 _ _ (s2 _ _ e1) q1), SqL.of (f1 _ _ e2 q2)⟩) ?_ ?_⟩
  · rintro i x y t σ H' ix iy ⟨v, u, rfl, f1, d3⟩ ht
    obtain ⟨x, jx, rfl⟩ := VL_get ix
    obtain ⟨y, jy, rfl⟩ := VL_get iy
    have hi : (kinds m)[i]? = some (if x < y then 0 else 1) := map_get (f := fun p : Int × Int => if p.1 < p.2 then (0 : Int) else 1) (zip_get jx jy)
    have td : d ≠ t := fun z => by
      rw [← z, d3] at ht
      cases ht
    have go : ∀ z : Int, (if x < y then 0 else 1) = z → ∃ v' u' : Option V, [some (V.ref a), some (V.ref d), some (V.int x), some (V.int y)] = [some (V.ref a), some (V.ref d), v', u'] ∧ Else d H2 (upd (upd H' t (.tup [V.int x, V.int y])) d (.lst (VL ((kinds m).take i) ++ [V.int z]))) ∧
        (upd (upd H' t (.tup [V.int x, V.int y])) d (.lst (VL ((kinds m).take i) ++ [V.int z]))) d = some (.lst (VL ((kinds m).take (i + 1)))) := fun z hz => by
      refine ⟨some (.int x), some (.int y), rfl, f1.trans ((Same.els (Same.new ht)).trans Else.upd), ?_⟩
      rw [upd_same, take_get hi, hz]
      simp
    have dd : (upd H' t (.tup [V.int x, V.int y])) d = some (.lst (VL ((kinds m).take i))) := by
      rw [upd_ne td]
      exact d3
    have sz : (VL ((kinds m).take i)).length < sizeLine := by
      rw [List.length_map, List.length_take]
      refine Nat.lt_of_le_of_lt (m := 5) ?_ (by decide)
      have : (kinds m).length = min (jtp m).length (jpp m).length := by
        unfold kinds
        rw [List.length_map, List.length_zip]
      omega
    refine ⟨t, _, rfl, SqT.of upd_same, rfl, _, _, rfl, _, _, rfl, rfl, ?_⟩
    refine ⟨_, rfl, .inl ⟨rfl, _, SqL.of dd⟩, _, rfl, _, rfl, _, _, rfl, rfl, _, rfl, ?_⟩
    by_cases c : x < y
    · exact ifY (decide_eq_true c) ⟨d, _, _, rfl, rfl, dd, sz, go 0 (if_pos c)⟩
    · exact ifN (decide_eq_false c) ⟨d, _, _, rfl, rfl, dd, sz, go 1 (if_neg c)⟩
  · rintro σ H' ⟨v, u, rfl, f1, d3⟩
    refine ⟨_, rfl, k H' d (fun b o q => f1 b o (s2 _ _ (s1 _ _ (s0 _ _ q))) (ne_of_none q hd)) hd ?_⟩
    have e : (VL (jtp m)).length = (kinds m).length := by
      unfold kinds
      rw [List.length_map, List.length_map, List.length_zip]
      omega
    rw [d3, e, List.take_length]
end
end Kp
set_option Elab.async false
set_option linter.all false
set_option maxRecDepth 100000
set_option maxHeartbeats 4000000
namespace Kp
open PySem PySem.Spec PyProof.Rows L2
/-! ### the two classes -/
structure Makes (P : Program) (w : World) (K : PySem.W.Frag) (mg : Str → Option Value) (base : Heap) (k : Nat) (x : Str) (C : Addr) (sp : Sp) : Prop where
  ex : ∃ (f : Addr) (fd : FuncData) (ps : List Str), Mk K C f ∧ FnOk P w K mg base CX0 k f fd ps sp ∧ Binds K fd ps [] ∧ mg x = some (.ref C)
section
variable {X : Cx} {j k : Nat} {x : Str} {C : Addr} {sp : Sp} {p pos : Pos} {e : Expr} {es : List Expr} {t : TA}
theorem pe_mkH (c : Makes X.prog X.w X.K X.mg X.base k x C sp) (hr : Room j X.A) (hk : k + 1 ≤ j) (hg : Gl X x) (ha : PA X (e :: es) t)
    (hdb : (x == ("__debug__" : Str)) = false := by decide) (he : starEach (e :: es) X.env = (false, eval e X.env) :: starEach es X.env := by rfl) (hpl : (backTo pos (starEach es X.env)).any (·.1) = false := by rfl) :
    PE X (.Call (.Name x p) (e :: es) [] pos) (tMake C sp [] E0 t) := by
  obtain ⟨f, fd, ps, M, F, b, g⟩ := c.ex
  exact pe_make M F (hr.mono hk) hg g b .nil pass0 ha hdb he hpl
theorem pe_mkH0 (c : Makes X.prog X.w X.K X.mg X.base k x C sp) (hr : Room j X.A) (hk : k + 1 ≤ j) (hg : Gl X x) (hdb : (x == ("__debug__" : Str)) = false := by decide) :
    PE X (.Call (.Name x p) [] [] pos) (tMake C sp [] E0 tNil) := by
  obtain ⟨f, fd, ps, M, F, b, g⟩ := c.ex
  exact pe_make0 M F (hr.mono hk) hg g b .nil pass0 hdb
end
def fresh (n : Nat) : Md := ⟨List.replicate n 1, List.replicate n 1, 1, 2⟩
theorem ones_sum : ∀ n : Nat, (List.replicate n 1).sum = n
  | 0 => rfl
  | n + 1 => by rw [List.replicate_succ, List.sum_cons, ones_sum n, Nat.add_comm]
theorem fresh_ok {n : Nat} (h1 : 1 ≤ n) (h5 : n ≤ 5) : Ok (fresh n) := by
  have e : (List.replicate n 1).sum = n := ones_sum n
  have l : (List.replicate n 1).length = n := List.length_replicate
  exact ⟨rfl, Nat.le_trans h1 (Nat.le_of_eq l.symm), Nat.le_trans (Nat.le_of_eq l) h5, Nat.le_trans h1 (Nat.le_of_eq e.symm), Nat.le_trans (Nat.le_of_eq e) (by omega), Nat.le_trans h1 (Nat.le_of_eq e.symm), Nat.le_trans (Nat.le_of_eq e) (by omega), (by show 1 ≤ 2; decide), (by show 1 ≤ 2; decide), (by show 2 ≤ 99; decide)⟩
def spInitM (C : Addr) : Sp := fun vs H Q _ => ∃ (p dx : Addr) (n : Nat), vs = [.ref p, .int (n : Int)] ∧ n ≤ 5 ∧ H p = some (.ins C dx []) ∧ ∀ H', ModelAt C H' p (fresh n) → Else p H H' → Q .non H'
def spCopy (C : Addr) : Sp := fun vs H Q _ => ∃ a m, vs = [.ref a] ∧ ModelAt C H a m ∧ Ok m ∧ ∀ H' p, Same H H' → H p = none → ModelAt C H' p m → Q (.ref p) H'
/-- the instance at a: what it holds -/
def InsAt (CI : Addr) (H : Hp) (a : Addr) (v : V) : Prop := ∃ dx, H a = some (.ins CI dx [("model", v)])
def spInitI (CI : Addr) : Sp := fun vs H Q _ => ∃ (p dx : Addr), vs = [.ref p] ∧ H p = some (.ins CI dx []) ∧ ∀ H', InsAt CI H' p .non → Else p H H' → Q .non H'
abbrev s_Model___init__ : Stmt := inClass (topS 47) 0
theorem sc_Model___init__ : FnScope ["self", "signal_count"] ["self", "signal_count"] (defScope s_Model___init__) := ⟨rfl, rfl, rfl, by decide +kernel, rfl, by decide +kernel, by decide +kernel⟩
abbrev s_Instance___init__ : Stmt := inClass (topS 49) 0
theorem sc_Instance___init__ : FnScope ["self"] ["self"] (defScope s_Instance___init__) := ⟨rfl, rfl, rfl, by decide +kernel, rfl, by decide +kernel, by decide +kernel⟩
abbrev s_copy_model : Stmt := topS 48
theorem sc_copy_model : FnScope ["model", "copied"] ["model"] (defScope s_copy_model) := ⟨rfl, rfl, rfl, by decide +kernel, rfl, by decide +kernel, by decide +kernel⟩
abbrev s_merged_weights : Stmt := topS 26
theorem sc_merged_weights : FnScope ["weights", "mapping", "merged", "weight", "target"] ["weights", "mapping"] (defScope s_merged_weights) := ⟨rfl, rfl, rfl, by decide +kernel, rfl, by decide +kernel, by decide +kernel⟩
abbrev s_merge : Stmt := topS 27
theorem sc_merge : FnScope ["model", "mapping"] ["model", "mapping"] (defScope s_merge) := ⟨rfl, rfl, rfl, by decide +kernel, rfl, by decide +kernel, by decide +kernel⟩
theorem flat_one {α : Type} (x : α) : ∀ n : Nat, (List.replicate n [x]).flatten = List.replicate n x
  | 0 => rfl
  | n + 1 => by
    rw [List.replicate_succ, List.replicate_succ, List.flatten_cons, flat_one x n]
    rfl
theorem VL_rep (n z : Nat) : VL (toI (List.replicate n z)) = List.replicate n (.int (z : Int)) := by
  show ((List.replicate n z).map fun (x : Nat) => (x : Int)).map V.int = _
  rw [List.map_replicate, List.map_replicate]
theorem pf1 {x : V} : putF "signal_count" x ([] : List (Str × V)) = ([("signal_count", x)] : List (Str × V)) := rfl
theorem pf2 {a x : V} : putF "test_weights" x ([("signal_count", a)] : List (Str × V)) = ([("signal_count", a), ("test_weights", x)] : List (Str × V)) := (put_past (by decide +kernel)).trans rfl
theorem pf3 {a b x : V} : putF "production_weights" x ([("signal_count", a), ("test_weights", b)] : List (Str × V)) = ([("signal_count", a), ("test_weights", b), ("production_weights", x)] : List (Str × V)) := (put_past (by decide +kernel)).trans (congrArg _ ((put_past (by decide +kernel)).trans rfl))
theorem pf4 {a b c x : V} : putF "prior_num" x ([("signal_count", a), ("test_weights", b), ("production_weights", c)] : List (Str × V)) = ([("signal_count", a), ("test_weights", b), ("production_weights", c), ("prior_num", x)] : List (Str × V)) :=
  (put_past (by decide +kernel)).trans (congrArg _ ((put_past (by decide +kernel)).trans (congrArg _ ((put_past (by decide +kernel)).trans rfl))))
theorem pf5 {a b c d x : V} : putF "prior_den" x ([("signal_count", a), ("test_weights", b), ("production_weights", c), ("prior_num", d)] : List (Str × V)) = ([("signal_count", a), ("test_weights", b), ("production_weights", c), ("prior_num", d), ("prior_den", x)] : List (Str × V)) :=
  (put_past (by decide +kernel)).trans (congrArg _ ((put_past (by decide +kernel)).trans (congrArg _ ((put_past (by decide +kernel)).trans (congrArg _ ((put_past (by decide +kernel)).trans rfl))))))
section
variable {P : Program} {w : World} {K : PySem.W.Frag} {mg : Str → Option Value} {base : Heap} {C CI CN CU CO CP : Addr}
theorem ok_initM (T : Txt K mg C CI CN CU CO CP) {f : Addr} {fd : FuncData} (F : Fun K "__init__" "Model.__init__" s_Model___init__ f fd) : FnOk P w K mg base CX0 1 f fd ["self", "signal_count"] (spInitM C) := by
  refine F.ok sc_Model___init__ (fun vs H Q E h => ?_) (fun cdv A outer s H vs Q E hr h => ?_)
  · obtain ⟨p, dx, n, rfl, _⟩ := h
    rfl
  refine ⟨_, (pss_cons (ps_fld (pv 0) (pv 1) rfl) (pss_cons (ps_fld (pv 0) (pe_op op_rep (pe_lst (pa_cons pe_int pa_nil)) (pv 1)) rfl) (pss_cons (ps_fld (pv 0) (pe_op op_rep (pe_lst (pa_cons pe_int pa_nil)) (pv 1)) rfl) (pss_cons (ps_fld (pv 0) pe_int rfl) (pss_one (ps_fld (pv 0) pe_int rfl)))))), ?_⟩
  obtain ⟨p, dx, n, rfl, h5, h0, k⟩ := h
  have sz : [V.int 1].length * (n : Int).toNat ≤ sizeLine := by
    have : [V.int 1].length * (n : Int).toNat = n := by simp
    rw [this]
    exact Nat.le_trans h5 (by decide)
  refine ⟨_, rfl, _, rfl, p, C, dx, [], rfl, h0, T.cl, T.nC, (by show 0 < 1000; decide), ?_⟩
  refine ⟨(by show 1 ≤ sizeLine; decide), fun l1 hl1 => ⟨_, rfl, l1, (n : Int), [.int 1], rfl, rfl, upd_same, by omega, by omega, sz, fun p1 hp1 => ?_⟩⟩
  have a1 : p ≠ l1 := fun z => by
    rw [← z, upd_same] at hl1
    cases hl1
  have a2 : p ≠ p1 := fun z => by
    rw [← z, upd_ne a1, upd_same] at hp1
    cases hp1
  refine ⟨_, rfl, p, C, dx, [("signal_count", .int (n : Int))], rfl, by rw [upd_ne a2, upd_ne a1, upd_same]; rfl, T.cl, T.nT, (by show 1 < 1000; decide), ?_⟩
  refine ⟨(by show 1 ≤ sizeLine; decide), fun l2 hl2 => ⟨_, rfl, l2, (n : Int), [.int 1], rfl, rfl, upd_same, by omega, by omega, sz, fun p2 hp2 => ?_⟩⟩
  have b1 : p ≠ l2 := fun z => by
    rw [← z, upd_same] at hl2
    cases hl2
  have b2 : p ≠ p2 := fun z => by
    rw [← z, upd_ne b1, upd_same] at hp2
    cases hp2
  have c1 : p1 ≠ l2 := fun z => by
    rw [← z, upd_ne a2.symm, upd_same] at hl2
    cases hl2
  have c2 : p1 ≠ p2 := fun z => by
    rw [← z, upd_ne c1, upd_ne a2.symm, upd_same] at hp2
    cases hp2
  refine ⟨_, rfl, p, C, dx, [("signal_count", .int (n : Int)), ("test_weights", .ref p1)], rfl, by rw [upd_ne b2, upd_ne b1, upd_same, pf2], T.cl, T.nP, (by show 2 < 1000; decide), ?_⟩
  refine ⟨_, rfl, p, C, dx, [("signal_count", .int (n : Int)), ("test_weights", .ref p1), ("production_weights", .ref p2)], rfl, by rw [upd_same, pf3], T.cl, T.nA, (by show 3 < 1000; decide), ?_⟩
  refine ⟨_, rfl, p, C, dx, [("signal_count", .int (n : Int)), ("test_weights", .ref p1), ("production_weights", .ref p2), ("prior_num", .int 1)], rfl, by rw [upd_same, pf4], T.cl, T.nB, (by show 4 < 1000; decide), ?_⟩
  refine k _ ⟨dx, p1, p2, ?_, ?_, ?_⟩ ?_
  · rw [upd_same, pf5]
    show some (HO.ins C dx _) = some (HO.ins C dx (mF ((List.replicate n 1).length : Int) _ _ _ _))
    rw [List.length_replicate]
    rfl
  · rw [upd_ne a2.symm, upd_ne a2.symm, upd_ne a2.symm, upd_ne c2, upd_ne c1, upd_ne a2.symm, upd_same, flat_one]
    exact congrArg (fun l => some (HO.lst l)) (VL_rep n 1).symm
  · rw [upd_ne b2.symm, upd_ne b2.symm, upd_ne b2.symm, upd_same, flat_one]
    exact congrArg (fun l => some (HO.lst l)) (VL_rep n 1).symm
  · exact (((((((Else.upd.then (Same.new hl1)).then (Same.new hp1)).trans Else.upd).then (Same.new hl2)).then (Same.new hp2)).trans Else.upd).trans Else.upd).trans Else.upd
theorem ok_initI (T : Txt K mg C CI CN CU CO CP) {f : Addr} {fd : FuncData} (F : Fun K "__init__" "Instance.__init__" s_Instance___init__ f fd) : FnOk P w K mg base CX0 1 f fd ["self"] (spInitI CI) := by
  refine F.ok sc_Instance___init__ (fun vs H Q E h => ?_) (fun cdv A outer s H vs Q E hr h => ?_)
  · obtain ⟨p, dx, rfl, _⟩ := h
    rfl
  refine ⟨_, (pss_one (ps_fld (pv 0) pe_non rfl)), ?_⟩
  obtain ⟨p, dx, rfl, h0, k⟩ := h
  exact ⟨_, rfl, p, CI, dx, [], rfl, h0, T.ci, T.nM, (by show 0 < 1000; decide), k _ ⟨dx, upd_same⟩ Else.upd⟩
theorem ok_copy_model (T : Txt K mg C CI CN CU CO CP) (h_Model : Makes P w K mg base 1 "Model" C (spInitM C)) (D : Def K mg "copy_model" s_copy_model ["model"]) : Has P w K mg base CX0 3 "copy_model" (spCopy C) := by
  refine D.ok sc_copy_model (fun vs H Q E h => ?_) (fun f cdv A outer s H vs Q E hr h => ?_)
  · obtain ⟨a, m, rfl, _⟩ := h
    rfl
  refine ⟨_, (pss_cons (ps_set (i := 1) sc_copy_model.nd rfl (Or.inl rfl) (pe_mkH h_Model hr (by decide) rfl (pa_cons (pe_fld (pv 0) rfl) pa_nil))) (pss_cons (ps_fld (pv 1) (pe_callTy call_list_of (by rfl) T.list (by decide +kernel) (pa_cons (pe_fld (pv 0) rfl) pa_nil)) rfl) (pss_cons (ps_fld (pv 1) (pe_callTy call_list_of (by rfl) T.list (by decide +kernel) (pa_cons (pe_fld (pv 0) rfl) pa_nil)) rfl) (pss_cons (ps_fld (pv 1) (pe_fld (pv 0) rfl) rfl) (pss_cons (ps_fld (pv 1) (pe_fld (pv 0) rfl) rfl) (pss_one (ps_ret (pv 1)))))))), ?_⟩
  obtain ⟨a, m, rfl, ⟨dx, pt, pp, h⟩, ok, k⟩ := h
  refine ⟨_, rfl, a, C, dx, _, _, rfl, h.o, T.cl, T.nC, mF_n, fun x dx1 nx nd ne => ?_⟩
  refine ⟨x, dx1, m.testWeights.length, rfl, ok.n5, upd_same, fun H1 ⟨d1, qt, qp, hx⟩ e1 => ⟨rfl, ?_⟩⟩
  have s1 : Same H H1 := Same.made nx nd e1
  have en : ((fresh m.testWeights.length).testWeights.length : Int) = (m.testWeights.length : Int) := by
    show ((List.replicate m.testWeights.length 1).length : Int) = _
    rw [List.length_replicate]
  have ho : H1 x = some (.ins C d1 (mF (m.testWeights.length : Int) (.ref qt) (.ref qp) 1 2)) := by
    have q := hx.o
    rw [en] at q
    exact q
  have xa : a ≠ x := ne_of_none h.o nx
  have g1 := h.same s1
  -- test_weights
  refine ⟨_, rfl, a, C, dx, _, _, rfl, g1.o, T.cl, T.nT, mF_t, pt, _, rfl, .inl (SqL.of g1.t), fun l1 hl1 => ?_⟩
  have x1 : x ≠ l1 := ne_of_none ho hl1
  have s2 : Same H (upd H1 l1 (.lst (VL (toI m.testWeights)))) := s1.trans (Same.new hl1)
  refine ⟨_, rfl, x, C, d1, _, rfl, (upd_ne x1).trans ho, T.cl, T.nT, (by show 5 < 1000; decide), ?_⟩
  have s3 : Same H (upd (upd H1 l1 (.lst (VL (toI m.testWeights)))) x (.ins C d1 (putF "test_weights" (.ref l1) (mF (m.testWeights.length : Int) (.ref qt) (.ref qp) 1 2)))) := fun b o q => by
    rw [upd_ne (ne_of_none q nx)]
    exact s2 b o q
  have g3 := h.same s3
  -- production_weights
  refine ⟨_, rfl, a, C, dx, _, _, rfl, g3.o, T.cl, T.nP, mF_p, pp, _, rfl, .inl (SqL.of g3.p), fun l2 hl2 => ?_⟩
  have x2 : x ≠ l2 := fun z => by
    rw [← z, upd_same] at hl2
    cases hl2
  have l12 : l1 ≠ l2 := fun z => by
    rw [← z, upd_ne x1.symm, upd_same] at hl2
    cases hl2
  refine ⟨_, rfl, x, C, d1, mF (m.testWeights.length : Int) (.ref l1) (.ref qp) 1 2, rfl, by rw [upd_ne x2, upd_same, mF_put_t], T.cl, T.nP, (by show 5 < 1000; decide), ?_⟩
  have s4 : Same H (upd (upd (upd (upd H1 l1 (.lst (VL (toI m.testWeights)))) x (.ins C d1 (putF "test_weights" (.ref l1) (mF (m.testWeights.length : Int) (.ref qt) (.ref qp) 1 2)))) l2 (.lst (VL (toI m.productionWeights)))) x (.ins C d1 (putF "production_weights" (.ref l2) (mF (m.testWeights.length : Int) (.ref l1) (.ref qp) 1 2)))) := fun b o q => by
    rw [upd_ne (ne_of_none q nx)]
    exact (s3.trans (Same.new hl2)) b o q
  have g4 := h.same s4
  refine ⟨_, rfl, a, C, dx, _, _, rfl, g4.o, T.cl, T.nA, mF_a, _, rfl, x, C, d1, mF (m.testWeights.length : Int) (.ref l1) (.ref l2) 1 2, rfl, by rw [upd_same, mF_put_p], T.cl, T.nA, (by show 5 < 1000; decide), ?_⟩
  have hb : ∀ {H0 : Hp} {o : HO}, Same H H0 → Same H (upd H0 x o) := fun s b o q => by
    rw [upd_ne (ne_of_none q nx)]
    exact s b o q
  have g5 := h.same (hb (o := .ins C d1 (putF "prior_num" (.int (m.priorNum : Int)) (mF (m.testWeights.length : Int) (.ref l1) (.ref l2) 1 2))) s4)
  refine ⟨_, rfl, a, C, dx, _, _, rfl, g5.o, T.cl, T.nB, mF_b, _, rfl, x, C, d1, mF (m.testWeights.length : Int) (.ref l1) (.ref l2) (m.priorNum : Int) 2, rfl, by rw [upd_same, mF_put_a], T.cl, T.nB, (by show 5 < 1000; decide), ?_⟩
  refine ⟨_, rfl, k _ x (hb (hb s4)) nx ⟨d1, l1, l2, ?_, ?_, ?_⟩⟩
  · rw [upd_same, mF_put_b]
  · rw [upd_ne x1.symm, upd_ne x1.symm, upd_ne x1.symm, upd_ne l12, upd_ne x1.symm, upd_same]
  · rw [upd_ne x2.symm, upd_ne x2.symm, upd_ne x2.symm, upd_same]
theorem VL_put {acc : List Nat} {j w : Nat} : (VL (toI acc)).set j (.int (((acc.getD j 0 : Nat) : Int) + (w : Int))) = VL (toI (put1 acc (w, j))) := by
  show _ = ((acc.set j (acc.getD j 0 + w)).map fun (x : Nat) => (x : Int)).map V.int
  rw [List.map_set, List.map_set]
  rfl
theorem toI_get {l : List Nat} {i : Nat} {z : Int} (h : (toI l)[i]? = some z) : ∃ n : Nat, l[i]? = some n ∧ z = (n : Int) := by
  unfold toI at h
  rw [List.getElem?_map] at h
  cases q : l[i]? with
  | none =>
    rw [q] at h
    cases h
  | some n =>
    rw [q] at h
    exact ⟨n, rfl, (Option.some.inj h).symm⟩
theorem zipN_get {xs ys : List Nat} {i x y : Nat} (h1 : xs[i]? = some x) (h2 : ys[i]? = some y) : (xs.zip ys)[i]? = some (x, y) := by
  rw [List.getElem?_zip_eq_some]
  exact ⟨h1, h2⟩
def spMergeW (K : PySem.W.Frag) : Sp := fun vs H Q _ => ∃ (a b : Addr) (ws mp : List Nat), vs = [.ref a, .ref b] ∧ SqL K H a (VL (toI ws)) ∧ SqL K H b (VL (toI mp)) ∧ ws.length = mp.length ∧ ws.length ≤ 1000 ∧ (∀ x ∈ mp, x < ws.length) ∧ RetL H Q (toI (mergeN ws mp))
theorem ok_merged_weights (T : Txt K mg C CI CN CU CO CP) (D : Def K mg "merged_weights" s_merged_weights ["weights", "mapping"]) : Has P w K mg base CX0 1 "merged_weights" (spMergeW K) := by
  refine D.ok sc_merged_weights (fun vs H Q E h => ?_) (fun f cdv A outer s H vs Q E hr h => ?_)
  · obtain ⟨a, b, ws, mp, rfl, _⟩ := h
    rfl
  refine ⟨_, (pss_cons (ps_set (i := 2) sc_merged_weights.nd rfl (Or.inl rfl) (pe_op op_rep (pe_lst (pa_cons pe_int pa_nil)) (pe_callB call_len_seq (by rfl) T.len PySem.boot_len (pa_cons (pv 0) pa_nil)))) (pss_cons (ps_for PassesOwn.never rfl (pi_zip (by rfl) T.zip (pa_cons (pv 0) (pa_cons (pv 1) pa_nil))) (pg_tup rfl (pgs_cons (pg_name (i := 3) sc_merged_weights.nd rfl (Or.inl rfl)) (pgs_cons (pg_name (i := 4) sc_merged_weights.nd rfl (Or.inl rfl)) pgs_nil))) (pss_one (ps_augS (pv 2) (pv 4) get_list (pv 3) ip_add set_list))) (pss_one (ps_ret (pv 2))))), ?_⟩
  obtain ⟨a, b, ws, mp, rfl, ha, hb, hl, hz, hm, k⟩ := h
  have lw : (VL (toI ws)).length = ws.length := by rw [List.length_map, toI_length]
  have lm : (VL (toI mp)).length = mp.length := by rw [List.length_map, toI_length]
  have en : ((VL (toI ws)).length : Int) = (ws.length : Int) := by rw [lw]
  have sz : [V.int 0].length * ((VL (toI ws)).length : Int).toNat ≤ sizeLine := by
    have : [V.int 0].length * ((VL (toI ws)).length : Int).toNat = ws.length := by
      rw [en]
      simp
    rw [this]
    exact Nat.le_trans hz (by decide)
  refine ⟨(by show 1 ≤ sizeLine; decide), fun l hl1 => ?_⟩
  have s0 : Same H (upd H l (.lst [.int 0])) := Same.new hl1
  refine ⟨_, rfl, a, _, rfl, .inl (s0.seq ha), l, _, [.int 0], rfl, rfl, upd_same, by omega, by omega, sz, fun d hd => ?_⟩
  have s1 : Same H (upd (upd H l (.lst [.int 0])) d (.lst (List.replicate ((VL (toI ws)).length : Int).toNat [V.int 0]).flatten)) := s0.trans (Same.new hd)
  have hd0 : H d = none := s0.free hd
  have z0 : (List.replicate ((VL (toI ws)).length : Int).toNat [V.int 0]).flatten = VL (toI (((ws.zip mp).take 0).foldl put1 (List.replicate ws.length 0))) := by
    rw [flat_one, en]
    exact (VL_rep ws.length 0).symm
  refine ⟨_, rfl, _, rfl, a, b, _, _, rfl, s1.seq ha, s1.seq hb, RZ.for_zipL (by rw [lw, lm, hl]) (fun i σ H' => ∃ v u : Option V, σ = [some (.ref a), some (.ref b), some (.ref d), v, u] ∧ Same H H' ∧ H' d = some (.lst (VL (toI (((ws.zip mp).take i).foldl put1 (List.replicate ws.length 0))))))
    ⟨none, none, rfl, s1, by rw [upd_same, z0]⟩ (fun i σ H' ⟨_, _, _, f1, _⟩ => ⟨f1.seq ha, f1.seq hb⟩) ?_ ?_⟩
  · rintro i x y t σ H' ix iy ⟨v, u, rfl, f1, d3⟩ ht
    obtain ⟨x, jx, rfl⟩ := VL_get ix
    obtain ⟨y, jy, rfl⟩ := VL_get iy
    obtain ⟨x, kx, rfl⟩ := toI_get jx
    obtain ⟨y, ky, rfl⟩ := toI_get jy
    have td : d ≠ t := fun z => by
      rw [← z, d3] at ht
      cases ht
    have hy : y < ws.length := hm y (List.mem_of_getElem? ky)
    have la : (((ws.zip mp).take i).foldl put1 (List.replicate ws.length 0)).length = ws.length := by rw [puts_length, List.length_replicate]
    have dd : (upd H' t (.tup [V.int (x : Int), V.int (y : Int)])) d = some (.lst (VL (toI (((ws.zip mp).take i).foldl put1 (List.replicate ws.length 0))))) := by
      rw [upd_ne td]
      exact d3
    have g := at0_get (l := toI (((ws.zip mp).take i).foldl put1 (List.replicate ws.length 0))) (i := y) (by rw [toI_length, la]; exact hy)
    rw [toI_at] at g
    have ix2 : ixN (VL (toI (((ws.zip mp).take i).foldl put1 (List.replicate ws.length 0)))).length ((y : Nat) : Int) = some y := by
      unfold ixN
      rw [if_pos (by omega), if_pos (by rw [List.length_map, toI_length, la]; omega)]
      simp
    refine ⟨t, _, rfl, SqT.of upd_same, rfl, _, _, rfl, _, _, rfl, rfl, ?_⟩
    refine ⟨_, rfl, _, rfl, d, _, _, _, rfl, rfl, SqL.of dd, atI_nat g, _, rfl, _, _, rfl, rfl, d, _, _, y, rfl, rfl, dd, ix2, ?_⟩
    refine ⟨some (.int (x : Int)), some (.int (y : Int)), rfl, fun b o q => ?_, ?_⟩
    · rw [upd_ne (ne_of_none q hd0)]
      exact (f1.trans (Same.new ht)) b o q
    · rw [upd_same, VL_put, take_get (zipN_get kx ky), List.foldl_append]
      rfl
  · rintro σ H' ⟨v, u, rfl, f1, d3⟩
    refine ⟨_, rfl, k H' d f1 hd0 ?_⟩
    rw [d3, lw, List.take_of_length_le (by rw [List.length_zip]; omega)]
    rfl
def okMap (m : Md) (mp : List Nat) : Prop := mp.length = m.testWeights.length ∧ ∀ x ∈ mp, x < m.testWeights.length
def spMerge (K : PySem.W.Frag) (C : Addr) : Sp := fun vs H Q _ => ∃ a m l mp, vs = [.ref a, .ref l] ∧ ModelAt C H a m ∧ Ok m ∧ SqL K H l (VL (toI mp)) ∧ okMap m mp ∧ ∀ H', ModelAt C H' a (Kp415.mergeSignals m mp) → Else a H H' → Q .non H'
theorem ok_merge (T : Txt K mg C CI CN CU CO CP) (h_merged_weights : Has P w K mg base CX0 1 "merged_weights" (spMergeW K)) (D : Def K mg "merge" s_merge ["model", "mapping"]) : Has P w K mg base CX0 2 "merge" (spMerge K C) := by
  refine D.ok sc_merge (fun vs H Q E h => ?_) (fun f cdv A outer s H vs Q E hr h => ?_)
  · obtain ⟨a, m, l, mp, rfl, _⟩ := h
    rfl
  refine ⟨_, (pss_cons (ps_fld (pv 0) (pe_h h_merged_weights hr (by decide) rfl pass0 (pa_cons (pe_fld (pv 0) rfl) (pa_cons (pv 1) pa_nil))) rfl) (pss_one (ps_fld (pv 0) (pe_h h_merged_weights hr (by decide) rfl pass0 (pa_cons (pe_fld (pv 0) rfl) (pa_cons (pv 1) pa_nil))) rfl))), ?_⟩
  obtain ⟨a, m, l, mp, rfl, ⟨dx, pt, pp, h⟩, ok, hl, ⟨hm1, hm2⟩, k⟩ := h
  have n5 := ok.n5
  have le := ok.len
  have na : ∀ {p : Addr} {xs : List V} {H' : Hp}, H a = some (.ins C dx (mF (m.testWeights.length : Int) (.ref pt) (.ref pp) (m.priorNum : Int) (m.priorDen : Int))) → Same H H' → H' p = some (.lst xs) → p ≠ a := fun {p xs H'} e s q z => by
    rw [z, s _ _ e] at q
    cases q
  refine ⟨_, rfl, a, C, dx, _, _, rfl, h.o, T.cl, T.nT, mF_t, _, rfl, pt, l, m.testWeights, mp, rfl, SqL.of h.t, hl, hm1.symm, by omega, hm2, fun H1 p1 s1 n1 e1 => ?_⟩
  have g1 := h.same s1
  refine ⟨_, rfl, a, C, dx, _, rfl, g1.o, T.cl, T.nT, (by show 5 < 1000; decide), ?_⟩
  have p1a := na h.o s1 e1
  have ppa := na h.o (Same.refl H) h.p
  have E1 : Else a H (upd H1 a (.ins C dx (putF "test_weights" (.ref p1) (mF (m.testWeights.length : Int) (.ref pt) (.ref pp) (m.priorNum : Int) (m.priorDen : Int))))) := (Same.els s1).trans Else.upd
  have hl2 : SqL K (upd H1 a (.ins C dx (putF "test_weights" (.ref p1) (mF (m.testWeights.length : Int) (.ref pt) (.ref pp) (m.priorNum : Int) (m.priorDen : Int))))) l (VL (toI mp)) := by
    rcases hl with (q | ⟨o, q⟩) | q
    · exact .inl (.inl (E1 _ _ q (na h.o (Same.refl H) q)))
    · exact .inl (.inr ⟨o, E1 _ _ q (fun z => by rw [z, h.o] at q; cases q)⟩)
    · exact .inr q
  have gp := E1 _ _ h.p ppa
  refine ⟨_, rfl, a, C, dx, mF (m.testWeights.length : Int) (.ref p1) (.ref pp) (m.priorNum : Int) (m.priorDen : Int), _, rfl, by rw [upd_same, mF_put_t], T.cl, T.nP, mF_p, _, rfl, pp, l, m.productionWeights, mp, rfl, SqL.of gp, hl2, (by rw [le, hm1]), by omega, (by rw [le]; exact hm2), fun H2 p2 s2 n2 e2 => ?_⟩
  have a2 := s2 a _ upd_same
  rw [mF_put_t] at a2
  refine ⟨_, rfl, a, C, dx, _, rfl, a2, T.cl, T.nP, (by show 5 < 1000; decide), ?_⟩
  have p2a : p2 ≠ a := fun z => by
    rw [z, a2] at e2
    cases e2
  have w1 := mergeN_is (ws := m.testWeights) (mp := mp) hm1.symm hm2
  have w2 := mergeN_is (ws := m.productionWeights) (mp := mp) (by rw [le, hm1]) (by rw [le]; exact hm2)
  refine k _ ⟨dx, p1, p2, ?_, ?_, ?_⟩ ((E1.then s2).trans Else.upd)
  · rw [upd_same, mF_put_p]
    show some (HO.ins C dx (mF (m.testWeights.length : Int) _ _ _ _)) = some (HO.ins C dx (mF ((Kp415.mergeWeights m.testWeights mp).length : Int) _ _ _ _))
    rw [← w1, mergeN_length]
    rfl
  · rw [upd_ne p1a]
    show _ = some (HO.lst (VL (toI (Kp415.mergeWeights m.testWeights mp))))
    rw [← w1]
    exact s2 _ _ ((upd_ne p1a).trans e1)
  · rw [upd_ne p2a]
    show _ = some (HO.lst (VL (toI (Kp415.mergeWeights m.productionWeights mp))))
    rw [← w2]
    exact e2
end
end Kp
set_option Elab.async false
set_option linter.all false
set_option maxRecDepth 100000
set_option maxHeartbeats 4000000
namespace Kp
open PySem PySem.Spec PyProof.Rows L2
/-! ### sequences -/
def Small (l : List Int) : Prop := ∀ z ∈ l, 0 ≤ z ∧ z ≤ 245025
def spProds (K : PySem.W.Frag) : Sp := fun vs H Q _ => ∃ (a : Addr) (xs : List Int) (k : Nat), vs = [.ref a, .int (k : Int)] ∧ SqL K H a (VL xs) ∧ xs.length ≤ 5 ∧ Small xs ∧ k ≤ 3 ∧ RetL H Q (prods xs k)
def spProd (K : PySem.W.Frag) : Sp := fun vs H Q _ => ∃ (a b : Addr) (xs : List Int) (w : List Nat), vs = [.ref a, .ref b] ∧ SqL K H a (VL xs) ∧ SqL K H b (VL (toI w)) ∧ Small xs ∧ (∀ s ∈ w, s < xs.length) ∧ RetI H Q (prodI (w.map (at0 xs)))
def okLen (_ : Md) (k : Nat) : Prop := k ≤ 3
def okSeq (m : Md) (w : List Nat) : Prop := w.length ≤ 6 ∧ ∀ s ∈ w, s < m.testWeights.length
def seqProb (m : Md) (w : List Nat) : Int := seqJt m w + seqJp m w
def okSeqP (m : Md) (w : List Nat) : Prop := okSeq m w ∧ seqProb m w ≠ 0
def seqPost (m : Md) (w : List Nat) : List Int := frac (seqJt m w) (seqProb m w)
abbrev s_sequence_products : Stmt := topS 29
theorem sc_sequence_products : FnScope ["parts", "length", "products", "step", "longer", "product", "part"] ["parts", "length"] (defScope s_sequence_products) := ⟨rfl, rfl, rfl, by decide +kernel, rfl, by decide +kernel, by decide +kernel⟩
abbrev s_sequence_product : Stmt := topS 30
theorem sc_sequence_product : FnScope ["parts", "signals", "product", "signal"] ["parts", "signals"] (defScope s_sequence_product) := ⟨rfl, rfl, rfl, by decide +kernel, rfl, by decide +kernel, by decide +kernel⟩
abbrev s_sequence_variation : Stmt := topS 31
theorem sc_sequence_variation : FnScope ["model", "length", "tests", "productions"] ["model", "length"] (defScope s_sequence_variation) := ⟨rfl, rfl, rfl, by decide +kernel, rfl, by decide +kernel, by decide +kernel⟩
abbrev s_sequence_best_accuracy : Stmt := topS 32
theorem sc_sequence_best_accuracy : FnScope ["model", "length", "test_factor", "production_factor", "tests", "productions", "product"] ["model", "length"] (defScope s_sequence_best_accuracy) := ⟨rfl, rfl, rfl, by decide +kernel, rfl, by decide +kernel, by decide +kernel⟩
abbrev s_sequence_test_part : Stmt := topS 33
theorem sc_sequence_test_part : FnScope ["model", "signals"] ["model", "signals"] (defScope s_sequence_test_part) := ⟨rfl, rfl, rfl, by decide +kernel, rfl, by decide +kernel, by decide +kernel⟩
abbrev s_sequence_production_part : Stmt := topS 34
theorem sc_sequence_production_part : FnScope ["model", "signals"] ["model", "signals"] (defScope s_sequence_production_part) := ⟨rfl, rfl, rfl, by decide +kernel, rfl, by decide +kernel, by decide +kernel⟩
abbrev s_sequence_probability_part : Stmt := topS 35
theorem sc_sequence_probability_part : FnScope ["model", "signals"] ["model", "signals"] (defScope s_sequence_probability_part) := ⟨rfl, rfl, rfl, by decide +kernel, rfl, by decide +kernel, by decide +kernel⟩
abbrev s_sequence_posterior_fraction : Stmt := topS 36
theorem sc_sequence_posterior_fraction : FnScope ["model", "signals"] ["model", "signals"] (defScope s_sequence_posterior_fraction) := ⟨rfl, rfl, rfl, by decide +kernel, rfl, by decide +kernel, by decide +kernel⟩
theorem prods_len (xs : List Int) : ∀ k, (prods xs k).length = xs.length ^ k
  | 0 => rfl
  | k + 1 => by
    show ((prods xs k).flatMap fun p => xs.map fun x => p * x).length = _
    have e : ∀ l : List Int, (l.flatMap fun p => xs.map fun x => p * x).length = l.length * xs.length := by
      intro l
      induction l with
      | nil => simp
      | cons a r ih => rw [List.flatMap_cons, List.length_append, ih, List.length_map, List.length_cons, Nat.succ_mul, Nat.add_comm]
    rw [e, prods_len xs k, Nat.pow_succ]
theorem five_pow {n k : Nat} (h : n ≤ 5) (hk : k ≤ 3) : n ^ k ≤ 125 := Nat.le_trans (Nat.pow_le_pow_left h k) (Nat.le_trans (Nat.pow_le_pow_right (by decide) hk) (by decide))
theorem powI_le {b B : Int} (h0 : 0 ≤ b) (h : b ≤ B) : ∀ k, 0 ≤ powI b k ∧ powI b k ≤ powI B k
  | 0 => ⟨by show (0 : Int) ≤ 1; decide, Int.le_refl _⟩
  | k + 1 => by
    have ih := powI_le h0 h k
    exact mul_le_of ih.1 ih.2 h0 h
theorem prodI_le {B : Int} (hB : 0 ≤ B) : ∀ l : List Int, (∀ z ∈ l, 0 ≤ z ∧ z ≤ B) → 0 ≤ prodI l ∧ prodI l ≤ powI B l.length
  | [], _ => ⟨by show (0 : Int) ≤ 1; decide, Int.le_refl _⟩
  | x :: r, h => by
    have ih := prodI_le hB r fun z hz => h z (List.mem_cons_of_mem _ hz)
    have hx := h x List.mem_cons_self
    rw [prodI_cons, Int.mul_comm]
    exact mul_le_of ih.1 ih.2 hx.1 hx.2
theorem p6 : ∀ {k : Nat}, k ≤ 6 → powI 245025 k ≤ 2 ^ 110
  | 0, _ => by decide
  | 1, _ => by decide
  | 2, _ => by decide
  | 3, _ => by decide
  | 4, _ => by decide
  | 5, _ => by decide
  | 6, _ => by decide
  | n + 7, h => by omega
theorem p6_nonneg (k : Nat) : 0 ≤ powI 245025 k := (powI_le (b := 245025) (by decide) (Int.le_refl _) k).1
theorem sw_pow {m : Md} (ok : Ok m) {k : Nat} (h : k ≤ 3) : 0 < powI (sw m) k ∧ powI (sw m) k ≤ 2 ^ 110 :=
  ⟨powI_pos (sw_pos ok) k, Int.le_trans (powI_le (by have := sw_le ok; omega) (sw_le ok).2 k).2 (p6 (by omega))⟩
theorem small_at {xs : List Int} (h : Small xs) {w : List Nat} (hw : ∀ s ∈ w, s < xs.length) : ∀ z ∈ w.map (at0 xs), 0 ≤ z ∧ z ≤ 245025 := fun z hz => by
  obtain ⟨s, hs, rfl⟩ := List.mem_map.mp hz
  exact h _ (at0_mem (hw s hs))
theorem tsp_small {m : Md} (ok : Ok m) : Small (tsp m) := fun _ h => tsp_mem ok h
theorem psp_small {m : Md} (ok : Ok m) : Small (psp m) := fun _ h => psp_mem ok h
theorem seqJt_le {m : Md} (ok : Ok m) {w : List Nat} (h : okSeq m w) : 0 ≤ seqJt m w ∧ seqJt m w ≤ 99 * 2 ^ 110 := by
  have e := prodI_le (B := 245025) (by decide) (w.map (at0 (tsp m))) (small_at (tsp_small ok) (by rw [tsp_length]; exact h.2))
  rw [List.length_map] at e
  exact mul_le_of (by omega) (by have := ok.a; have := ok.b2; omega) e.1 (Int.le_trans e.2 (p6 h.1))
theorem seqJp_le {m : Md} (ok : Ok m) {w : List Nat} (h : okSeq m w) : 0 ≤ seqJp m w ∧ seqJp m w ≤ 99 * 2 ^ 110 := by
  have e := prodI_le (B := 245025) (by decide) (w.map (at0 (psp m))) (small_at (psp_small ok) (by rw [psp_length, ok.len]; exact h.2))
  rw [List.length_map] at e
  exact mul_le_of (by have := ok.a; omega) (by have := ok.a; have := ok.b2; omega) e.1 (Int.le_trans e.2 (p6 h.1))
theorem prodI_snoc (l : List Int) (x : Int) : prodI (l ++ [x]) = prodI l * x := by
  unfold prodI
  rw [List.foldl_append]
  rfl
section
variable {P : Program} {w : World} {K : PySem.W.Frag} {mg : Str → Option Value} {base : Heap} {C CI CN CU CO CP : Addr}
theorem ok_sequence_products (T : Txt K mg C CI CN CU CO CP) (D : Def K mg "sequence_products" s_sequence_products ["parts", "length"]) : Has P w K mg base CX0 1 "sequence_products" (spProds K) := by
  refine D.ok sc_sequence_products (fun vs H Q E h => ?_) (fun f cdv A outer s H vs Q E hr h => ?_)
  · obtain ⟨a, xs, n, rfl, _⟩ := h
    rfl
  refine ⟨_, (pss_cons (ps_set (i := 2) sc_sequence_products.nd rfl (Or.inl rfl) (pe_lst (pa_cons pe_int pa_nil))) (pss_cons (ps_for PassesOwn.never rfl (pi_range1 rfl T.range (pa_cons (pv 1) pa_nil)) (pg_name (i := 3) sc_sequence_products.nd rfl (Or.inl rfl)) (pss_cons (ps_set (i := 4) sc_sequence_products.nd rfl (Or.inl rfl) (pe_lst pa_nil)) (pss_cons (ps_for PassesOwn.never rfl (pi_list (pv 2)) (pg_name (i := 5) sc_sequence_products.nd rfl (Or.inr rfl)) (pss_one (ps_expr (pe_bm PySem.F.plainAttrs_list PySem.F.slot_list_extend PySem.F.type_list_extend mt_extend (pv 4) (pa_cons (pe_lc (own := [("part", 6)]) (g := gName 6) (tt := tYes) rfl sc_sequence_products.nd (pi_list (pv 0)) (blkOk_by (N := ["parts", "length", "products", "step", "longer", "product", "part"]) (sc := defScope s_sequence_products) (by decide +kernel)) (fun _ _ _ _ _ => pg_name (i := 6) sc_sequence_products.nd rfl (Or.inl rfl)) (fun _ _ _ _ _ => pts_nil) (fun _ _ _ _ _ => by exact (pe_op op_mul (pv 5) (pv 6)))) pa_nil))))) (pss_one (ps_set (i := 2) sc_sequence_products.nd rfl (Or.inl rfl) (pv 4)))))) (pss_one (ps_ret (pv 2))))), ?_⟩
  obtain ⟨a, xs, n, rfl, ha, h5, hs, h3, k⟩ := h
  refine ⟨(by show 1 ≤ sizeLine; decide), fun p0 hp0 => ?_⟩
  have s0 : Same H (upd H p0 (.lst [.int 1])) := Same.new hp0
  refine ⟨_, rfl, (n : Int), rfl, by omega, by omega, for_range (n := n) (fun i σ H' => ∃ (p : Addr) (v3 v4 v5 v6 : Option V), σ = [some (.ref a), some (.int (n : Int)), some (.ref p), v3, v4, v5, v6] ∧ Same H H' ∧ H p = none ∧ H' p = some (.lst (VL (prods xs i)))) ⟨p0, none, none, none, none, rfl, s0, hp0, upd_same⟩ ?_ ?_⟩
  · rintro i σ H' hi ⟨p, v3, v4, v5, v6, rfl, s1, np, ep⟩
    refine ⟨(by show 0 ≤ sizeLine; decide), fun q hq => ?_⟩
    have s2 : Same H (upd H' q (.lst [])) := s1.trans (Same.new hq)
    have qp : p ≠ q := ne_of_none ep hq
    have nq : H q = none := s1.free hq
    have lp : (prods xs i).length ≤ 125 := by
      rw [prods_len]
      exact five_pow h5 (by omega)
    refine ⟨_, rfl, p, rfl, ⟨_, SqL.of ((upd_ne qp).trans ep)⟩, for_list (K := K) (a := p) (xs := VL (prods xs i)) (fun j σ' H2 => ∃ u5 : Option V, σ' = [some (.ref a), some (.int (n : Int)), some (.ref p), some (.int (0 + (i : Int))), some (.ref q), u5, v6] ∧ Same H H2 ∧ H2 p = some (.lst (VL (prods xs i))) ∧ H2 q = some (.lst (VL (((prods xs i).take j).flatMap fun z => xs.map fun x => z * x))))
      ⟨v5, rfl, s2, (upd_ne qp).trans ep, upd_same⟩ (fun j σ' H2 _ ⟨_, _, _, e, _⟩ => SqL.of e) ?_ ?_⟩
    · rintro j y σ' H2 hy ⟨u5, rfl, f1, e1, e2⟩
      obtain ⟨z, jz, rfl⟩ := VL_get hy
      refine ⟨_, rfl, .inl ⟨rfl, _, SqL.of e2⟩, ?_⟩
      refine ⟨_, rfl, a, rfl, ⟨_, f1.seq ha⟩, fun d hd => lc_nums (f := fun x => z * x) hd (f1.seq ha) (by omega) (fun x hx H3 Q' f2 q' => ⟨_, rfl, _, rfl, _, _, rfl, rfl, .inr ⟨by have := hs x hx; omega, by have := hs x hx; omega⟩, q'⟩) fun H3 f2 e3 => ?_⟩
      have qd : q ≠ d := ne_of_none e2 hd
      have g2 := f2 _ _ e2
      refine ⟨q, d, _, _, rfl, rfl, g2, e3, ?_, ?_⟩
      · rw [List.length_map, List.length_map, List.length_map]
        have q1 : ∀ l : List Int, (l.flatMap fun p => xs.map fun x => p * x).length = l.length * xs.length := by
          intro l
          induction l with
          | nil => simp
          | cons a r ih => rw [List.flatMap_cons, List.length_append, ih, List.length_map, List.length_cons, Nat.succ_mul, Nat.add_comm]
        rw [q1, List.length_take]
        have : min j (prods xs i).length * xs.length ≤ 125 * 5 := Nat.mul_le_mul (by omega) h5
        exact Nat.le_trans (m := 1000) (by omega) (by decide)
      · refine ⟨some (.int z), rfl, fun b o r => ?_, ?_, ?_⟩
        · rw [upd_ne (ne_of_none r nq)]
          exact f2 _ _ (f1 _ _ r)
        · rw [upd_ne qp]
          exact f2 _ _ e1
        · rw [upd_same, take_get jz, List.flatMap_append]
          simp
    · rintro σ' H2 ⟨u5, rfl, f1, e1, e2⟩
      refine ⟨_, rfl, q, some (.int (0 + (i : Int))), some (.ref q), u5, v6, rfl, f1, nq, ?_⟩
      rw [e2, List.length_map, List.take_length]
      rfl
  · rintro σ H' ⟨p, v3, v4, v5, v6, rfl, s1, np, ep⟩
    exact ⟨_, rfl, k H' p s1 np ep⟩
theorem ok_sequence_product (T : Txt K mg C CI CN CU CO CP) (D : Def K mg "sequence_product" s_sequence_product ["parts", "signals"]) : Has P w K mg base CX0 1 "sequence_product" (spProd K) := by
  refine D.ok sc_sequence_product (fun vs H Q E h => ?_) (fun f cdv A outer s H vs Q E hr h => ?_)
  · obtain ⟨a, b, xs, ws, rfl, _⟩ := h
    rfl
  refine ⟨_, (pss_cons (ps_set (i := 2) sc_sequence_product.nd rfl (Or.inl rfl) pe_int) (pss_cons (ps_for PassesOwn.never rfl (pi_list (pv 1)) (pg_name (i := 3) sc_sequence_product.nd rfl (Or.inl rfl)) (pss_one (ps_aug (i := 2) sc_sequence_product.nd rfl (Or.inl rfl) (pe_ix ix_list (pv 0) (pv 3) (fun _ _ => rfl)) ip_mul))) (pss_one (ps_ret (pv 2))))), ?_⟩
  obtain ⟨a, b, xs, ws, rfl, ha, hb, hs, hw, k⟩ := h
  refine ⟨_, rfl, b, rfl, ⟨_, hb⟩, for_list (K := K) (a := b) (xs := VL (toI ws)) (fun i σ H' => ∃ v : Option V, σ = [some (.ref a), some (.ref b), some (.int (prodI ((ws.take i).map (at0 xs)))), v] ∧ H' = H) ⟨none, rfl, rfl⟩ (fun i σ H' _ ⟨_, _, e⟩ => by rw [e]; exact hb) ?_ ?_⟩
  · rintro i y σ H' hy ⟨v, rfl, rfl⟩
    obtain ⟨y, jy, rfl⟩ := VL_get hy
    obtain ⟨y, ky, rfl⟩ := toI_get jy
    have hl := hw y (List.mem_of_getElem? ky)
    have b1 := hs _ (at0_mem hl)
    refine ⟨_, rfl, _, rfl, _, rfl, a, _, _, _, rfl, rfl, ha, atI_nat (at0_get hl), _, _, rfl, rfl, .inr ⟨by omega, by omega⟩, some (.int (y : Int)), ?_, rfl⟩
    rw [take_get ky, List.map_append]
    show _ = [_, _, some (V.int (prodI ((ws.take i).map (at0 xs) ++ [at0 xs y]))), _]
    rw [prodI_snoc]
    rfl
  · rintro σ H' ⟨v, rfl, rfl⟩
    refine ⟨_, rfl, ?_⟩
    have e : (VL (toI ws)).length = ws.length := by rw [List.length_map, toI_length]
    rw [e, List.take_length]
    exact k _ (Same.refl _)
theorem ok_sequence_variation (T : Txt K mg C CI CN CU CO CP) (h_half_difference : Has P w K mg base CX0 3 "half_difference" (spPair K fun xs ys z => frac (hdiff xs ys) (2 * z))) (h_test_share_parts : Has P w K mg base CX0 1 "test_share_parts" (spML C tsp)) (h_production_share_parts : Has P w K mg base CX0 1 "production_share_parts" (spML C psp)) (h_share_whole : Has P w K mg base CX0 1 "share_whole" (spMI C sw))
    (h_power : Has P w K mg base CX0 1 "power" spPow) (h_sequence_products : Has P w K mg base CX0 1 "sequence_products" (spProds K)) (D : Def K mg "sequence_variation" s_sequence_variation ["model", "length"]) : Has P w K mg base CX0 4 "sequence_variation" (spMnL C okLen seqTv) := by
  refine D.ok sc_sequence_variation (fun vs H Q E h => ?_) (fun f cdv A outer s H vs Q E hr h => ?_)
  · obtain ⟨a, m, n, rfl, _⟩ := h
    rfl
  refine ⟨_, (pss_cons (ps_set (i := 2) sc_sequence_variation.nd rfl (Or.inl rfl) (pe_h h_sequence_products hr (by decide) rfl pass0 (pa_cons (pe_h h_test_share_parts hr (by decide) rfl pass0 (pa_cons (pv 0) pa_nil)) (pa_cons (pv 1) pa_nil)))) (pss_cons (ps_set (i := 3) sc_sequence_variation.nd rfl (Or.inl rfl) (pe_h h_sequence_products hr (by decide) rfl pass0 (pa_cons (pe_h h_production_share_parts hr (by decide) rfl pass0 (pa_cons (pv 0) pa_nil)) (pa_cons (pv 1) pa_nil)))) (pss_one (ps_ret (pe_h h_half_difference hr (by decide) rfl pass0 (pa_cons (pv 2) (pa_cons (pv 3) (pa_cons (pe_h h_power hr (by decide) rfl pass0 (pa_cons (pe_h h_share_whole hr (by decide) rfl pass0 (pa_cons (pv 0) pa_nil)) (pa_cons (pv 1) pa_nil))) pa_nil)))))))), ?_⟩
  obtain ⟨a, m, n, rfl, hm, ok, hn, k⟩ := h
  have hn' : n ≤ 3 := hn
  have b := sw_le ok
  have bp := sw_pow ok hn'
  have n5 := ok.n5
  have lt := tsp_length m
  have lp := (psp_length m).trans ok.len
  refine ⟨_, rfl, a, m, rfl, hm, ok, fun H1 p1 s1 n1 e1 => ?_⟩
  refine ⟨_, rfl, p1, tsp m, n, rfl, SqL.of e1, by omega, tsp_small ok, hn', fun H2 p2 s2 n2 e2 => ?_⟩
  refine ⟨_, rfl, a, m, rfl, hm.same (s1.trans s2), ok, fun H3 p3 s3 n3 e3 => ?_⟩
  refine ⟨_, rfl, p3, psp m, n, rfl, SqL.of e3, by omega, psp_small ok, hn', fun H4 p4 s4 n4 e4 => ?_⟩
  have s14 := ((s1.trans s2).trans s3).trans s4
  refine ⟨_, rfl, _, rfl, _, rfl, a, m, rfl, hm.same s14, ok, fun H5 s5 => ?_⟩
  refine ⟨_, rfl, sw m, n, rfl, ⟨by omega, by omega⟩, by omega, fun H6 s6 => ?_⟩
  refine ⟨p2, p4, prods (tsp m) n, prods (psp m) n, powI (sw m) n, rfl, SqL.of (s6 _ _ (s5 _ _ (s4 _ _ (s3 _ _ e2)))), SqL.of (s6 _ _ (s5 _ _ e4)), by rw [prods_len, prods_len, lt, lp], bp.1, pow_of (by omega) (by omega) (by omega),
    fun H7 p s7 n7 e7 => k H7 p (((s14.trans s5).trans s6).trans s7) (((s14.trans s5).trans s6).free n7) e7⟩
theorem ok_sequence_best_accuracy (T : Txt K mg C CI CN CU CO CP) (h_greater_sum : Has P w K mg base CX0 3 "greater_sum" (spPair K fun xs ys z => frac (gsum xs ys) z)) (h_test_share_parts : Has P w K mg base CX0 1 "test_share_parts" (spML C tsp)) (h_production_share_parts : Has P w K mg base CX0 1 "production_share_parts" (spML C psp)) (h_share_whole : Has P w K mg base CX0 1 "share_whole" (spMI C sw))
    (h_power : Has P w K mg base CX0 1 "power" spPow) (h_sequence_products : Has P w K mg base CX0 1 "sequence_products" (spProds K)) (D : Def K mg "sequence_best_accuracy" s_sequence_best_accuracy ["model", "length"]) : Has P w K mg base CX0 4 "sequence_best_accuracy" (spMnL C okLen seqAcc) := by
  refine D.ok sc_sequence_best_accuracy (fun vs H Q E h => ?_) (fun f cdv A outer s H vs Q E hr h => ?_)
  · obtain ⟨a, m, n, rfl, _⟩ := h
    rfl
  refine ⟨_, (pss_cons (ps_set (i := 2) sc_sequence_best_accuracy.nd rfl (Or.inr rfl) (pe_fld (pv 0) rfl)) (pss_cons (ps_set (i := 3) sc_sequence_best_accuracy.nd rfl (Or.inr rfl) (pe_op op_sub (pe_fld (pv 0) rfl) (pe_fld (pv 0) rfl))) (pss_cons (ps_set (i := 4) sc_sequence_best_accuracy.nd rfl (Or.inl rfl) (pe_h h_sequence_products hr (by decide) rfl pass0 (pa_cons (pe_h h_test_share_parts hr (by decide) rfl pass0 (pa_cons (pv 0) pa_nil)) (pa_cons (pv 1) pa_nil)))) (pss_cons (ps_set (i := 5) sc_sequence_best_accuracy.nd rfl (Or.inl rfl) (pe_h h_sequence_products hr (by decide) rfl pass0 (pa_cons (pe_h h_production_share_parts hr (by decide) rfl pass0 (pa_cons (pv 0) pa_nil)) (pa_cons (pv 1) pa_nil)))) (pss_one (ps_ret (pe_h h_greater_sum hr (by decide) rfl pass0 (pa_cons (pe_lc (own := [("product", 6)]) (g := gName 6) (tt := tYes) rfl sc_sequence_best_accuracy.nd (pi_list (pv 4)) (blkOk_by (N := ["model", "length", "test_factor", "production_factor", "tests", "productions", "product"]) (sc := defScope s_sequence_best_accuracy) (by decide +kernel)) (fun _ _ _ _ _ => pg_name (i := 6) sc_sequence_best_accuracy.nd rfl (Or.inl rfl)) (fun _ _ _ _ _ => pts_nil) (fun _ _ _ _ _ => by exact (pe_op op_mul (pv 2) (pv 6)))) (pa_cons (pe_lc (own := [("product", 6)]) (g := gName 6) (tt := tYes) rfl sc_sequence_best_accuracy.nd (pi_list (pv 5)) (blkOk_by (N := ["model", "length", "test_factor", "production_factor", "tests", "productions", "product"]) (sc := defScope s_sequence_best_accuracy) (by decide +kernel)) (fun _ _ _ _ _ => pg_name (i := 6) sc_sequence_best_accuracy.nd rfl (Or.inl rfl)) (fun _ _ _ _ _ => pts_nil) (fun _ _ _ _ _ => by exact (pe_op op_mul (pv 3) (pv 6)))) (pa_cons (pe_op op_mul (pe_fld (pv 0) rfl) (pe_h h_power hr (by decide) rfl pass0 (pa_cons (pe_h h_share_whole hr (by decide) rfl pass0 (pa_cons (pv 0) pa_nil)) (pa_cons (pv 1) pa_nil)))) pa_nil)))))))))), ?_⟩
  obtain ⟨a, m, n, rfl, hm, ok, hn, k⟩ := h
  have hn' : n ≤ 3 := hn
  have b := sw_le ok
  have bp := sw_pow ok hn'
  have n5 := ok.n5
  have b1 := ok.a
  have b2 := ok.b2
  have b3 := ok.b1
  have lt := tsp_length m
  have lp := (psp_length m).trans ok.len
  have lt3 : (prods (tsp m) n).length ≤ 125 := by rw [prods_len, lt]; exact five_pow n5 hn'
  have lp3 : (prods (psp m) n).length ≤ 125 := by rw [prods_len, lp]; exact five_pow n5 hn'
  obtain ⟨dx, pt, pp, h⟩ := id hm
  refine ⟨_, rfl, a, C, dx, _, _, rfl, h.o, T.cl, T.nA, mF_a, ?_⟩
  refine ⟨_, rfl, a, C, dx, _, _, rfl, h.o, T.cl, T.nB, mF_b, _, rfl, a, C, dx, _, _, rfl, h.o, T.cl, T.nA, mF_a, _, _, rfl, rfl, ?_⟩
  refine ⟨_, rfl, a, m, rfl, hm, ok, fun H1 p1 s1 n1 e1 => ?_⟩
  refine ⟨_, rfl, p1, tsp m, n, rfl, SqL.of e1, by omega, tsp_small ok, hn', fun H2 p2 s2 n2 e2 => ?_⟩
  refine ⟨_, rfl, a, m, rfl, hm.same (s1.trans s2), ok, fun H3 p3 s3 n3 e3 => ?_⟩
  refine ⟨_, rfl, p3, psp m, n, rfl, SqL.of e3, by omega, psp_small ok, hn', fun H4 p4 s4 n4 e4 => ?_⟩
  have s14 := ((s1.trans s2).trans s3).trans s4
  have e2' := s4 _ _ (s3 _ _ e2)
  refine ⟨_, rfl, p2, rfl, ⟨_, SqL.of e2'⟩, fun d1 hd1 => lc_nums (f := fun x => (m.priorNum : Int) * x) hd1 (SqL.of e2') (by omega) (fun x hx H5 Q' f5 q' => ⟨_, rfl, _, rfl, _, _, rfl, rfl, .inl ⟨by omega, by omega⟩, q'⟩) fun H5 s5 e5 => ?_⟩
  have e4' := s5 _ _ e4
  refine ⟨_, rfl, p4, rfl, ⟨_, SqL.of e4'⟩, fun d2 hd2 => lc_nums (f := fun x => ((m.priorDen : Int) - (m.priorNum : Int)) * x) hd2 (SqL.of e4') (by omega) (fun x hx H6 Q' f6 q' => ⟨_, rfl, _, rfl, _, _, rfl, rfl, .inl ⟨by omega, by omega⟩, q'⟩) fun H6 s6 e6 => ?_⟩
  have s16 := (s14.trans s5).trans s6
  have g6 := h.same s16
  refine ⟨_, rfl, a, C, dx, _, _, rfl, g6.o, T.cl, T.nB, mF_b, ?_⟩
  refine ⟨_, rfl, a, m, rfl, hm.same s16, ok, fun H7 s7 => ?_⟩
  refine ⟨_, rfl, sw m, n, rfl, ⟨by omega, by omega⟩, by omega, fun H8 s8 => ?_⟩
  have bw := mul_le_of (A := 99) (B := 2 ^ 110) (a := (m.priorDen : Int)) (b := powI (sw m) n) (by omega) (by omega) (by omega) bp.2
  refine ⟨_, _, rfl, rfl, .inl ⟨by omega, by omega⟩, d1, d2, _, _, (m.priorDen : Int) * powI (sw m) n, rfl, SqL.of (s8 _ _ (s7 _ _ (s6 _ _ e5))), SqL.of (s8 _ _ (s7 _ _ e6)), by rw [List.length_map, List.length_map, prods_len, prods_len, lt, lp], Int.mul_pos (by omega) bp.1, pow_of bw.1 (by omega) (by omega),
    fun H9 p s9 n9 e9 => k H9 p (((s16.trans s7).trans s8).trans s9) (((s16.trans s7).trans s8).free n9) e9⟩
theorem ok_sequence_test_part (T : Txt K mg C CI CN CU CO CP) (h_test_share_parts : Has P w K mg base CX0 1 "test_share_parts" (spML C tsp)) (h_sequence_product : Has P w K mg base CX0 1 "sequence_product" (spProd K)) (D : Def K mg "sequence_test_part" s_sequence_test_part ["model", "signals"]) :
    Has P w K mg base CX0 2 "sequence_test_part" (spMlI K C okSeq seqJt) := by
  refine D.ok sc_sequence_test_part (fun vs H Q E h => ?_) (fun f cdv A outer s H vs Q E hr h => ?_)
  · obtain ⟨a, m, l, ws, rfl, _⟩ := h
    rfl
  refine ⟨_, (pss_one (ps_ret (pe_op op_mul (pe_fld (pv 0) rfl) (pe_h h_sequence_product hr (by decide) rfl pass0 (pa_cons (pe_h h_test_share_parts hr (by decide) rfl pass0 (pa_cons (pv 0) pa_nil)) (pa_cons (pv 1) pa_nil)))))), ?_⟩
  obtain ⟨a, m, l, ws, rfl, hm, ok, hl, hw, k⟩ := h
  have b1 := ok.a
  have b2 := ok.b2
  obtain ⟨dx, pt, pp, h⟩ := id hm
  refine ⟨_, rfl, a, C, dx, _, _, rfl, h.o, T.cl, T.nA, mF_a, ?_⟩
  refine ⟨_, rfl, a, m, rfl, hm, ok, fun H1 p1 s1 n1 e1 => ?_⟩
  refine ⟨_, rfl, p1, l, tsp m, ws, rfl, SqL.of e1, s1.seq hl, tsp_small ok, (by rw [tsp_length]; exact hw.2), fun H2 s2 => ?_⟩
  exact ⟨_, _, rfl, rfl, .inl ⟨by omega, by omega⟩, k H2 (s1.trans s2)⟩
theorem ok_sequence_production_part (T : Txt K mg C CI CN CU CO CP) (h_production_share_parts : Has P w K mg base CX0 1 "production_share_parts" (spML C psp)) (h_sequence_product : Has P w K mg base CX0 1 "sequence_product" (spProd K)) (D : Def K mg "sequence_production_part" s_sequence_production_part ["model", "signals"]) :
    Has P w K mg base CX0 2 "sequence_production_part" (spMlI K C okSeq seqJp) := by
  refine D.ok sc_sequence_production_part (fun vs H Q E h => ?_) (fun f cdv A outer s H vs Q E hr h => ?_)
  · obtain ⟨a, m, l, ws, rfl, _⟩ := h
    rfl
  refine ⟨_, (pss_one (ps_ret (pe_op op_mul (pe_op op_sub (pe_fld (pv 0) rfl) (pe_fld (pv 0) rfl)) (pe_h h_sequence_product hr (by decide) rfl pass0 (pa_cons (pe_h h_production_share_parts hr (by decide) rfl pass0 (pa_cons (pv 0) pa_nil)) (pa_cons (pv 1) pa_nil)))))), ?_⟩
  obtain ⟨a, m, l, ws, rfl, hm, ok, hl, hw, k⟩ := h
  have b1 := ok.a
  have b2 := ok.b2
  obtain ⟨dx, pt, pp, h⟩ := id hm
  refine ⟨_, rfl, a, C, dx, _, _, rfl, h.o, T.cl, T.nB, mF_b, _, rfl, a, C, dx, _, _, rfl, h.o, T.cl, T.nA, mF_a, _, _, rfl, rfl, ?_⟩
  refine ⟨_, rfl, a, m, rfl, hm, ok, fun H1 p1 s1 n1 e1 => ?_⟩
  refine ⟨_, rfl, p1, l, psp m, ws, rfl, SqL.of e1, s1.seq hl, psp_small ok, (by rw [psp_length, ok.len]; exact hw.2), fun H2 s2 => ?_⟩
  exact ⟨_, _, rfl, rfl, .inl ⟨by omega, by omega⟩, k H2 (s1.trans s2)⟩
theorem ok_sequence_probability_part (T : Txt K mg C CI CN CU CO CP) (h_sequence_test_part : Has P w K mg base CX0 2 "sequence_test_part" (spMlI K C okSeq seqJt)) (h_sequence_production_part : Has P w K mg base CX0 2 "sequence_production_part" (spMlI K C okSeq seqJp)) (D : Def K mg "sequence_probability_part" s_sequence_probability_part ["model", "signals"]) :
    Has P w K mg base CX0 3 "sequence_probability_part" (spMlI K C okSeq seqProb) := by
  refine D.ok sc_sequence_probability_part (fun vs H Q E h => ?_) (fun f cdv A outer s H vs Q E hr h => ?_)
  · obtain ⟨a, m, l, ws, rfl, _⟩ := h
    rfl
  refine ⟨_, (pss_one (ps_ret (pe_op op_add (pe_h h_sequence_test_part hr (by decide) rfl pass0 (pa_cons (pv 0) (pa_cons (pv 1) pa_nil))) (pe_h h_sequence_production_part hr (by decide) rfl pass0 (pa_cons (pv 0) (pa_cons (pv 1) pa_nil)))))), ?_⟩
  obtain ⟨a, m, l, ws, rfl, hm, ok, hl, hw, k⟩ := h
  refine ⟨_, rfl, _, rfl, a, m, l, ws, rfl, hm, ok, hl, hw, fun H1 s1 => ?_⟩
  refine ⟨_, rfl, _, rfl, a, m, l, ws, rfl, hm.same s1, ok, s1.seq hl, hw, fun H2 s2 => ?_⟩
  exact ⟨_, _, rfl, rfl, k H2 (s1.trans s2)⟩
theorem ok_sequence_posterior_fraction (T : Txt K mg C CI CN CU CO CP) (h_lowest_terms : Has P w K mg base CX0 2 "lowest_terms" spLow) (h_sequence_test_part : Has P w K mg base CX0 2 "sequence_test_part" (spMlI K C okSeq seqJt)) (h_sequence_probability_part : Has P w K mg base CX0 3 "sequence_probability_part" (spMlI K C okSeq seqProb)) (D : Def K mg "sequence_posterior_fraction" s_sequence_posterior_fraction ["model", "signals"]) :
    Has P w K mg base CX0 4 "sequence_posterior_fraction" (spMlL K C okSeqP seqPost) := by
  refine D.ok sc_sequence_posterior_fraction (fun vs H Q E h => ?_) (fun f cdv A outer s H vs Q E hr h => ?_)
  · obtain ⟨a, m, l, ws, rfl, _⟩ := h
    rfl
  refine ⟨_, (pss_one (ps_ret (pe_h h_lowest_terms hr (by decide) rfl pass0 (pa_cons (pe_h h_sequence_test_part hr (by decide) rfl pass0 (pa_cons (pv 0) (pa_cons (pv 1) pa_nil))) (pa_cons (pe_h h_sequence_probability_part hr (by decide) rfl pass0 (pa_cons (pv 0) (pa_cons (pv 1) pa_nil))) pa_nil))))), ?_⟩
  obtain ⟨a, m, l, ws, rfl, hm, ok, hl, ⟨hw, h0⟩, k⟩ := h
  have q1 := seqJt_le ok hw
  have q2 := seqJp_le ok hw
  have q3 : 0 < seqProb m ws ∧ seqProb m ws < 2 ^ 150 := by
    unfold seqProb at h0 ⊢
    omega
  refine ⟨_, rfl, _, rfl, a, m, l, ws, rfl, hm, ok, hl, hw, fun H1 s1 => ?_⟩
  refine ⟨_, rfl, _, rfl, a, m, l, ws, rfl, hm.same s1, ok, s1.seq hl, hw, fun H2 s2 => ?_⟩
  exact ⟨_, _, rfl, q3.1, pow_of (by omega) q3.2 (by omega), fun H3 p s3 n3 e3 => k H3 p ((s1.trans s2).trans s3) ((s1.trans s2).free n3) e3⟩
end
end Kp
set_option Elab.async false
set_option linter.all false
set_option maxRecDepth 100000
set_option maxHeartbeats 4000000
namespace Kp
open PySem PySem.Spec PyProof.Rows L2
/-! ### sets of signals -/
def spPart (K : PySem.W.Frag) : Sp := fun vs H Q _ => ∃ (a : Addr) (xs : List Int) (mask : Nat), vs = [.ref a, .int (mask : Int)] ∧ SqL K H a (VL xs) ∧ RetI H Q (setPart xs mask)
def any1 (_ : Md) (_ : Nat) : Prop := True
def spDet (C : Addr) : Sp := fun vs H Q _ => ∃ (a : Addr) (m : Md) (num den : Nat), vs = [.ref a, .int (num : Int), .int (den : Int)] ∧ ModelAt C H a m ∧ Ok m ∧ num ≤ 99 ∧ den ≤ 99 ∧ RetI H Q ((detector m num den : Nat) : Int)
abbrev s_set_count : Stmt := topS 38
theorem sc_set_count : FnScope ["model"] ["model"] (defScope s_set_count) := ⟨rfl, rfl, rfl, by decide +kernel, rfl, by decide +kernel, by decide +kernel⟩
abbrev s_set_part : Stmt := topS 39
theorem sc_set_part : FnScope ["parts", "mask", "total", "signal", "part"] ["parts", "mask"] (defScope s_set_part) := ⟨rfl, rfl, rfl, by decide +kernel, rfl, by decide +kernel, by decide +kernel⟩
abbrev s_set_test_fraction : Stmt := topS 40
theorem sc_set_test_fraction : FnScope ["model", "mask"] ["model", "mask"] (defScope s_set_test_fraction) := ⟨rfl, rfl, rfl, by decide +kernel, rfl, by decide +kernel, by decide +kernel⟩
abbrev s_set_production_fraction : Stmt := topS 41
theorem sc_set_production_fraction : FnScope ["model", "mask"] ["model", "mask"] (defScope s_set_production_fraction) := ⟨rfl, rfl, rfl, by decide +kernel, rfl, by decide +kernel, by decide +kernel⟩
abbrev s_gap_parts : Stmt := topS 42
theorem sc_gap_parts : FnScope ["model", "gaps", "test_part", "production_part"] ["model"] (defScope s_gap_parts) := ⟨rfl, rfl, rfl, by decide +kernel, rfl, by decide +kernel, by decide +kernel⟩
abbrev s_set_gap_fraction : Stmt := topS 43
theorem sc_set_gap_fraction : FnScope ["model", "mask"] ["model", "mask"] (defScope s_set_gap_fraction) := ⟨rfl, rfl, rfl, by decide +kernel, rfl, by decide +kernel, by decide +kernel⟩
abbrev s_widest_mask : Stmt := topS 44
theorem sc_widest_mask : FnScope ["model", "gaps", "best", "mask"] ["model"] (defScope s_widest_mask) := ⟨rfl, rfl, rfl, by decide +kernel, rfl, by decide +kernel, by decide +kernel⟩
abbrev s_detector_mask : Stmt := topS 45
theorem sc_detector_mask : FnScope ["model", "num", "den", "tests", "productions", "bound", "best", "mask"] ["model", "num", "den"] (defScope s_detector_mask) := ⟨rfl, rfl, rfl, by decide +kernel, rfl, by decide +kernel, by decide +kernel⟩
theorem bit_is (mask i : Nat) : V.int ((mask : Int) / 2 ^ i) = V.int (((mask / 2 ^ i : Nat)) : Int) := by
  rw [Int.natCast_ediv, Int.natCast_pow]
  rfl
theorem bit_yes (mask i : Nat) : decide (V.int ((mask / 2 ^ i % 2 : Nat) : Int) = V.int 1) = Kp415.contains mask i := by
  unfold Kp415.contains
  by_cases c : mask / 2 ^ i % 2 = 1
  · rw [c]
    rfl
  · have e : (mask / 2 ^ i % 2 == 1) = false := by simp [c]
    rw [e]
    exact decide_eq_false fun z => c (by have := V.int.inj z; omega)
theorem two_pow (n : Nat) : V.int (2 ^ n) = V.int ((2 ^ n : Nat) : Int) := by
  rw [Int.natCast_pow]
  rfl
theorem cast_b {n : Nat} (h : n ≤ 32) : -(2 ^ 62) ≤ (n : Int) ∧ (n : Int) < 2 ^ 62 := by omega
theorem small_pow {n : Nat} (h : n ≤ 5) : 2 ^ n ≤ 32 := Nat.le_trans (Nat.pow_le_pow_right (by decide) h) (by decide)
theorem upTo_bound {l : List Int} {B : Int} (hB : 0 ≤ B) (h : ∀ z ∈ l, 0 ≤ z ∧ z ≤ B) (mask : Nat) : ∀ i, i ≤ l.length → 0 ≤ upTo l mask i ∧ upTo l mask i ≤ i * B
  | 0, _ => by
    show 0 ≤ (0 : Int) ∧ (0 : Int) ≤ ((0 : Nat) : Int) * B
    omega
  | i + 1, hi => by
    have ih := upTo_bound hB h mask i (by omega)
    have hx := h _ (at0_mem (l := l) (i := i) (by omega))
    rw [upTo_succ]
    have e : ((i + 1 : Nat) : Int) * B = (i : Int) * B + B := by rw [Int.natCast_add, Int.add_mul]; omega
    rw [e]
    by_cases c : Kp415.contains mask i = true
    · rw [if_pos c]
      omega
    · rw [if_neg c]
      omega
section
variable {P : Program} {w : World} {K : PySem.W.Frag} {mg : Str → Option Value} {base : Heap} {C CI CN CU CO CP : Addr}
theorem ok_set_count (T : Txt K mg C CI CN CU CO CP) (D : Def K mg "set_count" s_set_count ["model"]) : Has P w K mg base CX0 1 "set_count" (spMI C fun m => ((2 ^ m.testWeights.length : Nat) : Int)) := by
  refine D.ok sc_set_count (fun vs H Q E h => ?_) (fun f cdv A outer s H vs Q E hr h => ?_)
  · obtain ⟨a, m, rfl, _⟩ := h
    rfl
  refine ⟨_, (pss_one (ps_ret (pe_op op_oneShl pe_int (pe_fld (pv 0) rfl)))), ?_⟩
  obtain ⟨a, m, rfl, hm, ok, k⟩ := h
  have n5 := ok.n5
  obtain ⟨dx, pt, pp, h⟩ := id hm
  refine ⟨_, rfl, a, C, dx, _, _, rfl, h.o, T.cl, T.nC, mF_n, m.testWeights.length, rfl, rfl, by omega, ?_⟩
  show Q (V.int (2 ^ m.testWeights.length)) H
  rw [two_pow]
  exact k H (Same.refl H)
theorem ok_set_part (T : Txt K mg C CI CN CU CO CP) (D : Def K mg "set_part" s_set_part ["parts", "mask"]) : Has P w K mg base CX0 1 "set_part" (spPart K) := by
  refine D.ok sc_set_part (fun vs H Q E h => ?_) (fun f cdv A outer s H vs Q E hr h => ?_)
  · obtain ⟨a, xs, n, rfl, _⟩ := h
    rfl
  refine ⟨_, (pss_cons (ps_set (i := 2) sc_set_part.nd rfl (Or.inl rfl) pe_int) (pss_cons (ps_for PassesOwn.never rfl (pi_enum (by rfl) T.enumerate (pa_cons (pv 0) pa_nil)) (pg_tup rfl (pgs_cons (pg_name (i := 3) sc_set_part.nd rfl (Or.inl rfl)) (pgs_cons (pg_name (i := 4) sc_set_part.nd rfl (Or.inl rfl)) pgs_nil))) (pss_one (ps_if (pt_cmpR op_eq (pe_op op_odd (pe_op op_shrN (pv 1) (pv 3)) pe_int) pe_int (nomark _)) (pss_one (ps_aug (i := 2) sc_set_part.nd rfl (Or.inl rfl) (pv 4) ip_add)) pss_nil))) (pss_one (ps_ret (pv 2))))), ?_⟩
  obtain ⟨a, xs, n, rfl, ha, k⟩ := h
  have lx : (VL xs).length = xs.length := List.length_map ..
  refine ⟨_, rfl, a, VL xs, rfl, ha, for_it (walk_enum (K := K) (a := a) (xs := VL xs)) (fun i σ H' => ∃ v u : Option V, σ = [some (.ref a), some (.int (n : Int)), some (.int (upTo xs n i)), v, u] ∧ Same H H') ⟨none, none, rfl, Same.refl H⟩ (fun i σ H' _ ⟨_, _, _, s1⟩ => s1.seq ha) ?_ ?_⟩
  · rintro i t σ H' H2 hi ⟨v, u, rfl, s1⟩ ⟨tp, x, y, rfl, ht, rfl, hx, hy⟩
    cases hx
    obtain ⟨y, jy, rfl⟩ := VL_get hy
    have e0 : at0 xs i = y := by
      unfold at0
      rw [List.getD_eq_getElem?_getD, jy]
      rfl
    have s2 : Same H (upd H' tp (.tup [V.int (i : Nat), V.int y])) := s1.trans (Same.new ht)
    refine ⟨tp, _, rfl, SqT.of upd_same, rfl, _, _, rfl, _, _, rfl, rfl, ?_⟩
    refine ⟨_, rfl, _, rfl, (n : Int), i, rfl, rfl, n / 2 ^ i, bit_is n i, rfl, rfl, _, rfl, ?_⟩
    by_cases c : Kp415.contains n i = true
    · refine ifY ((bit_yes n i).trans c) ⟨_, rfl, _, rfl, _, _, rfl, rfl, some (.int (i : Nat)), some (.int y), ?_, s2⟩
      rw [upTo_succ, if_pos c, e0]
      rfl
    · refine ifN ((bit_yes n i).trans (by simpa using c)) ⟨some (.int (i : Nat)), some (.int y), ?_, s2⟩
      rw [upTo_succ, if_neg c]
      rfl
  · rintro σ H' ⟨v, u, rfl, s1⟩
    refine ⟨_, rfl, ?_⟩
    rw [lx]
    exact k H' s1
theorem ok_set_test_fraction (T : Txt K mg C CI CN CU CO CP) (h_lowest_terms : Has P w K mg base CX0 2 "lowest_terms" spLow) (h_set_part : Has P w K mg base CX0 1 "set_part" (spPart K)) (h_test_share_parts : Has P w K mg base CX0 1 "test_share_parts" (spML C tsp)) (h_share_whole : Has P w K mg base CX0 1 "share_whole" (spMI C sw)) (D : Def K mg "set_test_fraction" s_set_test_fraction ["model", "mask"]) :
    Has P w K mg base CX0 3 "set_test_fraction" (spMnL C any1 fun m n => Kp415.fraction (Kp415.setShare m.testWeights n)) := by
  refine D.ok sc_set_test_fraction (fun vs H Q E h => ?_) (fun f cdv A outer s H vs Q E hr h => ?_)
  · obtain ⟨a, m, n, rfl, _⟩ := h
    rfl
  refine ⟨_, (pss_one (ps_ret (pe_h h_lowest_terms hr (by decide) rfl pass0 (pa_cons (pe_h h_set_part hr (by decide) rfl pass0 (pa_cons (pe_h h_test_share_parts hr (by decide) rfl pass0 (pa_cons (pv 0) pa_nil)) (pa_cons (pv 1) pa_nil))) (pa_cons (pe_h h_share_whole hr (by decide) rfl pass0 (pa_cons (pv 0) pa_nil)) pa_nil))))), ?_⟩
  obtain ⟨a, m, n, rfl, hm, ok, hn, k⟩ := h
  have b := sw_le ok
  refine ⟨_, rfl, a, m, rfl, hm, ok, fun H1 p1 s1 n1 e1 => ?_⟩
  refine ⟨_, rfl, p1, tsp m, n, rfl, SqL.of e1, fun H2 s2 => ?_⟩
  refine ⟨_, rfl, a, m, rfl, hm.same (s1.trans s2), ok, fun H3 s3 => ?_⟩
  exact ⟨_, _, rfl, b.1, pow_of (by omega) (by omega) (by omega), fun H4 p s4 n4 e4 => (k.is (setf_t ok n)) H4 p (((s1.trans s2).trans s3).trans s4) (((s1.trans s2).trans s3).free n4) e4⟩
theorem ok_set_production_fraction (T : Txt K mg C CI CN CU CO CP) (h_lowest_terms : Has P w K mg base CX0 2 "lowest_terms" spLow) (h_set_part : Has P w K mg base CX0 1 "set_part" (spPart K)) (h_production_share_parts : Has P w K mg base CX0 1 "production_share_parts" (spML C psp)) (h_share_whole : Has P w K mg base CX0 1 "share_whole" (spMI C sw)) (D : Def K mg "set_production_fraction" s_set_production_fraction ["model", "mask"]) :
    Has P w K mg base CX0 3 "set_production_fraction" (spMnL C any1 fun m n => Kp415.fraction (Kp415.setShare m.productionWeights n)) := by
  refine D.ok sc_set_production_fraction (fun vs H Q E h => ?_) (fun f cdv A outer s H vs Q E hr h => ?_)
  · obtain ⟨a, m, n, rfl, _⟩ := h
    rfl
  refine ⟨_, (pss_one (ps_ret (pe_h h_lowest_terms hr (by decide) rfl pass0 (pa_cons (pe_h h_set_part hr (by decide) rfl pass0 (pa_cons (pe_h h_production_share_parts hr (by decide) rfl pass0 (pa_cons (pv 0) pa_nil)) (pa_cons (pv 1) pa_nil))) (pa_cons (pe_h h_share_whole hr (by decide) rfl pass0 (pa_cons (pv 0) pa_nil)) pa_nil))))), ?_⟩
  obtain ⟨a, m, n, rfl, hm, ok, hn, k⟩ := h
  have b := sw_le ok
  refine ⟨_, rfl, a, m, rfl, hm, ok, fun H1 p1 s1 n1 e1 => ?_⟩
  refine ⟨_, rfl, p1, psp m, n, rfl, SqL.of e1, fun H2 s2 => ?_⟩
  refine ⟨_, rfl, a, m, rfl, hm.same (s1.trans s2), ok, fun H3 s3 => ?_⟩
  exact ⟨_, _, rfl, b.1, pow_of (by omega) (by omega) (by omega), fun H4 p s4 n4 e4 => (k.is (setf_p ok n)) H4 p (((s1.trans s2).trans s3).trans s4) (((s1.trans s2).trans s3).free n4) e4⟩
theorem ok_gap_parts (T : Txt K mg C CI CN CU CO CP) (h_test_share_parts : Has P w K mg base CX0 1 "test_share_parts" (spML C tsp)) (h_production_share_parts : Has P w K mg base CX0 1 "production_share_parts" (spML C psp)) (D : Def K mg "gap_parts" s_gap_parts ["model"]) :
    Has P w K mg base CX0 2 "gap_parts" (spML C gaps) := by
  refine D.ok sc_gap_parts (fun vs H Q E h => ?_) (fun f cdv A outer s H vs Q E hr h => ?_)
  · obtain ⟨a, m, rfl, _⟩ := h
    rfl
  refine ⟨_, (pss_cons (ps_set (i := 1) sc_gap_parts.nd rfl (Or.inl rfl) (pe_lst pa_nil)) (pss_cons (ps_for PassesOwn.never rfl (pi_zip (by rfl) T.zip (pa_cons (pe_h h_test_share_parts hr (by decide) rfl pass0 (pa_cons (pv 0) pa_nil)) (pa_cons (pe_h h_production_share_parts hr (by decide) rfl pass0 (pa_cons (pv 0) pa_nil)) pa_nil))) (pg_tup rfl (pgs_cons (pg_name (i := 2) sc_gap_parts.nd rfl (Or.inl rfl)) (pgs_cons (pg_name (i := 3) sc_gap_parts.nd rfl (Or.inl rfl)) pgs_nil))) (pss_one (ps_expr (pe_bm PySem.F.plainAttrs_list PySem.F.slot_list_append PySem.F.type_list_append mt_append (pv 1) (pa_cons (pe_op op_sub (pv 2) (pv 3)) pa_nil))))) (pss_one (ps_ret (pv 1))))), ?_⟩
  obtain ⟨a, m, rfl, hm, ok, k⟩ := h
  have l1 := tsp_length m
  have l2 : (psp m).length = m.testWeights.length := (psp_length m).trans ok.len
  have l3 := gaps_length ok
  have n5 := ok.n5
  refine ⟨(by show 0 ≤ sizeLine; decide), fun d hd => ?_⟩
  have s0 : Same H (upd H d (.lst [])) := Same.new hd
  refine ⟨_, rfl, a, m, rfl, hm.same s0, ok, fun H1 p1 s1 n1 e1 => ?_⟩
  refine ⟨_, rfl, a, m, rfl, hm.same (s0.trans s1), ok, fun H2 p2 s2 n2 e2 => ?_⟩
  have d2 : H2 d = some (.lst []) := s2 _ _ (s1 _ _ upd_same)
  have q1 : p1 ≠ d := fun z => by
    rw [z, upd_same] at n1
    cases n1
  have q2 : p2 ≠ d := fun z => by
    rw [z, s1 _ _ upd_same] at n2
    cases n2
  refine ⟨p1, p2, VL (tsp m), VL (psp m), rfl, SqL.of (s2 _ _ e1), SqL.of e2, RZ.for_zipL (by rw [List.length_map, List.length_map, l1, l2]) (fun i σ H' => ∃ v u : Option V, σ = [some (.ref a), some (.ref d), v, u] ∧ Else d H2 H' ∧ H' d = some (.lst (VL ((gaps m).take i))))
    ⟨none, none, rfl, Same.els (Same.refl _), d2⟩ (fun i σ H' ⟨_, _, _, f1, _⟩ => ⟨SqL.of (f1 _ _ (s2 _ _ e1) q1), SqL.of (f1 _ _ e2 q2)⟩) ?_ ?_⟩
  · rintro i x y t σ H' ix iy ⟨v, u, rfl, f1, d3⟩ ht
    obtain ⟨x, jx, rfl⟩ := VL_get ix
    obtain ⟨y, jy, rfl⟩ := VL_get iy
    have hi : (gaps m)[i]? = some (x - y) := map_get (f := fun p : Int × Int => p.1 - p.2) (zip_get jx jy)
    have td : d ≠ t := fun z => by
      rw [← z, d3] at ht
      cases ht
    have dd : (upd H' t (.tup [V.int x, V.int y])) d = some (.lst (VL ((gaps m).take i))) := by
      rw [upd_ne td]
      exact d3
    have sz : (VL ((gaps m).take i)).length < sizeLine := by
      rw [List.length_map, List.length_take]
      exact Nat.lt_of_le_of_lt (m := 5) (by omega) (by decide)
    refine ⟨t, _, rfl, SqT.of upd_same, rfl, _, _, rfl, _, _, rfl, rfl, ?_⟩
    refine ⟨_, rfl, .inl ⟨rfl, _, SqL.of dd⟩, _, rfl, _, rfl, _, _, rfl, rfl, d, _, _, rfl, rfl, dd, sz, ?_⟩
    refine ⟨some (.int x), some (.int y), rfl, f1.trans ((Same.els (Same.new ht)).trans Else.upd), ?_⟩
    rw [upd_same, take_get hi]
    simp
  · rintro σ H' ⟨v, u, rfl, f1, d3⟩
    refine ⟨_, rfl, k H' d (fun b o q => f1 b o (s2 _ _ (s1 _ _ (s0 _ _ q))) (ne_of_none q hd)) hd ?_⟩
    have e : (VL (tsp m)).length = (gaps m).length := by
      rw [List.length_map]
      omega
    rw [d3, e, List.take_length]
theorem ok_set_gap_fraction (T : Txt K mg C CI CN CU CO CP) (h_lowest_terms : Has P w K mg base CX0 2 "lowest_terms" spLow) (h_set_part : Has P w K mg base CX0 1 "set_part" (spPart K)) (h_gap_parts : Has P w K mg base CX0 2 "gap_parts" (spML C gaps)) (h_share_whole : Has P w K mg base CX0 1 "share_whole" (spMI C sw)) (D : Def K mg "set_gap_fraction" s_set_gap_fraction ["model", "mask"]) :
    Has P w K mg base CX0 3 "set_gap_fraction" (spMnL C any1 fun m n => Kp415.fraction (Kp415.shareGap m n)) := by
  refine D.ok sc_set_gap_fraction (fun vs H Q E h => ?_) (fun f cdv A outer s H vs Q E hr h => ?_)
  · obtain ⟨a, m, n, rfl, _⟩ := h
    rfl
  refine ⟨_, (pss_one (ps_ret (pe_h h_lowest_terms hr (by decide) rfl pass0 (pa_cons (pe_h h_set_part hr (by decide) rfl pass0 (pa_cons (pe_h h_gap_parts hr (by decide) rfl pass0 (pa_cons (pv 0) pa_nil)) (pa_cons (pv 1) pa_nil))) (pa_cons (pe_h h_share_whole hr (by decide) rfl pass0 (pa_cons (pv 0) pa_nil)) pa_nil))))), ?_⟩
  obtain ⟨a, m, n, rfl, hm, ok, hn, k⟩ := h
  have b := sw_le ok
  refine ⟨_, rfl, a, m, rfl, hm, ok, fun H1 p1 s1 n1 e1 => ?_⟩
  refine ⟨_, rfl, p1, gaps m, n, rfl, SqL.of e1, fun H2 s2 => ?_⟩
  refine ⟨_, rfl, a, m, rfl, hm.same (s1.trans s2), ok, fun H3 s3 => ?_⟩
  exact ⟨_, _, rfl, b.1, pow_of (by omega) (by omega) (by omega), fun H4 p s4 n4 e4 => (k.is (setf_g ok n)) H4 p (((s1.trans s2).trans s3).trans s4) (((s1.trans s2).trans s3).free n4) e4⟩
theorem ok_widest_mask (T : Txt K mg C CI CN CU CO CP) (h_set_part : Has P w K mg base CX0 1 "set_part" (spPart K)) (h_set_count : Has P w K mg base CX0 1 "set_count" (spMI C fun m => ((2 ^ m.testWeights.length : Nat) : Int))) (h_gap_parts : Has P w K mg base CX0 2 "gap_parts" (spML C gaps)) (D : Def K mg "widest_mask" s_widest_mask ["model"]) :
    Has P w K mg base CX0 3 "widest_mask" (spMI C fun m => ((widest m : Nat) : Int)) := by
  refine D.ok sc_widest_mask (fun vs H Q E h => ?_) (fun f cdv A outer s H vs Q E hr h => ?_)
  · obtain ⟨a, m, rfl, _⟩ := h
    rfl
  refine ⟨_, (pss_cons (ps_set (i := 1) sc_widest_mask.nd rfl (Or.inl rfl) (pe_h h_gap_parts hr (by decide) rfl pass0 (pa_cons (pv 0) pa_nil))) (pss_cons (ps_set (i := 2) sc_widest_mask.nd rfl (Or.inl rfl) pe_int) (pss_cons (ps_for PassesOwn.never rfl (pi_range1 rfl T.range (pa_cons (pe_h h_set_count hr (by decide) rfl pass0 (pa_cons (pv 0) pa_nil)) pa_nil)) (pg_name (i := 3) sc_widest_mask.nd rfl (Or.inl rfl)) (pss_one (ps_if (pt_cmpR op_gt (pe_h h_set_part hr (by decide) rfl pass0 (pa_cons (pv 1) (pa_cons (pv 3) pa_nil))) (pe_h h_set_part hr (by decide) rfl pass0 (pa_cons (pv 1) (pa_cons (pv 2) pa_nil))) (nomark _)) (pss_one (ps_set (i := 2) sc_widest_mask.nd rfl (Or.inl rfl) (pv 3))) pss_nil))) (pss_one (ps_ret (pv 2)))))), ?_⟩
  obtain ⟨a, m, rfl, hm, ok, k⟩ := h
  have n5 := small_pow ok.n5
  refine ⟨_, rfl, a, m, rfl, hm, ok, fun H1 p1 s1 n1 e1 => ?_⟩
  refine ⟨_, rfl, a, m, rfl, hm.same s1, ok, fun H2 s2 => ?_⟩
  have e2 := s2 _ _ e1
  have hg : ∀ best set, widStep (gaps m) best set = if setPart (gaps m) best < setPart (gaps m) set then set else best := fun _ _ => rfl
  have hk : widest m = (List.range (2 ^ m.testWeights.length)).foldl (widStep (gaps m)) 0 := rfl
  generalize widStep (gaps m) = F at hg hk
  refine ⟨((2 ^ m.testWeights.length : Nat) : Int), rfl, (cast_b n5).1, (cast_b n5).2, for_range (n := 2 ^ m.testWeights.length) (fun i σ H' => ∃ v : Option V, σ = [some (.ref a), some (.ref p1), some (.int (((List.range i).foldl F 0 : Nat) : Int)), v] ∧ Same H2 H') ⟨none, rfl, Same.refl _⟩ ?_ ?_⟩
  · rintro i σ H' hi ⟨v, rfl, s3⟩
    have ei : V.int (0 + (i : Int)) = V.int ((i : Nat) : Int) := by rw [Int.zero_add]
    have es : (List.range (i + 1)).foldl F 0 = F ((List.range i).foldl F 0) i := by
      rw [List.range_succ, List.foldl_append]
      rfl
    rw [ei]
    refine ⟨_, rfl, _, rfl, p1, gaps m, i, rfl, SqL.of (s3 _ _ e2), fun H3 s4 => ?_⟩
    refine ⟨_, rfl, _, rfl, p1, gaps m, (List.range i).foldl F 0, rfl, SqL.of (s4 _ _ (s3 _ _ e2)), fun H4 s5 => ?_⟩
    refine ⟨_, _, rfl, rfl, _, rfl, ?_⟩
    have fin : ∀ {H6 : Hp} {r : Nat}, Same H' H6 → F ((List.range i).foldl F 0) i = r → ∃ v : Option V, [some (V.ref a), some (.ref p1), some (.int ((r : Nat) : Int)), some (V.int ((i : Nat) : Int))] = [some (.ref a), some (.ref p1), some (.int (((List.range (i + 1)).foldl F 0 : Nat) : Int)), v] ∧ Same H2 H6 := fun s6 er =>
      ⟨some (.int ((i : Nat) : Int)), by rw [es, er], s3.trans s6⟩
    by_cases c : setPart (gaps m) ((List.range i).foldl F 0) < setPart (gaps m) i
    · refine ifY (decide_eq_true c) ⟨_, rfl, ?_⟩
      exact fin (s4.trans s5) ((hg _ _).trans (if_pos c))
    · refine ifN (decide_eq_false c) ?_
      exact fin (s4.trans s5) ((hg _ _).trans (if_neg c))
  · rintro σ H' ⟨v, rfl, s3⟩
    refine ⟨_, rfl, ?_⟩
    rw [← hk]
    exact k H' ((s1.trans s2).trans s3)
theorem ok_detector_mask (T : Txt K mg C CI CN CU CO CP) (h_set_part : Has P w K mg base CX0 1 "set_part" (spPart K)) (h_set_count : Has P w K mg base CX0 1 "set_count" (spMI C fun m => ((2 ^ m.testWeights.length : Nat) : Int))) (h_test_share_parts : Has P w K mg base CX0 1 "test_share_parts" (spML C tsp)) (h_production_share_parts : Has P w K mg base CX0 1 "production_share_parts" (spML C psp)) (h_share_whole : Has P w K mg base CX0 1 "share_whole" (spMI C sw))
    (D : Def K mg "detector_mask" s_detector_mask ["model", "num", "den"]) : Has P w K mg base CX0 2 "detector_mask" (spDet C) := by
  refine D.ok sc_detector_mask (fun vs H Q E h => ?_) (fun f cdv A outer s H vs Q E hr h => ?_)
  · obtain ⟨a, m, num, den, rfl, _⟩ := h
    rfl
  refine ⟨_, (pss_cons (ps_set (i := 3) sc_detector_mask.nd rfl (Or.inl rfl) (pe_h h_test_share_parts hr (by decide) rfl pass0 (pa_cons (pv 0) pa_nil))) (pss_cons (ps_set (i := 4) sc_detector_mask.nd rfl (Or.inl rfl) (pe_h h_production_share_parts hr (by decide) rfl pass0 (pa_cons (pv 0) pa_nil))) (pss_cons (ps_set (i := 5) sc_detector_mask.nd rfl (Or.inl rfl) (pe_op op_mul (pv 1) (pe_h h_share_whole hr (by decide) rfl pass0 (pa_cons (pv 0) pa_nil)))) (pss_cons (ps_set (i := 6) sc_detector_mask.nd rfl (Or.inl rfl) pe_int) (pss_cons (ps_for PassesOwn.never rfl (pi_range1 rfl T.range (pa_cons (pe_h h_set_count hr (by decide) rfl pass0 (pa_cons (pv 0) pa_nil)) pa_nil)) (pg_name (i := 7) sc_detector_mask.nd rfl (Or.inl rfl)) (pss_one (ps_if (PW.pt (pw_and (pt_cmpR op_le (pe_op op_mul (pe_h h_set_part hr (by decide) rfl pass0 (pa_cons (pv 4) (pa_cons (pv 7) pa_nil))) (pv 2)) (pv 5) (nomark _)) (pw_and1 (pt_cmpR op_gt (pe_h h_set_part hr (by decide) rfl pass0 (pa_cons (pv 3) (pa_cons (pv 7) pa_nil))) (pe_h h_set_part hr (by decide) rfl pass0 (pa_cons (pv 3) (pa_cons (pv 6) pa_nil))) (nomark _))))) (pss_one (ps_set (i := 6) sc_detector_mask.nd rfl (Or.inl rfl) (pv 7))) pss_nil))) (pss_one (ps_ret (pv 6)))))))), ?_⟩
  obtain ⟨a, m, num, den, rfl, hm, ok, hn, hd, k⟩ := h
  have n5 := small_pow ok.n5
  refine ⟨_, rfl, a, m, rfl, hm, ok, fun H1 p1 s1 n1 e1 => ?_⟩
  refine ⟨_, rfl, a, m, rfl, hm.same s1, ok, fun H2 p2 s2 n2 e2 => ?_⟩
  refine ⟨_, rfl, _, rfl, a, m, rfl, hm.same (s1.trans s2), ok, fun H3 s3 => ?_⟩
  refine ⟨_, _, rfl, rfl, .inl ⟨by omega, by omega⟩, ?_⟩
  refine ⟨_, rfl, a, m, rfl, hm.same ((s1.trans s2).trans s3), ok, fun H4 s4 => ?_⟩
  have g1 := s4 _ _ (s3 _ _ (s2 _ _ e1))
  have g2 := s4 _ _ (s3 _ _ e2)
  have hg : ∀ best set, detStep (tsp m) (psp m) ((num : Int) * sw m) (den : Int) best set = if setPart (psp m) set * (den : Int) ≤ (num : Int) * sw m ∧ setPart (tsp m) best < setPart (tsp m) set then set else best := fun _ _ => rfl
  have hk : detector m num den = (List.range (2 ^ m.testWeights.length)).foldl (detStep (tsp m) (psp m) ((num : Int) * sw m) (den : Int)) 0 := rfl
  generalize detStep (tsp m) (psp m) ((num : Int) * sw m) (den : Int) = F at hg hk
  refine ⟨((2 ^ m.testWeights.length : Nat) : Int), rfl, (cast_b n5).1, (cast_b n5).2, for_range (n := 2 ^ m.testWeights.length) (fun i σ H' => ∃ v : Option V, σ = [some (.ref a), some (.int (num : Int)), some (.int (den : Int)), some (.ref p1), some (.ref p2), some (.int ((num : Int) * sw m)), some (.int (((List.range i).foldl F 0 : Nat) : Int)), v] ∧ Same H4 H') ⟨none, rfl, Same.refl _⟩ ?_ ?_⟩
  · rintro i σ H' hi ⟨v, rfl, s5⟩
    have ei : V.int (0 + (i : Int)) = V.int ((i : Nat) : Int) := by rw [Int.zero_add]
    have es : (List.range (i + 1)).foldl F 0 = F ((List.range i).foldl F 0) i := by
      rw [List.range_succ, List.foldl_append]
      rfl
    rw [ei]
    have fin : ∀ {H6 : Hp} {r : Nat}, Same H' H6 → F ((List.range i).foldl F 0) i = r → ∃ v : Option V, [some (V.ref a), some (.int (num : Int)), some (.int (den : Int)), some (.ref p1), some (.ref p2), some (.int ((num : Int) * sw m)), some (.int ((r : Nat) : Int)), some (V.int ((i : Nat) : Int))] = [some (.ref a), some (.int (num : Int)), some (.int (den : Int)), some (.ref p1), some (.ref p2), some (.int ((num : Int) * sw m)), some (.int (((List.range (i + 1)).foldl F 0 : Nat) : Int)), v] ∧ Same H4 H6 := fun s6 er =>
      ⟨some (.int ((i : Nat) : Int)), by rw [es, er], s5.trans s6⟩
    refine ⟨_, rfl, _, rfl, p2, psp m, i, rfl, SqL.of (s5 _ _ g2), fun H6 s6 => ?_⟩
    refine ⟨_, rfl, _, _, rfl, rfl, .inr ⟨by omega, by omega⟩, _, rfl, _, _, rfl, rfl, _, rfl, ?_⟩
    by_cases c1 : setPart (psp m) i * (den : Int) ≤ (num : Int) * sw m
    · refine ifY (decide_eq_true c1) ?_
      refine ⟨_, rfl, _, rfl, p1, tsp m, i, rfl, SqL.of (s6 _ _ (s5 _ _ g1)), fun H7 s7 => ?_⟩
      refine ⟨_, rfl, _, rfl, p1, tsp m, (List.range i).foldl F 0, rfl, SqL.of (s7 _ _ (s6 _ _ (s5 _ _ g1))), fun H8 s8 => ?_⟩
      refine ⟨_, _, rfl, rfl, _, rfl, ?_⟩
      by_cases c2 : setPart (tsp m) ((List.range i).foldl F 0) < setPart (tsp m) i
      · refine ifY (decide_eq_true c2) ⟨_, rfl, ?_⟩
        exact fin ((s6.trans s7).trans s8) ((hg _ _).trans (if_pos ⟨c1, c2⟩))
      · refine ifN (decide_eq_false c2) ?_
        exact fin ((s6.trans s7).trans s8) ((hg _ _).trans (if_neg fun z => c2 z.2))
    · refine ifN (decide_eq_false c1) ?_
      refine ifN rfl ?_
      exact fin s6 ((hg _ _).trans (if_neg fun z => c1 z.1))
  · rintro σ H' ⟨v, rfl, s5⟩
    refine ⟨_, rfl, ?_⟩
    rw [← hk]
    exact k H' ((((s1.trans s2).trans s3).trans s4).trans s5)
end
end Kp
set_option Elab.async false
set_option linter.all false
set_option maxRecDepth 100000
set_option maxHeartbeats 4000000
namespace Kp
open PySem PySem.Spec PyProof.Rows L2
/-! ### the checks -/
def ErrE (H : Hp) (E : XK) (c : Addr) : Prop := ∀ H', Same H H' → E (.ref c) none H'
structure Outc (H : Hp) (Q : VK) (E : XK) (c : Addr) (b : Bool) : Prop where
  yes : b = true → ∀ H', Same H H' → Q .non H'
  no : b = false → ErrE H E c
def spChkL (K : PySem.W.Frag) (C c : Addr) (test : Md → List Nat → Bool) : Sp := fun vs H Q E => ∃ a m l ns, vs = [.ref a, .ref l] ∧ ModelAt C H a m ∧ Ok m ∧ SqL K H l (VL (toI ns)) ∧ Outc H Q E c (test m ns)
def spChkN (C c : Addr) (test : Md → Nat → Bool) : Sp := fun vs H Q E => ∃ a m n, vs = [.ref a, .int ((n : Nat) : Int)] ∧ ModelAt C H a m ∧ Ok m ∧ Outc H Q E c (test m n)
def spChkF (c : Addr) : Sp := fun vs H Q E => ∃ num den : Nat, vs = [.int (num : Int), .int (den : Int)] ∧ Outc H Q E c (Kp415.validFraction num den)
def spChkK (c : Addr) : Sp := fun vs H Q E => ∃ n : Nat, vs = [.int (n : Int)] ∧ Outc H Q E c (decide (n ≤ 3))
def spChkP (C cu cp : Addr) : Sp := fun vs H Q E => ∃ a m n, vs = [.ref a, .int ((n : Nat) : Int)] ∧ ModelAt C H a m ∧ Ok m ∧ (Kp415.isSignal m n = false → ErrE H E cu) ∧ (Kp415.isSignal m n = true → at0 (jtp m) n + at0 (jpp m) n = 0 → ErrE H E cp) ∧
  (Kp415.isSignal m n = true → at0 (jtp m) n + at0 (jpp m) n ≠ 0 → ∀ H', Same H H' → Q .non H')
def sigs (m : Md) (l : List Nat) : Bool := l.all (Kp415.isSignal m)
def seqIn (m : Md) (l : List Nat) : Bool := decide (l.length ≤ 6) && sigs m l
def spChkS (K : PySem.W.Frag) (C co cp : Addr) : Sp := fun vs H Q E => ∃ a m l ns, vs = [.ref a, .ref l] ∧ ModelAt C H a m ∧ Ok m ∧ SqL K H l (VL (toI ns)) ∧ (seqIn m ns = false → ErrE H E co) ∧ (seqIn m ns = true → seqProb m ns = 0 → ErrE H E cp) ∧ (seqIn m ns = true → seqProb m ns ≠ 0 → ∀ H', Same H H' → Q .non H')
theorem isSig_iff {m : Md} {n : Nat} : Kp415.isSignal m n = true ↔ n < m.testWeights.length := by
  unfold Kp415.isSignal Kp415.signalCount
  exact decide_eq_true_iff
theorem isSig_not {m : Md} {n : Nat} : Kp415.isSignal m n = false ↔ m.testWeights.length ≤ n := by
  unfold Kp415.isSignal Kp415.signalCount
  rw [decide_eq_false_iff_not]
  omega
theorem sigs_iff {m : Md} {l : List Nat} : sigs m l = true ↔ ∀ x ∈ l, x < m.testWeights.length := by
  unfold sigs
  rw [List.all_eq_true]
  exact ⟨fun h x hx => isSig_iff.mp (h x hx), fun h x hx => isSig_iff.mpr (h x hx)⟩
theorem seqIn_iff {m : Md} {l : List Nat} : seqIn m l = true ↔ okSeq m l := by
  unfold seqIn okSeq
  rw [Bool.and_eq_true, decide_eq_true_iff, sigs_iff]
theorem map_iff {m : Md} {l : List Nat} : Kp415.validMapping m l = true ↔ okMap m l := by
  unfold Kp415.validMapping okMap Kp415.signalCount
  rw [Bool.and_eq_true, decide_eq_true_iff]
  exact ⟨fun h => ⟨h.1, sigs_iff.mp h.2⟩, fun h => ⟨h.1, sigs_iff.mpr h.2⟩⟩
theorem frac_iff {num den : Nat} : Kp415.validFraction num den = true ↔ num ≤ den ∧ 1 ≤ den ∧ den ≤ 99 := by
  unfold Kp415.validFraction
  rw [Bool.and_eq_true, Bool.and_eq_true, decide_eq_true_iff, decide_eq_true_iff, decide_eq_true_iff, and_assoc]
theorem wts_iff {m : Md} {l : List Nat} : Kp415.validWeights m l = true ↔ l.length = m.testWeights.length ∧ (∀ x ∈ l, x ≤ 99) ∧ 0 < l.sum := by
  unfold Kp415.validWeights Kp415.signalCount
  rw [Bool.and_eq_true, Bool.and_eq_true, decide_eq_true_iff, decide_eq_true_iff, List.all_eq_true, and_assoc]
  exact ⟨fun h => ⟨h.1, fun x hx => of_decide_eq_true (h.2.1 x hx), h.2.2⟩, fun h => ⟨h.1, fun x hx => decide_eq_true (h.2.1 x hx), h.2.2⟩⟩
theorem not_of {b : Bool} {p : Prop} (h : b = true ↔ p) (n : ¬ p) : b = false := by
  cases b with
  | false => rfl
  | true => exact absurd (h.mp rfl) n
theorem sum_zero : ∀ {l : List Nat}, (∀ x ∈ l, x = 0) → l.sum = 0
  | [], _ => rfl
  | a :: r, h => by
    rw [List.sum_cons, sum_zero fun x hx => h x (List.mem_cons_of_mem _ hx), h a List.mem_cons_self]
theorem toI_of {l : List Nat} {z : Int} (h : z ∈ toI l) : ∃ x, x ∈ l ∧ z = ((x : Nat) : Int) := by
  obtain ⟨x, hx, rfl⟩ := List.mem_map.mp h
  exact ⟨x, hx, rfl⟩
theorem toI_in {l : List Nat} {x : Nat} (h : x ∈ l) : ((x : Nat) : Int) ∈ toI l := List.mem_map.mpr ⟨x, h, rfl⟩
theorem dec_int {a b : Int} : decide (V.int a = V.int b) = decide (a = b) := by
  by_cases c : a = b
  · rw [c]
    simp
  · rw [decide_eq_false c]
    exact decide_eq_false fun z => c (V.int.inj z)
abbrev s_check_weights : Stmt := topS 57
theorem sc_check_weights : FnScope ["model", "weights"] ["model", "weights"] (defScope s_check_weights) := ⟨rfl, rfl, rfl, by decide +kernel, rfl, by decide +kernel, by decide +kernel⟩
abbrev s_check_fraction : Stmt := topS 58
theorem sc_check_fraction : FnScope ["num", "den"] ["num", "den"] (defScope s_check_fraction) := ⟨rfl, rfl, rfl, by decide +kernel, rfl, by decide +kernel, by decide +kernel⟩
abbrev s_check_signal : Stmt := topS 59
theorem sc_check_signal : FnScope ["model", "signal"] ["model", "signal"] (defScope s_check_signal) := ⟨rfl, rfl, rfl, by decide +kernel, rfl, by decide +kernel, by decide +kernel⟩
abbrev s_check_posterior : Stmt := topS 60
theorem sc_check_posterior : FnScope ["model", "signal"] ["model", "signal"] (defScope s_check_posterior) := ⟨rfl, rfl, rfl, by decide +kernel, rfl, by decide +kernel, by decide +kernel⟩
abbrev s_check_signals : Stmt := topS 61
theorem sc_check_signals : FnScope ["model", "signals", "signal"] ["model", "signals"] (defScope s_check_signals) := ⟨rfl, rfl, rfl, by decide +kernel, rfl, by decide +kernel, by decide +kernel⟩
abbrev s_check_mapping : Stmt := topS 62
theorem sc_check_mapping : FnScope ["model", "mapping"] ["model", "mapping"] (defScope s_check_mapping) := ⟨rfl, rfl, rfl, by decide +kernel, rfl, by decide +kernel, by decide +kernel⟩
abbrev s_check_length : Stmt := topS 63
theorem sc_check_length : FnScope ["length"] ["length"] (defScope s_check_length) := ⟨rfl, rfl, rfl, by decide +kernel, rfl, by decide +kernel, by decide +kernel⟩
abbrev s_check_sequence : Stmt := topS 64
theorem sc_check_sequence : FnScope ["model", "signals"] ["model", "signals"] (defScope s_check_sequence) := ⟨rfl, rfl, rfl, by decide +kernel, rfl, by decide +kernel, by decide +kernel⟩
abbrev s_check_set : Stmt := topS 65
theorem sc_check_set : FnScope ["model", "mask"] ["model", "mask"] (defScope s_check_set) := ⟨rfl, rfl, rfl, by decide +kernel, rfl, by decide +kernel, by decide +kernel⟩
section
variable {P : Program} {w : World} {K : PySem.W.Frag} {mg : Str → Option Value} {base : Heap} {C CI CN CU CO CP : Addr}
theorem ok_check_weights (T : Txt K mg C CI CN CU CO CP) (D : Def K mg "check_weights" s_check_weights ["model", "weights"]) : Has P w K mg base (L2.CX P w) 1 "check_weights" (spChkL K C CO Kp415.validWeights) := by
  refine D.okX sc_check_weights (fun vs H Q E h => ?_) (fun f cdv A outer s H vs Q E hr h => ?_)
  · obtain ⟨a, m, l, ns, rfl, _⟩ := h
    rfl
  refine ⟨_, (pss_cons (ps_if (pt_cmpR op_ne (pe_callB call_len_seq (by rfl) T.len PySem.boot_len (pa_cons (pv 1) pa_nil)) (pe_fld (pv 0) rfl) (nomark _)) (pss_one (ps_raise rfl (takes_of rfl rfl rfl rfl) (pmk_own0 PySem.F.excBase_Exception T.xO T.gO T.kO (raises_own T.bO T.tO) (by exact rfl)))) pss_nil) (pss_one (ps_if (PW.pt (pw_or (pt_cmpR op_gt (pe_callB (cr_max rfl) (by rfl) T.max (by decide +kernel) (pa_cons (pv 1) pa_nil)) (pe_gc rfl T.gGREATEST_WEIGHT) (nomark _)) (pw_or1 (pt_cmpR op_eq (pe_callB (cr_max rfl) (by rfl) T.max (by decide +kernel) (pa_cons (pv 1) pa_nil)) pe_int (nomark _))))) (pss_one (ps_raise rfl (takes_of rfl rfl rfl rfl) (pmk_own0 PySem.F.excBase_Exception T.xO T.gO T.kO (raises_own T.bO T.tO) (by exact rfl)))) pss_nil))), ?_⟩
  obtain ⟨a, m, l, ns, rfl, hm, ok, hl, k⟩ := h
  obtain ⟨dx, pt, pp, h⟩ := id hm
  have ln : (VL (toI ns)).length = ns.length := by rw [List.length_map, toI_length]
  refine ⟨_, rfl, l, _, rfl, .inl hl, _, rfl, a, C, dx, _, _, rfl, h.o, T.cl, T.nC, mF_n, rfl, _, rfl, ?_⟩
  rw [dec_int, ln]
  by_cases c1 : ns.length = m.testWeights.length
  · refine ifN (by rw [c1]; simp) ?_
    have hp : 0 < (toI ns).length := by
      rw [toI_length]
      have := ok.n1
      omega
    refine ⟨_, rfl, l, toI ns, rfl, hl, hp, fun M hM hle => ?_⟩
    obtain ⟨x, hx, rfl⟩ := toI_of hM
    have hle' : ∀ y ∈ ns, y ≤ x := fun y hy => by
      have := hle _ (toI_in hy)
      omega
    refine ⟨_, _, rfl, rfl, _, rfl, ?_⟩
    by_cases c2 : (99 : Int) < (x : Int)
    · refine ifY (decide_eq_true c2) (ifY rfl (k.no (not_of wts_iff fun z => ?_) H (Same.refl H)))
      have := z.2.1 x hx
      omega
    · refine ifN (decide_eq_false c2) ?_
      refine ⟨_, rfl, l, toI ns, rfl, hl, hp, fun N hN hlN => ?_⟩
      obtain ⟨y, hy, rfl⟩ := toI_of hN
      have xy : x = y := Nat.le_antisymm (by have := hlN _ (toI_in hx); omega) (hle' y hy)
      refine ⟨rfl, _, rfl, ?_⟩
      rw [dec_int]
      by_cases c3 : y = 0
      · refine ifY (by rw [c3]; rfl) (k.no (not_of wts_iff fun z => ?_) H (Same.refl H))
        have e := sum_zero (l := ns) fun u hu => by
          have := hle' u hu
          omega
        have := z.2.2
        omega
      · refine ifN (decide_eq_false (by omega)) (k.yes (wts_iff.mpr ⟨c1, fun u hu => ?_, ?_⟩) H (Same.refl H))
        · have := hle' u hu
          omega
        · have := mem_le_sum hy
          omega
  · refine ifY (by rw [decide_eq_false (by omega)]; rfl) (k.no (not_of wts_iff fun z => c1 z.1) H (Same.refl H))
theorem ok_check_fraction (T : Txt K mg C CI CN CU CO CP) (D : Def K mg "check_fraction" s_check_fraction ["num", "den"]) : Has P w K mg base (L2.CX P w) 1 "check_fraction" (spChkF CO) := by
  refine D.okX sc_check_fraction (fun vs H Q E h => ?_) (fun f cdv A outer s H vs Q E hr h => ?_)
  · obtain ⟨a, b, rfl, _⟩ := h
    rfl
  refine ⟨_, (pss_one (ps_if (PW.pt (pw_or (pt_cmpR op_lt (pv 1) pe_int (nomark _)) (pw_or (pt_cmpR op_gt (pv 1) (pe_gc rfl T.gGREATEST_DEN) (nomark _)) (pw_or1 (pt_cmpR op_gt (pv 0) (pv 1) (nomark _)))))) (pss_one (ps_raise rfl (takes_of rfl rfl rfl rfl) (pmk_own0 PySem.F.excBase_Exception T.xO T.gO T.kO (raises_own T.bO T.tO) (by exact rfl)))) pss_nil)), ?_⟩
  obtain ⟨num, den, rfl, k⟩ := h
  have no : ¬ (num ≤ den ∧ 1 ≤ den ∧ den ≤ 99) → E (.ref CO) none H := fun z => k.no (not_of frac_iff z) H (Same.refl H)
  refine ⟨_, rfl, _, _, rfl, rfl, _, rfl, ?_⟩
  by_cases c1 : (den : Int) < 1
  · exact ifY (decide_eq_true c1) (ifY rfl (no (by omega)))
  refine ifN (decide_eq_false c1) ⟨_, rfl, _, _, rfl, rfl, _, rfl, ?_⟩
  by_cases c2 : (99 : Int) < (den : Int)
  · exact ifY (decide_eq_true c2) (ifY rfl (no (by omega)))
  refine ifN (decide_eq_false c2) ⟨_, rfl, _, rfl, _, _, rfl, rfl, _, rfl, ?_⟩
  by_cases c3 : (den : Int) < (num : Int)
  · exact ifY (decide_eq_true c3) (no (by omega))
  · exact ifN (decide_eq_false c3) (k.yes (frac_iff.mpr (by omega)) H (Same.refl H))
theorem ok_check_signal (T : Txt K mg C CI CN CU CO CP) (D : Def K mg "check_signal" s_check_signal ["model", "signal"]) : Has P w K mg base (L2.CX P w) 1 "check_signal" (spChkN C CU Kp415.isSignal) := by
  refine D.okX sc_check_signal (fun vs H Q E h => ?_) (fun f cdv A outer s H vs Q E hr h => ?_)
  · obtain ⟨a, m, n, rfl, _⟩ := h
    rfl
  refine ⟨_, (pss_one (ps_if (pt_cmpR op_ge (pv 1) (pe_fld (pv 0) rfl) (nomark _)) (pss_one (ps_raise rfl (takes_of rfl rfl rfl rfl) (pmk_own0 PySem.F.excBase_Exception T.xU T.gU T.kU (raises_own T.bU T.tU) (by exact rfl)))) pss_nil)), ?_⟩
  obtain ⟨a, m, n, rfl, ⟨dx, pt, pp, h⟩, ok, k⟩ := h
  refine ⟨_, rfl, _, rfl, a, C, dx, _, _, rfl, h.o, T.cl, T.nC, mF_n, _, _, rfl, rfl, _, rfl, ?_⟩
  by_cases c : (m.testWeights.length : Int) ≤ (n : Int)
  · exact ifY (decide_eq_true c) (k.no (isSig_not.mpr (by omega)) H (Same.refl H))
  · exact ifN (decide_eq_false c) (k.yes (isSig_iff.mpr (by omega)) H (Same.refl H))
theorem ok_check_posterior (T : Txt K mg C CI CN CU CO CP) (h_check_signal : Has P w K mg base (L2.CX P w) 1 "check_signal" (spChkN C CU Kp415.isSignal)) (h_probability_part : Has P w K mg base CX0 3 "probability_part" (spMnI C isSig fun m s => at0 (jtp m) s + at0 (jpp m) s)) (D : Def K mg "check_posterior" s_check_posterior ["model", "signal"]) :
    Has P w K mg base (L2.CX P w) 4 "check_posterior" (spChkP C CU CP) := by
  refine D.okX sc_check_posterior (fun vs H Q E h => ?_) (fun f cdv A outer s H vs Q E hr h => ?_)
  · obtain ⟨a, m, n, rfl, _⟩ := h
    rfl
  refine ⟨_, (pss_cons (ps_expr (pe_h h_check_signal hr (by decide) rfl (passes_call (takes_of rfl rfl rfl rfl) (fun _ _ _ _ h => h)) (pa_cons (pv 0) (pa_cons (pv 1) pa_nil)))) (pss_one (ps_if (pt_cmpR op_eq (pe_h h_probability_part hr (by decide) rfl pass0 (pa_cons (pv 0) (pa_cons (pv 1) pa_nil))) pe_int (nomark _)) (pss_one (ps_raise rfl (takes_of rfl rfl rfl rfl) (pmk_own0 PySem.F.excBase_Exception T.xP T.gP T.kP (raises_own T.bP T.tP) (by exact rfl)))) pss_nil))), ?_⟩
  obtain ⟨a, m, n, rfl, hm, ok, k1, k2, k3⟩ := h
  refine ⟨_, rfl, _, rfl, a, m, n, rfl, hm, ok, fun hs H1 s1 => ?_, k1⟩
  refine ⟨_, rfl, _, rfl, a, m, n, rfl, hm.same s1, ok, isSig_iff.mp hs, fun H2 s2 => ?_⟩
  refine ⟨rfl, _, rfl, ?_⟩
  rw [dec_int]
  by_cases c : at0 (jtp m) n + at0 (jpp m) n = 0
  · exact ifY (decide_eq_true c) (k2 hs c H2 (s1.trans s2))
  · exact ifN (decide_eq_false c) (k3 hs c H2 (s1.trans s2))
theorem ok_check_signals (T : Txt K mg C CI CN CU CO CP) (D : Def K mg "check_signals" s_check_signals ["model", "signals"]) : Has P w K mg base (L2.CX P w) 1 "check_signals" (spChkL K C CO sigs) := by
  refine D.okX sc_check_signals (fun vs H Q E h => ?_) (fun f cdv A outer s H vs Q E hr h => ?_)
  · obtain ⟨a, m, l, ns, rfl, _⟩ := h
    rfl
  refine ⟨_, (pss_one (ps_for (passes_of rfl) rfl (pi_list (pv 1)) (pg_name (i := 2) sc_check_signals.nd rfl (Or.inl rfl)) (pss_one (ps_if (pt_cmpR op_ge (pv 2) (pe_fld (pv 0) rfl) (nomark _)) (pss_one (ps_raise rfl (takes_of rfl rfl rfl rfl) (pmk_own0 PySem.F.excBase_Exception T.xO T.gO T.kO (raises_own T.bO T.tO) (by exact rfl)))) pss_nil)))), ?_⟩
  obtain ⟨a, m, l, ns, rfl, ⟨dx, pt, pp, h⟩, ok, hl, k⟩ := h
  refine ⟨_, rfl, l, rfl, ⟨_, hl⟩, for_list (K := K) (a := l) (xs := VL (toI ns)) (fun i σ H' => ∃ v : Option V, σ = [some (.ref a), some (.ref l), v] ∧ H' = H ∧ ∀ x ∈ ns.take i, x < m.testWeights.length) ⟨none, rfl, rfl, fun x hx => by simp at hx⟩ (fun i σ H' _ ⟨_, _, e, _⟩ => by rw [e]; exact hl) ?_ ?_⟩
  · rintro i y σ H' hy ⟨v, rfl, rfl, hi⟩
    obtain ⟨y, jy, rfl⟩ := VL_get hy
    obtain ⟨y, ky, rfl⟩ := toI_get jy
    refine ⟨_, rfl, _, rfl, a, C, dx, _, _, rfl, h.o, T.cl, T.nC, mF_n, _, _, rfl, rfl, _, rfl, ?_⟩
    by_cases c : (m.testWeights.length : Int) ≤ (y : Int)
    · refine ifY (decide_eq_true c) (k.no (not_of sigs_iff fun z => ?_) _ (Same.refl _))
      have := z y (List.mem_of_getElem? ky)
      omega
    · refine ifN (decide_eq_false c) ⟨some (.int (y : Int)), rfl, rfl, fun x hx => ?_⟩
      rw [take_get ky, List.mem_append, List.mem_singleton] at hx
      rcases hx with hx | hx
      · exact hi x hx
      · omega
  · rintro σ H' ⟨v, rfl, rfl, hi⟩
    have ln : (VL (toI ns)).length = ns.length := by rw [List.length_map, toI_length]
    rw [ln, List.take_length] at hi
    exact k.yes (sigs_iff.mpr hi) _ (Same.refl _)
theorem ok_check_mapping (T : Txt K mg C CI CN CU CO CP) (h_check_signals : Has P w K mg base (L2.CX P w) 1 "check_signals" (spChkL K C CO sigs)) (D : Def K mg "check_mapping" s_check_mapping ["model", "mapping"]) : Has P w K mg base (L2.CX P w) 2 "check_mapping" (spChkL K C CO Kp415.validMapping) := by
  refine D.okX sc_check_mapping (fun vs H Q E h => ?_) (fun f cdv A outer s H vs Q E hr h => ?_)
  · obtain ⟨a, m, l, ns, rfl, _⟩ := h
    rfl
  refine ⟨_, (pss_cons (ps_if (pt_cmpR op_ne (pe_callB call_len_seq (by rfl) T.len PySem.boot_len (pa_cons (pv 1) pa_nil)) (pe_fld (pv 0) rfl) (nomark _)) (pss_one (ps_raise rfl (takes_of rfl rfl rfl rfl) (pmk_own0 PySem.F.excBase_Exception T.xO T.gO T.kO (raises_own T.bO T.tO) (by exact rfl)))) pss_nil) (pss_one (ps_expr (pe_h h_check_signals hr (by decide) rfl (passes_call (takes_of rfl rfl rfl rfl) (fun _ _ _ _ h => h)) (pa_cons (pv 0) (pa_cons (pv 1) pa_nil)))))), ?_⟩
  obtain ⟨a, m, l, ns, rfl, hm, ok, hl, k⟩ := h
  obtain ⟨dx, pt, pp, h⟩ := id hm
  have ln : (VL (toI ns)).length = ns.length := by rw [List.length_map, toI_length]
  refine ⟨_, rfl, l, _, rfl, .inl hl, _, rfl, a, C, dx, _, _, rfl, h.o, T.cl, T.nC, mF_n, rfl, _, rfl, ?_⟩
  rw [dec_int, ln]
  by_cases c1 : ns.length = m.testWeights.length
  · refine ifN (by rw [c1]; simp) ?_
    exact ⟨_, rfl, _, rfl, a, m, l, ns, rfl, hm, ok, hl, fun hs H1 s1 => k.yes (map_iff.mpr ⟨c1, sigs_iff.mp hs⟩) H1 s1, fun hs => k.no (not_of map_iff fun z => by rw [sigs_iff.mpr z.2] at hs; cases hs)⟩
  · exact ifY (by rw [decide_eq_false (by omega)]; rfl) (k.no (not_of map_iff fun z => c1 z.1) H (Same.refl H))
theorem ok_check_length (T : Txt K mg C CI CN CU CO CP) (D : Def K mg "check_length" s_check_length ["length"]) : Has P w K mg base (L2.CX P w) 1 "check_length" (spChkK CO) := by
  refine D.okX sc_check_length (fun vs H Q E h => ?_) (fun f cdv A outer s H vs Q E hr h => ?_)
  · obtain ⟨a, rfl, _⟩ := h
    rfl
  refine ⟨_, (pss_one (ps_if (pt_cmpR op_gt (pv 0) (pe_gc rfl T.gGREATEST_LENGTH) (nomark _)) (pss_one (ps_raise rfl (takes_of rfl rfl rfl rfl) (pmk_own0 PySem.F.excBase_Exception T.xO T.gO T.kO (raises_own T.bO T.tO) (by exact rfl)))) pss_nil)), ?_⟩
  obtain ⟨n, rfl, k⟩ := h
  refine ⟨_, rfl, _, _, rfl, rfl, _, rfl, ?_⟩
  by_cases c : (3 : Int) < (n : Int)
  · exact ifY (decide_eq_true c) (k.no (decide_eq_false (by omega)) H (Same.refl H))
  · exact ifN (decide_eq_false c) (k.yes (decide_eq_true (by omega)) H (Same.refl H))
theorem ok_check_sequence (T : Txt K mg C CI CN CU CO CP) (h_check_signals : Has P w K mg base (L2.CX P w) 1 "check_signals" (spChkL K C CO sigs)) (h_sequence_probability_part : Has P w K mg base CX0 3 "sequence_probability_part" (spMlI K C okSeq seqProb)) (D : Def K mg "check_sequence" s_check_sequence ["model", "signals"]) :
    Has P w K mg base (L2.CX P w) 4 "check_sequence" (spChkS K C CO CP) := by
  refine D.okX sc_check_sequence (fun vs H Q E h => ?_) (fun f cdv A outer s H vs Q E hr h => ?_)
  · obtain ⟨a, m, l, ns, rfl, _⟩ := h
    rfl
  refine ⟨_, (pss_cons (ps_if (pt_cmpR op_gt (pe_callB call_len_seq (by rfl) T.len PySem.boot_len (pa_cons (pv 1) pa_nil)) (pe_gc rfl T.gLONGEST_SEQUENCE) (nomark _)) (pss_one (ps_raise rfl (takes_of rfl rfl rfl rfl) (pmk_own0 PySem.F.excBase_Exception T.xO T.gO T.kO (raises_own T.bO T.tO) (by exact rfl)))) pss_nil) (pss_cons (ps_expr (pe_h h_check_signals hr (by decide) rfl (passes_call (takes_of rfl rfl rfl rfl) (fun _ _ _ _ h => h)) (pa_cons (pv 0) (pa_cons (pv 1) pa_nil)))) (pss_one (ps_if (pt_cmpR op_eq (pe_h h_sequence_probability_part hr (by decide) rfl pass0 (pa_cons (pv 0) (pa_cons (pv 1) pa_nil))) pe_int (nomark _)) (pss_one (ps_raise rfl (takes_of rfl rfl rfl rfl) (pmk_own0 PySem.F.excBase_Exception T.xP T.gP T.kP (raises_own T.bP T.tP) (by exact rfl)))) pss_nil)))), ?_⟩
  obtain ⟨a, m, l, ns, rfl, hm, ok, hl, k1, k2, k3⟩ := h
  have ln : (VL (toI ns)).length = ns.length := by rw [List.length_map, toI_length]
  refine ⟨_, rfl, l, _, rfl, .inl hl, _, _, rfl, rfl, _, rfl, ?_⟩
  rw [ln]
  by_cases c1 : (6 : Int) < (ns.length : Int)
  · exact ifY (decide_eq_true c1) (k1 (not_of seqIn_iff fun z => by have := z.1; omega) H (Same.refl H))
  refine ifN (decide_eq_false c1) ?_
  refine ⟨_, rfl, _, rfl, a, m, l, ns, rfl, hm, ok, hl, fun hs H1 s1 => ?_, fun hs => k1 (not_of seqIn_iff fun z => by rw [sigs_iff.mpr z.2] at hs; cases hs)⟩
  have q : okSeq m ns := ⟨by omega, sigs_iff.mp hs⟩
  refine ⟨_, rfl, _, rfl, a, m, l, ns, rfl, hm.same s1, ok, s1.seq hl, q, fun H2 s2 => ?_⟩
  refine ⟨rfl, _, rfl, ?_⟩
  rw [dec_int]
  by_cases c : seqProb m ns = 0
  · exact ifY (decide_eq_true c) (k2 (seqIn_iff.mpr q) c H2 (s1.trans s2))
  · exact ifN (decide_eq_false c) (k3 (seqIn_iff.mpr q) c H2 (s1.trans s2))
theorem ok_check_set (T : Txt K mg C CI CN CU CO CP) (h_set_count : Has P w K mg base CX0 1 "set_count" (spMI C fun m => ((2 ^ m.testWeights.length : Nat) : Int))) (D : Def K mg "check_set" s_check_set ["model", "mask"]) : Has P w K mg base (L2.CX P w) 2 "check_set" (spChkN C CO fun m n => decide (n < 2 ^ m.testWeights.length)) := by
  refine D.okX sc_check_set (fun vs H Q E h => ?_) (fun f cdv A outer s H vs Q E hr h => ?_)
  · obtain ⟨a, m, n, rfl, _⟩ := h
    rfl
  refine ⟨_, (pss_one (ps_if (pt_cmpR op_ge (pv 1) (pe_h h_set_count hr (by decide) rfl pass0 (pa_cons (pv 0) pa_nil)) (nomark _)) (pss_one (ps_raise rfl (takes_of rfl rfl rfl rfl) (pmk_own0 PySem.F.excBase_Exception T.xO T.gO T.kO (raises_own T.bO T.tO) (by exact rfl)))) pss_nil)), ?_⟩
  obtain ⟨a, m, n, rfl, hm, ok, k⟩ := h
  refine ⟨_, rfl, _, rfl, a, m, rfl, hm, ok, fun H1 s1 => ⟨_, _, rfl, rfl, _, rfl, ?_⟩⟩
  by_cases c : 2 ^ m.testWeights.length ≤ n
  · exact ifY (decide_eq_true (Int.ofNat_le.mpr c)) (k.no (decide_eq_false (Nat.not_lt.mpr c)) H1 s1)
  · exact ifN (decide_eq_false fun z => c (Int.ofNat_le.mp z)) (k.yes (decide_eq_true (Nat.lt_of_not_le c)) H1 s1)
end
end Kp
set_option Elab.async false
set_option linter.all false
set_option maxRecDepth 100000
set_option maxHeartbeats 4000000
namespace Kp
open PySem PySem.Spec PyProof.Rows L2
/-! ### the calls on a model: what is due of each -/
inductive Out where
  | bad (k : Nat)
  | good (m : Md) (l : List Int)
def f1 (m : Md) (ns : List Nat) : Out := if Kp415.validWeights m ns = true then .good { m with testWeights := ns } [((ns.sum : Nat) : Int)] else .bad 2
def f2 (m : Md) (ns : List Nat) : Out := if Kp415.validWeights m ns = true then .good { m with productionWeights := ns } [((ns.sum : Nat) : Int)] else .bad 2
def f3 (m : Md) (a b : Nat) : Out := if Kp415.validFraction a b = true then .good { m with priorNum := a, priorDen := b } [0, (m.priorNum : Int), (m.priorDen : Int)] else .bad 2
def f4 (m : Md) : Out := .good m ((m.testWeights.length : Int) :: (toI m.testWeights ++ toI m.productionWeights))
def f5 (m : Md) (s : Nat) : Out := if Kp415.isSignal m s = true then .good m (0 :: Kp415.fraction (Kp415.signalProbability m s)) else .bad 1
def f6 (m : Md) (s : Nat) : Out := if Kp415.isSignal m s = true then (if at0 (jtp m) s + at0 (jpp m) s = 0 then .bad 3 else .good m (0 :: Kp415.fraction (Kp415.posteriorTest m s))) else .bad 1
def f7 (m : Md) (s : Nat) : Out := if Kp415.isSignal m s = true then (if at0 (jtp m) s + at0 (jpp m) s = 0 then .bad 3 else .good m [if at0 (jtp m) s = 0 then 2 else if at0 (jpp m) s = 0 then 1 else 0]) else .bad 1
def f8 (m : Md) : Out := .good m (0 :: Kp415.fraction (Kp415.totalVariation m))
def f9 (m : Md) : Out := .good m (0 :: Kp415.fraction (Kp415.bestAccuracy m))
def f10 (m : Md) : Out := .good m ((m.testWeights.length : Int) :: kinds m)
def f11 (m : Md) : Out := .good m (0 :: Kp415.fraction (Kp415.blindAccuracy m))
def f12 (m : Md) (ns : List Nat) : Out := if Kp415.validMapping m ns = true then .good (Kp415.mergeSignals m ns) (0 :: Kp415.fraction (Kp415.totalVariation (Kp415.mergeSignals m ns))) else .bad 2
def f13 (m : Md) (ns : List Nat) : Out := if Kp415.validMapping m ns = true then .good m (0 :: (Kp415.fraction (Kp415.totalVariation (Kp415.mergeSignals m ns)) ++ Kp415.fraction (Kp415.bestAccuracy (Kp415.mergeSignals m ns)))) else .bad 2
def f14 (m : Md) (k : Nat) : Out := if k ≤ 3 then .good m (0 :: seqTv m k) else .bad 2
def f15 (m : Md) (k : Nat) : Out := if k ≤ 3 then .good m (0 :: seqAcc m k) else .bad 2
def f16 (m : Md) (ns : List Nat) : Out := if seqIn m ns = true then (if seqProb m ns = 0 then .bad 3 else .good m (0 :: seqPost m ns)) else .bad 2
def f17 (m : Md) (s : Nat) : Out := if s < 2 ^ m.testWeights.length then .good m (0 :: (Kp415.fraction (Kp415.setShare m.testWeights s) ++ Kp415.fraction (Kp415.setShare m.productionWeights s))) else .bad 2
def f18 (m : Md) (a b : Nat) : Out := if Kp415.validFraction a b = true then .good m (((detector m a b : Nat) : Int) :: Kp415.fraction (Kp415.setShare m.testWeights (detector m a b))) else .bad 2
def f19 (m : Md) : Out := .good m (((widest m : Nat) : Int) :: Kp415.fraction (Kp415.shareGap m (widest m)))
def f20 (m : Md) (a b : Nat) : Out := if Kp415.validFraction a b = true then .good m (0 :: Kp415.fraction (Kp415.bestAccuracy { m with priorNum := a, priorDen := b })) else .bad 2
abbrev Op := Md → List Nat → Option Out
def sh0 (f : Md → Out) : Op := fun m _ => some (f m)
def sh1 (f : Md → Nat → Out) : Op := fun m ns => match ns with
  | [s] => some (f m s)
  | _ => none
def sh2 (f : Md → Nat → Nat → Out) : Op := fun m ns => match ns with
  | [a, b] => some (f m a b)
  | _ => none
def shL (f : Md → List Nat → Out) : Op := fun m ns => some (f m ns)
theorem sh0_of {f : Md → Out} {m : Md} {ns : List Nat} {o : Out} (h : sh0 f m ns = some o) : o = f m := (Option.some.inj h).symm
theorem shL_of {f : Md → List Nat → Out} {m : Md} {ns : List Nat} {o : Out} (h : shL f m ns = some o) : o = f m ns := (Option.some.inj h).symm
theorem sh1_of {f : Md → Nat → Out} {m : Md} {ns : List Nat} {o : Out} (h : sh1 f m ns = some o) : ∃ s, ns = [s] ∧ o = f m s := by
  match ns, h with
  | [s], h => exact ⟨s, rfl, (Option.some.inj h).symm⟩
theorem sh2_of {f : Md → Nat → Nat → Out} {m : Md} {ns : List Nat} {o : Out} (h : sh2 f m ns = some o) : ∃ a b, ns = [a, b] ∧ o = f m a b := by
  match ns, h with
  | [a, b], h => exact ⟨a, b, rfl, (Option.some.inj h).symm⟩
/-- the way out that is due: an error of its class, or the new model and a new list -/
def Due (er : Nat → Addr) (C : Addr) (H : Hp) (Q : VK) (E : XK) (a : Addr) : Out → Prop
  | .bad k => ErrE H E (er k)
  | .good m' r => ∀ H' p, ModelAt C H' a m' → Else a H H' → H p = none → H' p = some (.lst (VL r)) → Q (.ref p) H'
def spOp (K : PySem.W.Frag) (er : Nat → Addr) (C : Addr) (g : Op) : Sp := fun vs H Q E => ∃ a m l ns o, vs = [.ref a, .ref l] ∧ ModelAt C H a m ∧ Ok m ∧ SqL K H l (VL (toI ns)) ∧ g m ns = some o ∧ Due er C H Q E a o
theorem Due.is {er : Nat → Addr} {C a : Addr} {H : Hp} {Q : VK} {E : XK} {o o' : Out} (h : Due er C H Q E a o) (e : o = o') : Due er C H Q E a o' := by
  rw [← e]
  exact h
theorem Due.ret {er : Nat → Addr} {C a : Addr} {H : Hp} {Q : VK} {E : XK} {m : Md} {r : List Int} (h : Due er C H Q E a (.good m r)) (hm : ModelAt C H a m) : RetL H Q r := fun H' p s n e => h H' p (hm.same s) (Same.els s) n e
def errC (CN CU CO CP : Addr) : Nat → Addr
  | 0 => CN
  | 1 => CU
  | 2 => CO
  | _ => CP
theorem Else.seq {K : PySem.W.Frag} {C a dx l : Addr} {fs : List (Str × V)} {xs : List V} {H H' : Hp} (e : Else a H H') (ha : H a = some (.ins C dx fs)) (h : SqL K H l xs) : SqL K H' l xs := by
  have ne : ∀ {o : HO}, H l = some o → (∀ C dx fs, o ≠ .ins C dx fs) → l ≠ a := fun q n z => by
    rw [z, ha] at q
    exact n _ _ _ (Option.some.inj q).symm
  rcases h with (q | ⟨o, q⟩) | q
  · exact .inl (.inl (e _ _ q (ne q fun _ _ _ z => by cases z)))
  · exact .inl (.inr ⟨o, e _ _ q (ne q fun _ _ _ z => by cases z)⟩)
  · exact .inr q
theorem Else.free {a p : Addr} {o : HO} {H H' : Hp} (e : Else a H H') (ha : H' a = some o) (hp : H' p = none) : H p = none := by
  cases q : H p with
  | none => rfl
  | some u =>
    by_cases c : p = a
    · rw [c, ha] at hp
      cases hp
    · rw [e _ _ q c] at hp
      cases hp
theorem args0 {x : Nat} {r : List Nat} : atI (VL (toI (x :: r))) 0 = some (.int (x : Int)) := atI_nat (j := 0) rfl
theorem args1 {x y : Nat} {r : List Nat} : atI (VL (toI (x :: y :: r))) 1 = some (.int (y : Int)) := atI_nat (j := 1) rfl
theorem frac_len (x : Rat) : (VL (Kp415.fraction x)).length = 2 := rfl
theorem sz3 {n : Nat} (h : n ≤ 1000) : n ≤ sizeLine := Nat.le_trans h (by decide)
abbrev s_set_test_weights : Stmt := topS 67
theorem sc_set_test_weights : FnScope ["model", "arguments"] ["model", "arguments"] (defScope s_set_test_weights) := ⟨rfl, rfl, rfl, by decide +kernel, rfl, by decide +kernel, by decide +kernel⟩
abbrev s_set_production_weights : Stmt := topS 68
theorem sc_set_production_weights : FnScope ["model", "arguments"] ["model", "arguments"] (defScope s_set_production_weights) := ⟨rfl, rfl, rfl, by decide +kernel, rfl, by decide +kernel, by decide +kernel⟩
abbrev s_set_prior : Stmt := topS 69
theorem sc_set_prior : FnScope ["model", "arguments", "num", "den", "answer"] ["model", "arguments"] (defScope s_set_prior) := ⟨rfl, rfl, rfl, by decide +kernel, rfl, by decide +kernel, by decide +kernel⟩
abbrev s_get_weights : Stmt := topS 70
theorem sc_get_weights : FnScope ["model", "arguments"] ["model", "arguments"] (defScope s_get_weights) := ⟨rfl, rfl, rfl, by decide +kernel, rfl, by decide +kernel, by decide +kernel⟩
abbrev s_signal_probability : Stmt := topS 71
theorem sc_signal_probability : FnScope ["model", "arguments", "signal"] ["model", "arguments"] (defScope s_signal_probability) := ⟨rfl, rfl, rfl, by decide +kernel, rfl, by decide +kernel, by decide +kernel⟩
abbrev s_posterior : Stmt := topS 72
theorem sc_posterior : FnScope ["model", "arguments", "signal"] ["model", "arguments"] (defScope s_posterior) := ⟨rfl, rfl, rfl, by decide +kernel, rfl, by decide +kernel, by decide +kernel⟩
abbrev s_certainty : Stmt := topS 73
theorem sc_certainty : FnScope ["model", "arguments", "signal"] ["model", "arguments"] (defScope s_certainty) := ⟨rfl, rfl, rfl, by decide +kernel, rfl, by decide +kernel, by decide +kernel⟩
abbrev s_total_variation : Stmt := topS 74
theorem sc_total_variation : FnScope ["model", "arguments"] ["model", "arguments"] (defScope s_total_variation) := ⟨rfl, rfl, rfl, by decide +kernel, rfl, by decide +kernel, by decide +kernel⟩
abbrev s_best_accuracy : Stmt := topS 75
theorem sc_best_accuracy : FnScope ["model", "arguments"] ["model", "arguments"] (defScope s_best_accuracy) := ⟨rfl, rfl, rfl, by decide +kernel, rfl, by decide +kernel, by decide +kernel⟩
abbrev s_best_guesses : Stmt := topS 76
theorem sc_best_guesses : FnScope ["model", "arguments"] ["model", "arguments"] (defScope s_best_guesses) := ⟨rfl, rfl, rfl, by decide +kernel, rfl, by decide +kernel, by decide +kernel⟩
abbrev s_blind_accuracy : Stmt := topS 77
theorem sc_blind_accuracy : FnScope ["model", "arguments"] ["model", "arguments"] (defScope s_blind_accuracy) := ⟨rfl, rfl, rfl, by decide +kernel, rfl, by decide +kernel, by decide +kernel⟩
section
variable {P : Program} {w : World} {K : PySem.W.Frag} {mg : Str → Option Value} {base : Heap} {C CI CN CU CO CP : Addr}
theorem ok_set_test_weights (T : Txt K mg C CI CN CU CO CP) (h_check_weights : Has P w K mg base (L2.CX P w) 1 "check_weights" (spChkL K C CO Kp415.validWeights)) (D : Def K mg "set_test_weights" s_set_test_weights ["model", "arguments"]) :
    Has P w K mg base (L2.CX P w) 2 "set_test_weights" (spOp K (errC CN CU CO CP) C (shL f1)) := by
  refine D.okX sc_set_test_weights (fun vs H Q E h => ?_) (fun f cdv A outer s H vs Q E hr h => ?_)
  · obtain ⟨a, m, l, ns, o, rfl, _⟩ := h
    rfl
  refine ⟨_, (pss_cons (ps_expr (pe_h h_check_weights hr (by decide) rfl (passes_call (takes_of rfl rfl rfl rfl) (fun _ _ _ _ h => h)) (pa_cons (pv 0) (pa_cons (pv 1) pa_nil)))) (pss_cons (ps_fld (pv 0) (pe_callTy call_list_of (by rfl) T.list (by decide +kernel) (pa_cons (pv 1) pa_nil)) rfl) (pss_one (ps_ret (pe_lst (pa_cons (pe_callB (cr_sum rfl) (by rfl) T.sum (by decide +kernel) (pa_cons (pv 1) pa_nil)) pa_nil)))))), ?_⟩
  obtain ⟨a, m, l, ns, o, rfl, hm, ok, hl, hg, k⟩ := h
  have hg := shL_of hg
  subst hg
  refine ⟨_, rfl, _, rfl, a, m, l, ns, rfl, hm, ok, hl, fun hv H1 s1 => ?_, fun hv => k.is (if_neg (by rw [hv]; decide))⟩
  have k' := k.is (if_pos hv)
  obtain ⟨dx, pt, pp, h⟩ := hm.same s1
  refine ⟨_, rfl, l, _, rfl, .inl (s1.seq hl), fun p1 hp1 => ?_⟩
  have pa : a ≠ p1 := ne_of_none h.o hp1
  refine ⟨_, rfl, a, C, dx, _, rfl, (upd_ne pa).trans h.o, T.cl, T.nT, (by show 5 < 1000; decide), ?_⟩
  have e2 : Else a H1 (upd (upd H1 p1 (.lst (VL (toI ns)))) a (.ins C dx (putF "test_weights" (.ref p1) (mF (m.testWeights.length : Int) (.ref pt) (.ref pp) (m.priorNum : Int) (m.priorDen : Int))))) := (Same.els (Same.new hp1)).trans Else.upd
  refine ⟨_, rfl, l, toI ns, rfl, e2.seq h.o (s1.seq hl), (by show 1 ≤ sizeLine; decide), fun p hp => ?_⟩
  have pn : pp ≠ a := fun z => by
    have := h.p
    rw [z, h.o] at this
    cases this
  have nl := (wts_iff.mp hv).1
  have e3 := (Same.els s1).trans (e2.then (Same.new (o := .lst [.int (toI ns).sum]) hp))
  refine k' _ p ⟨dx, p1, pp, ?_, ?_, ?_⟩ e3 ?_ ?_
  · refine Same.new hp _ _ ?_
    rw [upd_same, mF_put_t]
    show some (HO.ins C dx (mF (m.testWeights.length : Int) _ _ _ _)) = some (HO.ins C dx (mF (ns.length : Int) _ _ _ _))
    rw [nl]
  · refine Same.new hp _ _ ?_
    rw [upd_ne pa.symm, upd_same]
  · exact Same.new hp _ _ (e2 _ _ h.p pn)
  · exact ((Same.els s1).trans e2).free upd_same hp
  · rw [upd_same, toI_sum]
    rfl
theorem ok_set_production_weights (T : Txt K mg C CI CN CU CO CP) (h_check_weights : Has P w K mg base (L2.CX P w) 1 "check_weights" (spChkL K C CO Kp415.validWeights)) (D : Def K mg "set_production_weights" s_set_production_weights ["model", "arguments"]) :
    Has P w K mg base (L2.CX P w) 2 "set_production_weights" (spOp K (errC CN CU CO CP) C (shL f2)) := by
  refine D.okX sc_set_production_weights (fun vs H Q E h => ?_) (fun f cdv A outer s H vs Q E hr h => ?_)
  · obtain ⟨a, m, l, ns, o, rfl, _⟩ := h
    rfl
  refine ⟨_, (pss_cons (ps_expr (pe_h h_check_weights hr (by decide) rfl (passes_call (takes_of rfl rfl rfl rfl) (fun _ _ _ _ h => h)) (pa_cons (pv 0) (pa_cons (pv 1) pa_nil)))) (pss_cons (ps_fld (pv 0) (pe_callTy call_list_of (by rfl) T.list (by decide +kernel) (pa_cons (pv 1) pa_nil)) rfl) (pss_one (ps_ret (pe_lst (pa_cons (pe_callB (cr_sum rfl) (by rfl) T.sum (by decide +kernel) (pa_cons (pv 1) pa_nil)) pa_nil)))))), ?_⟩
  obtain ⟨a, m, l, ns, o, rfl, hm, ok, hl, hg, k⟩ := h
  have hg := shL_of hg
  subst hg
  refine ⟨_, rfl, _, rfl, a, m, l, ns, rfl, hm, ok, hl, fun hv H1 s1 => ?_, fun hv => k.is (if_neg (by rw [hv]; decide))⟩
  have k' := k.is (if_pos hv)
  obtain ⟨dx, pt, pp, h⟩ := hm.same s1
  refine ⟨_, rfl, l, _, rfl, .inl (s1.seq hl), fun p1 hp1 => ?_⟩
  have pa : a ≠ p1 := ne_of_none h.o hp1
  refine ⟨_, rfl, a, C, dx, _, rfl, (upd_ne pa).trans h.o, T.cl, T.nP, (by show 5 < 1000; decide), ?_⟩
  have e2 : Else a H1 (upd (upd H1 p1 (.lst (VL (toI ns)))) a (.ins C dx (putF "production_weights" (.ref p1) (mF (m.testWeights.length : Int) (.ref pt) (.ref pp) (m.priorNum : Int) (m.priorDen : Int))))) := (Same.els (Same.new hp1)).trans Else.upd
  refine ⟨_, rfl, l, toI ns, rfl, e2.seq h.o (s1.seq hl), (by show 1 ≤ sizeLine; decide), fun p hp => ?_⟩
  have pn : pt ≠ a := fun z => by
    have := h.t
    rw [z, h.o] at this
    cases this
  have e3 := (Same.els s1).trans (e2.then (Same.new (o := .lst [.int (toI ns).sum]) hp))
  refine k' _ p ⟨dx, pt, p1, ?_, ?_, ?_⟩ e3 (((Same.els s1).trans e2).free upd_same hp) ?_
  · refine Same.new hp _ _ ?_
    rw [upd_same, mF_put_p]
  · exact Same.new hp _ _ (e2 _ _ h.t pn)
  · refine Same.new hp _ _ ?_
    rw [upd_ne pa.symm, upd_same]
  · rw [upd_same, toI_sum]
    rfl
theorem ok_set_prior (T : Txt K mg C CI CN CU CO CP) (h_check_fraction : Has P w K mg base (L2.CX P w) 1 "check_fraction" (spChkF CO)) (D : Def K mg "set_prior" s_set_prior ["model", "arguments"]) :
    Has P w K mg base (L2.CX P w) 2 "set_prior" (spOp K (errC CN CU CO CP) C (sh2 f3)) := by
  refine D.okX sc_set_prior (fun vs H Q E h => ?_) (fun f cdv A outer s H vs Q E hr h => ?_)
  · obtain ⟨a, m, l, ns, o, rfl, _⟩ := h
    rfl
  refine ⟨_, (pss_cons (ps_set (i := 2) sc_set_prior.nd rfl (Or.inl rfl) (pe_ix ix_list (pv 1) pe_int (fun _ _ => rfl))) (pss_cons (ps_set (i := 3) sc_set_prior.nd rfl (Or.inl rfl) (pe_ix ix_list (pv 1) pe_int (fun _ _ => rfl))) (pss_cons (ps_expr (pe_h h_check_fraction hr (by decide) rfl (passes_call (takes_of rfl rfl rfl rfl) (fun _ _ _ _ h => h)) (pa_cons (pv 2) (pa_cons (pv 3) pa_nil)))) (pss_cons (ps_set (i := 4) sc_set_prior.nd rfl (Or.inl rfl) (pe_lst (pa_cons pe_int (pa_cons (pe_fld (pv 0) rfl) (pa_cons (pe_fld (pv 0) rfl) pa_nil))))) (pss_cons (ps_fld (pv 0) (pv 2) rfl) (pss_cons (ps_fld (pv 0) (pv 3) rfl) (pss_one (ps_ret (pv 4))))))))), ?_⟩
  obtain ⟨a, m, l, ns, o, rfl, hm, ok, hl, hg, k⟩ := h
  obtain ⟨x, y, rfl, rfl⟩ := sh2_of hg
  refine ⟨_, rfl, l, _, _, _, rfl, rfl, hl, args0, ?_⟩
  refine ⟨_, rfl, l, _, _, _, rfl, rfl, hl, args1, ?_⟩
  refine ⟨_, rfl, _, rfl, x, y, rfl, fun hv H1 s1 => ?_, fun hv => k.is (if_neg (by rw [hv]; decide))⟩
  have k' := k.is (if_pos hv)
  obtain ⟨dx, pt, pp, h⟩ := hm.same s1
  refine ⟨_, rfl, a, C, dx, _, _, rfl, h.o, T.cl, T.nA, mF_a, _, rfl, a, C, dx, _, _, rfl, h.o, T.cl, T.nB, mF_b, (by show 3 ≤ sizeLine; decide), fun p hp => ?_⟩
  have g := h.same (Same.new (o := .lst [.int 0, .int (m.priorNum : Int), .int (m.priorDen : Int)]) hp)
  have pa : p ≠ a := (ne_of_none h.o hp).symm
  refine ⟨_, rfl, _, rfl, a, C, dx, _, rfl, g.o, T.cl, T.nA, (by show 5 < 1000; decide), ?_⟩
  refine ⟨_, rfl, _, rfl, a, C, dx, mF (m.testWeights.length : Int) (.ref pt) (.ref pp) (x : Int) (m.priorDen : Int), rfl, by rw [upd_same, mF_put_a], T.cl, T.nB, (by show 5 < 1000; decide), ?_⟩
  have ta : pt ≠ a := fun z => by
    have := h.t
    rw [z, h.o] at this
    cases this
  have qa : pp ≠ a := fun z => by
    have := h.p
    rw [z, h.o] at this
    cases this
  refine ⟨_, rfl, k' _ p ⟨dx, pt, pp, ?_, ?_, ?_⟩ ((((Same.els s1).then (Same.new hp)).trans Else.upd).trans Else.upd) (s1.free hp) ?_⟩
  · rw [upd_same, mF_put_b]
  · rw [upd_ne ta, upd_ne ta]
    exact g.t
  · rw [upd_ne qa, upd_ne qa]
    exact g.p
  · rw [upd_ne pa, upd_ne pa, upd_same]
    rfl
theorem ok_get_weights (T : Txt K mg C CI CN CU CO CP) (D : Def K mg "get_weights" s_get_weights ["model", "arguments"]) : Has P w K mg base (L2.CX P w) 1 "get_weights" (spOp K (errC CN CU CO CP) C (sh0 f4)) := by
  refine D.okX sc_get_weights (fun vs H Q E h => ?_) (fun f cdv A outer s H vs Q E hr h => ?_)
  · obtain ⟨a, m, l, ns, o, rfl, _⟩ := h
    rfl
  refine ⟨_, (pss_one (ps_ret (pe_op op_cat (pe_op op_cat (pe_lst (pa_cons (pe_fld (pv 0) rfl) pa_nil)) (pe_fld (pv 0) rfl)) (pe_fld (pv 0) rfl)))), ?_⟩
  obtain ⟨a, m, l, ns, o, rfl, hm, ok, hl, hg, k⟩ := h
  have hg := sh0_of hg
  subst hg
  have k' := k.ret hm
  have n5 := ok.n5
  have le := ok.len
  obtain ⟨dx, pt, pp, h⟩ := hm
  have t1 : (VL (toI m.testWeights)).length = m.testWeights.length := by rw [List.length_map, toI_length]
  have t2 : (VL (toI m.productionWeights)).length = m.productionWeights.length := by rw [List.length_map, toI_length]
  refine ⟨_, rfl, a, C, dx, _, _, rfl, h.o, T.cl, T.nC, mF_n, (by show 1 ≤ sizeLine; decide), fun q hq => ?_⟩
  have s0 : Same H (upd H q (.lst [.int (m.testWeights.length : Int)])) := Same.new hq
  have g := h.same s0
  refine ⟨_, rfl, a, C, dx, _, _, rfl, g.o, T.cl, T.nT, mF_t, q, pt, _, _, rfl, rfl, upd_same, g.t, sz3 (by rw [t1]; show 1 + _ ≤ _; omega), fun q2 hq2 => ?_⟩
  have s1 := s0.trans (Same.new (o := .lst ([.int (m.testWeights.length : Int)] ++ VL (toI m.testWeights))) hq2)
  have g1 := h.same s1
  refine ⟨_, rfl, a, C, dx, _, _, rfl, g1.o, T.cl, T.nP, mF_p, q2, pp, _, _, rfl, rfl, upd_same, g1.p, sz3 (by rw [List.length_append, t1, t2]; show 1 + _ + _ ≤ _; omega), fun p hp => ?_⟩
  have e : [V.int (m.testWeights.length : Int)] ++ VL (toI m.testWeights) ++ VL (toI m.productionWeights) = VL ((m.testWeights.length : Int) :: (toI m.testWeights ++ toI m.productionWeights)) := by
    show _ = V.int (m.testWeights.length : Int) :: (toI m.testWeights ++ toI m.productionWeights).map V.int
    rw [List.map_append]
    rfl
  rw [e]
  exact k'.at s1 hp
theorem ok_signal_probability (T : Txt K mg C CI CN CU CO CP) (h_check_signal : Has P w K mg base (L2.CX P w) 1 "check_signal" (spChkN C CU Kp415.isSignal)) (h_probability_fraction : Has P w K mg base CX0 4 "probability_fraction" (spMnL C isSig fun m s => Kp415.fraction (Kp415.signalProbability m s))) (D : Def K mg "signal_probability" s_signal_probability ["model", "arguments"]) :
    Has P w K mg base (L2.CX P w) 5 "signal_probability" (spOp K (errC CN CU CO CP) C (sh1 f5)) := by
  refine D.okX sc_signal_probability (fun vs H Q E h => ?_) (fun f cdv A outer s H vs Q E hr h => ?_)
  · obtain ⟨a, m, l, ns, o, rfl, _⟩ := h
    rfl
  refine ⟨_, (pss_cons (ps_set (i := 2) sc_signal_probability.nd rfl (Or.inl rfl) (pe_ix ix_list (pv 1) pe_int (fun _ _ => rfl))) (pss_cons (ps_expr (pe_h h_check_signal hr (by decide) rfl (passes_call (takes_of rfl rfl rfl rfl) (fun _ _ _ _ h => h)) (pa_cons (pv 0) (pa_cons (pv 2) pa_nil)))) (pss_one (ps_ret (pe_op op_cat (pe_lst (pa_cons pe_int pa_nil)) (pe_h h_probability_fraction hr (by decide) rfl pass0 (pa_cons (pv 0) (pa_cons (pv 2) pa_nil)))))))), ?_⟩
  obtain ⟨a, m, l, ns, o, rfl, hm, ok, hl, hg, k⟩ := h
  obtain ⟨x, rfl, rfl⟩ := sh1_of hg
  refine ⟨_, rfl, l, _, _, _, rfl, rfl, hl, args0, ?_⟩
  refine ⟨_, rfl, _, rfl, a, m, x, rfl, hm, ok, fun hv H1 s1 => ?_, fun hv => k.is (if_neg (by rw [hv]; decide))⟩
  have k' := (k.is (if_pos hv)).ret hm
  refine ⟨(by show 1 ≤ sizeLine; decide), fun q hq => ?_⟩
  have s2 := s1.trans (Same.new (o := .lst [.int 0]) hq)
  refine ⟨_, rfl, _, rfl, a, m, x, rfl, hm.same s2, ok, isSig_iff.mp hv, fun H2 b s3 n3 e3 => ?_⟩
  exact ⟨q, b, _, _, rfl, rfl, s3 _ _ upd_same, e3, sz3 (by rw [frac_len]; decide), fun p hp => k'.at (s2.trans s3) hp⟩
theorem ok_posterior (T : Txt K mg C CI CN CU CO CP) (h_check_posterior : Has P w K mg base (L2.CX P w) 4 "check_posterior" (spChkP C CU CP)) (h_posterior_fraction : Has P w K mg base CX0 4 "posterior_fraction" (spMnL C hasProb fun m s => Kp415.fraction (Kp415.posteriorTest m s))) (D : Def K mg "posterior" s_posterior ["model", "arguments"]) :
    Has P w K mg base (L2.CX P w) 5 "posterior" (spOp K (errC CN CU CO CP) C (sh1 f6)) := by
  refine D.okX sc_posterior (fun vs H Q E h => ?_) (fun f cdv A outer s H vs Q E hr h => ?_)
  · obtain ⟨a, m, l, ns, o, rfl, _⟩ := h
    rfl
  refine ⟨_, (pss_cons (ps_set (i := 2) sc_posterior.nd rfl (Or.inl rfl) (pe_ix ix_list (pv 1) pe_int (fun _ _ => rfl))) (pss_cons (ps_expr (pe_h h_check_posterior hr (by decide) rfl (passes_call (takes_of rfl rfl rfl rfl) (fun _ _ _ _ h => h)) (pa_cons (pv 0) (pa_cons (pv 2) pa_nil)))) (pss_one (ps_ret (pe_op op_cat (pe_lst (pa_cons pe_int pa_nil)) (pe_h h_posterior_fraction hr (by decide) rfl pass0 (pa_cons (pv 0) (pa_cons (pv 2) pa_nil)))))))), ?_⟩
  obtain ⟨a, m, l, ns, o, rfl, hm, ok, hl, hg, k⟩ := h
  obtain ⟨x, rfl, rfl⟩ := sh1_of hg
  refine ⟨_, rfl, l, _, _, _, rfl, rfl, hl, args0, ?_⟩
  refine ⟨_, rfl, _, rfl, a, m, x, rfl, hm, ok, fun hv => k.is (if_neg (by rw [hv]; decide)), fun hv h0 => k.is ((if_pos hv).trans (if_pos h0)), fun hv h0 H1 s1 => ?_⟩
  have k' := (k.is ((if_pos hv).trans (if_neg h0))).ret hm
  refine ⟨(by show 1 ≤ sizeLine; decide), fun q hq => ?_⟩
  have s2 := s1.trans (Same.new (o := .lst [.int 0]) hq)
  refine ⟨_, rfl, _, rfl, a, m, x, rfl, hm.same s2, ok, ⟨isSig_iff.mp hv, h0⟩, fun H2 b s3 n3 e3 => ?_⟩
  exact ⟨q, b, _, _, rfl, rfl, s3 _ _ upd_same, e3, sz3 (by rw [frac_len]; decide), fun p hp => k'.at (s2.trans s3) hp⟩
theorem ok_certainty (T : Txt K mg C CI CN CU CO CP) (h_check_posterior : Has P w K mg base (L2.CX P w) 4 "check_posterior" (spChkP C CU CP)) (h_joint_test_parts : Has P w K mg base CX0 2 "joint_test_parts" (spML C jtp)) (h_joint_production_parts : Has P w K mg base CX0 2 "joint_production_parts" (spML C jpp)) (D : Def K mg "certainty" s_certainty ["model", "arguments"]) :
    Has P w K mg base (L2.CX P w) 5 "certainty" (spOp K (errC CN CU CO CP) C (sh1 f7)) := by
  refine D.okX sc_certainty (fun vs H Q E h => ?_) (fun f cdv A outer s H vs Q E hr h => ?_)
  · obtain ⟨a, m, l, ns, o, rfl, _⟩ := h
    rfl
  refine ⟨_, (pss_cons (ps_set (i := 2) sc_certainty.nd rfl (Or.inl rfl) (pe_ix ix_list (pv 1) pe_int (fun _ _ => rfl))) (pss_cons (ps_expr (pe_h h_check_posterior hr (by decide) rfl (passes_call (takes_of rfl rfl rfl rfl) (fun _ _ _ _ h => h)) (pa_cons (pv 0) (pa_cons (pv 2) pa_nil)))) (pss_cons (ps_if (pt_cmpR op_eq (pe_ix ix_list (pe_h h_joint_test_parts hr (by decide) rfl pass0 (pa_cons (pv 0) pa_nil)) (pv 2) (fun _ _ => rfl)) pe_int (nomark _)) (pss_one (ps_ret (pe_lst (pa_cons pe_int pa_nil)))) pss_nil) (pss_cons (ps_if (pt_cmpR op_eq (pe_ix ix_list (pe_h h_joint_production_parts hr (by decide) rfl pass0 (pa_cons (pv 0) pa_nil)) (pv 2) (fun _ _ => rfl)) pe_int (nomark _)) (pss_one (ps_ret (pe_lst (pa_cons pe_int pa_nil)))) pss_nil) (pss_one (ps_ret (pe_lst (pa_cons pe_int pa_nil)))))))), ?_⟩
  obtain ⟨a, m, l, ns, o, rfl, hm, ok, hl, hg, k⟩ := h
  obtain ⟨x, rfl, rfl⟩ := sh1_of hg
  refine ⟨_, rfl, l, _, _, _, rfl, rfl, hl, args0, ?_⟩
  refine ⟨_, rfl, _, rfl, a, m, x, rfl, hm, ok, fun hv => k.is (if_neg (by rw [hv]; decide)), fun hv h0 => k.is ((if_pos hv).trans (if_pos h0)), fun hv h0 H1 s1 => ?_⟩
  have k' := (k.is ((if_pos hv).trans (if_neg h0))).ret hm
  have l1 : x < (jtp m).length := by rw [jtp_length]; exact isSig_iff.mp hv
  have l2 : x < (jpp m).length := by rw [jpp_length, ok.len]; exact isSig_iff.mp hv
  refine ⟨_, rfl, a, m, rfl, hm.same s1, ok, fun H2 p2 s2 n2 e2 => ⟨_, rfl, p2, _, _, _, rfl, rfl, SqL.of e2, atI_nat (at0_get l1), rfl, _, rfl, ?_⟩⟩
  rw [dec_int]
  by_cases c1 : at0 (jtp m) x = 0
  · refine ifY (decide_eq_true c1) ⟨(by show 1 ≤ sizeLine; decide), fun p hp => ?_⟩
    rw [if_pos c1] at k'
    exact k'.at (s1.trans s2) hp
  refine ifN (decide_eq_false c1) ?_
  rw [if_neg c1] at k'
  refine ⟨_, rfl, a, m, rfl, hm.same (s1.trans s2), ok, fun H3 p3 s3 n3 e3 => ⟨_, rfl, p3, _, _, _, rfl, rfl, SqL.of e3, atI_nat (at0_get l2), rfl, _, rfl, ?_⟩⟩
  rw [dec_int]
  by_cases c2 : at0 (jpp m) x = 0
  · refine ifY (decide_eq_true c2) ⟨(by show 1 ≤ sizeLine; decide), fun p hp => ?_⟩
    rw [if_pos c2] at k'
    exact k'.at ((s1.trans s2).trans s3) hp
  refine ifN (decide_eq_false c2) ⟨(by show 1 ≤ sizeLine; decide), fun p hp => ?_⟩
  rw [if_neg c2] at k'
  exact k'.at ((s1.trans s2).trans s3) hp
theorem ok_total_variation (T : Txt K mg C CI CN CU CO CP) (h_variation_fraction : Has P w K mg base CX0 4 "variation_fraction" (spML C fun m => Kp415.fraction (Kp415.totalVariation m))) (D : Def K mg "total_variation" s_total_variation ["model", "arguments"]) :
    Has P w K mg base (L2.CX P w) 5 "total_variation" (spOp K (errC CN CU CO CP) C (sh0 f8)) := by
  refine D.okX sc_total_variation (fun vs H Q E h => ?_) (fun f cdv A outer s H vs Q E hr h => ?_)
  · obtain ⟨a, m, l, ns, o, rfl, _⟩ := h
    rfl
  refine ⟨_, (pss_one (ps_ret (pe_op op_cat (pe_lst (pa_cons pe_int pa_nil)) (pe_h h_variation_fraction hr (by decide) rfl pass0 (pa_cons (pv 0) pa_nil))))), ?_⟩
  obtain ⟨a, m, l, ns, o, rfl, hm, ok, hl, hg, k⟩ := h
  have hg := sh0_of hg
  subst hg
  have k' := k.ret hm
  refine ⟨(by show 1 ≤ sizeLine; decide), fun q hq => ?_⟩
  have s2 : Same H (upd H q (.lst [.int 0])) := Same.new hq
  refine ⟨_, rfl, a, m, rfl, hm.same s2, ok, fun H2 b s3 n3 e3 => ?_⟩
  exact ⟨q, b, _, _, rfl, rfl, s3 _ _ upd_same, e3, sz3 (by rw [frac_len]; decide), fun p hp => k'.at (s2.trans s3) hp⟩
theorem ok_best_accuracy (T : Txt K mg C CI CN CU CO CP) (h_accuracy_fraction : Has P w K mg base CX0 4 "accuracy_fraction" (spML C fun m => Kp415.fraction (Kp415.bestAccuracy m))) (D : Def K mg "best_accuracy" s_best_accuracy ["model", "arguments"]) :
    Has P w K mg base (L2.CX P w) 5 "best_accuracy" (spOp K (errC CN CU CO CP) C (sh0 f9)) := by
  refine D.okX sc_best_accuracy (fun vs H Q E h => ?_) (fun f cdv A outer s H vs Q E hr h => ?_)
  · obtain ⟨a, m, l, ns, o, rfl, _⟩ := h
    rfl
  refine ⟨_, (pss_one (ps_ret (pe_op op_cat (pe_lst (pa_cons pe_int pa_nil)) (pe_h h_accuracy_fraction hr (by decide) rfl pass0 (pa_cons (pv 0) pa_nil))))), ?_⟩
  obtain ⟨a, m, l, ns, o, rfl, hm, ok, hl, hg, k⟩ := h
  have hg := sh0_of hg
  subst hg
  have k' := k.ret hm
  refine ⟨(by show 1 ≤ sizeLine; decide), fun q hq => ?_⟩
  have s2 : Same H (upd H q (.lst [.int 0])) := Same.new hq
  refine ⟨_, rfl, a, m, rfl, hm.same s2, ok, fun H2 b s3 n3 e3 => ?_⟩
  exact ⟨q, b, _, _, rfl, rfl, s3 _ _ upd_same, e3, sz3 (by rw [frac_len]; decide), fun p hp => k'.at (s2.trans s3) hp⟩
theorem ok_blind_accuracy (T : Txt K mg C CI CN CU CO CP) (h_blind_fraction : Has P w K mg base CX0 3 "blind_fraction" (spML C fun m => Kp415.fraction (Kp415.blindAccuracy m))) (D : Def K mg "blind_accuracy" s_blind_accuracy ["model", "arguments"]) :
    Has P w K mg base (L2.CX P w) 4 "blind_accuracy" (spOp K (errC CN CU CO CP) C (sh0 f11)) := by
  refine D.okX sc_blind_accuracy (fun vs H Q E h => ?_) (fun f cdv A outer s H vs Q E hr h => ?_)
  · obtain ⟨a, m, l, ns, o, rfl, _⟩ := h
    rfl
  refine ⟨_, (pss_one (ps_ret (pe_op op_cat (pe_lst (pa_cons pe_int pa_nil)) (pe_h h_blind_fraction hr (by decide) rfl pass0 (pa_cons (pv 0) pa_nil))))), ?_⟩
  obtain ⟨a, m, l, ns, o, rfl, hm, ok, hl, hg, k⟩ := h
  have hg := sh0_of hg
  subst hg
  have k' := k.ret hm
  refine ⟨(by show 1 ≤ sizeLine; decide), fun q hq => ?_⟩
  have s2 : Same H (upd H q (.lst [.int 0])) := Same.new hq
  refine ⟨_, rfl, a, m, rfl, hm.same s2, ok, fun H2 b s3 n3 e3 => ?_⟩
  exact ⟨q, b, _, _, rfl, rfl, s3 _ _ upd_same, e3, sz3 (by rw [frac_len]; decide), fun p hp => k'.at (s2.trans s3) hp⟩
theorem kinds_len {m : Md} (ok : Ok m) : (VL (kinds m)).length = m.testWeights.length := by
  unfold kinds
  rw [List.length_map, List.length_map, List.length_zip, jtp_length, jpp_length, ok.len, Nat.min_self]
theorem ok_best_guesses (T : Txt K mg C CI CN CU CO CP) (h_likelier_kinds : Has P w K mg base CX0 3 "likelier_kinds" (spML C kinds)) (D : Def K mg "best_guesses" s_best_guesses ["model", "arguments"]) :
    Has P w K mg base (L2.CX P w) 4 "best_guesses" (spOp K (errC CN CU CO CP) C (sh0 f10)) := by
  refine D.okX sc_best_guesses (fun vs H Q E h => ?_) (fun f cdv A outer s H vs Q E hr h => ?_)
  · obtain ⟨a, m, l, ns, o, rfl, _⟩ := h
    rfl
  refine ⟨_, (pss_one (ps_ret (pe_op op_cat (pe_lst (pa_cons (pe_fld (pv 0) rfl) pa_nil)) (pe_h h_likelier_kinds hr (by decide) rfl pass0 (pa_cons (pv 0) pa_nil))))), ?_⟩
  obtain ⟨a, m, l, ns, o, rfl, hm, ok, hl, hg, k⟩ := h
  have hg := sh0_of hg
  subst hg
  have k' := k.ret hm
  have n5 := ok.n5
  obtain ⟨dx, pt, pp, h⟩ := id hm
  refine ⟨_, rfl, a, C, dx, _, _, rfl, h.o, T.cl, T.nC, mF_n, (by show 1 ≤ sizeLine; decide), fun q hq => ?_⟩
  have s2 : Same H (upd H q (.lst [.int (m.testWeights.length : Int)])) := Same.new hq
  refine ⟨_, rfl, a, m, rfl, hm.same s2, ok, fun H2 b s3 n3 e3 => ?_⟩
  exact ⟨q, b, _, _, rfl, rfl, s3 _ _ upd_same, e3, sz3 (by rw [kinds_len ok]; show 1 + _ ≤ _; omega), fun p hp => k'.at (s2.trans s3) hp⟩
end
end Kp
set_option Elab.async false
set_option linter.all false
set_option maxRecDepth 100000
set_option maxHeartbeats 4000000
namespace Kp
open PySem PySem.Spec PyProof.Rows L2
abbrev s_merge_signals : Stmt := topS 78
theorem sc_merge_signals : FnScope ["model", "arguments"] ["model", "arguments"] (defScope s_merge_signals) := ⟨rfl, rfl, rfl, by decide +kernel, rfl, by decide +kernel, by decide +kernel⟩
abbrev s_preview_merge : Stmt := topS 79
theorem sc_preview_merge : FnScope ["model", "arguments", "merged"] ["model", "arguments"] (defScope s_preview_merge) := ⟨rfl, rfl, rfl, by decide +kernel, rfl, by decide +kernel, by decide +kernel⟩
abbrev s_sequence_total_variation : Stmt := topS 80
theorem sc_sequence_total_variation : FnScope ["model", "arguments", "length"] ["model", "arguments"] (defScope s_sequence_total_variation) := ⟨rfl, rfl, rfl, by decide +kernel, rfl, by decide +kernel, by decide +kernel⟩
abbrev s_sequence_accuracy : Stmt := topS 81
theorem sc_sequence_accuracy : FnScope ["model", "arguments", "length"] ["model", "arguments"] (defScope s_sequence_accuracy) := ⟨rfl, rfl, rfl, by decide +kernel, rfl, by decide +kernel, by decide +kernel⟩
abbrev s_sequence_posterior : Stmt := topS 82
theorem sc_sequence_posterior : FnScope ["model", "arguments"] ["model", "arguments"] (defScope s_sequence_posterior) := ⟨rfl, rfl, rfl, by decide +kernel, rfl, by decide +kernel, by decide +kernel⟩
abbrev s_set_shares : Stmt := topS 83
theorem sc_set_shares : FnScope ["model", "arguments", "mask"] ["model", "arguments"] (defScope s_set_shares) := ⟨rfl, rfl, rfl, by decide +kernel, rfl, by decide +kernel, by decide +kernel⟩
abbrev s_best_detector : Stmt := topS 84
theorem sc_best_detector : FnScope ["model", "arguments", "num", "den", "mask"] ["model", "arguments"] (defScope s_best_detector) := ⟨rfl, rfl, rfl, by decide +kernel, rfl, by decide +kernel, by decide +kernel⟩
abbrev s_widest_gap_set : Stmt := topS 85
theorem sc_widest_gap_set : FnScope ["model", "arguments", "mask"] ["model", "arguments"] (defScope s_widest_gap_set) := ⟨rfl, rfl, rfl, by decide +kernel, rfl, by decide +kernel, by decide +kernel⟩
abbrev s_accuracy_for_prior : Stmt := topS 86
theorem sc_accuracy_for_prior : FnScope ["model", "arguments", "num", "den", "changed"] ["model", "arguments"] (defScope s_accuracy_for_prior) := ⟨rfl, rfl, rfl, by decide +kernel, rfl, by decide +kernel, by decide +kernel⟩
abbrev s_create : Stmt := topS 66
theorem sc_create : FnScope ["instance", "arguments", "signal_count"] ["instance", "arguments"] (defScope s_create) := ⟨rfl, rfl, rfl, by decide +kernel, rfl, by decide +kernel, by decide +kernel⟩
section
variable {P : Program} {w : World} {K : PySem.W.Frag} {mg : Str → Option Value} {base : Heap} {C CI CN CU CO CP : Addr}
theorem ok_merge_signals (T : Txt K mg C CI CN CU CO CP) (h_check_mapping : Has P w K mg base (L2.CX P w) 2 "check_mapping" (spChkL K C CO Kp415.validMapping)) (h_merge : Has P w K mg base CX0 2 "merge" (spMerge K C)) (h_variation_fraction : Has P w K mg base CX0 4 "variation_fraction" (spML C fun m => Kp415.fraction (Kp415.totalVariation m))) (D : Def K mg "merge_signals" s_merge_signals ["model", "arguments"]) :
    Has P w K mg base (L2.CX P w) 5 "merge_signals" (spOp K (errC CN CU CO CP) C (shL f12)) := by
  refine D.okX sc_merge_signals (fun vs H Q E h => ?_) (fun f cdv A outer s H vs Q E hr h => ?_)
  · obtain ⟨a, m, l, ns, o, rfl, _⟩ := h
    rfl
  refine ⟨_, (pss_cons (ps_expr (pe_h h_check_mapping hr (by decide) rfl (passes_call (takes_of rfl rfl rfl rfl) (fun _ _ _ _ h => h)) (pa_cons (pv 0) (pa_cons (pv 1) pa_nil)))) (pss_cons (ps_expr (pe_h h_merge hr (by decide) rfl pass0 (pa_cons (pv 0) (pa_cons (pv 1) pa_nil)))) (pss_one (ps_ret (pe_op op_cat (pe_lst (pa_cons pe_int pa_nil)) (pe_h h_variation_fraction hr (by decide) rfl pass0 (pa_cons (pv 0) pa_nil))))))), ?_⟩
  obtain ⟨a, m, l, ns, o, rfl, hm, ok, hl, hg, k⟩ := h
  have hg := shL_of hg
  subst hg
  refine ⟨_, rfl, _, rfl, a, m, l, ns, rfl, hm, ok, hl, fun hv H1 s1 => ?_, fun hv => k.is (if_neg (by rw [hv]; decide))⟩
  have k' := k.is (if_pos hv)
  have hmap := map_iff.mp hv
  have ok2 : Ok (Kp415.mergeSignals m ns) := merge_ok ok hmap.1 hmap.2
  refine ⟨_, rfl, _, rfl, a, m, l, ns, rfl, hm.same s1, ok, s1.seq hl, hmap, fun H2 m2 e2 => ?_⟩
  refine ⟨(by show 1 ≤ sizeLine; decide), fun q hq => ?_⟩
  have s3 : Same H2 (upd H2 q (.lst [.int 0])) := Same.new hq
  refine ⟨_, rfl, a, _, rfl, m2.same s3, ok2, fun H3 b s4 n4 e4 => ?_⟩
  refine ⟨q, b, _, _, rfl, rfl, s4 _ _ upd_same, e4, sz3 (by rw [frac_len]; decide), fun p hp => ?_⟩
  have s5 := s3.trans s4
  obtain ⟨dx, pt, pp, h2⟩ := id m2
  have e3 := (Same.els s1).trans (e2.then s5)
  exact k' _ p (m2.same (s5.trans (Same.new hp))) (e3.then (Same.new hp)) (e3.free (s5 _ _ h2.o) hp) upd_same
theorem ok_preview_merge (T : Txt K mg C CI CN CU CO CP) (h_check_mapping : Has P w K mg base (L2.CX P w) 2 "check_mapping" (spChkL K C CO Kp415.validMapping)) (h_copy_model : Has P w K mg base CX0 3 "copy_model" (spCopy C)) (h_merge : Has P w K mg base CX0 2 "merge" (spMerge K C)) (h_variation_fraction : Has P w K mg base CX0 4 "variation_fraction" (spML C fun m => Kp415.fraction (Kp415.totalVariation m)))
    (h_accuracy_fraction : Has P w K mg base CX0 4 "accuracy_fraction" (spML C fun m => Kp415.fraction (Kp415.bestAccuracy m))) (D : Def K mg "preview_merge" s_preview_merge ["model", "arguments"]) :
    Has P w K mg base (L2.CX P w) 5 "preview_merge" (spOp K (errC CN CU CO CP) C (shL f13)) := by
  refine D.okX sc_preview_merge (fun vs H Q E h => ?_) (fun f cdv A outer s H vs Q E hr h => ?_)
  · obtain ⟨a, m, l, ns, o, rfl, _⟩ := h
    rfl
  refine ⟨_, (pss_cons (ps_expr (pe_h h_check_mapping hr (by decide) rfl (passes_call (takes_of rfl rfl rfl rfl) (fun _ _ _ _ h => h)) (pa_cons (pv 0) (pa_cons (pv 1) pa_nil)))) (pss_cons (ps_set (i := 2) sc_preview_merge.nd rfl (Or.inl rfl) (pe_h h_copy_model hr (by decide) rfl pass0 (pa_cons (pv 0) pa_nil))) (pss_cons (ps_expr (pe_h h_merge hr (by decide) rfl pass0 (pa_cons (pv 2) (pa_cons (pv 1) pa_nil)))) (pss_one (ps_ret (pe_op op_cat (pe_op op_cat (pe_lst (pa_cons pe_int pa_nil)) (pe_h h_variation_fraction hr (by decide) rfl pass0 (pa_cons (pv 2) pa_nil))) (pe_h h_accuracy_fraction hr (by decide) rfl pass0 (pa_cons (pv 2) pa_nil)))))))), ?_⟩
  obtain ⟨a, m, l, ns, o, rfl, hm, ok, hl, hg, k⟩ := h
  have hg := shL_of hg
  subst hg
  refine ⟨_, rfl, _, rfl, a, m, l, ns, rfl, hm, ok, hl, fun hv H1 s1 => ?_, fun hv => k.is (if_neg (by rw [hv]; decide))⟩
  have k' := (k.is (if_pos hv)).ret hm
  have hmap := map_iff.mp hv
  have ok2 : Ok (Kp415.mergeSignals m ns) := merge_ok ok hmap.1 hmap.2
  refine ⟨_, rfl, a, m, rfl, hm.same s1, ok, fun H2 c s2 nc mc => ?_⟩
  have s12 := s1.trans s2
  refine ⟨_, rfl, _, rfl, c, m, l, ns, rfl, mc, ok, s12.seq hl, hmap, fun H3 m3 e3 => ?_⟩
  have s13 : Same H H3 := fun b o r => e3 _ _ (s12 b o r) (ne_of_none (s1 _ _ r) nc)
  refine ⟨(by show 1 ≤ sizeLine; decide), fun q hq => ?_⟩
  have s4 : Same H3 (upd H3 q (.lst [.int 0])) := Same.new hq
  refine ⟨_, rfl, c, _, rfl, m3.same s4, ok2, fun H5 b s5 n5 e5 => ?_⟩
  refine ⟨q, b, _, _, rfl, rfl, s5 _ _ upd_same, e5, sz3 (by rw [frac_len]; decide), fun q2 hq2 => ?_⟩
  have s6 := (s4.trans s5).trans (Same.new (o := .lst ([.int 0] ++ VL (Kp415.fraction (Kp415.totalVariation (Kp415.mergeSignals m ns))))) hq2)
  refine ⟨_, rfl, c, _, rfl, m3.same s6, ok2, fun H7 b7 s7 n7 e7 => ?_⟩
  exact ⟨q2, b7, _, _, rfl, rfl, s7 _ _ upd_same, e7, sz3 (by rw [List.length_append, frac_len, frac_len]; decide), fun p hp => k'.at ((s13.trans s6).trans s7) hp⟩
theorem ok_sequence_total_variation (T : Txt K mg C CI CN CU CO CP) (h_check_length : Has P w K mg base (L2.CX P w) 1 "check_length" (spChkK CO)) (h_sequence_variation : Has P w K mg base CX0 4 "sequence_variation" (spMnL C okLen seqTv)) (D : Def K mg "sequence_total_variation" s_sequence_total_variation ["model", "arguments"]) :
    Has P w K mg base (L2.CX P w) 5 "sequence_total_variation" (spOp K (errC CN CU CO CP) C (sh1 f14)) := by
  refine D.okX sc_sequence_total_variation (fun vs H Q E h => ?_) (fun f cdv A outer s H vs Q E hr h => ?_)
  · obtain ⟨a, m, l, ns, o, rfl, _⟩ := h
    rfl
  refine ⟨_, (pss_cons (ps_set (i := 2) sc_sequence_total_variation.nd rfl (Or.inl rfl) (pe_ix ix_list (pv 1) pe_int (fun _ _ => rfl))) (pss_cons (ps_expr (pe_h h_check_length hr (by decide) rfl (passes_call (takes_of rfl rfl rfl rfl) (fun _ _ _ _ h => h)) (pa_cons (pv 2) pa_nil))) (pss_one (ps_ret (pe_op op_cat (pe_lst (pa_cons pe_int pa_nil)) (pe_h h_sequence_variation hr (by decide) rfl pass0 (pa_cons (pv 0) (pa_cons (pv 2) pa_nil)))))))), ?_⟩
  obtain ⟨a, m, l, ns, o, rfl, hm, ok, hl, hg, k⟩ := h
  obtain ⟨x, rfl, rfl⟩ := sh1_of hg
  refine ⟨_, rfl, l, _, _, _, rfl, rfl, hl, args0, ?_⟩
  refine ⟨_, rfl, x, rfl, fun hv H1 s1 => ?_, fun hv => k.is (if_neg (of_decide_eq_false hv))⟩
  have hv := of_decide_eq_true hv
  have k' := (k.is (if_pos hv)).ret hm
  refine ⟨(by show 1 ≤ sizeLine; decide), fun q hq => ?_⟩
  have s2 := s1.trans (Same.new (o := .lst [.int 0]) hq)
  refine ⟨_, rfl, _, rfl, a, m, x, rfl, hm.same s2, ok, hv, fun H2 b s3 n3 e3 => ?_⟩
  exact ⟨q, b, _, _, rfl, rfl, s3 _ _ upd_same, e3, sz3 (by show 1 + 2 ≤ 1000; decide), fun p hp => k'.at (s2.trans s3) hp⟩
theorem ok_sequence_accuracy (T : Txt K mg C CI CN CU CO CP) (h_check_length : Has P w K mg base (L2.CX P w) 1 "check_length" (spChkK CO)) (h_sequence_best_accuracy : Has P w K mg base CX0 4 "sequence_best_accuracy" (spMnL C okLen seqAcc)) (D : Def K mg "sequence_accuracy" s_sequence_accuracy ["model", "arguments"]) :
    Has P w K mg base (L2.CX P w) 5 "sequence_accuracy" (spOp K (errC CN CU CO CP) C (sh1 f15)) := by
  refine D.okX sc_sequence_accuracy (fun vs H Q E h => ?_) (fun f cdv A outer s H vs Q E hr h => ?_)
  · obtain ⟨a, m, l, ns, o, rfl, _⟩ := h
    rfl
  refine ⟨_, (pss_cons (ps_set (i := 2) sc_sequence_accuracy.nd rfl (Or.inl rfl) (pe_ix ix_list (pv 1) pe_int (fun _ _ => rfl))) (pss_cons (ps_expr (pe_h h_check_length hr (by decide) rfl (passes_call (takes_of rfl rfl rfl rfl) (fun _ _ _ _ h => h)) (pa_cons (pv 2) pa_nil))) (pss_one (ps_ret (pe_op op_cat (pe_lst (pa_cons pe_int pa_nil)) (pe_h h_sequence_best_accuracy hr (by decide) rfl pass0 (pa_cons (pv 0) (pa_cons (pv 2) pa_nil)))))))), ?_⟩
  obtain ⟨a, m, l, ns, o, rfl, hm, ok, hl, hg, k⟩ := h
  obtain ⟨x, rfl, rfl⟩ := sh1_of hg
  refine ⟨_, rfl, l, _, _, _, rfl, rfl, hl, args0, ?_⟩
  refine ⟨_, rfl, x, rfl, fun hv H1 s1 => ?_, fun hv => k.is (if_neg (of_decide_eq_false hv))⟩
  have hv := of_decide_eq_true hv
  have k' := (k.is (if_pos hv)).ret hm
  refine ⟨(by show 1 ≤ sizeLine; decide), fun q hq => ?_⟩
  have s2 := s1.trans (Same.new (o := .lst [.int 0]) hq)
  refine ⟨_, rfl, _, rfl, a, m, x, rfl, hm.same s2, ok, hv, fun H2 b s3 n3 e3 => ?_⟩
  exact ⟨q, b, _, _, rfl, rfl, s3 _ _ upd_same, e3, sz3 (by show 1 + 2 ≤ 1000; decide), fun p hp => k'.at (s2.trans s3) hp⟩
theorem ok_sequence_posterior (T : Txt K mg C CI CN CU CO CP) (h_check_sequence : Has P w K mg base (L2.CX P w) 4 "check_sequence" (spChkS K C CO CP)) (h_sequence_posterior_fraction : Has P w K mg base CX0 4 "sequence_posterior_fraction" (spMlL K C okSeqP seqPost)) (D : Def K mg "sequence_posterior" s_sequence_posterior ["model", "arguments"]) :
    Has P w K mg base (L2.CX P w) 5 "sequence_posterior" (spOp K (errC CN CU CO CP) C (shL f16)) := by
  refine D.okX sc_sequence_posterior (fun vs H Q E h => ?_) (fun f cdv A outer s H vs Q E hr h => ?_)
  · obtain ⟨a, m, l, ns, o, rfl, _⟩ := h
    rfl
  refine ⟨_, (pss_cons (ps_expr (pe_h h_check_sequence hr (by decide) rfl (passes_call (takes_of rfl rfl rfl rfl) (fun _ _ _ _ h => h)) (pa_cons (pv 0) (pa_cons (pv 1) pa_nil)))) (pss_one (ps_ret (pe_op op_cat (pe_lst (pa_cons pe_int pa_nil)) (pe_h h_sequence_posterior_fraction hr (by decide) rfl pass0 (pa_cons (pv 0) (pa_cons (pv 1) pa_nil))))))), ?_⟩
  obtain ⟨a, m, l, ns, o, rfl, hm, ok, hl, hg, k⟩ := h
  have hg := shL_of hg
  subst hg
  refine ⟨_, rfl, _, rfl, a, m, l, ns, rfl, hm, ok, hl, fun hv => k.is (if_neg (by rw [hv]; decide)), fun hv h0 => k.is ((if_pos hv).trans (if_pos h0)), fun hv h0 H1 s1 => ?_⟩
  have k' := (k.is ((if_pos hv).trans (if_neg h0))).ret hm
  refine ⟨(by show 1 ≤ sizeLine; decide), fun q hq => ?_⟩
  have s2 := s1.trans (Same.new (o := .lst [.int 0]) hq)
  refine ⟨_, rfl, _, rfl, a, m, l, ns, rfl, hm.same s2, ok, s2.seq hl, ⟨seqIn_iff.mp hv, h0⟩, fun H2 b s3 n3 e3 => ?_⟩
  exact ⟨q, b, _, _, rfl, rfl, s3 _ _ upd_same, e3, sz3 (by show 1 + 2 ≤ 1000; decide), fun p hp => k'.at (s2.trans s3) hp⟩
theorem ok_set_shares (T : Txt K mg C CI CN CU CO CP) (h_check_set : Has P w K mg base (L2.CX P w) 2 "check_set" (spChkN C CO fun m n => decide (n < 2 ^ m.testWeights.length))) (h_set_test_fraction : Has P w K mg base CX0 3 "set_test_fraction" (spMnL C any1 fun m n => Kp415.fraction (Kp415.setShare m.testWeights n)))
    (h_set_production_fraction : Has P w K mg base CX0 3 "set_production_fraction" (spMnL C any1 fun m n => Kp415.fraction (Kp415.setShare m.productionWeights n))) (D : Def K mg "set_shares" s_set_shares ["model", "arguments"]) :
    Has P w K mg base (L2.CX P w) 4 "set_shares" (spOp K (errC CN CU CO CP) C (sh1 f17)) := by
  refine D.okX sc_set_shares (fun vs H Q E h => ?_) (fun f cdv A outer s H vs Q E hr h => ?_)
  · obtain ⟨a, m, l, ns, o, rfl, _⟩ := h
    rfl
  refine ⟨_, (pss_cons (ps_set (i := 2) sc_set_shares.nd rfl (Or.inl rfl) (pe_ix ix_list (pv 1) pe_int (fun _ _ => rfl))) (pss_cons (ps_expr (pe_h h_check_set hr (by decide) rfl (passes_call (takes_of rfl rfl rfl rfl) (fun _ _ _ _ h => h)) (pa_cons (pv 0) (pa_cons (pv 2) pa_nil)))) (pss_one (ps_ret (pe_op op_cat (pe_op op_cat (pe_lst (pa_cons pe_int pa_nil)) (pe_h h_set_test_fraction hr (by decide) rfl pass0 (pa_cons (pv 0) (pa_cons (pv 2) pa_nil)))) (pe_h h_set_production_fraction hr (by decide) rfl pass0 (pa_cons (pv 0) (pa_cons (pv 2) pa_nil)))))))), ?_⟩
  obtain ⟨a, m, l, ns, o, rfl, hm, ok, hl, hg, k⟩ := h
  obtain ⟨x, rfl, rfl⟩ := sh1_of hg
  refine ⟨_, rfl, l, _, _, _, rfl, rfl, hl, args0, ?_⟩
  refine ⟨_, rfl, _, rfl, a, m, x, rfl, hm, ok, fun hv H1 s1 => ?_, fun hv => k.is (if_neg (of_decide_eq_false hv))⟩
  have hv := of_decide_eq_true hv
  have k' := (k.is (if_pos hv)).ret hm
  refine ⟨(by show 1 ≤ sizeLine; decide), fun q hq => ?_⟩
  have s2 := s1.trans (Same.new (o := .lst [.int 0]) hq)
  refine ⟨_, rfl, _, rfl, a, m, x, rfl, hm.same s2, ok, trivial, fun H2 b s3 n3 e3 => ?_⟩
  refine ⟨q, b, _, _, rfl, rfl, s3 _ _ upd_same, e3, sz3 (by rw [frac_len]; decide), fun q2 hq2 => ?_⟩
  have s4 := (s2.trans s3).trans (Same.new (o := .lst ([.int 0] ++ VL (Kp415.fraction (Kp415.setShare m.testWeights x)))) hq2)
  refine ⟨_, rfl, _, rfl, a, m, x, rfl, hm.same s4, ok, trivial, fun H5 b5 s5 n5 e5 => ?_⟩
  exact ⟨q2, b5, _, _, rfl, rfl, s5 _ _ upd_same, e5, sz3 (by rw [List.length_append, frac_len, frac_len]; decide), fun p hp => k'.at (s4.trans s5) hp⟩
theorem ok_best_detector (T : Txt K mg C CI CN CU CO CP) (h_check_fraction : Has P w K mg base (L2.CX P w) 1 "check_fraction" (spChkF CO)) (h_detector_mask : Has P w K mg base CX0 2 "detector_mask" (spDet C)) (h_set_test_fraction : Has P w K mg base CX0 3 "set_test_fraction" (spMnL C any1 fun m n => Kp415.fraction (Kp415.setShare m.testWeights n))) (D : Def K mg "best_detector" s_best_detector ["model", "arguments"]) :
    Has P w K mg base (L2.CX P w) 4 "best_detector" (spOp K (errC CN CU CO CP) C (sh2 f18)) := by
  refine D.okX sc_best_detector (fun vs H Q E h => ?_) (fun f cdv A outer s H vs Q E hr h => ?_)
  · obtain ⟨a, m, l, ns, o, rfl, _⟩ := h
    rfl
  refine ⟨_, (pss_cons (ps_set (i := 2) sc_best_detector.nd rfl (Or.inl rfl) (pe_ix ix_list (pv 1) pe_int (fun _ _ => rfl))) (pss_cons (ps_set (i := 3) sc_best_detector.nd rfl (Or.inl rfl) (pe_ix ix_list (pv 1) pe_int (fun _ _ => rfl))) (pss_cons (ps_expr (pe_h h_check_fraction hr (by decide) rfl (passes_call (takes_of rfl rfl rfl rfl) (fun _ _ _ _ h => h)) (pa_cons (pv 2) (pa_cons (pv 3) pa_nil)))) (pss_cons (ps_set (i := 4) sc_best_detector.nd rfl (Or.inl rfl) (pe_h h_detector_mask hr (by decide) rfl pass0 (pa_cons (pv 0) (pa_cons (pv 2) (pa_cons (pv 3) pa_nil))))) (pss_one (ps_ret (pe_op op_cat (pe_lst (pa_cons (pv 4) pa_nil)) (pe_h h_set_test_fraction hr (by decide) rfl pass0 (pa_cons (pv 0) (pa_cons (pv 4) pa_nil)))))))))), ?_⟩
  obtain ⟨a, m, l, ns, o, rfl, hm, ok, hl, hg, k⟩ := h
  obtain ⟨x, y, rfl, rfl⟩ := sh2_of hg
  refine ⟨_, rfl, l, _, _, _, rfl, rfl, hl, args0, ?_⟩
  refine ⟨_, rfl, l, _, _, _, rfl, rfl, hl, args1, ?_⟩
  refine ⟨_, rfl, _, rfl, x, y, rfl, fun hv H1 s1 => ?_, fun hv => k.is (if_neg (by rw [hv]; decide))⟩
  have k' := (k.is (if_pos hv)).ret hm
  have b := frac_iff.mp hv
  refine ⟨_, rfl, _, rfl, _, rfl, a, m, x, y, rfl, hm.same s1, ok, by omega, by omega, fun H2 s2 => ?_⟩
  refine ⟨_, rfl, (by show 1 ≤ sizeLine; decide), fun q hq => ?_⟩
  have s3 := (s1.trans s2).trans (Same.new (o := .lst [.int ((detector m x y : Nat) : Int)]) hq)
  refine ⟨_, rfl, _, rfl, a, m, detector m x y, rfl, hm.same s3, ok, trivial, fun H4 b4 s4 n4 e4 => ?_⟩
  exact ⟨q, b4, _, _, rfl, rfl, s4 _ _ upd_same, e4, sz3 (by show 1 + 2 ≤ 1000; decide), fun p hp => k'.at (s3.trans s4) hp⟩
theorem ok_widest_gap_set (T : Txt K mg C CI CN CU CO CP) (h_widest_mask : Has P w K mg base CX0 3 "widest_mask" (spMI C fun m => ((widest m : Nat) : Int))) (h_set_gap_fraction : Has P w K mg base CX0 3 "set_gap_fraction" (spMnL C any1 fun m n => Kp415.fraction (Kp415.shareGap m n))) (D : Def K mg "widest_gap_set" s_widest_gap_set ["model", "arguments"]) :
    Has P w K mg base (L2.CX P w) 4 "widest_gap_set" (spOp K (errC CN CU CO CP) C (sh0 f19)) := by
  refine D.okX sc_widest_gap_set (fun vs H Q E h => ?_) (fun f cdv A outer s H vs Q E hr h => ?_)
  · obtain ⟨a, m, l, ns, o, rfl, _⟩ := h
    rfl
  refine ⟨_, (pss_cons (ps_set (i := 2) sc_widest_gap_set.nd rfl (Or.inl rfl) (pe_h h_widest_mask hr (by decide) rfl pass0 (pa_cons (pv 0) pa_nil))) (pss_one (ps_ret (pe_op op_cat (pe_lst (pa_cons (pv 2) pa_nil)) (pe_h h_set_gap_fraction hr (by decide) rfl pass0 (pa_cons (pv 0) (pa_cons (pv 2) pa_nil))))))), ?_⟩
  obtain ⟨a, m, l, ns, o, rfl, hm, ok, hl, hg, k⟩ := h
  have hg := sh0_of hg
  subst hg
  have k' := k.ret hm
  refine ⟨_, rfl, a, m, rfl, hm, ok, fun H2 s2 => ?_⟩
  refine ⟨_, rfl, (by show 1 ≤ sizeLine; decide), fun q hq => ?_⟩
  have s3 := s2.trans (Same.new (o := .lst [.int ((widest m : Nat) : Int)]) hq)
  refine ⟨_, rfl, _, rfl, a, m, widest m, rfl, hm.same s3, ok, trivial, fun H4 b4 s4 n4 e4 => ?_⟩
  exact ⟨q, b4, _, _, rfl, rfl, s4 _ _ upd_same, e4, sz3 (by show 1 + 2 ≤ 1000; decide), fun p hp => k'.at (s3.trans s4) hp⟩
theorem ok_accuracy_for_prior (T : Txt K mg C CI CN CU CO CP) (h_check_fraction : Has P w K mg base (L2.CX P w) 1 "check_fraction" (spChkF CO)) (h_copy_model : Has P w K mg base CX0 3 "copy_model" (spCopy C)) (h_accuracy_fraction : Has P w K mg base CX0 4 "accuracy_fraction" (spML C fun m => Kp415.fraction (Kp415.bestAccuracy m))) (D : Def K mg "accuracy_for_prior" s_accuracy_for_prior ["model", "arguments"]) :
    Has P w K mg base (L2.CX P w) 5 "accuracy_for_prior" (spOp K (errC CN CU CO CP) C (sh2 f20)) := by
  refine D.okX sc_accuracy_for_prior (fun vs H Q E h => ?_) (fun f cdv A outer s H vs Q E hr h => ?_)
  · obtain ⟨a, m, l, ns, o, rfl, _⟩ := h
    rfl
  refine ⟨_, (pss_cons (ps_set (i := 2) sc_accuracy_for_prior.nd rfl (Or.inl rfl) (pe_ix ix_list (pv 1) pe_int (fun _ _ => rfl))) (pss_cons (ps_set (i := 3) sc_accuracy_for_prior.nd rfl (Or.inl rfl) (pe_ix ix_list (pv 1) pe_int (fun _ _ => rfl))) (pss_cons (ps_expr (pe_h h_check_fraction hr (by decide) rfl (passes_call (takes_of rfl rfl rfl rfl) (fun _ _ _ _ h => h)) (pa_cons (pv 2) (pa_cons (pv 3) pa_nil)))) (pss_cons (ps_set (i := 4) sc_accuracy_for_prior.nd rfl (Or.inl rfl) (pe_h h_copy_model hr (by decide) rfl pass0 (pa_cons (pv 0) pa_nil))) (pss_cons (ps_fld (pv 4) (pv 2) rfl) (pss_cons (ps_fld (pv 4) (pv 3) rfl) (pss_one (ps_ret (pe_op op_cat (pe_lst (pa_cons pe_int pa_nil)) (pe_h h_accuracy_fraction hr (by decide) rfl pass0 (pa_cons (pv 4) pa_nil))))))))))), ?_⟩
  obtain ⟨a, m, l, ns, o, rfl, hm, ok, hl, hg, k⟩ := h
  obtain ⟨x, y, rfl, rfl⟩ := sh2_of hg
  refine ⟨_, rfl, l, _, _, _, rfl, rfl, hl, args0, ?_⟩
  refine ⟨_, rfl, l, _, _, _, rfl, rfl, hl, args1, ?_⟩
  refine ⟨_, rfl, _, rfl, x, y, rfl, fun hv H1 s1 => ?_, fun hv => k.is (if_neg (by rw [hv]; decide))⟩
  have k' := (k.is (if_pos hv)).ret hm
  have b := frac_iff.mp hv
  refine ⟨_, rfl, a, m, rfl, hm.same s1, ok, fun H2 c s2 nc ⟨dx, pt, pp, g⟩ => ?_⟩
  have s12 := s1.trans s2
  refine ⟨_, rfl, _, rfl, c, C, dx, _, rfl, g.o, T.cl, T.nA, (by show 5 < 1000; decide), ?_⟩
  refine ⟨_, rfl, _, rfl, c, C, dx, mF (m.testWeights.length : Int) (.ref pt) (.ref pp) (x : Int) (m.priorDen : Int), rfl, by rw [upd_same, mF_put_a], T.cl, T.nB, (by show 5 < 1000; decide), ?_⟩
  have ta : pt ≠ c := fun z => by
    have := g.t
    rw [z, g.o] at this
    cases this
  have qa : pp ≠ c := fun z => by
    have := g.p
    rw [z, g.o] at this
    cases this
  have nc' : H c = none := s1.free nc
  have s3 : Same H (upd (upd H2 c (.ins C dx (putF "prior_num" (.int (x : Int)) (mF (m.testWeights.length : Int) (.ref pt) (.ref pp) (m.priorNum : Int) (m.priorDen : Int))))) c (.ins C dx (putF "prior_den" (.int (y : Int)) (mF (m.testWeights.length : Int) (.ref pt) (.ref pp) (x : Int) (m.priorDen : Int))))) := fun b o r => by
    rw [upd_ne (ne_of_none r nc'), upd_ne (ne_of_none r nc')]
    exact s12 b o r
  have m3 : ModelAt C (upd (upd H2 c (.ins C dx (putF "prior_num" (.int (x : Int)) (mF (m.testWeights.length : Int) (.ref pt) (.ref pp) (m.priorNum : Int) (m.priorDen : Int))))) c (.ins C dx (putF "prior_den" (.int (y : Int)) (mF (m.testWeights.length : Int) (.ref pt) (.ref pp) (x : Int) (m.priorDen : Int))))) c { m with priorNum := x, priorDen := y } := by
    refine ⟨dx, pt, pp, ?_, ?_, ?_⟩
    · rw [upd_same, mF_put_b]
    · rw [upd_ne ta, upd_ne ta]
      exact g.t
    · rw [upd_ne qa, upd_ne qa]
      exact g.p
  have ok3 : Ok { m with priorNum := x, priorDen := y } := ⟨ok.len, ok.n1, ok.n5, ok.s1, ok.s2, ok.p1, ok.p2, b.1, b.2.1, b.2.2⟩
  refine ⟨(by show 1 ≤ sizeLine; decide), fun q hq => ?_⟩
  have s4 := Same.new (o := .lst [.int 0]) hq
  refine ⟨_, rfl, c, _, rfl, m3.same s4, ok3, fun H5 b5 s5 n5 e5 => ?_⟩
  exact ⟨q, b5, _, _, rfl, rfl, s5 _ _ upd_same, e5, sz3 (by rw [frac_len]; decide), fun p hp => k'.at ((s3.trans s4).trans s5) hp⟩
/-- create: on the instance at i -/
def spCreate (K : PySem.W.Frag) (co C CI : Addr) : Sp := fun vs H Q E => ∃ (i l : Addr) (v : V) (n : Nat), vs = [.ref i, .ref l] ∧ InsAt CI H i v ∧ SqL K H l (VL (toI [n])) ∧ (¬ (1 ≤ n ∧ n ≤ 5) → ErrE H E co) ∧
  (1 ≤ n ∧ n ≤ 5 → ∀ H' p a, ModelAt C H' a (fresh n) → InsAt CI H' i (.ref a) → H a = none → Else i H H' → H p = none → H' p = some (.lst (VL [0])) → Q (.ref p) H')
theorem iF_put {v x : V} : putF "model" x ([("model", v)] : List (Str × V)) = ([("model", x)] : List (Str × V)) := put_here
theorem iF_get {v : V} : ([("model", v)] : List (Str × V)).lookup ("model" : Str) = some v := lk_here
theorem ok_create (T : Txt K mg C CI CN CU CO CP) (h_Model : Makes P w K mg base 1 "Model" C (spInitM C)) (D : Def K mg "create" s_create ["instance", "arguments"]) : Has P w K mg base (L2.CX P w) 3 "create" (spCreate K CO C CI) := by
  refine D.okX sc_create (fun vs H Q E h => ?_) (fun f cdv A outer s H vs Q E hr h => ?_)
  · obtain ⟨i, l, v, n, rfl, _⟩ := h
    rfl
  refine ⟨_, (pss_cons (ps_set (i := 2) sc_create.nd rfl (Or.inl rfl) (pe_ix ix_list (pv 1) pe_int (fun _ _ => rfl))) (pss_cons (ps_if (PW.pt (pw_or (pt_cmpR op_lt (pv 2) pe_int (nomark _)) (pw_or1 (pt_cmpR op_gt (pv 2) (pe_gc rfl T.gMOST_SIGNALS) (nomark _))))) (pss_one (ps_raise rfl (takes_of rfl rfl rfl rfl) (pmk_own0 PySem.F.excBase_Exception T.xO T.gO T.kO (raises_own T.bO T.tO) (by exact rfl)))) pss_nil) (pss_cons (ps_fld (pv 0) (pe_mkH h_Model hr (by decide) rfl (pa_cons (pv 2) pa_nil)) rfl) (pss_one (ps_ret (pe_lst (pa_cons pe_int pa_nil))))))), ?_⟩
  obtain ⟨i, l, v, n, rfl, ⟨di, hi⟩, hl, k1, k2⟩ := h
  refine ⟨_, rfl, l, _, _, _, rfl, rfl, hl, args0, ?_⟩
  refine ⟨_, rfl, _, _, rfl, rfl, _, rfl, ?_⟩
  by_cases c1 : (n : Int) < 1
  · exact ifY (decide_eq_true c1) (ifY rfl (k1 (by omega) H (Same.refl H)))
  refine ifN (decide_eq_false c1) ⟨_, rfl, _, _, rfl, rfl, _, rfl, ?_⟩
  by_cases c2 : (5 : Int) < (n : Int)
  · exact ifY (decide_eq_true c2) (k1 (by omega) H (Same.refl H))
  refine ifN (decide_eq_false c2) ?_
  refine ⟨_, rfl, fun x dx nx nd ne => ⟨x, dx, n, rfl, by omega, upd_same, fun H1 m1 e1 => ⟨rfl, ?_⟩⟩⟩
  have s1 : Same H H1 := Same.made nx nd e1
  have ix : i ≠ x := ne_of_none hi nx
  have hi1 := s1 _ _ hi
  refine ⟨_, rfl, i, CI, di, _, rfl, hi1, T.ci, T.nM, (by show 1 < 1000; decide), (by show 1 ≤ sizeLine; decide), fun p hp => ?_⟩
  obtain ⟨d1, pt, pp, g⟩ := m1
  have pi1 : pt ≠ i := fun z => by
    have := g.t
    rw [z, hi1] at this
    cases this
  have pi2 : pp ≠ i := fun z => by
    have := g.p
    rw [z, hi1] at this
    cases this
  have e2 : Else i H (upd H1 i (.ins CI di (putF "model" (.ref x) [("model", v)]))) := (Same.els s1).trans Else.upd
  have s3 := Same.new (o := .lst [.int 0]) hp
  refine k2 (by omega) _ p x ⟨d1, pt, pp, ?_, ?_, ?_⟩ ⟨di, ?_⟩ nx (e2.then s3) (e2.free upd_same hp) upd_same
  · exact s3 _ _ ((upd_ne ix.symm).trans g.o)
  · exact s3 _ _ ((upd_ne pi1).trans g.t)
  · exact s3 _ _ ((upd_ne pi2).trans g.p)
  · refine s3 _ _ ?_
    rw [upd_same, iF_put]
end
end Kp
set_option Elab.async false
set_option linter.all false
set_option maxRecDepth 100000
set_option maxHeartbeats 4000000
namespace Kp
/-! ### one call: what is due is what the specification says -/
def okS (st : Kp415.State) : Prop := ∀ m, st = some m → Ok m
def code : Nat → Int
  | 0 => -11
  | 1 => -2
  | 2 => -22
  | _ => -33
def res (y : Kp415.State × Kp415.Ans) : Kp415.State × List Int := (y.1, y.2.num :: y.2.nums)
def fin1 (m : Md) : Out → Kp415.State × List Int
  | .bad k => (some m, [code k])
  | .good m' r => (some m', r)
theorem toI_app (a b : List Nat) : toI (a ++ b) = toI a ++ toI b := List.map_append
theorem toI_back (l : List Nat) : (toI l).map Int.toNat = l := by
  unfold toI
  rw [List.map_map]
  exact (List.map_congr_left fun x _ => rfl).trans (List.map_id l)
section
variable {m : Md}
theorem m1 (l : List Nat) : fin1 m (f1 m l) = res (Kp415.step (some m) (.setTestWeights l)) := by
  show _ = res (if Kp415.validWeights m l = true then (some { m with testWeights := l }, Kp415.single ((l.sum : Nat) : Int)) else (some m, Kp415.single (-22)))
  unfold f1
  by_cases c : Kp415.validWeights m l = true
  · rw [if_pos c, if_pos c]
    rfl
  · rw [if_neg c, if_neg c]
    rfl
theorem m2 (l : List Nat) : fin1 m (f2 m l) = res (Kp415.step (some m) (.setProductionWeights l)) := by
  show _ = res (if Kp415.validWeights m l = true then (some { m with productionWeights := l }, Kp415.single ((l.sum : Nat) : Int)) else (some m, Kp415.single (-22)))
  unfold f2
  by_cases c : Kp415.validWeights m l = true
  · rw [if_pos c, if_pos c]
    rfl
  · rw [if_neg c, if_neg c]
    rfl
theorem m3 (a b : Nat) : fin1 m (f3 m a b) = res (Kp415.step (some m) (.setPrior a b)) := by
  show _ = res (if Kp415.validFraction a b = true then (some { m with priorNum := a, priorDen := b }, ⟨0, [(m.priorNum : Int), (m.priorDen : Int)]⟩) else (some m, Kp415.single (-22)))
  unfold f3
  by_cases c : Kp415.validFraction a b = true
  · rw [if_pos c, if_pos c]
    rfl
  · rw [if_neg c, if_neg c]
    rfl
theorem m4 : fin1 m (f4 m) = res (Kp415.step (some m) .getWeights) := by
  show (some m, (m.testWeights.length : Int) :: (toI m.testWeights ++ toI m.productionWeights)) = (some m, (m.testWeights.length : Int) :: toI (m.testWeights ++ m.productionWeights))
  rw [toI_app]
theorem m5 (s : Nat) : fin1 m (f5 m s) = res (Kp415.step (some m) (.signalProbability s)) := by
  show _ = res (some m, if Kp415.isSignal m s = true then Kp415.withFraction 0 (Kp415.signalProbability m s) else Kp415.single (-2))
  unfold f5
  by_cases c : Kp415.isSignal m s = true
  · rw [if_pos c, if_pos c]
    rfl
  · rw [if_neg c, if_neg c]
    rfl
theorem m6 (ok : Ok m) (s : Nat) : fin1 m (f6 m s) = res (Kp415.step (some m) (.posterior s)) := by
  show _ = res (some m, if Kp415.isSignal m s = false then Kp415.single (-2) else if Kp415.signalProbability m s = 0 then Kp415.single (-33) else Kp415.withFraction 0 (Kp415.posteriorTest m s))
  unfold f6
  cases c : Kp415.isSignal m s with
  | false =>
    rw [if_neg (show ¬ false = true by decide), if_pos rfl]
    rfl
  | true =>
    rw [if_pos rfl, if_neg (show ¬ true = false by decide)]
    by_cases d : at0 (jtp m) s + at0 (jpp m) s = 0
    · rw [if_pos d, if_pos ((prob_zero ok s).mpr d)]
      rfl
    · rw [if_neg d, if_neg fun z => d ((prob_zero ok s).mp z)]
      rfl
theorem m7 (ok : Ok m) (s : Nat) : fin1 m (f7 m s) = res (Kp415.step (some m) (.certainty s)) := by
  show _ = res (some m, if Kp415.isSignal m s = false then Kp415.single (-2) else if Kp415.signalProbability m s = 0 then Kp415.single (-33) else Kp415.single (if Kp415.jointTest m s = 0 then 2 else if Kp415.jointProduction m s = 0 then 1 else 0))
  unfold f7
  cases c : Kp415.isSignal m s with
  | false =>
    rw [if_neg (show ¬ false = true by decide), if_pos rfl]
    rfl
  | true =>
    rw [if_pos rfl, if_neg (show ¬ true = false by decide)]
    by_cases d : at0 (jtp m) s + at0 (jpp m) s = 0
    · rw [if_pos d, if_pos ((prob_zero ok s).mpr d)]
      rfl
    · rw [if_neg d, if_neg fun z => d ((prob_zero ok s).mp z)]
      by_cases e1 : at0 (jtp m) s = 0
      · rw [if_pos e1, if_pos ((joint_zero ok s).mpr e1)]
        rfl
      · rw [if_neg e1, if_neg fun z => e1 ((joint_zero ok s).mp z)]
        by_cases e2 : at0 (jpp m) s = 0
        · rw [if_pos e2, if_pos ((jointP_zero ok s).mpr e2)]
          rfl
        · rw [if_neg e2, if_neg fun z => e2 ((jointP_zero ok s).mp z)]
          rfl
theorem m8 : fin1 m (f8 m) = res (Kp415.step (some m) .totalVariation) := rfl
theorem m9 : fin1 m (f9 m) = res (Kp415.step (some m) .bestAccuracy) := rfl
theorem m10 (ok : Ok m) : fin1 m (f10 m) = res (Kp415.step (some m) .bestGuesses) := by
  show (some m, (m.testWeights.length : Int) :: kinds m) = (some m, (m.testWeights.length : Int) :: ((List.range (Kp415.signalCount m)).map fun s => if Kp415.jointTest m s < Kp415.jointProduction m s then (0 : Int) else 1))
  rw [guesses_is ok]
theorem m11 : fin1 m (f11 m) = res (Kp415.step (some m) .blindAccuracy) := rfl
theorem m12 (l : List Nat) : fin1 m (f12 m l) = res (Kp415.step (some m) (.mergeSignals l)) := by
  show _ = res (if Kp415.validMapping m l = true then (some (Kp415.mergeSignals m l), Kp415.withFraction 0 (Kp415.totalVariation (Kp415.mergeSignals m l))) else (some m, Kp415.single (-22)))
  unfold f12
  by_cases c : Kp415.validMapping m l = true
  · rw [if_pos c, if_pos c]
    rfl
  · rw [if_neg c, if_neg c]
    rfl
theorem m13 (l : List Nat) : fin1 m (f13 m l) = res (Kp415.step (some m) (.previewMerge l)) := by
  show _ = res (some m, if Kp415.validMapping m l = true then ⟨0, Kp415.fraction (Kp415.totalVariation (Kp415.mergeSignals m l)) ++ Kp415.fraction (Kp415.bestAccuracy (Kp415.mergeSignals m l))⟩ else Kp415.single (-22))
  unfold f13
  by_cases c : Kp415.validMapping m l = true
  · rw [if_pos c, if_pos c]
    rfl
  · rw [if_neg c, if_neg c]
    rfl
theorem m14 (ok : Ok m) (k : Nat) : fin1 m (f14 m k) = res (Kp415.step (some m) (.sequenceTotalVariation k)) := by
  show _ = res (some m, if 3 < k then Kp415.single (-22) else Kp415.withFraction 0 (Kp415.sequenceTotalVariation m k))
  unfold f14
  by_cases c : k ≤ 3
  · rw [if_pos c, if_neg (by omega)]
    show (some m, 0 :: seqTv m k) = (some m, 0 :: Kp415.fraction (Kp415.sequenceTotalVariation m k))
    rw [seqTv_is ok]
  · rw [if_neg c, if_pos (by omega)]
    rfl
theorem m15 (ok : Ok m) (k : Nat) : fin1 m (f15 m k) = res (Kp415.step (some m) (.sequenceAccuracy k)) := by
  show _ = res (some m, if 3 < k then Kp415.single (-22) else Kp415.withFraction 0 (Kp415.sequenceAccuracy m k))
  unfold f15
  by_cases c : k ≤ 3
  · rw [if_pos c, if_neg (by omega)]
    show (some m, 0 :: seqAcc m k) = (some m, 0 :: Kp415.fraction (Kp415.sequenceAccuracy m k))
    rw [seqAcc_is ok]
  · rw [if_neg c, if_pos (by omega)]
    rfl
theorem m16 (ok : Ok m) (l : List Nat) : fin1 m (f16 m l) = res (Kp415.step (some m) (.sequencePosterior l)) := by
  show _ = res (some m, if 6 < l.length ∨ l.all (Kp415.isSignal m) = false then Kp415.single (-22) else
      if Kp415.priorTest m * Kp415.product (l.map (Kp415.testShare m)) + Kp415.priorProduction m * Kp415.product (l.map (Kp415.productionShare m)) = 0 then Kp415.single (-33) else
        Kp415.withFraction 0 (Kp415.priorTest m * Kp415.product (l.map (Kp415.testShare m)) / (Kp415.priorTest m * Kp415.product (l.map (Kp415.testShare m)) + Kp415.priorProduction m * Kp415.product (l.map (Kp415.productionShare m)))))
  unfold f16
  cases c : seqIn m l with
  | false =>
    rw [if_neg (show ¬ false = true by decide), if_pos]
    · rfl
    · unfold seqIn at c
      rw [Bool.and_eq_false_iff, decide_eq_false_iff_not] at c
      rcases c with c | c
      · exact .inl (by omega)
      · exact .inr c
  | true =>
    have hn : ¬ (6 < l.length ∨ l.all (Kp415.isSignal m) = false) := by
      have q := seqIn_iff.mp c
      rintro (z | z)
      · have := q.1
        omega
      · have e : sigs m l = true := sigs_iff.mpr q.2
        have e2 : sigs m l = false := z
        rw [e] at e2
        cases e2
    rw [if_pos rfl, if_neg hn]
    by_cases d : seqProb m l = 0
    · rw [if_pos d, if_pos ((seqProb_zero ok l).mpr d)]
      rfl
    · rw [if_neg d, if_neg fun z => d ((seqProb_zero ok l).mp z)]
      show (some m, 0 :: seqPost m l) = (some m, 0 :: Kp415.fraction _)
      rw [seqPost_is ok l d]
      rfl
theorem m17 (s : Nat) : fin1 m (f17 m s) = res (Kp415.step (some m) (.setShares s)) := by
  show _ = res (some m, if 2 ^ m.testWeights.length ≤ s then Kp415.single (-22) else ⟨0, Kp415.fraction (Kp415.setShare m.testWeights s) ++ Kp415.fraction (Kp415.setShare m.productionWeights s)⟩)
  unfold f17
  by_cases c : s < 2 ^ m.testWeights.length
  · rw [if_pos c, if_neg (Nat.not_le.mpr c)]
    rfl
  · rw [if_neg c, if_pos (Nat.not_lt.mp c)]
    rfl
theorem m18 (ok : Ok m) (a b : Nat) : fin1 m (f18 m a b) = res (Kp415.step (some m) (.bestDetector a b)) := by
  show _ = res (some m, if Kp415.validFraction a b = false then Kp415.single (-22) else Kp415.withFraction ((Kp415.bestDetector m (Kp415.toRat a b) : Nat) : Int) (Kp415.setShare m.testWeights (Kp415.bestDetector m (Kp415.toRat a b))))
  unfold f18
  cases c : Kp415.validFraction a b with
  | false =>
    rw [if_neg (show ¬ false = true by decide), if_pos rfl]
    rfl
  | true =>
    rw [if_pos rfl, if_neg (show ¬ true = false by decide), detector_is ok (frac_iff.mp c).2.1]
    rfl
theorem m19 (ok : Ok m) : fin1 m (f19 m) = res (Kp415.step (some m) .widestGapSet) := by
  show _ = res (some m, Kp415.withFraction ((Kp415.widestGapSet m : Nat) : Int) (Kp415.shareGap m (Kp415.widestGapSet m)))
  rw [widest_is ok]
  rfl
theorem m20 (a b : Nat) : fin1 m (f20 m a b) = res (Kp415.step (some m) (.accuracyForPrior a b)) := by
  show _ = res (some m, if Kp415.validFraction a b = true then Kp415.withFraction 0 (Kp415.bestAccuracy { m with priorNum := a, priorDen := b }) else Kp415.single (-22))
  unfold f20
  by_cases c : Kp415.validFraction a b = true
  · rw [if_pos c, if_pos c]
    rfl
  · rw [if_neg c, if_neg c]
    rfl
/-- what a call leaves is again such a model -/
def OkOut : Out → Prop
  | .bad _ => True
  | .good m' _ => Ok m'
theorem sum_le : ∀ {l : List Nat} {b : Nat}, (∀ x ∈ l, x ≤ b) → l.sum ≤ l.length * b
  | [], _, _ => Nat.zero_le _
  | a :: r, b, h => by
    have h1 := h a List.mem_cons_self
    have h2 := sum_le (l := r) fun x hx => h x (List.mem_cons_of_mem _ hx)
    rw [List.sum_cons, List.length_cons, Nat.succ_mul]
    omega
theorem wts_sum {m : Md} (ok : Ok m) {l : List Nat} (c : Kp415.validWeights m l = true) : l.length = m.testWeights.length ∧ 1 ≤ l.sum ∧ l.sum ≤ 495 := by
  obtain ⟨h1, h2, h3⟩ := wts_iff.mp c
  have h4 := sum_le h2
  have h5 : l.length * 99 ≤ 5 * 99 := Nat.mul_le_mul_right _ (by have := ok.n5; omega)
  exact ⟨h1, h3, by omega⟩
theorem if_out {c : Prop} [Decidable c] {x y : Out} (h1 : c → OkOut x) (h2 : ¬ c → OkOut y) : OkOut (if c then x else y) := by
  by_cases h : c
  · rw [if_pos h]
    exact h1 h
  · rw [if_neg h]
    exact h2 h
theorem k1 (ok : Ok m) (l : List Nat) : OkOut (f1 m l) := if_out (fun c => by
  obtain ⟨h1, h2, h3⟩ := wts_sum ok c
  exact ⟨ok.len.trans h1.symm, Nat.le_trans ok.n1 (Nat.le_of_eq h1.symm), Nat.le_trans (Nat.le_of_eq h1) ok.n5, h2, h3, ok.p1, ok.p2, ok.a, ok.b1, ok.b2⟩) fun _ => trivial
theorem k2 (ok : Ok m) (l : List Nat) : OkOut (f2 m l) := if_out (fun c => by
  obtain ⟨h1, h2, h3⟩ := wts_sum ok c
  exact ⟨h1, ok.n1, ok.n5, ok.s1, ok.s2, h2, h3, ok.a, ok.b1, ok.b2⟩) fun _ => trivial
theorem k3 (ok : Ok m) (a b : Nat) : OkOut (f3 m a b) := if_out (fun c => by
  obtain ⟨h1, h2, h3⟩ := frac_iff.mp c
  exact ⟨ok.len, ok.n1, ok.n5, ok.s1, ok.s2, ok.p1, ok.p2, h1, h2, h3⟩) fun _ => trivial
theorem k12 (ok : Ok m) (l : List Nat) : OkOut (f12 m l) := if_out (fun c => merge_ok ok (map_iff.mp c).1 (map_iff.mp c).2) fun _ => trivial
end
/-- the table of the calls -/
def opRow : Nat → Option (PySem.Str × Op)
  | 1 => some ("set_test_weights", shL f1)
  | 2 => some ("set_production_weights", shL f2)
  | 3 => some ("set_prior", sh2 f3)
  | 4 => some ("get_weights", sh0 f4)
  | 5 => some ("signal_probability", sh1 f5)
  | 6 => some ("posterior", sh1 f6)
  | 7 => some ("certainty", sh1 f7)
  | 8 => some ("total_variation", sh0 f8)
  | 9 => some ("best_accuracy", sh0 f9)
  | 10 => some ("best_guesses", sh0 f10)
  | 11 => some ("blind_accuracy", sh0 f11)
  | 12 => some ("merge_signals", shL f12)
  | 13 => some ("preview_merge", shL f13)
  | 14 => some ("sequence_total_variation", sh1 f14)
  | 15 => some ("sequence_accuracy", sh1 f15)
  | 16 => some ("sequence_posterior", shL f16)
  | 17 => some ("set_shares", sh1 f17)
  | 18 => some ("best_detector", sh2 f18)
  | 19 => some ("widest_gap_set", sh0 f19)
  | 20 => some ("accuracy_for_prior", sh2 f20)
  | _ => none
def opAt (p : Nat) : Op := fun m ns => (opRow p).bind fun r => r.2 m ns
abbrev Fin2 := Nat ⊕ (Kp415.State × List Int)
def toX : Out → Fin2
  | .bad k => .inl k
  | .good m' r => .inr (some m', r)
/-- what is due of one call: refused by a code, or the new state and the numbers -/
def perf (st : Kp415.State) (p : Nat) (ns : List Nat) : Option Fin2 :=
  if p = 0 then (match ns with
    | [n] => some (if 1 ≤ n ∧ n ≤ 5 then .inr (some (fresh n), [0]) else .inl 2)
    | _ => none)
  else match st with
    | none => if (opRow p).isSome = true then some (.inl 0) else none
    | some m => (opAt p m ns).map toX
def fin (st : Kp415.State) : Fin2 → Kp415.State × List Int
  | .inl k => (st, [code k])
  | .inr y => y
theorem fin_toX (m : Md) (o : Out) : fin (some m) (toX o) = fin1 m o := by
  cases o <;> rfl
theorem natural_of {a : Int} (h : Kp415Neutral.natural a = true) : ∃ n : Nat, a = (n : Int) := by
  unfold Kp415Neutral.natural at h
  rw [Bool.and_eq_true, decide_eq_true_iff] at h
  exact ⟨a.toNat, by omega⟩
theorem naturals_of {l : List Int} (h : l.all Kp415Neutral.natural = true) : ∃ ns : List Nat, l = toI ns := by
  rw [List.all_eq_true] at h
  refine ⟨l.map Int.toNat, ?_⟩
  unfold toI
  rw [List.map_map]
  refine ((List.map_congr_left fun x hx => ?_).trans (List.map_id l)).symm
  obtain ⟨n, e⟩ := natural_of (h x hx)
  rw [e]
  rfl
theorem nstep {st : Kp415.State} {c : Kp415Neutral.Call} {x : Kp415.Call} (h : Kp415Neutral.callOf c = some x) : Kp415Neutral.step st c = res (Kp415.step st x) := by
  unfold Kp415Neutral.step
  rw [h]
  rfl
/-- one call read -/
def One (st : Kp415.State) (c : List (List Int)) : Prop := ∃ (p : Nat) (ns : List Nat) (x : Fin2), c = [(p : Int) :: toI ns] ∧ perf st p ns = some x ∧ fin st x = Kp415Neutral.step st c ∧ okS (Kp415Neutral.step st c).1
theorem one_of {st : Kp415.State} {c : List (List Int)} {p : Nat} {ns : List Nat} {x : Kp415.Call} (hst : okS st) (hc : c = [(p : Int) :: toI ns]) (hp : p ≠ 0) (hr : (opRow p).isSome = true) (hx : Kp415Neutral.callOf c = some x)
    (hn : Kp415.step none x = (none, Kp415.single (-11))) (hs : ∀ m, Ok m → ∃ o, opAt p m ns = some o ∧ fin1 m o = res (Kp415.step (some m) x) ∧ OkOut o) : One st c := by
  have e := nstep (st := st) hx
  cases st with
  | none =>
    refine ⟨p, ns, .inl 0, hc, ?_, ?_, ?_⟩
    · unfold perf
      rw [if_neg hp]
      show (if (opRow p).isSome = true then some (Sum.inl 0) else none) = _
      rw [if_pos hr]
    · rw [e, hn]
      rfl
    · rw [e, hn]
      exact fun m z => by cases z
  | some m =>
    obtain ⟨o, h1, h2, h3⟩ := hs m (hst m rfl)
    refine ⟨p, ns, toX o, hc, ?_, ?_, ?_⟩
    · unfold perf
      rw [if_neg hp]
      show (opAt p m ns).map toX = _
      rw [h1]
      rfl
    · rw [fin_toX, h2, e]
    · rw [e, ← h2]
      cases o with
      | bad k => exact fun m' z => hst m' z
      | good m' r =>
        intro m2 z
        cases z
        exact h3
end Kp
set_option Elab.async false
set_option linter.all false
set_option maxRecDepth 100000
set_option maxHeartbeats 4000000
namespace Kp
/-! ### every call that may be handed in -/
theorem one_create {st : Kp415.State} {n : Nat} (hst : okS st) : One st [[0, (n : Int)]] := by
  have e : Kp415Neutral.step st [[0, (n : Int)]] = res (if n < 1 ∨ 5 < n then (st, Kp415.single (-22)) else (some (fresh n), Kp415.single 0)) := nstep (x := .create n) rfl
  refine ⟨0, [n], if 1 ≤ n ∧ n ≤ 5 then .inr (some (fresh n), [0]) else .inl 2, rfl, rfl, ?_, ?_⟩
  · rw [e]
    by_cases c : 1 ≤ n ∧ n ≤ 5
    · rw [if_pos c, if_neg (by omega)]
      rfl
    · rw [if_neg c, if_pos (by omega)]
      rfl
  · rw [e]
    by_cases c : 1 ≤ n ∧ n ≤ 5
    · rw [if_neg (by omega)]
      intro m z
      cases z
      exact fresh_ok c.1 c.2
    · rw [if_pos (by omega)]
      exact fun m z => hst m z
theorem k_one {m : Md} {c : Prop} [Decidable c] {r : List Int} {k : Nat} (ok : Ok m) : OkOut (if c then .good m r else .bad k) := if_out (fun _ => ok) fun _ => trivial
theorem k_two {m : Md} {c d : Prop} [Decidable c] [Decidable d] {r : List Int} {k j : Nat} (ok : Ok m) : OkOut (if c then (if d then .bad j else .good m r) else .bad k) := if_out (fun _ => if_out (fun _ => trivial) fun _ => ok) fun _ => trivial
theorem step_one {st : Kp415.State} {c : List (List Int)} (hst : okS st) (h : Kp415Neutral.asked1 c = true) : One st c := by
  unfold Kp415Neutral.asked1 at h
  split at h
  · obtain ⟨n, rfl⟩ := natural_of h
    exact one_create hst
  · rw [Bool.and_eq_true] at h
    obtain ⟨ns, rfl⟩ := naturals_of h.1
    exact one_of (p := 1) (ns := ns) (x := .setTestWeights ns) hst rfl (by decide) rfl (by show some (Kp415.Call.setTestWeights ((toI ns).map Int.toNat)) = _; rw [toI_back]) rfl fun m ok => ⟨_, rfl, m1 ns, k1 ok ns⟩
  · rw [Bool.and_eq_true] at h
    obtain ⟨ns, rfl⟩ := naturals_of h.1
    exact one_of (p := 2) (ns := ns) (x := .setProductionWeights ns) hst rfl (by decide) rfl (by show some (Kp415.Call.setProductionWeights ((toI ns).map Int.toNat)) = _; rw [toI_back]) rfl fun m ok => ⟨_, rfl, m2 ns, k2 ok ns⟩
  · rw [Bool.and_eq_true] at h
    obtain ⟨a, rfl⟩ := natural_of h.1
    obtain ⟨b, rfl⟩ := natural_of h.2
    exact one_of (p := 3) (ns := [a, b]) (x := .setPrior a b) hst rfl (by decide) rfl rfl rfl fun m ok => ⟨_, rfl, m3 a b, k3 ok a b⟩
  · exact one_of (p := 4) (ns := []) (x := .getWeights) hst rfl (by decide) rfl rfl rfl fun m ok => ⟨_, rfl, m4, ok⟩
  · obtain ⟨s, rfl⟩ := natural_of h
    exact one_of (p := 5) (ns := [s]) (x := .signalProbability s) hst rfl (by decide) rfl rfl rfl fun m ok => ⟨_, rfl, m5 s, k_one ok⟩
  · obtain ⟨s, rfl⟩ := natural_of h
    exact one_of (p := 6) (ns := [s]) (x := .posterior s) hst rfl (by decide) rfl rfl rfl fun m ok => ⟨_, rfl, m6 ok s, k_two ok⟩
  · obtain ⟨s, rfl⟩ := natural_of h
    exact one_of (p := 7) (ns := [s]) (x := .certainty s) hst rfl (by decide) rfl rfl rfl fun m ok => ⟨_, rfl, m7 ok s, k_two ok⟩
  · exact one_of (p := 8) (ns := []) (x := .totalVariation) hst rfl (by decide) rfl rfl rfl fun m ok => ⟨_, rfl, m8, ok⟩
  · exact one_of (p := 9) (ns := []) (x := .bestAccuracy) hst rfl (by decide) rfl rfl rfl fun m ok => ⟨_, rfl, m9, ok⟩
  · exact one_of (p := 10) (ns := []) (x := .bestGuesses) hst rfl (by decide) rfl rfl rfl fun m ok => ⟨_, rfl, m10 ok, ok⟩
  · exact one_of (p := 11) (ns := []) (x := .blindAccuracy) hst rfl (by decide) rfl rfl rfl fun m ok => ⟨_, rfl, m11, ok⟩
  · rw [Bool.and_eq_true] at h
    obtain ⟨ns, rfl⟩ := naturals_of h.1
    exact one_of (p := 12) (ns := ns) (x := .mergeSignals ns) hst rfl (by decide) rfl (by show some (Kp415.Call.mergeSignals ((toI ns).map Int.toNat)) = _; rw [toI_back]) rfl fun m ok => ⟨_, rfl, m12 ns, k12 ok ns⟩
  · rw [Bool.and_eq_true] at h
    obtain ⟨ns, rfl⟩ := naturals_of h.1
    exact one_of (p := 13) (ns := ns) (x := .previewMerge ns) hst rfl (by decide) rfl (by show some (Kp415.Call.previewMerge ((toI ns).map Int.toNat)) = _; rw [toI_back]) rfl fun m ok => ⟨_, rfl, m13 ns, k_one ok⟩
  · obtain ⟨s, rfl⟩ := natural_of h
    exact one_of (p := 14) (ns := [s]) (x := .sequenceTotalVariation s) hst rfl (by decide) rfl rfl rfl fun m ok => ⟨_, rfl, m14 ok s, k_one ok⟩
  · obtain ⟨s, rfl⟩ := natural_of h
    exact one_of (p := 15) (ns := [s]) (x := .sequenceAccuracy s) hst rfl (by decide) rfl rfl rfl fun m ok => ⟨_, rfl, m15 ok s, k_one ok⟩
  · rw [Bool.and_eq_true] at h
    obtain ⟨ns, rfl⟩ := naturals_of h.1
    exact one_of (p := 16) (ns := ns) (x := .sequencePosterior ns) hst rfl (by decide) rfl (by show some (Kp415.Call.sequencePosterior ((toI ns).map Int.toNat)) = _; rw [toI_back]) rfl fun m ok => ⟨_, rfl, m16 ok ns, k_two ok⟩
  · obtain ⟨s, rfl⟩ := natural_of h
    exact one_of (p := 17) (ns := [s]) (x := .setShares s) hst rfl (by decide) rfl rfl rfl fun m ok => ⟨_, rfl, m17 s, k_one ok⟩
  · rw [Bool.and_eq_true] at h
    obtain ⟨a, rfl⟩ := natural_of h.1
    obtain ⟨b, rfl⟩ := natural_of h.2
    exact one_of (p := 18) (ns := [a, b]) (x := .bestDetector a b) hst rfl (by decide) rfl rfl rfl fun m ok => ⟨_, rfl, m18 ok a b, k_one ok⟩
  · exact one_of (p := 19) (ns := []) (x := .widestGapSet) hst rfl (by decide) rfl rfl rfl fun m ok => ⟨_, rfl, m19 ok, ok⟩
  · rw [Bool.and_eq_true] at h
    obtain ⟨a, rfl⟩ := natural_of h.1
    obtain ⟨b, rfl⟩ := natural_of h.2
    exact one_of (p := 20) (ns := [a, b]) (x := .accuracyForPrior a b) hst rfl (by decide) rfl rfl rfl fun m ok => ⟨_, rfl, m20 a b, k_one ok⟩
  · cases h
/-! ### the calls of a list, one behind another -/
abbrev Req := List (List Int)
def after (st : Kp415.State) : List Req → Kp415.State
  | [] => st
  | c :: r => after (Kp415Neutral.step st c).1 r
abbrev outs (st : Kp415.State) (cs : List Req) : List (List Int) := PyFlat.played Kp415Neutral.step st cs
theorem after_app : ∀ (a b : List Req) (st : Kp415.State), after st (a ++ b) = after (after st a) b
  | [], _, _ => rfl
  | c :: r, b, st => after_app r b _
theorem outs_app : ∀ (a b : List Req) (st : Kp415.State), outs st (a ++ b) = outs st a ++ outs (after st a) b
  | [], _, _ => rfl
  | c :: r, b, st => congrArg (List.cons _) (outs_app r b _)
theorem told_app (a b : List (List Int)) : PyFlat.told (a ++ b) = PyFlat.told a ++ PyFlat.told b := List.flatMap_append
theorem told_one (x : List Int) : PyFlat.told [x] = (x.length : Int) :: x := by
  show ((x.length : Int) :: x) ++ [] = _
  rw [List.append_nil]
theorem after_ok : ∀ (cs : List Req) (st : Kp415.State), okS st → (∀ c ∈ cs, Kp415Neutral.asked1 c = true) → okS (after st cs)
  | [], _, h, _ => h
  | c :: r, st, h, hc => by
    obtain ⟨_, _, _, _, _, _, h2⟩ := step_one h (hc c List.mem_cons_self)
    exact after_ok r _ h2 fun d hd => hc d (List.mem_cons_of_mem _ hd)
abbrev Q2 := Nat × List Nat
def encQ (q : Q2) : Req := [(q.1 : Int) :: toI q.2]
def flat1 (q : Q2) : List Int := (q.1 : Int) :: ((q.2.length : Nat) : Int) :: (toI q.2 ++ [0])
def flat (qs : List Q2) : List Int := qs.flatMap flat1
theorem enc_of : ∀ cs : List Req, (∀ c ∈ cs, Kp415Neutral.asked1 c = true) → ∃ qs : List Q2, cs = qs.map encQ
  | [], _ => ⟨[], rfl⟩
  | c :: r, h => by
    obtain ⟨p, ns, _, e, _⟩ := step_one (st := none) (fun m z => by cases z) (h c List.mem_cons_self)
    obtain ⟨qs, e2⟩ := enc_of r fun d hd => h d (List.mem_cons_of_mem _ hd)
    exact ⟨(p, ns) :: qs, by rw [e, e2]; rfl⟩
theorem put_flat : ∀ qs : List Q2, PyWide.put (qs.map encQ) = flat qs
  | [] => rfl
  | q :: r => by
    show PyWide.put1 (encQ q) ++ PyWide.put (r.map encQ) = flat1 q ++ flat r
    rw [put_flat r]
    refine congrArg (fun x => x ++ flat r) ?_
    show (q.1 : Int) :: (((toI q.2).length : Int) :: toI q.2 ++ [0]) = _
    rw [toI_length]
    rfl
/-- what is asked of a request -/
structure Asked (l : List Int) (qs : List Q2) : Prop where
  flat : l = flat qs
  most : qs.length ≤ 60
  each : ∀ c ∈ qs.map encQ, Kp415Neutral.asked1 c = true
  due : PyKp415.answers l = PyFlat.told (outs none (qs.map encQ))
  size : (PyFlat.told (outs none (qs.map encQ))).length ≤ 10000000
theorem asked_of {l : List Int} (h : PyKp415.answers_asked l = true) : ∃ qs, Asked l qs := by
  unfold PyKp415.answers_asked at h
  cases e : PyKp415.calls l with
  | none =>
    rw [e] at h
    cases h
  | some cs =>
    rw [e] at h
    have h' : (PyFlat.atMost 60 cs && Kp415Neutral.asked cs && PyFlat.short 10000000 (PyKp415.answers l)) = true := h
    rw [Bool.and_eq_true, Bool.and_eq_true] at h'
    obtain ⟨⟨h1, h2⟩, h3⟩ := h'
    unfold Kp415Neutral.asked at h2
    rw [Bool.and_eq_true, Bool.and_eq_true, List.all_eq_true] at h2
    obtain ⟨qs, rfl⟩ := enc_of cs h2.2.2
    have d : PyKp415.answers l = PyFlat.told (outs none (qs.map encQ)) := by
      unfold PyKp415.answers
      rw [e]
      rfl
    refine ⟨qs, ?_, ?_, h2.2.2, d, ?_⟩
    · rw [(PyWide.put_calls _ _ _ e).1, put_flat]
    · have := of_decide_eq_true h1
      rw [List.length_map] at this
      exact this
    · rw [← d]
      exact of_decide_eq_true h3
/-- the state and the answers of the first j calls -/
def stAt (qs : List Q2) (j : Nat) : Kp415.State := after none ((qs.take j).map encQ)
def sofar (qs : List Q2) (j : Nat) : List Int := PyFlat.told (outs none ((qs.take j).map encQ))
theorem none_ok : okS none := fun m z => by cases z
theorem stAt_ok {l : List Int} {qs : List Q2} (h : Asked l qs) (j : Nat) : okS (stAt qs j) :=
  after_ok _ _ none_ok fun c hc => h.each c (by
    obtain ⟨q, hq, rfl⟩ := List.mem_map.mp hc
    exact List.mem_map.mpr ⟨q, List.mem_of_mem_take hq, rfl⟩)
/-- the j-th call -/
theorem call_at {l : List Int} {qs : List Q2} (h : Asked l qs) {j : Nat} {q : Q2} (hq : qs[j]? = some q) :
    ∃ x, perf (stAt qs j) q.1 q.2 = some x ∧ stAt qs (j + 1) = (fin (stAt qs j) x).1 ∧ sofar qs (j + 1) = sofar qs j ++ (((fin (stAt qs j) x).2.length : Int) :: (fin (stAt qs j) x).2) := by
  have e : (qs.take (j + 1)).map encQ = (qs.take j).map encQ ++ [encQ q] := by
    rw [List.take_add_one, hq, List.map_append]
    rfl
  obtain ⟨p, ns, x, h1, h2, h3, _⟩ := step_one (stAt_ok h j) (h.each (encQ q) (List.mem_map.mpr ⟨q, List.mem_of_getElem? hq, rfl⟩))
  have hp : p = q.1 ∧ ns = q.2 := by
    have z : ((q.1 : Nat) : Int) :: toI q.2 = (p : Int) :: toI ns := List.head_eq_of_cons_eq h1
    have z1 : ((q.1 : Nat) : Int) = (p : Int) := List.head_eq_of_cons_eq z
    have z2 : toI q.2 = toI ns := List.tail_eq_of_cons_eq z
    refine ⟨by omega, ?_⟩
    rw [← toI_back ns, ← toI_back q.2, z2]
  obtain ⟨rfl, rfl⟩ := hp
  refine ⟨x, h2, ?_, ?_⟩
  · rw [h3]
    show after none ((qs.take (j + 1)).map encQ) = _
    rw [e, after_app]
    rfl
  · rw [h3]
    show PyFlat.told (outs none ((qs.take (j + 1)).map encQ)) = _
    rw [e, outs_app, told_app]
    exact congrArg (fun z => _ ++ z) (told_one _)
theorem sofar_le {l : List Int} {qs : List Q2} (h : Asked l qs) (j : Nat) : (sofar qs j).length ≤ 10000000 := by
  have e : qs.map encQ = (qs.take j).map encQ ++ (qs.drop j).map encQ := by
    rw [← List.map_append, List.take_append_drop]
  have z := h.size
  rw [e, outs_app, told_app, List.length_append] at z
  exact Nat.le_trans (Nat.le_add_right _ _) z
theorem sofar_end {l : List Int} {qs : List Q2} (h : Asked l qs) : sofar qs qs.length = PyKp415.answers l := by
  rw [h.due]
  unfold sofar
  rw [List.take_length]
end Kp
set_option Elab.async false
set_option linter.all false
set_option maxRecDepth 100000
set_option maxHeartbeats 4000000
namespace Kp
open PySem PySem.Spec PyProof.Rows L2
/-! ### the instance with its state; one call performed -/
def StAt (C CI : Addr) (H : Hp) (i : Addr) : Kp415.State → Prop
  | none => InsAt CI H i .non
  | some m => ∃ a, InsAt CI H i (.ref a) ∧ ModelAt C H a m
/-- all stands that is no object of a class -/
def Keeps (H H' : Hp) : Prop := ∀ b o, H b = some o → (∀ C dx fs, o ≠ .ins C dx fs) → H' b = some o
theorem Else.keeps {H H' : Hp} {a C dx : Addr} {fs : List (Str × V)} (e : Else a H H') (ha : H a = some (.ins C dx fs)) : Keeps H H' := fun b o q n => e b o q fun z => by
  rw [z, ha] at q
  exact n _ _ _ (Option.some.inj q).symm
theorem Same.keeps {H H' : Hp} (s : Same H H') : Keeps H H' := fun b o q _ => s b o q
theorem Keeps.trans {H H1 H2 : Hp} (a : Keeps H H1) (b : Keeps H1 H2) : Keeps H H2 := fun x o q n => b x o (a x o q n) n
theorem InsAt.same {CI i : Addr} {v : V} {H H' : Hp} (s : Same H H') (h : InsAt CI H i v) : InsAt CI H' i v := by
  obtain ⟨dx, h⟩ := h
  exact ⟨dx, s _ _ h⟩
theorem StAt.same {C CI i : Addr} {H H' : Hp} (s : Same H H') : ∀ {st : Kp415.State}, StAt C CI H i st → StAt C CI H' i st
  | none, h => InsAt.same s h
  | some m, ⟨a, h1, h2⟩ => ⟨a, h1.same s, h2.same s⟩
theorem StAt.ins {C CI i : Addr} {H : Hp} : ∀ {st : Kp415.State}, StAt C CI H i st → ∃ v, InsAt CI H i v
  | none, h => ⟨_, h⟩
  | some m, ⟨a, h1, h2⟩ => ⟨_, h1⟩
def DueP (er : Nat → Addr) (C CI : Addr) (H : Hp) (Q : VK) (E : XK) (i : Addr) : Fin2 → Prop
  | .inl k => ErrE H E (er k)
  | .inr y => ∀ H' p, StAt C CI H' i y.1 → Keeps H H' → H p = none → H' p = some (.lst (VL y.2)) → Q (.ref p) H'
def spPerf (K : PySem.W.Frag) (er : Nat → Addr) (C CI : Addr) : Sp := fun vs H Q E => ∃ (i : Addr) (p : Nat) (l : Addr) (st : Kp415.State) (ns : List Nat) (x : Fin2), vs = [.ref i, .int (p : Int), .ref l] ∧ StAt C CI H i st ∧ okS st ∧ SqL K H l (VL (toI ns)) ∧ perf st p ns = some x ∧ DueP er C CI H Q E i x
def spAns1 (K : PySem.W.Frag) (C CI : Addr) : Sp := fun vs H Q _ => ∃ (i : Addr) (p : Nat) (l : Addr) (st : Kp415.State) (ns : List Nat) (x : Fin2), vs = [.ref i, .int (p : Int), .ref l] ∧ StAt C CI H i st ∧ okS st ∧ SqL K H l (VL (toI ns)) ∧ perf st p ns = some x ∧
  ∀ H' q, StAt C CI H' i (fin st x).1 → Keeps H H' → H q = none → H' q = some (.lst (VL (fin st x).2)) → Q (.ref q) H'
theorem toNat_nat (p : Nat) : (p : Int).toNat = p := rfl
theorem opAt_some {p : Nat} {m : Md} {ns : List Nat} {o : Out} (h : opAt p m ns = some o) : (opRow p).isSome = true := by
  unfold opAt at h
  cases q : opRow p with
  | none =>
    rw [q] at h
    cases h
  | some r => rfl
abbrev s_perform : Stmt := topS 88
theorem sc_perform : FnScope ["instance", "place", "arguments"] ["instance", "place", "arguments"] (defScope s_perform) := ⟨rfl, rfl, rfl, by decide +kernel, rfl, by decide +kernel, by decide +kernel⟩
abbrev s_answer_call : Stmt := topS 91
theorem sc_answer_call : FnScope ["instance", "place", "arguments"] ["instance", "place", "arguments"] (defScope s_answer_call) := ⟨rfl, rfl, rfl, by decide +kernel, rfl, by decide +kernel, by decide +kernel⟩
abbrev s_split_calls : Stmt := topS 90
theorem sc_split_calls : FnScope ["calls", "parted", "start", "first", "end"] ["calls"] (defScope s_split_calls) := ⟨rfl, rfl, rfl, by decide +kernel, rfl, by decide +kernel, by decide +kernel⟩
abbrev s_answers : Stmt := topS 92
theorem sc_answers : FnScope ["calls", "instance", "answered", "place", "arguments", "numbers"] ["calls"] (defScope s_answers) := ⟨rfl, rfl, rfl, by decide +kernel, rfl, by decide +kernel, by decide +kernel⟩
section
variable {P : Program} {w : World} {K : PySem.W.Frag} {mg : Str → Option Value} {base : Heap} {C CI CN CU CO CP : Addr}
theorem ok_perform (T : Txt K mg C CI CN CU CO CP) (h_create : Has P w K mg base (L2.CX P w) 3 "create" (spCreate K CO C CI)) {d : Addr} {tab : Int → Option Addr} (hMC : mg "MODEL_CALLS" = some (.ref d)) (TB : Tab P w K d tab)
    (TC : ∀ i f, tab i = some f → ∃ (fd : FuncData) (ps : List Str), FnOk P w K mg base (L2.CX P w) 5 f fd ps (spOp K (errC CN CU CO CP) C (opAt i.toNat)) ∧ PySem.W.keepIn K (.ref f) = true ∧ Binds K fd ps [])
    (TH : ∀ p : Nat, (opRow p).isSome = true → ∃ f, tab (p : Int) = some f) (D : Def K mg "perform" s_perform ["instance", "place", "arguments"]) :
    Has P w K mg base (L2.CX P w) 6 "perform" (spPerf K (errC CN CU CO CP) C CI) := by
  refine D.okX sc_perform (fun vs H Q E h => ?_) (fun f cdv A outer s H vs Q E hr h => ?_)
  · obtain ⟨i, p, l, st, ns, x, rfl, _⟩ := h
    rfl
  refine ⟨_, (pss_cons (ps_if (pt_cmpR op_eq (pv 1) (pe_gc rfl T.gCREATE) (nomark _)) (pss_one (ps_ret (pe_h h_create hr (by decide) rfl (passes_call (takes_of rfl rfl rfl rfl) (fun _ _ _ _ h => h)) (pa_cons (pv 0) (pa_cons (pv 2) pa_nil))))) pss_nil) (pss_cons (ps_if (pt_cmp (pc_isN (pe_fld (pv 0) rfl))) (pss_one (ps_raise rfl (takes_of rfl rfl rfl rfl) (pmk_own0 PySem.F.excBase_Exception T.xN T.gN T.kN (raises_own T.bN T.tN) (by exact rfl)))) pss_nil) (pss_one (ps_ret (pe_tab TB TC hr (by decide) (passes_call (takes_of rfl rfl rfl rfl) (fun _ _ _ _ h => h)) (pe_gc (v := V.ref d) rfl ⟨_, hMC, rfl⟩) (pv 1) (fun _ _ => rfl) (pa_cons (pe_fld (pv 0) rfl) (pa_cons (pv 2) pa_nil))))))), ?_⟩
  obtain ⟨i, p, l, st, ns, x, rfl, hst, ok, hl, hp, k⟩ := h
  refine ⟨_, rfl, rfl, _, rfl, ?_⟩
  rw [dec_int]
  by_cases c : (p : Int) = 0
  · refine ifY (decide_eq_true c) ?_
    have c' : p = 0 := by omega
    subst c'
    obtain ⟨v, di, hi⟩ := hst.ins
    match ns, hp, hl with
    | [n], hp, hl =>
      have e : (if 1 ≤ n ∧ n ≤ 5 then Sum.inr (some (fresh n), [0]) else Sum.inl 2) = x := Option.some.inj hp
      refine ⟨_, rfl, _, rfl, i, l, v, n, rfl, ⟨di, hi⟩, hl, fun z => ?_, fun z H' p' a m' i' na e' np ep => ?_⟩
      · rw [if_neg z] at e
        subst e
        exact k
      · rw [if_pos z] at e
        subst e
        exact k H' p' ⟨a, i', m'⟩ (e'.keeps hi) np ep
  · refine ifN (decide_eq_false c) ?_
    have c' : ¬ p = 0 := fun z => c (by omega)
    cases st with
    | none =>
      obtain ⟨di, hi⟩ := id hst
      refine ⟨_, rfl, i, CI, di, _, _, rfl, hi, T.ci, T.nM, iF_get, _, rfl, ?_⟩
      refine ifY rfl ?_
      have e : (if (opRow p).isSome = true then some (Sum.inl 0) else none) = some x := by
        unfold perf at hp
        rw [if_neg c'] at hp
        exact hp
      by_cases c2 : (opRow p).isSome = true
      · rw [if_pos c2] at e
        obtain rfl := Option.some.inj e
        exact k H (Same.refl H)
      · rw [if_neg c2] at e
        cases e
    | some m =>
      obtain ⟨a, ⟨di, hi⟩, hm⟩ := id hst
      refine ⟨_, rfl, i, CI, di, _, _, rfl, hi, T.ci, T.nM, iF_get, _, rfl, ?_⟩
      refine ifN rfl ?_
      have e : (opAt p m ns).map toX = some x := by
        unfold perf at hp
        rw [if_neg c'] at hp
        exact hp
      cases ho : opAt p m ns with
      | none =>
        rw [ho] at e
        cases e
      | some o =>
        rw [ho] at e
        obtain rfl : toX o = x := Option.some.inj e
        obtain ⟨f, hf⟩ := TH p (opAt_some ho)
        refine ⟨_, rfl, (p : Int), f, rfl, rfl, hf, ?_⟩
        refine ⟨_, rfl, i, CI, di, _, _, rfl, hi, T.ci, T.nM, iF_get, ?_⟩
        refine ⟨_, rfl, a, m, l, ns, o, rfl, hm, ok m rfl, hl, ho, ?_⟩
        cases o with
        | bad kk => exact k
        | good m' r =>
          intro H' q m2 e2 nq eq
          obtain ⟨dx, pt, pp, g⟩ := id hm
          have ne : i ≠ a := fun z => by
            rw [z, g.o] at hi
            cases hi
          exact k H' q ⟨a, ⟨di, e2 _ _ hi ne⟩, m2⟩ (e2.keeps g.o) nq eq
theorem ok_answer_call (T : Txt K mg C CI CN CU CO CP) (h_perform : Has P w K mg base (L2.CX P w) 6 "perform" (spPerf K (errC CN CU CO CP) C CI)) (D : Def K mg "answer_call" s_answer_call ["instance", "place", "arguments"]) :
    Has P w K mg base CX0 7 "answer_call" (spAns1 K C CI) := by
  refine D.ok sc_answer_call (fun vs H Q E h => ?_) (fun f cdv A outer s H vs Q E hr h => ?_)
  · obtain ⟨i, p, l, st, ns, x, rfl, _⟩ := h
    rfl
  refine ⟨_, (pss_one (ps_try_many rfl rfl takes0 (fun W pn xe tk _ => (pss_one (ps_ret (pe_hS h_perform hr (by decide) rfl (fun σ => passAt tk σ) (pa_cons (pv 0) (pa_cons (pv 1) (pa_cons (pv 2) pa_nil))))))) (HdsOk.cons ⟨rfl, by decide, .inl T.gN⟩ (fun a oe cls d pn _ _ => (pss_one (ps_ret (pe_lst (pa_cons (pe_un un_neg pe_int) pa_nil))))) (HdsOk.cons ⟨rfl, by decide, .inl T.gU⟩ (fun a oe cls d pn _ _ => (pss_one (ps_ret (pe_lst (pa_cons (pe_un un_neg pe_int) pa_nil))))) (HdsOk.cons ⟨rfl, by decide, .inl T.gO⟩ (fun a oe cls d pn _ _ => (pss_one (ps_ret (pe_lst (pa_cons (pe_un un_neg pe_int) pa_nil))))) (HdsOk.cons ⟨rfl, by decide, .inl T.gP⟩ (fun a oe cls d pn _ _ => (pss_one (ps_ret (pe_lst (pa_cons (pe_un un_neg pe_int) pa_nil))))) HdsOk.nil)))))), ?_⟩
  obtain ⟨i, p, l, st, ns, x, rfl, hst, ok, hl, hp, k⟩ := h
  refine ⟨_, rfl, _, rfl, _, rfl, i, p, l, st, ns, x, rfl, hst, ok, hl, hp, ?_⟩
  cases x with
  | inr y => exact fun H' q h1 h2 h3 h4 => k H' q h1 h2 h3 h4
  | inl kk =>
    intro H1 s1
    have fin1 : ∀ q, H1 q = none → Q (.ref q) (upd H1 q (.lst (VL [code kk]))) := fun q hq =>
      k _ q (hst.same (s1.trans (Same.new hq))) (Same.keeps (s1.trans (Same.new hq))) (s1.free hq) upd_same
    match kk, fin1 with
    | 0, fin1 => exact ⟨true, T.eNN, fun _ _ _ => ⟨_, rfl, (by show 1 ≤ sizeLine; decide), fun q hq => fin1 q hq⟩, fun z => (nomatch z)⟩
    | 1, fin1 => exact ⟨false, T.eUN, fun z => (nomatch z), fun _ => ⟨true, T.eUU, fun _ _ _ => ⟨_, rfl, (by show 1 ≤ sizeLine; decide), fun q hq => fin1 q hq⟩, fun z => (nomatch z)⟩⟩
    | 2, fin1 => exact ⟨false, T.eON, fun z => (nomatch z), fun _ => ⟨false, T.eOU, fun z => (nomatch z), fun _ => ⟨true, T.eOO, fun _ _ _ => ⟨_, rfl, (by show 1 ≤ sizeLine; decide), fun q hq => fin1 q hq⟩, fun z => (nomatch z)⟩⟩⟩
    | kk + 3, fin1 => exact ⟨false, T.ePN, fun z => (nomatch z), fun _ => ⟨false, T.ePU, fun z => (nomatch z), fun _ => ⟨false, T.ePO, fun z => (nomatch z), fun _ => ⟨true, T.ePP, fun _ _ _ => ⟨_, rfl, (by show 1 ≤ sizeLine; decide), fun q hq => fin1 q hq⟩, fun z => (nomatch z)⟩⟩⟩⟩
end
end Kp
set_option Elab.async false
set_option linter.all false
set_option maxRecDepth 100000
set_option maxHeartbeats 4000000
namespace Kp
open PySem PySem.Spec PyProof.Rows L2
/-! ### the list of the calls, parted -/
structure PartAt (H0 H : Hp) (t : V) (q : Q2) : Prop where
  ex : ∃ (a l : Addr), t = .ref a ∧ H a = some (.tup [.int (q.1 : Int), .ref l]) ∧ H l = some (.lst (VL (toI q.2))) ∧ H0 a = none ∧ H0 l = none
structure Parted (H0 H : Hp) (ts : List V) (qs : List Q2) : Prop where
  len : ts.length = qs.length
  each : ∀ (j : Nat) (t : V) (q : Q2), ts[j]? = some t → qs[j]? = some q → PartAt H0 H t q
theorem PartAt.keep {H0 H H' : Hp} {t : V} {q : Q2} (h : PartAt H0 H t q) (k : ∀ b o, H0 b = none → H b = some o → H' b = some o) : PartAt H0 H' t q := by
  obtain ⟨a, l, e, h1, h2, n1, n2⟩ := h.ex
  exact ⟨a, l, e, k _ _ n1 h1, k _ _ n2 h2, n1, n2⟩
def spSplit (K : PySem.W.Frag) : Sp := fun vs H Q _ => ∃ (a : Addr) (qs : List Q2), vs = [.ref a] ∧ SqL K H a (VL (flat qs)) ∧ qs.length ≤ 1000 ∧ ∀ H' p ts, Same H H' → H p = none → H' p = some (.lst ts) → Parted H H' ts qs → Q (.ref p) H'
def spAnswers (K : PySem.W.Frag) : Sp := fun vs H Q _ => ∃ (a : Addr) (l : List Int) (qs : List Q2), vs = [.ref a] ∧ SqL K H a (VL l) ∧ Asked l qs ∧ ∀ H' p, H' p = some (.lst (VL (PyKp415.answers l))) → Q (.ref p) H'
theorem flat_app (a b : List Q2) : flat (a ++ b) = flat a ++ flat b := List.flatMap_append
theorem flat1_len (q : Q2) : (flat1 q).length = q.2.length + 3 := by
  show (((toI q.2) ++ [0]).length + 1) + 1 = _
  rw [List.length_append, toI_length]
  rfl
def off (qs : List Q2) (j : Nat) : Nat := (flat (qs.take j)).length
theorem flat_cut {qs : List Q2} {j : Nat} {q : Q2} (h : qs[j]? = some q) : flat qs = flat (qs.take j) ++ (flat1 q ++ flat (qs.drop (j + 1))) := by
  have e : qs = qs.take j ++ ([q] ++ qs.drop (j + 1)) := by
    have e1 : qs.take (j + 1) = qs.take j ++ [q] := take_get h
    rw [← List.append_assoc, ← e1, List.take_append_drop]
  have e2 : flat [q] = flat1 q := by
    show flat1 q ++ [] = _
    rw [List.append_nil]
  calc flat qs = flat (qs.take j ++ ([q] ++ qs.drop (j + 1))) := by rw [← e]
    _ = _ := by rw [flat_app, flat_app, e2]
theorem off_succ {qs : List Q2} {j : Nat} {q : Q2} (h : qs[j]? = some q) : off qs (j + 1) = off qs j + q.2.length + 3 := by
  have e2 : flat [q] = flat1 q := by
    show flat1 q ++ [] = _
    rw [List.append_nil]
  unfold off
  rw [take_get h, flat_app, List.length_append, e2, flat1_len]
  omega
theorem off_lt {qs : List Q2} {j : Nat} {q : Q2} (h : qs[j]? = some q) : off qs j + q.2.length + 3 ≤ (flat qs).length := by
  have e := congrArg List.length (flat_cut h)
  rw [List.length_append, List.length_append, flat1_len] at e
  unfold off
  omega
theorem off_end (qs : List Q2) : off qs qs.length = (flat qs).length := by
  unfold off
  rw [List.take_length]
theorem get_past {α : Type} {a b : List α} {i : Nat} : (a ++ b)[a.length + i]? = b[i]? := by
  rw [List.getElem?_append_right (Nat.le_add_right _ _), Nat.add_sub_cancel_left]
theorem flat_first {qs : List Q2} {j : Nat} {q : Q2} (h : qs[j]? = some q) : (flat qs)[off qs j]? = some (q.1 : Int) := by
  rw [flat_cut h]
  exact get_past (i := 0)
theorem flat_second {qs : List Q2} {j : Nat} {q : Q2} (h : qs[j]? = some q) : (flat qs)[off qs j + 1]? = some ((q.2.length : Nat) : Int) := by
  rw [flat_cut h]
  exact get_past (i := 1)
theorem flat_rest {qs : List Q2} {j : Nat} {q : Q2} (h : qs[j]? = some q) : ((flat qs).drop (off qs j + 2)).take q.2.length = toI q.2 := by
  rw [flat_cut h]
  unfold off
  rw [← List.drop_drop, List.drop_left]
  show ((toI q.2 ++ [0]) ++ flat (qs.drop (j + 1))).take q.2.length = _
  rw [List.append_assoc]
  have e : q.2.length = (toI q.2).length := (toI_length _).symm
  rw [e, List.take_left]
theorem cutV_of {xs : List V} {i k : Int} {a b : Nat} (e1 : i = (a : Int)) (e2 : k = (b : Int)) (h2 : b ≤ xs.length) (h1 : a ≤ b) : cutV xs (some i) (some k) = (xs.drop a).take (b - a) := by
  unfold cutV
  rw [e1, e2, HT.sIx_nat, HT.sIx_nat, Nat.min_eq_left h2, Nat.min_eq_left (Nat.le_trans h1 h2)]
theorem atI_of {α : Type} {xs : List α} {i : Int} {j : Nat} {v : α} (e : i = (j : Int)) (h : xs[j]? = some v) : atI xs i = some v := by
  rw [e]
  exact atI_nat h
theorem VL_add (a b : List Int) : VL a ++ [V.int ((VL b).length : Int)] ++ VL b = VL (a ++ ((b.length : Int) :: b)) := by
  have e : (VL b).length = b.length := List.length_map ..
  have e2 : VL (a ++ ((b.length : Int) :: b)) = VL a ++ VL ((b.length : Int) :: b) := List.map_append
  rw [e, e2, List.append_assoc]
  rfl
theorem StAt.off {C CI x aa : Addr} {H H' : Hp} {od : Obj} {u : HO} (e : H aa = some (.frz od u)) (k : ∀ b, b ≠ aa → H' b = H b) : ∀ {st : Kp415.State}, StAt C CI H x st → StAt C CI H' x st
  | none, ⟨di, h⟩ => ⟨di, (k x (ne_of h e (by intro z; cases z))).trans h⟩
  | some m, ⟨a, ⟨di, h⟩, dx, pt, pp, g⟩ => ⟨a, ⟨di, (k x (ne_of h e (by intro z; cases z))).trans h⟩, dx, pt, pp, (k a (ne_of g.o e (by intro z; cases z))).trans g.o, (k pt (ne_of g.t e (by intro z; cases z))).trans g.t, (k pp (ne_of g.p e (by intro z; cases z))).trans g.p⟩
section
variable {P : Program} {w : World} {K : PySem.W.Frag} {mg : Str → Option Value} {base : Heap} {C CI CN CU CO CP : Addr}
theorem ok_split_calls (T : Txt K mg C CI CN CU CO CP) (D : Def K mg "split_calls" s_split_calls ["calls"]) : Has P w K mg base CX0 1 "split_calls" (spSplit K) := by
  refine D.ok sc_split_calls (fun vs H Q E h => ?_) (fun f cdv A outer s H vs Q E hr h => ?_)
  · obtain ⟨a, qs, rfl, _⟩ := h
    rfl
  refine ⟨_, (pss_cons (ps_set (i := 1) sc_split_calls.nd rfl (Or.inl rfl) (pe_lst pa_nil)) (pss_cons (ps_set (i := 2) sc_split_calls.nd rfl (Or.inl rfl) pe_int) (pss_cons (ps_while PassesOwn.never (pt_cmpR op_lt (pv 2) (pe_callB call_len_seq (by rfl) T.len PySem.boot_len (pa_cons (pv 0) pa_nil)) (nomark _)) (pss_cons (ps_set (i := 3) sc_split_calls.nd rfl (Or.inl rfl) (pe_op op_add (pv 2) pe_int)) (pss_cons (ps_set (i := 4) sc_split_calls.nd rfl (Or.inl rfl) (pe_op op_add (pv 3) (pe_ix ix_list (pv 0) (pe_op op_add (pv 2) pe_int) (fun _ _ => rfl)))) (pss_cons (ps_expr (pe_bm PySem.F.plainAttrs_list PySem.F.slot_list_append PySem.F.type_list_append mt_append (pv 1) (pa_cons (pe_tup (pa_cons (pe_ix ix_list (pv 0) (pv 2) (fun _ _ => rfl)) (pa_cons (pe_slice sl_list (pv 0) (po_some (pv 3)) (po_some (pv 4))) pa_nil))) pa_nil))) (pss_one (ps_set (i := 2) sc_split_calls.nd rfl (Or.inl rfl) (pe_op op_add (pv 4) pe_int))))))) (pss_one (ps_ret (pv 1)))))), ?_⟩
  obtain ⟨a, qs, rfl, hl, h60, k⟩ := h
  refine ⟨(by show 0 ≤ sizeLine; decide), fun pa hpa => ?_⟩
  have ln : (VL (flat qs)).length = (flat qs).length := List.length_map ..
  -- the walk: behind j calls; no tuple of the parts lies at pa
  refine while_by (fun σ H' => ∃ (j : Nat) (ts : List V) (v3 v4 : Option V), σ = [some (.ref a), some (.ref pa), some (.int ((off qs j : Nat) : Int)), v3, v4] ∧ j ≤ qs.length ∧ Same H H' ∧ H' pa = some (.lst ts) ∧ ts.length = j ∧
      ∀ (i : Nat) (t : V) (q : Q2), ts[i]? = some t → qs[i]? = some q → ∃ (b l : Addr), t = .ref b ∧ H' b = some (.tup [.int (q.1 : Int), .ref l]) ∧ H' l = some (.lst (VL (toI q.2))) ∧ H b = none ∧ H l = none ∧ b ≠ pa ∧ l ≠ pa)
    (fun σ _ => match (σ[2]? : Option (Option V)) with | some (some (V.int y)) => (flat qs).length - y.toNat | _ => 0) ⟨0, [], none, none, rfl, Nat.zero_le _, Same.new hpa, upd_same, rfl, fun i t q hx => by simp at hx⟩ ?_ ?_
  · rintro σ H' ⟨j, ts, v3, v4, rfl, hj, s1, epa, ltj, parts⟩
    refine ⟨_, rfl, _, rfl, a, _, rfl, .inl (s1.seq hl), _, _, rfl, rfl, _, rfl, ?_⟩
    rw [ln]
    by_cases c : j = qs.length
    · refine ifN (decide_eq_false (by rw [c, off_end]; omega)) ?_
      refine ⟨_, rfl, k H' pa ts s1 hpa epa ⟨by rw [ltj, c], fun i t q h1 h2 => ?_⟩⟩
      obtain ⟨b, l, e, g1, g2, g3, g4, _⟩ := parts i t q h1 h2
      exact ⟨b, l, e, g1, g2, g3, g4⟩
    · obtain ⟨q, hq⟩ : ∃ q, qs[j]? = some q := ⟨qs[j]'(by omega), List.getElem?_eq_getElem (by omega)⟩
      have lt := off_lt hq
      refine ifY (decide_eq_true (by omega)) ?_
      have g1 : atI (VL (flat qs)) ((off qs j : Nat) : Int) = some (.int (q.1 : Int)) := atI_of rfl (map_get (flat_first hq))
      have g2 : atI (VL (flat qs)) (((off qs j : Nat) : Int) + 1) = some (.int ((q.2.length : Nat) : Int)) := atI_of (j := off qs j + 1) (by omega) (map_get (flat_second hq))
      have sq := s1.seq hl
      refine ⟨_, rfl, _, _, rfl, rfl, ?_⟩
      refine ⟨_, rfl, _, rfl, _, rfl, _, _, rfl, rfl, a, _, _, _, rfl, rfl, sq, g2, _, _, rfl, rfl, ?_⟩
      refine ⟨_, rfl, .inl ⟨rfl, _, SqL.of epa⟩, ?_⟩
      refine ⟨_, rfl, _, rfl, a, _, _, _, rfl, rfl, sq, g1, ?_⟩
      refine ⟨_, rfl, ⟨_, rfl, _, rfl, ⟨_, rfl, _, rfl, a, _, rfl, sq, fun p1 hp1 => ?_⟩⟩⟩
      have cut : cutV (VL (flat qs)) (some (((off qs j : Nat) : Int) + 2)) (some ((((off qs j : Nat) : Int) + 2) + ((q.2.length : Nat) : Int))) = VL (toI q.2) := by
        rw [cutV_of (a := off qs j + 2) (b := off qs j + 2 + q.2.length) (by omega) (by omega) (by rw [ln]; omega) (by omega), Nat.add_sub_cancel_left]
        show ((VL (flat qs)).drop (off qs j + 2)).take q.2.length = _
        rw [← List.map_drop, ← List.map_take, flat_rest hq]
      refine ⟨(by show 2 ≤ sizeLine; decide), fun t ht => ?_⟩
      have np1 : pa ≠ p1 := ne_of_none epa hp1
      have nt1 : p1 ≠ t := fun z => by
        rw [← z, upd_same] at ht
        cases ht
      have npt : pa ≠ t := fun z => by
        rw [← z, upd_ne np1, epa] at ht
        cases ht
      have ht0 : H' t = none := by rw [← upd_ne (H := H') (fun z => nt1 z.symm)]; exact ht
      refine ⟨pa, _, _, rfl, rfl, (upd_ne npt).trans ((upd_ne np1).trans epa), by rw [ltj]; exact Nat.lt_of_le_of_lt (by omega : j ≤ 1000) (by decide), ?_⟩
      refine ⟨_, rfl, _, _, rfl, rfl, ?_⟩
      refine ⟨⟨j + 1, ts ++ [.ref t], some (.int (((off qs j : Nat) : Int) + 2)), some (.int (((off qs j : Nat) : Int) + 2 + ((q.2.length : Nat) : Int))), ?_, by omega, ?_, upd_same, by rw [List.length_append, ltj]; rfl, ?_⟩, ?_⟩
      · rw [off_succ hq]
        have e : ((off qs j + q.2.length + 3 : Nat) : Int) = ((off qs j : Nat) : Int) + 2 + ((q.2.length : Nat) : Int) + 1 := by omega
        rw [e]
        rfl
      · intro b o r
        have z := s1 b o r
        rw [upd_ne (ne_of_none r hpa), upd_ne (ne_of_none z ht0), upd_ne (ne_of_none z hp1)]
        exact z
      · intro i x y hx hy
        by_cases c2 : i < ts.length
        · rw [List.getElem?_append_left c2] at hx
          obtain ⟨b, l, e, e1, e2, n1, n2, n3, n4⟩ := parts i x y hx hy
          refine ⟨b, l, e, ?_, ?_, n1, n2, n3, n4⟩
          · rw [upd_ne n3, upd_ne (ne_of_none e1 ht0), upd_ne (ne_of_none e1 hp1)]
            exact e1
          · rw [upd_ne n4, upd_ne (ne_of_none e2 ht0), upd_ne (ne_of_none e2 hp1)]
            exact e2
        · rw [List.getElem?_append_right (by omega)] at hx
          have z : i - ts.length = 0 := by
            cases e : i - ts.length with
            | zero => rfl
            | succ k =>
              rw [e] at hx
              simp at hx
          rw [z] at hx
          obtain rfl := Option.some.inj hx
          have ij : i = j := by omega
          rw [ij, hq] at hy
          obtain rfl := Option.some.inj hy
          refine ⟨t, p1, rfl, ?_, ?_, s1.free ht0, s1.free hp1, npt.symm, np1.symm⟩
          · rw [upd_ne npt.symm, upd_same]
          · rw [upd_ne np1.symm, upd_ne nt1, upd_same, cut]
      · have e3 : (((off qs j : Nat) : Int) + 2 + ((q.2.length : Nat) : Int) + 1).toNat = off qs j + q.2.length + 3 := by omega
        show (flat qs).length - (((off qs j : Nat) : Int) + 2 + ((q.2.length : Nat) : Int) + 1).toNat < (flat qs).length - (((off qs j : Nat) : Int)).toNat
        rw [e3, Int.toNat_natCast]
        omega
  · rintro σ H0 Q1 Q2 hq ⟨v, e, u, e1, p, n, e2, hh, i1, i2, e3, e4, b, e5, q⟩
    exact ⟨v, e, u, e1, p, n, e2, hh, i1, i2, e3, e4, b, e5, hq _ _ q⟩
theorem ok_answers (T : Txt K mg C CI CN CU CO CP) (h_Instance : Makes P w K mg base 1 "Instance" CI (spInitI CI)) (h_split_calls : Has P w K mg base CX0 1 "split_calls" (spSplit K)) (h_answer_call : Has P w K mg base CX0 7 "answer_call" (spAns1 K C CI)) {f : Addr} {fd : FuncData} (F : Fun K "answers" "answers" s_answers f fd) :
    FnOk P w K mg base CX0 8 f fd ["calls"] (spAnswers K) := by
  refine F.ok sc_answers (fun vs H Q E h => ?_) (fun cdv A outer s H vs Q E hr h => ?_)
  · obtain ⟨a, l, qs, rfl, _⟩ := h
    rfl
  refine ⟨_, (pss_cons (ps_set (i := 1) sc_answers.nd rfl (Or.inl rfl) (pe_mkH0 h_Instance hr (by decide) rfl)) (pss_cons (ps_set (i := 2) sc_answers.nd rfl (Or.inl rfl) (pe_lst pa_nil)) (pss_cons (ps_for PassesOwn.never rfl (pi_list (pe_h h_split_calls hr (by decide) rfl pass0 (pa_cons (pv 0) pa_nil))) (pg_tup rfl (pgs_cons (pg_name (i := 3) sc_answers.nd rfl (Or.inl rfl)) (pgs_cons (pg_name (i := 4) sc_answers.nd rfl (Or.inl rfl)) pgs_nil))) (pss_cons (ps_set (i := 5) sc_answers.nd rfl (Or.inl rfl) (pe_lock (pe_h h_answer_call hr (by decide) rfl pass0 (pa_cons (pv 1) (pa_cons (pv 3) (pa_cons (pv 4) pa_nil)))))) (pss_cons (ps_expr (pe_bm PySem.F.plainAttrs_list PySem.F.slot_list_append PySem.F.type_list_append mt_append (pv 2) (pa_cons (pe_callB call_len_seq (by rfl) T.len PySem.boot_len (pa_cons (pv 5) pa_nil)) pa_nil))) (pss_one (ps_expr (pe_bm PySem.F.plainAttrs_list PySem.F.slot_list_extend PySem.F.type_list_extend mt_extend (pv 2) (pa_cons (pv 5) pa_nil))))))) (pss_one (ps_ret (pv 2)))))), ?_⟩
  obtain ⟨a, l, qs, rfl, hl, hA, k⟩ := h
  have hfl : l = flat qs := hA.flat
  refine fun x dx nx nd ne => ⟨x, dx, rfl, upd_same, fun H1 hi e1 => ⟨rfl, ?_⟩⟩
  have s1 : Same H H1 := Same.made nx nd e1
  refine ⟨(by show 0 ≤ sizeLine; decide), fun aa haa => ?_⟩
  have s2 : Same H1 (upd H1 aa (.lst [])) := Same.new haa
  refine ⟨_, rfl, a, qs, rfl, (s1.trans s2).seq (by rw [← hfl]; exact hl), Nat.le_trans hA.most (by decide), fun H3 pa ts s3 npa epa parts => ?_⟩
  have e3 : H3 aa = some (.lst []) := s3 _ _ upd_same
  have nea : pa ≠ aa := fun z => by
    rw [z, upd_same] at npa
    cases npa
  have xa : x ≠ aa := by
    obtain ⟨di, hi'⟩ := id hi
    exact ne_of_none hi' haa
  refine ⟨pa, rfl, ⟨_, SqL.of epa⟩, for_list (K := K) (a := pa) (xs := ts) (fun j σ H' => ∃ v3 v4 v5 : Option V, σ = [some (.ref a), some (.ref x), some (.ref aa), v3, v4, v5] ∧ (∀ H2 : Hp, (∀ b, b ≠ aa → H2 b = H' b) → StAt C CI H2 x (stAt qs j)) ∧ H' aa = some (.lst (VL (sofar qs j))) ∧
      (∀ b o, H3 b = some o → (∀ C dx fs, o ≠ .ins C dx fs) → b ≠ aa → H' b = some o)) ⟨none, none, none, rfl, fun H2 e => ?_, e3, fun b o q _ _ => q⟩
    (fun j σ H' _ ⟨_, _, _, _, _, _, keep⟩ => SqL.of (keep _ _ epa (fun _ _ _ z => by cases z) nea)) ?_ ?_⟩
  · obtain ⟨di, hi'⟩ := hi.same (s2.trans s3)
    exact ⟨di, (e x xa).trans hi'⟩
  · rintro j y σ H' hy ⟨v3, v4, v5, rfl, hst, eaa, keep⟩
    have jl : j < qs.length := by
      rw [← parts.len]
      exact (List.getElem?_eq_some_iff.mp hy).1
    obtain ⟨q, hq⟩ : ∃ q, qs[j]? = some q := ⟨qs[j]'jl, List.getElem?_eq_getElem jl⟩
    obtain ⟨t, l0, rfl, et, el, nt, nl⟩ := (parts.each j y q hy hq).ex
    have nta : t ≠ aa := fun z => by
      rw [z, upd_same] at nt
      cases nt
    have nla : l0 ≠ aa := fun z => by
      rw [z, upd_same] at nl
      cases nl
    have et' := keep _ _ et (fun _ _ _ z => by cases z) nta
    have el' := keep _ _ el (fun _ _ _ z => by cases z) nla
    obtain ⟨z, hz1, hz2, hz3⟩ := call_at hA hq
    have le := sofar_le hA (j + 1)
    rw [hz3, List.length_append, List.length_cons] at le
    refine ⟨t, _, rfl, SqT.of et', rfl, _, _, rfl, _, _, rfl, rfl, ?_⟩
    refine ⟨aa, _, eaa, trivial, fun od => ?_⟩
    refine ⟨_, rfl, _, rfl, _, rfl, x, q.1, l0, stAt qs j, q.2, z, rfl, hst _ (fun b n => upd_ne n), stAt_ok hA j, SqL.of ((upd_ne nla).trans el'), hz1, fun H4 qq hst4 kp4 nqq eqq => ?_⟩
    have ez := kp4 _ _ upd_same fun _ _ _ z => by cases z
    have nqa : aa ≠ qq := fun z => by
      rw [← z, upd_same] at nqq
      cases nqq
    refine ⟨ez, ?_⟩
    refine ⟨_, rfl, .inl ⟨rfl, _, SqL.of upd_same⟩, ?_⟩
    have eqq' := (upd_ne (H := H4) (o := .lst (VL (sofar qs j))) nqa.symm).trans eqq
    refine ⟨_, rfl, qq, _, rfl, .inl (SqL.of eqq'), aa, _, _, rfl, rfl, upd_same, ?_, ?_⟩
    · rw [List.length_map]
      exact Nat.lt_of_le_of_lt (Nat.le_trans (Nat.le_add_right _ _) le) (by decide)
    refine ⟨_, rfl, .inl ⟨rfl, _, SqL.of upd_same⟩, ?_⟩
    refine ⟨_, rfl, aa, qq, _, _, rfl, rfl, upd_same, (upd_ne nqa.symm).trans eqq', ?_, ?_⟩
    · rw [List.length_append, List.length_map, List.length_map]
      exact Nat.le_trans (m := 10000000) (by simpa [Nat.add_assoc, Nat.add_comm, Nat.add_left_comm] using le) (by decide)
    · refine ⟨some (.int (q.1 : Int)), some (.ref l0), some (.ref qq), rfl, fun H2 e => ?_, ?_, fun b o r n1 n2 => ?_⟩
      · rw [hz2]
        refine hst4.off ez fun b n => ?_
        rw [e b n, upd_ne n, upd_ne n, upd_ne n]
      · rw [upd_same, hz3]
        exact congrArg (fun l => some (HO.lst l)) (VL_add _ _)
      · rw [upd_ne n2, upd_ne n2, upd_ne n2]
        exact kp4 _ _ ((upd_ne n2).trans (keep b o r n1 n2)) n1
  · rintro σ H' ⟨v3, v4, v5, rfl, hst, eaa, keep⟩
    rw [parts.len, sofar_end hA] at eaa
    exact ⟨_, rfl, k H' aa eaa⟩
end
end Kp
set_option Elab.async false
set_option linter.all false
set_option maxRecDepth 100000
set_option maxHeartbeats 4000000
namespace Kp
open PySem PySem.Spec PyProof.Rows L2
/-! ### what the top has left -/
def fnL0 : List He.DefD := [⟨("greatest_common_divisor", none), "greatest_common_divisor", "greatest_common_divisor", defArgs s_greatest_common_divisor, defBody s_greatest_common_divisor, defScope s_greatest_common_divisor, [], []⟩,
  ⟨("lowest_terms", none), "lowest_terms", "lowest_terms", defArgs s_lowest_terms, defBody s_lowest_terms, defScope s_lowest_terms, [], []⟩,
  ⟨("power", none), "power", "power", defArgs s_power, defBody s_power, defScope s_power, [], []⟩,
  ⟨("test_share_parts", none), "test_share_parts", "test_share_parts", defArgs s_test_share_parts, defBody s_test_share_parts, defScope s_test_share_parts, [], []⟩,
  ⟨("production_share_parts", none), "production_share_parts", "production_share_parts", defArgs s_production_share_parts, defBody s_production_share_parts, defScope s_production_share_parts, [], []⟩,
  ⟨("share_whole", none), "share_whole", "share_whole", defArgs s_share_whole, defBody s_share_whole, defScope s_share_whole, [], []⟩,
  ⟨("joint_test_parts", none), "joint_test_parts", "joint_test_parts", defArgs s_joint_test_parts, defBody s_joint_test_parts, defScope s_joint_test_parts, [], []⟩,
  ⟨("joint_production_parts", none), "joint_production_parts", "joint_production_parts", defArgs s_joint_production_parts, defBody s_joint_production_parts, defScope s_joint_production_parts, [], []⟩,
  ⟨("joint_whole", none), "joint_whole", "joint_whole", defArgs s_joint_whole, defBody s_joint_whole, defScope s_joint_whole, [], []⟩,
  ⟨("probability_part", none), "probability_part", "probability_part", defArgs s_probability_part, defBody s_probability_part, defScope s_probability_part, [], []⟩,
  ⟨("probability_fraction", none), "probability_fraction", "probability_fraction", defArgs s_probability_fraction, defBody s_probability_fraction, defScope s_probability_fraction, [], []⟩,
  ⟨("posterior_fraction", none), "posterior_fraction", "posterior_fraction", defArgs s_posterior_fraction, defBody s_posterior_fraction, defScope s_posterior_fraction, [], []⟩,
  ⟨("half_difference", none), "half_difference", "half_difference", defArgs s_half_difference, defBody s_half_difference, defScope s_half_difference, [], []⟩,
  ⟨("greater_sum", none), "greater_sum", "greater_sum", defArgs s_greater_sum, defBody s_greater_sum, defScope s_greater_sum, [], []⟩,
  ⟨("variation_fraction", none), "variation_fraction", "variation_fraction", defArgs s_variation_fraction, defBody s_variation_fraction, defScope s_variation_fraction, [], []⟩,
  ⟨("accuracy_fraction", none), "accuracy_fraction", "accuracy_fraction", defArgs s_accuracy_fraction, defBody s_accuracy_fraction, defScope s_accuracy_fraction, [], []⟩,
  ⟨("blind_fraction", none), "blind_fraction", "blind_fraction", defArgs s_blind_fraction, defBody s_blind_fraction, defScope s_blind_fraction, [], []⟩,
  ⟨("likelier_kinds", none), "likelier_kinds", "likelier_kinds", defArgs s_likelier_kinds, defBody s_likelier_kinds, defScope s_likelier_kinds, [], []⟩,
  ⟨("copy_model", none), "copy_model", "copy_model", defArgs s_copy_model, defBody s_copy_model, defScope s_copy_model, [], []⟩,
  ⟨("merged_weights", none), "merged_weights", "merged_weights", defArgs s_merged_weights, defBody s_merged_weights, defScope s_merged_weights, [], []⟩]
def fnL1 : List He.DefD := [⟨("merge", none), "merge", "merge", defArgs s_merge, defBody s_merge, defScope s_merge, [], []⟩,
  ⟨("sequence_products", none), "sequence_products", "sequence_products", defArgs s_sequence_products, defBody s_sequence_products, defScope s_sequence_products, [], []⟩,
  ⟨("sequence_product", none), "sequence_product", "sequence_product", defArgs s_sequence_product, defBody s_sequence_product, defScope s_sequence_product, [], []⟩,
  ⟨("sequence_variation", none), "sequence_variation", "sequence_variation", defArgs s_sequence_variation, defBody s_sequence_variation, defScope s_sequence_variation, [], []⟩,
  ⟨("sequence_best_accuracy", none), "sequence_best_accuracy", "sequence_best_accuracy", defArgs s_sequence_best_accuracy, defBody s_sequence_best_accuracy, defScope s_sequence_best_accuracy, [], []⟩,
  ⟨("sequence_test_part", none), "sequence_test_part", "sequence_test_part", defArgs s_sequence_test_part, defBody s_sequence_test_part, defScope s_sequence_test_part, [], []⟩,
  ⟨("sequence_production_part", none), "sequence_production_part", "sequence_production_part", defArgs s_sequence_production_part, defBody s_sequence_production_part, defScope s_sequence_production_part, [], []⟩,
  ⟨("sequence_probability_part", none), "sequence_probability_part", "sequence_probability_part", defArgs s_sequence_probability_part, defBody s_sequence_probability_part, defScope s_sequence_probability_part, [], []⟩,
  ⟨("sequence_posterior_fraction", none), "sequence_posterior_fraction", "sequence_posterior_fraction", defArgs s_sequence_posterior_fraction, defBody s_sequence_posterior_fraction, defScope s_sequence_posterior_fraction, [], []⟩,
  ⟨("set_count", none), "set_count", "set_count", defArgs s_set_count, defBody s_set_count, defScope s_set_count, [], []⟩,
  ⟨("set_part", none), "set_part", "set_part", defArgs s_set_part, defBody s_set_part, defScope s_set_part, [], []⟩,
  ⟨("set_test_fraction", none), "set_test_fraction", "set_test_fraction", defArgs s_set_test_fraction, defBody s_set_test_fraction, defScope s_set_test_fraction, [], []⟩,
  ⟨("set_production_fraction", none), "set_production_fraction", "set_production_fraction", defArgs s_set_production_fraction, defBody s_set_production_fraction, defScope s_set_production_fraction, [], []⟩,
  ⟨("gap_parts", none), "gap_parts", "gap_parts", defArgs s_gap_parts, defBody s_gap_parts, defScope s_gap_parts, [], []⟩,
  ⟨("set_gap_fraction", none), "set_gap_fraction", "set_gap_fraction", defArgs s_set_gap_fraction, defBody s_set_gap_fraction, defScope s_set_gap_fraction, [], []⟩,
  ⟨("widest_mask", none), "widest_mask", "widest_mask", defArgs s_widest_mask, defBody s_widest_mask, defScope s_widest_mask, [], []⟩,
  ⟨("detector_mask", none), "detector_mask", "detector_mask", defArgs s_detector_mask, defBody s_detector_mask, defScope s_detector_mask, [], []⟩,
  ⟨("check_weights", none), "check_weights", "check_weights", defArgs s_check_weights, defBody s_check_weights, defScope s_check_weights, [], []⟩,
  ⟨("check_fraction", none), "check_fraction", "check_fraction", defArgs s_check_fraction, defBody s_check_fraction, defScope s_check_fraction, [], []⟩,
  ⟨("check_signal", none), "check_signal", "check_signal", defArgs s_check_signal, defBody s_check_signal, defScope s_check_signal, [], []⟩]
def fnL2 : List He.DefD := [⟨("check_posterior", none), "check_posterior", "check_posterior", defArgs s_check_posterior, defBody s_check_posterior, defScope s_check_posterior, [], []⟩,
  ⟨("check_signals", none), "check_signals", "check_signals", defArgs s_check_signals, defBody s_check_signals, defScope s_check_signals, [], []⟩,
  ⟨("check_mapping", none), "check_mapping", "check_mapping", defArgs s_check_mapping, defBody s_check_mapping, defScope s_check_mapping, [], []⟩,
  ⟨("check_length", none), "check_length", "check_length", defArgs s_check_length, defBody s_check_length, defScope s_check_length, [], []⟩,
  ⟨("check_sequence", none), "check_sequence", "check_sequence", defArgs s_check_sequence, defBody s_check_sequence, defScope s_check_sequence, [], []⟩,
  ⟨("check_set", none), "check_set", "check_set", defArgs s_check_set, defBody s_check_set, defScope s_check_set, [], []⟩,
  ⟨("set_test_weights", none), "set_test_weights", "set_test_weights", defArgs s_set_test_weights, defBody s_set_test_weights, defScope s_set_test_weights, [], []⟩,
  ⟨("set_production_weights", none), "set_production_weights", "set_production_weights", defArgs s_set_production_weights, defBody s_set_production_weights, defScope s_set_production_weights, [], []⟩,
  ⟨("set_prior", none), "set_prior", "set_prior", defArgs s_set_prior, defBody s_set_prior, defScope s_set_prior, [], []⟩,
  ⟨("get_weights", none), "get_weights", "get_weights", defArgs s_get_weights, defBody s_get_weights, defScope s_get_weights, [], []⟩,
  ⟨("signal_probability", none), "signal_probability", "signal_probability", defArgs s_signal_probability, defBody s_signal_probability, defScope s_signal_probability, [], []⟩,
  ⟨("posterior", none), "posterior", "posterior", defArgs s_posterior, defBody s_posterior, defScope s_posterior, [], []⟩,
  ⟨("certainty", none), "certainty", "certainty", defArgs s_certainty, defBody s_certainty, defScope s_certainty, [], []⟩,
  ⟨("total_variation", none), "total_variation", "total_variation", defArgs s_total_variation, defBody s_total_variation, defScope s_total_variation, [], []⟩,
  ⟨("best_accuracy", none), "best_accuracy", "best_accuracy", defArgs s_best_accuracy, defBody s_best_accuracy, defScope s_best_accuracy, [], []⟩,
  ⟨("blind_accuracy", none), "blind_accuracy", "blind_accuracy", defArgs s_blind_accuracy, defBody s_blind_accuracy, defScope s_blind_accuracy, [], []⟩,
  ⟨("best_guesses", none), "best_guesses", "best_guesses", defArgs s_best_guesses, defBody s_best_guesses, defScope s_best_guesses, [], []⟩,
  ⟨("merge_signals", none), "merge_signals", "merge_signals", defArgs s_merge_signals, defBody s_merge_signals, defScope s_merge_signals, [], []⟩,
  ⟨("preview_merge", none), "preview_merge", "preview_merge", defArgs s_preview_merge, defBody s_preview_merge, defScope s_preview_merge, [], []⟩,
  ⟨("sequence_total_variation", none), "sequence_total_variation", "sequence_total_variation", defArgs s_sequence_total_variation, defBody s_sequence_total_variation, defScope s_sequence_total_variation, [], []⟩]
def fnL3 : List He.DefD := [⟨("sequence_accuracy", none), "sequence_accuracy", "sequence_accuracy", defArgs s_sequence_accuracy, defBody s_sequence_accuracy, defScope s_sequence_accuracy, [], []⟩,
  ⟨("sequence_posterior", none), "sequence_posterior", "sequence_posterior", defArgs s_sequence_posterior, defBody s_sequence_posterior, defScope s_sequence_posterior, [], []⟩,
  ⟨("set_shares", none), "set_shares", "set_shares", defArgs s_set_shares, defBody s_set_shares, defScope s_set_shares, [], []⟩,
  ⟨("best_detector", none), "best_detector", "best_detector", defArgs s_best_detector, defBody s_best_detector, defScope s_best_detector, [], []⟩,
  ⟨("widest_gap_set", none), "widest_gap_set", "widest_gap_set", defArgs s_widest_gap_set, defBody s_widest_gap_set, defScope s_widest_gap_set, [], []⟩,
  ⟨("accuracy_for_prior", none), "accuracy_for_prior", "accuracy_for_prior", defArgs s_accuracy_for_prior, defBody s_accuracy_for_prior, defScope s_accuracy_for_prior, [], []⟩,
  ⟨("create", none), "create", "create", defArgs s_create, defBody s_create, defScope s_create, [], []⟩,
  ⟨("perform", none), "perform", "perform", defArgs s_perform, defBody s_perform, defScope s_perform, [], []⟩,
  ⟨("answer_call", none), "answer_call", "answer_call", defArgs s_answer_call, defBody s_answer_call, defScope s_answer_call, [], []⟩,
  ⟨("split_calls", none), "split_calls", "split_calls", defArgs s_split_calls, defBody s_split_calls, defScope s_split_calls, [], []⟩,
  ⟨("answers", none), "answers", "answers", defArgs s_answers, defBody s_answers, defScope s_answers, [], []⟩,
  ⟨("Model", some "__init__"), "__init__", "Model.__init__", defArgs s_Model___init__, defBody s_Model___init__, defScope s_Model___init__, [], []⟩,
  ⟨("Instance", some "__init__"), "__init__", "Instance.__init__", defArgs s_Instance___init__, defBody s_Instance___init__, defScope s_Instance___init__, [], []⟩]
def fnL : List He.DefD := fnL0 ++ (fnL1 ++ (fnL2 ++ (fnL3)))
def faL0 : List He.Fa := [.glo "greatest_common_divisor",
  .glo "lowest_terms",
  .glo "power",
  .glo "test_share_parts",
  .glo "production_share_parts",
  .glo "share_whole",
  .glo "joint_test_parts",
  .glo "joint_production_parts",
  .glo "joint_whole",
  .glo "probability_part",
  .glo "probability_fraction",
  .glo "posterior_fraction",
  .glo "half_difference",
  .glo "greater_sum",
  .glo "variation_fraction",
  .glo "accuracy_fraction",
  .glo "blind_fraction",
  .glo "likelier_kinds",
  .glo "copy_model",
  .glo "merged_weights",
  .glo "merge",
  .glo "sequence_products",
  .glo "sequence_product",
  .glo "sequence_variation",
  .glo "sequence_best_accuracy",
  .glo "sequence_test_part",
  .glo "sequence_production_part",
  .glo "sequence_probability_part",
  .glo "sequence_posterior_fraction",
  .glo "set_count",
  .glo "set_part",
  .glo "set_test_fraction",
  .glo "set_production_fraction",
  .glo "gap_parts",
  .glo "set_gap_fraction",
  .glo "widest_mask",
  .glo "detector_mask",
  .glo "check_weights",
  .glo "check_fraction",
  .glo "check_signal"]
def faL1 : List He.Fa := [.glo "check_posterior",
  .glo "check_signals",
  .glo "check_mapping",
  .glo "check_length",
  .glo "check_sequence",
  .glo "check_set",
  .glo "set_test_weights",
  .glo "set_production_weights",
  .glo "set_prior",
  .glo "get_weights",
  .glo "signal_probability",
  .glo "posterior",
  .glo "certainty",
  .glo "total_variation",
  .glo "best_accuracy",
  .glo "blind_accuracy",
  .glo "best_guesses",
  .glo "merge_signals",
  .glo "preview_merge",
  .glo "sequence_total_variation",
  .glo "sequence_accuracy",
  .glo "sequence_posterior",
  .glo "set_shares",
  .glo "best_detector",
  .glo "widest_gap_set",
  .glo "accuracy_for_prior",
  .glo "create",
  .glo "perform",
  .glo "answer_call",
  .glo "split_calls",
  .glo "answers",
  .glo "Model",
  .glo "Instance",
  .glo "MODEL_CALLS",
  .glo "NoModel",
  .glo "UnknownSignal",
  .glo "OutsideLimits",
  .glo "UndefinedPosterior",
  .free "len",
  .free "range"]
def faL2 : List He.Fa := [.free "zip",
  .free "enumerate",
  .free "sum",
  .free "max",
  .free "abs",
  .free "list",
  .int "CREATE" 0,
  .int "MOST_SIGNALS" 5,
  .int "GREATEST_WEIGHT" 99,
  .int "GREATEST_DEN" 99,
  .int "GREATEST_LENGTH" 3,
  .int "LONGEST_SEQUENCE" 6,
  .cls "Model",
  .mkr "Model",
  .cls "Instance",
  .mkr "Instance",
  .noat "Model" "signal_count",
  .noat "Model" "test_weights",
  .noat "Model" "production_weights",
  .noat "Model" "prior_num",
  .noat "Model" "prior_den",
  .noat "Instance" "model",
  .exm "NoModel" "NoModel" true,
  .exm "UnknownSignal" "NoModel" false,
  .exm "UnknownSignal" "UnknownSignal" true,
  .exm "OutsideLimits" "NoModel" false,
  .exm "OutsideLimits" "UnknownSignal" false,
  .exm "OutsideLimits" "OutsideLimits" true,
  .exm "UndefinedPosterior" "NoModel" false,
  .exm "UndefinedPosterior" "UnknownSignal" false,
  .exm "UndefinedPosterior" "OutsideLimits" false,
  .exm "UndefinedPosterior" "UndefinedPosterior" true]
def faL : List He.Fa := faL0 ++ (faL1 ++ (faL2))
def nums : List (Nat × Str) := [(1, "set_test_weights"), (2, "set_production_weights"), (3, "set_prior"), (4, "get_weights"), (5, "signal_probability"), (6, "posterior"), (7, "certainty"), (8, "total_variation"), (9, "best_accuracy"), (10, "best_guesses"), (11, "blind_accuracy"), (12, "merge_signals"), (13, "preview_merge"), (14, "sequence_total_variation"), (15, "sequence_accuracy"), (16, "sequence_posterior"), (17, "set_shares"), (18, "best_detector"), (19, "widest_gap_set"), (20, "accuracy_for_prior")]
def eBase : List Value := [.type "Exception", .type "BaseException", .type "object"]
def exB (K : PySem.W.Frag) (x : Str) : Bool := PySem.W.excIn K (He.ga K x) eBase "Exception.__new__" && (PySem.W.keepIn K (.ref (He.ga K x)) && (decide (PySem.W.subIn K (.ref (He.ga K x)) (.type "BaseException") = some true) && decide (PySem.W.typeIn K (.ref (He.ga K x)) = some (.type "type"))))
theorem exB_ok {K : PySem.W.Frag} {x : Str} (c : exB K x = true) : PySem.W.excIn K (He.ga K x) eBase "Exception.__new__" = true ∧ PySem.W.keepIn K (.ref (He.ga K x)) = true ∧
    PySem.W.subIn K (.ref (He.ga K x)) (.type "BaseException") = some true ∧ PySem.W.typeIn K (.ref (He.ga K x)) = some (.type "type") := by
  obtain ⟨q1, c⟩ := He.ba c
  obtain ⟨q2, c⟩ := He.ba c
  obtain ⟨q3, q4⟩ := He.ba c
  exact ⟨q1, q2, of_decide_eq_true q3, of_decide_eq_true q4⟩
def findL (l : List DictEntry) (i : Int) : Option Value := (l.find? fun e => Value.isInt i e.key).map (·.val)
theorem findL_eq (es : Array DictEntry) (i : Int) : findBy Value.isInt es i = findL es.toList i := by
  obtain ⟨l⟩ := es
  simp [findBy, findL, List.find?_toArray]
def keysB (l : List DictEntry) : Bool := l.all fun e => match e.key with
  | .int i _ => decide (e.hash = hashInt i)
  | _ => false
theorem keysB_ok {P : Program} {w : World} : ∀ {l : List DictEntry}, keysB l = true → KeysInt P w l
  | [], _ => trivial
  | e :: r, h => by
    obtain ⟨h1, h2⟩ := He.ba (show ((match e.key with
      | .int i _ => decide (e.hash = hashInt i)
      | _ => false) && keysB r) = true from h)
    refine ⟨?_, keysB_ok h2⟩
    split at h1
    · rename_i i t q
      exact ⟨i, t, q, of_decide_eq_true h1⟩
    · cases h1
def valIs (v : Option Value) (a : Addr) : Bool := match v with
  | some (.ref b) => decide (b = a)
  | _ => false
theorem valIs_ok {v : Option Value} {a : Addr} (h : valIs v a = true) : v = some (.ref a) := by
  unfold valIs at h
  split at h
  · rw [of_decide_eq_true h]
  · cases h
def tabB (K : PySem.W.Frag) : Bool := match K.lookup (He.ga K "MODEL_CALLS") with
  | some ⟨.type c, none, .dict es _, sl⟩ => decide (c = "dict") && (sl.isEmpty && (keysB es.toList && nums.all fun q => valIs (findL es.toList (q.1 : Int)) (He.ga K q.2)))
  | _ => false
def tabOf (K : PySem.W.Frag) (i : Int) : Option Addr := (opRow i.toNat).map fun r => He.ga K r.1
theorem opRow_all {p : Nat} {r : Str × Op} (h : opRow p = some r) : p ≠ 0 ∧ (p, r.1) ∈ nums := by
  unfold opRow at h
  split at h <;> first | cases h; exact ⟨by decide, by decide +kernel⟩ | cases h
theorem tabB_ok {P : Program} {w : World} {K : PySem.W.Frag} (h : tabB K = true) : Tab P w K (He.ga K "MODEL_CALLS") (tabOf K) := by
  unfold tabB at h
  split at h
  · rename_i c es n sl e
    obtain ⟨h1, h⟩ := He.ba h
    obtain ⟨h2, h⟩ := He.ba h
    obtain ⟨h3, h4⟩ := He.ba h
    have e1 : c = "dict" := of_decide_eq_true h1
    have e2 : sl = #[] := Array.isEmpty_iff.mp h2
    subst e1 e2
    refine ⟨es, n, e, keysB_ok h3, fun i f hf => ?_⟩
    unfold tabOf at hf
    cases q : opRow i.toNat with
    | none =>
      rw [q] at hf
      cases hf
    | some r =>
      rw [q] at hf
      obtain rfl := Option.some.inj hf
      obtain ⟨n0, m⟩ := opRow_all q
      have z := valIs_ok (List.all_eq_true.mp h4 _ m)
      have ei : ((i.toNat : Nat) : Int) = i := by omega
      rw [findL_eq, ← ei]
      exact z
  · cases h
def excs : List Str := ["NoModel", "UnknownSignal", "OutsideLimits", "UndefinedPosterior"]
/-- what the module's names reach in four steps (a method's code) -/
def nxt (g : Addr → Option Obj) (as : List Addr) : List Addr := as.flatMap fun a => match g a with
  | some o => He.refsO o
  | none => []
def asK (g : Addr → Option Obj) : List Addr := [mainGlobals] ++ (nxt g [mainGlobals] ++ (nxt g (nxt g [mainGlobals]) ++ (nxt g (nxt g (nxt g [mainGlobals])) ++ nxt g (nxt g (nxt g (nxt g [mainGlobals]))))))
abbrev AlK : Type := He.AlD × Bool
def obsK (K : PySem.W.Frag) : AlK := (He.obsD faL fnL K, excs.all (exB K) && tabB K)
def valK : AlK := (He.valD fnL, true)
def SaysK (K : PySem.W.Frag) : Prop := obsK K = valK
def hk : PySem.W.Hook where
  α := AlK
  obs := fun s => obsK (He.frG s.heap.get? (asK s.heap.get?))
  val := fun _ => valK
  says := fun _ h => ∃ K : PySem.W.Frag, K.In h ∧ SaysK K
  of := fun _ _ e => ⟨_, He.frG_in, e⟩
  keeps := fun _ _ _ ⟨K, hK, c⟩ k => ⟨K, PySem.W.Frag.In.keeps hK k, c⟩
def ob (s : PySem.W.SharedT) : AlK := obsK (He.frG (HandSHeadRun.getT s) (asK (HandSHeadRun.getT s)))
theorem ob_eq (s : PySem.W.SharedT) : ob s = hk.obs s.abs := by
  have e : HandSHeadRun.getT s = s.abs.heap.get? := funext (HandSHeadRun.getT_eq s)
  show obsK (He.frG (HandSHeadRun.getT s) (asK (HandSHeadRun.getT s))) = obsK (He.frG s.abs.heap.get? (asK s.abs.heap.get?))
  rw [e]
section
variable {P : Program} {w : World} {K : PySem.W.Frag} {mg : Str → Option Value} {base h : Heap}
theorem def_of {x : Str} {st : Stmt} {ps : List Str} (F : ∃ fd, FunD K x x (defArgs st) (defBody st) (defScope st) [] [] (He.ga K x) fd) (g : mg x = some (.ref (He.ga K x)))
    (b : ∀ (kV doc pm : Value) (an : Option Addr) (cdv ct : Value) (us : List Value), us.length = ps.length → bindArgs (PySem.W.fnOf x x (defArgs st) (defBody st) (defScope st) .none kV doc pm an cdv ct) ⟨us, []⟩ = pure (ps.zip us)) : Def K mg x st ps := by
  obtain ⟨fd, F⟩ := F
  have bd := F.bindsN b
  obtain ⟨oc, od, dV, kV, doc, pm, an, cdv, ct, osl, rfl, lk, hcd, hD, hK⟩ := F.ex
  rcases hD with ⟨_, rfl⟩ | ⟨e, _⟩
  · exact ⟨_, _, ⟨⟨oc, od, kV, doc, pm, an, cdv, ct, osl, rfl, lk, hcd⟩, F.kp⟩, bd, g⟩
  · exact absurd rfl e
theorem fun_of {x q : Str} {st : Stmt} {f : Addr} (F : ∃ fd, FunD K x q (defArgs st) (defBody st) (defScope st) [] [] f fd) {ps : List Str}
    (b : ∀ (kV doc pm : Value) (an : Option Addr) (cdv ct : Value) (us : List Value), us.length = ps.length → bindArgs (PySem.W.fnOf x q (defArgs st) (defBody st) (defScope st) .none kV doc pm an cdv ct) ⟨us, []⟩ = pure (ps.zip us)) :
    ∃ fd, Fun K x q st f fd ∧ Binds K fd ps [] ∧ ∀ (s : Shared) (us : List Value), us.length = ps.length → BindsTo s fd ⟨us, []⟩ (ps.zip us) := by
  obtain ⟨fd, F⟩ := F
  have bd := F.bindsN b
  have ba := F.bindsA b
  obtain ⟨oc, od, dV, kV, doc, pm, an, cdv, ct, osl, rfl, lk, hcd, hD, hK⟩ := F.ex
  rcases hD with ⟨_, rfl⟩ | ⟨e, _⟩
  · exact ⟨_, ⟨⟨oc, od, kV, doc, pm, an, cdv, ct, osl, rfl, lk, hcd⟩, F.kp⟩, bd, ba⟩
  · exact absurd rfl e
def RowP (P : Program) (w : World) (K : PySem.W.Frag) (mg : Str → Option Value) (base : Heap) (er : Nat → Addr) (C : Addr) (x : Str) (g : Op) : Prop :=
  ∃ (fd : FuncData) (ps : List Str), FnOk P w K mg base (L2.CX P w) 5 (He.ga K x) fd ps (spOp K er C g) ∧ PySem.W.keepIn K (.ref (He.ga K x)) = true ∧ Binds K fd ps []
theorem Has.row {k : Nat} {x : Str} {er : Nat → Addr} {C : Addr} {g : Op} (c : Has P w K mg base (L2.CX P w) k x (spOp K er C g)) (hk : k ≤ 5) (e : mg x = some (.ref (He.ga K x))) : RowP P w K mg base er C x g := by
  obtain ⟨f, fd, ps, F, e2, kp, b⟩ := c.ex
  rw [e] at e2
  obtain rfl : He.ga K x = f := by
    injection e2 with z
    injection z
  exact ⟨fd, ps, F.mono hk, kp, b⟩
theorem rows_tab {er : Nat → Addr} {C : Addr} (H : ∀ p r, opRow p = some r → RowP P w K mg base er C r.1 r.2) (i : Int) (f : Addr) (h : tabOf K i = some f) :
    ∃ (fd : FuncData) (ps : List Str), FnOk P w K mg base (L2.CX P w) 5 f fd ps (spOp K er C (opAt i.toNat)) ∧ PySem.W.keepIn K (.ref f) = true ∧ Binds K fd ps [] := by
  unfold tabOf at h
  cases q : opRow i.toNat with
  | none =>
    rw [q] at h
    cases h
  | some r =>
    rw [q] at h
    obtain rfl := Option.some.inj h
    have e : opAt i.toNat = r.2 := by
      funext m ns
      unfold opAt
      rw [q]
      rfl
    rw [e]
    exact H _ r q
theorem rows_there (p : Nat) (h : (opRow p).isSome = true) : ∃ f, tabOf K (p : Int) = some f := by
  unfold tabOf
  show ∃ f, (opRow p).map _ = some f
  cases q : opRow p with
  | none =>
    rw [q] at h
    cases h
  | some r => exact ⟨_, rfl⟩
theorem rows_all {er : Nat → Addr} {C : Addr}
    (r1 : RowP P w K mg base er C "set_test_weights" (shL f1))
    (r2 : RowP P w K mg base er C "set_production_weights" (shL f2))
    (r3 : RowP P w K mg base er C "set_prior" (sh2 f3))
    (r4 : RowP P w K mg base er C "get_weights" (sh0 f4))
    (r5 : RowP P w K mg base er C "signal_probability" (sh1 f5))
    (r6 : RowP P w K mg base er C "posterior" (sh1 f6))
    (r7 : RowP P w K mg base er C "certainty" (sh1 f7))
    (r8 : RowP P w K mg base er C "total_variation" (sh0 f8))
    (r9 : RowP P w K mg base er C "best_accuracy" (sh0 f9))
    (r10 : RowP P w K mg base er C "best_guesses" (sh0 f10))
    (r11 : RowP P w K mg base er C "blind_accuracy" (sh0 f11))
    (r12 : RowP P w K mg base er C "merge_signals" (shL f12))
    (r13 : RowP P w K mg base er C "preview_merge" (shL f13))
    (r14 : RowP P w K mg base er C "sequence_total_variation" (sh1 f14))
    (r15 : RowP P w K mg base er C "sequence_accuracy" (sh1 f15))
    (r16 : RowP P w K mg base er C "sequence_posterior" (shL f16))
    (r17 : RowP P w K mg base er C "set_shares" (sh1 f17))
    (r18 : RowP P w K mg base er C "best_detector" (sh2 f18))
    (r19 : RowP P w K mg base er C "widest_gap_set" (sh0 f19))
    (r20 : RowP P w K mg base er C "accuracy_for_prior" (sh2 f20))
    : ∀ p r, opRow p = some r → RowP P w K mg base er C r.1 r.2 := by
  intro p r h
  unfold opRow at h
  split at h
  · cases h
    exact r1
  · cases h
    exact r2
  · cases h
    exact r3
  · cases h
    exact r4
  · cases h
    exact r5
  · cases h
    exact r6
  · cases h
    exact r7
  · cases h
    exact r8
  · cases h
    exact r9
  · cases h
    exact r10
  · cases h
    exact r11
  · cases h
    exact r12
  · cases h
    exact r13
  · cases h
    exact r14
  · cases h
    exact r15
  · cases h
    exact r16
  · cases h
    exact r17
  · cases h
    exact r18
  · cases h
    exact r19
  · cases h
    exact r20
  · cases h
theorem int_of {x : Str} {i : Int} (h : ∃ t, mg x = some (.int i t)) : ∃ u, mg x = some u ∧ RelV (.int i) u := by
  obtain ⟨t, h⟩ := h
  exact ⟨_, h, ⟨t, rfl⟩⟩
theorem SaysK.d {K : PySem.W.Frag} (c : SaysK K) : He.SaysD faL fnL K := congrArg (fun z : AlK => z.1) c
theorem SaysK.more {K : PySem.W.Frag} (c : SaysK K) : (excs.all (exB K) && tabB K) = true := congrArg (fun z : AlK => z.2) c
theorem ends {fa : Addr} (X : K.In h) (G : h.Ns mainGlobals mg) (hfa : mg "answers" = some (.ref fa)) (cc : SaysK K) :
    ∃ fd : FuncData, (∀ (s : Shared) (us : List Value), us.length = (["calls"] : List Str).length → BindsTo s fd ⟨us, []⟩ ((["calls"] : List Str).zip us)) ∧ ∀ base : Heap, K.In base → base.Ns mainGlobals mg → FnOk P w K mg base CX0 8 fa fd ["calls"] (spAnswers K) := by
  have c := cc.d
  obtain ⟨ce, ct⟩ := He.ba cc.more
  have ex := fun (x : Str) (hx : x ∈ excs) => exB_ok (List.all_eq_true.mp ce x hx)
  have e := hfa.symm.trans (He.glo_ok X G (c.fact 70 rfl))
  cases e
  have xN := ex "NoModel" (by decide +kernel)
  have xU := ex "UnknownSignal" (by decide +kernel)
  have xO := ex "OutsideLimits" (by decide +kernel)
  have xP := ex "UndefinedPosterior" (by decide +kernel)
  have T : Txt K mg (He.ga K "Model") (He.ga K "Instance") (He.ga K "NoModel") (He.ga K "UnknownSignal") (He.ga K "OutsideLimits") (He.ga K "UndefinedPosterior") :=
    { cl := He.cls_ok (c.fact 92 rfl), ci := He.cls_ok (c.fact 94 rfl),
      nC := He.noat_ok (c.fact 96 rfl),
      nT := He.noat_ok (c.fact 97 rfl),
      nP := He.noat_ok (c.fact 98 rfl),
      nA := He.noat_ok (c.fact 99 rfl),
      nB := He.noat_ok (c.fact 100 rfl),
      nM := He.noat_ok (c.fact 101 rfl),
      gModel := He.glo_ok X G (c.fact 71 rfl), gInstance := He.glo_ok X G (c.fact 72 rfl),
      len := He.free_ok X G (c.fact 78 rfl),
      range := He.free_ok X G (c.fact 79 rfl),
      zip := He.free_ok X G (c.fact 80 rfl),
      enumerate := He.free_ok X G (c.fact 81 rfl),
      sum := He.free_ok X G (c.fact 82 rfl),
      max := He.free_ok X G (c.fact 83 rfl),
      abs := He.free_ok X G (c.fact 84 rfl),
      list := He.free_ok X G (c.fact 85 rfl),
      gCREATE := int_of (He.int_ok X G (c.fact 86 rfl)),
      gMOST_SIGNALS := int_of (He.int_ok X G (c.fact 87 rfl)),
      gGREATEST_WEIGHT := int_of (He.int_ok X G (c.fact 88 rfl)),
      gGREATEST_DEN := int_of (He.int_ok X G (c.fact 89 rfl)),
      gGREATEST_LENGTH := int_of (He.int_ok X G (c.fact 90 rfl)),
      gLONGEST_SEQUENCE := int_of (He.int_ok X G (c.fact 91 rfl)),
      gN := He.glo_ok X G (c.fact 74 rfl), xN := xN.1, kN := xN.2.1, bN := xN.2.2.1, tN := xN.2.2.2,
      gU := He.glo_ok X G (c.fact 75 rfl), xU := xU.1, kU := xU.2.1, bU := xU.2.2.1, tU := xU.2.2.2,
      gO := He.glo_ok X G (c.fact 76 rfl), xO := xO.1, kO := xO.2.1, bO := xO.2.2.1, tO := xO.2.2.2,
      gP := He.glo_ok X G (c.fact 77 rfl), xP := xP.1, kP := xP.2.1, bP := xP.2.2.1, tP := xP.2.2.2,
      eNN := He.exm_ok (c.fact 102 rfl),
      eUN := He.exm_ok (c.fact 103 rfl),
      eUU := He.exm_ok (c.fact 104 rfl),
      eON := He.exm_ok (c.fact 105 rfl),
      eOU := He.exm_ok (c.fact 106 rfl),
      eOO := He.exm_ok (c.fact 107 rfl),
      ePN := He.exm_ok (c.fact 108 rfl),
      ePU := He.exm_ok (c.fact 109 rfl),
      ePO := He.exm_ok (c.fact 110 rfl),
      ePP := He.exm_ok (c.fact 111 rfl) }
  have D_greatest_common_divisor : Def K mg "greatest_common_divisor" s_greatest_common_divisor ["first", "second"] := def_of (c.def_ 0 rfl) (He.glo_ok X G (c.fact 0 rfl)) (fun _ _ _ _ _ _ us hl => match us, hl with | [_, _], _ => rfl)
  have D_lowest_terms : Def K mg "lowest_terms" s_lowest_terms ["num", "den"] := def_of (c.def_ 1 rfl) (He.glo_ok X G (c.fact 1 rfl)) (fun _ _ _ _ _ _ us hl => match us, hl with | [_, _], _ => rfl)
  have D_power : Def K mg "power" s_power ["base", "exponent"] := def_of (c.def_ 2 rfl) (He.glo_ok X G (c.fact 2 rfl)) (fun _ _ _ _ _ _ us hl => match us, hl with | [_, _], _ => rfl)
  have D_test_share_parts : Def K mg "test_share_parts" s_test_share_parts ["model"] := def_of (c.def_ 3 rfl) (He.glo_ok X G (c.fact 3 rfl)) (fun _ _ _ _ _ _ us hl => match us, hl with | [_], _ => rfl)
  have D_production_share_parts : Def K mg "production_share_parts" s_production_share_parts ["model"] := def_of (c.def_ 4 rfl) (He.glo_ok X G (c.fact 4 rfl)) (fun _ _ _ _ _ _ us hl => match us, hl with | [_], _ => rfl)
  have D_share_whole : Def K mg "share_whole" s_share_whole ["model"] := def_of (c.def_ 5 rfl) (He.glo_ok X G (c.fact 5 rfl)) (fun _ _ _ _ _ _ us hl => match us, hl with | [_], _ => rfl)
  have D_joint_test_parts : Def K mg "joint_test_parts" s_joint_test_parts ["model"] := def_of (c.def_ 6 rfl) (He.glo_ok X G (c.fact 6 rfl)) (fun _ _ _ _ _ _ us hl => match us, hl with | [_], _ => rfl)
  have D_joint_production_parts : Def K mg "joint_production_parts" s_joint_production_parts ["model"] := def_of (c.def_ 7 rfl) (He.glo_ok X G (c.fact 7 rfl)) (fun _ _ _ _ _ _ us hl => match us, hl with | [_], _ => rfl)
  have D_joint_whole : Def K mg "joint_whole" s_joint_whole ["model"] := def_of (c.def_ 8 rfl) (He.glo_ok X G (c.fact 8 rfl)) (fun _ _ _ _ _ _ us hl => match us, hl with | [_], _ => rfl)
  have D_probability_part : Def K mg "probability_part" s_probability_part ["model", "signal"] := def_of (c.def_ 9 rfl) (He.glo_ok X G (c.fact 9 rfl)) (fun _ _ _ _ _ _ us hl => match us, hl with | [_, _], _ => rfl)
  have D_probability_fraction : Def K mg "probability_fraction" s_probability_fraction ["model", "signal"] := def_of (c.def_ 10 rfl) (He.glo_ok X G (c.fact 10 rfl)) (fun _ _ _ _ _ _ us hl => match us, hl with | [_, _], _ => rfl)
  have D_posterior_fraction : Def K mg "posterior_fraction" s_posterior_fraction ["model", "signal"] := def_of (c.def_ 11 rfl) (He.glo_ok X G (c.fact 11 rfl)) (fun _ _ _ _ _ _ us hl => match us, hl with | [_, _], _ => rfl)
  have D_half_difference : Def K mg "half_difference" s_half_difference ["test_parts", "production_parts", "whole"] := def_of (c.def_ 12 rfl) (He.glo_ok X G (c.fact 12 rfl)) (fun _ _ _ _ _ _ us hl => match us, hl with | [_, _, _], _ => rfl)
  have D_greater_sum : Def K mg "greater_sum" s_greater_sum ["test_parts", "production_parts", "whole"] := def_of (c.def_ 13 rfl) (He.glo_ok X G (c.fact 13 rfl)) (fun _ _ _ _ _ _ us hl => match us, hl with | [_, _, _], _ => rfl)
  have D_variation_fraction : Def K mg "variation_fraction" s_variation_fraction ["model"] := def_of (c.def_ 14 rfl) (He.glo_ok X G (c.fact 14 rfl)) (fun _ _ _ _ _ _ us hl => match us, hl with | [_], _ => rfl)
  have D_accuracy_fraction : Def K mg "accuracy_fraction" s_accuracy_fraction ["model"] := def_of (c.def_ 15 rfl) (He.glo_ok X G (c.fact 15 rfl)) (fun _ _ _ _ _ _ us hl => match us, hl with | [_], _ => rfl)
  have D_blind_fraction : Def K mg "blind_fraction" s_blind_fraction ["model"] := def_of (c.def_ 16 rfl) (He.glo_ok X G (c.fact 16 rfl)) (fun _ _ _ _ _ _ us hl => match us, hl with | [_], _ => rfl)
  have D_likelier_kinds : Def K mg "likelier_kinds" s_likelier_kinds ["model"] := def_of (c.def_ 17 rfl) (He.glo_ok X G (c.fact 17 rfl)) (fun _ _ _ _ _ _ us hl => match us, hl with | [_], _ => rfl)
  have D_copy_model : Def K mg "copy_model" s_copy_model ["model"] := def_of (c.def_ 18 rfl) (He.glo_ok X G (c.fact 18 rfl)) (fun _ _ _ _ _ _ us hl => match us, hl with | [_], _ => rfl)
  have D_merged_weights : Def K mg "merged_weights" s_merged_weights ["weights", "mapping"] := def_of (c.def_ 19 rfl) (He.glo_ok X G (c.fact 19 rfl)) (fun _ _ _ _ _ _ us hl => match us, hl with | [_, _], _ => rfl)
  have D_merge : Def K mg "merge" s_merge ["model", "mapping"] := def_of (c.def_ 20 rfl) (He.glo_ok X G (c.fact 20 rfl)) (fun _ _ _ _ _ _ us hl => match us, hl with | [_, _], _ => rfl)
  have D_sequence_products : Def K mg "sequence_products" s_sequence_products ["parts", "length"] := def_of (c.def_ 21 rfl) (He.glo_ok X G (c.fact 21 rfl)) (fun _ _ _ _ _ _ us hl => match us, hl with | [_, _], _ => rfl)
  have D_sequence_product : Def K mg "sequence_product" s_sequence_product ["parts", "signals"] := def_of (c.def_ 22 rfl) (He.glo_ok X G (c.fact 22 rfl)) (fun _ _ _ _ _ _ us hl => match us, hl with | [_, _], _ => rfl)
  have D_sequence_variation : Def K mg "sequence_variation" s_sequence_variation ["model", "length"] := def_of (c.def_ 23 rfl) (He.glo_ok X G (c.fact 23 rfl)) (fun _ _ _ _ _ _ us hl => match us, hl with | [_, _], _ => rfl)
  have D_sequence_best_accuracy : Def K mg "sequence_best_accuracy" s_sequence_best_accuracy ["model", "length"] := def_of (c.def_ 24 rfl) (He.glo_ok X G (c.fact 24 rfl)) (fun _ _ _ _ _ _ us hl => match us, hl with | [_, _], _ => rfl)
  have D_sequence_test_part : Def K mg "sequence_test_part" s_sequence_test_part ["model", "signals"] := def_of (c.def_ 25 rfl) (He.glo_ok X G (c.fact 25 rfl)) (fun _ _ _ _ _ _ us hl => match us, hl with | [_, _], _ => rfl)
  have D_sequence_production_part : Def K mg "sequence_production_part" s_sequence_production_part ["model", "signals"] := def_of (c.def_ 26 rfl) (He.glo_ok X G (c.fact 26 rfl)) (fun _ _ _ _ _ _ us hl => match us, hl with | [_, _], _ => rfl)
  have D_sequence_probability_part : Def K mg "sequence_probability_part" s_sequence_probability_part ["model", "signals"] := def_of (c.def_ 27 rfl) (He.glo_ok X G (c.fact 27 rfl)) (fun _ _ _ _ _ _ us hl => match us, hl with | [_, _], _ => rfl)
  have D_sequence_posterior_fraction : Def K mg "sequence_posterior_fraction" s_sequence_posterior_fraction ["model", "signals"] := def_of (c.def_ 28 rfl) (He.glo_ok X G (c.fact 28 rfl)) (fun _ _ _ _ _ _ us hl => match us, hl with | [_, _], _ => rfl)
  have D_set_count : Def K mg "set_count" s_set_count ["model"] := def_of (c.def_ 29 rfl) (He.glo_ok X G (c.fact 29 rfl)) (fun _ _ _ _ _ _ us hl => match us, hl with | [_], _ => rfl)
  have D_set_part : Def K mg "set_part" s_set_part ["parts", "mask"] := def_of (c.def_ 30 rfl) (He.glo_ok X G (c.fact 30 rfl)) (fun _ _ _ _ _ _ us hl => match us, hl with | [_, _], _ => rfl)
  have D_set_test_fraction : Def K mg "set_test_fraction" s_set_test_fraction ["model", "mask"] := def_of (c.def_ 31 rfl) (He.glo_ok X G (c.fact 31 rfl)) (fun _ _ _ _ _ _ us hl => match us, hl with | [_, _], _ => rfl)
  have D_set_production_fraction : Def K mg "set_production_fraction" s_set_production_fraction ["model", "mask"] := def_of (c.def_ 32 rfl) (He.glo_ok X G (c.fact 32 rfl)) (fun _ _ _ _ _ _ us hl => match us, hl with | [_, _], _ => rfl)
  have D_gap_parts : Def K mg "gap_parts" s_gap_parts ["model"] := def_of (c.def_ 33 rfl) (He.glo_ok X G (c.fact 33 rfl)) (fun _ _ _ _ _ _ us hl => match us, hl with | [_], _ => rfl)
  have D_set_gap_fraction : Def K mg "set_gap_fraction" s_set_gap_fraction ["model", "mask"] := def_of (c.def_ 34 rfl) (He.glo_ok X G (c.fact 34 rfl)) (fun _ _ _ _ _ _ us hl => match us, hl with | [_, _], _ => rfl)
  have D_widest_mask : Def K mg "widest_mask" s_widest_mask ["model"] := def_of (c.def_ 35 rfl) (He.glo_ok X G (c.fact 35 rfl)) (fun _ _ _ _ _ _ us hl => match us, hl with | [_], _ => rfl)
  have D_detector_mask : Def K mg "detector_mask" s_detector_mask ["model", "num", "den"] := def_of (c.def_ 36 rfl) (He.glo_ok X G (c.fact 36 rfl)) (fun _ _ _ _ _ _ us hl => match us, hl with | [_, _, _], _ => rfl)
  have D_check_weights : Def K mg "check_weights" s_check_weights ["model", "weights"] := def_of (c.def_ 37 rfl) (He.glo_ok X G (c.fact 37 rfl)) (fun _ _ _ _ _ _ us hl => match us, hl with | [_, _], _ => rfl)
  have D_check_fraction : Def K mg "check_fraction" s_check_fraction ["num", "den"] := def_of (c.def_ 38 rfl) (He.glo_ok X G (c.fact 38 rfl)) (fun _ _ _ _ _ _ us hl => match us, hl with | [_, _], _ => rfl)
  have D_check_signal : Def K mg "check_signal" s_check_signal ["model", "signal"] := def_of (c.def_ 39 rfl) (He.glo_ok X G (c.fact 39 rfl)) (fun _ _ _ _ _ _ us hl => match us, hl with | [_, _], _ => rfl)
  have D_check_posterior : Def K mg "check_posterior" s_check_posterior ["model", "signal"] := def_of (c.def_ 40 rfl) (He.glo_ok X G (c.fact 40 rfl)) (fun _ _ _ _ _ _ us hl => match us, hl with | [_, _], _ => rfl)
  have D_check_signals : Def K mg "check_signals" s_check_signals ["model", "signals"] := def_of (c.def_ 41 rfl) (He.glo_ok X G (c.fact 41 rfl)) (fun _ _ _ _ _ _ us hl => match us, hl with | [_, _], _ => rfl)
  have D_check_mapping : Def K mg "check_mapping" s_check_mapping ["model", "mapping"] := def_of (c.def_ 42 rfl) (He.glo_ok X G (c.fact 42 rfl)) (fun _ _ _ _ _ _ us hl => match us, hl with | [_, _], _ => rfl)
  have D_check_length : Def K mg "check_length" s_check_length ["length"] := def_of (c.def_ 43 rfl) (He.glo_ok X G (c.fact 43 rfl)) (fun _ _ _ _ _ _ us hl => match us, hl with | [_], _ => rfl)
  have D_check_sequence : Def K mg "check_sequence" s_check_sequence ["model", "signals"] := def_of (c.def_ 44 rfl) (He.glo_ok X G (c.fact 44 rfl)) (fun _ _ _ _ _ _ us hl => match us, hl with | [_, _], _ => rfl)
  have D_check_set : Def K mg "check_set" s_check_set ["model", "mask"] := def_of (c.def_ 45 rfl) (He.glo_ok X G (c.fact 45 rfl)) (fun _ _ _ _ _ _ us hl => match us, hl with | [_, _], _ => rfl)
  have D_set_test_weights : Def K mg "set_test_weights" s_set_test_weights ["model", "arguments"] := def_of (c.def_ 46 rfl) (He.glo_ok X G (c.fact 46 rfl)) (fun _ _ _ _ _ _ us hl => match us, hl with | [_, _], _ => rfl)
  have D_set_production_weights : Def K mg "set_production_weights" s_set_production_weights ["model", "arguments"] := def_of (c.def_ 47 rfl) (He.glo_ok X G (c.fact 47 rfl)) (fun _ _ _ _ _ _ us hl => match us, hl with | [_, _], _ => rfl)
  have D_set_prior : Def K mg "set_prior" s_set_prior ["model", "arguments"] := def_of (c.def_ 48 rfl) (He.glo_ok X G (c.fact 48 rfl)) (fun _ _ _ _ _ _ us hl => match us, hl with | [_, _], _ => rfl)
  have D_get_weights : Def K mg "get_weights" s_get_weights ["model", "arguments"] := def_of (c.def_ 49 rfl) (He.glo_ok X G (c.fact 49 rfl)) (fun _ _ _ _ _ _ us hl => match us, hl with | [_, _], _ => rfl)
  have D_signal_probability : Def K mg "signal_probability" s_signal_probability ["model", "arguments"] := def_of (c.def_ 50 rfl) (He.glo_ok X G (c.fact 50 rfl)) (fun _ _ _ _ _ _ us hl => match us, hl with | [_, _], _ => rfl)
  have D_posterior : Def K mg "posterior" s_posterior ["model", "arguments"] := def_of (c.def_ 51 rfl) (He.glo_ok X G (c.fact 51 rfl)) (fun _ _ _ _ _ _ us hl => match us, hl with | [_, _], _ => rfl)
  have D_certainty : Def K mg "certainty" s_certainty ["model", "arguments"] := def_of (c.def_ 52 rfl) (He.glo_ok X G (c.fact 52 rfl)) (fun _ _ _ _ _ _ us hl => match us, hl with | [_, _], _ => rfl)
  have D_total_variation : Def K mg "total_variation" s_total_variation ["model", "arguments"] := def_of (c.def_ 53 rfl) (He.glo_ok X G (c.fact 53 rfl)) (fun _ _ _ _ _ _ us hl => match us, hl with | [_, _], _ => rfl)
  have D_best_accuracy : Def K mg "best_accuracy" s_best_accuracy ["model", "arguments"] := def_of (c.def_ 54 rfl) (He.glo_ok X G (c.fact 54 rfl)) (fun _ _ _ _ _ _ us hl => match us, hl with | [_, _], _ => rfl)
  have D_blind_accuracy : Def K mg "blind_accuracy" s_blind_accuracy ["model", "arguments"] := def_of (c.def_ 55 rfl) (He.glo_ok X G (c.fact 55 rfl)) (fun _ _ _ _ _ _ us hl => match us, hl with | [_, _], _ => rfl)
  have D_best_guesses : Def K mg "best_guesses" s_best_guesses ["model", "arguments"] := def_of (c.def_ 56 rfl) (He.glo_ok X G (c.fact 56 rfl)) (fun _ _ _ _ _ _ us hl => match us, hl with | [_, _], _ => rfl)
  have D_merge_signals : Def K mg "merge_signals" s_merge_signals ["model", "arguments"] := def_of (c.def_ 57 rfl) (He.glo_ok X G (c.fact 57 rfl)) (fun _ _ _ _ _ _ us hl => match us, hl with | [_, _], _ => rfl)
  have D_preview_merge : Def K mg "preview_merge" s_preview_merge ["model", "arguments"] := def_of (c.def_ 58 rfl) (He.glo_ok X G (c.fact 58 rfl)) (fun _ _ _ _ _ _ us hl => match us, hl with | [_, _], _ => rfl)
  have D_sequence_total_variation : Def K mg "sequence_total_variation" s_sequence_total_variation ["model", "arguments"] := def_of (c.def_ 59 rfl) (He.glo_ok X G (c.fact 59 rfl)) (fun _ _ _ _ _ _ us hl => match us, hl with | [_, _], _ => rfl)
  have D_sequence_accuracy : Def K mg "sequence_accuracy" s_sequence_accuracy ["model", "arguments"] := def_of (c.def_ 60 rfl) (He.glo_ok X G (c.fact 60 rfl)) (fun _ _ _ _ _ _ us hl => match us, hl with | [_, _], _ => rfl)
  have D_sequence_posterior : Def K mg "sequence_posterior" s_sequence_posterior ["model", "arguments"] := def_of (c.def_ 61 rfl) (He.glo_ok X G (c.fact 61 rfl)) (fun _ _ _ _ _ _ us hl => match us, hl with | [_, _], _ => rfl)
  have D_set_shares : Def K mg "set_shares" s_set_shares ["model", "arguments"] := def_of (c.def_ 62 rfl) (He.glo_ok X G (c.fact 62 rfl)) (fun _ _ _ _ _ _ us hl => match us, hl with | [_, _], _ => rfl)
  have D_best_detector : Def K mg "best_detector" s_best_detector ["model", "arguments"] := def_of (c.def_ 63 rfl) (He.glo_ok X G (c.fact 63 rfl)) (fun _ _ _ _ _ _ us hl => match us, hl with | [_, _], _ => rfl)
  have D_widest_gap_set : Def K mg "widest_gap_set" s_widest_gap_set ["model", "arguments"] := def_of (c.def_ 64 rfl) (He.glo_ok X G (c.fact 64 rfl)) (fun _ _ _ _ _ _ us hl => match us, hl with | [_, _], _ => rfl)
  have D_accuracy_for_prior : Def K mg "accuracy_for_prior" s_accuracy_for_prior ["model", "arguments"] := def_of (c.def_ 65 rfl) (He.glo_ok X G (c.fact 65 rfl)) (fun _ _ _ _ _ _ us hl => match us, hl with | [_, _], _ => rfl)
  have D_create : Def K mg "create" s_create ["instance", "arguments"] := def_of (c.def_ 66 rfl) (He.glo_ok X G (c.fact 66 rfl)) (fun _ _ _ _ _ _ us hl => match us, hl with | [_, _], _ => rfl)
  have D_perform : Def K mg "perform" s_perform ["instance", "place", "arguments"] := def_of (c.def_ 67 rfl) (He.glo_ok X G (c.fact 67 rfl)) (fun _ _ _ _ _ _ us hl => match us, hl with | [_, _, _], _ => rfl)
  have D_answer_call : Def K mg "answer_call" s_answer_call ["instance", "place", "arguments"] := def_of (c.def_ 68 rfl) (He.glo_ok X G (c.fact 68 rfl)) (fun _ _ _ _ _ _ us hl => match us, hl with | [_, _, _], _ => rfl)
  have D_split_calls : Def K mg "split_calls" s_split_calls ["calls"] := def_of (c.def_ 69 rfl) (He.glo_ok X G (c.fact 69 rfl)) (fun _ _ _ _ _ _ us hl => match us, hl with | [_], _ => rfl)
  obtain ⟨fdM, FM, bM, _⟩ := fun_of (x := "__init__") (q := "Model.__init__") (st := s_Model___init__) (ps := ["self", "signal_count"]) (c.def_ 71 rfl) (fun _ _ _ _ _ _ us hl => match us, hl with | [_, _], _ => rfl)
  obtain ⟨fdI, FI, bI, _⟩ := fun_of (x := "__init__") (q := "Instance.__init__") (st := s_Instance___init__) (ps := ["self"]) (c.def_ 72 rfl) (fun _ _ _ _ _ _ us hl => match us, hl with | [_], _ => rfl)
  obtain ⟨fdA, FA, bA, ba⟩ := fun_of (x := "answers") (q := "answers") (st := s_answers) (ps := ["calls"]) (c.def_ 70 rfl) (fun _ _ _ _ _ _ us hl => match us, hl with | [_], _ => rfl)
  refine ⟨fdA, ba, fun base _ _ => ?_⟩
  have h_Model : Makes P w K mg base 1 "Model" (He.ga K "Model") (spInitM (He.ga K "Model")) := ⟨_, fdM, _, He.mkr_ok (c.fact 93 rfl), ok_initM T FM, bM, T.gModel⟩
  have h_Instance : Makes P w K mg base 1 "Instance" (He.ga K "Instance") (spInitI (He.ga K "Instance")) := ⟨_, fdI, _, He.mkr_ok (c.fact 95 rfl), ok_initI T FI, bI, T.gInstance⟩
  have h_greatest_common_divisor := ok_greatest_common_divisor (P := P) (w := w) (base := base)  D_greatest_common_divisor
  have h_lowest_terms := ok_lowest_terms (P := P) (w := w) (base := base) h_greatest_common_divisor D_lowest_terms
  have h_power := ok_power (P := P) (w := w) (base := base) T  D_power
  have h_test_share_parts := ok_test_share_parts (P := P) (w := w) (base := base) T  D_test_share_parts
  have h_production_share_parts := ok_production_share_parts (P := P) (w := w) (base := base) T  D_production_share_parts
  have h_share_whole := ok_share_whole (P := P) (w := w) (base := base) T  D_share_whole
  have h_joint_test_parts := ok_joint_test_parts (P := P) (w := w) (base := base) T h_test_share_parts D_joint_test_parts
  have h_joint_production_parts := ok_joint_production_parts (P := P) (w := w) (base := base) T h_production_share_parts D_joint_production_parts
  have h_joint_whole := ok_joint_whole (P := P) (w := w) (base := base) T h_share_whole D_joint_whole
  have h_probability_part := ok_probability_part (P := P) (w := w) (base := base) T h_joint_test_parts h_joint_production_parts D_probability_part
  have h_probability_fraction := ok_probability_fraction (P := P) (w := w) (base := base) T h_lowest_terms h_joint_whole h_probability_part D_probability_fraction
  have h_posterior_fraction := ok_posterior_fraction (P := P) (w := w) (base := base) T h_lowest_terms h_joint_test_parts h_probability_part D_posterior_fraction
  have h_half_difference := ok_half_difference (P := P) (w := w) (base := base) T h_lowest_terms D_half_difference
  have h_greater_sum := ok_greater_sum (P := P) (w := w) (base := base) T h_lowest_terms D_greater_sum
  have h_variation_fraction := ok_variation_fraction (P := P) (w := w) (base := base) T h_half_difference h_test_share_parts h_production_share_parts h_share_whole D_variation_fraction
  have h_accuracy_fraction := ok_accuracy_fraction (P := P) (w := w) (base := base) T h_greater_sum h_joint_test_parts h_joint_production_parts h_joint_whole D_accuracy_fraction
  have h_blind_fraction := ok_blind_fraction (P := P) (w := w) (base := base) T h_lowest_terms D_blind_fraction
  have h_likelier_kinds := ok_likelier_kinds (P := P) (w := w) (base := base) T h_joint_test_parts h_joint_production_parts D_likelier_kinds
  have h_copy_model := ok_copy_model (P := P) (w := w) (base := base) T h_Model D_copy_model
  have h_merged_weights := ok_merged_weights (P := P) (w := w) (base := base) T  D_merged_weights
  have h_merge := ok_merge (P := P) (w := w) (base := base) T h_merged_weights D_merge
  have h_sequence_products := ok_sequence_products (P := P) (w := w) (base := base) T  D_sequence_products
  have h_sequence_product := ok_sequence_product (P := P) (w := w) (base := base) T  D_sequence_product
  have h_sequence_variation := ok_sequence_variation (P := P) (w := w) (base := base) T h_half_difference h_test_share_parts h_production_share_parts h_share_whole h_power h_sequence_products D_sequence_variation
  have h_sequence_best_accuracy := ok_sequence_best_accuracy (P := P) (w := w) (base := base) T h_greater_sum h_test_share_parts h_production_share_parts h_share_whole h_power h_sequence_products D_sequence_best_accuracy
  have h_sequence_test_part := ok_sequence_test_part (P := P) (w := w) (base := base) T h_test_share_parts h_sequence_product D_sequence_test_part
  have h_sequence_production_part := ok_sequence_production_part (P := P) (w := w) (base := base) T h_production_share_parts h_sequence_product D_sequence_production_part
  have h_sequence_probability_part := ok_sequence_probability_part (P := P) (w := w) (base := base) T h_sequence_test_part h_sequence_production_part D_sequence_probability_part
  have h_sequence_posterior_fraction := ok_sequence_posterior_fraction (P := P) (w := w) (base := base) T h_lowest_terms h_sequence_test_part h_sequence_probability_part D_sequence_posterior_fraction
  have h_set_count := ok_set_count (P := P) (w := w) (base := base) T  D_set_count
  have h_set_part := ok_set_part (P := P) (w := w) (base := base) T  D_set_part
  have h_set_test_fraction := ok_set_test_fraction (P := P) (w := w) (base := base) T h_lowest_terms h_set_part h_test_share_parts h_share_whole D_set_test_fraction
  have h_set_production_fraction := ok_set_production_fraction (P := P) (w := w) (base := base) T h_lowest_terms h_set_part h_production_share_parts h_share_whole D_set_production_fraction
  have h_gap_parts := ok_gap_parts (P := P) (w := w) (base := base) T h_test_share_parts h_production_share_parts D_gap_parts
  have h_set_gap_fraction := ok_set_gap_fraction (P := P) (w := w) (base := base) T h_lowest_terms h_set_part h_gap_parts h_share_whole D_set_gap_fraction
  have h_widest_mask := ok_widest_mask (P := P) (w := w) (base := base) T h_set_part h_set_count h_gap_parts D_widest_mask
  have h_detector_mask := ok_detector_mask (P := P) (w := w) (base := base) T h_set_part h_set_count h_test_share_parts h_production_share_parts h_share_whole D_detector_mask
  have h_check_weights := ok_check_weights (P := P) (w := w) (base := base) T  D_check_weights
  have h_check_fraction := ok_check_fraction (P := P) (w := w) (base := base) T  D_check_fraction
  have h_check_signal := ok_check_signal (P := P) (w := w) (base := base) T  D_check_signal
  have h_check_posterior := ok_check_posterior (P := P) (w := w) (base := base) T h_check_signal h_probability_part D_check_posterior
  have h_check_signals := ok_check_signals (P := P) (w := w) (base := base) T  D_check_signals
  have h_check_mapping := ok_check_mapping (P := P) (w := w) (base := base) T h_check_signals D_check_mapping
  have h_check_length := ok_check_length (P := P) (w := w) (base := base) T  D_check_length
  have h_check_sequence := ok_check_sequence (P := P) (w := w) (base := base) T h_check_signals h_sequence_probability_part D_check_sequence
  have h_check_set := ok_check_set (P := P) (w := w) (base := base) T h_set_count D_check_set
  have h_set_test_weights := ok_set_test_weights (P := P) (w := w) (base := base) T h_check_weights D_set_test_weights
  have h_set_production_weights := ok_set_production_weights (P := P) (w := w) (base := base) T h_check_weights D_set_production_weights
  have h_set_prior := ok_set_prior (P := P) (w := w) (base := base) T h_check_fraction D_set_prior
  have h_get_weights := ok_get_weights (P := P) (w := w) (base := base) T  D_get_weights
  have h_signal_probability := ok_signal_probability (P := P) (w := w) (base := base) T h_check_signal h_probability_fraction D_signal_probability
  have h_posterior := ok_posterior (P := P) (w := w) (base := base) T h_check_posterior h_posterior_fraction D_posterior
  have h_certainty := ok_certainty (P := P) (w := w) (base := base) T h_check_posterior h_joint_test_parts h_joint_production_parts D_certainty
  have h_total_variation := ok_total_variation (P := P) (w := w) (base := base) T h_variation_fraction D_total_variation
  have h_best_accuracy := ok_best_accuracy (P := P) (w := w) (base := base) T h_accuracy_fraction D_best_accuracy
  have h_blind_accuracy := ok_blind_accuracy (P := P) (w := w) (base := base) T h_blind_fraction D_blind_accuracy
  have h_best_guesses := ok_best_guesses (P := P) (w := w) (base := base) T h_likelier_kinds D_best_guesses
  have h_merge_signals := ok_merge_signals (P := P) (w := w) (base := base) T h_check_mapping h_merge h_variation_fraction D_merge_signals
  have h_preview_merge := ok_preview_merge (P := P) (w := w) (base := base) T h_check_mapping h_copy_model h_merge h_variation_fraction h_accuracy_fraction D_preview_merge
  have h_sequence_total_variation := ok_sequence_total_variation (P := P) (w := w) (base := base) T h_check_length h_sequence_variation D_sequence_total_variation
  have h_sequence_accuracy := ok_sequence_accuracy (P := P) (w := w) (base := base) T h_check_length h_sequence_best_accuracy D_sequence_accuracy
  have h_sequence_posterior := ok_sequence_posterior (P := P) (w := w) (base := base) T h_check_sequence h_sequence_posterior_fraction D_sequence_posterior
  have h_set_shares := ok_set_shares (P := P) (w := w) (base := base) T h_check_set h_set_test_fraction h_set_production_fraction D_set_shares
  have h_best_detector := ok_best_detector (P := P) (w := w) (base := base) T h_check_fraction h_detector_mask h_set_test_fraction D_best_detector
  have h_widest_gap_set := ok_widest_gap_set (P := P) (w := w) (base := base) T h_widest_mask h_set_gap_fraction D_widest_gap_set
  have h_accuracy_for_prior := ok_accuracy_for_prior (P := P) (w := w) (base := base) T h_check_fraction h_copy_model h_accuracy_fraction D_accuracy_for_prior
  have h_create := ok_create (P := P) (w := w) (base := base) T h_Model D_create
  have H := rows_all (P := P) (w := w) (base := base) (er := errC (He.ga K "NoModel") (He.ga K "UnknownSignal") (He.ga K "OutsideLimits") (He.ga K "UndefinedPosterior")) (C := He.ga K "Model")
    (h_set_test_weights.row (by decide) (He.glo_ok X G (c.fact 46 rfl)))
    (h_set_production_weights.row (by decide) (He.glo_ok X G (c.fact 47 rfl)))
    (h_set_prior.row (by decide) (He.glo_ok X G (c.fact 48 rfl)))
    (h_get_weights.row (by decide) (He.glo_ok X G (c.fact 49 rfl)))
    (h_signal_probability.row (by decide) (He.glo_ok X G (c.fact 50 rfl)))
    (h_posterior.row (by decide) (He.glo_ok X G (c.fact 51 rfl)))
    (h_certainty.row (by decide) (He.glo_ok X G (c.fact 52 rfl)))
    (h_total_variation.row (by decide) (He.glo_ok X G (c.fact 53 rfl)))
    (h_best_accuracy.row (by decide) (He.glo_ok X G (c.fact 54 rfl)))
    (h_best_guesses.row (by decide) (He.glo_ok X G (c.fact 56 rfl)))
    (h_blind_accuracy.row (by decide) (He.glo_ok X G (c.fact 55 rfl)))
    (h_merge_signals.row (by decide) (He.glo_ok X G (c.fact 57 rfl)))
    (h_preview_merge.row (by decide) (He.glo_ok X G (c.fact 58 rfl)))
    (h_sequence_total_variation.row (by decide) (He.glo_ok X G (c.fact 59 rfl)))
    (h_sequence_accuracy.row (by decide) (He.glo_ok X G (c.fact 60 rfl)))
    (h_sequence_posterior.row (by decide) (He.glo_ok X G (c.fact 61 rfl)))
    (h_set_shares.row (by decide) (He.glo_ok X G (c.fact 62 rfl)))
    (h_best_detector.row (by decide) (He.glo_ok X G (c.fact 63 rfl)))
    (h_widest_gap_set.row (by decide) (He.glo_ok X G (c.fact 64 rfl)))
    (h_accuracy_for_prior.row (by decide) (He.glo_ok X G (c.fact 65 rfl)))
  have h_perform := ok_perform (P := P) (w := w) (base := base) T h_create (He.glo_ok X G (c.fact 73 rfl)) (tabB_ok ct) (rows_tab H) rows_there D_perform
  have h_answer_call := ok_answer_call (P := P) (w := w) (base := base) T h_perform D_answer_call
  have h_split_calls := ok_split_calls (P := P) (w := w) (base := base) T  D_split_calls
  exact ok_answers T h_Instance h_split_calls h_answer_call FA
end
end Kp
set_option Elab.async false
set_option linter.all false
set_option maxRecDepth 100000
set_option maxHeartbeats 0
namespace Kp
open PySem PySem.Spec PyProof.Rows L2
/-! ### the run of the top -/
def loose0 : List Str := ["NoModel", "UnknownSignal", "OutsideLimits", "UndefinedPosterior", "greatest_common_divisor", "lowest_terms", "power", "test_share_parts", "production_share_parts", "share_whole", "joint_test_parts", "joint_production_parts", "joint_whole", "probability_part", "probability_fraction", "posterior_fraction", "half_difference", "greater_sum", "variation_fraction", "accuracy_fraction", "blind_fraction", "likelier_kinds", "merged_weights", "merge", "sequence_products", "sequence_product", "sequence_variation", "sequence_best_accuracy", "sequence_test_part", "sequence_production_part"]
def loose1 : List Str := ["sequence_probability_part", "sequence_posterior_fraction", "set_count", "set_part", "set_test_fraction", "set_production_fraction", "gap_parts", "set_gap_fraction", "widest_mask", "detector_mask", "Model", "copy_model", "Instance", "CREATE", "MOST_SIGNALS", "GREATEST_WEIGHT", "GREATEST_DEN", "GREATEST_LENGTH", "LONGEST_SEQUENCE", "check_weights", "check_fraction", "check_signal", "check_posterior", "check_signals", "check_mapping", "check_length", "check_sequence", "check_set", "create", "set_test_weights"]
def loose2 : List Str := ["set_production_weights", "set_prior", "get_weights", "signal_probability", "posterior", "certainty", "total_variation", "best_accuracy", "best_guesses", "blind_accuracy", "merge_signals", "preview_merge", "sequence_total_variation", "sequence_accuracy", "sequence_posterior", "set_shares", "best_detector", "widest_gap_set", "accuracy_for_prior", "MODEL_CALLS", "perform", "split_calls", "answer_call"]
def looseL : List Str := loose0 ++ (loose1 ++ (loose2))
abbrev RunT (w : World) : Prop := HandSHeadRun.RunEqS PySem.Challenge.rw_sessionsigns_s01_answers (PySem.W.view PySem.Challenge.rw_sessionsigns_s01_answers.prog [92]) hk ob 6000 looseL w
theorem run_no (w : World) : RunT (w.withFollow "special-get-raises" false) := by
  intro os
  kernel_rfl
theorem run_yes (w : World) : RunT (w.withFollow "special-get-raises" true) := by
  intro os
  kernel_rfl
theorem run_top (w : World) : RunT w := PySem.W.byRow2 "special-get-raises" (P := RunT) run_no run_yes w
end Kp
set_option Elab.async false
set_option linter.all false
set_option maxRecDepth 100000
set_option maxHeartbeats 8000000
namespace Kp
open PySem PySem.Spec PyProof.Rows L2
open PySem.W (Codec OpenSpec WData)
/-- the walk, where the head finds the written part and the def in it -/
theorem walk_found {rw : OpenSpec} {lvl : Nat} {seen : Program} {others : List Str} {XP : (Str → Option Value) → Heap → Prop} {YP : World → Heap → Prop} {rec : DefRec} {par : List Str} {prom : PySem.W.Frag → Sp}
    (well : rw.wellSaid = true) (nodef : rec.params.defaults = []) (many : rw.args.length = par.length) (room : Room lvl callerA)
    (find : ∀ (wd : World) (mg : Str → Option Value) (at_ : Addr) (hp : Heap), YP wd hp → hp.Ns mainGlobals mg → mg rec.name = some (.ref at_) →
      ∃ (K : PySem.W.Frag) (fd : FuncData), K.In hp ∧ (∀ (st : Shared) (us : List Value), us.length = par.length → BindsTo st fd ⟨us, []⟩ (par.zip us)) ∧
        ∀ ground : Heap, K.In ground → ground.Ns mainGlobals mg → FnOk rw.prog wd K mg ground CX0 lvl at_ fd par (prom K))
    (keeps : ∀ (K : PySem.W.Frag) (H : Hp) (xs : List V) (ask : Codec.denoteAll rw.args), OnlyF H → Codec.withinAll rw.args ask = true → Codec.app rw.args rw.asked ask = true → DwAll K H xs (Codec.encAll rw.args ask) →
      prom K xs H (fun v H' => Dw K H' v (rw.ret.enc (Codec.app rw.args rw.f ask))) fun _ _ _ => False) :
    PySem.W.WalkOS seen others XP YP rw rec [] (fun f vs => PySem.call f vs) := by
  intro wd sa sb mg mb Gs Ys at_ oo pmv cdv dcv dV kV hob hdd hcc hDD hglob hgen req vals asx hpr hla hread hwell hlow
  obtain ⟨ask, q1, q2⟩ := PySem.W.os_pre_some hpr
  obtain ⟨q3, q4⟩ := Codec.encAll_of_decAll rw.args req ask q1
  subst q3
  obtain ⟨K, fd, KX, bnd, fok⟩ := find wd mg at_ _ Ys Gs.T.g hglob
  have called := spec_call (R := []) (cl := classAt sa.heap) (d0 := rw.ret.enc (Codec.app rw.args rw.f ask)) KX Gs.T.g Gs.T.b Gs.T.builtins Gs.T.nolimit hgen hwell (pl_encAll _ _) (layable_weight hla) room fok bnd
    (by rw [encAll_len]; exact many) (fun H xs hO hS => keeps K H xs ask hO q4 q2 hS) (fun _ _ _ bad => bad)
  refine PySem.W.enter_call (codeAny_mono called fun res sc hres => ?_)
  obtain ⟨u, asy, rfl, g1, g2, g3, g4⟩ := hres
  exact ⟨.inl ⟨u, _, asy, rfl, fun _ => rfl, g1, (OpenSpec.post_iff well q4 _ _).mpr rfl, fun z => Bool.noConfusion (show false = true from z)⟩, g2, g3, g4⟩
theorem last {K : PySem.W.Frag} {H : Hp} {xs : List V} {l : List Int} (q : PyKp415.answers_asked l = true) (h : DwAll K H xs [.list (l.map WData.int)]) : spAnswers K xs H (fun v H' => Dw K H' v (.list ((PyKp415.answers l).map WData.int))) fun _ _ _ => False := by
  obtain ⟨qs, hA⟩ := asked_of q
  cases h with
  | cons h1 h2 =>
    cases h2
    cases h1 with
    | lst hs ha =>
      have e := L2.ints_dw l _ ha
      subst e
      exact ⟨_, l, qs, rfl, hs, hA, fun H' p hp => .lst (L2.SqL.of hp) (L2.dw_ints _)⟩
end Kp
open PySem PySem.W PySem.Calls PyProof.Rows
set_option maxRecDepth 100000 in
set_option maxHeartbeats 8000000 in
theorem PySem.Challenge.cw_sessionsigns_s01_answers_holds : PySem.Challenge.rw_sessionsigns_s01_answers.Holds := by
  w_on
  refine HandSHeadRun.head_spec (r := PySem.Challenge.rw_sessionsigns_s01_answers) (q := view PySem.Challenge.rw_sessionsigns_s01_answers.prog [92]) (H := Kp.hk) (ob := Kp.ob) (M := 6000) (loose := Kp.looseL) (d := HandSHeadRun.topDef PySem.Challenge.rw_sessionsigns_s01_answers.prog 92) (kwd := [])
    Kp.ob_eq (by kernel_rfl) (fun s => by kernel_rfl) Kp.run_top (by kernel_rfl) (by kernel_rfl) (by kernel_rfl) os_shapes (by first | assumption | decide +kernel) (by decide +kernel) ⟨rfl, rfl, rfl, rfl, rfl, by decide +kernel⟩ ?hw ?hc
  case hw => exact ⟨[.list [.int 4, .int 0, .int 0]], by decide +kernel, by decide +kernel⟩
  case hc =>
    refine Kp.walk_found (lvl := 8) (par := ["calls"]) (prom := Kp.spAnswers) (by decide +kernel) (by kernel_rfl) rfl ⟨rfl, by decide, by decide⟩ ?F ?S
    case F =>
      intro w mg fa h Y G hmg0
      obtain ⟨K, KX, c⟩ := Y
      have hmg : mg ("answers" : PySem.Str) = some (.ref fa) := by
        have e : (HandSHeadRun.topDef PySem.Challenge.rw_sessionsigns_s01_answers.prog 92).name = ("answers" : PySem.Str) := by kernel_rfl
        rw [← e]
        exact hmg0
      obtain ⟨fd, hb, hF⟩ := Kp.ends (P := PySem.Challenge.rw_sessionsigns_s01_answers.prog) (w := w) KX G hmg c
      exact ⟨K, fd, KX, hb, hF⟩
    case S =>
      intro K H xs a hO hwi hask hx
      exact Kp.last hask hx
#print axioms PySem.Challenge.cw_sessionsigns_s01_answers_holds
