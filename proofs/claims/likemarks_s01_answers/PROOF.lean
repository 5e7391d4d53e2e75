import PyProof.Rows.All
import Wide.All
import OpenK.AllK
import Wide.FinOn
import PyProof.EqAt
import PyProof.EqKinds
import PyProof.TupleCall
import KE.BitLaws
import Open.SpecLaws
import KE.OsHead
import KE.OsGo
import KE.IntBitsLaws
import PyProof.SetScanFacts
import PyProof.SetKind
import PyProof.DictKinds
import PyProof.CollectWalk
import PyProof.FactsAll.set
import PyProof.Seq
import PyProof.DictValues
import PyProof.DictWalks
import PyProof.Rows.SetFrom
import PyProof.Rows.SortWalk
import PyProof.ListRange
import KE.KDictList
import KE.KLam
import KE.KSortTupG
import PyProof.Rows.CallKwBuiltin
import PySem.Challenge.RW_likemarks_s01_answers
set_option Elab.async false
set_option linter.all false
section
namespace MQ
open Kp193 (Q frac whole plus less times over nat positive)
def val (q : Q) : Rat := (q.top : Rat) / (q.bottom : Rat)
def ok (q : Q) : Prop := 0 < q.bottom ∧ Nat.Coprime q.top.natAbs q.bottom
theorem natpos {n : Nat} (h : 0 < n) : (0 : Rat) < (n : Rat) := by
  have := Rat.natCast_lt_natCast.mpr h
  simpa using this
theorem natne {n : Nat} (h : 0 < n) : (n : Rat) ≠ 0 := by
  have := natpos h
  grind
theorem val_mk {q : Q} (h : ok q) : val q = Rat.mk' q.top q.bottom (Nat.pos_iff_ne_zero.mp h.1) h.2 := by
  have := Rat.mkRat_self (Rat.mk' q.top q.bottom (Nat.pos_iff_ne_zero.mp h.1) h.2)
  rw [← this, Rat.mkRat_eq_div]; rfl
theorem ok_ext {a b : Q} (ha : ok a) (hb : ok b) (h : val a = val b) : a = b := by
  rw [val_mk ha, val_mk hb] at h
  injection h with h1 h2
  cases a; cases b; simp_all
theorem frac_val (p : Int) (q : Nat) (hq : 0 < q) : ok (frac p q) ∧ val (frac p q) = (p : Rat) / (q : Rat) := by
  have hg : 0 < Nat.gcd p.natAbs q := Nat.gcd_pos_of_pos_right _ hq
  have hgne : Nat.gcd p.natAbs q ≠ 0 := Nat.pos_iff_ne_zero.mp hg
  unfold frac
  simp only [hgne, if_false]
  generalize hge : Nat.gcd p.natAbs q = g at *
  have hd1 : (g : Int) ∣ p := by
    rw [Int.ofNat_dvd_left]; rw [← hge]; exact Nat.gcd_dvd_left _ _
  have hd2 : g ∣ q := by rw [← hge]; exact Nat.gcd_dvd_right _ _
  obtain ⟨p', rfl⟩ := hd1
  obtain ⟨q', rfl⟩ := hd2
  have e1 : (g : Int) * p' / (g : Int) = p' := Int.mul_ediv_cancel_left _ (by omega)
  have e2 : g * q' / g = q' := Nat.mul_div_cancel_left _ hg
  have hq' : 0 < q' := Nat.pos_of_mul_pos_left hq
  rw [e1, e2]
  refine ⟨⟨hq', ?_⟩, ?_⟩
  · have : Nat.gcd ((g : Int) * p').natAbs (g * q') = g * Nat.gcd p'.natAbs q' := by
      rw [Int.natAbs_mul, Int.natAbs_natCast, Nat.gcd_mul_left]
    rw [hge] at this
    show Nat.gcd p'.natAbs q' = 1
    have h2 : g * 1 = g * Nat.gcd p'.natAbs q' := by omega
    exact (Nat.eq_of_mul_eq_mul_left hg h2).symm
  · unfold val
    simp only
    have h1 := natne hg
    have h2 := natne hq'
    rw [Rat.intCast_mul, Rat.natCast_mul, Rat.intCast_natCast]
    grind
theorem whole_ok (n : Int) : ok (whole n) ∧ val (whole n) = (n : Rat) := by
  refine ⟨⟨Nat.one_pos, by simp [whole]⟩, ?_⟩
  simp [val, whole]
  grind
theorem nat_ok (n : Nat) : ok (nat n) ∧ val (nat n) = (n : Rat) := by
  have := whole_ok (n : Int)
  simpa [nat, Rat.intCast_natCast] using this
theorem plus_ok {a b : Q} (ha : ok a) (hb : ok b) : ok (plus a b) ∧ val (plus a b) = val a + val b := by
  have h := frac_val (a.top * (b.bottom : Int) + b.top * (a.bottom : Int)) (a.bottom * b.bottom) (Nat.mul_pos ha.1 hb.1)
  refine ⟨h.1, h.2.trans ?_⟩
  unfold val
  have h1 := natne ha.1
  have h2 := natne hb.1
  rw [Rat.intCast_add, Rat.intCast_mul, Rat.intCast_mul, Rat.natCast_mul, Rat.intCast_natCast, Rat.intCast_natCast]
  grind
theorem less_ok {a b : Q} (ha : ok a) (hb : ok b) : ok (less a b) ∧ val (less a b) = val a - val b := by
  have h := frac_val (a.top * (b.bottom : Int) - b.top * (a.bottom : Int)) (a.bottom * b.bottom) (Nat.mul_pos ha.1 hb.1)
  refine ⟨h.1, h.2.trans ?_⟩
  unfold val
  have h1 := natne ha.1
  have h2 := natne hb.1
  rw [Rat.intCast_sub, Rat.intCast_mul, Rat.intCast_mul, Rat.natCast_mul, Rat.intCast_natCast, Rat.intCast_natCast]
  grind
theorem times_ok {a b : Q} (ha : ok a) (hb : ok b) : ok (times a b) ∧ val (times a b) = val a * val b := by
  have h := frac_val (a.top * b.top) (a.bottom * b.bottom) (Nat.mul_pos ha.1 hb.1)
  refine ⟨h.1, h.2.trans ?_⟩
  unfold val
  have h1 := natne ha.1
  have h2 := natne hb.1
  rw [Rat.intCast_mul, Rat.natCast_mul]
  grind
theorem val_pos {a : Q} (ha : 0 < a.bottom) : 0 < val a ↔ 0 < a.top := by
  have h1 := natpos ha
  unfold val
  constructor
  · intro h
    have : (0 : Rat) < (a.top : Rat) := by
      have h3 : (a.top : Rat) = (a.top : Rat) / (a.bottom : Rat) * (a.bottom : Rat) := by grind
      rw [h3]; exact Rat.mul_pos h h1
    have h4 : ((0 : Int) : Rat) < (a.top : Rat) := by simpa using this
    exact Rat.intCast_lt_intCast.mp h4
  · intro h
    have h4 : ((0 : Int) : Rat) < (a.top : Rat) := Rat.intCast_lt_intCast.mpr h
    have h5 : (0 : Rat) < (a.top : Rat) := by simpa using h4
    rw [Rat.div_def]
    exact Rat.mul_pos h5 (Rat.inv_pos.mpr h1)
theorem positive_iff {a : Q} (ha : 0 < a.bottom) : positive a = true ↔ 0 < val a := by
  rw [val_pos ha]; simp [positive]
theorem over_ok {a b : Q} (ha : ok a) (hb : ok b) (hp : 0 < val b) : ok (over a b) ∧ val (over a b) = val a / val b := by
  have ht := (val_pos hb.1).mp hp
  have h := frac_val (a.top * (b.bottom : Int)) (a.bottom * b.top.natAbs) (Nat.mul_pos ha.1 (by omega))
  refine ⟨h.1, h.2.trans ?_⟩
  have hz : ((b.top.natAbs : Nat) : Rat) = (b.top : Rat) := by
    have : ((b.top.natAbs : Nat) : Int) = b.top := by omega
    rw [← Rat.intCast_natCast, this]
  unfold val
  have h1 := natne ha.1
  have h2 := natne hb.1
  have h4 : ((0 : Int) : Rat) < (b.top : Rat) := Rat.intCast_lt_intCast.mpr ht
  have h5 : (b.top : Rat) ≠ 0 := by
    have h6 : (0 : Rat) < (b.top : Rat) := by simpa using h4
    grind
  rw [Rat.intCast_mul, Rat.natCast_mul, Rat.intCast_natCast, hz]
  grind
theorem lt_iff {a b : Q} (ha : 0 < a.bottom) (hb : 0 < b.bottom) : a.top * (b.bottom : Int) < b.top * (a.bottom : Int) ↔ val a < val b := by
  have h1 := natpos ha
  have h2 := natpos hb
  rw [← Rat.intCast_lt_intCast, Rat.intCast_mul, Rat.intCast_mul, Rat.intCast_natCast, Rat.intCast_natCast]
  have e1 : (a.top : Rat) * (b.bottom : Rat) = val a * ((a.bottom : Rat) * (b.bottom : Rat)) := by unfold val; grind
  have e2 : (b.top : Rat) * (a.bottom : Rat) = val b * ((a.bottom : Rat) * (b.bottom : Rat)) := by unfold val; grind
  rw [e1, e2]
  have hp : (0 : Rat) < (a.bottom : Rat) * (b.bottom : Rat) := Rat.mul_pos h1 h2
  generalize (a.bottom : Rat) * (b.bottom : Rat) = c at *
  exact Rat.mul_lt_mul_right hp
theorem below_iff {a b : Q} (ha : ok a) (hb : ok b) : Kp202.below a b = true ↔ val a < val b := by
  rw [← lt_iff ha.1 hb.1]; simp [Kp202.below]
end MQ
end
section
namespace MQ
open Kp193 (Q frac whole plus less times over nat positive lessTimes dot last head solve)
def allOk (l : List Q) : Prop := ∀ q ∈ l, ok q
def vals (l : List Q) : List Rat := l.map val
def dotR : List Rat → List Rat → Rat
  | x :: a, y :: b => x * y + dotR a b
  | _, _ => 0
def zipSub (k : Rat) : List Rat → List Rat → List Rat
  | x :: a, y :: b => (x - k * y) :: zipSub k a b
  | a, _ => a
def lastR : List Rat → Rat
  | [] => 0
  | [x] => x
  | _ :: l => lastR l
theorem lastR_cons (x : Rat) {l : List Rat} (h : l ≠ []) : lastR (x :: l) = lastR l := by
  cases l with
  | nil => exact absurd rfl h
  | cons y l => rfl
theorem allOk_cons {x : Q} {l : List Q} : allOk (x :: l) ↔ ok x ∧ allOk l := by simp [allOk]
theorem vals_cons (x : Q) (l : List Q) : vals (x :: l) = val x :: vals l := rfl
theorem vals_length (l : List Q) : (vals l).length = l.length := by simp [vals]
theorem dotR_nil (a : List Rat) : dotR a [] = 0 := by cases a <;> rfl
theorem dot_ok : ∀ {a b : List Q}, allOk a → allOk b → ok (dot a b) ∧ val (dot a b) = dotR (vals a) (vals b)
  | [], b, _, _ => by
    have := whole_ok 0
    exact ⟨this.1, by simpa [dot, vals, dotR] using this.2⟩
  | x :: a, [], _, _ => by
    have := whole_ok 0
    exact ⟨this.1, by simpa [dot, vals, dotR] using this.2⟩
  | x :: a, y :: b, ha, hb => by
    rw [allOk_cons] at ha hb
    have h1 := times_ok ha.1 hb.1
    have h2 := dot_ok ha.2 hb.2
    have h3 := plus_ok h1.1 h2.1
    refine ⟨h3.1, ?_⟩
    show val (plus (times x y) (dot a b)) = _
    rw [h3.2, h1.2, h2.2]; rfl
theorem lessTimes_ok {k : Q} (hk : ok k) : ∀ {a b : List Q}, allOk a → allOk b → allOk (lessTimes k a b) ∧ vals (lessTimes k a b) = zipSub (val k) (vals a) (vals b)
  | [], b, ha, _ => by
    refine ⟨by simpa [lessTimes] using ha, rfl⟩
  | x :: a, [], ha, _ => by
    refine ⟨by simpa [lessTimes] using ha, rfl⟩
  | x :: a, y :: b, ha, hb => by
    rw [allOk_cons] at ha hb
    have h1 := times_ok hk hb.1
    have h2 := less_ok ha.1 h1.1
    have h3 := lessTimes_ok hk ha.2 hb.2
    refine ⟨?_, ?_⟩
    · show allOk (less x (times k y) :: lessTimes k a b)
      rw [allOk_cons]; exact ⟨h2.1, h3.1⟩
    · show val (less x (times k y)) :: vals (lessTimes k a b) = _
      rw [h2.2, h1.2, h3.2]; rfl
theorem last_ok : ∀ {a : List Q}, allOk a → ok (last a) ∧ val (last a) = lastR (vals a)
  | [], _ => by
    have := whole_ok 0
    exact ⟨this.1, by simpa [last, vals, lastR] using this.2⟩
  | [x], h => by
    exact ⟨h x (by simp), rfl⟩
  | x :: y :: l, h => by
    have h2 := last_ok (a := y :: l) (allOk_cons.mp h).2
    exact ⟨h2.1, h2.2⟩
theorem zipSub_length (k : Rat) : ∀ {a b : List Rat}, (zipSub k a b).length = a.length
  | [], b => by simp [zipSub]
  | x :: a, [] => by simp [zipSub]
  | x :: a, y :: b => by simp [zipSub, zipSub_length k (a := a) (b := b)]
theorem dotR_zipSub (k : Rat) : ∀ {a b x : List Rat}, a.length = b.length → dotR (zipSub k a b) x = dotR a x - k * dotR b x
  | [], [], x, _ => by simp [zipSub, dotR]; grind
  | a :: as, b :: bs, [], _ => by simp [dotR_nil]; grind
  | a :: as, b :: bs, x :: xs, h => by
    have ih := dotR_zipSub k (a := as) (b := bs) (x := xs) (by simpa using h)
    simp only [zipSub, dotR, ih]
    grind
  | [], b :: bs, x, h => by simp at h
  | a :: as, [], x, h => by simp at h
theorem lastR_zipSub (k : Rat) : ∀ {a b : List Rat}, a.length = b.length → lastR (zipSub k a b) = lastR a - k * lastR b
  | [], [], _ => by simp [zipSub, lastR]; grind
  | [a], [b], _ => by simp [zipSub, lastR]
  | a :: a2 :: as, b :: b2 :: bs, h => by
    have ih := lastR_zipSub k (a := a2 :: as) (b := b2 :: bs) (by simpa using h)
    exact ih
  | [], b :: bs, h => by simp at h
  | a :: as, [], h => by simp at h
  | [a], b :: b2 :: bs, h => by simp at h
  | a :: a2 :: as, [b], h => by simp at h
/-- n equations whose numbers are positive: x with them is above 0 -/
structure PD (n : Nat) (rows : List (List Rat)) : Prop where
  len : rows.length = n
  wide : ∀ r ∈ rows, r.length = n + 1
  pos : ∀ x : List Rat, x.length = n → (∃ v ∈ x, v ≠ 0) → 0 < dotR x (rows.map fun r => dotR r x)
theorem dotR_zeros : ∀ (n : Nat) (a : List Rat), dotR a (List.replicate n 0) = 0
  | 0, a => by simp [dotR_nil]
  | n + 1, [] => rfl
  | n + 1, x :: a => by
    rw [List.replicate_succ]
    simp only [dotR, dotR_zeros n a]; grind
theorem zeros_dotR : ∀ (n : Nat) (a : List Rat), dotR (List.replicate n 0) a = 0
  | 0, a => by simp [dotR]
  | n + 1, [] => by simp [dotR_nil]
  | n + 1, x :: a => by
    rw [List.replicate_succ]
    simp only [dotR, zeros_dotR n a]; grind
theorem PD.pivot {n : Nat} {p : Rat} {r : List Rat} {rest : List (List Rat)} (h : PD (n + 1) ((p :: r) :: rest)) : 0 < p := by
  have := h.pos (1 :: List.replicate n 0) (by simp) ⟨1, by simp, by grind⟩
  simp only [List.map_cons, dotR, dotR_zeros, zeros_dotR] at this
  grind
/-- one row cleared by another -/
def clr (p : Rat) (r : List Rat) (x : List Rat) : List Rat := zipSub (x.headD 0 / p) x.tail r
theorem PD.step {n : Nat} {p : Rat} {r : List Rat} {rest : List (List Rat)} (h : PD (n + 1) ((p :: r) :: rest)) : PD n (rest.map (clr p r)) := by
  have hp := h.pivot
  have hr : r.length = n + 1 := by
    have := h.wide (p :: r) (by simp)
    simpa using this
  have hw : ∀ x ∈ rest, x.tail.length = n + 1 ∧ x = x.headD 0 :: x.tail := by
    intro x hx
    have := h.wide x (by simp [hx])
    cases x with
    | nil => simp at this
    | cons a l => simpa using this
  refine ⟨?_, ?_, ?_⟩
  · have := h.len
    simpa using this
  · intro x hx
    obtain ⟨y, hy, rfl⟩ := List.mem_map.mp hx
    rw [clr, zipSub_length]
    exact (hw y hy).1
  · intro y hy hv
    have hx := h.pos ((-(dotR r y) / p) :: y) (by simp [hy]) (by
      obtain ⟨v, h1, h2⟩ := hv
      exact ⟨v, by simp [h1], h2⟩)
    simp only [List.map_cons, dotR] at hx
    have e1 : p * (-(dotR r y) / p) + dotR r y = 0 := by grind
    rw [e1] at hx
    have e2 : (rest.map fun r' => dotR r' ((-(dotR r y) / p) :: y)) = ((rest.map (clr p r)).map fun r' => dotR r' y) := by
      rw [List.map_map]
      apply List.map_congr_left
      intro x hx
      obtain ⟨h1, h2⟩ := hw x hx
      show _ = dotR (clr p r x) y
      rw [clr, dotR_zipSub _ (h1.trans hr.symm)]
      rw [h2]
      simp only [dotR, List.headD_cons, List.tail_cons]
      grind
    rw [e2] at hx
    grind
theorem solve_ok : ∀ (n : Nat) (rows : List (List Q)), (∀ r ∈ rows, allOk r) → PD n (rows.map vals) →
    ∃ xs, solve n rows = some xs ∧ xs.length = n ∧ allOk xs ∧ ∀ r ∈ rows, dotR (vals r) (vals xs) = lastR (vals r)
  | 0, rows, _, hpd => by
    have h := hpd.len
    have : rows = [] := by simpa using h
    subst this
    exact ⟨[], by simp [solve], rfl, by simp [allOk], by simp⟩
  | n + 1, [], _, hpd => by
    have h := hpd.len
    simp at h
  | n + 1, [] :: rest, _, hpd => by
    have h := hpd.wide [] (by simp [vals])
    simp at h
  | n + 1, (p :: r) :: rest, hok, hpd => by
    have hpd' : PD (n + 1) ((val p :: vals r) :: rest.map vals) := hpd
    have hp := hpd'.pivot
    have hokr : ok p ∧ allOk r := allOk_cons.mp (hok (p :: r) (by simp))
    have hpos : positive p = true := (positive_iff hokr.1.1).mpr hp
    have hr : (vals r).length = n + 1 := by
      have := hpd'.wide (val p :: vals r) (by simp)
      simpa using this
    have hx : ∀ x ∈ rest, ∃ q l, x = q :: l ∧ ok q ∧ allOk l ∧ (vals l).length = n + 1 := by
      intro x hx
      have h1 := hpd'.wide (vals x) (by simp; exact Or.inr ⟨x, hx, rfl⟩)
      have h2 := hok x (by simp [hx])
      cases x with
      | nil => simp [vals] at h1
      | cons q l => 
        rw [allOk_cons] at h2
        exact ⟨q, l, rfl, h2.1, h2.2, by simpa [vals] using h1⟩
    have hnew : ∀ x ∈ rest, allOk ((lessTimes (over (head x) p) x (p :: r)).drop 1) ∧ vals ((lessTimes (over (head x) p) x (p :: r)).drop 1) = clr (val p) (vals r) (vals x) := by
      intro x hx'
      obtain ⟨q, l, rfl, h1, h2, h3⟩ := hx x hx'
      have h4 := over_ok h1 hokr.1 hp
      have h5 := lessTimes_ok h4.1 (allOk_cons.mpr ⟨h1, h2⟩) (hok (p :: r) (by simp))
      have h6 := lessTimes_ok h4.1 h2 hokr.2
      refine ⟨?_, ?_⟩
      · exact h6.1
      · have : vals (lessTimes (over q p) l r) = zipSub (val q / val p) (vals l) (vals r) := by rw [← h4.2]; exact h6.2
        exact this
    have hstep := hpd'.step
    have ih := solve_ok n (rest.map fun x => (lessTimes (over (head x) p) x (p :: r)).drop 1) (by
      intro y hy
      obtain ⟨x, hx', rfl⟩ := List.mem_map.mp hy
      exact (hnew x hx').1) (by
      have e : (rest.map fun x => (lessTimes (over (head x) p) x (p :: r)).drop 1).map vals = (rest.map vals).map (clr (val p) (vals r)) := by
        rw [List.map_map, List.map_map]
        apply List.map_congr_left
        intro x hx'
        exact (hnew x hx').2
      rw [e]; exact hstep)
    obtain ⟨xs, hs, hlen, hoks, heq⟩ := ih
    have hd := dot_ok hokr.2 hoks
    have hl := last_ok (hok (p :: r) (by simp))
    have hle := less_ok hl.1 hd.1
    have hov := over_ok hle.1 hokr.1 hp
    refine ⟨over (less (last (p :: r)) (dot r xs)) p :: xs, ?_, by simp [hlen], allOk_cons.mpr ⟨hov.1, hoks⟩, ?_⟩
    · show (if positive p = false then none else _) = _
      rw [hpos]
      simp only [Bool.true_eq_false, if_false]
      show Option.map _ (solve n (rest.map fun x => (lessTimes (over (head x) p) x (p :: r)).drop 1)) = _
      rw [hs]
      rfl
    · intro y hy
      have hrne : vals r ≠ [] := by intro h; rw [h] at hr; simp at hr
      rw [vals_cons, hov.2, hle.2, hl.2, hd.2, vals_cons, lastR_cons _ hrne]
      rcases List.mem_cons.mp hy with rfl | hy
      · rw [vals_cons, lastR_cons _ hrne]
        simp only [dotR]
        grind
      · have h7 := heq _ (List.mem_map.mpr ⟨y, hy, rfl⟩)
        rw [(hnew y hy).2] at h7
        obtain ⟨q, l, rfl, h1, h2, h3⟩ := hx y hy
        have hlne : vals l ≠ [] := by intro h; rw [h] at h3; simp at h3
        rw [vals_cons, lastR_cons _ hlne]
        have h8 : dotR (zipSub (val q / val p) (vals l) (vals r)) (vals xs) = lastR (zipSub (val q / val p) (vals l) (vals r)) := h7
        rw [dotR_zipSub _ (h3.trans hr.symm), lastR_zipSub _ (h3.trans hr.symm)] at h8
        simp only [dotR]
        grind
end MQ
end
section
namespace MQ
open Kp202 (House has meet together groupOf JUDGES WORKS judgesOf worksOf)
def nextS (h : House) (s : List Nat) : List Nat := (List.range JUDGES).filter fun j => s.contains j || s.any fun i => meet h i j
theorem together_succ (h : House) (n : Nat) (s : List Nat) : together h (n + 1) s = together h n (nextS h s) := rfl
theorem mem_nextS {h : House} {s : List Nat} {j : Nat} : j ∈ nextS h s ↔ j < 6 ∧ (j ∈ s ∨ ∃ i ∈ s, meet h i j = true) := by
  simp [nextS, JUDGES]
def Cl (h : House) (s : List Nat) : Prop := ∀ i ∈ s, ∀ j, j < 6 → meet h i j = true → j ∈ s
theorem filter_len_le {p q : Nat → Bool} : ∀ {l : List Nat}, (∀ x ∈ l, p x = true → q x = true) → (l.filter p).length ≤ (l.filter q).length
  | [], _ => by simp
  | x :: l, h => by
    have ih := filter_len_le (l := l) (fun y hy => h y (by simp [hy]))
    have hx := h x (by simp)
    by_cases hp : p x = true
    · rw [List.filter_cons_of_pos hp, List.filter_cons_of_pos (hx hp)]
      simp; exact ih
    · rw [List.filter_cons_of_neg hp]
      by_cases hq : q x = true
      · rw [List.filter_cons_of_pos hq]; simp; omega
      · rw [List.filter_cons_of_neg hq]; exact ih
theorem filter_len_lt {p q : Nat → Bool} : ∀ {l : List Nat}, (∀ x ∈ l, p x = true → q x = true) → (∃ x ∈ l, q x = true ∧ p x = false) → (l.filter p).length < (l.filter q).length
  | [], _, h => by simp at h
  | x :: l, h, he => by
    have hl : ∀ y ∈ l, p y = true → q y = true := fun y hy => h y (by simp [hy])
    have hle := filter_len_le hl
    by_cases hp : p x = true
    · have hq := h x (by simp) hp
      rw [List.filter_cons_of_pos hp, List.filter_cons_of_pos hq]
      have : ∃ y ∈ l, q y = true ∧ p y = false := by
        obtain ⟨y, hy, h1, h2⟩ := he
        rcases List.mem_cons.mp hy with rfl | hy
        · rw [hp] at h2; simp at h2
        · exact ⟨y, hy, h1, h2⟩
      have ih := filter_len_lt hl this
      simp; exact ih
    · rw [List.filter_cons_of_neg hp]
      by_cases hq : q x = true
      · rw [List.filter_cons_of_pos hq]; simp; omega
      · rw [List.filter_cons_of_neg hq]
        have : ∃ y ∈ l, q y = true ∧ p y = false := by
          obtain ⟨y, hy, h1, h2⟩ := he
          rcases List.mem_cons.mp hy with rfl | hy
          · exact absurd h1 hq
          · exact ⟨y, hy, h1, h2⟩
        exact filter_len_lt hl this
theorem Cl.next {h : House} {s : List Nat} (hs : Cl h s) : Cl h (nextS h s) := by
  have hm : ∀ j, j ∈ nextS h s → j ∈ s := by
    intro j hj
    obtain ⟨h1, h2 | ⟨i, hi, h2⟩⟩ := mem_nextS.mp hj
    · exact h2
    · exact hs i hi j h1 h2
  intro i hi j hj hij
  exact mem_nextS.mpr ⟨hj, .inr ⟨i, hm i hi, hij⟩⟩
theorem Cl.together {h : House} : ∀ (n : Nat) {s : List Nat}, Cl h s → Cl h (together h n s)
  | 0, _, hs => hs
  | n + 1, _, hs => Cl.together n hs.next
theorem cl_together (h : House) : ∀ (n : Nat) (p : Nat → Bool), 6 ≤ n + ((List.range 6).filter p).length → Cl h (together h n ((List.range 6).filter p))
  | 0, p, hl => by
    intro i _ j hj _
    have : ((List.range 6).filter p).length = (List.range 6).length := by
      have := List.length_filter_le p (List.range 6)
      simp at this hl ⊢
      omega
    rw [List.length_filter_eq_length_iff] at this
    show j ∈ (List.range 6).filter p
    rw [List.mem_filter]
    exact ⟨by simpa using hj, this j (by simpa using hj)⟩
  | n + 1, p, hl => by
    rw [together_succ]
    by_cases hc : ∃ j ∈ List.range 6, (((List.range 6).filter p).contains j || ((List.range 6).filter p).any fun i => meet h i j) = true ∧ p j = false
    · refine cl_together h n _ ?_
      have := filter_len_lt (l := List.range 6) (p := p) (q := fun j => ((List.range 6).filter p).contains j || ((List.range 6).filter p).any fun i => meet h i j) (by
        intro x hx hp
        have : x ∈ (List.range 6).filter p := List.mem_filter.mpr ⟨hx, hp⟩
        simp only [Bool.or_eq_true]
        left
        simpa using this) hc
      omega
    · refine Cl.together n ?_
      have hcl : Cl h ((List.range 6).filter p) := by
        intro i hi j hj hij
        rw [List.mem_filter]
        refine ⟨by simpa using hj, ?_⟩
        cases hpj : p j with
        | true => rfl
        | false =>
          exfalso
          apply hc
          refine ⟨j, by simpa using hj, ?_, hpj⟩
          simp only [Bool.or_eq_true]
          right
          exact List.any_eq_true.mpr ⟨i, hi, hij⟩
      exact hcl.next
theorem together_form (h : House) : ∀ (n : Nat) (p : Nat → Bool), ∃ q, together h n ((List.range 6).filter p) = (List.range 6).filter q
  | 0, p => ⟨p, rfl⟩
  | n + 1, p => together_form h n _
theorem together_mono (h : House) : ∀ (n : Nat) {s : List Nat} {i : Nat}, i < 6 → i ∈ s → i ∈ together h n s
  | 0, _, _, _, hi => hi
  | n + 1, _, _, h6, hi => together_mono h n h6 (mem_nextS.mpr ⟨h6, .inl hi⟩)
theorem together_ind (h : House) (P : Nat → Prop) : ∀ (n : Nat) (s : List Nat), (∀ i ∈ s, i < 6) → (∀ i ∈ s, P i) →
    (∀ i j, i ∈ together h n s → j ∈ together h n s → meet h i j = true → P i → P j) → ∀ i ∈ together h n s, P i
  | 0, s, _, hp, _ => hp
  | n + 1, s, h6, hp, hst => by
    have h6' : ∀ i ∈ nextS h s, i < 6 := fun i hi => (mem_nextS.mp hi).1
    refine together_ind h P n (nextS h s) h6' ?_ hst
    intro j hj
    obtain ⟨h1, h2 | ⟨i, hi, h2⟩⟩ := mem_nextS.mp hj
    · exact hp j h2
    · refine hst i j ?_ (together_mono h n h1 hj) h2 (hp i hi)
      exact together_mono h n (h6 i hi) (mem_nextS.mpr ⟨h6 i hi, .inl hi⟩)
/-- what a group is -/
structure IsGroup (h : House) (j : Nat) (g : List Nat) : Prop where
  self : j ∈ g
  small : ∀ i ∈ g, i < 6
  cl : Cl h g
  ind : ∀ P : Nat → Prop, P j → (∀ i k, i ∈ g → k ∈ g → meet h i k = true → P i → P k) → ∀ i ∈ g, P i
theorem groupOf_is (h : House) {j : Nat} (hj : j < 6) : IsGroup h j (groupOf h j) := by
  have e : groupOf h j = together h 5 (nextS h [j]) := rfl
  have hself : j ∈ groupOf h j := together_mono h 6 hj (by simp)
  have hform : ∃ q, groupOf h j = (List.range 6).filter q := together_form h 5 _
  refine ⟨hself, ?_, ?_, ?_⟩
  · obtain ⟨q, hq⟩ := hform
    intro i hi
    rw [hq, List.mem_filter] at hi
    simpa using hi.1
  · rw [e]
    refine cl_together h 5 _ ?_
    have : 0 < (nextS h [j]).length := List.length_pos_of_mem (mem_nextS.mpr ⟨hj, .inl (by simp)⟩)
    show 6 ≤ 5 + (nextS h [j]).length
    omega
  · intro P hP hst
    exact together_ind h P 6 [j] (by simpa using hj) (by simpa using hP) hst
theorem groupOf_form (h : House) (j : Nat) : ∃ q, groupOf h j = (List.range 6).filter q := together_form h 5 _
theorem IsGroup.sub {h : House} {j : Nat} {g g' : List Nat} (a : IsGroup h j g) (b : IsGroup h j g') : ∀ i ∈ g, i ∈ g' :=
  a.ind (fun i => i ∈ g') b.self (fun i k _ hk hm hi => b.cl i hi k (a.small k hk) hm)
theorem meet_comm (h : House) (i j : Nat) : meet h i j = meet h j i := by
  unfold meet
  congr 1
  funext w
  exact Bool.and_comm _ _
/-- a group is a group of each of its own -/
theorem IsGroup.of_mem {h : House} {j i : Nat} {g : List Nat} (a : IsGroup h j g) (hi : i ∈ g) : IsGroup h i g := by
  refine ⟨hi, a.small, a.cl, ?_⟩
  intro P hP hst
  have hj : P j := by
    -- walk back from i to j
    have key : ∀ k ∈ g, P k → P j := by
      refine a.ind (fun k => P k → P j) id ?_
      intro x y hx hy hm ih hPy
      exact ih (hst y x hy hx (by rw [meet_comm]; exact hm) hPy)
    exact key i hi hP
  exact a.ind P hj hst
theorem filter_ext {p q : Nat → Bool} {l : List Nat} (h : ∀ i, i ∈ l.filter p ↔ i ∈ l.filter q) : l.filter p = l.filter q := by
  apply List.filter_congr
  intro x hx
  have := h x
  simp only [List.mem_filter, hx, true_and] at this
  cases h1 : p x <;> cases h2 : q x <;> simp_all
theorem groupOf_eq {h : House} {i j : Nat} (hj : j < 6) (hi : i ∈ groupOf h j) : groupOf h i = groupOf h j := by
  have hg := groupOf_is h hj
  have hi6 := hg.small i hi
  have hgi := groupOf_is h hi6
  have hgj := hg.of_mem hi
  obtain ⟨p, hp⟩ := groupOf_form h i
  obtain ⟨q, hq⟩ := groupOf_form h j
  have hiff : ∀ k, k ∈ groupOf h i ↔ k ∈ groupOf h j := fun k => ⟨hgi.sub hgj k, hgj.sub hgi k⟩
  rw [hp, hq] at hiff ⊢
  exact filter_ext hiff
theorem groupOf_nodup (h : House) (j : Nat) : (groupOf h j).Nodup := by
  obtain ⟨p, hp⟩ := groupOf_form h j
  rw [hp]
  exact List.Pairwise.filter _ List.nodup_range
end MQ
end
section
namespace MQ
def S : List Nat → (Nat → Rat) → Rat
  | [], _ => 0
  | x :: l, f => f x + S l f
theorem S_nil (f : Nat → Rat) : S [] f = 0 := rfl
theorem S_cons (x : Nat) (l : List Nat) (f : Nat → Rat) : S (x :: l) f = f x + S l f := rfl
theorem S_congr : ∀ {l : List Nat} {f g : Nat → Rat}, (∀ x ∈ l, f x = g x) → S l f = S l g
  | [], _, _, _ => rfl
  | x :: l, f, g, h => by
    simp only [S]
    rw [h x (by simp), S_congr (l := l) (fun y hy => h y (by simp [hy]))]
theorem S_add : ∀ (l : List Nat) (f g : Nat → Rat), S l (fun x => f x + g x) = S l f + S l g
  | [], _, _ => by simp only [S]; grind
  | x :: l, f, g => by simp only [S, S_add l f g]; grind
theorem S_sub : ∀ (l : List Nat) (f g : Nat → Rat), S l (fun x => f x - g x) = S l f - S l g
  | [], _, _ => by simp only [S]; grind
  | x :: l, f, g => by simp only [S, S_sub l f g]; grind
theorem S_mul : ∀ (l : List Nat) (c : Rat) (f : Nat → Rat), S l (fun x => c * f x) = c * S l f
  | [], _, _ => by simp only [S]; grind
  | x :: l, c, f => by simp only [S, S_mul l c f]; grind
theorem S_mul' (l : List Nat) (c : Rat) (f : Nat → Rat) : S l (fun x => f x * c) = S l f * c := by
  have : S l (fun x => f x * c) = S l (fun x => c * f x) := S_congr (fun x _ => by grind)
  rw [this, S_mul]; grind
theorem S_zero : ∀ (l : List Nat), S l (fun _ => 0) = 0
  | [] => rfl
  | x :: l => by simp only [S, S_zero l]; grind
theorem S_const : ∀ (l : List Nat) (c : Rat), S l (fun _ => c) = (l.length : Rat) * c
  | [], c => by simp [S]
  | x :: l, c => by
    simp only [S, S_const l c, List.length_cons, Rat.natCast_add]
    grind
theorem S_swap : ∀ (a b : List Nat) (f : Nat → Nat → Rat), S a (fun x => S b (fun y => f x y)) = S b (fun y => S a (fun x => f x y))
  | [], b, f => by simp only [S]; rw [S_zero]
  | x :: a, b, f => by
    simp only [S, S_swap a b f]
    rw [← S_add]
theorem S_filter : ∀ (l : List Nat) (p : Nat → Bool) (f : Nat → Rat), S (l.filter p) f = S l (fun x => if p x = true then f x else 0)
  | [], _, _ => rfl
  | x :: l, p, f => by
    by_cases h : p x = true
    · rw [List.filter_cons_of_pos h]; simp only [S, S_filter l p f, h, if_true]
    · rw [List.filter_cons_of_neg h]; simp only [S, S_filter l p f, h]; simp; grind
theorem S_nonneg : ∀ {l : List Nat} {f : Nat → Rat}, (∀ x ∈ l, 0 ≤ f x) → 0 ≤ S l f
  | [], _, _ => by simp [S]
  | x :: l, f, h => by
    have h1 := h x (by simp)
    have h2 := S_nonneg (l := l) (f := f) (fun y hy => h y (by simp [hy]))
    simp only [S]; grind
theorem S_zero_each : ∀ {l : List Nat} {f : Nat → Rat}, (∀ x ∈ l, 0 ≤ f x) → S l f ≤ 0 → ∀ x ∈ l, f x = 0
  | [], _, _, _ => by simp
  | x :: l, f, h, hs => by
    have h1 := h x (by simp)
    have h2 := S_nonneg (l := l) (f := f) (fun y hy => h y (by simp [hy]))
    simp only [S] at hs
    intro y hy
    rcases List.mem_cons.mp hy with rfl | hy
    · grind
    · exact S_zero_each (l := l) (fun z hz => h z (by simp [hz])) (by grind) y hy
/-- one of them -/
theorem S_single : ∀ {l : List Nat} {i : Nat} (f : Nat → Rat), l.Nodup → i ∈ l → S l (fun x => if x = i then f x else 0) = f i
  | [], _, _, _, h => by simp at h
  | x :: l, i, f, hn, h => by
    have hn' := List.nodup_cons.mp hn
    simp only [S]
    rcases List.mem_cons.mp h with rfl | h
    · have : S l (fun x => if x = i then f x else 0) = 0 := by
        refine (S_congr (g := fun _ => 0) ?_).trans (S_zero l)
        intro y hy
        have : y ≠ i := by rintro rfl; exact hn'.1 hy
        simp [this]
      rw [this]; simp; grind
    · have hne : x ≠ i := by rintro rfl; exact hn'.1 h
      rw [S_single f hn'.2 h]; simp [hne]; grind
theorem S_map (l : List Nat) (f : Nat → Rat) : ∀ (c : Nat → Rat), dotR (l.map c) (l.map f) = S l (fun x => c x * f x) := by
  intro c
  induction l with
  | nil => rfl
  | cons x l ih => simp only [List.map_cons, dotR, S, ih]
theorem dotR_append_last (l : List Nat) (f c : Nat → Rat) (b : Rat) : dotR (l.map c ++ [b]) (l.map f) = S l (fun x => c x * f x) := by
  induction l with
  | nil => rfl
  | cons x l ih => simp only [List.map_cons, List.cons_append, dotR, S, ih]
theorem lastR_append (a : List Rat) (b : Rat) : lastR (a ++ [b]) = b := by
  induction a with
  | nil => rfl
  | cons x a ih => rw [List.cons_append, lastR_cons _ (by simp)]; exact ih
theorem exists_fun : ∀ (l : List Nat) (x : List Rat), l.Nodup → x.length = l.length → ∃ X : Nat → Rat, x = l.map X
  | [], x, _, h => ⟨fun _ => 0, by simpa using h⟩
  | a :: l, [], _, h => by simp at h
  | a :: l, v :: x, hn, h => by
    have hn' := List.nodup_cons.mp hn
    obtain ⟨X, hX⟩ := exists_fun l x hn'.2 (by simpa using h)
    refine ⟨fun k => if k = a then v else X k, ?_⟩
    simp only [List.map_cons, if_true]
    congr 1
    rw [hX]
    apply List.map_congr_left
    intro y hy
    have : y ≠ a := by rintro rfl; exact hn'.1 hy
    simp [this]
theorem sq_nonneg (x : Rat) : 0 ≤ x * x := by
  rcases Rat.le_total (a := 0) (b := x) with h | h
  · exact Rat.mul_nonneg h h
  · have h2 : 0 ≤ -x := by grind
    have := Rat.mul_nonneg h2 h2
    grind
theorem sq_zero {x : Rat} (h : x * x ≤ 0) : x = 0 := by
  have h1 := sq_nonneg x
  have h2 : x * x = 0 := by grind
  rcases Rat.mul_eq_zero.mp h2 with h | h <;> exact h
theorem S_length (l : List Nat) (p : Nat → Bool) : (((l.filter p).length : Nat) : Rat) = S l (fun x => if p x = true then 1 else 0) := by
  have := S_const (l.filter p) 1
  rw [S_filter] at this
  rw [this]; grind
end MQ
end
section
namespace MQ
open Kp193 (Q frac whole plus less times over nat positive solve)
open Kp202 (House has meet together groupOf JUDGES WORKS judgesOf worksOf markOf marked mean by_ number right rows hands handOf)
theorem foldl_plus {α : Type} (f : α → Q) : ∀ (xs : List α) (acc : Q), ok acc → (∀ x ∈ xs, ok (f x)) → ok ((xs.map f).foldl plus acc)
  | [], acc, h, _ => h
  | x :: xs, acc, h, hx => by
    have h1 := plus_ok h (hx x (by simp))
    exact foldl_plus f xs _ h1.1 (fun y hy => hx y (by simp [hy]))
theorem foldl_plus_val (f : Nat → Q) : ∀ (xs : List Nat) (acc : Q), ok acc → (∀ x ∈ xs, ok (f x)) → val ((xs.map f).foldl plus acc) = val acc + S xs (fun x => val (f x))
  | [], acc, h, _ => by simp only [List.map_nil, List.foldl_nil, S]; grind
  | x :: xs, acc, h, hx => by
    have h1 := plus_ok h (hx x (by simp))
    have ih := foldl_plus_val f xs _ h1.1 (fun y hy => hx y (by simp [hy]))
    simp only [List.map_cons, List.foldl_cons, ih, h1.2, S]
    grind
theorem sum_ok (f : Nat → Q) (xs : List Nat) (h : ∀ x ∈ xs, ok (f x)) : ok (Kp202.sum (xs.map f)) ∧ val (Kp202.sum (xs.map f)) = S xs (fun x => val (f x)) := by
  refine ⟨foldl_plus f xs _ (whole_ok 0).1 h, ?_⟩
  have := foldl_plus_val f xs _ (whole_ok 0).1 h
  unfold Kp202.sum
  rw [this, (whole_ok 0).2]
  simp; grind
theorem marked_ok (h : House) (j w : Nat) : ok (marked h j w) := by
  unfold marked
  split
  · exact (nat_ok _).1
  · exact (whole_ok 0).1
theorem by_ok {a : Q} {n : Nat} (ha : ok a) (hn : 0 < n) : ok (by_ a n) ∧ val (by_ a n) = val a / (n : Rat) := by
  have h := over_ok ha (nat_ok n).1 (by rw [(nat_ok n).2]; exact natpos hn)
  rw [(nat_ok n).2] at h
  exact h
/-- 1 where there is a mark, else 0 -/
def aa (h : House) (i w : Nat) : Rat := if has h i w = true then 1 else 0
def nn (h : House) (w : Nat) : Rat := ((judgesOf h w).length : Rat)
def mk (h : House) (i w : Nat) : Rat := val (marked h i w)
/-- the mean of a work's marks -/
def mn (h : House) (w : Nat) : Rat := S (List.range 6) (fun j => aa h j w * mk h j w) / nn h w
theorem S_judges (h : House) (w : Nat) (f : Nat → Rat) : S (judgesOf h w) f = S (List.range 6) (fun j => aa h j w * f j) := by
  unfold judgesOf
  rw [S_filter]
  apply S_congr
  intro x _
  unfold aa
  split <;> grind
theorem S_works (h : House) (j : Nat) (f : Nat → Rat) : S (worksOf h j) f = S (List.range 16) (fun w => aa h j w * f w) := by
  unfold worksOf
  rw [S_filter]
  apply S_congr
  intro x _
  unfold aa
  split <;> grind
theorem nn_eq (h : House) (w : Nat) : nn h w = S (List.range 6) (fun j => aa h j w) := by
  unfold nn judgesOf
  rw [S_length]
  rfl
theorem judges_pos {h : House} {i w : Nat} (hi : i < 6) (hw : has h i w = true) : 0 < (judgesOf h w).length :=
  List.length_pos_of_mem (List.mem_filter.mpr ⟨by simpa [JUDGES] using hi, hw⟩)
theorem mem_works {h : House} {i w : Nat} : w ∈ worksOf h i ↔ w < 16 ∧ has h i w = true := by
  simp [worksOf, WORKS]
theorem mem_judges {h : House} {i w : Nat} : i ∈ judgesOf h w ↔ i < 6 ∧ has h i w = true := by
  simp [judgesOf, JUDGES]
theorem mean_ok {h : House} {w : Nat} (hn : 0 < (judgesOf h w).length) : ok (mean h w) ∧ val (mean h w) = mn h w := by
  have h1 := sum_ok (fun j => marked h j w) (judgesOf h w) (fun j _ => marked_ok h j w)
  have h2 := by_ok h1.1 hn
  refine ⟨h2.1, ?_⟩
  unfold mean
  rw [h2.2, h1.2, S_judges]
  rfl
def NN (h : House) (i j : Nat) : Rat := 1 + ((if i = j then S (List.range 16) (fun w => aa h i w) else 0) - S (List.range 16) (fun w => aa h i w * aa h j w / nn h w))
theorem number_ok {h : House} {i j : Nat} (hi : i < 6) : ok (number h i j) ∧ val (number h i j) = NN h i j := by
  have h1 := sum_ok (fun w => if has h j w then by_ (whole 1) (judgesOf h w).length else whole 0) (worksOf h i) (by
    intro w hw
    have hw' := mem_works.mp hw
    split
    · exact (by_ok (whole_ok 1).1 (judges_pos hi hw'.2)).1
    · exact (whole_ok 0).1)
  have h2 := nat_ok (if i = j then (worksOf h i).length else 0)
  have h3 := less_ok h2.1 h1.1
  have h4 := plus_ok (whole_ok 1).1 h3.1
  refine ⟨h4.1, ?_⟩
  unfold number
  rw [h4.2, h3.2, h2.2, h1.2, (whole_ok 1).2]
  unfold NN
  have e1 : (((if i = j then (worksOf h i).length else 0 : Nat)) : Rat) = (if i = j then S (List.range 16) (fun w => aa h i w) else 0) := by
    split
    · unfold worksOf
      rw [S_length]; rfl
    · rfl
  have e2 : S (worksOf h i) (fun x => val (if has h j x then by_ (whole 1) (judgesOf h x).length else whole 0)) = S (List.range 16) (fun w => aa h i w * aa h j w / nn h w) := by
    have : S (worksOf h i) (fun x => val (if has h j x then by_ (whole 1) (judgesOf h x).length else whole 0)) = S (worksOf h i) (fun w => aa h j w / nn h w) := by
      apply S_congr
      intro w hw
      have hw' := mem_works.mp hw
      unfold aa nn
      split
      · rw [(by_ok (whole_ok 1).1 (judges_pos hi hw'.2)).2, (whole_ok 1).2]; simp
      · rw [(whole_ok 0).2]; simp; grind
    rw [this, S_works]
    apply S_congr
    intro w _
    grind
  rw [e1, e2]
  simp
def RR (h : House) (i : Nat) : Rat := S (List.range 16) (fun w => aa h i w * (mk h i w - mn h w))
theorem right_ok {h : House} {i : Nat} (hi : i < 6) : ok (right h i) ∧ val (right h i) = RR h i := by
  have h0 : ∀ w ∈ worksOf h i, ok (less (marked h i w) (mean h w)) ∧ val (less (marked h i w) (mean h w)) = mk h i w - mn h w := by
    intro w hw
    have hw' := mem_works.mp hw
    have h1 := mean_ok (judges_pos hi hw'.2)
    have h2 := less_ok (marked_ok h i w) h1.1
    exact ⟨h2.1, by rw [h2.2, h1.2]; rfl⟩
  have h1 := sum_ok (fun w => less (marked h i w) (mean h w)) (worksOf h i) (fun w hw => (h0 w hw).1)
  refine ⟨h1.1, ?_⟩
  unfold right
  rw [h1.2, S_congr (fun w hw => (h0 w hw).2), S_works]
  rfl
theorem aa_cases (h : House) (i w : Nat) : (has h i w = true ∧ aa h i w = 1) ∨ (has h i w = false ∧ aa h i w = 0) := by
  unfold aa
  cases has h i w <;> simp
theorem aa_nonneg (h : House) (i w : Nat) : 0 ≤ aa h i w := by
  rcases aa_cases h i w with ⟨_, e⟩ | ⟨_, e⟩ <;> rw [e] <;> grind
/-- a work's marks all lie in the group, or none -/
theorem full {h : House} {j : Nat} {g : List Nat} (hg : IsGroup h j g) {w : Nat} (hw : w < 16) :
    (∀ i ∈ g, has h i w = false) ∨ (∀ i, i < 6 → has h i w = true → i ∈ g) := by
  by_cases hc : ∃ i ∈ g, has h i w = true
  · right
    obtain ⟨i, hi, hiw⟩ := hc
    intro k hk hkw
    refine hg.cl i hi k hk ?_
    unfold meet
    exact List.any_eq_true.mpr ⟨w, by simpa [WORKS] using hw, by simp [hiw, hkw]⟩
  · left
    intro i hi
    cases e : has h i w with
    | false => rfl
    | true => exact absurd ⟨i, hi, e⟩ hc
theorem S_group {q : Nat → Bool} (f : Nat → Rat) (hz : ∀ i, i < 6 → i ∉ (List.range 6).filter q → f i = 0) : S ((List.range 6).filter q) f = S (List.range 6) f := by
  rw [S_filter]
  apply S_congr
  intro x hx
  have hx6 : x < 6 := by simpa using hx
  by_cases h : q x = true
  · simp [h]
  · simp [h]
    exact (hz x hx6 (by simp [List.mem_filter, h])).symm
/-- over a group: a work's sum is whole, or nothing -/
theorem S_full {h : House} {j : Nat} {g : List Nat} (hg : IsGroup h j g) {q : Nat → Bool} (hq : g = (List.range 6).filter q) {w : Nat} (hw : w < 16) :
    (∀ f : Nat → Rat, S g (fun i => aa h i w * f i) = 0) ∨ (∀ f : Nat → Rat, S g (fun i => aa h i w * f i) = S (List.range 6) (fun i => aa h i w * f i)) := by
  rcases full hg hw with h1 | h1
  · left
    intro f
    refine (S_congr (g := fun _ => 0) ?_).trans (S_zero g)
    intro i hi
    rcases aa_cases h i w with ⟨e, _⟩ | ⟨_, e⟩
    · rw [h1 i hi] at e; simp at e
    · rw [e]; grind
  · right
    intro f
    rw [hq]
    apply S_group
    intro i hi hn
    rcases aa_cases h i w with ⟨e, _⟩ | ⟨_, e⟩
    · exact absurd (hq ▸ h1 i hi e) hn
    · rw [e]; grind
/-- the form's parts, work by work -/
theorem part_w {n k T X2 : Rat} (hT : n = 0 → T = 0) : X2 - T * T / n = (X2 - 2 * (T / n) * T + (T / n) * (T / n) * k) + (T / n) * (T / n) * (n - k) := by
  by_cases hn : n = 0
  · rw [hT hn]; subst hn; grind
  · grind
theorem S_sq (g : List Nat) (a X : Nat → Rat) (m : Rat) : S g (fun i => a i * ((X i - m) * (X i - m))) = S g (fun i => a i * (X i * X i)) - 2 * m * S g (fun i => a i * X i) + m * m * S g a := by
  induction g with
  | nil => simp only [S]; grind
  | cons x g ih => simp only [S, ih]; grind
theorem form_eq (h : House) (g : List Nat) (X : Nat → Rat) (hn : g.Nodup) :
    S g (fun i => X i * S g (fun j => NN h i j * X j)) = S g X * S g X + S (List.range 16) (fun w => S g (fun i => aa h i w * (X i * X i)) - S g (fun i => aa h i w * X i) * S g (fun i => aa h i w * X i) / nn h w) := by
  have e1 : ∀ i ∈ g, S g (fun j => NN h i j * X j) = S g X + S (List.range 16) (fun w => aa h i w) * X i - S (List.range 16) (fun w => aa h i w / nn h w * S g (fun j => aa h j w * X j)) := by
    intro i hi
    have : ∀ j ∈ g, NN h i j * X j = (X j + (if j = i then S (List.range 16) (fun w => aa h i w) * X j else 0)) - S (List.range 16) (fun w => aa h i w * aa h j w / nn h w * X j) := by
      intro j _
      unfold NN
      rw [S_mul']
      by_cases e : i = j
      · subst e; simp; grind
      · have e' : ¬ j = i := fun z => e z.symm
        simp [e, e']; grind
    rw [S_congr this, S_sub, S_add, S_single (fun j => S (List.range 16) (fun w => aa h i w) * X j) hn hi, S_swap]
    congr 1
    apply S_congr
    intro w _
    have : ∀ j ∈ g, aa h i w * aa h j w / nn h w * X j = (aa h i w / nn h w) * (aa h j w * X j) := by
      intro j _
      grind
    rw [S_congr this, S_mul]
  have e2 : ∀ i ∈ g, X i * S g (fun j => NN h i j * X j) = (S g X * X i + S (List.range 16) (fun w => aa h i w * (X i * X i))) - S (List.range 16) (fun w => (aa h i w * X i) * (S g (fun j => aa h j w * X j) / nn h w)) := by
    intro i hi
    rw [e1 i hi]
    have a1 : S (List.range 16) (fun w => aa h i w * (X i * X i)) = S (List.range 16) (fun w => aa h i w) * (X i * X i) := S_mul' _ _ _
    have a2 : S (List.range 16) (fun w => (aa h i w * X i) * (S g (fun j => aa h j w * X j) / nn h w)) = X i * S (List.range 16) (fun w => aa h i w / nn h w * S g (fun j => aa h j w * X j)) := by
      rw [← S_mul]
      apply S_congr
      intro w _
      grind
    rw [a1, a2]
    grind
  rw [S_congr e2, S_sub, S_add, S_mul, S_swap g, S_swap g, S_sub]
  have e3 : S (List.range 16) (fun w => S g (fun i => (aa h i w * X i) * (S g (fun j => aa h j w * X j) / nn h w))) = S (List.range 16) (fun w => S g (fun i => aa h i w * X i) * S g (fun i => aa h i w * X i) / nn h w) := by
    apply S_congr
    intro w _
    rw [S_mul']
    grind
  rw [e3]
  grind
theorem S_le {l : List Nat} {f g : Nat → Rat} (h : ∀ x ∈ l, f x ≤ g x) : S l f ≤ S l g := by
  have := S_nonneg (l := l) (f := fun x => g x - f x) (fun x hx => by have := h x hx; grind)
  rw [S_sub] at this
  grind
theorem S_group_le {h : House} {q : Nat → Bool} (w : Nat) : S ((List.range 6).filter q) (fun i => aa h i w) ≤ nn h w := by
  rw [nn_eq, S_filter]
  apply S_le
  intro x _
  have := aa_nonneg h x w
  split <;> grind
theorem form_zero {h : House} {j : Nat} {g : List Nat} (hg : IsGroup h j g) {q : Nat → Bool} (hq : g = (List.range 6).filter q) (X : Nat → Rat)
    (hF : S g (fun i => X i * S g (fun j => NN h i j * X j)) ≤ 0) : ∀ i ∈ g, X i = 0 := by
  have hnd : g.Nodup := by rw [hq]; exact List.Pairwise.filter _ List.nodup_range
  rw [form_eq h g X hnd] at hF
  -- each work's part
  have hpart : ∀ w ∈ List.range 16, S g (fun i => aa h i w * (X i * X i)) - S g (fun i => aa h i w * X i) * S g (fun i => aa h i w * X i) / nn h w
      = S g (fun i => aa h i w * ((X i - S g (fun i => aa h i w * X i) / nn h w) * (X i - S g (fun i => aa h i w * X i) / nn h w))) + (S g (fun i => aa h i w * X i) / nn h w) * (S g (fun i => aa h i w * X i) / nn h w) * (nn h w - S g (fun i => aa h i w)) := by
    intro w _
    rw [S_sq]
    apply part_w
    intro h0
    have hz : ∀ i, i ∈ List.range 6 → aa h i w = 0 := S_zero_each (fun i _ => aa_nonneg h i w) (by rw [← nn_eq, h0]; grind)
    refine (S_congr (g := fun _ => 0) ?_).trans (S_zero g)
    intro i hi
    rw [hz i (by simpa using hg.small i hi)]; grind
  have hp1 : ∀ w, 0 ≤ S g (fun i => aa h i w * ((X i - S g (fun i => aa h i w * X i) / nn h w) * (X i - S g (fun i => aa h i w * X i) / nn h w))) := by
    intro w
    apply S_nonneg
    intro i _
    exact Rat.mul_nonneg (aa_nonneg h i w) (sq_nonneg _)
  have hp2 : ∀ w, 0 ≤ (S g (fun i => aa h i w * X i) / nn h w) * (S g (fun i => aa h i w * X i) / nn h w) * (nn h w - S g (fun i => aa h i w)) := by
    intro w
    refine Rat.mul_nonneg (sq_nonneg _) ?_
    have : S g (fun i => aa h i w) ≤ nn h w := by rw [hq]; exact S_group_le w
    grind
  have hpos : ∀ w ∈ List.range 16, 0 ≤ S g (fun i => aa h i w * (X i * X i)) - S g (fun i => aa h i w * X i) * S g (fun i => aa h i w * X i) / nn h w := by
    intro w hw
    rw [hpart w hw]
    have := hp1 w
    have := hp2 w
    grind
  have hs := S_nonneg hpos
  have hsq := sq_nonneg (S g X)
  have hS : S g X = 0 := sq_zero (by grind)
  have hall := S_zero_each hpos (by grind)
  -- each judge's value is the work's
  have hval : ∀ w, w < 16 → ∀ i ∈ g, has h i w = true → X i = S g (fun i => aa h i w * X i) / nn h w := by
    intro w hw i hi hiw
    have h1 := hall w (by simpa using hw)
    rw [hpart w (by simpa using hw)] at h1
    have h2 := hp1 w
    have h3 := hp2 w
    have h4 := S_zero_each (l := g) (f := fun i => aa h i w * ((X i - S g (fun i => aa h i w * X i) / nn h w) * (X i - S g (fun i => aa h i w * X i) / nn h w)))
      (fun i _ => Rat.mul_nonneg (aa_nonneg h i w) (sq_nonneg _)) (by grind) i hi
    have h5 : aa h i w = 1 := by unfold aa; simp [hiw]
    simp only [h5] at h4
    have h6 := sq_zero (x := X i - S g (fun i => aa h i w * X i) / nn h w) (by grind)
    grind
  have hmeet : ∀ i k, i ∈ g → k ∈ g → meet h i k = true → X i = X j → X k = X j := by
    intro i k hi hk hm he
    unfold meet at hm
    obtain ⟨w, hw, hb⟩ := List.any_eq_true.mp hm
    have hw' : w < 16 := by simpa [WORKS] using hw
    rw [Bool.and_eq_true] at hb
    rw [hval w hw' k hk hb.2, ← hval w hw' i hi hb.1, he]
  have hconst := hg.ind (fun i => X i = X j) rfl hmeet
  have h7 : S g X = (g.length : Rat) * X j := by
    rw [← S_const]
    exact S_congr hconst
  rw [hS] at h7
  have h8 : (g.length : Rat) ≠ 0 := natne (List.length_pos_of_mem hg.self)
  have h9 : X j = 0 := by
    rcases Rat.mul_eq_zero.mp h7.symm with h | h
    · exact absurd h h8
    · exact h
  intro i hi
  rw [hconst i hi, h9]
theorem rows_vals (h : House) (g : List Nat) (hs : ∀ i ∈ g, i < 6) : (rows h g).map vals = g.map fun i => (g.map (NN h i)) ++ [RR h i] := by
  unfold rows
  rw [List.map_map]
  apply List.map_congr_left
  intro i hi
  have h6 := hs i hi
  simp only [Function.comp, vals, List.map_append, List.map_map, List.map_cons, List.map_nil, (right_ok h6).2]
  congr 1
  apply List.map_congr_left
  intro k _
  exact (number_ok h6).2
theorem rows_ok (h : House) (g : List Nat) (hs : ∀ i ∈ g, i < 6) : ∀ r ∈ rows h g, allOk r := by
  intro r hr
  unfold rows at hr
  obtain ⟨i, hi, rfl⟩ := List.mem_map.mp hr
  intro x hx
  have h6 := hs i hi
  rcases List.mem_append.mp hx with hx | hx
  · obtain ⟨k, _, rfl⟩ := List.mem_map.mp hx
    exact (number_ok h6).1
  · rw [List.mem_singleton] at hx
    subst hx
    exact (right_ok h6).1
theorem rows_pd {h : House} {j : Nat} {g : List Nat} (hg : IsGroup h j g) {q : Nat → Bool} (hq : g = (List.range 6).filter q) : PD g.length ((rows h g).map vals) := by
  have hnd : g.Nodup := by rw [hq]; exact List.Pairwise.filter _ List.nodup_range
  rw [rows_vals h g hg.small]
  refine ⟨by simp, ?_, ?_⟩
  · intro r hr
    obtain ⟨i, _, rfl⟩ := List.mem_map.mp hr
    simp
  · intro x hx hv
    obtain ⟨X, rfl⟩ := exists_fun g x hnd hx
    rw [List.map_map]
    have e : (g.map ((fun r => dotR r (g.map X)) ∘ fun i => g.map (NN h i) ++ [RR h i])) = g.map (fun i => S g (fun k => NN h i k * X k)) := by
      apply List.map_congr_left
      intro i _
      exact dotR_append_last g X (NN h i) (RR h i)
    rw [e, S_map]
    have hc : ¬ S g (fun i => X i * S g (fun j => NN h i j * X j)) ≤ 0 := by
      intro hF
      have hz := form_zero hg hq X hF
      obtain ⟨v, hv1, hv2⟩ := hv
      obtain ⟨i, hi, rfl⟩ := List.mem_map.mp hv1
      exact hv2 (hz i hi)
    grind
theorem find_zip : ∀ {g : List Nat} {xs : List Q} {i : Nat} {X : Nat → Rat}, xs.length = g.length → vals xs = g.map X → i ∈ g → ∃ y, (g.zip xs).find? (fun x => x.1 == i) = some y ∧ y.2 ∈ xs ∧ val y.2 = X i
  | [], _, _, _, _, _, h => by simp at h
  | a :: g, [], _, _, h, _, _ => by simp at h
  | a :: g, x :: xs, i, X, hl, hv, hi => by
    simp only [vals_cons, List.map_cons, List.cons.injEq] at hv
    by_cases e : a = i
    · subst e
      exact ⟨(a, x), by simp, by simp, hv.1⟩
    · have hi' : i ∈ g := by
        rcases List.mem_cons.mp hi with rfl | h
        · exact absurd rfl e
        · exact h
      obtain ⟨y, h1, h2, h3⟩ := find_zip (g := g) (xs := xs) (i := i) (X := X) (by simpa using hl) hv.2 hi'
      exact ⟨y, by simp [e, h1], by simp [h2], h3⟩
/-- the hands of a group -/
theorem hands_group (h : House) {j : Nat} (hj : j < 6) : ∃ X : Nat → Rat, (∀ i ∈ groupOf h j, ok (handOf h i) ∧ val (handOf h i) = X i) ∧
    (∀ i ∈ groupOf h j, S (groupOf h j) (fun k => NN h i k * X k) = RR h i) := by
  have hg := groupOf_is h hj
  obtain ⟨q, hq⟩ := groupOf_form h j
  have hnd := groupOf_nodup h j
  obtain ⟨xs, hs, hlen, hok, heq⟩ := solve_ok _ _ (rows_ok h (groupOf h j) hg.small) (rows_pd hg hq)
  obtain ⟨X, hX⟩ := exists_fun (groupOf h j) (vals xs) hnd (by rw [vals_length]; exact hlen)
  refine ⟨X, ?_, ?_⟩
  · intro i hi
    have hge := groupOf_eq hj hi
    obtain ⟨y, h1, h2, h3⟩ := find_zip hlen hX hi
    have : handOf h i = y.2 := by
      unfold handOf hands
      rw [hge, hs]
      simp only [h1]
    rw [this]
    exact ⟨hok _ h2, h3⟩
  · intro i hi
    have hm : (g : List Nat) → g = groupOf h j → (g.map (fun k => number h i k)) ++ [right h i] ∈ rows h (groupOf h j) := by
      intro g hgg
      subst hgg
      exact List.mem_map.mpr ⟨i, hi, rfl⟩
    have h1 := heq _ (hm _ rfl)
    have h6 := hg.small i hi
    have e : vals ((groupOf h j).map (fun k => number h i k) ++ [right h i]) = (groupOf h j).map (NN h i) ++ [RR h i] := by
      simp only [vals, List.map_append, List.map_map, List.map_cons, List.map_nil, (right_ok h6).2]
      congr 1
      apply List.map_congr_left
      intro k _
      exact (number_ok h6).2
    rw [e, hX, dotR_append_last, lastR_append] at h1
    exact h1
end MQ
end
section
namespace MQ
open Kp193 (Q frac whole plus less times over nat positive solve)
open Kp202 (House has meet together groupOf JUDGES WORKS judgesOf worksOf markOf marked mean by_ number right rows hands handOf)
theorem row_eq (h : House) (g : List Nat) (X : Nat → Rat) (hn : g.Nodup) {i : Nat} (hi : i ∈ g) : S g (fun j => NN h i j * X j) = S g X + S (List.range 16) (fun w => aa h i w * (X i - S g (fun j => aa h j w * X j) / nn h w)) := by
  have : ∀ j ∈ g, NN h i j * X j = (X j + (if j = i then S (List.range 16) (fun w => aa h i w) * X j else 0)) - S (List.range 16) (fun w => aa h i w * aa h j w / nn h w * X j) := by
    intro j _
    unfold NN
    rw [S_mul']
    by_cases e : i = j
    · subst e; simp; grind
    · have e' : ¬ j = i := fun z => e z.symm
      simp [e, e']; grind
  rw [S_congr this, S_sub, S_add, S_single (fun j => S (List.range 16) (fun w => aa h i w) * X j) hn hi, S_swap]
  have e1 : ∀ w ∈ List.range 16, aa h i w * (X i - S g (fun j => aa h j w * X j) / nn h w) = aa h i w * X i - S g (fun x => aa h i w * aa h x w / nn h w * X x) := by
    intro w _
    have : ∀ j ∈ g, aa h i w * aa h j w / nn h w * X j = (aa h i w / nn h w) * (aa h j w * X j) := by
      intro j _
      grind
    rw [S_congr this, S_mul]
    grind
  rw [S_congr e1, S_sub, S_mul']
  grind
/-- over a group the sums even out -/
theorem even_out {h : House} {j : Nat} {g : List Nat} (hg : IsGroup h j g) {q : Nat → Bool} (hq : g = (List.range 6).filter q) (f : Nat → Nat → Rat) {w : Nat} (hw : w < 16) :
    S g (fun i => aa h i w * (f i w - S (List.range 6) (fun j => aa h j w * f j w) / nn h w)) = 0 := by
  rcases S_full hg hq hw with h1 | h1
  · exact h1 _
  · by_cases hn : nn h w = 0
    · have hz : ∀ i, i ∈ List.range 6 → aa h i w = 0 := S_zero_each (fun i _ => aa_nonneg h i w) (by rw [← nn_eq, hn]; grind)
      refine (S_congr (g := fun _ => 0) ?_).trans (S_zero g)
      intro i hi
      rw [hz i (by simpa using hg.small i hi)]; grind
    · rw [h1]
      have e : ∀ i ∈ List.range 6, aa h i w * (f i w - S (List.range 6) (fun j => aa h j w * f j w) / nn h w) = aa h i w * f i w - aa h i w * (S (List.range 6) (fun j => aa h j w * f j w) / nn h w) := by
        intro i _; grind
      rw [S_congr e, S_sub, S_mul', ← nn_eq]
      grind
/-- the document's own words of the hands -/
structure Hands (h : House) (X : Nat → Rat) : Prop where
  zero : ∀ i, i < 6 → S (groupOf h i) X = 0
  left : ∀ i, i < 6 → S (List.range 16) (fun w => aa h i w * (X i - S (List.range 6) (fun j => aa h j w * X j) / nn h w)) = S (List.range 16) (fun w => aa h i w * (mk h i w - mn h w))
/-- one hand's value -/
def HH (h : House) (i : Nat) : Rat := val (handOf h i)
theorem T_full {h : House} {j : Nat} {g : List Nat} (hg : IsGroup h j g) {q : Nat → Bool} (hq : g = (List.range 6).filter q) (X : Nat → Rat) {i : Nat} (hi : i ∈ g) {w : Nat} (hw : w < 16) :
    aa h i w * (X i - S g (fun j => aa h j w * X j) / nn h w) = aa h i w * (X i - S (List.range 6) (fun j => aa h j w * X j) / nn h w) := by
  rcases aa_cases h i w with ⟨e, _⟩ | ⟨_, e⟩
  · rcases full hg hw with h1 | h1
    · rw [h1 i hi] at e; simp at e
    · have : S g (fun j => aa h j w * X j) = S (List.range 6) (fun j => aa h j w * X j) := by
        rw [hq]
        apply S_group
        intro k hk hn
        rcases aa_cases h k w with ⟨e2, _⟩ | ⟨_, e2⟩
        · exact absurd (hq ▸ h1 k hk e2) hn
        · rw [e2]; grind
      rw [this]
  · rw [e]; grind
theorem hands_spec (h : House) : Hands h (HH h) ∧ ∀ i, i < 6 → ok (handOf h i) := by
  have key : ∀ j, j < 6 → S (groupOf h j) (HH h) = 0 ∧ (S (List.range 16) (fun w => aa h j w * (HH h j - S (List.range 6) (fun k => aa h k w * HH h k) / nn h w)) = S (List.range 16) (fun w => aa h j w * (mk h j w - mn h w))) ∧ ok (handOf h j) := by
    intro j hj
    have hg := groupOf_is h hj
    obtain ⟨q, hq⟩ := groupOf_form h j
    have hnd := groupOf_nodup h j
    obtain ⟨X, h1, h2⟩ := hands_group h hj
    have h3 : ∀ i ∈ groupOf h j, S (groupOf h j) (fun k => NN h i k * HH h k) = RR h i := by
      intro i hi
      rw [← h2 i hi]
      apply S_congr
      intro k hk
      unfold HH
      rw [(h1 k hk).2]
    have h4 : ∀ i ∈ groupOf h j, S (groupOf h j) (HH h) + S (List.range 16) (fun w => aa h i w * (HH h i - S (List.range 6) (fun k => aa h k w * HH h k) / nn h w)) = RR h i := by
      intro i hi
      rw [← h3 i hi, row_eq h _ _ hnd hi]
      congr 1
      apply S_congr
      intro w hw
      exact (T_full hg hq (HH h) hi (by simpa using hw)).symm
    have h5 : S (groupOf h j) (fun i => S (groupOf h j) (HH h) + S (List.range 16) (fun w => aa h i w * (HH h i - S (List.range 6) (fun k => aa h k w * HH h k) / nn h w))) = S (groupOf h j) (RR h) := S_congr h4
    rw [S_add, S_const, S_swap] at h5
    have h6 : S (List.range 16) (fun w => S (groupOf h j) (fun i => aa h i w * (HH h i - S (List.range 6) (fun k => aa h k w * HH h k) / nn h w))) = 0 := by
      refine (S_congr (g := fun _ => 0) ?_).trans (S_zero _)
      intro w hw
      exact even_out hg hq (fun i _ => HH h i) (by simpa using hw)
    have h7 : S (groupOf h j) (RR h) = 0 := by
      unfold RR
      rw [S_swap]
      refine (S_congr (g := fun _ => 0) ?_).trans (S_zero _)
      intro w hw
      exact even_out hg hq (mk h) (by simpa using hw)
    rw [h6, h7] at h5
    have h8 : ((groupOf h j).length : Rat) ≠ 0 := natne (List.length_pos_of_mem hg.self)
    have h9 : S (groupOf h j) (HH h) = 0 := by
      rcases Rat.mul_eq_zero.mp (show ((groupOf h j).length : Rat) * S (groupOf h j) (HH h) = 0 by grind) with h | h
      · exact absurd h h8
      · exact h
    refine ⟨h9, ?_, (h1 j hg.self).1⟩
    have := h4 j hg.self
    rw [h9] at this
    unfold RR at this
    grind
  exact ⟨⟨fun i hi => (key i hi).1, fun i hi => (key i hi).2.1⟩, fun i hi => (key i hi).2.2⟩
end MQ
end
section
namespace MQ
def cleared (row by_ : List Int) (p : Nat) : List Int := (List.range row.length).map fun k => by_.getD p 0 * row.getD k 0 - row.getD p 0 * by_.getD k 0
def gj (cur : List (List Int)) (p : Nat) : List (List Int) := (List.range 6).map fun k => if k = p then cur.getD k [] else cleared (cur.getD k []) (cur.getD p []) p
def ent (cur : List (List Int)) (k c : Nat) : Int := (cur.getD k []).getD c 0
def Shape (cur : List (List Int)) : Prop := cur.length = 6 ∧ ∀ k, k < 6 → (cur.getD k []).length = 7
theorem gj_row {cur : List (List Int)} {p k : Nat} (hk : k < 6) : (gj cur p).getD k [] = if k = p then cur.getD k [] else cleared (cur.getD k []) (cur.getD p []) p := by
  unfold gj
  rw [List.getD_eq_getElem?_getD, List.getElem?_map, List.getElem?_range hk]
  rfl
theorem gj_shape {cur : List (List Int)} {p : Nat} (h : Shape cur) : Shape (gj cur p) := by
  refine ⟨by simp [gj], ?_⟩
  intro k hk
  rw [gj_row hk]
  split
  · exact h.2 k hk
  · simp [cleared]
    exact h.2 k hk
theorem cleared_ent {row by_ : List Int} {p c : Nat} (hc : c < row.length) : (cleared row by_ p).getD c 0 = by_.getD p 0 * row.getD c 0 - row.getD p 0 * by_.getD c 0 := by
  unfold cleared
  rw [List.getD_eq_getElem?_getD, List.getElem?_map, List.getElem?_range hc]
  rfl
theorem gj_ent {cur : List (List Int)} {p k c : Nat} (h : Shape cur) (hk : k < 6) (hc : c < 7) :
    ent (gj cur p) k c = if k = p then ent cur k c else ent cur p p * ent cur k c - ent cur k p * ent cur p c := by
  unfold ent
  rw [gj_row hk]
  split
  · rfl
  · rw [cleared_ent (by rw [h.2 k hk]; exact hc)]
def tl (p : Nat) : List Nat := List.range' p (6 - p)
theorem tl_cons {p : Nat} (h : p < 6) : tl p = p :: tl (p + 1) := by
  unfold tl
  have : 6 - p = (6 - (p + 1)) + 1 := by omega
  rw [this, List.range'_succ]
theorem mem_tl {p i : Nat} : i ∈ tl p ↔ p ≤ i ∧ i < 6 := by
  unfold tl
  rw [List.mem_range'_1]
  omega
theorem tl_zero : tl 0 = List.range 6 := by decide
def rent (cur : List (List Int)) (k c : Nat) : Rat := ((ent cur k c : Int) : Rat)
structure JI (X : Nat → Rat) (p : Nat) (cur : List (List Int)) : Prop where
  shape : Shape cur
  zero : ∀ c, c < p → ∀ k, k < 6 → k ≠ c → ent cur k c = 0
  diag : ∀ k, k < p → 0 < ent cur k k
  pos : ∀ x : Nat → Rat, (∃ i ∈ tl p, x i ≠ 0) → 0 < S (tl p) (fun i => x i * S (tl p) (fun j => rent cur i j * x j))
  sol : ∀ k, k < 6 → S (List.range 6) (fun j => rent cur k j * X j) = rent cur k 6
theorem intpos {n : Int} : (0 : Rat) < (n : Rat) ↔ 0 < n := by
  have : ((0 : Int) : Rat) < (n : Rat) ↔ 0 < n := Rat.intCast_lt_intCast
  simpa using this
theorem tl_nodup (p : Nat) : (tl p).Nodup := by unfold tl; exact List.nodup_range'
theorem JI.pivot {X : Nat → Rat} {p : Nat} {cur : List (List Int)} (h : JI X p cur) (hp : p < 6) : 0 < ent cur p p := by
  have h1 := h.pos (fun i => if i = p then 1 else 0) ⟨p, mem_tl.mpr ⟨Nat.le_refl _, hp⟩, by simp⟩
  have hm : p ∈ tl p := mem_tl.mpr ⟨Nat.le_refl _, hp⟩
  have e1 : ∀ i ∈ tl p, (if i = p then (1 : Rat) else 0) * S (tl p) (fun j => rent cur i j * (if j = p then 1 else 0)) = if i = p then rent cur i p else 0 := by
    intro i _
    have : S (tl p) (fun j => rent cur i j * (if j = p then 1 else 0)) = rent cur i p := by
      rw [← S_single (fun j => rent cur i j) (tl_nodup p) hm]
      apply S_congr
      intro j _
      split <;> grind
    rw [this]
    split <;> grind
  rw [S_congr e1, S_single (fun j => rent cur j p) (tl_nodup p) hm] at h1
  exact intpos.mp h1
theorem JI.step {X : Nat → Rat} {p : Nat} {cur : List (List Int)} (h : JI X p cur) (hp : p < 6) : JI X (p + 1) (gj cur p) := by
  have hpiv := h.pivot hp
  have hR : ∀ k c, k < 6 → c < 7 → rent (gj cur p) k c = if k = p then rent cur k c else rent cur p p * rent cur k c - rent cur k p * rent cur p c := by
    intro k c hk hc
    unfold rent
    rw [gj_ent h.shape hk hc]
    split
    · rfl
    · rw [Rat.intCast_sub, Rat.intCast_mul, Rat.intCast_mul]
  have hpr : 0 < rent cur p p := intpos.mpr hpiv
  refine ⟨gj_shape h.shape, ?_, ?_, ?_, ?_⟩
  · intro c hc k hk hne
    rw [gj_ent h.shape hk (by omega)]
    by_cases hcp : c = p
    · subst hcp
      simp [hne]
      rw [Int.mul_comm]; omega
    · have hc' : c < p := by omega
      split
      · exact h.zero c hc' k hk hne
      · rw [h.zero c hc' k hk hne, h.zero c hc' p hp (by omega)]; simp
  · intro k hk
    rw [gj_ent h.shape (by omega) (by omega)]
    split
    · next e => subst e; exact hpiv
    · next e =>
      have hk' : k < p := by omega
      rw [h.zero k hk' p hp (by omega)]
      have := Int.mul_pos hpiv (h.diag k hk')
      simpa using this
  · intro x hx
    -- the part of p that makes row p nothing
    let y : Nat → Rat := fun i => if i = p then -(S (tl (p + 1)) (fun j => rent cur p j * x j)) / rent cur p p else x i
    have hyp : y p = -(S (tl (p + 1)) (fun j => rent cur p j * x j)) / rent cur p p := by simp [y]
    have hyi : ∀ i ∈ tl (p + 1), y i = x i := by
      intro i hi
      have := (mem_tl.mp hi).1
      have : ¬ i = p := by omega
      simp [y, this]
    have h1 := h.pos y (by
      obtain ⟨i, hi, hne⟩ := hx
      refine ⟨i, ?_, ?_⟩
      · have := mem_tl.mp hi
        exact mem_tl.mpr ⟨by omega, this.2⟩
      · rw [hyi i hi]; exact hne)
    have hrow : ∀ i, S (tl p) (fun j => rent cur i j * y j) = rent cur i p * y p + S (tl (p + 1)) (fun j => rent cur i j * x j) := by
      intro i
      rw [tl_cons hp, S_cons]
      congr 1
      apply S_congr
      intro j hj
      rw [hyi j hj]
    have h2 : S (tl p) (fun j => rent cur p j * y j) = 0 := by
      rw [hrow, hyp]; grind
    rw [tl_cons hp, S_cons, ← tl_cons hp, h2] at h1
    have h3 : S (tl (p + 1)) (fun i => x i * S (tl (p + 1)) (fun j => rent (gj cur p) i j * x j)) = rent cur p p * S (tl (p + 1)) (fun i => y i * S (tl p) (fun j => rent cur i j * y j)) := by
      rw [← S_mul]
      apply S_congr
      intro i hi
      have hi6 := mem_tl.mp hi
      have hip : ¬ i = p := by omega
      rw [hyi i hi, hrow, hyp]
      have e : ∀ j ∈ tl (p + 1), rent (gj cur p) i j * x j = rent cur p p * (rent cur i j * x j) - rent cur i p * (rent cur p j * x j) := by
        intro j hj
        have hj6 := mem_tl.mp hj
        rw [hR i j (by omega) (by omega)]
        simp only [hip, if_false]
        grind
      rw [S_congr e, S_sub, S_mul, S_mul]
      grind
    rw [h3]
    refine Rat.mul_pos hpr ?_
    grind
  · intro k hk
    rw [hR k 6 hk (by omega)]
    by_cases hkp : k = p
    · subst hkp
      simp only [if_true]
      rw [← h.sol k hk]
      apply S_congr
      intro j hj
      have : j < 6 := by simpa using hj
      rw [hR k j hk (by omega)]
      simp
    · simp only [hkp, if_false]
      have e : ∀ j ∈ List.range 6, rent (gj cur p) k j * X j = rent cur p p * (rent cur k j * X j) - rent cur k p * (rent cur p j * X j) := by
        intro j hj
        have : j < 6 := by simpa using hj
        rw [hR k j hk (by omega)]
        simp only [hkp, if_false]
        grind
      rw [S_congr e, S_sub, S_mul, S_mul, h.sol k hk, h.sol p hp]
def jordan (rows : List (List Int)) : List (List Int) := gj (gj (gj (gj (gj (gj rows 0) 1) 2) 3) 4) 5
theorem JI.all {X : Nat → Rat} {rows : List (List Int)} (h : JI X 0 rows) : JI X 6 (jordan rows) :=
  (((((h.step (by decide)).step (by decide)).step (by decide)).step (by decide)).step (by decide)).step (by decide)
theorem JI.val {X : Nat → Rat} {cur : List (List Int)} (h : JI X 6 cur) {k : Nat} (hk : k < 6) : 0 < ent cur k k ∧ X k = rent cur k 6 / rent cur k k := by
  have hd := h.diag k hk
  refine ⟨hd, ?_⟩
  have h1 := h.sol k hk
  have e : ∀ j ∈ List.range 6, rent cur k j * X j = if j = k then rent cur k j * X j else 0 := by
    intro j hj
    have hj6 : j < 6 := by simpa using hj
    split
    · rfl
    · next hne =>
      unfold rent
      rw [h.zero j hj6 k hk (fun z => hne z.symm)]
      simp
  rw [S_congr e, S_single (fun j => rent cur k j * X j) List.nodup_range (by simpa using hk)] at h1
  have : 0 < rent cur k k := intpos.mpr hd
  grind
end MQ
end
section
namespace MQ
open Kp202 (House has meet together groupOf JUDGES WORKS judgesOf worksOf markOf marked mean by_ number right rows hands handOf)
/-- 1 for one of the group -/
def gg (h : House) (i j : Nat) : Rat := if j ∈ groupOf h i then 1 else 0
theorem gg_sym (h : House) {i j : Nat} (hi : i < 6) (hj : j < 6) : gg h i j = gg h j i := by
  unfold gg
  have : j ∈ groupOf h i ↔ i ∈ groupOf h j := by
    constructor
    · intro hm
      rw [groupOf_eq hi hm]; exact (groupOf_is h hi).self
    · intro hm
      rw [groupOf_eq hj hm]; exact (groupOf_is h hj).self
  by_cases e : j ∈ groupOf h i
  · rw [if_pos e, if_pos (this.mp e)]
  · rw [if_neg e, if_neg (fun z => e (this.mpr z))]
theorem S_gg (h : House) (i : Nat) (f : Nat → Rat) : S (List.range 6) (fun j => gg h i j * f j) = S (groupOf h i) f := by
  obtain ⟨q, hq⟩ := groupOf_form h i
  have : S (groupOf h i) f = S (groupOf h i) (fun j => gg h i j * f j) := by
    apply S_congr
    intro j hj
    unfold gg
    rw [if_pos hj]; grind
  rw [this, hq]
  symm
  apply S_group
  intro k hk hn
  unfold gg
  rw [hq, if_neg hn]; grind
/-- the program's numbers -/
def PP (h : House) (i j : Nat) : Rat := gg h i j + 60 * ((if i = j then S (List.range 16) (fun w => aa h i w) else 0) - S (List.range 16) (fun w => aa h i w * aa h j w / nn h w))
theorem PP_row (h : House) (x : Nat → Rat) {i : Nat} (hi : i < 6) : S (List.range 6) (fun j => PP h i j * x j) = S (groupOf h i) x + 60 * S (List.range 16) (fun w => aa h i w * (x i - S (List.range 6) (fun j => aa h j w * x j) / nn h w)) := by
  have hr := row_eq h (List.range 6) x List.nodup_range (i := i) (by simpa using hi)
  have e : ∀ j ∈ List.range 6, PP h i j * x j = gg h i j * x j + 60 * (NN h i j * x j - x j) := by
    intro j _
    unfold PP NN
    grind
  rw [S_congr e, S_add, S_mul, S_sub, hr, S_gg]
  grind
theorem S_sq6 (h : House) (x : Nat → Rat) (w : Nat) : S (List.range 6) (fun i => x i * (aa h i w * (x i - S (List.range 6) (fun j => aa h j w * x j) / nn h w)))
    = S (List.range 6) (fun i => aa h i w * ((x i - S (List.range 6) (fun j => aa h j w * x j) / nn h w) * (x i - S (List.range 6) (fun j => aa h j w * x j) / nn h w))) := by
  have hT : nn h w = 0 → S (List.range 6) (fun j => aa h j w * x j) = 0 := by
    intro hn
    have hz : ∀ i, i ∈ List.range 6 → aa h i w = 0 := S_zero_each (fun i _ => aa_nonneg h i w) (by rw [← nn_eq, hn]; grind)
    refine (S_congr (g := fun _ => 0) ?_).trans (S_zero _)
    intro i hi
    rw [hz i hi]; grind
  rw [S_sq]
  have e : ∀ i ∈ List.range 6, x i * (aa h i w * (x i - S (List.range 6) (fun j => aa h j w * x j) / nn h w)) = aa h i w * (x i * x i) - (aa h i w * x i) * (S (List.range 6) (fun j => aa h j w * x j) / nn h w) := by
    intro i _; grind
  rw [S_congr e, S_sub, S_mul', ← nn_eq]
  by_cases hn : nn h w = 0
  · rw [hT hn, hn]; grind
  · grind
/-- the groups' own part of the form -/
theorem S_groups (h : House) (x : Nat → Rat) : S (List.range 6) (fun i => x i * S (groupOf h i) x) = S (List.range 6) (fun i => S (groupOf h i) x * S (groupOf h i) x / ((groupOf h i).length : Rat)) := by
  have e1 : ∀ i ∈ List.range 6, S (groupOf h i) x * S (groupOf h i) x / ((groupOf h i).length : Rat) = S (List.range 6) (fun j => gg h i j * x j * (S (groupOf h i) x / ((groupOf h i).length : Rat))) := by
    intro i _
    rw [S_mul', S_gg]
    grind
  rw [S_congr e1, S_swap]
  apply S_congr
  intro j hj
  have hj6 : j < 6 := by simpa using hj
  have e2 : ∀ i ∈ List.range 6, gg h i j * x j * (S (groupOf h i) x / ((groupOf h i).length : Rat)) = gg h j i * (x j * (S (groupOf h j) x / ((groupOf h j).length : Rat))) := by
    intro i hi
    have hi6 : i < 6 := by simpa using hi
    rw [gg_sym h hi6 hj6]
    by_cases hm : i ∈ groupOf h j
    · rw [groupOf_eq hj6 hm]; grind
    · have : gg h j i = 0 := by unfold gg; rw [if_neg hm]
      rw [this]; grind
  rw [S_congr e2, S_gg, S_const]
  have : ((groupOf h j).length : Rat) ≠ 0 := natne (List.length_pos_of_mem (groupOf_is h hj6).self)
  grind
theorem PP_pos (h : House) (x : Nat → Rat) (hx : ∃ i ∈ List.range 6, x i ≠ 0) : 0 < S (List.range 6) (fun i => x i * S (List.range 6) (fun j => PP h i j * x j)) := by
  have hc : ¬ S (List.range 6) (fun i => x i * S (List.range 6) (fun j => PP h i j * x j)) ≤ 0 := by
    intro hF
    have e1 : ∀ i ∈ List.range 6, x i * S (List.range 6) (fun j => PP h i j * x j) = x i * S (groupOf h i) x + 60 * S (List.range 16) (fun w => x i * (aa h i w * (x i - S (List.range 6) (fun j => aa h j w * x j) / nn h w))) := by
      intro i hi
      rw [PP_row h x (by simpa using hi), S_mul]
      grind
    rw [S_congr e1, S_add, S_mul, S_groups, S_swap] at hF
    rw [S_congr (fun w _ => S_sq6 h x w)] at hF
    have hlen : ∀ i ∈ List.range 6, (0 : Rat) < ((groupOf h i).length : Rat) := by
      intro i hi
      exact natpos (List.length_pos_of_mem (groupOf_is h (by simpa using hi)).self)
    have hA : ∀ i ∈ List.range 6, 0 ≤ S (groupOf h i) x * S (groupOf h i) x / ((groupOf h i).length : Rat) := by
      intro i hi
      have h1 := hlen i hi
      have h2 := sq_nonneg (S (groupOf h i) x)
      rw [Rat.div_def]
      exact Rat.mul_nonneg h2 (Rat.le_of_lt (Rat.inv_pos.mpr h1))
    have hB : ∀ w, ∀ i ∈ List.range 6, 0 ≤ aa h i w * ((x i - S (List.range 6) (fun j => aa h j w * x j) / nn h w) * (x i - S (List.range 6) (fun j => aa h j w * x j) / nn h w)) :=
      fun w i _ => Rat.mul_nonneg (aa_nonneg h i w) (sq_nonneg _)
    have hB' : ∀ w ∈ List.range 16, 0 ≤ S (List.range 6) (fun i => aa h i w * ((x i - S (List.range 6) (fun j => aa h j w * x j) / nn h w) * (x i - S (List.range 6) (fun j => aa h j w * x j) / nn h w))) :=
      fun w _ => S_nonneg (hB w)
    have hA0 := S_nonneg hA
    have hB0 := S_nonneg hB'
    have hAz := S_zero_each hA (by grind)
    have hBz := S_zero_each hB' (by grind)
    have hT : ∀ i, i < 6 → S (groupOf h i) x = 0 := by
      intro i hi
      have h1 := hAz i (by simpa using hi)
      have h2 := hlen i (by simpa using hi)
      apply sq_zero
      have : S (groupOf h i) x * S (groupOf h i) x = S (groupOf h i) x * S (groupOf h i) x / ((groupOf h i).length : Rat) * ((groupOf h i).length : Rat) := by grind
      rw [this, h1]; grind
    have hval : ∀ w, w < 16 → ∀ i, i < 6 → has h i w = true → x i = S (List.range 6) (fun j => aa h j w * x j) / nn h w := by
      intro w hw i hi hiw
      have h1 := hBz w (by simpa using hw)
      have h2 := S_zero_each (hB w) (by rw [h1]; grind) i (by simpa using hi)
      have h5 : aa h i w = 1 := by unfold aa; simp [hiw]
      rw [h5] at h2
      have h6 := sq_zero (x := x i - S (List.range 6) (fun i => aa h i w * x i) / nn h w) (by grind)
      grind
    obtain ⟨i, hi, hne⟩ := hx
    have hi6 : i < 6 := by simpa using hi
    have hg := groupOf_is h hi6
    have hconst := hg.ind (fun k => x k = x i) rfl (by
      intro a b ha hb hm he
      unfold meet at hm
      obtain ⟨w, hw, hab⟩ := List.any_eq_true.mp hm
      have hw' : w < 16 := by simpa [WORKS] using hw
      rw [Bool.and_eq_true] at hab
      rw [hval w hw' b (hg.small b hb) hab.2, ← hval w hw' a (hg.small a ha) hab.1, he])
    have h7 : S (groupOf h i) x = ((groupOf h i).length : Rat) * x i := by
      rw [← S_const]
      exact S_congr hconst
    rw [hT i hi6] at h7
    have h8 := hlen i hi
    rcases Rat.mul_eq_zero.mp h7.symm with h | h
    · grind
    · exact hne h
  grind
def PR (h : House) (i : Nat) : Rat := 60 * S (List.range 16) (fun w => aa h i w * (mk h i w - mn h w))
theorem JI_start {h : House} {X : Nat → Rat} (hX : Hands h X) {rows : List (List Int)} (hs : Shape rows) (he : ∀ i j, i < 6 → j < 6 → rent rows i j = PP h i j) (hr : ∀ i, i < 6 → rent rows i 6 = PR h i) : JI X 0 rows := by
  refine ⟨hs, fun c hc => absurd hc (by omega), fun k hk => absurd hk (by omega), ?_, ?_⟩
  · intro x hx
    rw [tl_zero] at hx ⊢
    have := PP_pos h x hx
    have e : S (List.range 6) (fun i => x i * S (List.range 6) (fun j => rent rows i j * x j)) = S (List.range 6) (fun i => x i * S (List.range 6) (fun j => PP h i j * x j)) := by
      apply S_congr
      intro i hi
      congr 1
      apply S_congr
      intro j hj
      rw [he i j (by simpa using hi) (by simpa using hj)]
    rw [e]; exact this
  · intro k hk
    rw [hr k hk]
    have e : S (List.range 6) (fun j => rent rows k j * X j) = S (List.range 6) (fun j => PP h k j * X j) := by
      apply S_congr
      intro j hj
      rw [he k j hk (by simpa using hj)]
    rw [e, PP_row h X hk, hX.zero k hk, hX.left k hk]
    unfold PR
    grind
end MQ
end
section
namespace MQ
open Kp202 (House has meet together groupOf JUDGES WORKS judgesOf worksOf)
inductive Rch (h : House) (j : Nat) : Nat → Prop
  | refl : Rch h j j
  | step {i k : Nat} : Rch h j i → k < 6 → meet h i k = true → Rch h j k
structure GI (h : House) (j : Nat) (g : List Nat) : Prop where
  nd : g.Nodup
  small : ∀ k ∈ g, k < 6
  self : j ∈ g
  rch : ∀ k ∈ g, Rch h j k
theorem nodup_len : ∀ (n : Nat) (l : List Nat), l.Nodup → (∀ x ∈ l, x < n) → l.length ≤ n
  | 0, l, _, h => by
    cases l with
    | nil => simp
    | cons x l => exact absurd (h x (by simp)) (by omega)
  | n + 1, l, hn, h => by
    have h1 := nodup_len n (l.erase n) (hn.erase n) (by
      intro x hx
      have hx' := (List.Nodup.mem_erase_iff hn).mp hx
      have := h x hx'.2
      have := hx'.1
      omega)
    by_cases hm : n ∈ l
    · rw [List.length_erase_of_mem hm] at h1
      omega
    · rw [List.erase_of_not_mem hm] at h1
      omega
theorem GI.len {h : House} {j : Nat} {g : List Nat} (a : GI h j g) : g.length ≤ 6 := nodup_len 6 g a.nd a.small
theorem GI.start {h : House} {j : Nat} (hj : j < 6) : GI h j [j] := ⟨by simp, by simpa using hj, by simp, by simpa using Rch.refl⟩
theorem meet_of {h : House} {i k w : Nat} (hw : w < 16) (hi : has h i w = true) (hk : has h k w = true) : meet h i k = true := by
  unfold meet
  exact List.any_eq_true.mpr ⟨w, by simpa [WORKS] using hw, by simp [hi, hk]⟩
theorem GI.add {h : House} {j i k w : Nat} {g : List Nat} (a : GI h j g) (hi : i ∈ g) (hw : w ∈ worksOf h i) (hk : k ∈ judgesOf h w) (hn : k ∉ g) : GI h j (g ++ [k]) := by
  have hw' := mem_works.mp hw
  have hk' := mem_judges.mp hk
  refine ⟨?_, ?_, by simp [a.self], ?_⟩
  · rw [List.nodup_append]
    refine ⟨a.nd, by simp, ?_⟩
    intro x hx y hy e
    rw [List.mem_singleton] at hy
    subst hy; subst e
    exact hn hx
  · intro x hx
    rcases List.mem_append.mp hx with hx | hx
    · exact a.small x hx
    · rw [List.mem_singleton] at hx
      subst hx; exact hk'.1
  · intro x hx
    rcases List.mem_append.mp hx with hx | hx
    · exact a.rch x hx
    · rw [List.mem_singleton] at hx
      subst hx
      exact .step (a.rch i hi) hk'.1 (meet_of hw'.1 hw'.2 hk'.2)
/-- those ahead of n have all that they meet within -/
def Done (h : House) (g : List Nat) (n : Nat) : Prop := ∀ t i, t < n → g[t]? = some i → ∀ k, k < 6 → meet h i k = true → k ∈ g
theorem Done.more {h : House} {g : List Nat} {n : Nat} (d : Done h g n) (hn : n ≤ g.length) (x : List Nat) : Done h (g ++ x) n := by
  intro t i ht hi k hk hm
  rw [List.getElem?_append_left (by omega)] at hi
  exact List.mem_append_left _ (d t i ht hi k hk hm)
theorem Done.next {h : House} {g : List Nat} {n i : Nat} (d : Done h g n) (hi : g[n]? = some i) (hall : ∀ w ∈ worksOf h i, ∀ k ∈ judgesOf h w, k ∈ g) : Done h g (n + 1) := by
  intro t i' ht hi' k hk hm
  by_cases e : t = n
  · subst e
    rw [hi] at hi'
    cases hi'
    unfold meet at hm
    obtain ⟨w, hw, hb⟩ := List.any_eq_true.mp hm
    rw [Bool.and_eq_true] at hb
    exact hall w (mem_works.mpr ⟨by simpa [WORKS] using hw, hb.1⟩) k (mem_judges.mpr ⟨hk, hb.2⟩)
  · exact d t i' (by omega) hi' k hk hm
theorem GI.fin {h : House} {j : Nat} {g : List Nat} (a : GI h j g) (d : Done h g g.length) : IsGroup h j g := by
  have cl : Cl h g := by
    intro i hi k hk hm
    obtain ⟨t, ht⟩ := List.mem_iff_getElem?.mp hi
    have hl : t < g.length := by
      rcases Nat.lt_or_ge t g.length with h' | h'
      · exact h'
      · rw [List.getElem?_eq_none h'] at ht; exact nomatch ht
    exact d t i hl ht k hk hm
  refine ⟨a.self, a.small, cl, ?_⟩
  intro P hP hst
  have key : ∀ k, Rch h j k → k ∈ g ∧ P k := by
    intro k hk
    induction hk with
    | refl => exact ⟨a.self, hP⟩
    | step _ h6 hm ih =>
      have hm' := cl _ ih.1 _ h6 hm
      exact ⟨hm', hst _ _ ih.1 hm' hm ih.2⟩
  intro i hi
  exact (key i (a.rch i hi)).2
theorem IsGroup.mem_iff {h : House} {j : Nat} {g g' : List Nat} (a : IsGroup h j g) (b : IsGroup h j g') (i : Nat) : i ∈ g ↔ i ∈ g' := ⟨a.sub b i, b.sub a i⟩
end MQ
end
section
namespace MQ
open Kp202 (House has meet together groupOf JUDGES WORKS judgesOf worksOf markOf marked)
def shr (h : House) (w : Nat) : Int := 60 / ((judgesOf h w).length : Int)
def mI (h : House) (j w : Nat) : Int := (((markOf h j w).getD 0 : Nat) : Int)
def eqIn (h : House) (w : Nat) (s : List Int × Int) (k : Nat) : List Int × Int := (s.1.set k (s.1.getD k 0 - shr h w), s.2 - shr h w * mI h k w)
def eqW (h : House) (i : Nat) (s : List Int × Int) (w : Nat) : List Int × Int := (judgesOf h w).foldl (eqIn h w) (s.1.set i (s.1.getD i 0 + 60), s.2 + 60 * mI h i w)
def eq0 (g : List Nat) : List Int := (List.range 6).map fun k => if k ∈ g then 1 else 0
def eqAll (h : House) (i : Nat) (g : List Nat) : List Int × Int := (worksOf h i).foldl (eqW h i) (eq0 g, 0)
def eqRow (h : House) (i : Nat) (g : List Nat) : List Int := (eqAll h i g).1 ++ [(eqAll h i g).2]
def rg (l : List Int) (k : Nat) : Rat := ((l.getD k 0 : Int) : Rat)
theorem mI_val (h : House) (j w : Nat) : ((mI h j w : Int) : Rat) = mk h j w := by
  unfold mI mk marked
  cases e : markOf h j w with
  | none => simp [(whole_ok 0).2]
  | some m =>
    show _ = val (Kp193.nat m)
    rw [(nat_ok m).2]
    exact Rat.intCast_natCast m
theorem getD_set {l : List Int} {i k : Nat} {v : Int} (hi : i < l.length) : (l.set i v).getD k 0 = if k = i then v else l.getD k 0 := by
  rw [List.getD_eq_getElem?_getD, List.getElem?_set]
  by_cases e : i = k
  · subst e; simp [hi]
  · have e' : ¬ k = i := fun z => e z.symm
    simp [e, e', List.getD_eq_getElem?_getD]
theorem rg_set {l : List Int} {i k : Nat} {v : Int} (hi : i < l.length) : rg (l.set i v) k = if k = i then (v : Rat) else rg l k := by
  unfold rg
  rw [getD_set hi]
  split <;> rfl
theorem eqIn_fold (h : House) (w : Nat) : ∀ (ks : List Nat) (s : List Int × Int), ks.Nodup → (∀ k ∈ ks, k < s.1.length) →
    (ks.foldl (eqIn h w) s).1.length = s.1.length ∧
    (∀ k, rg (ks.foldl (eqIn h w) s).1 k = rg s.1 k - (if k ∈ ks then (shr h w : Rat) else 0)) ∧
    (((ks.foldl (eqIn h w) s).2 : Int) : Rat) = (s.2 : Rat) - (shr h w : Rat) * S ks (fun k => mk h k w)
  | [], s, _, _ => by
    refine ⟨rfl, fun k => ?_, ?_⟩
    · simp; grind
    · simp [S]; grind
  | x :: ks, s, hn, hl => by
    have hn' := List.nodup_cons.mp hn
    have hx := hl x (by simp)
    obtain ⟨h1, h2, h3⟩ := eqIn_fold h w ks (eqIn h w s x) hn'.2 (by
      intro k hk
      show k < (s.1.set x _).length
      rw [List.length_set]
      exact hl k (by simp [hk]))
    rw [List.foldl_cons]
    refine ⟨?_, ?_, ?_⟩
    · rw [h1]; exact List.length_set
    · intro k
      rw [h2 k]
      show rg (s.1.set x _) k - _ = _
      rw [rg_set hx]
      by_cases e : k = x
      · subst e
        have : k ∉ ks := hn'.1
        simp [this]
        unfold rg
        rw [List.getD_eq_getElem?_getD]
        grind
      · simp [e]
    · rw [h3]
      show ((s.2 - shr h w * mI h x w : Int) : Rat) - _ = _
      rw [Rat.intCast_sub, Rat.intCast_mul, mI_val]
      simp only [S]
      grind
theorem judges_nodup (h : House) (w : Nat) : (judgesOf h w).Nodup := List.Pairwise.filter _ List.nodup_range
theorem mem_judges_aa {h : House} {w k : Nat} (hk : k < 6) (c : Rat) : (if k ∈ judgesOf h w then c else 0) = aa h k w * c := by
  unfold aa
  by_cases e : has h k w = true
  · rw [if_pos (mem_judges.mpr ⟨hk, e⟩), if_pos e]; grind
  · rw [if_neg (fun z => e (mem_judges.mp z).2), if_neg e]; grind
theorem eqW_step (h : House) {i : Nat} (hi : i < 6) (s : List Int × Int) (w : Nat) (hs : s.1.length = 6) :
    (eqW h i s w).1.length = 6 ∧
    (∀ k, k < 6 → rg (eqW h i s w).1 k = rg s.1 k + ((if k = i then 60 else 0) - aa h k w * (shr h w : Rat))) ∧
    (((eqW h i s w).2 : Int) : Rat) = (s.2 : Rat) + (60 * mk h i w - (shr h w : Rat) * S (List.range 6) (fun k => aa h k w * mk h k w)) := by
  obtain ⟨h1, h2, h3⟩ := eqIn_fold h w (judgesOf h w) (s.1.set i (s.1.getD i 0 + 60), s.2 + 60 * mI h i w) (judges_nodup h w) (by
    intro k hk
    show k < (s.1.set i _).length
    rw [List.length_set, hs]
    exact (mem_judges.mp hk).1)
  refine ⟨?_, ?_, ?_⟩
  · unfold eqW
    rw [h1]
    show (s.1.set i _).length = 6
    rw [List.length_set, hs]
  · intro k hk
    unfold eqW
    rw [h2 k, mem_judges_aa hk]
    show rg (s.1.set i _) k - _ = _
    rw [rg_set (by omega)]
    by_cases e : k = i
    · subst e
      simp
      unfold rg
      rw [List.getD_eq_getElem?_getD]
      grind
    · simp [e]; grind
  · unfold eqW
    rw [h3, S_judges]
    show ((s.2 + 60 * mI h i w : Int) : Rat) - _ = _
    rw [Rat.intCast_add, Rat.intCast_mul, mI_val]
    simp
    grind
theorem eqW_fold (h : House) {i : Nat} (hi : i < 6) : ∀ (ws : List Nat) (s : List Int × Int), s.1.length = 6 →
    (ws.foldl (eqW h i) s).1.length = 6 ∧
    (∀ k, k < 6 → rg (ws.foldl (eqW h i) s).1 k = rg s.1 k + S ws (fun w => (if k = i then 60 else 0) - aa h k w * (shr h w : Rat))) ∧
    (((ws.foldl (eqW h i) s).2 : Int) : Rat) = (s.2 : Rat) + S ws (fun w => 60 * mk h i w - (shr h w : Rat) * S (List.range 6) (fun k => aa h k w * mk h k w))
  | [], s, hs => by
    refine ⟨hs, fun k _ => ?_, ?_⟩
    · simp [S]; grind
    · simp [S]; grind
  | x :: ws, s, hs => by
    obtain ⟨a1, a2, a3⟩ := eqW_step h hi s x hs
    obtain ⟨h1, h2, h3⟩ := eqW_fold h hi ws (eqW h i s x) a1
    rw [List.foldl_cons]
    refine ⟨h1, ?_, ?_⟩
    · intro k hk
      rw [h2 k hk, a2 k hk]
      simp only [S]
      grind
    · rw [h3, a3]
      simp only [S]
      grind
theorem judges_le (h : House) (w : Nat) : (judgesOf h w).length ≤ 6 := by
  have := List.length_filter_le (fun j => has h j w) (List.range JUDGES)
  simpa [judgesOf, JUDGES] using this
theorem shr_val {h : House} {w : Nat} (hn : 0 < (judgesOf h w).length) : ((shr h w : Int) : Rat) = 60 / nn h w := by
  have hle := judges_le h w
  unfold shr nn
  generalize (judgesOf h w).length = n at *
  have : n = 1 ∨ n = 2 ∨ n = 3 ∨ n = 4 ∨ n = 5 ∨ n = 6 := by omega
  rcases this with rfl | rfl | rfl | rfl | rfl | rfl <;> decide +kernel
theorem eq0_rg (g : List Nat) {k : Nat} (hk : k < 6) : rg (eq0 g) k = if k ∈ g then 1 else 0 := by
  unfold rg eq0
  rw [List.getD_eq_getElem?_getD, List.getElem?_map, List.getElem?_range hk]
  simp
  split <;> rfl
theorem eqAll_ok {h : House} {i : Nat} {g : List Nat} (hi : i < 6) (hg : IsGroup h i g) : (eqAll h i g).1.length = 6 ∧ (∀ k, k < 6 → rg (eqAll h i g).1 k = PP h i k) ∧ (((eqAll h i g).2 : Int) : Rat) = PR h i := by
  obtain ⟨h1, h2, h3⟩ := eqW_fold h hi (worksOf h i) (eq0 g, 0) (by simp [eq0])
  refine ⟨h1, ?_, ?_⟩
  · intro k hk
    unfold eqAll
    rw [h2 k hk, eq0_rg g hk, S_works]
    have hgg : (if k ∈ g then (1 : Rat) else 0) = gg h i k := by
      unfold gg
      have := hg.mem_iff (groupOf_is h hi) k
      by_cases e : k ∈ g
      · rw [if_pos e, if_pos (this.mp e)]
      · rw [if_neg e, if_neg (fun z => e (this.mpr z))]
    rw [hgg]
    unfold PP
    have e : ∀ w ∈ List.range 16, aa h i w * ((if k = i then (60 : Rat) else 0) - aa h k w * (shr h w : Rat)) = (if i = k then 60 * aa h i w else 0) - 60 * (aa h i w * aa h k w / nn h w) := by
      intro w _
      rcases aa_cases h i w with ⟨e1, e2⟩ | ⟨e1, e2⟩
      · rw [shr_val (judges_pos hi e1), e2]
        by_cases e : i = k
        · subst e; simp; grind
        · have e' : ¬ k = i := fun z => e z.symm
          simp [e, e']; grind
      · rw [e2]
        split <;> grind
    rw [S_congr e, S_sub, S_mul]
    by_cases e : i = k
    · simp [e]
      rw [S_mul]; grind
    · simp [e]
      rw [S_zero]; grind
  · unfold eqAll
    rw [h3, S_works]
    unfold PR mn
    simp
    rw [← S_mul]
    have : (0 : Rat) + S (List.range 16) (fun x => aa h i x * (60 * mk h i x - (shr h x : Rat) * S (List.range 6) fun k => aa h k x * mk h k x)) = S (List.range 16) (fun x => aa h i x * (60 * mk h i x - (shr h x : Rat) * S (List.range 6) fun k => aa h k x * mk h k x)) := by grind
    first | rw [this] | skip
    apply S_congr
    intro w _
    rcases aa_cases h i w with ⟨e1, e2⟩ | ⟨e1, e2⟩
    · rw [shr_val (judges_pos hi e1), e2]
      grind
    · rw [e2]; grind
theorem eqRow_len {h : House} {i : Nat} {g : List Nat} (hi : i < 6) (hg : IsGroup h i g) : (eqRow h i g).length = 7 := by
  unfold eqRow
  rw [List.length_append, (eqAll_ok hi hg).1]
  rfl
theorem eqRow_ent {h : House} {i : Nat} {g : List Nat} (hi : i < 6) (hg : IsGroup h i g) {k : Nat} (hk : k < 6) : rg (eqRow h i g) k = PP h i k := by
  obtain ⟨h1, h2, _⟩ := eqAll_ok hi hg
  rw [← h2 k hk]
  unfold rg eqRow
  rw [List.getD_eq_getElem?_getD, List.getD_eq_getElem?_getD, List.getElem?_append_left (by omega)]
theorem eqRow_last {h : House} {i : Nat} {g : List Nat} (hi : i < 6) (hg : IsGroup h i g) : rg (eqRow h i g) 6 = PR h i := by
  obtain ⟨h1, _, h3⟩ := eqAll_ok hi hg
  rw [← h3]
  unfold rg eqRow
  rw [List.getD_eq_getElem?_getD, List.getElem?_append_right (by omega), h1]
  rfl
end MQ
end
section
namespace MQ
open Kp193 (frac)
open Kp202 (House has meet together groupOf JUDGES WORKS judgesOf worksOf markOf marked handOf)
def Bd (a b : Nat) (cur : List (List Int)) : Prop := ∀ k, k < 6 → (∀ c, c < 6 → (ent cur k c).natAbs ≤ 2 ^ a) ∧ (ent cur k 6).natAbs ≤ 2 ^ b
theorem abs_step {x y u v : Int} {a b c d e : Nat} (hx : x.natAbs ≤ 2 ^ a) (hy : y.natAbs ≤ 2 ^ b) (hu : u.natAbs ≤ 2 ^ c) (hv : v.natAbs ≤ 2 ^ d) (h1 : a + b + 1 ≤ e) (h2 : c + d + 1 ≤ e) : (x * y - u * v).natAbs ≤ 2 ^ e := by
  have h3 : (x * y).natAbs ≤ 2 ^ (a + b) := by
    rw [Int.natAbs_mul, Nat.pow_add]
    exact Nat.mul_le_mul hx hy
  have h4 : (u * v).natAbs ≤ 2 ^ (c + d) := by
    rw [Int.natAbs_mul, Nat.pow_add]
    exact Nat.mul_le_mul hu hv
  have h5 : 2 ^ (a + b) ≤ 2 ^ (e - 1) := Nat.pow_le_pow_right (by decide) (by omega)
  have h6 : 2 ^ (c + d) ≤ 2 ^ (e - 1) := Nat.pow_le_pow_right (by decide) (by omega)
  have h7 : 2 ^ e = 2 ^ (e - 1) + 2 ^ (e - 1) := by
    have : e = (e - 1) + 1 := by omega
    rw [this, Nat.pow_succ]
    simp
    omega
  omega
theorem Bd.step {a b : Nat} {cur : List (List Int)} (h : Bd a b cur) (hs : Shape cur) {p : Nat} (hp : p < 6) : Bd (2 * a + 1) (a + b + 1) (gj cur p) := by
  intro k hk
  refine ⟨fun c hc => ?_, ?_⟩
  · rw [gj_ent hs hk (by omega)]
    split
    · exact Nat.le_trans ((h k hk).1 c hc) (Nat.pow_le_pow_right (by decide) (by omega))
    · exact abs_step ((h p hp).1 p hp) ((h k hk).1 c hc) ((h k hk).1 p hp) ((h p hp).1 c hc) (by omega) (by omega)
  · rw [gj_ent hs hk (by omega)]
    split
    · exact Nat.le_trans (h k hk).2 (Nat.pow_le_pow_right (by decide) (by omega))
    · exact abs_step ((h p hp).1 p hp) (h k hk).2 ((h k hk).1 p hp) (h p hp).2 (by omega) (by omega)
def jord : Nat → List (List Int) → List (List Int)
  | 0, r => r
  | n + 1, r => gj (jord n r) n
theorem jord_shape {r : List (List Int)} (h : Shape r) : ∀ n, Shape (jord n r)
  | 0 => h
  | n + 1 => gj_shape (jord_shape h n)
def bdA : Nat → Nat
  | 0 => 10
  | n + 1 => 2 * bdA n + 1
def bdB : Nat → Nat
  | 0 => 20
  | n + 1 => bdA n + bdB n + 1
theorem jord_bd {r : List (List Int)} (hs : Shape r) (h : Bd 10 20 r) : ∀ n, n ≤ 6 → Bd (bdA n) (bdB n) (jord n r)
  | 0, _ => h
  | n + 1, hn => (jord_bd hs h n (by omega)).step (jord_shape hs n) (by omega)
theorem S_bound {c : Rat} : ∀ {l : List Nat} {f : Nat → Rat}, (∀ x ∈ l, -c ≤ f x ∧ f x ≤ c) → -((l.length : Rat) * c) ≤ S l f ∧ S l f ≤ (l.length : Rat) * c
  | [], _, _ => by simp [S]
  | x :: l, f, h => by
    have h1 := h x (by simp)
    have h2 := S_bound (l := l) (f := f) (fun y hy => h y (by simp [hy]))
    simp only [S, List.length_cons, Rat.natCast_add]
    grind
theorem natAbs_of_rat {z : Int} {n : Nat} (h1 : -(n : Rat) ≤ (z : Rat)) (h2 : (z : Rat) ≤ (n : Rat)) : z.natAbs ≤ n := by
  have h3 : ((z : Int) : Rat) ≤ ((n : Int) : Rat) := by rw [Rat.intCast_natCast]; exact h2
  have h4 : (((-(n : Int)) : Int) : Rat) ≤ ((z : Int) : Rat) := by rw [Rat.intCast_neg, Rat.intCast_natCast]; exact h1
  have h5 := Rat.intCast_le_intCast.mp h3
  have h6 := Rat.intCast_le_intCast.mp h4
  omega
theorem nn_pos_of {h : House} {i w : Nat} (hi : i < 6) (e : has h i w = true) : 1 ≤ nn h w := by
  have := judges_pos hi e
  unfold nn
  have h1 : ((1 : Nat) : Rat) ≤ ((judgesOf h w).length : Rat) := Rat.natCast_le_natCast.mpr this
  simpa using h1
theorem share_le {h : House} {i w : Nat} (hi : i < 6) (e : has h i w = true) : 0 ≤ 60 / nn h w ∧ 60 / nn h w ≤ 60 := by
  have h1 := nn_pos_of hi e
  have h2 : (0 : Rat) < nn h w := by grind
  have h3 : 60 / nn h w * nn h w = 60 := by grind
  constructor
  · rw [Rat.div_def]
    exact Rat.mul_nonneg (by decide) (Rat.le_of_lt (Rat.inv_pos.mpr h2))
  · have h4 : 0 ≤ 60 / nn h w := by
      rw [Rat.div_def]
      exact Rat.mul_nonneg (by decide) (Rat.le_of_lt (Rat.inv_pos.mpr h2))
    have h5 : 0 ≤ 60 / nn h w * (nn h w - 1) := Rat.mul_nonneg h4 (by grind)
    grind
theorem PP_bound {h : House} {i k : Nat} (hi : i < 6) (hk : k < 6) : -1024 ≤ PP h i k ∧ PP h i k ≤ 1024 := by
  have e : PP h i k = gg h i k + S (List.range 16) (fun w => aa h i w * ((if i = k then 60 else 0) - aa h k w * (60 / nn h w))) := by
    unfold PP
    have e1 : ∀ w ∈ List.range 16, aa h i w * ((if i = k then (60 : Rat) else 0) - aa h k w * (60 / nn h w)) = (if i = k then 60 * aa h i w else 0) - 60 * (aa h i w * aa h k w / nn h w) := by
      intro w _
      split <;> grind
    rw [S_congr e1, S_sub, S_mul]
    by_cases e : i = k
    · simp [e]
      rw [S_mul]; grind
    · simp [e]
      rw [S_zero]; grind
  have hb := S_bound (c := 60) (l := List.range 16) (f := fun w => aa h i w * ((if i = k then 60 else 0) - aa h k w * (60 / nn h w))) (by
    intro w _
    rcases aa_cases h i w with ⟨e1, e2⟩ | ⟨e1, e2⟩
    · have hs := share_le hi e1
      rw [e2]
      by_cases e : i = k
      · subst e
        rw [e2]
        simp
        grind
      · simp only [e, if_false]
        rcases aa_cases h k w with ⟨_, e3⟩ | ⟨_, e3⟩ <;> rw [e3] <;> grind
    · rw [e2]; grind)
  have hg : 0 ≤ gg h i k ∧ gg h i k ≤ 1 := by
    unfold gg
    split <;> grind
  rw [e]
  have h16 : ((List.range 16).length : Rat) * 60 = 960 := by simp; grind
  rw [h16] at hb
  grind
theorem mk_bound {h : House} (hv : ∀ j w, mk h j w ≤ 1000) (hv0 : ∀ j w, 0 ≤ mk h j w) {i w : Nat} (hi : i < 6) (e : has h i w = true) : 0 ≤ mn h w ∧ mn h w ≤ 1000 := by
  have h1 := nn_pos_of hi e
  have h2 : (0 : Rat) < nn h w := by grind
  have h3 : 0 ≤ S (List.range 6) (fun j => aa h j w * mk h j w) := S_nonneg (fun j _ => Rat.mul_nonneg (aa_nonneg h j w) (hv0 j w))
  have h4 : S (List.range 6) (fun j => aa h j w * mk h j w) ≤ 1000 * nn h w := by
    rw [nn_eq, ← S_mul]
    apply S_le
    intro j _
    have := Rat.mul_nonneg (aa_nonneg h j w) (show 0 ≤ 1000 - mk h j w by have := hv j w; grind)
    grind
  unfold mn
  constructor
  · rw [Rat.div_def]
    exact Rat.mul_nonneg h3 (Rat.le_of_lt (Rat.inv_pos.mpr h2))
  · have h5 : 0 ≤ (1000 * nn h w - S (List.range 6) (fun j => aa h j w * mk h j w)) * (nn h w)⁻¹ := Rat.mul_nonneg (by grind) (Rat.le_of_lt (Rat.inv_pos.mpr h2))
    have h6 : (1000 * nn h w - S (List.range 6) (fun j => aa h j w * mk h j w)) * (nn h w)⁻¹ = 1000 - S (List.range 6) (fun j => aa h j w * mk h j w) / nn h w := by
      rw [Rat.div_def]; grind
    grind
theorem PR_bound {h : House} (hv : ∀ j w, mk h j w ≤ 1000) (hv0 : ∀ j w, 0 ≤ mk h j w) {i : Nat} (hi : i < 6) : -1048576 ≤ PR h i ∧ PR h i ≤ 1048576 := by
  have hb := S_bound (c := 1000) (l := List.range 16) (f := fun w => aa h i w * (mk h i w - mn h w)) (by
    intro w _
    rcases aa_cases h i w with ⟨e1, e2⟩ | ⟨e1, e2⟩
    · have := mk_bound hv hv0 hi e1
      have := hv i w
      have := hv0 i w
      rw [e2]; grind
    · rw [e2]; grind)
  unfold PR
  have h16 : ((List.range 16).length : Rat) * 1000 = 16000 := by simp; grind
  rw [h16] at hb
  grind
/-- no mark above 1,000 -/
def Small (h : House) : Prop := ∀ j w m, markOf h j w = some m → m ≤ 1000
theorem Small.mk {h : House} (hs : Small h) (j w : Nat) : 0 ≤ MQ.mk h j w ∧ MQ.mk h j w ≤ 1000 := by
  unfold MQ.mk marked
  cases e : markOf h j w with
  | none =>
    show 0 ≤ val (Kp193.whole 0) ∧ val (Kp193.whole 0) ≤ 1000
    rw [(whole_ok 0).2]
    simp
    decide
  | some m =>
    show 0 ≤ val (Kp193.nat m) ∧ val (Kp193.nat m) ≤ 1000
    rw [(nat_ok m).2]
    have h1 := hs j w m e
    have h2 : ((m : Nat) : Rat) ≤ ((1000 : Nat) : Rat) := Rat.natCast_le_natCast.mpr h1
    have h3 : ((0 : Nat) : Rat) ≤ ((m : Nat) : Rat) := Rat.natCast_le_natCast.mpr (Nat.zero_le _)
    constructor
    · simpa using h3
    · simpa using h2
/-- the rows are the judges' equations -/
structure Eqs (h : House) (R : List (List Int)) : Prop where
  len : R.length = 6
  row : ∀ k, k < 6 → ∃ g, IsGroup h k g ∧ R.getD k [] = eqRow h k g
theorem Eqs.shape {h : House} {R : List (List Int)} (e : Eqs h R) : Shape R := ⟨e.len, fun k hk => by
  obtain ⟨g, hg, he⟩ := e.row k hk
  rw [he]; exact eqRow_len hk hg⟩
theorem Eqs.ent {h : House} {R : List (List Int)} (e : Eqs h R) {k c : Nat} (hk : k < 6) (hc : c < 6) : rent R k c = PP h k c := by
  obtain ⟨g, hg, he⟩ := e.row k hk
  rw [← eqRow_ent hk hg hc]
  unfold rent MQ.ent rg
  rw [he]
theorem Eqs.last {h : House} {R : List (List Int)} (e : Eqs h R) {k : Nat} (hk : k < 6) : rent R k 6 = PR h k := by
  obtain ⟨g, hg, he⟩ := e.row k hk
  rw [← eqRow_last hk hg]
  unfold rent MQ.ent rg
  rw [he]
theorem Eqs.bd {h : House} {R : List (List Int)} (e : Eqs h R) (hs : Small h) : Bd 10 20 R := by
  intro k hk
  refine ⟨fun c hc => ?_, ?_⟩
  · have h1 := PP_bound (h := h) hk hc
    rw [← e.ent hk hc] at h1
    refine natAbs_of_rat (n := 2 ^ 10) ?_ ?_
    · have : (-((2 ^ 10 : Nat) : Rat)) = -1024 := by simp
      rw [this]; exact h1.1
    · have : (((2 ^ 10 : Nat) : Rat)) = 1024 := by simp
      rw [this]; exact h1.2
  · have h1 := PR_bound (fun j w => (hs.mk j w).2) (fun j w => (hs.mk j w).1) hk
    rw [← e.last hk] at h1
    refine natAbs_of_rat (n := 2 ^ 20) ?_ ?_
    · have : (-((2 ^ 20 : Nat) : Rat)) = -1048576 := by simp
      rw [this]; exact h1.1
    · have : (((2 ^ 20 : Nat) : Rat)) = 1048576 := by simp
      rw [this]; exact h1.2
/-- what comes out are the hands -/
theorem Eqs.hand {h : House} {R : List (List Int)} (e : Eqs h R) {k : Nat} (hk : k < 6) : 0 < MQ.ent (jordan R) k k ∧ frac (MQ.ent (jordan R) k 6) (MQ.ent (jordan R) k k).toNat = handOf h k := by
  obtain ⟨hX, hok⟩ := hands_spec h
  have J := (JI_start hX e.shape (fun i j hi hj => e.ent hi hj) (fun i hi => e.last hi)).all
  obtain ⟨h1, h2⟩ := J.val hk
  refine ⟨h1, ?_⟩
  have hf := frac_val (MQ.ent (jordan R) k 6) (MQ.ent (jordan R) k k).toNat (by omega)
  refine ok_ext hf.1 (hok k hk) ?_
  rw [hf.2]
  show _ = HH h k
  rw [h2]
  unfold rent
  congr 1
  have : (((MQ.ent (jordan R) k k).toNat : Nat) : Int) = MQ.ent (jordan R) k k := by omega
  rw [← Rat.intCast_natCast, this]
end MQ
end
section
namespace MQ
open Kp202 (House Mark has meet together groupOf JUDGES WORKS judgesOf worksOf markOf marked handOf put)
def mlt (a b : Mark) : Prop := a.judge < b.judge ∨ (a.judge = b.judge ∧ a.work < b.work)
structure Wf (h : House) : Prop where
  sorted : h.Pairwise mlt
  small : ∀ m ∈ h, m.judge < 6 ∧ m.work < 16 ∧ m.mark ≤ 1000
theorem Wf.nil : Wf [] := ⟨.nil, by simp⟩
theorem markOf_nil (j w : Nat) : markOf [] j w = none := rfl
theorem markOf_cons (m : Mark) (h : House) (j w : Nat) : markOf (m :: h) j w = if m.judge = j ∧ m.work = w then some m.mark else markOf h j w := by
  unfold markOf
  rw [List.find?_cons]
  by_cases e : m.judge = j ∧ m.work = w
  · have : (m.judge == j && m.work == w) = true := by simp [e.1, e.2]
    rw [this, if_pos e]; rfl
  · have : (m.judge == j && m.work == w) = false := by
      cases h1 : (m.judge == j && m.work == w) with
      | false => rfl
      | true =>
        rw [Bool.and_eq_true] at h1
        exact absurd ⟨by simpa using h1.1, by simpa using h1.2⟩ e
    rw [this, if_neg e]
theorem markOf_append (a b : House) (j w : Nat) : markOf (a ++ b) j w = (markOf a j w).or (markOf b j w) := by
  induction a with
  | nil => simp [markOf_nil]
  | cons m a ih =>
    rw [List.cons_append, markOf_cons, markOf_cons, ih]
    split <;> simp
theorem markOf_mem {h : House} {j w m : Nat} (e : markOf h j w = some m) : ∃ x ∈ h, x.judge = j ∧ x.work = w ∧ x.mark = m := by
  induction h with
  | nil => simp [markOf_nil] at e
  | cons x h ih =>
    rw [markOf_cons] at e
    split at e
    · next hx => exact ⟨x, by simp, hx.1, hx.2, by simpa using e⟩
    · obtain ⟨y, hy, r⟩ := ih e
      exact ⟨y, by simp [hy], r⟩
theorem markOf_none {h : House} {j w : Nat} (hn : ∀ x ∈ h, ¬ (x.judge = j ∧ x.work = w)) : markOf h j w = none := by
  induction h with
  | nil => rfl
  | cons x h ih =>
    rw [markOf_cons, if_neg (hn x (by simp))]
    exact ih (fun y hy => hn y (by simp [hy]))
theorem markOf_filter {h : House} {p : Mark → Bool} {j w : Nat} (hp : ∀ x : Mark, x.judge = j → x.work = w → p x = true) : markOf (h.filter p) j w = markOf h j w := by
  induction h with
  | nil => rfl
  | cons x h ih =>
    by_cases e : p x = true
    · rw [List.filter_cons_of_pos e, markOf_cons, markOf_cons, ih]
    · rw [List.filter_cons_of_neg e, ih, markOf_cons, if_neg]
      intro z
      exact e (hp x z.1 z.2)
theorem markOf_filter_none {h : House} {p : Mark → Bool} {j w : Nat} (hp : ∀ x : Mark, x.judge = j → x.work = w → p x = false) : markOf (h.filter p) j w = none := by
  apply markOf_none
  intro x hx z
  have := (List.mem_filter.mp hx).2
  rw [hp x z.1 z.2] at this
  cases this
def ltB (x m : Mark) : Bool := decide (m.judge < x.judge) || (m.judge == x.judge && decide (m.work < x.work))
def gtB (x m : Mark) : Bool := decide (x.judge < m.judge) || (m.judge == x.judge && decide (x.work < m.work))
theorem put_eq (h : House) (x : Mark) : put h x = h.filter (ltB x) ++ [x] ++ h.filter (gtB x) := rfl
theorem ltB_iff {x m : Mark} : ltB x m = true ↔ mlt m x := by
  unfold ltB mlt
  simp
theorem gtB_iff {x m : Mark} : gtB x m = true ↔ mlt x m := by
  unfold gtB mlt
  simp
  omega
theorem markOf_put (h : House) (x : Mark) (j w : Nat) : markOf (put h x) j w = if x.judge = j ∧ x.work = w then some x.mark else markOf h j w := by
  rw [put_eq, markOf_append, markOf_append, markOf_cons, markOf_nil]
  by_cases e : x.judge = j ∧ x.work = w
  · rw [if_pos e, if_pos e]
    have : markOf (h.filter (ltB x)) j w = none := markOf_filter_none (by
      intro y h1 h2
      cases q : ltB x y with
      | false => rfl
      | true =>
        have := ltB_iff.mp q
        unfold mlt at this
        omega)
    rw [this]; rfl
  · rw [if_neg e, if_neg e]
    by_cases c : (j < x.judge ∨ (j = x.judge ∧ w < x.work))
    · have h1 : markOf (h.filter (ltB x)) j w = markOf h j w := markOf_filter (by
        intro y a b
        apply ltB_iff.mpr
        unfold mlt
        omega)
      have h2 : markOf (h.filter (gtB x)) j w = none := markOf_filter_none (by
        intro y a b
        cases q : gtB x y with
        | false => rfl
        | true =>
          have := gtB_iff.mp q
          unfold mlt at this
          omega)
      rw [h1, h2]
      cases markOf h j w <;> rfl
    · have h1 : markOf (h.filter (gtB x)) j w = markOf h j w := markOf_filter (by
        intro y a b
        apply gtB_iff.mpr
        unfold mlt
        omega)
      have h2 : markOf (h.filter (ltB x)) j w = none := markOf_filter_none (by
        intro y a b
        cases q : ltB x y with
        | false => rfl
        | true =>
          have := ltB_iff.mp q
          unfold mlt at this
          omega)
      rw [h1, h2]
      rfl
theorem mlt_trans {a b c : Mark} (h1 : mlt a b) (h2 : mlt b c) : mlt a c := by
  unfold mlt at *
  omega
theorem Wf.put {h : House} (hw : Wf h) {x : Mark} (hj : x.judge < 6) (hwk : x.work < 16) (hm : x.mark ≤ 1000) : Wf (put h x) := by
  rw [put_eq]
  refine ⟨?_, ?_⟩
  · rw [List.pairwise_append, List.pairwise_append]
    refine ⟨⟨hw.sorted.filter _, by simp, ?_⟩, hw.sorted.filter _, ?_⟩
    · intro a ha b hb
      rw [List.mem_singleton] at hb
      subst hb
      exact ltB_iff.mp (List.mem_filter.mp ha).2
    · intro a ha b hb
      have hb' := gtB_iff.mp (List.mem_filter.mp hb).2
      rcases List.mem_append.mp ha with ha | ha
      · exact mlt_trans (ltB_iff.mp (List.mem_filter.mp ha).2) hb'
      · rw [List.mem_singleton] at ha
        subst ha
        exact hb'
  · intro m hm'
    rcases List.mem_append.mp hm' with h1 | h1
    · rcases List.mem_append.mp h1 with h1 | h1
      · exact hw.small m (List.mem_filter.mp h1).1
      · rw [List.mem_singleton] at h1
        subst h1
        exact ⟨hj, hwk, hm⟩
    · exact hw.small m (List.mem_filter.mp h1).1
theorem Wf.filter {h : House} (hw : Wf h) (p : Mark → Bool) : Wf (h.filter p) := ⟨hw.sorted.filter _, fun m hm => hw.small m (List.mem_filter.mp hm).1⟩
theorem Wf.Small {h : House} (hw : Wf h) : Small h := by
  intro j w m e
  obtain ⟨x, hx, _, _, rfl⟩ := markOf_mem e
  exact (hw.small x hx).2.2
theorem Wf.len {h : House} (hw : Wf h) : h.length ≤ 96 := by
  have h1 : (h.map fun m => m.judge * 16 + m.work).Nodup := by
    rw [List.Nodup, List.pairwise_map]
    refine (List.Pairwise.and_mem.mp hw.sorted).imp ?_
    rintro a b ⟨ha, hb, hab⟩
    have sa := hw.small a ha
    have sb := hw.small b hb
    unfold mlt at hab
    omega
  have := nodup_len 96 _ h1 (by
    intro x hx
    obtain ⟨m, hm, rfl⟩ := List.mem_map.mp hx
    have := hw.small m hm
    omega)
  simpa using this
/-- how many: the places of a well-formed house -/
theorem filter_three {h : House} (x : Mark) : h.length = (h.filter (ltB x)).length + (h.filter (gtB x)).length + (h.filter fun m => m.judge == x.judge && m.work == x.work).length := by
  induction h with
  | nil => rfl
  | cons m h ih =>
    have hc : (ltB x m = true ∧ gtB x m = false ∧ (m.judge == x.judge && m.work == x.work) = false) ∨ (ltB x m = false ∧ gtB x m = true ∧ (m.judge == x.judge && m.work == x.work) = false) ∨ (ltB x m = false ∧ gtB x m = false ∧ (m.judge == x.judge && m.work == x.work) = true) := by
      unfold ltB gtB
      by_cases a : m.judge < x.judge
      · left; simp; omega
      · by_cases b : x.judge < m.judge
        · right; left; simp; omega
        · have e : m.judge = x.judge := by omega
          by_cases c : m.work < x.work
          · left; simp; omega
          · by_cases d : x.work < m.work
            · right; left; simp; omega
            · right; right; simp; omega
    rcases hc with ⟨a, b, c⟩ | ⟨a, b, c⟩ | ⟨a, b, c⟩ <;> simp [a, b, c] <;> omega
theorem filter_at {h : House} (hw : Wf h) (j w : Nat) : (h.filter fun m => m.judge == j && m.work == w).length = if has h j w = true then 1 else 0 := by
  have hs := hw.sorted
  clear hw
  unfold has
  induction h with
  | nil => simp [markOf_nil]
  | cons m h ih =>
    have hp := List.pairwise_cons.mp hs
    rw [markOf_cons]
    by_cases e : m.judge = j ∧ m.work = w
    · rw [if_pos e]
      have hn : h.filter (fun m => m.judge == j && m.work == w) = [] := by
        rw [List.filter_eq_nil_iff]
        intro y hy
        have := hp.1 y hy
        unfold mlt at this
        simp
        omega
      rw [List.filter_cons_of_pos (by simp [e.1, e.2]), hn]
      simp
    · rw [if_neg e, List.filter_cons_of_neg (by simp; omega)]
      exact ih hp.2
theorem put_length {h : House} (hw : Wf h) (x : Mark) : (put h x).length = if has h x.judge x.work = true then h.length else h.length + 1 := by
  have h1 := filter_three (h := h) x
  have h2 := filter_at hw x.judge x.work
  rw [put_eq, List.length_append, List.length_append]
  simp only [List.length_cons, List.length_nil]
  split at h2 <;> split <;> simp_all <;> omega
theorem drop_length {h : House} (hw : Wf h) {j w : Nat} (e : has h j w = true) : (h.filter fun m => !(m.judge == j && m.work == w)).length = h.length - 1 := by
  have h1 : h.length = (h.filter fun m => m.judge == j && m.work == w).length + (h.filter fun m => !(m.judge == j && m.work == w)).length := by
    clear hw e
    induction h with
    | nil => rfl
    | cons m h ih =>
      by_cases c : (m.judge == j && m.work == w) = true
      · rw [List.filter_cons, List.filter_cons, if_pos c, if_neg (by simp [c]), List.length_cons, List.length_cons]; omega
      · rw [List.filter_cons, List.filter_cons, if_neg c, if_pos (by rw [Bool.not_eq_true] at c; rw [c]; rfl), List.length_cons, List.length_cons]; omega
  rw [filter_at hw, if_pos e] at h1
  omega
theorem markOf_drop (h : House) (j w j' w' : Nat) : markOf (h.filter fun m => !(m.judge == j && m.work == w)) j' w' = if j = j' ∧ w = w' then none else markOf h j' w' := by
  by_cases e : j = j' ∧ w = w'
  · rw [if_pos e]
    apply markOf_filter_none
    intro x a b
    simp; omega
  · rw [if_neg e]
    apply markOf_filter
    intro x a b
    simp; omega
end MQ
end
section
namespace MQ
open PyKp202 (shape whole)
theorem shape_rows {p : Int} {n k : Nat} (h : shape p = some (n, k)) : k = 0 := by
  unfold shape at h
  repeat (split at h; · (injection h with h; injection h with _ h; exact h.symm))
  exact nomatch h
theorem calls_step {f : Nat} {p : Int} {r : List Int} {cs : List (List (List Int))} (h : PyFlat.calls shape f (p :: r) = some cs) :
    ∃ n f' cs', shape p = some (n, 0) ∧ n ≤ r.length ∧ cs = [p :: r.take n] :: cs' ∧ PyFlat.calls shape f' (r.drop n) = some cs' := by
  cases f with
  | zero => simp [PyFlat.calls] at h
  | succ f =>
    unfold PyFlat.calls at h
    unfold PyFlat.call at h
    dsimp only at h
    cases hs : shape p with
    | none => rw [hs] at h; simp at h
    | some nk =>
      obtain ⟨n, k⟩ := nk
      have hk := shape_rows hs
      subst hk
      rw [hs] at h
      simp only at h
      by_cases hl : r.length < n
      · simp [hl] at h
      · simp only [hl, if_false, PyFlat.rows] at h
        cases hc : PyFlat.calls shape f (r.drop n) with
        | none => rw [hc] at h; simp at h
        | some cs' =>
          rw [hc] at h
          refine ⟨n, f, cs', rfl, by omega, ?_, hc⟩
          simp at h
          exact h.symm
theorem calls_nil {f : Nat} {cs : List (List (List Int))} (h : PyFlat.calls shape f [] = some cs) : cs = [] := by
  cases f <;> (simp [PyFlat.calls] at h; exact h)
theorem whole_same (c : List (List Int)) : whole c = c := by
  unfold whole
  split <;> rfl
theorem map_whole (cs : List (List (List Int))) : cs.map whole = cs := by
  rw [show (whole : List (List Int) → List (List Int)) = id from funext whole_same, List.map_id]
theorem calls_eq (l : List Int) : PyKp202.calls l = PyFlat.calls shape l.length l := by
  unfold PyKp202.calls
  cases PyFlat.calls shape l.length l with
  | none => rfl
  | some cs => simp [map_whole]
abbrev pl (s : Kp202.State) (cs : List (List (List Int))) : List Int := PyFlat.told (PyFlat.played Kp202Neutral.step s cs)
theorem pl_nil (s : Kp202.State) : pl s [] = [] := rfl
theorem pl_cons (s : Kp202.State) (c : List (List Int)) (cs : List (List (List Int))) : pl s (c :: cs) = (((Kp202Neutral.step s c).2.length : Int) :: (Kp202Neutral.step s c).2) ++ pl (Kp202Neutral.step s c).1 cs := rfl
/-- what a request asks -/
theorem asked_split {l : List Int} (h : PyKp202.answers_asked l = true) : ∃ cs, PyFlat.calls shape l.length l = some cs ∧ cs.length ≤ 400 ∧ cs.all Kp202Neutral.asked1 = true ∧ PyKp202.answers l = pl (some []) cs := by
  unfold PyKp202.answers_asked at h
  rw [calls_eq] at h
  cases hc : PyFlat.calls shape l.length l with
  | none => rw [hc] at h; simp at h
  | some cs =>
    rw [hc] at h
    simp only [Bool.and_eq_true, Kp202Neutral.asked, PyFlat.atMost, decide_eq_true_eq] at h
    obtain ⟨h1, h2, h3, h4⟩ := h
    refine ⟨cs, rfl, h1, h4, ?_⟩
    unfold PyKp202.answers
    rw [calls_eq, hc]
    show pl none cs = pl (some []) cs
    cases cs with
    | nil => simp [Kp202Neutral.begins] at h2
    | cons c r =>
      have e : c = [[0]] := by
        unfold Kp202Neutral.begins at h2
        split at h2
        · next heq => injection heq
        · cases h2
      subst e
      rfl
end MQ
end
section
namespace MQ
open Kp193 (Q frac)
open Kp202 (House has meet together groupOf JUDGES WORKS judgesOf worksOf markOf marked handOf)
def IsI (x : Rat) : Prop := ∃ z : Int, x = (z : Rat)
theorem IsI.int (z : Int) : IsI (z : Rat) := ⟨z, rfl⟩
theorem IsI.nat (n : Nat) : IsI (n : Rat) := ⟨(n : Int), (Rat.intCast_natCast n).symm⟩
theorem IsI.zero : IsI 0 := ⟨0, rfl⟩
theorem IsI.add {x y : Rat} (a : IsI x) (b : IsI y) : IsI (x + y) := by
  obtain ⟨z, rfl⟩ := a
  obtain ⟨u, rfl⟩ := b
  exact ⟨z + u, (Rat.intCast_add z u).symm⟩
theorem IsI.sub {x y : Rat} (a : IsI x) (b : IsI y) : IsI (x - y) := by
  obtain ⟨z, rfl⟩ := a
  obtain ⟨u, rfl⟩ := b
  exact ⟨z - u, (Rat.intCast_sub z u).symm⟩
theorem IsI.mul {x y : Rat} (a : IsI x) (b : IsI y) : IsI (x * y) := by
  obtain ⟨z, rfl⟩ := a
  obtain ⟨u, rfl⟩ := b
  exact ⟨z * u, (Rat.intCast_mul z u).symm⟩
theorem IsI.sum {f : Nat → Rat} : ∀ {l : List Nat}, (∀ x ∈ l, IsI (f x)) → IsI (S l f)
  | [], _ => IsI.zero
  | x :: l, h => (h x (by simp)).add (IsI.sum fun y hy => h y (by simp [hy]))
theorem dvd_of_isI {q : Q} (hq : ok q) {N : Nat} (h : IsI ((N : Rat) * val q)) : q.bottom ∣ N := by
  obtain ⟨z, hz⟩ := h
  have hb := natne hq.1
  have h1 : ((N : Int) * q.top : Int) = z * (q.bottom : Int) := by
    apply Rat.intCast_inj.mp
    rw [Rat.intCast_mul, Rat.intCast_mul, Rat.intCast_natCast, Rat.intCast_natCast, ← hz]
    unfold val
    grind
  have h2 : q.bottom ∣ N * q.top.natAbs := by
    have h3 : (q.bottom : Int) ∣ (N : Int) * q.top := ⟨z, by rw [h1, Int.mul_comm]⟩
    have h4 := Int.ofNat_dvd_left.mp h3
    rw [Int.natAbs_mul, Int.natAbs_natCast] at h4
    exact h4
  exact (Nat.Coprime.symm hq.2).dvd_of_dvd_mul_right h2
theorem JI.at {X : Nat → Rat} {R : List (List Int)} (h : JI X 0 R) : ∀ p, p ≤ 6 → JI X p (jord p R)
  | 0, _ => h
  | p + 1, hp => (JI.at h p (by omega)).step (by omega)
def bdS : Nat → Nat
  | 0 => 0
  | n + 1 => bdA (5 - n) + bdS n
theorem den_step {X : Nat → Rat} {R : List (List Int)} (h : JI X 0 R) (hb : Bd 10 20 R) : ∀ n, n ≤ 6 → ∃ N : Nat, 0 < N ∧ N ≤ 2 ^ (bdS n) ∧ ∀ j, 6 - n ≤ j → j < 6 → IsI ((N : Rat) * X j)
  | 0, _ => ⟨1, by decide, by simp [bdS], fun j h1 h2 => absurd h2 (by omega)⟩
  | n + 1, hn => by
    obtain ⟨N, h1, h2, h3⟩ := den_step h hb n (by omega)
    have hp : 5 - n < 6 := by omega
    have J := JI.at h (5 - n) (by omega)
    have hpiv := J.pivot hp
    have hbd := (jord_bd h.shape hb (5 - n) (by omega) (5 - n) hp).1 (5 - n) hp
    generalize hc : ent (jord (5 - n) R) (5 - n) (5 - n) = c at hpiv hbd
    have hcn : ((c.toNat : Nat) : Int) = c := by omega
    have hcr : ((c.toNat : Nat) : Rat) = (c : Rat) := by rw [← Rat.intCast_natCast, hcn]
    refine ⟨c.toNat * N, Nat.mul_pos (by omega) h1, ?_, ?_⟩
    · unfold bdS
      rw [Nat.pow_add]
      exact Nat.mul_le_mul (by omega) h2
    · have hlt : ∀ j, 5 - n < j → j < 6 → IsI (((c.toNat * N : Nat) : Rat) * X j) := by
        intro j a b
        have := (IsI.nat c.toNat).mul (h3 j (by omega) b)
        have e : ((c.toNat * N : Nat) : Rat) * X j = (c.toNat : Rat) * ((N : Rat) * X j) := by rw [Rat.natCast_mul]; grind
        rw [e]; exact this
      intro j a b
      by_cases e : j = 5 - n
      · subst e
        have hs := J.sol (5 - n) hp
        have ht : S (List.range 6) (fun j => rent (jord (5 - n) R) (5 - n) j * X j) = rent (jord (5 - n) R) (5 - n) (5 - n) * X (5 - n) + S (List.range 6) (fun j => if j = 5 - n then 0 else rent (jord (5 - n) R) (5 - n) j * X j) := by
          rw [← S_single (fun j => rent (jord (5 - n) R) (5 - n) j * X j) List.nodup_range (by simpa using hp : 5 - n ∈ List.range 6), ← S_add]
          apply S_congr
          intro x _
          split <;> grind
        rw [ht] at hs
        have hc' : rent (jord (5 - n) R) (5 - n) (5 - n) = (c : Rat) := by unfold rent; rw [hc]
        rw [hc'] at hs
        have hI : IsI ((N : Rat) * S (List.range 6) (fun j => if j = 5 - n then 0 else rent (jord (5 - n) R) (5 - n) j * X j)) := by
          rw [← S_mul]
          apply IsI.sum
          intro x hx
          have hx6 : x < 6 := by simpa using hx
          split
          · have : (N : Rat) * 0 = 0 := by grind
            rw [this]; exact IsI.zero
          · next hne =>
            by_cases hxl : x < 5 - n
            · have hz : rent (jord (5 - n) R) (5 - n) x = 0 := by
                unfold rent
                rw [J.zero x hxl (5 - n) hp (by omega)]
                rfl
              rw [hz]
              have : (N : Rat) * (0 * X x) = 0 := by grind
              rw [this]; exact IsI.zero
            · have := (IsI.int (ent (jord (5 - n) R) (5 - n) x)).mul (h3 x (by omega) hx6)
              have e2 : (N : Rat) * (rent (jord (5 - n) R) (5 - n) x * X x) = (ent (jord (5 - n) R) (5 - n) x : Rat) * ((N : Rat) * X x) := by unfold rent; grind
              rw [e2]; exact this
        have hR : IsI ((N : Rat) * rent (jord (5 - n) R) (5 - n) 6) := (IsI.nat N).mul (IsI.int _)
        have := hR.sub hI
        have e3 : ((c.toNat * N : Nat) : Rat) * X (5 - n) = (N : Rat) * rent (jord (5 - n) R) (5 - n) 6 - (N : Rat) * S (List.range 6) (fun j => if j = 5 - n then 0 else rent (jord (5 - n) R) (5 - n) j * X j) := by
          rw [Rat.natCast_mul, hcr, ← hs]
          grind
        rw [e3]; exact this
      · exact hlt j (by omega) b
theorem Eqs.den {h : House} {R : List (List Int)} (e : Eqs h R) (hs : Small h) : ∃ N : Nat, 0 < N ∧ N ≤ 2 ^ 687 ∧ ∀ k, k < 6 → IsI ((N : Rat) * HH h k) := by
  obtain ⟨hX, hok⟩ := hands_spec h
  have J := JI_start hX e.shape (fun i j hi hj => e.ent hi hj) (fun i hi => e.last hi)
  obtain ⟨N, h1, h2, h3⟩ := den_step J (e.bd hs) 6 (by decide)
  exact ⟨N, h1, h2, fun k hk => h3 k (by omega) hk⟩
theorem eqs_ex (h : House) : ∃ R, Eqs h R := by
  refine ⟨(List.range 6).map fun k => eqRow h k (groupOf h k), by simp, ?_⟩
  intro k hk
  refine ⟨groupOf h k, groupOf_is h hk, ?_⟩
  rw [List.getD_eq_getElem?_getD, List.getElem?_map, List.getElem?_range hk]
  rfl
/-- one number below for all hands, of no more than 687 bits -/
theorem hands_den {h : House} (hs : Small h) : ∃ N : Nat, 0 < N ∧ N ≤ 2 ^ 687 ∧ ∀ k, k < 6 → IsI ((N : Rat) * HH h k) := by
  obtain ⟨R, e⟩ := eqs_ex h
  exact Eqs.den e hs
end MQ
end
section
namespace MQ
open Kp193 (Q frac whole plus less times over nat)
open Kp202 (House Mark has meet together groupOf JUDGES WORKS judgesOf worksOf markOf marked handOf allHands handIn rightBy by_ offBy compared)
theorem allHands_get (h : House) {j : Nat} (hj : j < 6) : (allHands h)[j]? = some (handOf h j) := by
  unfold allHands
  rw [List.getElem?_map, List.getElem?_range (by simpa [JUDGES] using hj)]
  rfl
theorem handIn_all (h : House) {j : Nat} (hj : j < 6) : handIn (allHands h) j = handOf h j := by
  unfold handIn
  rw [List.getD_eq_getElem?_getD, allHands_get h hj]
  rfl
theorem hand_ok (h : House) {j : Nat} (hj : j < 6) : ok (handOf h j) := (hands_spec h).2 j hj
/-- one mark less its judge's hand -/
theorem term_ok (h : House) {j w : Nat} (hj : j < 6) : ok (less (marked h j w) (handIn (allHands h) j)) ∧ val (less (marked h j w) (handIn (allHands h) j)) = mk h j w - HH h j := by
  rw [handIn_all h hj]
  have := less_ok (marked_ok h j w) (hand_ok h hj)
  exact ⟨this.1, this.2⟩
def RT (h : House) (w : Nat) : Rat := S (List.range 6) (fun j => aa h j w * (mk h j w - HH h j)) / nn h w
theorem right_by {h : House} {w : Nat} (hn : 0 < (judgesOf h w).length) : ok (rightBy h (allHands h) w) ∧ val (rightBy h (allHands h) w) = RT h w := by
  have h1 := sum_ok (fun j => less (marked h j w) (handIn (allHands h) j)) (judgesOf h w) (fun j hj => (term_ok h (mem_judges.mp hj).1).1)
  have h2 := by_ok h1.1 hn
  refine ⟨h2.1, ?_⟩
  unfold rightBy
  rw [h2.2, h1.2, S_congr (fun j hj => (term_ok h (mem_judges.mp hj).1).2), S_judges]
  rfl
/-- sums over any list -/
def SA {α : Type} : List α → (α → Rat) → Rat
  | [], _ => 0
  | x :: l, f => f x + SA l f
theorem SA_congr {α : Type} : ∀ {l : List α} {f g : α → Rat}, (∀ x ∈ l, f x = g x) → SA l f = SA l g
  | [], _, _, _ => rfl
  | x :: l, f, g, h => by
    simp only [SA]
    rw [h x (by simp), SA_congr (l := l) (fun y hy => h y (by simp [hy]))]
theorem SA_foldl {α : Type} (f : α → Q) : ∀ (xs : List α) (acc : Q), ok acc → (∀ x ∈ xs, ok (f x)) → ok ((xs.map f).foldl plus acc) ∧ val ((xs.map f).foldl plus acc) = val acc + SA xs (fun x => val (f x))
  | [], acc, h, _ => ⟨h, by simp only [List.map_nil, List.foldl_nil, SA]; grind⟩
  | x :: xs, acc, h, hx => by
    have h1 := plus_ok h (hx x (by simp))
    have ih := SA_foldl f xs _ h1.1 (fun y hy => hx y (by simp [hy]))
    refine ⟨ih.1, ?_⟩
    simp only [List.map_cons, List.foldl_cons, ih.2, h1.2, SA]
    grind
theorem SA_sum {α : Type} (f : α → Q) (xs : List α) (h : ∀ x ∈ xs, ok (f x)) : ok (Kp202.sum (xs.map f)) ∧ val (Kp202.sum (xs.map f)) = SA xs (fun x => val (f x)) := by
  have := SA_foldl f xs _ (whole_ok 0).1 h
  refine ⟨this.1, ?_⟩
  unfold Kp202.sum
  rw [this.2, (whole_ok 0).2]
  simp; grind
/-- a sum over all marks is one over judges and works -/
def DD (h : House) (g : Nat → Nat → Nat → Rat) : Rat := S (List.range 6) (fun j => S (List.range 16) (fun w => match markOf h j w with
  | some m => g j w m
  | none => 0))
theorem SA_DD {h : House} (hw : Wf h) (g : Nat → Nat → Nat → Rat) : SA h (fun m => g m.judge m.work m.mark) = DD h g := by
  have hs := hw.sorted
  have hb := hw.small
  clear hw
  induction h with
  | nil =>
    unfold DD
    simp only [SA, markOf_nil]
    rw [S_congr (g := fun _ => 0) (fun j _ => S_zero _), S_zero]
  | cons m h ih =>
    have hp := List.pairwise_cons.mp hs
    have hm := hb m (by simp)
    have hno : markOf h m.judge m.work = none := markOf_none (by
      intro x hx z
      have := hp.1 x hx
      unfold mlt at this
      omega)
    have ih' := ih hp.2 (fun x hx => hb x (by simp [hx]))
    simp only [SA]
    rw [ih']
    unfold DD
    have e : ∀ j ∈ List.range 6, S (List.range 16) (fun w => match markOf (m :: h) j w with | some x => g j w x | none => 0)
        = (if j = m.judge then g m.judge m.work m.mark else 0) + S (List.range 16) (fun w => match markOf h j w with | some x => g j w x | none => 0) := by
      intro j _
      by_cases ej : j = m.judge
      · subst ej
        rw [if_pos rfl, ← S_single (fun w => g m.judge m.work m.mark) List.nodup_range (by simpa using hm.2.1 : m.work ∈ List.range 16), ← S_add]
        apply S_congr
        intro w _
        rw [markOf_cons]
        by_cases ew : w = m.work
        · subst ew
          rw [if_pos ⟨rfl, rfl⟩, hno, if_pos rfl]
          grind
        · rw [if_neg (fun z => ew z.2.symm), if_neg ew]
          grind
      · rw [if_neg ej]
        have : S (List.range 16) (fun w => match markOf (m :: h) j w with | some x => g j w x | none => 0) = S (List.range 16) (fun w => match markOf h j w with | some x => g j w x | none => 0) := by
          apply S_congr
          intro w _
          rw [markOf_cons, if_neg (fun z => ej z.1.symm)]
        rw [this]; grind
    rw [S_congr e, S_add]
    congr 1
    exact (S_single (fun _ => g m.judge m.work m.mark) List.nodup_range (by simpa using hm.1 : m.judge ∈ List.range 6)).symm
theorem has_of_mem {h : House} (hw : Wf h) {m : Mark} (hm : m ∈ h) : has h m.judge m.work = true ∧ markOf h m.judge m.work = some m.mark := by
  have hs := hw.sorted
  clear hw
  induction h with
  | nil => simp at hm
  | cons x h ih =>
    have hp := List.pairwise_cons.mp hs
    rcases List.mem_cons.mp hm with rfl | hm
    · have : markOf (m :: h) m.judge m.work = some m.mark := by rw [markOf_cons, if_pos ⟨rfl, rfl⟩]
      exact ⟨by unfold has; rw [this]; rfl, this⟩
    · have h1 := ih hm hp.2
      have h2 := hp.1 m hm
      have : markOf (x :: h) m.judge m.work = some m.mark := by
        rw [markOf_cons, if_neg, h1.2]
        unfold mlt at h2
        omega
      exact ⟨by unfold has; rw [this]; rfl, this⟩
/-- what is left of a mark -/
def LF (h : House) (j w : Nat) : Rat := mk h j w - RT h w - HH h j
theorem mk_of {h : House} {j w m : Nat} (e : markOf h j w = some m) : mk h j w = (m : Rat) := by
  unfold mk marked
  rw [e]
  exact (nat_ok m).2
theorem off_val {h : House} (hw : Wf h) : ok (offBy h (handIn ((List.range WORKS).map (rightBy h (allHands h)))) (handIn (allHands h))) ∧
    val (offBy h (handIn ((List.range WORKS).map (rightBy h (allHands h)))) (handIn (allHands h))) = S (List.range 6) (fun j => S (List.range 16) (fun w => aa h j w * (LF h j w * LF h j w))) := by
  have hin : ∀ w, w < 16 → handIn ((List.range WORKS).map (rightBy h (allHands h))) w = rightBy h (allHands h) w := by
    intro w hw16
    unfold handIn
    rw [List.getD_eq_getElem?_getD, List.getElem?_map, List.getElem?_range (by simpa [WORKS] using hw16)]
    rfl
  have ht : ∀ m ∈ h, ok (times (less (nat m.mark) (plus (handIn ((List.range WORKS).map (rightBy h (allHands h))) m.work) (handIn (allHands h) m.judge))) (less (nat m.mark) (plus (handIn ((List.range WORKS).map (rightBy h (allHands h))) m.work) (handIn (allHands h) m.judge))))
      ∧ val (times (less (nat m.mark) (plus (handIn ((List.range WORKS).map (rightBy h (allHands h))) m.work) (handIn (allHands h) m.judge))) (less (nat m.mark) (plus (handIn ((List.range WORKS).map (rightBy h (allHands h))) m.work) (handIn (allHands h) m.judge)))) = ((m.mark : Rat) - RT h m.work - HH h m.judge) * ((m.mark : Rat) - RT h m.work - HH h m.judge) := by
    intro m hm
    have hb := hw.small m hm
    rw [hin m.work hb.2.1, handIn_all h hb.1]
    have h1 := right_by (judges_pos hb.1 (has_of_mem hw hm).1)
    have h2 := plus_ok h1.1 (hand_ok h hb.1)
    have h3 := less_ok (nat_ok m.mark).1 h2.1
    have h4 := times_ok h3.1 h3.1
    refine ⟨h4.1, ?_⟩
    rw [h4.2, h3.2, h2.2, h1.2, (nat_ok m.mark).2]
    unfold HH
    grind
  have h5 := SA_sum (fun m : Mark => times (less (nat m.mark) (plus (handIn ((List.range WORKS).map (rightBy h (allHands h))) m.work) (handIn (allHands h) m.judge))) (less (nat m.mark) (plus (handIn ((List.range WORKS).map (rightBy h (allHands h))) m.work) (handIn (allHands h) m.judge)))) h (fun m hm => (ht m hm).1)
  refine ⟨h5.1, ?_⟩
  have h6 : val (offBy h (handIn ((List.range WORKS).map (rightBy h (allHands h)))) (handIn (allHands h))) = SA h (fun m => ((m.mark : Rat) - RT h m.work - HH h m.judge) * ((m.mark : Rat) - RT h m.work - HH h m.judge)) := h5.2.trans (SA_congr fun m hm => (ht m hm).2)
  rw [h6, SA_DD hw (fun j w m => ((m : Rat) - RT h w - HH h j) * ((m : Rat) - RT h w - HH h j))]
  unfold DD
  apply S_congr
  intro j _
  apply S_congr
  intro w _
  unfold aa has LF
  cases e : markOf h j w with
  | none => simp
  | some m =>
    rw [mk_of e]
    simp
/-- works are compared if some judge of the one hangs together with some judge of the other -/
theorem group_same {h : House} {w i j : Nat} (hw : w < 16) (hi : i < 6) (hj : j < 6) (ei : has h i w = true) (ej : has h j w = true) : groupOf h i = groupOf h j := by
  have hm : i ∈ groupOf h j := (groupOf_is h hj).cl j (groupOf_is h hj).self i hi (meet_of hw ej ei)
  exact groupOf_eq hj hm
theorem compared_iff {h : House} {v w : Nat} (hv : v < 16) : compared h v w = true ↔ ∃ j ∈ judgesOf h v, ∃ i ∈ judgesOf h w, i ∈ groupOf h j := by
  unfold compared
  cases e : judgesOf h v with
  | nil => simp
  | cons j r =>
    have hj := mem_judges.mp (show j ∈ judgesOf h v by rw [e]; simp)
    constructor
    · intro hc
      obtain ⟨i, hi, hb⟩ := List.any_eq_true.mp hc
      exact ⟨j, by simp, i, hi, by simpa using hb⟩
    · rintro ⟨j', hj', i, hi, hb⟩
      have hj2 := mem_judges.mp (show j' ∈ judgesOf h v by rw [e]; exact hj')
      refine List.any_eq_true.mpr ⟨i, hi, ?_⟩
      rw [group_same hv hj.1 hj2.1 hj.2 hj2.2]
      simpa using hb
end MQ
end
section
namespace MQ
open Kp193 (Q)
open Kp202 (House below)
def bef (x y : Nat × Q) : Prop := val y.2 < val x.2 ∨ (val x.2 = val y.2 ∧ x.1 < y.1)
theorem bef_iff {x y : Nat × Q} (hx : ok x.2) (hy : ok y.2) : (below y.2 x.2 || (!below x.2 y.2 && decide (x.1 < y.1))) = true ↔ bef x y := by
  unfold bef
  rw [Bool.or_eq_true, Bool.and_eq_true, below_iff hy hx]
  have h1 : (!below x.2 y.2) = true ↔ ¬ val x.2 < val y.2 := by
    rw [← below_iff hx hy]
    cases below x.2 y.2 <;> simp
  rw [h1, decide_eq_true_eq]
  constructor
  · rintro (h | ⟨h2, h3⟩)
    · exact .inl h
    · by_cases h4 : val y.2 < val x.2
      · exact .inl h4
      · exact .inr ⟨by grind, h3⟩
  · rintro (h | ⟨h2, h3⟩)
    · exact .inl h
    · exact .inr ⟨by grind, h3⟩
theorem bef_trans {x y z : Nat × Q} (a : bef x y) (b : bef y z) : bef x z := by
  unfold bef at *
  rcases a with a | ⟨a1, a2⟩ <;> rcases b with b | ⟨b1, b2⟩
  · left; grind
  · left; grind
  · left; grind
  · right; exact ⟨by grind, by omega⟩
theorem bef_asymm {x y : Nat × Q} (a : bef x y) : ¬ bef y x := by
  unfold bef at *
  rintro (b | ⟨b1, b2⟩) <;> rcases a with a | ⟨a1, a2⟩
  · grind
  · grind
  · grind
  · omega
theorem bef_total {x y : Nat × Q} (h : x.1 ≠ y.1) : bef x y ∨ bef y x := by
  unfold bef
  by_cases h1 : val y.2 < val x.2
  · exact .inl (.inl h1)
  · by_cases h2 : val x.2 < val y.2
    · exact .inr (.inl h2)
    · have h3 : val x.2 = val y.2 := by grind
      by_cases h4 : x.1 < y.1
      · exact .inl (.inr ⟨h3, h4⟩)
      · exact .inr (.inr ⟨h3.symm, by omega⟩)
theorem insert_perm (x : Nat × Q) : ∀ l : List (Nat × Q), (Kp202.insert x l).Perm (x :: l)
  | [] => List.Perm.refl _
  | y :: l => by
    unfold Kp202.insert
    split
    · exact List.Perm.refl _
    · exact ((insert_perm x l).cons y).trans (List.Perm.swap x y l)
theorem sorted_perm : ∀ l : List (Nat × Q), (Kp202.sorted l).Perm l
  | [] => List.Perm.refl _
  | x :: l => by
    unfold Kp202.sorted
    exact (insert_perm x _).trans ((sorted_perm l).cons x)
theorem insert_pw {x : Nat × Q} (hx : ok x.2) : ∀ {l : List (Nat × Q)}, (∀ y ∈ l, ok y.2 ∧ x.1 ≠ y.1) → l.Pairwise bef → (Kp202.insert x l).Pairwise bef
  | [], _, _ => by
    unfold Kp202.insert
    simp
  | y :: l, hl, hp => by
    have hy := hl y (by simp)
    have hp' := List.pairwise_cons.mp hp
    unfold Kp202.insert
    split
    · next hb =>
      have hxy := (bef_iff hx hy.1).mp hb
      refine List.pairwise_cons.mpr ⟨?_, hp⟩
      intro z hz
      rcases List.mem_cons.mp hz with rfl | hz
      · exact hxy
      · exact bef_trans hxy (hp'.1 z hz)
    · next hb =>
      have hyx : bef y x := by
        rcases bef_total hy.2 with h | h
        · exact absurd ((bef_iff hx hy.1).mpr h) hb
        · exact h
      refine List.pairwise_cons.mpr ⟨?_, insert_pw hx (fun z hz => hl z (by simp [hz])) hp'.2⟩
      intro z hz
      have hz' := (insert_perm x l).mem_iff.mp hz
      rcases List.mem_cons.mp hz' with rfl | hz'
      · exact hyx
      · exact hp'.1 z hz'
theorem sorted_pw : ∀ {l : List (Nat × Q)}, (∀ y ∈ l, ok y.2) → (l.map (·.1)).Nodup → (Kp202.sorted l).Pairwise bef
  | [], _, _ => by
    unfold Kp202.sorted
    simp
  | x :: l, hl, hn => by
    rw [List.map_cons, List.nodup_cons] at hn
    unfold Kp202.sorted
    refine insert_pw (hl x (by simp)) ?_ (sorted_pw (fun y hy => hl y (by simp [hy])) hn.2)
    intro y hy
    have hy' := (sorted_perm l).mem_iff.mp hy
    refine ⟨hl y (by simp [hy']), ?_⟩
    intro e
    exact hn.1 (List.mem_map.mpr ⟨y, hy', e.symm⟩)
theorem pw_unique : ∀ {a b : List (Nat × Q)}, a.Perm b → a.Pairwise bef → b.Pairwise bef → a = b
  | [], b, h, _, _ => (List.nil_perm.mp h).symm
  | x :: a, [], h, _, _ => absurd h.length_eq (by simp)
  | x :: a, y :: b, h, ha, hb => by
    have ha' := List.pairwise_cons.mp ha
    have hb' := List.pairwise_cons.mp hb
    have hxy : x = y := by
      have h1 : x ∈ y :: b := h.mem_iff.mp (by simp)
      have h2 : y ∈ x :: a := h.mem_iff.mpr (by simp)
      rcases List.mem_cons.mp h1 with e | e
      · exact e
      · rcases List.mem_cons.mp h2 with e2 | e2
        · exact e2.symm
        · exact absurd (ha'.1 y e2) (bef_asymm (hb'.1 x e))
    subst hxy
    rw [pw_unique (List.perm_cons x |>.mp h) ha'.2 hb'.2]
end MQ
end
section
namespace MQ
open Kp193 (Q frac whole plus less times over nat)
open Kp202 (House Mark has groupOf JUDGES WORKS judgesOf worksOf markOf marked handOf allHands handIn rightBy by_ offBy)
theorem frac_top (p : Int) (q : Nat) : (frac p q).top.natAbs ≤ p.natAbs := by
  unfold frac
  dsimp only
  split
  · exact Nat.zero_le _
  · show (p / _).natAbs ≤ p.natAbs
    exact Int.natAbs_ediv_le_natAbs _ _
theorem bot_le {q : Q} (hq : ok q) {N : Nat} (hN : 0 < N) (h : IsI ((N : Rat) * val q)) : q.bottom ≤ N := Nat.le_of_dvd hN (dvd_of_isI hq h)
theorem two_pow_add {a b c : Nat} (ha : a ≤ c) (hb : b ≤ c) : 2 ^ a + 2 ^ b ≤ 2 ^ (c + 1) := by
  have h1 : 2 ^ a ≤ 2 ^ c := Nat.pow_le_pow_right (by decide) ha
  have h2 : 2 ^ b ≤ 2 ^ c := Nat.pow_le_pow_right (by decide) hb
  rw [Nat.pow_succ]
  omega
theorem mul_pow {x y a b : Nat} (hx : x ≤ 2 ^ a) (hy : y ≤ 2 ^ b) : x * y ≤ 2 ^ (a + b) := by
  rw [Nat.pow_add]
  exact Nat.mul_le_mul hx hy
theorem plus_top {p q : Q} {a b c d e : Nat} (h1 : p.top.natAbs ≤ 2 ^ a) (h2 : p.bottom ≤ 2 ^ b) (h3 : q.top.natAbs ≤ 2 ^ c) (h4 : q.bottom ≤ 2 ^ d) (h5 : a + d ≤ e) (h6 : c + b ≤ e) : (plus p q).top.natAbs ≤ 2 ^ (e + 1) := by
  refine Nat.le_trans (frac_top _ _) ?_
  have h7 := mul_pow h1 h4
  have h8 := mul_pow h3 h2
  have h9 := Int.natAbs_add_le (p.top * (q.bottom : Int)) (q.top * (p.bottom : Int))
  rw [Int.natAbs_mul, Int.natAbs_mul, Int.natAbs_natCast, Int.natAbs_natCast] at h9
  exact Nat.le_trans h9 (Nat.le_trans (Nat.add_le_add h7 h8) (two_pow_add h5 h6))
theorem less_top {p q : Q} {a b c d e : Nat} (h1 : p.top.natAbs ≤ 2 ^ a) (h2 : p.bottom ≤ 2 ^ b) (h3 : q.top.natAbs ≤ 2 ^ c) (h4 : q.bottom ≤ 2 ^ d) (h5 : a + d ≤ e) (h6 : c + b ≤ e) : (less p q).top.natAbs ≤ 2 ^ (e + 1) := by
  refine Nat.le_trans (frac_top _ _) ?_
  have h7 := mul_pow h1 h4
  have h8 := mul_pow h3 h2
  have h9 : (p.top * (q.bottom : Int) - q.top * (p.bottom : Int)).natAbs ≤ (p.top * (q.bottom : Int)).natAbs + (q.top * (p.bottom : Int)).natAbs := by omega
  rw [Int.natAbs_mul, Int.natAbs_mul, Int.natAbs_natCast, Int.natAbs_natCast] at h9
  exact Nat.le_trans h9 (Nat.le_trans (Nat.add_le_add h7 h8) (two_pow_add h5 h6))
/-- one number below for all hands -/
structure Den (h : House) (N : Nat) : Prop where
  pos : 0 < N
  le : N ≤ 2 ^ 687
  hand : ∀ k, k < 6 → IsI ((N : Rat) * HH h k)
theorem den_ex {h : House} (hs : Small h) : ∃ N, Den h N := by
  obtain ⟨N, h1, h2, h3⟩ := hands_den hs
  exact ⟨N, h1, h2, h3⟩
theorem mk_isI (h : House) (j w : Nat) : IsI (mk h j w) := by
  rw [← mI_val]
  exact IsI.int _
theorem Den.term {h : House} {N : Nat} (d : Den h N) {j : Nat} (w : Nat) (hj : j < 6) : IsI ((N : Rat) * (MQ.mk h j w - HH h j)) := by
  have e : (N : Rat) * (MQ.mk h j w - HH h j) = (N : Rat) * MQ.mk h j w - (N : Rat) * HH h j := by grind
  rw [e]
  exact ((IsI.nat N).mul (mk_isI h j w)).sub (d.hand j hj)
theorem aa_isI (h : House) (j w : Nat) : IsI (aa h j w) := by
  rcases aa_cases h j w with ⟨_, e⟩ | ⟨_, e⟩ <;> rw [e]
  · exact ⟨1, by simp⟩
  · exact IsI.zero
theorem Den.right {h : House} {N : Nat} (d : Den h N) {w : Nat} (hn : 0 < (judgesOf h w).length) : IsI (((60 * N : Nat) : Rat) * RT h w) := by
  have hs := shr_val hn
  have e : ((60 * N : Nat) : Rat) * RT h w = ((shr h w : Int) : Rat) * S (List.range 6) (fun j => aa h j w * ((N : Rat) * (MQ.mk h j w - HH h j))) := by
    have e1 : S (List.range 6) (fun j => aa h j w * ((N : Rat) * (MQ.mk h j w - HH h j))) = (N : Rat) * S (List.range 6) (fun j => aa h j w * (MQ.mk h j w - HH h j)) := by
      rw [← S_mul]
      apply S_congr
      intro j _
      grind
    rw [e1, hs]
    unfold RT
    rw [Rat.natCast_mul]
    have : ((60 : Nat) : Rat) = 60 := by simp
    rw [this]
    grind
  rw [e]
  refine (IsI.int _).mul (IsI.sum ?_)
  intro j hj
  exact (aa_isI h j w).mul (d.term w (by simpa using hj))
theorem hand_top {h : House} (hs : Small h) {k : Nat} (hk : k < 6) : (handOf h k).top.natAbs ≤ 2 ^ 713 := by
  obtain ⟨R, e⟩ := eqs_ex h
  obtain ⟨_, h2⟩ := e.hand hk
  rw [← h2]
  refine Nat.le_trans (frac_top _ _) ?_
  exact (jord_bd e.shape (e.bd hs) 6 (by decide) k hk).2
theorem Den.bot {h : House} {N : Nat} (d : Den h N) {k : Nat} (hk : k < 6) : (handOf h k).bottom ≤ 2 ^ 687 := Nat.le_trans (bot_le (hand_ok h hk) d.pos (d.hand k hk)) d.le
end MQ
end
section
set_option exponentiation.threshold 100000
namespace MQ
open Kp193 (Q frac plus less over whole nat)
open Kp202
def termQ (h : House) (w j : Nat) : Q := less (marked h j w) (handIn (allHands h) j)
def part (h : House) (w : Nat) (ks : List Nat) : Q := (ks.map (termQ h w)).foldl plus (whole 0)
theorem part_snoc (h : House) (w : Nat) (ks : List Nat) (j : Nat) : part h w (ks ++ [j]) = plus (part h w ks) (termQ h w j) := by
  unfold part
  rw [List.map_append, List.foldl_append]
  rfl
theorem part_ok {h : House} {w : Nat} {ks : List Nat} (hk : ∀ j ∈ ks, j < 6) : ok (part h w ks) ∧ val (part h w ks) = S ks (fun j => mk h j w - HH h j) := by
  have h1 : ∀ j ∈ ks, ok (termQ h w j) := fun j hj => (term_ok h (hk j hj)).1
  refine ⟨foldl_plus (termQ h w) ks _ (whole_ok 0).1 h1, ?_⟩
  unfold part
  rw [foldl_plus_val (termQ h w) ks _ (whole_ok 0).1 h1, (whole_ok 0).2]
  rw [S_congr (f := fun x => val (termQ h w x)) (g := fun j => mk h j w - HH h j) fun j hj => (term_ok h (hk j hj)).2]
  have z : ((0 : Int) : Rat) = 0 := rfl
  rw [z]
  grind
theorem part_bot {h : House} {N w : Nat} (d : Den h N) {ks : List Nat} (hk : ∀ j ∈ ks, j < 6) : (part h w ks).bottom ≤ 2 ^ 687 := by
  have p := part_ok (h := h) (w := w) hk
  refine Nat.le_trans (bot_le p.1 d.pos ?_) d.le
  rw [p.2, ← S_mul]
  exact IsI.sum fun j hj => d.term w (hk j hj)
theorem term_bot {h : House} {N w j : Nat} (d : Den h N) (hj : j < 6) : (termQ h w j).bottom ≤ 2 ^ 687 := by
  have p := term_ok (w := w) h hj
  refine Nat.le_trans (bot_le p.1 d.pos ?_) d.le
  rw [p.2]
  exact d.term w hj
theorem marked_sz {h : House} (hs : Small h) (j w : Nat) : (marked h j w).top.natAbs ≤ 2 ^ 10 ∧ (marked h j w).bottom = 1 := by
  unfold marked
  cases e : markOf h j w with
  | none => exact ⟨by decide, rfl⟩
  | some m =>
    refine ⟨?_, rfl⟩
    show ((m : Int)).natAbs ≤ 2 ^ 10
    have := hs j w m e
    rw [Int.natAbs_natCast]
    omega
theorem term_top {h : House} {N w j : Nat} (hs : Small h) (d : Den h N) (hj : j < 6) : (termQ h w j).top.natAbs ≤ 2 ^ 714 := by
  unfold termQ
  rw [handIn_all h hj]
  have m := marked_sz hs j w
  exact less_top (a := 10) (b := 0) (c := 713) (d := 687) (e := 713) m.1 (by rw [m.2]; decide) (hand_top hs hj) (d.bot hj) (by decide) (by decide)
theorem part_top {h : House} {N w : Nat} (hs : Small h) (d : Den h N) : ∀ (n : Nat) (ks : List Nat), ks.length = n → (∀ j ∈ ks, j < 6) → (part h w ks).top.natAbs ≤ 2 ^ (1402 * (n + 1))
  | 0, ks, hn, _ => by
    have : ks = [] := List.eq_nil_of_length_eq_zero hn
    subst this
    show (0 : Int).natAbs ≤ _
    exact Nat.zero_le _
  | n + 1, ks, hn, hk => by
    obtain ⟨l, j, rfl⟩ : ∃ l j, ks = l ++ [j] := ⟨ks.dropLast, ks.getLast (by intro e; rw [e] at hn; cases hn), (List.dropLast_concat_getLast _).symm⟩
    have hl : l.length = n := by simpa using hn
    have ih := part_top (w := w) hs d n l hl fun i hi => hk i (List.mem_append_left _ hi)
    have hj : j < 6 := hk j (by simp)
    rw [part_snoc]
    have h4 := plus_top (a := 1402 * (n + 1)) (b := 687) (c := 714) (d := 687) (e := 1402 * (n + 1) + 1401) ih (part_bot d fun i hi => hk i (List.mem_append_left _ hi)) (term_top (w := w) hs d hj) (term_bot d hj) (by omega) (by omega)
    have e : 1402 * (n + 1) + 1401 + 1 = 1402 * (n + 1 + 1) := by omega
    rw [e] at h4
    exact h4
theorem right_eq (h : House) (w : Nat) : rightBy h (allHands h) w = frac (part h w (judgesOf h w)).top ((part h w (judgesOf h w)).bottom * (judgesOf h w).length) := by
  show over (part h w (judgesOf h w)) (nat (judgesOf h w).length) = _
  unfold over
  have e1 : ((nat (judgesOf h w).length).bottom : Int) = 1 := rfl
  have e2 : (nat (judgesOf h w).length).top.natAbs = (judgesOf h w).length := Int.natAbs_natCast _
  rw [e1, e2, Int.mul_one]
theorem judges_lt {h : House} {w : Nat} : ∀ j ∈ judgesOf h w, j < 6 := fun j hj => (mem_judges.mp hj).1
theorem right_top {h : House} {N w : Nat} (hs : Small h) (d : Den h N) : (rightBy h (allHands h) w).top.natAbs ≤ 2 ^ 10000 := by
  rw [right_eq]
  refine Nat.le_trans (frac_top _ _) (Nat.le_trans (part_top hs d _ _ rfl judges_lt) ?_)
  exact Nat.pow_le_pow_right (by decide) (by have := judges_le h w; omega)
theorem right_dvd {h : House} {N w : Nat} (d : Den h N) (hn : 0 < (judgesOf h w).length) : (rightBy h (allHands h) w).bottom ∣ 60 * N := by
  have r := right_by hn
  refine dvd_of_isI r.1 ?_
  rw [r.2]
  exact d.right hn
theorem hand_dvd {h : House} {N k : Nat} (d : Den h N) (hk : k < 6) : (handOf h k).bottom ∣ 60 * N := by
  have q : (handOf h k).bottom ∣ N := dvd_of_isI (hand_ok h hk) (d.hand k hk)
  exact Nat.dvd_trans q (Nat.dvd_mul_left _ _)
def lcmL (l : List Nat) : Nat := l.foldl (fun c b => c * b / Nat.gcd c b) 1
theorem lcmL_snoc (l : List Nat) (b : Nat) : lcmL (l ++ [b]) = lcmL l * b / Nat.gcd (lcmL l) b := by
  unfold lcmL
  rw [List.foldl_append]
  rfl
theorem lcmL_lcm (l : List Nat) (b : Nat) : lcmL (l ++ [b]) = Nat.lcm (lcmL l) b := lcmL_snoc l b
theorem snoc_ind {α : Type} {P : List α → Prop} (h0 : P []) (h1 : ∀ l x, P l → P (l ++ [x])) : ∀ (n : Nat) (l : List α), l.length = n → P l
  | 0, l, hn => by
    have : l = [] := List.eq_nil_of_length_eq_zero hn
    subst this
    exact h0
  | n + 1, l, hn => by
    have hne : l ≠ [] := by intro e; rw [e] at hn; cases hn
    have e := List.dropLast_concat_getLast hne
    rw [← e]
    refine h1 _ _ (snoc_ind h0 h1 n _ ?_)
    rw [List.length_dropLast, hn]
    rfl
theorem lcmL_dvd {M : Nat} (l : List Nat) : (∀ b ∈ l, b ∣ M) → lcmL l ∣ M := by
  refine snoc_ind (P := fun l => (∀ b ∈ l, b ∣ M) → lcmL l ∣ M) (fun _ => Nat.one_dvd _) (fun l x ih h => ?_) l.length l rfl
  rw [lcmL_lcm]
  exact Nat.lcm_dvd (ih fun b hb => h b (List.mem_append_left _ hb)) (h x (by simp))
theorem dvd_lcmL (l : List Nat) : ∀ b ∈ l, b ∣ lcmL l := by
  refine snoc_ind (P := fun l => ∀ b ∈ l, b ∣ lcmL l) (fun b hb => by simp at hb) (fun l x ih b hb => ?_) l.length l rfl
  rw [lcmL_lcm]
  rcases List.mem_append.mp hb with hb | hb
  · exact Nat.dvd_trans (ih b hb) (Nat.dvd_lcm_left _ _)
  · rw [List.mem_singleton] at hb
    subst hb
    exact Nat.dvd_lcm_right _ _
theorem lcmL_pos {M : Nat} (hM : 0 < M) {l : List Nat} (h : ∀ b ∈ l, b ∣ M) : 0 < lcmL l ∧ lcmL l ≤ M := by
  have q := lcmL_dvd l h
  exact ⟨Nat.pos_of_dvd_of_pos q hM, Nat.le_of_dvd hM q⟩
def tm (q : Q) (B : Nat) : Int := q.top * ((B / q.bottom : Nat) : Int)
theorem tm_val {q : Q} (hq : 0 < q.bottom) {B : Nat} (hd : q.bottom ∣ B) : ((tm q B : Int) : Rat) = (B : Rat) * val q := by
  obtain ⟨c, rfl⟩ := hd
  unfold tm val
  rw [Nat.mul_div_cancel_left _ hq, Rat.intCast_mul, Rat.intCast_natCast, Rat.natCast_mul]
  have := natne hq
  grind
def cmpd (h : House) (w : Nat) : List Nat := (List.range 16).filter fun v => compared h w v
theorem inc_ext : ∀ {a b : List Nat}, a.Pairwise (· < ·) → b.Pairwise (· < ·) → (∀ x, x ∈ a ↔ x ∈ b) → a = b
  | [], [], _, _, _ => rfl
  | [], y :: b, _, _, h => by have := (h y).mpr (by simp); simp at this
  | x :: a, [], _, _, h => by have := (h x).mp (by simp); simp at this
  | x :: a, y :: b, pa, pb, h => by
    rw [List.pairwise_cons] at pa pb
    have hxy : x = y := by
      have h1 := (h x).mp (by simp)
      have h2 := (h y).mpr (by simp)
      rcases List.mem_cons.mp h1 with e | e
      · exact e
      · rcases List.mem_cons.mp h2 with e2 | e2
        · exact e2.symm
        · have := pb.1 x e
          have := pa.1 y e2
          omega
    subst hxy
    rw [inc_ext pa.2 pb.2 fun z => ?_]
    constructor
    · intro hz
      rcases List.mem_cons.mp ((h z).mp (List.mem_cons_of_mem _ hz)) with e | e
      · have := pa.1 z hz
        omega
      · exact e
    · intro hz
      rcases List.mem_cons.mp ((h z).mpr (List.mem_cons_of_mem _ hz)) with e | e
      · have := pb.1 z hz
        omega
      · exact e
theorem cmpd_inc (h : House) (w : Nat) : (cmpd h w).Pairwise (· < ·) := List.Pairwise.filter _ List.pairwise_lt_range
theorem mem_cmpd {h : House} {w j : Nat} (hw : w < 16) (hj : j ∈ judgesOf h w) {g : List Nat} (ig : IsGroup h j g) (v : Nat) : v ∈ cmpd h w ↔ ∃ i ∈ g, v ∈ worksOf h i := by
  have hj6 := (mem_judges.mp hj).1
  have gm : ∀ i, i ∈ g ↔ i ∈ groupOf h j := fun i => ig.mem_iff (groupOf_is h hj6) i
  unfold cmpd
  rw [List.mem_filter]
  constructor
  · rintro ⟨hv, hc⟩
    have hv16 : v < 16 := by simpa using hv
    obtain ⟨j', hj', i, hi, hg⟩ := (compared_iff hw).mp hc
    have hj2 := mem_judges.mp hj'
    rw [group_same hw hj2.1 hj6 hj2.2 (mem_judges.mp hj).2] at hg
    exact ⟨i, (gm i).mpr hg, mem_works.mpr ⟨hv16, (mem_judges.mp hi).2⟩⟩
  · rintro ⟨i, hi, hv⟩
    obtain ⟨hv16, hh⟩ := mem_works.mp hv
    exact ⟨by simpa using hv16, (compared_iff hw).mpr ⟨j, hj, i, mem_judges.mpr ⟨ig.small i hi, hh⟩, (gm i).mp hi⟩⟩
theorem cmpd_judges {h : House} {w v : Nat} (hw : w < 16) (hv : v ∈ cmpd h w) : v < 16 ∧ 0 < (judgesOf h v).length := by
  unfold cmpd at hv
  rw [List.mem_filter] at hv
  obtain ⟨j', hj', i, hi, hg⟩ := (compared_iff hw).mp hv.2
  exact ⟨by simpa using hv.1, List.length_pos_of_mem hi⟩
def kle (B : Nat) (h : House) (u v : Nat) : Prop := -tm (rightBy h (allHands h) u) B < -tm (rightBy h (allHands h) v) B ∨ (tm (rightBy h (allHands h) u) B = tm (rightBy h (allHands h) v) B ∧ u ≤ v)
theorem order_eq {h : House} {w : Nat} (hw : w < 16) {B : Nat} (hB : 0 < B) (hd : ∀ v ∈ cmpd h w, (rightBy h (allHands h) v).bottom ∣ B) {out : List Nat} (hp : out.Perm (cmpd h w)) (ho : out.Pairwise (kle B h)) : out = order h w := by
  have hB0 : (0 : Rat) < (B : Rat) := natpos hB
  have okv : ∀ v ∈ cmpd h w, ok (rightBy h (allHands h) v) := fun v hv => (right_by (cmpd_judges hw hv).2).1
  have tv : ∀ v ∈ cmpd h w, ((tm (rightBy h (allHands h) v) B : Int) : Rat) = (B : Rat) * val (rightBy h (allHands h) v) := fun v hv => tm_val (okv v hv).1 (hd v hv)
  have nd : (cmpd h w).Nodup := (cmpd_inc h w).imp fun {a b} hab => Nat.ne_of_lt hab
  have ndo : out.Nodup := hp.nodup_iff.mpr nd
  have e : out.map (fun v => (v, rightBy h (allHands h) v)) = Kp202.sorted ((cmpd h w).map fun v => (v, rightBy h (allHands h) v)) := by
    refine pw_unique ((hp.map _).trans (sorted_perm _).symm) ?_ (sorted_pw (fun y hy => ?_) ?_)
    · rw [List.pairwise_map]
      refine List.Pairwise.imp_of_mem (fun {u v} hu hv q => ?_) (ho.and ndo)
      obtain ⟨q, hne⟩ := q
      have hu' := hp.mem_iff.mp hu
      have hv' := hp.mem_iff.mp hv
      have eu := tv u hu'
      have ev := tv v hv'
      unfold bef
      dsimp only
      rcases q with q | ⟨q, hle⟩
      · left
        have q' : tm (rightBy h (allHands h) v) B < tm (rightBy h (allHands h) u) B := by omega
        have q2 : ((tm (rightBy h (allHands h) v) B : Int) : Rat) < ((tm (rightBy h (allHands h) u) B : Int) : Rat) := Rat.intCast_lt_intCast.mpr q'
        rw [eu, ev] at q2
        exact (Rat.mul_lt_mul_left hB0).mp q2
      · right
        refine ⟨?_, by omega⟩
        rw [q] at eu
        rw [eu] at ev
        have hne0 := Rat.ne_of_gt hB0
        grind
    · obtain ⟨v, hv, rfl⟩ := List.mem_map.mp hy
      exact okv v hv
    · rw [List.map_map]
      have : (fun x : Nat × Q => x.1) ∘ (fun v => (v, rightBy h (allHands h) v)) = id := rfl
      rw [this, List.map_id]
      exact nd
  have e2 := congrArg (List.map fun x : Nat × Q => x.1) e
  rw [List.map_map] at e2
  have : (fun x : Nat × Q => x.1) ∘ (fun v => (v, rightBy h (allHands h) v)) = id := rfl
  rw [this, List.map_id] at e2
  exact e2
def lfI (h : House) (B j w : Nat) : Int := (B : Int) * mI h j w - tm (rightBy h (allHands h) w) B - tm (handOf h j) B
def offW (h : House) (B j : Nat) (t : Int) (w : Nat) : Int := t + lfI h B j w * lfI h B j w
def offJ (h : House) (B : Nat) (t : Int) (j : Nat) : Int := (worksOf h j).foldl (offW h B j) t
theorem lfI_val {h : House} {B j w : Nat} (hj : j < 6) (e : has h j w = true) (h1 : (rightBy h (allHands h) w).bottom ∣ B) (h2 : (handOf h j).bottom ∣ B) : ((lfI h B j w : Int) : Rat) = (B : Rat) * LF h j w := by
  have r := right_by (judges_pos hj e)
  unfold lfI LF
  rw [Rat.intCast_sub, Rat.intCast_sub, Rat.intCast_mul, tm_val r.1.1 h1, tm_val (hand_ok h hj).1 h2, mI_val, Rat.intCast_natCast, r.2]
  show _ = (B : Rat) * (MQ.mk h j w - RT h w - val (handOf h j))
  grind
theorem offW_val {h : House} {B j : Nat} (hj : j < 6) (h1 : ∀ w, has h j w = true → (rightBy h (allHands h) w).bottom ∣ B) (h2 : (handOf h j).bottom ∣ B) : ∀ (ws : List Nat) (t : Int), (∀ w ∈ ws, has h j w = true) →
    ((ws.foldl (offW h B j) t : Int) : Rat) = (t : Rat) + (B : Rat) * (B : Rat) * S ws (fun w => LF h j w * LF h j w)
  | [], t, _ => by
    rw [S_nil]
    show ((t : Int) : Rat) = _
    grind
  | w :: ws, t, hw => by
    rw [List.foldl_cons, offW_val hj h1 h2 ws _ fun v hv => hw v (List.mem_cons_of_mem _ hv), S_cons]
    unfold offW
    rw [Rat.intCast_add, Rat.intCast_mul, lfI_val hj (hw w (by simp)) (h1 w (hw w (by simp))) h2]
    grind
theorem offJ_val {h : House} {B : Nat} (h1 : ∀ j w, j < 6 → has h j w = true → (rightBy h (allHands h) w).bottom ∣ B) (h2 : ∀ j, j < 6 → (handOf h j).bottom ∣ B) : ∀ (js : List Nat) (t : Int), (∀ j ∈ js, j < 6) →
    ((js.foldl (offJ h B) t : Int) : Rat) = (t : Rat) + (B : Rat) * (B : Rat) * S js (fun j => S (List.range 16) (fun w => aa h j w * (LF h j w * LF h j w)))
  | [], t, _ => by
    rw [S_nil]
    show ((t : Int) : Rat) = _
    grind
  | j :: js, t, hj => by
    have hj6 := hj j (by simp)
    rw [List.foldl_cons, offJ_val h1 h2 js _ fun v hv => hj v (List.mem_cons_of_mem _ hv), S_cons]
    unfold offJ
    rw [offW_val hj6 (fun w e => h1 j w hj6 e) (h2 j hj6) _ _ fun w hw => (mem_works.mp hw).2, S_works]
    grind
theorem off_eq {h : House} (hw : Wf h) {B : Nat} (hB : 0 < B) (h1 : ∀ j w, j < 6 → has h j w = true → (rightBy h (allHands h) w).bottom ∣ B) (h2 : ∀ j, j < 6 → (handOf h j).bottom ∣ B) :
    frac ((List.range 6).foldl (offJ h B) 0) (B * B) = offBy h (handIn ((List.range WORKS).map (rightBy h (allHands h)))) (handIn (allHands h)) := by
  have f := frac_val ((List.range 6).foldl (offJ h B) 0) (B * B) (Nat.mul_pos hB hB)
  have o := off_val hw
  refine ok_ext f.1 o.1 ?_
  rw [f.2, o.2, offJ_val h1 h2 _ _ (fun j hj => by simpa using hj), Rat.natCast_mul]
  have := natne hB
  have z : ((0 : Int) : Rat) = 0 := rfl
  rw [z]
  grind
end MQ
end
section
set_option Elab.async false
set_option linter.all false
set_option maxRecDepth 100000
namespace L2
open PySem PySem.Spec PyProof.Rows
/-- a key: an int or a str -/
abbrev Key := Sum Int Str
def keyIs : Key → Value → Bool
  | .inl k, v => Value.isInt k v
  | .inr x, v => Value.isStrOf x v
def keyH (w : World) : Key → Int
  | .inl k => hashInt k
  | .inr x => hashStr w x
theorem keyIs_shape : ∀ {k : Key} {v : Value}, keyIs k v = true → (∃ i t, k = Sum.inl i ∧ v = Value.int i t) ∨ (∃ x t, k = Sum.inr x ∧ v = Value.str x t)
  | .inl i, v, h => by
    obtain ⟨t, e⟩ := Value.isInt_shape (k := i) (v := v) h
    exact .inl ⟨i, t, rfl, e⟩
  | .inr x, v, h => by
    obtain ⟨t, e⟩ := Value.isStrOf_shape (x := x) (v := v) h
    exact .inr ⟨x, t, rfl, e⟩
theorem keyIs_int (i : Int) (t : Tok) : keyIs (.inl i) (.int i t) = true := by simp [keyIs, Value.isInt]
theorem keyIs_str (x : Str) (t : Tok) : keyIs (.inr x) (.str x t) = true := by simp [keyIs, Value.isStrOf]
theorem key_ll (a b : Int) : decide ((Sum.inl a : Key) = Sum.inl b) = (a == b) := by
  by_cases e : a = b
  · subst e; simp
  · have h : ¬ (Sum.inl a : Key) = Sum.inl b := fun q => e (Sum.inl.inj q)
    rw [decide_eq_false h]
    exact (beq_eq_false_iff_ne.mpr e).symm
theorem key_rr (a b : Str) : decide ((Sum.inr a : Key) = Sum.inr b) = decide (a = b) := by
  by_cases e : a = b
  · subst e; simp
  · have h : ¬ (Sum.inr a : Key) = Sum.inr b := fun q => e (Sum.inr.inj q)
    rw [decide_eq_false h, decide_eq_false e]
theorem key_lr (a : Int) (b : Str) : decide ((Sum.inl a : Key) = Sum.inr b) = false := decide_eq_false (fun q => nomatch q)
theorem key_rl (a : Str) (b : Int) : decide ((Sum.inr a : Key) = Sum.inl b) = false := decide_eq_false (fun q => nomatch q)
def mixKind (prog : Program) (w : World) : PySem.KeyKind prog w Key where
  is := keyIs
  hash := keyH w
  inj := fun v a b ha hb => by
    rcases keyIs_shape ha with ⟨i, t, rfl, rfl⟩ | ⟨x, t, rfl, rfl⟩
    · rcases keyIs_shape hb with ⟨j, u, rfl, e⟩ | ⟨y, u, rfl, e⟩
      · injection e with e1 _; rw [e1]
      · exact nomatch e
    · rcases keyIs_shape hb with ⟨j, u, rfl, e⟩ | ⟨y, u, rfl, e⟩
      · exact nomatch e
      · injection e with e1 _; rw [e1]
  byValue := fun k v h => by
    rcases keyIs_shape h with ⟨i, t, rfl, rfl⟩ | ⟨x, t, rfl, rfl⟩ <;> rfl
  pyHash := fun hv h => by
    rcases keyIs_shape hv with ⟨i, t, rfl, rfl⟩ | ⟨x, t, rfl, rfl⟩
    · exact wpAny_pyHash_int h
    · exact wpAny_pyHash_str h
  eqBool := fun hu hv h => by
    rcases keyIs_shape hu with ⟨i, t, rfl, rfl⟩ | ⟨x, t, rfl, rfl⟩
    · rcases keyIs_shape hv with ⟨j, u, rfl, rfl⟩ | ⟨y, u, rfl, rfl⟩
      · rw [key_ll] at h; exact wpAny_eqBool_int h
      · rw [key_lr] at h; exact SeqAt.EqAt.int_str i t y u _ _ _ _ h
    · rcases keyIs_shape hv with ⟨j, u, rfl, rfl⟩ | ⟨y, u, rfl, rfl⟩
      · rw [key_rl] at h; exact SeqAt.EqAt.str_int x t j u _ _ _ _ h
      · rw [key_rr] at h; exact wpAny_eqBool_str h
  «strs» := fun k x t v h => by
    rcases keyIs_shape h with ⟨i, u, rfl, e⟩ | ⟨y, u, rfl, e⟩
    · exact nomatch e
    · injection e with e1 _
      subst e1
      cases v <;> rfl
theorem mixKind_int (prog : Program) (w : World) (i : Int) (t : Tok) : (mixKind prog w).is (.inl i) (.int i t) = true := keyIs_int i t
theorem mixKind_str (prog : Program) (w : World) (x : Str) (t : Tok) : (mixKind prog w).is (.inr x) (.str x t) = true := keyIs_str x t
end L2
namespace L2
open PySem PySem.Spec PyProof.Rows
/-- a value, without the heap -/
inductive V where
  | non | bl (b : Bool) | int (i : Int) | str (x : Str) | byt (b : Array UInt8) | flt (b : UInt64) | ref (a : Addr) | ty (n : String)
  deriving DecidableEq
def RelV : V → Value → Prop
  | .non, u => u = Value.none
  | .bl b, u => u = Value.bool b
  | .int i, u => ∃ t, u = Value.int i t
  | .str x, u => ∃ t, u = Value.str x t
  | .byt b, u => ∃ t, u = Value.bytes b t
  | .flt b, u => ∃ t, u = Value.float b t
  | .ref a, u => u = Value.ref a
  | .ty n, u => u = Value.type n
abbrev Vals : List V → List Value → Prop := Paired RelV
theorem Vals.length {xs : List V} {us : List Value} (r : Vals xs us) : xs.length = us.length := Paired.length r
theorem Vals.get : ∀ {xs : List V} {us : List Value} {i : Nat} {x : V}, Vals xs us → xs[i]? = some x → ∃ u, us[i]? = some u ∧ RelV x u
  | _, _, _, _, .nil, e => by simp at e
  | _, _, 0, _, .cons r _, e => by simp at e; subst e; exact ⟨_, rfl, r⟩
  | _, _, i + 1, x, .cons _ t, e => by
    obtain ⟨u, h1, h2⟩ := Vals.get (i := i) (x := x) t (by simpa using e)
    exact ⟨u, by simpa using h1, h2⟩
theorem Vals.set {x : V} {u : Value} (r : RelV x u) : ∀ {xs : List V} {us : List Value} (i : Nat), Vals xs us → Vals (xs.set i x) (us.set i u)
  | _, _, _, .nil => .nil
  | _, _, 0, .cons _ t => .cons r t
  | _, _, i + 1, .cons q t => .cons q (Vals.set r i t)
theorem Vals.append : ∀ {xs ys : List V} {us ws : List Value}, Vals xs us → Vals ys ws → Vals (xs ++ ys) (us ++ ws)
  | _, _, _, _, .nil, s => s
  | _, _, _, _, .cons r t, s => .cons r (Vals.append t s)
theorem Vals.take : ∀ {xs : List V} {us : List Value} (n : Nat), Vals xs us → Vals (xs.take n) (us.take n)
  | _, _, 0, _ => .nil
  | _, _, _ + 1, .nil => .nil
  | _, _, n + 1, .cons r t => .cons r (Vals.take n t)
theorem Vals.drop : ∀ {xs : List V} {us : List Value} (n : Nat), Vals xs us → Vals (xs.drop n) (us.drop n)
  | _, _, 0, r => r
  | _, _, _ + 1, .nil => .nil
  | _, _, n + 1, .cons _ t => Vals.drop n t
def RelO : Option V → Option Value → Prop
  | some v, some u => RelV v u
  | none, none => True
  | _, _ => False
def KV {κ : Type} : List (κ × V) → List (κ × Value) → Prop := Paired fun (p : κ × V) (q : κ × Value) => p.1 = q.1 ∧ RelV p.2 q.2
/-- a key of a dict (00_mix): an int or a text -/
def kV : Key → V
  | .inl i => .int i
  | .inr x => .str x
/-- what stands at a tracked address -/
inductive HO where
  /-- a list -/
  | lst (xs : List V)
  /-- a tuple (never changes) -/
  | tup (xs : List V)
  /-- a dict whose keys are ints and texts; one whose keys are tuples of ints and texts (the empty one is both) -/
  | dK (kvs : List (Key × V)) | dT (kvs : List (List Key × V))
  /-- a set of ints: its members, its size -/
  | set (S : Int → Bool) (n : Nat)
  /-- an instance of the class at C, its dict at dx, its attributes -/
  | ins (C dx : Addr) (fs : List (Str × V))
  /-- the dict of the instance at x -/
  | own (x : Addr)
  /-- the dict of an exception -/
  | xd (fs : List (Str × V))
  /-- a bound method, f of x -/
  | met (f x : Addr)
  /-- a range object lo, lo + 1, .. below hi -/
  | rng (lo hi : Int)
  /-- a thing that is known to the object (the script; a dict while a loop walks it): read, never written while it is so -/
  | frz (o : Obj) (u : HO)
  /-- a code object's table -/
  | tbl (ps : Array Value)
  /-- any other thing, by what is true of its one object (a def of one's own: SetO a S n := HO.ext fun h => ..) -/
  | ext (φ : Heap → Prop)
abbrev Hp := Addr → Option HO
def upd (H : Hp) (a : Addr) (o : HO) : Hp := fun b => if b = a then some o else H b
theorem upd_same {H : Hp} {a : Addr} {o : HO} : upd H a o a = some o := by unfold upd; rw [if_pos rfl]
theorem upd_ne {H : Hp} {a b : Addr} {o : HO} (h : b ≠ a) : upd H a o b = H b := by unfold upd; rw [if_neg h]
theorem upd_upd {H : Hp} {a : Addr} {o u : HO} : upd (upd H a o) a u = upd H a u := by
  funext b; unfold upd; split <;> rfl
/-- two objects of different content stand apart -/
theorem ne_of {H : Hp} {a b : Addr} {o u : HO} (h : H a = some o) (h' : H b = some u) (d : o ≠ u) : a ≠ b := by
  intro e; subst e; rw [h] at h'; exact d (Option.some.inj h')
theorem ne_of_none {H : Hp} {a b : Addr} {o : HO} (h : H a = some o) (h' : H b = none) : a ≠ b := by
  intro e; subst e; rw [h] at h'; cases h'
section
variable (P : Program) (w : World)
def ObjOk (H : Hp) (h : Heap) (a : Addr) : HO → Prop
  | .lst xs => xs.length ≤ sizeLine ∧ ∃ (its : List Value) (n : Nat), Vals xs its ∧ h.get? a = some { cls := .type "list", data := .seq its.toArray n }
  | .tup xs => xs.length ≤ sizeLine ∧ ∃ its : List Value, Vals xs its ∧ IsTup h a its.toArray
  | .dK kvs => kvs.length ≤ sizeLine ∧ (a == sysModules) = false ∧ ∃ vs, KV kvs vs ∧ h.DictOf (mixKind P w) a vs
  | .dT kvs => kvs.length ≤ sizeLine ∧ (a == sysModules) = false ∧ ∃ xs : List (List Key × Addr × Value),
      Paired (fun (p : List Key × V) (q : List Key × Addr × Value) => p.1 = q.1 ∧ H q.2.1 = some (.tup (p.1.map kV)) ∧ RelV p.2 q.2.2) kvs xs ∧
      ∃ o es ep, h.get? a = some o ∧ o.ExactDict ∧ o.data = .dict es ep ∧ es.toList = xs.map (entryOfKey (tupleKind (mixKind P w))) ∧ (xs.map (·.1)).Nodup
  | .set S n => h.SetOf (intKind P w) a S n
  | .ins C dx fs => H dx = some (.own a) ∧ fs.length ≤ 1000 ∧ dx ≠ a ∧ h.get? a = some (PySem.W.instObj C dx) ∧
      ∃ mA, h.Ns1 dx mA ∧ (∀ f, RelO (fs.lookup f) (mA f)) ∧ PySem.Within mA (fs.map (·.1))
  | .own _ => ∃ o, h.get? a = some o
  | .xd fs => ∃ mA, h.Ns1 a mA ∧ ∀ f, RelO (fs.lookup f) (mA f)
  | .rng lo hi => ∃ t u v, h.get? a = some { cls := .type "range", data := .fields #[.int lo t, .int hi u, .int 1 v] }
  | .frz o u => h.get? a = some o ∧ ObjOk H h a u
  | .tbl ps => h.get? a = some { cls := .none, data := .fields ps }
  | .met f x => h.get? a = some (PySem.W.methodObj (.ref f) (.ref x))
  | .ext φ => φ h ∧ (∃ o, h.get? a = some o) ∧ ∀ h1 h2 : Heap, φ h1 → (∀ o, h1.get? a = some o → h2.get? a = some o) → φ h2
/-- the abstract heap is held -/
def HOk (H : Hp) (h : Heap) : Prop := ∀ a o, H a = some o → ObjOk P w H h a o
end
section
variable {P : Program} {w : World} {H H' : Hp} {h h' : Heap} {a : Addr} {o : HO}
theorem ObjOk.lt (x : ObjOk P w H h a o) : a < h.objs.size := by
  cases o with
  | lst xs => obtain ⟨_, _, _, _, e⟩ := x; exact Heap.lt_size e
  | tup xs => obtain ⟨_, _, _, p⟩ := x; exact p.lt
  | dK kvs => obtain ⟨_, _, _, _, o, _, _, e, _⟩ := x; exact Heap.lt_size e
  | dT kvs => obtain ⟨_, _, _, _, o, _, _, e, _⟩ := x; exact Heap.lt_size e
  | set S n => obtain ⟨o, _, _, _, e, _⟩ := x; exact Heap.lt_size e
  | ins C dx fs => obtain ⟨_, _, _, e, _⟩ := x; exact Heap.lt_size e
  | own y => obtain ⟨_, e⟩ := x; exact Heap.lt_size e
  | xd fs => obtain ⟨_, ⟨_, _, _, e, _⟩, _⟩ := x; exact Heap.lt_size e
  | rng lo hi => obtain ⟨_, _, _, e⟩ := x; exact Heap.lt_size e
  | frz ob u => obtain ⟨e, _⟩ := x; exact Heap.lt_size e
  | tbl ps => exact Heap.lt_size (show h.get? a = some _ from x)
  | met f y => exact Heap.lt_size (show h.get? a = some _ from x)
  | ext φ => obtain ⟨_, ⟨_, e⟩, _⟩ := x; exact Heap.lt_size e
theorem Paired.mapP {α β : Type} {F G : α → β → Prop} : ∀ {l₁ : List α} {l₂ : List β}, Paired F l₁ l₂ → (∀ a b, F a b → G a b) → Paired G l₁ l₂
  | _, _, .nil, _ => .nil
  | _, _, .cons r t, f => .cons (f _ _ r) (Paired.mapP t f)
/-- what an object's description leans on: its own object, its own dict, the tuples -/
theorem ObjOk.stay (x : ObjOk P w H h a o) (k : ∀ b u, (b = a ∨ H b = some (.own a)) → h.get? b = some u → h'.get? b = some u)
    (ho : ∀ b, H b = some (.own a) → H' b = some (.own a)) (ht : ∀ b xs, H b = some (.tup xs) → H' b = some (.tup xs)) : ObjOk P w H' h' a o := by
  induction o with
  | lst xs => obtain ⟨z, its, n, r, e⟩ := x; exact ⟨z, its, n, r, k _ _ (.inl rfl) e⟩
  | tup xs => obtain ⟨z, its, r, ob, e, c⟩ := x; exact ⟨z, its, r, ob, k _ _ (.inl rfl) e, c⟩
  | dK kvs => obtain ⟨z, y, vs, r, ob, es, ep, e, c⟩ := x; exact ⟨z, y, vs, r, ob, es, ep, k _ _ (.inl rfl) e, c⟩
  | dT kvs =>
    obtain ⟨z, y, xs, r, ob, es, ep, e, c⟩ := x
    exact ⟨z, y, xs, Paired.mapP r fun p q z => ⟨z.1, ht _ _ z.2.1, z.2.2⟩, ob, es, ep, k _ _ (.inl rfl) e, c⟩
  | set S n => obtain ⟨ob, es, ep, t, e, c⟩ := x; exact ⟨ob, es, ep, t, k _ _ (.inl rfl) e, c⟩
  | ins C dx fs =>
    obtain ⟨d, z, ne, e, mA, ⟨od, es, ep, e2, c⟩, r⟩ := x
    exact ⟨ho _ d, z, ne, k _ _ (.inl rfl) e, mA, ⟨od, es, ep, k _ _ (.inr d) e2, c⟩, r⟩
  | own y => obtain ⟨ob, e⟩ := x; exact ⟨ob, k _ _ (.inl rfl) e⟩
  | xd fs => obtain ⟨mA, ⟨od, es, ep, e, c⟩, r⟩ := x; exact ⟨mA, ⟨od, es, ep, k _ _ (.inl rfl) e, c⟩, r⟩
  | rng lo hi => obtain ⟨t, u, v, e⟩ := x; exact ⟨t, u, v, k _ _ (.inl rfl) e⟩
  | frz ob u ih => obtain ⟨e, q⟩ := x; exact ⟨k _ _ (.inl rfl) e, ih q⟩
  | tbl ps =>
    have e : h.get? a = some { cls := .none, data := .fields ps } := x
    show h'.get? a = some { cls := .none, data := .fields ps }
    exact k a _ (.inl rfl) e
  | met f y =>
    have e : h.get? a = some (PySem.W.methodObj (.ref f) (.ref y)) := x
    show h'.get? a = some (PySem.W.methodObj (.ref f) (.ref y))
    exact k a _ (.inl rfl) e
  | ext φ => obtain ⟨p, ⟨o, e⟩, st⟩ := x; exact ⟨st _ _ p fun o q => k _ _ (.inl rfl) q, ⟨o, k _ _ (.inl rfl) e⟩, st⟩
theorem HOk.lt (x : HOk P w H h) (e : H a = some o) : a < h.objs.size := (x a o e).lt
theorem HOk.fresh (x : HOk P w H h) (e : h.objs.size ≤ a) : H a = none := by
  cases q : H a with
  | none => rfl
  | some u => exact absurd (Nat.lt_of_lt_of_le (x.lt q) e) (Nat.lt_irrefl _)
/-- every object of the heap is kept -/
theorem HOk.kept (x : HOk P w H h) (k : ∀ b u, h.get? b = some u → h'.get? b = some u) : HOk P w H h' := fun a o e =>
  (x a o e).stay (fun b u _ q => k b u q) (fun _ q => q) fun _ _ q => q
/-- a new object is laid and tracked -/
theorem HOk.laid (x : HOk P w H h) (k : ∀ b u, h.get? b = some u → h'.get? b = some u) (hp : h.objs.size ≤ a) (new : ObjOk P w (upd H a o) h' a o) : HOk P w (upd H a o) h' := fun b u e => by
  have hn := x.fresh hp
  by_cases hb : b = a
  · subst hb; rw [upd_same] at e; cases e; exact new
  · rw [upd_ne hb] at e
    exact (x b u e).stay (fun c v _ q => k c v q) (fun c q => by rw [upd_ne (ne_of_none q hn)]; exact q) fun c xs q => by rw [upd_ne (ne_of_none q hn)]; exact q
end
/-- what may be read as u: it is u, or a known u -/
def Rd (H : Hp) (a : Addr) (u : HO) : Prop := H a = some u ∨ ∃ o, H a = some (.frz o u)
theorem Rd.ok {P : Program} {w : World} {H : Hp} {h : Heap} {a : Addr} {u : HO} (r : Rd H a u) (x : HOk P w H h) : ObjOk P w H h a u := by
  rcases r with r | ⟨o, r⟩
  · exact x a u r
  · obtain ⟨_, q⟩ := x a _ r
    exact q
/-- what may be written -/
def Mut : Option HO → Prop
  | some (.lst _) => True
  | some (.dK _) => True
  | some (.dT _) => True
  | some (.set _ _) => True
  | some (.ins _ _ _) => True
  | some (.ext _) => True
  | _ => False
section
variable {P : Program} {w : World} {H : Hp} {h h' : Heap} {x e : Addr} {o' : HO}
/-- the object at e is changed: x itself, or the dict of the instance x -/
theorem HOk.write (ok : HOk P w H h) (mu : Mut (H x)) (he : e = x ∨ H e = some (.own x)) (k : ∀ b u, b ≠ e → h.get? b = some u → h'.get? b = some u) (heo : ∃ u, h'.get? e = some u)
    (new : ObjOk P w (upd H x o') h' x o') : HOk P w (upd H x o') h' := fun b u q => by
  have nown : ∀ c y, H c = some (.own y) → c ≠ x := fun c y r z => by subst z; rw [r] at mu; exact mu
  have ntup : ∀ c xs, H c = some (.tup xs) → c ≠ x := fun c xs r z => by subst z; rw [r] at mu; exact mu
  by_cases hb : b = x
  · subst hb; rw [upd_same] at q; cases q; exact new
  · rw [upd_ne hb] at q
    by_cases hbe : b = e
    · have q' : H b = some (.own x) := by
        rcases he with z | z
        · exact absurd (hbe.trans z) hb
        · rw [hbe]; exact z
      rw [q] at q'; cases q'
      obtain ⟨v, hv⟩ := heo
      exact ⟨v, by rw [hbe]; exact hv⟩
    · refine (ok b u q).stay (fun c v hc r => k c v ?_ r) (fun c r => by rw [upd_ne (nown c b r)]; exact r) fun c xs r => by rw [upd_ne (ntup c xs r)]; exact r
      rcases hc with rfl | hc
      · exact hbe
      · rintro rfl
        rcases he with z | z
        · exact nown c b hc z
        · rw [hc] at z; cases z; exact hb rfl
end
structure Un (fs ex : List Addr) (H H' : Hp) (h h' : Heap) : Prop where
  keep : ∀ b o, h.get? b = some o → H b = none → b ∉ fs → b ∉ ex → h'.get? b = some o
  slot : ∀ b o, h.get? b = some o → H b = none → b ∈ fs → b ∉ ex → ∃ sl, h'.get? b = some { o with slots := sl }
  free : ∀ b o, h.get? b = some o → H b = none → b ∉ ex → H' b = none
  there : ∀ b o, h.get? b = some o → b ∉ ex → ∃ o', h'.get? b = some o'
  tups : ∀ b xs, H b = some (.tup xs) → H' b = some (.tup xs)
  frzs : ∀ b o u, H b = some (.frz o u) → H' b = some (.frz o u)
  tbls : ∀ b ps, H b = some (.tbl ps) → ∃ more, H' b = some (.tbl (ps ++ more))
section
variable {fs fs' ex ex' : List Addr} {H H1 H2 : Hp} {h h1 h2 h' : Heap} {a x e : Addr} {o : HO}
theorem Un.any (u : Un fs ex H H1 h h1) {b : Addr} {ob : Obj} (q : h.get? b = some ob) (n : H b = none) (hx : b ∉ ex) : ∃ sl, h1.get? b = some { ob with slots := sl } := by
  by_cases hb : b ∈ fs
  · exact u.slot b ob q n hb hx
  · exact ⟨ob.slots, u.keep b ob q n hb hx⟩
theorem Un.kept (k : ∀ b u, h.get? b = some u → h'.get? b = some u) : Un fs ex H H h h' :=
  ⟨fun b ob q _ _ _ => k b ob q, fun b ob q _ _ _ => ⟨ob.slots, k b ob q⟩, fun _ _ _ n _ => n, fun b ob q _ => ⟨ob, k b ob q⟩, fun _ _ q => q, fun _ _ _ q => q, fun _ ps q => ⟨#[], by rw [q]; simp⟩⟩
theorem Un.refl : Un fs ex H H h h := Un.kept fun _ _ q => q
theorem Un.laid (k : ∀ b u, h.get? b = some u → h'.get? b = some u) (hp : h.objs.size ≤ a) (hn : H a = none) : Un fs ex H (upd H a o) h h' where
  keep := fun b u q _ _ _ => k b u q
  slot := fun b u q _ _ _ => ⟨u.slots, k b u q⟩
  free := fun b u q n _ => by rw [upd_ne (Nat.ne_of_lt (Nat.lt_of_lt_of_le (Heap.lt_size q) hp))]; exact n
  there := fun b u q _ => ⟨u, k b u q⟩
  tups := fun b xs q => by rw [upd_ne (ne_of_none q hn)]; exact q
  frzs := fun b u xs q => by rw [upd_ne (ne_of_none q hn)]; exact q
  tbls := fun b ps q => ⟨#[], by rw [upd_ne (ne_of_none q hn), q]; simp⟩
theorem Un.write (mu : Mut (H x)) (he : e = x ∨ H e = some (.own x)) (k : ∀ b u, b ≠ e → h.get? b = some u → h'.get? b = some u) (heo : ∃ u, h'.get? e = some u) : Un fs ex H (upd H x o) h h' := by
  have hx : ∀ b, H b = none → b ≠ x := fun b n z => by subst z; rw [n] at mu; exact mu
  have hb : ∀ b, H b = none → b ≠ e := fun b n z => by
    subst z
    rcases he with r | r
    · exact hx b n r
    · rw [n] at r; cases r
  have hm : ∀ b u, H b = some u → ¬ Mut (some u) → b ≠ x := fun b u q nm z => by subst z; rw [q] at mu; exact nm mu
  refine ⟨fun b u q n _ _ => k b u (hb b n) q, fun b u q n _ _ => ⟨u.slots, k b u (hb b n) q⟩, fun b u q n _ => by rw [upd_ne (hx b n)]; exact n, fun b u q _ => ?_,
    fun b xs q => by rw [upd_ne (hm b _ q fun z => z)]; exact q, fun b u xs q => by rw [upd_ne (hm b _ q fun z => z)]; exact q, fun b ps q => ⟨#[], by rw [upd_ne (hm b _ q fun z => z), q]; simp⟩⟩
  by_cases hbe : b = e
  · subst hbe; exact heo
  · exact ⟨u, k b u hbe q⟩
end
def trk (h : Heap) (H : Hp) : List Addr := (List.range h.objs.size).filter fun a => (H a).isSome
def hidT (h : Heap) (H : Hp) : Heap := PySem.W.hideAll h (trk h H)
theorem hidT_size (h : Heap) (H : Hp) : (hidT h H).objs.size = h.objs.size := PySem.W.hideAll_size _ _
theorem hidT_get {h : Heap} {H : Hp} {b : Addr} {o : Obj} (e : h.get? b = some o) (n : H b = none) : (hidT h H).get? b = some o :=
  PySem.W.hideAll_get _ e fun hm => by
    have q : (H b).isSome = true := (List.mem_filter.mp hm).2
    rw [n] at q; simp at q
theorem of_hidT {h : Heap} {H : Hp} {b : Addr} {o : Obj} (e : (hidT h H).get? b = some o) : h.get? b = some o ∧ H b = none := by
  have e' : h.get? b = some o := PySem.W.of_hideAll (trk h H) e
  refine ⟨e', ?_⟩
  cases q : H b with
  | none => rfl
  | some x =>
    have hm : b ∈ trk h H := List.mem_filter.mpr ⟨List.mem_range.mpr (Heap.lt_size e'), by simp [q]⟩
    have z : (hidT h H).get? b = none := PySem.W.hideAll_none (trk h H) hm
    rw [z] at e; cases e
end L2
namespace L2
open PySem PySem.Spec PyProof.Rows
/-- the module's facts, over the base: the heap at the law's entry without what is tracked there -/
structure Mod (K : PySem.W.Frag) (mg : Str → Option Value) (base : Heap) : Prop where
  kin : K.In base
  glob : base.Ns mainGlobals mg
  blt : ∃ mb, base.Ns builtinsNs mb ∧ ∀ x : Str, x ≠ "__name__" → mb x = bootBuiltins x
  nolimit : base.NoLimit
/-- the context: a def's body (or a comprehension's block) running. base: fixed through the whole law; s₀, H₀: the entry; outer: the frames whose slots others may change (a def's callers); stack: all frames that run;
   ex: iterators that were made ahead of the entry and are walked here (a comprehension's); fn: the names whose cells were made at the entry (a def: all; a comprehension's block: its own); calm: not within an except suite; pn: pins that every state bears; xe: what is wanted of an exception that leaves the code -/
structure Cx where
  prog : Program
  w : World
  K : PySem.W.Frag
  mg : Str → Option Value
  base : Heap
  A : Around
  N : List Str
  s_0 : Shared
  H_0 : Hp
  env : Env
  outer : List Env
  stack : List Env
  ex : List Addr
  fn : Str → Bool
  calm : Bool
  pn : List (Addr × Obj)
  xe : Value → Shared → Prop
/-- the callers' frames -/
def frs (l : List Env) : List Addr := l.filterMap (·.frame)
abbrev Cx.fs (X : Cx) : List Addr := frs X.outer
def Vis (sc : Scope) (x : Str) : Prop := sc.names.lookup x = some .local ∨ sc.names.lookup x = some .cell ∨ sc.names.lookup x = some .free
def Loc (sc : Scope) (x : Str) : Prop := sc.names.lookup x = some .local ∨ sc.names.lookup x = some .cell
def Look (env : Env) (h : Heap) (m : Str → Option Value) (x : Str) (u : Value) : Prop :=
  (env.kindOf x = some .local ∧ m x = some u) ∨ ((env.kindOf x = some .cell ∨ env.kindOf x = some .free) ∧ ∃ c, env.cells.lookup x = some c ∧ h.IsCell c (some u))
structure Cx.Ok (X : Cx) : Prop where
  mod : Mod X.K X.mg X.base
  kind : X.env.scope.kind = .function
  glob : X.env.globals = mainGlobals
  blt : X.env.builtins = builtinsNs
  above : X.s_0.heap.objs.size ≤ X.env.locals
  inj : ∀ x y c, X.env.cells.lookup x = some c → X.env.cells.lookup y = some c → x = y
  has : ∀ x, (X.env.kindOf x = some .cell ∨ X.env.kindOf x = some .free) → ∃ c, X.env.cells.lookup x = some c
  cab : ∀ x c, X.fn x = true → X.env.cells.lookup x = some c → X.s_0.heap.objs.size ≤ c
  hd : X.calm = true → X.A.handled = none
  frames : X.A.frames = some X.stack
  stk : X.stack = X.outer ∨ (X.stack = X.env :: X.outer ∧ X.env.frame = some X.env.locals)
  exf : ∀ b ∈ X.ex, b ≠ X.env.locals ∧ ∀ x c, X.env.cells.lookup x = some c → c ≠ b
  bs : ∀ b o, X.base.get? b = some o → X.s_0.heap.get? b = some o ∧ X.H_0 b = none
  bsz : X.base.objs.size ≤ X.s_0.heap.objs.size
  noex : ∀ b o, X.base.get? b = some o → b ∉ X.ex
  exfs : ∀ b ∈ X.ex, b ∉ X.fs
  funs : X.s_0.heap.FunFrames X.base X.outer
  frf : ∀ b ∈ X.fs, X.H_0 b = none
structure Inv (X : Cx) (pins : List (Addr × Obj)) (σ : List (Option V)) (H : Hp) (s : Shared) : Prop where
  ok : X.Ok
  os : s.os = X.s_0.os
  bare : AllBare s.gens
  base : Un X.fs X.ex X.H_0 H X.s_0.heap s.heap
  loc : ∃ m, s.heap.Ns X.env.locals m ∧ ∀ (i : Nat) (x : Str) (v : V), X.N[i]? = some x → σ[i]? = some (some v) → Vis X.env.scope x → ∃ u, RelV v u ∧ Look X.env s.heap m x u
  cell : ∀ x c, X.env.cells.lookup x = some c → ∃ v, s.heap.IsCell c v
  free : H X.env.locals = none
  freeC : ∀ x c, X.env.cells.lookup x = some c → H c = none
  pin : ∀ p ∈ X.pn ++ pins, s.heap.get? p.1 = some p.2 ∧ H p.1 = none ∧ p.1 ≠ X.env.locals ∧ p.1 ∉ X.fs ∧ ∀ v, p.2.data ≠ .cell v
  hok : HOk X.prog X.w H s.heap
  len : σ.length = X.N.length
section
variable {X : Cx} {pins : List (Addr × Obj)} {σ : List (Option V)} {H H' : Hp} {s : Shared} {h' : Heap}
theorem Cx.Ok.nofr (ok : X.Ok) {b : Addr} {o : Obj} (e : X.base.get? b = some o) : b ∉ X.fs := fun hb => by
  have := (ok.funs.mem hb).1
  rw [e] at this; cases this
theorem Inv.bs (I : Inv X pins σ H s) : ∀ b o, X.base.get? b = some o → s.heap.get? b = some o ∧ H b = none := fun b o e =>
  ⟨I.base.keep b o (I.ok.bs b o e).1 (I.ok.bs b o e).2 (I.ok.nofr e) (I.ok.noex b o e), I.base.free b o (I.ok.bs b o e).1 (I.ok.bs b o e).2 (I.ok.noex b o e)⟩
theorem Inv.bk (I : Inv X pins σ H s) : ∀ b o, X.base.get? b = some o → s.heap.get? b = some o := fun b o e => (I.bs b o e).1
theorem Inv.mod (I : Inv X pins σ H s) : Mod X.K X.mg X.base := I.ok.mod
theorem Inv.kIn (I : Inv X pins σ H s) : X.K.In s.heap := I.ok.mod.kin.keeps I.bk
theorem Inv.nolimit (I : Inv X pins σ H s) : s.heap.NoLimit := I.ok.mod.nolimit.keeps I.bk
/-- the frame over the base: for OpenK's rules (K.In X.base is I.mod.kin) -/
theorem Inv.fr (I : Inv X pins σ H s) : ∃ m, Fr X.base X.env.locals s.heap m :=
  let ⟨m, hn, _⟩ := I.loc
  ⟨m, hn, I.bk, Nat.le_trans I.ok.bsz I.ok.above⟩
theorem Inv.lt (I : Inv X pins σ H s) : X.env.locals < s.heap.objs.size := let ⟨_, hn, _⟩ := I.loc; hn.lt
theorem Inv.sz (I : Inv X pins σ H s) : X.s_0.heap.objs.size ≤ s.heap.objs.size := Nat.le_trans I.ok.above (Nat.le_of_lt I.lt)
theorem Inv.nofs (I : Inv X pins σ H s) {a : Addr} (h : s.heap.objs.size ≤ a) : a ∉ X.fs := fun hb => by
  obtain ⟨_, o, ho, _⟩ := I.ok.funs.mem hb
  exact absurd (Nat.lt_of_lt_of_le (Heap.lt_size ho) (Nat.le_trans I.sz h)) (Nat.lt_irrefl _)
theorem Inv.cne (I : Inv X pins σ H s) : ∀ x c, X.env.cells.lookup x = some c → c ≠ X.env.locals := fun x c e z => by
  obtain ⟨v, o, ho, hd⟩ := I.cell x c e
  obtain ⟨m, ⟨o', es, ep, ho', hd', _⟩, _⟩ := I.loc
  rw [z, ho'] at ho; cases ho; rw [hd'] at hd; cases hd
theorem Inv.funs (I : Inv X pins σ H s) : s.heap.FunFrames X.base X.outer := by
  have all : ∀ (l : List Env), (∀ b ∈ frs l, b ∈ X.fs) → X.s_0.heap.FunFrames X.base l → s.heap.FunFrames X.base l := by
    intro l
    induction l with
    | nil => intro _ _; trivial
    | cons env r ih =>
      intro hs hl
      obtain ⟨hk, ⟨L, o, hf, hn, ho, hd⟩, hr⟩ := hl
      have hL : L ∈ X.fs := hs L (by unfold frs; rw [List.filterMap_cons, hf]; exact List.mem_cons_self)
      obtain ⟨sl, e⟩ := I.base.slot L o ho (I.ok.frf L hL) hL fun z => I.ok.exfs L z hL
      exact ⟨hk, ⟨L, _, hf, hn, e, hd⟩, ih (fun b hb => hs b (by unfold frs; rw [List.filterMap_cons, hf]; exact List.mem_cons_of_mem _ hb)) hr⟩
  exact all X.outer (fun _ hb => hb) I.ok.funs
/-- the frames that run, for a call -/
theorem Inv.stack (I : Inv X pins σ H s) : s.heap.FunFrames X.base X.stack := by
  rcases I.ok.stk with e | ⟨e, hf⟩
  · rw [e]; exact I.funs
  · rw [e]
    obtain ⟨m, hn, _⟩ := I.loc
    refine .cons (by rw [I.ok.kind]; decide) hf hn ?_ I.funs
    exact Heap.get?_none_of_le (Nat.le_trans I.ok.bsz I.ok.above)
theorem Inv.stkSub (I : Inv X pins σ H s) : ∀ b ∈ frs X.stack, b ∈ X.env.locals :: X.fs := fun b hb => by
  rcases I.ok.stk with e | ⟨e, hf⟩
  · rw [e] at hb; exact List.mem_cons_of_mem _ hb
  · rw [e] at hb
    unfold frs at hb
    rw [List.filterMap_cons, hf] at hb
    exact hb
theorem Inv.stkFree (I : Inv X pins σ H s) : ∀ b ∈ frs X.stack, H b = none := fun b hb => by
  rcases List.mem_cons.mp (I.stkSub b hb) with e | hb
  · rw [e]; exact I.free
  · obtain ⟨_, o, ho, _⟩ := I.ok.funs.mem hb
    exact I.base.free b o ho (I.ok.frf b hb) fun z => I.ok.exfs b z hb
/-- THE STEP: the untracked objects but the frame and the records at ch are kept (the callers' frames up to slots), the frame's map is kept, the new abstract heap is held -/
theorem Inv.step {g' : Array GenState} {t' : Nat} {d' : Drawn} {ch : List Addr} (I : Inv X pins σ H s)
    (hch : ∀ b ∈ ch, (b ∈ X.ex ∨ X.s_0.heap.objs.size ≤ b) ∧ b ≠ X.env.locals ∧ (∀ x c, X.env.cells.lookup x = some c → c ≠ b) ∧ ∀ p ∈ X.pn ++ pins, p.1 ≠ b)
    (keep : ∀ b o, b ≠ X.env.locals → b ∉ X.fs → b ∉ ch → s.heap.get? b = some o → H b = none → h'.get? b = some o)
    (slot : ∀ b o, b ≠ X.env.locals → b ∈ X.fs → b ∉ ch → s.heap.get? b = some o → H b = none → ∃ sl, h'.get? b = some { o with slots := sl }) (free : ∀ b o, b ∉ ch → s.heap.get? b = some o → H b = none → H' b = none)
    (there : ∀ b o, b ∉ ch → s.heap.get? b = some o → ∃ o', h'.get? b = some o')
    (tups : ∀ b xs, H b = some (.tup xs) → H' b = some (.tup xs)) (frzs : ∀ b o u, H b = some (.frz o u) → H' b = some (.frz o u)) (tbls : ∀ b ps, H b = some (.tbl ps) → ∃ more, H' b = some (.tbl (ps ++ more)))
    (ns : ∀ m, s.heap.Ns X.env.locals m → h'.Ns X.env.locals m) (hok : HOk X.prog X.w H' h') (hg : AllBare g') :
    Inv X pins σ H' { s with heap := h', gens := g', drawn := d', toks := t' } := by
  have neL : ∀ b o, X.s_0.heap.get? b = some o → b ≠ X.env.locals := fun b o e => Nat.ne_of_lt (Nat.lt_of_lt_of_le (Heap.lt_size e) I.ok.above)
  have neC : ∀ b o, X.s_0.heap.get? b = some o → b ∉ X.ex → b ∉ ch := fun b o e hx hb => by
    rcases (hch b hb).1 with z | z
    · exact hx z
    · exact absurd (Nat.lt_of_lt_of_le (Heap.lt_size e) z) (Nat.lt_irrefl _)
  have cellK : ∀ x c, X.env.cells.lookup x = some c → ∀ v, s.heap.IsCell c v → h'.IsCell c v := fun x c e v ⟨o, ho, hd⟩ => by
    have nch : c ∉ ch := fun z => (hch c z).2.2.1 x c e rfl
    by_cases hc : c ∈ X.fs
    · obtain ⟨sl, q⟩ := slot c o (I.cne x c e) hc nch ho (I.freeC x c e)
      exact ⟨_, q, hd⟩
    · exact ⟨o, keep c o (I.cne x c e) hc nch ho (I.freeC x c e), hd⟩
  refine ⟨I.ok, I.os, hg, ⟨fun b o e n hb hx => ?_, fun b o e n hb hx => ?_, fun b o e n hx => ?_, fun b o e hx => ?_, fun b xs e => tups b xs (I.base.tups b xs e), fun b o xs e => frzs b o xs (I.base.frzs b o xs e), fun b ps e => ?_⟩, ?_, fun x c e => ?_, ?_, fun x c e => ?_, fun p hp => ?_, hok, I.len⟩
  · exact keep b o (neL b o e) hb (neC b o e hx) (I.base.keep b o e n hb hx) (I.base.free b o e n hx)
  · obtain ⟨sl, e1⟩ := I.base.slot b o e n hb hx
    obtain ⟨sl', e2⟩ := slot b _ (neL b o e) hb (neC b o e hx) e1 (I.base.free b o e n hx)
    exact ⟨sl', e2⟩
  · obtain ⟨o', e1⟩ := I.base.there b o e hx
    exact free b o' (neC b o e hx) e1 (I.base.free b o e n hx)
  · obtain ⟨o', e1⟩ := I.base.there b o e hx
    exact there b o' (neC b o e hx) e1
  · obtain ⟨m1, e1⟩ := I.base.tbls b ps e
    obtain ⟨m2, e2⟩ := tbls b _ e1
    exact ⟨m1 ++ m2, by rw [e2, Array.append_assoc]⟩
  · obtain ⟨m, hn, hl⟩ := I.loc
    refine ⟨m, ns m hn, fun i x v e1 e2 e3 => ?_⟩
    obtain ⟨u, r, l⟩ := hl i x v e1 e2 e3
    refine ⟨u, r, ?_⟩
    rcases l with l | ⟨k, c, e, z⟩
    · exact .inl l
    · exact .inr ⟨k, c, e, cellK x c e _ z⟩
  · obtain ⟨v, z⟩ := I.cell x c e
    exact ⟨v, cellK x c e v z⟩
  · obtain ⟨m, ⟨o, _, _, ho, _⟩, _⟩ := I.loc
    exact free _ o (fun z => (hch _ z).2.1 rfl) ho I.free
  · obtain ⟨v, o, ho, hd⟩ := I.cell x c e
    exact free c o (fun z => (hch c z).2.2.1 x c e rfl) ho (I.freeC x c e)
  · obtain ⟨e, n, ne, nf, d⟩ := I.pin p hp
    have nch : p.1 ∉ ch := fun z => (hch p.1 z).2.2.2 p hp rfl
    exact ⟨keep p.1 p.2 ne nf nch e n, free p.1 p.2 nch e n, ne, nf, d⟩
/-- .. where the frame's own object is kept too -/
theorem Inv.un {t' : Nat} (I : Inv X pins σ H s) (u : Un X.fs [] H H' s.heap h') (hok : HOk X.prog X.w H' h') : Inv X pins σ H' { s with heap := h', toks := t' } := by
  obtain ⟨m, ⟨o, es, ep, ho, r⟩, _⟩ := id I.loc
  obtain ⟨sl, hL⟩ := u.any ho I.free (by simp)
  exact I.step (g' := s.gens) (d' := s.drawn) (ch := []) (fun _ z => nomatch z) (fun b o _ hb _ e n => u.keep b o e n hb (by simp)) (fun b o _ hb _ e n => u.slot b o e n hb (by simp)) (fun b o _ e n => u.free b o e n (by simp)) (fun b o _ e => u.there b o e (by simp)) u.tups u.frzs u.tbls (fun m' hm => by
    obtain ⟨o', es', ep', ho', r'⟩ := hm
    rw [ho] at ho'; cases ho'
    exact ⟨_, es', ep', hL, r'⟩) hok I.bare
/-- behind a call (or a comprehension's block): the slots of this frame may have changed too, the records at ch may have turned -/
theorem Inv.call {g' : Array GenState} {t' : Nat} {d' : Drawn} {ch : List Addr} (I : Inv X pins σ H s) (u : Un (frs X.stack) ch H H' s.heap h') (hok : HOk X.prog X.w H' h') (hg : AllBare g')
    (hch : ∀ b ∈ ch, (b ∈ X.ex ∨ X.s_0.heap.objs.size ≤ b) ∧ b ≠ X.env.locals ∧ (∀ x c, X.env.cells.lookup x = some c → c ≠ b) ∧ ∀ p ∈ X.pn ++ pins, p.1 ≠ b) :
    Inv X pins σ H' { s with heap := h', gens := g', drawn := d', toks := t' } := by
  obtain ⟨m, ⟨o, es, ep, ho, r⟩, _⟩ := id I.loc
  obtain ⟨sl, hL⟩ := u.any ho I.free fun z => (hch _ z).2.1 rfl
  exact I.step (ch := ch) hch (fun b o hL hb hc e n => u.keep b o e n (fun z => (List.mem_cons.mp (I.stkSub b z)).elim hL hb) hc) (fun b o _ _ hc e n => u.any e n hc) (fun b o hc e n => u.free b o e n hc) (fun b o hc e => u.there b o e hc) u.tups u.frzs u.tbls (fun m' hm => by
    obtain ⟨o', es', ep', ho', r'⟩ := hm
    rw [ho] at ho'; cases ho'
    exact ⟨_, es', ep', hL, r'⟩) hok hg
/-- an untracked record of ours (an iterator) has turned -/
theorem Inv.turned {t' : Nat} {it : Addr} (I : Inv X pins σ H s) (k : ∀ b o, b ≠ it → s.heap.get? b = some o → h'.get? b = some o) (hn : H it = none) (hL : it ≠ X.env.locals)
    (h1 : it ∈ X.ex ∨ X.s_0.heap.objs.size ≤ it) (h2 : ∀ x c, X.env.cells.lookup x = some c → c ≠ it) (h3 : ∀ p ∈ X.pn ++ pins, p.1 ≠ it) : Inv X pins σ H { s with heap := h', toks := t' } := by
  have nit : ∀ b u, H b = some u → b ≠ it := fun b u e z => by rw [z, hn] at e; cases e
  refine I.step (g' := s.gens) (d' := s.drawn) (ch := [it]) (fun b hb => ?_) (fun b o _ _ hc e _ => k b o (fun z => hc (by simp [z])) e) (fun b o _ _ hc e _ => ⟨o.slots, k b o (fun z => hc (by simp [z])) e⟩) (fun _ _ _ _ n => n)
    (fun b o hc e => ⟨o, k b o (fun z => hc (by simp [z])) e⟩) (fun _ _ e => e) (fun _ _ _ e => e) (fun b ps e => ⟨#[], by rw [e]; simp⟩) (fun m hm => ?_) (fun b u e => ?_) I.bare
  · have e : b = it := by simpa using hb
    subst e
    exact ⟨h1, hL, h2, h3⟩
  · obtain ⟨o, es, ep, ho, r⟩ := hm
    exact ⟨o, es, ep, k _ o (Ne.symm hL) ho, r⟩
  · refine (I.hok b u e).stay (fun c v hc q => k c v ?_ q) (fun _ q => q) fun _ _ q => q
    rcases hc with z | z
    · rw [z]; exact nit b u e
    · exact nit c _ z
theorem Inv.tok (I : Inv X pins σ H s) (t : Nat) : Inv X pins σ H { s with toks := t } := I.un (h' := s.heap) (t' := t) Un.refl I.hok
/-- all objects kept -/
theorem Inv.kept {t' : Nat} (I : Inv X pins σ H s) (k : ∀ b u, s.heap.get? b = some u → h'.get? b = some u) : Inv X pins σ H { s with heap := h', toks := t' } := I.un (Un.kept k) (I.hok.kept k)
/-- a new object laid and tracked -/
theorem Inv.laid {a : Addr} {o : HO} {t' : Nat} (I : Inv X pins σ H s) (k : ∀ b u, s.heap.get? b = some u → h'.get? b = some u) (hp : s.heap.objs.size ≤ a) (new : ObjOk X.prog X.w (upd H a o) h' a o) :
    Inv X pins σ (upd H a o) { s with heap := h', toks := t' } := I.un (Un.laid k hp (I.hok.fresh hp)) (I.hok.laid k hp new)
/-- an object written -/
theorem Inv.write {x e : Addr} {o : HO} {t' : Nat} (I : Inv X pins σ H s) (mu : Mut (H x)) (he : e = x ∨ H e = some (.own x)) (k : ∀ b u, b ≠ e → s.heap.get? b = some u → h'.get? b = some u) (heo : ∃ u, h'.get? e = some u)
    (new : ObjOk X.prog X.w (upd H x o) h' x o) : Inv X pins σ (upd H x o) { s with heap := h', toks := t' } := I.un (Un.write mu he k heo) (I.hok.write mu he k heo new)
/-- forgetting slots, pins -/
theorem Inv.weak {σ' : List (Option V)} (I : Inv X pins σ H s) (hl : σ'.length = σ.length) (w : ∀ (i : Nat) v, σ'[i]? = some (some v) → σ[i]? = some (some v)) : Inv X pins σ' H s :=
  ⟨I.ok, I.os, I.bare, I.base, let ⟨m, hn, hl'⟩ := I.loc; ⟨m, hn, fun i x v e1 e2 e3 => hl' i x v e1 (w i v e2) e3⟩, I.cell, I.free, I.freeC, I.pin, I.hok, hl.trans I.len⟩
theorem Inv.pins_of {pins' : List (Addr × Obj)} (I : Inv X pins σ H s) (h : ∀ p ∈ pins', s.heap.get? p.1 = some p.2 ∧ H p.1 = none ∧ p.1 ≠ X.env.locals ∧ p.1 ∉ X.fs ∧ ∀ v, p.2.data ≠ .cell v) : Inv X pins' σ H s :=
  ⟨I.ok, I.os, I.bare, I.base, I.loc, I.cell, I.free, I.freeC, fun p hp => (List.mem_append.mp hp).elim (fun z => I.pin p (List.mem_append_left _ z)) (h p), I.hok, I.len⟩
theorem nodup_ix {N : List Str} (hN : N.Nodup) {i j : Nat} {x : Str} (a : N[i]? = some x) (b : N[j]? = some x) : i = j := by
  obtain ⟨h1, e1⟩ := List.getElem?_eq_some_iff.mp a
  obtain ⟨h2, e2⟩ := List.getElem?_eq_some_iff.mp b
  exact (List.getElem_inj hN).mp (e1.trans e2.symm)
/-- a name is stored; what changed -/
theorem store_ok2 {M : Model} {A : Around} {E : Value → Shared → Prop} {i : Nat} {x : Str} {v : V} {u : Value} {Q : Unit → Shared → Prop} (I : Inv X pins σ H s) (hN : X.N.Nodup) (hi : X.N[i]? = some x) (hx : Loc X.env.scope x) (r : RelV v u)
    (h : ∀ s', Inv X pins (σ.set i (some v)) H s' → (∃ a, Heap.SameBut a s.heap s'.heap ∧ (a = X.env.locals ∨ X.env.cells.lookup x = some a)) → Q () s') (hf : X.fn x = true ∨ X.env.scope.names.lookup x = some .local := by first | exact .inl rfl | exact .inr rfl | assumption) : wpAny M A (storeName X.env x u) Q E s := by
  obtain ⟨m, hn, hl⟩ := id I.loc
  have hcls : (X.env.scope.kind == .class || (X.env.scope.kind == .module && X.env.locals != X.env.globals)) = false := by rw [I.ok.kind]; rfl
  have hiσ : i < σ.length := by rw [I.len]; exact (List.getElem?_eq_some_iff.mp hi).1
  have cne := I.cne
  have tracked : ∀ {a : Addr} {h' : Heap}, (∃ o, s.heap.get? a = some o ∧ H a = none) → Heap.SameBut a s.heap h' → HOk X.prog X.w H h' := fun {a h'} ha hs b ob e => by
    obtain ⟨_, _, hfree⟩ := ha
    refine (I.hok b ob e).stay (fun c w' hc q => (hs.2 c ?_).trans q) (fun _ q => q) fun _ _ q => q
    rintro rfl
    rcases hc with rfl | hc
    · rw [hfree] at e; cases e
    · rw [hfree] at hc; cases hc
  rcases hx with hk | hk
  · refine wpAny_storeName_local hk hn (fun h' hn' hs => ?_) hcls
    obtain ⟨oL, _, _, hoL, _⟩ := id hn
    refine h _ ⟨I.ok, I.os, I.bare, ⟨fun b o e n hb hx => ?_, fun b o e n hb hx => ?_, I.base.free, fun b o e hx => ?_, I.base.tups, I.base.frzs, I.base.tbls⟩, ⟨_, hn', fun j y v' e1 e2 e3 => ?_⟩, fun y c e => ?_, I.free, I.freeC, fun p hp => ?_, tracked ⟨oL, hoL, I.free⟩ hs, by simpa using I.len⟩ ⟨_, hs, .inl rfl⟩
    · exact (hs.2 b (Nat.ne_of_lt (Nat.lt_of_lt_of_le (Heap.lt_size e) I.ok.above))).trans (I.base.keep b o e n hb hx)
    · obtain ⟨sl, e1⟩ := I.base.slot b o e n hb hx
      exact ⟨sl, (hs.2 b (Nat.ne_of_lt (Nat.lt_of_lt_of_le (Heap.lt_size e) I.ok.above))).trans e1⟩
    · obtain ⟨o', e1⟩ := I.base.there b o e hx
      exact ⟨o', (hs.2 b (Nat.ne_of_lt (Nat.lt_of_lt_of_le (Heap.lt_size e) I.ok.above))).trans e1⟩
    · by_cases hj : j = i
      · subst hj
        rw [hi] at e1; cases e1
        rw [List.getElem?_set_self hiσ] at e2
        cases e2
        exact ⟨u, r, .inl ⟨hk, by simp⟩⟩
      · rw [List.getElem?_set_ne (Ne.symm hj)] at e2
        obtain ⟨u', r', q⟩ := hl j y v' e1 e2 e3
        refine ⟨u', r', ?_⟩
        rcases q with ⟨k, e⟩ | ⟨k, c, e, z⟩
        · refine .inl ⟨k, ?_⟩
          have : y ≠ x := fun e => hj (nodup_ix hN e1 (e ▸ hi))
          simp [this, e]
        · exact .inr ⟨k, c, e, z.sameBut hs (cne y c e)⟩
    · obtain ⟨w', z⟩ := I.cell y c e
      exact ⟨w', z.sameBut hs (cne y c e)⟩
    · obtain ⟨e, n, ne, nf, d⟩ := I.pin p hp
      exact ⟨(hs.2 p.1 ne).trans e, n, ne, nf, d⟩
  · have hfn : X.fn x = true := by
      rcases hf with z | z
      · exact z
      · rw [z] at hk; cases hk
    obtain ⟨c, hc⟩ := I.ok.has x (.inl hk)
    obtain ⟨w', z⟩ := I.cell x c hc
    refine wpAny_storeName_cell I.ok.kind hk hc z (fun h' hc' hs => ?_)
    obtain ⟨oc, hoc, hocd⟩ := id z
    refine h { s with heap := h' } ⟨I.ok, I.os, I.bare, ⟨fun b o e n hb hx => ?_, fun b o e n hb hx => ?_, I.base.free, fun b o e hx => ?_, I.base.tups, I.base.frzs, I.base.tbls⟩, ⟨m, hn.sameBut hs (Ne.symm (cne x c hc)), fun j y v' e1 e2 e3 => ?_⟩, fun y c' e => ?_, I.free, I.freeC, fun p hp => ?_, tracked ⟨oc, hoc, I.freeC x c hc⟩ hs, by simpa using I.len⟩ ⟨c, hs, .inr hc⟩
    · exact (hs.2 b (Nat.ne_of_lt (Nat.lt_of_lt_of_le (Heap.lt_size e) (I.ok.cab x c hfn hc)))).trans (I.base.keep b o e n hb hx)
    · obtain ⟨sl, e1⟩ := I.base.slot b o e n hb hx
      exact ⟨sl, (hs.2 b (Nat.ne_of_lt (Nat.lt_of_lt_of_le (Heap.lt_size e) (I.ok.cab x c hfn hc)))).trans e1⟩
    · obtain ⟨o', e1⟩ := I.base.there b o e hx
      exact ⟨o', (hs.2 b (Nat.ne_of_lt (Nat.lt_of_lt_of_le (Heap.lt_size e) (I.ok.cab x c hfn hc)))).trans e1⟩
    · by_cases hj : j = i
      · subst hj
        rw [hi] at e1; cases e1
        rw [List.getElem?_set_self hiσ] at e2
        cases e2
        exact ⟨u, r, .inr ⟨.inl hk, c, hc, hc'⟩⟩
      · rw [List.getElem?_set_ne (Ne.symm hj)] at e2
        obtain ⟨u', r', q⟩ := hl j y v' e1 e2 e3
        refine ⟨u', r', ?_⟩
        rcases q with q | ⟨k, c', e, z'⟩
        · exact .inl q
        · refine .inr ⟨k, c', e, z'.sameBut hs ?_⟩
          rintro rfl
          exact hj (nodup_ix hN e1 (I.ok.inj _ _ _ e hc ▸ hi))
    · by_cases hcc : c' = c
      · subst hcc; exact ⟨_, hc'⟩
      · obtain ⟨w2, z2⟩ := I.cell y c' e
        exact ⟨w2, z2.sameBut hs hcc⟩
    · obtain ⟨e, n, ne, nf, d⟩ := I.pin p hp
      refine ⟨(hs.2 p.1 ?_).trans e, n, ne, nf, d⟩
      intro q
      rw [q, hoc] at e
      have q' : oc = p.2 := Option.some.inj e
      exact d w' (by rw [← q']; exact hocd)
theorem store_ok {M : Model} {A : Around} {E : Value → Shared → Prop} {i : Nat} {x : Str} {v : V} {u : Value} {Q : Unit → Shared → Prop} (I : Inv X pins σ H s) (hN : X.N.Nodup) (hi : X.N[i]? = some x) (hx : Loc X.env.scope x) (r : RelV v u)
    (h : ∀ s', Inv X pins (σ.set i (some v)) H s' → Q () s') (hf : X.fn x = true ∨ X.env.scope.names.lookup x = some .local := by first | exact .inl rfl | exact .inr rfl | assumption) : wpAny M A (storeName X.env x u) Q E s :=
  store_ok2 I hN hi hx r (fun s' I' _ => h s' I') hf
/-- behind a call or a block, the state as it is -/
theorem Inv.call' {s' : Shared} {ch : List Addr} (I : Inv X pins σ H s) (ho : s'.os = s.os) (u : Un (frs X.stack) ch H H' s.heap s'.heap) (hok : HOk X.prog X.w H' s'.heap) (hg : AllBare s'.gens)
    (hch : ∀ b ∈ ch, (b ∈ X.ex ∨ X.s_0.heap.objs.size ≤ b) ∧ b ≠ X.env.locals ∧ (∀ x c, X.env.cells.lookup x = some c → c ≠ b) ∧ ∀ p ∈ X.pn ++ pins, p.1 ≠ b) : Inv X pins σ H' s' := by
  obtain ⟨h', g', d', t', o'⟩ := s'
  have e : o' = s.os := ho
  subst e
  exact I.call (g' := g') (t' := t') (d' := d') u hok hg hch
end
/-- an exception: its class, its own dict's address (where it has one), the abstract heap behind it -/
abbrev XK := Value → Option Addr → Hp → Prop
abbrev St := List (Option V)
abbrev VK := V → Hp → Prop
/-- an expression's reading; a test's; an argument list's -/
abbrev TE := St → Hp → VK → Prop
abbrev TT := St → Hp → (Bool → Hp → Prop) → Prop
abbrev TA := St → Hp → (List V → Hp → Prop) → Prop
/-- what is wanted behind a statement -/
structure Ends where
  nx : St → Hp → Prop
  rt : VK
  bk : St → Hp → Prop := fun _ _ => False
  ct : St → Hp → Prop := fun _ _ => False
abbrev TS := Ends → St → Hp → Prop
def EP (X : Cx) (pins : List (Addr × Obj)) (σ : St) (Q : VK) (u : Value) (s' : Shared) : Prop := ∃ v H', Inv X pins σ H' s' ∧ RelV v u ∧ Q v H'
def TP (X : Cx) (pins : List (Addr × Obj)) (σ : St) (Q : Bool → Hp → Prop) (b : Bool) (s' : Shared) : Prop := ∃ H', Inv X pins σ H' s' ∧ Q b H'
def AP (X : Cx) (pins : List (Addr × Obj)) (σ : St) (Q : List V → Hp → Prop) (us : List Value) (s' : Shared) : Prop := ∃ vs H', Inv X pins σ H' s' ∧ Vals vs us ∧ Q vs H'
def SP (X : Cx) (pins : List (Addr × Obj)) (D : Ends) (f : Flow) (s' : Shared) : Prop :=
  match f with
  | .next => ∃ σ' H', Inv X pins σ' H' s' ∧ D.nx σ' H'
  | .brk => ∃ σ' H', Inv X pins σ' H' s' ∧ D.bk σ' H'
  | .cont => ∃ σ' H', Inv X pins σ' H' s' ∧ D.ct σ' H'
  | .ret u => ∃ v σ' H', Inv X pins σ' H' s' ∧ RelV v u ∧ D.rt v H'
def PE (X : Cx) (e : Expr) (t : TE) : Prop :=
  ∀ (pins : List (Addr × Obj)) (s : Shared) (σ : St) (H : Hp) (Q : VK), Inv X pins σ H s → t σ H Q → wpAny (model X.prog X.w) X.A (eval e X.env) (EP X pins σ Q) X.xe s
def PT (X : Cx) (e : Expr) (t : TT) : Prop :=
  ∀ (pins : List (Addr × Obj)) (s : Shared) (σ : St) (H : Hp) (Q : Bool → Hp → Prop), Inv X pins σ H s → t σ H Q → wpAny (model X.prog X.w) X.A (isTrue e X.env (eval e X.env)) (TP X pins σ Q) X.xe s
/-- a test whatever its 'whole' is (and, or) -/
def PW (X : Cx) (e : Expr) (t : TT) : Prop :=
  ∀ (whole : Sem Value) (pins : List (Addr × Obj)) (s : Shared) (σ : St) (H : Hp) (Q : Bool → Hp → Prop), Inv X pins σ H s → t σ H Q → wpAny (model X.prog X.w) X.A (isTrue e X.env whole) (TP X pins σ Q) X.xe s
theorem PW.pt {X : Cx} {e : Expr} {t : TT} (h : PW X e t) : PT X e t := h _
/-- an argument list (no star), from the left -/
def PA (X : Cx) (es : List Expr) (t : TA) : Prop :=
  ∀ (pos : Pos) (pins : List (Addr × Obj)) (s : Shared) (σ : St) (H : Hp) (Q : List V → Hp → Prop), Inv X pins σ H s → t σ H Q → wpAny (model X.prog X.w) X.A (spliced (backTo pos (starEach es X.env))) (AP X pins σ Q) X.xe s
def PS (X : Cx) (st : Stmt) (t : TS) : Prop :=
  ∀ (pins : List (Addr × Obj)) (s : Shared) (σ : St) (H : Hp) (D : Ends), Inv X pins σ H s → t D σ H → wpAny (model X.prog X.w) X.A (exec st X.env) (SP X pins D) X.xe s
def PSs (X : Cx) (st : List Stmt) (t : TS) : Prop :=
  ∀ (pins : List (Addr × Obj)) (s : Shared) (σ : St) (H : Hp) (D : Ends), Inv X pins σ H s → t D σ H → wpAny (model X.prog X.w) X.A (execs st X.env) (SP X pins D) X.xe s
/-- weaken the end -/
theorem thn {α : Type} {t : Sem α} {Q Q' : α → Shared → Prop} {M : Model} {A : Around} {E : Value → Shared → Prop} {s : Shared} (h : wpAny M A t Q E s) (hQ : ∀ a s, Q a s → Q' a s) : wpAny M A t Q' E s := wpAny_mono h hQ fun _ _ x => x
end L2
namespace L2
open PySem PySem.Spec PyProof.Rows
section
variable {X : Cx}
/-- two expressions in a row -/
theorem bin {a b : Expr} {ta tb : TE} (ha : PE X a ta) (hb : PE X b tb) {pins : List (Addr × Obj)} {s : Shared} {σ : St} {H : Hp} {R : V → V → Hp → Prop} (I : Inv X pins σ H s) (h : ta σ H fun x H1 => tb σ H1 fun y H2 => R x y H2)
    {α : Type} {Q : α → Shared → Prop} {f : Value → Value → Sem α}
    (hf : ∀ v u s2 x y H2, Inv X pins σ H2 s2 → RelV x v → RelV y u → R x y H2 → wpAny (model X.prog X.w) X.A (f v u) Q X.xe s2) :
    wpAny (model X.prog X.w) X.A (eval a X.env) (fun v s₁ => wpAny (model X.prog X.w) X.A (eval b X.env) (fun u s₂ => wpAny (model X.prog X.w) X.A (f v u) Q X.xe s₂) X.xe s₁) X.xe s := by
  refine thn (ha pins s σ H _ I h) fun v s1 ⟨x, H1, I1, r1, q1⟩ => ?_
  refine thn (hb pins s1 σ H1 _ I1 q1) fun u s2 ⟨y, H2, I2, r2, q2⟩ => ?_
  exact hf v u s2 x y H2 I2 r1 r2 q2
def tVar (i : Nat) : TE := fun σ H Q => ∃ v, σ[i]? = some (some v) ∧ Q v H
def tC (v : V) : TE := fun _ H Q => Q v H
theorem pe_var {i : Nat} {x : Str} {pos : Pos} (hN : X.N[i]? = some x) (hv : Vis X.env.scope x) (hd : (x == ("__debug__" : Str)) = false := by decide) (hcd : (x == ("__classdict__" : Str)) = false := by decide) : PE X (.Name x pos) (tVar i) := by
  intro pins s σ H Q I h
  obtain ⟨v, e, h⟩ := h
  obtain ⟨m, hn, hl⟩ := I.loc
  obtain ⟨u, r, l⟩ := hl i x v hN e hv
  have fin : EP X pins σ Q u s := ⟨v, H, I, r, h⟩
  rcases l with ⟨hk, hm⟩ | ⟨hk, c, hc, hcell⟩
  · exact wpAny_Name (wpAny_loadName_local I.ok.kind hk hn hm fin) hd
  · rcases hk with hk | hk
    · exact wpAny_Name (wpAny_loadName_cell I.ok.kind hk hc hcell fin) hd
    · exact wpAny_Name (wpAny_loadName_free I.ok.kind hk hc hcell fin hcd) hd
theorem pe_int {i j pos} : PE X (.Constant (.int i) j pos) (tC (.int i)) := fun _ _ _ H _ I h => wpAny_Constant_int ⟨.int i, H, I.tok _, ⟨_, rfl⟩, h⟩
/-- a global name of the def -/
def Gl (X : Cx) (x : Str) : Prop := X.env.kindOf x = some .globalImplicit
theorem ld_glob {E : Value → Shared → Prop} {pins : List (Addr × Obj)} {s : Shared} {σ : St} {H : Hp} {x : Str} {u : Value} {pos : Pos} {Q : Value → Shared → Prop} (I : Inv X pins σ H s) (hg : Gl X x) (hm : X.mg x = some u) (h : Q u s)
    (hd : (x == ("__debug__" : Str)) = false := by decide) : wpAny (model X.prog X.w) X.A (eval (.Name x pos) X.env) Q E s :=
  Calls.Name_function_global I.ok.kind hg (Calls.loadGlobal_global (by rw [I.ok.glob]; exact I.mod.glob.keeps I.bk) hm h) hd
theorem ld_blt {E : Value → Shared → Prop} {pins : List (Addr × Obj)} {s : Shared} {σ : St} {H : Hp} {x : Str} {u : Value} {pos : Pos} {Q : Value → Shared → Prop} (I : Inv X pins σ H s) (hg : Gl X x) (hm : X.mg x = none) (hv : bootBuiltins x = some u) (h : Q u s)
    (hn : x ≠ "__name__" := by decide) (hd : (x == ("__debug__" : Str)) = false := by decide) : wpAny (model X.prog X.w) X.A (eval (.Name x pos) X.env) Q E s := by
  obtain ⟨mb, h1, h2⟩ := I.mod.blt
  exact Calls.Name_function_global I.ok.kind hg (Calls.loadGlobal_builtin (by rw [I.ok.glob]; exact I.mod.glob.keeps I.bk) hm (by rw [I.ok.blt]; exact h1.keeps I.bk) ((h2 x hn).trans hv) h) hd
/-- a module's constant, a class, a function, as a value -/
theorem pe_glob {x : Str} {v : V} {u : Value} {pos : Pos} (hg : Gl X x) (hm : X.mg x = some u) (r : RelV v u) (hd : (x == ("__debug__" : Str)) = false := by decide) : PE X (.Name x pos) (tC v) :=
  fun _ _ _ H _ I h => ld_glob I hg hm ⟨v, H, I, r, h⟩ hd
variable {a b : Expr} {ta tb : TE} {pos : Pos}
def PC (X : Cx) (op : CmpOp) (a b : Expr) (t : TE) : Prop :=
  ∀ (pins : List (Addr × Obj)) (s : Shared) (σ : St) (H : Hp) (Q : VK), Inv X pins σ H s → t σ H Q →
    wpAny (model X.prog X.w) X.A (eval a X.env) (fun v s₁ => wpAny (model X.prog X.w) X.A (eval b X.env) (fun u s₂ => wpAny (model X.prog X.w) X.A (compareOp op v u) (EP X pins σ Q) X.xe s₂) X.xe s₁) X.xe s
/-- a comparison as a value, as a test -/
def tB (t : TE) : TT := fun σ H Q => t σ H fun x H1 => ∃ c, x = .bl c ∧ Q c H1
theorem pt_cmp {op : CmpOp} {t : TE} (h : PC X op a b t) (h1 : behindInMarks op b = false := by first | exact nobehind _ (by decide) (by decide) | rfl) : PT X (.Compare a [op] [b] pos) (tB t) := by
  intro pins s σ H Q I hw
  refine wpAny_isTrue_Compare1 (thn (h pins s σ H _ I hw) fun v s1 h1 => thn h1 fun u s2 h2 => thn h2 fun c s3 ⟨x, H1, I1, r1, q1⟩ => ?_) h1
  obtain ⟨d, rfl, q⟩ := q1
  cases r1
  exact wpAny_truthy_bool ⟨H1, I1, q⟩
/-- an expression whose value is a bool, as a test -/
theorem pt_val {e : Expr} {t : TE} (h : PE X e t) (he : ∀ whole, isTrue e X.env whole = (do let v ← whole; standAt e.pos; holding [v] (truthy v)) := by intro _; rfl) : PT X e (tB t) := by
  intro pins s σ H Q I hw
  refine isTrue_plain (thn (h pins s σ H _ I hw) fun v s1 ⟨x, H1, I1, r1, q1⟩ => ?_) (he _)
  obtain ⟨d, rfl, q⟩ := q1
  cases r1
  exact wpAny_truthy_bool ⟨H1, I1, q⟩
variable {tA tB' : TT} {rest : List Expr}
def tOr (t u : TT) : TT := fun σ H Q => t σ H fun c H1 => if c = true then Q true H1 else u σ H1 Q
def tNot (t : TT) : TT := fun σ H Q => t σ H fun c H1 => Q (!c) H1
theorem pw_or1 (ha : PT X a tA) : PW X (.BoolOp .Or [a] pos) tA := by
  intro wh pins s σ H Q I h
  refine isTrue_or (thn (ha pins s σ H Q I h) fun c s1 e => ?_)
  cases c with
  | false => exact isTrue_or_nil e
  | true => exact e
theorem pw_or (ha : PT X a tA) (hb : PW X (.BoolOp .Or (b :: rest) pos) tB') : PW X (.BoolOp .Or (a :: b :: rest) pos) (tOr tA tB') := by
  intro wh pins s σ H Q I h
  refine isTrue_or (thn (ha pins s σ H _ I h) fun c s1 ⟨H1, I1, q1⟩ => ?_)
  cases c with
  | true => exact ⟨H1, I1, q1⟩
  | false => exact hb wh pins s1 σ H1 Q I1 q1
theorem pt_not (ha : PT X a tA) : PT X (.UnaryOp .Not a pos) (tNot tA) := by
  intro pins s σ H Q I h
  exact isTrue_not (ha pins s σ H (fun c H1 => Q (!c) H1) I h)
/-- a if t else b -/
def tIf (t : TT) (ta tb : TE) : TE := fun σ H Q => t σ H fun c H1 => if c = true then ta σ H1 Q else tb σ H1 Q
theorem pe_ifExp {c : Expr} (hc : PT X c tA) (ha : PE X a ta) (hb : PE X b tb) : PE X (.IfExp c a b pos) (tIf tA ta tb) := by
  intro pins s σ H Q I h
  refine wpAny_IfExp (thn (hc pins s σ H _ I h) fun d s1 ⟨H1, I1, q1⟩ => ?_)
  cases d with
  | true => exact ha pins s1 σ H1 Q I1 q1
  | false => exact hb pins s1 σ H1 Q I1 q1
end
end L2
namespace L2
open PySem PySem.Spec PyProof.Rows
def SqL (K : PySem.W.Frag) (H : Hp) (a : Addr) (xs : List V) : Prop :=
  Rd H a (.lst xs) ∨
    ∃ (o : Obj) (its : Array Value) (n : Nat), K.lookup a = some o ∧ o.cls = .type "list" ∧ o.dict = none ∧ o.data = .seq its n ∧ its.size ≤ sizeLine ∧ Vals xs its.toList
def SqT (K : PySem.W.Frag) (H : Hp) (a : Addr) (xs : List V) : Prop :=
  Rd H a (.tup xs) ∨
    ∃ (o : Obj) (its : Array Value) (n : Nat), K.lookup a = some o ∧ o.cls = .type "tuple" ∧ o.data = .seq its n ∧ its.size ≤ sizeLine ∧ Vals xs its.toList
def absV : Value → Option V
  | .none => some .non
  | .bool b => some (.bl b)
  | .int i _ => some (.int i)
  | .str x _ => some (.str x)
  | .bytes b _ => some (.byt b)
  | .float b _ => some (.flt b)
  | .ref a => some (.ref a)
  | .type n => some (.ty n)
  | _ => none
theorem RelV.abs {x : V} {u : Value} (r : RelV x u) : absV u = some x := by
  cases x with
  | non => cases r; rfl
  | bl _ => cases r; rfl
  | int _ => obtain ⟨t, rfl⟩ := r; rfl
  | str _ => obtain ⟨t, rfl⟩ := r; rfl
  | byt _ => obtain ⟨t, rfl⟩ := r; rfl
  | flt _ => obtain ⟨t, rfl⟩ := r; rfl
  | ref _ => cases r; rfl
  | ty _ => cases r; rfl
theorem RelV.inj {x y : V} {u : Value} (r : RelV x u) (q : RelV y u) : x = y := Option.some.inj (r.abs.symm.trans q.abs)
theorem Vals.inj : ∀ {xs ys : List V} {us : List Value}, Vals xs us → Vals ys us → xs = ys
  | _, _, _, .nil, .nil => rfl
  | _, _, _, .cons r t, .cons r' t' => by rw [r.inj r', Vals.inj t t']
section
variable {X : Cx} {pins : List (Addr × Obj)} {σ : St} {H : Hp} {s : Shared} {a : Addr} {xs ys : List V}
theorem SqL.of {K : PySem.W.Frag} (h : H a = some (.lst xs)) : SqL K H a xs := .inl (.inl h)
theorem SqT.of {K : PySem.W.Frag} (h : H a = some (.tup xs)) : SqT K H a xs := .inl (.inl h)
theorem Inv.list (I : Inv X pins σ H s) (h : SqL X.K H a xs) : ∃ its : List Value, Vals xs its ∧ PlainL s.heap a its.toArray ∧ xs.length ≤ sizeLine := by
  rcases h with h | ⟨o, its, n, hk, hc, hd, hs, hz, r⟩
  · obtain ⟨z, its, n, r, e⟩ := h.ok I.hok
    exact ⟨its, r, ⟨_, n, e, rfl, rfl, rfl⟩, z⟩
  · refine ⟨its.toList, r, ⟨o, n, I.kIn a o hk, hc, hd, by simpa using hs⟩, ?_⟩
    have e := r.length
    simp only [Array.length_toList] at e
    omega
theorem Inv.tuple (I : Inv X pins σ H s) (h : SqT X.K H a xs) : ∃ its : List Value, Vals xs its ∧ IsTup s.heap a its.toArray ∧ xs.length ≤ sizeLine := by
  rcases h with h | ⟨o, its, n, hk, hc, hs, hz, r⟩
  · obtain ⟨z, its, r, p⟩ := h.ok I.hok
    exact ⟨its, r, p, z⟩
  · refine ⟨its.toList, r, ⟨o, I.kIn a o hk, hc, n, by simpa using hs⟩, ?_⟩
    have e := r.length
    simp only [Array.length_toList] at e
    omega
theorem Inv.list_inj (I : Inv X pins σ H s) (h : SqL X.K H a xs) (h' : SqL X.K H a ys) : xs = ys := by
  obtain ⟨its, r, ⟨o, n, e, _, _, d⟩, _⟩ := I.list h
  obtain ⟨its', r', ⟨o', n', e', _, _, d'⟩, _⟩ := I.list h'
  rw [e] at e'; cases e'
  rw [d] at d'
  injection d' with d1 _
  have : its = its' := by simpa using congrArg Array.toList d1
  subst this
  exact r.inj r'
end
abbrev Cx.wish (X : Cx) (E : Value → Shared → Prop) : Cx := { X with xe := E }
/-- no exception leaves -/
abbrev Cx.nox (X : Cx) : Cx := X.wish fun _ _ => False
theorem Cx.Ok.wish {X : Cx} (ok : X.Ok) (E : Value → Shared → Prop) : (X.wish E).Ok :=
  ⟨ok.mod, ok.kind, ok.glob, ok.blt, ok.above, ok.inj, ok.has, ok.cab, ok.hd, ok.frames, ok.stk, ok.exf, ok.bs, ok.bsz, ok.noex, ok.exfs, ok.funs, ok.frf⟩
theorem Cx.Ok.unwish {X : Cx} {E : Value → Shared → Prop} (ok : (X.wish E).Ok) : X.Ok :=
  ⟨ok.mod, ok.kind, ok.glob, ok.blt, ok.above, ok.inj, ok.has, ok.cab, ok.hd, ok.frames, ok.stk, ok.exf, ok.bs, ok.bsz, ok.noex, ok.exfs, ok.funs, ok.frf⟩
section
variable {X : Cx} {pins : List (Addr × Obj)} {σ : St} {H : Hp} {s : Shared} {E : Value → Shared → Prop}
theorem Inv.wish (I : Inv X pins σ H s) (E : Value → Shared → Prop) : Inv (X.wish E) pins σ H s := ⟨I.ok.wish E, I.os, I.bare, I.base, I.loc, I.cell, I.free, I.freeC, I.pin, I.hok, I.len⟩
theorem Inv.unwish (I : Inv (X.wish E) pins σ H s) : Inv X pins σ H s := ⟨I.ok.unwish, I.os, I.bare, I.base, I.loc, I.cell, I.free, I.freeC, I.pin, I.hok, I.len⟩
theorem SP.unwish {D : Ends} {f : Flow} {s' : Shared} (h : SP (X.wish E) pins D f s') : SP X pins D f s' := by
  cases f with
  | next => obtain ⟨σ', H', I, q⟩ := h; exact ⟨σ', H', I.unwish, q⟩
  | brk => obtain ⟨σ', H', I, q⟩ := h; exact ⟨σ', H', I.unwish, q⟩
  | cont => obtain ⟨σ', H', I, q⟩ := h; exact ⟨σ', H', I.unwish, q⟩
  | ret u => obtain ⟨v, σ', H', I, r, q⟩ := h; exact ⟨v, σ', H', I.unwish, r, q⟩
theorem PSs.nox {st : List Stmt} {t : TS} (h : PSs X.nox st t) : PSs X st t := fun pins s σ H D I hw =>
  wpAny_mono (h pins s σ H D (I.wish _) hw) (fun _ _ q => q.unwish) fun _ _ z => False.elim z
end
section
variable {X : Cx} {st : Stmt} {rest : List Stmt} {t u : TS} {e : Expr} {te : TE} {pos : Pos}
def tNext : TS := fun D σ H => D.nx σ H
def tSeq (t u : TS) : TS := fun D σ H => t { D with nx := u D } σ H
theorem pss_nil : PSs X [] tNext := fun _ _ σ H _ I h => wpAny_execs_nil ⟨σ, H, I, h⟩
theorem pss_cons (h1 : PS X st t) (h2 : PSs X rest u) : PSs X (st :: rest) (tSeq t u) := by
  intro pins s σ H D I h
  refine wpAny_execs_cons (thn (h1 pins s σ H { D with nx := u D } I h) fun f s1 q => ?_)
  cases f with
  | next =>
    obtain ⟨σ', H', I', q⟩ := q
    exact h2 pins s1 σ' H' D I' q
  | ret v => exact q
  | brk => exact q
  | cont => exact q
theorem pss_one (h1 : PS X st t) : PSs X [st] t := by
  intro pins s σ H D I h
  refine wpAny_execs_cons (thn (h1 pins s σ H D I h) fun f s1 q => ?_)
  cases f with
  | next => exact wpAny_execs_nil q
  | ret v => exact q
  | brk => exact q
  | cont => exact q
/-- in a def's body nothing is shown -/
theorem Inv.quiet {pins : List (Addr × Obj)} {σ : St} {H : Hp} {s : Shared} (I : Inv X pins σ H s) : interactive X.env = false := by simp [interactive, I.ok.kind]
/-- an expression whose value is dropped -/
def tDrop (te : TE) : TS := fun D σ H => te σ H fun _ H1 => D.nx σ H1
theorem ps_expr (he : PE X e te) (hs : swapsWith e none pos.line X.env = pure false := by rfl) : PS X (.Expr e pos) (tDrop te) := by
  intro pins s σ H D I h
  exact wpAny_Expr_any (thn (he pins s σ H _ I h) fun v s1 ⟨x, H1, I1, r1, q1⟩ => ⟨σ, H1, I1, q1⟩) I.quiet hs
def tRet (te : TE) : TS := fun D σ H => te σ H D.rt
theorem ps_ret (he : PE X e te) : PS X (.Return (some e) pos) (tRet te) := by
  intro pins s σ H D I h
  exact wpAny_Return_some (thn (he pins s σ H _ I h) fun v s1 ⟨x, H1, I1, r1, q1⟩ => ⟨x, σ, H1, I1, r1, q1⟩)
def tIfS (c : TT) (t u : TS) : TS := fun D σ H => c σ H fun b H1 => if b = true then t D σ H1 else u D σ H1
theorem ps_if {c : Expr} {a b : List Stmt} {tc : TT} (hc : PT X c tc) (ha : PSs X a t) (hb : PSs X b u) : PS X (.If c a b pos) (tIfS tc t u) := by
  intro pins s σ H D I h
  refine wpAny_If (thn (hc pins s σ H _ I h) fun d s1 ⟨H1, I1, q1⟩ => ?_)
  cases d with
  | true => exact ha pins s1 σ H1 D I1 q1
  | false => exact hb pins s1 σ H1 D I1 q1
end
abbrev TG := V → St → Hp → (St → Hp → Prop) → Prop
def PG (X : Cx) (target : Expr) (t : TG) : Prop :=
  ∀ (pins : List (Addr × Obj)) (s : Shared) (σ : St) (H : Hp) (v : V) (u : Value) (Q : St → Hp → Prop), Inv X pins σ H s → RelV v u → t v σ H Q →
    wpAny (model X.prog X.w) X.A (assign target X.env u) (fun _ s' => ∃ σ' H', Inv X pins σ' H' s' ∧ Q σ' H') X.xe s
/-- o[i] = v, by values -/
abbrev TSet := V → V → V → Hp → (Hp → Prop) → Prop
def PSet (X : Cx) (t : TSet) : Prop :=
  ∀ (pins : List (Addr × Obj)) (s : Shared) (σ : St) (H : Hp) (o i v : V) (ov iv u : Value) (Q : Hp → Prop), Inv X pins σ H s → RelV o ov → RelV i iv → RelV v u → t o i v H Q →
    wpAny (model X.prog X.w) X.A (setItem ov iv u) (fun _ s' => ∃ H', Inv X pins σ H' s' ∧ Q H') X.xe s
/-- a op= b, by values -/
abbrev TIp := V → V → Hp → VK → Prop
def PIp (X : Cx) (op : Operator) (t : TIp) : Prop :=
  ∀ (pins : List (Addr × Obj)) (s : Shared) (σ : St) (H : Hp) (x y : V) (v u : Value) (Q : VK), Inv X pins σ H s → RelV x v → RelV y u → t x y H Q →
    wpAny (model X.prog X.w) X.A (inplaceOp op v u) (EP X pins σ Q) X.xe s
section
variable {X : Cx} {pos : Pos}
def gName (i : Nat) : TG := fun v σ H Q => Q (σ.set i (some v)) H
theorem pg_name {i : Nat} {x : Str} (hN : X.N.Nodup) (hi : X.N[i]? = some x) (hx : Loc X.env.scope x) (hf : X.fn x = true ∨ X.env.scope.names.lookup x = some .local := by first | exact .inl rfl | exact .inr rfl | assumption) : PG X (.Name x pos) (gName i) := by
  intro pins s σ H v u Q I r h
  exact wpAny_assign_Name (store_ok I hN hi hx r (fun s' I' => ⟨_, H, I', h⟩) hf)
/-- target = value -/
def tAsg (te : TE) (g : TG) : TS := fun D σ H => te σ H fun x H1 => g x σ H1 D.nx
/-- name = value -/
theorem ps_set {i : Nat} {x : Str} {e : Expr} {te : TE} {pos' : Pos} (hN : X.N.Nodup) (hi : X.N[i]? = some x) (hx : Loc X.env.scope x) (he : PE X e te) (hs : swapsWith e (some (.Name x pos')) pos.line X.env = pure false := by rfl) (hf : X.fn x = true ∨ X.env.scope.names.lookup x = some .local := by first | exact .inl rfl | exact .inr rfl | assumption) :
    PS X (.Assign [.Name x pos'] e pos) (tAsg te (gName i)) := by
  intro pins s σ H D I h
  refine wpAny_Assign_Name (thn (he pins s σ H _ I h) fun v s1 ⟨y, H1, I1, r1, q1⟩ => ?_) hs
  exact store_ok I1 hN hi hx r1 (fun s2 I2 => ⟨_, H1, I2, q1⟩) hf
/-- name op= e -/
def tAug (i : Nat) (te : TE) (ti : TIp) : TS := fun D σ H => ∃ x, σ[i]? = some (some x) ∧ te σ H fun y H1 => ti x y H1 fun z H2 => D.nx (σ.set i (some z)) H2
theorem ps_aug {i : Nat} {x : Str} {e : Expr} {te : TE} {op : Operator} {ti : TIp} {pos' : Pos} (hN : X.N.Nodup) (hi : X.N[i]? = some x) (hx : Loc X.env.scope x) (he : PE X e te) (ho : PIp X op ti) (hf : X.fn x = true ∨ X.env.scope.names.lookup x = some .local := by first | exact .inl rfl | exact .inr rfl | assumption) :
    PS X (.AugAssign (.Name x pos') op e pos) (tAug i te ti) := by
  intro pins s σ H D I h
  obtain ⟨v, e1, h⟩ := h
  obtain ⟨m, hn, hl⟩ := I.loc
  have vis : Vis X.env.scope x := by rcases hx with k | k; exact .inl k; exact .inr (.inl k)
  obtain ⟨u, r, l⟩ := hl i x v hi e1 vis
  refine wpAny_AugAssign_Name ?_
  have go : wpAny (model X.prog X.w) X.A (eval e X.env) (fun w s₂ => wpAny (model X.prog X.w) X.A (inplaceOp op u w) (fun r s₃ => wpAny (model X.prog X.w) X.A (storeName X.env x r) (fun _ => SP X pins D .next) X.xe s₃) X.xe s₂) X.xe s := by
    refine thn (he pins s σ H _ I h) fun w s1 ⟨y, H1, I1, r1, q1⟩ => ?_
    refine thn (ho pins s1 σ H1 v y u w _ I1 r r1 q1) fun z s2 ⟨zv, H2, I2, r2, q2⟩ => ?_
    exact store_ok I2 hN hi hx r2 (fun s3 I3 => ⟨_, H2, I3, q2⟩) hf
  rcases l with ⟨hk, hm⟩ | ⟨hk, c, hc, hcell⟩
  · exact wpAny_loadName_local I.ok.kind hk hn hm go
  · rcases hk with hk | hk
    · exact wpAny_loadName_cell I.ok.kind hk hc hcell go
    · rcases hx with k | k
      · have : X.env.scope.names.lookup x = some .free := hk
        rw [k] at this; cases this
      · have : X.env.scope.names.lookup x = some .free := hk
        rw [k] at this; cases this
/-- o[i] op= e -/
def tAugS (to ti te : TE) (tget : V → V → Hp → VK → Prop) (tip : TIp) (tset : TSet) : TS := fun D σ H => to σ H fun o H1 => ti σ H1 fun i H2 => tget o i H2 fun x H3 => te σ H3 fun y H4 => tip x y H4 fun z H5 => tset o i z H5 fun H6 => D.nx σ H6
/-- o[i], by values -/
def PGet (X : Cx) (t : V → V → Hp → VK → Prop) : Prop :=
  ∀ (pins : List (Addr × Obj)) (s : Shared) (σ : St) (H : Hp) (o i : V) (ov iv : Value) (Q : VK), Inv X pins σ H s → RelV o ov → RelV i iv → t o i H Q →
    wpAny (model X.prog X.w) X.A (getItem ov iv) (EP X pins σ Q) X.xe s
theorem ps_augS {o i e : Expr} {to ti te : TE} {tget : V → V → Hp → VK → Prop} {tip : TIp} {tset : TSet} {op : Operator} {tpos : Pos} (ho : PE X o to) (hi : PE X i ti) (hg : PGet X tget) (he : PE X e te) (hp : PIp X op tip) (hs : PSet X tset)
    (ha : ∀ ov iv new, augStore i ov iv new = (do holding [new, ov, iv] (setItem ov iv new); release [new, ov, iv] []; pure .next) := by intros; rfl) : PS X (.AugAssign (.Subscript o i tpos) op e pos) (tAugS to ti te tget tip tset) := by
  intro pins s σ H D I h
  refine wpAny_AugAssign_SubscriptAny (thn (ho pins s σ H _ I h) fun ov s1 ⟨x1, H1, I1, r1, q1⟩ => ?_) ha
  refine thn (hi pins s1 σ H1 _ I1 q1) fun iv s2 ⟨x2, H2, I2, r2, q2⟩ => ?_
  refine thn (hg pins s2 σ H2 x1 x2 ov iv _ I2 r1 r2 q2) fun old s3 ⟨x3, H3, I3, r3, q3⟩ => ?_
  refine thn (he pins s3 σ H3 _ I3 q3) fun v s4 ⟨x4, H4, I4, r4, q4⟩ => ?_
  refine thn (hp pins s4 σ H4 x3 x4 old v _ I4 r3 r4 q4) fun new s5 ⟨x5, H5, I5, r5, q5⟩ => ?_
  exact thn (hs pins s5 σ H5 x1 x2 x5 ov iv new _ I5 r1 r2 r5 q5) fun _ s6 ⟨H6, I6, q6⟩ => ⟨σ, H6, I6, q6⟩
/-- ints -/
def ipI (f : Int → Int → Int) : TIp := fun x y H Q => ∃ i j, x = .int i ∧ y = .int j ∧ Q (.int (f i j)) H
theorem ip_add : PIp X .Add (ipI fun i j => i + j) := by
  intro pins s σ H x y v u Q I r1 r2 h
  obtain ⟨i, j, e1, e2, q⟩ := h
  subst e1; subst e2
  obtain ⟨t, rfl⟩ := r1
  obtain ⟨t', rfl⟩ := r2
  exact iadd_int ⟨.int _, H, I.tok _, ⟨_, rfl⟩, q⟩
theorem ip_sub : PIp X .Sub (ipI fun i j => i - j) := by
  intro pins s σ H x y v u Q I r1 r2 h
  obtain ⟨i, j, e1, e2, q⟩ := h
  subst e1; subst e2
  obtain ⟨t, rfl⟩ := r1
  obtain ⟨t', rfl⟩ := r2
  exact isub_int ⟨.int _, H, I.tok _, ⟨_, rfl⟩, q⟩
end
section
variable {X : Cx} {pos : Pos}
/-- the invariant W with its measure -/
def tWhile (c : TT) (tb : TS) : TS := fun D σ H => ∃ W : Nat → St → Hp → Prop, (∃ m, W m σ H) ∧ ∀ m σ H, W m σ H →
  c σ H fun b H1 => if b = true then ∃ N : St → Hp → Prop, (∀ σ' H', N σ' H' → ∃ m', m' < m ∧ W m' σ' H') ∧ tb { D with nx := N, ct := N, bk := D.nx } σ H1 else D.nx σ H1
theorem ps_while {c : Expr} {body : List Stmt} {tc : TT} {tb : TS} (hp : PassesOwn (model X.prog X.w) X.A X.env X.xe) (hc : PT X c tc) (hb : PSs X body tb) : PS X (.While c body [] pos) (tWhile tc tb) := by
  intro pins s σ H D I h
  obtain ⟨W, ⟨m0, w0⟩, turn⟩ := h
  refine wpAny_While (codeAny_whileLoop (fun n s' => ∃ σ' H', Inv X pins σ' H' s' ∧ W n σ' H') ?_ m0 ⟨σ, H, I, w0⟩)
  rintro n s1 ⟨σ1, H1, I1, w1⟩
  refine wpAny_passesOwn hp (thn (hc pins s1 σ1 H1 _ I1 (turn n σ1 H1 w1)) fun b s2 ⟨H2, I2, q2⟩ => ?_)
  cases b with
  | true =>
    obtain ⟨N, hN, q2⟩ := q2
    rw [if_pos rfl]
    refine wpAny_passesOwn hp (thn (hb pins s2 σ1 H2 _ I2 q2) fun f s3 q3 => ?_)
    cases f with
    | next =>
      obtain ⟨σ3, H3, I3, n3⟩ := q3
      obtain ⟨m', hm, w3⟩ := hN σ3 H3 n3
      exact ⟨m', hm, σ3, H3, I3, w3⟩
    | cont =>
      obtain ⟨σ3, H3, I3, n3⟩ := q3
      obtain ⟨m', hm, w3⟩ := hN σ3 H3 n3
      exact ⟨m', hm, σ3, H3, I3, w3⟩
    | brk => exact q3
    | ret v => exact q3
  | false =>
    rw [if_neg Bool.false_ne_true]
    exact wpAny_execs_nil ⟨σ1, H2, I2, q2⟩
end
/-- at turn i: it yields x (the heap may grow), or it stops -/
structure It where
  go : Nat → Hp → Prop
  yld : Nat → Hp → V → Hp → Prop
  stop : Nat → Hp → Prop
/-- the iterator's own objects may turn: they are not the frame's, not pinned, younger than the entry (or a comprehension's own) -/
def FpOk (X : Cx) (pins : List (Addr × Obj)) (H : Hp) (b : Addr) : Prop :=
  H b = none ∧ b ≠ X.env.locals ∧ b ∉ X.fs ∧ (b ∈ X.ex ∨ X.s_0.heap.objs.size ≤ b) ∧ (∀ x c, X.env.cells.lookup x = some c → c ≠ b) ∧ ∀ p ∈ X.pn ++ pins, p.1 ≠ b
theorem Inv.fpOk {X : Cx} {pins : List (Addr × Obj)} {σ : St} {H H' : Hp} {s : Shared} {b : Addr} (I : Inv X pins σ H s) (hb : s.heap.objs.size ≤ b) (hn : H' b = none) : FpOk X pins H' b := by
  refine ⟨hn, Nat.ne_of_gt (Nat.lt_of_lt_of_le I.lt hb), I.nofs hb, .inr (Nat.le_trans I.sz hb), fun x c e z => ?_, fun p hp z => ?_⟩
  · obtain ⟨v, q⟩ := I.cell x c e
    exact absurd (Nat.lt_of_lt_of_le q.lt (by rw [z]; exact hb)) (Nat.lt_irrefl _)
  · exact absurd (Nat.lt_of_lt_of_le (Heap.lt_size (I.pin p hp).1) (by rw [z]; exact hb)) (Nat.lt_irrefl _)
structure Turn (P : Program) (w : World) (K : PySem.W.Frag) (tg : Expr) (J : It) (fp : List Addr) (it : Addr) (tn : Nat → Heap → Prop) : Prop where
  mem : it ∈ fp
  obj : ∀ i h, tn i h → ∀ b ∈ fp, ∃ o, h.get? b = some o ∧ ∀ v, o.data ≠ .cell v
  keep : ∀ i h h', tn i h → (∀ b ∈ fp, ∀ o, h.get? b = some o → h'.get? b = some o) → tn i h'
  item : ∀ (X : Cx), X.prog = P → X.w = w → X.K = K → X.calm = true → ∀ (i : Nat) (pins : List (Addr × Obj)) (s : Shared) (σ : St) (H : Hp) (E : Value → Shared → Prop), Inv X pins σ H s → (∀ b ∈ fp, FpOk X pins H b) → tn i s.heap → J.go i H →
    wpAny (model P w) X.A (pyNext (.ref it)) (fun r s1 => ∃ u, r = some u ∧
      wpAny (model P w) X.A (letOwnedTupleGo tg (.ref it) u) (fun _ s2 => ∃ x H', Inv X pins σ H' s2 ∧ RelV x u ∧ J.yld i H x H' ∧ tn (i + 1) s2.heap ∧ ∀ b ∈ fp, H' b = none) E s1) E s
  done : ∀ (X : Cx), X.prog = P → X.w = w → X.K = K → X.calm = true → ∀ (i : Nat) (pins : List (Addr × Obj)) (s : Shared) (σ : St) (H : Hp) (E : Value → Shared → Prop), Inv X pins σ H s → (∀ b ∈ fp, FpOk X pins H b) → tn i s.heap → J.stop i H →
    wpAny (model P w) X.A (pyNext (.ref it)) (fun r s1 => r = none ∧ Inv X pins σ H s1) E s
  self : ∀ (A : Around) (i : Nat) (s : Shared) (Q : Value → Shared → Prop) (E : Value → Shared → Prop), tn i s.heap → Q (.ref it) s → wpAny (model P w) A (pyIter (.ref it)) Q E s
abbrev TI := St → Hp → (It → Hp → Prop) → Prop
/-- an iterator has come -/
def PIE (X : Cx) (pins : List (Addr × Obj)) (σ : St) (tg : Expr) (R : It → Hp → Prop) (itv : Value) (s2 : Shared) : Prop :=
  ∃ (it : Addr) (fp : List Addr) (tn : Nat → Heap → Prop) (J : It) (H' : Hp), itv = .ref it ∧ Inv X pins σ H' s2 ∧ Turn X.prog X.w X.K tg J fp it tn ∧ tn 0 s2.heap ∧ (∀ b ∈ fp, FpOk X pins H' b) ∧ R J H'
def PI (X : Cx) (tg iter : Expr) (wi : TI) : Prop :=
  ∀ (pins : List (Addr × Obj)) (s : Shared) (σ : St) (H : Hp) (R : It → Hp → Prop), Inv X pins σ H s → wi σ H R →
    wpAny (model X.prog X.w) X.A (eval iter X.env) (fun v s1 => wpAny (model X.prog X.w) X.A (pyIter v) (PIE X pins σ tg R) X.xe s1) X.xe s
/-- the step ahead of the store is nothing for an iterator that keeps no tuple -/
theorem go_of {M : Model} {A : Around} {E : Value → Shared → Prop} {s : Shared} {tg : Expr} {it : Addr} {u : Value} {o : Obj} {n : String} {vs : Array Value} {Q : Unit → Shared → Prop} (ho : s.heap.get? it = some o) (hc : o.cls = .type n) (hd : o.data = .fields vs)
    (hn : ["enumerate", "zip", "dict_itemiterator", "dict_reverseitemiterator", "odict_iterator", "itertools.zip_longest", "itertools.pairwise"].contains n = false) (hQ : Q () s) : wpAny M A (letOwnedTupleGo tg (.ref it) u) Q E s := by
  unfold letOwnedTupleGo
  cases tg <;> first
    | exact wpAny_pure hQ
    | (cases u <;> first
        | exact wpAny_pure hQ
        | (refine wpAny_bind (wpAny_load ho ?_)
           rw [hc, hd]
           show wpAny M A (if (["enumerate", "zip", "dict_itemiterator", "dict_reverseitemiterator", "odict_iterator", "itertools.zip_longest", "itertools.pairwise"].contains n && vs[0]? == some (rawInt _)) = true then _ else _) Q E s
           rw [if_neg (by intro h; rw [hn, Bool.false_and] at h; cases h)]
           exact wpAny_pure hQ))
/-- the list at a, as it stands at each turn (a loop may append to it) -/
def Itl (K : PySem.W.Frag) (a : Addr) : It :=
  ⟨fun i H => ∃ xs x, SqL K H a xs ∧ xs[i]? = some x, fun i H x H' => H' = H ∧ ∀ xs, SqL K H a xs → xs[i]? = some x, fun i H => ∃ xs, SqL K H a xs ∧ xs.length ≤ i⟩
/-- lo, lo + 1, .. (n of them) -/
def Itr (lo : Int) (n : Nat) : It := ⟨fun i _ => i < n, fun i H x H' => H' = H ∧ x = .int (lo + i), fun i _ => n ≤ i⟩
theorem turn_list {P : Program} {w : World} {K : PySem.W.Frag} {tg : Expr} (a it : Addr) : Turn P w K tg (Itl K a) [it] it (fun i h => h.IsListIter it a i) where
  mem := by simp
  obj := fun i h st b hb => by
    have e : b = it := by simpa using hb
    subst e
    obtain ⟨o, e, c, d⟩ := st
    exact ⟨o, e, fun v z => by rw [d] at z; cases z⟩
  keep := fun i h h' st k => st.at fun o e => k it (by simp) o e
  item := by
    intro X hP hw hK hc i pins s σ H E I hf st hg
    subst hP hw hK
    obtain ⟨xs, x, hq, hx⟩ := hg
    obtain ⟨its, rv, p, hz⟩ := I.list hq
    obtain ⟨u, hu, ru⟩ := rv.get hx
    obtain ⟨f0, f1, f2, f3, f4, f5⟩ := hf it (by simp)
    refine wpAny_pyNext_list_item st p.isList (x := u) (by simpa using hu) fun h' st' sb => ?_
    have I1 : Inv X pins σ H { s with heap := h' } := I.turned (t' := s.toks) (fun b o hb e => (sb.2 b hb).trans e) f0 f1 f3 f4 f5
    obtain ⟨o, e, c, d⟩ := id st'
    exact ⟨u, rfl, go_of (s := { s with heap := h' }) e c d (by decide) ⟨x, H, I1, ru, ⟨rfl, fun ys hy => by rw [I.list_inj hy hq]; exact hx⟩, st', fun b hb => (hf b hb).1⟩⟩
  done := by
    intro X hP hw hK hc i pins s σ H E I hf st hg
    subst hP hw hK
    obtain ⟨xs, hq, hx⟩ := hg
    obtain ⟨its, rv, p, hz⟩ := I.list hq
    obtain ⟨f0, f1, f2, f3, f4, f5⟩ := hf it (by simp)
    have hl := rv.length
    exact wpAny_pyNext_list_end (I.ok.hd hc) st p.isList (by simp; omega) fun h' eb => ⟨rfl, I.turned (t' := s.toks) (fun b o hb e => eb b o hb e) f0 f1 f3 f4 f5⟩
  self := fun _ _ _ _ _ st h => wpAny_pyIter_listiter st h
theorem turn_range {P : Program} {w : World} {K : PySem.W.Frag} {tg : Expr} (it : Addr) (lo : Int) (n : Nat) : Turn P w K tg (Itr lo n) [it] it (fun i h => IsRangeIter h it (lo + (i : Nat) * 1) ((n : Int) - (i : Nat)) 1) where
  mem := by simp
  obj := fun i h st b hb => by
    have e : b = it := by simpa using hb
    subst e
    exact ⟨_, st, fun v z => by
      have z' : Data.fields _ = Data.cell v := z
      cases z'⟩
  keep := fun i h h' st k => k it (by simp) _ st
  item := by
    intro X hP hw hK hc i pins s σ H E I hf st hg
    subst hP hw hK
    obtain ⟨f0, f1, f2, f3, f4, f5⟩ := hf it (by simp)
    have W := Walks.range (prog := X.prog) (w := X.w) (I.ok.hd hc) it lo 1 n
    refine W.item i s _ _ hg st fun v h' tk hv st' kk => ?_
    obtain ⟨t, rfl⟩ := hv
    have I1 : Inv X pins σ H { s with heap := h', toks := tk } := I.turned (fun b o hb e => kk b o (by simpa using hb) e) f0 f1 f3 f4 f5
    refine ⟨_, rfl, go_of (s := { s with heap := h', toks := tk }) (n := "range_iterator") st' rfl rfl (by decide) ⟨.int (lo + i), H, I1, ⟨t, ?_⟩, ⟨rfl, rfl⟩, st', fun b hb => (hf b hb).1⟩⟩
    rw [Int.mul_one]
  done := by
    intro X hP hw hK hc i pins s σ H E I hf st hg
    subst hP hw hK
    obtain ⟨f0, f1, f2, f3, f4, f5⟩ := hf it (by simp)
    exact wpAny_pyNext_range_end (I.ok.hd hc) st (by have : n ≤ i := hg; omega) fun h' eb => ⟨rfl, I.turned (t' := s.toks) (fun b o hb e => eb b o hb e) f0 f1 f3 f4 f5⟩
  self := fun _ _ _ _ _ st h => wpAny_pyIter_rangeiter st h
end L2
namespace L2
open PySem PySem.Spec PyProof.Rows
section
variable {X : Cx} {tg : Expr}
def iList (K : PySem.W.Frag) (tl : TE) : TI := fun σ H R => tl σ H fun x H1 => ∃ a, x = .ref a ∧ (∃ xs, SqL K H1 a xs) ∧ R (Itl K a) H1
theorem pi_list {l : Expr} {tl : TE} (hl : PE X l tl) : PI X tg l (iList X.K tl) := by
  intro pins s σ H R I h
  refine thn (hl pins s σ H _ I h) fun v s1 ⟨x, H1, I1, r1, q1⟩ => ?_
  obtain ⟨a, e, ⟨xs, hq⟩, q⟩ := q1
  subst e
  cases r1
  obtain ⟨its, rv, p, hz⟩ := I1.list hq
  refine wpAny_pyIter_list p.isList ?_
  refine ⟨s1.heap.objs.size, [s1.heap.objs.size], _, _, H1, rfl, I1.kept (t' := s1.toks) fun b o e => Heap.get?_push_of_some _ e, turn_list a _, ⟨_, Heap.get?_push_size _ rfl, rfl, rfl⟩, fun b hb => ?_, q⟩
  have e : b = s1.heap.objs.size := by simpa using hb
  subst e
  exact I1.fpOk (Nat.le_refl _) (I1.hok.fresh (Nat.le_refl _))
/-- a range object just made, walked -/
theorem range_it {pins : List (Addr × Obj)} {σ : St} {H : Hp} {s : Shared} {R : It → Hp → Prop} {E : Value → Shared → Prop} {lo hi : Int} {t u v : Tok} {tk : Nat} (I : Inv X pins σ H s) (h1 : -(2 ^ 62) ≤ lo) (h2 : lo < 2 ^ 62) (h3 : -(2 ^ 62) ≤ hi) (h4 : hi < 2 ^ 62)
    (q : R (Itr lo (hi - lo).toNat) H) : wpAny (model X.prog X.w) X.A (pyIter (.ref s.heap.objs.size)) (PIE X pins σ tg R) E { s with heap := s.heap.push { cls := .type "range", data := .fields #[.int lo t, .int hi u, .int 1 v] }, toks := tk } := by
  refine wpAny_pyIter_range (IsRange.new ..) (small_one h1 h2 h3 h4) ?_
  have I1 : Inv X pins σ H { s with heap := s.heap.push { cls := .type "range", data := .fields #[.int lo t, .int hi u, .int 1 v] }, toks := tk } := I.kept fun b o e => Heap.get?_push_of_some _ e
  refine ⟨(s.heap.push { cls := .type "range", data := .fields #[.int lo t, .int hi u, .int 1 v] }).objs.size, [(s.heap.push { cls := .type "range", data := .fields #[.int lo t, .int hi u, .int 1 v] }).objs.size], _, _, H, rfl,
    I1.kept (t' := tk) fun b o e => Heap.get?_push_of_some _ e, turn_range _ lo (hi - lo).toNat, ?_, fun b hb => ?_, q⟩
  · have e1 : lo + ((0 : Nat) : Int) * 1 = lo := by simp
    have e2 : (((hi - lo).toNat : Nat) : Int) - ((0 : Nat) : Int) = Builtin.Range.rangeSize lo hi 1 := by rw [rangeSize_one]; split <;> omega
    show IsRangeIter _ _ (lo + ((0 : Nat) : Int) * 1) ((((hi - lo).toNat : Nat) : Int) - ((0 : Nat) : Int)) 1
    rw [e1, e2]
    exact Heap.get?_push_size _ rfl
  · have e : b = (s.heap.push { cls := .type "range", data := .fields #[.int lo t, .int hi u, .int 1 v] }).objs.size := by simpa using hb
    subst e
    exact I1.fpOk (Nat.le_refl _) (I1.hok.fresh (Nat.le_refl _))
def iRng1 (ta : TA) : TI := fun σ H R => ta σ H fun vs H1 => ∃ j : Int, vs = [.int j] ∧ -(2 ^ 62) ≤ j ∧ j < 2 ^ 62 ∧ R (Itr 0 j.toNat) H1
theorem pi_range1 {a : Expr} {ta : TA} {p pos : Pos} (hg : Gl X "range") (hm : X.mg "range" = none) (ha : PA X [a] ta) (hs : starEach [a] X.env = [(false, eval a X.env)] := by rfl) : PI X tg (.Call (.Name "range" p) [a] [] pos) (iRng1 ta) := by
  intro pins s σ H R I h
  refine Call_ (ld_blt I hg hm boot_range (PyProof.Rows.callWith_type1 (thn (ha pos pins s σ H _ I h) fun us s1 ⟨vs, H1, I1, r1, q1⟩ => ?_) hs rfl))
  obtain ⟨j, e, q1, q2, q⟩ := q1
  subst e
  cases r1 with
  | cons r rr =>
    cases rr
    obtain ⟨t, rfl⟩ := r
    exact call_range_1 (range_it I1 (by omega) (by omega) q1 q2 (by simpa using q))
/-- W: the invariant by the turn and a measure; N: what the body is to reach -/
def tFor (wi : TI) (g : TG) (tb : TS) : TS := fun D σ H => wi σ H fun J H1 => ∃ W : Nat → Nat → St → Hp → Prop, (∃ m, W 0 m σ H1) ∧ ∀ i m σ H, W i m σ H →
  (J.stop i H ∧ D.nx σ H) ∨ (J.go i H ∧ ∃ N : St → Hp → Prop, (∀ σ' H', N σ' H' → ∃ m', m' < m ∧ W (i + 1) m' σ' H') ∧ ∀ x H', J.yld i H x H' → g x σ H' fun σ2 H2 => tb { D with nx := N, ct := N, bk := D.nx } σ2 H2)
/-- the records at fp as they stand -/
def pinsAt (fp : List Addr) (h : Heap) : List (Addr × Obj) := fp.filterMap fun b => (h.get? b).map fun o => (b, o)
theorem mem_pinsAt {fp : List Addr} {h : Heap} {b : Addr} {o : Obj} (hb : b ∈ fp) (e : h.get? b = some o) : (b, o) ∈ pinsAt fp h := List.mem_filterMap.mpr ⟨b, hb, by rw [e]; rfl⟩
theorem of_pinsAt {fp : List Addr} {h : Heap} {p : Addr × Obj} (hp : p ∈ pinsAt fp h) : p.1 ∈ fp ∧ h.get? p.1 = some p.2 := by
  obtain ⟨b, hb, e⟩ := List.mem_filterMap.mp hp
  cases q : h.get? b with
  | none => rw [q] at e; cases e
  | some o =>
    rw [q] at e
    have e' : (b, o) = p := Option.some.inj e
    subst e'
    exact ⟨hb, q⟩
theorem Inv.pinned {pins : List (Addr × Obj)} {σ : St} {H : Hp} {s : Shared} {fp : List Addr} (I : Inv X pins σ H s) (hf : ∀ b ∈ fp, FpOk X pins H b) (ho : ∀ b ∈ fp, ∃ o, s.heap.get? b = some o ∧ ∀ v, o.data ≠ .cell v) : Inv X (pins ++ pinsAt fp s.heap) σ H s :=
  I.pins_of fun p hp => (List.mem_append.mp hp).elim (fun z => I.pin p (List.mem_append_right _ z)) fun z => by
    obtain ⟨hb, e⟩ := of_pinsAt z
    obtain ⟨f0, f1, f2, _⟩ := hf p.1 hb
    obtain ⟨o, e', d⟩ := ho p.1 hb
    rw [e] at e'; cases e'
    exact ⟨e, f0, f1, f2, d⟩
theorem Inv.unpinned {pins pl : List (Addr × Obj)} {σ : St} {H : Hp} {s : Shared} (I : Inv X (pins ++ pl) σ H s) : Inv X pins σ H s := I.pins_of fun p hp => I.pin p (List.mem_append_right _ (List.mem_append_left _ hp))
theorem ps_for {iter : Expr} {body : List Stmt} {wi : TI} {g : TG} {tb : TS} {pos : Pos} (hp : PassesOwn (model X.prog X.w) X.A X.env X.xe) (hc : X.calm = true) (hi : PI X tg iter wi) (hg : PG X tg g) (hb : PSs X body tb)
    (hs : ∀ x, foldedSetIterable iter X.env x = pure x := by intro _; rfl) : PS X (.For tg iter body [] pos) (tFor wi g tb) := by
  intro pins s σ H D I h
  refine wpAny_For (thn (hi pins s σ H _ I h) fun v s1 h1 => thn h1 fun itv s2 h2 => ?_) hs
  obtain ⟨it, fp, tn, J, H2, e, I2, T, st2, f2, W, ⟨m0, w0⟩, turn⟩ := h2
  subst e
  -- what stays true of the iterator's objects through the loop
  have stat : ∀ {H' : Hp}, (∀ b ∈ fp, H' b = none) → ∀ b ∈ fp, FpOk X pins H' b := fun hn b hb => ⟨hn b hb, (f2 b hb).2⟩
  refine codeAny_forLoop_any (fun n s' => ∃ i σ' H', Inv X pins σ' H' s' ∧ tn i s'.heap ∧ (∀ b ∈ fp, H' b = none) ∧ W i n σ' H') ?_ m0 ⟨0, σ, H2, I2, st2, fun b hb => (f2 b hb).1, w0⟩
  rintro n s3 ⟨i, σ3, H3, I3, st3, fr3, w3⟩
  rcases turn i n σ3 H3 w3 with ⟨stop, qn⟩ | ⟨go, N, hN, step⟩
  · refine wpAny_passesOwn hp (thn (T.done X rfl rfl rfl hc i pins s3 σ3 H3 X.xe I3 (stat fr3) st3 stop) fun r s4 ⟨hr, I4⟩ => ?_)
    subst hr
    exact wpAny_execs_nil ⟨σ3, H3, I4, qn⟩
  · refine wpAny_passesOwn hp (thn (T.item X rfl rfl rfl hc i pins s3 σ3 H3 X.xe I3 (stat fr3) st3 go) fun r s4 ⟨u, hr, h4⟩ => ?_)
    subst hr
    refine wpAny_passesOwn hp (thn h4 fun _ s5 ⟨x, H5, I5, r5, y5, st5, fr5⟩ => ?_)
    have I5' := I5.pinned (stat fr5) (T.obj _ _ st5)
    refine wpAny_passesOwn hp (thn (hg _ s5 σ3 H5 x u _ I5' r5 (step x H5 y5)) fun _ s6 ⟨σ6, H6, I6, q6⟩ => ?_)
    refine wpAny_passesOwn hp (thn (hb _ s6 σ6 H6 _ I6 q6) fun f s7 q7 => ?_)
    have again : ∀ {σ7 : St} {H7 : Hp}, Inv X (pins ++ pinsAt fp s5.heap) σ7 H7 s7 → N σ7 H7 → ∃ m, m < n ∧ ∃ i σ' H', Inv X pins σ' H' s7 ∧ tn i s7.heap ∧ (∀ b ∈ fp, H' b = none) ∧ W i m σ' H' := fun {σ7 H7} I7 n7 => by
      obtain ⟨m', hm, w7⟩ := hN σ7 H7 n7
      refine ⟨m', hm, i + 1, σ7, H7, I7.unpinned, T.keep _ _ _ st5 fun b hb o e => (I7.pin (b, o) (List.mem_append_right _ (List.mem_append_right _ (mem_pinsAt hb e)))).1, fun b hb => ?_, w7⟩
      obtain ⟨o, e, d⟩ := T.obj _ _ st5 b hb
      exact (I7.pin (b, o) (List.mem_append_right _ (List.mem_append_right _ (mem_pinsAt hb e)))).2.1
    cases f with
    | next => obtain ⟨σ7, H7, I7, n7⟩ := q7; exact again I7 n7
    | cont => obtain ⟨σ7, H7, I7, n7⟩ := q7; exact again I7 n7
    | brk => obtain ⟨σ7, H7, I7, q7⟩ := q7; exact ⟨σ7, H7, I7.unpinned, q7⟩
    | ret v => obtain ⟨x7, σ7, H7, I7, r7, q7⟩ := q7; exact ⟨x7, σ7, H7, I7.unpinned, r7, q7⟩
end
/-- over a list that the body leaves as it is -/
theorem for_list {K : PySem.W.Frag} {a : Addr} {xs : List V} {g : TG} {tb : TS} {D : Ends} {σ : St} {H : Hp} (Pv : Nat → St → Hp → Prop) (h0 : Pv 0 σ H) (hl : ∀ i σ H, i ≤ xs.length → Pv i σ H → SqL K H a xs)
    (hs : ∀ i x σ H, xs[i]? = some x → Pv i σ H → g x σ H fun σ2 H2 => tb { D with nx := Pv (i + 1), ct := Pv (i + 1), bk := D.nx } σ2 H2) (hd : ∀ σ H, Pv xs.length σ H → D.nx σ H) :
    ∃ W : Nat → Nat → St → Hp → Prop, (∃ m, W 0 m σ H) ∧ ∀ i m σ H, W i m σ H →
      ((Itl K a).stop i H ∧ D.nx σ H) ∨ ((Itl K a).go i H ∧ ∃ N : St → Hp → Prop, (∀ σ' H', N σ' H' → ∃ m', m' < m ∧ W (i + 1) m' σ' H') ∧ ∀ x H', (Itl K a).yld i H x H' → g x σ H' fun σ2 H2 => tb { D with nx := N, ct := N, bk := D.nx } σ2 H2) := by
  refine ⟨fun i m σ H => m = xs.length - i ∧ i ≤ xs.length ∧ Pv i σ H, ⟨xs.length, by simp, Nat.zero_le _, h0⟩, ?_⟩
  rintro i m σ H ⟨rfl, hi, p⟩
  have q := hl i σ H hi p
  by_cases hlt : i < xs.length
  · refine .inr ⟨⟨xs, xs[i], q, by simp [hlt]⟩, Pv (i + 1), fun σ' H' p' => ⟨xs.length - (i + 1), by omega, rfl, hlt, p'⟩, fun x H' y => ?_⟩
    obtain ⟨e, y⟩ := y
    subst e
    exact hs i x σ _ (y xs q) p
  · have e : i = xs.length := by omega
    subst e
    exact .inl ⟨⟨xs, q, Nat.le_refl _⟩, hd σ H p⟩
theorem for_range {lo : Int} {n : Nat} {g : TG} {tb : TS} {D : Ends} {σ : St} {H : Hp} (Pv : Nat → St → Hp → Prop) (h0 : Pv 0 σ H)
    (hs : ∀ i σ H, i < n → Pv i σ H → g (.int (lo + i)) σ H fun σ2 H2 => tb { D with nx := Pv (i + 1), ct := Pv (i + 1), bk := D.nx } σ2 H2) (hd : ∀ σ H, Pv n σ H → D.nx σ H) :
    ∃ W : Nat → Nat → St → Hp → Prop, (∃ m, W 0 m σ H) ∧ ∀ i m σ H, W i m σ H →
      ((Itr lo n).stop i H ∧ D.nx σ H) ∨ ((Itr lo n).go i H ∧ ∃ N : St → Hp → Prop, (∀ σ' H', N σ' H' → ∃ m', m' < m ∧ W (i + 1) m' σ' H') ∧ ∀ x H', (Itr lo n).yld i H x H' → g x σ H' fun σ2 H2 => tb { D with nx := N, ct := N, bk := D.nx } σ2 H2) := by
  refine ⟨fun i m σ H => m = n - i ∧ i ≤ n ∧ Pv i σ H, ⟨n, by simp, Nat.zero_le _, h0⟩, ?_⟩
  rintro i m σ H ⟨rfl, hi, p⟩
  by_cases hlt : i < n
  · refine .inr ⟨hlt, Pv (i + 1), fun σ' H' p' => ⟨n - (i + 1), by omega, rfl, hlt, p'⟩, fun x H' y => ?_⟩
    obtain ⟨e, y⟩ := y
    subst e y
    exact hs i σ _ hlt p
  · have e : i = n := by omega
    subst e
    exact .inl ⟨Nat.le_refl _, hd σ H p⟩
/-- while, by a word and a measure of the state -/
theorem while_by {c : TT} {tb : TS} {D : Ends} {σ : St} {H : Hp} (Pv : St → Hp → Prop) (μ : St → Hp → Nat) (h0 : Pv σ H)
    (hs : ∀ σ H, Pv σ H → c σ H fun b H1 => if b = true then tb { D with nx := fun σ' H' => Pv σ' H' ∧ μ σ' H' < μ σ H, ct := fun σ' H' => Pv σ' H' ∧ μ σ' H' < μ σ H, bk := D.nx } σ H1 else D.nx σ H1)
    (mono : ∀ σ H Q Q', (∀ b H1, Q b H1 → Q' b H1) → c σ H Q → c σ H Q') : tWhile c tb D σ H := by
  refine ⟨fun m σ H => m = μ σ H ∧ Pv σ H, ⟨_, rfl, h0⟩, ?_⟩
  rintro m σ H ⟨rfl, p⟩
  refine mono σ H _ _ (fun b H1 q => ?_) (hs σ H p)
  cases b with
  | true => exact ⟨_, fun σ' H' ⟨p', l⟩ => ⟨_, l, rfl, p'⟩, q⟩
  | false => exact q
end L2
namespace L2
open PySem PySem.Spec PyProof.Rows
abbrev R2 := V → V → Hp → VK → Prop
/-- a two-place operation on values: f is binaryOp op, inplaceOp op or compareOp op -/
def OpR (X : Cx) (f : Value → Value → Sem Value) (r : R2) : Prop :=
  ∀ (pins : List (Addr × Obj)) (s : Shared) (σ : St) (H : Hp) (x y : V) (v u : Value) (Q : VK), Inv X pins σ H s → RelV x v → RelV y u → r x y H Q →
    wpAny (model X.prog X.w) X.A (f v u) (EP X pins σ Q) X.xe s
/-- a one-place operation -/
def UnR (X : Cx) (f : Value → Sem Value) (r : V → Hp → VK → Prop) : Prop :=
  ∀ (pins : List (Addr × Obj)) (s : Shared) (σ : St) (H : Hp) (x : V) (v : Value) (Q : VK), Inv X pins σ H s → RelV x v → r x H Q →
    wpAny (model X.prog X.w) X.A (f v) (EP X pins σ Q) X.xe s
/-- a call of a value that is known (a builtin, a type) with values -/
def CallR (X : Cx) (f : Value) (r : List V → Hp → VK → Prop) : Prop :=
  ∀ (pins : List (Addr × Obj)) (s : Shared) (σ : St) (H : Hp) (xs : List V) (us : List Value) (Q : VK), Inv X pins σ H s → Vals xs us → r xs H Q →
    wpAny (model X.prog X.w) X.A (call f us) (EP X pins σ Q) X.xe s
def tOp (r : R2) (ta tb : TE) : TE := fun σ H Q => ta σ H fun x H1 => tb σ H1 fun y H2 => r x y H2 Q
def tUn (r : V → Hp → VK → Prop) (ta : TE) : TE := fun σ H Q => ta σ H fun x H1 => r x H1 Q
/-- ints in, under C, and a value out -/
def rI (C : Int → Int → Prop) (g : Int → Int → V) : R2 := fun x y H Q => ∃ i j, x = .int i ∧ y = .int j ∧ C i j ∧ Q (g i j) H
def rI0 (g : Int → Int → V) : R2 := fun x y H Q => ∃ i j, x = .int i ∧ y = .int j ∧ Q (g i j) H
def rU (g : Int → V) : V → Hp → VK → Prop := fun x H Q => ∃ i, x = .int i ∧ Q (g i) H
section
variable {X : Cx} {a b c : Expr} {ta tb tc : TE} {pos : Pos}
theorem binT (ha : PE X a ta) (hb : PE X b tb) {pins : List (Addr × Obj)} {s : Shared} {σ : St} {H : Hp} {R : V → V → Hp → Prop} (I : Inv X pins σ H s)
    (h : ta σ H fun x H1 => tb σ H1 fun y H2 => R x y H2) {Q : Value → Shared → Prop} {f : Value → Value → Sem Value}
    (hf : ∀ v u s2 x y H2, Inv X pins σ H2 s2 → RelV x v → RelV y u → R x y H2 → wpAny (model X.prog X.w) X.A (f v u) Q X.xe s2) :
    wpAny (model X.prog X.w) X.A (eval a X.env) (fun v s₁ => wpAny (model X.prog X.w) X.A (eval b X.env) (fun u s₂ => wpAny (model X.prog X.w) X.A (f v u) Q X.xe s₂) X.xe s₁) X.xe s := by
  refine thn (ha pins s σ H _ I h) fun v s1 ⟨x, H1, I1, r1, q1⟩ => ?_
  refine thn (hb pins s1 σ H1 _ I1 q1) fun u s2 ⟨y, H2, I2, r2, q2⟩ => ?_
  exact hf v u s2 x y H2 I2 r1 r2 q2
theorem pe_op {op : Operator} {r : R2} (ho : OpR X (binaryOp op) r) (ha : PE X a ta) (hb : PE X b tb) : PE X (.BinOp a op b pos) (tOp r ta tb) := by
  intro pins s σ H Q I h
  exact wpAny_BinOp (binT ha hb I h fun v u s2 x y H2 I2 rx ry q => ho pins s2 σ H2 x y v u Q I2 rx ry q)
theorem pe_un {op : UnaryOp} {r : V → Hp → VK → Prop} (ho : UnR X (unaryOp op) r) (ha : PE X a ta) : PE X (.UnaryOp op a pos) (tUn r ta) := by
  intro pins s σ H Q I h
  exact UnaryOp_ (thn (ha pins s σ H _ I h) fun v s1 ⟨x, H1, I1, r1, q1⟩ => ho pins s1 σ H1 x v Q I1 r1 q1)
theorem opI {f : Value → Value → Sem Value} {C : Int → Int → Prop} {g : Int → Int → Int}
    (rule : ∀ (i j : Int) (t u : Tok) (s : Shared) (Q : Value → Shared → Prop) (E : Value → Shared → Prop), C i j → Q (.int (g i j) s.toks) { s with toks := s.toks + 1 } → wpAny (model X.prog X.w) X.A (f (.int i t) (.int j u)) Q E s) :
    OpR X f (rI C fun i j => .int (g i j)) := by
  intro pins s σ H x y v u Q I rx ry h
  obtain ⟨i, j, rfl, rfl, hc, q⟩ := h
  obtain ⟨t, rfl⟩ := rx
  obtain ⟨t', rfl⟩ := ry
  exact rule i j t t' s _ _ hc ⟨.int (g i j), H, I.tok _, ⟨_, rfl⟩, q⟩
theorem opI0 {f : Value → Value → Sem Value} {g : Int → Int → Int}
    (rule : ∀ (i j : Int) (t u : Tok) (s : Shared) (Q : Value → Shared → Prop) (E : Value → Shared → Prop), Q (.int (g i j) s.toks) { s with toks := s.toks + 1 } → wpAny (model X.prog X.w) X.A (f (.int i t) (.int j u)) Q E s) :
    OpR X f (rI0 fun i j => .int (g i j)) := by
  intro pins s σ H x y v u Q I rx ry h
  obtain ⟨i, j, rfl, rfl, q⟩ := h
  obtain ⟨t, rfl⟩ := rx
  obtain ⟨t', rfl⟩ := ry
  exact rule i j t t' s _ _ ⟨.int (g i j), H, I.tok _, ⟨_, rfl⟩, q⟩
theorem opB0 {f : Value → Value → Sem Value} {g : Int → Int → Bool}
    (rule : ∀ (i j : Int) (t u : Tok) (s : Shared) (Q : Value → Shared → Prop) (E : Value → Shared → Prop), Q (.bool (g i j)) s → wpAny (model X.prog X.w) X.A (f (.int i t) (.int j u)) Q E s) :
    OpR X f (rI0 fun i j => .bl (g i j)) := by
  intro pins s σ H x y v u Q I rx ry h
  obtain ⟨i, j, rfl, rfl, q⟩ := h
  obtain ⟨t, rfl⟩ := rx
  obtain ⟨t', rfl⟩ := ry
  exact rule i j t t' s _ _ ⟨.bl (g i j), H, I, rfl, q⟩
def CDiv (i j : Int) : Prop := 0 < j ∧ j < 1073741824
def CMul (i j : Int) : Prop := (-(2 ^ 64) < i ∧ i < 2 ^ 64) ∨ (-(2 ^ 64) < j ∧ j < 2 ^ 64)
theorem CMul.ok {i j : Int} (h : CMul i j) : IntMulOk i j := by
  rcases h with ⟨h1, h2⟩ | ⟨h1, h2⟩
  · exact .of_left (intBits_le_64 h1 h2)
  · exact .of_right (intBits_le_64 h1 h2)
theorem op_add : OpR X (binaryOp .Add) (rI0 fun i j => .int (i + j)) := opI0 fun _ _ _ _ _ _ _ q => add_int q
theorem op_sub : OpR X (binaryOp .Sub) (rI0 fun i j => .int (i - j)) := opI0 fun _ _ _ _ _ _ _ q => sub_int q
theorem op_mul : OpR X (binaryOp .Mult) (rI CMul fun i j => .int (i * j)) := opI fun _ _ _ _ _ _ _ hc q => mul_int q hc.ok
/-- // by a positive divisor -/
theorem op_fdiv : OpR X (binaryOp .FloorDiv) (rI CDiv fun i j => .int (i / j)) := opI fun i j _ _ _ _ _ hc q => by
  have h1 : (0 : Int) < j := hc.1
  have h2 : j < 1073741824 := hc.2
  exact floordiv_int (by omega) (by rw [Int.fdiv_eq_ediv_of_nonneg i (by omega)]; exact q) (.inl (PyProof.noPylong_small (by omega)))
/-- % by a positive divisor of any size -/
theorem op_mod : OpR X (binaryOp .Mod) (rI (fun _ j => 0 < j) fun i j => .int (i % j)) := opI fun i j _ _ _ _ _ hc q => by
  have h1 : (0 : Int) < j := hc
  exact mod_int' (by omega) (by rw [Int.fmod_eq_emod_of_nonneg i (by omega)]; exact q)
theorem unI {f : Value → Sem Value} {g : Int → Int}
    (rule : ∀ (i : Int) (t : Tok) (s : Shared) (Q : Value → Shared → Prop) (E : Value → Shared → Prop), Q (.int (g i) s.toks) { s with toks := s.toks + 1 } → wpAny (model X.prog X.w) X.A (f (.int i t)) Q E s) :
    UnR X f (rU fun i => .int (g i)) := by
  intro pins s σ H x v Q I rx h
  obtain ⟨i, rfl, q⟩ := h
  obtain ⟨t, rfl⟩ := rx
  exact rule i t s _ _ ⟨.int (g i), H, I.tok _, ⟨_, rfl⟩, q⟩
theorem un_neg : UnR X (unaryOp .USub) (rU fun i => .int (-i)) := unI fun _ _ _ _ _ q => neg_int q
end
/-- the scalars that == tells apart as data does -/
def scal : V → V → Bool
  | .non, .non => true | .non, .int _ => true | .int _, .non => true | .non, .bl _ => true | .bl _, .non => true | .non, .str _ => true | .str _, .non => true
  | .int _, .int _ => true | .bl _, .bl _ => true | .str _, .str _ => true | .byt _, .byt _ => true
  | .int _, .str _ => true | .str _, .int _ => true | .bl _, .str _ => true | .str _, .bl _ => true
  | _, _ => false
def rEq : R2 := fun x y H Q => scal x y = true ∧ Q (.bl (decide (x = y))) H
theorem dec_int {i j : Int} : decide (V.int i = V.int j) = (i == j) := by
  rw [Bool.eq_iff_iff]
  simp
theorem dec_bl {i j : Bool} : decide (V.bl i = V.bl j) = (i == j) := by
  rw [Bool.eq_iff_iff]
  simp
theorem dec_str {i j : Str} : decide (V.str i = V.str j) = (i == j) := by
  rw [Bool.eq_iff_iff]
  simp
theorem dec_byt {i j : Array UInt8} : decide (V.byt i = V.byt j) = (i.toList == j.toList) := by
  rw [Bool.eq_iff_iff]
  cases i
  cases j
  simp
section
variable {X : Cx} {a b c : Expr} {ta tb tc : TE} {pos : Pos}
theorem fin_bl {pins : List (Addr × Obj)} {σ : St} {H : Hp} {s : Shared} {Q : VK} {k k' : Bool} (I : Inv X pins σ H s) (q : Q (.bl k) H) (e : k = k') : EP X pins σ Q (.bool k') s := by
  subst e
  exact ⟨.bl k, H, I, rfl, q⟩
theorem op_eq : OpR X (compareOp .Eq) rEq := by
  intro pins s σ H x y v u Q I rx ry h
  obtain ⟨hs, q⟩ := h
  cases x with
  | non =>
    cases rx
    cases y with
    | non => cases ry; exact PySem.EqNone.eq_none_none (fin_bl I q (by simp))
    | bl j => cases ry; exact PySem.EqNone.eq_none_bool (fin_bl I q (by simp))
    | int j => obtain ⟨t', rfl⟩ := ry; exact PySem.EqNone.eq_none_int (fin_bl I q (by simp))
    | str j => obtain ⟨t', rfl⟩ := ry; exact PySem.EqNone.eq_none_str (fin_bl I q (by simp))
    | _ => exact absurd (show false = true from hs) Bool.false_ne_true
  | bl i =>
    cases rx
    cases y with
    | non => cases ry; exact PySem.EqNone.eq_bool_none (fin_bl I q (by simp))
    | bl j => cases ry; exact eq_bool (fin_bl I q dec_bl)
    | str j => obtain ⟨t', rfl⟩ := ry; exact PySem.EqMixed.eq_bool_str (fin_bl I q (by simp))
    | _ => exact absurd (show false = true from hs) Bool.false_ne_true
  | int i =>
    obtain ⟨t, rfl⟩ := rx
    cases y with
    | non => cases ry; exact PySem.EqNone.eq_int_none (fin_bl I q (by simp))
    | int j => obtain ⟨t', rfl⟩ := ry; exact eq_int (fin_bl I q dec_int)
    | str j => obtain ⟨t', rfl⟩ := ry; exact PySem.EqMixed.eq_int_str (fin_bl I q (by simp))
    | _ => exact absurd (show false = true from hs) Bool.false_ne_true
  | str i =>
    obtain ⟨t, rfl⟩ := rx
    cases y with
    | non => cases ry; exact PySem.EqNone.eq_str_none (fin_bl I q (by simp))
    | bl j => cases ry; exact PySem.EqMixed.eq_str_bool (fin_bl I q (by simp))
    | int j => obtain ⟨t', rfl⟩ := ry; exact PySem.EqMixed.eq_str_int (fin_bl I q (by simp))
    | str j => obtain ⟨t', rfl⟩ := ry; exact eq_str (fin_bl I q dec_str)
    | _ => exact absurd (show false = true from hs) Bool.false_ne_true
  | byt i =>
    obtain ⟨t, rfl⟩ := rx
    cases y with
    | byt j => obtain ⟨t', rfl⟩ := ry; exact PySem.W.eq_bytes (fin_bl I q dec_byt)
    | _ => exact absurd (show false = true from hs) Bool.false_ne_true
  | _ => cases y <;> exact absurd (show false = true from hs) Bool.false_ne_true
theorem op_lt : OpR X (compareOp .Lt) (rI0 fun i j => .bl (decide (i < j))) := opB0 fun _ _ _ _ _ _ _ q => lt_int q
theorem op_gt : OpR X (compareOp .Gt) (rI0 fun i j => .bl (decide (j < i))) := opB0 fun _ _ _ _ _ _ _ q => gt_int q
theorem op_ge : OpR X (compareOp .GtE) (rI0 fun i j => .bl (decide (j ≤ i))) := opB0 fun _ _ _ _ _ _ _ q => ge_int q
theorem nomark (b : Expr) {op : CmpOp} (h : op ≠ .In := by decide) (h2 : op ≠ .NotIn := by decide) : behindInMarks op b = false := by
  have e1 : (op == CmpOp.In) = false := by cases op <;> first | rfl | exact absurd rfl h
  have e2 : (op == CmpOp.NotIn) = false := by cases op <;> first | rfl | exact absurd rfl h2
  cases b <;> simp [behindInMarks, e1, e2]
/-- a comparison as a value; hm: nomark b, or (for in, not in) by with_unfolding_all rfl -/
theorem pe_cmpR {op : CmpOp} {r : R2} (ho : OpR X (compareOp op) r) (ha : PE X a ta) (hb : PE X b tb) (hm : behindInMarks op b = false) : PE X (.Compare a [op] [b] pos) (tOp r ta tb) := by
  intro pins s σ H Q I h
  exact wpAny_Compare1 (binT ha hb I h fun v u s2 x y H2 I2 rx ry q => ho pins s2 σ H2 x y v u Q I2 rx ry q) hm
/-- a reading of a value as a test -/
def tTest (t : TE) : TT := fun σ H Q => t σ H fun x H' => ∃ k, x = .bl k ∧ Q k H'
theorem pt_cmpR {op : CmpOp} {r : R2} (ho : OpR X (compareOp op) r) (ha : PE X a ta) (hb : PE X b tb) (hm : behindInMarks op b = false) : PT X (.Compare a [op] [b] pos) (tTest (tOp r ta tb)) := by
  intro pins s σ H Q I h
  refine wpAny_isTrue_Compare1 (thn (ha pins s σ H _ I h) fun v s1 ⟨x, H1, I1, r1, q1⟩ => thn (hb pins s1 σ H1 _ I1 q1) fun u s2 ⟨y, H2, I2, r2, q2⟩ =>
    thn (ho pins s2 σ H2 x y v u _ I2 r1 r2 q2) fun c s3 ⟨z, H3, I3, r3, k, e, q3⟩ => ?_) hm
  subst e
  cases r3
  exact wpAny_truthy_bool ⟨H3, I3, q3⟩
theorem line63 : (sizeLine : Nat) < 2 ^ 63 := by rw [sizeLine_eq]; decide
theorem vals1 {x : V} {us : List Value} (r : Vals [x] us) : ∃ u, us = [u] ∧ RelV x u := by
  cases r with
  | cons r1 r2 => cases r2; exact ⟨_, rfl, r1⟩
theorem call_abs : CallR X (.builtin "abs") (fun xs H Q => ∃ i, xs = [.int i] ∧ Q (.int (if i < 0 then -i else i)) H) := by
  intro pins s σ H xs us Q I r h
  obtain ⟨i, rfl, q⟩ := h
  obtain ⟨u, rfl, t, rfl⟩ := vals1 r
  exact call_abs_int fun u tk => ⟨.int (if i < 0 then -i else i), H, I.tok _, ⟨_, rfl⟩, q⟩
end
end L2
namespace L2
open PySem PySem.Spec PyProof.Rows
theorem RelO.some_of {v : V} {o : Option Value} (r : RelO (some v) o) : ∃ u, o = some u ∧ RelV v u := by
  cases o with
  | none => exact (show False from r).elim
  | some u => exact ⟨u, rfl, r⟩
end L2
namespace L2
open PySem PySem.Spec PyProof.Rows
structure Room (k : Nat) (A : Around) : Prop where
  hd : A.handled = none
  dp : A.depth + 3 * k + 5 < recursionLimit
  un : A.units + 16 * k + 200 < cLine
theorem Room.mono {j k : Nat} {A : Around} (r : Room k A) (h : j ≤ k) : Room j A := ⟨r.hd, by have := r.dp; omega, by have := r.un; omega⟩
theorem Room.deeper {k : Nat} {A : Around} (r : Room (k + 1) A) (env : Env) : Room k (A.deeper env) :=
  ⟨r.hd, by have := r.dp; show A.depth + 1 + 3 * k + 5 < _; omega, by have := r.un; show A.units + 3 + 16 * k + 200 < _; omega⟩
theorem Room.in1 {k : Nat} {A : Around} (r : Room (k + 1) A) : Room k A.in1 :=
  ⟨r.hd, by have := r.dp; show A.depth + 3 * k + 5 < _; omega, by have := r.un; show A.units + 1 + 16 * k + 200 < _; omega⟩
theorem Room.depth {k : Nat} {A : Around} (r : Room k A) : A.depth < recursionLimit := by have := r.dp; omega
def tNil : TA := fun _ H Q => Q [] H
def tCons (ta : TE) (tr : TA) : TA := fun σ H Q => ta σ H fun x H1 => tr σ H1 fun xs H2 => Q (x :: xs) H2
section
variable {X : Cx} {e : Expr} {es : List Expr} {te : TE} {t : TA} {pos : Pos}
theorem pa_nil : PA X [] tNil := fun _ _ _ _ H Q I h => Calls.spliced_nil ⟨[], H, I, .nil, h⟩
theorem pa_cons (ha : PE X e te) (hr : PA X es t) (hs : starEach (e :: es) X.env = (false, eval e X.env) :: starEach es X.env := by rfl) : PA X (e :: es) (tCons te t) := by
  intro pos pins s σ H Q I h
  rw [hs]
  show wpAny _ _ (spliced ((false, eval e X.env) :: backTo pos (starEach es X.env))) _ _ s
  refine Calls.spliced_cons (thn (ha pins s σ H _ I h) fun u s1 ⟨x, H1, I1, r1, q1⟩ => ?_)
  exact thn (hr pos pins s1 σ H1 _ I1 q1) fun us s2 ⟨xs, H2, I2, r2, q2⟩ => ⟨x :: xs, H2, I2, .cons r1 r2, q2⟩
/-- a tuple, a list of written items -/
def tTup (t : TA) : TE := fun σ H Q => t σ H fun xs H1 => xs.length ≤ sizeLine ∧ ∀ p, H1 p = none → Q (.ref p) (upd H1 p (.tup xs))
def tLst (t : TA) : TE := fun σ H Q => t σ H fun xs H1 => xs.length ≤ sizeLine ∧ ∀ p, H1 p = none → Q (.ref p) (upd H1 p (.lst xs))
theorem pe_tup {x1} (h : PA X es t) : PE X (.Tuple es x1 pos) (tTup t) := by
  intro pins s σ H Q I hq
  refine wpAny_Tuple_spliced (thn (h pos pins s σ H _ I hq) fun us s1 ⟨xs, H1, I1, r, z, q⟩ => ⟨by rw [← r.length]; exact z, ?_⟩)
  have hf : H1 s1.heap.objs.size = none := I1.hok.fresh (Nat.le_refl _)
  refine ⟨.ref s1.heap.objs.size, upd H1 s1.heap.objs.size (.tup xs), I1.laid (t' := s1.toks) (fun b u e => Heap.get?_push_of_some _ e) (Nat.le_refl _) ?_, rfl, q _ hf⟩
  exact ⟨z, us, r, ⟨_, Heap.get?_push_size _ rfl, rfl, _, rfl⟩⟩
theorem pe_lst (h : PA X es t) : PE X (.List es pos) (tLst t) := by
  intro pins s σ H Q I hq
  refine wpAny_List_spliced (thn (h pos pins s σ H _ I hq) fun us s1 ⟨xs, H1, I1, r, z, q⟩ => ⟨by rw [← r.length]; exact z, ?_⟩)
  have hf : H1 s1.heap.objs.size = none := I1.hok.fresh (Nat.le_refl _)
  refine ⟨.ref s1.heap.objs.size, upd H1 s1.heap.objs.size (.lst xs), I1.laid (t' := s1.toks) (fun b u e => Heap.get?_push_of_some _ e) (Nat.le_refl _) ?_, rfl, q _ hf⟩
  exact ⟨z, us, 0, r, Heap.get?_push_size _ rfl⟩
end
/-- a def's promise: the bound arguments in the parameters' order, the heap, the wanted end, the wanted exception -/
abbrev Sp := List V → Hp → VK → XK → Prop
/-- how an exception lies behind a call (file 08 gives it): the callers' frames, abstract heap and state ahead of the call, the wish, the exception, the state -/
abbrev CXT := List Env → Hp → Shared → XK → Value → Shared → Prop
/-- the state at a call -/
structure Env0 (P : Program) (w : World) (K : PySem.W.Frag) (mg : Str → Option Value) (base : Heap) (A : Around) (outer : List Env) (s : Shared) (H : Hp) : Prop where
  frames : A.frames = some outer
  mod : Mod K mg base
  bs : ∀ b o, base.get? b = some o → s.heap.get? b = some o ∧ H b = none
  bsz : base.objs.size ≤ s.heap.objs.size
  funs : s.heap.FunFrames base outer
  frf : ∀ b ∈ frs outer, H b = none
  hok : HOk P w H s.heap
  bare : AllBare s.gens
/-- a call's end -/
def CE (outer : List Env) (P : Program) (w : World) (H : Hp) (s : Shared) (Q : VK) (u : Value) (s' : Shared) : Prop :=
  ∃ v H', s'.os = s.os ∧ AllBare s'.gens ∧ Un (frs outer) [] H H' s.heap s'.heap ∧ HOk P w H' s'.heap ∧ RelV v u ∧ Q v H'
def CR (CX : CXT) (outer : List Env) (P : Program) (w : World) (H : Hp) (s : Shared) (Q : VK) (E : XK) (r : Result) (s' : Shared) : Prop :=
  match r with
  | .ok (.ret u) => CE outer P w H s Q u s'
  | .ok _ => False
  | .error e => CX outer H s E e s'
structure FnOk (P : Program) (w : World) (K : PySem.W.Frag) (mg : Str → Option Value) (base : Heap) (CX : CXT) (k : Nat) (f : Addr) (fd : FuncData) (ps : List Str) (sp : Sp) : Prop where
  len : ∀ vs H Q E, sp vs H Q E → vs.length = ps.length
  run : ∀ (A : Around) (outer : List Env) (s : Shared) (H : Hp) (args : Args) (us : List Value) (vs : List V) (Q : VK) (E : XK), Room k A → Env0 P w K mg base A outer s H → BindsTo s fd args (ps.zip us) → Vals vs us → sp vs H Q E →
    codeAny (model P w) A (.call (.ref f) args) (CR CX outer P w H s Q E) s
section
variable {X : Cx} {pins : List (Addr × Obj)} {σ : St} {H : Hp} {s s' : Shared}
/-- from a body: what a callee wants -/
theorem Inv.env0 (I : Inv X pins σ H s) : Env0 X.prog X.w X.K X.mg X.base X.A X.stack s H :=
  ⟨I.ok.frames, I.ok.mod, I.bs, Nat.le_trans I.ok.bsz I.sz, I.stack, I.stkFree, I.hok, I.bare⟩
/-- behind a call -/
theorem Inv.after {Q : VK} {u : Value} (I : Inv X pins σ H s) (h : CE X.stack X.prog X.w H s Q u s') : EP X pins σ Q u s' := by
  obtain ⟨v, H', os, bare, un, hok, r, q⟩ := h
  obtain ⟨hh, g, d, t, os'⟩ := s'
  obtain rfl : os' = s.os := os
  exact ⟨v, H', I.call (h' := hh) (g' := g) (d' := d) (t' := t) (ch := []) un hok bare (fun b z => absurd z (by simp)), r, q⟩
end
/-- f(..): the written arguments, then the defaults dvs; E: what is wanted of an exception -/
def tCall (sp : Sp) (dvs : List V) (E : XK) (t : TA) : TE := fun σ H Q => t σ H fun vs H1 => sp (vs ++ dvs) H1 Q E
/-- how the parameters are bound: us the positional arguments, kw the keywords' values by name, ds the defaults that fill up -/
def Binds (K : PySem.W.Frag) (fd : FuncData) (ps : List Str) (ds : List Value) : Prop :=
  ∀ (s : Shared) (us : List Value), K.In s.heap → (us ++ ds).length = ps.length → BindsTo s fd ⟨us, []⟩ (ps.zip (us ++ ds))
/-- every parameter is given -/
theorem Binds.all {K : PySem.W.Frag} {fd : FuncData} {ps : List Str} (h : ∀ us : List Value, us.length = ps.length → bindArgs fd ⟨us, []⟩ = pure (ps.zip us)) : Binds K fd ps [] := fun s us _ hl => by
  rw [List.append_nil] at hl ⊢
  exact .of_eq (h us hl)
/-- an exception of a callee reaches what this body wants of exceptions -/
def Passes (CX : CXT) (X : Cx) (E : XK) : Prop := ∀ (pins : List (Addr × Obj)) (σ : St) (H : Hp) (s : Shared) (e : Value) (s' : Shared), Inv X pins σ H s → CX X.stack H s E e s' → X.xe e s'
section
variable {X : Cx} {CX : CXT} {k : Nat} {f C : Addr} {fd : FuncData} {ps : List Str} {sp : Sp} {dvs : List V} {ds : List Value} {E : XK} {x m : Str} {p pos apos : Pos} {e o : Expr} {es : List Expr} {ta : TE} {t : TA}
/-- the callee runs -/
theorem run_fn {pins : List (Addr × Obj)} {σ : St} {H : Hp} {s : Shared} {Q : VK} {us : List Value} {vs : List V} (F : FnOk X.prog X.w X.K X.mg X.base CX k f fd ps sp) (hr : Room k X.A) (hb : Binds X.K fd ps ds) (hd : Vals dvs ds) (hx : Passes CX X E)
    (I : Inv X pins σ H s) (r : Vals vs us) (h : sp (vs ++ dvs) H Q E) : wpAny (model X.prog X.w) X.A (call (.ref f) us) (EP X pins σ Q) X.xe s := by
  have r2 : Vals (vs ++ dvs) (us ++ ds) := r.append hd
  have hl : (us ++ ds).length = ps.length := by rw [← r2.length]; exact F.len _ _ _ _ h
  refine wpAny_call (codeAny_mono (F.run X.A X.stack s H ⟨us, []⟩ (us ++ ds) (vs ++ dvs) Q E hr I.env0 (hb s us I.kIn hl) r2 h) fun r s' hq => ?_)
  cases r with
  | error e => exact hx pins σ H s e s' I hq
  | ok fl =>
    cases fl with
    | ret u => exact I.after hq
    | next => exact False.elim hq
    | brk => exact False.elim hq
    | cont => exact False.elim hq
theorem pe_call (F : FnOk X.prog X.w X.K X.mg X.base CX k f fd ps sp) (hr : Room k X.A) (hg : Gl X x) (hm : X.mg x = some (.ref f)) (hk : PySem.W.keepIn X.K (.ref f) = true) (hb : Binds X.K fd ps ds) (hd : Vals dvs ds) (hx : Passes CX X E)
    (ha : PA X (e :: es) t) (hdb : (x == ("__debug__" : Str)) = false := by decide) (he : starEach (e :: es) X.env = (false, eval e X.env) :: starEach es X.env := by rfl) (hpl : (backTo pos (starEach es X.env)).any (·.1) = false := by rfl) :
    PE X (.Call (.Name x p) (e :: es) [] pos) (tCall sp dvs E t) := by
  intro pins s σ H Q I h
  refine wpAny_Call_Name_kw (ld_glob I hg hm ?_ hdb)
  refine PySem.W.callWith_K (h₀ := X.base) I.ok.mod.kin hk (thn (ha pos pins s σ H _ I h) fun us s1 ⟨vs, H1, I1, r, q⟩ => ⟨I1.kIn, ?_⟩) he hpl
  exact run_fn F hr hb hd hx I1 r q
end
/-- names: the parameters first -/
structure FnScope (N P : List Str) (sc : Scope) : Prop where
  kind : sc.kind = .function
  co : sc.isCoroutine = false
  gen : sc.isGenerator = false
  nd : N.Nodup
  pre : N.take P.length = P
  par : ∀ x ∈ P, sc.names.lookup x = some .local ∨ sc.names.lookup x = some .cell
  nofree : ∀ y ∈ sc.names, y.2 ≠ .free
theorem bindL_out {kindOf : Str → Option NameKind} {x : Str} : ∀ {binds : List (Str × Value)} {m : Str → Option Value}, (∀ v, (x, v) ∉ binds) → bindL kindOf binds m x = m x
  | [], _, _ => rfl
  | (n, v) :: r, m, h => by
    unfold bindL
    rw [bindL_out fun w hw => h w (List.mem_cons_of_mem _ hw)]
    split
    · have : x ≠ n := by rintro rfl; exact h v List.mem_cons_self
      simp [this]
    · rfl
theorem bindC_out {kindOf : Str → Option NameKind} {x : Str} : ∀ {binds : List (Str × Value)} {m : Str → Option Value}, (∀ v, (x, v) ∉ binds) → bindC kindOf binds m x = m x
  | [], _, _ => rfl
  | (n, v) :: r, m, h => by
    unfold bindC
    rw [bindC_out fun w hw => h w (List.mem_cons_of_mem _ hw)]
    split
    · rfl
    · have : x ≠ n := by rintro rfl; exact h v List.mem_cons_self
      simp [this]
theorem bindL_get {kindOf : Str → Option NameKind} {x : Str} {v : Value} : ∀ {P : List Str} {vs : List Value} {i : Nat} {m : Str → Option Value}, P.Nodup → P[i]? = some x → vs[i]? = some v → kindOf x = some .local →
    bindL kindOf (P.zip vs) m x = some v
  | [], _, _, _, _, h, _, _ => by simp at h
  | _ :: _, [], _, _, _, _, h, _ => by simp at h
  | p :: P, w :: vs, 0, m, nd, h1, h2, hk => by
    simp at h1 h2; subst h1; subst h2
    show bindL kindOf ((p, w) :: P.zip vs) m p = _
    unfold bindL
    rw [bindL_out fun v hv => (List.nodup_cons.mp nd).1 (List.of_mem_zip hv).1, if_pos hk]
    simp
  | p :: P, w :: vs, i + 1, m, nd, h1, h2, hk => by
    show bindL kindOf ((p, w) :: P.zip vs) m x = _
    unfold bindL
    exact bindL_get (i := i) (List.nodup_cons.mp nd).2 (by simpa using h1) (by simpa using h2) hk
theorem bindC_get {kindOf : Str → Option NameKind} {x : Str} {v : Value} : ∀ {P : List Str} {vs : List Value} {i : Nat} {m : Str → Option Value}, P.Nodup → P[i]? = some x → vs[i]? = some v → kindOf x ≠ some .local →
    bindC kindOf (P.zip vs) m x = some v
  | [], _, _, _, _, h, _, _ => by simp at h
  | _ :: _, [], _, _, _, _, h, _ => by simp at h
  | p :: P, w :: vs, 0, m, nd, h1, h2, hk => by
    simp at h1 h2; subst h1; subst h2
    show bindC kindOf ((p, w) :: P.zip vs) m p = _
    unfold bindC
    rw [bindC_out fun v hv => (List.nodup_cons.mp nd).1 (List.of_mem_zip hv).1, if_neg hk]
    simp
  | p :: P, w :: vs, i + 1, m, nd, h1, h2, hk => by
    show bindC kindOf ((p, w) :: P.zip vs) m x = _
    unfold bindC
    exact bindC_get (i := i) (List.nodup_cons.mp nd).2 (by simpa using h1) (by simpa using h2) hk
/-- the names' values at the entry -/
def start (N : List Str) (vs : List V) : St := vs.map some ++ List.replicate (N.length - vs.length) none
/-- the context of a def's body, at its entry; an exception leaves the frame, then lies as CX says -/
def cxOf (CX : CXT) (P : Program) (w : World) (K : PySem.W.Frag) (mg : Str → Option Value) (base : Heap) (N : List Str) (qual : Str) (scope : Scope) (f : Addr) (cd : Value) (A : Around) (outer : List Env) (s : Shared) (H : Hp) (E : XK) : Cx where
  prog := P
  w := w
  K := K
  mg := mg
  base := base
  A := A.deeper (envOfC qual scope s.heap.objs.size f cd)
  N := N
  s_0 := s
  H_0 := H
  env := envOfC qual scope s.heap.objs.size f cd
  outer := outer
  stack := envOfC qual scope s.heap.objs.size f cd :: outer
  ex := []
  calm := true
  fn := fun _ => true
  pn := []
  xe := fun e s' => wpAny (model P w) (A.deeper (envOfC qual scope s.heap.objs.size f cd)) (leaving (envOfC qual scope s.heap.objs.size f cd) e) (fun _ s'' => CX outer H s E e s'') (fun e' s'' => CX outer H s E e' s'') s'
theorem cell_has {sc : Scope} {n : Nat} {x : Str} (h : sc.names.lookup x = some .cell) : ∃ c, (cellsFrom n sc.names []).lookup x = some c := by
  have q := PySem.W.cellsFrom_some sc.names n [] (.inl h)
  exact Option.isSome_iff_exists.mp q
theorem inv_start {CX : CXT} {P : Program} {w : World} {K : PySem.W.Frag} {mg : Str → Option Value} {base : Heap} {N ps : List Str} {qual : Str} {scope : Scope} {f : Addr} {cd : Value} {A : Around} {outer : List Env} {s s1 : Shared} {H : Hp} {E : XK} {us : List Value} {vs : List V}
    (S : FnScope N ps scope) (hd : A.handled = none) (e0 : Env0 P w K mg base A outer s H) (hl : vs.length = ps.length) (r : Vals vs us)
    (x : InCallC s s.heap.objs.size (bindL (envOfC qual scope s.heap.objs.size f cd).kindOf (ps.zip us) fun _ => none) (cellsFrom (s.heap.objs.size + 1) scope.names []) (bindC (envOfC qual scope s.heap.objs.size f cd).kindOf (ps.zip us) fun _ => none) s1) :
    Inv (cxOf CX P w K mg base N qual scope f cd A outer s H E) [] (start N vs) H s1 := by
  have hpl : ps.length ≤ N.length := by have := congrArg List.length S.pre; rw [List.length_take] at this; omega
  obtain ⟨h1, tk, rfl, hk⟩ := x.done
  have noA : ∀ b : Addr, b ∉ (cxOf CX P w K mg base N qual scope f cd A outer s H E).ex := fun b z => absurd (show b ∈ ([] : List Addr) from z) (by simp)
  refine ⟨⟨e0.mod, S.kind, rfl, rfl, Nat.le_refl _, fun y z c h1 h2 => ?_, fun y hy => ?_, fun y c _ h => ?_, fun _ => hd, Around.frames_deeper e0.frames, .inr ⟨rfl, rfl⟩, fun b z => absurd z (noA b), e0.bs, e0.bsz, fun b _ _ => noA b, fun b z => absurd z (noA b), e0.funs, e0.frf⟩,
    rfl, e0.bare, Un.kept hk, ⟨_, x.toInCall.ns, fun i y v h1 h2 h3 => ?_⟩, fun y c h => ⟨_, x.cell y c h⟩, e0.hok.fresh (Nat.le_refl _), fun y c h => ?_, fun p hp => absurd (show p ∈ ([] : List (Addr × Obj)) from hp) (by simp), e0.hok.kept hk, ?_⟩
  · exact name_of_addr x.apart (PySem.mem_of_lookup h1) (PySem.mem_of_lookup h2)
  · have hy : scope.names.lookup y = some .cell ∨ scope.names.lookup y = some .free := hy
    rcases hy with hy | hy
    · exact cell_has hy
    · exact absurd rfl (S.nofree _ (PySem.mem_of_lookup hy))
  · exact Nat.le_of_lt (x.above y c (PySem.mem_of_lookup h))
  · have hi : i < vs.length := by
      unfold start at h2
      by_cases hi : i < vs.length
      · exact hi
      · rw [List.getElem?_append_right (by simpa using hi)] at h2
        rw [List.getElem?_replicate] at h2
        split at h2 <;> cases h2
    have ha : vs[i]? = some v := by
      unfold start at h2
      rw [List.getElem?_append_left (by simpa using hi), List.getElem?_map] at h2
      cases e : vs[i]? with
      | none => rw [e] at h2; cases h2
      | some a => rw [e] at h2; cases h2; rfl
    obtain ⟨u, hu, rv⟩ := r.get ha
    have hp : ps[i]? = some y := by
      rw [← S.pre, List.getElem?_take_of_lt (by omega)]; exact h1
    have ndP : ps.Nodup := by rw [← S.pre]; exact S.nd.sublist (List.take_sublist _ _)
    refine ⟨u, rv, ?_⟩
    rcases S.par y (List.mem_of_getElem? hp) with k | k
    · exact .inl ⟨k, bindL_get ndP hp hu k⟩
    · obtain ⟨c, e⟩ := cell_has (n := s.heap.objs.size + 1) k
      refine .inr ⟨.inl k, c, e, ?_⟩
      have q := x.cell y c e
      rw [bindC_get ndP hp hu (by show scope.names.lookup y ≠ _; rw [k]; decide)] at q
      exact q
  · exact e0.hok.fresh (Nat.le_of_lt (x.above y c (PySem.mem_of_lookup h)))
  · unfold start
    show _ = N.length
    rw [List.length_append, List.length_map, List.length_replicate]
    omega
/-- THE RULE: a def (or a method) of the text, by its body. The body's reading t is chosen for each entry; it is run at the parameters' values -/
theorem fn_of {CX : CXT} {P : Program} {w : World} {K : PySem.W.Frag} {mg : Str → Option Value} {base : Heap} {k : Nat} {f : Addr} {name qual : Str} {params : Arguments} {body : List Stmt} {scope : Scope} {dV kV doc pm cdv ct oc : Value} {an od : Option Addr}
    {osl : Array (Option Value)} {N ps : List Str} {sp : Sp} (lk : K.lookup f = some ⟨oc, od, .func (PySem.W.fnOf name qual params body scope dV kV doc pm an cdv ct), osl⟩) (hcd : PySem.W.codeIn K cdv qual = true) (S : FnScope N ps scope)
    (len : ∀ vs H Q E, sp vs H Q E → vs.length = ps.length)
    (hbody : ∀ (A : Around) (outer : List Env) (s : Shared) (H : Hp) (vs : List V) (Q : VK) (E : XK), Room k (A.deeper (envOfC qual scope s.heap.objs.size f cdv)) → sp vs H Q E →
      ∃ t, PSs (cxOf CX P w K mg base N qual scope f cdv A outer s H E) body t ∧ t { nx := fun _ H' => Q .non H', rt := Q } (start N vs) H) :
    FnOk P w K mg base CX (k + 1) f (PySem.W.fnOf name qual params body scope dV kV doc pm an cdv ct) ps sp := by
  refine ⟨len, fun A outer s H args us vs Q E hr e0 hb r hsp => ?_⟩
  have hl := len _ _ _ _ hsp
  have KX : K.In s.heap := e0.mod.kin.keeps fun b o e => (e0.bs b o e).1
  have lim : s.heap.NoLimit := e0.mod.nolimit.keeps fun b o e => (e0.bs b o e).1
  have hkind : ∀ y ∈ ps.zip us, scope.names.lookup y.1 = some .local ∨ (scope.names.lookup y.1 = some .cell ∧ ((cellsFrom (s.heap.objs.size + 1) scope.names []).lookup y.1).isSome = true) := fun ⟨n, v⟩ hy => by
    rcases S.par n (List.of_mem_zip hy).1 with q | q
    · exact .inl q
    · exact .inr ⟨q, PySem.W.cellsFrom_some _ _ _ (.inl q)⟩
  refine codeAny_call_function hr.depth (KX _ _ lk) rfl S.co S.gen rfl (PySem.W.codeRec_of KX hcd) (hb _ _ _ _ ?_)
  refine wpAny_newFunctionEnv_cells S.kind hkind fun env he s1 x => ?_
  subst he
  refine ⟨lim.keeps x.toInCall.keep, codeAny_func ?_⟩
  obtain ⟨t, ht, hq⟩ := hbody A outer s H vs Q E (hr.deeper _) hsp
  have I : Inv (cxOf CX P w K mg base N qual scope f cdv A outer s H E) [] (start N vs) H s1 := inv_start S hr.hd e0 hl r x
  refine wpAny_mono (ht [] s1 (start N vs) H _ I hq) (fun fl s' hs => ?_) fun e s' hs => hs
  have fin : ∀ {σ' : St} {H' : Hp} {v : V} {u : Value}, Inv (cxOf CX P w K mg base N qual scope f cdv A outer s H E) [] σ' H' s' → RelV v u → Q v H' → CE outer P w H s Q u s' :=
    fun {σ' H' v u} J rv q => ⟨v, H', J.os, J.bare, J.base, J.hok, rv, q⟩
  cases fl with
  | ret u =>
    obtain ⟨v, σ', H', J, rv, q⟩ := hs
    exact fin J rv q
  | next =>
    obtain ⟨σ', H', J, q⟩ := hs
    exact fin (v := V.non) (u := Value.none) J rfl q
  | brk =>
    obtain ⟨_, _, _, q⟩ := hs
    exact False.elim q
  | cont =>
    obtain ⟨_, _, _, q⟩ := hs
    exact False.elim q
end L2
namespace L2
open PySem PySem.Spec PyProof.Rows
section
variable {X : Cx} {x : Str} {p pos : Pos} {e : Expr} {es : List Expr} {t : TA} {id T : String} {r : List V → Hp → VK → Prop}
def tCB (r : List V → Hp → VK → Prop) (t : TA) : TE := fun σ H Q => t σ H fun vs H1 => r vs H1 Q
/-- f(e, ..), f a built-in function -/
theorem pe_callB (hc : CallR X (.builtin id) r) (hg : Gl X x) (hm : X.mg x = none) (hv : bootBuiltins x = some (.builtin id)) (ha : PA X (e :: es) t) (hn : x ≠ "__name__" := by decide) (hdb : (x == ("__debug__" : Str)) = false := by decide)
    (he : starEach (e :: es) X.env = (false, eval e X.env) :: starEach es X.env := by rfl) (hpl : (backTo pos (starEach es X.env)).any (·.1) = false := by rfl) : PE X (.Call (.Name x p) (e :: es) [] pos) (tCB r t) := by
  intro pins s σ H Q I h
  refine wpAny_Call_Name_kw (ld_blt I hg hm hv ?_ hn hdb)
  exact PyProof.Rows.callWith_builtin1 (thn (ha pos pins s σ H _ I h) fun us s1 ⟨vs, H1, I1, r1, q1⟩ => hc pins s1 σ H1 vs us Q I1 r1 q1) he hpl
/-- T(e, ..), T a built-in type -/
theorem pe_callTy (hc : CallR X (.type T) r) (hg : Gl X x) (hm : X.mg x = none) (hv : bootBuiltins x = some (.type T)) (ha : PA X (e :: es) t) (hn : x ≠ "__name__" := by decide) (hdb : (x == ("__debug__" : Str)) = false := by decide)
    (he : starEach (e :: es) X.env = (false, eval e X.env) :: starEach es X.env := by rfl) (hpl : (backTo pos (starEach es X.env)).any (·.1) = false := by rfl) : PE X (.Call (.Name x p) (e :: es) [] pos) (tCB r t) := by
  intro pins s σ H Q I h
  refine wpAny_Call_Name_kw (ld_blt I hg hm hv ?_ hn hdb)
  exact PyProof.Rows.callWith_type1 (thn (ha pos pins s σ H _ I h) fun us s1 ⟨vs, H1, I1, r1, q1⟩ => hc pins s1 σ H1 vs us Q I1 r1 q1) he hpl
end
end L2
namespace HT
open PySem PyProof.Rows
section
open PySem.SeqAt
open PySem.AutoSeq1 (wpAny_loadPart')
open PySem.MeetsSeq PySem.MeetsSeq2 PySem.MeetsSeq3
end
section
variable {prog : Program} {w : World} {A : Around} {E : Value → Shared → Prop} {s : Shared}
/-- a slice's bound as a place among n (d where it is left out) -/
def sIx (n d : Nat) : Option Int → Nat
  | none => d
  | some v => if v < 0 then (v + (n : Int)).toNat else min v.toNat n
end
end HT
namespace L2
open PySem PySem.Spec PyProof.Rows
abbrev TO := St → Hp → (Option Int → Hp → Prop) → Prop
/-- a slice's part (left out, or an int) -/
def PO (X : Cx) (e : Option Expr) (t : TO) : Prop :=
  ∀ (pins : List (Addr × Obj)) (s : Shared) (σ : St) (H : Hp) (Q : Option Int → Hp → Prop), Inv X pins σ H s → t σ H Q →
    wpAny (model X.prog X.w) X.A (evalPart e X.env) (fun u s' => ∃ o H', Inv X pins σ H' s' ∧ IsPart u o ∧ Q o H') X.xe s
def tPart (t : TE) : TO := fun σ H Q => t σ H fun x H1 => ∃ i, x = .int i ∧ Q (some i) H1
section
variable {X : Cx} {e : Expr} {te : TE} {lo hi : Option Expr} {tl th : TO} {pos p2 : Pos}
theorem po_some (h : PE X e te) : PO X (some e) (tPart te) := by
  intro pins s σ H Q I hw
  rw [evalPart_some]
  refine thn (h pins s σ H _ I hw) fun u s1 ⟨x, H1, I1, r1, q1⟩ => ?_
  obtain ⟨i, rfl, q⟩ := q1
  obtain ⟨t, rfl⟩ := r1
  exact ⟨some i, H1, I1, .int i t, q⟩
/-- what a slice of a value is, by values: the slice object stands at sl -/
def SlR (X : Cx) (r : V → Option Int → Option Int → Hp → VK → Prop) : Prop :=
  ∀ (pins : List (Addr × Obj)) (s : Shared) (σ : St) (H : Hp) (x : V) (v vl vu : Value) (lo hi : Option Int) (sl : Addr) (Q : VK), Inv X pins σ H s → RelV x v → s.heap.IsSliceOf sl vl vu .none → IsPart vl lo → IsPart vu hi → r x lo hi H Q →
    ∃ T id, typeLookup (.type T) "__getitem__" = pure (some (.builtin id)) ∧ s.TypeIs v T ∧ wpAny (model X.prog X.w) X.A (getItem v (.ref sl)) (EP X pins σ Q) X.xe s
def tSl (r : V → Option Int → Option Int → Hp → VK → Prop) (te : TE) (tl th : TO) : TE := fun σ H Q => te σ H fun x H1 => tl σ H1 fun l H2 => th σ H2 fun u H3 => r x l u H3 Q
/-- a[lo:hi], any a -/
theorem pe_slice {r : V → Option Int → Option Int → Hp → VK → Prop} (hr : SlR X r) (he : PE X e te) (hl : PO X lo tl) (hu : PO X hi th) : PE X (.Subscript e (.Slice lo hi none p2) pos) (tSl r te tl th) := by
  intro pins s σ H Q I h
  refine Subscript_ (thn (he pins s σ H _ I h) fun v s1 ⟨x, H1, I1, r1, q1⟩ => ?_)
  refine wpAny_Slice (thn (hl pins s1 σ H1 _ I1 q1) fun vl s2 ⟨l, H2, I2, pl, q2⟩ => thn (hu pins s2 σ H2 _ I2 q2) fun vu s3 ⟨u, H3, I3, pu, q3⟩ => ?_)
  rw [evalPart_none]
  refine wpAny_pure ?_
  have I4 : Inv X pins σ H3 { s3 with heap := s3.heap.push { cls := .type "slice", data := .fields #[vl, vu, .none] } } := I3.kept (t' := s3.toks) fun b ob q => Heap.get?_push_of_some _ q
  obtain ⟨T, id, hT, ht, hg⟩ := hr pins { s3 with heap := s3.heap.push { cls := .type "slice", data := .fields #[vl, vu, .none] } } σ H3 x v vl vu l u s3.heap.objs.size Q I4 r1 (Heap.IsSliceOf.new ..) pl pu q3
  show wpAny (model X.prog X.w) X.A (subscriptTail e (.Slice lo hi none p2) v (.ref s3.heap.objs.size)) (EP X pins σ Q) X.xe { s3 with heap := s3.heap.push { cls := .type "slice", data := .fields #[vl, vu, .none] } }
  exact tail_any (ops := [.ref s3.heap.objs.size, v]) ht hT hg (by with_unfolding_all rfl)
/-- the items of xs[lo:hi] -/
def cutV (xs : List V) (lo hi : Option Int) : List V := (xs.drop (HT.sIx xs.length 0 lo)).take (HT.sIx xs.length xs.length hi - HT.sIx xs.length 0 lo)
theorem cutV_length (xs : List V) (lo hi : Option Int) : (cutV xs lo hi).length ≤ xs.length := by
  unfold cutV
  rw [List.length_take, List.length_drop]
  omega
end
end L2
namespace L2
open PySem PySem.Spec PyProof.Rows
/-- the place that an index of any sign means -/
def ixN (n : Nat) (i : Int) : Option Nat := if 0 ≤ i then (if i < n then some i.toNat else none) else if -(n : Int) ≤ i then some (i + n).toNat else none
def atI {α : Type} (xs : List α) (i : Int) : Option α := (ixN xs.length i).bind fun j => xs[j]?
theorem ixN_seq {n : Nat} {i : Int} {j : Nat} (h : ixN n i = some j) : seqIndex? i n = some j ∧ j < n ∧ -(n : Int) ≤ i ∧ i < n := by
  unfold ixN at h
  by_cases h0 : 0 ≤ i
  · rw [if_pos h0] at h
    by_cases h1 : i < n
    · rw [if_pos h1] at h
      have e : i.toNat = j := Option.some.inj h
      exact ⟨by rw [seqIndex_of h0 h1, e], by omega, by omega, h1⟩
    · rw [if_neg h1] at h; cases h
  · rw [if_neg h0] at h
    by_cases h1 : -(n : Int) ≤ i
    · rw [if_pos h1] at h
      have e : (i + n).toNat = j := Option.some.inj h
      exact ⟨by rw [seqIndex_neg (by omega) h1, e], by omega, h1, by omega⟩
    · rw [if_neg h1] at h; cases h
theorem atI_get {α : Type} {xs : List α} {i : Int} {v : α} (h : atI xs i = some v) : ∃ j, seqIndex? i xs.length = some j ∧ xs[j]? = some v ∧ j < xs.length ∧ -(xs.length : Int) ≤ i ∧ i < xs.length := by
  unfold atI at h
  cases e : ixN xs.length i with
  | none => rw [e] at h; cases h
  | some j =>
    rw [e] at h
    obtain ⟨h1, h2, h3, h4⟩ := ixN_seq e
    exact ⟨j, h1, h, h2, h3, h4⟩
theorem atI_nat {α : Type} {xs : List α} {j : Nat} {v : α} (h : xs[j]? = some v) : atI xs (j : Int) = some v := by
  have hj : j < xs.length := (List.getElem?_eq_some_iff.mp h).1
  have e : ixN xs.length (j : Int) = some j := by
    unfold ixN
    rw [if_pos (by omega), if_pos (by omega)]; simp
  unfold atI; rw [e]; exact h
/-- what stands as an index of a plain subscript -/
def PlainIx (b : Expr) : Prop := ∀ o i, subscripted b false o i = operate [o, i] (getItem o i)
/-- a subscript by values -/
def IxR (X : Cx) (r : R2) : Prop :=
  ∀ (value slice : Expr) (pins : List (Addr × Obj)) (s : Shared) (σ : St) (H : Hp) (x y : V) (v u : Value) (Q : VK), Inv X pins σ H s → RelV x v → RelV y u → r x y H Q →
    subscripted slice false v u = operate [v, u] (getItem v u) → wpAny (model X.prog X.w) X.A (subscriptTail value slice v u) (EP X pins σ Q) X.xe s
/-- a call of a builtin's method by values: the receiver, the arguments -/
def MtR (X : Cx) (id : String) (r : V → List V → Hp → VK → Prop) : Prop :=
  ∀ (pins : List (Addr × Obj)) (s : Shared) (σ : St) (H : Hp) (x : V) (xs : List V) (v : Value) (us : List Value) (Q : VK), Inv X pins σ H s → RelV x v → Vals xs us → r x xs H Q →
    wpAny (model X.prog X.w) X.A (call (.builtin id) (v :: us)) (EP X pins σ Q) X.xe s
section
variable {X : Cx} {a b : Expr} {ta tb : TE} {pos : Pos}
/-- a[b] -/
theorem pe_ix {r : R2} (hr : IxR X r) (ha : PE X a ta) (hb : PE X b tb) (hs : PlainIx b) : PE X (.Subscript a b pos) (tOp r ta tb) := by
  intro pins s σ H Q I h
  exact Subscript_ (binT ha hb I h fun v u s2 x y H2 I2 rx ry q => hr a b pins s2 σ H2 x y v u Q I2 rx ry q (hs _ _))
def rIxL (K : PySem.W.Frag) : R2 := fun x y H Q => ∃ p xs i v, x = .ref p ∧ y = .int i ∧ SqL K H p xs ∧ atI xs i = some v ∧ Q v H
def rIxT (K : PySem.W.Frag) : R2 := fun x y H Q => ∃ p xs i v, x = .ref p ∧ y = .int i ∧ SqT K H p xs ∧ atI xs i = some v ∧ Q v H
theorem ix_list : IxR X (rIxL X.K) := by
  intro value slice pins s σ H x y v u Q I rx ry h hs
  obtain ⟨p, xs, i, z, rfl, rfl, hq, he, q⟩ := h
  cases rx
  obtain ⟨t, rfl⟩ := ry
  obtain ⟨its, r, pl, hz⟩ := I.list hq
  obtain ⟨j, h1, h2, h3, h4, h5⟩ := atI_get he
  obtain ⟨w, ew, rw'⟩ := r.get h2
  have hl := r.length
  have hn := line63
  have fin : EP X pins σ Q w s := ⟨z, H, I, rw', q⟩
  by_cases h0 : 0 ≤ i
  · have hj : i.toNat = j := by
      rw [seqIndex_of h0 h5] at h1
      exact Option.some.inj h1
    exact item_listR pl.isList h0 (by omega) (by rw [hj]; simpa using ew) fin hs
  · have hj : (i + (its.toArray.size : Int)).toNat = j := by
      rw [seqIndex_neg (by omega) h4] at h1
      rw [List.size_toArray, ← hl]
      exact Option.some.inj h1
    exact subscriptTail_builtinR (x := w) pl.isList.typeIs slot_list_getitem.lookup
      (wpAny_getItem_list_neg (Q := fun r s' => r = w ∧ EP X pins σ Q r s') pl.isList (by omega) (by rw [List.size_toArray] <;> omega) (by omega) (by rw [hj]; simpa using ew) ⟨rfl, fin⟩) hs
theorem ix_tup : IxR X (rIxT X.K) := by
  intro value slice pins s σ H x y v u Q I rx ry h hs
  obtain ⟨p, xs, i, z, rfl, rfl, hq, he, q⟩ := h
  cases rx
  obtain ⟨t, rfl⟩ := ry
  obtain ⟨its, r, pl, hz⟩ := I.tuple hq
  obtain ⟨j, h1, h2, h3, h4, h5⟩ := atI_get he
  obtain ⟨w, ew, rw'⟩ := r.get h2
  have hl := r.length
  have hn := line63
  have fin : EP X pins σ Q w s := ⟨z, H, I, rw', q⟩
  exact subscriptTail_builtinR (x := w) pl.typeIs slot_tuple_getitem.lookup
    (getItem_tuple (j := j) (Q := fun r s' => r = w ∧ EP X pins σ Q r s') pl (by omega) (by omega) (by rw [List.size_toArray, ← hl]; exact h1) (by simpa using ew) ⟨rfl, fin⟩) hs
/-- the list's object behind a store -/
theorem mapSeq_set (its : List Value) (n j : Nat) (u : Value) : Obj.mapSeq (·.setIfInBounds j u) { cls := .type "list", data := .seq its.toArray n } = { cls := .type "list", data := .seq (its.set j u).toArray n } := by
  simp [Obj.mapSeq]
theorem Inv.lst {pins : List (Addr × Obj)} {σ : St} {H : Hp} {s : Shared} {p : Addr} {xs : List V} (I : Inv X pins σ H s) (h : H p = some (.lst xs)) :
    ∃ (its : List Value) (n : Nat), Vals xs its ∧ s.heap.get? p = some { cls := .type "list", data := .seq its.toArray n } ∧ xs.length ≤ sizeLine := by
  obtain ⟨z, its, n, r, e⟩ := I.hok p _ h
  exact ⟨its, n, r, e, z⟩
/-- the list at p is written by an update of its object -/
theorem Inv.lstUpd {pins : List (Addr × Obj)} {σ : St} {H : Hp} {s : Shared} {p : Addr} {xs ys : List V} {its its' : List Value} {n n' : Nat} {f : Obj → Obj} (I : Inv X pins σ H s) (h : H p = some (.lst xs))
    (ho : s.heap.get? p = some { cls := .type "list", data := .seq its.toArray n }) (hf : f { cls := .type "list", data := .seq its.toArray n } = { cls := .type "list", data := .seq its'.toArray n' }) (r : Vals ys its') (hz : ys.length ≤ sizeLine) (t : Nat) :
    Inv X pins σ (upd H p (.lst ys)) { s with heap := s.heap.update p f, toks := t } := by
  have e : (s.heap.update p f).get? p = some { cls := .type "list", data := .seq its'.toArray n' } := by
    rw [Heap.get?_update_self f ho (by rw [hf] <;> rfl), hf]
  refine I.write (x := p) (e := p) (by rw [h]; trivial) (.inl rfl) (fun b u hb q => (Heap.get?_update_other _ _ (Ne.symm hb)).trans q) ⟨_, e⟩ ?_
  exact ⟨hz, its', n', r, e⟩
def rSetL : V → V → V → Hp → (Hp → Prop) → Prop := fun o i v H Q => ∃ p xs k j, o = .ref p ∧ i = .int k ∧ H p = some (.lst xs) ∧ ixN xs.length k = some j ∧ Q (upd H p (.lst (xs.set j v)))
theorem set_list : PSet X rSetL := by
  intro pins s σ H o i v ov iv u Q I ro ri rv h
  obtain ⟨p, xs, k, j, rfl, rfl, hp, hj, q⟩ := h
  cases ro
  obtain ⟨t, rfl⟩ := ri
  obtain ⟨its, n, r, ho, hz⟩ := I.lst hp
  obtain ⟨h1, h2, h3, h4⟩ := ixN_seq hj
  have hl := r.length
  have hn := line63
  have I' : Inv X pins σ (upd H p (.lst (xs.set j v))) { s with heap := s.heap.update p (Obj.mapSeq (·.setIfInBounds j u)) } :=
    I.lstUpd hp ho (mapSeq_set its n j u) (r.set rv j) (by rw [List.length_set]; exact hz) s.toks
  by_cases h0 : 0 ≤ k
  · have hk : k.toNat = j := by
      rw [seqIndex_of h0 h4] at h1
      exact Option.some.inj h1
    exact PySem.W.ki_setAt ho h0 (by omega) (by rw [List.size_toArray, ← hl]; exact h4) (by rw [hk]; exact ⟨_, I', q⟩)
  · have hk : (k + (its.toArray.size : Int)).toNat = j := by
      rw [seqIndex_neg (by omega) h3] at h1
      rw [List.size_toArray, ← hl]
      exact Option.some.inj h1
    exact PySem.W.ki_setBack ho (by omega) (by rw [List.size_toArray, ← hl]; exact h3) (by omega) (by rw [hk]; exact ⟨_, I', q⟩)
theorem slice_bounds (lo hi : Option Int) (n : Nat) : (sliceBounds lo hi none n).1 = ((HT.sIx n 0 lo : Nat) : Int) ∧ (sliceBounds lo hi none n).2.1 = ((HT.sIx n n hi : Nat) : Int) ∧ (sliceBounds lo hi none n).2.2 = 1 := by
  refine ⟨?_, ?_, rfl⟩
  · cases lo with
    | none => simp [sliceBounds, HT.sIx]
    | some i =>
      simp only [sliceBounds, HT.sIx, Option.getD_none, show (1 : Int) > 0 by decide, if_true]
      by_cases h : i < 0
      · simp only [h, if_true] <;> omega
      · simp only [h, if_false] <;> omega
  · cases hi with
    | none => simp [sliceBounds, HT.sIx]
    | some i =>
      simp only [sliceBounds, HT.sIx, Option.getD_none, show (1 : Int) > 0 by decide, if_true]
      by_cases h : i < 0
      · simp only [h, if_true] <;> omega
      · simp only [h, if_false] <;> omega
theorem slicePick_cut (its : List Value) (lo hi : Option Int) : slicePick its.toArray lo hi none = ((its.drop (HT.sIx its.length 0 lo)).take (HT.sIx its.length its.length hi - HT.sIx its.length 0 lo)).toArray := by
  obtain ⟨h1, h2, h3⟩ := slice_bounds lo hi its.toArray.size
  unfold slicePick
  rw [h1, h2, h3]
  simp only [sliceRange_one, pick_run, List.size_toArray] <;> rfl
/-- xs[lo:hi] of a list: a new list -/
def rSlL (K : PySem.W.Frag) : V → Option Int → Option Int → Hp → VK → Prop := fun x lo hi H Q => ∃ a xs, x = .ref a ∧ SqL K H a xs ∧ ∀ p, H p = none → Q (.ref p) (upd H p (.lst (cutV xs lo hi)))
theorem sl_list : SlR X (rSlL X.K) := by
  intro pins s σ H x v vl vu lo hi sl Q I rx hs pl pu h
  obtain ⟨a, xs, rfl, hx, q⟩ := h
  cases rx
  obtain ⟨its, r, ht, hz⟩ := I.list hx
  have hlen := r.length
  refine ⟨"list", _, slot_list_getitem.lookup, ht.isList.typeIs, ?_⟩
  refine wpAny_getItem_list_slice ht.isList hs pl pu .none (by simp) ?_ (by rw [List.size_toArray] <;> omega)
  rw [slicePick_cut, ← hlen]
  refine ⟨.ref s.heap.objs.size, _, I.laid (t' := s.toks) (o := .lst (cutV xs lo hi)) (fun b ob q => Heap.get?_push_of_some _ q) (Nat.le_refl _) ?_, rfl, q _ (I.hok.fresh (Nat.le_refl _))⟩
  exact ⟨Nat.le_trans (cutV_length xs lo hi) hz, _, 0, (r.drop (HT.sIx xs.length 0 lo)).take (HT.sIx xs.length xs.length hi - HT.sIx xs.length 0 lo), Heap.get?_push_size _ rfl⟩
def flatV : V → Bool
  | .non => true
  | .bl _ => true
  | .int _ => true
  | .str _ => true
  | _ => false
/-- == of flat values -/
def eqV : V → V → Bool
  | .non, .non => true
  | .bl a, .bl b => a == b
  | .bl a, .int b => (if a then 1 else 0) == b
  | .int a, .bl b => a == (if b then 1 else 0)
  | .int a, .int b => a == b
  | .str a, .str b => a == b
  | _, _ => false
theorem eqAt_V {A : Around} {s : Shared} {y x : V} {u v : Value} (ry : RelV y u) (rx : RelV x v) (fy : flatV y = true) (fx : flatV x = true) : SeqAt.EqAt A s u v (eqV y x) := by
  cases y with
  | non =>
    cases ry
    cases x with
    | non => cases rx; exact SeqAt.EqAt.same _
    | bl b => cases rx; exact SeqAt.EqAt.none_bool b
    | int b => obtain ⟨t, rfl⟩ := rx; exact SeqAt.EqAt.none_int b t
    | str b => obtain ⟨t, rfl⟩ := rx; exact SeqAt.EqAt.none_str b t
    | _ => exact absurd (show false = true from fx) Bool.false_ne_true
  | bl a =>
    cases ry
    cases x with
    | non => cases rx; exact SeqAt.EqAt.bool_none a
    | bl b => cases rx; exact SeqAt.EqAt.bool_bool a b
    | int b => obtain ⟨t, rfl⟩ := rx; exact SeqAt.EqAt.bool_int a b t
    | str b => obtain ⟨t, rfl⟩ := rx; exact SeqAt.EqAt.bool_str a b t
    | _ => exact absurd (show false = true from fx) Bool.false_ne_true
  | int a =>
    obtain ⟨t', rfl⟩ := ry
    cases x with
    | non => cases rx; exact SeqAt.EqAt.int_none a t'
    | bl b => cases rx; exact SeqAt.EqAt.int_bool a t' b
    | int b => obtain ⟨t, rfl⟩ := rx; exact SeqAt.EqAt.int_int a t' b t
    | str b => obtain ⟨t, rfl⟩ := rx; exact SeqAt.EqAt.int_str a t' b t
    | _ => exact absurd (show false = true from fx) Bool.false_ne_true
  | str a =>
    obtain ⟨t', rfl⟩ := ry
    cases x with
    | non => cases rx; exact SeqAt.EqAt.str_none a t'
    | bl b => cases rx; exact SeqAt.EqAt.str_bool a t' b
    | int b => obtain ⟨t, rfl⟩ := rx; exact SeqAt.EqAt.str_int a t' b t
    | str b => obtain ⟨t, rfl⟩ := rx; exact SeqAt.EqAt.str_str a t' b t
    | _ => exact absurd (show false = true from fx) Bool.false_ne_true
  | _ => exact absurd (show false = true from fy) Bool.false_ne_true
/-- the items' answers, read off the values (a value's own answer does not lean on its token) -/
def eqU (x : V) (u : Value) : Bool := match u with
  | .none => eqV .non x
  | .bool b => eqV (.bl b) x
  | .int i _ => eqV (.int i) x
  | .str z _ => eqV (.str z) x
  | _ => false
theorem eqU_of {x y : V} {u : Value} (r : RelV y u) (f : flatV y = true) : eqU x u = eqV y x := by
  cases y with
  | non => cases r; rfl
  | bl b => cases r; rfl
  | int i => obtain ⟨t, rfl⟩ := r; rfl
  | str z => obtain ⟨t, rfl⟩ := r; rfl
  | _ => exact absurd (show false = true from f) Bool.false_ne_true
theorem any_eqU {x : V} : ∀ {xs : List V} {us : List Value}, Vals xs us → xs.all flatV = true → us.any (eqU x) = xs.any fun y => eqV y x
  | _, _, .nil, _ => rfl
  | y :: xs, u :: us, .cons r t, f => by
    rw [List.all_cons, Bool.and_eq_true] at f
    rw [List.any_cons, List.any_cons, eqU_of r f.1, any_eqU t f.2]
theorem mem_eqAt {A : Around} {s : Shared} {x : V} {v : Value} (rx : RelV x v) (fx : flatV x = true) : ∀ {xs : List V} {us : List Value}, Vals xs us → xs.all flatV = true → ∀ u ∈ us, SeqAt.EqAt A s u v (eqU x u)
  | _, _, .nil, _ => fun u hu => by cases hu
  | y :: xs, u :: us, .cons r t, f => fun u' hu => by
    rw [List.all_cons, Bool.and_eq_true] at f
    rcases List.mem_cons.mp hu with rfl | hu
    · rw [eqU_of r f.1]; exact eqAt_V r rx f.1 fx
    · exact mem_eqAt rx fx t f.2 u' hu
def inV (x : V) (xs : List V) : Bool := xs.any fun y => eqV y x
/-- x in a list or tuple of flat items -/
def rIn (K : PySem.W.Frag) (neg : Bool) : R2 := fun x y H Q => ∃ p xs, y = .ref p ∧ (SqL K H p xs ∨ SqT K H p xs) ∧ flatV x = true ∧ xs.all flatV = true ∧ Q (.bl (if neg then !inV x xs else inV x xs)) H
theorem op_in_seq : OpR X (compareOp .In) (rIn X.K false) := by
  intro pins s σ H x y v u Q I rx ry h
  obtain ⟨p, xs, rfl, hq, fx, fs, q⟩ := h
  cases ry
  rcases hq with hq | hq
  · obtain ⟨its, r, pl, hz⟩ := I.list hq
    refine SeqAt.in_listAt (eqU x) pl.isList (fun w hw => mem_eqAt rx fx r fs w (by simpa using hw)) ⟨.bl _, H, I, rfl, ?_⟩
    rw [show its.toArray.any (eqU x) = its.any (eqU x) by simp, any_eqU r fs]
    exact q
  · obtain ⟨its, r, pl, hz⟩ := I.tuple hq
    refine SeqAt.in_tupleAt (eqU x) pl (fun w hw => mem_eqAt rx fx r fs w (by simpa using hw)) ⟨.bl _, H, I, rfl, ?_⟩
    rw [show its.toArray.any (eqU x) = its.any (eqU x) by simp, any_eqU r fs]
    exact q
theorem op_notIn_seq : OpR X (compareOp .NotIn) (rIn X.K true) := by
  intro pins s σ H x y v u Q I rx ry h
  obtain ⟨p, xs, rfl, hq, fx, fs, q⟩ := h
  cases ry
  rcases hq with hq | hq
  · obtain ⟨its, r, pl, hz⟩ := I.list hq
    refine SeqAt.notIn_listAt (eqU x) pl.isList (fun w hw => mem_eqAt rx fx r fs w (by simpa using hw)) ⟨.bl _, H, I, rfl, ?_⟩
    rw [show its.toArray.any (eqU x) = its.any (eqU x) by simp, any_eqU r fs]
    exact q
  · obtain ⟨its, r, pl, hz⟩ := I.tuple hq
    refine SeqAt.notIn_tupleAt (eqU x) pl (fun w hw => mem_eqAt rx fx r fs w (by simpa using hw)) ⟨.bl _, H, I, rfl, ?_⟩
    rw [show its.toArray.any (eqU x) = its.any (eqU x) by simp, any_eqU r fs]
    exact q
theorem call_len_seq : CallR X (.builtin "len") (fun xs H Q => ∃ p ys, xs = [.ref p] ∧ (SqL X.K H p ys ∨ SqT X.K H p ys) ∧ Q (.int ys.length) H) := by
  intro pins s σ H xs us Q I r h
  obtain ⟨p, ys, rfl, hq, q⟩ := h
  obtain ⟨u, rfl, rx⟩ := vals1 r
  cases rx
  have hn := line63
  rcases hq with hq | hq
  · obtain ⟨its, r', pl, hz⟩ := I.list hq
    have hlen := r'.length
    exact Calls.call_len_list pl.isList (by simp only [List.size_toArray] <;> omega) ⟨.int ys.length, H, I.tok _, ⟨s.toks + 1, by rw [List.size_toArray, hlen]⟩, q⟩
  · obtain ⟨its, r', pl, hz⟩ := I.tuple hq
    have hlen := r'.length
    exact len_tuple pl (by simp only [List.size_toArray] <;> omega) ⟨.int ys.length, H, I.tok _, ⟨s.toks + 1, by rw [List.size_toArray, hlen]⟩, q⟩
/-- the value is of that builtin type -/
def tyV (K : PySem.W.Frag) (T : String) (x : V) (H : Hp) : Prop := match x with
  | .str _ => T = "str"
  | .int _ => T = "int"
  | .ref p => (T = "list" ∧ ∃ xs, SqL K H p xs) ∨ (T = "tuple" ∧ ∃ o, K.lookup p = some o ∧ o.cls = .type "tuple" ∧ o.dict = none) ∨
      (T = "dict" ∧ ((∃ kvs, H p = some (.dK kvs)) ∨ ∃ kvs, H p = some (.dT kvs))) ∨ (T = "set" ∧ ∃ S n, H p = some (.set S n))
  | _ => False
theorem tyV_is {pins : List (Addr × Obj)} {σ : St} {H : Hp} {s : Shared} {T : String} {x : V} {v : Value} (I : Inv X pins σ H s) (r : RelV x v) (ty : tyV X.K T x H) :
    s.TypeIs v T ∧ ∀ a, v = .ref a → ∃ ob, s.heap.get? a = some ob ∧ ob.dict = none := by
  cases x with
  | str z =>
    obtain ⟨t, rfl⟩ := r
    cases (show T = "str" from ty)
    exact ⟨typeIs_str s z t, fun _ e => nomatch e⟩
  | int i =>
    obtain ⟨t, rfl⟩ := r
    cases (show T = "int" from ty)
    exact ⟨typeIs_int s i t, fun _ e => nomatch e⟩
  | ref p =>
    cases r
    rcases ty with ⟨rfl, xs, hq⟩ | ⟨rfl, o, hk, hc, hd⟩ | ⟨rfl, hk⟩ | ⟨rfl, S, n, hk⟩
    · obtain ⟨its, _, pl, _⟩ := I.list hq
      refine ⟨pl.isList.typeIs, fun a e => ?_⟩
      cases e
      obtain ⟨o, n, e, c, hd, _⟩ := pl
      exact ⟨o, e, hd⟩
    · refine ⟨⟨o, I.kIn p o hk, hc⟩, fun a e => ?_⟩
      cases e
      exact ⟨o, I.kIn _ o hk, hd⟩
    · have z : ∃ o, s.heap.get? p = some o ∧ o.ExactDict := by
        rcases hk with ⟨kvs, hk⟩ | ⟨kvs, hk⟩
        · obtain ⟨_, _, _, _, o, _, _, e, ex, _⟩ := I.hok p _ hk
          exact ⟨o, e, ex⟩
        · obtain ⟨_, _, _, _, o, _, _, e, ex, _⟩ := I.hok p _ hk
          exact ⟨o, e, ex⟩
      obtain ⟨o, e, ex⟩ := z
      refine ⟨⟨o, e, ex.1⟩, fun a e2 => ?_⟩
      cases e2
      exact ⟨o, e, ex.2.1⟩
    · obtain ⟨o, _, _, _, e, ex, _⟩ := I.hok p _ hk
      refine ⟨⟨o, e, ex.1⟩, fun a e2 => ?_⟩
      cases e2
      exact ⟨o, e, ex.2.1⟩
  | _ => exact False.elim ty
def tBM0 (K : PySem.W.Frag) (T : String) (r : V → List V → Hp → VK → Prop) (to : TE) : TE := fun σ H Q => to σ H fun x H1 => tyV K T x H1 ∧ r x [] H1 Q
def tBM (K : PySem.W.Frag) (T : String) (r : V → List V → Hp → VK → Prop) (to : TE) (t : TA) : TE := fun σ H Q => to σ H fun x H1 => tyV K T x H1 ∧ t σ H1 fun xs H2 => r x xs H2 Q
variable {o e : Expr} {es : List Expr} {to : TE} {t : TA} {name : Str} {apos cpos : Pos} {T id : String} {r : V → List V → Hp → VK → Prop}
theorem pe_bm0 (pa : PlainAttrs T) (slot : Slot T name id) (hty : typeOf (.builtin id) = pure (.type "method_descriptor")) (hm : MtR X id r) (ho : PE X o to)
    (hbase : attributeBase o name X.env (eval o X.env) = eval o X.env := by rfl) (hline : (apos.endLine == cpos.line) = true := by rfl) : PE X (.Call (.Attribute o name apos) [] [] cpos) (tBM0 X.K T r to) := by
  intro pins s σ H Q I h
  refine wpAny_Call_method0_late hbase hline (thn (ho pins s σ H _ I h) fun v s1 ⟨x, H1, I1, r1, ty, q1⟩ => ?_)
  obtain ⟨h1, h2⟩ := tyV_is I1 r1 ty
  exact ⟨T, id, pa, slot, hty, h1, h2, Calls.callWith_builtin rfl (PySem.evalArgs_none (hm pins s1 σ H1 x [] v [] Q I1 r1 .nil q1))⟩
theorem pe_bm (pa : PlainAttrs T) (slot : Slot T name id) (hty : typeOf (.builtin id) = pure (.type "method_descriptor")) (hm : MtR X id r) (ho : PE X o to) (ha : PA X (e :: es) t)
    (hbase : attributeBase o name X.env (eval o X.env) = eval o X.env := by rfl)
    (hfew : ((backTo cpos (starEach (e :: es) X.env)).all (fun x => !x.1) && (backToKw cpos (keywordEach [] X.env)).all (fun x => x.1.isSome)
      && decide ((e :: es).length + ([] : List Keyword).length + (if ([] : List Keyword).isEmpty then 0 else 1) < 30)) = true := by rfl)
    (hline : (apos.endLine == cpos.line) = true := by rfl) (hs : starEach (e :: es) X.env = (false, eval e X.env) :: starEach es X.env := by rfl) (hplain : (backTo cpos (starEach es X.env)).any (·.1) = false := by rfl) :
    PE X (.Call (.Attribute o name apos) (e :: es) [] cpos) (tBM X.K T r to t) := by
  intro pins s σ H Q I h
  refine wpAny_Call_method_late hbase hfew hline rfl (thn (ho pins s σ H _ I h) fun v s1 ⟨x, H1, I1, r1, ty, q1⟩ => ?_)
  obtain ⟨h1, h2⟩ := tyV_is I1 r1 ty
  refine ⟨T, id, pa, slot, hty, h1, h2, ?_⟩
  have hA := ha cpos pins s1 σ H1 _ I1 q1
  rw [hs] at hA ⊢
  refine Calls.callWith_builtin (by show (false || (backTo cpos (starEach es X.env)).any (·.1)) = false; rw [hplain] <;> rfl) (Calls.evalArgs_plain ?_)
  exact thn hA fun us s2 ⟨vs, H2, I2, r2, q2⟩ => hm pins s2 σ H2 x vs v us Q I2 r1 r2 q2
end
end L2
namespace L2
open PySem PySem.Spec PyProof.Rows
def MtM (X : Cx) (id : String) (r : V → List V → Hp → VK → Prop) : Prop :=
  ∀ (pins : List (Addr × Obj)) (s : Shared) (σ : St) (H : Hp) (x : V) (xs : List V) (v : Value) (us : List Value) (Q : VK), Inv X pins σ H s → RelV x v → Vals xs us → r x xs H Q →
    wpAny (model X.prog X.w) X.A (call (.builtin id) (v :: us)) (EP X pins σ Q) X.xe s
theorem Vals.one : ∀ {x : V} {us : List Value}, Vals [x] us → ∃ u, us = [u] ∧ RelV x u
  | _, _, .cons r .nil => ⟨_, rfl, r⟩
section
variable {X : Cx} {pins : List (Addr × Obj)} {σ : St} {H : Hp} {s : Shared} {l b : Addr} {xs ys zs : List V}
theorem Inv.lset {its its' : List Value} {n : Nat} {f : Array Value → Array Value} {t' : Nat} (I : Inv X pins σ H s) (hH : H l = some (.lst xs))
    (e : s.heap.get? l = some { cls := .type "list", data := .seq its.toArray n }) (hf : f its.toArray = its'.toArray) (hv : Vals ys its') (hz : ys.length ≤ sizeLine) :
    Inv X pins σ (upd H l (.lst ys)) { s with heap := s.heap.update l (Obj.mapSeq f), toks := t' } := by
  have q := PySem.IsL.update e f
  rw [hf] at q
  refine I.write (x := l) (e := l) (by rw [hH]; exact trivial) (.inl rfl) (fun b' u hb hu => (Heap.get?_update_other s.heap (Obj.mapSeq f) (Ne.symm hb)).trans hu) ⟨_, q⟩ ?_
  exact ⟨hz, its', _, hv, q⟩
theorem Inv.lnew {its : List Value} {t' : Nat} (I : Inv X pins σ H s) (hv : Vals ys its) (hz : ys.length ≤ sizeLine) :
    Inv X pins σ (upd H s.heap.objs.size (.lst ys)) { s with heap := s.heap.push { cls := .type "list", data := .seq its.toArray }, toks := t' } :=
  I.laid (fun _ _ q => Heap.get?_push_of_some _ q) (Nat.le_refl _) ⟨hz, its, 0, hv, Heap.get?_push_size _ rfl⟩
theorem Inv.fresh (I : Inv X pins σ H s) : H s.heap.objs.size = none := I.hok.fresh (Nat.le_refl _)
theorem Inv.lstM (I : Inv X pins σ H s) (hH : H l = some (.lst xs)) : xs.length ≤ sizeLine ∧ ∃ (its : List Value) (n : Nat), Vals xs its ∧ xs.length = its.length ∧ s.heap.get? l = some { cls := .type "list", data := .seq its.toArray n } := by
  obtain ⟨z, its, n, r, e⟩ := I.hok l _ hH
  exact ⟨z, its, n, r, r.length, e⟩
theorem notLongL {n : Nat} (h : n ≤ sizeLine) : Builtin.List.listTooLong n = false := by
  unfold Builtin.List.listTooLong
  exact decide_eq_false (by omega)
end
section
variable {X : Cx}
def rAppend : V → List V → Hp → VK → Prop := fun x vs H Q => ∃ l xs y, x = .ref l ∧ vs = [y] ∧ H l = some (.lst xs) ∧ xs.length < sizeLine ∧ Q .non (upd H l (.lst (xs ++ [y])))
theorem mt_append : MtM X "list.append" rAppend := by
  intro pins s σ H x vs v us Q I rx rv h
  obtain ⟨l, xs, y, rfl, rfl, hH, hz, q⟩ := h
  cases rx
  obtain ⟨u, rfl, ru⟩ := rv.one
  obtain ⟨z, its, n, r, hl, e⟩ := I.lstM hH
  refine call_meets F.slot_list_append ⟨_, e, rfl⟩ F.entry_list_append (F.args_list_append_2 _ _) (PySem.list_append l its.toArray n u (by rw [List.size_toArray]; omega)) ⟨e, ?_⟩
  refine ⟨.non, _, I.lset (its' := its ++ [u]) hH e (by simp) (r.append (.cons ru .nil)) ?_, rfl, q⟩
  rw [List.length_append, List.length_singleton]
  omega
def rExtend : V → List V → Hp → VK → Prop := fun x vs H Q => ∃ l b xs zs, x = .ref l ∧ vs = [.ref b] ∧ H l = some (.lst xs) ∧ H b = some (.lst zs) ∧ xs.length + zs.length ≤ sizeLine ∧ Q .non (upd H l (.lst (xs ++ zs)))
theorem mt_extend : MtM X "list.extend" rExtend := by
  intro pins s σ H x vs v us Q I rx rv h
  obtain ⟨l, b, xs, zs, rfl, rfl, hH, hB, hz, q⟩ := h
  cases rx
  obtain ⟨u, rfl, ru⟩ := rv.one
  cases ru
  obtain ⟨z, its, n, r, hl, e⟩ := I.lstM hH
  obtain ⟨z2, its2, n2, r2, hl2, e2⟩ := I.lstM hB
  have hsz : its.toArray.size + its2.toArray.size ≤ sizeLine := by rw [List.size_toArray, List.size_toArray]; omega
  have hlong : ¬ (!its.toArray.isEmpty && Builtin.List.listTooLong (its.toArray.size + its2.toArray.size)) = true := by
    rw [notLongL hsz, Bool.and_false]
    exact Bool.false_ne_true
  refine call_meets F.slot_list_extend ⟨_, e, rfl⟩ F.entry_list_extend (F.args_list_extend_2 _ _)
    (AutoSeq1.list_extend_list_list_0 l its.toArray n b its2.toArray n2 hlong (by rw [List.size_toArray]; omega) (by omega)) ⟨e, e2, ?_⟩
  refine ⟨.non, _, I.lset (its' := its ++ its2) hH e (by simp) (r.append r2) ?_, rfl, q⟩
  rw [List.length_append]
  omega
def rCat : R2 := fun x y H Q => ∃ l b xs zs, x = .ref l ∧ y = .ref b ∧ H l = some (.lst xs) ∧ H b = some (.lst zs) ∧ xs.length + zs.length ≤ sizeLine ∧ ∀ p, H p = none → Q (.ref p) (upd H p (.lst (xs ++ zs)))
theorem op_cat : OpR X (binaryOp .Add) rCat := by
  intro pins s σ H x y v u Q I rx ry h
  obtain ⟨l, b, xs, zs, rfl, rfl, hH, hB, hz, q⟩ := h
  cases rx
  cases ry
  obtain ⟨z, its, n, r, hl, e⟩ := I.lstM hH
  obtain ⟨z2, its2, n2, r2, hl2, e2⟩ := I.lstM hB
  refine PySem.P.add_list e e2 ?_ (by rw [List.size_toArray, List.size_toArray]; omega)
  have ea : its.toArray ++ its2.toArray = (its ++ its2).toArray := by simp
  rw [ea]
  exact ⟨.ref _, _, I.lnew (t' := s.toks) (r.append r2) (by rw [List.length_append]; omega), rfl, q _ I.fresh⟩
end
end L2
namespace L2
open PySem PySem.Spec PyProof.Rows
theorem Vals.ints : ∀ {ns : List Int} {us : List Value}, Vals (ns.map V.int) us → IntsAre us ns
  | [], us, h => by
    rw [List.map_nil] at h
    cases h
    exact IntsAre.nil
  | n :: ns, us, h => by
    rw [List.map_cons] at h
    cases h with
    | cons r t =>
      obtain ⟨k, rfl⟩ := r
      exact IntsAre.cons n k (Vals.ints t)
theorem vals_of_ints : ∀ {us : List Value} {ns : List Int}, IntsAre us ns → Vals (ns.map V.int) us
  | _, _, .nil => by rw [List.map_nil]; exact Paired.nil
  | _, _, .cons n t h => by rw [List.map_cons]; exact Paired.cons (show RelV (V.int n) (Value.int n t) from ⟨t, rfl⟩) (vals_of_ints h)
theorem Vals.ref1 {a : Addr} {us : List Value} (r : Vals [V.ref a] us) : us = [Value.ref a] := by
  cases r with
  | cons r t =>
    cases t
    cases r
    rfl
end L2
namespace L2
open PySem PySem.Spec PyProof.Rows
abbrev CellAt (h : Heap) (c : Addr) (v : Option Value) : Prop := h.IsCell c v
def relS (scope sc : Scope) : Scope :=
  { scope with names := scope.names.map fun (n, k) => if (k == .free && sc.kind == .function && sc.names.lookup n == some .cell) then (n, .cell) else (n, k) }
def cloFrom (cells : List (Str × Addr)) : List (Str × NameKind) → List (Str × Addr) → List (Str × Addr)
  | [], acc => acc
  | (n, k) :: r, acc => if k == .free then cloFrom cells r ((n, (cells.lookup n).getD 0) :: acc) else cloFrom cells r acc
theorem closure_loop (env : Env) (f : Str × NameKind → List (Str × Addr) → Sem (ForInStep (List (Str × Addr))))
    (hf : ∀ n k c, f (n, k) c = if k == .free then (do let a ← cellOf env n; pure (.yield ((n, a) :: c))) else pure (.yield c)) :
    ∀ (names : List (Str × NameKind)) (acc : List (Str × Addr)), (∀ y ∈ names, y.2 = .free → ∃ c, env.cells.lookup y.1 = some c) → forIn names acc f = pure (cloFrom env.cells names acc)
  | [], acc, _ => by rw [List.forIn_nil]; rfl
  | (n, k) :: r, acc, h => by
    rw [List.forIn_cons, hf]
    have ih := fun acc => closure_loop env f hf r acc fun y hy => h y (List.mem_cons_of_mem _ hy)
    unfold cloFrom
    by_cases hk : (k == NameKind.free) = true
    · rw [if_pos hk, if_pos hk]
      obtain ⟨c, hc⟩ := h (n, k) List.mem_cons_self (by simpa using hk)
      have e : cellOf env n = pure c := by unfold cellOf; rw [hc]
      rw [e]
      have e2 : (env.cells.lookup n).getD 0 = c := by rw [hc]; rfl
      rw [e2]
      exact ih _
    · rw [if_neg hk, if_neg hk]
      exact ih _
theorem closure_ok {scope : Scope} {env : Env} (h : ∀ y ∈ scope.names, y.2 = .free → ∃ c, env.cells.lookup y.1 = some c) : closureFor scope env = pure (cloFrom env.cells scope.names []) := by
  simp only [closureFor]
  rw [closure_loop env _ (fun n k c => rfl) scope.names [] h]
  rfl
theorem mem_lookup {α : Type} : ∀ {l : List (Str × α)} {n : Str} {c : α}, (n, c) ∈ l → ∃ c', l.lookup n = some c'
  | (k, v) :: r, n, c, h => by
    rw [List.lookup_cons]
    cases hb : n == k with
    | true => exact ⟨_, rfl⟩
    | false =>
      rcases List.mem_cons.mp h with e | h
      · cases e; simp at hb
      · exact mem_lookup h
theorem cloFrom_mem {cells : List (Str × Addr)} : ∀ {names : List (Str × NameKind)} {acc : List (Str × Addr)} {n : Str} {c : Addr}, (n, c) ∈ cloFrom cells names acc → (n, c) ∈ acc ∨ ((n, .free) ∈ names ∧ c = (cells.lookup n).getD 0)
  | [], _, _, _, h => .inl h
  | (m, k) :: r, acc, n, c, h => by
    unfold cloFrom at h
    split at h
    · rename_i hk
      have hk : k = .free := by simpa using hk
      rcases cloFrom_mem h with h | ⟨h1, h2⟩
      · rcases List.mem_cons.mp h with e | h
        · cases e; exact .inr ⟨hk ▸ List.mem_cons_self, rfl⟩
        · exact .inl h
      · exact .inr ⟨List.mem_cons_of_mem _ h1, h2⟩
    · rcases cloFrom_mem h with h | ⟨h1, h2⟩
      · exact .inl h
      · exact .inr ⟨List.mem_cons_of_mem _ h1, h2⟩
theorem cloFrom_acc {cells : List (Str × Addr)} : ∀ {names : List (Str × NameKind)} {acc : List (Str × Addr)} {p : Str × Addr}, p ∈ acc → p ∈ cloFrom cells names acc
  | [], _, _, h => h
  | (m, k) :: r, acc, p, h => by
    unfold cloFrom
    split
    · exact cloFrom_acc (List.mem_cons_of_mem _ h)
    · exact cloFrom_acc h
theorem cloFrom_has {cells : List (Str × Addr)} : ∀ {names : List (Str × NameKind)} {acc : List (Str × Addr)} {n : Str}, (n, .free) ∈ names → (n, (cells.lookup n).getD 0) ∈ cloFrom cells names acc
  | (m, k) :: r, acc, n, h => by
    unfold cloFrom
    rcases List.mem_cons.mp h with e | h
    · cases e
      exact cloFrom_acc List.mem_cons_self
    · split
      · exact cloFrom_has h
      · exact cloFrom_has h
theorem cells_mem : ∀ {names : List (Str × NameKind)} {h : Heap} {acc : List (Str × Addr)} {x : Str} {c : Addr}, (x, c) ∈ cellsFrom h.objs.size names acc →
    (x, c) ∈ acc ∨ ((x, .cell) ∈ names ∧ h.objs.size ≤ c ∧ CellAt (pushCells h names) c none)
  | [], _, _, _, _, h => .inl h
  | (n, k) :: r, h, acc, x, c, hm => by
    unfold cellsFrom at hm
    unfold pushCells
    split at hm
    · rename_i hk
      rw [if_pos hk]
      have hk : k = .cell := by simpa using hk
      rw [← Heap.size_push h { cls := .type "cell", data := .cell none }] at hm
      rcases cells_mem hm with hm | ⟨h1, h2, h3⟩
      · rcases List.mem_cons.mp hm with e | hm
        · cases e
          exact .inr ⟨hk ▸ List.mem_cons_self, Nat.le_refl _, _, pushCells_keeps r _ _ _ (Heap.get?_push_size _ rfl), rfl⟩
        · exact .inl hm
      · rw [Heap.size_push] at h2
        exact .inr ⟨List.mem_cons_of_mem _ h1, Nat.le_of_succ_le h2, h3⟩
    · rename_i hk
      rw [if_neg hk]
      rcases cells_mem hm with hm | ⟨h1, h2, h3⟩
      · exact .inl hm
      · exact .inr ⟨List.mem_cons_of_mem _ h1, h2, h3⟩
theorem cells_acc : ∀ {names : List (Str × NameKind)} {n : Nat} {acc : List (Str × Addr)} {p : Str × Addr}, p ∈ acc → p ∈ cellsFrom n names acc
  | [], _, _, _, h => h
  | (m, k) :: r, n, acc, p, h => by
    unfold cellsFrom
    split
    · exact cells_acc (List.mem_cons_of_mem _ h)
    · exact cells_acc h
theorem cells_has : ∀ {names : List (Str × NameKind)} {n : Nat} {acc : List (Str × Addr)} {x : Str}, (x, .cell) ∈ names → ∃ c, (x, c) ∈ cellsFrom n names acc
  | (m, k) :: r, n, acc, x, h => by
    unfold cellsFrom
    rcases List.mem_cons.mp h with e | h
    · cases e
      exact ⟨n, cells_acc List.mem_cons_self⟩
    · split
      · exact cells_has h
      · exact cells_has h
theorem cells_inj : ∀ {names : List (Str × NameKind)} {h : Heap} {acc : List (Str × Addr)} {x y : Str} {c : Addr}, (∀ p ∈ acc, p.2 < h.objs.size) → (∀ x y c, (x, c) ∈ acc → (y, c) ∈ acc → x = y) →
    (x, c) ∈ cellsFrom h.objs.size names acc → (y, c) ∈ cellsFrom h.objs.size names acc → x = y
  | [], _, _, _, _, _, _, hi, h1, h2 => hi _ _ _ h1 h2
  | (n, k) :: r, h, acc, x, y, c, hl, hi, h1, h2 => by
    unfold cellsFrom at h1 h2
    split at h1
    · rename_i hk
      rw [if_pos hk] at h2
      rw [← Heap.size_push h { cls := .type "cell", data := .cell none }] at h1 h2
      refine cells_inj (h := h.push _) (fun p hp => ?_) (fun x y c a b => ?_) h1 h2
      · rw [Heap.size_push]
        rcases List.mem_cons.mp hp with rfl | hp
        · exact Nat.lt_succ_self _
        · exact Nat.lt_succ_of_lt (hl p hp)
      · rcases List.mem_cons.mp a with e | a <;> rcases List.mem_cons.mp b with e' | b
        · cases e; cases e'; rfl
        · cases e; exact absurd (hl _ b) (Nat.lt_irrefl _)
        · cases e'; exact absurd (hl _ a) (Nat.lt_irrefl _)
        · exact hi _ _ _ a b
    · rename_i hk
      rw [if_neg hk] at h2
      exact cells_inj hl hi h1 h2
theorem newEnv_comp {M : Model} {A : Around} {E : Value → Shared → Prop} {s : Shared} {scope : Scope} {globals : Addr} {closure : List (Str × Addr)} {qual : Str} {func : Option Addr} {code : Value} {around : Env} {builtins : Addr} {Q : Env → Shared → Prop}
    (h : Q (newEnv scope s.heap.objs.size globals (cellsFrom (s.heap.objs.size + 1) scope.names closure) qual func code (some around) builtins)
      { s with heap := pushCells (s.heap.push { cls := .type "dict", data := .dict #[] }) scope.names }) :
    wpAny M A (newFunctionEnv scope globals closure [] qual func code (some around) builtins) Q E s := by
  simp only [newFunctionEnv, Option.isSome_some, if_true]
  refine wpAny_bind (wpAny_alloc ?_)
  refine wpAny_bind (wpAny_layCells _ (fun n k c => rfl) scope.names closure _ _ ?_)
  rw [show ({ s with heap := s.heap.push { cls := .type "dict", data := .dict #[] } } : Shared).heap.objs.size = s.heap.objs.size + 1 from Heap.size_push ..]
  rw [List.forIn_nil]
  exact wpAny_bind (wpAny_pure (wpAny_pure h))
/-- every name of the written scope, in the scope that runs -/
theorem lookup_relS {sc : Scope} : ∀ {names : List (Str × NameKind)} {x : Str} {k : NameKind},
    (names.map fun (n, k) => if (k == NameKind.free && sc.kind == .function && sc.names.lookup n == some .cell) then (n, NameKind.cell) else (n, k)).lookup x = some k →
    ∃ k', names.lookup x = some k' ∧ (k = k' ∨ (k' = .free ∧ k = .cell))
  | [], _, _, h => by simp at h
  | (n, k₀) :: r, x, k, h => by
    have ih := @lookup_relS sc r x k
    have h' : List.lookup x ((if (k₀ == NameKind.free && sc.kind == .function && sc.names.lookup n == some .cell) = true then (n, NameKind.cell) else (n, k₀)) :: (r.map _)) = some k := h
    cases hx : x == n with
    | true =>
      simp only [List.lookup_cons, hx]
      by_cases hc : (k₀ == NameKind.free && sc.kind == .function && sc.names.lookup n == some .cell) = true
      · rw [if_pos hc] at h'
        simp only [List.lookup_cons, hx] at h'
        cases h'
        simp only [Bool.and_eq_true, beq_iff_eq] at hc
        exact ⟨k₀, rfl, .inr ⟨hc.1.1, rfl⟩⟩
      · rw [if_neg hc] at h'
        simp only [List.lookup_cons, hx] at h'
        cases h'
        exact ⟨_, rfl, .inl rfl⟩
    | false =>
      simp only [List.lookup_cons, hx]
      by_cases hc : (k₀ == NameKind.free && sc.kind == .function && sc.names.lookup n == some .cell) = true
      · rw [if_pos hc] at h'
        simp only [List.lookup_cons, hx] at h'
        exact ih h'
      · rw [if_neg hc] at h'
        simp only [List.lookup_cons, hx] at h'
        exact ih h'
/-- the names of a comprehension's block: its own (with their places in N), or captured -/
structure BlkOk (N : List Str) (sc scope : Scope) (own : List (Str × Nat)) : Prop where
  kind : scope.kind = .function
  uniq : ∀ y ∈ scope.names, scope.names.lookup y.1 = some y.2
  ix : ∀ p ∈ own, N[p.2]? = some p.1
  free : ∀ y ∈ scope.names, y.2 = .free → sc.names.lookup y.1 = some .cell ∨ sc.names.lookup y.1 = some .free
  own : ∀ y ∈ scope.names, y.2 = .local ∨ y.2 = .cell → y.1 ∈ own.map (·.1) ∨ y.1 ∉ N
/-- the slots of the block's own names forgotten -/
def wipe (σ : St) : List Nat → St
  | [] => σ
  | v :: vs => (wipe σ vs).set v none
theorem wipe_length (σ : St) : ∀ vs : List Nat, (wipe σ vs).length = σ.length
  | [] => rfl
  | v :: vs => by unfold wipe; rw [List.length_set, wipe_length σ vs]
theorem wipe_some {σ : St} {i : Nat} {x : V} : ∀ {vs : List Nat}, (wipe σ vs)[i]? = some (some x) → σ[i]? = some (some x) ∧ i ∉ vs
  | [], h => ⟨h, by simp⟩
  | v :: vs, h => by
    unfold wipe at h
    by_cases hi : v = i
    · subst hi
      by_cases hv : v < (wipe σ vs).length
      · rw [List.getElem?_set_self hv] at h; cases h
      · rw [List.getElem?_eq_none (by simpa using hv)] at h; cases h
    · rw [List.getElem?_set_ne hi] at h
      obtain ⟨h1, h2⟩ := wipe_some h
      exact ⟨h1, by simp only [List.mem_cons, not_or]; exact ⟨fun e => hi e.symm, h2⟩⟩
/-- the context of a block that starts at s, its iterator's objects at fp -/
abbrev Cx.blk (X : Cx) (s : Shared) (H : Hp) (scope : Scope) (cenv : Env) (fp : List Addr) : Cx := { X with s_0 := s, H_0 := H, env := cenv, outer := X.stack, ex := fp, fn := fun x => scope.names.lookup x == some .cell, pn := [], xe := fun _ _ => False }
section
variable {X : Cx} {pins : List (Addr × Obj)} {σ : St} {H : Hp} {s : Shared}
theorem block_start {scope : Scope} {own : List (Str × Nat)} {fp : List Addr} (I : Inv X pins σ H s) (ok : BlkOk X.N X.env.scope scope own) (hN : X.N.Nodup) (hfp : ∀ b ∈ fp, FpOk X pins H b ∧ b < s.heap.objs.size) :
    Inv (X.blk s H scope (compEnvC scope (cellsFrom (s.heap.objs.size + 1) scope.names (cloFrom X.env.cells scope.names [])) s.heap.objs.size X.env) fp) [] (wipe σ (own.map (·.2))) H { s with heap := pushCells (s.heap.push { cls := .type "dict", data := .dict #[] }) scope.names } := by
  have hfree : ∀ y ∈ scope.names, y.2 = .free → ∃ c, X.env.cells.lookup y.1 = some c := fun y hy e => by
    rcases ok.free y hy e with k | k
    · exact I.ok.has _ (.inl k)
    · exact I.ok.has _ (.inr k)
  generalize hcenv : compEnvC scope (cellsFrom (s.heap.objs.size + 1) scope.names (cloFrom X.env.cells scope.names [])) s.heap.objs.size X.env = cenv
  have kp : ∀ b o, s.heap.get? b = some o → (pushCells (s.heap.push { cls := .type "dict", data := .dict #[] }) scope.names).get? b = some o := fun b o e => pushCells_keeps _ _ _ _ (Heap.get?_push_of_some _ e)
  have hL : cenv.locals = s.heap.objs.size := by rw [← hcenv]; rfl
  have hcl : cenv.cells = cellsFrom (s.heap.objs.size + 1) scope.names (cloFrom X.env.cells scope.names []) := by rw [← hcenv]; rfl
  have hsc : cenv.scope = relS scope X.env.scope := by rw [← hcenv]; rfl
  rw [← Heap.size_push s.heap { cls := .type "dict", data := .dict #[] }] at hcl
  have cm : ∀ {y c}, (y, c) ∈ cloFrom X.env.cells scope.names [] → X.env.cells.lookup y = some c ∧ c < s.heap.objs.size := fun {y c} hm => by
    rcases cloFrom_mem hm with hm | ⟨h1, rfl⟩
    · cases hm
    · obtain ⟨c, hc⟩ := hfree _ h1 rfl
      rw [hc]
      obtain ⟨w, z⟩ := I.cell _ _ hc
      exact ⟨rfl, z.lt⟩
  have mem : ∀ {y c}, cenv.cells.lookup y = some c → (X.env.cells.lookup y = some c ∧ c < s.heap.objs.size) ∨ (s.heap.objs.size + 1 ≤ c ∧ CellAt (pushCells (s.heap.push { cls := .type "dict", data := .dict #[] }) scope.names) c none) := fun {y c} e => by
    rw [hcl] at e
    rcases cells_mem (PySem.mem_of_lookup e) with hm | ⟨_, h2, h3⟩
    · exact .inl (cm hm)
    · rw [Heap.size_push] at h2; exact .inr ⟨h2, h3⟩
  have look : ∀ {y}, scope.names.lookup y = some .free → ∃ c, cenv.cells.lookup y = some c ∧ X.env.cells.lookup y = some c := fun {y} hl => by
    have hy : (y, NameKind.free) ∈ scope.names := PySem.mem_of_lookup hl
    obtain ⟨c', e'⟩ := mem_lookup (cells_acc (names := scope.names) (n := (s.heap.push { cls := .type "dict", data := .dict #[] }).objs.size) (cloFrom_has (cells := X.env.cells) (acc := []) hy))
    rw [← hcl] at e'
    refine ⟨c', e', ?_⟩
    rw [hcl] at e'
    rcases cells_mem (PySem.mem_of_lookup e') with hm | ⟨h1, _, _⟩
    · exact (cm hm).1
    · have := ok.uniq _ h1
      rw [hl] at this; cases this
  have okB : (X.blk s H scope cenv fp).Ok := by
    refine ⟨I.ok.mod, by show cenv.scope.kind = _; rw [hsc]; exact ok.kind, by show cenv.globals = _; rw [← hcenv]; exact I.ok.glob, by show cenv.builtins = _; rw [← hcenv]; exact I.ok.blt, by show s.heap.objs.size ≤ cenv.locals; rw [hL]; exact Nat.le_refl _,
      fun y z c e1 e2 => ?_, fun y hy => ?_, fun y c z e => ?_, I.ok.hd, I.ok.frames, .inl rfl, fun b hb => ⟨?_, fun y c e z => ?_⟩, I.bs, Nat.le_trans I.ok.bsz I.sz, fun b o e hb => ?_, fun b hb z => ?_, I.stack, I.stkFree⟩
    · have e1 : cenv.cells.lookup y = some c := e1
      have e2 : cenv.cells.lookup z = some c := e2
      rw [hcl] at e1 e2
      refine cells_inj (fun p hp => ?_) (fun y z c a b => I.ok.inj y z c (cm a).1 (cm b).1) (PySem.mem_of_lookup e1) (PySem.mem_of_lookup e2)
      rw [Heap.size_push]
      exact Nat.lt_succ_of_lt (cm (y := p.1) (c := p.2) hp).2
    · show ∃ c, cenv.cells.lookup y = some c
      have key : ∀ k, cenv.kindOf y = some k → (k = .cell ∨ k = .free) → ∃ c, cenv.cells.lookup y = some c := fun k hk hk' => by
        unfold Env.kindOf at hk
        rw [hsc] at hk
        obtain ⟨k', e, r⟩ := lookup_relS hk
        have : k' = .cell ∨ k' = .free := by
          rcases r with rfl | ⟨rfl, _⟩
          · exact hk'
          · exact .inr rfl
        rcases this with rfl | rfl
        · obtain ⟨c, hm⟩ := cells_has (n := (s.heap.push { cls := .type "dict", data := .dict #[] }).objs.size) (acc := cloFrom X.env.cells scope.names []) (PySem.mem_of_lookup e)
          obtain ⟨c', e'⟩ := mem_lookup hm
          exact ⟨c', by rw [hcl]; exact e'⟩
        · obtain ⟨c, h1, _⟩ := look e
          exact ⟨c, h1⟩
      rcases hy with hy | hy
      · exact key _ hy (.inl rfl)
      · exact key _ hy (.inr rfl)
    · have z : (scope.names.lookup y == some NameKind.cell) = true := z
      have z : scope.names.lookup y = some .cell := by simpa using z
      have e : cenv.cells.lookup y = some c := e
      rw [hcl] at e
      rcases cells_mem (PySem.mem_of_lookup e) with hm | ⟨_, h2, _⟩
      · rcases cloFrom_mem hm with hm | ⟨h1, _⟩
        · cases hm
        · have q := ok.uniq _ h1
          rw [z] at q; cases q
      · rw [Heap.size_push] at h2
        exact Nat.le_of_succ_le h2
    · show b ≠ cenv.locals
      rw [hL]; exact Nat.ne_of_lt (hfp b hb).2
    · have e : cenv.cells.lookup y = some c := e
      rcases mem e with ⟨h1, _⟩ | ⟨h1, _⟩
      · exact (hfp b hb).1.2.2.2.2.1 y c h1 z
      · have h2 : s.heap.objs.size + 1 ≤ b := by rw [← z]; exact h1
        exact absurd (Nat.lt_of_lt_of_le (hfp b hb).2 (Nat.le_of_succ_le h2)) (Nat.lt_irrefl _)
    · rcases (hfp b hb).1.2.2.2.1 with z | z
      · exact I.ok.noex b o e z
      · exact absurd (Nat.lt_of_lt_of_le (Heap.lt_size e) (Nat.le_trans I.ok.bsz z)) (Nat.lt_irrefl _)
    · rcases List.mem_cons.mp (I.stkSub b z) with z | z
      · exact (hfp b hb).1.2.1 z
      · exact (hfp b hb).1.2.2.1 z
  refine ⟨okB, rfl, I.bare, Un.kept kp, ⟨fun _ => none, ?_, fun i y av e1 e2 e3 => ?_⟩, fun y c e => ?_, ?_, fun y c e => ?_, fun p hp => ?_, I.hok.kept kp, by rw [wipe_length]; exact I.len⟩
  · show Heap.Ns _ cenv.locals _
    rw [hL]
    exact Heap.Ns.keeps (Heap.Ns.new ..) fun b o e => pushCells_keeps _ _ _ _ e
  · obtain ⟨e2, hne⟩ := wipe_some e2
    have hfr : scope.names.lookup y = some .free ∧ (cenv.kindOf y = some .cell ∨ cenv.kindOf y = some .free) := by
      have key : ∀ k, cenv.scope.names.lookup y = some k → k = .local ∨ k = .cell ∨ k = .free → scope.names.lookup y = some .free ∧ (cenv.kindOf y = some .cell ∨ cenv.kindOf y = some .free) := fun k hk hk' => by
        have hk0 := hk
        rw [hsc] at hk
        obtain ⟨k', e, r⟩ := lookup_relS hk
        have no : ¬ (k' = .local ∨ k' = .cell) := fun hh => by
          rcases ok.own _ (PySem.mem_of_lookup e) hh with e' | e'
          · obtain ⟨p, hp, hpy⟩ := List.mem_map.mp e'
            have e3 := ok.ix p hp
            have : p.1 = y := hpy
            rw [this] at e3
            exact hne (List.mem_map.mpr ⟨p, hp, nodup_ix hN e3 e1⟩)
          · exact e' (List.mem_of_getElem? e1)
        rcases r with rfl | ⟨rfl, rfl⟩
        · rcases hk' with rfl | rfl | rfl
          · exact absurd (.inl rfl) no
          · exact absurd (.inr rfl) no
          · exact ⟨e, .inr hk0⟩
        · exact ⟨e, .inl hk0⟩
      have e3 : Vis cenv.scope y := e3
      rcases e3 with e3 | e3 | e3
      · exact key _ e3 (.inl rfl)
      · exact key _ e3 (.inr (.inl rfl))
      · exact key _ e3 (.inr (.inr rfl))
    obtain ⟨m, hn, hl⟩ := I.loc
    have hvis : Vis X.env.scope y := (ok.free _ (PySem.mem_of_lookup hfr.1) rfl).elim (fun k => .inr (.inl k)) (fun k => .inr (.inr k))
    obtain ⟨w, r, q⟩ := hl i y av e1 e2 hvis
    refine ⟨w, r, .inr ⟨hfr.2, ?_⟩⟩
    obtain ⟨c, h1, h2⟩ := look hfr.1
    rcases q with ⟨k, _⟩ | ⟨_, c', e', z⟩
    · have k : X.env.scope.names.lookup y = some .local := k
      rcases ok.free _ (PySem.mem_of_lookup hfr.1) rfl with k' | k' <;> rw [show X.env.scope.names.lookup y = _ from k'] at k <;> cases k
    · rw [h2] at e'; cases e'
      exact ⟨c, h1, z.keeps kp⟩
  · have e : cenv.cells.lookup y = some c := e
    rcases mem e with ⟨h1, _⟩ | ⟨_, z⟩
    · obtain ⟨w, z⟩ := I.cell y c h1
      exact ⟨w, z.keeps kp⟩
    · exact ⟨_, z⟩
  · show H cenv.locals = none
    rw [hL]; exact I.hok.fresh (Nat.le_refl _)
  · have e : cenv.cells.lookup y = some c := e
    rcases mem e with ⟨h1, _⟩ | ⟨h1, _⟩
    · exact I.freeC y c h1
    · exact I.hok.fresh (Nat.le_of_succ_le h1)
  · exact absurd (show p ∈ ([] : List (Addr × Obj)) ++ [] from hp) (by simp)
/-- an item appended to a tracked list -/
theorem app_ok {E : Value → Shared → Prop} {D : Addr} {xs : List V} {y : V} {v : Value} {Q : Value → Shared → Prop} (I : Inv X pins σ H s) (hD : H D = some (.lst xs)) (hz : xs.length < sizeLine) (r : RelV y v)
    (h : ∀ s', Inv X pins σ (upd H D (.lst (xs ++ [y]))) s' → Q .none s') : wpAny (model X.prog X.w) X.A (call (.builtin "list.append") [.ref D, v]) Q E s := by
  obtain ⟨hz', its, n, ri, e⟩ := I.hok D _ hD
  have hl := ri.length
  refine append_at (hsz := by rw [List.size_toArray]; omega) e fun h' sb ho' => ?_
  refine h { s with heap := h' } (I.write (t' := s.toks) (by rw [hD]; trivial) (.inl rfl) (fun b u hb q => (sb.2 b hb).trans q) ⟨_, ho'⟩ ⟨by rw [List.length_append]; exact hz, its ++ [v], n + 1, ri.append (.cons r .nil), ?_⟩)
  rw [ho']
  simp
/-- a clause's tests -/
def PTs (X : Cx) (ifs : List Expr) (t : TT) : Prop :=
  ∀ (pins : List (Addr × Obj)) (s : Shared) (σ : St) (H : Hp) (Q : Bool → Hp → Prop), Inv X pins σ H s → t σ H Q →
    wpAny (model X.prog X.w) X.A (forIn ifs true fun c r => if r = true then do let ok ← isTrue c X.env (eval c X.env); pure (ForInStep.yield ok) else pure (ForInStep.yield r)) (TP X pins σ Q) X.xe s
def tYes : TT := fun _ H Q => Q true H
theorem pts_nil : PTs X [] tYes := fun _ _ _ H _ I h => wpAny_tests_nil ⟨H, I, h⟩
theorem pts_one {c : Expr} {t : TT} (h : PT X c t) : PTs X [c] t := fun pins s σ H Q I hw => wpAny_tests_one (h pins s σ H Q I hw)
end
theorem thnF {α : Type} {t : Sem α} {Q Q' : α → Shared → Prop} {M : Model} {A : Around} {E : Value → Shared → Prop} {s : Shared} (h : wpAny M A t Q (fun _ _ => False) s) (hQ : ∀ a s, Q a s → Q' a s) : wpAny M A t Q' E s := wpAny_mono h hQ fun _ _ z => False.elim z
/-- the loop of a list comprehension's block, the target of any form (codeAny_compLoop_tests asks a target that no tuple goes to; statement and proof follow it, PyProof/CompMap.lean:41-61, with the step letOwnedTupleGo kept) -/
theorem compLoop_any {prog : Program} {w : World} {A : Around} {R : Result → Shared → Prop} {s : Shared} {elt target iter : Expr} {ifs : List Expr} {scope : Scope} {pos : Pos} {it acc : Value} {env : Env} (I : Nat → Shared → Prop)
    (turn : ∀ n s, I n s → wpAny (model prog w) A (pyNext it) (fun r s₁ => match r with
      | none => R (.ok .next) s₁
      | some v => wpAny (model prog w) A (letOwnedTupleGo target it v) (fun _ s₁' => wpAny (model prog w) A (assign target env v) (fun _ s₂ =>
          wpAny (model prog w) A (forIn ifs true fun c r => if r = true then do let ok ← isTrue c env (eval c env); pure (ForInStep.yield ok) else pure (ForInStep.yield r)) (fun ok s₃ =>
            if ok = true then wpAny (model prog w) A (eval elt env) (fun x s₄ =>
              wpAny (model prog w) A (call (.builtin "list.append") [acc, x]) (fun _ s₅ => ∃ m, m < n ∧ I m s₅) (notedBy (model prog w) A env fun e s' => R (.error e) s') s₄) (notedBy (model prog w) A env fun e s' => R (.error e) s') s₃
            else ∃ m, m < n ∧ I m s₃) (notedBy (model prog w) A env fun e s' => R (.error e) s') s₂) (notedBy (model prog w) A env fun e s' => R (.error e) s') s₁') (notedBy (model prog w) A env fun e s' => R (.error e) s') s₁) (notedBy (model prog w) A env fun e s' => R (.error e) s') s)
    (n : Nat) (h : I n s) :
    codeAny (model prog w) A (.compLoop (.ListComp elt [⟨target, iter, ifs, 0⟩] scope pos) 0 it acc env) R s := by
  refine codeAny_loop rfl I (fun n s hI => ?_) n h
  show wpAny _ A ((compTurn (.ListComp elt [⟨target, iter, ifs, 0⟩] scope pos) 0 it acc env).onRaise (fun x => do noteFrame x env; theTreesLotGoes x)) _ _ s
  refine wpAny_noted ?_
  rw [compTurn_list]
  refine wpAny_bind (wpAny_standAt (wpAny_bind (wpAny_mono (turn n s hI) (fun r s₁ h₁ => ?_) fun _ _ h' => h')))
  cases r with
  | none => exact wpAny_pure h₁
  | some v =>
    refine wpAny_bind (wpAny_mono h₁ (fun _ s₁' h₁' => ?_) fun _ _ h' => h')
    refine wpAny_bind (wpAny_mono h₁' (fun _ s₂ h₂ => wpAny_bind (wpAny_mono h₂ (fun ok s₃ h₃ => ?_) fun _ _ h' => h')) fun _ _ h' => h')
    cases ok with
    | false => exact wpAny_pure ⟨rfl, h₃⟩
    | true =>
      exact wpAny_bind (wpAny_bind (wpAny_mono h₃ (fun x s₄ h₄ => wpAny_bind (wpAny_mono h₄ (fun _ s₅ h₅ => wpAny_pure (wpAny_pure ⟨rfl, h₅⟩)) fun _ _ h' => h')) fun _ _ h' => h'))
section
variable {X : Cx}
/-- [elt for target in iter if ..]: D the new list; W by the turn and a measure, Nx what a turn is to reach -/
def tLc (wi : TI) (g : TG) (tt : TT) (te : TE) (vs : List Nat) : TE := fun σ H Q => wi σ H fun J H1 => ∀ D, H1 D = none → ∃ W : Nat → Nat → Hp → Prop, (∃ m, W 0 m (upd H1 D (.lst []))) ∧ ∀ i m H, W i m H →
  (J.stop i H ∧ Q (.ref D) H) ∨ (J.go i H ∧ ∃ Nx : Hp → Prop, (∀ H', Nx H' → ∃ m', m' < m ∧ W (i + 1) m' H') ∧ ∀ x H', J.yld i H x H' → g x (wipe σ vs) H' fun σ2 H2 => wipe σ2 vs = wipe σ vs ∧ tt σ2 H2 fun b H3 =>
    if b = true then te σ2 H3 fun y H4 => ∃ acc, H4 D = some (.lst acc) ∧ acc.length < sizeLine ∧ Nx (upd H4 D (.lst (acc ++ [y]))) else Nx H3)
theorem lc_core {pins : List (Addr × Obj)} {s : Shared} {σ : St} {H : Hp} {Q : VK} {elt tg iter : Expr} {ifs : List Expr} {scope : Scope} {own : List (Str × Nat)} {pos pos' : Pos} {wi : TI} {g : TG} {tt : TT} {te : TE} {use : Option (Value → Sem Unit)} {Qf : Value → Shared → Prop}
    (hc : X.calm = true) (hN : X.N.Nodup) (I : Inv X pins σ H s) (hi : PI X tg iter wi) (ok : BlkOk X.N X.env.scope scope own)
    (hg : ∀ (s : Shared) (H : Hp) (C : Addr) (cl : List (Str × Addr)) (fp : List Addr), PG (X.blk s H scope (compEnvC scope cl C X.env) fp) tg g) (ht : ∀ (s : Shared) (H : Hp) (C : Addr) (cl : List (Str × Addr)) (fp : List Addr), PTs (X.blk s H scope (compEnvC scope cl C X.env) fp) ifs tt)
    (he : ∀ (s : Shared) (H : Hp) (C : Addr) (cl : List (Str × Addr)) (fp : List Addr), PE (X.blk s H scope (compEnvC scope cl C X.env) fp) elt te) (hs : ∀ x, foldedSetIterable iter X.env x = pure x)
    (h : tLc wi g tt te (own.map (·.2)) σ H Q)
    (hRR : ∀ D C s' m H', Inv X pins σ H' s' → Q (.ref D) H' → s'.heap.Ns C m → FpOk X pins H' C → compPost (model X.prog X.w) X.A X.xe use Qf (.ref D) C (.ok .next) s') :
    wpAny (model X.prog X.w) X.A (comprehension (.ListComp elt [⟨tg, iter, ifs, 0⟩] scope pos) scope X.env pos' (newList []) false (eval iter X.env) use) Qf X.xe s := by
  have hfree : ∀ y ∈ scope.names, y.2 = .free → ∃ c, X.env.cells.lookup y.1 = some c := fun y hy e => by
    rcases ok.free y hy e with k | k
    · exact I.ok.has _ (.inl k)
    · exact I.ok.has _ (.inr k)
  refine wpAny_comprehension_free (use := use) rfl hs (closure_ok hfree) ok.kind (fun y hy e => by rw [ok.uniq y hy, e])
    (thn (hi pins s σ H _ I h) fun xv s1 hx => thn hx fun itv s2 h2 => ?_)
  obtain ⟨it, fp, tn, J, H2, e, I2, T, st2, f2, q⟩ := h2
  subst e
  refine wpAny_newObj_type (newEnv_comp ?_) (by show 0 ≤ sizeLine; decide)
  generalize hD : s2.heap.objs.size = D
  have hDn : H2 D = none := I2.hok.fresh (Nat.le_of_eq hD)
  obtain ⟨W, ⟨m0, w0⟩, turn⟩ := q D hDn
  -- the new list
  generalize hs3 : ({ s2 with heap := s2.heap.push { cls := .type "list", data := .seq ([] : List Value).toArray } } : Shared) = s3
  have I3 : Inv X pins σ (upd H2 D (.lst [])) s3 := by
    rw [← hs3]
    refine I2.laid (t' := s2.toks) (fun b o e => Heap.get?_push_of_some _ e) (Nat.le_of_eq hD) ⟨Nat.zero_le _, [], 0, .nil, ?_⟩
    rw [← hD]
    exact Heap.get?_push_size _ rfl
  have h3 : s3.heap = s2.heap.push { cls := .type "list", data := .seq ([] : List Value).toArray } := by rw [← hs3]
  have sz : ∀ b ∈ fp, b < s2.heap.objs.size := fun b hb => by
    obtain ⟨o, e, _⟩ := T.obj _ _ st2 b hb
    exact Heap.lt_size e
  have f3 : ∀ b ∈ fp, FpOk X pins (upd H2 D (.lst [])) b ∧ b < s3.heap.objs.size := fun b hb => by
    have hlt := sz b hb
    refine ⟨⟨?_, (f2 b hb).2⟩, by rw [h3, Heap.size_push]; exact Nat.lt_succ_of_lt hlt⟩
    rw [upd_ne (by rw [← hD]; exact Nat.ne_of_lt hlt)]
    exact (f2 b hb).1
  have st3 : tn 0 s3.heap := T.keep _ _ _ st2 fun b _ o e => by rw [h3]; exact Heap.get?_push_of_some _ e
  have I4 := block_start I3 ok hN f3
  have pg := hg s3 (upd H2 D (.lst [])) s3.heap.objs.size (cellsFrom (s3.heap.objs.size + 1) scope.names (cloFrom X.env.cells scope.names [])) fp
  have pt := ht s3 (upd H2 D (.lst [])) s3.heap.objs.size (cellsFrom (s3.heap.objs.size + 1) scope.names (cloFrom X.env.cells scope.names [])) fp
  have pe := he s3 (upd H2 D (.lst [])) s3.heap.objs.size (cellsFrom (s3.heap.objs.size + 1) scope.names (cloFrom X.env.cells scope.names [])) fp
  show codeAny _ _ (.compStart (.ListComp elt [⟨tg, iter, ifs, 0⟩] scope pos) 0 (.ref it) (.ref D) (compEnvC scope (cellsFrom (s3.heap.objs.size + 1) scope.names (cloFrom X.env.cells scope.names [])) s3.heap.objs.size X.env)) (compPost (model X.prog X.w) X.A X.xe use Qf (.ref D) s3.heap.objs.size) { s3 with heap := pushCells (s3.heap.push { cls := .type "dict", data := .dict #[] }) scope.names }
  have nfp : ∀ b ∈ fp, (upd H2 D (.lst [])) b = none := fun b hb => (f3 b hb).1.1
  generalize hce : compEnvC scope (cellsFrom (s3.heap.objs.size + 1) scope.names (cloFrom X.env.cells scope.names [])) s3.heap.objs.size X.env = ce at I4 pg pt pe ⊢
  have cL : ce.locals = s3.heap.objs.size := by subst hce; rfl
  generalize hH3 : upd H2 D (.lst []) = H3 at I3 I4 pg pt pe w0 nfp f3
  generalize hs4 : ({ s3 with heap := pushCells (s3.heap.push { cls := .type "dict", data := .dict #[] }) scope.names } : Shared) = s4 at I4 ⊢
  have st4 : tn 0 s4.heap := T.keep _ _ _ st3 fun b _ o e => by rw [← hs4]; exact pushCells_keeps _ _ _ _ (Heap.get?_push_of_some _ e)
  have stat : ∀ {σ' : St} {H' : Hp} {s' : Shared}, Inv (X.blk s3 H3 scope ce fp) [] σ' H' s' → (∀ b ∈ fp, H' b = none) → ∀ b ∈ fp, FpOk (X.blk s3 H3 scope ce fp) [] H' b := fun {σ' H' s'} I' hn b hb =>
    ⟨hn b hb, (I'.ok.exf b hb).1, I'.ok.exfs b hb, .inl hb, fun x c e => (I'.ok.exf b hb).2 x c e, fun p hp => absurd (show p ∈ ([] : List (Addr × Obj)) ++ [] from hp) (by simp)⟩
  have loop : codeAny (model X.prog X.w) X.A (.compLoop (.ListComp elt [⟨tg, iter, ifs, 0⟩] scope pos) 0 (.ref it) (.ref D) ce) (compPost (model X.prog X.w) X.A X.xe use Qf (.ref D) s3.heap.objs.size) s4 := by
    refine compLoop_any (fun n s' => ∃ i H', Inv (X.blk s3 H3 scope ce fp) [] (wipe σ (own.map (·.2))) H' s' ∧ tn i s'.heap ∧ (∀ b ∈ fp, H' b = none) ∧ W i n H') ?_ m0 ⟨0, H3, I4, st4, nfp, w0⟩
    rintro n s5 ⟨i, H5, I5, st5, n5, w5⟩
    rcases turn i n H5 w5 with ⟨stop, qq⟩ | ⟨go, Nx, hNx, step⟩
    · have td := T.done (X.blk s3 H3 scope ce fp) rfl rfl rfl hc i [] s5 _ H5 (fun _ _ => False) I5 (stat I5 n5) st5 stop
      refine thnF td fun r s6 ⟨hr, I6⟩ => ?_
      subst hr
      -- back in the def's context
      have I7 : Inv X pins σ H5 s6 := I3.call' (ch := fp) I6.os I6.base I6.hok I6.bare fun b hb => ⟨(f3 b hb).1.2.2.2.1, (f3 b hb).1.2.1, (f3 b hb).1.2.2.2.2.1, (f3 b hb).1.2.2.2.2.2⟩
      have nC : H5 s3.heap.objs.size = none := by
        have z : H5 ce.locals = none := I6.free
        rw [cL] at z
        exact z
      obtain ⟨m, hn, _⟩ := I6.loc
      have hn : s6.heap.Ns ce.locals m := hn
      rw [cL] at hn
      exact hRR D s3.heap.objs.size s6 m H5 I7 qq hn (I3.fpOk (Nat.le_refl _) nC)
    · have ti := T.item (X.blk s3 H3 scope ce fp) rfl rfl rfl hc i [] s5 _ H5 (fun _ _ => False) I5 (stat I5 n5) st5 go
      refine thnF ti fun r s6 ⟨u, hr, h6⟩ => ?_
      subst hr
      refine thnF h6 fun _ s7 ⟨x, H7, I7, r7, y7, st7, n7⟩ => ?_
      have I7' := I7.pinned (stat I7 n7) (T.obj _ _ st7)
      refine thnF (pg _ s7 _ H7 x u _ I7' r7 (step x H7 y7)) fun _ s8 ⟨σ8, H8, I8, hw8, q8⟩ => ?_
      refine thnF (pt _ s8 σ8 H8 _ I8 q8) fun b s9 ⟨H9, I9, q9⟩ => ?_
      -- the turn's end
      have fin : ∀ {s' : Shared} {H' : Hp}, Inv (X.blk s3 H3 scope ce fp) ([] ++ pinsAt fp s7.heap) σ8 H' s' → Nx H' → ∃ m, m < n ∧ ∃ i H', Inv (X.blk s3 H3 scope ce fp) [] (wipe σ (own.map (·.2))) H' s' ∧ tn i s'.heap ∧ (∀ b ∈ fp, H' b = none) ∧ W i m H' := fun {s' H'} I' nx => by
        obtain ⟨m', hm, w'⟩ := hNx H' nx
        have pin' : ∀ b ∈ fp, ∀ o, s7.heap.get? b = some o → s'.heap.get? b = some o ∧ H' b = none := fun b hb o e =>
          let z := I'.pin (b, o) (List.mem_append_right _ (List.mem_append_right _ (mem_pinsAt hb e)))
          ⟨z.1, z.2.1⟩
        have hl : (wipe σ (own.map (·.2))).length = σ8.length := by rw [← hw8, wipe_length]
        refine ⟨m', hm, i + 1, H', (I'.unpinned (pins := [])).weak hl (fun j v e => ?_), T.keep _ _ _ st7 fun b hb o e => (pin' b hb o e).1, fun b hb => ?_, w'⟩
        · rw [← hw8] at e
          exact (wipe_some e).1
        · obtain ⟨o, e, _⟩ := T.obj _ _ st7 b hb
          exact (pin' b hb o e).2
      cases b with
      | false =>
        simp only [Bool.false_eq_true, if_false] at q9 ⊢
        exact fin I9 q9
      | true =>
        simp only [if_true] at q9 ⊢
        refine thnF (pe _ s9 σ8 H9 _ I9 q9) fun z s10 ⟨yv, H10, I10, r10, acc, hD10, hz10, nx⟩ => ?_
        exact app_ok (X := X.blk s3 H3 scope ce fp) I10 hD10 hz10 r10 fun s11 I11 => fin I11 nx
  exact codeAny_compStart_list loop (T.self X.A 0 _ _ _ st4 loop)
/-- as a value -/
theorem pe_lc {elt tg iter : Expr} {ifs : List Expr} {scope : Scope} {own : List (Str × Nat)} {pos : Pos} {wi : TI} {g : TG} {tt : TT} {te : TE} (hc : X.calm = true) (hN : X.N.Nodup) (hi : PI X tg iter wi) (ok : BlkOk X.N X.env.scope scope own)
    (hg : ∀ (s : Shared) (H : Hp) (C : Addr) (cl : List (Str × Addr)) (fp : List Addr), PG (X.blk s H scope (compEnvC scope cl C X.env) fp) tg g) (ht : ∀ (s : Shared) (H : Hp) (C : Addr) (cl : List (Str × Addr)) (fp : List Addr), PTs (X.blk s H scope (compEnvC scope cl C X.env) fp) ifs tt)
    (he : ∀ (s : Shared) (H : Hp) (C : Addr) (cl : List (Str × Addr)) (fp : List Addr), PE (X.blk s H scope (compEnvC scope cl C X.env) fp) elt te) (hs : ∀ x, foldedSetIterable iter X.env x = pure x := by intro _; rfl) :
    PE X (.ListComp elt [⟨tg, iter, ifs, 0⟩] scope pos) (tLc wi g tt te (own.map (·.2))) := by
  intro pins s σ H Q I h
  rw [eval_ListComp]
  refine lc_core hc hN I hi ok hg ht he hs h fun D C s' m H' I' q hn f => ⟨m, hn, fun h'' sb => ?_⟩
  obtain ⟨f0, f1, f2, f3, f4, f5⟩ := f
  exact ⟨.ref D, H', I'.turned (t' := s'.toks) (fun b o hb e => (sb.2 b hb).trans e) f0 f1 f3 f4 f5, rfl, q⟩
/-- name = [..] on one line, the name a local -/
theorem ps_setLc {i : Nat} {y : Str} {py : Pos} {elt tg iter : Expr} {ifs : List Expr} {scope : Scope} {own : List (Str × Nat)} {pos spos : Pos} {wi : TI} {g : TG} {tt : TT} {te : TE} (hc : X.calm = true) (hN : X.N.Nodup) (hy : X.N[i]? = some y) (hyl : X.env.scope.names.lookup y = some .local)
    (hsw : swapsWith (.ListComp elt [⟨tg, iter, ifs, 0⟩] scope pos) (some (.Name y py)) spos.line X.env = pure true) (hi : PI X tg iter wi) (ok : BlkOk X.N X.env.scope scope own)
    (hg : ∀ (s : Shared) (H : Hp) (C : Addr) (cl : List (Str × Addr)) (fp : List Addr), PG (X.blk s H scope (compEnvC scope cl C X.env) fp) tg g) (ht : ∀ (s : Shared) (H : Hp) (C : Addr) (cl : List (Str × Addr)) (fp : List Addr), PTs (X.blk s H scope (compEnvC scope cl C X.env) fp) ifs tt)
    (he : ∀ (s : Shared) (H : Hp) (C : Addr) (cl : List (Str × Addr)) (fp : List Addr), PE (X.blk s H scope (compEnvC scope cl C X.env) fp) elt te) (hs : ∀ x, foldedSetIterable iter X.env x = pure x := by intro _; rfl) :
    PS X (.Assign [.Name y py] (.ListComp elt [⟨tg, iter, ifs, 0⟩] scope pos) spos) (tAsg (tLc wi g tt te (own.map (·.2))) (gName i)) := by
  intro pins s σ H D I h
  rw [exec_Assign_Name_used _ _ _ _ hsw]
  refine wpAny_bind (wpAny_standAt (wpAny_bind ?_))
  show wpAny _ X.A (do let _ ← comprehension (.ListComp elt [⟨tg, iter, ifs, 0⟩] scope pos) scope X.env (firstIterPos [⟨tg, iter, ifs, 0⟩] pos) (newList []) false (eval iter X.env) (some (assign (.Name y py) X.env))) _ _ s
  have h : tLc wi g tt te (own.map (·.2)) σ H (fun x H1 => gName i x σ H1 D.nx) := h
  refine wpAny_bind (thn (lc_core (Qf := fun _ s' => SP X pins D .next s') hc hN I hi ok hg ht he hs h fun L C s' m H' I' q hn f => ?_) fun _ s' hq => wpAny_pure (wpAny_pure hq))
  show wpAny _ _ (assign (.Name y py) X.env (.ref L)) _ _ _
  refine wpAny_assign_Name (store_ok2 (v := V.ref L) I' hN hy (.inl hyl) rfl (fun s2 I2 ⟨a, sb, ha⟩ => ?_) (.inr hyl))
  obtain ⟨f0, f1, f2, f3, f4, f5⟩ := f
  have haC : C ≠ a := by
    rcases ha with z | z
    · rw [z]; exact f1
    · exact fun e => f4 y a z e.symm
  refine ⟨m, hn.sameBut sb haC, fun h3 sb3 => ?_⟩
  exact ⟨_, H', I2.turned (t' := s2.toks) (fun b o hb e => (sb3.2 b hb).trans e) f0 f1 f3 f4 f5, q⟩
theorem sw_true {elt : Expr} {gs : List Comprehension} {scope : Scope} {pos py : Pos} {y : Str} {l : Nat} {env : Env} (hk : env.scope.kind = .function) (hy : env.scope.names.lookup y = some .local) (hl : (py.line == pos.line) = true)
    (ha : (scope.names.any fun (n, k) => n == y && (k == .local || k == .cell)) = false) : swapsWith (.ListComp elt gs scope pos) (some (.Name y py)) l env = pure true := by
  have ky : env.kindOf y = some .local := hy
  have hb : env.blockKind = .function := by unfold Env.blockKind; rw [hk]; rfl
  unfold swapsWith
  simp only [hb, ky, ha, Expr.pos, hl]
  rfl
end
/-- over a range: Pv by the turn and the heap (the new list at D within) -/
theorem lc_range {lo : Int} {n : Nat} {g : TG} {tt : TT} {te : TE} {vs : List Nat} {σ : St} {H1 : Hp} {D : Addr} {Qd : Hp → Prop} (Pv : Nat → Hp → Prop) (h0 : Pv 0 (upd H1 D (.lst [])))
    (hs : ∀ i H, i < n → Pv i H → g (.int (lo + i)) (wipe σ vs) H fun σ2 H2 => wipe σ2 vs = wipe σ vs ∧ tt σ2 H2 fun b H3 =>
      if b = true then te σ2 H3 fun y H4 => ∃ acc, H4 D = some (.lst acc) ∧ acc.length < sizeLine ∧ Pv (i + 1) (upd H4 D (.lst (acc ++ [y]))) else Pv (i + 1) H3) (hd : ∀ H, Pv n H → Qd H) :
    ∃ W : Nat → Nat → Hp → Prop, (∃ m, W 0 m (upd H1 D (.lst []))) ∧ ∀ i m H, W i m H →
      ((Itr lo n).stop i H ∧ Qd H) ∨ ((Itr lo n).go i H ∧ ∃ Nx : Hp → Prop, (∀ H', Nx H' → ∃ m', m' < m ∧ W (i + 1) m' H') ∧ ∀ x H', (Itr lo n).yld i H x H' → g x (wipe σ vs) H' fun σ2 H2 => wipe σ2 vs = wipe σ vs ∧ tt σ2 H2 fun b H3 =>
        if b = true then te σ2 H3 fun y H4 => ∃ acc, H4 D = some (.lst acc) ∧ acc.length < sizeLine ∧ Nx (upd H4 D (.lst (acc ++ [y]))) else Nx H3) := by
  refine ⟨fun i m H => m = n - i ∧ i ≤ n ∧ Pv i H, ⟨n, by simp, Nat.zero_le _, h0⟩, ?_⟩
  rintro i m H ⟨rfl, hi, p⟩
  by_cases hlt : i < n
  · refine .inr ⟨hlt, Pv (i + 1), fun H' p' => ⟨n - (i + 1), by omega, rfl, hlt, p'⟩, fun x H' y => ?_⟩
    obtain ⟨e, y⟩ := y
    subst e y
    exact hs i _ hlt p
  · have e : i = n := by omega
    subst e
    exact .inl ⟨Nat.le_refl _, hd H p⟩
/-- over a list that the block leaves as it is -/
theorem lc_list {K : PySem.W.Frag} {a : Addr} {xs : List V} {g : TG} {tt : TT} {te : TE} {vs : List Nat} {σ : St} {H1 : Hp} {D : Addr} {Qd : Hp → Prop} (Pv : Nat → Hp → Prop) (h0 : Pv 0 (upd H1 D (.lst []))) (hl : ∀ i H, i ≤ xs.length → Pv i H → SqL K H a xs)
    (hs : ∀ i x H, xs[i]? = some x → Pv i H → g x (wipe σ vs) H fun σ2 H2 => wipe σ2 vs = wipe σ vs ∧ tt σ2 H2 fun b H3 =>
      if b = true then te σ2 H3 fun y H4 => ∃ acc, H4 D = some (.lst acc) ∧ acc.length < sizeLine ∧ Pv (i + 1) (upd H4 D (.lst (acc ++ [y]))) else Pv (i + 1) H3) (hd : ∀ H, Pv xs.length H → Qd H) :
    ∃ W : Nat → Nat → Hp → Prop, (∃ m, W 0 m (upd H1 D (.lst []))) ∧ ∀ i m H, W i m H →
      ((Itl K a).stop i H ∧ Qd H) ∨ ((Itl K a).go i H ∧ ∃ Nx : Hp → Prop, (∀ H', Nx H' → ∃ m', m' < m ∧ W (i + 1) m' H') ∧ ∀ x H', (Itl K a).yld i H x H' → g x (wipe σ vs) H' fun σ2 H2 => wipe σ2 vs = wipe σ vs ∧ tt σ2 H2 fun b H3 =>
        if b = true then te σ2 H3 fun y H4 => ∃ acc, H4 D = some (.lst acc) ∧ acc.length < sizeLine ∧ Nx (upd H4 D (.lst (acc ++ [y]))) else Nx H3) := by
  refine ⟨fun i m H => m = xs.length - i ∧ i ≤ xs.length ∧ Pv i H, ⟨xs.length, by simp, Nat.zero_le _, h0⟩, ?_⟩
  rintro i m H ⟨rfl, hi, p⟩
  have q := hl i H hi p
  by_cases hlt : i < xs.length
  · refine .inr ⟨⟨xs, xs[i], q, by simp [hlt]⟩, Pv (i + 1), fun H' p' => ⟨xs.length - (i + 1), by omega, rfl, hlt, p'⟩, fun x H' y => ?_⟩
    obtain ⟨e, y⟩ := y
    subst e
    exact hs i x _ (y xs q) p
  · have e : i = xs.length := by omega
    subst e
    exact .inl ⟨⟨xs, q, Nat.le_refl _⟩, hd H p⟩
def blkC (N : List Str) (sc scope : Scope) (own : List (Str × Nat)) : Bool :=
  (match scope.kind with | .function => true | _ => false) && (scope.names.all fun y => decide (scope.names.lookup y.1 = some y.2)) && (own.all fun p => decide (N[p.2]? = some p.1)) &&
    (scope.names.all fun y => match y.2 with
      | .free => (match sc.names.lookup y.1 with | some .cell => true | some .free => true | _ => false)
      | .local => decide (y.1 ∈ own.map (·.1)) || decide (y.1 ∉ N)
      | .cell => decide (y.1 ∈ own.map (·.1)) || decide (y.1 ∉ N)
      | _ => true)
theorem blkOk_by {N : List Str} {sc scope : Scope} {own : List (Str × Nat)} (h : blkC N sc scope own = true) : BlkOk N sc scope own := by
  unfold blkC at h
  simp only [Bool.and_eq_true, List.all_eq_true, decide_eq_true_eq] at h
  obtain ⟨⟨⟨h1, h2⟩, h3⟩, h4⟩ := h
  refine ⟨?_, h2, h3, fun y hy e => ?_, fun y hy e => ?_⟩
  · split at h1
    · assumption
    · cases h1
  · have q := h4 y hy
    simp only [e] at q
    split at q <;> first | exact .inl (by assumption) | exact .inr (by assumption) | cases q
  · have q := h4 y hy
    rcases e with e | e <;> (simp only [e, Bool.or_eq_true, decide_eq_true_eq] at q; exact q)
end L2
namespace L2
open PySem PySem.Spec PyProof.Rows
end L2
namespace L2
open PySem PySem.Spec PyProof.Rows
section
variable {κ : Type} [DecidableEq κ]
def valV (kvs : List (κ × V)) (k : κ) : Option V := (kvs.find? fun kv => decide (kv.1 = k)).map (·.2)
/-- in its place, or at the end -/
def putK (kvs : List (κ × V)) (k : κ) (v : V) : List (κ × V) :=
  if (kvs.any fun kv => decide (kv.1 = k)) = true then kvs.map (fun kv => if kv.1 = k then (kv.1, v) else kv) else kvs ++ [(k, v)]
def dropK (kvs : List (κ × V)) (k : κ) : List (κ × V) := kvs.filter fun kv => decide (kv.1 ≠ k)
theorem valV_pos {p : κ × V} {r : List (κ × V)} {k : κ} (e : p.1 = k) : valV (p :: r) k = some p.2 := by simp [valV, List.find?_cons, e]
theorem valV_neg {p : κ × V} {r : List (κ × V)} {k : κ} (e : ¬ p.1 = k) : valV (p :: r) k = valV r k := by simp [valV, List.find?_cons, e]
theorem valV_any (k : κ) : ∀ kvs : List (κ × V), (kvs.any fun kv => decide (kv.1 = k)) = (valV kvs k).isSome
  | [] => rfl
  | p :: r => by
    rw [List.any_cons]
    by_cases e : p.1 = k
    · simp only [valV_pos e, decide_eq_true e, Bool.true_or, Option.isSome_some]
    · rw [valV_neg e, decide_eq_false e, Bool.false_or]; exact valV_any k r
theorem valV_map (k j : κ) (y : V) : ∀ kvs : List (κ × V), valV (kvs.map fun kv => if kv.1 = k then (kv.1, y) else kv) j = (valV kvs j).map fun x => if j = k then y else x
  | [] => rfl
  | p :: r => by
    have ih := valV_map k j y r
    rw [List.map_cons]
    by_cases h : p.1 = k
    · rw [if_pos h]
      by_cases e : p.1 = j
      · rw [valV_pos (p := (p.1, y)) e, valV_pos e, Option.map_some, if_pos (e.symm.trans h)]
      · rw [valV_neg (p := (p.1, y)) e, valV_neg e, ih]
    · rw [if_neg h]
      by_cases e : p.1 = j
      · rw [valV_pos (p := p) e, valV_pos e, Option.map_some, if_neg (fun z => h (e.trans z))]
      · rw [valV_neg (p := p) e, valV_neg e, ih]
theorem valV_snoc (k j : κ) (y : V) : ∀ kvs : List (κ × V), valV kvs k = none → valV (kvs ++ [(k, y)]) j = if j = k then some y else valV kvs j
  | [], _ => by
    by_cases e : k = j
    · rw [if_pos e.symm]; exact valV_pos (p := (k, y)) e
    · rw [if_neg (fun z => e z.symm)]; exact valV_neg (p := (k, y)) e
  | p :: r, hn => by
    rw [List.cons_append]
    have hk : ¬ p.1 = k := fun z => by rw [valV_pos z] at hn; cases hn
    rw [valV_neg hk] at hn
    have ih := valV_snoc k j y r hn
    by_cases e : p.1 = j
    · rw [valV_pos e, valV_pos e, if_neg (fun z => hk (e.trans z))]
    · rw [valV_neg e, valV_neg e, ih]
theorem valV_put (kvs : List (κ × V)) (k j : κ) (y : V) : valV (putK kvs k y) j = if j = k then some y else valV kvs j := by
  unfold putK
  by_cases a : (kvs.any fun kv => decide (kv.1 = k)) = true
  · rw [if_pos a, valV_map]
    rw [valV_any] at a
    by_cases e : j = k
    · obtain ⟨x, hx⟩ := Option.isSome_iff_exists.mp a
      rw [if_pos e, e, hx, Option.map_some, if_pos rfl]
    · rw [if_neg e]
      cases valV kvs j with
      | none => rfl
      | some x => rw [Option.map_some, if_neg e]
  · rw [if_neg a]
    refine valV_snoc k j y kvs ?_
    rw [valV_any] at a
    cases q : valV kvs k with
    | none => rfl
    | some x => rw [q] at a; exact (a rfl).elim
theorem length_putK (kvs : List (κ × V)) (k : κ) (v : V) : (putK kvs k v).length ≤ kvs.length + 1 := by
  unfold putK
  split
  · rw [List.length_map]; omega
  · rw [List.length_append, List.length_cons, List.length_nil]; omega
theorem RelO.isSome_eq {o : Option V} {u : Option Value} (r : RelO o u) : o.isSome = u.isSome := by
  cases o with
  | none => cases u with
    | none => rfl
    | some _ => exact (show False from r).elim
  | some _ => cases u with
    | none => exact (show False from r).elim
    | some _ => rfl
/-- raw tables of the same keys -/
theorem KV.val {kvs : List (κ × V)} {vs : List (κ × Value)} (r : KV kvs vs) (k : κ) : RelO (valV kvs k) (valueAt vs k) := by
  unfold KV at r
  induction r with
  | nil => exact True.intro
  | @cons p q ps qs h t ih =>
    obtain ⟨h1, h2⟩ := h
    by_cases e : p.1 = k
    · have e' : q.1 = k := h1.symm.trans e
      have b : valueAt (q :: qs) k = some q.2 := by simp [valueAt, List.find?_cons, e']
      rw [valV_pos e, b]; exact h2
    · have e' : ¬ q.1 = k := fun z => e (h1.trans z)
      have b : valueAt (q :: qs) k = valueAt qs k := by simp [valueAt, List.find?_cons, e']
      rw [valV_neg e, b]; exact ih
theorem KV.any {kvs : List (κ × V)} {vs : List (κ × Value)} (r : KV kvs vs) (k : κ) : (kvs.any fun kv => decide (kv.1 = k)) = vs.any fun kv => decide (kv.1 = k) := by
  unfold KV at r
  induction r with
  | nil => rfl
  | cons h t ih => rw [List.any_cons, List.any_cons, ih, h.1]
theorem KV.repl {kvs : List (κ × V)} {vs : List (κ × Value)} (r : KV kvs vs) (k : κ) {y : V} {u : Value} (ry : RelV y u) :
    KV (kvs.map fun kv => if kv.1 = k then (kv.1, y) else kv) (vs.map fun kv => if kv.1 = k then (kv.1, u) else kv) := by
  unfold KV at r ⊢
  induction r with
  | nil => exact .nil
  | @cons p q ps qs h t ih =>
    rw [List.map_cons, List.map_cons]
    refine .cons ?_ ih
    obtain ⟨h1, h2⟩ := h
    by_cases e : p.1 = k
    · rw [if_pos e, if_pos (h1.symm.trans e)]; exact ⟨h1, ry⟩
    · rw [if_neg e, if_neg (fun z => e (h1.trans z))]; exact ⟨h1, h2⟩
theorem KV.put {kvs : List (κ × V)} {vs : List (κ × Value)} (r : KV kvs vs) (k : κ) {y : V} {u : Value} (ry : RelV y u) : KV (putK kvs k y) (stored vs k u) := by
  unfold putK stored
  rw [r.any k]
  by_cases e : (vs.any fun kv => decide (kv.1 = k)) = true
  · rw [if_pos e, if_pos e]; exact r.repl k ry
  · rw [if_neg e, if_neg e]; exact Paired.snoc r ⟨rfl, ry⟩
theorem KV.length {kvs : List (κ × V)} {vs : List (κ × Value)} (r : KV kvs vs) : kvs.length = vs.length := Paired.length r
theorem dropK_le (kvs : List (κ × V)) (k : κ) : (dropK kvs k).length ≤ kvs.length := List.length_filter_le _ _
end
theorem kV_is {P : Program} {w : World} {k : Key} {u : Value} (r : RelV (kV k) u) : (mixKind P w).is k u = true := by
  cases k with
  | inl i => obtain ⟨t, e⟩ := (show ∃ t, u = Value.int i t from r); subst e; exact mixKind_int P w i t
  | inr x => obtain ⟨t, e⟩ := (show ∃ t, u = Value.str x t from r); subst e; exact mixKind_str P w x t
theorem items_are {P : Program} {w : World} : ∀ {ks : List Key} {us : List Value}, Vals (ks.map kV) us → ItemsAre (mixKind P w) ks us
  | [], _, r => by rw [List.map_nil] at r; cases r; exact .nil
  | k :: ks, _, r => by
    rw [List.map_cons] at r
    cases r with
    | cons h t => exact .cons (kV_is h) (items_are t)
/-- raw entries of a dict with tuple keys -/
abbrev KT (H : Hp) : List (List Key × V) → List (List Key × Addr × Value) → Prop := Paired fun p q => p.1 = q.1 ∧ H q.2.1 = some (.tup (p.1.map kV)) ∧ RelV p.2 q.2.2
theorem KT.val {H : Hp} {kvs : List (List Key × V)} {xs : List (List Key × Addr × Value)} (r : KT H kvs xs) (k : List Key) : RelO (valV kvs k) ((atKey xs k).map (·.2)) := by
  induction r with
  | nil => exact True.intro
  | @cons p q ps qs h t ih =>
    obtain ⟨h1, _, h2⟩ := h
    by_cases e : p.1 = k
    · have e' : q.1 = k := h1.symm.trans e
      have b : atKey (q :: qs) k = some q.2 := by simp [atKey, List.find?_cons, e']
      rw [valV_pos e, b]; exact h2
    · have e' : ¬ q.1 = k := fun z => e (h1.trans z)
      have b : atKey (q :: qs) k = atKey qs k := by simp [atKey, List.find?_cons, e']
      rw [valV_neg e, b]; exact ih
theorem KT.repl {H : Hp} {kvs : List (List Key × V)} {xs : List (List Key × Addr × Value)} (r : KT H kvs xs) (k : List Key) {y : V} {u : Value} (ry : RelV y u) :
    KT H (kvs.map fun kv => if kv.1 = k then (kv.1, y) else kv) (xs.map (putAt k u)) := by
  induction r with
  | nil => exact .nil
  | @cons p q ps qs h t ih =>
    rw [List.map_cons, List.map_cons]
    refine .cons ?_ ih
    obtain ⟨h1, h2, h3⟩ := h
    unfold putAt
    by_cases e : p.1 = k
    · rw [if_pos e, if_pos (h1.symm.trans e)]; exact ⟨h1, h2, ry⟩
    · rw [if_neg e, if_neg (fun z => e (h1.trans z))]; exact ⟨h1, h2, h3⟩
theorem KT.put {H : Hp} {kvs : List (List Key × V)} {xs : List (List Key × Addr × Value)} (r : KT H kvs xs) (k : List Key) {b : Addr} {y : V} {u : Value} (hb : H b = some (.tup (k.map kV))) (ry : RelV y u) :
    KT H (putK kvs k y) (storedH xs k b u) := by
  have e : (kvs.any fun kv => decide (kv.1 = k)) = (atKey xs k).isSome := by
    rw [valV_any, (r.val k).isSome_eq, Option.isSome_map]
  unfold putK storedH
  rw [e]
  by_cases q : (atKey xs k).isSome = true
  · rw [if_pos q, if_pos q]; exact r.repl k ry
  · rw [if_neg q, if_neg q]; exact Paired.snoc r ⟨rfl, hb, ry⟩
theorem KT.keeps {H H' : Hp} {kvs : List (List Key × V)} {xs : List (List Key × Addr × Value)} (r : KT H kvs xs) (ht : ∀ b ys, H b = some (.tup ys) → H' b = some (.tup ys)) : KT H' kvs xs :=
  Paired.mapP r fun _ _ z => ⟨z.1, ht _ _ z.2.1, z.2.2⟩
section
variable {P : Program} {w : World} {H : Hp} {h : Heap} {a : Addr}
theorem rd_of {u : HO} (ok : HOk P w H h) (e : Rd H a u) : ObjOk P w H h a u := e.ok ok
theorem dk_rd {kvs : List (Key × V)} (ok : HOk P w H h) (e : Rd H a (.dK kvs)) : kvs.length ≤ sizeLine ∧ (a == sysModules) = false ∧ ∃ vs, KV kvs vs ∧ h.DictOf (mixKind P w) a vs :=
  show ObjOk P w H h a (.dK kvs) from rd_of ok e
theorem dk_of {kvs : List (Key × V)} (ok : HOk P w H h) (e : H a = some (.dK kvs)) : kvs.length ≤ sizeLine ∧ (a == sysModules) = false ∧ ∃ vs, KV kvs vs ∧ h.DictOf (mixKind P w) a vs := dk_rd ok (.inl e)
/-- a tracked tuple of ints and texts is a key -/
theorem key_of {ks : List Key} (ok : HOk P w H h) (e : H a = some (.tup (ks.map kV))) : (tupleKind (mixKind P w)).is h ks a := by
  obtain ⟨_, its, r, o, h1, h2, n, h3⟩ := (show ObjOk P w H h a (.tup (ks.map kV)) from ok a _ e)
  exact ⟨o, its.toArray, n, h1, h2, h3, by simpa using items_are r⟩
theorem dt_rd {kvs : List (List Key × V)} (ok : HOk P w H h) (e : Rd H a (.dT kvs)) : kvs.length ≤ sizeLine ∧ (a == sysModules) = false ∧
    ∃ xs, KT H kvs xs ∧ h.DictOfH (tupleKind (mixKind P w)) a xs := by
  obtain ⟨z, y, xs, r, o, es, ep, h1, h2, h3, h4, h5⟩ := (show ObjOk P w H h a (.dT kvs) from rd_of ok e)
  refine ⟨z, y, xs, r, o, es, ep, h1, h2, h3, h4, fun x hx => ?_, h5⟩
  have all : ∀ {l : List (List Key × V)} {m : List (List Key × Addr × Value)}, KT H l m → ∀ x ∈ m, (tupleKind (mixKind P w)).is h x.1 x.2.1 := by
    intro l m q
    induction q with
    | nil => intro x hx; exact nomatch hx
    | @cons p q ps qs hq t ih =>
      intro x hx
      rcases List.mem_cons.mp hx with e | hx
      · subst e
        exact key_of ok (by rw [← hq.1]; exact hq.2.1)
      · exact ih x hx
  exact all r x hx
theorem dt_of {kvs : List (List Key × V)} (ok : HOk P w H h) (e : H a = some (.dT kvs)) : kvs.length ≤ sizeLine ∧ (a == sysModules) = false ∧
    ∃ xs, KT H kvs xs ∧ h.DictOfH (tupleKind (mixKind P w)) a xs := dt_rd ok (.inl e)
end
/-- what the dict at a holds at the key y -/
def DGet (H : Hp) (a : Addr) (y : V) (r : Option V) : Prop :=
  (∃ kvs k, Rd H a (.dK kvs) ∧ y = kV k ∧ r = valV kvs k) ∨ ∃ kvs k b, Rd H a (.dT kvs) ∧ y = .ref b ∧ H b = some (.tup (k.map kV)) ∧ r = valV kvs k
/-- the heap behind a[y] = v -/
def DPut (H : Hp) (a : Addr) (y v : V) (H' : Hp) : Prop :=
  (∃ kvs k, H a = some (.dK kvs) ∧ y = kV k ∧ kvs.length < sizeLine ∧ H' = upd H a (.dK (putK kvs k v))) ∨
  ∃ kvs k b, H a = some (.dT kvs) ∧ y = .ref b ∧ H b = some (.tup (k.map kV)) ∧ kvs.length < sizeLine ∧ H' = upd H a (.dT (putK kvs k v))
theorem DGet.k {H : Hp} {a : Addr} {kvs : List (Key × V)} {k : Key} (e : H a = some (.dK kvs)) : DGet H a (kV k) (valV kvs k) := .inl ⟨kvs, k, .inl e, rfl, rfl⟩
theorem DGet.t {H : Hp} {a b : Addr} {kvs : List (List Key × V)} {k : List Key} (e : H a = some (.dT kvs)) (eb : H b = some (.tup (k.map kV))) : DGet H a (.ref b) (valV kvs k) := .inr ⟨kvs, k, b, .inl e, rfl, eb, rfl⟩
theorem DPut.k {H : Hp} {a : Addr} {kvs : List (Key × V)} {k : Key} {v : V} (e : H a = some (.dK kvs)) (hl : kvs.length < sizeLine) : DPut H a (kV k) v (upd H a (.dK (putK kvs k v))) := .inl ⟨kvs, k, e, rfl, hl, rfl⟩
theorem DPut.t {H : Hp} {a b : Addr} {kvs : List (List Key × V)} {k : List Key} {v : V} (e : H a = some (.dT kvs)) (eb : H b = some (.tup (k.map kV))) (hl : kvs.length < sizeLine) :
    DPut H a (.ref b) v (upd H a (.dT (putK kvs k v))) := .inr ⟨kvs, k, b, e, rfl, eb, hl, rfl⟩
section
variable {X : Cx} {pins : List (Addr × Obj)} {σ : St} {H : Hp} {s : Shared} {a : Addr} {y v : V} {u r : Value} {o : Option V} {A : Around} {E : Value → Shared → Prop}
theorem Inv.big (I : Inv X pins σ H s) : sysModules < s.heap.objs.size := by
  have h : mainGlobals < s.heap.objs.size := (I.mod.glob.keeps I.bk).lt
  exact Nat.lt_trans (by decide) h
/-- d[y], there -/
theorem d_getItem {Q : Value → Shared → Prop} (hu : A.units + 1 < cLine) (I : Inv X pins σ H s) (g : DGet H a y (some v)) (ry : RelV y u) (h : ∀ w' s', Inv X pins σ H s' → RelV v w' → Q w' s') :
    wpAny (model X.prog X.w) A (getItem (.ref a) u) Q E s := by
  rcases g with ⟨kvs, k, e, ey, l⟩ | ⟨kvs, k, b, e, ey, eb, l⟩
  · subst ey
    obtain ⟨z, hd, vs, rel, dd⟩ := dk_rd I.hok e
    obtain ⟨w', hw, rw'⟩ := RelO.some_of (v := v) (o := valueAt vs k) (by rw [l]; exact rel.val k)
    exact wpAny_getItem_of (kV_is ry) dd.mapOf hw (h w' _ (I.tok _) rw')
  · subst ey
    cases (show u = Value.ref b from ry)
    obtain ⟨z, hd, xs, rel, dd⟩ := dt_rd I.hok e
    obtain ⟨w', hw, rw'⟩ := RelO.some_of (v := v) (o := (atKey xs k).map (·.2)) (by rw [l]; exact rel.val k)
    obtain ⟨p, hp, hp2⟩ := Option.map_eq_some_iff.mp hw
    refine wpAny_getItem_heap (tupleKind_room_in1 hu) (key_of I.hok eb) dd hp ?_
    rw [hp2]
    exact h w' _ (I.tok _) rw'
/-- y in d -/
theorem d_in {Q : Value → Shared → Prop} (hu : A.units + 1 < cLine) (I : Inv X pins σ H s) (g : DGet H a y o) (ry : RelV y u) (h : ∀ s', Inv X pins σ H s' → Q (.bool o.isSome) s') :
    wpAny (model X.prog X.w) A (compareOp .In u (.ref a)) Q E s := by
  rcases g with ⟨kvs, k, e, ey, l⟩ | ⟨kvs, k, b, e, ey, eb, l⟩
  · subst ey
    obtain ⟨z, hd, vs, rel, dd⟩ := dk_rd I.hok e
    refine wpAny_in_of (kV_is ry) hd dd.mapOf ?_
    rw [← (rel.val k).isSome_eq, ← l]
    exact h _ (I.tok _)
  · subst ey
    cases (show u = Value.ref b from ry)
    obtain ⟨z, hd, xs, rel, dd⟩ := dt_rd I.hok e
    refine wpAny_in_heap (tupleKind_room_in1 hu) (key_of I.hok eb) hd dd ?_
    have q := (rel.val k).isSome_eq
    rw [Option.isSome_map] at q
    rw [← q, ← l]
    exact h _ (I.tok _)
theorem d_notIn {Q : Value → Shared → Prop} (hu : A.units + 1 < cLine) (I : Inv X pins σ H s) (g : DGet H a y o) (ry : RelV y u) (h : ∀ s', Inv X pins σ H s' → Q (.bool (!o.isSome)) s') :
    wpAny (model X.prog X.w) A (compareOp .NotIn u (.ref a)) Q E s := by
  rcases g with ⟨kvs, k, e, ey, l⟩ | ⟨kvs, k, b, e, ey, eb, l⟩
  · subst ey
    obtain ⟨z, hd, vs, rel, dd⟩ := dk_rd I.hok e
    refine wpAny_notIn_of (kV_is ry) hd dd.mapOf ?_
    rw [← (rel.val k).isSome_eq, ← l]
    exact h _ (I.tok _)
  · subst ey
    cases (show u = Value.ref b from ry)
    obtain ⟨z, hd, xs, rel, dd⟩ := dt_rd I.hok e
    refine wpAny_notIn_heap (tupleKind_room_in1 hu) (key_of I.hok eb) hd dd ?_
    have q := (rel.val k).isSome_eq
    rw [Option.isSome_map] at q
    rw [← q, ← l]
    exact h _ (I.tok _)
/-- a dict's object is replaced -/
theorem d_write {h' : Heap} {t' : Nat} {ob : HO} (I : Inv X pins σ H s) (mu : Mut (H a)) (hs : Heap.SameBut a s.heap h') (he : ∃ q, h'.get? a = some q) (new : ObjOk X.prog X.w (upd H a ob) h' a ob) :
    Inv X pins σ (upd H a ob) { s with heap := h', toks := t' } :=
  I.write (x := a) (e := a) mu (.inl rfl) (fun b q hb z => (hs.2 b hb).trans z) he new
theorem dk_new {P : Program} {w : World} {H' : Hp} {h' : Heap} {kvs : List (Key × V)} {vs : List (Key × Value)} (z : kvs.length ≤ sizeLine) (hd : (a == sysModules) = false) (rel : KV kvs vs) (dd : h'.DictOf (mixKind P w) a vs) :
    ObjOk P w H' h' a (.dK kvs) := ⟨z, hd, vs, rel, dd⟩
/-- d[y] = v -/
theorem d_setItem {H' : Hp} {Q : Unit → Shared → Prop} (hu : A.units + 1 < cLine) (I : Inv X pins σ H s) (g : DPut H a y v H') (ry : RelV y u) (rv : RelV v r) (h : ∀ s', Inv X pins σ H' s' → Q () s') :
    wpAny (model X.prog X.w) A (setItem (.ref a) u r) Q E s := by
  rcases g with ⟨kvs, k, e, ey, l, eH⟩ | ⟨kvs, k, b, e, ey, eb, l, eH⟩
  · subst ey eH
    obtain ⟨z, hd, vs, rel, dd⟩ := dk_of I.hok e
    have hz : vs.length ≤ sizeLine := by rw [← rel.length]; exact z
    have hl : (putK kvs k v).length ≤ sizeLine := by have := length_putK kvs k v; omega
    refine wpAny_setItem_pairs (hsz := hz) (kV_is ry) dd fun h' dd' hs => h _ ?_
    have he : ∃ q, h'.get? a = some q := let ⟨q, _, _, hq, _⟩ := dd'; ⟨q, hq⟩
    exact d_write I (by rw [e]; exact True.intro) hs he (dk_new hl hd (rel.put k rv) dd')
  · subst ey eH
    cases (show u = Value.ref b from ry)
    obtain ⟨z, hd, xs, rel, dd⟩ := dt_of I.hok e
    have hz : xs.length ≤ sizeLine := by rw [← Paired.length rel]; exact z
    have hl : (putK kvs k v).length ≤ sizeLine := by have := length_putK kvs k v; omega
    refine wpAny_setItem_heap (hsz := hz) (tupleKind_room_in1 hu) (key_of I.hok eb) dd fun h' dd' hs => h _ ?_
    obtain ⟨q, es, ep, hq, h2, h3, h4, _, h5⟩ := dd'
    refine d_write I (by rw [e]; exact True.intro) hs ⟨q, hq⟩ ⟨hl, hd, _, (rel.put k eb rv).keeps fun c ys ec => ?_, q, es, ep, hq, h2, h3, h4, h5⟩
    rw [upd_ne (ne_of ec e (fun z => nomatch z))]
    exact ec
end
/-- the element of a subscription, not a slice -/
def NoSl (i : Expr) : Prop := ∀ ov iv, subscripted i false ov iv = operate [ov, iv] (getItem ov iv)
theorem subD_of {prog : Program} {w : World} {A : Around} {E : Value → Shared → Prop} {s : Shared} {env : Env} {value slice : Expr} {pos : Pos} {T id : String} {Q : Value → Shared → Prop}
    (hl : typeLookup (.type T) "__getitem__" = pure (some (.builtin id))) (hs : NoSl slice)
    (h : wpAny (model prog w) A (eval value env) (fun o s₁ => wpAny (model prog w) A (eval slice env) (fun i s₂ => s₂.TypeIs o T ∧ wpAny (model prog w) A (getItem o i) Q E s₂) E s₁) E s) :
    wpAny (model prog w) A (eval (.Subscript value slice pos) env) Q E s := by
  refine Subscript_ (wpAny_mono h (fun o s₁ h₁ => wpAny_mono h₁ (fun i s₂ h₂ => ?_) fun _ _ x => x) fun _ _ x => x)
  obtain ⟨hT, h₂⟩ := h₂
  unfold subscriptTail
  refine wpAny_bind ?_
  rw [getitemInPython_of_ne hT.not_modules]
  refine wpAny_bind (wpAny_specialOf hT hl ?_)
  have fin : wpAny (model prog w) A (subscripted slice false o i) (fun r s₃ => wpAny (model prog w) A (letTemporaryGo value o r >>= fun _ => pure r) Q E s₃) E s₂ := by
    rw [hs o i]
    exact wpAny_operating (wpAny_mono h₂ (fun r s₃ h₃ => wpAny_bind (wpAny_letTemporaryGo (wpAny_pure h₃))) fun _ _ x => x)
  first
    | exact wpAny_pure (wpAny_bind fin)
    | exact wpAny_bind (wpAny_pure (wpAny_bind fin))
    | exact wpAny_bind fin
theorem dict_typeIs {X : Cx} {pins : List (Addr × Obj)} {σ : St} {H : Hp} {s : Shared} {a : Addr} {y : V} {o : Option V} (I : Inv X pins σ H s) (g : DGet H a y o) : s.TypeIs (.ref a) "dict" := by
  rcases g with ⟨kvs, k, e, _, _⟩ | ⟨kvs, k, b, e, _, _, _⟩
  · obtain ⟨_, _, vs, _, dd⟩ := dk_rd I.hok e
    exact dd.typeIs
  · obtain ⟨_, _, xs, _, dd⟩ := dt_rd I.hok e
    exact dd.typeIs
/-- d[y] -/
def tDGet (td ty : TE) : TE := fun σ H Q => td σ H fun x H1 => ty σ H1 fun y H2 => ∃ a v, x = .ref a ∧ DGet H2 a y (some v) ∧ Q v H2
/-- y in d, y not in d -/
def tDIn (ty td : TE) : TE := fun σ H Q => ty σ H fun y H1 => td σ H1 fun x H2 => ∃ a o, x = .ref a ∧ DGet H2 a y o ∧ Q (.bl o.isSome) H2
def tDNotIn (ty td : TE) : TE := fun σ H Q => ty σ H fun y H1 => td σ H1 fun x H2 => ∃ a o, x = .ref a ∧ DGet H2 a y o ∧ Q (.bl (!o.isSome)) H2
/-- d[y] = v -/
def sDPut (td ty tv : TE) : TS := fun D σ H => tv σ H fun v H1 => td σ H1 fun x H2 => ty σ H2 fun y H3 => ∃ a H4, x = .ref a ∧ DPut H3 a y v H4 ∧ D.nx σ H4
section
variable {X : Cx} {o i e value : Expr} {pos pos' tpos : Pos} {td ty tv : TE}
theorem pe_dget (hu : X.A.units + 1 < cLine) (ho : PE X o td) (hi : PE X i ty) (hs : NoSl i) : PE X (.Subscript o i pos) (tDGet td ty) := by
  intro pins s σ H Q I h
  refine subD_of PySem.F.slot_dict_getitem.lookup hs (thn (ho pins s σ H _ I h) fun u s1 ⟨x, H1, I1, rx, q1⟩ => thn (hi pins s1 σ H1 _ I1 q1) fun iv s2 ⟨y, H2, I2, ry, a, v, ex, g, q2⟩ => ?_)
  subst ex
  obtain rfl : u = Value.ref a := rx
  exact ⟨dict_typeIs I2 g, d_getItem hu I2 g ry fun w' s3 I3 rw' => ⟨v, H2, I3, rw', q2⟩⟩
theorem pc_din (hu : X.A.units + 1 < cLine) (hi : PE X i ty) (ho : PE X o td) : PC X .In i o (tDIn ty td) := by
  intro pins s σ H Q I h
  refine thn (hi pins s σ H _ I h) fun iv s1 ⟨y, H1, I1, ry, q1⟩ => thn (ho pins s1 σ H1 _ I1 q1) fun u s2 ⟨x, H2, I2, rx, a, ov, ex, g, q2⟩ => ?_
  subst ex
  obtain rfl : u = Value.ref a := rx
  exact d_in hu I2 g ry fun s3 I3 => ⟨.bl ov.isSome, H2, I3, rfl, q2⟩
theorem pc_dnotin (hu : X.A.units + 1 < cLine) (hi : PE X i ty) (ho : PE X o td) : PC X .NotIn i o (tDNotIn ty td) := by
  intro pins s σ H Q I h
  refine thn (hi pins s σ H _ I h) fun iv s1 ⟨y, H1, I1, ry, q1⟩ => thn (ho pins s1 σ H1 _ I1 q1) fun u s2 ⟨x, H2, I2, rx, a, ov, ex, g, q2⟩ => ?_
  subst ex
  obtain rfl : u = Value.ref a := rx
  exact d_notIn hu I2 g ry fun s3 I3 => ⟨.bl (!ov.isSome), H2, I3, rfl, q2⟩
theorem ps_dput (hu : X.A.units + 1 < cLine) (ho : PE X o td) (hi : PE X i ty) (hv : PE X value tv) (hs : swapsWith value (some (.Subscript o i pos')) pos.line X.env = pure false) :
    PS X (.Assign [.Subscript o i pos'] value pos) (sDPut td ty tv) := by
  intro pins s σ H D I h
  refine wpAny_Assign_Subscript (thn (hv pins s σ H _ I h) fun r s1 ⟨v, H1, I1, rv, q1⟩ => thn (ho pins s1 σ H1 _ I1 q1) fun u s2 ⟨x, H2, I2, rx, q2⟩ => thn (hi pins s2 σ H2 _ I2 q2) fun iv s3 ⟨y, H3, I3, ry, a, H4, ex, g, q3⟩ => ?_) hs
  subst ex
  obtain rfl : u = Value.ref a := rx
  exact d_setItem hu I3 g ry rv fun s4 I4 => ⟨σ, H4, I4, q3⟩
end
theorem dk_empty {P : Program} {w : World} {H : Hp} (h : Heap) (hb : sysModules < h.objs.size) : ObjOk P w H (h.push { cls := .type "dict", data := .dict #[] }) h.objs.size (.dK []) :=
  ⟨Nat.zero_le _, beq_eq_false_iff_ne.mpr (Ne.symm (Nat.ne_of_lt hb)), [], .nil, Heap.DictOf.new h⟩
theorem dt_empty {P : Program} {w : World} {H : Hp} (h : Heap) (hb : sysModules < h.objs.size) : ObjOk P w H (h.push { cls := .type "dict", data := .dict #[] }) h.objs.size (.dT []) :=
  ⟨Nat.zero_le _, beq_eq_false_iff_ne.mpr (Ne.symm (Nat.ne_of_lt hb)), [], .nil, _, #[], 0, Heap.get?_push_size _ rfl, ⟨rfl, rfl, rfl⟩, rfl, rfl, List.nodup_nil⟩
/-- {}, to be a dict of the kind that is wanted -/
def tDNewK : TE := fun _ H Q => ∀ p, H p = none → Q (.ref p) (upd H p (.dK []))
def tDNewT : TE := fun _ H Q => ∀ p, H p = none → Q (.ref p) (upd H p (.dT []))
section
variable {X : Cx} {pos : Pos}
theorem pe_dnewK : PE X (.Dict [] [] pos) tDNewK := fun pins s σ H Q I h =>
  wpAny_Dict_empty ⟨.ref s.heap.objs.size, _, I.laid (a := s.heap.objs.size) (o := .dK []) (t' := s.toks) (fun _ _ q => Heap.get?_push_of_some _ q) (Nat.le_refl _) (dk_empty s.heap I.big), rfl, h _ (I.hok.fresh (Nat.le_refl _))⟩
theorem pe_dnewT : PE X (.Dict [] [] pos) tDNewT := fun pins s σ H Q I h =>
  wpAny_Dict_empty ⟨.ref s.heap.objs.size, _, I.laid (a := s.heap.objs.size) (o := .dT []) (t' := s.toks) (fun _ _ q => Heap.get?_push_of_some _ q) (Nat.le_refl _) (dt_empty s.heap I.big), rfl, h _ (I.hok.fresh (Nat.le_refl _))⟩
end
end L2
namespace L2
open PySem PySem.Spec PyProof.Rows
end L2
namespace L2
open PySem PySem.Spec PyProof.Rows
section
variable {X : Cx} {pins : List (Addr × Obj)} {σ : St} {H : Hp} {s : Shared} {h' : Heap}
theorem Inv.lock {d : Addr} {u : HO} (I : Inv X pins σ H s) (h : H d = some u) (mu : Mut (some u)) : ∃ od, Inv X pins σ (upd H d (.frz od u)) s := by
  have x := I.hok d u h
  have ex : ∃ od, s.heap.get? d = some od := by
    cases u with
    | lst xs => obtain ⟨_, _, _, _, e⟩ := x; exact ⟨_, e⟩
    | dK kvs => obtain ⟨_, _, _, _, o, _, _, e, _⟩ := x; exact ⟨o, e⟩
    | dT kvs => obtain ⟨_, _, _, _, o, _, _, e, _⟩ := x; exact ⟨o, e⟩
    | set S n => obtain ⟨o, _, _, _, e, _⟩ := x; exact ⟨o, e⟩
    | ins C dx fs => obtain ⟨_, _, _, e, _⟩ := x; exact ⟨_, e⟩
    | ext φ => obtain ⟨_, ⟨_, e⟩, _⟩ := x; exact ⟨_, e⟩
    | _ => exact False.elim mu
  obtain ⟨od, e⟩ := ex
  have new : ObjOk X.prog X.w (upd H d (.frz od u)) s.heap d (.frz od u) := by
    refine ⟨e, x.stay (fun b v _ q => q) (fun b q => ?_) fun b xs q => ?_⟩
    · rw [upd_ne (fun z => by rw [z, h] at q; cases q; exact mu)]; exact q
    · rw [upd_ne (fun z => by rw [z, h] at q; cases q; exact mu)]; exact q
  exact ⟨od, I.write (x := d) (e := d) (t' := s.toks) (h' := s.heap) (by rw [h]; exact mu) (.inl rfl) (fun b v _ q => q) ⟨od, e⟩ new⟩
theorem Inv.nofrz {d : Addr} {u : HO} (I : Inv X pins σ H s) (h : H d = some u) (mu : Mut (some u)) : ∀ o' u', X.H_0 d ≠ some (.frz o' u') := fun o' u' e => by
  have q := I.base.frzs d o' u' e
  rw [h] at q
  cases q
  exact mu
theorem Inv.unlock {d : Addr} {od : Obj} {u : HO} (I : Inv X pins σ H s) (h : H d = some (.frz od u)) (hn : ∀ o' u', X.H_0 d ≠ some (.frz o' u')) : Inv X pins σ (upd H d u) s := by
  have neH : ∀ b o, H b = some o → (∀ o' u', o ≠ .frz o' u') → b ≠ d := fun b o e hne z => by
    rw [z, h] at e
    cases e
    exact hne _ _ rfl
  have neN : ∀ b, H b = none → b ≠ d := fun b e z => by rw [z, h] at e; cases e
  refine ⟨I.ok, I.os, I.bare, ⟨I.base.keep, I.base.slot, fun b o e n hx => ?_, I.base.there, fun b xs e => ?_, fun b o x e => ?_, fun b ps e => ?_⟩, I.loc, I.cell, ?_, fun x c e => ?_, fun p hp => ?_, fun b o e => ?_, I.len⟩
  · rw [upd_ne (neN b (I.base.free b o e n hx))]; exact I.base.free b o e n hx
  · have q := I.base.tups b xs e
    rw [upd_ne (neH b _ q (fun _ _ z => nomatch z))]; exact q
  · have q := I.base.frzs b o x e
    rw [upd_ne (fun z => by rw [z] at e; exact hn _ _ e)]; exact q
  · obtain ⟨m, q⟩ := I.base.tbls b ps e
    exact ⟨m, by rw [upd_ne (neH b _ q (fun _ _ z => nomatch z))]; exact q⟩
  · rw [upd_ne (neN _ I.free)]; exact I.free
  · rw [upd_ne (neN c (I.freeC x c e))]; exact I.freeC x c e
  · obtain ⟨e, n, r⟩ := I.pin p hp
    exact ⟨e, by rw [upd_ne (neN _ n)]; exact n, r⟩
  · by_cases hb : b = d
    · rw [hb, upd_same] at e
      cases e
      rw [hb]
      obtain ⟨_, x⟩ := I.hok d _ h
      exact x.stay (fun c v _ q => q) (fun c q => by rw [upd_ne (neH c _ q (fun _ _ z => nomatch z))]; exact q) fun c xs q => by rw [upd_ne (neH c _ q (fun _ _ z => nomatch z))]; exact q
    · rw [upd_ne hb] at e
      exact (I.hok b o e).stay (fun c v _ q => q) (fun c q => by rw [upd_ne (neH c _ q (fun _ _ z => nomatch z))]; exact q) fun c xs q => by rw [upd_ne (neH c _ q (fun _ _ z => nomatch z))]; exact q
end
end L2
section 
namespace Bits
open PySem PyProof.Rows
end Bits
end 
section 
namespace TL
open PySem PySem.Builtin PySem.Builtin.Str PySem.StrLaws
end TL
end 
namespace L2
open PySem PySem.Spec PyProof.Rows
end L2
namespace L2
open PySem PySem.Spec PyProof.Rows
end L2
namespace Att
open PySem PySem.W PySem.Calls PyProof.Rows
end Att
namespace L2
open PySem PySem.Spec PyProof.Rows
end L2
namespace L2
open PySem PySem.Spec PyProof.Rows
end L2
namespace L2
open PySem PySem.Spec PyProof.Rows
def defArgs (s : Stmt) : Arguments := match s with
  | .FunctionDef _ a _ _ _ _ _ _ _ _ => a
  | _ => { posonlyargs := [], args := [], vararg := none, kwonlyargs := [], kw_defaults := [], kwarg := none, defaults := [] }
def defBody (s : Stmt) : List Stmt := match s with
  | .FunctionDef _ _ b _ _ _ _ _ _ _ => b
  | _ => []
def defScope (s : Stmt) : Scope := match s with
  | .FunctionDef _ _ _ _ _ _ sc _ _ _ => sc
  | _ => { kind := .function, names := [], isGenerator := false, isCoroutine := false }
abbrev CX0 : CXT := fun _ _ _ _ _ _ => False
abbrev E0 : XK := fun _ _ _ => False
theorem pass0 {X : Cx} : Passes CX0 X E0 := fun _ _ _ _ _ _ _ h => h.elim
structure Fun (K : PySem.W.Frag) (x qual : Str) (st : Stmt) (f : Addr) (fd : FuncData) : Prop where
  ex : ∃ (oc : Value) (od : Option Addr) (kV doc pm : Value) (an : Option Addr) (cdv ct : Value) (osl : Array (Option Value)),
    fd = PySem.W.fnOf x qual (defArgs st) (defBody st) (defScope st) .none kV doc pm an cdv ct ∧ K.lookup f = some ⟨oc, od, .func fd, osl⟩ ∧ PySem.W.codeIn K cdv qual = true
  kp : PySem.W.keepIn K (.ref f) = true
section
variable {P : Program} {w : World} {K : PySem.W.Frag} {mg : Str → Option Value} {base : Heap}
/-- THE RULE for a def: its body as a term of rules, and the reading of that term -/
theorem Fun.ok {x qual : Str} {st : Stmt} {f : Addr} {fd : FuncData} {N ps : List Str} {k : Nat} {sp : Sp} (F : Fun K x qual st f fd) (S : FnScope N ps (defScope st)) (len : ∀ vs H Q E, sp vs H Q E → vs.length = ps.length)
    (hbody : ∀ (cdv : Value) (A : Around) (outer : List Env) (s : Shared) (H : Hp) (vs : List V) (Q : VK) (E : XK), Room k (A.deeper (envOfC qual (defScope st) s.heap.objs.size f cdv)) → sp vs H Q E →
      ∃ t, PSs (cxOf CX0 P w K mg base N qual (defScope st) f cdv A outer s H E).nox (defBody st) t ∧ t { nx := fun _ H' => Q .non H', rt := Q } (start N vs) H) : FnOk P w K mg base CX0 (k + 1) f fd ps sp := by
  obtain ⟨oc, od, kV, doc, pm, an, cdv, ct, osl, rfl, lk, hcd⟩ := F.ex
  refine fn_of lk hcd S len fun A outer s H vs Q E hr hsp => ?_
  obtain ⟨t, h, q⟩ := hbody cdv A outer s H vs Q E hr hsp
  exact ⟨t, h.nox, q⟩
/-- how its arguments bind (no defaults): h is «fun _ _ _ _ _ _ us hl => match us, hl with | [_, _], _ => rfl», one _ a parameter -/
theorem Fun.binds {x qual : Str} {st : Stmt} {f : Addr} {fd : FuncData} {ps : List Str} (F : Fun K x qual st f fd)
    (h : ∀ (kV doc pm : Value) (an : Option Addr) (cdv ct : Value) (us : List Value), us.length = ps.length → bindArgs (PySem.W.fnOf x qual (defArgs st) (defBody st) (defScope st) .none kV doc pm an cdv ct) ⟨us, []⟩ = pure (ps.zip us)) : Binds K fd ps [] := by
  obtain ⟨oc, od, kV, doc, pm, an, cdv, ct, osl, rfl, lk, hcd⟩ := F.ex
  exact .all (h kV doc pm an cdv ct)
theorem fun_mk {x qual : Str} {st : Stmt} {f : Addr} {oc : Value} {od an : Option Addr} {osl : Array (Option Value)} {kV doc pm cdv ct : Value} (l : K.lookup f = some ⟨oc, od, .func (PySem.W.fnOf x qual (defArgs st) (defBody st) (defScope st) .none kV doc pm an cdv ct), osl⟩)
    (c : PySem.W.codeIn K cdv qual = true) (k : PySem.W.keepIn K (.ref f) = true) : Fun K x qual st f (PySem.W.fnOf x qual (defArgs st) (defBody st) (defScope st) .none kV doc pm an cdv ct) := ⟨⟨oc, od, kV, doc, pm, an, cdv, ct, osl, rfl, l, c⟩, k⟩
end
section
variable {X : Cx}
theorem pv (i : Nat) {x : Str} {pos : Pos} (hN : X.N[i]? = some x := by rfl) (hv : Vis X.env.scope x := by first | exact Or.inl rfl | exact Or.inr (Or.inl rfl) | exact Or.inr (Or.inr rfl)) (hd : (x == ("__debug__" : Str)) = false := by decide)
    (hcd : (x == ("__classdict__" : Str)) = false := by decide) : PE X (.Name x pos) (tVar i) := pe_var hN hv hd hcd
end
theorem ite2 {c A B : Prop} [Decidable c] (h1 : c → A) (h2 : ¬ c → B) : if c then A else B := by
  by_cases h : c
  · rw [if_pos h]
    exact h1 h
  · rw [if_neg h]
    exact h2 h
/-- all that was tracked is as it was -/
def Same (H H' : Hp) : Prop := ∀ b o, H b = some o → H' b = some o
theorem Same.refl (H : Hp) : Same H H := fun _ _ h => h
theorem Same.trans {H H1 H2 : Hp} (a : Same H H1) (b : Same H1 H2) : Same H H2 := fun c o h => b c o (a c o h)
theorem Same.free {H H' : Hp} (e : Same H H') {l : Addr} (h : H' l = Option.none) : H l = Option.none := by
  cases q : H l with
  | none => rfl
  | some o =>
    rw [e l o q] at h
    cases h
theorem Same.seq {K : PySem.W.Frag} {H H' : Hp} {a : Addr} {xs : List V} (e : Same H H') (h : SqL K H a xs) : SqL K H' a xs := by
  rcases h with (h | ⟨o, h⟩) | h
  · exact .inl (.inl (e _ _ h))
  · exact .inl (.inr ⟨o, e _ _ h⟩)
  · exact .inr h
theorem nd_ix {α : Type} {l : List α} (hN : l.Nodup) {i j : Nat} {x : α} (a : l[i]? = some x) (b : l[j]? = some x) : i = j := by
  obtain ⟨h1, e1⟩ := List.getElem?_eq_some_iff.mp a
  obtain ⟨h2, e2⟩ := List.getElem?_eq_some_iff.mp b
  exact (List.getElem_inj hN).mp (e1.trans e2.symm)
end L2
end
section
set_option Elab.async false
set_option linter.all false
set_option maxRecDepth 100000
set_option maxHeartbeats 2000000
namespace L2
open PySem PySem.Spec PyProof.Rows
open PySem.W (WData Codec OpenSpec Well WellAll ReadsW ReadsAllW)
mutual
/-- x stands for the datum d, lists and tuples all the way -/
inductive Dw (K : PySem.W.Frag) (H : Hp) : V → WData → Prop
  | non : Dw K H .non .none
  | bl (b : Bool) : Dw K H (.bl b) (.bool b)
  | int (i : Int) : Dw K H (.int i) (.int i)
  | str (x : Str) : Dw K H (.str x) (.str x)
  | byt (b : Array UInt8) : Dw K H (.byt b) (.bytes b.toList)
  | lst {a : Addr} {xs : List V} {ds : List WData} : SqL K H a xs → DwAll K H xs ds → Dw K H (.ref a) (.list ds)
  | tup {a : Addr} {xs : List V} {ds : List WData} : SqT K H a xs → DwAll K H xs ds → Dw K H (.ref a) (.tuple ds)
inductive DwAll (K : PySem.W.Frag) (H : Hp) : List V → List WData → Prop
  | nil : DwAll K H [] []
  | cons {v : V} {vs : List V} {d : WData} {ds : List WData} : Dw K H v d → DwAll K H vs ds → DwAll K H (v :: vs) (d :: ds)
end
theorem dw_ints {K : PySem.W.Frag} {H : Hp} : ∀ ns : List Int, DwAll K H (ns.map V.int) (ns.map WData.int)
  | [] => .nil
  | n :: r => .cons (.int n) (dw_ints r)
theorem ints_dw {K : PySem.W.Frag} {H : Hp} : ∀ (ns : List Int) (xs : List V), DwAll K H xs (ns.map WData.int) → xs = ns.map V.int
  | [], xs, h => by
    cases h
    rfl
  | n :: r, xs, h => by
    cases h with
    | cons h1 h2 =>
      cases h1
      rw [ints_dw r _ h2] <;> rfl
section
variable {P : Program} {w : World} {K : PySem.W.Frag} {H : Hp} {h : Heap} {R : PySem.W.WRecords} {cl : Str → Option Addr}
theorem sqL_at {a : Addr} {xs : List V} (hok : HOk P w H h) (KX : K.In h) (q : SqL K H a xs) : ∃ (its : List Value) (o : Obj) (n : Nat), Vals xs its ∧ h.get? a = some o ∧ o.cls = .type "list" ∧ o.data = .seq its.toArray n := by
  rcases q with q | ⟨o, its, n, e, hc, _, hd, _, hv⟩
  · obtain ⟨_, its, n, hv, e⟩ := (show ObjOk P w H h a (.lst xs) from q.ok hok)
    exact ⟨its, _, n, hv, e, rfl, rfl⟩
  · exact ⟨its.toList, o, n, hv, KX _ _ e, hc, by simp [hd]⟩
theorem sqT_at {a : Addr} {xs : List V} (hok : HOk P w H h) (KX : K.In h) (q : SqT K H a xs) : ∃ (its : List Value) (o : Obj) (n : Nat), Vals xs its ∧ h.get? a = some o ∧ o.cls = .type "tuple" ∧ o.data = .seq its.toArray n := by
  rcases q with q | ⟨o, its, n, e, hc, hd, _, hv⟩
  · obtain ⟨_, its, hv, o, e, hc, n, hd⟩ := (show ObjOk P w H h a (.tup xs) from q.ok hok)
    exact ⟨its, o, n, hv, e, hc, hd⟩
  · exact ⟨its.toList, o, n, hv, KX _ _ e, hc, by simp [hd]⟩
mutual
theorem Dw.reads (hok : HOk P w H h) (KX : K.In h) : ∀ (d : WData) (v : V) (u : Value), Dw K H v d → RelV v u → ∃ as, ReadsW R cl h u d as
  | .none, _, _, x, r => by
    cases x
    cases r
    exact ⟨_, ReadsW.none⟩
  | .bool b, _, _, x, r => by
    cases x
    cases r
    exact ⟨_, ReadsW.bool b⟩
  | .int i, _, _, x, r => by
    cases x
    obtain ⟨t, rfl⟩ := r
    exact ⟨_, ReadsW.int i t⟩
  | .str s, _, _, x, r => by
    cases x
    obtain ⟨t, rfl⟩ := r
    exact ⟨_, ReadsW.str s t⟩
  | .bytes b, _, _, x, r => by
    cases x
    obtain ⟨t, rfl⟩ := r
    exact ⟨_, ReadsW.bytes _ t⟩
  | .list ds, _, _, x, r => by
    cases x with
    | lst hs ha =>
      cases r
      obtain ⟨its, o, n, rv, ho, hc, hd⟩ := sqL_at hok KX hs
      obtain ⟨as, hr⟩ := Dw.readsAll hok KX ds _ its ha rv
      exact ⟨_, ReadsW.list ho hc hd hr⟩
  | .tuple ds, _, _, x, r => by
    cases x with
    | tup hs ha =>
      cases r
      obtain ⟨its, o, n, rv, ho, hc, hd⟩ := sqT_at hok KX hs
      obtain ⟨as, hr⟩ := Dw.readsAll hok KX ds _ its ha rv
      exact ⟨_, ReadsW.tuple ho hc hd hr⟩
  | .float _, _, _, x, _ => by cases x
  | .dict _, _, _, x, _ => by cases x
  | .bytearray _, _, _, x, _ => by cases x
  | .set _, _, _, x, _ => by cases x
  | .frozenset _, _, _, x, _ => by cases x
  | .obj _ _, _, _, x, _ => by cases x
theorem Dw.readsAll (hok : HOk P w H h) (KX : K.In h) : ∀ (ds : List WData) (vs : List V) (us : List Value), DwAll K H vs ds → Vals vs us → ∃ as, ReadsAllW R cl h us ds as
  | [], _, _, x, r => by
    cases x
    cases r
    exact ⟨_, ReadsAllW.nil⟩
  | d :: ds, _, _, x, r => by
    cases x with
    | cons h1 h2 =>
      cases r with
      | cons r1 r2 =>
        obtain ⟨as, q1⟩ := Dw.reads hok KX d _ _ h1 r1
        obtain ⟨bs, q2⟩ := Dw.readsAll hok KX ds _ _ h2 r2
        exact ⟨_, ReadsAllW.cons q1 q2⟩
end
end
mutual
/-- data that a codec tells -/
def plW : WData → Bool
  | .none => true
  | .bool _ => true
  | .int _ => true
  | .str _ => true
  | .bytes _ => true
  | .list xs => plWs xs
  | .tuple xs => plWs xs
  | _ => false
def plWs : List WData → Bool
  | [] => true
  | x :: r => plW x && plWs r
end
theorem plWs_map {α : Type} {f : α → WData} (h : ∀ a, plW (f a) = true) : ∀ l : List α, plWs (l.map f) = true
  | [] => rfl
  | x :: r => by
    show (plW (f x) && plWs (r.map f)) = true
    rw [h x, plWs_map h r] <;> rfl
theorem pl_enc : ∀ (c : Codec) (a : c.denote), plW (c.enc a) = true
  | .unit, _ => rfl
  | .bool, _ => rfl
  | .int _ _, _ => rfl
  | .nat _ _, _ => rfl
  | .u8, _ => rfl
  | .bytes _ _, _ => rfl
  | .text _ _ _ _, _ => rfl
  | .list _ _ c, a => plWs_map (fun x => pl_enc c x) a
  | .pair c d, a => by
    show (plW (c.enc a.1) && (plW (d.enc a.2) && true)) = true
    rw [pl_enc c a.1, pl_enc d a.2] <;> rfl
  | .triple c d e, a => by
    show (plW (c.enc a.1) && (plW (d.enc a.2.1) && (plW (e.enc a.2.2) && true))) = true
    rw [pl_enc c a.1, pl_enc d a.2.1, pl_enc e a.2.2] <;> rfl
  | .option c, none => rfl
  | .option c, some x => pl_enc c x
theorem pl_encAll : ∀ (cs : List Codec) (a : Codec.denoteAll cs), plWs (Codec.encAll cs a) = true
  | [], _ => rfl
  | c :: cs, a => by
    show (plW (c.enc a.1) && plWs (Codec.encAll cs a.2)) = true
    rw [pl_enc c a.1, pl_encAll cs a.2] <;> rfl
theorem weight_mem : ∀ {xs : List WData} {d : WData}, d ∈ xs → d.weight ≤ WData.weightAll xs
  | [], d, h => absurd h (by simp)
  | x :: r, d, h => by
    show d.weight ≤ x.weight + 1 + WData.weightAll r
    rcases List.mem_cons.mp h with e | m
    · rw [e]
      omega
    · have z := weight_mem m
      omega
def toV : Value → V
  | .none => .non
  | .bool b => .bl b
  | .int i _ => .int i
  | .str x _ => .str x
  | .bytes b _ => .byt b
  | .ref a => .ref a
  | _ => .non
/-- a value of the arguments, its objects among A -/
def OkU (A : List Addr) : Value → Prop
  | .none => True
  | .bool _ => True
  | .int _ _ => True
  | .str _ _ => True
  | .bytes _ _ => True
  | .ref a => a ∈ A
  | _ => False
theorem OkU.mono {A B : List Addr} (h : ∀ a ∈ A, a ∈ B) : ∀ {u : Value}, OkU A u → OkU B u := fun {u} x => by
  cases u with
  | ref a => exact h a x
  | none => trivial
  | bool b => trivial
  | int i t => trivial
  | str s t => trivial
  | bytes b t => trivial
  | _ => exact False.elim x
theorem relV_toV {A : List Addr} {u : Value} (x : OkU A u) : RelV (toV u) u := by
  cases u with
  | ref a => rfl
  | none => rfl
  | bool b => rfl
  | int i t => exact ⟨t, rfl⟩
  | str s t => exact ⟨t, rfl⟩
  | bytes b t => exact ⟨t, rfl⟩
  | _ => exact False.elim x
theorem vals_toV {A : List Addr} : ∀ {vs : List Value}, (∀ u ∈ vs, OkU A u) → Vals (vs.map toV) vs
  | [], _ => .nil
  | u :: r, h => .cons (relV_toV (h u (List.mem_cons_self ..))) (vals_toV fun x hx => h x (List.mem_cons_of_mem _ hx))
/-- an object of the arguments -/
def ArgOb (h : Heap) (A : List Addr) (a : Addr) : Prop := ∃ vs : List Value, vs.length ≤ sizeLine ∧ (∀ u ∈ vs, OkU A u) ∧
  (h.get? a = some { cls := .type "list", data := .seq vs.toArray } ∨ h.get? a = some { cls := .type "tuple", data := .seq vs.toArray })
theorem ArgOb.mono {h : Heap} {A B : List Addr} {a : Addr} (k : ∀ a ∈ A, a ∈ B) (x : ArgOb h A a) : ArgOb h B a := by
  obtain ⟨vs, h1, h2, h3⟩ := x
  exact ⟨vs, h1, fun u hu => (h2 u hu).mono k, h3⟩
theorem wellAll_len {P : Params} {h : Heap} : ∀ {vs : List Value} {ds : List WData}, WellAll P h vs ds → vs.length = ds.length
  | _, _, .nil => rfl
  | _, _, .cons _ b => by
    show _ + 1 = _ + 1
    rw [wellAll_len b]
theorem well_list {P : Params} {h : Heap} {v : Value} {ds : List WData} (x : Well P h v (.list ds)) : ∃ (a : Addr) (vs : List Value), v = .ref a ∧ h.get? a = some { cls := .type "list", data := .seq vs.toArray } ∧ WellAll P h vs ds := by
  cases x with
  | list ho hall => exact ⟨_, _, rfl, ho, hall⟩
theorem well_tuple {P : Params} {h : Heap} {v : Value} {ds : List WData} (x : Well P h v (.tuple ds)) : ∃ (a : Addr) (vs : List Value), v = .ref a ∧ h.get? a = some { cls := .type "tuple", data := .seq vs.toArray } ∧ WellAll P h vs ds := by
  cases x with
  | tuple ho hall => exact ⟨_, _, rfl, ho, hall⟩
theorem well_cons {P : Params} {h : Heap} {us : List Value} {d : WData} {ds : List WData} (x : WellAll P h us (d :: ds)) : ∃ (v : Value) (vs : List Value), us = v :: vs ∧ Well P h v d ∧ WellAll P h vs ds := by
  cases x with
  | cons a b => exact ⟨_, _, rfl, a, b⟩
theorem line_of {n : Nat} (h : n ≤ 1048576) : n ≤ sizeLine := Nat.le_trans h (by decide)
section
variable {P : Params} {h : Heap}
mutual
theorem area_one : ∀ (d : WData) (v : Value), Well P h v d → plW d = true → d.weight ≤ 1048576 → ∃ A : List Addr, OkU A v ∧ ∀ a ∈ A, ArgOb h A a
  | .none, _, x, _, _ => by
    cases x
    exact ⟨[], trivial, fun a m => absurd m (by simp)⟩
  | .bool b, _, x, _, _ => by
    cases x
    exact ⟨[], trivial, fun a m => absurd m (by simp)⟩
  | .int i, _, x, _, _ => by
    cases x
    exact ⟨[], trivial, fun a m => absurd m (by simp)⟩
  | .str s, _, x, _, _ => by
    cases x
    exact ⟨[], trivial, fun a m => absurd m (by simp)⟩
  | .bytes b, _, x, _, _ => by
    cases x
    exact ⟨[], trivial, fun a m => absurd m (by simp)⟩
  | .list ds, _, x, p, z => by
    obtain ⟨a, vs, rfl, ho, hall⟩ := well_list x
    have z2 : WData.weightAll ds ≤ 1048576 := z
    obtain ⟨A, h1, h2⟩ := area_all ds _ hall p fun d hd => Nat.le_trans (weight_mem hd) z2
    have k : ∀ b ∈ A, b ∈ a :: A := fun b hb => List.mem_cons_of_mem _ hb
    refine ⟨a :: A, List.mem_cons_self .., fun b hb => ?_⟩
    rcases List.mem_cons.mp hb with e | m
    · rw [e]
      exact ⟨vs, line_of (by rw [wellAll_len hall]; exact Nat.le_trans (PySem.W.length_le_weightAllW ds) z2), fun u hu => (h1 u hu).mono k, .inl ho⟩
    · exact (h2 b m).mono k
  | .tuple ds, _, x, p, z => by
    obtain ⟨a, vs, rfl, ho, hall⟩ := well_tuple x
    have z2 : WData.weightAll ds ≤ 1048576 := z
    obtain ⟨A, h1, h2⟩ := area_all ds _ hall p fun d hd => Nat.le_trans (weight_mem hd) z2
    have k : ∀ b ∈ A, b ∈ a :: A := fun b hb => List.mem_cons_of_mem _ hb
    refine ⟨a :: A, List.mem_cons_self .., fun b hb => ?_⟩
    rcases List.mem_cons.mp hb with e | m
    · rw [e]
      exact ⟨vs, line_of (by rw [wellAll_len hall]; exact Nat.le_trans (PySem.W.length_le_weightAllW ds) z2), fun u hu => (h1 u hu).mono k, .inr ho⟩
    · exact (h2 b m).mono k
  | .float _, _, _, p, _ => Bool.noConfusion (show false = true from p)
  | .dict _, _, _, p, _ => Bool.noConfusion (show false = true from p)
  | .bytearray _, _, _, p, _ => Bool.noConfusion (show false = true from p)
  | .set _, _, _, p, _ => Bool.noConfusion (show false = true from p)
  | .frozenset _, _, _, p, _ => Bool.noConfusion (show false = true from p)
  | .obj _ _, _, _, p, _ => Bool.noConfusion (show false = true from p)
theorem area_all : ∀ (ds : List WData) (vs : List Value), WellAll P h vs ds → plWs ds = true → (∀ d ∈ ds, d.weight ≤ 1048576) → ∃ A : List Addr, (∀ u ∈ vs, OkU A u) ∧ ∀ a ∈ A, ArgOb h A a
  | [], _, x, _, _ => by
    cases x
    exact ⟨[], fun u m => absurd m (by simp), fun a m => absurd m (by simp)⟩
  | d :: ds, _, x, p, z => by
    obtain ⟨v, vs, rfl, x1, x2⟩ := well_cons x
    have q : plW d = true ∧ plWs ds = true := Bool.and_eq_true_iff.mp p
    obtain ⟨A, a1, a2⟩ := area_one d v x1 q.1 (z d (List.mem_cons_self ..))
    obtain ⟨B, b1, b2⟩ := area_all ds vs x2 q.2 fun e he => z e (List.mem_cons_of_mem _ he)
    have kA : ∀ b ∈ A, b ∈ A ++ B := fun b hb => List.mem_append.mpr (.inl hb)
    have kB : ∀ b ∈ B, b ∈ A ++ B := fun b hb => List.mem_append.mpr (.inr hb)
    refine ⟨A ++ B, fun u hu => ?_, fun b hb => ?_⟩
    · rcases List.mem_cons.mp hu with e | m
      · rw [e]
        exact a1.mono kA
      · exact (b1 u m).mono kB
    · rcases List.mem_append.mp hb with m | m
      · exact (a2 b m).mono kA
      · exact (b2 b m).mono kB
end
end
/-- what is tracked of an argument's object -/
def hoOf (o : Obj) : Option HO := match o.data with
  | .seq vs _ => if (o.cls == Value.type "list") = true then some (.frz o (.lst (vs.toList.map toV))) else some (.frz o (.tup (vs.toList.map toV)))
  | _ => none
def argH (K : PySem.W.Frag) (h : Heap) (A : List Addr) : Hp := fun b => if b ∈ A then (if (K.lookup b).isNone = true then (h.get? b).bind hoOf else none) else none
theorem hoOf_lst (vs : List Value) : hoOf { cls := .type "list", data := .seq vs.toArray } = some (.frz { cls := .type "list", data := .seq vs.toArray } (.lst (vs.map toV))) := by
  show (if (Value.type "list" == Value.type "list") = true then some (HO.frz { cls := .type "list", data := .seq vs.toArray } (.lst (vs.toArray.toList.map toV))) else some (HO.frz { cls := .type "list", data := .seq vs.toArray } (.tup (vs.toArray.toList.map toV)))) = _
  rw [if_pos (beq_self_eq_true _)]
theorem hoOf_tup (vs : List Value) : hoOf { cls := .type "tuple", data := .seq vs.toArray } = some (.frz { cls := .type "tuple", data := .seq vs.toArray } (.tup (vs.map toV))) := by
  show (if (Value.type "tuple" == Value.type "list") = true then some (HO.frz { cls := .type "tuple", data := .seq vs.toArray } (.lst (vs.toArray.toList.map toV))) else some (HO.frz { cls := .type "tuple", data := .seq vs.toArray } (.tup (vs.toArray.toList.map toV)))) = _
  rw [if_neg (by decide)]
section
variable {P : Program} {w : World} {K : PySem.W.Frag} {h : Heap} {A : List Addr}
theorem argH_at {b : Addr} {o : Obj} (hb : b ∈ A) (hk : K.lookup b = none) (e : h.get? b = some o) : argH K h A b = hoOf o := by
  unfold argH
  rw [if_pos hb, hk, if_pos (show (none : Option Obj).isNone = true from rfl), e] <;> rfl
theorem of_argH {b : Addr} {u : HO} (q : argH K h A b = some u) : b ∈ A ∧ K.lookup b = none := by
  unfold argH at q
  by_cases hb : b ∈ A
  · rw [if_pos hb] at q
    cases hk : K.lookup b with
    | none => exact ⟨hb, rfl⟩
    | some o =>
      rw [hk, if_neg (by simp)] at q
      cases q
  · rw [if_neg hb] at q
    cases q
/-- what stands tracked -/
theorem argH_is (ar : ∀ a ∈ A, ArgOb h A a) {b : Addr} {u : HO} (q : argH K h A b = some u) : K.lookup b = none ∧ ∃ vs : List Value, vs.length ≤ sizeLine ∧ (∀ u ∈ vs, OkU A u) ∧
    ((h.get? b = some { cls := .type "list", data := .seq vs.toArray } ∧ u = .frz { cls := .type "list", data := .seq vs.toArray } (.lst (vs.map toV))) ∨
     (h.get? b = some { cls := .type "tuple", data := .seq vs.toArray } ∧ u = .frz { cls := .type "tuple", data := .seq vs.toArray } (.tup (vs.map toV)))) := by
  obtain ⟨hb, hk⟩ := of_argH q
  obtain ⟨vs, h1, h2, h3⟩ := ar b hb
  refine ⟨hk, vs, h1, h2, ?_⟩
  rcases h3 with e | e
  · rw [argH_at hb hk e, hoOf_lst] at q
    exact .inl ⟨e, (Option.some.inj q).symm⟩
  · rw [argH_at hb hk e, hoOf_tup] at q
    exact .inr ⟨e, (Option.some.inj q).symm⟩
theorem argH_ok (ar : ∀ a ∈ A, ArgOb h A a) : HOk P w (argH K h A) h := fun b u q => by
  obtain ⟨_, vs, h1, h2, ⟨e, rfl⟩ | ⟨e, rfl⟩⟩ := argH_is ar q
  · exact ⟨e, by rw [List.length_map]; exact h1, vs, _, vals_toV h2, e⟩
  · exact ⟨e, by rw [List.length_map]; exact h1, vs, vals_toV h2, _, e, rfl, _, rfl⟩
theorem seq_inj {c c' : Value} {vs us : List Value} (e : (some { cls := c, data := .seq vs.toArray } : Option Obj) = some { cls := c', data := .seq us.toArray }) : c = c' ∧ vs = us := by
  have e1 := Option.some.inj e
  have e2 : c = c' := congrArg Obj.cls e1
  have e3 : Data.seq vs.toArray = Data.seq us.toArray := congrArg Obj.data e1
  injection e3 with e4
  refine ⟨e2, ?_⟩
  have e5 := congrArg Array.toList e4
  simpa using e5
/-- a list argument -/
theorem argL (KX : K.In h) (ar : ∀ a ∈ A, ArgOb h A a) {a : Addr} {vs : List Value} (ha : a ∈ A) (e : h.get? a = some { cls := .type "list", data := .seq vs.toArray }) : (∀ u ∈ vs, OkU A u) ∧ SqL K (argH K h A) a (vs.map toV) := by
  obtain ⟨us, h1, h2, h3⟩ := ar a ha
  have hu : us = vs := by
    rcases h3 with q | q
    · rw [e] at q
      exact (seq_inj q).2.symm
    · rw [e] at q
      exact absurd (Value.type.inj (seq_inj q).1) (by decide)
  subst hu
  refine ⟨h2, ?_⟩
  cases hk : K.lookup a with
  | none => exact .inl (.inr ⟨_, by rw [argH_at ha hk e, hoOf_lst]⟩)
  | some o =>
    have e2 := KX a o hk
    rw [e] at e2
    obtain rfl := Option.some.inj e2
    exact .inr ⟨_, us.toArray, _, hk, rfl, rfl, rfl, by rw [List.size_toArray]; exact h1, by simpa using vals_toV h2⟩
theorem argT (KX : K.In h) (ar : ∀ a ∈ A, ArgOb h A a) {a : Addr} {vs : List Value} (ha : a ∈ A) (e : h.get? a = some { cls := .type "tuple", data := .seq vs.toArray }) : (∀ u ∈ vs, OkU A u) ∧ SqT K (argH K h A) a (vs.map toV) := by
  obtain ⟨us, h1, h2, h3⟩ := ar a ha
  have hu : us = vs := by
    rcases h3 with q | q
    · rw [e] at q
      exact absurd (Value.type.inj (seq_inj q).1) (by decide)
    · rw [e] at q
      exact (seq_inj q).2.symm
  subst hu
  refine ⟨h2, ?_⟩
  cases hk : K.lookup a with
  | none => exact .inl (.inr ⟨_, by rw [argH_at ha hk e, hoOf_tup]⟩)
  | some o =>
    have e2 := KX a o hk
    rw [e] at e2
    obtain rfl := Option.some.inj e2
    exact .inr ⟨_, us.toArray, _, hk, rfl, rfl, by rw [List.size_toArray]; exact h1, by simpa using vals_toV h2⟩
mutual
theorem dw_one {Pm : Params} (KX : K.In h) (ar : ∀ a ∈ A, ArgOb h A a) : ∀ (d : WData) (v : Value), Well Pm h v d → plW d = true → OkU A v → Dw K (argH K h A) (toV v) d
  | .none, _, x, _, _ => by
    cases x
    exact .non
  | .bool b, _, x, _, _ => by
    cases x
    exact .bl b
  | .int i, _, x, _, _ => by
    cases x
    exact .int i
  | .str s, _, x, _, _ => by
    cases x
    exact .str s
  | .bytes b, _, x, _, _ => by
    cases x
    have z := Dw.byt (K := K) (H := argH K h A) b.toArray
    exact z
  | .list ds, _, x, p, hu => by
    obtain ⟨a, vs, rfl, ho, hall⟩ := well_list x
    obtain ⟨h2, hs⟩ := argL KX ar hu ho
    exact .lst hs (dw_all KX ar ds _ hall p h2)
  | .tuple ds, _, x, p, hu => by
    obtain ⟨a, vs, rfl, ho, hall⟩ := well_tuple x
    obtain ⟨h2, hs⟩ := argT KX ar hu ho
    exact .tup hs (dw_all KX ar ds _ hall p h2)
  | .float _, _, _, p, _ => Bool.noConfusion (show false = true from p)
  | .dict _, _, _, p, _ => Bool.noConfusion (show false = true from p)
  | .bytearray _, _, _, p, _ => Bool.noConfusion (show false = true from p)
  | .set _, _, _, p, _ => Bool.noConfusion (show false = true from p)
  | .frozenset _, _, _, p, _ => Bool.noConfusion (show false = true from p)
  | .obj _ _, _, _, p, _ => Bool.noConfusion (show false = true from p)
theorem dw_all {Pm : Params} (KX : K.In h) (ar : ∀ a ∈ A, ArgOb h A a) : ∀ (ds : List WData) (vs : List Value), WellAll Pm h vs ds → plWs ds = true → (∀ u ∈ vs, OkU A u) → DwAll K (argH K h A) (vs.map toV) ds
  | [], _, x, _, _ => by
    cases x
    exact .nil
  | d :: ds, _, x, p, hu => by
    obtain ⟨v, vs, rfl, x1, x2⟩ := well_cons x
    have q : plW d = true ∧ plWs ds = true := Bool.and_eq_true_iff.mp p
    exact .cons (dw_one KX ar d v x1 q.1 (hu _ (List.mem_cons_self ..))) (dw_all KX ar ds vs x2 q.2 fun u m => hu u (List.mem_cons_of_mem _ m))
end
end
theorem layable_weight {ds : List WData} (h : WData.layableAll ds = true) : ∀ d ∈ ds, d.weight ≤ 1048576 := fun d hd =>
  (PySem.W.layableW_iff.mp (List.all_eq_true.mp h d hd)).2.2
theorem encAll_len : ∀ (cs : List Codec) (a : Codec.denoteAll cs), (Codec.encAll cs a).length = cs.length
  | [], _ => rfl
  | c :: cs, a => by
    show (Codec.encAll cs a.2).length + 1 = cs.length + 1
    rw [encAll_len cs a.2]
end L2
end
section
set_option Elab.async false
set_option linter.all false
set_option maxRecDepth 100000
namespace PySem
open Sem (wp)
section
variable {prog : Program} {w : World} {K : Type} [DecidableEq K] {knd : HeapKind prog w K} {A : Around} {E : Value → Shared → Prop} {s : Shared}
def withoutH (xs : List (K × Addr × Value)) (k : K) : List (K × Addr × Value) := xs.filter fun x => decide (x.1 ≠ k)
theorem withoutH_same : ∀ {xs : List (K × Addr × Value)} {k : K}, k ∉ xs.map (·.1) → withoutH xs k = xs
  | [], _, _ => rfl
  | x :: xs, k, h => by
    have h1 : x.1 ≠ k := fun e => h (by rw [List.map_cons, e]; exact List.mem_cons_self)
    have h2 : k ∉ xs.map (·.1) := fun e => h (by rw [List.map_cons]; exact List.mem_cons_of_mem _ e)
    unfold withoutH
    rw [List.filter_cons_of_pos (by simpa using h1)]
    exact congrArg _ (withoutH_same h2)
theorem withoutH_erase : ∀ {xs : List (K × Addr × Value)} {k : K} {j : Nat} {p : Addr × Value}, (xs.map (·.1)).Nodup → xs[j]? = some (k, p) → xs.eraseIdx j = withoutH xs k
  | [], _, _, _, _, h => by simp at h
  | x :: xs, k, 0, p, hn, h => by
    have e : x = (k, p) := by simpa using h
    subst e
    rw [List.map_cons, List.nodup_cons] at hn
    unfold withoutH
    rw [List.filter_cons_of_neg (by simp), List.eraseIdx_cons_zero]
    exact (withoutH_same hn.1).symm
  | x :: xs, k, j + 1, p, hn, h => by
    rw [List.map_cons, List.nodup_cons] at hn
    have h' : xs[j]? = some (k, p) := by simpa using h
    have h1 : x.1 ≠ k := fun e => hn.1 (by rw [e]; exact List.mem_map.mpr ⟨(k, p), List.mem_of_getElem? h', rfl⟩)
    unfold withoutH
    rw [List.filter_cons_of_pos (by simpa using h1), List.eraseIdx_cons_succ]
    exact congrArg _ (withoutH_erase hn.2 h')
theorem atKey_get {xs : List (K × Addr × Value)} {k : K} {p : Addr × Value} (h : atKey xs k = some p) : ∃ j : Nat, xs[j]? = some (k, p) := by
  unfold atKey at h
  obtain ⟨x, hx, rfl⟩ := Option.map_eq_some_iff.mp h
  have h1 := List.find?_some hx
  have h2 := List.mem_of_find?_eq_some hx
  obtain ⟨j, hj⟩ := List.mem_iff_getElem?.mp h2
  refine ⟨j, ?_⟩
  rw [hj]
  have e : x.1 = k := by simpa using h1
  rw [← e]
omit [DecidableEq K] in
theorem erase_map {α β : Type} (f : α → β) : ∀ (l : List α) (j : Nat), (l.map f).eraseIdx j = (l.eraseIdx j).map f
  | [], _ => rfl
  | _ :: _, 0 => rfl
  | x :: l, j + 1 => by
    rw [List.map_cons, List.eraseIdx_cons_succ, List.eraseIdx_cons_succ, List.map_cons, erase_map f l j]
omit [DecidableEq K] in
theorem erase_arr {α : Type} (l : List α) (j : Nat) : ((Array.mk l).eraseIdxIfInBounds j).toList = l.eraseIdx j := by
  unfold Array.eraseIdxIfInBounds
  split
  · rw [Array.toList_eraseIdx]
  · rename_i h
    have h' : l.length ≤ j := by
      have : (Array.mk l).size = l.length := rfl
      omega
    exact (List.eraseIdx_of_length_le h').symm
/-- the dict once its entries have been exchanged by f: what holds of ys holds there, and nothing else has moved -/
theorem exchanged {h : Heap} {d : Addr} {o : Obj} {es : Array DictEntry} {ep : Nat} {ys : List (K × Addr × Value)} (f : Array DictEntry → Array DictEntry) (at_ : h.get? d = some o) (ex : o.ExactDict) (dat : o.data = .dict es ep)
    (img : (f es).toList = ys.map (entryOfKey knd)) (keys : ∀ y ∈ ys, knd.is h y.1 y.2.1) (once : (ys.map (·.1)).Nodup) :
    (h.update d (Obj.mapDictKeys f)).DictOfH knd d ys ∧ Heap.SameBut d h (h.update d (Obj.mapDictKeys f)) :=
  have rest := Heap.SameBut.update h d (Obj.mapDictKeys f)
  have now := Obj.data_mapDictKeys dat f
  ⟨⟨_, f es, ep + 1, Heap.get?_update_self _ at_ (Obj.isFreed_of_dict now), ex.mapDictKeys f, now, img, fun y hy => knd.keeps (keys y hy) at_ dat rest, once⟩, rest⟩
/-- taking out the key at the place j -/
theorem took {d a : Addr} {xs : List (K × Addr × Value)} {k : K} {j : Nat} {p : Addr × Value} {Q : Option DictEntry → Shared → Prop} (room : knd.room A) (isk : knd.is s.heap k a) (D : s.heap.DictOfH knd d xs) (there : xs[j]? = some (k, p)) (fits : xs.length ≤ sizeLine)
    (then_ : ∀ h', h'.DictOfH knd d (withoutH xs k) ∧ Heap.SameBut d s.heap h' → Q (some ⟨knd.hash k, .ref p.1, p.2⟩) { s with heap := h', toks := s.toks + knd.draws k }) :
    wpAny (model prog w) A (Builtin.Dict.takeOut d (.ref a)) Q E s := by
  have D0 := D
  obtain ⟨o, es, ep, at_, ex, dat, img, keys, once⟩ := D0
  let s1 : Shared := { s with toks := s.toks + knd.draws k }
  have small : es.size ≤ sizeLine := size_of_entries img ▸ fits
  have out : (es.eraseIdxIfInBounds j).toList = (withoutH xs k).map (entryOfKey knd) := by
    rw [← withoutH_erase once there, ← erase_map, ← img]
    exact erase_arr es.toList j
  have fin := then_ _ (exchanged (·.eraseIdxIfInBounds j) at_ ex dat out (fun y hy => keys y (List.mem_filter.mp hy).1) (once.sublist (List.Sublist.map _ List.filter_sublist)))
  have ent : es[j]? = some ⟨knd.hash k, .ref p.1, p.2⟩ := by rw [entry_at img j, there]; rfl
  have tail : ∀ i q, xs[i]? = some (k, q) → wpAny (model prog w) A (do
      let some e := (← dictEntries d (keyPart (.ref a)))[i]? | unsupported "internal:dict-take-out"
      updateDictKeys d (·.eraseIdxIfInBounds i) (keyPart (.ref a))
      return some e) Q E s1 := fun i q hi => by
    have same : i = j := by
      have l1 : (xs.map (·.1))[i]? = some k := by rw [List.getElem?_map, hi]; rfl
      have l2 : (xs.map (·.1))[j]? = some k := by rw [List.getElem?_map, there]; rfl
      exact (List.getElem?_inj (List.getElem?_eq_some_iff.mp l1).1 once).mp (l1.trans l2.symm)
    subst same
    refine wpAny_bind (wpAny_dictEntries (s := s1) at_ dat ?_)
    rw [ent]
    exact wpAny_bind (wpAny_updateDictKeys (s := s1) (hz := small) at_ dat (wpAny_pure fin))
  exact wpAny_holding (wpAny_bind (knd.pyHash room isk (wpAny_bind (wpAny_dictFind_heap (s := s1) room isk at_ dat img keys once (fun no => (no j p there).elim) fun i q hi => tail i q hi))))
end
section
variable {prog : Program} {w : World} {K : Type} [DecidableEq K] (knd : HeapKind prog w K)
variable (d a : Addr)
theorem meetsH_dict_pop :
    MeetsIn prog w (Builtin.«dict.pop» ⟨[.ref d, .ref a], []⟩) (fun A R s => knd.room A.in1 ∧ ∃ k xs p, knd.is s.heap k a ∧ s.heap.DictOfH knd d xs ∧ xs.length ≤ sizeLine ∧ atKey xs k = some p ∧
      ∀ h', h'.DictOfH knd d (withoutH xs k) → Heap.SameBut d s.heap h' → R (.ok (.ret p.2)) { s with heap := h', toks := s.toks + knd.draws k }) :=
  .of_wp fun A R s ⟨room, k, xs, p, isk, D, fits, fnd, q⟩ => by
    obtain ⟨j, there⟩ := atKey_get fnd
    have D0 := D
    obtain ⟨o, es, ep, at_, ex, dat, img, keys, once⟩ := D0
    have some_ : es.isEmpty = false := by
      have l := (List.getElem?_eq_some_iff.mp there).1
      have z := size_of_entries img
      rw [Array.isEmpty_eq_false_iff]
      intro c
      rw [c] at z
      simp at z
      omega
    refine wpAny_bind (m := Builtin.Dict.keyAndDefault "pop" _) (wpAny_bind (m := Builtin.Dict.notOrdered "pop" _) (wpAny_notOrdered_dict D.typeIs (wpAny_pure ?_)))
    refine wpAny_bind (m := dictEntries d none) (wpAny_dictEntries at_ dat (wpAny_bind (m := pure es.isEmpty) (wpAny_pure ?_)))
    rw [some_]
    exact wpAny_bind (took room isk D there fits fun h' x => wpAny_bind (wpAny_letGo (wpAny_pure ⟨p.2, rfl, q h' x.1 x.2⟩)))
theorem meetsH_dict_clear :
    MeetsIn prog w (Builtin.«dict.clear» ⟨[.ref d], []⟩) (fun _ R s => ∃ xs, s.heap.DictOfH knd d xs ∧ xs.length ≤ sizeLine ∧
      ∀ h', h'.DictOfH knd d [] → Heap.SameBut d s.heap h' → R (.ok (.ret .none)) { s with heap := h' }) :=
  .of_wp fun A R s ⟨xs, D, fits, q⟩ => by
    have D0 := D
    obtain ⟨o, es, ep, at_, ex, dat, img, keys, once⟩ := D0
    have small : es.size ≤ sizeLine := size_of_entries img ▸ fits
    obtain ⟨none_, rest⟩ := exchanged (knd := knd) (ys := []) (fun _ => #[]) at_ ex dat rfl (fun y hy => nomatch hy) List.nodup_nil
    refine wpAny_bind (m := Builtin.Dict.noArgs "clear" _) (wpAny_bind (m := Builtin.Dict.notOrdered "clear" _) (wpAny_notOrdered_dict D.typeIs (wpAny_pure ?_)))
    refine wpAny_bind (wpAny_dictEntries at_ dat (wpAny_bind (m := bearsInstanceDictMark d) (wpAny_bind (wpAny_load at_ (wpAny_pure (wpAny_bind (wpAny_updateDictKeys at_ dat ?_ (hz := small))))))))
    have fin := q _ none_ rest
    split <;> first | exact wpAny_bind (wpAny_letGo (wpAny_pure ⟨_, rfl, fin⟩)) | exact wpAny_bind (wpAny_pure (wpAny_pure ⟨_, rfl, fin⟩))
theorem meetsH_dict_len (hd : (d == sysModules) = false) :
    MeetsIn prog w (Builtin.«dict.__len__» ⟨[.ref d], []⟩) (fun _ R s => ∃ xs, s.heap.DictOfH knd d xs ∧ R (.ok (.ret (.int xs.length s.toks))) { s with toks := s.toks + 1 }) :=
  .of_wp fun A R s ⟨xs, ⟨o, es, ep, at_, _, dat, img, _⟩, q⟩ => by
    rw [← size_of_entries img] at q
    exact wpAny_bind (m := dictSize d) (wpAny_bind (wpAny_dictEntries at_ dat (wpAny_pure (wpAny_bind (m := Builtin.Dict.pendingCount d) (wpAny_pendingCount_other hd (wpAny_ret_mkInt q))))))
end
end PySem
namespace L2
open PySem PySem.Spec PyProof.Rows
theorem KT.drop {H : Hp} {kvs : List (List Key × V)} {xs : List (List Key × Addr × Value)} (r : KT H kvs xs) (k : List Key) : KT H (dropK kvs k) (withoutH xs k) := by
  induction r with
  | nil => exact .nil
  | @cons p q ps qs h t ih =>
    unfold dropK withoutH at ih ⊢
    obtain ⟨h1, h2, h3⟩ := h
    rw [List.filter_cons, List.filter_cons]
    by_cases e : p.1 = k
    · have a : ¬ decide (p.1 ≠ k) = true := by simp [e]
      have b : ¬ decide (q.1 ≠ k) = true := by simp [h1.symm.trans e]
      rw [if_neg a, if_neg b]; exact ih
    · have e' : ¬ q.1 = k := fun z => e (h1.trans z)
      have a : decide (p.1 ≠ k) = true := by simp [e]
      have b : decide (q.1 ≠ k) = true := by simp [e']
      rw [if_pos a, if_pos b]; exact .cons ⟨h1, h2, h3⟩ ih
section
variable {X : Cx}
/-- d.pop(t): there -/
def rPopT : V → List V → Hp → VK → Prop := fun x vs H Q => ∃ a b kvs k v, x = .ref a ∧ vs = [.ref b] ∧ H a = some (.dT kvs) ∧ H b = some (.tup (k.map kV)) ∧ valV kvs k = some v ∧ Q v (upd H a (.dT (dropK kvs k)))
theorem mt_popT (hu : X.A.units + 1 < cLine) : MtM X "dict.pop" rPopT := by
  intro pins s σ H x xs v us Q I rx rs h
  obtain ⟨a, b, kvs, k, y, rfl, rfl, ea, eb, l, q⟩ := h
  obtain rfl : v = Value.ref a := rx
  obtain ⟨u, rfl, ru⟩ := vals1 rs
  obtain rfl : u = Value.ref b := ru
  obtain ⟨z, hd, ys, rel, dd⟩ := dt_of I.hok ea
  obtain ⟨w', hw, rw'⟩ := RelO.some_of (v := y) (o := (atKey ys k).map (·.2)) (by rw [← l]; exact rel.val k)
  obtain ⟨p, hp, hp2⟩ := Option.map_eq_some_iff.mp hw
  have hz : ys.length ≤ sizeLine := by rw [← Paired.length rel]; exact z
  refine call_meetsIn PySem.F.slot_dict_pop dd.typeIs PySem.F.entry_dict_pop (PySem.F.args_dict_pop_2 _ _) (meetsH_dict_pop (tupleKind (mixKind X.prog X.w)) a b)
    ⟨tupleKind_room_in1 hu, k, ys, p, key_of I.hok eb, dd, hz, hp, fun h' dd' hs => ⟨y, _, ?_, by rw [hp2]; exact rw', q⟩⟩
  obtain ⟨o, es, ep, h1, h2, h3, h4, _, h5⟩ := dd'
  refine d_write I (by rw [ea]; exact True.intro) hs ⟨o, h1⟩ ⟨Nat.le_trans (dropK_le kvs k) z, hd, _, (rel.drop k).keeps fun c ys ec => ?_, o, es, ep, h1, h2, h3, h4, h5⟩
  rw [upd_ne (ne_of ec ea (fun z => nomatch z))]
  exact ec
/-- d.clear() -/
def rClearT : V → List V → Hp → VK → Prop := fun x vs H Q => ∃ a kvs, x = .ref a ∧ vs = [] ∧ H a = some (.dT kvs) ∧ Q .non (upd H a (.dT []))
theorem mt_clearT : MtM X "dict.clear" rClearT := by
  intro pins s σ H x xs v us Q I rx rs h
  obtain ⟨a, kvs, rfl, rfl, ea, q⟩ := h
  obtain rfl : v = Value.ref a := rx
  cases rs
  obtain ⟨z, hd, ys, rel, dd⟩ := dt_of I.hok ea
  have hz : ys.length ≤ sizeLine := by rw [← Paired.length rel]; exact z
  refine call_meetsIn PySem.F.slot_dict_clear dd.typeIs PySem.F.entry_dict_clear (PySem.F.args_dict_clear_1 _) (meetsH_dict_clear (tupleKind (mixKind X.prog X.w)) a) ⟨ys, dd, hz, fun h' dd' hs => ⟨.non, _, ?_, rfl, q⟩⟩
  obtain ⟨o, es, ep, h1, h2, h3, h4, _, h5⟩ := dd'
  exact d_write (t' := s.toks) I (by rw [ea]; exact True.intro) hs ⟨o, h1⟩ ⟨Nat.zero_le _, hd, [], .nil, o, es, ep, h1, h2, h3, h4, h5⟩
/-- len(d) -/
theorem call_lenT : CallR X (.builtin "len") (fun xs H Q => ∃ a kvs, xs = [V.ref a] ∧ H a = some (.dT kvs) ∧ Q (.int kvs.length) H) := by
  intro pins s σ H xs us Q I r h
  obtain ⟨a, kvs, rfl, ha, q⟩ := h
  obtain ⟨u, rfl, ru⟩ := vals1 r
  cases ru
  obtain ⟨z, hd, ys, rel, dd⟩ := dt_of I.hok ha
  have hl : kvs.length = ys.length := Paired.length rel
  rw [sizeLine_eq] at z
  exact PyProof.Rows.call_len_slot dd.typeIs F.slot_dict_len (fun Q2 q2 => call_meetsIn F.slot_dict_len dd.typeIs F.entry_dict_len (F.args_dict_len_1 _) (meetsH_dict_len (tupleKind (mixKind X.prog X.w)) a hd) ⟨ys, dd, q2⟩) (by omega) (by omega)
    ⟨.int kvs.length, H, (I.tok _).tok _, ⟨_, by rw [hl]⟩, q⟩
/-- products of great numbers -/
theorem op_mulB : OpR X (binaryOp .Mult) (rI IntMulOk fun i j => .int (i * j)) := opI fun _ _ _ _ _ _ _ hc q => mul_int q hc
/-- // by a positive divisor of less than 9000 bits -/
def CDivB (i j : Int) : Prop := 0 < j ∧ j.natAbs.log2 < 9000
theorem op_fdivB : OpR X (binaryOp .FloorDiv) (rI CDivB fun i j => .int (i / j)) := opI fun i j _ _ _ _ _ hc q => by
  have h1 : (0 : Int) < j := hc.1
  exact floordiv_int (by omega) (by rw [Int.fdiv_eq_ediv_of_nonneg i (by omega)]; exact q) (.inl (PyProof.noPylong_of_log2 hc.2))
/-- o[i] of a list by values -/
theorem get_list : PGet X (rIxL X.K) := by
  intro pins s σ H x y v u Q I rx ry h
  obtain ⟨p, xs, i, z, rfl, rfl, hq, he, q⟩ := h
  cases rx
  obtain ⟨t, rfl⟩ := ry
  obtain ⟨its, r, pl, hz⟩ := I.list hq
  obtain ⟨j, h1, h2, h3, h4, h5⟩ := atI_get he
  obtain ⟨w, ew, rw'⟩ := r.get h2
  have hl := r.length
  have hn := line63
  have fin : EP X pins σ Q w s := ⟨z, H, I, rw', q⟩
  by_cases h0 : 0 ≤ i
  · have hj : i.toNat = j := by
      rw [seqIndex_of h0 h5] at h1
      exact Option.some.inj h1
    exact wpAny_getItem_list pl.isList h0 (by omega) (by rw [hj]; simpa using ew) fin
  · have hj : (i + (its.toArray.size : Int)).toNat = j := by
      rw [seqIndex_neg (by omega) h4] at h1
      rw [List.size_toArray, ← hl]
      exact Option.some.inj h1
    exact wpAny_getItem_list_neg pl.isList (by omega) (by rw [List.size_toArray] <;> omega) (by omega) (by rw [hj]; simpa using ew) fin
/-- range(n) as a value -/
theorem call_rng : CallR X (.type "range") (fun xs H Q => ∃ j : Int, xs = [.int j] ∧ ∀ p, H p = none → Q (.ref p) (upd H p (.rng 0 j))) := by
  intro pins s σ H xs us Q I r h
  obtain ⟨j, rfl, q⟩ := h
  obtain ⟨u, rfl, rx⟩ := vals1 r
  obtain ⟨t, rfl⟩ := rx
  refine call_range_1 ⟨.ref s.heap.objs.size, _, I.laid (t' := s.toks + 1 + 1) (o := .rng 0 j) (fun b o e => Heap.get?_push_of_some _ e) (Nat.le_refl _) ?_, rfl, q _ (I.hok.fresh (Nat.le_refl _))⟩
  exact ⟨_, _, _, Heap.get?_push_size _ rfl⟩
theorem items_vals {a : Int} : ∀ {n : Nat} {l : List Value}, l.length = n → (∀ i u, l[i]? = some u → ∃ t, u = Value.int (a + (i : Nat) * 1) t) → Vals ((List.range n).map fun i => V.int (a + (i : Nat))) l := by
  intro n l
  induction l generalizing a n with
  | nil =>
    intro hl _
    subst hl
    exact .nil
  | cons x l ih =>
    intro hl h
    subst hl
    rw [List.length_cons, List.range_succ_eq_map, List.map_cons, List.map_map]
    refine .cons ?_ ?_
    · obtain ⟨t, e⟩ := h 0 x rfl
      exact ⟨t, by rw [e]; simp⟩
    · have := ih (a := a + 1) rfl (fun i u hi => by
        obtain ⟨t, e⟩ := h (i + 1) u (by simpa using hi)
        refine ⟨t, ?_⟩
        rw [e]
        congr 1
        omega)
      have e2 : ((fun i : Nat => V.int (a + (i : Nat))) ∘ Nat.succ) = fun i : Nat => V.int (a + 1 + (i : Nat)) := by
        funext i
        show V.int _ = V.int _
        congr 1
        show a + ((i + 1 : Nat) : Int) = _
        omega
      rw [e2]
      exact this
/-- list(range(..)) -/
theorem call_list_rng (hc : X.calm = true) : CallR X (.type "list") (fun xs H Q => ∃ (p : Addr) (n : Nat), xs = [.ref p] ∧ H p = some (.rng 0 (n : Int)) ∧ n ≤ 1000000 ∧ ∀ l, H l = none → Q (.ref l) (upd H l (.lst ((List.range n).map fun (i : Nat) => V.int (i : Int))))) := by
  intro pins s σ H xs us Q I r h
  obtain ⟨p, n, rfl, hp, hn, q⟩ := h
  obtain ⟨u, rfl, rx⟩ := vals1 r
  cases rx
  obtain ⟨t1, t2, t3, e⟩ := (show ObjOk X.prog X.w H s.heap p (.rng 0 (n : Int)) from I.hok p _ hp)
  refine call_list_range (n := n) (I.ok.hd hc) e (small_one (by omega) (by omega) (by omega) (by omega)) (by rw [rangeSize_one]; split <;> omega) (by omega) fun h' tk acc' c' kp hS hacc => ?_
  have hv : Vals ((List.range n).map fun i => V.int (0 + (i : Nat))) acc'.toList := by
    refine items_vals (a := 0) ?_ ?_
    · rw [Array.length_toList]; exact hacc.1
    · intro i u hi
      exact hacc.2 i u (by rw [← Array.getElem?_toList]; exact hi)
  have e0 : ((List.range n).map fun (i : Nat) => V.int (0 + (i : Int))) = (List.range n).map fun (i : Nat) => V.int (i : Int) := by
    apply List.map_congr_left
    intro i _
    rw [Int.zero_add]
  rw [e0] at hv
  refine ⟨.ref s.heap.objs.size, _, I.laid (t' := tk) (o := .lst ((List.range n).map fun (i : Nat) => V.int (i : Int))) kp (Nat.le_refl _) ?_, rfl, q _ (I.hok.fresh (Nat.le_refl _))⟩
  refine ⟨by rw [List.length_map, List.length_range, sizeLine_eq]; omega, acc'.toList, c', hv, ?_⟩
  rw [Array.toArray_toList]
  exact hS
end
end L2
end
section
set_option linter.all false
namespace SX
open PySem
def Ri (xs : Array Nat) : Prop := xs.toList.Pairwise (· < ·)
theorem ri_lt {xs : Array Nat} (h : Ri xs) {i k : Nat} {a b : Nat} (hik : i < k) (ha : xs[i]? = some a) (hb : xs[k]? = some b) : a < b := by
  rw [← Array.getElem?_toList] at ha hb
  obtain ⟨h1, e1⟩ := List.getElem?_eq_some_iff.mp ha
  obtain ⟨h2, e2⟩ := List.getElem?_eq_some_iff.mp hb
  have := List.pairwise_iff_getElem.mp h i k h1 h2 hik
  rw [e1, e2] at this
  exact this
theorem go_at {xs : Array Nat} (h : Ri xs) (j : Nat) : ∀ (f lo hi : Nat), lo ≤ hi → hi ≤ xs.size → hi - lo ≤ f → (∀ i a, i < lo → xs[i]? = some a → a < j) → (∀ i a, hi ≤ i → xs[i]? = some a → j ≤ a) →
    SetTable.below.go xs j f lo hi ≤ xs.size ∧ (∀ i a, i < SetTable.below.go xs j f lo hi → xs[i]? = some a → a < j) ∧ (∀ i a, SetTable.below.go xs j f lo hi ≤ i → xs[i]? = some a → j ≤ a)
  | 0, lo, hi, h1, h2, h3, h4, h5 => by
    have : lo = hi := by omega
    subst this
    exact ⟨h2, h4, h5⟩
  | f + 1, lo, hi, h1, h2, h3, h4, h5 => by
    unfold SetTable.below.go
    by_cases c : lo < hi
    · rw [if_pos c]
      dsimp only
      have hm : (lo + hi) / 2 < xs.size := by omega
      have e : xs[(lo + hi) / 2]? = some (xs[(lo + hi) / 2]) := Array.getElem?_eq_getElem hm
      have eg : xs.getD ((lo + hi) / 2) j = xs[(lo + hi) / 2] := by simp [Array.getD, hm]
      rw [eg]
      by_cases c2 : xs[(lo + hi) / 2] < j
      · rw [if_pos c2]
        refine go_at h j f _ _ (by omega) h2 (by omega) (fun i a hi' ha => ?_) h5
        rcases Nat.lt_or_ge i ((lo + hi) / 2) with q | q
        · exact Nat.lt_trans (ri_lt h q ha e) c2
        · have : i = (lo + hi) / 2 := by omega
          subst this
          rw [e] at ha
          cases ha
          exact c2
      · rw [if_neg c2]
        refine go_at h j f _ _ (by omega) (by omega) (by omega) h4 (fun i a hi' ha => ?_)
        rcases Nat.lt_or_ge ((lo + hi) / 2) i with q | q
        · have := ri_lt h q e ha
          omega
        · have : i = (lo + hi) / 2 := by omega
          subst this
          rw [e] at ha
          cases ha
          omega
    · rw [if_neg c]
      have : lo = hi := by omega
      subst this
      exact ⟨h2, h4, h5⟩
theorem below_at {xs : Array Nat} (h : Ri xs) (j : Nat) : SetTable.below xs j ≤ xs.size ∧ (∀ i a, i < SetTable.below xs j → xs[i]? = some a → a < j) ∧ (∀ i a, SetTable.below xs j ≤ i → xs[i]? = some a → j ≤ a) :=
  go_at h j xs.size 0 xs.size (Nat.zero_le _) (Nat.le_refl _) (by omega) (fun i a hi => absurd hi (by omega)) (fun i a hi ha => by
    obtain ⟨q, _⟩ := Array.getElem?_eq_some_iff.mp ha
    omega)
/-- the place behind the i-th -/
theorem below_next {xs : Array Nat} (h : Ri xs) {i j : Nat} (e : xs[i]? = some j) : SetTable.below xs (j + 1) = i + 1 := by
  obtain ⟨h1, h2, h3⟩ := below_at h (j + 1)
  obtain ⟨hi, _⟩ := Array.getElem?_eq_some_iff.mp e
  rcases Nat.lt_trichotomy (SetTable.below xs (j + 1)) (i + 1) with c | c | c
  · have := h3 i j (by omega) e
    omega
  · exact c
  · have hk : i + 1 < xs.size := by omega
    have e2 : xs[i + 1]? = some xs[i + 1] := Array.getElem?_eq_getElem hk
    have a1 := h2 (i + 1) _ c e2
    have a2 := ri_lt h (Nat.lt_succ_self i) e e2
    omega
theorem below_zero {xs : Array Nat} (h : Ri xs) : SetTable.below xs 0 = 0 := by
  obtain ⟨h1, h2, h3⟩ := below_at h 0
  rcases Nat.eq_zero_or_pos (SetTable.below xs 0) with c | c
  · exact c
  · have hk : 0 < xs.size := by omega
    have := h2 0 _ c (Array.getElem?_eq_getElem hk)
    omega
/-- no element stands there -/
def Fr (t : SetTable) (d : Nat) : Prop := t.place[SetTable.below t.place d]? ≠ some d
theorem ri_in {t : SetTable} (h : Ri t.place) {d : Nat} (f : Fr t d) : Ri (SetTable.insertAt t.place (SetTable.below t.place d) d) := by
  obtain ⟨h1, h2, h3⟩ := below_at h d
  unfold Ri
  rw [SetTable.toList_insertAt]
  unfold Ri at h
  refine List.pairwise_append.mpr ⟨h.sublist (List.take_sublist _ _), List.pairwise_cons.mpr ⟨fun a ha => ?_, h.sublist (List.drop_sublist _ _)⟩, fun a ha b hb => ?_⟩
  · obtain ⟨n, hn⟩ := List.mem_iff_getElem?.mp ha
    rw [List.getElem?_drop, Array.getElem?_toList] at hn
    have hle := h3 _ a (Nat.le_add_right _ n) hn
    rcases Nat.lt_or_ge d a with c | c
    · exact c
    · have e : a = d := by omega
      subst e
      rcases Nat.eq_zero_or_pos n with z | z
      · subst z
        exact absurd hn f
      · obtain ⟨hl, _⟩ := Array.getElem?_eq_some_iff.mp hn
        have e0 : t.place[SetTable.below t.place a]? = some (t.place[SetTable.below t.place a]'(by omega)) := Array.getElem?_eq_getElem (by omega)
        have a1 := h3 _ _ (Nat.le_refl _) e0
        have a2 := ri_lt (xs := t.place) h (by omega : SetTable.below t.place a < SetTable.below t.place a + n) e0 hn
        omega
  · obtain ⟨n, hn⟩ := List.mem_iff_getElem?.mp ha
    rw [List.getElem?_take] at hn
    split at hn
    · rename_i hlt
      rw [Array.getElem?_toList] at hn
      have q := h2 n a hlt hn
      rcases List.mem_cons.mp hb with e | hb
      · rw [e]; exact q
      · obtain ⟨k, hk⟩ := List.mem_iff_getElem?.mp hb
        rw [List.getElem?_drop, Array.getElem?_toList] at hk
        have := h3 _ b (Nat.le_add_right _ k) hk
        omega
    · cases hn
theorem probe_fr {t : SetTable} {ha : Nat → Int} {hh : Int} {j : Nat} {dm : Option Nat} : ∀ (f : Nat) (p : SetTable.Probe), (∀ d, p.dummy = some d → Fr t d) → SetTable.probe.go t ha hh f p = some (.empty j dm) → Fr t (dm.getD j)
  | 0, p, _, e => by cases e
  | f + 1, p, hp, e => by
    unfold SetTable.probe.go at e
    have adv : ∀ q : SetTable.Probe, (t.advance q).dummy = q.dummy := by
      intro q
      unfold SetTable.advance
      split <;> rfl
    cases hs : t.slot p.j with
    | empty =>
      rw [hs] at e
      dsimp only at e
      injection e with e
      injection e with e1 e2
      subst e1; subst e2
      cases hd : p.dummy with
      | some d => exact hp d hd
      | none =>
        show Fr t p.j
        unfold SetTable.slot at hs
        dsimp only at hs
        intro z
        rw [z] at hs
        simp at hs
    | dummy =>
      rw [hs] at e
      dsimp only at e
      refine probe_fr f _ (fun d hd => ?_) e
      rw [adv] at hd
      have hd' : p.j = d := Option.some.inj hd
      subst hd'
      unfold SetTable.slot at hs
      dsimp only at hs
      intro z
      rw [z] at hs
      simp at hs
    | live i =>
      rw [hs] at e
      dsimp only at e
      split at e
      · cases e
      · refine probe_fr f _ (fun d hd => ?_) e
        rw [adv] at hd
        exact hp d hd
/-- a table as it is met -/
structure Gd (b : Bool) (t : SetTable) : Prop where
  ri : Ri t.place
  led : t.led = b
theorem Gd.fresh (b : Bool) (f m : Nat) : Gd b (SetTable.fresh f m b) := ⟨List.Pairwise.nil, rfl⟩
theorem Gd.stand {b : Bool} {t : SetTable} (g : Gd b t) (n : Nat) : Gd b (t.standIn n) := by
  refine ⟨?_, g.led⟩
  unfold Ri SetTable.standIn
  simp only [Array.toList_range]
  exact List.pairwise_lt_range
theorem Gd.orStand {b : Bool} {t : SetTable} (g : Gd b t) (n : Nat) : Gd b (t.orStandIn n) := by
  unfold SetTable.orStandIn
  split
  · exact g
  · exact g.stand n
theorem Gd.lay {b : Bool} {t : SetTable} (g : Gd b t) (es : Array (Int × Value)) (h : Int) (x : Value) : Gd b (layNew t es h x).2.1 := by
  unfold layNew
  cases hf : t.freeSlot h with
  | none => exact g.stand _
  | some q =>
    obtain ⟨sl, wd⟩ := q
    dsimp only
    refine Gd.orStand ?_ _
    refine ⟨?_, g.led⟩
    refine ri_in g.ri ?_
    unfold SetTable.freeSlot at hf
    cases hp : t.probe (fun _ => h + 1) h (t.probeStart h) with
    | none => rw [hp] at hf; cases hf
    | some m =>
      rw [hp] at hf
      cases m with
      | candidate => cases hf
      | empty j dm =>
        dsimp only at hf
        injection hf with hf
        injection hf with h1 h2
        rw [← h1]
        unfold SetTable.probe at hp
        exact probe_fr _ _ (fun d hd => by cases hd) hp
theorem Gd.relay {b : Bool} {t : SetTable} (g : Gd b t) (es : Array (Int × Value)) (n : Nat) : Gd b (relayAll t es n).2.1 := by
  unfold relayAll
  cases hr : t.relaid (es.map (·.1)) n with
  | none => exact g.stand _
  | some q =>
    obtain ⟨t', od⟩ := q
    dsimp only
    split
    · unfold SetTable.relaid SetTable.laid at hr
      cases ho : SetTable.layClean (SetTable.sizeAbove n - 1) (es.map (·.1)) with
      | none => rw [ho] at hr; cases hr
      | some ow =>
        rw [ho] at hr
        have hr' := Option.some.inj hr
        have h1 := congrArg Prod.fst hr'
        dsimp only at h1
        subst h1
        refine ⟨?_, g.led⟩
        unfold Ri
        dsimp only
        rw [List.map_filterMap]
        refine List.Pairwise.filterMap (R := (· < ·)) _ ?_ List.pairwise_lt_range
        intro a a' haa b hb b' hb'
        have f1 : b = a := by
          cases q : ow.getD a none with
          | none => rw [q] at hb; cases hb
          | some z => rw [q] at hb; exact (Option.some.inj hb).symm
        have f2 : b' = a' := by
          cases q : ow.getD a' none with
          | none => rw [q] at hb'; cases hb'
          | some z => rw [q] at hb'; exact (Option.some.inj hb').symm
        rw [f1, f2]
        exact haa
    · exact g.stand _
theorem erase_perm {α : Type} : ∀ {l : List α} {i : Nat} {x : α}, l[i]? = some x → (x :: l.eraseIdx i).Perm l
  | [], i, x, h => by simp at h
  | a :: l, 0, x, h => by
    have e : a = x := Option.some.inj h
    subst e
    exact List.Perm.refl _
  | a :: l, i + 1, x, h => by
    rw [List.eraseIdx_cons_succ]
    exact (List.Perm.swap a x _).trans ((erase_perm (l := l) (i := i) (x := x) h).cons a)
/-- an order that is picked: a row of the same -/
theorem pick_perm {α : Type} (nx : Nat → Nat) : ∀ (f k : Nat) (l : List α) (out : Array α), f = l.length → (pickOrder.go nx f k l out).toList.Perm (out.toList ++ l)
  | 0, k, l, out, h => by
    have : l = [] := List.eq_nil_of_length_eq_zero h.symm
    subst this
    unfold pickOrder.go
    simp
  | f + 1, k, l, out, h => by
    unfold pickOrder.go
    have hl : nx k % l.length < l.length := Nat.mod_lt _ (by omega)
    rw [List.getElem?_eq_getElem hl]
    dsimp only
    refine (pick_perm nx f (k + 1) _ _ (by rw [List.length_eraseIdx_of_lt hl]; omega)).trans ?_
    rw [Array.toList_push, List.append_assoc]
    refine List.Perm.append_left _ ?_
    exact erase_perm (List.getElem?_eq_getElem hl)
end SX
end
section
set_option linter.all false
set_option maxRecDepth 100000
namespace SX
open PySem
section
variable {prog : Program} {w : World} {A : Around} {E : Value → Shared → Prop} {s : Shared} {b : Bool}
def kOf (e : Int × Value) : Int := match e.2 with
  | .int k _ => k
  | _ => 0
/-- the object of a set of ints whose table is good -/
structure SO (prog : Program) (w : World) (b : Bool) (S : Int → Bool) (o : Obj) (es : Array (Int × Value)) (ep : Nat) (t : SetTable) : Prop where
  ex : o.ExactSet
  da : o.data = .set es ep t
  el : ElemsOf (intKind prog w) es.toList
  me : ∀ k, S k = true ↔ ∃ e ∈ es.toList, (intKind prog w).is k e.2 = true
  sm : es.size < scanBound
  fi : t.fits es.size = true
  gd : Gd b t
  nd : (es.toList.map kOf).Nodup
def SG (prog : Program) (w : World) (b : Bool) (h : Heap) (a : Addr) (S : Int → Bool) (n : Nat) : Prop := ∃ o es ep t, h.get? a = some o ∧ SO prog w b S o es ep t ∧ es.size = n
/-- what stands at a once entries and table have been stored -/
theorem put_at {h : Heap} {a : Addr} {o : Obj} {es : Array (Int × Value)} {ep : Nat} {t : SetTable} (at_ : h.get? a = some o) (dat : o.data = .set es ep t) (es' : Array (Int × Value)) (t' : SetTable) : (h.update a (Obj.putSet es' t')).get? a = some { o with data := .set es' (ep + 1) t' } := by
  obtain ⟨c, d, da, sl⟩ := o
  cases dat
  exact Heap.get?_update_self _ at_ rfl
theorem gave_ok (c : Bool) {Q : Unit → Shared → Prop} (q : Q () s) : wpAny (model prog w) A (match c with | true => rule "set.scan.the-table-gave-way" | false => pure ()) Q E s := by
  cases c with
  | false => exact wpAny_pure q
  | true => exact wpAny_rule q
/-- a whole number's hash goes by its value, whatever the table -/
theorem value_ok (c : Bool) (k : Int) (tk : Tok) {β : Type} {f : Bool → Sem β} {Q : β → Shared → Prop} (q : wpAny (model prog w) A (f true) Q E s) : wpAny (model prog w) A (if c = true then hashByValue 8 (.int k tk) >>= f else pure true >>= f) Q E s := by
  split
  · exact wpAny_bind (wpAny_of_eq (hashByValue_scannable 8 rfl) q)
  · exact wpAny_bind (wpAny_pure q)
/-- the scan met no such number: it is laid, and the table may be laid anew -/
theorem scan_new {a : Addr} {o : Obj} {es : Array (Int × Value)} {ep : Nat} {t : SetTable} {k : Int} {tk : Tok} {Q : Option Bool → Shared → Prop} (at_ : s.heap.get? a = some o) (dat : o.data = .set es ep t) (fi : t.fits es.size = true) (gd : Gd b t) (el : ElemsOf (intKind prog w) es.toList)
    (room : es.size + 1 < scanBound) (no : es.toList.findIdx? (fun e => (intKind prog w).is k e.2) = none)
    (q : ∀ h' es2 ep2 t2, Heap.SameBut a s.heap h' → h'.get? a = some { o with data := .set es2 ep2 t2 } → es2.toList.Perm (es.toList ++ [((intKind prog w).hash k, .int k tk)]) → t2.fits es2.size = true → Gd b t2 → Q (some true) { s with heap := h' }) :
    wpAny (model prog w) A (setAddByScan a (.int k tk) ((intKind prog w).hash k) es t) Q E s := by
  have isk : (intKind prog w).is k (.int k tk) = true := by simp [intKind, Value.isInt]
  have sz : ∀ {xs : Array (Int × Value)}, xs.toList.Perm (es.toList ++ [((intKind prog w).hash k, Value.int k tk)]) → xs.size ≤ sizeLine := fun {xs} p => fits_of_scanBound (by have := p.length_eq; simp at this; omega)
  refine wpAny_bind (m := rule _) (wpAny_rule (wpAny_bind (wpAny_setScan_of isk at_ dat fi el ?_)))
  rw [no]
  have p1 := layNew_perm t es ((intKind prog w).hash k) (.int k tk)
  have f1 := layNew_fits t es ((intKind prog w).hash k) (.int k tk)
  have g1 := gd.lay es ((intKind prog w).hash k) (.int k tk)
  rw [Array.toList_push] at p1
  generalize layNew t es ((intKind prog w).hash k) (.int k tk) = new at p1 f1 g1 ⊢
  obtain ⟨es1, t1, wd, gave⟩ := new
  have o1 := put_at at_ dat es1 t1
  refine wpAny_bind (gave_ok gave (value_ok t1.plain k tk (wpAny_bind (m := storeSet a es1 t1) (wpAny_storeSet_of at_ dat ?_ (sz p1)))))
  have sb1 := Heap.SameBut.update s.heap a (Obj.putSet es1 t1)
  show wpAny _ _ (if (!wd && t1.tooFull) = true then _ else _) _ _ _
  split
  · have p2 := relayAll_perm t1 es1 (SetTable.grown es1.size)
    exact wpAny_bind (gave_ok _ (wpAny_bind (wpAny_storeSet_of o1 rfl (wpAny_pure (q _ _ _ _ (sb1.trans (Heap.SameBut.update _ a _)) (put_at o1 rfl _ _) (p2.trans p1) (relayAll_fits t1 es1 _) (g1.relay es1 _))) (sz (p2.trans p1)))))
  · exact wpAny_pure (q _ _ _ _ sb1 o1 p1 f1 g1)
/-- one more number among the entries, in whatever order they come to stand -/
theorem SO.grow {o : Obj} {es es2 : Array (Int × Value)} {ep ep2 : Nat} {t t2 : SetTable} {S : Int → Bool} {k : Int} {tk : Tok} (x : SO prog w b S o es ep t) (out : S k = false) (p : es2.toList.Perm (es.toList ++ [((intKind prog w).hash k, .int k tk)])) (room : es.size + 1 < scanBound) (fi : t2.fits es2.size = true) (gd : Gd b t2) :
    SO prog w b (fun k' => S k' || decide (k' = k)) { o with data := .set es2 ep2 t2 } es2 ep2 t2 ∧ es2.size = es.size + 1 := by
  have isk : (intKind prog w).is k (.int k tk) = true := by simp [intKind, Value.isInt]
  have z : es2.size = es.size + 1 := by simpa using p.length_eq
  refine ⟨⟨x.ex, rfl, (x.el.push isk rfl).perm p, mem_push_iff isk x.me p, z ▸ room, fi, gd, (p.map kOf).nodup_iff.mpr ?_⟩, z⟩
  rw [List.map_append]
  refine List.nodup_append.mpr ⟨x.nd, by simp, fun c hc d hd e => ?_⟩
  obtain ⟨en, he, rfl⟩ := List.mem_map.mp hc
  obtain ⟨⟨k2, is2, _⟩, _⟩ := x.el en he
  obtain ⟨t3, e3⟩ := Value.isInt_shape (show Value.isInt k2 en.2 = true from is2)
  have same : k2 = k := by
    have d1 : d = k := by simpa [kOf] using hd
    rw [← d1, ← e]
    unfold kOf
    rw [e3]
  have inS := (x.me k2).mpr ⟨en, he, is2⟩
  rw [same, out] at inS
  cases inS
theorem add_ok {a : Addr} {S : Int → Bool} {n : Nat} {k : Int} {tk : Tok} {Q : Bool → Shared → Prop} (hS : SG prog w b s.heap a S n) (hr : n + 1 < scanBound)
    (h : ∀ h', Heap.SameBut a s.heap h' → SG prog w b h' a (fun k' => S k' || decide (k' = k)) (if S k then n else n + 1) → Q (!S k) { s with heap := h' }) : wpAny (model prog w) A (setAddHashed a (.int k tk) ((intKind prog w).hash k)) Q E s := by
  obtain ⟨o, es, ep, t, at_, x, rfl⟩ := hS
  have isk : (intKind prog w).is k (.int k tk) = true := by simp [intKind, Value.isInt]
  have way : byScan (.int k tk) es = true := byScan_of rfl x.sm x.el
  unfold setAddHashed
  refine wpAny_holding (wpAny_bind (m := setState a) (wpAny_setState_of at_ x.da x.fi ?_))
  show wpAny _ _ (if byScan (.int k tk) es = true then _ else _) _ _ _
  rw [if_pos way]
  cases met : es.toList.findIdx? (fun e => (intKind prog w).is k e.2) with
  | none =>
    have out : S k = false := Bool.eq_false_iff.mpr fun z => by
      obtain ⟨e, he, is2⟩ := (x.me k).mp z
      exact absurd is2 (by rw [List.findIdx?_eq_none_iff.mp met e he]; exact Bool.false_ne_true)
    rw [out] at h
    refine wpAny_bind (scan_new at_ x.da x.fi x.gd x.el hr met fun h' es2 ep2 t2 sb e2 p f2 g2 => wpAny_pure (h h' sb ?_))
    obtain ⟨x2, z2⟩ := x.grow (ep2 := ep2) out p hr f2 g2
    exact ⟨_, es2, ep2, t2, e2, x2, z2⟩
  | some j =>
    have there : S k = true := by
      obtain ⟨hj, is2, _⟩ := List.findIdx?_eq_some_iff_getElem.mp met
      exact (x.me k).mpr ⟨_, List.getElem_mem hj, is2⟩
    have all : (fun k' => S k' || decide (k' = k)) = S := by
      funext k'
      by_cases z : k' = k
      · rw [z, there]; rfl
      · simp [z]
    have fin := h s.heap (Heap.SameBut.refl a s.heap)
    rw [all, there] at fin
    refine wpAny_bind (m := setAddByScan a (.int k tk) ((intKind prog w).hash k) es t) (wpAny_bind (m := rule _) (wpAny_rule (wpAny_bind (wpAny_setScan_of isk at_ x.da x.fi x.el ?_))))
    rw [met]
    exact wpAny_pure (wpAny_pure (fin ⟨o, es, ep, t, at_, x, rfl⟩))
end
end SX
end
section
set_option linter.all false
set_option maxRecDepth 100000
namespace SX
open PySem
theorem sl_next : Slot "set_iterator" "__next__" "set_iterator.__next__" := .of (owner := "set_iterator") (n := "__next__") (by rw [typeLookup_type, builtinLookup_eq_fast]; kernel_rfl) (by decide +kernel) (by decide +kernel) (by decide +kernel) (by first | exact .inl (by decide +kernel) | exact .inr (by decide +kernel)) (by rw [isSubtype_type]; kernel_rfl)
theorem en_next : entryFor table "set_iterator.__next__" = some Builtin.«set_iterator.__next__» := entryFor_of_tree (by kernel_rfl)
theorem ow_next : Manifest.owners.lookup (String.ofList ['r', 'o', 't', 'a', 'r', 'e', 't', 'i', '_', 't', 'e', 's'].reverse) = some Manifest.sig_set_iterator := by kernel_rfl
theorem ar_next (a : Value) : argsOk "set_iterator.__next__" ⟨[a], []⟩ := by
  unfold argsOk; rw [signature?_of (id := "set_iterator.__next__") (n := ['_', '_', 't', 'x', 'e', 'n', '_', '_']) (o := ['r', 'o', 't', 'a', 'r', 'e', 't', 'i', '_', 't', 'e', 's']) (by kernel_rfl) ow_next]; kernel_rfl
theorem en_iter : entryFor table "set.__iter__" = some Builtin.«frozenset.__iter__» := entryFor_alias (id' := "frozenset.__iter__") (by kernel_rfl) rfl (by decide +kernel) (by kernel_rfl)
section
variable {prog : Program} {w : World} {A : Around} {E : Value → Shared → Prop} {s : Shared} {b : Bool}
theorem ch_ok {M : Model} {src : Source} {n : Nat} {Q : Nat → Shared → Prop} (hn : n ≠ 0) (h : ∀ i d', i < n → Q i { s with drawn := d' }) : wpAny M A (choose src n) Q E s := fun Γ p hΓ => ⟨hn, h _ _ (Nat.mod_lt _ (Nat.pos_of_ne_zero hn))⟩
theorem draw_ok {M : Model} {α : Type} : ∀ (n : Nat) (xs : List α) (s : Shared) (Q : List α → Shared → Prop), n = xs.length → (∀ ys d', ys.Perm xs → Q ys { s with drawn := d' }) → wpAny M A (drawOrder n xs) Q E s
  | 0, xs, s, Q, hn, h => by
    have e : xs = [] := List.eq_nil_of_length_eq_zero hn.symm
    subst e
    exact wpAny_pure (by have := h [] s.drawn (List.Perm.refl _); cases s; exact this)
  | n + 1, [], s, Q, hn, h => by cases hn
  | n + 1, x :: xs, s, Q, hn, h => by
    unfold drawOrder
    refine wpAny_bind (ch_ok (by simp) fun i d' hi => ?_)
    have hi' : i < (x :: xs).length := hi
    rw [List.getElem?_eq_getElem hi']
    dsimp only
    refine wpAny_bind (draw_ok n ((x :: xs).eraseIdx i) _ _ (by rw [List.length_eraseIdx_of_lt hi']; simp at hn ⊢; omega) fun ys d2 hp => wpAny_pure (h _ _ ?_))
    exact (hp.cons _).trans (erase_perm (List.getElem?_eq_getElem hi'))
theorem txt_ok {Q : Bool → Shared → Prop} (h : Q (w.params.followText "set-order") s) : wpAny (model prog w) A setsByText Q E s := by
  unfold setsByText
  exact wpAny_bind (wpAny_askSetting (wpAny_pure h))
variable {a : Addr} {o : Obj} {es : Array (Int × Value)} {ep : Nat} {t : SetTable} {S : Int → Bool}
/-- the next one, where the order is the text's -/
theorem nextT {sl i : Nat} {Q : Option (Value × Nat) → Shared → Prop} (ho : s.heap.get? a = some o) (x : SO prog w b S o es ep t) (ht : w.params.followText "set-order" = true)
    (h : Q (((pickOrder (w.params.setOrder a ep) es)[i]?).map fun e => (e.2, sl)) s) : wpAny (model prog w) A (setNext a sl i ep) Q E s := by
  unfold setNext
  refine wpAny_bind (wpAny_setState_of ho x.da x.fi ?_)
  dsimp only
  refine wpAny_bind (txt_ok ?_)
  rw [ht, if_pos rfl, if_neg (by simp)]
  refine wpAny_bind ?_
  unfold setWalk
  refine wpAny_bind (wpAny_setState_of ho x.da x.fi ?_)
  dsimp only
  refine wpAny_bind (txt_ok ?_)
  rw [ht, if_pos rfl]
  exact wpAny_bind (wpAny_askSetting (wpAny_pure (wpAny_pure h)))
/-- where it is the table's -/
theorem nextP {sl i : Nat} {Q : Option (Value × Nat) → Shared → Prop} (ho : s.heap.get? a = some o) (x : SO prog w true S o es ep t) (ht : w.params.followText "set-order" = false) (hd : (!t.plain && decide (es.size > 1)) = false)
    (h : Q (match es[SetTable.below t.place sl]?, t.place[SetTable.below t.place sl]? with | some (_, y), some j => some (y, j + 1) | _, _ => none) s) : wpAny (model prog w) A (setNext a sl i ep) Q E s := by
  unfold setNext
  refine wpAny_bind (wpAny_setState_of ho x.da x.fi ?_)
  dsimp only
  refine wpAny_bind (txt_ok ?_)
  rw [ht, if_neg Bool.false_ne_true]
  show wpAny (model prog w) A (if (!t.plain && decide (es.size > 1)) = true then _ else _) Q E s
  rw [hd, if_neg Bool.false_ne_true]
  refine wpAny_bind ?_
  show wpAny (model prog w) A (if (!t.led && !es.isEmpty) = true then _ else _) _ E s
  rw [x.gd.led, if_neg (by simp)]
  exact wpAny_pure (wpAny_pure h)
theorem nextD {pl : Nat} {e : Int × Value} {Q : Value → Shared → Prop} (ho : s.heap.get? a = some o) (x : SO prog w b S o es ep t) (he : es[pl]? = some e) (h : Q e.2 s) : wpAny (model prog w) A (setNextDrawn a pl ep) Q E s := by
  unfold setNextDrawn
  refine wpAny_bind (wpAny_setState_of ho x.da x.fi ?_)
  dsimp only
  rw [if_neg (by simp), he]
  exact wpAny_pure h
end
end SX
end
section
set_option linter.all false
set_option maxRecDepth 100000
namespace SX
open PySem
def ItAt (h : Heap) (I : Addr) (first : Value) (i : Nat) (a : Addr) (n ep : Nat) : Prop := ∃ oi, h.get? I = some oi ∧ oi.cls = .type "set_iterator" ∧ oi.data = .fields #[first, rawInt i, .ref a, rawInt n, rawInt ep]
section
variable {prog : Program} {w : World} {A : Around} {E : Value → Shared → Prop} {s : Shared}
variable {b : Bool} {a I T : Addr} {o : Obj} {es : Array (Int × Value)} {ep : Nat} {t : SetTable} {S : Int → Bool}
/-- how it is walked: by the text's order, by the table's, by a drawn one (which stands at T) -/
inductive Md (w : World) (a T : Addr) (es : Array (Int × Value)) (ep : Nat) (t : SetTable) (h : Heap) (ws : List Value) (first : Value) (i : Nat) : Prop
  | txt (sl : Nat) : w.params.followText "set-order" = true → first = rawInt sl → ws = (pickOrder (w.params.setOrder a ep) es).toList.map (·.2) → Md w a T es ep t h ws first i
  | tab (sl : Nat) : w.params.followText "set-order" = false → (!t.plain && decide (es.size > 1)) = false → first = rawInt sl → SetTable.below t.place sl = i → ws = es.toList.map (·.2) → Md w a T es ep t h ws first i
  | drw (ot : Obj) (n : Nat) (ps : List Nat) : w.params.followText "set-order" = false → first = .ref T → h.get? T = some ot → ot.data = .seq (ps.map fun (p : Nat) => rawInt p).toArray n → ws.length = ps.length → (∀ (k p : Nat), ps[k]? = some p → ∃ e : Int × Value, es[p]? = some e ∧ ws[k]? = some e.2) → Md w a T es ep t h ws first i
def St (w : World) (a I T : Addr) (o : Obj) (es : Array (Int × Value)) (ep : Nat) (t : SetTable) (ws : List Value) (i : Nat) (s : Shared) : Prop := s.heap.get? a = some o ∧ ∃ first, ItAt s.heap I first i a es.size ep ∧ Md w a T es ep t s.heap ws first i
theorem set_fields {h : Heap} {oi : Obj} {vs : Array Value} {k : Nat} {v : Value} (ho : h.get? I = some oi) (hc : oi.cls = .type "set_iterator") (hd : oi.data = .fields vs) :
    ∃ oj, (h.update I (Obj.mapFields (·.setIfInBounds k v))).get? I = some oj ∧ oj.cls = .type "set_iterator" ∧ oj.data = .fields (vs.setIfInBounds k v) :=
  ⟨_, Heap.get?_update_self _ ho (Obj.isFreed_of_fields (Obj.data_mapFields hd _)), (Obj.cls_mapFields ..).trans hc, by rw [Obj.data_mapFields hd]⟩
theorem st_item (hb : b = !w.params.followText "set-order") (x : SO prog w b S o es ep t) (ha : a ≠ I) (hTI : T ≠ I) {ws : List Value} {i : Nat} {v : Value} {Q : Option Value → Shared → Prop} (st : St w a I T o es ep t ws i s) (hv : ws[i]? = some v)
    (hQ : ∀ s', St w a I T o es ep t ws (i + 1) s' → Moved [I] Eq s s' → Q (some v) s') : wpAny (model prog w) A (pyNext (.ref I)) Q E s := by
  obtain ⟨ho, first, ⟨oi, hoi, hci, hdi⟩, md⟩ := st
  have hT : s.TypeIs (.ref I) "set_iterator" := ⟨oi, hoi, hci⟩
  unfold pyNext
  refine wpAny_bind (wpAny_attempt (wpAny_callSpecial?_slot (name := Str.ofString "__next__") hT sl_next (wpAny_call_entry sl_next hT en_next ?_ (ar_next _))))
  unfold Builtin.«set_iterator.__next__»
  refine wpAny_bind (m := slotArgs "__next__" 0 _) (wpAny_pure ?_)
  refine wpAny_bind (wpAny_fieldsOf hoi hdi ?_)
  dsimp only [rawInt]
  refine wpAny_bind (wpAny_setEntries_of ho x.da x.fi ?_)
  rw [if_neg (by simp)]
  have e1 : ((i : Int)).toNat = i := Int.toNat_natCast i
  have e2 : ((ep : Int)).toNat = ep := Int.toNat_natCast ep
  have two : ∀ (nx : Nat), (∀ h', (∀ c u, c ≠ I → s.heap.get? c = some u → h'.get? c = some u) → Md w a T es ep t h' ws (rawInt nx) (i + 1)) →
      wpAny (model prog w) A.in1 (do setField (.ref I) 0 (.int nx 0); setField (.ref I) 1 (.int (i + 1) 0); ret v : Sem PySem.Fin) (fun fin s' => ∃ r, fin = PySem.Fin.done (.ret r) ∧ wpAny (model prog w) A (pure (some r)) Q E s')
        (fun e s' => wpAny (model prog w) A (do let q ← isInstance e (.type "StopIteration"); if q = true then pure none else throw e) Q E s') s := by
    intro nx hm
    refine wpAny_bind (wpAny_setField hoi hdi (by simp) ?_)
    obtain ⟨oj, hoj, hcj, hdj⟩ := set_fields (k := 0) (v := .int nx 0) hoi hci hdi
    refine wpAny_bind (wpAny_setField hoj hdj (by simp) ?_)
    obtain ⟨ok, hok, hck, hdk⟩ := set_fields (k := 1) (v := .int ((i : Int) + 1) 0) hoj hcj hdj
    have sb := (Heap.SameBut.update s.heap I (Obj.mapFields (·.setIfInBounds 0 (.int nx 0)))).trans (Heap.SameBut.update _ I (Obj.mapFields (·.setIfInBounds 1 (.int ((i : Int) + 1) 0))))
    have kp : ∀ c u, c ≠ I → s.heap.get? c = some u → ((s.heap.update I (Obj.mapFields (·.setIfInBounds 0 (.int nx 0)))).update I (Obj.mapFields (·.setIfInBounds 1 (.int ((i : Int) + 1) 0)))).get? c = some u := fun c u hc e => (sb.2 c hc).trans e
    refine wpAny_pure ⟨_, rfl, wpAny_pure (hQ _ ⟨kp _ _ ha ho, rawInt nx, ⟨ok, hok, hck, ?_⟩, hm _ kp⟩ ⟨fun c u hc e => kp c u (by simpa using hc) e, rfl, rfl, rfl, Nat.le_refl _⟩)⟩
    rw [hdk]
    simp [rawInt]
  cases md with
  | txt sl h1 h2 h3 =>
    subst h2
    dsimp only [rawInt]
    refine wpAny_bind ?_
    rw [e1, e2, Int.toNat_natCast]
    refine nextT ho x h1 ?_
    have hp : (pickOrder (w.params.setOrder a ep) es)[i]?.map (·.2) = some v := by
      rw [h3, List.getElem?_map, Array.getElem?_toList] at hv
      exact hv
    obtain ⟨q, hq, hq2⟩ := Option.map_eq_some_iff.mp hp
    rw [hq]
    subst hq2
    exact two sl fun h' _ => .txt sl h1 rfl h3
  | tab sl h1 h2 h3 h4 h5 =>
    subst h3
    dsimp only [rawInt]
    refine wpAny_bind ?_
    rw [e1, e2, Int.toNat_natCast]
    have hbt : b = true := by rw [hb, h1]; rfl
    subst hbt
    refine nextP ho x h1 h2 ?_
    rw [h4]
    have hp : es[i]?.map (·.2) = some v := by
      rw [h5, List.getElem?_map, Array.getElem?_toList] at hv
      exact hv
    obtain ⟨q, hq, hq2⟩ := Option.map_eq_some_iff.mp hp
    obtain ⟨hlt, _⟩ := Array.getElem?_eq_some_iff.mp hq
    have hpl : t.place.size = es.size := by
      have := x.fi
      simp only [SetTable.fits, Bool.and_eq_true, beq_iff_eq] at this
      exact this.1
    have hj : t.place[i]? = some (t.place[i]'(by omega)) := Array.getElem?_eq_getElem (by omega)
    rw [hq, hj]
    obtain ⟨q1, q2⟩ := q
    dsimp only at hq2 ⊢
    subst hq2
    exact two _ fun h' _ => .tab _ h1 h2 rfl (below_next x.gd.ri hj) h5
  | drw ot n ps h1 h2 h3 h4 h5 h6 =>
    subst h2
    dsimp only
    have hil : i < ps.length := by rw [← h5]; exact (List.getElem?_eq_some_iff.mp hv).1
    have hp : ps[i]? = some ps[i] := List.getElem?_eq_getElem hil
    obtain ⟨q, hq, hq2⟩ := h6 i _ hp
    rw [hv] at hq2
    have hq3 : v = q.2 := Option.some.inj hq2
    subst hq3
    refine wpAny_bind ?_
    unfold seqItems?
    refine wpAny_bind (wpAny_load h3 ?_)
    rw [h4]
    refine wpAny_pure ?_
    dsimp only
    have hpp : (List.map (fun (p : Nat) => rawInt p) ps).toArray[((i : Int)).toNat]? = some (.int (ps[i] : Nat) 0) := by
      rw [e1]
      simp [hil, rawInt]
    rw [hpp]
    dsimp only
    rw [e2, Int.toNat_natCast]
    refine wpAny_bind (nextD ho x hq ?_)
    refine wpAny_bind (wpAny_setField hoi hdi (by simp) ?_)
    obtain ⟨oj, hoj, hcj, hdj⟩ := set_fields (k := 1) (v := .int ((i : Int) + 1) 0) hoi hci hdi
    have sb := Heap.SameBut.update s.heap I (Obj.mapFields (·.setIfInBounds 1 (.int ((i : Int) + 1) 0)))
    have kp : ∀ c u, c ≠ I → s.heap.get? c = some u → (s.heap.update I (Obj.mapFields (·.setIfInBounds 1 (.int ((i : Int) + 1) 0)))).get? c = some u := fun c u hc e => (sb.2 c hc).trans e
    refine wpAny_pure ⟨_, rfl, wpAny_pure (hQ _ ⟨kp _ _ ha ho, .ref T, ⟨oj, hoj, hcj, ?_⟩, .drw ot n ps h1 rfl (kp _ _ hTI h3) h4 h5 h6⟩ ⟨fun c u hc e => kp c u (by simpa using hc) e, rfl, rfl, rfl, Nat.le_refl _⟩)⟩
    rw [hdj]
    simp [rawInt]
end
end SX
end
section
set_option linter.all false
set_option maxRecDepth 100000
namespace SX
open PySem
theorem sl_iter2 : Slot "set_iterator" "__iter__" "set_iterator.__iter__" := .of (owner := "set_iterator") (n := "__iter__") (by rw [typeLookup_type, builtinLookup_eq_fast]; kernel_rfl) (by decide +kernel) (by decide +kernel) (by decide +kernel) (by first | exact .inl (by decide +kernel) | exact .inr (by decide +kernel)) (by rw [isSubtype_type]; kernel_rfl)
theorem en_iter2 : entryFor table "set_iterator.__iter__" = some Builtin.«dict_keyiterator.__iter__» := entryFor_alias (id' := "dict_keyiterator.__iter__") (by kernel_rfl) rfl (by decide +kernel) (by kernel_rfl)
theorem ar_iter2 (a : Value) : argsOk "set_iterator.__iter__" ⟨[a], []⟩ := by
  unfold argsOk; rw [signature?_of (id := "set_iterator.__iter__") (n := ['_', '_', 'r', 'e', 't', 'i', '_', '_']) (o := ['r', 'o', 't', 'a', 'r', 'e', 't', 'i', '_', 't', 'e', 's']) (by kernel_rfl) ow_next]; kernel_rfl
section
variable {prog : Program} {w : World} {A : Around} {E : Value → Shared → Prop} {s : Shared}
variable {b : Bool} {a I T : Addr} {o : Obj} {es : Array (Int × Value)} {ep : Nat} {t : SetTable} {S : Int → Bool}
theorem stop_ok (hh : A.handled = none) {Q : Option Value → Shared → Prop} (h : ∀ h', (∀ c u, s.heap.get? c = some u → h'.get? c = some u) → Q none { s with heap := h' }) :
    wpAny (model prog w) A.in1 (do let x ← newExc (.type "StopIteration") []; raiseNew x : Sem PySem.Fin) (fun fin s' => ∃ r, fin = PySem.Fin.done (.ret r) ∧ wpAny (model prog w) A (pure (some r)) Q E s')
      (fun e s' => wpAny (model prog w) A (do let q ← isInstance e (.type "StopIteration"); if q = true then pure none else throw e) Q E s') s := by
  refine wpAny_bind ?_
  simp only [newExc, newTuple]
  refine wpAny_bind (wpAny_newObj_type ?_ (by size_fits))
  refine wpAny_bind (m := firstArgMember _ _) (wpAny_of_eq (a := Value.none) (by first | rfl | (simp only [firstArgMember]; rfl)) ?_)
  refine wpAny_newObj_type ?_ (by size_fits)
  simp only [raiseNew]
  refine wpAny_bind (wpAny_handled ?_)
  rw [show A.in1.handled = none from hh]
  refine wpAny_bind (wpAny_pure (wpAny_throw ?_))
  exact wpAny_bind (wpAny_isInstance (T := "StopIteration") (b := true) ⟨_, Heap.get?_push_size _ rfl, rfl⟩ isSubtype_stop (wpAny_pure (h _ fun c u e => Heap.get?_push_of_some _ (Heap.get?_push_of_some _ e))))
theorem st_done (hh : A.handled = none) (hb : b = !w.params.followText "set-order") (x : SO prog w b S o es ep t) {ws : List Value} (hw : ws.length = es.size) {Q : Option Value → Shared → Prop} (st : St w a I T o es ep t ws ws.length s)
    (hQ : ∀ s', Moved [I] Eq s s' → Q none s') : wpAny (model prog w) A (pyNext (.ref I)) Q E s := by
  obtain ⟨ho, first, ⟨oi, hoi, hci, hdi⟩, md⟩ := st
  have hT : s.TypeIs (.ref I) "set_iterator" := ⟨oi, hoi, hci⟩
  unfold pyNext
  refine wpAny_bind (wpAny_attempt (wpAny_callSpecial?_slot (name := Str.ofString "__next__") hT sl_next (wpAny_call_entry sl_next hT en_next ?_ (ar_next _))))
  unfold Builtin.«set_iterator.__next__»
  refine wpAny_bind (m := slotArgs "__next__" 0 _) (wpAny_pure ?_)
  refine wpAny_bind (wpAny_fieldsOf hoi hdi ?_)
  dsimp only [rawInt]
  refine wpAny_bind (wpAny_setEntries_of ho x.da x.fi ?_)
  rw [if_neg (by simp)]
  have e1 : ((ws.length : Int)).toNat = ws.length := Int.toNat_natCast _
  have e2 : ((ep : Int)).toNat = ep := Int.toNat_natCast ep
  have fin : ∀ h0 : Heap, (∀ c u, c ≠ I → s.heap.get? c = some u → h0.get? c = some u) → ∀ h', (∀ c u, h0.get? c = some u → h'.get? c = some u) → Q none { s with heap := h' } := fun h0 k0 h' k' =>
    hQ _ ⟨fun c u hc e => k' c u (k0 c u (by simpa using hc) e), rfl, rfl, rfl, Nat.le_refl _⟩
  cases md with
  | txt sl h1 h2 h3 =>
    subst h2
    dsimp only [rawInt]
    refine wpAny_bind ?_
    rw [e1, e2, Int.toNat_natCast]
    refine nextT ho x h1 ?_
    have hn : (pickOrder (w.params.setOrder a ep) es)[ws.length]? = none := by
      rw [Array.getElem?_eq_none_iff, h3, List.length_map, Array.length_toList]
      exact Nat.le_refl _
    rw [hn]
    dsimp only [Option.map_none]
    refine wpAny_bind (wpAny_setField hoi hdi (by simp) ?_)
    exact stop_ok hh (fin _ fun c u hc e => ((Heap.SameBut.update s.heap I _).2 c hc).trans e)
  | tab sl h1 h2 h3 h4 h5 =>
    subst h3
    dsimp only [rawInt]
    refine wpAny_bind ?_
    rw [e1, e2, Int.toNat_natCast]
    have hbt : b = true := by rw [hb, h1]; rfl
    subst hbt
    refine nextP ho x h1 h2 ?_
    have hn : es[SetTable.below t.place sl]? = none := by
      rw [h4, Array.getElem?_eq_none_iff, hw]
      exact Nat.le_refl _
    rw [hn]
    dsimp only
    refine wpAny_bind (wpAny_setField hoi hdi (by simp) ?_)
    exact stop_ok hh (fin _ fun c u hc e => ((Heap.SameBut.update s.heap I _).2 c hc).trans e)
  | drw ot n ps h1 h2 h3 h4 h5 h6 =>
    subst h2
    dsimp only
    refine wpAny_bind ?_
    unfold seqItems?
    refine wpAny_bind (wpAny_load h3 ?_)
    rw [h4]
    refine wpAny_pure ?_
    dsimp only
    have hpp : (List.map (fun (p : Nat) => rawInt p) ps).toArray[((ws.length : Int)).toNat]? = none := by
      rw [e1, Array.getElem?_eq_none_iff]
      simp [h5]
    rw [hpp]
    dsimp only
    refine wpAny_bind (wpAny_setField hoi hdi (by simp) ?_)
    obtain ⟨oj, hoj, hcj, hdj⟩ := set_fields (k := 0) (v := .int 0 0) hoi hci hdi
    refine wpAny_bind (wpAny_setField hoj hdj (by simp) ?_)
    have sb := (Heap.SameBut.update s.heap I (Obj.mapFields (·.setIfInBounds 0 (.int 0 0)))).trans (Heap.SameBut.update _ I (Obj.mapFields (·.setIfInBounds 2 .none)))
    exact stop_ok hh (fin _ fun c u hc e => (sb.2 c hc).trans e)
theorem walk (hh : A.handled = none) (hb : b = !w.params.followText "set-order") (x : SO prog w b S o es ep t) (ha : a ≠ I) (hTI : T ≠ I) {ws : List Value} (hw : ws.length = es.size) :
    WalksS prog w A I [I, a, T] [I] Eq ws.length (fun i v => ws[i]? = some v) (St w a I T o es ep t ws) where
  sub := fun c hc => by simp at hc; simp [hc]
  grefl := fun _ => rfl
  gtrans := fun _ _ _ p q => p.trans q
  frame := fun i s h' tk st _ hk => by
    obtain ⟨ho, first, ⟨oi, hoi, hci, hdi⟩, md⟩ := st
    refine ⟨hk a (by simp) _ ho, first, ⟨oi, hk I (by simp) _ hoi, hci, hdi⟩, ?_⟩
    cases md with
    | txt sl h1 h2 h3 => exact .txt sl h1 h2 h3
    | tab sl h1 h2 h3 h4 h5 => exact .tab sl h1 h2 h3 h4 h5
    | drw ot n ps h1 h2 h3 h4 h5 h6 => exact .drw ot n ps h1 h2 (hk T (by simp) _ h3) h4 h5 h6
  item := fun i s Q E hi st hQ => st_item hb x ha hTI st (List.getElem?_eq_getElem hi) fun s' st' m => hQ _ s' (List.getElem?_eq_getElem hi) st' m
  done := fun s Q E st hQ => st_done hh hb x hw st hQ
  self := fun i s Q E st hQ => by
    obtain ⟨_, _, ⟨oi, hoi, hci, _⟩, _⟩ := st
    have hT : s.TypeIs (.ref I) "set_iterator" := ⟨oi, hoi, hci⟩
    exact wpAny_pyIter_slot hT sl_iter2 (wpAny_call_entry sl_iter2 hT en_iter2 (show wpAny _ _ (ret (.ref I)) _ _ s from wpAny_pure ⟨_, rfl, "set_iterator", _, hT, sl_next.lookup, hQ⟩) (ar_iter2 _))
/-- iter(a): in one of the orders -/
theorem iter_ok (hb : b = !w.params.followText "set-order") (x : SO prog w b S o es ep t) (ho : s.heap.get? a = some o) {Q : Value → Shared → Prop}
    (h : ∀ I T ws h' d', s.heap.objs.size ≤ I → T ≠ I → (T = a ∨ s.heap.objs.size ≤ T) → (∀ c u, s.heap.get? c = some u → h'.get? c = some u) → ws.Perm (es.toList.map (·.2)) → St w a I T o es ep t ws 0 { s with heap := h', drawn := d' } → Q (.ref I) { s with heap := h', drawn := d' }) :
    wpAny (model prog w) A (pyIter (.ref a)) Q E s := by
  have hT : s.TypeIs (.ref a) "set" := ⟨o, ho, x.ex.1⟩
  refine wpAny_pyIter_slot hT F.slot_set_iter (wpAny_call_entry F.slot_set_iter hT en_iter ?_ (F.args_set_iter_1 _))
  unfold Builtin.«frozenset.__iter__»
  refine wpAny_bind (m := Builtin.Frozenset.slot0 "__iter__" _) (wpAny_pure ?_)
  refine wpAny_bind (m := Builtin.Frozenset.sizeOf _) ?_
  unfold Builtin.Frozenset.sizeOf
  refine wpAny_bind (wpAny_setEntries_of ho x.da x.fi (wpAny_pure ?_))
  refine wpAny_bind ?_
  unfold setDrawn
  refine wpAny_bind (wpAny_setState_of ho x.da x.fi (wpAny_bind (txt_ok (wpAny_pure ?_))))
  have mk : ∀ (h1 : Heap) (d1 : Drawn) (T : Addr) (first : Value) (ws : List Value), (∀ c u, s.heap.get? c = some u → h1.get? c = some u) → s.heap.objs.size ≤ h1.objs.size → T ≠ h1.objs.size → (T = a ∨ s.heap.objs.size ≤ T) → ws.Perm (es.toList.map (·.2)) →
      (∀ h2 : Heap, (∀ c u, h1.get? c = some u → h2.get? c = some u) → Md w a T es ep t h2 ws first 0) →
      wpAny (model prog w) A.in1 (do let e ← setEpoch a; let f ← newFields "set_iterator" [first, rawInt 0, .ref a, rawInt es.size, rawInt e]; ret f) (fun fin s' => ∃ r, fin = PySem.Fin.done (.ret r) ∧ ∃ T' q, s'.TypeIs r T' ∧ typeLookup (.type T') "__next__" = pure (some q) ∧ Q r s') E { s with heap := h1, drawn := d1 } := by
    intro h1 d1 T first ws k1 z1 hTn hTa hp md
    refine wpAny_bind (wpAny_setEpoch_of (k1 _ _ ho) x.da x.fi ?_)
    refine wpAny_bind (m := newFields _ _) (wpAny_newObj_type ?_ (by size_fits))
    refine wpAny_pure ⟨_, rfl, "set_iterator", _, ⟨_, Heap.get?_push_size _ rfl, rfl⟩, sl_next.lookup, h _ T ws _ d1 z1 hTn hTa (fun c u e => Heap.get?_push_of_some _ (k1 c u e)) hp ⟨Heap.get?_push_of_some _ (k1 _ _ ho), first, ⟨_, Heap.get?_push_size _ rfl, rfl, rfl⟩, md _ fun c u e => Heap.get?_push_of_some _ e⟩⟩
  dsimp only
  show wpAny (model prog w) A.in1 (if (!w.params.followText "set-order" && (!t.plain && decide (es.size > 1))) = true then _ else _) _ E s
  have s0 : s = { s with heap := s.heap, drawn := s.drawn } := by cases s; rfl
  have aI : a ≠ s.heap.objs.size := Nat.ne_of_lt (Heap.lt_size ho)
  by_cases ht : w.params.followText "set-order" = true
  · rw [ht, if_neg (by simp)]
    refine wpAny_bind (wpAny_pure ?_)
    rw [s0]
    refine mk s.heap s.drawn a (rawInt 0) _ (fun _ _ e => e) (Nat.le_refl _) aI (.inl rfl) ?_ fun h2 _ => .txt 0 ht rfl rfl
    refine List.Perm.map _ ?_
    have := pick_perm (w.params.setOrder a ep) es.size 0 es.toList #[] (by simp)
    simpa [pickOrder] using this
  · have ht' : w.params.followText "set-order" = false := by simpa using ht
    rw [ht']
    by_cases hd : (!t.plain && decide (es.size > 1)) = true
    · rw [hd, if_pos (by simp)]
      refine wpAny_bind (draw_ok _ _ _ _ (by simp) fun ys d' hp => ?_)
      have hl : ys.length = es.size := by rw [hp.length_eq, List.length_range]
      have hsl : es.size ≤ sizeLine := fits_of_scanBound x.sm
      refine wpAny_bind (m := newTuple _) (wpAny_newObj_type ?_ (by show (List.map _ ys).toArray.size ≤ _; rw [List.size_toArray, List.length_map, hl]; exact hsl))
      refine mk _ d' s.heap.objs.size (.ref s.heap.objs.size) (ys.map fun p => (es.toList.map (·.2)).getD p .none) (fun c u e => Heap.get?_push_of_some _ e) (by rw [Heap.size_push]; exact Nat.le_succ _) (by rw [Heap.size_push]; exact Nat.ne_of_lt (Nat.lt_succ_self _)) (.inr (Nat.le_refl _)) ?_ fun h2 k2 => ?_
      · have e3 : es.toList.map (·.2) = (List.range es.size).map fun p => (es.toList.map (·.2)).getD p .none := by
          apply List.ext_getElem?
          intro k
          rw [List.getElem?_map (l := List.range es.size)]
          by_cases hk : k < es.size
          · rw [List.getElem?_range hk]
            simp [hk]
          · rw [List.getElem?_eq_none (by simp; omega), List.getElem?_eq_none (by simp; omega)]
            rfl
        exact (hp.map _).trans (by rw [← e3])
      · refine .drw _ _ ys ht' rfl (k2 _ _ (Heap.get?_push_size _ rfl)) rfl (by rw [List.length_map]) fun k p hk => ?_
        have hpm : p ∈ List.range es.size := hp.mem_iff.mp (List.mem_of_getElem? hk)
        have hpl : p < es.size := List.mem_range.mp hpm
        refine ⟨es[p], Array.getElem?_eq_getElem hpl, ?_⟩
        rw [List.getElem?_map, hk]
        simp [hpl]
    · have hd' : (!t.plain && decide (es.size > 1)) = false := by simpa using hd
      rw [hd', if_neg (by simp)]
      refine wpAny_bind (wpAny_pure ?_)
      rw [s0]
      exact mk s.heap s.drawn a (rawInt 0) _ (fun _ _ e => e) (Nat.le_refl _) aI (.inl rfl) (List.Perm.refl _) fun h2 _ => .tab 0 ht' hd' rfl (below_zero x.gd.ri) rfl
end
end SX
end
section
set_option linter.all false
set_option maxRecDepth 100000
namespace SX
open PySem
theorem SG.at {prog : Program} {w : World} {b : Bool} {h h' : Heap} {a : Addr} {S : Int → Bool} {n : Nat} (x : SG prog w b h a S n) (k : ∀ o, h.get? a = some o → h'.get? a = some o) : SG prog w b h' a S n := by
  obtain ⟨o, es, ep, t, ho, r⟩ := x
  exact ⟨o, es, ep, t, k o ho, r⟩
section
variable {prog : Program} {w : World} {A : Around} {R : Result → Shared → Prop} {I : Addr} {fp wr : List Addr} {G : Array GenState → Array GenState → Prop} {n : Nat} {P : Nat → Value → Prop} {Z : Nat → Shared → Prop} {b : Bool}
def Met (val : Nat → Int) (i : Nat) : Int → Bool := fun q => (List.range i).any fun j => val j == q
theorem met_succ (val : Nat → Int) (i : Nat) : Met val (i + 1) = fun q => Met val i q || decide (q = val i) := by
  funext q
  unfold Met
  rw [List.range_succ, List.any_append, List.any_cons, List.any_nil, Bool.or_false]
  congr 1
  by_cases c : q = val i
  · subst c; simp
  · have : ¬ val i = q := fun z => c z.symm
    simp [c, this]
theorem upd_loop (W : WalksS prog w A.in1 I fp wr G n P Z) (D : Addr) (hD : D ∉ fp) (val : Nat → Int) (hval : ∀ i v, P i v → ∃ t, v = .int (val i) t) (hn : n + 1 < scanBound) : ∀ (k i : Nat) (s : Shared), n - i = k → i ≤ n → Z i s → (∃ m, m ≤ i ∧ SG prog w b s.heap D (Met val i) m) →
    (∀ s', Moved (D :: wr) G s s' → (∃ m, m ≤ n ∧ SG prog w b s'.heap D (Met val n) m) → R (.ok (.ret .none)) s') → codeAny (model prog w) A (.builtin "set.update.loop" ⟨[.ref D, .ref I], []⟩) R s := by
  have hDw : D ∉ wr := fun z => hD (W.sub _ z)
  have up : ∀ c ∈ wr, c ∈ D :: wr := fun c hc => List.mem_cons_of_mem _ hc
  intro k
  induction k with
  | zero =>
    intro i s hk hi st hS hR
    have : i = n := by omega
    subst this
    refine codeAny_builtin PyProof.Rows.F.entry_set_update_loop ?_
    rw [Around.under_plainId PyProof.Rows.F.plain_set_update_loop _]
    refine wpAny_bind (m := pyNext (.ref I)) (W.done s _ _ st fun s' mv => ?_)
    obtain ⟨m, hm, x⟩ := hS
    exact wpAny_pure (hR s' (mv.mono up) ⟨m, hm, x.at fun o e => mv.heap D o hDw e⟩)
  | succ k ih =>
    intro i s hk hi st hS hR
    have hlt : i < n := by omega
    refine codeAny_builtin PyProof.Rows.F.entry_set_update_loop ?_
    rw [Around.under_plainId PyProof.Rows.F.plain_set_update_loop _]
    refine wpAny_bind (m := pyNext (.ref I)) (W.item i s _ _ hlt st fun v s' hP st' mv => ?_)
    obtain ⟨tk, rfl⟩ := hval i v hP
    obtain ⟨m, hm, x⟩ := hS
    have x' : SG prog w b s'.heap D (Met val i) m := x.at fun o e => mv.heap D o hDw e
    refine wpAny_bind (m := holding [Value.int (val i) tk] (setAdd D (.int (val i) tk))) (wpAny_holding ?_)
    unfold setAdd
    refine wpAny_holding (wpAny_bind ((intKind prog w).pyHash (k := val i) (by simp [intKind, Value.isInt]) ?_))
    refine add_ok (s := { s' with toks := s'.toks + 1 }) x' (by omega) fun h' sb x2 => ?_
    refine wpAny_pure ⟨plainId_quiet PyProof.Rows.F.plain_set_update_loop _, ih (i + 1) _ (by omega) hlt (W.frame _ s' _ _ st' (Nat.le_succ _) fun c hc o e => ?_) ⟨_, ?_, by rw [met_succ]; exact x2⟩ fun s2 mv2 x3 => hR s2 (Moved.trans W.gtrans ((mv.mono up).then_heap (Nat.le_succ _) fun c o hc e => ?_) mv2) x3⟩
    · rw [sb.2 c (fun z => hD (z ▸ hc))]; exact e
    · split <;> omega
    · rw [sb.2 c (fun z => hc (z ▸ List.mem_cons_self))]; exact e
end
section
variable {prog : Program} {w : World} {A : Around} {E : Value → Shared → Prop} {s : Shared}
abbrev newO (w : World) : Obj := { cls := .type "set", dict := none, data := .set #[] 0 (.fresh 0 0 (!w.params.followText "set-order")) }
/-- a class that a type's own __new__ takes is that type itself -/
theorem own_class (a : Value) {Q : Value × List Value → Shared → Prop} (q : Q (.type "set", [a]) s) : wpAny (model prog w) A (Builtin.Frozenset.newClass "set" ⟨[.type "set", a], []⟩) Q E s := by
  have self := sub_set_self
  obtain ⟨h, g, d, t, os⟩ := s
  unfold Builtin.Frozenset.newClass
  wp_walk
  exact q
theorem new_obj {Q : Value → Shared → Prop} (q : Q (.ref s.heap.objs.size) { s with heap := s.heap.push (newO w) }) : wpAny (model prog w) A (newSet (.type "set")) Q E s :=
  wpAny_bind (wpAny_bind (wpAny_askSetting (wpAny_pure (wpAny_pure (M := model prog w) (E := E) q))))
theorem new_set (a : Value) {Q : Value → Shared → Prop} (q : Q (.ref s.heap.objs.size) { s with heap := s.heap.push (newO w) }) : codeAny (model prog w) A (.call (.builtin "set.__new__") ⟨[.type "set", a], []⟩) (wants Q E) s := by
  refine codeAny_of_tree (wpAny_bind (m := checkBuiltinCall "set.__new__" ⟨[.type "set", a], []⟩) (wpAny_of_eq (F.newCall_set_1 a) (wpAny_pure ⟨plainId_quiet F.plain_set_new _, codeAny_builtin F.entry_set_new ?_⟩)))
  exact Around.under_plainId F.plain_set_new _ ▸ wpAny_bind (own_class a (wpAny_bind (new_obj (wpAny_pure q))))
theorem wants_is {N : Value → Shared → Prop} {r : Result} (x : wants N E r s) : (∃ ob, r = .ok (.ret ob) ∧ N ob s) ∨ ∃ e, r = .error e ∧ E e s := by
  match r, x with
  | .error e, x => exact .inr ⟨e, rfl, x⟩
  | .ok (.ret ob), x => exact .inl ⟨ob, rfl, x⟩
/-- a type called, from what its __new__ and its __init__ do; the check of the latter may look at the heap -/
theorem type_call {T newId initId : String} {args : List Value} {Q N : Value → Shared → Prop} (ft : TypeCalled T newId initId) (hct : checkTypeCall T ⟨args, []⟩ = pure ()) (made : codeAny (model prog w) A.in1 (.call (.builtin newId) ⟨.type T :: args, []⟩) (wants N E) s)
    (filled : ∀ ob s1, N ob s1 → s1.TypeIs ob T ∧ codeAny (model prog w) A.in1 (.call (.builtin initId) ⟨ob :: args, []⟩) (wants (fun r s2 => r = .none ∧ Q ob s2) E) s1) : wpAny (model prog w) A (call (.type T) args) Q E s := by
  obtain ⟨n1, n2, ⟨c, tl, n3⟩, n4, _, n5, ini⟩ := ft
  refine wpAny_call (codeAny_of_tree (wpAny_pure ⟨Code.quiet_builtin _ (by decide +kernel), codeAny_builtin F.entry_type_call ?_⟩))
  refine Around.under_plain (weight_type_call_type T args []) rfl ▸ ?_
  repeat (any_goals (first | assumption | wp_step))
  refine codeAny_mono made fun r s1 hr => ?_
  rcases wants_is hr with ⟨ob, rfl, hN⟩ | ⟨e, rfl, hE⟩
  · obtain ⟨hT, ready⟩ := filled ob s1 hN
    have look := ini.lookup
    have tied := ini.bind ob
    repeat (any_goals (first | assumption | wp_step))
    refine codeAny_mono ready fun r2 s2 hr2 => ?_
    rcases wants_is hr2 with ⟨v, rfl, rfl, hQ⟩ | ⟨e, rfl, hE⟩
    · repeat (any_goals (first | assumption | wp_step))
    · exact hE
  · exact hE
theorem no_set {l : Addr} {items : Array Value} {Q : Bool → Shared → Prop} (L : s.heap.IsList l items) (q : Q false s) : wpAny (model prog w) A (Builtin.Frozenset.isAnySet (.ref l)) Q E s := by
  have a1 := F.sub_list_set
  have a2 := F.sub_list_frozenset
  obtain ⟨⟨c, dd, da, sl⟩, e, rfl, n, rfl⟩ := L
  obtain ⟨h, g, d, t, os⟩ := s
  unfold Builtin.Frozenset.isAnySet
  wp_walk
  exact q
/-- a new set, filled from a list of whole numbers -/
theorem from_list {D l : Addr} {items : Array Value} {ns : List Int} {Q : Unit → Shared → Prop} (hh : A.in1.handled = none) (new : s.heap.get? D = some (newO w)) (L : s.heap.IsList l items) (apart : D ≠ l) (hi : PyProof.Rows.IntsAre items.toList ns) (hz : items.size + 1 < scanBound)
    (q : ∀ (h' : Heap) (tk m : Nat), m ≤ items.size → SG prog w (!w.params.followText "set-order") h' D (Met (fun i => ns.getD i 0) items.size) m → (∀ c o, c ≠ D → s.heap.get? c = some o → h'.get? c = some o) → Q () { s with heap := h', toks := tk }) :
    wpAny (model prog w) A (Builtin.Frozenset.updateFrom "set.__init__" D (.ref l)) Q E s := by
  have small := Heap.lt_size new
  have lsmall : l < s.heap.objs.size := let ⟨_, e, _⟩ := L; Heap.lt_size e
  generalize hI : s.heap.objs.size = I at small lsmall
  have fp : D ∉ [I, l] := fun m => by
    rcases List.mem_cons.mp m with z | m
    · exact Nat.ne_of_lt small z
    · exact apart (List.mem_singleton.mp m)
  refine wpAny_bind (no_set L (wpAny_bind (wpAny_typeOf L.typeIs ?_)))
  rw [if_neg (show ¬ (Value.type "list" == Value.type "dict") = true by decide)]
  refine wpAny_bind (wpAny_pyIter_list L (wpAny_bind (wpAny_runValue ?_)))
  have itAt : (s.heap.push { cls := .type "list_iterator", data := .fields #[.ref l, .int 0 0] }).get? s.heap.objs.size = some { cls := .type "list_iterator", data := .fields #[.ref l, .int 0 0] } := Heap.get?_push_size _ rfl
  have old : ∀ c o, s.heap.get? c = some o → (s.heap.push { cls := .type "list_iterator", data := .fields #[.ref l, .int 0 0] }).get? c = some o := fun c o e => Heap.get?_push_of_some _ e
  rw [hI] at itAt ⊢
  refine upd_loop (b := !w.params.followText "set-order") ((Walks.list hh I l (Nat.ne_of_lt lsmall) items).toS) D fp _ (fun i v hv => hi.int_at i v (by rw [Array.getElem?_toList]; exact hv)) hz items.size 0 _ rfl (Nat.zero_le _) ⟨⟨_, itAt, rfl, rfl⟩, L.push _⟩ ⟨0, Nat.le_refl _, ?_⟩ fun s2 mv x => ?_
  · exact ⟨_, #[], 0, _, old _ _ new, ⟨⟨rfl, rfl, rfl⟩, rfl, fun e he => by simp at he, fun k => by simp [Met], by decide, rfl, Gd.fresh _ 0 0, by simp⟩, rfl⟩
  · obtain ⟨m, hm, sg⟩ := x
    obtain ⟨h2, g2, d2, t2, o2⟩ := s2
    obtain rfl : g2 = s.gens := mv.gens
    obtain rfl : d2 = s.drawn := mv.drawn
    obtain rfl : o2 = s.os := mv.os
    refine wpAny_pure (q h2 t2 m hm sg fun c o hc e => mv.heap c o (fun z => ?_) (old c o e))
    have := Heap.lt_size e
    rcases List.mem_cons.mp z with z | z
    · exact hc z
    · rcases List.mem_cons.mp z with z | z
      · exact Nat.ne_of_lt (hI ▸ this) z
      · cases z
theorem call_set {l : Addr} {items : Array Value} {ns : List Int} {Q : Value → Shared → Prop} (hh : A.handled = none) (hl : s.heap.IsList l items) (hi : PyProof.Rows.IntsAre items.toList ns) (hz : items.size + 1 < scanBound)
    (h : ∀ (h' : Heap) (tk m : Nat), m ≤ items.size → SG prog w (!w.params.followText "set-order") h' s.heap.objs.size (Met (fun i => ns.getD i 0) items.size) m → (∀ c o, s.heap.get? c = some o → h'.get? c = some o) → Q (.ref s.heap.objs.size) { s with heap := h', toks := tk }) : wpAny (model prog w) A (call (.type "set") [.ref l]) Q E s := by
  have less : ∀ c o, s.heap.get? c = some o → c ≠ s.heap.objs.size := fun c o e => Nat.ne_of_lt (Heap.lt_size e)
  have apart : s.heap.objs.size ≠ l := let ⟨o, e, _⟩ := hl; (less l o e).symm
  refine type_call (N := fun r s1 => r = .ref s.heap.objs.size ∧ s1 = { s with heap := s.heap.push (newO w) }) F.called_set (F.typeCall_set_1 _) (new_set _ ⟨rfl, rfl⟩) ?_
  rintro _ _ ⟨rfl, rfl⟩
  have new : (s.heap.push (newO w)).get? s.heap.objs.size = some (newO w) := Heap.get?_push_size _ rfl
  have ty : Shared.TypeIs { s with heap := s.heap.push (newO w) } (.ref s.heap.objs.size) "set" := ⟨_, new, rfl⟩
  refine ⟨ty, codeAny_call_builtin F.called_set.init.plain F.entry_set_init (check_set_init_1 ty ?_)⟩
  have fill := from_list (A := A.in1.in1) (E := E) (s := { s with heap := s.heap.push (newO w) }) (Q := fun _ s2 => ∃ h' tk m, s2 = { s with heap := h', toks := tk } ∧ m ≤ items.size ∧ SG prog w (!w.params.followText "set-order") h' s.heap.objs.size (Met (fun i => ns.getD i 0) items.size) m ∧ ∀ c o, s.heap.get? c = some o → h'.get? c = some o) (by simp [hh]) new (hl.push _) apart hi hz
    fun h' tk m hm sg kp => ⟨h', tk, m, rfl, hm, sg, fun c o e => kp c o (less c o e) (Heap.get?_push_of_some _ e)⟩
  unfold Builtin.«set.__init__»
  generalize hU : Builtin.Frozenset.updateFrom = U at fill ⊢
  wp_walk
  refine wpAny_mono fill (fun _ s2 x => ?_) fun _ _ z => z
  obtain ⟨h', tk, m, rfl, hm, sg, kp⟩ := x
  exact wpAny_pure ⟨rfl, h h' tk m hm sg kp⟩
end
end SX
end
section
set_option linter.all false
set_option maxRecDepth 100000
namespace SX
open PySem
def vOf : Value → Int
  | .int k _ => k
  | _ => 0
theorem ints_of : ∀ ws : List Value, (∀ v ∈ ws, ∃ k tk, v = .int k tk) → ∃ ks, PyProof.Rows.IntsAre ws ks
  | [], _ => ⟨[], .nil⟩
  | v :: ws, h => by
    obtain ⟨k, tk, rfl⟩ := h v (List.mem_cons_self ..)
    obtain ⟨ks, r⟩ := ints_of ws fun x hx => h x (List.mem_cons_of_mem _ hx)
    exact ⟨k :: ks, .cons k tk r⟩
theorem ints_eq : ∀ {ws : List Value} {ks : List Int}, PyProof.Rows.IntsAre ws ks → ks = ws.map vOf
  | _, _, .nil => rfl
  | _, _, .cons n t h => by rw [List.map_cons, ← ints_eq h]; rfl
section
variable {prog : Program} {w : World} {A : Around} {E : Value → Shared → Prop} {s : Shared} {a : Addr} {S : Int → Bool} {n : Nat}
theorem hint_set (hT : s.TypeIs (.ref a) "set") {Q : Bool → Shared → Prop} (h : Q false s) : wpAny (model prog w) A (Builtin.List.listLengthHint (.ref a)) Q E s := by
  unfold Builtin.List.listLengthHint
  refine wpAny_bind (wpAny_specialOf hT F.slot_set_len.lookup ?_)
  generalize hid : ("set.__len__" : String) = id0
  wp_delta
  rw [show splitId id0 = some ("set", "__len__") from by subst hid; decide +kernel]
  subst hid
  refine wpAny_bind (wpAny_isInstance (T := "set") (b := true) hT (by rw [isSubtype_type]; kernel_rfl) ?_)
  refine wpAny_ite_split (fun hab => absurd hab (by decide)) fun _ => ?_
  refine wpAny_ite_split (fun _ => ?_) fun hab => absurd (by decide +kernel) hab
  exact wpAny_bind (wpAny_typeOf hT (wpAny_pure h))
/-- a list extended by a set -/
theorem ext_set {R : Result → Shared → Prop} (hh : A.handled = none) (x : SG prog w (!w.params.followText "set-order") s.heap a S n) {D : Addr} (hDa : D ≠ a) (res : Value) (c0 : Nat) (hD : s.heap.get? D = some { cls := .type "list", data := .seq #[] c0 })
    (hR : ∀ h' tk d' acc c' (ks : List Int), (∀ c o, c ≠ D → s.heap.get? c = some o → h'.get? c = some o) → h'.get? D = some { cls := .type "list", dict := none, data := .seq acc c', slots := #[] } → PyProof.Rows.IntsAre acc.toList ks → ks.Nodup → (∀ k, k ∈ ks ↔ S k = true) → ks.length = n → R (.ok (.ret res)) { s with heap := h', toks := tk, drawn := d' }) :
    wpAny (model prog w) A.in1 (Builtin.List.listExtendWith (.ref D) (.ref a) res) (fun fin s' => match fin with | .done f => R (.ok f) s' | .again c' => c'.quiet = true ∧ codeAny (model prog w) A c' R s') (fun e s' => R (.error e) s') s := by
  obtain ⟨o, es, ep, t, ho, y, hn⟩ := x
  have hT : s.TypeIs (.ref a) "set" := ⟨o, ho, y.ex.1⟩
  have hsl : es.size ≤ sizeLine := fits_of_scanBound y.sm
  have hDl : D < s.heap.objs.size := Heap.lt_size hD
  unfold Builtin.List.listExtendWith
  refine wpAny_bind (wpAny_typeOf (T := "set") hT ?_)
  have n1 : Builtin.List.listSameRef (.ref D) (.ref a) = false := by simp [Builtin.List.listSameRef, hDa]
  have n2 : (Value.type "set" == Value.type "list") = false := by decide
  have n3 : (Value.type "set" == Value.type "tuple") = false := by decide
  simp only [n1, n2, n3, Bool.or_false, Bool.false_eq_true, if_false]
  refine wpAny_bind (iter_ok rfl y ho fun I T ws h1 d1 hI hTI hTa k1 hp st => ?_)
  have hwl : ws.length = es.size := by rw [hp.length_eq]; simp
  have haI : a ≠ I := Nat.ne_of_lt (Nat.lt_of_lt_of_le (Heap.lt_size ho) hI)
  have hDI : D ≠ I := Nat.ne_of_lt (Nat.lt_of_lt_of_le hDl hI)
  have hDT : D ≠ T := by
    rcases hTa with z | z
    · rw [z]; exact hDa
    · exact Nat.ne_of_lt (Nat.lt_of_lt_of_le hDl z)
  have hDf : D ∉ [I, a, T] := by
    simp only [List.mem_cons, List.not_mem_nil, or_false, not_or]
    exact ⟨hDI, hDa, hDT⟩
  have W := walk (A := A.in1) (prog := prog) hh rfl y haI hTI hwl
  have key : ∀ (h2 : Heap) (c2 tk : Nat), St w a I T o es ep t ws 0 { s with heap := h2, drawn := d1, toks := tk } → (∀ c u, c ≠ D → s.heap.get? c = some u → h2.get? c = some u) → h2.get? D = some { cls := .type "list", data := .seq #[] c2 } →
      codeAny (model prog w) A (.builtin "list.extend.loop" ⟨[.ref D, .ref I, res], []⟩) R { s with heap := h2, drawn := d1, toks := tk } := by
    intro h2 c2 tk st2 k2 hD2
    refine codeAny_extend_loopS W (by rw [hwl]; exact hsl) D hDf res ws.length 0 _ #[] c2 rfl (Nat.zero_le _) st2 hD2 (ItemsOf.nil _) fun s' acc c' mv hD' hacc => ?_
    have eacc : acc.toList = ws := by
      apply List.ext_getElem?
      intro k
      by_cases hk : k < ws.length
      · have hka : k < acc.size := by rw [hacc.1]; exact hk
        have e1 : acc[k]? = some acc[k] := Array.getElem?_eq_getElem hka
        have := hacc.2 k _ e1
        rw [Array.getElem?_toList, e1, this]
      · rw [List.getElem?_eq_none (by rw [Array.length_toList, hacc.1]; omega), List.getElem?_eq_none (by omega)]
    obtain ⟨h5, g5, d5, t5, o5⟩ := s'
    obtain rfl : s.gens = g5 := mv.gens
    obtain rfl : d5 = d1 := mv.drawn
    obtain rfl : o5 = s.os := mv.os
    have hints : ∀ v ∈ ws, ∃ k tk, v = .int k tk := fun v hv => by
      obtain ⟨e, he, rfl⟩ := List.mem_map.mp (hp.mem_iff.mp hv)
      obtain ⟨⟨k, hk, _⟩, _⟩ := y.el e he
      obtain ⟨tk, e'⟩ := Value.isInt_shape (show Value.isInt k e.2 = true from hk)
      exact ⟨k, tk, e'⟩
    obtain ⟨ks, hks⟩ : ∃ ks, PyProof.Rows.IntsAre ws ks := ints_of ws hints
    have hkv : ks = ws.map vOf := ints_eq hks
    have hpk : ks.Perm (es.toList.map kOf) := by
      rw [hkv]
      refine (hp.map vOf).trans ?_
      rw [List.map_map]
      exact List.Perm.refl _
    refine hR h5 t5 d5 acc c' ks (fun c u hc e => mv.heap c u ?_ (k2 c u hc e)) hD' (by rw [eacc]; exact hks) (hpk.nodup_iff.mpr y.nd) (fun k => ?_) (by rw [hkv, List.length_map, hwl]; exact hn)
    · simp only [List.mem_cons, List.not_mem_nil, or_false, not_or]
      exact ⟨hc, Nat.ne_of_lt (Nat.lt_of_lt_of_le (Heap.lt_size e) hI)⟩
    · rw [hpk.mem_iff, y.me k, List.mem_map]
      constructor
      · rintro ⟨e, he, rfl⟩
        refine ⟨e, he, ?_⟩
        obtain ⟨⟨k', hk', _⟩, _⟩ := y.el e he
        obtain ⟨tk, e'⟩ := Value.isInt_shape (show Value.isInt k' e.2 = true from hk')
        have : kOf e = k' := by unfold kOf; rw [e']
        rw [this]
        exact hk'
      · rintro ⟨e, he, hk⟩
        obtain ⟨tk, e'⟩ := Value.isInt_shape (show Value.isInt k e.2 = true from hk)
        exact ⟨e, he, by unfold kOf; rw [e']⟩
  have hD1 := k1 _ _ hD
  refine wpAny_bind (wpAny_holding (hint_set ⟨o, k1 _ _ ho, y.ex.1⟩ ?_))
  refine wpAny_ite_split (fun _ => ?_) fun _ => wpAny_pure ⟨plainId_quiet F.plain_extend_loop _, key h1 c0 s.toks st (fun c u _ e => k1 c u e) hD1⟩
  refine wpAny_bind (wpAny_rule ?_)
  refine wpAny_bind ?_
  show wpAny _ _ (updateSeq D (·.push .none) >>= fun _ => updateSeq D (·.pop)) _ _ _
  refine wpAny_bind (wpAny_updateSeq hD1 rfl ?_)
  have hD2 := Heap.get?_update_self (Obj.mapSeq (·.push Value.none)) hD1 rfl
  refine wpAny_updateSeq (hz := by seq_fits) hD2 rfl ?_
  have hD3 := Heap.get?_update_self (Obj.mapSeq (·.pop)) hD2 rfl
  have oth : ∀ c u, c ≠ D → h1.get? c = some u → ((h1.update D (Obj.mapSeq (·.push Value.none))).update D (Obj.mapSeq (·.pop))).get? c = some u := fun c u hc e =>
    (Heap.get?_update_other _ _ (Ne.symm hc)).trans ((Heap.get?_update_other _ _ (Ne.symm hc)).trans e)
  exact wpAny_pure ⟨plainId_quiet F.plain_extend_loop _, key _ _ s.toks (W.frame 0 _ _ s.toks st (Nat.le_refl _) fun c hc u e => oth c u (fun z => hDf (z ▸ hc)) e) (fun c u hc e => oth c u hc (k1 c u e)) hD3⟩
theorem collect_set (hh : A.handled = none) (x : SG prog w (!w.params.followText "set-order") s.heap a S n) {Q : List Value → Shared → Prop}
    (h : ∀ h' tk d' vs (ks : List Int), (∀ c o, s.heap.get? c = some o → h'.get? c = some o) → s.heap.objs.size < h'.objs.size → PyProof.Rows.IntsAre vs ks → ks.Nodup → (∀ k, k ∈ ks ↔ S k = true) → ks.length = n → Q vs { s with heap := h', toks := tk, drawn := d' }) :
    wpAny (model prog w) A (collect (.ref a)) Q E s := by
  have ha : a < s.heap.objs.size := by
    obtain ⟨o, _, _, _, ho, _⟩ := x
    exact Heap.lt_size ho
  unfold collect
  refine wpAny_bind (wpAny_runValue (codeAny_builtin PyProof.Rows.entry_proto_collect' ?_))
  show wpAny _ _ (do let q ← newList []; again (.builtin "list.__iadd__" ⟨[q, .ref a], []⟩)) _ _ s
  refine wpAny_bind (m := newList []) (wpAny_newObj_type (wpAny_pure ⟨Code.quiet_builtin _ (by decide +kernel), codeAny_builtin PyProof.Rows.entry_list_iadd' ?_⟩) (by size_fits))
  rw [Around.under_plainId (by decide +kernel) _]
  show wpAny (model prog w) A.in1 (Builtin.List.listExtendWith (.ref s.heap.objs.size) (.ref a) (.ref s.heap.objs.size)) _ _ _
  refine ext_set (R := wants (fun v s' => wpAny (model prog w) A (match v with | .ref a => (do let q ← load a; match q.data with | .seq xs _ => pure xs.toList | _ => unsupported "internal:collect") | _ => unsupported "internal:collect") Q E s') E) (s := { s with heap := s.heap.push { cls := .type "list", data := .seq #[] } }) ?_ (x.at fun o e => Heap.get?_push_of_some _ e) (Nat.ne_of_gt ha) _ 0 (Heap.get?_push_size _ rfl) fun h' tk d' acc c' ks kp hD hi hnd hm hl => ?_
  · exact hh
  refine wpAny_bind (wpAny_load hD ?_)
  exact wpAny_pure (h h' tk d' acc.toList ks (fun c o e => kp c o (Nat.ne_of_lt (Heap.lt_size e)) (Heap.get?_push_of_some _ e)) (Heap.lt_size hD) hi hnd hm hl)
/-- sorted(a) -/
theorem sorted_set (hh : A.handled = none) (x : SG prog w (!w.params.followText "set-order") s.heap a S n) (hn : n < 64) {Q : Value → Shared → Prop}
    (h : ∀ h' tk d' p its c (ns : List Int), (∀ c o, s.heap.get? c = some o → h'.get? c = some o) → s.heap.objs.size ≤ p → h'.get? p = some (PyProof.Rows.seqObj "list" its c) → PyProof.Rows.IntsAre its.toList ns → ns.Pairwise (· ≤ ·) → ns.Nodup → (∀ k, k ∈ ns ↔ S k = true) → ns.length = n → Q (.ref p) { s with heap := h', toks := tk, drawn := d' }) :
    wpAny (model prog w) A (call (.builtin "sorted") [.ref a]) Q E s := by
  refine Calls.call_function_entry PyProof.Rows.kind_sorted PyProof.Rows.plain_sorted PyProof.Rows.entry_sorted (PyProof.Rows.args_sorted1 _) ?_
  unfold Builtin.«sorted»
  refine wpAny_bind (m := checkCount "sorted" 1 1 _) (wpAny_pure ?_)
  refine wpAny_bind (collect_set (A := A.in1) hh x fun h1 tk d1 vs ks k1 z1 hi hnd hm hl => ?_)
  have hlv : vs.length = n := by rw [← hl, hi.length]
  refine wpAny_bind (m := newList vs) (wpAny_newObj_type ?_ (by show vs.toArray.size ≤ _; rw [List.size_toArray, hlv, sizeLine_eq]; omega))
  have hoL : (h1.push (PyProof.Rows.seqObj "list" vs.toArray 0)).get? h1.objs.size = some (PyProof.Rows.seqObj "list" vs.toArray 0) := Heap.get?_push_size _ rfl
  refine wpAny_bind (wpAny_holding (wpAny_call_entry PyProof.Rows.slot_list_sort ⟨_, hoL, rfl⟩ PyProof.Rows.entry_list_sort (PyProof.Rows.list_sort_tree hoL hi (by omega) fun out ns' a1 a2 a3 => ⟨_, rfl, ?_⟩) (PyProof.Rows.args_list_sort _)))
  obtain ⟨c, hc⟩ := PyProof.Rows.sortedHeap_at (vs := vs) (out := out) hoL
  refine wpAny_pure ⟨_, rfl, h _ tk d1 h1.objs.size out c ns' (fun c o e => ?_) (Nat.le_of_lt z1) hc a1 a3 (a2.nodup_iff.mpr hnd) (fun k => by rw [a2.mem_iff]; exact hm k) (by rw [a2.length_eq]; exact hl)⟩
  have e1 := k1 c o e
  have hlt := Heap.lt_size e1
  rw [PyProof.Rows.sortedHeap_old (Nat.ne_of_lt hlt) (by rw [Heap.size_push]; exact Nat.lt_succ_of_lt hlt)]
  exact Heap.get?_push_of_some _ e1
end
end SX
end
section
set_option linter.all false
set_option Elab.async false
set_option maxRecDepth 100000
set_option maxHeartbeats 2000000
namespace L2
open PySem PySem.Spec PyProof.Rows
section
variable {X : Cx} {pins : List (Addr × Obj)} {σ : St} {H : Hp} {s : Shared}
theorem Inv.draw (I : Inv X pins σ H s) (d : Drawn) : Inv X pins σ H { s with drawn := d } := ⟨I.ok, I.os, I.bare, I.base, I.loc, I.cell, I.free, I.freeC, I.pin, I.hok, I.len⟩
/-- a set of the ints ns at p -/
def SetX (P : Program) (w : World) (p : Addr) (ns : List Int) : HO := .ext fun h => ∃ m, SX.SG P w (!w.params.followText "set-order") h p (fun k => decide (k ∈ ns)) m
theorem setX_ok {P : Program} {w : World} {H : Hp} {h : Heap} {p : Addr} {ns : List Int} {m : Nat} (x : SX.SG P w (!w.params.followText "set-order") h p (fun k => decide (k ∈ ns)) m) : ObjOk P w H h p (SetX P w p ns) :=
  ⟨⟨m, x⟩, let ⟨o, _, _, _, ho, _⟩ := x; ⟨o, ho⟩, fun _ _ ⟨m, y⟩ k => ⟨m, y.at k⟩⟩
theorem met_mem (ns : List Int) : SX.Met (fun i => ns.getD i 0) ns.length = fun k => decide (k ∈ ns) := by
  funext k
  unfold SX.Met
  rw [Bool.eq_iff_iff, List.any_eq_true, decide_eq_true_eq]
  constructor
  · rintro ⟨j, hj, e⟩
    have hj' : j < ns.length := List.mem_range.mp hj
    have e' : ns.getD j 0 = k := by simpa using e
    rw [List.getD_eq_getElem?_getD, List.getElem?_eq_getElem hj'] at e'
    rw [← e']
    exact List.getElem_mem hj'
  · intro hk
    obtain ⟨j, hj⟩ := List.mem_iff_getElem?.mp hk
    obtain ⟨hj', _⟩ := List.getElem?_eq_some_iff.mp hj
    refine ⟨j, List.mem_range.mpr hj', ?_⟩
    show (ns.getD j 0 == k) = true
    rw [List.getD_eq_getElem?_getD, hj]
    simp
theorem nd_len {α : Type} [DecidableEq α] : ∀ (l m : List α), l.Nodup → (∀ x ∈ l, x ∈ m) → l.length ≤ m.length
  | [], _, _, _ => Nat.zero_le _
  | x :: l, m, hn, hs => by
    rw [List.nodup_cons] at hn
    have hx : x ∈ m := hs x (List.mem_cons_self ..)
    have ih := nd_len l (m.erase x) hn.2 fun y hy => by
      have hyx : y ≠ x := fun z => hn.1 (z ▸ hy)
      exact (List.mem_erase_of_ne hyx).mpr (hs y (List.mem_cons_of_mem _ hy))
    rw [List.length_erase_of_mem hx] at ih
    have := List.length_pos_of_mem hx
    rw [List.length_cons]
    omega
theorem call_setL (hc : X.calm = true) : CallR X (.type "set") (fun xs H Q => ∃ (a : Addr) (ns : List Int), xs = [.ref a] ∧ SqL X.K H a (ns.map V.int) ∧ ns.length + 1 < scanBound ∧ ∀ p, H p = none → Q (.ref p) (upd H p (SetX X.prog X.w p ns))) := by
  intro pins s σ H xs us Q I r h
  obtain ⟨a, ns, rfl, hs, hz, q⟩ := h
  obtain ⟨its, rv, hl, _⟩ := I.list hs
  rw [Vals.ref1 r]
  have hi := rv.ints
  have hsz : its.toArray.size = ns.length := by rw [List.size_toArray, hi.length]
  refine SX.call_set (I.ok.hd hc) hl.isList (by simpa using hi) (by rw [hsz]; exact hz) fun h' tk m hm x kp => ?_
  rw [hsz, met_mem] at x
  exact ⟨.ref _, _, I.laid (t' := tk) kp (Nat.le_refl _) (setX_ok x), rfl, q _ (I.hok.fresh (Nat.le_refl _))⟩
theorem call_sortedSet (hc : X.calm = true) : CallR X (.builtin "sorted") (fun xs H Q => ∃ (a : Addr) (ns U : List Int), xs = [.ref a] ∧ H a = some (SetX X.prog X.w a ns) ∧ U.length < 64 ∧ (∀ k ∈ ns, k ∈ U) ∧
    ∀ (ns' : List Int) (p : Addr), ns'.Pairwise (· ≤ ·) → ns'.Nodup → (∀ k, k ∈ ns' ↔ k ∈ ns) → H p = none → Q (.ref p) (upd H p (.lst (ns'.map V.int)))) := by
  intro pins s σ H xs us Q I r h
  obtain ⟨a, ns, U, rfl, ha, hU, hsub, q⟩ := h
  rw [Vals.ref1 r]
  obtain ⟨⟨m, x⟩, _⟩ := (show ObjOk X.prog X.w H s.heap a (SetX X.prog X.w a ns) from I.hok a _ ha)
  have hm : m ≤ U.length := by
    obtain ⟨o, es, ep, t, ho, y, rfl⟩ := x
    have := nd_len (es.toList.map SX.kOf) U y.nd fun k hk => by
      obtain ⟨e, he, rfl⟩ := List.mem_map.mp hk
      obtain ⟨⟨k', hk', _⟩, _⟩ := y.el e he
      obtain ⟨tk, e'⟩ := Value.isInt_shape (show Value.isInt k' e.2 = true from hk')
      have ek : SX.kOf e = k' := by unfold SX.kOf; rw [e']
      rw [ek]
      have := (y.me k').mpr ⟨e, he, hk'⟩
      exact hsub _ (of_decide_eq_true this)
    simpa using this
  refine SX.sorted_set (I.ok.hd hc) x (by omega) fun h' tk d' p its c ns' kp hp hob hi pw nd mem hl => ?_
  refine ⟨.ref p, _, (I.laid (t' := tk) (o := .lst (ns'.map V.int)) kp hp ⟨?_, its.toList, c, vals_of_ints hi, by simpa using hob⟩).draw d', rfl, q ns' p pw nd (fun k => by rw [mem k]; exact decide_eq_true_iff) (I.hok.fresh hp)⟩
  rw [List.length_map, hl, sizeLine_eq]
  omega
/-- d.values() -/
def ViewX (p d : Addr) : HO := .ext fun h => h.IsValuesView p d
theorem mt_values : MtR X "dict.values" (fun x vs H Q => ∃ d kvs, x = .ref d ∧ vs = [] ∧ H d = some (.dK kvs) ∧ ∀ p, H p = none → Q (.ref p) (upd H p (ViewX p d))) := by
  intro pins s σ H x xs v us Q I rx rs h
  obtain ⟨d, kvs, rfl, rfl, hd, q⟩ := h
  obtain rfl : v = Value.ref d := rx
  cases rs
  obtain ⟨z, lo, vs, rel, dd⟩ := I.hok d _ hd
  refine call_meetsIn PySem.F.slot_dict_values dd.typeIs PySem.F.entry_dict_values (PySem.F.args_dict_values_1 _) (meets_dict_values (mixKind X.prog X.w) d lo) ⟨⟨vs, dd⟩, .ref s.heap.objs.size, _, I.laid (t' := s.toks) (o := ViewX s.heap.objs.size d) (fun b u e => Heap.get?_push_of_some _ e) (Nat.le_refl _) ?_, rfl, q _ (I.hok.fresh (Nat.le_refl _))⟩
  exact ⟨⟨_, Heap.get?_push_size _ rfl, rfl, rfl⟩, ⟨_, Heap.get?_push_size _ rfl⟩, fun h1 h2 ⟨o, ho, r⟩ k => ⟨o, k o ho, r⟩⟩
theorem kv_vals : ∀ {kvs : List (Key × V)} {vs : List (Key × Value)}, KV kvs vs → Vals (kvs.map (·.2)) (vs.map (·.2))
  | _, _, .nil => .nil
  | _, _, .cons h t => .cons h.2 (kv_vals t)
theorem call_listV (hc : X.calm = true) : CallR X (.type "list") (fun xs H Q => ∃ p d kvs, xs = [.ref p] ∧ H p = some (ViewX p d) ∧ H d = some (.dK kvs) ∧ ∀ l, H l = none → Q (.ref l) (upd H l (.lst (kvs.map (·.2))))) := by
  intro pins s σ H xs us Q I r h
  obtain ⟨p, d, kvs, rfl, hp, hd, q⟩ := h
  rw [Vals.ref1 r]
  obtain ⟨z, lo, vs, rel, dd⟩ := I.hok d _ hd
  obtain ⟨vw, _⟩ := (show ObjOk X.prog X.w H s.heap p (ViewX p d) from I.hok p _ hp)
  obtain ⟨ep, hat⟩ := dd.dictAt
  have hlen : kvs.length = vs.length := Paired.length rel
  refine PySem.W.kdl_call (PySem.W.kdl_values (knd := mixKind X.prog X.w) (kvs := vs) (ep := ep)) (I.ok.hd hc) ⟨vw, hat⟩ (by rw [← hlen]; exact z) fun h' tk acc c kp hS hacc => ?_
  have e : acc.toList = vs.map (·.2) := PySem.W.kdl_vals_eq acc.toList (by rw [Array.length_toList]; exact hacc.1) fun j v hj => hacc.2 j v (by rw [← Array.getElem?_toList]; exact hj)
  refine ⟨.ref s.heap.objs.size, _, I.laid (t' := tk) (o := .lst (kvs.map (·.2))) kp (Nat.le_refl _) ⟨by rw [List.length_map]; exact z, acc.toList, c, by rw [e]; exact kv_vals rel, ?_⟩, rfl, q _ (I.hok.fresh (Nat.le_refl _))⟩
  rw [Array.toArray_toList]
  exact hS
end
end L2
end
section
set_option linter.all false
set_option Elab.async false
set_option maxRecDepth 100000
set_option maxHeartbeats 2000000
namespace L2
open PySem PySem.Spec PyProof.Rows
open PySem.W (CodeHd tabObj kla_fn kla_obj)
/-- a def's code table: empty, or with the one lambda that stands at pos -/
def Tb (H : Hp) (P : Addr) (lq : Str) (pos : Pos) : Prop := H P = some (.tbl #[]) ∨ ∃ c, H P = some (.tbl #[rawInt pos.line, rawInt pos.col, .ref c]) ∧ H c = some (.ext fun h => h.CodeRec (.ref c) lq)
/-- what the base must have for that: the code object at c with its table at P, the module builtins -/
structure LamBase (mg : Str → Option Value) (base : Heap) (c P : Addr) : Prop where
  code : CodeHd base c P
  blt : ∃ bm ob, mg "__builtins__" = some (.ref bm) ∧ bm ≠ builtinsNs ∧ bm ≠ mainGlobals ∧ base.get? bm = some ob ∧ ob.cls = .type "module" ∧ ob.dict = some builtinsNs ∧ ob.data = .plain
/-- all tracked is as it was, but at P -/
def SameP (P : Addr) (H H' : Hp) : Prop := ∀ b o, H b = some o → b ≠ P → H' b = some o
theorem codeRec_at {h1 h2 : Heap} {c : Addr} {q : Str} (x : h1.CodeRec (.ref c) q) (k : ∀ o, h1.get? c = some o → h2.get? c = some o) : h2.CodeRec (.ref c) q := by
  obtain ⟨c', oc, vs, t, e, ho, r⟩ := x
  cases e
  exact ⟨c, oc, vs, t, rfl, k _ ho, r⟩
theorem codeRec_ok {P : Program} {w : World} {H : Hp} {h : Heap} {c : Addr} {q : Str} (x : h.CodeRec (.ref c) q) : ObjOk P w H h c (.ext fun h => h.CodeRec (.ref c) q) := by
  refine ⟨x, ?_, fun h1 h2 y k => codeRec_at y k⟩
  obtain ⟨c', oc, vs, t, e, ho, r⟩ := x
  cases e
  exact ⟨oc, ho⟩
section
variable {X : Cx} {pins : List (Addr × Obj)} {σ : St} {H : Hp} {s : Shared}
theorem lam_make {c P : Addr} {params : Arguments} {body : Expr} {scope : Scope} {pos : Pos} {cl : List (Str × Addr)} {Q : Value → Shared → Prop} (I : Inv X pins σ H s) (B : LamBase X.mg X.base c P) (hcode : X.env.code = .ref c) (hT : Tb H P (X.env.qual ++ "<lambda>") pos)
    (hcl : closureFor scope X.env = pure cl) (hdef : defaultsOf params X.env = ([], []))
    (h : ∀ f c' ctv H' s', Inv X ((f, kla_obj "<lambda>" (X.env.qual ++ "<lambda>") params body scope cl ((X.mg "__name__").getD .none) c' ctv) :: pins) σ H' s' → s'.heap.CodeRec (.ref c') (X.env.qual ++ "<lambda>") → H' c' = some (.ext fun h => h.CodeRec (.ref c') (X.env.qual ++ "<lambda>")) → Tb H' P (X.env.qual ++ "<lambda>") pos → SameP P H H' → Q (.ref f) s') :
    wpAny (model X.prog X.w) X.A (eval (.Lambda params body scope pos) X.env) Q X.xe s := by
  have hgs : s.heap.Ns mainGlobals X.mg := I.mod.glob.keeps I.bk
  have hC : CodeHd s.heap c P := B.code.keeps I.bk
  obtain ⟨bm, ob, b1, b2, b3, b4, b5, b6, b7⟩ := B.blt
  have hPn : ∀ ps, H P = some (.tbl ps) → s.heap.get? P = some (tabObj ps) := fun ps e => I.hok P _ e
  have hbP : ∀ ps, H P = some (.tbl ps) → bm ≠ P := fun ps e z => by
    have q := (I.bs bm ob b4).2
    rw [z, e] at q
    cases q
  have hgP : ∀ ps, H P = some (.tbl ps) → mainGlobals ≠ P := fun ps e z => by
    obtain ⟨o, es, ep, e2, hd, _⟩ := hgs
    rw [z, hPn ps e] at e2
    cases e2
    cases hd
  refine PySem.W.kla_eval hdef ?_
  rcases hT with hT | ⟨c0, hT, hc0⟩
  · -- made anew
    refine PySem.W.kla_makeFunction (mg := X.mg) (clos := cl) hcl I.ok.glob hgs hcode hC (hPn _ hT) trivial rfl (hgP _ hT) ⟨bm, ob, b1, b2, b3, hbP _ hT, I.bk _ _ b4, b5, b6, b7⟩ fun c' ctv h' tk hx hge hlt hrec htb => ?_
    have htb' : h'.get? P = some (tabObj #[rawInt pos.line, rawInt pos.col, .ref c']) := by simpa using htb
    have hcP : c' ≠ P := fun z => by
      have := Heap.lt_size (hPn _ hT)
      rw [z] at hge
      exact absurd (Nat.lt_of_lt_of_le this hge) (Nat.lt_irrefl _)
    have hc' : H c' = none := I.hok.fresh hge
    generalize hob : kla_obj "<lambda>" (X.env.qual ++ "<lambda>") params body scope cl ((X.mg "__name__").getD .none) c' ctv = fo
    have kp : ∀ b u, b ≠ P → s.heap.get? b = some u → (h'.push fo).get? b = some u := fun b u hb e => Heap.get?_push_of_some _ (hx b u hb e)
    have hrec2 : (h'.push fo).CodeRec (.ref c') (X.env.qual ++ "<lambda>") := codeRec_at hrec fun o e => Heap.get?_push_of_some _ e
    have htb2 : (h'.push fo).get? P = some (tabObj #[rawInt pos.line, rawInt pos.col, .ref c']) := Heap.get?_push_of_some _ htb'
    have hszs : s.heap.objs.size ≤ h'.objs.size := Nat.le_trans hge (Nat.le_of_lt hlt)
    let H' : Hp := upd (upd H c' (.ext fun h => h.CodeRec (.ref c') (X.env.qual ++ "<lambda>"))) P (.tbl #[rawInt pos.line, rawInt pos.col, .ref c'])
    have hH : ∀ b, b ≠ P → b ≠ c' → H' b = H b := fun b h1 h2 => by
      show upd _ _ _ b = _
      rw [upd_ne h1, upd_ne h2]
    have hHP : H' P = some (.tbl #[rawInt pos.line, rawInt pos.col, .ref c']) := upd_same
    have hHc : H' c' = some (.ext fun h => h.CodeRec (.ref c') (X.env.qual ++ "<lambda>")) := by
      show upd _ _ _ c' = _
      rw [upd_ne hcP, upd_same]
    have nP : ∀ b, H b = none → b ≠ P := fun b e z => by rw [z, hT] at e; cases e
    have oc : ∀ b u, s.heap.get? b = some u → b ≠ c' := fun b u e => Nat.ne_of_lt (Nat.lt_of_lt_of_le (Heap.lt_size e) hge)
    have un : Un X.fs [] H H' s.heap (h'.push fo) := by
      refine ⟨fun b u e n _ _ => kp b u (nP b n) e, fun b u e n _ _ => ⟨u.slots, kp b u (nP b n) e⟩, fun b u e n _ => ?_, fun b u e _ => ?_, fun b xs e => ?_, fun b u x e => ?_, fun b ps e => ?_⟩
      · rw [hH b (nP b n) (oc b u e)]; exact n
      · by_cases hb : b = P
        · rw [hb]; exact ⟨_, htb2⟩
        · exact ⟨u, kp b u hb e⟩
      · rw [hH b (ne_of e hT (fun z => nomatch z)) (ne_of_none e hc')]; exact e
      · rw [hH b (ne_of e hT (fun z => nomatch z)) (ne_of_none e hc')]; exact e
      · by_cases hb : b = P
        · subst hb
          rw [hT] at e
          cases e
          exact ⟨#[rawInt pos.line, rawInt pos.col, .ref c'], by rw [hHP]; rfl⟩
        · exact ⟨#[], by rw [hH b hb (ne_of_none e hc'), e]; simp⟩
    have hok : HOk X.prog X.w H' (h'.push fo) := fun b u e => by
      by_cases hb : b = P
      · subst hb
        rw [hHP] at e
        cases e
        exact htb2
      · by_cases hb2 : b = c'
        · subst hb2
          rw [hHc] at e
          cases e
          exact codeRec_ok hrec2
        · rw [hH b hb hb2] at e
          refine (I.hok b u e).stay (fun d v hd q => kp d v ?_ q) (fun d q => ?_) fun d xs q => ?_
          · rcases hd with z | z
            · rw [z]; exact hb
            · exact ne_of z hT (fun z => nomatch z)
          · rw [hH d (ne_of q hT (fun z => nomatch z)) (ne_of_none q hc')]; exact q
          · rw [hH d (ne_of q hT (fun z => nomatch z)) (ne_of_none q hc')]; exact q
    have J := I.un (t' := tk) un hok
    have hf0 : H' h'.objs.size = none := by
      rw [hH _ (fun z => by have := Heap.lt_size htb'; rw [← z] at this; exact Nat.lt_irrefl _ this) (Nat.ne_of_gt hlt)]
      exact I.hok.fresh hszs
    refine h h'.objs.size c' ctv H' _ (J.pins_of fun p hp => ?_) hrec2 hHc (.inr ⟨c', hHP, hHc⟩) fun b o e hb => ?_
    · rcases List.mem_cons.mp hp with e | hp
      · subst e
        rw [hob]
        refine ⟨Heap.get?_push_size _ (by rw [← hob]; rfl), hf0, Nat.ne_of_gt (Nat.lt_of_lt_of_le I.lt hszs), I.nofs hszs, fun v z => ?_⟩
        rw [← hob] at z
        cases z
      · exact J.pin p (List.mem_append_right _ hp)
    · rw [hH b hb (ne_of_none e hc')]
      exact e
  · -- met again
    have ht3 : TriplesOk (#[rawInt pos.line, rawInt pos.col, Value.ref c0] : Array Value).toList := trivial
    have hf : codeAmong pos (#[rawInt pos.line, rawInt pos.col, Value.ref c0] : Array Value).toList = some (.ref c0) := by simp [codeAmong, rawInt]
    have hrec : s.heap.CodeRec (.ref c0) (X.env.qual ++ "<lambda>") := (show ObjOk X.prog X.w H s.heap c0 (.ext fun h => h.CodeRec (.ref c0) (X.env.qual ++ "<lambda>")) from I.hok c0 _ hc0).1
    refine PySem.W.kla_makeFunctionHit (mg := X.mg) (clos := cl) (cv := .ref c0) hcl I.ok.glob hgs hcode hC (hPn _ hT) ht3 hf ⟨bm, ob, b1, b2, b3, hbP _ hT, I.bk _ _ b4, b5, b6, b7⟩ fun ctv h' tk kp hsz => ?_
    show Q (.ref h'.objs.size) { s with heap := h'.push (kla_obj "<lambda>" (X.env.qual ++ "<lambda>") params body scope cl ((X.mg "__name__").getD .none) c0 ctv), toks := tk }
    generalize hob : kla_obj "<lambda>" (X.env.qual ++ "<lambda>") params body scope cl ((X.mg "__name__").getD .none) c0 ctv = fo
    have kp2 : ∀ b u, s.heap.get? b = some u → (h'.push fo).get? b = some u := fun b u e => Heap.get?_push_of_some _ (kp b u e)
    have J := I.kept (h' := h'.push fo) (t' := tk) kp2
    refine h h'.objs.size c0 ctv H _ (J.pins_of fun p hp => ?_) (codeRec_at hrec fun o e => kp2 _ _ e) hc0 (.inr ⟨c0, hT, hc0⟩) fun b o e _ => e
    rcases List.mem_cons.mp hp with e | hp
    · subst e
      rw [hob]
      refine ⟨Heap.get?_push_size _ (by rw [← hob]; rfl), I.hok.fresh hsz, Nat.ne_of_gt (Nat.lt_of_lt_of_le I.lt hsz), I.nofs hsz, fun v z => ?_⟩
      rw [← hob] at z
      cases z
    · exact J.pin p (List.mem_append_right _ hp)
/-- the frame of a lambda of one parameter x that reads y1, y2 from around it -/
def lamEnv (qual : Str) (scope : Scope) (cl : List (Str × Addr)) (L f c : Addr) : Env := newEnv scope L mainGlobals cl (qual ++ ".<locals>.") (some f) (.ref c) none builtinsNs
def lamX (X : Cx) (A : Around) (N : List Str) (env : Env) (s : Shared) (H : Hp) : Cx where
  prog := X.prog
  w := X.w
  K := X.K
  mg := X.mg
  base := X.base
  A := A.deeper env
  N := N
  s_0 := s
  H_0 := H
  env := env
  outer := X.stack
  stack := env :: X.stack
  ex := []
  fn := fun _ => false
  calm := true
  pn := []
  xe := fun _ _ => False
theorem lam_call {A : Around} {E : Value → Shared → Prop} {f c' c1 c2 : Addr} {name qual x y1 y2 : Str} {params : Arguments} {body : Expr} {scope : Scope} {cl : List (Str × Addr)} {pm ctv u : Value} {v v1 v2 : V} {i1 i2 : Nat} {t : TE} {Q : VK} (I : Inv X pins σ H s)
    (hA : A.frames = some X.stack) (hh : A.handled = none) (hroom : A.depth < recursionLimit)
    (hf : s.heap.get? f = some (kla_obj name qual params body scope cl pm c' ctv)) (hcd : s.heap.CodeRec (.ref c') qual) (hco : scope.isCoroutine = false) (hgen : scope.isGenerator = false) (hk : scope.kind = .function)
    (hnames : scope.names.all (fun z => decide (z.2 ≠ .cell)) = true) (hbind : bindArgs (kla_fn name qual params body scope cl pm (.ref c') ctv) ⟨[u], []⟩ = pure [(x, u)]) (hx : scope.names.lookup x = some .local) (hy1 : scope.names.lookup y1 = some .free) (hy2 : scope.names.lookup y2 = some .free)
    (hfree : ∀ z, scope.names.lookup z = some .free → z = y1 ∨ z = y2) (e1 : cl.lookup y1 = some c1) (e2 : cl.lookup y2 = some c2) (hcl : ∀ z d, cl.lookup z = some d → (z = y1 ∧ d = c1) ∨ (z = y2 ∧ d = c2)) (g1 : X.env.cells.lookup y1 = some c1) (g2 : X.env.cells.lookup y2 = some c2)
    (n1 : X.N[i1]? = some y1) (n2 : X.N[i2]? = some y2) (q1 : σ[i1]? = some (some v1)) (q2 : σ[i2]? = some (some v2)) (k1 : X.env.scope.names.lookup y1 = some .cell) (k2 : X.env.scope.names.lookup y2 = some .cell) (r : RelV v u)
    (ht : PE (lamX X A [x, y1, y2] (lamEnv qual scope cl s.heap.objs.size f c') s H) body t) (hq : t [some v, some v1, some v2] H Q) :
    wpAny (model X.prog X.w) A (call (.ref f) [u]) (EP X pins σ Q) E s := by
  have hcell : ∀ z ∈ scope.names, z.2 ≠ .cell := fun z hz => of_decide_eq_true (List.all_eq_true.mp hnames z hz)
  have hnc : ∀ z, scope.names.lookup z ≠ some .cell := fun z e => hcell _ (PySem.mem_of_lookup e) rfl
  refine wpAny_call (codeAny_mono (R := fun r s' => ∃ w, r = .ok (.ret w) ∧ CE X.stack X.prog X.w H s Q w s') ?_ fun r s' z => ?_)
  · refine PySem.W.kla_callFunE hroom hf rfl hco hgen rfl hcd ?_
    rw [hbind]
    refine wpAny_pure (wpAny_newFunctionEnv hcell (fun z hz => ?_) (fun h1 hns hsb => ⟨(I.nolimit).fresh _ hsb, ?_⟩) hk)
    · rw [List.mem_singleton] at hz
      subst hz
      exact hx
    show codeAny _ _ (.expr body (lamEnv qual scope cl s.heap.objs.size f c')) _ _
    have kp : ∀ b o, s.heap.get? b = some o → h1.get? b = some o := fun b o e => hsb.extBut b o (Nat.ne_of_lt (Heap.lt_size e)) (Heap.get?_push_of_some _ e)
    obtain ⟨m, hm, hl⟩ := I.loc
    have cellOf : ∀ (i : Nat) (y : Str) (c : Addr) (z : V), X.N[i]? = some y → σ[i]? = some (some z) → X.env.scope.names.lookup y = some .cell → X.env.cells.lookup y = some c → ∃ w, RelV z w ∧ h1.IsCell c (some w) := fun i y c z a1 a2 a3 a4 => by
      obtain ⟨w, rw', lk⟩ := hl i y z a1 a2 (.inr (.inl a3))
      refine ⟨w, rw', ?_⟩
      rcases lk with ⟨l1, _⟩ | ⟨_, d, l2, l3⟩
      · rw [show X.env.kindOf y = some .cell from a3] at l1
        cases l1
      · rw [a4] at l2
        cases l2
        exact l3.keeps kp
    obtain ⟨w1, rw1, ic1⟩ := cellOf i1 y1 c1 v1 n1 q1 k1 g1
    obtain ⟨w2, rw2, ic2⟩ := cellOf i2 y2 c2 v2 n2 q2 k2 g2
    have J : Inv (lamX X A [x, y1, y2] (lamEnv qual scope cl s.heap.objs.size f c') s H) [] [some v, some v1, some v2] H { s with heap := h1, toks := s.toks + 1 } := by
      refine ⟨⟨I.ok.mod, hk, rfl, rfl, Nat.le_refl _, fun a b c h1 h2 => ?_, fun z hz => ?_, fun z c h => (nomatch h), fun _ => hh, Around.frames_deeper hA, .inr ⟨rfl, rfl⟩, fun b hb => (nomatch hb), I.bs, Nat.le_trans I.ok.bsz I.sz, fun b o _ hb => (nomatch hb), fun b hb => (nomatch hb), I.stack, I.stkFree⟩,
        rfl, I.bare, Un.kept kp, ⟨_, hns, fun i z vv a1 a2 a3 => ?_⟩, fun z d a => ?_, I.hok.fresh (Nat.le_refl _), fun z d a => ?_, fun p hp => (nomatch hp), I.hok.kept kp, rfl⟩
      · have a1 : cl.lookup a = some c := h1
        have a2 : cl.lookup b = some c := h2
        have inj := I.ok.inj y1 y2
        rcases hcl a c a1 with ⟨b1, b2⟩ | ⟨b1, b2⟩ <;> rcases hcl b c a2 with ⟨b3, b4⟩ | ⟨b3, b4⟩
        · rw [b1, b3]
        · rw [b1, b3]; exact inj c (by rw [g1, b2]) (by rw [g2, b4])
        · rw [b1, b3]; exact (inj c (by rw [g1, b4]) (by rw [g2, b2])).symm
        · rw [b1, b3]
      · have hz' : scope.names.lookup z = some .cell ∨ scope.names.lookup z = some .free := hz
        rcases hz' with a | a
        · exact absurd a (hnc z)
        · rcases hfree z a with rfl | rfl
          · exact ⟨c1, e1⟩
          · exact ⟨c2, e2⟩
      · match i, a1, a2 with
        | 0, a1, a2 =>
          have b1 : x = z := Option.some.inj a1
          have b2 : v = vv := Option.some.inj (Option.some.inj a2)
          subst b1; subst b2
          exact ⟨u, r, .inl ⟨hx, by simp⟩⟩
        | 1, a1, a2 =>
          have b1 : y1 = z := Option.some.inj a1
          have b2 : v1 = vv := Option.some.inj (Option.some.inj a2)
          subst b1; subst b2
          exact ⟨w1, rw1, .inr ⟨.inr hy1, c1, e1, ic1⟩⟩
        | 2, a1, a2 =>
          have b1 : y2 = z := Option.some.inj a1
          have b2 : v2 = vv := Option.some.inj (Option.some.inj a2)
          subst b1; subst b2
          exact ⟨w2, rw2, .inr ⟨.inr hy2, c2, e2, ic2⟩⟩
        | i + 3, a1, _ => cases a1
      · rcases hcl z d a with ⟨_, rfl⟩ | ⟨_, rfl⟩
        · exact ⟨_, ic1⟩
        · exact ⟨_, ic2⟩
      · rcases hcl z d a with ⟨_, rfl⟩ | ⟨_, rfl⟩
        · exact I.freeC y1 _ g1
        · exact I.freeC y2 _ g2
    refine PySem.W.kla_codeExpr (wpAny_mono (ht [] _ _ H Q J hq) (fun w s2 hw => ?_) fun _ _ z => z.elim)
    obtain ⟨vv, H2, J2, rv, qq⟩ := hw
    exact ⟨w, rfl, vv, H2, J2.os, J2.bare, J2.base, J2.hok, rv, qq⟩
  · obtain ⟨w, rfl, ce⟩ := z
    exact I.after ce
end
end L2
end
section
set_option linter.all false
set_option Elab.async false
set_option maxRecDepth 100000
set_option maxHeartbeats 400000
namespace L2
open PySem PySem.Spec PyProof.Rows
open PySem.W (CodeHd tabObj kla_fn kla_obj)
section
variable {X : Cx} {pins : List (Addr × Obj)} {σ : St} {H : Hp} {s : Shared}
theorem Inv.lput (I : Inv X pins σ H s) {a : Addr} {xs ys : List V} {vs : Array Value} {n : Nat} (ha : H a = some (.lst xs)) (ho : s.heap.get? a = some (seqObj "list" vs n)) (g : Array Value → Array Value) (rv : Vals ys (g vs).toList) (hz : ys.length ≤ sizeLine) :
    Inv X pins σ (upd H a (.lst ys)) { s with heap := s.heap.update a (Obj.mapSeq g) } := by
  have sb := Heap.SameBut.update s.heap a (Obj.mapSeq g)
  have e := get?_update_seq ho g
  exact I.write (x := a) (e := a) (t' := s.toks) (by rw [ha]; trivial) (.inl rfl) (fun b u hb q => (sb.2 b hb).trans q) ⟨_, e⟩ ⟨hz, (g vs).toList, _, rv, e⟩
/-- an order of the keys -/
def kl (kf : Int → Int) (a b : Int) : Prop := kf a < kf b ∨ (kf a = kf b ∧ a ≤ b)
theorem lex2 {a b c d : Int} : lexLt itemOrd [Sum.inl a, Sum.inl b] [Sum.inl c, Sum.inl d] = false ↔ c < a ∨ (c = a ∧ d ≤ b) := by
  rw [lex_false]
  have h1 : itemOrd.blt (Sum.inl a) (Sum.inl c) = decide (a < c) := rfl
  have h2 : itemOrd.blt (Sum.inl c) (Sum.inl a) = decide (c < a) := rfl
  rw [h1, h2, lex_false]
  have h3 : itemOrd.blt (Sum.inl b) (Sum.inl d) = decide (b < d) := rfl
  have h4 : itemOrd.blt (Sum.inl d) (Sum.inl b) = decide (d < b) := rfl
  rw [h3, h4]
  have h5 : lexLt itemOrd [] [] = false := rfl
  simp only [decide_eq_false_iff_not, decide_eq_true_eq, h5, or_true, and_true]
  omega
/-- the pairs of keys and items -/
def Prs (H : Hp) (kf : Int → Int) (ks : List Addr) (ns : List Int) : Prop := ks.length = ns.length ∧ ∀ (k : Nat) (a : Addr) (n : Int), ks[k]? = some a → ns[k]? = some n → H a = some (.tup [.int (kf n), .int n])
theorem prs_key (I : Inv X pins σ H s) {kf : Int → Int} {ks : List Addr} {ns : List Int} (hp : Prs H kf ks ns) {vs : List Value} (hi : IntsAre vs ns) {p : Keyed} (hm : p ∈ (ks.map Value.ref).zip vs) :
    ∃ n tk, p.2 = .int n tk ∧ G.tupKeyC s.heap (fun _ => false) p.1 = some [Sum.inl (kf n), Sum.inl n] ∧ ∃ f, TupOf s.heap (fun _ => false) p.1 f := by
  obtain ⟨k, hk⟩ := List.mem_iff_getElem?.mp hm
  rw [List.getElem?_zip_eq_some] at hk
  obtain ⟨h1, h2⟩ := hk
  rw [List.getElem?_map] at h1
  obtain ⟨a, ha, hae⟩ := Option.map_eq_some_iff.mp h1
  have hl := hi.length
  obtain ⟨hkv, _⟩ := List.getElem?_eq_some_iff.mp h2
  have hn : ns[k]? = some (ns[k]'(by omega)) := List.getElem?_eq_getElem (by omega)
  obtain ⟨tk, etk⟩ := IntsAre.int_at hi k p.2 h2
  have hnd : ns.getD k 0 = ns[k]'(by omega) := by rw [List.getD_eq_getElem?_getD, hn]; rfl
  rw [hnd] at etk
  have ht := hp.2 k a _ ha hn
  obtain ⟨z, its, rv, o, ho, hc, m, hd⟩ := (show ObjOk X.prog X.w H s.heap a (.tup _) from I.hok a _ ht)
  obtain ⟨u1, r1, rfl, ru1, rr1⟩ : ∃ u1 r1, its = u1 :: r1 ∧ RelV (.int (kf (ns[k]'(by omega)))) u1 ∧ Vals [.int (ns[k]'(by omega))] r1 := by
    cases rv with
    | cons a b => exact ⟨_, _, rfl, a, b⟩
  obtain ⟨u2, rfl, ru2⟩ := vals1 rr1
  obtain ⟨t1, rfl⟩ := ru1
  obtain ⟨t2, rfl⟩ := ru2
  refine ⟨_, tk, etk, ?_, .int (kf (ns[k]'(by omega))) t1, a, o, _, m, hae.symm, ho, hc, hd, rfl, fun _ => ⟨_, _, rfl⟩, fun z => (nomatch z)⟩
  rw [← hae]
  unfold G.tupKeyC
  have e1 : G.isTupObj s.heap (.ref a) = true := by simp [G.isTupObj, ho, hc]
  rw [if_pos e1]
  simp only [tupKey, ho, hd]
  rfl
theorem prs_tups (I : Inv X pins σ H s) {kf : Int → Int} : ∀ {ks : List Addr} {ns : List Int} {vs : List Value}, Prs H kf ks ns → IntsAre vs ns → ∃ fs, TupsOf s.heap (fun _ => false) (ks.map Value.ref) fs
  | [], _, _, _, _ => ⟨[], .nil⟩
  | a :: ks, [], vs, hp, hi => by cases hp.1
  | a :: ks, n :: ns, _, hp, .cons _ tk hi => by
    obtain ⟨_, _, _, _, f, hf⟩ := prs_key I hp (.cons n tk hi) (p := (.ref a, .int n tk)) (by simp)
    obtain ⟨fs, hfs⟩ := prs_tups I (ks := ks) (ns := ns) ⟨by have := hp.1; simpa using this, fun k b m h1 h2 => hp.2 (k + 1) b m (by simpa using h1) (by simpa using h2)⟩ hi
    exact ⟨f :: fs, .cons hf hfs⟩
theorem vals_refs : ∀ {ks : List Addr} {us : List Value}, Vals (ks.map V.ref) us → us = ks.map Value.ref
  | [], _, .nil => rfl
  | a :: ks, _, .cons h t => by
    cases h
    rw [vals_refs t]
    rfl
/-- the sort's last steps -/
theorem tail_core {A : Around} {E : Value → Shared → Prop} {L kS : Addr} {od : Obj} {xs ys : List V} {e1 : Nat} {st : SortSt} {Pf : PySem.Fin → Shared → Prop} (I : Inv X pins σ H s) (hL : H L = some (.frz od (.lst []))) (hL1 : s.heap.get? L = some (seqObj "list" #[] e1)) (hLn : ∀ o' u', X.H_0 L ≠ some (.frz o' u'))
    (hk : H kS = some (.lst xs)) (hf : failedOf st = none) (rv : Vals ys ((arrOf st).map (·.2)).toList) (hz : ys.length ≤ sizeLine)
    (h : ∀ s', Inv X pins σ (upd (upd (upd H kS (.lst [])) L (.lst [])) L (.lst ys)) s' → Pf (.done (.ret .none)) s') : wpAny (model X.prog X.w) A (ksk_tail L false e1 (.ref kS) st) Pf E s := by
  obtain ⟨zk, ik, nk, rk, ek⟩ := (show ObjOk X.prog X.w H s.heap kS (.lst xs) from I.hok kS _ hk)
  have ek' : s.heap.get? kS = some (seqObj "list" ik.toArray nk) := ek
  have hkL : kS ≠ L := ne_of hk hL (fun z => nomatch z)
  have I1 := I.lput (ys := []) hk ek' (fun _ => #[]) .nil (Nat.zero_le _)
  have hL2 : (s.heap.update kS (Obj.mapSeq fun _ => #[])).get? L = some (seqObj "list" #[] e1) := ((Heap.SameBut.update s.heap kS (Obj.mapSeq fun _ => #[])).2 L hkL.symm).trans hL1
  have hHL : (upd H kS (.lst [])) L = some (.frz od (.lst [])) := by rw [upd_ne hkL.symm]; exact hL
  have I2 := I1.unlock hHL hLn
  have I3 := I2.lput (a := L) (ys := ys) upd_same hL2 (fun _ => (arrOf st).map (·.2)) rv hz
  have hlen : ((arrOf st).map (·.2)).size ≤ sizeLine := by
    rw [← Array.length_toList, ← rv.length]
    exact hz
  unfold ksk_tail
  dsimp only
  refine wpAny_bind (listUpdate_at ek' rfl ?_ (by rw [List.size_toArray, ← rk.length]; exact zk) (Nat.zero_le _))
  refine wpAny_bind (wpAny_letGo ?_)
  refine wpAny_bind (seqEpoch_at hL2 rfl ?_)
  refine wpAny_bind (listUpdate_at hL2 rfl ?_ (Nat.zero_le _) (Nat.le_succ_of_le hlen))
  rw [hf]
  simp only [bne_self_eq_false, Bool.false_eq_true, if_false]
  exact wpAny_pure (h _ I3)
theorem sorted_out (I : Inv X pins σ H s) {kf : Int → Int} {ks : List Addr} {ns : List Int} {its : List Value} (hp : Prs H kf ks ns) (hi : IntsAre its ns) {arr : Array Keyed} (hperm : arr.Perm ((ks.map Value.ref).toArray.zip its.toArray))
    (hs : SortedToK (G.tupKindC s.heap fun _ => false) arr arr.size) : ∃ ns' : List Int, ns'.Perm ns ∧ ns'.Pairwise (kl kf) ∧ Vals (ns'.map V.int) (arr.map (·.2)).toList := by
  have hl : (ks.map Value.ref).length = its.length := by rw [List.length_map, hp.1, hi.length]
  have hpl : arr.toList.Perm ((ks.map Value.ref).zip its) := by
    have := Array.perm_iff_toList_perm.mp hperm
    rw [ksk_zip] at this
    simpa using this
  have hkey : ∀ p ∈ arr.toList, ∃ tk, p.2 = .int (SX.vOf p.2) tk ∧ G.tupKeyC s.heap (fun _ => false) p.1 = some [Sum.inl (kf (SX.vOf p.2)), Sum.inl (SX.vOf p.2)] := fun p hm => by
    obtain ⟨n, tk, e1, e2, _⟩ := prs_key I hp hi (hpl.mem_iff.mp hm)
    have e3 : SX.vOf p.2 = n := by rw [e1]; rfl
    rw [e3]
    exact ⟨tk, e1, e2⟩
  refine ⟨arr.toList.map fun p => SX.vOf p.2, ?_, ?_, ?_⟩
  · have h1 := hpl.map fun p : Keyed => SX.vOf p.2
    have h2 : ((ks.map Value.ref).zip its).map (fun p : Keyed => SX.vOf p.2) = ns := by
      have : (fun p : Keyed => SX.vOf p.2) = SX.vOf ∘ Prod.snd := rfl
      rw [this, ← List.map_map, List.map_snd_zip (by omega), ← SX.ints_eq hi]
    rw [h2] at h1
    exact h1
  · rw [List.pairwise_map, List.pairwise_iff_getElem]
    intro i j h1 h2 hij
    have hi' : i < arr.size := by simpa using h1
    have hj' : j < arr.size := by simpa using h2
    have q := hs i j (Nat.le_of_lt hij) hj'
    obtain ⟨_, _, k1⟩ := hkey _ (List.getElem_mem h1)
    obtain ⟨_, _, k2⟩ := hkey _ (List.getElem_mem h2)
    have a1 : KK (G.tupKindC s.heap fun _ => false) arr i = [Sum.inl (kf (SX.vOf arr.toList[i].2)), Sum.inl (SX.vOf arr.toList[i].2)] := by
      unfold KK
      rw [Array.getElem?_eq_getElem hi']
      show (G.tupKeyC s.heap (fun _ => false) arr[i].1).getD [] = _
      rw [Array.getElem_toList] at k1 ⊢
      rw [k1]
      rfl
    have a2 : KK (G.tupKindC s.heap fun _ => false) arr j = [Sum.inl (kf (SX.vOf arr.toList[j].2)), Sum.inl (SX.vOf arr.toList[j].2)] := by
      unfold KK
      rw [Array.getElem?_eq_getElem hj']
      show (G.tupKeyC s.heap (fun _ => false) arr[j].1).getD [] = _
      rw [Array.getElem_toList] at k2 ⊢
      rw [k2]
      rfl
    rw [a1, a2] at q
    exact lex2.mp q
  · have h3 : (arr.map (·.2)).toList = arr.toList.map (·.2) := Array.toList_map
    rw [h3]
    obtain ⟨zs, hzs⟩ := SX.ints_of (arr.toList.map (·.2)) fun v hv => by
      obtain ⟨p, hp2, rfl⟩ := List.mem_map.mp hv
      obtain ⟨tk, e, _⟩ := hkey p hp2
      exact ⟨_, tk, e⟩
    have e := SX.ints_eq hzs
    rw [List.map_map] at e
    have : arr.toList.map (fun p => SX.vOf p.2) = zs := e.symm
    rw [this]
    exact vals_of_ints hzs
theorem end_core {A : Around} {E : Value → Shared → Prop} {L kS : Addr} {od : Obj} {e1 : Nat} {Pf : PySem.Fin → Shared → Prop} {ks : List Addr} {ns : List Int} {its : List Value} {kf : Int → Int} (I : Inv X pins σ H s) (hL : H L = some (.frz od (.lst []))) (hL1 : s.heap.get? L = some (seqObj "list" #[] e1)) (hLn : ∀ o' u', X.H_0 L ≠ some (.frz o' u'))
    (hk : H kS = some (.lst (ks.map V.ref))) (hp : Prs H kf ks ns) (hi : IntsAre its ns) (h64 : ns.length < 64)
    (h : ∀ (ns' : List Int) s', ns'.Perm ns → ns'.Pairwise (kl kf) → Inv X pins σ (upd (upd (upd H kS (.lst [])) L (.lst [])) L (.lst (ns'.map V.int))) s' → Pf (.done (.ret .none)) s') :
    wpAny (model X.prog X.w) A (ksk_end L false its.toArray e1 (.ref kS) (ks.map Value.ref).toArray) Pf E s := by
  have hl : ks.length = its.length := by rw [hp.1, hi.length]
  have hzl : ∀ ns' : List Int, ns'.Perm ns → (ns'.map V.int).length ≤ sizeLine := fun ns' q => by rw [List.length_map, q.length_eq, sizeLine_eq]; omega
  have hzs : ((ks.map Value.ref).toArray.zip its.toArray).size = its.length := by simp [hl]
  unfold ksk_end
  dsimp only
  simp only [Bool.false_eq_true, if_false]
  by_cases h2 : its.toArray.size < 2
  · rw [if_pos h2, if_pos h2]
    refine wpAny_bind (wpAny_pure ?_)
    rw [StateT.run_pure]
    refine wpAny_bind (wpAny_pure ?_)
    dsimp only
    obtain ⟨ns', q1, q2, q3⟩ := sorted_out I hp hi (arr := (ks.map Value.ref).toArray.zip its.toArray) (Array.Perm.refl _) (fun i j hij hj => by
      rw [hzs] at hj
      rw [List.size_toArray] at h2
      have : i = j := by omega
      subst this
      exact KeyOrd.kle_refl _)
    exact tail_core (st := SortSt.mk' general' ((ks.map Value.ref).toArray.zip its.toArray) #[] 7 none) I hL hL1 hLn hk rfl q3 (hzl ns' q1) fun s' I' => h ns' s' q1 q2 I'
  · rw [if_neg h2, if_neg h2]
    rw [List.size_toArray] at h2
    obtain ⟨fs, hfs⟩ := prs_tups I hp hi
    refine wpAny_bind (tup_kind (by rw [G.TupsOf.length hfs, List.length_map]; omega) hfs ?_)
    refine wpAny_bind (wpAny_mono (G.wpS_sortRunsSt (κ := G.tupKindC s.heap fun _ => false) (kd := tuples' true) (a₀ := (ks.map Value.ref).toArray.zip its.toArray) (st := SortSt.mk' (tuples' true) ((ks.map Value.ref).toArray.zip its.toArray) #[] 7 none)
      (Q := fun _ st' => (arrOf st').Perm ((ks.map Value.ref).toArray.zip its.toArray) ∧ failedOf st' = none ∧ SortedToK (G.tupKindC s.heap fun _ => false) (arrOf st') (arrOf st').size)
      (G.tupC_ltAt true (G.KeepsTups.refl _)) (fun p hm => ?_) ⟨Array.Perm.refl _, rfl, rfl⟩ rfl (Stable.refl _) (by rw [hzs]; omega) fun st' a1 a2 a3 _ => ⟨a1, a2, by rw [a1.size_eq]; exact a3⟩) ?_ fun _ _ e => e)
    · rw [ksk_zip] at hm
      obtain ⟨n, tk, _, e2, _⟩ := prs_key I hp hi (by simpa using hm)
      exact ⟨_, e2⟩
    rintro ⟨⟨⟩, st'⟩ s' ⟨rfl, a1, a2, a3⟩
    dsimp only
    obtain ⟨ns', q1, q2, q3⟩ := sorted_out I hp hi a1 a3
    exact tail_core (st := st') I hL hL1 hLn hk a2 q3 (hzl ns' q1) fun s' I' => h ns' s' q1 q2 I'
theorem rest_core {A : Around} {E : Value → Shared → Prop} {L kS f : Addr} {od : Obj} {e1 : Nat} {Pf : PySem.Fin → Shared → Prop} {H0 : Hp} {ns : List Int} {its : List Value} {kf : Int → Int} (I : Inv X pins σ H s) (hL : H L = some (.frz od (.lst []))) (hod : od = seqObj "list" #[] e1) (hLn : ∀ o' u', X.H_0 L ≠ some (.frz o' u'))
    (hk : H kS = some (.lst [])) (hi : IntsAre its ns) (h64 : ns.length < 64) (hsub : Same H0 H) (nL : H0 L = none) (nK : H0 kS = none)
    (hcall : ∀ H' s' n u, Inv X pins σ H' s' → Same H0 H' → n ∈ ns → RelV (.int n) u → wpAny (model X.prog X.w) A (call (.ref f) [u]) (EP X pins σ fun v H'' => ∃ q, v = .ref q ∧ Same H' H'' ∧ H' q = none ∧ H'' q = some (.tup [.int (kf n), .int n])) (fun _ _ => False) s')
    (h : ∀ (ns' : List Int) H' s', ns'.Perm ns → ns'.Pairwise (kl kf) → Inv X pins σ H' s' → Same H0 H' → H' L = some (.lst (ns'.map V.int)) → Pf (.done (.ret .none)) s') :
    wpAny (model X.prog X.w) A (ksk_rest L (.ref f) false its.toArray e1 (.ref kS)) Pf E s := by
  have hlen : its.length = ns.length := hi.length
  unfold ksk_rest
  refine wpAny_bind (wpAny_rule ?_)
  rw [List.forIn_toArray]
  refine wpAny_bind (ksk_fold (fun i s' => ∃ (H' : Hp) (ks : List Addr), Inv X pins σ H' s' ∧ Same H0 H' ∧ H' L = some (.frz od (.lst [])) ∧ H' kS = some (.lst (ks.map V.ref)) ∧ ks.length = i ∧ ∀ (k : Nat) (a : Addr) (n : Int), ks[k]? = some a → ns[k]? = some n → H' a = some (.tup [.int (kf n), .int n])) its 0 s
    ⟨H, [], I, hsub, hL, hk, rfl, fun k a n z => by simp at z⟩ ?step ?done)
  case step =>
    rintro j x s' hx ⟨H', ks, I', sub', hL', hk', hlk, hall⟩
    rw [Nat.zero_add] at hlk ⊢
    obtain ⟨hj, _⟩ := List.getElem?_eq_some_iff.mp hx
    have hn : ns[j]? = some (ns[j]'(by omega)) := List.getElem?_eq_getElem (by omega)
    obtain ⟨tk, etk⟩ := IntsAre.int_at hi j x hx
    have hnd : ns.getD j 0 = ns[j]'(by omega) := by rw [List.getD_eq_getElem?_getD, hn]; rfl
    rw [hnd] at etk
    refine wpAny_bind (wpAny_attempt (wpAny_mono (hcall H' s' (ns[j]'(by omega)) x I' sub' (List.getElem_mem _) ⟨tk, etk⟩) (fun v s2 he => ?_) fun _ _ z => z.elim))
    obtain ⟨v', H2, I2, rv, q, rfl, sm, nq, hq⟩ := he
    obtain rfl : v = Value.ref q := rv
    dsimp only
    have hk2 := sm _ _ hk'
    obtain ⟨zk, ik, nk, rk, ek⟩ := (show ObjOk X.prog X.w H2 s2.heap kS (.lst (ks.map V.ref)) from I2.hok kS _ hk2)
    have ek' : s2.heap.get? kS = some (seqObj "list" ik.toArray nk) := ek
    have eik := vals_refs rk
    have hzk : ik.length ≤ 64 := by rw [eik, List.length_map, hlk]; omega
    have I3 := I2.lput (ys := (ks ++ [q]).map V.ref) hk2 ek' (·.push (.ref q)) (by
      rw [Array.toList_push, List.map_append]
      exact rk.append (.cons rfl .nil)) (by rw [List.length_map, List.length_append, hlk, sizeLine_eq]; simp; omega)
    refine wpAny_bind (listUpdate_at ek' rfl ?_ (by rw [List.size_toArray, sizeLine_eq]; omega) (by rw [Array.size_push, List.size_toArray, sizeLine_eq]; omega))
    have nek : ∀ b o, H0 b = some o → b ≠ kS := fun b o e => ne_of_none e nK
    have hqk : q ≠ kS := fun z => by rw [z, hk'] at nq; cases nq
    refine wpAny_pure ⟨rfl, _, ks ++ [q], I3, fun b o e => ?_, ?_, upd_same, by rw [List.length_append, hlk]; rfl, fun k a n h1 h2 => ?_⟩
    · rw [upd_ne (nek b o e)]
      exact sm _ _ (sub' _ _ e)
    · rw [upd_ne (ne_of hL' hk' (fun z => nomatch z))]
      exact sm _ _ hL'
    · by_cases hkl : k < ks.length
      · rw [List.getElem?_append_left hkl] at h1
        have e := hall k a n h1 h2
        rw [upd_ne (ne_of e hk' (fun z => nomatch z))]
        exact sm _ _ e
      · rw [List.getElem?_append_right (by omega)] at h1
        have hk0 : k = ks.length := by
          have := (List.getElem?_eq_some_iff.mp h1).1
          simp at this
          omega
        subst hk0
        simp at h1
        subst h1
        rw [hlk, hn] at h2
        have := Option.some.inj h2
        subst this
        rw [upd_ne hqk]
        exact hq
  case done =>
    rintro s' ⟨H', ks, I', sub', hL', hk', hlk, hall⟩
    rw [Nat.zero_add] at hlk
    obtain ⟨zk, ik, nk, rk, ek⟩ := (show ObjOk X.prog X.w H' s'.heap kS (.lst (ks.map V.ref)) from I'.hok kS _ hk')
    have ek' : s'.heap.get? kS = some (seqObj "list" ik.toArray nk) := ek
    have eik := vals_refs rk
    have hL1 : s'.heap.get? L = some (seqObj "list" #[] e1) := by
      rw [← hod]
      exact (show ObjOk X.prog X.w H' s'.heap L (.frz od (.lst [])) from I'.hok L _ hL').1
    refine wpAny_bind (listItems_at ek' rfl ?_)
    rw [eik]
    refine end_core I' hL' hL1 hLn hk' ⟨by rw [hlk, hlen], hall⟩ hi h64 fun ns' s2 q1 q2 I2 => h ns' _ s2 q1 q2 I2 (fun b o e => ?_) upd_same
    rw [upd_ne (ne_of_none e nL), upd_ne (ne_of_none e nL), upd_ne (ne_of_none e nK)]
    exact sub' _ _ e
/-- sorted by a key that gives pairs -/
theorem sort_core {f l : Addr} {ns : List Int} {kf : Int → Int} {Q : VK} (I : Inv X pins σ H s) (hS : SqL X.K H l (ns.map V.int)) (h64 : ns.length < 64)
    (hcall : ∀ H' s' n u, Inv X pins σ H' s' → Same H H' → n ∈ ns → RelV (.int n) u → wpAny (model X.prog X.w) X.A.in1.in1 (call (.ref f) [u]) (EP X pins σ fun v H'' => ∃ q, v = .ref q ∧ Same H' H'' ∧ H' q = none ∧ H'' q = some (.tup [.int (kf n), .int n])) (fun _ _ => False) s')
    (fin : ∀ (ns' : List Int) (p : Addr) (H' : Hp), ns'.Perm ns → ns'.Pairwise (kl kf) → Same H H' → H p = none → H' p = some (.lst (ns'.map V.int)) → Q (.ref p) H') :
    wpAny (model X.prog X.w) X.A (call (.builtin "sorted") [.ref l] [(Str.ofString "key", .ref f)]) (EP X pins σ Q) X.xe s := by
  obtain ⟨its, rv, hl, _⟩ := I.list hS
  have hi := rv.ints
  have hlen : its.length = ns.length := hi.length
  have hsz : its.length ≤ sizeLine := by rw [hlen, sizeLine_eq]; omega
  refine call_function_entry_kw kind_sorted plain_sorted entry_sorted (ksk_s1 _ _) ?_
  unfold Builtin.«sorted»
  refine wpAny_bind (m := checkCount "sorted" 1 1 _) (wpAny_pure ?_)
  refine wpAny_bind (collect_list hl.isList ?_ hsz)
  have kA : ∀ b u, s.heap.get? b = some u → ((s.heap.push (seqObj "list" #[] 0)).update s.heap.objs.size (Obj.mapSeq (· ++ its.toArray))).get? b = some u := fun b u e => by
    rw [Heap.get?_update_ne _ _ _ _ (Nat.ne_of_lt (Heap.lt_size e))]
    exact Heap.get?_push_of_some _ e
  have zA : s.heap.objs.size ≤ ((s.heap.push (seqObj "list" #[] 0)).update s.heap.objs.size (Obj.mapSeq (· ++ its.toArray))).objs.size := by rw [Heap.size_update, size_push']; exact Nat.le_succ _
  generalize (s.heap.push (seqObj "list" #[] 0)).update s.heap.objs.size (Obj.mapSeq (· ++ its.toArray)) = hA at kA zA ⊢
  have IA := I.kept (h' := hA) (t' := s.toks) kA
  refine wpAny_bind (wpAny_newList ?_ hsz)
  have hoL : (hA.push (seqObj "list" its.toArray 0)).get? hA.objs.size = some (seqObj "list" its.toArray 0) := Heap.get?_push_size _ rfl
  have IB := IA.laid (a := hA.objs.size) (o := .lst (ns.map V.int)) (t' := s.toks) (h' := hA.push (seqObj "list" its.toArray 0)) (fun b u e => Heap.get?_push_of_some _ e) (Nat.le_refl _) ⟨by rw [List.length_map, ← hlen]; exact hsz, its, 0, rv, hoL⟩
  have nL : H hA.objs.size = none := I.hok.fresh zA
  generalize hA.objs.size = L at hoL IB nL ⊢
  generalize hA.push (seqObj "list" its.toArray 0) = hB at hoL IB ⊢
  have hT : Shared.TypeIs { s with heap := hB } (.ref L) "list" := ⟨_, hoL, rfl⟩
  refine wpAny_bind (wpAny_holding (wpAny_call_entry_kw slot_list_sort hT entry_list_sort ?_ (ksk_l1 _ _)))
  show wpAny (model X.prog X.w) X.A.in1.in1 (Builtin.«list.sort» ⟨[.ref L], [(Str.ofString "key", .ref f)]⟩) _ _ _
  rw [ksk_t1]
  unfold ksk_tree
  refine wpAny_bind (listItems_at hoL rfl ?_)
  refine wpAny_bind (listUpdate_at hoL rfl ?_ (by rw [List.size_toArray]; exact hsz) (Nat.zero_le _))
  have IC := IB.lput (ys := []) upd_same hoL (fun _ => #[]) .nil (Nat.zero_le _)
  obtain ⟨e1, hL1⟩ : ∃ e1, (hB.update L (Obj.mapSeq fun _ => #[])).get? L = some (seqObj "list" #[] e1) := ⟨_, get?_update_seq hoL fun _ => #[]⟩
  have hHC : upd (upd H L (.lst (ns.map V.int))) L (.lst []) = upd H L (.lst []) := upd_upd
  rw [hHC] at IC
  generalize hB.update L (Obj.mapSeq fun _ => #[]) = hC at IC hL1 ⊢
  refine wpAny_bind (seqEpoch_at hL1 rfl ?_)
  refine wpAny_bind (wpAny_newTuple ?_ hsz)
  refine wpAny_bind (wpAny_newList ?_ (Nat.zero_le _))
  refine wpAny_holding ?_
  have IC2 := IC.kept (h' := hC.push (seqObj "tuple" its.toArray 0)) (t' := s.toks) fun b u e => Heap.get?_push_of_some _ e
  have hL2 : (hC.push (seqObj "tuple" its.toArray 0)).get? L = some (seqObj "list" #[] e1) := Heap.get?_push_of_some _ hL1
  show wpAny (model X.prog X.w) X.A.in1.in1 (ksk_rest L (.ref f) false its.toArray e1 (.ref (hC.push (seqObj "tuple" its.toArray 0)).objs.size)) _ _ { s with heap := (hC.push (seqObj "tuple" its.toArray 0)).push (seqObj "list" #[] 0) }
  generalize hC.push (seqObj "tuple" its.toArray 0) = hD at IC2 hL2 ⊢
  have ID := IC2.laid (a := hD.objs.size) (o := .lst []) (t' := s.toks) (h' := hD.push (seqObj "list" #[] 0)) (fun b u e => Heap.get?_push_of_some _ e) (Nat.le_refl _) ⟨Nat.zero_le _, [], 0, .nil, Heap.get?_push_size _ rfl⟩
  have nK : (upd H L (.lst [])) hD.objs.size = none := IC2.hok.fresh (Nat.le_refl _)
  have hL3 : (hD.push (seqObj "list" #[] 0)).get? L = some (seqObj "list" #[] e1) := Heap.get?_push_of_some _ hL2
  generalize hD.objs.size = kS at ID nK ⊢
  generalize hD.push (seqObj "list" #[] 0) = hE at ID hL3 ⊢
  have hHL : upd (upd H L (.lst [])) kS (.lst []) L = some (.lst []) := by rw [upd_ne (fun z => by rw [← z, upd_same] at nK; cases nK), upd_same]
  have nK0 : H kS = none := by
    have hne : kS ≠ L := fun z => by rw [z, upd_same] at nK; cases nK
    rw [upd_ne hne] at nK
    exact nK
  obtain ⟨od, IE⟩ := ID.lock hHL trivial
  have hod : od = seqObj "list" #[] e1 := by
    have q := (show ObjOk X.prog X.w _ hE L (.frz od (.lst [])) from IE.hok L _ upd_same).1
    rw [hL3] at q
    exact (Option.some.inj q).symm
  have hkL : kS ≠ L := fun z => by rw [z, upd_same] at nK; cases nK
  refine rest_core (H0 := H) (kf := kf) (s := { s with heap := hE }) IE upd_same hod (ID.nofrz hHL trivial) (by rw [upd_ne hkL, upd_same]) hi h64 (fun b o e => ?_) nL nK0 hcall fun ns' H' s' q1 q2 I' sm hl' => ⟨_, rfl, ?_⟩
  · rw [upd_ne (ne_of_none e nL), upd_ne (ne_of_none e nK0), upd_ne (ne_of_none e nL)]
    exact e
  exact wpAny_pure ⟨_, rfl, .ref L, H', I', rfl, fin ns' L H' q1 q2 sm nL hl'⟩
end
end L2
end
section
set_option linter.all false
set_option Elab.async false
set_option maxRecDepth 100000
set_option maxHeartbeats 400000
namespace L2
open PySem PySem.Spec PyProof.Rows
open PySem.W (CodeHd tabObj kla_fn kla_obj)
def kSL (K : PySem.W.Frag) (P : Addr) (lq : Str) (lpos : Pos) (i1 i2 : Nat) (t : TE) (σ : St) (Q : VK) : VK := fun x H1 => ∃ (l : Addr) (ns : List Int) (kf : Int → Int) (v1 v2 : V), x = .ref l ∧ SqL K H1 l (ns.map V.int) ∧ ns.length < 64 ∧ σ[i1]? = some (some v1) ∧ σ[i2]? = some (some v2) ∧ Tb H1 P lq lpos ∧
  (∀ H', SameP P H1 H' → Tb H' P lq lpos → ∀ n ∈ ns, ∀ Q' : VK, (∀ H'' q, Same H' H'' → H' q = none → H'' q = some (.tup [.int (kf n), .int n]) → Q' (.ref q) H'') → t [some (.int n), some v1, some v2] H' Q') ∧
  ∀ (ns' : List Int) (p : Addr) (H' : Hp), ns'.Perm ns → ns'.Pairwise (kl kf) → SameP P H1 H' → Tb H' P lq lpos → H1 p = none → H' p = some (.lst (ns'.map V.int)) → Q (.ref p) H'
def tSL (K : PySem.W.Frag) (P : Addr) (lq : Str) (lpos : Pos) (i1 i2 : Nat) (t te : TE) : TE := fun σ H Q => te σ H (kSL K P lq lpos i1 i2 t σ Q)
theorem Tb.same {H H' : Hp} {P : Addr} {lq : Str} {pos : Pos} (t : Tb H P lq pos) (s : Same H H') : Tb H' P lq pos := by
  rcases t with t | ⟨c, h1, h2⟩
  · exact .inl (s _ _ t)
  · exact .inr ⟨c, s _ _ h1, s _ _ h2⟩
theorem Tb.at {H : Hp} {P : Addr} {lq : Str} {pos : Pos} (t : Tb H P lq pos) : ∃ ps, H P = some (.tbl ps) := by
  rcases t with t | ⟨c, h1, h2⟩
  · exact ⟨_, t⟩
  · exact ⟨_, h1⟩
theorem SameP.seq {K : PySem.W.Frag} {P : Addr} {H H' : Hp} {a : Addr} {xs : List V} {ps : Array Value} (e : SameP P H H') (hP : H P = some (.tbl ps)) (h : SqL K H a xs) : SqL K H' a xs := by
  rcases h with (h | ⟨o, h⟩) | h
  · exact .inl (.inl (e _ _ h (ne_of h hP (fun z => nomatch z))))
  · exact .inl (.inr ⟨o, e _ _ h (ne_of h hP (fun z => nomatch z))⟩)
  · exact .inr h
section
variable {X : Cx}
theorem pe_sortL {e : Expr} {te t : TE} {p pos kpos lpos : Pos} {params : Arguments} {body : Expr} {scope : Scope} {c P c1 c2 : Addr} {cl : List (Str × Addr)} {x y1 y2 : Str} {i1 i2 : Nat}
    (hc : X.calm = true) (hg : Gl X "sorted") (hm : X.mg "sorted" = none) (he : PE X e te) (B : LamBase X.mg X.base c P) (hcode : X.env.code = .ref c) (hcl : closureFor scope X.env = pure cl) (hdef : defaultsOf params X.env = ([], [])) (hroom : X.A.depth < recursionLimit)
    (hco : scope.isCoroutine = false) (hgen : scope.isGenerator = false) (hk : scope.kind = .function) (hnames : scope.names.all (fun z => decide (z.2 ≠ .cell)) = true)
    (hbind : ∀ c' ctv u, bindArgs (kla_fn "<lambda>" (X.env.qual ++ "<lambda>") params body scope cl ((X.mg "__name__").getD .none) (.ref c') ctv) ⟨[u], []⟩ = pure [(x, u)]) (hx : scope.names.lookup x = some .local) (hy1 : scope.names.lookup y1 = some .free) (hy2 : scope.names.lookup y2 = some .free)
    (hfree : ∀ z, scope.names.lookup z = some .free → z = y1 ∨ z = y2) (e1 : cl.lookup y1 = some c1) (e2 : cl.lookup y2 = some c2) (hcl2 : ∀ z d, cl.lookup z = some d → (z = y1 ∧ d = c1) ∨ (z = y2 ∧ d = c2)) (g1 : X.env.cells.lookup y1 = some c1) (g2 : X.env.cells.lookup y2 = some c2)
    (n1 : X.N[i1]? = some y1) (n2 : X.N[i2]? = some y2) (k1 : X.env.scope.names.lookup y1 = some .cell) (k2 : X.env.scope.names.lookup y2 = some .cell)
    (ht : ∀ s H f c', PE (lamX X X.A.in1.in1 [x, y1, y2] (lamEnv (X.env.qual ++ "<lambda>") scope cl s.heap.objs.size f c') s H) body t)
    (hst : starEach [e] X.env = [(false, eval e X.env)] := by rfl) (hbk : backTo pos (starEach [e] X.env) = (false, eval e X.env) :: backTo pos (starEach [] X.env) := by rfl) (hany : (backTo pos (starEach [e] X.env)).any (·.1) = false := by rfl) :
    PE X (.Call (.Name "sorted" p) [e] [⟨some "key", .Lambda params body scope lpos, kpos⟩] pos) (tSL X.K P (X.env.qual ++ "<lambda>") lpos i1 i2 t te) := by
  intro pins s σ H Q I h
  refine wpAny_Call_Name_kw (ld_blt I hg hm (by decide +kernel : bootBuiltins "sorted" = some (.builtin "sorted")) ?_ (by decide) (by decide))
  refine callWith_kw (e := e) (rest := []) (thn (pa_cons he pa_nil hst pos pins s σ H (fun xs H1 => match xs with | [y] => kSL X.K P (X.env.qual ++ "<lambda>") lpos i1 i2 t σ Q y H1 | _ => False) I (show te σ H (kSL X.K P (X.env.qual ++ "<lambda>") lpos i1 i2 t σ Q) from h)) fun us s1 z => ?_) hbk hany rfl rfl
  obtain ⟨xs, H1, I1, rv, q⟩ := z
  match xs, rv, q with
  | [y], rv, q =>
    obtain ⟨l, ns, kf, v1, v2, rfl, hS, h64, q1, q2, hT, keys, fin⟩ := q
    rw [Vals.ref1 rv]
    refine kwAll_cons (lam_make I1 B hcode hT hcl hdef fun f c' ctv H2 s2 I2 hrec hHc hT2 sp => kwAll_nil ?_)
    obtain ⟨ps, hP⟩ := hT.at
    have hS2 := sp.seq hP hS
    have nP : ∀ p, H1 p = none → p ≠ P := fun p n z => by rw [z, hP] at n; cases n
    have sp2 : ∀ H', Same H2 H' → SameP P H1 H' := fun H' sm b o eb hb => sm _ _ (sp b o eb hb)
    have core := sort_core (f := f) (kf := kf) (Q := Q) I2 hS2 h64 (fun H' s' n u I' sm hn ru => ?_) fun ns' p H' p1 p2 sm np hp => ?_
    · refine thn core fun v s3 ⟨w, H3, I3, rw3, q3⟩ => ⟨w, H3, I3.pins_of fun p hp => I3.pin p (List.mem_append_right _ (List.mem_cons_of_mem _ hp)), rw3, q3⟩
    · have hf := (I'.pin (f, _) (List.mem_append_right _ (List.mem_cons_self ..))).1
      have hrec' : s'.heap.CodeRec (.ref c') (X.env.qual ++ "<lambda>") := (show ObjOk X.prog X.w H' s'.heap c' (.ext fun h => h.CodeRec (.ref c') (X.env.qual ++ "<lambda>")) from I'.hok c' _ (sm _ _ hHc)).1
      exact lam_call I' (show X.A.in1.in1.frames = some X.stack from I.ok.frames) (show X.A.in1.in1.handled = none from I.ok.hd hc) hroom hf hrec' hco hgen hk hnames (hbind _ _ _) hx hy1 hy2 hfree e1 e2 hcl2 g1 g2 n1 n2 q1 q2 k1 k2 ru (ht s' H' f c')
        (keys H' (sp2 H' sm) (hT2.same sm) n hn _ fun H'' q s1 s2 s3 => ⟨q, rfl, s1, s2, s3⟩)
    · have np1 : H1 p = none := by
        cases e : H1 p with
        | none => rfl
        | some o =>
          by_cases hp2 : p = P
          · subst hp2
            obtain ⟨ps2, hP2⟩ := hT2.at
            rw [np] at hP2
            cases hP2
          · rw [sp p o e hp2] at np
            cases np
      exact fin ns' p H' p1 p2 (sp2 H' sm) (hT2.same sm) np1 hp
end
end L2
end
section
set_option linter.all false
set_option Elab.async false
set_option maxRecDepth 100000
set_option maxHeartbeats 1000000
namespace L2
open PySem PySem.Spec PyProof.Rows
open PySem.W (WData Codec OpenSpec Well WellAll ReadsW ReadsAllW CodeHd tabObj)
section
variable {K : PySem.W.Frag} {H H' : Hp}
mutual
theorem dw_same (sq : ∀ a xs, SqL K H a xs → SqL K H' a xs) (st : ∀ a xs, SqT K H a xs → SqT K H' a xs) : ∀ (d : WData) (v : V), Dw K H v d → Dw K H' v d
  | .none, _, x => by cases x; exact .non
  | .bool b, _, x => by cases x; exact .bl b
  | .int i, _, x => by cases x; exact .int i
  | .str s, _, x => by cases x; exact .str s
  | .bytes b, _, x => by cases x; exact .byt _
  | .list ds, _, x => by
    cases x with
    | lst hs ha => exact .lst (sq _ _ hs) (dw_sames sq st ds _ ha)
  | .tuple ds, _, x => by
    cases x with
    | tup hs ha => exact .tup (st _ _ hs) (dw_sames sq st ds _ ha)
  | .float _, _, x => by cases x
  | .dict _, _, x => by cases x
  | .bytearray _, _, x => by cases x
  | .set _, _, x => by cases x
  | .frozenset _, _, x => by cases x
  | .obj _ _, _, x => by cases x
theorem dw_sames (sq : ∀ a xs, SqL K H a xs → SqL K H' a xs) (st : ∀ a xs, SqT K H a xs → SqT K H' a xs) : ∀ (ds : List WData) (vs : List V), DwAll K H vs ds → DwAll K H' vs ds
  | [], _, x => by cases x; exact .nil
  | d :: ds, _, x => by
    cases x with
    | cons h1 h2 => exact .cons (dw_same sq st d _ h1) (dw_sames sq st ds _ h2)
end
theorem Same.seqT (e : Same H H') {a : Addr} {xs : List V} (h : SqT K H a xs) : SqT K H' a xs := by
  rcases h with (h | ⟨o, h⟩) | h
  · exact .inl (.inl (e _ _ h))
  · exact .inl (.inr ⟨o, e _ _ h⟩)
  · exact .inr h
end
theorem spec_callT {P : Program} {w : World} {K : PySem.W.Frag} {mg mb : Str → Option Value} {CX : CXT} {k : Nat} {fa c T : Addr} {fd : FuncData} {ps : List Str} {sp : Sp} {s₁ : Shared} {vals : List Value} {ds : List WData} {R : PySem.W.WRecords} {cl : Str → Option Addr} {d0 : WData}
    (KX : K.In s₁.heap) (hns : s₁.heap.Ns mainGlobals mg) (hb : s₁.heap.Ns builtinsNs mb) (hbb : ∀ x : Str, x ≠ "__name__" → mb x = bootBuiltins x) (hlim : s₁.heap.NoLimit) (hg : s₁.gens = #[])
    (hC : CodeHd s₁.heap c T) (hTb : s₁.heap.get? T = some (tabObj #[])) (hKT : K.lookup T = none) (hbm : ∃ bm ob, mg "__builtins__" = some (.ref bm) ∧ bm ≠ builtinsNs ∧ s₁.heap.get? bm = some ob ∧ ob.cls = .type "module" ∧ ob.dict = some builtinsNs ∧ ob.data = .plain)
    (hwl : WellAll w.params s₁.heap vals ds) (hpl : plWs ds = true) (hwt : ∀ d ∈ ds, d.weight ≤ 1048576) (hr : Room k callerA)
    (F : ∀ base : Heap, K.In base → base.Ns mainGlobals mg → LamBase mg base c T → FnOk P w K mg base CX k fa fd ps sp) (hbind : ∀ (s : Shared) (us : List Value), us.length = ps.length → BindsTo s fd ⟨us, []⟩ (ps.zip us)) (hlen : ds.length = ps.length)
    (hsp : ∀ (H : Hp) (xs : List V), H T = some (.tbl #[]) → DwAll K H xs ds → sp xs H (fun v H' => Dw K H' v d0) fun _ _ _ => False)
    (hCX : ∀ H e s', CX [] H s₁ (fun _ _ _ => False) e s' → False) :
    codeAny (model P w) callerA (.call (.ref fa) ⟨vals, []⟩) (fun r s' => ∃ u as, r = .ok (.ret u) ∧ ReadsW R cl s'.heap u d0 as ∧ OldK s₁.heap s'.heap ∧ s'.os = s₁.os ∧ AllBare s'.gens) s₁ := by
  obtain ⟨A, ho, ar⟩ := area_all ds vals hwl hpl hwt
  have hS0 := dw_all KX ar ds vals hwl hpl ho
  have hV := vals_toV ho
  -- what is tracked is a list or a tuple
  have isq : ∀ {b : Addr} {u : HO}, argH K s₁.heap A b = some u → K.lookup b = none ∧ ∃ (vs : List Value) (x : Obj) (n : Nat), u = .frz x (.lst (vs.map toV)) ∧ s₁.heap.get? b = some x ∧ x.data = .seq vs.toArray n ∨ u = .frz x (.tup (vs.map toV)) ∧ s₁.heap.get? b = some x ∧ x.data = .seq vs.toArray n := fun {b u} q => by
    obtain ⟨hk, vs, _, _, ⟨e, eu⟩ | ⟨e, eu⟩⟩ := argH_is ar q
    · exact ⟨hk, vs, _, _, .inl ⟨eu, e, rfl⟩⟩
    · exact ⟨hk, vs, _, _, .inr ⟨eu, e, rfl⟩⟩
  have noS : ∀ {b : Addr} {o : Obj}, s₁.heap.get? b = some o → (∀ vs n, o.data ≠ .seq vs n) → argH K s₁.heap A b = none := fun {b o} e nd => by
    cases q : argH K s₁.heap A b with
    | none => rfl
    | some u =>
      obtain ⟨_, vs, x, n, ⟨_, e2, d⟩ | ⟨_, e2, d⟩⟩ := isq q
      · rw [e] at e2
        cases e2
        exact (nd _ _ d).elim
      · rw [e] at e2
        cases e2
        exact (nd _ _ d).elim
  have hT0 : argH K s₁.heap A T = none := noS hTb fun vs n z => nomatch z
  have hok0 : HOk P w (argH K s₁.heap A) s₁.heap := argH_ok ar
  have hF0 : ∀ b u, argH K s₁.heap A b = some u → ∃ o v, u = .frz o v := fun b u q => by
    obtain ⟨_, vs, x, n, ⟨e, _⟩ | ⟨e, _⟩⟩ := isq q
    · exact ⟨_, _, e⟩
    · exact ⟨_, _, e⟩
  have hK0 : ∀ b u, argH K s₁.heap A b = some u → K.lookup b = none := fun b u q => (isq q).1
  generalize argH K s₁.heap A = H0 at hS0 noS hT0 hok0 hF0 hK0 isq
  have s0 : Same H0 (upd H0 T (.tbl #[])) := fun b o e => by rw [upd_ne (ne_of_none e hT0)]; exact e
  have hTH : (upd H0 T (.tbl #[])) T = some (.tbl #[]) := upd_same
  have hoth : ∀ b, b ≠ T → (upd H0 T (.tbl #[])) b = H0 b := fun b hb => upd_ne hb
  have hS := dw_sames (H' := upd H0 T (.tbl #[])) (fun a xs h => s0.seq h) (fun a xs h => s0.seqT h) ds _ hS0
  generalize upd H0 T (.tbl #[]) = H at s0 hTH hoth hS
  have hok : HOk P w H s₁.heap := fun b u e => by
    by_cases hbT : b = T
    · subst hbT
      rw [hTH] at e
      cases e
      exact hTb
    · rw [hoth b hbT] at e
      exact (hok0 b u e).stay (fun d v _ q => q) (fun d q => s0 _ _ q) fun d xs q => s0 _ _ q
  have noH : ∀ {b : Addr} {o : Obj}, s₁.heap.get? b = some o → (∀ vs n, o.data ≠ .seq vs n) → b ≠ T → H b = none := fun {b o} e nd hb => by rw [hoth b hb]; exact noS e nd
  have neT : ∀ {b : Addr} {o : Obj}, s₁.heap.get? b = some o → o.cls ≠ .none ∨ (∀ vs, o.data ≠ .fields vs) → b ≠ T := fun {b o} e nd z => by
    rw [z, hTb] at e
    cases e
    rcases nd with nd | nd
    · exact nd rfl
    · exact nd _ rfl
  have nK : ∀ b o, K.lookup b = some o → H b = none := fun b o e => by
    by_cases hbT : b = T
    · rw [hbT, hKT] at e
      cases e
    · rw [hoth b hbT]
      cases q : H0 b with
      | none => rfl
      | some u =>
        rw [hK0 b u q] at e
        cases e
  have base_of : ∀ {b : Addr} {o : Obj}, s₁.heap.get? b = some o → H b = none → (hidT s₁.heap H).get? b = some o := fun e n => hidT_get e n
  have nsK : ∀ {b : Addr} {m : Str → Option Value}, s₁.heap.Ns b m → (hidT s₁.heap H).Ns b m := fun {b m} ⟨o, es, ep, e, d, r⟩ =>
    ⟨o, es, ep, base_of e (noH e (fun vs n z => by rw [d] at z; cases z) (neT e (.inr fun vs z => by rw [d] at z; cases z))), d, r⟩
  have hKb : K.In (hidT s₁.heap H) := fun b o e => base_of (KX b o e) (nK b o e)
  have hM : Mod K mg (hidT s₁.heap H) := ⟨hKb, nsK hns, ⟨mb, nsK hb, hbb⟩, let ⟨mc, h1, h2⟩ := hlim; ⟨mc, nsK h1, h2⟩⟩
  have hL : LamBase mg (hidT s₁.heap H) c T := by
    refine ⟨?_, ?_⟩
    · obtain ⟨o, vs, file, tf, flags, tg, inF, text, tt, e1, r1, r2, r3⟩ := hC
      exact ⟨o, vs, file, tf, flags, tg, inF, text, tt, base_of e1 (noH e1 (fun vs n z => by rw [r2] at z; cases z) (neT e1 (.inl fun z => by rw [r1] at z; cases z))), r1, r2, r3⟩
    · obtain ⟨bm, ob, b1, b2, b3, b4, b5, b6⟩ := hbm
      refine ⟨bm, ob, b1, b2, fun z => ?_, base_of b3 (noH b3 (fun vs n z => by rw [b6] at z; cases z) (neT b3 (.inl fun z => by rw [b4] at z; cases z))), b4, b5, b6⟩
      obtain ⟨o, es, ep, e, d, _⟩ := hns
      rw [z, e] at b3
      cases b3
      rw [b6] at d
      cases d
  have e0 : Env0 P w K mg (hidT s₁.heap H) callerA [] s₁ H := ⟨rfl, hM, fun b o e => of_hidT e, Nat.le_of_eq (hidT_size _ _), trivial, fun b hb => absurd (show b ∈ ([] : List Addr) from hb) (by simp), hok, .of_eq hg⟩
  have hl : vals.length = ps.length := by rw [wellAll_len hwl]; exact hlen
  refine codeAny_mono ((F _ hKb (nsK hns) hL).run callerA [] s₁ H ⟨vals, []⟩ vals (vals.map toV) _ _ hr e0 (hbind s₁ vals hl) hV (hsp H _ hTH hS)) fun r s' x => ?_
  cases r with
  | error e => exact (hCX H e s' x).elim
  | ok fl =>
    cases fl with
    | next => exact False.elim x
    | brk => exact False.elim x
    | cont => exact False.elim x
    | ret u =>
      obtain ⟨v, H', os, bare, un, hok', r', q⟩ := x
      have kept : ∀ b o, b ≠ T → s₁.heap.get? b = some o → s'.heap.get? b = some o := fun b o hbT e => by
        cases q2 : H b with
        | none => exact un.keep b o e q2 (by intro z; exact absurd (show b ∈ ([] : List Addr) from z) (by simp)) (by simp)
        | some u2 =>
          rw [hoth b hbT] at q2
          obtain ⟨ob, u3, rfl⟩ := hF0 b u2 q2
          have z := s0 _ _ q2
          have z2 := un.frzs b ob _ z
          obtain ⟨e1, _⟩ := hok b _ z
          obtain ⟨e2, _⟩ := hok' b _ z2
          rw [e] at e1
          cases e1
          exact e2
      obtain ⟨more, hmore⟩ := un.tbls T #[] hTH
      have eT' : s'.heap.get? T = some (tabObj (#[] ++ more)) := hok' T _ hmore
      have KX' : K.In s'.heap := fun b o e => kept b o (fun z => by rw [z, hKT] at e; cases e) (KX b o e)
      obtain ⟨as, hrd⟩ := Dw.reads (R := R) (cl := cl) hok' KX' d0 v u q r'
      refine ⟨u, as, rfl, hrd, ⟨fun b o e => ?_, fun b o e => ?_⟩, os, bare⟩
      · by_cases hbT : b = T
        · subst hbT
          rw [hTb] at e
          cases e
          exact .inr (.inl ⟨(hC.tab hTb).isCodeTable, rfl, #[], more, rfl, eT'⟩)
        · exact .inl (kept b o hbT e)
      · by_cases hbT : b = T
        · subst hbT
          exact ⟨_, eT'⟩
        · exact ⟨o, kept b o hbT e⟩
theorem walk_specT {r : OpenSpec} {k : Nat} {q : Program} {loose : List Str} {XP : (Str → Option Value) → Heap → Prop} {YP : World → Heap → Prop} {d : DefRec} {K : Params → PySem.W.Frag} {c T : Addr} {ps : List Str} {sp : PySem.W.Frag → Sp}
    (hwell : r.wellSaid = true) (hdf : d.params.defaults = []) (hlen : r.args.length = ps.length) (hr : Room k callerA)
    (hY : ∀ (w : World) (h : Heap), YP w h → (K w.params).In h)
    (hT : ∀ (w : World) (s_0 : Shared) (mg mb : Str → Option Value) (h : Heap), PySem.W.Ground q loose [] XP w s_0 mg mb h → YP w h → (CodeHd h c T ∧ h.get? T = some (tabObj #[])) ∧ (K w.params).lookup T = none)
    (F : ∀ (w : World) (mg : Str → Option Value) (fa : Addr) (h : Heap), YP w h → (K w.params).In h → h.Ns mainGlobals mg → mg d.name = some (.ref fa) →
      ∃ fd : FuncData, (∀ (s : Shared) (us : List Value), us.length = ps.length → BindsTo s fd ⟨us, []⟩ (ps.zip us)) ∧
        ∀ base : Heap, (K w.params).In base → base.Ns mainGlobals mg → LamBase mg base c T → FnOk r.prog w (K w.params) mg base CX0 k fa fd ps (sp (K w.params)))
    (hsp : ∀ (K : PySem.W.Frag) (H : Hp) (xs : List V) (a : Codec.denoteAll r.args), H T = some (.tbl #[]) → Codec.withinAll r.args a = true → Codec.app r.args r.asked a = true → DwAll K H xs (Codec.encAll r.args a) →
      sp K xs H (fun v H' => Dw K H' v (r.ret.enc (Codec.app r.args r.f a))) fun _ _ _ => False) :
    PySem.W.WalkOS q loose XP YP r d [] (fun f vs => PySem.call f vs) := by
  intro w s_0 s₁ mg mb G Y fa o pm cd doc dV kV ho hd hcd hD hmg hg args vals as hpre hlay hrd hwl hlo
  obtain ⟨a, e1, e2⟩ := PySem.W.os_pre_some hpre
  obtain ⟨e3, hwi⟩ := Codec.encAll_of_decAll r.args args a e1
  subst e3
  have KX := hY w _ Y
  obtain ⟨⟨hC, hTb⟩, hKT⟩ := hT w s_0 mg mb _ G Y
  obtain ⟨fd, hb, hF⟩ := F w mg fa _ Y KX G.T.g hmg
  refine PySem.W.enter_call (codeAny_mono (spec_callT (R := []) (cl := classAt s_0.heap) (d0 := r.ret.enc (Codec.app r.args r.f a)) KX G.T.g G.T.b G.T.builtins G.T.nolimit hg hC hTb hKT G.T.bmain hwl (pl_encAll _ _) (layable_weight hlay) hr hF hb (by rw [encAll_len]; exact hlen)
    (fun H xs hO hS => hsp _ H xs a hO hwi e2 hS) fun H e s' z => z) fun r' s' hq => ?_)
  obtain ⟨u, as', rfl, h1, h2, h3, h4⟩ := hq
  exact ⟨.inl ⟨u, _, as', rfl, fun _ => rfl, h1, (OpenSpec.post_iff hwell hwi _ _).mpr rfl, fun z => Bool.noConfusion (show false = true from z)⟩, h2, h3, h4⟩
end L2
end
section
set_option Elab.async false
set_option linter.all false
set_option maxRecDepth 100000
set_option maxHeartbeats 2000000
namespace Lm
open PySem PySem.Spec PyProof.Rows L2
def top (i : Nat) : Stmt := PySem.Challenge.pw_likemarks_s01_answers.main.body.getD i (.Pass ⟨0, 0, 0, 0⟩)
abbrev sGcd : Stmt := top 43
abbrev sLowest : Stmt := top 40
abbrev sLess : Stmt := top 39
abbrev sAdded : Stmt := top 38
section
variable {P : Program} {w : World} {K : PySem.W.Frag} {mg : Str → Option Value} {base : Heap}
/-- a def of the text that is known by its promise -/
structure Know (P : Program) (w : World) (K : PySem.W.Frag) (mg : Str → Option Value) (base : Heap) (x : Str) (ps : List Str) (k : Nat) (sp : Sp) : Prop where
  ex : ∃ f fd, FnOk P w K mg base CX0 k f fd ps sp ∧ mg x = some (.ref f) ∧ PySem.W.keepIn K (.ref f) = true ∧ Binds K fd ps []
theorem pe_know {X : Cx} {x : Str} {ps : List Str} {k j : Nat} {sp : Sp} {e : Expr} {es : List Expr} {t : TA} {p pos : Pos} (N : Know X.prog X.w X.K X.mg X.base x ps k sp) (hr : Room j X.A) (hg : Gl X x)
    (ha : PA X (e :: es) t) (hj : k ≤ j := by decide) (hdb : (x == ("__debug__" : Str)) = false := by decide) (he : starEach (e :: es) X.env = (false, eval e X.env) :: starEach es X.env := by rfl) (hpl : (backTo pos (starEach es X.env)).any (·.1) = false := by rfl) :
    PE X (.Call (.Name x p) (e :: es) [] pos) (tCall sp [] E0 t) := by
  obtain ⟨f, fd, F, hm, hk, hb⟩ := N.ex
  exact pe_call F (hr.mono hj) hg hm hk hb .nil pass0 ha hdb he hpl
def spGcd : Sp := fun vs H Q _ => ∃ a b : Nat, vs = [.int a, .int b] ∧ Q (.int (Nat.gcd a b)) H
theorem scGcd : FnScope ["one", "other", "rest"] ["one", "other"] (defScope sGcd) := ⟨rfl, rfl, rfl, by decide +kernel, rfl, by decide +kernel, by decide +kernel⟩
def muGcd : L2.St → Hp → Nat := fun σ _ => match σ with
  | [_, some (.int b), _] => b.toNat
  | _ => 0
theorem ok_gcd {f : Addr} {fd : FuncData} (F : Fun K "greatest_divisor" "greatest_divisor" sGcd f fd) : FnOk P w K mg base CX0 1 f fd ["one", "other"] spGcd := by
  refine F.ok scGcd (fun vs H Q E h => ?_) (fun cdv A outer s H vs Q E hr h => ?_)
  · obtain ⟨a, b, rfl, _⟩ := h
    rfl
  · obtain ⟨a, b, rfl, k⟩ := h
    refine ⟨_, pss_cons (ps_while PassesOwn.never (pt_cmpR op_gt (pv 1) pe_int (nomark _))
        (pss_cons (ps_set (i := 2) scGcd.nd rfl (Or.inl rfl) (pe_op op_mod (pv 0) (pv 1)))
        (pss_cons (ps_set (i := 0) scGcd.nd rfl (Or.inl rfl) (pv 1))
        (pss_one (ps_set (i := 1) scGcd.nd rfl (Or.inl rfl) (pv 2))))))
      (pss_one (ps_ret (pv 0))), ?_⟩
    refine while_by (fun σ H' => H' = H ∧ ∃ (a' b' : Nat) (v : Option V), σ = [some (.int a'), some (.int b'), v] ∧ Nat.gcd a' b' = Nat.gcd a b) muGcd ⟨rfl, a, b, none, rfl, rfl⟩ ?_ ?_
    · rintro σ H' ⟨rfl, a', b', v, rfl, e⟩
      refine ⟨_, rfl, _, _, rfl, rfl, _, rfl, ?_⟩
      refine ite2 (fun hb => ?_) (fun hb => ?_)
      · have hb' : 0 < b' := by simpa using hb
        refine ⟨_, rfl, _, rfl, _, _, rfl, rfl, (by omega), _, rfl, _, rfl, ?_⟩
        refine ⟨⟨rfl, b', a' % b', some (.int ((a' % b' : Nat) : Int)), ?_, ?_⟩, ?_⟩
        · simp
        · rw [← e, Nat.gcd_comm b' (a' % b'), ← Nat.gcd_rec, Nat.gcd_comm]
        · show ((a' : Int) % (b' : Int)).toNat < ((b' : Nat) : Int).toNat
          have h1 : (a' : Int) % (b' : Int) = ((a' % b' : Nat) : Int) := by simp
          rw [h1, Int.toNat_natCast, Int.toNat_natCast]
          exact Nat.mod_lt a' hb'
      · have hb' : b' = 0 := by
          have : ¬ (0 : Int) < b' := by simpa using hb
          omega
        subst hb'
        refine ⟨_, rfl, ?_⟩
        rw [Nat.gcd_zero_right] at e
        rw [e]
        exact k
    · intro σ H Q Q' hq h
      obtain ⟨x, e1, i, j, e2, e3, k, e4, q⟩ := h
      exact ⟨x, e1, i, j, e2, e3, k, e4, hq _ _ q⟩
open Kp193 (frac)
def spLowest : Sp := fun vs H Q _ => ∃ (a : Int) (b : Nat), vs = [.int a, .int b] ∧ 0 < b ∧ b.log2 < 9000 ∧ ∀ p, H p = none → Q (.ref p) (upd H p (.tup [.int (frac a b).top, .int (frac a b).bottom]))
theorem scLowest : FnScope ["above", "below", "divisor"] ["above", "below"] (defScope sLowest) := ⟨rfl, rfl, rfl, by decide +kernel, rfl, by decide +kernel, by decide +kernel⟩
theorem log2_mono {a b : Nat} (h : a ≤ b) : a.log2 ≤ b.log2 := by
  by_cases h0 : a = 0
  · subst h0; rw [Nat.log2_zero]; exact Nat.zero_le _
  · exact (Nat.le_log2 (by omega)).mpr (Nat.le_trans (Nat.log2_self_le h0) h)
theorem ok_lowest {f : Addr} {fd : FuncData} (F : Fun K "lowest" "lowest" sLowest f fd) (hab : mg "abs" = none) (G : Know P w K mg base "greatest_divisor" ["one", "other"] 1 spGcd) : FnOk P w K mg base CX0 2 f fd ["above", "below"] spLowest := by
  refine F.ok scLowest (fun vs H Q E h => ?_) (fun cdv A outer s H vs Q E hr h => ?_)
  · obtain ⟨a, b, rfl, _⟩ := h
    rfl
  · obtain ⟨a, b, rfl, hb, hl, k⟩ := h
    refine ⟨_, pss_cons (ps_set (i := 2) scLowest.nd rfl (Or.inl rfl) (pe_know G hr rfl (pa_cons (pe_callB call_abs (by rfl) hab (by decide +kernel) (pa_cons (pv 0) pa_nil)) (pa_cons (pv 1) pa_nil))))
      (pss_one (ps_ret (pe_tup (pa_cons (pe_op op_fdivB (pv 0) (pv 2)) (pa_cons (pe_op op_fdivB (pv 1) (pv 2)) pa_nil))))), ?_⟩
    have ea : (if a < 0 then -a else a) = ((a.natAbs : Nat) : Int) := by split <;> omega
    have hg : 0 < Nat.gcd a.natAbs b := Nat.gcd_pos_of_pos_right _ hb
    have hg2 : (Nat.gcd a.natAbs b).log2 < 9000 := Nat.lt_of_le_of_lt (log2_mono (Nat.gcd_le_right _ hb)) hl
    have hdiv : CDivB a ((Nat.gcd a.natAbs b : Nat) : Int) := ⟨by omega, by rw [Int.natAbs_natCast]; exact hg2⟩
    have hdiv2 : CDivB (b : Int) ((Nat.gcd a.natAbs b : Nat) : Int) := ⟨by omega, by rw [Int.natAbs_natCast]; exact hg2⟩
    refine ⟨_, rfl, _, rfl, ?_⟩
    rw [ea]
    refine ⟨_, rfl, a.natAbs, b, rfl, ?_⟩
    refine ⟨_, rfl, _, rfl, _, _, rfl, rfl, hdiv, _, rfl, _, rfl, _, _, rfl, rfl, hdiv2, (by show 2 ≤ sizeLine; decide), fun p hp => ?_⟩
    have e := k p hp
    have hne : ¬ Nat.gcd a.natAbs b = 0 := by omega
    unfold frac at e
    simp only [hne, if_false] at e
    exact e
end
end Lm
end
section
set_option Elab.async false
set_option linter.all false
set_option maxRecDepth 100000
set_option maxHeartbeats 2000000
namespace L2
open PySem PySem.Spec PyProof.Rows
theorem Same.new {H H' : Hp} (s : Same H H') {p : Addr} {o : HO} (hp : H' p = none) : Same H (upd H' p o) := fun b u e => by
  rw [upd_ne (ne_of_none (s b u e) hp)]
  exact s b u e
end L2
namespace Lm
open PySem PySem.Spec PyProof.Rows L2
open Kp202 (House markOf has judgesOf worksOf)
abbrev sJudges : Stmt := top 26
abbrev sWorks : Stmt := top 27
abbrev MK := List ((Nat × Nat) × Nat)
def kk (j w : Nat) : List Key := [Sum.inl (j : Int), Sum.inl (w : Int)]
def dkv (M : MK) : List (List Key × V) := M.map fun e => (kk e.1.1 e.1.2, V.int (e.2 : Int))
def nV (m : Nat) : V := V.int (m : Int)
def look (M : MK) (j w : Nat) : Option Nat := (M.find? fun e => decide (e.1 = (j, w))).map (·.2)
theorem kk_inj {j w j' w' : Nat} : kk j w = kk j' w' ↔ (j, w) = (j', w') := by
  unfold kk
  constructor
  · intro h
    injection h with h1 h2
    injection h2 with h2 _
    injection h1 with h1
    injection h2 with h2
    rw [Int.ofNat.inj h1, Int.ofNat.inj h2]
  · intro h
    injection h with h1 h2
    rw [h1, h2]
theorem val_dkv (j w : Nat) : ∀ M : MK, valV (dkv M) (kk j w) = (look M j w).map nV
  | [] => rfl
  | e :: M => by
    have ih := val_dkv j w M
    show valV ((kk e.1.1 e.1.2, V.int (e.2 : Int)) :: dkv M) (kk j w) = _
    unfold look
    by_cases h : e.1 = (j, w)
    · rw [valV_pos (kk_inj.mpr h), List.find?_cons_of_pos (by simpa using h)]
      rfl
    · rw [valV_neg (fun z => h (kk_inj.mp z)), List.find?_cons_of_neg (by simpa using h), ih]
      rfl
structure MarksAt (H : Hp) (d : Addr) (h : House) : Prop where
  ex : ∃ M : MK, H d = some (.dT (dkv M)) ∧ (∀ j w, look M j w = markOf h j w) ∧ M.length = h.length ∧ M.length < sizeLine ∧ (M.map (·.1)).Nodup
theorem MarksAt.same {H H' : Hp} {d : Addr} {h : House} (m : MarksAt H d h) (s : Same H H') : MarksAt H' d h := by
  obtain ⟨M, e, r⟩ := m.ex
  exact ⟨M, s _ _ e, r⟩
theorem MarksAt.get {H : Hp} {d b : Addr} {h : House} {j w : Nat} (m : MarksAt H d h) (hb : H b = some (.tup [.int (j : Int), .int (w : Int)])) : DGet H d (.ref b) ((markOf h j w).map nV) := by
  obtain ⟨M, e, r, _⟩ := m.ex
  rw [← r, ← val_dkv]
  exact DGet.t e hb
def nv (l : List Nat) : List V := l.map nV
theorem nv_append (a b : List Nat) : nv (a ++ b) = nv a ++ nv b := List.map_append
theorem nv_length (a : List Nat) : (nv a).length = a.length := List.length_map _
theorem range_filter_succ (p : Nat → Bool) (i : Nat) : (List.range (i + 1)).filter p = (List.range i).filter p ++ (if p i = true then [i] else []) := by
  rw [List.range_succ, List.filter_append]
  congr 1
  by_cases h : p i = true <;> simp [h]
theorem hu_of' {k : Nat} {A : Around} (r : Room k A) : A.units + 1 < cLine := by have := r.un; omega
section
variable {P : Program} {w : World} {K : PySem.W.Frag} {mg : Str → Option Value} {base : Heap}
/-- a whole number at the top -/
def Cst (mg : Str → Option Value) (x : Str) (i : Int) : Prop := ∃ t, mg x = some (.int i t)
theorem pe_cst {X : Cx} {x : Str} {i : Int} {pos : Pos} (c : Cst X.mg x i) (hg : Gl X x) (hd : (x == ("__debug__" : Str)) = false := by decide) : PE X (.Name x pos) (tC (.int i)) := by
  obtain ⟨t, e⟩ := c
  exact pe_glob hg e ⟨t, rfl⟩ hd
def spJudges : Sp := fun vs H Q _ => ∃ (d : Addr) (h : House) (w : Nat), vs = [.ref d, .int (w : Int)] ∧ MarksAt H d h ∧ ∀ H' p, Same H H' → H p = none → H' p = some (.lst (nv (judgesOf h w))) → Q (.ref p) H'
theorem scJudges : FnScope ["marks", "work", "judge"] ["marks", "work"] (defScope sJudges) := ⟨rfl, rfl, rfl, by decide +kernel, rfl, by decide +kernel, by decide +kernel⟩
theorem ok_judges {f : Addr} {fd : FuncData} (F : Fun K "judges_of" "judges_of" sJudges f fd) (hrg : mg "range" = none) (cJ : Cst mg "JUDGES" 6) : FnOk P w K mg base CX0 1 f fd ["marks", "work"] spJudges := by
  refine F.ok scJudges (fun vs H Q E h => ?_) (fun cdv A outer s H vs Q E hr h => ?_)
  · obtain ⟨d, h, w, rfl, _⟩ := h
    rfl
  · obtain ⟨d, h, w, rfl, hm, k⟩ := h
    have hu := hu_of' hr
    refine ⟨_, pss_one (ps_ret (pe_lc (own := [("judge", 2)]) rfl scJudges.nd (pi_range1 rfl hrg (pa_cons (pe_cst cJ rfl) pa_nil)) (blkOk_by (by rfl))
      (fun _ _ _ _ _ => pg_name (i := 2) scJudges.nd rfl (Or.inl rfl)) (fun _ _ _ _ _ => pts_one (pt_cmp (pc_din hu (pe_tup (pa_cons (pv 2) (pa_cons (pv 1) pa_nil))) (pv 0)))) (fun _ _ _ _ _ => pv 2))), ?_⟩
    refine ⟨6, rfl, by decide, by decide, fun D hD => lc_range (fun i H' => Same H H' ∧ H' D = some (.lst (nv ((List.range i).filter fun j => has h j w)))) ⟨(Same.refl H).new hD, upd_same⟩ ?_ ?_⟩
    · rintro i H' hi ⟨s1, e1⟩
      refine ⟨rfl, _, rfl, _, rfl, (by show 2 ≤ sizeLine; decide), fun p hp => ?_⟩
      rw [Int.zero_add]
      have s2 : Same H' (upd H' p (.tup [.int (i : Int), .int (w : Int)])) := (Same.refl H').new hp
      have hm2 : MarksAt (upd H' p (.tup [.int (i : Int), .int (w : Int)])) d h := (hm.same s1).same s2
      refine ⟨_, rfl, d, _, rfl, hm2.get upd_same, _, rfl, ?_⟩
      have e2 : (Option.map nV (markOf h i w)).isSome = has h i w := by unfold has; cases markOf h i w <;> rfl
      rw [e2]
      refine ite2 (fun hb => ?_) (fun hb => ?_)
      · refine ⟨_, rfl, _, s2 _ _ e1, ?_, ?_, ?_⟩
        · rw [nv_length]
          exact Nat.lt_of_le_of_lt (List.length_filter_le _ _) (by rw [List.length_range, sizeLine_eq]; show i < 16777216; have : i < 6 := hi; omega)
        · refine fun b u e => ?_
          have hne : b ≠ D := ne_of_none e hD
          rw [upd_ne hne]
          exact s2 _ _ (s1 _ _ e)
        · rw [upd_same, range_filter_succ, hb, if_pos rfl, nv_append]
          rfl
      · refine ⟨s1.trans s2, ?_⟩
        rw [range_filter_succ, if_neg hb, List.append_nil]
        exact s2 _ _ e1
    · rintro H' ⟨s1, e1⟩
      exact k H' D s1 hD e1
def spWorks : Sp := fun vs H Q _ => ∃ (d : Addr) (h : House) (j : Nat), vs = [.ref d, .int (j : Int)] ∧ MarksAt H d h ∧ ∀ H' p, Same H H' → H p = none → H' p = some (.lst (nv (worksOf h j))) → Q (.ref p) H'
theorem scWorks : FnScope ["marks", "judge", "work"] ["marks", "judge"] (defScope sWorks) := ⟨rfl, rfl, rfl, by decide +kernel, rfl, by decide +kernel, by decide +kernel⟩
theorem ok_works {f : Addr} {fd : FuncData} (F : Fun K "works_of" "works_of" sWorks f fd) (hrg : mg "range" = none) (cW : Cst mg "WORKS" 16) : FnOk P w K mg base CX0 1 f fd ["marks", "judge"] spWorks := by
  refine F.ok scWorks (fun vs H Q E h => ?_) (fun cdv A outer s H vs Q E hr h => ?_)
  · obtain ⟨d, h, j, rfl, _⟩ := h
    rfl
  · obtain ⟨d, h, j, rfl, hm, k⟩ := h
    have hu := hu_of' hr
    refine ⟨_, pss_one (ps_ret (pe_lc (own := [("work", 2)]) rfl scWorks.nd (pi_range1 rfl hrg (pa_cons (pe_cst cW rfl) pa_nil)) (blkOk_by (by rfl))
      (fun _ _ _ _ _ => pg_name (i := 2) scWorks.nd rfl (Or.inl rfl)) (fun _ _ _ _ _ => pts_one (pt_cmp (pc_din hu (pe_tup (pa_cons (pv 1) (pa_cons (pv 2) pa_nil))) (pv 0)))) (fun _ _ _ _ _ => pv 2))), ?_⟩
    refine ⟨16, rfl, by decide, by decide, fun D hD => lc_range (fun i H' => Same H H' ∧ H' D = some (.lst (nv ((List.range i).filter fun w => has h j w)))) ⟨(Same.refl H).new hD, upd_same⟩ ?_ ?_⟩
    · rintro i H' hi ⟨s1, e1⟩
      refine ⟨rfl, _, rfl, _, rfl, (by show 2 ≤ sizeLine; decide), fun p hp => ?_⟩
      rw [Int.zero_add]
      have s2 : Same H' (upd H' p (.tup [.int (j : Int), .int (i : Int)])) := (Same.refl H').new hp
      have hm2 : MarksAt (upd H' p (.tup [.int (j : Int), .int (i : Int)])) d h := (hm.same s1).same s2
      refine ⟨_, rfl, d, _, rfl, hm2.get upd_same, _, rfl, ?_⟩
      have e2 : (Option.map nV (markOf h j i)).isSome = has h j i := by unfold has; cases markOf h j i <;> rfl
      rw [e2]
      refine ite2 (fun hb => ?_) (fun hb => ?_)
      · refine ⟨_, rfl, _, s2 _ _ e1, ?_, ?_, ?_⟩
        · rw [nv_length]
          exact Nat.lt_of_le_of_lt (List.length_filter_le _ _) (by rw [List.length_range, sizeLine_eq]; show i < 16777216; have : i < 16 := hi; omega)
        · refine fun b u e => ?_
          have hne : b ≠ D := ne_of_none e hD
          rw [upd_ne hne]
          exact s2 _ _ (s1 _ _ e)
        · rw [upd_same, range_filter_succ, hb, if_pos rfl, nv_append]
          rfl
      · refine ⟨s1.trans s2, ?_⟩
        rw [range_filter_succ, if_neg hb, List.append_nil]
        exact s2 _ _ e1
    · rintro H' ⟨s1, e1⟩
      exact k H' D s1 hD e1
end
end Lm
end
section
set_option Elab.async false
set_option linter.all false
set_option maxRecDepth 100000
set_option maxHeartbeats 2000000
namespace L2
open PySem PySem.Spec PyProof.Rows
theorem Same.setG {H H' : Hp} {G : Addr} {o : HO} (s : Same H H') (hG : H G = none) : Same H (upd H' G o) := fun b u e => by
  rw [upd_ne (ne_of_none e hG)]
  exact s b u e
end L2
namespace Lm
open PySem PySem.Spec PyProof.Rows L2
open Kp202 (House markOf has judgesOf worksOf)
open MQ (GI Done IsGroup)
abbrev sGroup : Stmt := top 28
theorem nv_get {l : List Nat} {i : Nat} {y : V} (h : (nv l)[i]? = some y) : ∃ k, l[i]? = some k ∧ y = nV k := by
  unfold nv at h
  rw [List.getElem?_map] at h
  cases e : l[i]? with
  | none => rw [e] at h; cases h
  | some k => rw [e] at h; exact ⟨k, rfl, (Option.some.inj h).symm⟩
theorem nv_at {l : List Nat} {i k : Nat} (h : l[i]? = some k) : (nv l)[i]? = some (nV k) := by
  unfold nv
  rw [List.getElem?_map, h]
  rfl
theorem nv_flat : ∀ l : List Nat, (nv l).all flatV = true
  | [] => rfl
  | x :: l => by
    show (flatV (nV x) && (nv l).all flatV) = true
    rw [nv_flat l]
    rfl
theorem inV_nv (k : Nat) : ∀ l : List Nat, inV (nV k) (nv l) = decide (k ∈ l)
  | [] => by simp [inV, nv]
  | x :: l => by
    have ih := inV_nv k l
    unfold inV at ih ⊢
    show (eqV (nV x) (nV k) || (nv l).any fun y => eqV y (nV k)) = _
    rw [ih]
    show (((x : Int) == (k : Int)) || _) = _
    by_cases e : x = k
    · subst e; simp
    · have e1 : ((x : Int) == (k : Int)) = false := beq_eq_false_iff_ne.mpr (by omega)
      rw [e1]
      have e2 : ¬ k = x := fun z => e z.symm
      simp [e2]
theorem take_snoc {α : Type} : ∀ {l : List α} {i : Nat} {x : α}, l[i]? = some x → l.take (i + 1) = l.take i ++ [x]
  | [], i, x, h => by simp at h
  | a :: l, 0, x, h => by
    have e : a = x := Option.some.inj h
    subst e
    rfl
  | a :: l, i + 1, x, h => by
    have ih := take_snoc (l := l) (i := i) (x := x) h
    show a :: l.take (i + 1) = a :: l.take i ++ [x]
    rw [ih]
    rfl
section
variable {P : Program} {w : World} {K : PySem.W.Frag} {mg : Str → Option Value} {base : Heap}
def spGroup : Sp := fun vs H Q _ => ∃ (d : Addr) (h : House) (j : Nat), vs = [.ref d, .int (j : Int)] ∧ j < 6 ∧ MarksAt H d h ∧ ∀ H' p g, Same H H' → H p = none → H' p = some (.lst (nv g)) → IsGroup h j g → g.length ≤ 6 → Q (.ref p) H'
theorem scGroup : FnScope ["marks", "judge", "group", "followed", "work", "other"] ["marks", "judge"] (defScope sGroup) := ⟨rfl, rfl, rfl, by decide +kernel, rfl, by decide +kernel, by decide +kernel⟩
def muGroup : L2.St → Hp → Nat := fun σ _ => match σ with
  | [_, _, _, some (.int f), _, _] => 6 - f.toNat
  | _ => 0
theorem ok_group {f : Addr} {fd : FuncData} (F : Fun K "group_of" "group_of" sGroup f fd) (hlen : mg "len" = none)
    (GJ : Know P w K mg base "judges_of" ["marks", "work"] 1 spJudges) (GW : Know P w K mg base "works_of" ["marks", "judge"] 1 spWorks) : FnOk P w K mg base CX0 2 f fd ["marks", "judge"] spGroup := by
  refine F.ok scGroup (fun vs H Q E h => ?_) (fun cdv A outer s H vs Q E hr h => ?_)
  · obtain ⟨d, h, j, rfl, _⟩ := h
    rfl
  · obtain ⟨d, h, j, rfl, hj, hm, k⟩ := h
    refine ⟨_, pss_cons (ps_set (i := 2) scGroup.nd rfl (Or.inl rfl) (pe_lst (pa_cons (pv 1) pa_nil)))
      (pss_cons (ps_set (i := 3) scGroup.nd rfl (Or.inl rfl) pe_int)
      (pss_cons (ps_while PassesOwn.never (pt_cmpR op_lt (pv 3) (pe_callB call_len_seq (by rfl) hlen PySem.boot_len (pa_cons (pv 2) pa_nil)) (nomark _))
        (pss_cons (ps_for PassesOwn.never rfl (pi_list (pe_know GW hr rfl (pa_cons (pv 0) (pa_cons (pe_ix ix_list (pv 2) (pv 3) (fun _ _ => rfl)) pa_nil)))) (pg_name (i := 4) scGroup.nd rfl (Or.inl rfl))
          (pss_one (ps_for PassesOwn.never rfl (pi_list (pe_know GJ hr rfl (pa_cons (pv 0) (pa_cons (pv 4) pa_nil)))) (pg_name (i := 5) scGroup.nd rfl (Or.inl rfl))
            (pss_one (ps_if (pt_cmpR op_notIn_seq (pv 5) (pv 2) (by rfl))
              (pss_one (ps_expr (pe_bm PySem.F.plainAttrs_list PySem.F.slot_list_append PySem.F.type_list_append mt_append (pv 2) (pa_cons (pv 5) pa_nil)))) pss_nil)))))
        (pss_one (ps_aug (i := 3) scGroup.nd rfl (Or.inl rfl) pe_int ip_add))))
      (pss_one (ps_ret (pv 2))))), ?_⟩
    refine ⟨_, rfl, (by show 1 ≤ sizeLine; decide), fun G hG => ?_⟩
    refine while_by (fun σ H' => ∃ (g : List Nat) (fo : Nat) (v4 v5 : Option V), σ = [some (.ref d), some (.int (j : Int)), some (.ref G), some (.int (fo : Int)), v4, v5] ∧ Same H H' ∧ H' G = some (.lst (nv g)) ∧ GI h j g ∧ fo ≤ g.length ∧ Done h g fo) muGroup
      ⟨[j], 0, none, none, rfl, (Same.refl H).new hG, upd_same, GI.start hj, by simp, fun t i ht => absurd ht (by omega)⟩ ?_ ?_
    · rintro σ H1 ⟨g, fo, v4, v5, rfl, s1, e1, gi, hfo, dn⟩
      refine ⟨_, rfl, _, rfl, _, _, rfl, .inl (SqL.of e1), _, _, rfl, rfl, _, rfl, ?_⟩
      refine ite2 (fun hb => ?_) (fun hb => ?_)
      · have hb' : fo < g.length := by
          rw [nv_length] at hb
          simpa using hb
        obtain ⟨i, hi⟩ : ∃ i, g[fo]? = some i := ⟨_, List.getElem?_eq_getElem hb'⟩
        have him : i ∈ g := List.mem_of_getElem? hi
        refine ⟨_, rfl, _, rfl, _, rfl, G, _, _, _, rfl, rfl, SqL.of e1, atI_nat (nv_at hi), ?_⟩
        refine ⟨d, h, i, rfl, hm.same s1, fun H2 pW s2 nW eW => ?_⟩
        have hWG : pW ≠ G := (ne_of_none e1 nW).symm
        refine ⟨pW, rfl, ⟨_, SqL.of eW⟩, for_list (K := K) (a := pW) (xs := nv (worksOf h i)) (fun n σ H' => ∃ (x : List Nat) (v4 v5 : Option V), σ = [some (.ref d), some (.int (j : Int)), some (.ref G), some (.int (fo : Int)), v4, v5] ∧ Same H H' ∧ H' G = some (.lst (nv (g ++ x))) ∧ H' pW = some (.lst (nv (worksOf h i))) ∧ GI h j (g ++ x) ∧ ∀ w ∈ (worksOf h i).take n, ∀ k ∈ judgesOf h w, k ∈ g ++ x)
          ⟨[], v4, v5, rfl, s1.trans s2, by rw [List.append_nil]; exact s2 _ _ e1, eW, by rw [List.append_nil]; exact gi, by simp⟩ (fun n σ H' _ ⟨_, _, _, _, _, _, e, _⟩ => SqL.of e) ?_ ?_⟩
        · rintro n y σ H3 hn ⟨x, v4, v5, rfl, s3, e3, eW3, gi3, al3⟩
          obtain ⟨wk, hwk, rfl⟩ := nv_get hn
          have hwm : wk ∈ worksOf h i := List.mem_of_getElem? hwk
          refine ⟨_, rfl, _, rfl, d, h, wk, rfl, hm.same s3, fun H4 pJ s4 nJ eJ => ?_⟩
          have hJG : pJ ≠ G := (ne_of_none e3 nJ).symm
          refine ⟨pJ, rfl, ⟨_, SqL.of eJ⟩, for_list (K := K) (a := pJ) (xs := nv (judgesOf h wk)) (fun m σ H' => ∃ (x' : List Nat) (v5 : Option V), σ = [some (.ref d), some (.int (j : Int)), some (.ref G), some (.int (fo : Int)), some (nV wk), v5] ∧ Same H H' ∧ H' G = some (.lst (nv (g ++ x'))) ∧ H' pW = some (.lst (nv (worksOf h i))) ∧ H' pJ = some (.lst (nv (judgesOf h wk))) ∧ GI h j (g ++ x') ∧ (∀ k ∈ g ++ x, k ∈ g ++ x') ∧ ∀ k ∈ (judgesOf h wk).take m, k ∈ g ++ x')
            ⟨x, v5, rfl, s3.trans s4, s4 _ _ e3, s4 _ _ eW3, eJ, gi3, fun k hk => hk, by simp⟩ (fun n σ H' _ ⟨_, _, _, _, _, _, e, _⟩ => SqL.of e) ?_ ?_⟩
          · rintro m y2 σ H5 hm2 ⟨x', v5, rfl, s5, e5, eW5, eJ5, gi5, sub5, al5⟩
            obtain ⟨ot, hot, rfl⟩ := nv_get hm2
            have hom : ot ∈ judgesOf h wk := List.mem_of_getElem? hot
            refine ⟨_, rfl, _, rfl, _, _, rfl, .inl (SqL.of e5), rfl, nv_flat _, _, rfl, ?_⟩
            have hin : inV (nV ot) (nv (g ++ x')) = decide (ot ∈ g ++ x') := inV_nv ot _
            show if (!inV (nV ot) (nv (g ++ x'))) = true then _ else _
            rw [hin]
            refine ite2 (fun hn => ?_) (fun hn => ?_)
            · have hn' : ot ∉ g ++ x' := by simpa using hn
              refine ⟨_, rfl, .inl ⟨rfl, _, SqL.of e5⟩, _, rfl, G, _, _, rfl, rfl, e5, ?_, ?_⟩
              · have := gi5.len
                rw [nv_length, sizeLine_eq]
                omega
              · refine ⟨x' ++ [ot], _, rfl, s5.setG hG, ?_, ?_, ?_, ?_, ?_, ?_⟩
                · rw [upd_same, ← List.append_assoc, nv_append (g ++ x') [ot]]
                  rfl
                · rw [upd_ne hWG]; exact eW5
                · rw [upd_ne hJG]; exact eJ5
                · rw [← List.append_assoc]
                  exact gi5.add (List.mem_append_left _ him) hwm hom hn'
                · intro k hk
                  rw [← List.append_assoc]
                  exact List.mem_append_left _ (sub5 k hk)
                · intro k hk
                  rw [take_snoc hot] at hk
                  rw [← List.append_assoc]
                  rcases List.mem_append.mp hk with hk | hk
                  · exact List.mem_append_left _ (al5 k hk)
                  · exact List.mem_append_right _ hk
            · have hn' : ot ∈ g ++ x' := by
                cases hd : decide (ot ∈ g ++ x') with
                | true => exact of_decide_eq_true hd
                | false => exact absurd (by rw [hd]; rfl) hn
              refine ⟨x', _, rfl, s5, e5, eW5, eJ5, gi5, sub5, ?_⟩
              intro k hk
              rw [take_snoc hot] at hk
              rcases List.mem_append.mp hk with hk | hk
              · exact al5 k hk
              · rw [List.mem_singleton] at hk
                rw [hk]; exact hn'
          · rintro σ H5 ⟨x', v5, rfl, s5, e5, eW5, eJ5, gi5, sub5, al5⟩
            rw [nv_length, List.take_length] at al5
            refine ⟨x', _, _, rfl, s5, e5, eW5, gi5, ?_⟩
            intro w hw k hk
            rw [take_snoc hwk] at hw
            rcases List.mem_append.mp hw with hw | hw
            · exact sub5 k (al3 w hw k hk)
            · rw [List.mem_singleton] at hw
              subst hw
              exact al5 k hk
        · rintro σ H3 ⟨x, v4, v5, rfl, s3, e3, eW3, gi3, al3⟩
          rw [nv_length, List.take_length] at al3
          refine ⟨_, rfl, _, _, rfl, rfl, ?_⟩
          refine ⟨⟨g ++ x, fo + 1, _, _, rfl, s3, e3, gi3, ?_, ?_⟩, ?_⟩
          · rw [List.length_append]; omega
          · exact (dn.more hfo x).next (by rw [List.getElem?_append_left hb']; exact hi) al3
          · show 6 - ((fo : Int) + 1).toNat < 6 - (fo : Int).toNat
            have := gi.len
            omega
      · have hb' : fo = g.length := by
          rw [nv_length] at hb
          have : ¬ (fo : Int) < (g.length : Int) := by simpa using hb
          omega
        subst hb'
        refine ⟨_, rfl, ?_⟩
        exact k H1 G g s1 hG e1 (gi.fin dn) gi.len
    · intro σ H Q Q' hq h
      obtain ⟨x, e1, y, e2, p, ys, e3, e4, i, j, e5, e6, kk, e7, q⟩ := h
      exact ⟨x, e1, y, e2, p, ys, e3, e4, i, j, e5, e6, kk, e7, hq _ _ q⟩
end
end Lm
end
section
set_option Elab.async false
set_option linter.all false
set_option maxRecDepth 100000
set_option maxHeartbeats 2000000
namespace Lm
open PySem PySem.Spec PyProof.Rows L2
open Kp202 (House markOf has judgesOf worksOf)
open MQ (GI Done IsGroup eqIn eqW eq0 eqAll eqRow shr mI)
abbrev sEqn : Stmt := top 35
def iv (l : List Int) : List V := l.map V.int
theorem iv_length (l : List Int) : (iv l).length = l.length := List.length_map _
theorem iv_at {l : List Int} {i : Nat} (h : i < l.length) : (iv l)[i]? = some (V.int (l.getD i 0)) := by
  unfold iv
  rw [List.getElem?_map, List.getD_eq_getElem?_getD, List.getElem?_eq_getElem h]
  rfl
theorem iv_set (l : List Int) (i : Nat) (v : Int) : (iv l).set i (V.int v) = iv (l.set i v) := by
  unfold iv
  rw [List.map_set]
theorem ixN_nat {n i : Nat} (h : i < n) : ixN n (i : Int) = some i := by
  unfold ixN
  rw [if_pos (by omega), if_pos (by omega)]; simp
theorem mark_some {h : House} {j w : Nat} (e : has h j w = true) : (markOf h j w).map nV = some (V.int (mI h j w)) := by
  unfold has at e
  unfold mI
  cases q : markOf h j w with
  | none => rw [q] at e; cases e
  | some m => rfl
theorem eqIn_len {h : House} {w : Nat} : ∀ (ks : List Nat) (s : List Int × Int), (ks.foldl (eqIn h w) s).1.length = s.1.length
  | [], s => rfl
  | k :: ks, s => by
    rw [List.foldl_cons, eqIn_len ks]
    exact List.length_set
theorem eqW_len {h : House} {i : Nat} : ∀ (ws : List Nat) (s : List Int × Int), (ws.foldl (eqW h i) s).1.length = s.1.length
  | [], s => rfl
  | k :: ks, s => by
    rw [List.foldl_cons, eqW_len ks]
    unfold eqW
    rw [eqIn_len]
    exact List.length_set
theorem shr_pos {h : House} {w : Nat} (hn : 0 < (judgesOf h w).length) : 0 < shr h w ∧ shr h w ≤ 60 := by
  have hle := MQ.judges_le h w
  unfold shr
  generalize (judgesOf h w).length = n at *
  have : n = 1 ∨ n = 2 ∨ n = 3 ∨ n = 4 ∨ n = 5 ∨ n = 6 := by omega
  rcases this with rfl | rfl | rfl | rfl | rfl | rfl <;> decide
section
variable {P : Program} {w : World} {K : PySem.W.Frag} {mg : Str → Option Value} {base : Heap}
def spEqn : Sp := fun vs H Q _ => ∃ (d : Addr) (h : House) (j : Nat), vs = [.ref d, .int (j : Int)] ∧ j < 6 ∧ MarksAt H d h ∧ ∀ H' p g, Same H H' → H p = none → IsGroup h j g → H' p = some (.lst (iv (eqRow h j g))) → Q (.ref p) H'
theorem scEqn : FnScope ["marks", "judge", "group", "other", "row", "left", "work", "judges", "share"] ["marks", "judge"] (defScope sEqn) := ⟨rfl, rfl, rfl, by decide +kernel, rfl, by decide +kernel, by decide +kernel⟩
theorem ok_eqn {f : Addr} {fd : FuncData} (F : Fun K "hand_equation" "hand_equation" sEqn f fd) (hlen : mg "len" = none) (hrg : mg "range" = none) (cJ : Cst mg "JUDGES" 6) (cS : Cst mg "SCALE" 60)
    (GJ : Know P w K mg base "judges_of" ["marks", "work"] 1 spJudges) (GW : Know P w K mg base "works_of" ["marks", "judge"] 1 spWorks) (GG : Know P w K mg base "group_of" ["marks", "judge"] 2 spGroup) : FnOk P w K mg base CX0 3 f fd ["marks", "judge"] spEqn := by
  refine F.ok scEqn (fun vs H Q E h => ?_) (fun cdv A outer s H vs Q E hr h => ?_)
  · obtain ⟨d, h, j, rfl, _⟩ := h
    rfl
  · obtain ⟨d, h, j, rfl, hj, hm, k⟩ := h
    have hu := hu_of' hr
    refine ⟨_, pss_cons (ps_set (i := 2) scEqn.nd rfl (Or.inr rfl) (pe_know GG hr rfl (pa_cons (pv 0) (pa_cons (pv 1) pa_nil))))
      (pss_cons (ps_setLc (i := 4) (own := [("other", 3)]) rfl scEqn.nd rfl rfl (sw_true rfl rfl rfl rfl) (pi_range1 rfl hrg (pa_cons (pe_cst cJ rfl) pa_nil)) (blkOk_by (by rfl))
        (fun _ _ _ _ _ => pg_name (i := 3) scEqn.nd rfl (Or.inl rfl)) (fun _ _ _ _ _ => pts_nil) (fun _ _ _ _ _ => pe_ifExp (pt_cmpR (r := rIn K false) op_in_seq (pv 3) (pv 2) (by rfl)) pe_int pe_int))
      (pss_cons (ps_set (i := 5) scEqn.nd rfl (Or.inl rfl) pe_int)
      (pss_cons (ps_for PassesOwn.never rfl (pi_list (pe_know GW hr rfl (pa_cons (pv 0) (pa_cons (pv 1) pa_nil)))) (pg_name (i := 6) scEqn.nd rfl (Or.inl rfl))
        (pss_cons (ps_set (i := 7) scEqn.nd rfl (Or.inl rfl) (pe_know GJ hr rfl (pa_cons (pv 0) (pa_cons (pv 6) pa_nil))))
        (pss_cons (ps_set (i := 8) scEqn.nd rfl (Or.inl rfl) (pe_op op_fdiv (pe_cst cS rfl) (pe_callB call_len_seq (by rfl) hlen PySem.boot_len (pa_cons (pv 7) pa_nil))))
        (pss_cons (ps_augS (pv 4) (pv 1) get_list (pe_cst cS rfl) ip_add set_list)
        (pss_cons (ps_aug (i := 5) scEqn.nd rfl (Or.inl rfl) (pe_op op_mul (pe_cst cS rfl) (pe_dget hu (pv 0) (pe_tup (pa_cons (pv 1) (pa_cons (pv 6) pa_nil))) (fun _ _ => rfl))) ip_add)
        (pss_one (ps_for PassesOwn.never rfl (pi_list (pv 7)) (pg_name (i := 3) scEqn.nd rfl (Or.inl rfl))
          (pss_cons (ps_augS (pv 4) (pv 3) get_list (pv 8) ip_sub set_list)
          (pss_one (ps_aug (i := 5) scEqn.nd rfl (Or.inl rfl) (pe_op op_mul (pv 8) (pe_dget hu (pv 0) (pe_tup (pa_cons (pv 3) (pa_cons (pv 6) pa_nil))) (fun _ _ => rfl))) ip_sub)))))))))) 
      (pss_one (ps_ret (pe_op op_cat (pv 4) (pe_lst (pa_cons (pv 5) pa_nil)))))))), ?_⟩
    refine ⟨_, rfl, _, rfl, d, h, j, rfl, hj, hm, fun H1 pG g s1 nG eG ig hgl => ?_⟩
    -- row
    refine ⟨6, rfl, by decide, by decide, fun D hD => lc_range (fun i H' => Same H1 H' ∧ H' D = some (.lst (iv ((List.range i).map fun k => if k ∈ g then 1 else 0)))) ⟨(Same.refl H1).new hD, upd_same⟩ ?_ ?_⟩
    · rintro i H2 hi ⟨s2, e2⟩
      refine ⟨rfl, ?_⟩
      rw [Int.zero_add]
      refine ⟨_, rfl, _, rfl, pG, nv g, rfl, .inl (SqL.of (s2 _ _ eG)), rfl, nv_flat _, _, rfl, ?_⟩
      show if inV (nV i) (nv g) = true then _ else _
      rw [inV_nv]
      have key : ∀ v : Int, v = (if i ∈ g then 1 else 0) → ∃ acc, H2 D = some (.lst acc) ∧ acc.length < sizeLine ∧ Same H1 (upd H2 D (.lst (acc ++ [V.int v]))) ∧ upd H2 D (.lst (acc ++ [V.int v])) D = some (.lst (iv ((List.range (i + 1)).map fun k => if k ∈ g then 1 else 0))) := by
        intro v hv
        refine ⟨_, e2, ?_, s2.setG hD, ?_⟩
        · rw [iv_length, List.length_map, List.length_range, sizeLine_eq]
          have : i < 6 := hi
          omega
        · rw [upd_same, List.range_succ, List.map_append]
          unfold iv
          rw [List.map_append, hv]
          rfl
      refine ite2 (fun hb => ?_) (fun hb => ?_)
      · have hb' : i ∈ g := by simpa using hb
        exact key 1 (by rw [if_pos hb'])
      · have hb' : i ∉ g := by simpa using hb
        exact key 0 (by rw [if_neg hb'])
    · rintro H2 ⟨s2, e2⟩
      have s12 := s1.trans s2
      have nD : H D = none := s1.free hD
      -- the works
      refine ⟨_, rfl, _, rfl, d, h, j, rfl, hm.same s12, fun H3 pW s3 nW eW => ?_⟩
      have hWD : pW ≠ D := (ne_of_none e2 nW).symm
      have nW0 : H pW = none := s12.free nW
      refine ⟨pW, rfl, ⟨_, SqL.of eW⟩, for_list (K := K) (a := pW) (xs := nv (worksOf h j)) (fun n σ H' => ∃ (v3 v6 v7 v8 : Option V), σ = [some (.ref d), some (.int (j : Int)), some (.ref pG), v3, some (.ref D), some (.int (((worksOf h j).take n).foldl (eqW h j) (eq0 g, 0)).2), v6, v7, v8] ∧ Same H H' ∧ H' D = some (.lst (iv (((worksOf h j).take n).foldl (eqW h j) (eq0 g, 0)).1)) ∧ H' pW = some (.lst (nv (worksOf h j))))
        ⟨none, none, none, none, rfl, s12.trans s3, s3 _ _ e2, eW⟩ (fun n σ H' _ ⟨_, _, _, _, _, _, _, e⟩ => SqL.of e) ?_ ?_⟩
      · rintro n y σ H4 hn ⟨v3, v6, v7, v8, rfl, s4, e4, eW4⟩
        obtain ⟨wk, hwk, rfl⟩ := nv_get hn
        have hwm := MQ.mem_works.mp (List.mem_of_getElem? hwk)
        generalize hst : ((worksOf h j).take n).foldl (eqW h j) (eq0 g, 0) = st at *
        have hl6 : st.1.length = 6 := by
          rw [← hst, eqW_len]
          simp [eq0]
        have hnext : ((worksOf h j).take (n + 1)).foldl (eqW h j) (eq0 g, 0) = eqW h j st wk := by
          rw [take_snoc hwk, List.foldl_append, hst]
          rfl
        -- judges
        refine ⟨_, rfl, _, rfl, d, h, wk, rfl, hm.same s4, fun H5 pJ s5 nJ eJ => ?_⟩
        have hJD : pJ ≠ D := (ne_of_none e4 nJ).symm
        have nJ0 : H pJ = none := s4.free nJ
        have hnj : 0 < (judgesOf h wk).length := MQ.judges_pos hj hwm.2
        have hsh := shr_pos hnj
        have hjl := MQ.judges_le h wk
        have eD5 := s5 _ _ e4
        have s45 := s4.trans s5
        -- share
        refine ⟨_, rfl, _, _, rfl, .inl (SqL.of eJ), _, _, rfl, rfl, ⟨by rw [nv_length]; omega, by rw [nv_length]; omega⟩, ?_⟩
        rw [nv_length]
        -- row[judge] += SCALE
        refine ⟨_, rfl, _, rfl, D, _, _, _, rfl, rfl, SqL.of eD5, atI_nat (iv_at (by omega : j < st.1.length)), _, _, rfl, rfl, D, _, _, j, rfl, rfl, eD5, ixN_nat (by rw [iv_length]; omega), ?_⟩
        rw [iv_set]
        -- left += SCALE * marks[judge, work]
        have s6 : Same H (upd H5 D (.lst (iv (st.1.set j (st.1.getD j 0 + 60))))) := s45.setG nD
        have eW6 : (upd H5 D (.lst (iv (st.1.set j (st.1.getD j 0 + 60))))) pW = some (.lst (nv (worksOf h j))) := by rw [upd_ne hWD]; exact s5 _ _ eW4
        have eJ6 : (upd H5 D (.lst (iv (st.1.set j (st.1.getD j 0 + 60))))) pJ = some (.lst (nv (judgesOf h wk))) := by rw [upd_ne hJD]; exact eJ
        have eD6 : (upd H5 D (.lst (iv (st.1.set j (st.1.getD j 0 + 60))))) D = some (.lst (iv (st.1.set j (st.1.getD j 0 + 60)))) := upd_same
        generalize upd H5 D (.lst (iv (st.1.set j (st.1.getD j 0 + 60)))) = H6 at s6 eW6 eJ6 eD6 ⊢
        refine ⟨_, rfl, _, rfl, _, rfl, _, rfl, (by show 2 ≤ sizeLine; decide), fun p1 hp1 => ?_⟩
        have s7 : Same H6 (upd H6 p1 (.tup [.int (j : Int), nV wk])) := (Same.refl H6).new hp1
        have g7 : DGet (upd H6 p1 (.tup [.int (j : Int), nV wk])) d (.ref p1) (some (V.int (mI h j wk))) := by
          rw [← mark_some hwm.2]
          exact ((hm.same s6).same s7).get upd_same
        refine ⟨d, _, rfl, g7, _, _, rfl, rfl, .inl ⟨by decide, by decide⟩, _, _, rfl, rfl, ?_⟩
        -- for other in judges
        have eJ7 := s7 _ _ eJ6
        refine ⟨_, rfl, pJ, rfl, ⟨_, SqL.of eJ7⟩, for_list (K := K) (a := pJ) (xs := nv (judgesOf h wk)) (fun m σ H' => ∃ (v3 : Option V), σ = [some (.ref d), some (.int (j : Int)), some (.ref pG), v3, some (.ref D), some (.int (((judgesOf h wk).take m).foldl (eqIn h wk) (st.1.set j (st.1.getD j 0 + 60), st.2 + 60 * mI h j wk)).2), some (nV wk), some (.ref pJ), some (.int (shr h wk))] ∧ Same H H' ∧ H' D = some (.lst (iv (((judgesOf h wk).take m).foldl (eqIn h wk) (st.1.set j (st.1.getD j 0 + 60), st.2 + 60 * mI h j wk)).1)) ∧ H' pW = some (.lst (nv (worksOf h j))) ∧ H' pJ = some (.lst (nv (judgesOf h wk))))
          ⟨_, rfl, s6.trans s7, s7 _ _ eD6, s7 _ _ eW6, eJ7⟩ (fun m σ H' _ ⟨_, _, _, _, _, e⟩ => SqL.of e) ?_ ?_⟩
        · rintro m y2 σ H8 hm2 ⟨v3, rfl, s8, e8, eW8, eJ8⟩
          obtain ⟨ot, hot, rfl⟩ := nv_get hm2
          have hom := MQ.mem_judges.mp (List.mem_of_getElem? hot)
          generalize hst2 : ((judgesOf h wk).take m).foldl (eqIn h wk) (st.1.set j (st.1.getD j 0 + 60), st.2 + 60 * mI h j wk) = st2 at *
          have hl62 : st2.1.length = 6 := by
            rw [← hst2, eqIn_len]
            show (st.1.set j _).length = 6
            rw [List.length_set]; exact hl6
          have hnext2 : ((judgesOf h wk).take (m + 1)).foldl (eqIn h wk) (st.1.set j (st.1.getD j 0 + 60), st.2 + 60 * mI h j wk) = eqIn h wk st2 ot := by
            rw [take_snoc hot, List.foldl_append, hst2]
            rfl
          -- row[other] -= share
          refine ⟨_, rfl, _, rfl, D, _, _, _, rfl, rfl, SqL.of e8, atI_nat (iv_at (by omega : ot < st2.1.length)), _, rfl, _, _, rfl, rfl, D, _, _, ot, rfl, rfl, e8, ixN_nat (by rw [iv_length]; omega), ?_⟩
          rw [iv_set]
          have s9 : Same H (upd H8 D (.lst (iv (st2.1.set ot (st2.1.getD ot 0 - shr h wk))))) := s8.setG nD
          have eW9 : (upd H8 D (.lst (iv (st2.1.set ot (st2.1.getD ot 0 - shr h wk))))) pW = some (.lst (nv (worksOf h j))) := by rw [upd_ne hWD]; exact eW8
          have eJ9 : (upd H8 D (.lst (iv (st2.1.set ot (st2.1.getD ot 0 - shr h wk))))) pJ = some (.lst (nv (judgesOf h wk))) := by rw [upd_ne hJD]; exact eJ8
          have eD9 : (upd H8 D (.lst (iv (st2.1.set ot (st2.1.getD ot 0 - shr h wk))))) D = some (.lst (iv (st2.1.set ot (st2.1.getD ot 0 - shr h wk)))) := upd_same
          generalize upd H8 D (.lst (iv (st2.1.set ot (st2.1.getD ot 0 - shr h wk)))) = H9 at s9 eW9 eJ9 eD9 ⊢
          refine ⟨_, rfl, _, rfl, _, rfl, _, rfl, _, rfl, (by show 2 ≤ sizeLine; decide), fun p2 hp2 => ?_⟩
          have s10 : Same H9 (upd H9 p2 (.tup [nV ot, nV wk])) := (Same.refl H9).new hp2
          have g10 : DGet (upd H9 p2 (.tup [nV ot, nV wk])) d (.ref p2) (some (V.int (mI h ot wk))) := by
            rw [← mark_some hom.2]
            exact ((hm.same s9).same s10).get upd_same
          refine ⟨d, _, rfl, g10, _, _, rfl, rfl, .inl ⟨by omega, by omega⟩, _, _, rfl, rfl, ?_⟩
          refine ⟨some (nV ot), ?_, s9.trans s10, ?_, s10 _ _ eW9, s10 _ _ eJ9⟩
          · rw [hnext2]
            rfl
          · rw [hnext2]
            exact s10 _ _ eD9
        · rintro σ H8 ⟨v3, rfl, s8, e8, eW8, eJ8⟩
          rw [nv_length, List.take_length] at e8 ⊢
          refine ⟨v3, some (nV wk), some (.ref pJ), some (.int (shr h wk)), ?_, s8, ?_, eW8⟩
          · rw [hnext]
            rfl
          · rw [hnext]
            exact e8
      · rintro σ H4 ⟨v3, v6, v7, v8, rfl, s4, e4, eW4⟩
        rw [nv_length, List.take_length] at e4 ⊢
        refine ⟨_, rfl, _, rfl, (by show 1 ≤ sizeLine; decide), fun pL hL => ?_⟩
        have s5 : Same H4 (upd H4 pL (.lst [V.int ((worksOf h j).foldl (eqW h j) (eq0 g, 0)).2])) := (Same.refl H4).new hL
        have hl6 : ((worksOf h j).foldl (eqW h j) (eq0 g, 0)).1.length = 6 := by
          rw [eqW_len]
          simp [eq0]
        refine ⟨D, pL, _, _, rfl, rfl, s5 _ _ e4, upd_same, ?_, fun p hp => ?_⟩
        · rw [iv_length, hl6]
          show 6 + 1 ≤ sizeLine
          decide
        · refine k _ p g ((s4.trans s5).new hp) ((s4.trans s5).free hp) ig ?_
          rw [upd_same]
          show _ = some (HO.lst (iv (((worksOf h j).foldl (eqW h j) (eq0 g, 0)).1 ++ [((worksOf h j).foldl (eqW h j) (eq0 g, 0)).2])))
          unfold iv
          rw [List.map_append]
          rfl
end
end Lm
end
section
set_option Elab.async false
set_option linter.all false
set_option maxRecDepth 100000
set_option maxHeartbeats 2000000
namespace Lm
open PySem PySem.Spec PyProof.Rows L2
open Kp202 (House markOf has judgesOf worksOf handOf)
open Kp193 (Q frac)
open MQ (IsGroup eqRow Eqs Small jord gj Shape Bd bdA bdB)
open Builtin.Int (intBits)
abbrev sCleared : Stmt := top 37
abbrev sSolution : Stmt := top 36
abbrev sHands : Stmt := top 34
theorem bits_of_abs {x : Int} {a m : Nat} (h : x.natAbs ≤ 2 ^ a) (ha : a < m) : intBits x ≤ m := by
  refine intBits_le_iff.mpr (Nat.lt_of_le_of_lt h ?_)
  exact Nat.pow_lt_pow_right (by decide) ha
theorem mul_ok {x y : Int} (hx : intBits x ≤ 60000000) (hy : intBits y ≤ 60000000) : IntMulOk x y := IntMulOk.of_le hx hy (by decide)
section
variable {P : Program} {w : World} {K : PySem.W.Frag} {mg : Str → Option Value} {base : Heap}
def spCleared : Sp := fun vs H Q _ => ∃ (a b : Addr) (p : Nat) (row by_ : List Int), vs = [.ref a, .ref b, .int (p : Int)] ∧ H a = some (.lst (iv row)) ∧ H b = some (.lst (iv by_)) ∧ row.length = 7 ∧ by_.length = 7 ∧ p < 7 ∧
  (∀ k, k < 7 → intBits (row.getD k 0) ≤ 60000000) ∧ (∀ k, k < 7 → intBits (by_.getD k 0) ≤ 60000000) ∧ ∀ H' q, Same H H' → H q = none → H' q = some (.lst (iv (MQ.cleared row by_ p))) → Q (.ref q) H'
theorem scCleared : FnScope ["row", "by", "place", "k"] ["row", "by", "place"] (defScope sCleared) := ⟨rfl, rfl, rfl, by decide +kernel, rfl, by decide +kernel, by decide +kernel⟩
theorem ok_cleared {f : Addr} {fd : FuncData} (F : Fun K "cleared" "cleared" sCleared f fd) (hlen : mg "len" = none) (hrg : mg "range" = none) : FnOk P w K mg base CX0 1 f fd ["row", "by", "place"] spCleared := by
  refine F.ok scCleared (fun vs H Q E h => ?_) (fun cdv A outer s H vs Q E hr h => ?_)
  · obtain ⟨a, b, p, row, by_, rfl, _⟩ := h
    rfl
  · obtain ⟨a, b, p, row, by_, rfl, ea, eb, la, lb, hp, ba, bb, k⟩ := h
    refine ⟨_, pss_one (ps_ret (pe_lc (own := [("k", 3)]) rfl scCleared.nd (pi_range1 rfl hrg (pa_cons (pe_callB call_len_seq (by rfl) hlen PySem.boot_len (pa_cons (pv 0) pa_nil)) pa_nil)) (blkOk_by (by rfl))
      (fun _ _ _ _ _ => pg_name (i := 3) scCleared.nd rfl (Or.inl rfl)) (fun _ _ _ _ _ => pts_nil)
      (fun _ _ _ _ _ => pe_op op_sub (pe_op op_mulB (pe_ix (r := rIxL K) ix_list (pv 1) (pv 2) (fun _ _ => rfl)) (pe_ix (r := rIxL K) ix_list (pv 0) (pv 3) (fun _ _ => rfl)))
        (pe_op op_mulB (pe_ix (r := rIxL K) ix_list (pv 0) (pv 2) (fun _ _ => rfl)) (pe_ix (r := rIxL K) ix_list (pv 1) (pv 3) (fun _ _ => rfl)))))), ?_⟩
    refine ⟨_, rfl, _, _, rfl, .inl (SqL.of ea), 7, (by rw [iv_length, la]; rfl), by decide, by decide, fun D hD => lc_range (fun i H' => Same H H' ∧ H' D = some (.lst (iv ((List.range i).map fun k => by_.getD p 0 * row.getD k 0 - row.getD p 0 * by_.getD k 0)))) ⟨(Same.refl H).new hD, upd_same⟩ ?_ ?_⟩
    · rintro i H1 hi ⟨s1, e1⟩
      have hi7 : i < 7 := hi
      have ea1 := s1 _ _ ea
      have eb1 := s1 _ _ eb
      refine ⟨rfl, ?_⟩
      rw [Int.zero_add]
      refine ⟨_, rfl, _, rfl, b, _, _, _, rfl, rfl, SqL.of eb1, atI_nat (iv_at (by omega : p < by_.length)), _, rfl, _, rfl, a, _, _, _, rfl, rfl, SqL.of ea1, atI_nat (iv_at (by omega : i < row.length)), _, _, rfl, rfl, mul_ok (bb p hp) (ba i hi7),
        _, rfl, _, rfl, a, _, _, _, rfl, rfl, SqL.of ea1, atI_nat (iv_at (by omega : p < row.length)), _, rfl, _, rfl, b, _, _, _, rfl, rfl, SqL.of eb1, atI_nat (iv_at (by omega : i < by_.length)), _, _, rfl, rfl, mul_ok (ba p hp) (bb i hi7), _, _, rfl, rfl, ?_⟩
      refine ⟨_, e1, ?_, s1.setG hD, ?_⟩
      · rw [iv_length, List.length_map, List.length_range, sizeLine_eq]
        omega
      · rw [upd_same, List.range_succ, List.map_append]
        unfold iv
        rw [List.map_append]
        rfl
    · rintro H1 ⟨s1, e1⟩
      refine k H1 D s1 hD ?_
      unfold MQ.cleared
      rw [la]
      exact e1
structure RowsAt (H : Hp) (c : Addr) (R : List (List Int)) : Prop where
  ex : ∃ as : List Addr, H c = some (.lst (as.map V.ref)) ∧ as.length = 6 ∧ ∀ k a, as[k]? = some a → H a = some (.lst (iv (R.getD k [])))
theorem RowsAt.same {H H' : Hp} {c : Addr} {R : List (List Int)} (r : RowsAt H c R) (s : Same H H') : RowsAt H' c R := by
  obtain ⟨as, h1, h2, h3⟩ := r.ex
  exact ⟨as, s _ _ h1, h2, fun k a h => s _ _ (h3 k a h)⟩
theorem RowsAt.row {H : Hp} {c : Addr} {R : List (List Int)} (r : RowsAt H c R) {k : Nat} (hk : k < 6) : ∃ a xs, H c = some (.lst xs) ∧ xs[k]? = some (V.ref a) ∧ H a = some (.lst (iv (R.getD k []))) := by
  obtain ⟨as, h1, h2, h3⟩ := r.ex
  have h4 : as[k]? = some as[k] := List.getElem?_eq_getElem (by omega)
  exact ⟨as[k], _, h1, by rw [List.getElem?_map, h4]; rfl, h3 k _ h4⟩
def FracAt (H : Hp) (a : Addr) (q : Q) : Prop := H a = some (.tup [.int q.top, .int (q.bottom : Int)])
structure FracsAt (H : Hp) (c : Addr) (qs : List Q) : Prop where
  ex : ∃ as : List Addr, H c = some (.lst (as.map V.ref)) ∧ as.length = qs.length ∧ ∀ (k : Nat) a q, as[k]? = some a → qs[k]? = some q → FracAt H a q
theorem FracsAt.same {H H' : Hp} {c : Addr} {R : List Q} (r : FracsAt H c R) (s : Same H H') : FracsAt H' c R := by
  obtain ⟨as, h1, h2, h3⟩ := r.ex
  exact ⟨as, s _ _ h1, h2, fun k a q h h' => s _ _ (h3 k a q h h')⟩
theorem FracsAt.at {H : Hp} {c : Addr} {R : List Q} (r : FracsAt H c R) {k : Nat} {q : Q} (hk : R[k]? = some q) : ∃ a xs, H c = some (.lst xs) ∧ xs[k]? = some (V.ref a) ∧ FracAt H a q := by
  obtain ⟨as, h1, h2, h3⟩ := r.ex
  have hl : k < R.length := (List.getElem?_eq_some_iff.mp hk).1
  have h4 : as[k]? = some as[k] := List.getElem?_eq_getElem (by omega)
  exact ⟨as[k], _, h1, by rw [List.getElem?_map, h4]; rfl, h3 k _ q h4 hk⟩
/-- a list of new things, one more -/
theorem refs_snoc {H : Hp} {D : Addr} {as : List Addr} {a : Addr} : (as.map V.ref) ++ [V.ref a] = (as ++ [a]).map V.ref := by
  rw [List.map_append]
  rfl
theorem atI_neg1 {α : Type} {xs : List α} {n : Nat} {v : α} (hl : xs.length = n + 1) (h : xs[n]? = some v) : atI xs (-1) = some v := by
  have e : ixN xs.length (-1) = some n := by
    unfold ixN
    rw [hl, if_neg (by decide), if_pos (by omega)]
    congr 1
    omega
  unfold atI
  rw [e]
  exact h
def solF (R : List (List Int)) : List Q := (List.range 6).map fun k => frac (MQ.ent (MQ.jordan R) k 6) (MQ.ent (MQ.jordan R) k k).toNat
def spSolution : Sp := fun vs H Q _ => ∃ (c : Addr) (R : List (List Int)), vs = [.ref c] ∧ RowsAt H c R ∧ Shape R ∧ Bd 10 20 R ∧ (∀ k, k < 6 → 0 < MQ.ent (MQ.jordan R) k k) ∧ ∀ H' q, Same H H' → H q = none → FracsAt H' q (solF R) → Q (.ref q) H'
theorem scSolution : FnScope ["rows", "places", "current", "place", "k"] ["rows"] (defScope sSolution) := ⟨rfl, rfl, rfl, by decide +kernel, rfl, by decide +kernel, by decide +kernel⟩
theorem range6 : ((List.range 6).map fun (i : Nat) => V.int (i : Int)) = nv (List.range 6) := rfl
theorem bits_jord {R : List (List Int)} (hs : Shape R) (hb : Bd 10 20 R) {n : Nat} (hn : n ≤ 6) {k c : Nat} (hk : k < 6) (hc : c < 7) : intBits (((jord n R).getD k []).getD c 0) ≤ 60000000 := by
  have h := MQ.jord_bd hs hb n hn k hk
  have ha : bdA n ≤ 703 := by
    have : n = 0 ∨ n = 1 ∨ n = 2 ∨ n = 3 ∨ n = 4 ∨ n = 5 ∨ n = 6 := by omega
    rcases this with rfl | rfl | rfl | rfl | rfl | rfl | rfl <;> decide
  have hbb : bdB n ≤ 713 := by
    have : n = 0 ∨ n = 1 ∨ n = 2 ∨ n = 3 ∨ n = 4 ∨ n = 5 ∨ n = 6 := by omega
    rcases this with rfl | rfl | rfl | rfl | rfl | rfl | rfl <;> decide
  by_cases hc6 : c = 6
  · subst hc6
    exact bits_of_abs h.2 (by omega)
  · exact bits_of_abs (h.1 c (by omega)) (by omega)
theorem ok_solution {f : Addr} {fd : FuncData} (F : Fun K "solution" "solution" sSolution f fd) (hlen : mg "len" = none) (hrg : mg "range" = none) (hls : mg "list" = none)
    (GC : Know P w K mg base "cleared" ["row", "by", "place"] 1 spCleared) (GL : Know P w K mg base "lowest" ["above", "below"] 2 spLowest) : FnOk P w K mg base CX0 3 f fd ["rows"] spSolution := by
  refine F.ok scSolution (fun vs H Q E h => ?_) (fun cdv A outer s H vs Q E hr h => ?_)
  · obtain ⟨c, R, rfl, _⟩ := h
    rfl
  · obtain ⟨c, R, rfl, hR, hS, hB, hP, k⟩ := h
    refine ⟨_, pss_cons (ps_set (i := 1) scSolution.nd rfl (Or.inl rfl) (pe_callTy (call_list_rng rfl) (by rfl) hls (by decide +kernel) (pa_cons (pe_callTy call_rng (by rfl) hrg boot_range (pa_cons (pe_callB call_len_seq (by rfl) hlen PySem.boot_len (pa_cons (pv 0) pa_nil)) pa_nil)) pa_nil)))
      (pss_cons (ps_set (i := 2) scSolution.nd rfl (Or.inr rfl) (pv 0))
      (pss_cons (ps_for PassesOwn.never rfl (pi_list (pv 1)) (pg_name (i := 3) scSolution.nd rfl (Or.inr rfl))
        (pss_one (ps_set (i := 2) scSolution.nd rfl (Or.inr rfl) (pe_lc (own := [("k", 4)]) rfl scSolution.nd (pi_list (pv 1)) (blkOk_by (by rfl))
          (fun _ _ _ _ _ => pg_name (i := 4) scSolution.nd rfl (Or.inl rfl)) (fun _ _ _ _ _ => pts_nil)
          (fun _ _ _ _ _ => pe_ifExp (pt_cmpR op_eq (pv 4) (pv 3) (nomark _)) (pe_ix (r := rIxL K) ix_list (pv 2) (pv 4) (fun _ _ => rfl))
            (pe_know GC hr rfl (pa_cons (pe_ix (r := rIxL K) ix_list (pv 2) (pv 4) (fun _ _ => rfl)) (pa_cons (pe_ix (r := rIxL K) ix_list (pv 2) (pv 3) (fun _ _ => rfl)) (pa_cons (pv 3) pa_nil)))))))))
      (pss_one (ps_ret (pe_lc (own := [("k", 4)]) rfl scSolution.nd (pi_list (pv 1)) (blkOk_by (by rfl))
          (fun _ _ _ _ _ => pg_name (i := 4) scSolution.nd rfl (Or.inl rfl)) (fun _ _ _ _ _ => pts_nil)
          (fun _ _ _ _ _ => pe_know GL hr rfl (pa_cons (pe_ix (r := rIxL K) ix_list (pe_ix (r := rIxL K) ix_list (pv 2) (pv 4) (fun _ _ => rfl)) (pe_un un_neg pe_int) (fun _ _ => rfl)) (pa_cons (pe_ix (r := rIxL K) ix_list (pe_ix (r := rIxL K) ix_list (pv 2) (pv 4) (fun _ _ => rfl)) (pv 4) (fun _ _ => rfl)) pa_nil)))))))), ?_⟩
    obtain ⟨as0, c1, c2, c3⟩ := hR.ex
    refine ⟨_, rfl, _, _, rfl, .inl (SqL.of c1), 6, (by rw [List.length_map, c2]; rfl), fun pr hpr => ?_⟩
    have s1 : Same H (upd H pr (.rng 0 6)) := (Same.refl H).new hpr
    refine ⟨pr, 6, rfl, upd_same, by decide, fun pl hpl => ?_⟩
    rw [range6]
    have s2 : Same H (upd (upd H pr (.rng 0 6)) pl (.lst (nv (List.range 6)))) := s1.new hpl
    have e2 : (upd (upd H pr (.rng 0 6)) pl (.lst (nv (List.range 6)))) pl = some (.lst (nv (List.range 6))) := upd_same
    generalize upd (upd H pr (.rng 0 6)) pl (.lst (nv (List.range 6))) = H2 at s2 e2 ⊢
    refine ⟨_, rfl, _, rfl, pl, rfl, ⟨_, SqL.of e2⟩, for_list (K := K) (a := pl) (xs := nv (List.range 6)) (fun n σ H' => ∃ (cu : Addr) (v3 : Option V), σ = [some (.ref c), some (.ref pl), some (.ref cu), v3, none] ∧ Same H2 H' ∧ RowsAt H' cu (jord n R))
      ⟨c, none, rfl, Same.refl H2, hR.same s2⟩ (fun n σ H' _ ⟨_, _, _, s3, _⟩ => SqL.of (s3 _ _ e2)) ?_ ?_⟩
    · rintro n y σ H3 hn ⟨cu, v3, rfl, s3, r3⟩
      obtain ⟨p, hp, rfl⟩ := nv_get hn
      obtain ⟨hn6, ep⟩ : n < 6 ∧ p = n := by
        obtain ⟨h1, h2⟩ := List.getElem?_eq_some_iff.mp hp
        rw [List.getElem_range] at h2
        rw [List.length_range] at h1
        exact ⟨h1, h2.symm⟩
      subst ep
      have hShp := MQ.jord_shape hS p
      refine ⟨_, rfl, pl, rfl, ⟨_, SqL.of (s3 _ _ e2)⟩, fun D hD => lc_list (K := K) (a := pl) (xs := nv (List.range 6)) (fun i H' => Same H3 H' ∧ ∃ as : List Addr, H' D = some (.lst (as.map V.ref)) ∧ as.length = i ∧ ∀ k a, as[k]? = some a → a ≠ D ∧ H' a = some (.lst (iv ((gj (jord p R) p).getD k []))))
        ⟨(Same.refl H3).new hD, [], upd_same, rfl, fun k a h => by simp at h⟩ (fun i H' _ ⟨s4, _⟩ => SqL.of (s4 _ _ (s3 _ _ e2))) ?_ ?_⟩
      · rintro i x H4 hi ⟨s4, as, d1, d2, d3⟩
        obtain ⟨i', hi', rfl⟩ := nv_get hi
        obtain ⟨hi6, ei⟩ : i < 6 ∧ i' = i := by
          obtain ⟨h1, h2⟩ := List.getElem?_eq_some_iff.mp hi'
          rw [List.getElem_range] at h2
          rw [List.length_range] at h1
          exact ⟨h1, h2.symm⟩
        subst ei
        have r4 := r3.same s4
        obtain ⟨ai, xsi, hci, hxi, hai⟩ := r4.row hi6
        obtain ⟨ap, xsp, hcp, hxp, hap⟩ := r4.row hn6
        have fin : ∀ (H5 : Hp) (q : Addr), Same H4 H5 → q ≠ D → H5 q = some (.lst (iv ((gj (jord p R) p).getD i' []))) → ∃ acc, H5 D = some (.lst acc) ∧ acc.length < sizeLine ∧ (Same H3 (upd H5 D (.lst (acc ++ [V.ref q]))) ∧ ∃ as : List Addr, (upd H5 D (.lst (acc ++ [V.ref q]))) D = some (.lst (as.map V.ref)) ∧ as.length = i' + 1 ∧ ∀ k a, as[k]? = some a → a ≠ D ∧ (upd H5 D (.lst (acc ++ [V.ref q]))) a = some (.lst (iv ((gj (jord p R) p).getD k [])))) := by
          intro H5 q s5 hq eq
          refine ⟨_, s5 _ _ d1, ?_, (s4.trans s5).setG hD, as ++ [q], ?_, ?_, ?_⟩
          · rw [List.length_map, d2, sizeLine_eq]; omega
          · rw [upd_same, refs_snoc (H := H5) (D := D)]
          · rw [List.length_append, d2]; rfl
          · intro k a hk
            by_cases hlt : k < as.length
            · rw [List.getElem?_append_left hlt] at hk
              obtain ⟨n1, n2⟩ := d3 k a hk
              exact ⟨n1, by rw [upd_ne n1]; exact s5 _ _ n2⟩
            · rw [List.getElem?_append_right (by omega)] at hk
              have hk0 : k = as.length := by
                have := (List.getElem?_eq_some_iff.mp hk).1
                simp at this
                omega
              subst hk0
              simp at hk
              subst hk
              exact ⟨hq, by rw [upd_ne hq, d2]; exact eq⟩
        refine ⟨rfl, _, rfl, _, rfl, rfl, _, rfl, ite2 (fun hb => ?_) (fun hb => ?_)⟩
        · have hb' : i' = p := by
            have h1 : nV i' = nV p := of_decide_eq_true hb
            have h2 : ((i' : Nat) : Int) = ((p : Nat) : Int) := by injection h1
            omega
          subst hb'
          refine ⟨_, rfl, _, rfl, cu, _, _, _, rfl, rfl, SqL.of hci, atI_nat hxi, ?_⟩
          refine fin H4 ai (Same.refl H4) ?_ ?_
          · have h3 := r3.row hi6
            obtain ⟨a3, xs3, hc3, hx3, ha3⟩ := h3
            have e1 : xs3 = xsi := by
              have := s4 _ _ hc3
              rw [hci] at this
              injection this with this
              injection this with this
              exact this.symm
            subst e1
            rw [hx3] at hxi
            injection hxi with hxi
            injection hxi with hxi
            subst hxi
            exact ne_of_none ha3 hD
          · rw [MQ.gj_row hi6, if_pos rfl]
            exact hai
        · have hb' : ¬ i' = p := by
            intro e
            subst e
            exact hb (decide_eq_true rfl)
          refine ⟨_, rfl, _, rfl, cu, _, _, _, rfl, rfl, SqL.of hci, atI_nat hxi, _, rfl, _, rfl, cu, _, _, _, rfl, rfl, SqL.of hcp, atI_nat hxp, _, rfl, ?_⟩
          refine ⟨ai, ap, p, _, _, rfl, hai, hap, hShp.2 i' hi6, hShp.2 p hn6, by omega, fun c hc => bits_jord hS hB (by omega) hi6 hc, fun c hc => bits_jord hS hB (by omega) hn6 hc, fun H5 q s5 nq eq => ?_⟩
          refine fin H5 q s5 (ne_of_none d1 nq).symm ?_
          rw [MQ.gj_row hi6, if_neg hb']
          exact eq
      · rintro H4 ⟨s4, as, d1, d2, d3⟩
        refine ⟨D, _, rfl, s3.trans s4, as, d1, d2, fun k a h => (d3 k a h).2⟩
    · rintro σ H3 ⟨cu, v3, rfl, s3, r3⟩
      have r3' : RowsAt H3 cu (jord 6 R) := r3
      have hShp := MQ.jord_shape hS 6
      refine ⟨_, rfl, pl, rfl, ⟨_, SqL.of (s3 _ _ e2)⟩, fun D hD => lc_list (K := K) (a := pl) (xs := nv (List.range 6)) (fun i H' => Same H3 H' ∧ ∃ as : List Addr, H' D = some (.lst (as.map V.ref)) ∧ as.length = i ∧ ∀ k a, as[k]? = some a → a ≠ D ∧ FracAt H' a (frac (MQ.ent (MQ.jordan R) k 6) (MQ.ent (MQ.jordan R) k k).toNat))
        ⟨(Same.refl H3).new hD, [], upd_same, rfl, fun k a h => by simp at h⟩ (fun i H' _ ⟨s4, _⟩ => SqL.of (s4 _ _ (s3 _ _ e2))) ?_ ?_⟩
      · rintro i x H4 hi ⟨s4, as, d1, d2, d3⟩
        obtain ⟨i', hi', rfl⟩ := nv_get hi
        obtain ⟨hi6, ei⟩ : i < 6 ∧ i' = i := by
          obtain ⟨h1, h2⟩ := List.getElem?_eq_some_iff.mp hi'
          rw [List.getElem_range] at h2
          rw [List.length_range] at h1
          exact ⟨h1, h2.symm⟩
        subst ei
        have r4 := r3'.same s4
        obtain ⟨ai, xsi, hci, hxi, hai⟩ := r4.row hi6
        have hl7 := hShp.2 i' hi6
        have hpos := hP i' hi6
        have hbd := (MQ.jord_bd hS hB 6 (by decide) i' hi6).1 i' hi6
        refine ⟨rfl, _, rfl, _, rfl, cu, _, _, _, rfl, rfl, SqL.of hci, atI_nat hxi, _, rfl, ai, _, _, _, rfl, rfl, SqL.of hai, atI_neg1 (n := 6) (by rw [iv_length, hl7]) (iv_at (by rw [hl7]; decide)),
          _, rfl, _, rfl, cu, _, _, _, rfl, rfl, SqL.of hci, atI_nat hxi, _, rfl, ai, _, _, _, rfl, rfl, SqL.of hai, atI_nat (iv_at (by rw [hl7]; omega : i' < ((jord 6 R).getD i' []).length)), ?_⟩
        refine ⟨MQ.ent (MQ.jordan R) i' 6, (MQ.ent (MQ.jordan R) i' i').toNat, ?_, by omega, ?_, fun q hq => ?_⟩
        · have e : (((MQ.ent (MQ.jordan R) i' i').toNat : Nat) : Int) = MQ.ent (MQ.jordan R) i' i' := by omega
          rw [e]
          rfl
        · have h1 : (MQ.ent (MQ.jordan R) i' i').toNat ≤ 2 ^ 703 := by
            have h2 : (MQ.ent (MQ.jordan R) i' i').natAbs ≤ 2 ^ 703 := hbd
            omega
          refine Nat.lt_of_le_of_lt (log2_mono h1) ?_
          rw [Nat.log2_two_pow]
          decide
        · have s5 : Same H4 (upd H4 q (.tup [.int (frac (MQ.ent (MQ.jordan R) i' 6) (MQ.ent (MQ.jordan R) i' i').toNat).top, .int (frac (MQ.ent (MQ.jordan R) i' 6) (MQ.ent (MQ.jordan R) i' i').toNat).bottom])) := (Same.refl H4).new hq
          have hqD : q ≠ D := (ne_of_none d1 hq).symm
          refine ⟨_, s5 _ _ d1, ?_, (s4.trans s5).setG hD, as ++ [q], ?_, ?_, ?_⟩
          · rw [List.length_map, d2, sizeLine_eq]; omega
          · rw [upd_same, refs_snoc (H := H4) (D := D)]
          · rw [List.length_append, d2]; rfl
          · intro k a hk
            by_cases hlt : k < as.length
            · rw [List.getElem?_append_left hlt] at hk
              obtain ⟨n1, n2⟩ := d3 k a hk
              exact ⟨n1, by unfold FracAt; rw [upd_ne n1]; exact s5 _ _ n2⟩
            · rw [List.getElem?_append_right (by omega)] at hk
              have hk0 : k = as.length := by
                have := (List.getElem?_eq_some_iff.mp hk).1
                simp at this
                omega
              subst hk0
              simp at hk
              subst hk
              exact ⟨hqD, by unfold FracAt; rw [upd_ne hqD, d2, upd_same]⟩
      · rintro H4 ⟨s4, as, d1, d2, d3⟩
        refine k H4 D ((s2.trans s3).trans s4) ((s2.trans s3).free hD) ⟨as, d1, ?_, fun k a q h1 h2 => ?_⟩
        · rw [d2]
          simp [solF, nv]
        · have h3 := (d3 k a h1).2
          have hk6 : k < 6 := by
            have := (List.getElem?_eq_some_iff.mp h1).1
            rw [d2, nv_length, List.length_range] at this
            exact this
          unfold solF at h2
          rw [List.getElem?_map, List.getElem?_range hk6] at h2
          have e := Option.some.inj h2
          rw [← e]
          exact h3
end
end Lm
end
section
set_option Elab.async false
set_option linter.all false
set_option maxRecDepth 100000
set_option maxHeartbeats 2000000
namespace Lm
open PySem PySem.Spec PyProof.Rows L2
open Kp202 (House markOf has judgesOf worksOf handOf allHands)
open Kp193 (Q frac)
open MQ (IsGroup eqRow Eqs Small jord gj Shape Bd bdA bdB)
open Builtin.Int (intBits)
section
variable {P : Program} {w : World} {K : PySem.W.Frag} {mg : Str → Option Value} {base : Heap}
theorem Eqs.sol {h : House} {R : List (List Int)} (e : Eqs h R) : solF R = allHands h := by
  unfold solF allHands
  apply List.map_congr_left
  intro k hk
  exact (e.hand (by simpa using hk)).2
def spHands : Sp := fun vs H Q _ => ∃ (d : Addr) (h : House), vs = [.ref d] ∧ MarksAt H d h ∧ Small h ∧ ∀ H' q, Same H H' → H q = none → FracsAt H' q (allHands h) → Q (.ref q) H'
theorem scHands : FnScope ["marks", "judge"] ["marks"] (defScope sHands) := ⟨rfl, rfl, rfl, by decide +kernel, rfl, by decide +kernel, by decide +kernel⟩
theorem ok_hands {f : Addr} {fd : FuncData} (F : Fun K "hands_of_all" "hands_of_all" sHands f fd) (hrg : mg "range" = none) (cJ : Cst mg "JUDGES" 6)
    (GE : Know P w K mg base "hand_equation" ["marks", "judge"] 3 spEqn) (GS : Know P w K mg base "solution" ["rows"] 3 spSolution) : FnOk P w K mg base CX0 4 f fd ["marks"] spHands := by
  refine F.ok scHands (fun vs H Q E h => ?_) (fun cdv A outer s H vs Q E hr h => ?_)
  · obtain ⟨d, h, rfl, _⟩ := h
    rfl
  · obtain ⟨d, h, rfl, hm, hs, k⟩ := h
    refine ⟨_, pss_one (ps_ret (pe_know GS hr rfl (pa_cons (pe_lc (own := [("judge", 1)]) rfl scHands.nd (pi_range1 rfl hrg (pa_cons (pe_cst cJ rfl) pa_nil)) (blkOk_by (by rfl))
      (fun _ _ _ _ _ => pg_name (i := 1) scHands.nd rfl (Or.inl rfl)) (fun _ _ _ _ _ => pts_nil)
      (fun _ _ _ _ _ => pe_know GE hr rfl (pa_cons (pv 0) (pa_cons (pv 1) pa_nil)))) pa_nil))), ?_⟩
    refine ⟨6, rfl, by decide, by decide, fun D hD => lc_range (fun i H' => Same H H' ∧ ∃ (as : List Addr) (R : List (List Int)), H' D = some (.lst (as.map V.ref)) ∧ as.length = i ∧ R.length = i ∧ (∀ k a, as[k]? = some a → a ≠ D ∧ H' a = some (.lst (iv (R.getD k [])))) ∧ ∀ k, k < i → ∃ g, IsGroup h k g ∧ R.getD k [] = eqRow h k g)
      ⟨(Same.refl H).new hD, [], [], upd_same, rfl, rfl, fun k a h => by simp at h, fun k hk => absurd hk (by omega)⟩ ?_ ?_⟩
    · rintro i H4 hi ⟨s4, as, R, d1, d2, d3, d4, d5⟩
      have hi6 : i < 6 := hi
      refine ⟨rfl, ?_⟩
      rw [Int.zero_add]
      refine ⟨_, rfl, _, rfl, d, h, i, rfl, hi6, hm.same s4, fun H5 q g s5 nq ig eq => ?_⟩
      have hqD : q ≠ D := (ne_of_none d1 nq).symm
      refine ⟨_, s5 _ _ d1, ?_, (s4.trans s5).setG hD, as ++ [q], R ++ [eqRow h i g], ?_, ?_, ?_, ?_, ?_⟩
      · rw [List.length_map, d2, sizeLine_eq]; omega
      · rw [upd_same, refs_snoc (H := H4) (D := D)]
      · rw [List.length_append, d2]; rfl
      · rw [List.length_append, d3]; rfl
      · intro k a hk
        by_cases hlt : k < as.length
        · rw [List.getElem?_append_left hlt] at hk
          obtain ⟨n1, n2⟩ := d4 k a hk
          refine ⟨n1, ?_⟩
          rw [upd_ne n1, List.getD_eq_getElem?_getD, List.getElem?_append_left (by omega), ← List.getD_eq_getElem?_getD]
          exact s5 _ _ n2
        · rw [List.getElem?_append_right (by omega)] at hk
          have hk0 : k = as.length := by
            have := (List.getElem?_eq_some_iff.mp hk).1
            simp at this
            omega
          subst hk0
          simp at hk
          subst hk
          refine ⟨hqD, ?_⟩
          rw [upd_ne hqD, d2, List.getD_eq_getElem?_getD, List.getElem?_append_right (by omega), d3]
          simp
          exact eq
      · intro k hk
        by_cases hlt : k < i
        · obtain ⟨g', h1, h2⟩ := d5 k hlt
          refine ⟨g', h1, ?_⟩
          rw [List.getD_eq_getElem?_getD, List.getElem?_append_left (by omega), ← List.getD_eq_getElem?_getD]
          exact h2
        · have : k = i := by omega
          subst this
          refine ⟨g, ig, ?_⟩
          rw [List.getD_eq_getElem?_getD, List.getElem?_append_right (by omega), d3]
          simp
    · rintro H4 ⟨s4, as, R, d1, d2, d3, d4, d5⟩
      have eqs : Eqs h R := ⟨d3, d5⟩
      refine ⟨D, R, rfl, ⟨as, d1, d2, fun k a h => (d4 k a h).2⟩, eqs.shape, eqs.bd hs, fun k hk => (eqs.hand hk).1, fun H5 q s5 nq eq => ?_⟩
      refine k H5 q (s4.trans s5) (s4.free nq) ?_
      rw [← Eqs.sol eqs]
      exact eq
end
end Lm
end
section
set_option Elab.async false
set_option linter.all false
set_option maxRecDepth 100000
set_option maxHeartbeats 2000000
namespace Lm
open PySem PySem.Spec PyProof.Rows L2
open Kp202 (House markOf has judgesOf worksOf handOf allHands)
open Kp193 (Q frac plus less)
open MQ (IsGroup eqRow Eqs Small jord gj Shape Bd bdA bdB)
open Builtin.Int (intBits)
section
variable {P : Program} {w : World} {K : PySem.W.Frag} {mg : Str → Option Value} {base : Heap}
/-- not too great -/
structure Sz (q : Q) : Prop where
  top : intBits q.top ≤ 60000000
  bot : intBits (q.bottom : Int) ≤ 60000000
def sp2 (g : Q → Q → Q) : Sp := fun vs H Q _ => ∃ (a b : Addr) (p q : Kp193.Q), vs = [.ref a, .ref b] ∧ FracAt H a p ∧ FracAt H b q ∧ 0 < p.bottom ∧ 0 < q.bottom ∧ Sz p ∧ Sz q ∧ (p.bottom * q.bottom).log2 < 9000 ∧ ∀ r, H r = none → Q (.ref r) (upd H r (.tup [.int (g p q).top, .int ((g p q).bottom : Int)]))
theorem scLess : FnScope ["one", "other"] ["one", "other"] (defScope sLess) := ⟨rfl, rfl, rfl, by decide +kernel, rfl, by decide +kernel, by decide +kernel⟩
theorem scAdded : FnScope ["one", "other"] ["one", "other"] (defScope sAdded) := ⟨rfl, rfl, rfl, by decide +kernel, rfl, by decide +kernel, by decide +kernel⟩
theorem frac0 {H : Hp} {a : Addr} {q : Q} (h : FracAt H a q) : SqT K H a [.int q.top, .int (q.bottom : Int)] := SqT.of h
theorem ok_less {f : Addr} {fd : FuncData} (F : Fun K "less" "less" sLess f fd) (GL : Know P w K mg base "lowest" ["above", "below"] 2 spLowest) : FnOk P w K mg base CX0 3 f fd ["one", "other"] (sp2 less) := by
  refine F.ok scLess (fun vs H Q E h => ?_) (fun cdv A outer s H vs Q E hr h => ?_)
  · obtain ⟨a, b, p, q, rfl, _⟩ := h
    rfl
  · obtain ⟨a, b, p, q, rfl, fa, fb, hp, hq, zp, zq, hl, k⟩ := h
    refine ⟨_, pss_one (ps_ret (pe_know GL hr rfl (pa_cons (pe_op op_sub (pe_op op_mulB (pe_ix ix_tup (pv 0) pe_int (fun _ _ => rfl)) (pe_ix ix_tup (pv 1) pe_int (fun _ _ => rfl))) (pe_op op_mulB (pe_ix ix_tup (pv 1) pe_int (fun _ _ => rfl)) (pe_ix ix_tup (pv 0) pe_int (fun _ _ => rfl))))
      (pa_cons (pe_op op_mulB (pe_ix ix_tup (pv 0) pe_int (fun _ _ => rfl)) (pe_ix ix_tup (pv 1) pe_int (fun _ _ => rfl))) pa_nil)))), ?_⟩
    refine ⟨_, rfl, a, _, _, _, rfl, rfl, frac0 fa, rfl, _, rfl, b, _, _, _, rfl, rfl, frac0 fb, rfl, _, _, rfl, rfl, mul_ok zp.top zq.bot,
      _, rfl, b, _, _, _, rfl, rfl, frac0 fb, rfl, _, rfl, a, _, _, _, rfl, rfl, frac0 fa, rfl, _, _, rfl, rfl, mul_ok zq.top zp.bot, _, _, rfl, rfl,
      _, rfl, a, _, _, _, rfl, rfl, frac0 fa, rfl, _, rfl, b, _, _, _, rfl, rfl, frac0 fb, rfl, _, _, rfl, rfl, mul_ok zp.bot zq.bot, ?_⟩
    refine ⟨_, p.bottom * q.bottom, ?_, Nat.mul_pos hp hq, hl, k⟩
    rw [Int.natCast_mul]
    rfl
theorem ok_added {f : Addr} {fd : FuncData} (F : Fun K "added" "added" sAdded f fd) (GL : Know P w K mg base "lowest" ["above", "below"] 2 spLowest) : FnOk P w K mg base CX0 3 f fd ["one", "other"] (sp2 plus) := by
  refine F.ok scAdded (fun vs H Q E h => ?_) (fun cdv A outer s H vs Q E hr h => ?_)
  · obtain ⟨a, b, p, q, rfl, _⟩ := h
    rfl
  · obtain ⟨a, b, p, q, rfl, fa, fb, hp, hq, zp, zq, hl, k⟩ := h
    refine ⟨_, pss_one (ps_ret (pe_know GL hr rfl (pa_cons (pe_op op_add (pe_op op_mulB (pe_ix ix_tup (pv 0) pe_int (fun _ _ => rfl)) (pe_ix ix_tup (pv 1) pe_int (fun _ _ => rfl))) (pe_op op_mulB (pe_ix ix_tup (pv 1) pe_int (fun _ _ => rfl)) (pe_ix ix_tup (pv 0) pe_int (fun _ _ => rfl))))
      (pa_cons (pe_op op_mulB (pe_ix ix_tup (pv 0) pe_int (fun _ _ => rfl)) (pe_ix ix_tup (pv 1) pe_int (fun _ _ => rfl))) pa_nil)))), ?_⟩
    refine ⟨_, rfl, a, _, _, _, rfl, rfl, frac0 fa, rfl, _, rfl, b, _, _, _, rfl, rfl, frac0 fb, rfl, _, _, rfl, rfl, mul_ok zp.top zq.bot,
      _, rfl, b, _, _, _, rfl, rfl, frac0 fb, rfl, _, rfl, a, _, _, _, rfl, rfl, frac0 fa, rfl, _, _, rfl, rfl, mul_ok zq.top zp.bot, _, _, rfl, rfl,
      _, rfl, a, _, _, _, rfl, rfl, frac0 fa, rfl, _, rfl, b, _, _, _, rfl, rfl, frac0 fb, rfl, _, _, rfl, rfl, mul_ok zp.bot zq.bot, ?_⟩
    refine ⟨_, p.bottom * q.bottom, ?_, Nat.mul_pos hp hq, hl, k⟩
    rw [Int.natCast_mul]
    rfl
end
end Lm
end
section
set_option Elab.async false
set_option linter.all false
set_option maxRecDepth 100000
set_option maxHeartbeats 2000000
namespace Lm
open PySem PySem.Spec PyProof.Rows L2
open Kp202 (House markOf has judgesOf worksOf handOf allHands put)
open MQ (Wf)
abbrev sBegin : Stmt := top 17
abbrev sMark : Stmt := top 18
abbrev sUnmark : Stmt := top 19
def putM (M : MK) (j w m : Nat) : MK := if (M.any fun e => decide (e.1 = (j, w))) = true then M.map (fun e => if e.1 = (j, w) then (e.1, m) else e) else M ++ [((j, w), m)]
def dropM (M : MK) (j w : Nat) : MK := M.filter fun e => decide (e.1 ≠ (j, w))
theorem any_dkv (j w : Nat) : ∀ M : MK, ((dkv M).any fun kv => decide (kv.1 = kk j w)) = M.any fun e => decide (e.1 = (j, w))
  | [] => rfl
  | e :: M => by
    show (decide (kk e.1.1 e.1.2 = kk j w) || (dkv M).any _) = _
    rw [List.any_cons, any_dkv j w M]
    congr 1
    exact decide_eq_decide.mpr kk_inj
theorem putK_dkv (M : MK) (j w m : Nat) : putK (dkv M) (kk j w) (V.int (m : Int)) = dkv (putM M j w m) := by
  unfold putK putM
  rw [any_dkv]
  split
  · unfold dkv
    rw [List.map_map, List.map_map]
    apply List.map_congr_left
    intro e _
    show (if kk e.1.1 e.1.2 = kk j w then (kk e.1.1 e.1.2, V.int (m : Int)) else (kk e.1.1 e.1.2, V.int (e.2 : Int))) = _
    show _ = (fun e : (Nat × Nat) × Nat => (kk e.1.1 e.1.2, V.int (e.2 : Int))) (if e.1 = (j, w) then (e.1, m) else e)
    by_cases c : e.1 = (j, w)
    · rw [if_pos c, if_pos (kk_inj.mpr c)]
    · rw [if_neg c, if_neg (fun z => c (kk_inj.mp z))]
  · unfold dkv
    rw [List.map_append]
    rfl
theorem dropK_dkv (M : MK) (j w : Nat) : dropK (dkv M) (kk j w) = dkv (dropM M j w) := by
  unfold dropK dropM dkv
  rw [List.filter_map]
  congr 1
  apply List.filter_congr
  intro e _
  show decide (kk e.1.1 e.1.2 ≠ kk j w) = decide (e.1 ≠ (j, w))
  exact decide_eq_decide.mpr (not_congr kk_inj)
theorem look_any (M : MK) (j w : Nat) : (M.any fun e => decide (e.1 = (j, w))) = (look M j w).isSome := by
  rw [← any_dkv, valV_any, val_dkv]
  cases look M j w <;> rfl
theorem nV_inj {a b : Nat} (h : nV a = nV b) : a = b := by
  have h2 : ((a : Nat) : Int) = ((b : Nat) : Int) := by injection h
  omega
theorem look_of_val {M N : MK} {j w : Nat} {o : Option Nat} (h : valV (dkv M) (kk j w) = o.map nV) : look M j w = o := by
  rw [val_dkv] at h
  cases e : look M j w with
  | none =>
    rw [e] at h
    cases o with
    | none => rfl
    | some x => cases h
  | some a =>
    rw [e] at h
    cases o with
    | none => cases h
    | some x =>
      have := Option.some.inj h
      rw [nV_inj this]
theorem look_putM (M : MK) (j w m j' w' : Nat) : look (putM M j w m) j' w' = if j = j' ∧ w = w' then some m else look M j' w' := by
  apply look_of_val (N := M)
  rw [← putK_dkv, valV_put]
  by_cases c : j = j' ∧ w = w'
  · rw [if_pos c, if_pos (kk_inj.mpr (by rw [c.1, c.2]))]
    rfl
  · rw [if_neg c, if_neg, val_dkv]
    intro z
    have := kk_inj.mp z
    injection this with h1 h2
    exact c ⟨h1.symm, h2.symm⟩
theorem putM_length (M : MK) (j w m : Nat) : (putM M j w m).length = if (look M j w).isSome = true then M.length else M.length + 1 := by
  unfold putM
  rw [look_any]
  split
  · rw [List.length_map]
  · rw [List.length_append]; rfl
theorem putM_nodup {M : MK} (hn : (M.map (·.1)).Nodup) (j w m : Nat) : ((putM M j w m).map (·.1)).Nodup := by
  unfold putM
  split
  · rw [List.map_map]
    have e : (fun x : (Nat × Nat) × Nat => x.1) ∘ (fun e : (Nat × Nat) × Nat => if e.1 = (j, w) then (e.1, m) else e) = fun e => e.1 := by
      funext e
      show (if e.1 = (j, w) then (e.1, m) else e).1 = e.1
      split <;> rfl
    rw [e]
    exact hn
  · next h =>
    rw [List.map_append, List.nodup_append]
    refine ⟨hn, by simp, ?_⟩
    intro a ha b hb e
    have hb' : b = (j, w) := by simpa using hb
    subst hb'; subst e
    apply h
    rw [List.any_eq_true]
    obtain ⟨x, hx, hx2⟩ := List.mem_map.mp ha
    exact ⟨x, hx, by simpa using hx2⟩
theorem look_dropM (M : MK) (j w j' w' : Nat) : look (dropM M j w) j' w' = if j = j' ∧ w = w' then none else look M j' w' := by
  unfold look dropM
  rw [List.find?_filter]
  by_cases c : j = j' ∧ w = w'
  · rw [if_pos c]
    have : (M.find? fun a => decide (decide (a.1 ≠ (j, w)) = true ∧ decide (a.1 = (j', w')) = true)) = none := by
      rw [List.find?_eq_none]
      intro x _
      rw [c.1, c.2]
      by_cases z : x.1 = (j', w') <;> simp [z]
    rw [this]; rfl
  · rw [if_neg c]
    congr 2
    funext a
    by_cases z : a.1 = (j', w')
    · have : ¬ (j' = j ∧ w' = w) := fun y => c ⟨y.1.symm, y.2.symm⟩
      simp [z]
      omega
    · simp [z]
theorem dropM_length : ∀ {M : MK} {j w : Nat}, (M.map (·.1)).Nodup → (look M j w).isSome = true → (dropM M j w).length = M.length - 1
  | [], _, _, _, h => by simp [look] at h
  | e :: M, j, w, hn, h => by
    rw [List.map_cons, List.nodup_cons] at hn
    unfold dropM
    by_cases c : e.1 = (j, w)
    · rw [List.filter_cons_of_neg (by simp [c])]
      have : M.filter (fun e => decide (e.1 ≠ (j, w))) = M := by
        rw [List.filter_eq_self]
        intro x hx
        have : x.1 ≠ (j, w) := by
          intro z
          apply hn.1
          rw [c, ← z]
          exact List.mem_map.mpr ⟨x, hx, rfl⟩
        simpa using this
      rw [this]
      rfl
    · rw [List.filter_cons_of_pos (by simpa using c)]
      have h' : (look M j w).isSome = true := by
        unfold look at h ⊢
        rw [List.find?_cons_of_neg (by simpa using c)] at h
        exact h
      have ih := dropM_length hn.2 h'
      unfold dropM at ih
      have hpos : 0 < M.length := by
        cases M with
        | nil => simp [look] at h'
        | cons => simp
      rw [List.length_cons, List.length_cons, ih]
      omega
theorem dropM_nodup {M : MK} (hn : (M.map (·.1)).Nodup) (j w : Nat) : ((dropM M j w).map (·.1)).Nodup := (List.Sublist.map _ List.filter_sublist).nodup hn
/-- all that was tracked is as it was, but what stands at d -/
def SameB (d : Addr) (H H' : Hp) : Prop := ∀ b o, H b = some o → b ≠ d → H' b = some o
theorem marks_put {H : Hp} {d b : Addr} {h : House} (hm : MarksAt H d h) (hw : Wf h) {j w m : Nat} (hj : j < 6) (hwk : w < 16) (hmk : m ≤ 1000) (hb : H b = some (.tup [.int (j : Int), .int (w : Int)])) :
    ∃ H', DPut H d (.ref b) (V.int (m : Int)) H' ∧ MarksAt H' d (put h ⟨j, w, m⟩) ∧ SameB d H H' ∧ ∃ M : MK, H' d = some (.dT (dkv M)) ∧ M.length = (put h ⟨j, w, m⟩).length := by
  obtain ⟨M, e, r, hl, hz, hn⟩ := hm.ex
  have hsome : (look M j w).isSome = has h j w := by rw [r]; rfl
  have hlen : (putM M j w m).length = (put h ⟨j, w, m⟩).length := by
    rw [putM_length, MQ.put_length hw, hsome, hl]
  refine ⟨_, DPut.t (k := kk j w) e hb (by unfold dkv; rw [List.length_map]; exact hz), ⟨putM M j w m, ?_, ?_, hlen, ?_, putM_nodup hn j w m⟩, fun c o ec hc => ?_, putM M j w m, ?_, hlen⟩
  · rw [upd_same]
    exact congrArg (fun z => some (HO.dT z)) (putK_dkv M j w m)
  · intro j' w'
    rw [look_putM, MQ.markOf_put, r]
  · rw [hlen, sizeLine_eq]
    have := (hw.put (x := ⟨j, w, m⟩) hj hwk hmk).len
    omega
  · rw [upd_ne hc]; exact ec
  · rw [upd_same]
    exact congrArg (fun z => some (HO.dT z)) (putK_dkv M j w m)
theorem marks_drop {H : Hp} {d : Addr} {h : House} (hm : MarksAt H d h) (hw : Wf h) {j w : Nat} (he : has h j w = true) :
    ∃ kvs, H d = some (.dT kvs) ∧ (∃ v, valV kvs (kk j w) = some v) ∧ MarksAt (upd H d (.dT (dropK kvs (kk j w)))) d (h.filter fun m => !(m.judge == j && m.work == w)) ∧
      ∃ M : MK, (upd H d (.dT (dropK kvs (kk j w)))) d = some (.dT (dkv M)) ∧ M.length = h.length - 1 := by
  obtain ⟨M, e, r, hl, hz, hn⟩ := hm.ex
  have hsome : (look M j w).isSome = true := by rw [r]; exact he
  have hlen : (dropM M j w).length = h.length - 1 := by rw [dropM_length hn hsome, hl]
  refine ⟨_, e, ?_, ⟨dropM M j w, ?_, ?_, ?_, ?_, dropM_nodup hn j w⟩, dropM M j w, ?_, hlen⟩
  · rw [val_dkv]
    obtain ⟨x, hx⟩ := Option.isSome_iff_exists.mp hsome
    rw [hx]
    exact ⟨_, rfl⟩
  · rw [upd_same, dropK_dkv]
  · intro j' w'
    rw [look_dropM, MQ.markOf_drop, r]
  · rw [hlen, MQ.drop_length hw he]
  · rw [hlen]
    have := hw.len
    rw [sizeLine_eq]
    omega
  · rw [upd_same, dropK_dkv]
theorem marks_new {H : Hp} {d : Addr} (e : H d = some (.dT [])) : MarksAt H d [] := ⟨[], e, fun _ _ => rfl, rfl, by decide, .nil⟩
section
variable {P : Program} {w : World} {K : PySem.W.Frag} {mg : Str → Option Value} {base : Heap}
/-- what a call on the marks at d answers -/
def Res (d : Addr) (h : House) (c : Kp202.Call) (H : Hp) (Q : VK) : Prop := ∀ H' p h', (Kp202.step (some h) c).1 = some h' → Wf h' → MarksAt H' d h' → SameB d H H' → H p = none → H' p = some (.lst (iv ((Kp202.step (some h) c).2.num :: (Kp202.step (some h) c).2.nums))) → Q (.ref p) H'
theorem MarksAt.ne {H : Hp} {d p : Addr} {h : House} (hm : MarksAt H d h) (hp : H p = none) : d ≠ p := by
  obtain ⟨M, e, _⟩ := hm.ex
  exact ne_of_none e hp
theorem sameB_new {d : Addr} {H H' : Hp} {p : Addr} {o : HO} (s : SameB d H H') (hp : H' p = none) : SameB d H (upd H' p o) := fun b u e hb => by
  rw [upd_ne (ne_of_none (s b u e hb) hp)]
  exact s b u e hb
theorem SameB.of {d : Addr} {H H' : Hp} (s : Same H H') : SameB d H H' := fun b u e _ => s b u e
theorem SameB.trans {d : Addr} {H H1 H2 : Hp} (a : SameB d H H1) (b : SameB d H1 H2) : SameB d H H2 := fun c u e hc => b c u (a c u e hc) hc
/-- a refusal, or any answer that changes nothing -/
theorem Res.say {d : Addr} {h : House} {c : Kp202.Call} {H H1 : Hp} {Q : VK} {p : Addr} {xs : List V} (r : Res d h c H Q) (hw : Wf h) (hm : MarksAt H d h) (s1 : Same H H1) (e1 : (Kp202.step (some h) c).1 = some h) (hp : H1 p = none)
    (hx : xs = iv ((Kp202.step (some h) c).2.num :: (Kp202.step (some h) c).2.nums)) : Q (.ref p) (upd H1 p (.lst xs)) := by
  subst hx
  exact r _ p h e1 hw (hm.same (s1.new hp)) (SameB.of (s1.new hp)) (s1.free hp) upd_same
def spBegin : Sp := fun vs H Q _ => ∃ (d : Addr) (h : House), vs = [.ref d] ∧ MarksAt H d h ∧ Wf h ∧ Res d h .begin_ H Q
theorem scBegin : FnScope ["marks"] ["marks"] (defScope sBegin) := ⟨rfl, rfl, rfl, by decide +kernel, rfl, by decide +kernel, by decide +kernel⟩
theorem ok_begin {f : Addr} {fd : FuncData} (F : Fun K "call_begin" "call_begin" sBegin f fd) : FnOk P w K mg base CX0 1 f fd ["marks"] spBegin := by
  refine F.ok scBegin (fun vs H Q E h => ?_) (fun cdv A outer s H vs Q E hr h => ?_)
  · obtain ⟨d, h, rfl, _⟩ := h
    rfl
  · obtain ⟨d, h, rfl, hm, hw, k⟩ := h
    refine ⟨_, pss_cons (ps_expr (pe_bm0 PySem.F.plainAttrs_dict PySem.F.slot_dict_clear PySem.F.type_dict_clear mt_clearT (pv 0)))
      (pss_one (ps_ret (pe_lst (pa_cons pe_int pa_nil)))), ?_⟩
    obtain ⟨M, e, _⟩ := hm.ex
    refine ⟨_, rfl, .inr (.inr (.inl ⟨rfl, .inr ⟨_, e⟩⟩)), d, _, rfl, rfl, e, (by show 1 ≤ sizeLine; decide), fun p hp => ?_⟩
    have hne : p ≠ d := by
      intro z
      subst z
      rw [upd_same] at hp
      cases hp
    have hp' : H p = none := by rw [upd_ne hne] at hp; exact hp
    refine k _ p [] rfl Wf.nil (marks_new ?_) (sameB_new (fun b u eb hb => by rw [upd_ne hb]; exact eb) hp) hp' upd_same
    rw [upd_ne (Ne.symm hne), upd_same]
def spMark : Sp := fun vs H Q _ => ∃ (d : Addr) (h : House) (j w m : Nat), vs = [.ref d, .int (j : Int), .int (w : Int), .int (m : Int)] ∧ MarksAt H d h ∧ Wf h ∧ Res d h (.mark j w m) H Q
theorem scMark : FnScope ["marks", "judge", "work", "mark"] ["marks", "judge", "work", "mark"] (defScope sMark) := ⟨rfl, rfl, rfl, by decide +kernel, rfl, by decide +kernel, by decide +kernel⟩
theorem ok_mark {f : Addr} {fd : FuncData} (F : Fun K "call_mark" "call_mark" sMark f fd) (hlen : mg "len" = none) (cJ : Cst mg "JUDGES" 6) (cW : Cst mg "WORKS" 16) (cM : Cst mg "GREATEST_MARK" 1000) (cO : Cst mg "OUT_OF_RANGE" (-22)) : FnOk P w K mg base CX0 1 f fd ["marks", "judge", "work", "mark"] spMark := by
  refine F.ok scMark (fun vs H Q E h => ?_) (fun cdv A outer s H vs Q E hr h => ?_)
  · obtain ⟨d, h, j, w, m, rfl, _⟩ := h
    rfl
  · obtain ⟨d, h, j, w, m, rfl, hm, hw, k⟩ := h
    have hu := hu_of' hr
    refine ⟨_, pss_cons (ps_if (PW.pt (pw_or (pt_cmpR op_ge (pv 1) (pe_cst cJ rfl) (nomark _)) (pw_or (pt_cmpR op_ge (pv 2) (pe_cst cW rfl) (nomark _)) (pw_or1 (pt_cmpR op_gt (pv 3) (pe_cst cM rfl) (nomark _))))))
        (pss_one (ps_ret (pe_lst (pa_cons (pe_cst cO rfl) pa_nil)))) pss_nil)
      (pss_cons (ps_dput hu (pv 0) (pe_tup (pa_cons (pv 1) (pa_cons (pv 2) pa_nil))) (pv 3) rfl)
      (pss_one (ps_ret (pe_lst (pa_cons (pe_callB call_lenT (by rfl) hlen PySem.boot_len (pa_cons (pv 0) pa_nil)) pa_nil))))), ?_⟩
    have hbad : (6 ≤ j ∨ 16 ≤ w ∨ 1000 < m) → Kp202.step (some h) (.mark j w m) = (some h, Kp202.say (-22)) := by
      intro c
      have c' : Kp202.JUDGES ≤ j ∨ Kp202.WORKS ≤ w ∨ Kp202.MOST < m := c
      show (if Kp202.JUDGES ≤ j ∨ Kp202.WORKS ≤ w ∨ Kp202.MOST < m then _ else _) = _
      rw [if_pos c']
    have refuse : (6 ≤ j ∨ 16 ≤ w ∨ 1000 < m) → ∀ p, H p = none → Q (.ref p) (upd H p (.lst [V.int (-22)])) := by
      intro c p hp
      refine k.say hw hm (Same.refl H) ?_ hp ?_ <;> rw [hbad c] <;> rfl
    refine ⟨_, rfl, _, _, rfl, rfl, _, rfl, ite2 (fun hb => ?_) (fun hb => ?_)⟩
    · refine ⟨(by show 1 ≤ sizeLine; decide), refuse (.inl ?_)⟩
      have : (6 : Int) ≤ (j : Int) := by simpa using hb
      omega
    have hj : j < 6 := by
      have : ¬ (6 : Int) ≤ (j : Int) := by simpa using hb
      omega
    refine ⟨_, rfl, _, _, rfl, rfl, _, rfl, ite2 (fun hb2 => ?_) (fun hb2 => ?_)⟩
    · refine ⟨(by show 1 ≤ sizeLine; decide), refuse (.inr (.inl ?_))⟩
      have : (16 : Int) ≤ (w : Int) := by simpa using hb2
      omega
    have hwk : w < 16 := by
      have : ¬ (16 : Int) ≤ (w : Int) := by simpa using hb2
      omega
    refine ⟨_, rfl, _, _, rfl, rfl, _, rfl, ite2 (fun hb3 => ?_) (fun hb3 => ?_)⟩
    · refine ⟨(by show 1 ≤ sizeLine; decide), refuse (.inr (.inr ?_))⟩
      have : (1000 : Int) < (m : Int) := by simpa using hb3
      omega
    have hmk : m ≤ 1000 := by
      have : ¬ (1000 : Int) < (m : Int) := by simpa using hb3
      omega
    have hgood : Kp202.step (some h) (.mark j w m) = (some (put h ⟨j, w, m⟩), Kp202.say ((put h ⟨j, w, m⟩).length : Int)) := by
      show (if Kp202.JUDGES ≤ j ∨ Kp202.WORKS ≤ w ∨ Kp202.MOST < m then _ else _) = _
      rw [if_neg (by show ¬ (6 ≤ j ∨ 16 ≤ w ∨ 1000 < m); omega)]
    refine ⟨_, rfl, _, rfl, _, rfl, _, rfl, (by show 2 ≤ sizeLine; decide), fun p hp => ?_⟩
    have s1 : Same H (upd H p (.tup [.int (j : Int), .int (w : Int)])) := (Same.refl H).new hp
    obtain ⟨H2, g2, m2, s2, M, eM, lM⟩ := marks_put (m := m) (hm.same s1) hw hj hwk hmk upd_same
    refine ⟨d, H2, rfl, g2, _, rfl, d, _, rfl, eM, (by show 1 ≤ sizeLine; decide), fun q hq => ?_⟩
    have s12 : SameB d H H2 := (SameB.of s1).trans s2
    have hqd : d ≠ q := m2.ne hq
    have hq0 : H q = none := by
      cases z : H q with
      | none => rfl
      | some o =>
        rw [s12 q o z (Ne.symm hqd)] at hq
        cases hq
    refine k _ q (put h ⟨j, w, m⟩) (by rw [hgood]) (hw.put hj hwk hmk) (m2.same ((Same.refl H2).new hq)) (sameB_new s12 hq) hq0 ?_
    rw [upd_same, hgood]
    show _ = some (HO.lst [V.int ((put h ⟨j, w, m⟩).length : Int)])
    rw [← lM]
    unfold dkv
    rw [List.length_map]
def spUnmark : Sp := fun vs H Q _ => ∃ (d : Addr) (h : House) (j w : Nat), vs = [.ref d, .int (j : Int), .int (w : Int)] ∧ MarksAt H d h ∧ Wf h ∧ Res d h (.unmark j w) H Q
theorem scUnmark : FnScope ["marks", "judge", "work"] ["marks", "judge", "work"] (defScope sUnmark) := ⟨rfl, rfl, rfl, by decide +kernel, rfl, by decide +kernel, by decide +kernel⟩
theorem ok_unmark {f : Addr} {fd : FuncData} (F : Fun K "call_unmark" "call_unmark" sUnmark f fd) (hlen : mg "len" = none) (cJ : Cst mg "JUDGES" 6) (cW : Cst mg "WORKS" 16) (cO : Cst mg "OUT_OF_RANGE" (-22)) (cN : Cst mg "NO_SUCH_MARK" (-2)) : FnOk P w K mg base CX0 1 f fd ["marks", "judge", "work"] spUnmark := by
  refine F.ok scUnmark (fun vs H Q E h => ?_) (fun cdv A outer s H vs Q E hr h => ?_)
  · obtain ⟨d, h, j, w, rfl, _⟩ := h
    rfl
  · obtain ⟨d, h, j, w, rfl, hm, hw, k⟩ := h
    have hu := hu_of' hr
    refine ⟨_, pss_cons (ps_if (PW.pt (pw_or (pt_cmpR op_ge (pv 1) (pe_cst cJ rfl) (nomark _)) (pw_or1 (pt_cmpR op_ge (pv 2) (pe_cst cW rfl) (nomark _)))))
        (pss_one (ps_ret (pe_lst (pa_cons (pe_cst cO rfl) pa_nil)))) pss_nil)
      (pss_cons (ps_if (pt_cmp (pc_dnotin hu (pe_tup (pa_cons (pv 1) (pa_cons (pv 2) pa_nil))) (pv 0))) (pss_one (ps_ret (pe_lst (pa_cons (pe_cst cN rfl) pa_nil)))) pss_nil)
      (pss_cons (ps_expr (pe_bm PySem.F.plainAttrs_dict PySem.F.slot_dict_pop PySem.F.type_dict_pop (mt_popT hu) (pv 0) (pa_cons (pe_tup (pa_cons (pv 1) (pa_cons (pv 2) pa_nil))) pa_nil)))
      (pss_one (ps_ret (pe_lst (pa_cons (pe_callB call_lenT (by rfl) hlen PySem.boot_len (pa_cons (pv 0) pa_nil)) pa_nil)))))), ?_⟩
    have hbad : (6 ≤ j ∨ 16 ≤ w) → Kp202.step (some h) (.unmark j w) = (some h, Kp202.say (-22)) := by
      intro c
      have c' : Kp202.JUDGES ≤ j ∨ Kp202.WORKS ≤ w := c
      show (if Kp202.JUDGES ≤ j ∨ Kp202.WORKS ≤ w then _ else _) = _
      rw [if_pos c']
    have refuse : (6 ≤ j ∨ 16 ≤ w) → ∀ p, H p = none → Q (.ref p) (upd H p (.lst [V.int (-22)])) := by
      intro c p hp
      refine k.say hw hm (Same.refl H) ?_ hp ?_ <;> rw [hbad c] <;> rfl
    refine ⟨_, rfl, _, _, rfl, rfl, _, rfl, ite2 (fun hb => ?_) (fun hb => ?_)⟩
    · refine ⟨(by show 1 ≤ sizeLine; decide), refuse (.inl ?_)⟩
      have : (6 : Int) ≤ (j : Int) := by simpa using hb
      omega
    have hj : j < 6 := by
      have : ¬ (6 : Int) ≤ (j : Int) := by simpa using hb
      omega
    refine ⟨_, rfl, _, _, rfl, rfl, _, rfl, ite2 (fun hb2 => ?_) (fun hb2 => ?_)⟩
    · refine ⟨(by show 1 ≤ sizeLine; decide), refuse (.inr ?_)⟩
      have : (16 : Int) ≤ (w : Int) := by simpa using hb2
      omega
    have hwk : w < 16 := by
      have : ¬ (16 : Int) ≤ (w : Int) := by simpa using hb2
      omega
    have hcond : ¬ (Kp202.JUDGES ≤ j ∨ Kp202.WORKS ≤ w) := by show ¬ (6 ≤ j ∨ 16 ≤ w); omega
    refine ⟨_, rfl, _, rfl, (by show 2 ≤ sizeLine; decide), fun p hp => ?_⟩
    have s1 : Same H (upd H p (.tup [.int (j : Int), .int (w : Int)])) := (Same.refl H).new hp
    refine ⟨_, rfl, d, _, rfl, (hm.same s1).get upd_same, _, rfl, ?_⟩
    have e2 : (Option.map nV (markOf h j w)).isSome = has h j w := by unfold has; cases markOf h j w <;> rfl
    rw [e2]
    refine ite2 (fun hb3 => ?_) (fun hb3 => ?_)
    · have hf : has h j w = false := by simpa using hb3
      have hno : Kp202.step (some h) (.unmark j w) = (some h, Kp202.say (-2)) := by
        show (if Kp202.JUDGES ≤ j ∨ Kp202.WORKS ≤ w then _ else if has h j w = false then _ else _) = _
        rw [if_neg hcond, if_pos hf]
      refine ⟨(by show 1 ≤ sizeLine; decide), fun q hq => ?_⟩
      refine k.say hw hm s1 ?_ hq ?_ <;> rw [hno] <;> rfl
    · have ht : has h j w = true := by
        cases z : has h j w with
        | true => rfl
        | false => rw [z] at hb3; exact absurd rfl hb3
      have hyes : Kp202.step (some h) (.unmark j w) = (some (h.filter fun m => !(m.judge == j && m.work == w)), Kp202.say (h.length - 1 : Nat)) := by
        show (if Kp202.JUDGES ≤ j ∨ Kp202.WORKS ≤ w then _ else if has h j w = false then _ else _) = _
        rw [if_neg hcond, if_neg (by rw [ht]; decide)]
      obtain ⟨M0, eM0, _⟩ := (hm.same s1).ex
      refine ⟨_, rfl, .inr (.inr (.inl ⟨rfl, .inr ⟨_, eM0⟩⟩)), _, rfl, _, rfl, (by show 2 ≤ sizeLine; decide), fun p2 hp2 => ?_⟩
      generalize upd H p (.tup [.int (j : Int), .int (w : Int)]) = H1 at s1 hp2 eM0 ⊢
      have s2 : Same H1 (upd H1 p2 (.tup [.int (j : Int), .int (w : Int)])) := (Same.refl H1).new hp2
      obtain ⟨kvs, ek, ⟨v, ev⟩, m3, M, eM, lM⟩ := marks_drop ((hm.same s1).same s2) hw ht
      refine ⟨d, p2, kvs, kk j w, v, rfl, rfl, ek, upd_same, ev, ?_⟩
      have s3 : SameB d H (upd (upd H1 p2 (.tup [.int (j : Int), .int (w : Int)])) d (.dT (dropK kvs (kk j w)))) := fun b u eb hb => by
        rw [upd_ne hb]
        exact s2 _ _ (s1 _ _ eb)
      generalize upd (upd H1 p2 (.tup [.int (j : Int), .int (w : Int)])) d (.dT (dropK kvs (kk j w))) = H3 at s3 m3 eM ⊢
      refine ⟨_, rfl, d, _, rfl, eM, (by show 1 ≤ sizeLine; decide), fun q hq => ?_⟩
      have hqd : d ≠ q := m3.ne hq
      have hq0 : H q = none := by
        cases z : H q with
        | none => rfl
        | some o =>
          rw [s3 q o z (Ne.symm hqd)] at hq
          cases hq
      refine k _ q _ (by rw [hyes]) (hw.filter _) (m3.same ((Same.refl H3).new hq)) (sameB_new s3 hq) hq0 ?_
      rw [upd_same, hyes]
      show _ = some (HO.lst [V.int ((h.length - 1 : Nat) : Int)])
      rw [← lM]
      unfold dkv
      rw [List.length_map]
end
end Lm
end
section
set_option Elab.async false
set_option linter.all false
set_option maxRecDepth 100000
set_option maxHeartbeats 2000000
namespace MQ
open Kp202 (House)
theorem ins_len (x : Nat × Kp193.Q) : ∀ l : List (Nat × Kp193.Q), (Kp202.insert x l).length = l.length + 1
  | [] => rfl
  | y :: l => by
    unfold Kp202.insert
    split
    · rfl
    · rw [List.length_cons, ins_len x l, List.length_cons]
theorem sorted_len : ∀ l : List (Nat × Kp193.Q), (Kp202.sorted l).length = l.length
  | [] => rfl
  | x :: l => by
    unfold Kp202.sorted
    rw [ins_len, sorted_len l, List.length_cons]
theorem order_len (h : House) (w : Nat) : (Kp202.order h w).length ≤ 16 := by
  unfold Kp202.order
  rw [List.length_map, sorted_len, List.length_map]
  have := List.length_filter_le (fun v => Kp202.compared h w v) (List.range Kp202.WORKS)
  simpa [Kp202.WORKS] using this
theorem ans_len (h : House) (c : Kp202.Call) : ((Kp202.step (some h) c).2.num :: (Kp202.step (some h) c).2.nums).length ≤ 17 := by
  have key : (Kp202.step (some h) c).2.nums.length ≤ 16 := by
    cases c with
    | begin_ => exact Nat.zero_le _
    | mark j w m =>
      show (if _ then _ else _ : Kp202.State × Kp202.Ans).2.nums.length ≤ 16
      split <;> exact Nat.zero_le _
    | unmark j w =>
      show (if _ then _ else _ : Kp202.State × Kp202.Ans).2.nums.length ≤ 16
      split
      · exact Nat.zero_le _
      · split <;> exact Nat.zero_le _
    | work w =>
      show (if _ then _ else _ : Kp202.Ans).nums.length ≤ 16
      split
      · exact Nat.zero_le _
      · split
        · exact Nat.zero_le _
        · show 2 ≤ 16
          decide
    | hand j =>
      show (if _ then _ else _ : Kp202.Ans).nums.length ≤ 16
      split
      · exact Nat.zero_le _
      · split
        · exact Nat.zero_le _
        · show 2 ≤ 16
          decide
    | same v w =>
      show (if _ then _ else _ : Kp202.Ans).nums.length ≤ 16
      split
      · exact Nat.zero_le _
      · split <;> exact Nat.zero_le _
    | order w =>
      show (if _ then _ else _ : Kp202.Ans).nums.length ≤ 16
      split
      · exact Nat.zero_le _
      · split
        · exact Nat.zero_le _
        · show ((Kp202.order h w).map _).length ≤ 16
          rw [List.length_map]
          exact order_len h w
    | off => show 2 ≤ 16; decide
  rw [List.length_cons]
  omega
theorem asked_call {c : List (List Int)} (h : Kp202Neutral.asked1 c = true) : ∃ x, Kp202Neutral.callOf c = some x := by
  unfold Kp202Neutral.asked1 at h
  split at h <;> first | exact ⟨_, rfl⟩ | cases h
theorem nstep_eq {s : Kp202.State} {c : List (List Int)} {x : Kp202.Call} (h : Kp202Neutral.callOf c = some x) : Kp202Neutral.step s c = ((Kp202.step s x).1, (Kp202.step s x).2.num :: (Kp202.step s x).2.nums) := by
  unfold Kp202Neutral.step
  rw [h]
end MQ
namespace Lm
open PySem PySem.Spec PyProof.Rows L2
open Kp202 (House markOf has judgesOf worksOf handOf allHands put)
open MQ (Wf)
abbrev sAnswers : Stmt := top 15
section
variable {P : Program} {w : World} {K : PySem.W.Frag} {mg : Str → Option Value} {base : Heap}
/-- how many numbers stand behind a call's own -/
def Cnts (K : PySem.W.Frag) (mg : Str → Option Value) : Prop := ∃ (t : Addr) (cn : List Int), mg "ARGUMENT_COUNTS" = some (.ref t) ∧ (∀ H, SqT K H t (iv cn)) ∧ ∀ (p : Int) (n : Nat), PyKp202.shape p = some (n, 0) → ∃ i : Nat, p = (i : Int) ∧ cn[i]? = some (n : Int)
theorem scAnswers : FnScope ["calls", "marks", "answered", "start", "number", "behind", "answer"] ["calls"] (defScope sAnswers) := ⟨rfl, rfl, rfl, by decide +kernel, rfl, by decide +kernel, by decide +kernel⟩
def muAns : L2.St → Hp → Nat := fun σ _ => match σ with
  | [_, _, _, some (.int f), _, _, _] => 30001 - f.toNat
  | _ => 0
theorem cut_args {ns : List Int} {st n : Nat} {p : Int} {r : List Int} (hd : ns.drop st = p :: r) (hn : n ≤ r.length) : cutV (iv ns) (some ((st : Int) + 1)) (some ((st : Int) + 1 + (n : Int))) = iv (r.take n) := by
  have hl : (iv ns).length = ns.length := iv_length ns
  have hlen : ns.length = st + 1 + r.length := by
    have h1 : (ns.drop st).length = ns.length - st := List.length_drop
    rw [hd, List.length_cons] at h1
    have h2 : st ≤ ns.length := by
      rcases Nat.lt_or_ge ns.length st with c | c
      · rw [List.drop_eq_nil_of_le (by omega)] at hd
        cases hd
      · exact c
    omega
  unfold cutV
  have e1 : HT.sIx (iv ns).length 0 (some ((st : Int) + 1)) = st + 1 := by
    unfold HT.sIx
    dsimp only
    rw [if_neg (by omega), hl]
    omega
  have e2 : HT.sIx (iv ns).length (iv ns).length (some ((st : Int) + 1 + (n : Int))) = st + 1 + n := by
    unfold HT.sIx
    dsimp only
    rw [if_neg (by omega), hl]
    omega
  rw [e1, e2]
  have e3 : ns.drop (st + 1) = r := by
    rw [← List.drop_drop, hd]
    rfl
  unfold iv
  rw [← List.map_drop, e3, ← List.map_take]
  congr 2
  omega
end
end Lm
end
section
set_option Elab.async false
set_option linter.all false
set_option maxRecDepth 100000
set_option maxHeartbeats 1000000
set_option exponentiation.threshold 100000
namespace Lm
open PySem PySem.Spec PyProof.Rows L2
open Kp202 (House markOf has judgesOf worksOf handOf allHands rightBy handIn marked)
open Kp193 (Q frac plus less)
open MQ (Wf part termQ Den lcmL tm mI)
open Builtin.Int (intBits)
abbrev sHas : Stmt := top 25
abbrev sRights : Stmt := top 32
abbrev sPut : Stmt := top 33
abbrev sCommon : Stmt := top 41
abbrev sTimes : Stmt := top 42
theorem log2_lt {n a m : Nat} (h : n ≤ 2 ^ a) (ha : a < m) : n.log2 < m := Nat.lt_of_le_of_lt (log2_mono h) (by rw [Nat.log2_two_pow]; exact ha)
theorem sz_of {q : Q} {a b : Nat} (h1 : q.top.natAbs ≤ 2 ^ a) (h2 : q.bottom ≤ 2 ^ b) (ha : a < 60000000) (hb : b < 60000000) : Sz q := ⟨bits_of_abs h1 ha, bits_of_abs (by rw [Int.natAbs_natCast]; exact h2) hb⟩
section
variable {P : Program} {w : World} {K : PySem.W.Frag} {mg : Str → Option Value} {base : Heap}
def spHas : Sp := fun vs H Q _ => ∃ (d : Addr) (h : House) (w : Nat), vs = [.ref d, .int (w : Int)] ∧ MarksAt H d h ∧ ∀ H', Same H H' → Q (.bl (decide (0 < (judgesOf h w).length))) H'
theorem scHas : FnScope ["marks", "work"] ["marks", "work"] (defScope sHas) := ⟨rfl, rfl, rfl, by decide +kernel, rfl, by decide +kernel, by decide +kernel⟩
theorem ok_has {f : Addr} {fd : FuncData} (F : Fun K "has_mark" "has_mark" sHas f fd) (hlen : mg "len" = none) (GJ : Know P w K mg base "judges_of" ["marks", "work"] 1 spJudges) : FnOk P w K mg base CX0 2 f fd ["marks", "work"] spHas := by
  refine F.ok scHas (fun vs H Q E h => ?_) (fun cdv A outer s H vs Q E hr h => ?_)
  · obtain ⟨d, h, w, rfl, _⟩ := h
    rfl
  · obtain ⟨d, h, w, rfl, hm, k⟩ := h
    refine ⟨_, pss_one (ps_ret (pe_cmpR op_gt (pe_callB call_len_seq (by rfl) hlen PySem.boot_len (pa_cons (pe_know GJ hr rfl (pa_cons (pv 0) (pa_cons (pv 1) pa_nil))) pa_nil)) pe_int (nomark _))), ?_⟩
    refine ⟨_, rfl, _, rfl, d, h, w, rfl, hm, fun H1 p s1 n1 e1 => ⟨p, _, rfl, .inl (SqL.of e1), _, _, rfl, rfl, ?_⟩⟩
    rw [nv_length]
    have e : decide ((0 : Int) < ((judgesOf h w).length : Int)) = decide (0 < (judgesOf h w).length) := decide_eq_decide.mpr (by omega)
    show Q (.bl (decide ((0 : Int) < ((judgesOf h w).length : Int)))) H1
    rw [e]
    exact k H1 s1
def spTimes : Sp := fun vs H Q _ => ∃ (a : Addr) (q : Kp193.Q) (B : Nat), vs = [.ref a, .int (B : Int)] ∧ FracAt H a q ∧ 0 < q.bottom ∧ q.bottom ≤ 2 ^ 1000 ∧ q.top.natAbs ≤ 2 ^ 10000 ∧ B ≤ 2 ^ 1000 ∧ Q (.int (tm q B)) H
theorem scTimes : FnScope ["fraction", "below"] ["fraction", "below"] (defScope sTimes) := ⟨rfl, rfl, rfl, by decide +kernel, rfl, by decide +kernel, by decide +kernel⟩
theorem ok_times {f : Addr} {fd : FuncData} (F : Fun K "times" "times" sTimes f fd) : FnOk P w K mg base CX0 1 f fd ["fraction", "below"] spTimes := by
  refine F.ok scTimes (fun vs H Q E h => ?_) (fun cdv A outer s H vs Q E hr h => ?_)
  · obtain ⟨a, q, B, rfl, _⟩ := h
    rfl
  · obtain ⟨a, q, B, rfl, fa, hq, hb, ht, hB, k⟩ := h
    refine ⟨_, pss_one (ps_ret (pe_op op_mulB (pe_ix ix_tup (pv 0) pe_int (fun _ _ => rfl)) (pe_op op_fdivB (pv 1) (pe_ix ix_tup (pv 0) pe_int (fun _ _ => rfl))))), ?_⟩
    have e : ((B : Int) / (q.bottom : Int)) = ((B / q.bottom : Nat) : Int) := by simp
    refine ⟨_, rfl, a, _, _, _, rfl, rfl, frac0 fa, rfl, _, rfl, _, rfl, a, _, _, _, rfl, rfl, frac0 fa, rfl, _, _, rfl, rfl, ⟨by omega, by rw [Int.natAbs_natCast]; exact log2_lt hb (by decide)⟩, _, _, rfl, rfl, ?_, ?_⟩
    · rw [e]
      exact mul_ok (bits_of_abs ht (by decide)) (bits_of_abs (a := 1000) (by rw [Int.natAbs_natCast]; exact Nat.le_trans (Nat.div_le_self _ _) hB) (by decide))
    · rw [e]
      exact k
def bots (qs : List Q) : List Nat := qs.map fun q => q.bottom
def spCommon : Sp := fun vs H Q _ => ∃ (l : Addr) (qs : List Kp193.Q) (M : Nat), vs = [.ref l] ∧ FracsAt H l qs ∧ 0 < M ∧ M ≤ 2 ^ 1000 ∧ (∀ q ∈ qs, 0 < q.bottom ∧ q.bottom ∣ M) ∧ Q (.int (lcmL (bots qs) : Int)) H
theorem scCommon : FnScope ["fractions", "common", "fraction"] ["fractions"] (defScope sCommon) := ⟨rfl, rfl, rfl, by decide +kernel, rfl, by decide +kernel, by decide +kernel⟩
theorem ok_common {f : Addr} {fd : FuncData} (F : Fun K "common_below" "common_below" sCommon f fd) (GG : Know P w K mg base "greatest_divisor" ["one", "other"] 1 spGcd) : FnOk P w K mg base CX0 2 f fd ["fractions"] spCommon := by
  refine F.ok scCommon (fun vs H Q E h => ?_) (fun cdv A outer s H vs Q E hr h => ?_)
  · obtain ⟨l, qs, M, rfl, _⟩ := h
    rfl
  · obtain ⟨l, qs, M, rfl, fr, hM, hM2, hq, k⟩ := h
    obtain ⟨as, el, hla, hat⟩ := fr.ex
    refine ⟨_, pss_cons (ps_set (i := 1) scCommon.nd rfl (Or.inl rfl) pe_int)
      (pss_cons (ps_for PassesOwn.never rfl (pi_list (pv 0)) (pg_name (i := 2) scCommon.nd rfl (Or.inl rfl))
        (pss_one (ps_set (i := 1) scCommon.nd rfl (Or.inl rfl) (pe_op op_fdivB (pe_op op_mulB (pv 1) (pe_ix ix_tup (pv 2) pe_int (fun _ _ => rfl))) (pe_know GG hr rfl (pa_cons (pv 1) (pa_cons (pe_ix ix_tup (pv 2) pe_int (fun _ _ => rfl)) pa_nil)))))))
      (pss_one (ps_ret (pv 1)))), ?_⟩
    refine ⟨_, rfl, l, rfl, ⟨_, SqL.of el⟩, for_list (K := K) (a := l) (xs := as.map V.ref) (fun n σ H' => H' = H ∧ ∃ v2 : Option V, σ = [some (.ref l), some (.int (lcmL (bots (qs.take n)) : Int)), v2]) ⟨rfl, none, rfl⟩ (fun n σ H' _ ⟨e, _⟩ => by rw [e]; exact SqL.of el) ?_ ?_⟩
    · rintro n y σ H1 hn ⟨rfl, v2, rfl⟩
      rw [List.getElem?_map] at hn
      obtain ⟨a, ha, rfl⟩ := Option.map_eq_some_iff.mp hn
      have hnl : n < qs.length := by rw [← hla]; exact (List.getElem?_eq_some_iff.mp ha).1
      have hqn : qs[n]? = some qs[n] := List.getElem?_eq_getElem hnl
      have fa := hat n a _ ha hqn
      have hmem : qs[n] ∈ qs := List.getElem_mem hnl
      obtain ⟨hb0, hbM⟩ := hq _ hmem
      have hall : ∀ b ∈ bots (qs.take n), b ∣ M := fun b hb => by
        obtain ⟨q, hq2, rfl⟩ := List.mem_map.mp hb
        exact (hq q (List.mem_of_mem_take hq2)).2
      obtain ⟨hc0, hcM⟩ := MQ.lcmL_pos hM hall
      have hbl : qs[n].bottom ≤ M := Nat.le_of_dvd hM hbM
      have hnext : lcmL (bots (qs.take (n + 1))) = lcmL (bots (qs.take n)) * qs[n].bottom / Nat.gcd (lcmL (bots (qs.take n))) qs[n].bottom := by
        rw [take_snoc hqn]
        unfold bots
        rw [List.map_append]
        exact MQ.lcmL_snoc _ _
      generalize lcmL (bots (qs.take n)) = c at hc0 hcM hnext ⊢
      have hg : 0 < Nat.gcd c qs[n].bottom := Nat.gcd_pos_of_pos_left _ hc0
      have hg2 : Nat.gcd c qs[n].bottom ≤ 2 ^ 1000 := Nat.le_trans (Nat.gcd_le_left _ hc0) (Nat.le_trans hcM hM2)
      refine ⟨_, rfl, _, rfl, a, _, _, _, rfl, rfl, frac0 fa, rfl, _, _, rfl, rfl, mul_ok (bits_of_abs (a := 1000) (by rw [Int.natAbs_natCast]; exact Nat.le_trans hcM hM2) (by decide)) (bits_of_abs (a := 1000) (by rw [Int.natAbs_natCast]; exact Nat.le_trans hbl hM2) (by decide)),
        _, rfl, _, rfl, a, _, _, _, rfl, rfl, frac0 fa, rfl, c, qs[n].bottom, rfl, _, _, rfl, rfl, ⟨by omega, by rw [Int.natAbs_natCast]; exact log2_lt hg2 (by decide)⟩, ?_⟩
      have e : ((c : Int) * (qs[n].bottom : Int)) / ((Nat.gcd c qs[n].bottom : Nat) : Int) = (lcmL (bots (qs.take (n + 1))) : Int) := by
        rw [hnext]
        simp
      refine ⟨rfl, some (.ref a), ?_⟩
      rw [← e]
      rfl
    · rintro σ H1 ⟨rfl, v2, rfl⟩
      rw [List.length_map, hla, List.take_length]
      exact ⟨_, rfl, k⟩
def spPut : Sp := fun vs H Q _ => ∃ (d l : Addr) (h : House) (w : Nat), vs = [.ref d, .ref l, .int (w : Int)] ∧ MarksAt H d h ∧ FracsAt H l (allHands h) ∧ Wf h ∧ 0 < (judgesOf h w).length ∧ ∀ H' r, Same H H' → H r = none → FracAt H' r (rightBy h (allHands h) w) → Q (.ref r) H'
theorem scPut : FnScope ["marks", "hands", "work", "judges", "total", "judge"] ["marks", "hands", "work"] (defScope sPut) := ⟨rfl, rfl, rfl, by decide +kernel, rfl, by decide +kernel, by decide +kernel⟩
theorem mark_Q {h : House} {j w : Nat} (e : has h j w = true) : (marked h j w).top = mI h j w ∧ (marked h j w).bottom = 1 := by
  unfold has at e
  unfold marked mI
  cases q : markOf h j w with
  | none => rw [q] at e; cases e
  | some m => exact ⟨rfl, rfl⟩
theorem ok_put {f : Addr} {fd : FuncData} (F : Fun K "put_right" "put_right" sPut f fd) (hlen : mg "len" = none) (GJ : Know P w K mg base "judges_of" ["marks", "work"] 1 spJudges) (GA : Know P w K mg base "added" ["one", "other"] 3 (sp2 plus)) (GL : Know P w K mg base "less" ["one", "other"] 3 (sp2 less)) (GF : Know P w K mg base "lowest" ["above", "below"] 2 spLowest) :
    FnOk P w K mg base CX0 4 f fd ["marks", "hands", "work"] spPut := by
  refine F.ok scPut (fun vs H Q E h => ?_) (fun cdv A outer s H vs Q E hr h => ?_)
  · obtain ⟨d, l, h, w, rfl, _⟩ := h
    rfl
  · obtain ⟨d, l, h, w, rfl, hm, hl, hw, hn, k⟩ := h
    have hu := hu_of' hr
    have hs := hw.Small
    obtain ⟨N, dn⟩ := MQ.den_ex hs
    refine ⟨_, pss_cons (ps_set (i := 3) scPut.nd rfl (Or.inl rfl) (pe_know GJ hr rfl (pa_cons (pv 0) (pa_cons (pv 2) pa_nil))))
      (pss_cons (ps_set (i := 4) scPut.nd rfl (Or.inl rfl) (pe_tup (pa_cons pe_int (pa_cons pe_int pa_nil))))
      (pss_cons (ps_for PassesOwn.never rfl (pi_list (pv 3)) (pg_name (i := 5) scPut.nd rfl (Or.inl rfl))
        (pss_one (ps_set (i := 4) scPut.nd rfl (Or.inl rfl) (pe_know GA hr rfl (pa_cons (pv 4) (pa_cons (pe_know GL hr rfl (pa_cons (pe_tup (pa_cons (pe_dget hu (pv 0) (pe_tup (pa_cons (pv 5) (pa_cons (pv 2) pa_nil))) (fun _ _ => rfl)) (pa_cons pe_int pa_nil))) (pa_cons (pe_ix ix_list (pv 1) (pv 5) (fun _ _ => rfl)) pa_nil))) pa_nil))))))
      (pss_one (ps_ret (pe_know GF hr rfl (pa_cons (pe_ix ix_tup (pv 4) pe_int (fun _ _ => rfl)) (pa_cons (pe_op op_mulB (pe_ix ix_tup (pv 4) pe_int (fun _ _ => rfl)) (pe_callB call_len_seq (by rfl) hlen PySem.boot_len (pa_cons (pv 3) pa_nil))) pa_nil))))))), ?_⟩
    refine ⟨_, rfl, _, rfl, d, h, w, rfl, hm, fun H1 pJ s1 nJ eJ => ?_⟩
    refine ⟨(by show 2 ≤ sizeLine; decide), fun p0 np0 => ?_⟩
    have s2 : Same H1 (upd H1 p0 (.tup [.int 0, .int 1])) := (Same.refl H1).new np0
    refine ⟨_, rfl, pJ, rfl, ⟨_, SqL.of (s2 _ _ eJ)⟩, for_list (K := K) (a := pJ) (xs := nv (judgesOf h w)) (fun n σ H' => ∃ (r : Addr) (v5 : Option V), σ = [some (.ref d), some (.ref l), some (.int (w : Int)), some (.ref pJ), some (.ref r), v5] ∧ Same H H' ∧ H' pJ = some (.lst (nv (judgesOf h w))) ∧ FracAt H' r (part h w ((judgesOf h w).take n)))
      ⟨p0, none, rfl, s1.trans s2, s2 _ _ eJ, upd_same⟩ (fun n σ H' _ ⟨_, _, _, _, e, _⟩ => SqL.of e) ?_ ?_⟩
    · rintro n y σ H3 hn3 ⟨r, v5, rfl, s3, eJ3, fr3⟩
      obtain ⟨j, hj, rfl⟩ := nv_get hn3
      have hjm := MQ.mem_judges.mp (List.mem_of_getElem? hj)
      have hk : ∀ i ∈ (judgesOf h w).take n, i < 6 := fun i hi => MQ.judges_lt i (List.mem_of_mem_take hi)
      have hnl : ((judgesOf h w).take n).length ≤ 6 := Nat.le_trans (by rw [List.length_take]; exact Nat.min_le_right _ _) (MQ.judges_le h w)
      refine ⟨_, rfl, _, rfl, _, rfl, _, rfl, (by show 2 ≤ sizeLine; decide), fun p1 hp1 => ?_⟩
      have s4 : Same H3 (upd H3 p1 (.tup [nV j, .int (w : Int)])) := (Same.refl H3).new hp1
      have g4 : DGet (upd H3 p1 (.tup [nV j, .int (w : Int)])) d (.ref p1) (some (V.int (mI h j w))) := by
        rw [← mark_some hjm.2]
        exact ((hm.same s3).same s4).get upd_same
      refine ⟨d, _, rfl, g4, (by show 2 ≤ sizeLine; decide), fun p2 hp2 => ?_⟩
      generalize upd H3 p1 (.tup [nV j, .int (w : Int)]) = H4 at s4 g4 hp2 ⊢
      have s5 : Same H4 (upd H4 p2 (.tup [.int (mI h j w), .int 1])) := (Same.refl H4).new hp2
      have f5 : FracAt (upd H4 p2 (.tup [.int (mI h j w), .int 1])) p2 (marked h j w) := by
        unfold FracAt
        rw [upd_same, (mark_Q hjm.2).1, (mark_Q hjm.2).2]
        rfl
      generalize upd H4 p2 (.tup [.int (mI h j w), .int 1]) = H5 at s5 f5 ⊢
      have s35 := s4.trans s5
      obtain ⟨a, xs, ex, exj, fa⟩ := (hl.same (s3.trans s35)).at (MQ.allHands_get h hjm.1)
      have hb := dn.bot hjm.1
      have ht := MQ.hand_top hs hjm.1
      have ms := MQ.marked_sz hs j w
      refine ⟨_, rfl, _, rfl, l, _, _, _, rfl, rfl, SqL.of ex, atI_nat exj, p2, a, _, _, rfl, f5, fa, by rw [ms.2]; decide, (MQ.hand_ok h hjm.1).1, sz_of ms.1 (b := 0) (by rw [ms.2]; decide) (by decide) (by decide), sz_of ht hb (by decide) (by decide), ?_, fun p6 hp6 => ?_⟩
      · rw [ms.2, Nat.one_mul]
        exact log2_lt hb (by decide)
      have eT : less (marked h j w) (handOf h j) = termQ h w j := by unfold termQ; rw [MQ.handIn_all h hjm.1]
      rw [eT]
      have s6 : Same H5 (upd H5 p6 (.tup [.int (termQ h w j).top, .int ((termQ h w j).bottom : Int)])) := (Same.refl H5).new hp6
      have f6 : FracAt (upd H5 p6 (.tup [.int (termQ h w j).top, .int ((termQ h w j).bottom : Int)])) p6 (termQ h w j) := upd_same
      generalize upd H5 p6 (.tup [.int (termQ h w j).top, .int ((termQ h w j).bottom : Int)]) = H6 at s6 f6 ⊢
      have s36 := s35.trans s6
      have pb := MQ.part_bot (w := w) dn hk
      have pt := MQ.part_top (w := w) hs dn _ _ rfl hk
      have tb := MQ.term_bot (w := w) dn hjm.1
      have tt := MQ.term_top (w := w) hs dn hjm.1
      refine ⟨r, p6, _, _, rfl, s36 _ _ fr3, f6, (MQ.part_ok hk).1.1, (MQ.term_ok h hjm.1).1.1, sz_of pt pb (by omega) (by decide), sz_of tt tb (by decide) (by decide), ?_, fun p7 hp7 => ?_⟩
      · exact log2_lt (MQ.mul_pow pb tb) (by decide)
      have s7 : Same H6 (upd H6 p7 (.tup [.int (plus (part h w ((judgesOf h w).take n)) (termQ h w j)).top, .int ((plus (part h w ((judgesOf h w).take n)) (termQ h w j)).bottom : Int)])) := (Same.refl H6).new hp7
      refine ⟨p7, some (nV j), rfl, s3.trans (s36.trans s7), s7 _ _ (s36 _ _ eJ3), ?_⟩
      rw [take_snoc hj, MQ.part_snoc]
      exact upd_same
    · rintro σ H3 ⟨r, v5, rfl, s3, eJ3, fr3⟩
      rw [nv_length, List.take_length] at fr3
      have pb := MQ.part_bot (w := w) dn (MQ.judges_lt (h := h) (w := w))
      have hle := MQ.judges_le h w
      refine ⟨_, rfl, r, _, _, _, rfl, rfl, frac0 fr3, rfl, _, rfl, r, _, _, _, rfl, rfl, frac0 fr3, rfl, _, rfl, pJ, _, rfl, .inl (SqL.of eJ3), _, _, rfl, rfl, ?_, ?_⟩
      · rw [nv_length]
        exact mul_ok (bits_of_abs (a := 687) (by rw [Int.natAbs_natCast]; exact pb) (by decide)) (bits_of_abs (a := 3) (by rw [Int.natAbs_natCast]; omega) (by decide))
      · refine ⟨(part h w (judgesOf h w)).top, (part h w (judgesOf h w)).bottom * (judgesOf h w).length, ?_, Nat.mul_pos (MQ.part_ok MQ.judges_lt).1.1 hn, ?_, fun p hp => ?_⟩
        · show [V.int (part h w (judgesOf h w)).top, V.int (((part h w (judgesOf h w)).bottom : Int) * ((nv (judgesOf h w)).length : Int))] = _
          rw [nv_length, Int.natCast_mul]
        · exact log2_lt (MQ.mul_pow pb (b := 3) (by omega)) (by decide)
        · rw [← MQ.right_eq]
          exact k _ p (s3.new hp) (s3.free hp) upd_same
end
end Lm
end
section
set_option Elab.async false
set_option linter.all false
set_option maxRecDepth 100000
set_option maxHeartbeats 1000000
set_option exponentiation.threshold 100000
namespace Lm
open PySem PySem.Spec PyProof.Rows L2
open Kp202 (House markOf has judgesOf worksOf handOf allHands rightBy handIn marked)
open Kp193 (Q frac plus less)
open MQ (Wf part termQ Den lcmL tm mI cmpd IsGroup)
open Builtin.Int (intBits)
abbrev sCmp : Stmt := top 29
def rkv (ws : List Nat) (as : List Addr) : List (Key × V) := (ws.zip as).map fun p => ((Sum.inl (p.1 : Int) : Key), V.ref p.2)
structure RightsAt (H : Hp) (r : Addr) (h : House) (ws : List Nat) : Prop where
  ex : ∃ as : List Addr, H r = some (.dK (rkv ws as)) ∧ as.length = ws.length ∧ ∀ (k : Nat) (a : Addr) (w : Nat), as[k]? = some a → ws[k]? = some w → FracAt H a (rightBy h (allHands h) w)
theorem RightsAt.same {H H' : Hp} {r : Addr} {h : House} {ws : List Nat} (x : RightsAt H r h ws) (s : Same H H') : RightsAt H' r h ws := by
  obtain ⟨as, e, l, f⟩ := x.ex
  exact ⟨as, s _ _ e, l, fun k a w h1 h2 => s _ _ (f k a w h1 h2)⟩
theorem rkv_none : ∀ {ws : List Nat} {as : List Addr} {w : Nat}, w ∉ ws → valV (rkv ws as) (Sum.inl (w : Int)) = none
  | [], _, _, _ => rfl
  | _ :: _, [], _, _ => rfl
  | v :: ws, a :: as, w, h => by
    have hv : ¬ (Sum.inl (v : Int) : Key) = Sum.inl (w : Int) := fun z => h (by
      have : (v : Int) = (w : Int) := Sum.inl.inj z
      have : v = w := by omega
      rw [this]; exact List.mem_cons_self ..)
    show valV ((Sum.inl (v : Int), V.ref a) :: rkv ws as) _ = none
    rw [valV_neg hv]
    exact rkv_none fun z => h (List.mem_cons_of_mem _ z)
theorem rkv_some : ∀ {ws : List Nat} {as : List Addr} {k w : Nat} {a : Addr}, ws.Nodup → ws[k]? = some w → as[k]? = some a → valV (rkv ws as) (Sum.inl (w : Int)) = some (V.ref a)
  | [], _, k, w, a, _, h1, _ => by simp at h1
  | _ :: _, [], k, w, a, _, _, h2 => by simp at h2
  | v :: ws, b :: as, 0, w, a, _, h1, h2 => by
    have e1 : v = w := Option.some.inj h1
    have e2 : b = a := Option.some.inj h2
    subst e1; subst e2
    exact valV_pos rfl
  | v :: ws, b :: as, k + 1, w, a, hn, h1, h2 => by
    rw [List.nodup_cons] at hn
    have hw : w ∈ ws := List.mem_of_getElem? (by simpa using h1)
    have hv : ¬ (Sum.inl (v : Int) : Key) = Sum.inl (w : Int) := fun z => hn.1 (by
      have : (v : Int) = (w : Int) := Sum.inl.inj z
      have : v = w := by omega
      rw [this]; exact hw)
    show valV ((Sum.inl (v : Int), V.ref b) :: rkv ws as) _ = _
    rw [valV_neg hv]
    exact rkv_some hn.2 (by simpa using h1) (by simpa using h2)
theorem rkv_put {ws : List Nat} {as : List Addr} {w : Nat} {a : Addr} (hl : as.length = ws.length) (hw : w ∉ ws) : putK (rkv ws as) (Sum.inl (w : Int)) (V.ref a) = rkv (ws ++ [w]) (as ++ [a]) := by
  unfold putK
  have e : ((rkv ws as).any fun kv => decide (kv.1 = Sum.inl (w : Int))) = false := by
    rw [valV_any, rkv_none hw]
    rfl
  rw [e, if_neg Bool.false_ne_true]
  unfold rkv
  rw [List.zip_append hl.symm, List.map_append]
  rfl
theorem rkv_len {ws : List Nat} {as : List Addr} (hl : as.length = ws.length) : (rkv ws as).length = ws.length := by
  unfold rkv
  rw [List.length_map, List.length_zip, hl, Nat.min_self]
theorem rkv_vals {ws : List Nat} {as : List Addr} (hl : as.length = ws.length) : (rkv ws as).map (·.2) = as.map V.ref := by
  unfold rkv
  rw [List.map_map]
  have e : ((fun kv : Key × V => kv.2) ∘ fun p : Nat × Addr => ((Sum.inl (p.1 : Int) : Key), V.ref p.2)) = V.ref ∘ Prod.snd := rfl
  rw [e, ← List.map_map, List.map_snd_zip (by omega)]
section
variable {P : Program} {w : World} {K : PySem.W.Frag} {mg : Str → Option Value} {base : Heap}
def spRights : Sp := fun vs H Q _ => ∃ (d l wl : Addr) (h : House) (ws : List Nat), vs = [.ref d, .ref l, .ref wl] ∧ MarksAt H d h ∧ FracsAt H l (allHands h) ∧ Wf h ∧ H wl = some (.lst (nv ws)) ∧ ws.Nodup ∧ ws.length ≤ 16 ∧ (∀ w ∈ ws, 0 < (judgesOf h w).length) ∧ ∀ H' r, Same H H' → H r = none → RightsAt H' r h ws → Q (.ref r) H'
theorem scRights : FnScope ["marks", "hands", "works", "rights", "work"] ["marks", "hands", "works"] (defScope sRights) := ⟨rfl, rfl, rfl, by decide +kernel, rfl, by decide +kernel, by decide +kernel⟩
theorem ok_rights {f : Addr} {fd : FuncData} (F : Fun K "rights_of" "rights_of" sRights f fd) (GP : Know P w K mg base "put_right" ["marks", "hands", "work"] 4 spPut) : FnOk P w K mg base CX0 5 f fd ["marks", "hands", "works"] spRights := by
  refine F.ok scRights (fun vs H Q E h => ?_) (fun cdv A outer s H vs Q E hr h => ?_)
  · obtain ⟨d, l, wl, h, ws, rfl, _⟩ := h
    rfl
  · obtain ⟨d, l, wl, h, ws, rfl, hm, hl, hw, ew, hnd, h16, hj, k⟩ := h
    have hu := hu_of' hr
    refine ⟨_, pss_cons (ps_set (i := 3) scRights.nd rfl (Or.inl rfl) pe_dnewK)
      (pss_cons (ps_for PassesOwn.never rfl (pi_list (pv 2)) (pg_name (i := 4) scRights.nd rfl (Or.inl rfl))
        (pss_one (ps_dput hu (pv 3) (pv 4) (pe_know GP hr rfl (pa_cons (pv 0) (pa_cons (pv 1) (pa_cons (pv 4) pa_nil)))) rfl)))
      (pss_one (ps_ret (pv 3)))), ?_⟩
    intro R nR
    have s0 : Same H (upd H R (.dK [])) := (Same.refl H).new nR
    refine ⟨_, rfl, wl, rfl, ⟨_, SqL.of (s0 _ _ ew)⟩, for_list (K := K) (a := wl) (xs := nv ws) (fun n σ H' => ∃ v4 : Option V, σ = [some (.ref d), some (.ref l), some (.ref wl), some (.ref R), v4] ∧ Same H H' ∧ RightsAt H' R h (ws.take n))
      ⟨none, rfl, s0, ⟨[], upd_same, rfl, fun k a w z => by simp at z⟩⟩ (fun n σ H' _ ⟨_, _, s, _⟩ => SqL.of (s _ _ ew)) ?_ ?_⟩
    · rintro n y σ H1 hn ⟨v4, rfl, s1, r1⟩
      obtain ⟨wk, hwk, rfl⟩ := nv_get hn
      have hwm : wk ∈ ws := List.mem_of_getElem? hwk
      obtain ⟨as, eR, hla, hat⟩ := r1.ex
      have hnot : wk ∉ ws.take n := by
        intro z
        obtain ⟨i, hi⟩ := List.mem_iff_getElem?.mp z
        rw [List.getElem?_take] at hi
        split at hi
        · rename_i hlt
          have := nd_ix hnd hi hwk
          omega
        · cases hi
      refine ⟨_, rfl, _, rfl, _, rfl, d, l, h, wk, rfl, hm.same s1, hl.same s1, hw, hj wk hwm, fun H2 q s2 nq fq => ?_⟩
      have eR2 := s2 _ _ eR
      refine ⟨_, rfl, _, rfl, R, _, rfl, DPut.k (k := Sum.inl (wk : Int)) eR2 ?_, ?_⟩
      · rw [rkv_len hla, List.length_take, sizeLine_eq]
        omega
      rw [rkv_put hla hnot]
      have hqR : q ≠ R := fun z => by rw [z, eR] at nq; cases nq
      refine ⟨some (nV wk), rfl, (s1.trans s2).setG nR, ?_⟩
      rw [take_snoc hwk]
      refine ⟨as ++ [q], upd_same, by rw [List.length_append, List.length_append, hla]; rfl, fun k a v h1 h2 => ?_⟩
      by_cases hkl : k < as.length
      · rw [List.getElem?_append_left hkl] at h1
        rw [List.getElem?_append_left (by omega)] at h2
        have fr := hat k a v h1 h2
        unfold FracAt
        rw [upd_ne (ne_of fr eR (fun z => nomatch z))]
        exact s2 _ _ fr
      · rw [List.getElem?_append_right (by omega)] at h1
        rw [List.getElem?_append_right (by omega)] at h2
        have hk0 : k = as.length := by
          have := (List.getElem?_eq_some_iff.mp h1).1
          simp at this
          omega
        subst hk0
        simp at h1
        rw [hla] at h2
        simp at h2
        subst h1; subst h2
        unfold FracAt
        rw [upd_ne hqR]
        exact fq
    · rintro σ H1 ⟨v4, rfl, s1, r1⟩
      rw [nv_length, List.take_length] at r1
      exact ⟨_, rfl, k H1 R s1 nR r1⟩
end
end Lm
end
section
set_option Elab.async false
set_option linter.all false
set_option maxRecDepth 100000
set_option maxHeartbeats 1000000
set_option exponentiation.threshold 100000
namespace Lm
open PySem PySem.Spec PyProof.Rows L2
open Kp202 (House markOf has judgesOf worksOf handOf allHands rightBy handIn marked)
open Kp193 (Q frac plus less)
open MQ (Wf part termQ Den lcmL tm mI cmpd IsGroup)
theorem nv_ints (l : List Nat) : nv l = (l.map fun (m : Nat) => (m : Int)).map V.int := by
  unfold nv
  rw [List.map_map]
  rfl
theorem works_len (h : House) (j : Nat) : (worksOf h j).length ≤ 16 := by
  unfold worksOf
  exact Nat.le_trans (List.length_filter_le _ _) (by rw [List.length_range]; exact Nat.le_refl _)
/-- the works of the first judges of a list -/
def wAll (h : House) (g : List Nat) : List Nat := g.flatMap (worksOf h)
theorem wAll_snoc (h : House) (g : List Nat) (j : Nat) : wAll h (g ++ [j]) = wAll h g ++ worksOf h j := by
  unfold wAll
  rw [List.flatMap_append]
  simp
theorem wAll_len (h : House) : ∀ g : List Nat, (wAll h g).length ≤ 16 * g.length
  | [] => Nat.le_refl _
  | j :: g => by
    have := wAll_len h g
    have := works_len h j
    show (worksOf h j ++ wAll h g).length ≤ _
    rw [List.length_append, List.length_cons]
    omega
theorem mem_wAll {h : House} {g : List Nat} {v : Nat} : v ∈ wAll h g ↔ ∃ i ∈ g, v ∈ worksOf h i := List.mem_flatMap
theorem cmp_ints {h : House} {w j : Nat} (hw : w < 16) (hj : j ∈ judgesOf h w) {g : List Nat} (ig : IsGroup h j g) {ns : List Int} (pw : ns.Pairwise (· ≤ ·)) (nd : ns.Nodup) (hm : ∀ k, k ∈ ns ↔ k ∈ (wAll h g).map fun (m : Nat) => (m : Int)) : ns.map V.int = nv (cmpd h w) := by
  have hpos : ∀ k ∈ ns, ∃ m : Nat, k = (m : Int) := fun k hk => by
    obtain ⟨m, _, rfl⟩ := List.mem_map.mp ((hm k).mp hk)
    exact ⟨m, rfl⟩
  have e : ns = (ns.map Int.toNat).map fun (m : Nat) => (m : Int) := by
    rw [List.map_map]
    have : ns.map id = ns.map ((fun (m : Nat) => (m : Int)) ∘ Int.toNat) := List.map_congr_left fun k hk => by
      obtain ⟨m, rfl⟩ := hpos k hk
      simp
    rw [← this, List.map_id]
  have e2 : ns.map Int.toNat = cmpd h w := by
    refine MQ.inc_ext ?_ (MQ.cmpd_inc h w) fun x => ?_
    · rw [List.pairwise_map]
      refine List.Pairwise.imp_of_mem (fun {a b} ha hb q => ?_) (pw.and nd)
      obtain ⟨m, rfl⟩ := hpos a ha
      obtain ⟨n, rfl⟩ := hpos b hb
      obtain ⟨q1, q2⟩ := q
      simp only [Int.toNat_natCast]
      have : m ≠ n := fun z => q2 (by rw [z])
      omega
    · rw [MQ.mem_cmpd hw hj ig, ← mem_wAll, List.mem_map]
      constructor
      · rintro ⟨k, hk, rfl⟩
        obtain ⟨m, hm2, rfl⟩ := List.mem_map.mp ((hm k).mp hk)
        simpa using hm2
      · intro hx
        exact ⟨(x : Int), (hm _).mpr (List.mem_map.mpr ⟨x, hx, rfl⟩), by simp⟩
  rw [nv_ints, ← e2, ← e]
section
variable {P : Program} {wo : World} {K : PySem.W.Frag} {mg : Str → Option Value} {base : Heap}
def spCmp : Sp := fun vs H Q _ => ∃ (d : Addr) (h : House) (w : Nat), vs = [.ref d, .int (w : Int)] ∧ MarksAt H d h ∧ w < 16 ∧ 0 < (judgesOf h w).length ∧ ∀ H' r, Same H H' → H r = none → H' r = some (.lst (nv (cmpd h w))) → Q (.ref r) H'
theorem scCmp : FnScope ["marks", "work", "works", "judge"] ["marks", "work"] (defScope sCmp) := ⟨rfl, rfl, rfl, by decide +kernel, rfl, by decide +kernel, by decide +kernel⟩
theorem ok_cmp {f : Addr} {fd : FuncData} (F : Fun K "compared_with" "compared_with" sCmp f fd) (hset : mg "set" = none) (hsor : mg "sorted" = none) (GJ : Know P wo K mg base "judges_of" ["marks", "work"] 1 spJudges) (GW : Know P wo K mg base "works_of" ["marks", "judge"] 1 spWorks) (GG : Know P wo K mg base "group_of" ["marks", "judge"] 2 spGroup) :
    FnOk P wo K mg base CX0 3 f fd ["marks", "work"] spCmp := by
  refine F.ok scCmp (fun vs H Q E h => ?_) (fun cdv A outer s H vs Q E hr h => ?_)
  · obtain ⟨d, h, w, rfl, _⟩ := h
    rfl
  · obtain ⟨d, h, w, rfl, hm, hw, hn, k⟩ := h
    refine ⟨_, pss_cons (ps_set (i := 2) scCmp.nd rfl (Or.inl rfl) (pe_lst pa_nil))
      (pss_cons (ps_for PassesOwn.never rfl (pi_list (pe_know GG hr rfl (pa_cons (pv 0) (pa_cons (pe_ix ix_list (pe_know GJ hr rfl (pa_cons (pv 0) (pa_cons (pv 1) pa_nil))) pe_int (fun _ _ => rfl)) pa_nil)))) (pg_name (i := 3) scCmp.nd rfl (Or.inl rfl))
        (pss_one (ps_expr (pe_bm PySem.F.plainAttrs_list PySem.F.slot_list_extend PySem.F.type_list_extend mt_extend (pv 2) (pa_cons (pe_know GW hr rfl (pa_cons (pv 0) (pa_cons (pv 3) pa_nil))) pa_nil)))))
      (pss_one (ps_ret (pe_callB (call_sortedSet rfl) (by rfl) hsor (by decide +kernel) (pa_cons (pe_callTy (call_setL rfl) (by rfl) hset (by decide +kernel) (pa_cons (pv 2) pa_nil)) pa_nil))))), ?_⟩
    refine ⟨Nat.zero_le _, fun W nW => ?_⟩
    have s0 : Same H (upd H W (.lst [])) := (Same.refl H).new nW
    have e0 : (upd H W (.lst [])) W = some (.lst (nv (wAll h []))) := upd_same
    generalize upd H W (.lst []) = H0 at s0 e0 ⊢
    obtain ⟨j0, hj0⟩ : ∃ j0, (judgesOf h w)[0]? = some j0 := ⟨_, List.getElem?_eq_getElem hn⟩
    have hj0m : j0 ∈ judgesOf h w := List.mem_of_getElem? hj0
    have hj06 := (MQ.mem_judges.mp hj0m).1
    refine ⟨_, rfl, _, rfl, _, rfl, d, h, w, rfl, hm.same s0, fun H1 pJ s1 nJ eJ => ?_⟩
    refine ⟨pJ, _, _, _, rfl, rfl, SqL.of eJ, atI_nat (j := 0) (nv_at hj0), d, h, j0, rfl, hj06, (hm.same s0).same s1, fun H2 pG g s2 nG eG ig hgl => ?_⟩
    have s02 := s0.trans (s1.trans s2)
    have eW2 := s2 _ _ (s1 _ _ e0)
    refine ⟨pG, rfl, ⟨_, SqL.of eG⟩, for_list (K := K) (a := pG) (xs := nv g) (fun n σ H' => ∃ v3 : Option V, σ = [some (.ref d), some (.int (w : Int)), some (.ref W), v3] ∧ Same H H' ∧ H' W = some (.lst (nv (wAll h (g.take n)))) ∧ H' pG = some (.lst (nv g)))
      ⟨none, rfl, s02, eW2, eG⟩ (fun n σ H' _ ⟨_, _, _, _, e⟩ => SqL.of e) ?_ ?_⟩
    · rintro n y σ H3 hn3 ⟨v3, rfl, s3, eW3, eG3⟩
      obtain ⟨i, hi, rfl⟩ := nv_get hn3
      have hGW : pG ≠ W := fun z => by rw [z, s1 _ _ e0] at nG; cases nG
      refine ⟨_, rfl, .inl ⟨rfl, _, SqL.of eW3⟩, _, rfl, _, rfl, d, h, i, rfl, hm.same s3, fun H4 pX s4 nX eX => ?_⟩
      refine ⟨W, pX, _, _, rfl, rfl, s4 _ _ eW3, eX, ?_, ?_⟩
      · have a1 := wAll_len h (g.take n)
        have a2 := works_len h i
        have a3 : (g.take n).length ≤ g.length := by rw [List.length_take]; exact Nat.min_le_right _ _
        rw [nv_length, nv_length, sizeLine_eq]
        omega
      · refine ⟨some (nV i), rfl, (s3.trans s4).setG nW, ?_, ?_⟩
        · rw [upd_same, take_snoc hi, wAll_snoc, nv_append]
        · rw [upd_ne hGW]
          exact s4 _ _ eG3
    · rintro σ H3 ⟨v3, rfl, s3, eW3, eG3⟩
      rw [nv_length, List.take_length] at eW3
      have hlen := wAll_len h g
      refine ⟨_, rfl, W, _, rfl, by rw [← nv_ints]; exact SqL.of eW3, ?_, fun pS nS => ?_⟩
      · rw [List.length_map]
        have : scanBound = 4096 := rfl
        omega
      have s4 := s3.new (p := pS) (o := SetX P wo pS ((wAll h g).map fun (m : Nat) => (m : Int))) nS
      refine ⟨pS, _, (List.range 16).map fun (m : Nat) => (m : Int), rfl, upd_same, by decide, fun kk hk => ?_, fun ns p pw nd mem np => ?_⟩
      · obtain ⟨m, hm2, rfl⟩ := List.mem_map.mp hk
        obtain ⟨i, _, hv⟩ := mem_wAll.mp hm2
        exact List.mem_map.mpr ⟨m, List.mem_range.mpr (MQ.mem_works.mp hv).1, rfl⟩
      · rw [cmp_ints hw hj0m ig pw nd mem]
        exact k _ p (s4.new np) (s4.free np) upd_same
end
end Lm
end
section
set_option Elab.async false
set_option linter.all false
set_option maxRecDepth 100000
set_option maxHeartbeats 1000000
set_option exponentiation.threshold 100000
namespace Lm
open PySem PySem.Spec PyProof.Rows L2
open Kp202 (House markOf has judgesOf worksOf handOf allHands rightBy handIn marked)
open Kp193 (Q frac plus less)
open MQ (Wf part termQ Den lcmL tm mI cmpd IsGroup)
abbrev sWorkC : Stmt := top 20
abbrev sHandC : Stmt := top 21
abbrev sSameC : Stmt := top 22
theorem empty_len {α : Type} (l : List α) : l.isEmpty = decide (l.length = 0) := by cases l <;> rfl
section
variable {P : Program} {wo : World} {K : PySem.W.Frag} {mg : Str → Option Value} {base : Heap}
def spWorkC : Sp := fun vs H Q _ => ∃ (d : Addr) (h : House) (w : Nat), vs = [.ref d, .int (w : Int)] ∧ MarksAt H d h ∧ Wf h ∧ Res d h (.work w) H Q
theorem scWorkC : FnScope ["marks", "work", "right"] ["marks", "work"] (defScope sWorkC) := ⟨rfl, rfl, rfl, by decide +kernel, rfl, by decide +kernel, by decide +kernel⟩
theorem ok_workC {f : Addr} {fd : FuncData} (F : Fun K "call_work" "call_work" sWorkC f fd) (cW : Cst mg "WORKS" 16) (cO : Cst mg "OUT_OF_RANGE" (-22)) (cN : Cst mg "NO_SUCH_MARK" (-2)) (GH : Know P wo K mg base "has_mark" ["marks", "work"] 2 spHas) (GP : Know P wo K mg base "put_right" ["marks", "hands", "work"] 4 spPut) (GA : Know P wo K mg base "hands_of_all" ["marks"] 4 spHands) :
    FnOk P wo K mg base CX0 5 f fd ["marks", "work"] spWorkC := by
  refine F.ok scWorkC (fun vs H Q E h => ?_) (fun cdv A outer s H vs Q E hr h => ?_)
  · obtain ⟨d, h, w, rfl, _⟩ := h
    rfl
  · obtain ⟨d, h, w, rfl, hm, hw, k⟩ := h
    refine ⟨_, pss_cons (ps_if (pt_cmpR op_ge (pv 1) (pe_cst cW rfl) (nomark _)) (pss_one (ps_ret (pe_lst (pa_cons (pe_cst cO rfl) pa_nil)))) pss_nil)
      (pss_cons (ps_if (pt_not (pt_val (pe_know GH hr rfl (pa_cons (pv 0) (pa_cons (pv 1) pa_nil))))) (pss_one (ps_ret (pe_lst (pa_cons (pe_cst cN rfl) pa_nil)))) pss_nil)
      (pss_cons (ps_set (i := 2) scWorkC.nd rfl (Or.inl rfl) (pe_know GP hr rfl (pa_cons (pv 0) (pa_cons (pe_know GA hr rfl (pa_cons (pv 0) pa_nil)) (pa_cons (pv 1) pa_nil)))))
      (pss_one (ps_ret (pe_lst (pa_cons pe_int (pa_cons (pe_ix ix_tup (pv 2) pe_int (fun _ _ => rfl)) (pa_cons (pe_ix ix_tup (pv 2) pe_int (fun _ _ => rfl)) pa_nil)))))))), ?_⟩
    refine ⟨_, rfl, _, _, rfl, rfl, _, rfl, ite2 (fun hb => ?_) (fun hb => ?_)⟩
    · have hb' : 16 ≤ w := by
        have : (16 : Int) ≤ (w : Int) := by simpa using hb
        omega
      refine ⟨(by show 1 ≤ sizeLine; decide), fun p hp => k.say hw hm (Same.refl H) rfl hp ?_⟩
      show _ = iv ((if Kp202.WORKS ≤ w then Kp202.say (-22) else _ : Kp202.Ans).num :: (if Kp202.WORKS ≤ w then Kp202.say (-22) else _ : Kp202.Ans).nums)
      rw [if_pos (show Kp202.WORKS ≤ w from hb')]
      rfl
    have hw16 : w < 16 := by
      have : ¬ (16 : Int) ≤ (w : Int) := by simpa using hb
      omega
    refine ⟨_, rfl, _, rfl, d, h, w, rfl, hm, fun H1 s1 => ⟨_, rfl, ite2 (fun hb2 => ?_) (fun hb2 => ?_)⟩⟩
    · have hj : (judgesOf h w).isEmpty = true := by
        rw [empty_len]
        have : (judgesOf h w).length = 0 := by simpa using hb2
        rw [this]
        rfl
      refine ⟨(by show 1 ≤ sizeLine; decide), fun p hp => k.say hw hm s1 rfl hp ?_⟩
      show _ = iv ((if Kp202.WORKS ≤ w then Kp202.say (-22) else if (judgesOf h w).isEmpty = true then Kp202.say (-2) else _ : Kp202.Ans).num :: (if Kp202.WORKS ≤ w then Kp202.say (-22) else if (judgesOf h w).isEmpty = true then Kp202.say (-2) else _ : Kp202.Ans).nums)
      rw [if_neg (show ¬ Kp202.WORKS ≤ w from Nat.not_le.mpr hw16), if_pos hj]
      rfl
    have hn : 0 < (judgesOf h w).length := by
      rcases Nat.eq_zero_or_pos (judgesOf h w).length with z | z
      · exact absurd (by rw [z]; rfl) hb2
      · exact z
    have hj : ¬ (judgesOf h w).isEmpty = true := by
      rw [empty_len]
      intro z
      have := of_decide_eq_true z
      omega
    have hm1 := hm.same s1
    refine ⟨_, rfl, _, rfl, d, h, rfl, hm1, hw.Small, fun H2 l s2 nl fl => ?_⟩
    refine ⟨_, rfl, d, l, h, w, rfl, hm1.same s2, fl, hw, hn, fun H3 r s3 nr fr => ?_⟩
    have s13 := s1.trans (s2.trans s3)
    refine ⟨_, rfl, r, _, _, _, rfl, rfl, frac0 fr, rfl, _, rfl, r, _, _, _, rfl, rfl, frac0 fr, rfl, (by show 3 ≤ sizeLine; decide), fun p hp => k.say hw hm s13 rfl hp ?_⟩
    show _ = iv ((if Kp202.WORKS ≤ w then Kp202.say (-22) else if (judgesOf h w).isEmpty = true then Kp202.say (-2) else Kp202.sayQ (Kp202.rightMark h w) : Kp202.Ans).num :: (if Kp202.WORKS ≤ w then Kp202.say (-22) else if (judgesOf h w).isEmpty = true then Kp202.say (-2) else Kp202.sayQ (Kp202.rightMark h w) : Kp202.Ans).nums)
    rw [if_neg (show ¬ Kp202.WORKS ≤ w from Nat.not_le.mpr hw16), if_neg hj]
    rfl
def spHandC : Sp := fun vs H Q _ => ∃ (d : Addr) (h : House) (j : Nat), vs = [.ref d, .int (j : Int)] ∧ MarksAt H d h ∧ Wf h ∧ Res d h (.hand j) H Q
theorem scHandC : FnScope ["marks", "judge", "hand"] ["marks", "judge"] (defScope sHandC) := ⟨rfl, rfl, rfl, by decide +kernel, rfl, by decide +kernel, by decide +kernel⟩
theorem ok_handC {f : Addr} {fd : FuncData} (F : Fun K "call_hand" "call_hand" sHandC f fd) (hlen : mg "len" = none) (cJ : Cst mg "JUDGES" 6) (cO : Cst mg "OUT_OF_RANGE" (-22)) (cN : Cst mg "NO_SUCH_MARK" (-2)) (GW : Know P wo K mg base "works_of" ["marks", "judge"] 1 spWorks) (GA : Know P wo K mg base "hands_of_all" ["marks"] 4 spHands) :
    FnOk P wo K mg base CX0 5 f fd ["marks", "judge"] spHandC := by
  refine F.ok scHandC (fun vs H Q E h => ?_) (fun cdv A outer s H vs Q E hr h => ?_)
  · obtain ⟨d, h, j, rfl, _⟩ := h
    rfl
  · obtain ⟨d, h, j, rfl, hm, hw, k⟩ := h
    refine ⟨_, pss_cons (ps_if (pt_cmpR op_ge (pv 1) (pe_cst cJ rfl) (nomark _)) (pss_one (ps_ret (pe_lst (pa_cons (pe_cst cO rfl) pa_nil)))) pss_nil)
      (pss_cons (ps_if (pt_cmpR op_eq (pe_callB call_len_seq (by rfl) hlen PySem.boot_len (pa_cons (pe_know GW hr rfl (pa_cons (pv 0) (pa_cons (pv 1) pa_nil))) pa_nil)) pe_int (nomark _)) (pss_one (ps_ret (pe_lst (pa_cons (pe_cst cN rfl) pa_nil)))) pss_nil)
      (pss_cons (ps_set (i := 2) scHandC.nd rfl (Or.inl rfl) (pe_ix ix_list (pe_know GA hr rfl (pa_cons (pv 0) pa_nil)) (pv 1) (fun _ _ => rfl)))
      (pss_one (ps_ret (pe_lst (pa_cons pe_int (pa_cons (pe_ix ix_tup (pv 2) pe_int (fun _ _ => rfl)) (pa_cons (pe_ix ix_tup (pv 2) pe_int (fun _ _ => rfl)) pa_nil)))))))), ?_⟩
    refine ⟨_, rfl, _, _, rfl, rfl, _, rfl, ite2 (fun hb => ?_) (fun hb => ?_)⟩
    · have hb' : 6 ≤ j := by
        have : (6 : Int) ≤ (j : Int) := by simpa using hb
        omega
      refine ⟨(by show 1 ≤ sizeLine; decide), fun p hp => k.say hw hm (Same.refl H) rfl hp ?_⟩
      show _ = iv ((if Kp202.JUDGES ≤ j then Kp202.say (-22) else _ : Kp202.Ans).num :: (if Kp202.JUDGES ≤ j then Kp202.say (-22) else _ : Kp202.Ans).nums)
      rw [if_pos (show Kp202.JUDGES ≤ j from hb')]
      rfl
    have hj6 : j < 6 := by
      have : ¬ (6 : Int) ≤ (j : Int) := by simpa using hb
      omega
    refine ⟨_, rfl, _, rfl, d, h, j, rfl, hm, fun H1 pW s1 nW eW => ⟨pW, _, rfl, .inl (SqL.of eW), rfl, _, rfl, ite2 (fun hb2 => ?_) (fun hb2 => ?_)⟩⟩
    · have hz : (worksOf h j).isEmpty = true := by
        rw [empty_len]
        have h1 : V.int ((nv (worksOf h j)).length : Int) = V.int 0 := of_decide_eq_true hb2
        have h2 : ((nv (worksOf h j)).length : Int) = 0 := by injection h1
        rw [nv_length] at h2
        exact decide_eq_true (by omega)
      refine ⟨(by show 1 ≤ sizeLine; decide), fun p hp => k.say hw hm s1 rfl hp ?_⟩
      show _ = iv ((if Kp202.JUDGES ≤ j then Kp202.say (-22) else if (worksOf h j).isEmpty = true then Kp202.say (-2) else _ : Kp202.Ans).num :: (if Kp202.JUDGES ≤ j then Kp202.say (-22) else if (worksOf h j).isEmpty = true then Kp202.say (-2) else _ : Kp202.Ans).nums)
      rw [if_neg (show ¬ Kp202.JUDGES ≤ j from Nat.not_le.mpr hj6), if_pos hz]
      rfl
    have hz : ¬ (worksOf h j).isEmpty = true := by
      intro z
      rw [empty_len] at z
      have z2 : (worksOf h j).length = 0 := of_decide_eq_true z
      refine hb2 (decide_eq_true ?_)
      rw [nv_length, z2]
      rfl
    have hm1 := hm.same s1
    refine ⟨_, rfl, d, h, rfl, hm1, hw.Small, fun H2 l s2 nl fl => ?_⟩
    obtain ⟨a, xs, ex, exj, fa⟩ := fl.at (MQ.allHands_get h hj6)
    refine ⟨_, rfl, l, _, _, _, rfl, rfl, SqL.of ex, atI_nat exj, ?_⟩
    have s12 := s1.trans s2
    refine ⟨_, rfl, a, _, _, _, rfl, rfl, frac0 fa, rfl, _, rfl, a, _, _, _, rfl, rfl, frac0 fa, rfl, (by show 3 ≤ sizeLine; decide), fun p hp => k.say hw hm s12 rfl hp ?_⟩
    show _ = iv ((if Kp202.JUDGES ≤ j then Kp202.say (-22) else if (worksOf h j).isEmpty = true then Kp202.say (-2) else Kp202.sayQ (handOf h j) : Kp202.Ans).num :: (if Kp202.JUDGES ≤ j then Kp202.say (-22) else if (worksOf h j).isEmpty = true then Kp202.say (-2) else Kp202.sayQ (handOf h j) : Kp202.Ans).nums)
    rw [if_neg (show ¬ Kp202.JUDGES ≤ j from Nat.not_le.mpr hj6), if_neg hz]
    rfl
def spSameC : Sp := fun vs H Q _ => ∃ (d : Addr) (h : House) (v w : Nat), vs = [.ref d, .int (v : Int), .int (w : Int)] ∧ MarksAt H d h ∧ Wf h ∧ Res d h (.same v w) H Q
theorem scSameC : FnScope ["marks", "work", "other"] ["marks", "work", "other"] (defScope sSameC) := ⟨rfl, rfl, rfl, by decide +kernel, rfl, by decide +kernel, by decide +kernel⟩
theorem ok_sameC {f : Addr} {fd : FuncData} (F : Fun K "call_same" "call_same" sSameC f fd) (cW : Cst mg "WORKS" 16) (cO : Cst mg "OUT_OF_RANGE" (-22)) (cN : Cst mg "NO_SUCH_MARK" (-2)) (GH : Know P wo K mg base "has_mark" ["marks", "work"] 2 spHas) (GC : Know P wo K mg base "compared_with" ["marks", "work"] 3 spCmp) :
    FnOk P wo K mg base CX0 4 f fd ["marks", "work", "other"] spSameC := by
  refine F.ok scSameC (fun vs H Q E h => ?_) (fun cdv A outer s H vs Q E hr h => ?_)
  · obtain ⟨d, h, v, w, rfl, _⟩ := h
    rfl
  · obtain ⟨d, h, v, w, rfl, hm, hw, k⟩ := h
    refine ⟨_, pss_cons (ps_if (PW.pt (pw_or (pt_cmpR op_ge (pv 1) (pe_cst cW rfl) (nomark _)) (pw_or1 (pt_cmpR op_ge (pv 2) (pe_cst cW rfl) (nomark _))))) (pss_one (ps_ret (pe_lst (pa_cons (pe_cst cO rfl) pa_nil)))) pss_nil)
      (pss_cons (ps_if (PW.pt (pw_or (pt_not (pt_val (pe_know GH hr rfl (pa_cons (pv 0) (pa_cons (pv 1) pa_nil))))) (pw_or1 (pt_not (pt_val (pe_know GH hr rfl (pa_cons (pv 0) (pa_cons (pv 2) pa_nil)))))))) (pss_one (ps_ret (pe_lst (pa_cons (pe_cst cN rfl) pa_nil)))) pss_nil)
      (pss_one (ps_ret (pe_lst (pa_cons (pe_ifExp (pt_cmpR (r := rIn K false) op_in_seq (pv 2) (pe_know GC hr rfl (pa_cons (pv 0) (pa_cons (pv 1) pa_nil))) (by rfl)) pe_int pe_int) pa_nil))))), ?_⟩
    have hbad : (16 ≤ v ∨ 16 ≤ w) → Kp202.step (some h) (.same v w) = (some h, Kp202.say (-22)) := by
      intro c
      show (some h, if Kp202.WORKS ≤ v ∨ Kp202.WORKS ≤ w then _ else _) = _
      rw [if_pos (show Kp202.WORKS ≤ v ∨ Kp202.WORKS ≤ w from c)]
    have refuse : (16 ≤ v ∨ 16 ≤ w) → ∀ p, H p = none → Q (.ref p) (upd H p (.lst [V.int (-22)])) := by
      intro c p hp
      refine k.say hw hm (Same.refl H) ?_ hp ?_ <;> rw [hbad c] <;> rfl
    refine ⟨_, rfl, _, _, rfl, rfl, _, rfl, ite2 (fun hb => ?_) (fun hb => ?_)⟩
    · refine ⟨(by show 1 ≤ sizeLine; decide), refuse (.inl ?_)⟩
      have : (16 : Int) ≤ (v : Int) := by simpa using hb
      omega
    have hv16 : v < 16 := by
      have : ¬ (16 : Int) ≤ (v : Int) := by simpa using hb
      omega
    refine ⟨_, rfl, _, _, rfl, rfl, _, rfl, ite2 (fun hb2 => ?_) (fun hb2 => ?_)⟩
    · refine ⟨(by show 1 ≤ sizeLine; decide), refuse (.inr ?_)⟩
      have : (16 : Int) ≤ (w : Int) := by simpa using hb2
      omega
    have hw16 : w < 16 := by
      have : ¬ (16 : Int) ≤ (w : Int) := by simpa using hb2
      omega
    have hno : ((judgesOf h v).length = 0 ∨ (judgesOf h w).length = 0) → Kp202.step (some h) (.same v w) = (some h, Kp202.say (-2)) := by
      intro c
      show (some h, if Kp202.WORKS ≤ v ∨ Kp202.WORKS ≤ w then _ else if ((judgesOf h v).isEmpty || (judgesOf h w).isEmpty) = true then Kp202.say (-2) else _) = _
      rw [if_neg (show ¬ (Kp202.WORKS ≤ v ∨ Kp202.WORKS ≤ w) from fun z => z.elim (Nat.not_le.mpr hv16) (Nat.not_le.mpr hw16)), if_pos]
      rw [empty_len, empty_len]
      rcases c with c | c
      · rw [c]; rfl
      · rw [c]; exact Bool.or_true _
    have refuse2 : ((judgesOf h v).length = 0 ∨ (judgesOf h w).length = 0) → ∀ H1, Same H H1 → ∀ p, H1 p = none → Q (.ref p) (upd H1 p (.lst [V.int (-2)])) := by
      intro c H1 s1 p hp
      refine k.say hw hm s1 ?_ hp ?_ <;> rw [hno c] <;> rfl
    refine ⟨_, rfl, _, rfl, d, h, v, rfl, hm, fun H1 s1 => ⟨_, rfl, ite2 (fun hb3 => ?_) (fun hb3 => ?_)⟩⟩
    · refine ⟨(by show 1 ≤ sizeLine; decide), refuse2 (.inl ?_) H1 s1⟩
      simpa using hb3
    have hnv : 0 < (judgesOf h v).length := by
      rcases Nat.eq_zero_or_pos (judgesOf h v).length with z | z
      · exact absurd (by rw [z]; rfl) hb3
      · exact z
    refine ⟨_, rfl, _, rfl, d, h, w, rfl, hm.same s1, fun H2 s2 => ⟨_, rfl, ite2 (fun hb4 => ?_) (fun hb4 => ?_)⟩⟩
    · refine ⟨(by show 1 ≤ sizeLine; decide), refuse2 (.inr ?_) H2 (s1.trans s2)⟩
      simpa using hb4
    have hnw : 0 < (judgesOf h w).length := by
      rcases Nat.eq_zero_or_pos (judgesOf h w).length with z | z
      · exact absurd (by rw [z]; rfl) hb4
      · exact z
    have s12 := s1.trans s2
    have hyes : Kp202.step (some h) (.same v w) = (some h, Kp202.say (if Kp202.compared h v w = true then 1 else 0)) := by
      show (some h, if Kp202.WORKS ≤ v ∨ Kp202.WORKS ≤ w then _ else if ((judgesOf h v).isEmpty || (judgesOf h w).isEmpty) = true then _ else Kp202.say (if Kp202.compared h v w = true then 1 else 0)) = _
      rw [if_neg (show ¬ (Kp202.WORKS ≤ v ∨ Kp202.WORKS ≤ w) from fun z => z.elim (Nat.not_le.mpr hv16) (Nat.not_le.mpr hw16)), if_neg]
      rw [empty_len, empty_len]
      intro z
      rw [Bool.or_eq_true] at z
      rcases z with z | z
      · have := of_decide_eq_true z; omega
      · have := of_decide_eq_true z; omega
    refine ⟨_, rfl, _, rfl, _, rfl, d, h, v, rfl, hm.same s12, hv16, hnv, fun H3 r s3 nr er => ⟨r, _, rfl, .inl (SqL.of er), rfl, nv_flat _, _, rfl, ?_⟩⟩
    show if inV (nV w) (nv (cmpd h v)) = true then _ else _
    rw [inV_nv]
    have hmem : w ∈ cmpd h v ↔ Kp202.compared h v w = true := by
      unfold MQ.cmpd
      rw [List.mem_filter]
      exact ⟨fun z => z.2, fun z => ⟨List.mem_range.mpr hw16, z⟩⟩
    have s13 := s12.trans s3
    refine ite2 (fun hb5 => ?_) (fun hb5 => ?_)
    · have hc := hmem.mp (of_decide_eq_true hb5)
      refine ⟨(by show 1 ≤ sizeLine; decide), fun p hp => k.say hw hm s13 (by rw [hyes]) hp ?_⟩
      rw [hyes, if_pos hc]
      rfl
    · have hc : ¬ Kp202.compared h v w = true := fun z => hb5 (decide_eq_true (hmem.mpr z))
      refine ⟨(by show 1 ≤ sizeLine; decide), fun p hp => k.say hw hm s13 (by rw [hyes]) hp ?_⟩
      rw [hyes, if_neg hc]
      rfl
end
end Lm
end
section
set_option Elab.async false
set_option linter.all false
set_option maxRecDepth 100000
set_option maxHeartbeats 1000000
set_option exponentiation.threshold 100000
namespace Lm
open PySem PySem.Spec PyProof.Rows L2
open Kp202 (House markOf has judgesOf worksOf handOf allHands rightBy handIn marked offBy)
open Kp193 (Q frac plus less)
open MQ (Wf part termQ Den lcmL tm mI cmpd IsGroup lfI offW offJ)
abbrev sSq : Stmt := top 31
abbrev sOffC : Stmt := top 24
def OFF (h : House) : Q := offBy h (handIn ((List.range Kp202.WORKS).map (rightBy h (allHands h)))) (handIn (allHands h))
/-- works that have a mark -/
def wMk (h : House) : List Nat := (List.range 16).filter fun w => decide (0 < (judgesOf h w).length)
theorem wMk_nd (h : House) : (wMk h).Nodup := List.Pairwise.filter _ List.nodup_range
theorem wMk_len (h : House) : (wMk h).length ≤ 16 := Nat.le_trans (List.length_filter_le _ _) (by rw [List.length_range]; exact Nat.le_refl _)
theorem mem_wMk {h : House} {w : Nat} : w ∈ wMk h ↔ w < 16 ∧ 0 < (judgesOf h w).length := by
  unfold wMk
  rw [List.mem_filter, List.mem_range, decide_eq_true_iff]
theorem RightsAt.get {H : Hp} {r : Addr} {h : House} {ws : List Nat} (x : RightsAt H r h ws) (hn : ws.Nodup) {w : Nat} (hw : w ∈ ws) : ∃ a, DGet H r (nV w) (some (.ref a)) ∧ FracAt H a (rightBy h (allHands h) w) := by
  obtain ⟨as, e, l, f⟩ := x.ex
  obtain ⟨k, hk⟩ := List.mem_iff_getElem?.mp hw
  have hka : as[k]? = some (as[k]'(by rw [l]; exact (List.getElem?_eq_some_iff.mp hk).1)) := List.getElem?_eq_getElem _
  refine ⟨_, ?_, f k _ w hka hk⟩
  have := DGet.k (k := Sum.inl (w : Int)) e
  rw [rkv_some hn hk hka] at this
  exact this
/-- hands and marks put right in one list -/
def qAll (h : House) (ws : List Nat) : List Q := allHands h ++ ws.map (rightBy h (allHands h))
theorem qAll_den {h : House} {N : Nat} (d : Den h N) {ws : List Nat} (hj : ∀ w ∈ ws, 0 < (judgesOf h w).length) : ∀ q ∈ qAll h ws, 0 < q.bottom ∧ q.bottom ∣ 60 * N := by
  intro q hq
  rcases List.mem_append.mp hq with hq | hq
  · obtain ⟨k, hk⟩ := List.mem_iff_getElem?.mp hq
    have hk6 : k < 6 := by
      have := (List.getElem?_eq_some_iff.mp hk).1
      simpa [allHands, Kp202.JUDGES] using this
    rw [MQ.allHands_get h hk6] at hk
    have e := Option.some.inj hk
    subst e
    exact ⟨(MQ.hand_ok h hk6).1, MQ.hand_dvd d hk6⟩
  · obtain ⟨w, hw, rfl⟩ := List.mem_map.mp hq
    exact ⟨(MQ.right_by (hj w hw)).1.1, MQ.right_dvd d (hj w hw)⟩
theorem den60 {h : House} {N : Nat} (d : Den h N) : 0 < 60 * N ∧ 60 * N ≤ 2 ^ 1000 := by
  refine ⟨Nat.mul_pos (by decide) d.pos, ?_⟩
  have h1 : 60 * N ≤ 2 ^ 6 * 2 ^ 687 := Nat.mul_le_mul (by decide) d.le
  rw [← Nat.pow_add] at h1
  exact Nat.le_trans h1 (Nat.pow_le_pow_right (by decide) (by decide))
theorem tm_abs {q : Q} {B : Nat} (h1 : q.top.natAbs ≤ 2 ^ 10000) (h2 : B ≤ 2 ^ 1000) : (tm q B).natAbs ≤ 2 ^ 11000 := by
  unfold MQ.tm
  rw [Int.natAbs_mul, Int.natAbs_natCast]
  exact MQ.mul_pow h1 (Nat.le_trans (Nat.div_le_self _ _) h2)
theorem lfI_abs {h : House} {N B j w : Nat} (hs : MQ.Small h) (d : Den h N) (hj : j < 6) (h2 : B ≤ 2 ^ 1000) : (lfI h B j w).natAbs ≤ 2 ^ 12000 := by
  unfold MQ.lfI
  have a1 := tm_abs (MQ.right_top (w := w) hs d) h2
  have a2 := tm_abs (q := handOf h j) (Nat.le_trans (MQ.hand_top hs hj) (Nat.pow_le_pow_right (by decide) (by decide))) h2
  have a3 : ((B : Int) * mI h j w).natAbs ≤ 2 ^ 11000 := by
    rw [Int.natAbs_mul, Int.natAbs_natCast]
    have : (mI h j w).natAbs ≤ 2 ^ 10000 := by
      unfold MQ.mI
      rw [Int.natAbs_natCast]
      cases e : markOf h j w with
      | none => exact Nat.zero_le _
      | some m =>
        have := hs j w m e
        refine Nat.le_trans this (Nat.le_trans (by decide : 1000 ≤ 2 ^ 10) (Nat.pow_le_pow_right (by decide) (by decide)))
    have := MQ.mul_pow h2 this
    exact Nat.le_trans this (Nat.pow_le_pow_right (by decide) (by decide))
  have a4 : (2 : Nat) ^ 11000 * 2 ^ 2 ≤ 2 ^ 12000 := by
    rw [← Nat.pow_add]
    exact Nat.pow_le_pow_right (by decide) (by decide)
  generalize (2 : Nat) ^ 11000 = z at a1 a2 a3 a4
  generalize (2 : Nat) ^ 12000 = y at a4 ⊢
  omega
theorem has_lt {h : House} (hw : Wf h) {j w : Nat} (e : has h j w = true) : j < 6 ∧ w < 16 := by
  unfold has at e
  cases q : markOf h j w with
  | none => rw [q] at e; cases e
  | some m =>
    obtain ⟨x, hx, rfl, rfl, _⟩ := MQ.markOf_mem q
    exact ⟨(hw.small x hx).1, (hw.small x hx).2.1⟩
section
variable {P : Program} {wo : World} {K : PySem.W.Frag} {mg : Str → Option Value} {base : Heap}
def spSq : Sp := fun vs H Q _ => ∃ (d : Addr) (h : House), vs = [.ref d] ∧ MarksAt H d h ∧ Wf h ∧ ∀ H' r, Same H H' → H r = none → FracAt H' r (OFF h) → Q (.ref r) H'
theorem scSq : FnScope ["marks", "hands", "rights", "work", "below", "total", "judge", "left"] ["marks"] (defScope sSq) := ⟨rfl, rfl, rfl, by decide +kernel, rfl, by decide +kernel, by decide +kernel⟩
theorem ok_sq {f : Addr} {fd : FuncData} (F : Fun K "sum_of_squares" "sum_of_squares" sSq f fd) (hrg : mg "range" = none) (hlst : mg "list" = none) (cJ : Cst mg "JUDGES" 6) (cW : Cst mg "WORKS" 16) (GA : Know P wo K mg base "hands_of_all" ["marks"] 4 spHands) (GR : Know P wo K mg base "rights_of" ["marks", "hands", "works"] 5 spRights) (GH : Know P wo K mg base "has_mark" ["marks", "work"] 2 spHas)
    (GC : Know P wo K mg base "common_below" ["fractions"] 2 spCommon) (GW : Know P wo K mg base "works_of" ["marks", "judge"] 1 spWorks) (GT : Know P wo K mg base "times" ["fraction", "below"] 1 spTimes) (GF : Know P wo K mg base "lowest" ["above", "below"] 2 spLowest) :
    FnOk P wo K mg base CX0 6 f fd ["marks"] spSq := by
  refine F.ok scSq (fun vs H Q E h => ?_) (fun cdv A outer s H vs Q E hr h => ?_)
  · obtain ⟨d, h, rfl, _⟩ := h
    rfl
  · obtain ⟨d, h, rfl, hm, hw, k⟩ := h
    have hu := hu_of' hr
    have hs := hw.Small
    obtain ⟨N, dn⟩ := MQ.den_ex hs
    obtain ⟨hM, hM2⟩ := den60 dn
    refine ⟨_, pss_cons (ps_set (i := 1) scSq.nd rfl (Or.inl rfl) (pe_know GA hr rfl (pa_cons (pv 0) pa_nil)))
      (pss_cons (ps_set (i := 2) scSq.nd rfl (Or.inl rfl) (pe_know GR hr rfl (pa_cons (pv 0) (pa_cons (pv 1) (pa_cons (pe_lc (own := [("work", 3)]) rfl scSq.nd (pi_range1 rfl hrg (pa_cons (pe_cst cW rfl) pa_nil)) (blkOk_by (by rfl))
          (fun _ _ _ _ _ => pg_name (i := 3) scSq.nd rfl (Or.inl rfl)) (fun _ _ _ _ _ => pts_one (pt_val (pe_know GH hr rfl (pa_cons (pv 0) (pa_cons (pv 3) pa_nil))))) (fun _ _ _ _ _ => pv 3)) pa_nil)))))
      (pss_cons (ps_set (i := 4) scSq.nd rfl (Or.inl rfl) (pe_know GC hr rfl (pa_cons (pe_op op_cat (pv 1) (pe_callTy (call_listV rfl) (by rfl) hlst (by decide +kernel) (pa_cons (pe_bm0 PySem.F.plainAttrs_dict PySem.F.slot_dict_values PySem.F.type_dict_values mt_values (pv 2)) pa_nil))) pa_nil)))
      (pss_cons (ps_set (i := 5) scSq.nd rfl (Or.inl rfl) pe_int)
      (pss_cons (ps_for PassesOwn.never rfl (pi_range1 rfl hrg (pa_cons (pe_cst cJ rfl) pa_nil)) (pg_name (i := 6) scSq.nd rfl (Or.inl rfl))
        (pss_one (ps_for PassesOwn.never rfl (pi_list (pe_know GW hr rfl (pa_cons (pv 0) (pa_cons (pv 6) pa_nil)))) (pg_name (i := 3) scSq.nd rfl (Or.inl rfl))
          (pss_cons (ps_set (i := 7) scSq.nd rfl (Or.inl rfl) (pe_op op_sub (pe_op op_sub (pe_op op_mulB (pv 4) (pe_dget hu (pv 0) (pe_tup (pa_cons (pv 6) (pa_cons (pv 3) pa_nil))) (fun _ _ => rfl))) (pe_know GT hr rfl (pa_cons (pe_dget hu (pv 2) (pv 3) (fun _ _ => rfl)) (pa_cons (pv 4) pa_nil)))) (pe_know GT hr rfl (pa_cons (pe_ix ix_list (pv 1) (pv 6) (fun _ _ => rfl)) (pa_cons (pv 4) pa_nil)))))
          (pss_one (ps_aug (i := 5) scSq.nd rfl (Or.inl rfl) (pe_op op_mulB (pv 7) (pv 7)) ip_add))))))
      (pss_one (ps_ret (pe_know GF hr rfl (pa_cons (pv 5) (pa_cons (pe_op op_mulB (pv 4) (pv 4)) pa_nil))))))))), ?_⟩
    refine ⟨_, rfl, d, h, rfl, hm, hs, fun H1 l s1 nl fl => ?_⟩
    refine ⟨_, rfl, _, rfl, 16, rfl, by decide, by decide, fun D hD => lc_range (fun i H' => Same H1 H' ∧ H' D = some (.lst (nv ((List.range i).filter fun w => decide (0 < (judgesOf h w).length))))) ⟨(Same.refl H1).new hD, upd_same⟩ ?_ ?_⟩
    · rintro i H2 hi ⟨s2, e2⟩
      refine ⟨rfl, ?_⟩
      rw [Int.zero_add]
      refine ⟨_, rfl, _, rfl, d, h, i, rfl, hm.same (s1.trans s2), fun H3 s3 => ⟨_, rfl, ite2 (fun hb => ?_) (fun hb => ?_)⟩⟩
      · refine ⟨_, rfl, _, s3 _ _ e2, ?_, (s2.trans s3).setG hD, ?_⟩
        · rw [nv_length]
          exact Nat.lt_of_le_of_lt (List.length_filter_le _ _) (by rw [List.length_range, sizeLine_eq]; have : i < 16 := hi; omega)
        · rw [upd_same, range_filter_succ, if_pos hb, nv_append]
          rfl
      · refine ⟨s2.trans s3, ?_⟩
        rw [range_filter_succ, if_neg hb, List.append_nil]
        exact s3 _ _ e2
    · rintro H2 ⟨s2, e2⟩
      have hjm : ∀ w ∈ wMk h, 0 < (judgesOf h w).length := fun w hw => (mem_wMk.mp hw).2
      refine ⟨d, l, D, h, wMk h, rfl, hm.same (s1.trans s2), fl.same s2, hw, e2, wMk_nd h, wMk_len h, hjm, fun H3 R s3 nR rt => ?_⟩
      have s23 := s2.trans s3
      obtain ⟨as, el, hla, hat⟩ := (fl.same s23).ex
      obtain ⟨bs, eR, hlb, hbt⟩ := rt.ex
      refine ⟨_, rfl, _, rfl, .inr (.inr (.inl ⟨rfl, .inl ⟨_, eR⟩⟩)), R, _, rfl, rfl, eR, fun pV nV' => ?_⟩
      have s4 : Same H3 (upd H3 pV (ViewX pV R)) := (Same.refl H3).new nV'
      refine ⟨pV, R, _, rfl, upd_same, s4 _ _ eR, fun pL nL => ?_⟩
      generalize upd H3 pV (ViewX pV R) = H4 at s4 nL ⊢
      rw [rkv_vals hlb]
      have s5 : Same H4 (upd H4 pL (.lst (bs.map V.ref))) := (Same.refl H4).new nL
      have e5 : (upd H4 pL (.lst (bs.map V.ref))) pL = some (.lst (bs.map V.ref)) := upd_same
      generalize upd H4 pL (.lst (bs.map V.ref)) = H5 at s5 e5 ⊢
      have s35 := s4.trans s5
      have hla6 : as.length = 6 := by rw [hla]; simp [allHands, Kp202.JUDGES]
      have hlb16 : bs.length ≤ 16 := by rw [hlb]; exact wMk_len h
      refine ⟨l, pL, _, _, rfl, rfl, s35 _ _ el, e5, by rw [List.length_map, List.length_map, sizeLine_eq]; omega, fun pA nA => ?_⟩
      have s6 : Same H5 (upd H5 pA (.lst (as.map V.ref ++ bs.map V.ref))) := (Same.refl H5).new nA
      have e6 : (upd H5 pA (.lst (as.map V.ref ++ bs.map V.ref))) pA = some (.lst ((as ++ bs).map V.ref)) := by rw [upd_same, List.map_append]
      generalize upd H5 pA (.lst (as.map V.ref ++ bs.map V.ref)) = H6 at s6 e6 ⊢
      have s36 := s35.trans s6
      have fAll : FracsAt H6 pA (qAll h (wMk h)) := by
        refine ⟨as ++ bs, e6, by unfold qAll; rw [List.length_append, List.length_append, hla, hlb, List.length_map], fun kx a q h1 h2 => ?_⟩
        unfold qAll at h2
        by_cases hk : kx < as.length
        · rw [List.getElem?_append_left hk] at h1
          rw [List.getElem?_append_left (by omega)] at h2
          exact s36 _ _ (hat kx a q h1 h2)
        · rw [List.getElem?_append_right (by omega)] at h1
          rw [List.getElem?_append_right (by omega), List.getElem?_map, ← hla] at h2
          obtain ⟨w', hw', rfl⟩ := Option.map_eq_some_iff.mp h2
          exact s36 _ _ (hbt _ a w' h1 hw')
      have hden := qAll_den dn hjm
      refine ⟨pA, _, _, rfl, fAll, hM, hM2, hden, ?_⟩
      have hbots : ∀ b ∈ bots (qAll h (wMk h)), b ∣ 60 * N := fun b hb => by
        obtain ⟨q, hq, rfl⟩ := List.mem_map.mp hb
        exact (hden q hq).2
      obtain ⟨hB, hB2⟩ := MQ.lcmL_pos hM hbots
      have hBdvd := MQ.dvd_lcmL (bots (qAll h (wMk h)))
      have hR : ∀ w ∈ wMk h, (rightBy h (allHands h) w).bottom ∣ lcmL (bots (qAll h (wMk h))) := fun w' hw' => hBdvd _ (List.mem_map.mpr ⟨_, List.mem_append_right _ (List.mem_map.mpr ⟨w', hw', rfl⟩), rfl⟩)
      have hH : ∀ j, j < 6 → (handOf h j).bottom ∣ lcmL (bots (qAll h (wMk h))) := fun j hj => hBdvd _ (List.mem_map.mpr ⟨_, List.mem_append_left _ (List.mem_of_getElem? (MQ.allHands_get h hj)), rfl⟩)
      generalize lcmL (bots (qAll h (wMk h))) = B at hB hB2 hR hH ⊢
      have hB1000 : B ≤ 2 ^ 1000 := Nat.le_trans hB2 hM2
      have s16 := s1.trans (s23.trans s36)
      have rt6 := rt.same s36
      have fl6 := fl.same (s23.trans s36)
      refine ⟨6, rfl, by decide, by decide, for_range (n := 6) (fun n σ H' => ∃ (v3 v6 v7 : Option V), σ = [some (.ref d), some (.ref l), some (.ref R), v3, some (.int (B : Int)), some (.int ((List.range n).foldl (offJ h B) 0)), v6, v7] ∧ Same H6 H') ⟨_, none, none, rfl, Same.refl H6⟩ ?_ ?_⟩
      · rintro j σ H7 hj ⟨v3, v6, v7, rfl, s7⟩
        have hj6 : j < 6 := hj
        have e0 : (0 : Int) + (j : Int) = (j : Int) := Int.zero_add _
        rw [e0]
        have sH7 := s16.trans s7
        refine ⟨_, rfl, _, rfl, d, h, j, rfl, hm.same sH7, fun H8 pW s8 nW eW => ?_⟩
        have s68 := s7.trans s8
        rw [List.range_succ, List.foldl_append, List.foldl_cons, List.foldl_nil]
        generalize (List.range j).foldl (offJ h B) 0 = tj
        refine ⟨pW, rfl, ⟨_, SqL.of eW⟩, for_list (K := K) (a := pW) (xs := nv (worksOf h j)) (fun n σ H' => ∃ (v3 v7 : Option V), σ = [some (.ref d), some (.ref l), some (.ref R), v3, some (.int (B : Int)), some (.int (((worksOf h j).take n).foldl (offW h B j) tj)), some (.int (j : Int)), v7] ∧ Same H6 H' ∧ H' pW = some (.lst (nv (worksOf h j))))
          ⟨v3, v7, rfl, s68, eW⟩ (fun n σ H' _ ⟨_, _, _, _, e⟩ => SqL.of e) ?_ ?_⟩
        · rintro n y σ H9 hn ⟨v3, v7, rfl, s9, eW9⟩
          obtain ⟨wk, hwk, rfl⟩ := nv_get hn
          have hwm := MQ.mem_works.mp (List.mem_of_getElem? hwk)
          have hwMk : wk ∈ wMk h := mem_wMk.mpr ⟨hwm.1, MQ.judges_pos hj6 hwm.2⟩
          have sH9 := s16.trans s9
          refine ⟨_, rfl, _, rfl, _, rfl, _, rfl, (by show 2 ≤ sizeLine; decide), fun p1 hp1 => ?_⟩
          have s10 : Same H9 (upd H9 p1 (.tup [.int (j : Int), nV wk])) := (Same.refl H9).new hp1
          have g10 : DGet (upd H9 p1 (.tup [.int (j : Int), nV wk])) d (.ref p1) (some (V.int (mI h j wk))) := by
            rw [← mark_some hwm.2]
            exact ((hm.same sH9).same s10).get upd_same
          generalize upd H9 p1 (.tup [.int (j : Int), nV wk]) = H10 at s10 g10 ⊢
          have s610 := s9.trans s10
          obtain ⟨ra, rg, rf⟩ := (rt6.same s610).get (wMk_nd h) hwMk
          obtain ⟨ha, xs, hex, hexj, hf⟩ := (fl6.same s610).at (MQ.allHands_get h hj6)
          have hmb : (mI h j wk).natAbs ≤ 2 ^ 10 := by
            unfold MQ.mI
            rw [Int.natAbs_natCast]
            cases e : markOf h j wk with
            | none => exact Nat.zero_le _
            | some m =>
              have := hs j wk m e
              exact Nat.le_trans this (by decide)
          have rb : (rightBy h (allHands h) wk).bottom ≤ 2 ^ 1000 := Nat.le_trans (Nat.le_of_dvd hM (MQ.right_dvd dn (MQ.judges_pos hj6 hwm.2))) hM2
          have hb : (handOf h j).bottom ≤ 2 ^ 1000 := Nat.le_trans (dn.bot hj6) (Nat.pow_le_pow_right (by decide) (by decide))
          have ht : (handOf h j).top.natAbs ≤ 2 ^ 10000 := Nat.le_trans (MQ.hand_top hs hj6) (Nat.pow_le_pow_right (by decide) (by decide))
          refine ⟨d, _, rfl, g10, _, _, rfl, rfl, mul_ok (bits_of_abs (a := 1000) (by rw [Int.natAbs_natCast]; exact hB1000) (by decide)) (bits_of_abs hmb (by decide)),
            _, rfl, _, rfl, R, _, rfl, rg, _, rfl, ra, _, B, rfl, rf, (MQ.right_by (MQ.judges_pos hj6 hwm.2)).1.1, rb, MQ.right_top hs dn, hB1000, _, _, rfl, rfl,
            _, rfl, _, rfl, l, _, _, _, rfl, rfl, SqL.of hex, atI_nat hexj, _, rfl, ha, _, B, rfl, hf, (MQ.hand_ok h hj6).1, hb, ht, hB1000, _, _, rfl, rfl, ?_⟩
          have hlf := lfI_abs (w := wk) hs dn hj6 hB1000
          refine ⟨_, rfl, _, rfl, _, rfl, _, _, rfl, rfl, mul_ok (bits_of_abs hlf (by decide)) (bits_of_abs hlf (by decide)), _, _, rfl, rfl, ?_⟩
          refine ⟨some (nV wk), some (.int (lfI h B j wk)), ?_, s610, s10 _ _ eW9⟩
          rw [take_snoc hwk, List.foldl_append]
          rfl
        · rintro σ H9 ⟨v3, v7, rfl, s9, eW9⟩
          rw [nv_length, List.take_length]
          exact ⟨v3, some (.int (j : Int)), v7, rfl, s9⟩
      · rintro σ H7 ⟨v3, v6, v7, rfl, s7⟩
        have sH7 := s16.trans s7
        refine ⟨_, rfl, _, rfl, _, rfl, _, _, rfl, rfl, mul_ok (bits_of_abs (a := 1000) (by rw [Int.natAbs_natCast]; exact hB1000) (by decide)) (bits_of_abs (a := 1000) (by rw [Int.natAbs_natCast]; exact hB1000) (by decide)), ?_⟩
        refine ⟨(List.range 6).foldl (offJ h B) 0, B * B, ?_, Nat.mul_pos hB hB, log2_lt (MQ.mul_pow hB1000 hB1000) (by decide), fun p hp => ?_⟩
        · rw [Int.natCast_mul]
          rfl
        · rw [MQ.off_eq hw hB (fun j w' hj e => hR w' (mem_wMk.mpr ⟨(has_lt hw e).2, MQ.judges_pos hj e⟩)) hH]
          exact k _ p (sH7.new hp) (sH7.free hp) upd_same
def spOffC : Sp := fun vs H Q _ => ∃ (d : Addr) (h : House), vs = [.ref d] ∧ MarksAt H d h ∧ Wf h ∧ Res d h .off H Q
theorem scOffC : FnScope ["marks", "rest"] ["marks"] (defScope sOffC) := ⟨rfl, rfl, rfl, by decide +kernel, rfl, by decide +kernel, by decide +kernel⟩
theorem ok_offC {f : Addr} {fd : FuncData} (F : Fun K "call_off" "call_off" sOffC f fd) (GS : Know P wo K mg base "sum_of_squares" ["marks"] 6 spSq) : FnOk P wo K mg base CX0 7 f fd ["marks"] spOffC := by
  refine F.ok scOffC (fun vs H Q E h => ?_) (fun cdv A outer s H vs Q E hr h => ?_)
  · obtain ⟨d, h, rfl, _⟩ := h
    rfl
  · obtain ⟨d, h, rfl, hm, hw, k⟩ := h
    refine ⟨_, pss_cons (ps_set (i := 1) scOffC.nd rfl (Or.inl rfl) (pe_know GS hr rfl (pa_cons (pv 0) pa_nil)))
      (pss_one (ps_ret (pe_lst (pa_cons pe_int (pa_cons (pe_ix ix_tup (pv 1) pe_int (fun _ _ => rfl)) (pa_cons (pe_ix ix_tup (pv 1) pe_int (fun _ _ => rfl)) pa_nil)))))), ?_⟩
    refine ⟨_, rfl, d, h, rfl, hm, hw, fun H1 r s1 nr fr => ?_⟩
    exact ⟨_, rfl, r, _, _, _, rfl, rfl, frac0 fr, rfl, _, rfl, r, _, _, _, rfl, rfl, frac0 fr, rfl, (by show 3 ≤ sizeLine; decide), fun p hp => k.say hw hm s1 rfl hp rfl⟩
end
end Lm
end
section
set_option Elab.async false
set_option linter.all false
set_option maxRecDepth 100000
set_option maxHeartbeats 1000000
set_option exponentiation.threshold 100000
namespace Lm
open PySem PySem.Spec PyProof.Rows L2
open Kp202 (House markOf has judgesOf worksOf handOf allHands rightBy handIn marked offBy order)
open Kp193 (Q frac plus less)
open MQ (Wf part termQ Den lcmL tm mI cmpd IsGroup)
abbrev sGreat : Stmt := top 30
abbrev sOrderC : Stmt := top 23
def lamPos : Pos := match defBody sGreat with
  | [_, _, .Return (some (.Call _ _ [⟨_, .Lambda _ _ _ p, _⟩] _)) _] => p
  | _ => ⟨0, 0, 0, 0⟩
def lqG : Str := (("greatest_first" : Str) ++ ".<locals>.") ++ "<lambda>"
abbrev TB (H : Hp) (T : Addr) : Prop := Tb H T lqG lamPos
/-- a def whose code object stands at c -/
structure FunC (K : PySem.W.Frag) (x qual : Str) (st : Stmt) (f : Addr) (fd : FuncData) (c : Addr) : Prop where
  ex : ∃ (oc : Value) (od : Option Addr) (kV doc pm : Value) (an : Option Addr) (ct : Value) (osl : Array (Option Value)),
    fd = PySem.W.fnOf x qual (defArgs st) (defBody st) (defScope st) .none kV doc pm an (.ref c) ct ∧ K.lookup f = some ⟨oc, od, .func fd, osl⟩ ∧ PySem.W.codeIn K (.ref c) qual = true
  kp : PySem.W.keepIn K (.ref f) = true
section
variable {P : Program} {wo : World} {K : PySem.W.Frag} {mg : Str → Option Value} {base : Heap}
theorem FunC.ok {x qual : Str} {st : Stmt} {f c : Addr} {fd : FuncData} {N ps : List Str} {k : Nat} {sp : Sp} (F : FunC K x qual st f fd c) (S : FnScope N ps (defScope st)) (len : ∀ vs H Q E, sp vs H Q E → vs.length = ps.length)
    (hbody : ∀ (A : Around) (outer : List Env) (s : Shared) (H : Hp) (vs : List V) (Q : VK) (E : XK), Room k (A.deeper (envOfC qual (defScope st) s.heap.objs.size f (.ref c))) → sp vs H Q E →
      ∃ t, PSs (cxOf CX0 P wo K mg base N qual (defScope st) f (.ref c) A outer s H E).nox (defBody st) t ∧ t { nx := fun _ H' => Q .non H', rt := Q } (start N vs) H) : FnOk P wo K mg base CX0 (k + 1) f fd ps sp := by
  obtain ⟨oc, od, kV, doc, pm, an, ct, osl, rfl, lk, hcd⟩ := F.ex
  refine fn_of lk hcd S len fun A outer s H vs Q E hr hsp => ?_
  obtain ⟨t, h, q⟩ := hbody A outer s H vs Q E hr hsp
  exact ⟨t, h.nox, q⟩
theorem RightsAt.sameP {H H' : Hp} {r T : Addr} {h : House} {ws : List Nat} {ps : Array Value} (x : RightsAt H r h ws) (s : SameP T H H') (hT : H T = some (.tbl ps)) : RightsAt H' r h ws := by
  obtain ⟨as, e, l, f⟩ := x.ex
  exact ⟨as, s _ _ e (ne_of e hT (fun z => nomatch z)), l, fun k a w h1 h2 => s _ _ (f k a w h1 h2) (ne_of (f k a w h1 h2) hT (fun z => nomatch z))⟩
def spGreat (T : Addr) : Sp := fun vs H Q _ => ∃ (d wl : Addr) (h : House) (w : Nat), vs = [.ref d, .ref wl] ∧ MarksAt H d h ∧ Wf h ∧ w < 16 ∧ H wl = some (.lst (nv (cmpd h w))) ∧ TB H T ∧ ∀ H' p, SameP T H H' → TB H' T → H p = none → H' p = some (.lst (nv (order h w))) → Q (.ref p) H'
theorem scGreat : FnScope ["marks", "works", "rights", "below"] ["marks", "works"] (defScope sGreat) := ⟨rfl, rfl, rfl, by decide +kernel, rfl, by decide +kernel, by decide +kernel⟩
theorem ok_great {f c T : Addr} {fd : FuncData} (F : FunC K "greatest_first" "greatest_first" sGreat f fd c) (B : LamBase mg base c T) (hsor : mg "sorted" = none) (hlst : mg "list" = none) (GA : Know P wo K mg base "hands_of_all" ["marks"] 4 spHands) (GR : Know P wo K mg base "rights_of" ["marks", "hands", "works"] 5 spRights)
    (GC : Know P wo K mg base "common_below" ["fractions"] 2 spCommon) (GT : Know P wo K mg base "times" ["fraction", "below"] 1 spTimes) :
    FnOk P wo K mg base CX0 6 f fd ["marks", "works"] (spGreat T) := by
  refine F.ok scGreat (fun vs H Q E h => ?_) (fun A outer s H vs Q E hr h => ?_)
  · obtain ⟨d, wl, h, w, rfl, _⟩ := h
    rfl
  · obtain ⟨d, wl, h, w, rfl, hm, hw, hw16, ew, hT, k⟩ := h
    have hs := hw.Small
    obtain ⟨N, dn⟩ := MQ.den_ex hs
    obtain ⟨hM, hM2⟩ := den60 dn
    have hr3 : ∀ env' : Env, Room 1 ((A.deeper (envOfC "greatest_first" (defScope sGreat) s.heap.objs.size f (.ref c))).in1.in1.deeper env') := fun env' => (((hr.mono (j := 4) (by decide)).in1).in1).deeper env'
    refine ⟨_, pss_cons (ps_set (i := 2) scGreat.nd rfl (Or.inr rfl) (pe_know GR hr rfl (pa_cons (pv 0) (pa_cons (pe_know GA hr rfl (pa_cons (pv 0) pa_nil)) (pa_cons (pv 1) pa_nil)))))
      (pss_cons (ps_set (i := 3) scGreat.nd rfl (Or.inr rfl) (pe_know GC hr rfl (pa_cons (pe_callTy (call_listV rfl) (by rfl) hlst (by decide +kernel) (pa_cons (pe_bm0 PySem.F.plainAttrs_dict PySem.F.slot_dict_values PySem.F.type_dict_values mt_values (pv 2)) pa_nil)) pa_nil)))
      (pss_one (ps_ret (pe_sortL (i1 := 2) (i2 := 3) (x := "work") (y1 := "rights") (y2 := "below") (c := c) (P := T) rfl (by rfl) hsor (pv 1) B rfl rfl rfl hr.depth rfl rfl rfl (by decide +kernel) (fun _ _ _ => rfl) (by rfl) (by rfl) (by rfl) ?hfree (by rfl) (by rfl) ?hcl2 (by rfl) (by rfl) (by rfl) (by rfl) (by rfl) (by rfl)
        (fun s' H' f' c' => pe_tup (pa_cons (pe_un un_neg (pe_know GT (hr3 _) rfl (pa_cons (pe_dget (hu_of' (hr3 _)) (pv 1) (pv 0) (fun _ _ => rfl)) (pa_cons (pv 2) pa_nil)))) (pa_cons (pv 0) pa_nil))))))), ?_⟩
    case hfree =>
      intro z hz
      have m := PySem.mem_of_lookup hz
      rcases List.mem_cons.mp m with e | m
      · cases e
      rcases List.mem_cons.mp m with e | m
      · cases e; exact .inr rfl
      rcases List.mem_cons.mp m with e | m
      · cases e; exact .inl rfl
      rcases List.mem_cons.mp m with e | m
      · cases e
      · cases m
    case hcl2 =>
      intro z q hz
      have m := PySem.mem_of_lookup hz
      rcases List.mem_cons.mp m with e | m
      · cases e; exact .inl ⟨rfl, rfl⟩
      rcases List.mem_cons.mp m with e | m
      · cases e; exact .inr ⟨rfl, rfl⟩
      · cases m
    have hnd : (cmpd h w).Nodup := (MQ.cmpd_inc h w).imp fun {a b} hab => Nat.ne_of_lt hab
    have hlen : (cmpd h w).length ≤ 16 := Nat.le_trans (List.length_filter_le _ _) (by rw [List.length_range]; exact Nat.le_refl _)
    have hj : ∀ v ∈ cmpd h w, 0 < (judgesOf h v).length := fun v hv => (MQ.cmpd_judges hw16 hv).2
    refine ⟨_, rfl, _, rfl, d, h, rfl, hm, hs, fun H1 l s1 nl fl => ?_⟩
    refine ⟨_, rfl, d, l, wl, h, cmpd h w, rfl, hm.same s1, fl, hw, s1 _ _ ew, hnd, hlen, hj, fun H2 R s2 nR rt => ?_⟩
    obtain ⟨bs, eR, hlb, hbt⟩ := rt.ex
    refine ⟨_, rfl, .inr (.inr (.inl ⟨rfl, .inl ⟨_, eR⟩⟩)), R, _, rfl, rfl, eR, fun pV nV' => ?_⟩
    have s3 : Same H2 (upd H2 pV (ViewX pV R)) := (Same.refl H2).new nV'
    refine ⟨pV, R, _, rfl, upd_same, s3 _ _ eR, fun pL nL => ?_⟩
    generalize upd H2 pV (ViewX pV R) = H3 at s3 nL ⊢
    rw [rkv_vals hlb]
    have s4 : Same H3 (upd H3 pL (.lst (bs.map V.ref))) := (Same.refl H3).new nL
    have e4 : (upd H3 pL (.lst (bs.map V.ref))) pL = some (.lst (bs.map V.ref)) := upd_same
    generalize upd H3 pL (.lst (bs.map V.ref)) = H4 at s4 e4 ⊢
    have s24 := s3.trans s4
    have sH4 := s1.trans (s2.trans s24)
    have fAll : FracsAt H4 pL ((cmpd h w).map (rightBy h (allHands h))) := by
      refine ⟨bs, e4, by rw [List.length_map]; exact hlb, fun kx a q h1 h2 => ?_⟩
      rw [List.getElem?_map] at h2
      obtain ⟨w', hw', rfl⟩ := Option.map_eq_some_iff.mp h2
      exact s24 _ _ (hbt kx a w' h1 hw')
    have hden : ∀ q ∈ (cmpd h w).map (rightBy h (allHands h)), 0 < q.bottom ∧ q.bottom ∣ 60 * N := fun q hq => qAll_den dn hj q (List.mem_append_right _ hq)
    refine ⟨pL, _, _, rfl, fAll, hM, hM2, hden, ?_⟩
    have hbots : ∀ b ∈ bots ((cmpd h w).map (rightBy h (allHands h))), b ∣ 60 * N := fun b hb => by
      obtain ⟨q, hq, rfl⟩ := List.mem_map.mp hb
      exact (hden q hq).2
    obtain ⟨hB, hB2⟩ := MQ.lcmL_pos hM hbots
    have hR : ∀ v ∈ cmpd h w, (rightBy h (allHands h) v).bottom ∣ lcmL (bots ((cmpd h w).map (rightBy h (allHands h)))) := fun v hv => MQ.dvd_lcmL _ _ (List.mem_map.mpr ⟨_, List.mem_map.mpr ⟨v, hv, rfl⟩, rfl⟩)
    generalize lcmL (bots ((cmpd h w).map (rightBy h (allHands h)))) = B0 at hB hB2 hR ⊢
    have hB1000 : B0 ≤ 2 ^ 1000 := Nat.le_trans hB2 hM2
    have hT4 : TB H4 T := hT.same sH4
    obtain ⟨ps, hPs⟩ := hT4.at
    have rt4 := rt.same s24
    refine ⟨_, rfl, wl, (cmpd h w).map fun (m : Nat) => (m : Int), fun n => -tm (rightBy h (allHands h) n.toNat) B0, .ref R, .int (B0 : Int), rfl, by rw [← nv_ints]; exact SqL.of (sH4 _ _ ew), by rw [List.length_map]; omega, rfl, rfl, hT4, ?_, ?_⟩
    · intro H' sp hT' n hn Q' hq
      obtain ⟨v, hv, rfl⟩ := List.mem_map.mp hn
      obtain ⟨ra, rg, rf⟩ := (rt4.sameP sp hPs).get hnd hv
      have hjv := hj v hv
      have rb : (rightBy h (allHands h) v).bottom ≤ 2 ^ 1000 := Nat.le_trans (Nat.le_of_dvd hM (MQ.right_dvd dn hjv)) hM2
      refine ⟨_, rfl, _, rfl, R, _, rfl, rg, _, rfl, ra, _, B0, rfl, rf, (MQ.right_by hjv).1.1, rb, MQ.right_top hs dn, hB1000, _, rfl, _, rfl, (by show 2 ≤ sizeLine; decide), fun q nq => hq _ q ((Same.refl H').new nq) nq ?_⟩
      rw [upd_same]
      dsimp only
      rw [Int.toNat_natCast]
    · intro ns' p H' hp pw sp hT' np ep
      have hpos : ∀ n ∈ ns', ∃ m : Nat, n = (m : Int) := fun n hn => by
        obtain ⟨m, _, rfl⟩ := List.mem_map.mp (hp.mem_iff.mp hn)
        exact ⟨m, rfl⟩
      have e : ns' = (ns'.map Int.toNat).map fun (m : Nat) => (m : Int) := by
        rw [List.map_map]
        have : ns'.map id = ns'.map ((fun (m : Nat) => (m : Int)) ∘ Int.toNat) := List.map_congr_left fun n hn => by
          obtain ⟨m, rfl⟩ := hpos n hn
          simp
        rw [← this, List.map_id]
      have e2 : ns'.map Int.toNat = order h w := by
        refine MQ.order_eq hw16 hB hR ?_ ?_
        · have := hp.map Int.toNat
          rw [List.map_map] at this
          have z : (cmpd h w).map (Int.toNat ∘ fun (m : Nat) => (m : Int)) = cmpd h w := by
            have : (Int.toNat ∘ fun (m : Nat) => (m : Int)) = id := by funext m; simp
            rw [this, List.map_id]
          rw [z] at this
          exact this
        · rw [List.pairwise_map]
          refine List.Pairwise.imp_of_mem (fun {a b} ha hb q => ?_) pw
          unfold MQ.kle
          rcases q with q | ⟨q1, q2⟩
          · exact .inl q
          · obtain ⟨m, rfl⟩ := hpos a ha
            obtain ⟨n, rfl⟩ := hpos b hb
            refine .inr ⟨?_, ?_⟩
            · have q1' : -tm (rightBy h (allHands h) (m : Int).toNat) B0 = -tm (rightBy h (allHands h) (n : Int).toNat) B0 := q1
              omega
            · simp only [Int.toNat_natCast]
              omega
      refine k H' p (fun b o eb hb => sp b o (sH4 _ _ eb) hb) hT' (sH4.free np) ?_
      rw [ep, nv_ints, ← e2, ← e]
def SameBT (d T : Addr) (H H' : Hp) : Prop := ∀ b o, H b = some o → b ≠ d → b ≠ T → H' b = some o
def ResT (T d : Addr) (h : House) (c : Kp202.Call) (H : Hp) (Q : VK) : Prop := ∀ H' p h', (Kp202.step (some h) c).1 = some h' → Wf h' → MarksAt H' d h' → SameBT d T H H' → TB H' T → H p = none → H' p = some (.lst (iv ((Kp202.step (some h) c).2.num :: (Kp202.step (some h) c).2.nums))) → Q (.ref p) H'
theorem ResT.res {T d : Addr} {h : House} {c : Kp202.Call} {H : Hp} {Q : VK} (r : ResT T d h c H Q) (hT : TB H T) (hm : MarksAt H d h) : Res d h c H Q := by
  intro H' p h' e1 hw' m' sb hp ep
  obtain ⟨M, ed, _⟩ := hm.ex
  refine r H' p h' e1 hw' m' (fun b o e hb _ => sb b o e hb) ?_ hp ep
  rcases hT with t | ⟨c0, t1, t2⟩
  · exact .inl (sb _ _ t (ne_of t ed (fun z => nomatch z)))
  · exact .inr ⟨c0, sb _ _ t1 (ne_of t1 ed (fun z => nomatch z)), sb _ _ t2 (ne_of t2 ed (fun z => nomatch z))⟩
def spOrderC (T : Addr) : Sp := fun vs H Q _ => ∃ (d : Addr) (h : House) (w : Nat), vs = [.ref d, .int (w : Int)] ∧ MarksAt H d h ∧ Wf h ∧ TB H T ∧ ResT T d h (.order w) H Q
theorem scOrderC : FnScope ["marks", "work", "works"] ["marks", "work"] (defScope sOrderC) := ⟨rfl, rfl, rfl, by decide +kernel, rfl, by decide +kernel, by decide +kernel⟩
theorem ok_orderC {f T : Addr} {fd : FuncData} (F : Fun K "call_order" "call_order" sOrderC f fd) (hlen : mg "len" = none) (cW : Cst mg "WORKS" 16) (cO : Cst mg "OUT_OF_RANGE" (-22)) (cN : Cst mg "NO_SUCH_MARK" (-2)) (GH : Know P wo K mg base "has_mark" ["marks", "work"] 2 spHas) (GC : Know P wo K mg base "compared_with" ["marks", "work"] 3 spCmp) (GG : Know P wo K mg base "greatest_first" ["marks", "works"] 6 (spGreat T)) :
    FnOk P wo K mg base CX0 7 f fd ["marks", "work"] (spOrderC T) := by
  refine F.ok scOrderC (fun vs H Q E h => ?_) (fun cdv A outer s H vs Q E hr h => ?_)
  · obtain ⟨d, h, w, rfl, _⟩ := h
    rfl
  · obtain ⟨d, h, w, rfl, hm, hw, hT, kT⟩ := h
    have k := kT.res hT hm
    refine ⟨_, pss_cons (ps_if (pt_cmpR op_ge (pv 1) (pe_cst cW rfl) (nomark _)) (pss_one (ps_ret (pe_lst (pa_cons (pe_cst cO rfl) pa_nil)))) pss_nil)
      (pss_cons (ps_if (pt_not (pt_val (pe_know GH hr rfl (pa_cons (pv 0) (pa_cons (pv 1) pa_nil))))) (pss_one (ps_ret (pe_lst (pa_cons (pe_cst cN rfl) pa_nil)))) pss_nil)
      (pss_cons (ps_set (i := 2) scOrderC.nd rfl (Or.inl rfl) (pe_know GG hr rfl (pa_cons (pv 0) (pa_cons (pe_know GC hr rfl (pa_cons (pv 0) (pa_cons (pv 1) pa_nil))) pa_nil))))
      (pss_one (ps_ret (pe_op op_cat (pe_lst (pa_cons (pe_callB call_len_seq (by rfl) hlen PySem.boot_len (pa_cons (pv 2) pa_nil)) pa_nil)) (pv 2)))))), ?_⟩
    refine ⟨_, rfl, _, _, rfl, rfl, _, rfl, ite2 (fun hb => ?_) (fun hb => ?_)⟩
    · have hb' : 16 ≤ w := by
        have : (16 : Int) ≤ (w : Int) := by simpa using hb
        omega
      refine ⟨(by show 1 ≤ sizeLine; decide), fun p hp => k.say hw hm (Same.refl H) rfl hp ?_⟩
      show _ = iv ((if Kp202.WORKS ≤ w then Kp202.say (-22) else _ : Kp202.Ans).num :: (if Kp202.WORKS ≤ w then Kp202.say (-22) else _ : Kp202.Ans).nums)
      rw [if_pos (show Kp202.WORKS ≤ w from hb')]
      rfl
    have hw16 : w < 16 := by
      have : ¬ (16 : Int) ≤ (w : Int) := by simpa using hb
      omega
    refine ⟨_, rfl, _, rfl, d, h, w, rfl, hm, fun H1 s1 => ⟨_, rfl, ite2 (fun hb2 => ?_) (fun hb2 => ?_)⟩⟩
    · have hj : (judgesOf h w).isEmpty = true := by
        rw [empty_len]
        have : (judgesOf h w).length = 0 := by simpa using hb2
        rw [this]
        rfl
      refine ⟨(by show 1 ≤ sizeLine; decide), fun p hp => k.say hw hm s1 rfl hp ?_⟩
      show _ = iv ((if Kp202.WORKS ≤ w then Kp202.say (-22) else if (judgesOf h w).isEmpty = true then Kp202.say (-2) else _ : Kp202.Ans).num :: (if Kp202.WORKS ≤ w then Kp202.say (-22) else if (judgesOf h w).isEmpty = true then Kp202.say (-2) else _ : Kp202.Ans).nums)
      rw [if_neg (show ¬ Kp202.WORKS ≤ w from Nat.not_le.mpr hw16), if_pos hj]
      rfl
    have hn : 0 < (judgesOf h w).length := by
      rcases Nat.eq_zero_or_pos (judgesOf h w).length with z | z
      · exact absurd (by rw [z]; rfl) hb2
      · exact z
    have hj : ¬ (judgesOf h w).isEmpty = true := by
      rw [empty_len]
      intro z
      have := of_decide_eq_true z
      omega
    have hm1 := hm.same s1
    refine ⟨_, rfl, _, rfl, _, rfl, d, h, w, rfl, hm1, hw16, hn, fun H2 wl s2 nwl ewl => ?_⟩
    have s12 := s1.trans s2
    refine ⟨d, wl, h, w, rfl, hm.same s12, hw, hw16, ewl, hT.same s12, fun H3 p sp hT3 np ep => ?_⟩
    obtain ⟨M, ed, mr⟩ := (hm.same s12).ex
    obtain ⟨ps, eT⟩ := (hT.same s12).at
    have hm3 : MarksAt H3 d h := ⟨M, sp _ _ ed (ne_of ed eT (fun z => nomatch z)), mr⟩
    have ho16 : (Kp202.order h w).length ≤ 16 := MQ.order_len h w
    refine ⟨_, rfl, p, _, rfl, .inl (SqL.of ep), (by show 1 ≤ sizeLine; decide), fun q nq => ?_⟩
    rw [nv_length]
    have s4 : Same H3 (upd H3 q (.lst [V.int ((Kp202.order h w).length : Int)])) := (Same.refl H3).new nq
    refine ⟨_, rfl, q, p, _, _, rfl, rfl, upd_same, s4 _ _ ep, by rw [nv_length, sizeLine_eq]; simp; omega, fun r nr => ?_⟩
    generalize upd H3 q (.lst [V.int ((Kp202.order h w).length : Int)]) = H4 at s4 nr ⊢
    have s5 : Same H4 (upd H4 r (.lst ([V.int ((Kp202.order h w).length : Int)] ++ nv (Kp202.order h w)))) := (Same.refl H4).new nr
    have s35 := s4.trans s5
    have hstep : Kp202.step (some h) (.order w) = (some h, ⟨((Kp202.order h w).length : Int), (Kp202.order h w).map fun (v : Nat) => (v : Int)⟩) := by
      show (some h, if Kp202.WORKS ≤ w then _ else if (judgesOf h w).isEmpty = true then _ else _) = _
      rw [if_neg (show ¬ Kp202.WORKS ≤ w from Nat.not_le.mpr hw16), if_neg hj]
    have hr0 : H r = none := by
      cases e : H r with
      | none => rfl
      | some o =>
        by_cases hrT : r = T
        · obtain ⟨ps3, eT3⟩ := hT3.at
          rw [hrT, s4 _ _ eT3] at nr
          cases nr
        · rw [s4 _ _ (sp _ _ (s12 _ _ e) hrT)] at nr
          cases nr
    refine kT _ r h (by rw [hstep]) hw (hm3.same s35) (fun b o e _ hbT => s35 _ _ (sp _ _ (s12 _ _ e) hbT)) (hT3.same s35) hr0 ?_
    rw [upd_same, hstep, nv_ints]
    rfl
end
end Lm
end
section
set_option Elab.async false
set_option linter.all false
set_option maxRecDepth 100000
set_option maxHeartbeats 1000000
namespace Lm
open PySem PySem.Spec PyProof.Rows L2
open Kp202 (House markOf has judgesOf worksOf handOf allHands rightBy handIn marked offBy order)
open MQ (Wf)
abbrev sCallA : Stmt := top 16
theorem nat_of {z : Int} (h : Kp202Neutral.natural z 32 = true) : ∃ m : Nat, z = (m : Int) := by
  unfold Kp202Neutral.natural at h
  rw [Bool.and_eq_true] at h
  have := of_decide_eq_true h.1
  exact ⟨z.toNat, by omega⟩
inductive CallIs : Int → List Int → Kp202.Call → Prop
  | begin_ : CallIs 0 [] .begin_
  | mark (j w m : Nat) : CallIs 1 [(j : Int), (w : Int), (m : Int)] (.mark j w m)
  | unmark (j w : Nat) : CallIs 2 [(j : Int), (w : Int)] (.unmark j w)
  | work (w : Nat) : CallIs 3 [(w : Int)] (.work w)
  | hand (j : Nat) : CallIs 4 [(j : Int)] (.hand j)
  | same (v w : Nat) : CallIs 5 [(v : Int), (w : Int)] (.same v w)
  | order (w : Nat) : CallIs 6 [(w : Int)] (.order w)
  | off : CallIs 7 [] .off
theorem call_is {n : Int} {args : List Int} {c : Kp202.Call} (ha : Kp202Neutral.asked1 [n :: args] = true) (hc : Kp202Neutral.callOf [n :: args] = some c) : CallIs n args c := by
  unfold Kp202Neutral.asked1 at ha
  split at ha
  · rename_i e
    injection e with e _
    injection e with e1 e2
    subst e1; subst e2
    have : c = .begin_ := (Option.some.inj hc).symm
    subst this
    exact .begin_
  · rename_i j w m e
    injection e with e _
    injection e with e1 e2
    subst e1; subst e2
    rw [Bool.and_eq_true, Bool.and_eq_true] at ha
    obtain ⟨a, rfl⟩ := nat_of ha.1
    obtain ⟨b, rfl⟩ := nat_of ha.2.1
    obtain ⟨d, rfl⟩ := nat_of ha.2.2
    have e3 : c = .mark a b d := by
      have := (Option.some.inj hc).symm
      simpa using this
    subst e3
    exact .mark a b d
  · rename_i j w e
    injection e with e _
    injection e with e1 e2
    subst e1; subst e2
    rw [Bool.and_eq_true] at ha
    obtain ⟨a, rfl⟩ := nat_of ha.1
    obtain ⟨b, rfl⟩ := nat_of ha.2
    have e3 : c = .unmark a b := by
      have := (Option.some.inj hc).symm
      simpa using this
    subst e3
    exact .unmark a b
  · rename_i w e
    injection e with e _
    injection e with e1 e2
    subst e1; subst e2
    obtain ⟨a, rfl⟩ := nat_of ha
    have e3 : c = .work a := by
      have := (Option.some.inj hc).symm
      simpa using this
    subst e3
    exact .work a
  · rename_i w e
    injection e with e _
    injection e with e1 e2
    subst e1; subst e2
    obtain ⟨a, rfl⟩ := nat_of ha
    have e3 : c = .hand a := by
      have := (Option.some.inj hc).symm
      simpa using this
    subst e3
    exact .hand a
  · rename_i v w e
    injection e with e _
    injection e with e1 e2
    subst e1; subst e2
    rw [Bool.and_eq_true] at ha
    obtain ⟨a, rfl⟩ := nat_of ha.1
    obtain ⟨b, rfl⟩ := nat_of ha.2
    have e3 : c = .same a b := by
      have := (Option.some.inj hc).symm
      simpa using this
    subst e3
    exact .same a b
  · rename_i w e
    injection e with e _
    injection e with e1 e2
    subst e1; subst e2
    obtain ⟨a, rfl⟩ := nat_of ha
    have e3 : c = .order a := by
      have := (Option.some.inj hc).symm
      simpa using this
    subst e3
    exact .order a
  · rename_i e
    injection e with e _
    injection e with e1 e2
    subst e1; subst e2
    have : c = .off := (Option.some.inj hc).symm
    subst this
    exact .off
  · cases ha
theorem eqNo {i j : Int} {A B : Prop} (h : i ≠ j) (b : B) : if decide (V.int i = V.int j) = true then A else B := by
  rw [if_neg]
  · exact b
  · intro z
    have := of_decide_eq_true z
    injection this with this
    exact h this
theorem eqYes {i : Int} {A B : Prop} (a : A) : if decide (V.int i = V.int i) = true then A else B := by
  rw [if_pos (decide_eq_true rfl)]
  exact a
section
variable {P : Program} {wo : World} {K : PySem.W.Frag} {mg : Str → Option Value} {base : Heap}
def spCallT (T : Addr) : Sp := fun vs H Q _ => ∃ (d : Addr) (h : House) (n : Int) (args : List Int) (g : Addr) (c : Kp202.Call), vs = [.ref d, .int n, .ref g] ∧ MarksAt H d h ∧ Wf h ∧ TB H T ∧ H g = some (.lst (iv args)) ∧ Kp202Neutral.asked1 [n :: args] = true ∧ Kp202Neutral.callOf [n :: args] = some c ∧ ResT T d h c H Q
theorem scCallA : FnScope ["marks", "number", "given"] ["marks", "number", "given"] (defScope sCallA) := ⟨rfl, rfl, rfl, by decide +kernel, rfl, by decide +kernel, by decide +kernel⟩
theorem ok_callA {f T : Addr} {fd : FuncData} (F : Fun K "answer_call" "answer_call" sCallA f fd) (c0 : Cst mg "BEGIN" 0) (c1 : Cst mg "MARK" 1) (c2 : Cst mg "UNMARK" 2) (c3 : Cst mg "WORK" 3) (c4 : Cst mg "HAND" 4) (c5 : Cst mg "SAME" 5) (c6 : Cst mg "ORDER" 6)
    (G0 : Know P wo K mg base "call_begin" ["marks"] 1 spBegin) (G1 : Know P wo K mg base "call_mark" ["marks", "judge", "work", "mark"] 1 spMark) (G2 : Know P wo K mg base "call_unmark" ["marks", "judge", "work"] 1 spUnmark) (G3 : Know P wo K mg base "call_work" ["marks", "work"] 5 spWorkC) (G4 : Know P wo K mg base "call_hand" ["marks", "judge"] 5 spHandC)
    (G5 : Know P wo K mg base "call_same" ["marks", "work", "other"] 4 spSameC) (G6 : Know P wo K mg base "call_order" ["marks", "work"] 7 (spOrderC T)) (G7 : Know P wo K mg base "call_off" ["marks"] 7 spOffC) : FnOk P wo K mg base CX0 8 f fd ["marks", "number", "given"] (spCallT T) := by
  refine F.ok scCallA (fun vs H Q E h => ?_) (fun cdv A outer s H vs Q E hr h => ?_)
  · obtain ⟨d, h, n, args, g, c, rfl, _⟩ := h
    rfl
  · obtain ⟨d, h, n, args, g, c, rfl, hm, hw, hT, eg, ha, hc, kT⟩ := h
    have k := kT.res hT hm
    have ci := call_is ha hc
    refine ⟨_, pss_cons (ps_if (pt_cmpR op_eq (pv 1) (pe_cst c0 rfl) (nomark _)) (pss_one (ps_ret (pe_know G0 hr rfl (pa_cons (pv 0) pa_nil)))) pss_nil)
      (pss_cons (ps_if (pt_cmpR op_eq (pv 1) (pe_cst c1 rfl) (nomark _)) (pss_one (ps_ret (pe_know G1 hr rfl (pa_cons (pv 0) (pa_cons (pe_ix ix_list (pv 2) pe_int (fun _ _ => rfl)) (pa_cons (pe_ix ix_list (pv 2) pe_int (fun _ _ => rfl)) (pa_cons (pe_ix ix_list (pv 2) pe_int (fun _ _ => rfl)) pa_nil))))))) pss_nil)
      (pss_cons (ps_if (pt_cmpR op_eq (pv 1) (pe_cst c2 rfl) (nomark _)) (pss_one (ps_ret (pe_know G2 hr rfl (pa_cons (pv 0) (pa_cons (pe_ix ix_list (pv 2) pe_int (fun _ _ => rfl)) (pa_cons (pe_ix ix_list (pv 2) pe_int (fun _ _ => rfl)) pa_nil)))))) pss_nil)
      (pss_cons (ps_if (pt_cmpR op_eq (pv 1) (pe_cst c3 rfl) (nomark _)) (pss_one (ps_ret (pe_know G3 hr rfl (pa_cons (pv 0) (pa_cons (pe_ix ix_list (pv 2) pe_int (fun _ _ => rfl)) pa_nil))))) pss_nil)
      (pss_cons (ps_if (pt_cmpR op_eq (pv 1) (pe_cst c4 rfl) (nomark _)) (pss_one (ps_ret (pe_know G4 hr rfl (pa_cons (pv 0) (pa_cons (pe_ix ix_list (pv 2) pe_int (fun _ _ => rfl)) pa_nil))))) pss_nil)
      (pss_cons (ps_if (pt_cmpR op_eq (pv 1) (pe_cst c5 rfl) (nomark _)) (pss_one (ps_ret (pe_know G5 hr rfl (pa_cons (pv 0) (pa_cons (pe_ix ix_list (pv 2) pe_int (fun _ _ => rfl)) (pa_cons (pe_ix ix_list (pv 2) pe_int (fun _ _ => rfl)) pa_nil)))))) pss_nil)
      (pss_cons (ps_if (pt_cmpR op_eq (pv 1) (pe_cst c6 rfl) (nomark _)) (pss_one (ps_ret (pe_know G6 hr rfl (pa_cons (pv 0) (pa_cons (pe_ix ix_list (pv 2) pe_int (fun _ _ => rfl)) pa_nil))))) pss_nil)
      (pss_one (ps_ret (pe_know G7 hr rfl (pa_cons (pv 0) pa_nil)))))))))), ?_⟩
    cases ci with
    | begin_ => exact ⟨_, rfl, rfl, _, rfl, eqYes ⟨_, rfl, d, h, rfl, hm, hw, k⟩⟩
    | mark j w m =>
      exact ⟨_, rfl, rfl, _, rfl, eqNo (by decide) ⟨_, rfl, rfl, _, rfl, eqYes ⟨_, rfl, _, rfl, g, _, _, _, rfl, rfl, SqL.of eg, rfl, _, rfl, g, _, _, _, rfl, rfl, SqL.of eg, rfl, _, rfl, g, _, _, _, rfl, rfl, SqL.of eg, rfl, d, h, j, w, m, rfl, hm, hw, k⟩⟩⟩
    | unmark j w =>
      exact ⟨_, rfl, rfl, _, rfl, eqNo (by decide) ⟨_, rfl, rfl, _, rfl, eqNo (by decide) ⟨_, rfl, rfl, _, rfl, eqYes ⟨_, rfl, _, rfl, g, _, _, _, rfl, rfl, SqL.of eg, rfl, _, rfl, g, _, _, _, rfl, rfl, SqL.of eg, rfl, d, h, j, w, rfl, hm, hw, k⟩⟩⟩⟩
    | work w =>
      exact ⟨_, rfl, rfl, _, rfl, eqNo (by decide) ⟨_, rfl, rfl, _, rfl, eqNo (by decide) ⟨_, rfl, rfl, _, rfl, eqNo (by decide) ⟨_, rfl, rfl, _, rfl, eqYes ⟨_, rfl, _, rfl, g, _, _, _, rfl, rfl, SqL.of eg, rfl, d, h, w, rfl, hm, hw, k⟩⟩⟩⟩⟩
    | hand j =>
      exact ⟨_, rfl, rfl, _, rfl, eqNo (by decide) ⟨_, rfl, rfl, _, rfl, eqNo (by decide) ⟨_, rfl, rfl, _, rfl, eqNo (by decide) ⟨_, rfl, rfl, _, rfl, eqNo (by decide) ⟨_, rfl, rfl, _, rfl, eqYes ⟨_, rfl, _, rfl, g, _, _, _, rfl, rfl, SqL.of eg, rfl, d, h, j, rfl, hm, hw, k⟩⟩⟩⟩⟩⟩
    | same v w =>
      exact ⟨_, rfl, rfl, _, rfl, eqNo (by decide) ⟨_, rfl, rfl, _, rfl, eqNo (by decide) ⟨_, rfl, rfl, _, rfl, eqNo (by decide) ⟨_, rfl, rfl, _, rfl, eqNo (by decide) ⟨_, rfl, rfl, _, rfl, eqNo (by decide) ⟨_, rfl, rfl, _, rfl, eqYes ⟨_, rfl, _, rfl, g, _, _, _, rfl, rfl, SqL.of eg, rfl, _, rfl, g, _, _, _, rfl, rfl, SqL.of eg, rfl, d, h, v, w, rfl, hm, hw, k⟩⟩⟩⟩⟩⟩⟩
    | order w =>
      exact ⟨_, rfl, rfl, _, rfl, eqNo (by decide) ⟨_, rfl, rfl, _, rfl, eqNo (by decide) ⟨_, rfl, rfl, _, rfl, eqNo (by decide) ⟨_, rfl, rfl, _, rfl, eqNo (by decide) ⟨_, rfl, rfl, _, rfl, eqNo (by decide) ⟨_, rfl, rfl, _, rfl, eqNo (by decide) ⟨_, rfl, rfl, _, rfl, eqYes ⟨_, rfl, _, rfl, g, _, _, _, rfl, rfl, SqL.of eg, rfl, d, h, w, rfl, hm, hw, hT, kT⟩⟩⟩⟩⟩⟩⟩⟩
    | off =>
      exact ⟨_, rfl, rfl, _, rfl, eqNo (by decide) ⟨_, rfl, rfl, _, rfl, eqNo (by decide) ⟨_, rfl, rfl, _, rfl, eqNo (by decide) ⟨_, rfl, rfl, _, rfl, eqNo (by decide) ⟨_, rfl, rfl, _, rfl, eqNo (by decide) ⟨_, rfl, rfl, _, rfl, eqNo (by decide) ⟨_, rfl, rfl, _, rfl, eqNo (by decide) ⟨_, rfl, d, h, rfl, hm, hw, k⟩⟩⟩⟩⟩⟩⟩⟩
end
end Lm
end
section
set_option Elab.async false
set_option linter.all false
set_option maxRecDepth 100000
set_option maxHeartbeats 1000000
namespace Lm
open PySem PySem.Spec PyProof.Rows L2
open Kp202 (House markOf has judgesOf worksOf handOf allHands put)
open MQ (Wf)
section
variable {P : Program} {w : World} {K : PySem.W.Frag} {mg : Str → Option Value} {base : Heap}
def spAnsT (T : Addr) (K : PySem.W.Frag) : Sp := fun vs H Q _ => ∃ (a : Addr) (ns : List Int), vs = [.ref a] ∧ SqL K H a (iv ns) ∧ TB H T ∧ PyKp202.answers_asked ns = true ∧ ns.length ≤ 30000 ∧ ∀ H' p, H' p = some (.lst (iv (PyKp202.answers ns))) → Q (.ref p) H'
theorem TB.but {H H' : Hp} {T b : Addr} {o : HO} (t : TB H T) (e : H b = some o) (h1 : ∀ ps, HO.tbl ps ≠ o) (h2 : ∀ f, HO.ext f ≠ o) (s : ∀ c u, H c = some u → c ≠ b → H' c = some u) : TB H' T := by
  rcases t with t | ⟨c, t1, t2⟩
  · exact .inl (s _ _ t (ne_of t e (h1 _)))
  · exact .inr ⟨c, s _ _ t1 (ne_of t1 e (h1 _)), s _ _ t2 (ne_of t2 e (h2 _))⟩
theorem ok_ansT {f T : Addr} {fd : FuncData} (F : Fun K "answers" "answers" sAnswers f fd) (hlen : mg "len" = none) (hA : Cnts K mg) (GA : Know P w K mg base "answer_call" ["marks", "number", "given"] 8 (spCallT T)) : FnOk P w K mg base CX0 9 f fd ["calls"] (spAnsT T K) := by
  obtain ⟨tA, cn, cA1, cA2, cA3⟩ := hA
  refine F.ok scAnswers (fun vs H Q E h => ?_) (fun cdv A outer s H vs Q E hr h => ?_)
  · obtain ⟨a, ns, rfl, _⟩ := h
    rfl
  · obtain ⟨a, ns, rfl, hS, hT, hask, hmost, k⟩ := h
    obtain ⟨cs0, hcs0, hc400, hall0, hans⟩ := MQ.asked_split hask
    obtain ⟨psT, eT⟩ := hT.at
    refine ⟨_, pss_cons (ps_set (i := 1) scAnswers.nd rfl (Or.inl rfl) pe_dnewT)
      (pss_cons (ps_set (i := 2) scAnswers.nd rfl (Or.inl rfl) (pe_lst pa_nil))
      (pss_cons (ps_set (i := 3) scAnswers.nd rfl (Or.inl rfl) pe_int)
      (pss_cons (ps_while PassesOwn.never (pt_cmpR op_lt (pv 3) (pe_callB call_len_seq (by rfl) hlen PySem.boot_len (pa_cons (pv 0) pa_nil)) (nomark _))
        (pss_cons (ps_set (i := 4) scAnswers.nd rfl (Or.inl rfl) (pe_ix ix_list (pv 0) (pv 3) (fun _ _ => rfl)))
        (pss_cons (ps_set (i := 5) scAnswers.nd rfl (Or.inl rfl) (pe_op op_add (pe_op op_add (pv 3) pe_int) (pe_ix ix_tup (pe_glob (v := .ref tA) rfl cA1 rfl) (pv 4) (fun _ _ => rfl))))
        (pss_cons (ps_set (i := 6) scAnswers.nd rfl (Or.inl rfl) (pe_know GA hr rfl (pa_cons (pv 1) (pa_cons (pv 4) (pa_cons (pe_slice sl_list (pv 0) (po_some (pe_op op_add (pv 3) pe_int)) (po_some (pv 5))) pa_nil))) (Nat.le_refl _)))
        (pss_cons (ps_expr (pe_bm PySem.F.plainAttrs_list PySem.F.slot_list_append PySem.F.type_list_append mt_append (pv 2) (pa_cons (pe_callB call_len_seq (by rfl) hlen PySem.boot_len (pa_cons (pv 6) pa_nil)) pa_nil)))
        (pss_cons (ps_expr (pe_bm PySem.F.plainAttrs_list PySem.F.slot_list_extend PySem.F.type_list_extend mt_extend (pv 2) (pa_cons (pv 6) pa_nil)))
        (pss_one (ps_set (i := 3) scAnswers.nd rfl (Or.inl rfl) (pv 5)))))))))
      (pss_one (ps_ret (pv 2)))))), ?_⟩
    intro d hd
    refine ⟨Nat.zero_le _, fun O hO => ?_⟩
    have hOd : d ≠ O := by
      intro z
      subst z
      rw [upd_same] at hO
      cases hO
    have hO0 : H O = none := by rw [upd_ne (Ne.symm hOd)] at hO; exact hO
    have s0 : Same H (upd (upd H d (.dT [])) O (.lst [])) := ((Same.refl H).new hd).new hO
    have m0 : MarksAt (upd (upd H d (.dT [])) O (.lst [])) d [] := marks_new (by rw [upd_ne hOd, upd_same])
    have hdT : d ≠ T := fun z => by rw [z, eT] at hd; cases hd
    have hOT : O ≠ T := fun z => by rw [z, eT] at hO0; cases hO0
    refine while_by (fun σ H' => ∃ (st : Nat) (h : House) (out : List Int) (f : Nat) (cs : List (List (List Int))) (v4 v5 v6 : Option V), σ = [some (.ref a), some (.ref d), some (.ref O), some (.int (st : Int)), v4, v5, v6] ∧ SameP T H H' ∧ TB H' T ∧ H' O = some (.lst (iv out)) ∧ MarksAt H' d h ∧ Wf h ∧ st ≤ ns.length ∧
        PyFlat.calls PyKp202.shape f (ns.drop st) = some cs ∧ cs.all Kp202Neutral.asked1 = true ∧ out ++ MQ.pl (some h) cs = PyKp202.answers ns ∧ out.length + 20 * cs.length ≤ 8000) muAns
      ⟨0, [], [], ns.length, cs0, none, none, none, rfl, fun b o e _ => s0 b o e, hT.same s0, upd_same, m0, Wf.nil, Nat.zero_le _, by rw [List.drop_zero]; exact hcs0, hall0, by rw [hans]; rfl, by simp; omega⟩ ?_ ?_
    · rintro σ H1 ⟨st, h, out, fu, cs, v4, v5, v6, rfl, s1, hT1, eO, hm, hw, hst, hcs, hall, hout, hsz⟩
      have hS1 : SqL K H1 a (iv ns) := s1.seq eT hS
      refine ⟨_, rfl, _, rfl, _, _, rfl, .inl hS1, _, _, rfl, rfl, _, rfl, ?_⟩
      rw [iv_length]
      refine ite2 (fun hb => ?_) (fun hb => ?_)
      · have hb' : st < ns.length := by simpa using hb
        obtain ⟨p, r, hpr⟩ : ∃ p r, ns.drop st = p :: r := ⟨_, _, List.drop_eq_getElem_cons hb'⟩
        have hp : ns[st]? = some p := by
          have : (ns.drop st)[0]? = some p := by rw [hpr]; rfl
          rw [List.getElem?_drop] at this
          exact this
        have hgd : ns.getD st 0 = p := by rw [List.getD_eq_getElem?_getD, hp]; rfl
        rw [hpr] at hcs
        obtain ⟨n, f', cs', hsh, hnr, rfl, hcs'⟩ := MQ.calls_step hcs
        obtain ⟨i, rfl, hi⟩ := cA3 p n hsh
        rw [List.all_cons, Bool.and_eq_true] at hall
        obtain ⟨c, hc⟩ := MQ.asked_call hall.1
        have hi' : (iv cn)[i]? = some (V.int (n : Int)) := by unfold iv; rw [List.getElem?_map, hi]; rfl
        refine ⟨_, rfl, _, rfl, a, _, _, _, rfl, rfl, hS1, atI_nat (iv_at hb'), ?_⟩
        rw [hgd]
        refine ⟨_, rfl, _, _, rfl, rfl, _, rfl, tA, _, _, _, rfl, rfl, cA2 _, atI_nat hi', _, _, rfl, rfl, ?_⟩
        refine ⟨_, rfl, _, rfl, _, rfl, _, rfl, _, _, rfl, rfl, _, rfl, _, rfl, _, rfl, a, _, rfl, hS1, fun g hg => ?_⟩
        rw [cut_args hpr hnr]
        have s2 : Same H1 (upd H1 g (.lst (iv (r.take n)))) := (Same.refl H1).new hg
        have eg : (upd H1 g (.lst (iv (r.take n)))) g = some (.lst (iv (r.take n))) := upd_same
        generalize upd H1 g (.lst (iv (r.take n))) = H2 at s2 eg ⊢
        refine ⟨d, h, (i : Int), r.take n, g, c, rfl, hm.same s2, hw, hT1.same s2, eg, hall.1, hc, fun H3 q h' e3 hw3 m3 s3 hT3 hq eq => ?_⟩
        have eO2 := s2 _ _ eO
        have hqO : q ≠ O := (ne_of_none eO2 hq).symm
        have hdO : O ≠ d := Ne.symm hOd
        have eO3 : H3 O = some (.lst (iv out)) := s3 _ _ eO2 hdO hOT
        have hal := MQ.ans_len h c
        have hns := MQ.nstep_eq (s := some h) hc
        generalize hans2 : (Kp202.step (some h) c).2.num :: (Kp202.step (some h) c).2.nums = an at eq hal hns
        -- answered.append(len(answer))
        refine ⟨_, rfl, .inl ⟨rfl, _, SqL.of eO3⟩, _, rfl, _, _, rfl, .inl (SqL.of eq), O, _, _, rfl, rfl, eO3, ?_, ?_⟩
        · rw [iv_length, sizeLine_eq]; omega
        rw [iv_length]
        have s4 : ∀ b o, H3 b = some o → b ≠ O → (upd H3 O (.lst (iv out ++ [V.int (an.length : Int)]))) b = some o := fun b o e hb => by rw [upd_ne hb]; exact e
        have eO4 : (upd H3 O (.lst (iv out ++ [V.int (an.length : Int)]))) O = some (.lst (iv (out ++ [(an.length : Int)]))) := by
          rw [upd_same]
          unfold iv
          rw [List.map_append]
          rfl
        generalize upd H3 O (.lst (iv out ++ [V.int (an.length : Int)])) = H4 at s4 eO4 ⊢
        have hT4 : TB H4 T := hT3.but eO3 (fun _ z => nomatch z) (fun _ z => nomatch z) s4
        -- answered.extend(answer)
        refine ⟨_, rfl, .inl ⟨rfl, _, SqL.of eO4⟩, _, rfl, O, q, _, _, rfl, rfl, eO4, s4 _ _ eq hqO, ?_, ?_⟩
        · rw [iv_length, iv_length, List.length_append, sizeLine_eq]
          simp only [List.length_cons, List.length_nil]
          omega
        have sH : SameP T H H3 := fun b o e hbT => s3 _ _ (s2 _ _ (s1 _ _ e hbT)) (ne_of_none e hd) hbT
        have s45 : ∀ b o, H4 b = some o → b ≠ O → (upd H4 O (.lst (iv (out ++ [(an.length : Int)]) ++ iv an))) b = some o := fun b o e hb => by rw [upd_ne hb]; exact e
        have hT5 : TB (upd H4 O (.lst (iv (out ++ [(an.length : Int)]) ++ iv an))) T := hT4.but eO4 (fun _ z => nomatch z) (fun _ z => nomatch z) s45
        have s5 : SameP T H (upd H4 O (.lst (iv (out ++ [(an.length : Int)]) ++ iv an))) := fun b o e hbT => by
          have hbO : b ≠ O := ne_of_none e hO0
          exact s45 _ _ (s4 _ _ (sH _ _ e hbT) hbO) hbO
        have m5 : MarksAt (upd H4 O (.lst (iv (out ++ [(an.length : Int)]) ++ iv an))) d h' := by
          obtain ⟨M, e, rr⟩ := m3.ex
          exact ⟨M, by rw [upd_ne hOd]; exact s4 _ _ e hOd, rr⟩
        have eO5 : (upd H4 O (.lst (iv (out ++ [(an.length : Int)]) ++ iv an))) O = some (.lst (iv (out ++ [(an.length : Int)] ++ an))) := by
          rw [upd_same]
          unfold iv
          rw [← List.map_append]
        generalize upd H4 O (.lst (iv (out ++ [(an.length : Int)]) ++ iv an)) = H5 at s5 m5 eO5 hT5 ⊢
        refine ⟨_, rfl, ⟨⟨st + 1 + n, h', out ++ [(an.length : Int)] ++ an, f', cs', _, _, _, rfl, s5, hT5, eO5, m5, hw3, ?_, ?_, hall.2, ?_, ?_⟩, ?_⟩⟩
        · have h1 : (ns.drop st).length = ns.length - st := List.length_drop
          rw [hpr, List.length_cons] at h1
          omega
        · have : ns.drop (st + 1 + n) = r.drop n := by
            rw [← List.drop_drop, ← List.drop_drop, hpr]
            rfl
          rw [this]
          exact hcs'
        · rw [← hout, MQ.pl_cons, hns]
          show _ = out ++ ((((an.length : Nat) : Int) :: an) ++ MQ.pl (Kp202.step (some h) c).1 cs')
          rw [e3]
          simp [List.append_assoc]
        · rw [List.length_append, List.length_append]
          simp only [List.length_cons, List.length_nil] at hsz ⊢
          omega
        · show 30001 - ((st : Int) + 1 + (n : Int)).toNat < 30001 - ((st : Nat) : Int).toNat
          omega
      · have hb' : st = ns.length := by
          have : ¬ (st : Int) < (ns.length : Int) := by simpa using hb
          omega
        subst hb'
        rw [List.drop_length] at hcs
        have := MQ.calls_nil hcs
        subst this
        rw [MQ.pl_nil, List.append_nil] at hout
        refine ⟨_, rfl, ?_⟩
        exact k H1 O (by rw [← hout]; exact eO)
    · intro σ H Q Q' hq h
      obtain ⟨x, e1, y, e2, p, ys, e3, e4, i, j, e5, e6, kk, e7, q⟩ := h
      exact ⟨x, e1, y, e2, p, ys, e3, e4, i, j, e5, e6, kk, e7, hq _ _ q⟩
end
end Lm
end
section
set_option Elab.async false
set_option linter.all false
set_option maxRecDepth 100000
set_option maxHeartbeats 1000000
namespace Lm
open PySem PySem.Spec PyProof.Rows L2
/-- a def of the text, by its name at the top -/
def Def (K : PySem.W.Frag) (x : Str) (st : Stmt) : Prop := ∃ f fd, PySem.W.nsIn K mainGlobals x = some (some (.ref f)) ∧ Fun K x x st f fd
def DefC (K : PySem.W.Frag) (x : Str) (st : Stmt) (c : Addr) : Prop := ∃ f fd, PySem.W.nsIn K mainGlobals x = some (some (.ref f)) ∧ FunC K x x st f fd c
def Num (K : PySem.W.Frag) (x : Str) (i : Int) : Prop := ∃ t, PySem.W.nsIn K mainGlobals x = some (some (.int i t))
def None_ (K : PySem.W.Frag) (x : Str) : Prop := PySem.W.nsIn K mainGlobals x = some none
section
variable {P : Program} {w : World} {K : PySem.W.Frag} {mg : Str → Option Value} {base h : Heap}
theorem def_mk {x : Str} {st : Stmt} {f : Addr} {oc : Value} {od an : Option Addr} {osl : Array (Option Value)} {kV doc pm cdv ct : Value} (a : PySem.W.nsIn K mainGlobals x = some (some (.ref f))) (l : K.lookup f = some ⟨oc, od, .func (PySem.W.fnOf x x (defArgs st) (defBody st) (defScope st) .none kV doc pm an cdv ct), osl⟩)
    (c : PySem.W.codeIn K cdv x = true) (k : PySem.W.keepIn K (.ref f) = true) : Def K x st := ⟨f, _, a, fun_mk l c k⟩
theorem defC_mk {x : Str} {st : Stmt} {f cd : Addr} {oc : Value} {od an : Option Addr} {osl : Array (Option Value)} {kV doc pm ct : Value} (a : PySem.W.nsIn K mainGlobals x = some (some (.ref f))) (l : K.lookup f = some ⟨oc, od, .func (PySem.W.fnOf x x (defArgs st) (defBody st) (defScope st) .none kV doc pm an (.ref cd) ct), osl⟩)
    (c : PySem.W.codeIn K (.ref cd) x = true) (k : PySem.W.keepIn K (.ref f) = true) : DefC K x st cd := ⟨f, _, a, ⟨⟨oc, od, kV, doc, pm, an, ct, osl, rfl, l, c⟩, k⟩⟩
theorem Def.know {x : Str} {st : Stmt} {ps : List Str} {k : Nat} {sp : Sp} (D : Def K x st) (X : K.In h) (G : h.Ns mainGlobals mg)
    (hb : ∀ (kV doc pm : Value) (an : Option Addr) (cdv ct : Value) (us : List Value), us.length = ps.length → bindArgs (PySem.W.fnOf x x (defArgs st) (defBody st) (defScope st) .none kV doc pm an cdv ct) ⟨us, []⟩ = pure (ps.zip us))
    (ok : ∀ f fd, Fun K x x st f fd → FnOk P w K mg base CX0 k f fd ps sp) : Know P w K mg base x ps k sp := by
  obtain ⟨f, fd, a, F⟩ := D
  exact ⟨f, fd, ok f fd F, PySem.W.mg_of X G a, F.kp, F.binds hb⟩
theorem DefC.know {x : Str} {st : Stmt} {c : Addr} {ps : List Str} {k : Nat} {sp : Sp} (D : DefC K x st c) (X : K.In h) (G : h.Ns mainGlobals mg)
    (hb : ∀ (kV doc pm : Value) (an : Option Addr) (cdv ct : Value) (us : List Value), us.length = ps.length → bindArgs (PySem.W.fnOf x x (defArgs st) (defBody st) (defScope st) .none kV doc pm an cdv ct) ⟨us, []⟩ = pure (ps.zip us))
    (ok : ∀ f fd, FunC K x x st f fd c → FnOk P w K mg base CX0 k f fd ps sp) : Know P w K mg base x ps k sp := by
  obtain ⟨f, fd, a, F⟩ := D
  refine ⟨f, fd, ok f fd F, PySem.W.mg_of X G a, F.kp, ?_⟩
  obtain ⟨oc, od, kV, doc, pm, an, ct, osl, rfl, lk, hcd⟩ := F.ex
  exact .all (hb kV doc pm an (.ref c) ct)
theorem Num.cst {x : Str} {i : Int} (N : Num K x i) (X : K.In h) (G : h.Ns mainGlobals mg) : Cst mg x i := by
  obtain ⟨t, e⟩ := N
  exact ⟨t, PySem.W.mg_of X G e⟩
theorem None_.no {x : Str} (N : None_ K x) (X : K.In h) (G : h.Ns mainGlobals mg) : mg x = none := PySem.W.mg_none_of X G N
theorem cnts_at {i : Nat} {n : Nat} : ∀ {p : Int}, PyKp202.shape p = some (n, 0) → ∃ i : Nat, p = (i : Int) ∧ ([0, 3, 2, 1, 1, 2, 1, 0] : List Int)[i]? = some (n : Int) := by
  intro p h
  unfold PyKp202.shape at h
  split at h
  · rename_i e; cases h; exact ⟨0, e, rfl⟩
  split at h
  · rename_i e; cases h; exact ⟨1, e, rfl⟩
  split at h
  · rename_i e; cases h; exact ⟨2, e, rfl⟩
  split at h
  · rename_i e; cases h; exact ⟨3, e, rfl⟩
  split at h
  · rename_i e; cases h; exact ⟨4, e, rfl⟩
  split at h
  · rename_i e; cases h; exact ⟨5, e, rfl⟩
  split at h
  · rename_i e; cases h; exact ⟨6, e, rfl⟩
  split at h
  · rename_i e; cases h; exact ⟨7, e, rfl⟩
  · cases h
theorem cnts_mk {t : Addr} {od : Option Addr} {n : Nat} {sl : Array (Option Value)} {t0 t1 t2 t3 t4 t5 t6 t7 : Nat} (X : K.In h) (G : h.Ns mainGlobals mg) (a : PySem.W.nsIn K mainGlobals "ARGUMENT_COUNTS" = some (some (.ref t)))
    (l : K.lookup t = some ⟨.type "tuple", od, .seq #[.int 0 t0, .int 3 t1, .int 2 t2, .int 1 t3, .int 1 t4, .int 2 t5, .int 1 t6, .int 0 t7] n, sl⟩) : Cnts K mg := by
  refine ⟨t, [0, 3, 2, 1, 1, 2, 1, 0], PySem.W.mg_of X G a, fun H => .inr ⟨_, _, _, l, rfl, rfl, (by show 8 ≤ sizeLine; decide), ?_⟩, fun p n h => cnts_at (i := 0) h⟩
  exact .cons ⟨_, rfl⟩ (.cons ⟨_, rfl⟩ (.cons ⟨_, rfl⟩ (.cons ⟨_, rfl⟩ (.cons ⟨_, rfl⟩ (.cons ⟨_, rfl⟩ (.cons ⟨_, rfl⟩ (.cons ⟨_, rfl⟩ .nil)))))))
theorem all_mk {fa c T : Addr} (X : K.In h) (G : h.Ns mainGlobals mg) (hfa : mg "answers" = some (.ref fa))
    (mcJ : Num K "JUDGES" 6) (mcW : Num K "WORKS" 16) (mcM : Num K "GREATEST_MARK" 1000) (mcO : Num K "OUT_OF_RANGE" (-22)) (mcN : Num K "NO_SUCH_MARK" (-2)) (mc0 : Num K "BEGIN" 0) (mc1 : Num K "MARK" 1) (mc2 : Num K "UNMARK" 2) (mc3 : Num K "WORK" 3) (mc4 : Num K "HAND" 4) (mc5 : Num K "SAME" 5) (mc6 : Num K "ORDER" 6) (mcS : Num K "SCALE" 60)
    (mnLen : None_ K "len") (mnRange : None_ K "range") (mnAbs : None_ K "abs") (mnSet : None_ K "set") (mnSorted : None_ K "sorted") (mnList : None_ K "list")
    (D1 : Def K "greatest_divisor" sGcd)
    (D2 : Def K "lowest" sLowest)
    (D3 : Def K "less" sLess)
    (D4 : Def K "added" sAdded)
    (D5 : Def K "times" sTimes)
    (D6 : Def K "common_below" sCommon)
    (D7 : Def K "judges_of" sJudges)
    (D8 : Def K "works_of" sWorks)
    (D9 : Def K "group_of" sGroup)
    (D10 : Def K "hand_equation" sEqn)
    (D11 : Def K "cleared" sCleared)
    (D12 : Def K "solution" sSolution)
    (D13 : Def K "hands_of_all" sHands)
    (D14 : Def K "has_mark" sHas)
    (D15 : Def K "put_right" sPut)
    (D16 : Def K "rights_of" sRights)
    (D17 : Def K "compared_with" sCmp)
    (D18 : Def K "call_begin" sBegin)
    (D19 : Def K "call_mark" sMark)
    (D20 : Def K "call_unmark" sUnmark)
    (D21 : Def K "call_work" sWorkC)
    (D22 : Def K "call_hand" sHandC)
    (D23 : Def K "call_same" sSameC)
    (D24 : Def K "sum_of_squares" sSq)
    (D25 : Def K "call_off" sOffC)
    (D26 : DefC K "greatest_first" sGreat c)
    (D27 : Def K "call_order" sOrderC)
    (D28 : Def K "answer_call" sCallA)
    (D0 : Def K "answers" sAnswers) (hA : Cnts K mg) :
    ∃ fd : FuncData, (∀ (s : Shared) (us : List Value), us.length = (["calls"] : List Str).length → BindsTo s fd ⟨us, []⟩ ((["calls"] : List Str).zip us)) ∧ ∀ base : Heap, K.In base → base.Ns mainGlobals mg → LamBase mg base c T → FnOk P w K mg base CX0 9 fa fd ["calls"] (spAnsT T K) := by
  have cJ := mcJ.cst X G
  have cW := mcW.cst X G
  have cM := mcM.cst X G
  have cO := mcO.cst X G
  have cN := mcN.cst X G
  have c0 := mc0.cst X G
  have c1 := mc1.cst X G
  have c2 := mc2.cst X G
  have c3 := mc3.cst X G
  have c4 := mc4.cst X G
  have c5 := mc5.cst X G
  have c6 := mc6.cst X G
  have cS := mcS.cst X G
  have nLen := mnLen.no X G
  have nRange := mnRange.no X G
  have nAbs := mnAbs.no X G
  have nSet := mnSet.no X G
  have nSorted := mnSorted.no X G
  have nList := mnList.no X G
  obtain ⟨f, fd, a, F0⟩ := D0
  have e := hfa.symm.trans (PySem.W.mg_of X G a)
  cases e
  refine ⟨fd, fun s us hu => ?_, fun base _ _ hL => ?_⟩
  · obtain ⟨oc, od, kV, doc, pm, an, cdv, ct, osl, rfl, lk, hcd⟩ := F0.ex
    match us, hu with
    | [_], _ => exact .of_eq rfl
  have K1 : Know P w K mg base "greatest_divisor" ["one", "other"] 1 spGcd := D1.know X G (fun _ _ _ _ _ _ us hl => match us, hl with | [_, _], _ => rfl) fun f fd F => ok_gcd F
  have K2 : Know P w K mg base "lowest" ["above", "below"] 2 spLowest := D2.know X G (fun _ _ _ _ _ _ us hl => match us, hl with | [_, _], _ => rfl) fun f fd F => ok_lowest F nAbs K1
  have K3 : Know P w K mg base "less" ["one", "other"] 3 (sp2 Kp193.less) := D3.know X G (fun _ _ _ _ _ _ us hl => match us, hl with | [_, _], _ => rfl) fun f fd F => ok_less F K2
  have K4 : Know P w K mg base "added" ["one", "other"] 3 (sp2 Kp193.plus) := D4.know X G (fun _ _ _ _ _ _ us hl => match us, hl with | [_, _], _ => rfl) fun f fd F => ok_added F K2
  have K5 : Know P w K mg base "times" ["fraction", "below"] 1 spTimes := D5.know X G (fun _ _ _ _ _ _ us hl => match us, hl with | [_, _], _ => rfl) fun f fd F => ok_times F
  have K6 : Know P w K mg base "common_below" ["fractions"] 2 spCommon := D6.know X G (fun _ _ _ _ _ _ us hl => match us, hl with | [_], _ => rfl) fun f fd F => ok_common F K1
  have K7 : Know P w K mg base "judges_of" ["marks", "work"] 1 spJudges := D7.know X G (fun _ _ _ _ _ _ us hl => match us, hl with | [_, _], _ => rfl) fun f fd F => ok_judges F nRange cJ
  have K8 : Know P w K mg base "works_of" ["marks", "judge"] 1 spWorks := D8.know X G (fun _ _ _ _ _ _ us hl => match us, hl with | [_, _], _ => rfl) fun f fd F => ok_works F nRange cW
  have K9 : Know P w K mg base "group_of" ["marks", "judge"] 2 spGroup := D9.know X G (fun _ _ _ _ _ _ us hl => match us, hl with | [_, _], _ => rfl) fun f fd F => ok_group F nLen K7 K8
  have K10 : Know P w K mg base "hand_equation" ["marks", "judge"] 3 spEqn := D10.know X G (fun _ _ _ _ _ _ us hl => match us, hl with | [_, _], _ => rfl) fun f fd F => ok_eqn F nLen nRange cJ cS K7 K8 K9
  have K11 : Know P w K mg base "cleared" ["row", "by", "place"] 1 spCleared := D11.know X G (fun _ _ _ _ _ _ us hl => match us, hl with | [_, _, _], _ => rfl) fun f fd F => ok_cleared F nLen nRange
  have K12 : Know P w K mg base "solution" ["rows"] 3 spSolution := D12.know X G (fun _ _ _ _ _ _ us hl => match us, hl with | [_], _ => rfl) fun f fd F => ok_solution F nLen nRange nList K11 K2
  have K13 : Know P w K mg base "hands_of_all" ["marks"] 4 spHands := D13.know X G (fun _ _ _ _ _ _ us hl => match us, hl with | [_], _ => rfl) fun f fd F => ok_hands F nRange cJ K10 K12
  have K14 : Know P w K mg base "has_mark" ["marks", "work"] 2 spHas := D14.know X G (fun _ _ _ _ _ _ us hl => match us, hl with | [_, _], _ => rfl) fun f fd F => ok_has F nLen K7
  have K15 : Know P w K mg base "put_right" ["marks", "hands", "work"] 4 spPut := D15.know X G (fun _ _ _ _ _ _ us hl => match us, hl with | [_, _, _], _ => rfl) fun f fd F => ok_put F nLen K7 K4 K3 K2
  have K16 : Know P w K mg base "rights_of" ["marks", "hands", "works"] 5 spRights := D16.know X G (fun _ _ _ _ _ _ us hl => match us, hl with | [_, _, _], _ => rfl) fun f fd F => ok_rights F K15
  have K17 : Know P w K mg base "compared_with" ["marks", "work"] 3 spCmp := D17.know X G (fun _ _ _ _ _ _ us hl => match us, hl with | [_, _], _ => rfl) fun f fd F => ok_cmp F nSet nSorted K7 K8 K9
  have K18 : Know P w K mg base "call_begin" ["marks"] 1 spBegin := D18.know X G (fun _ _ _ _ _ _ us hl => match us, hl with | [_], _ => rfl) fun f fd F => ok_begin F
  have K19 : Know P w K mg base "call_mark" ["marks", "judge", "work", "mark"] 1 spMark := D19.know X G (fun _ _ _ _ _ _ us hl => match us, hl with | [_, _, _, _], _ => rfl) fun f fd F => ok_mark F nLen cJ cW cM cO
  have K20 : Know P w K mg base "call_unmark" ["marks", "judge", "work"] 1 spUnmark := D20.know X G (fun _ _ _ _ _ _ us hl => match us, hl with | [_, _, _], _ => rfl) fun f fd F => ok_unmark F nLen cJ cW cO cN
  have K21 : Know P w K mg base "call_work" ["marks", "work"] 5 spWorkC := D21.know X G (fun _ _ _ _ _ _ us hl => match us, hl with | [_, _], _ => rfl) fun f fd F => ok_workC F cW cO cN K14 K15 K13
  have K22 : Know P w K mg base "call_hand" ["marks", "judge"] 5 spHandC := D22.know X G (fun _ _ _ _ _ _ us hl => match us, hl with | [_, _], _ => rfl) fun f fd F => ok_handC F nLen cJ cO cN K8 K13
  have K23 : Know P w K mg base "call_same" ["marks", "work", "other"] 4 spSameC := D23.know X G (fun _ _ _ _ _ _ us hl => match us, hl with | [_, _, _], _ => rfl) fun f fd F => ok_sameC F cW cO cN K14 K17
  have K24 : Know P w K mg base "sum_of_squares" ["marks"] 6 spSq := D24.know X G (fun _ _ _ _ _ _ us hl => match us, hl with | [_], _ => rfl) fun f fd F => ok_sq F nRange nList cJ cW K13 K16 K14 K6 K8 K5 K2
  have K25 : Know P w K mg base "call_off" ["marks"] 7 spOffC := D25.know X G (fun _ _ _ _ _ _ us hl => match us, hl with | [_], _ => rfl) fun f fd F => ok_offC F K24
  have K26 : Know P w K mg base "greatest_first" ["marks", "works"] 6 (spGreat T) := D26.know X G (fun _ _ _ _ _ _ us hl => match us, hl with | [_, _], _ => rfl) fun f fd F => ok_great F hL nSorted nList K13 K16 K6 K5
  have K27 : Know P w K mg base "call_order" ["marks", "work"] 7 (spOrderC T) := D27.know X G (fun _ _ _ _ _ _ us hl => match us, hl with | [_, _], _ => rfl) fun f fd F => ok_orderC F nLen cW cO cN K14 K17 K26
  have K28 : Know P w K mg base "answer_call" ["marks", "number", "given"] 8 (spCallT T) := D28.know X G (fun _ _ _ _ _ _ us hl => match us, hl with | [_, _, _], _ => rfl) fun f fd F => ok_callA F c0 c1 c2 c3 c4 c5 c6 K18 K19 K20 K21 K22 K23 K27 K25
  exact ok_ansT F0 nLen hA K28
end
end Lm
end
section
set_option Elab.async false
set_option linter.all false
open PySem PySem.W PyProof.Rows
theorem Lm.tab_mk {K : PySem.W.Frag} {x : Str} {f c T : Addr} {oc oc2 : Value} {od od2 : Option Addr} {sl sl2 : Array (Option Value)} {fd : FuncData} {vs : Array Value} (a : PySem.W.nsIn K mainGlobals x = some (some (.ref f))) (l : K.lookup f = some ⟨oc, od, .func fd, sl⟩) (hc : fd.code = .ref c)
    (l2 : K.lookup c = some ⟨oc2, od2, .fields vs, sl2⟩) (e : vs[11]? = some (.ref T)) : PySem.W.tabIn K x = some (c, T) := by
  unfold PySem.W.tabIn
  rw [a]
  dsimp only
  rw [l]
  dsimp only
  rw [hc]
  dsimp only
  rw [l2]
  dsimp only
  rw [e]
set_option maxRecDepth 100000 in
set_option maxHeartbeats 0 in
theorem PySem.Challenge.cw_likemarks_s01_answers_holds : PySem.Challenge.rw_likemarks_s01_answers.Holds := by
  w_on; k_headS; (case hw => exact ⟨[.list [.int 0]], by decide +kernel, by decide +kernel⟩)
  k_fillS
  refine' L2.walk_specT (r := PySem.Challenge.rw_likemarks_s01_answers) (k := 9) (c := ?cc) (T := ?tt) (ps := ["calls"]) (sp := Lm.spAnsT ?tt) (by decide +kernel) rfl rfl ⟨rfl, by decide, by decide⟩ (fun w h Y => PySem.W.kIn_of Y) ?T ?F ?S
  case T =>
    intro w s_0 mg mb h G Y
    have KX := PySem.W.kIn_of Y
    refine' ⟨PySem.W.tab_of (x := "greatest_first") G.T KX ?rf (Lm.tab_mk ?ta ?tl ?tc ?tl2 ?te), ?no⟩
    case ta => k_is
    case tl => k_is
    case tc => rfl
    case tl2 => k_is
    case te => rfl
    case rf => rfl
    case no => first | rfl | kernel_rfl
  case F =>
    intro w mg fa h Y KX G hmg
    refine' Lm.all_mk KX G hmg ?mcJ ?mcW ?mcM ?mcO ?mcN ?mc0 ?mc1 ?mc2 ?mc3 ?mc4 ?mc5 ?mc6 ?mcS ?mnLen ?mnRange ?mnAbs ?mnSet ?mnSorted ?mnList ?D1 ?D2 ?D3 ?D4 ?D5 ?D6 ?D7 ?D8 ?D9 ?D10 ?D11 ?D12 ?D13 ?D14 ?D15 ?D16 ?D17 ?D18 ?D19 ?D20 ?D21 ?D22 ?D23 ?D24 ?D25 ?D26 ?D27 ?D28 ?D0 ?hA
    (case mcJ => exact ⟨_, by k_is⟩)
    (case mcW => exact ⟨_, by k_is⟩)
    (case mcM => exact ⟨_, by k_is⟩)
    (case mcO => exact ⟨_, by k_is⟩)
    (case mcN => exact ⟨_, by k_is⟩)
    (case mc0 => exact ⟨_, by k_is⟩)
    (case mc1 => exact ⟨_, by k_is⟩)
    (case mc2 => exact ⟨_, by k_is⟩)
    (case mc3 => exact ⟨_, by k_is⟩)
    (case mc4 => exact ⟨_, by k_is⟩)
    (case mc5 => exact ⟨_, by k_is⟩)
    (case mc6 => exact ⟨_, by k_is⟩)
    (case mcS => exact ⟨_, by k_is⟩)
    (case mnLen => show PySem.W.nsIn _ _ _ = _; k_is)
    (case mnRange => show PySem.W.nsIn _ _ _ = _; k_is)
    (case mnAbs => show PySem.W.nsIn _ _ _ = _; k_is)
    (case mnSet => show PySem.W.nsIn _ _ _ = _; k_is)
    (case mnSorted => show PySem.W.nsIn _ _ _ = _; k_is)
    (case mnList => show PySem.W.nsIn _ _ _ = _; k_is)
    (case D1 => refine' Lm.def_mk ?a ?l ?c ?k; (case a => k_is); (case l => k_is); (case c => k_is); (case k => k_is))
    (case D2 => refine' Lm.def_mk ?a ?l ?c ?k; (case a => k_is); (case l => k_is); (case c => k_is); (case k => k_is))
    (case D3 => refine' Lm.def_mk ?a ?l ?c ?k; (case a => k_is); (case l => k_is); (case c => k_is); (case k => k_is))
    (case D4 => refine' Lm.def_mk ?a ?l ?c ?k; (case a => k_is); (case l => k_is); (case c => k_is); (case k => k_is))
    (case D5 => refine' Lm.def_mk ?a ?l ?c ?k; (case a => k_is); (case l => k_is); (case c => k_is); (case k => k_is))
    (case D6 => refine' Lm.def_mk ?a ?l ?c ?k; (case a => k_is); (case l => k_is); (case c => k_is); (case k => k_is))
    (case D7 => refine' Lm.def_mk ?a ?l ?c ?k; (case a => k_is); (case l => k_is); (case c => k_is); (case k => k_is))
    (case D8 => refine' Lm.def_mk ?a ?l ?c ?k; (case a => k_is); (case l => k_is); (case c => k_is); (case k => k_is))
    (case D9 => refine' Lm.def_mk ?a ?l ?c ?k; (case a => k_is); (case l => k_is); (case c => k_is); (case k => k_is))
    (case D10 => refine' Lm.def_mk ?a ?l ?c ?k; (case a => k_is); (case l => k_is); (case c => k_is); (case k => k_is))
    (case D11 => refine' Lm.def_mk ?a ?l ?c ?k; (case a => k_is); (case l => k_is); (case c => k_is); (case k => k_is))
    (case D12 => refine' Lm.def_mk ?a ?l ?c ?k; (case a => k_is); (case l => k_is); (case c => k_is); (case k => k_is))
    (case D13 => refine' Lm.def_mk ?a ?l ?c ?k; (case a => k_is); (case l => k_is); (case c => k_is); (case k => k_is))
    (case D14 => refine' Lm.def_mk ?a ?l ?c ?k; (case a => k_is); (case l => k_is); (case c => k_is); (case k => k_is))
    (case D15 => refine' Lm.def_mk ?a ?l ?c ?k; (case a => k_is); (case l => k_is); (case c => k_is); (case k => k_is))
    (case D16 => refine' Lm.def_mk ?a ?l ?c ?k; (case a => k_is); (case l => k_is); (case c => k_is); (case k => k_is))
    (case D17 => refine' Lm.def_mk ?a ?l ?c ?k; (case a => k_is); (case l => k_is); (case c => k_is); (case k => k_is))
    (case D18 => refine' Lm.def_mk ?a ?l ?c ?k; (case a => k_is); (case l => k_is); (case c => k_is); (case k => k_is))
    (case D19 => refine' Lm.def_mk ?a ?l ?c ?k; (case a => k_is); (case l => k_is); (case c => k_is); (case k => k_is))
    (case D20 => refine' Lm.def_mk ?a ?l ?c ?k; (case a => k_is); (case l => k_is); (case c => k_is); (case k => k_is))
    (case D21 => refine' Lm.def_mk ?a ?l ?c ?k; (case a => k_is); (case l => k_is); (case c => k_is); (case k => k_is))
    (case D22 => refine' Lm.def_mk ?a ?l ?c ?k; (case a => k_is); (case l => k_is); (case c => k_is); (case k => k_is))
    (case D23 => refine' Lm.def_mk ?a ?l ?c ?k; (case a => k_is); (case l => k_is); (case c => k_is); (case k => k_is))
    (case D24 => refine' Lm.def_mk ?a ?l ?c ?k; (case a => k_is); (case l => k_is); (case c => k_is); (case k => k_is))
    (case D25 => refine' Lm.def_mk ?a ?l ?c ?k; (case a => k_is); (case l => k_is); (case c => k_is); (case k => k_is))
    (case D26 => refine' Lm.defC_mk ?a ?l ?c ?k; (case a => k_is); (case l => k_is); (case c => k_is); (case k => k_is))
    (case D27 => refine' Lm.def_mk ?a ?l ?c ?k; (case a => k_is); (case l => k_is); (case c => k_is); (case k => k_is))
    (case D28 => refine' Lm.def_mk ?a ?l ?c ?k; (case a => k_is); (case l => k_is); (case c => k_is); (case k => k_is))
    (case D0 => refine' Lm.def_mk ?a ?l ?c ?k; (case a => k_is); (case l => k_is); (case c => k_is); (case k => k_is))
    (case hA => refine' Lm.cnts_mk KX G ?a ?l; (case a => k_is); (case l => k_is))
  case S =>
    intro K H xs a hT hwi hask hx
    cases hx with
    | cons h1 h2 =>
      cases h2
      cases h1 with
      | lst hs ha =>
        have e := L2.ints_dw a.1 _ ha
        subst e
        have q : (Codec.inLen 0 _ a.1 && a.1.all (Codec.inInt _ _) && true) = true := hwi
        rw [Bool.and_eq_true, Bool.and_eq_true] at q
        exact ⟨_, a.1, rfl, hs, .inl hT, hask, (Codec.inNat_iff.mp q.1.1).2, fun H' p hp => .lst (L2.SqL.of hp) (L2.dw_ints _)⟩
end
#print axioms PySem.Challenge.cw_likemarks_s01_answers_holds
