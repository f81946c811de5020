import PyProof.Rows.All
import PyKm448
import Wide.All
import OpenK.AllK
import Wide.FinOn
import Open.SpecLaws
import KE.OsGo
import HandS.ForMost
import HandS.ForSpec
import HandS.Conv
import HandS.WideBits
import PySem.Challenge.RW_calledshores_s01_answers
import HandS.SortKw
import KE.DatumOrd
set_option Elab.async false
/-! The flat list of calls, read call by call; nothing of the program stands here. -/
namespace CS
open Km448Neutral (S step step0 step1 may asked1 callOf told nats nums natural)
/-- a number of a call: 32 bits -/
def N32 (n : Nat) : Prop := n ≤ 4294967295
/-- a message as it may be handed in -/
def Six (m : List Nat) : Prop := m.length = 6 ∧ ∀ x ∈ m, N32 x
abbrev zints (m : List Nat) : List Int := m.map fun (x : Nat) => (x : Int)
/-- a call as it stands in the list: place k -/
def flat (k : Nat) : Km448.Call → List Int
  | .cStart me => [0, k, me]
  | .cSay a x y => [1, k, a, x, y]
  | .cTell => [2, k]
  | .cHear m => 3 :: k :: 6 :: zints m
  | .cKnown i => [4, k, i]
  | .cOpen => [5, k]
  | .cSaid i => [6, k, i]
  | .cWould m => 7 :: k :: 6 :: zints m
  | .cState => [8, k]
  | .sStart => [9, k]
  | .sHear m => 10 :: k :: 6 :: zints m
  | .sAnswer q => [11, k, q]
  | .sGet i => [12, k, i]
  | .sFind q i => [13, k, q, i]
  | .sOf q => [14, k, q]
  | .sGaps q => [15, k, q]
  | .sState => [16, k]
/-- a call that may be handed in -/
def Fine (k : Nat) : Km448.Call → Prop
  | .cStart me => k ≤ 2 ∧ N32 me
  | .cSay a x y => k ≤ 2 ∧ N32 a ∧ N32 x ∧ N32 y
  | .cTell => k ≤ 2
  | .cHear m => k ≤ 2 ∧ Six m
  | .cKnown i => k ≤ 2 ∧ N32 i
  | .cOpen => k ≤ 2
  | .cSaid i => k ≤ 2 ∧ N32 i
  | .cWould m => k ≤ 2 ∧ Six m
  | .cState => k ≤ 2
  | .sStart => k = 0
  | .sHear m => k = 0 ∧ Six m
  | .sAnswer q => k = 0 ∧ N32 q
  | .sGet i => k = 0 ∧ N32 i
  | .sFind q i => k = 0 ∧ N32 q ∧ N32 i
  | .sOf q => k = 0 ∧ N32 q
  | .sGaps q => k = 0 ∧ N32 q
  | .sState => k = 0
def stepK (s : S) (k : Nat) (x : Km448.Call) : S × List Int := match Km448.whose x with
  | 0 => step0 s k x
  | _ => step1 s k x
/-- what is left of a list, from a state, and what it answers -/
def Rest (s : S) (l out : List Int) : Prop := ∃ f cs, PyFlat.calls PyKm448.shape f l = some cs ∧ PyInside.calls PyKm448.bound cs = true ∧ (cs.map PyKm448.whole).all asked1 = true ∧
  may s (cs.map PyKm448.whole) = true ∧ out = PyFlat.told (PyFlat.played step s (cs.map PyKm448.whole))
theorem rest_nil {s : S} {out : List Int} (h : Rest s [] out) : out = [] := by
  obtain ⟨f, cs, hc, _, _, _, ho⟩ := h
  cases f <;> (simp only [PyFlat.calls, Option.some.injEq] at hc; subst hc; exact ho)
theorem within_nat {lo hi : Nat} {z : Int} (h : PyInside.within (lo : Int) (hi : Int) z = true) : ∃ n : Nat, z = (n : Int) ∧ lo ≤ n ∧ n ≤ hi := by
  unfold PyInside.within at h
  rw [Bool.and_eq_true, decide_eq_true_eq, decide_eq_true_eq] at h
  exact ⟨z.toNat, by omega, by omega, by omega⟩
theorem all_nat : ∀ {r : List Int}, r.all (PyInside.within 0 4294967295) = true → ∃ m : List Nat, r = zints m ∧ ∀ x ∈ m, N32 x
  | [], _ => ⟨[], rfl, by simp⟩
  | z :: r, h => by
    rw [List.all_cons, Bool.and_eq_true] at h
    obtain ⟨n, rfl, _, hn⟩ := within_nat (lo := 0) (hi := 4294967295) h.1
    obtain ⟨m, rfl, hm⟩ := all_nat h.2
    refine ⟨n :: m, rfl, fun x hx => ?_⟩
    rcases List.mem_cons.mp hx with rfl | hx
    · exact hn
    · exact hm x hx
theorem nats_ints (m : List Nat) : nats (zints m) = m := by
  unfold nats zints
  rw [List.map_map]
  exact (List.map_congr_left fun x _ => by simp).trans (List.map_id m)
/-- how a row of one call is read -/
theorem one_row {r : List Int} {xs : List (List Int)} {t : List Int} (h : PyFlat.rows 1 r = some (xs, t)) : ∃ n r', r = n :: r' ∧ 0 ≤ n ∧ n.toNat ≤ r'.length ∧ xs = [r'.take n.toNat] ∧ t = r'.drop n.toNat := by
  cases r with
  | nil => simp [PyFlat.rows, PyFlat.row] at h
  | cons n r' =>
    by_cases c : 0 ≤ n ∧ n.toNat ≤ r'.length
    · simp only [PyFlat.rows, PyFlat.row, if_pos c, Option.some.injEq, Prod.mk.injEq] at h
      exact ⟨n, r', rfl, c.1, c.2, h.1.symm, h.2.symm⟩
    · simp only [PyFlat.rows, PyFlat.row, if_neg c] at h
      cases h
theorem call_of {p : Int} {r t : List Int} {c : List (List Int)} {n q : Nat} (h : PyFlat.call PyKm448.shape (p :: r) = some (c, t)) (e : PyKm448.shape p = some (n, q)) :
    n ≤ r.length ∧ ∃ xs, PyFlat.rows q (r.drop n) = some (xs, t) ∧ c = (p :: r.take n) :: xs := by
  unfold PyFlat.call at h
  simp only [e] at h
  by_cases hl : r.length < n
  · rw [if_pos hl] at h
    cases h
  · rw [if_neg hl] at h
    refine ⟨by omega, ?_⟩
    cases hr : PyFlat.rows q (r.drop n) with
    | none =>
      rw [hr] at h
      cases h
    | some z =>
      obtain ⟨xs, t'⟩ := z
      rw [hr] at h
      simp only [Option.some.injEq, Prod.mk.injEq] at h
      obtain ⟨rfl, rfl⟩ := h
      exact ⟨xs, rfl, rfl⟩
theorem sh1 {p : Int} {r t : List Int} {c : List (List Int)} (h : PyFlat.call PyKm448.shape (p :: r) = some (c, t)) (e : PyKm448.shape p = some (1, 0)) : ∃ k, r = k :: t ∧ c = [[p, k]] := by
  obtain ⟨hl, xs, hr, hc⟩ := call_of h e
  simp only [PyFlat.rows, Option.some.injEq, Prod.mk.injEq] at hr
  match r, hl with
  | k :: r', _ => exact ⟨k, by rw [← hr.2]; rfl, by rw [hc, ← hr.1]; rfl⟩
theorem sh2 {p : Int} {r t : List Int} {c : List (List Int)} (h : PyFlat.call PyKm448.shape (p :: r) = some (c, t)) (e : PyKm448.shape p = some (2, 0)) : ∃ k a, r = k :: a :: t ∧ c = [[p, k, a]] := by
  obtain ⟨hl, xs, hr, hc⟩ := call_of h e
  simp only [PyFlat.rows, Option.some.injEq, Prod.mk.injEq] at hr
  match r, hl with
  | k :: a :: r', _ => exact ⟨k, a, by rw [← hr.2]; rfl, by rw [hc, ← hr.1]; rfl⟩
theorem sh3 {p : Int} {r t : List Int} {c : List (List Int)} (h : PyFlat.call PyKm448.shape (p :: r) = some (c, t)) (e : PyKm448.shape p = some (3, 0)) : ∃ k a b, r = k :: a :: b :: t ∧ c = [[p, k, a, b]] := by
  obtain ⟨hl, xs, hr, hc⟩ := call_of h e
  simp only [PyFlat.rows, Option.some.injEq, Prod.mk.injEq] at hr
  match r, hl with
  | k :: a :: b :: r', _ => exact ⟨k, a, b, by rw [← hr.2]; rfl, by rw [hc, ← hr.1]; rfl⟩
theorem sh4 {p : Int} {r t : List Int} {c : List (List Int)} (h : PyFlat.call PyKm448.shape (p :: r) = some (c, t)) (e : PyKm448.shape p = some (4, 0)) : ∃ k a b d, r = k :: a :: b :: d :: t ∧ c = [[p, k, a, b, d]] := by
  obtain ⟨hl, xs, hr, hc⟩ := call_of h e
  simp only [PyFlat.rows, Option.some.injEq, Prod.mk.injEq] at hr
  match r, hl with
  | k :: a :: b :: d :: r', _ => exact ⟨k, a, b, d, by rw [← hr.2]; rfl, by rw [hc, ← hr.1]; rfl⟩
theorem sh11 {p : Int} {r t : List Int} {c : List (List Int)} (h : PyFlat.call PyKm448.shape (p :: r) = some (c, t)) (e : PyKm448.shape p = some (1, 1)) : ∃ k n r', r = k :: n :: r' ∧ 0 ≤ n ∧ n.toNat ≤ r'.length ∧ c = [[p, k], r'.take n.toNat] ∧ t = r'.drop n.toNat := by
  obtain ⟨hl, xs, hr, hc⟩ := call_of h e
  match r, hl with
  | k :: r1, _ =>
    obtain ⟨n, r', e1, h0, h1, e2, e3⟩ := one_row (r := r1) hr
    exact ⟨k, n, r', by rw [e1], h0, h1, by rw [hc, e2]; rfl, e3⟩
/-- a message's row: six numbers -/
theorem six_row {n : Int} {r' : List Int} (h0 : 0 ≤ n) (h1 : n.toNat ≤ r'.length) (hb : (decide (6 ≤ (r'.take n.toNat).length) && decide ((r'.take n.toNat).length ≤ 6) && (r'.take n.toNat).all (PyInside.within 0 4294967295) && true) = true) :
    n = 6 ∧ ∃ m, r'.take n.toNat = zints m ∧ Six m ∧ r' = zints m ++ r'.drop n.toNat := by
  simp only [Bool.and_eq_true, decide_eq_true_eq, and_true] at hb
  rw [List.length_take, Nat.min_eq_left h1] at hb
  obtain ⟨m, em, hm⟩ := all_nat hb.2
  have e6 : m.length = 6 := by
    have := congrArg List.length em
    rw [List.length_take, Nat.min_eq_left h1, List.length_map] at this
    omega
  exact ⟨by omega, m, em, ⟨e6, hm⟩, by rw [← em, List.take_append_drop]⟩
/-- the place that a call's first row tells -/
def placed (c : List (List Int)) : Nat := if [0, 1, 2, 3, 4, 5, 6, 7, 8, 9, 10, 11, 12, 13, 14, 15, 16].contains ((c.getD 0 []).getD 0 0) then ((c.getD 0 []).getD 1 0).toNat else 0
/-- what one call of the list is -/
def Reads (p : Int) (r t : List Int) (c : List (List Int)) : Prop := ∃ k x, p :: r = flat k x ++ t ∧ Fine k x ∧ callOf (PyKm448.whole c) = some x ∧ placed (PyKm448.whole c) = k
theorem read_call {p : Int} {r t : List Int} {c : List (List Int)} (h : PyFlat.call PyKm448.shape (p :: r) = some (c, t)) (hb : PyInside.call PyKm448.bound c = true) : Reads p r t c := by
  have two : ∀ {lo hi lo2 hi2 : Nat} {k a : Int}, (PyInside.within (lo : Int) (hi : Int) k && PyInside.each [((lo2 : Int), (hi2 : Int))] [a] && PyInside.lists [] ([] : List (List Int))) = true →
      ∃ k' a' : Nat, k = k' ∧ a = a' ∧ lo ≤ k' ∧ k' ≤ hi ∧ lo2 ≤ a' ∧ a' ≤ hi2 := by
    intro lo hi lo2 hi2 k a h
    simp only [PyInside.each, PyInside.lists, Bool.and_eq_true, and_true] at h
    obtain ⟨k', e1, h1, h2⟩ := within_nat h.1
    obtain ⟨a', e2, h3, h4⟩ := within_nat h.2
    exact ⟨k', a', e1, e2, h1, h2, h3, h4⟩
  have one : ∀ {lo hi : Nat} {k : Int}, (PyInside.each [((lo : Int), (hi : Int))] [k] && PyInside.lists [] ([] : List (List Int))) = true → ∃ k' : Nat, k = k' ∧ lo ≤ k' ∧ k' ≤ hi := by
    intro lo hi k h
    simp only [PyInside.each, PyInside.lists, Bool.and_eq_true, and_true] at h
    exact within_nat h
  have row : ∀ {lo hi : Nat} {k n : Int} {r' : List Int}, 0 ≤ n → n.toNat ≤ r'.length → (PyInside.each [((lo : Int), (hi : Int))] [k] && PyInside.lists [(0, 4294967295, 6, 6)] [r'.take n.toNat]) = true →
      ∃ (k' : Nat) (m : List Nat), k = k' ∧ lo ≤ k' ∧ k' ≤ hi ∧ n = 6 ∧ r'.take n.toNat = zints m ∧ Six m ∧ r' = zints m ++ r'.drop n.toNat := by
    intro lo hi k n r' h0 h1 h
    rw [Bool.and_eq_true] at h
    have hk := h.1
    simp only [PyInside.each, Bool.and_eq_true, and_true] at hk
    obtain ⟨k', e1, h3, h4⟩ := within_nat hk
    obtain ⟨e6, m, em, hm, er⟩ := six_row h0 h1 h.2
    exact ⟨k', m, e1, h3, h4, e6, em, hm, er⟩
  by_cases p0 : p = 0
  · subst p0
    obtain ⟨k, a, rfl, rfl⟩ := sh2 h rfl
    obtain ⟨k, a, rfl, rfl, h1, h2, h3, h4⟩ := two (lo := 0) (hi := 2) (lo2 := 0) (hi2 := 4294967295) hb
    exact ⟨k, .cStart a, rfl, ⟨h2, h4⟩, rfl, rfl⟩
  by_cases p1 : p = 1
  · subst p1
    obtain ⟨k, a, b, d, rfl, rfl⟩ := sh4 h rfl
    have hb' : (PyInside.each [((0 : Int), (2 : Int)), (0, 4294967295), (0, 4294967295), (0, 4294967295)] [k, a, b, d] && PyInside.lists [] ([] : List (List Int))) = true := hb
    simp only [PyInside.each, PyInside.lists, Bool.and_eq_true, and_true] at hb'
    obtain ⟨k, rfl, _, h1⟩ := within_nat (lo := 0) (hi := 2) hb'.1
    obtain ⟨a, rfl, _, h2⟩ := within_nat (lo := 0) (hi := 4294967295) hb'.2.1
    obtain ⟨b, rfl, _, h3⟩ := within_nat (lo := 0) (hi := 4294967295) hb'.2.2.1
    obtain ⟨d, rfl, _, h4⟩ := within_nat (lo := 0) (hi := 4294967295) hb'.2.2.2
    exact ⟨k, .cSay a b d, rfl, ⟨h1, h2, h3, h4⟩, rfl, rfl⟩
  by_cases p2 : p = 2
  · subst p2
    obtain ⟨k, rfl, rfl⟩ := sh1 h rfl
    obtain ⟨k, rfl, h1, h2⟩ := one (lo := 0) (hi := 2) hb
    exact ⟨k, .cTell, rfl, h2, rfl, rfl⟩
  by_cases p3 : p = 3
  · subst p3
    obtain ⟨k, n, r', rfl, h0, h1, rfl, rfl⟩ := sh11 h rfl
    obtain ⟨k, m, rfl, h2, h3, rfl, em, hm, er⟩ := row (lo := 0) (hi := 2) h0 h1 hb
    refine ⟨k, .cHear m, ?_, ⟨h3, hm⟩, ?_, rfl⟩
    · exact congrArg (fun z => (3 : Int) :: (k : Int) :: (6 : Int) :: z) er
    · rw [em]
      exact congrArg (fun z => some (Km448.Call.cHear z)) (nats_ints m)
  by_cases p4 : p = 4
  · subst p4
    obtain ⟨k, a, rfl, rfl⟩ := sh2 h rfl
    obtain ⟨k, a, rfl, rfl, h1, h2, h3, h4⟩ := two (lo := 0) (hi := 2) (lo2 := 0) (hi2 := 4294967295) hb
    exact ⟨k, .cKnown a, rfl, ⟨h2, h4⟩, rfl, rfl⟩
  by_cases p5 : p = 5
  · subst p5
    obtain ⟨k, rfl, rfl⟩ := sh1 h rfl
    obtain ⟨k, rfl, h1, h2⟩ := one (lo := 0) (hi := 2) hb
    exact ⟨k, .cOpen, rfl, h2, rfl, rfl⟩
  by_cases p6 : p = 6
  · subst p6
    obtain ⟨k, a, rfl, rfl⟩ := sh2 h rfl
    obtain ⟨k, a, rfl, rfl, h1, h2, h3, h4⟩ := two (lo := 0) (hi := 2) (lo2 := 0) (hi2 := 4294967295) hb
    exact ⟨k, .cSaid a, rfl, ⟨h2, h4⟩, rfl, rfl⟩
  by_cases p7 : p = 7
  · subst p7
    obtain ⟨k, n, r', rfl, h0, h1, rfl, rfl⟩ := sh11 h rfl
    obtain ⟨k, m, rfl, h2, h3, rfl, em, hm, er⟩ := row (lo := 0) (hi := 2) h0 h1 hb
    refine ⟨k, .cWould m, ?_, ⟨h3, hm⟩, ?_, rfl⟩
    · exact congrArg (fun z => (7 : Int) :: (k : Int) :: (6 : Int) :: z) er
    · rw [em]
      exact congrArg (fun z => some (Km448.Call.cWould z)) (nats_ints m)
  by_cases p8 : p = 8
  · subst p8
    obtain ⟨k, rfl, rfl⟩ := sh1 h rfl
    obtain ⟨k, rfl, h1, h2⟩ := one (lo := 0) (hi := 2) hb
    exact ⟨k, .cState, rfl, h2, rfl, rfl⟩
  by_cases p9 : p = 9
  · subst p9
    obtain ⟨k, rfl, rfl⟩ := sh1 h rfl
    obtain ⟨k, rfl, h1, h2⟩ := one (lo := 0) (hi := 0) hb
    exact ⟨k, .sStart, rfl, (by show k = 0; omega), rfl, rfl⟩
  by_cases p10 : p = 10
  · subst p10
    obtain ⟨k, n, r', rfl, h0, h1, rfl, rfl⟩ := sh11 h rfl
    obtain ⟨k, m, rfl, h2, h3, rfl, em, hm, er⟩ := row (lo := 0) (hi := 0) h0 h1 hb
    refine ⟨k, .sHear m, ?_, ⟨by omega, hm⟩, ?_, rfl⟩
    · exact congrArg (fun z => (10 : Int) :: (k : Int) :: (6 : Int) :: z) er
    · rw [em]
      exact congrArg (fun z => some (Km448.Call.sHear z)) (nats_ints m)
  by_cases p11 : p = 11
  · subst p11
    obtain ⟨k, a, rfl, rfl⟩ := sh2 h rfl
    obtain ⟨k, a, rfl, rfl, h1, h2, h3, h4⟩ := two (lo := 0) (hi := 0) (lo2 := 0) (hi2 := 4294967295) hb
    exact ⟨k, .sAnswer a, rfl, ⟨by omega, h4⟩, rfl, rfl⟩
  by_cases p12 : p = 12
  · subst p12
    obtain ⟨k, a, rfl, rfl⟩ := sh2 h rfl
    obtain ⟨k, a, rfl, rfl, h1, h2, h3, h4⟩ := two (lo := 0) (hi := 0) (lo2 := 0) (hi2 := 4294967295) hb
    exact ⟨k, .sGet a, rfl, ⟨by omega, h4⟩, rfl, rfl⟩
  by_cases p13 : p = 13
  · subst p13
    obtain ⟨k, a, b, rfl, rfl⟩ := sh3 h rfl
    have hb' : (PyInside.each [((0 : Int), (0 : Int)), (0, 4294967295), (0, 4294967295)] [k, a, b] && PyInside.lists [] ([] : List (List Int))) = true := hb
    simp only [PyInside.each, PyInside.lists, Bool.and_eq_true, and_true] at hb'
    obtain ⟨k, rfl, _, h1⟩ := within_nat (lo := 0) (hi := 0) hb'.1
    obtain ⟨a, rfl, _, h2⟩ := within_nat (lo := 0) (hi := 4294967295) hb'.2.1
    obtain ⟨b, rfl, _, h3⟩ := within_nat (lo := 0) (hi := 4294967295) hb'.2.2
    exact ⟨k, .sFind a b, rfl, ⟨by omega, h2, h3⟩, rfl, rfl⟩
  by_cases p14 : p = 14
  · subst p14
    obtain ⟨k, a, rfl, rfl⟩ := sh2 h rfl
    obtain ⟨k, a, rfl, rfl, h1, h2, h3, h4⟩ := two (lo := 0) (hi := 0) (lo2 := 0) (hi2 := 4294967295) hb
    exact ⟨k, .sOf a, rfl, ⟨by omega, h4⟩, rfl, rfl⟩
  by_cases p15 : p = 15
  · subst p15
    obtain ⟨k, a, rfl, rfl⟩ := sh2 h rfl
    obtain ⟨k, a, rfl, rfl, h1, h2, h3, h4⟩ := two (lo := 0) (hi := 0) (lo2 := 0) (hi2 := 4294967295) hb
    exact ⟨k, .sGaps a, rfl, ⟨by omega, h4⟩, rfl, rfl⟩
  by_cases p16 : p = 16
  · subst p16
    obtain ⟨k, rfl, rfl⟩ := sh1 h rfl
    obtain ⟨k, rfl, h1, h2⟩ := one (lo := 0) (hi := 0) hb
    exact ⟨k, .sState, rfl, (by show k = 0; omega), rfl, rfl⟩
  have hs : PyKm448.shape p = none := by
    unfold PyKm448.shape
    simp only [p0, p1, p2, p3, p4, p5, p6, p7, p8, p9, p10, p11, p12, p13, p14, p15, p16, if_false]
  unfold PyFlat.call at h
  simp only [hs] at h
  cases h
theorem step_read {s : S} {c : List (List Int)} {k : Nat} {x : Km448.Call} (h : callOf c = some x) (hk : placed c = k) : step s c = stepK s k x := by
  subst hk
  unfold step
  rw [h]
  rfl
/-- the first call of what is left -/
theorem rest_cons {s : S} {p : Int} {r out : List Int} (h : Rest s (p :: r) out) : ∃ k x l' out', p :: r = flat k x ++ l' ∧ Fine k x ∧ (stepK s k x).2 ≠ [] ∧
    out = ((stepK s k x).2.length : Int) :: (stepK s k x).2 ++ out' ∧ Rest (stepK s k x).1 l' out' := by
  obtain ⟨f, cs, hc, hb, ha, hm, ho⟩ := h
  cases f with
  | zero => cases hc
  | succ f =>
    unfold PyFlat.calls at hc
    cases e1 : PyFlat.call PyKm448.shape (p :: r) with
    | none =>
      rw [e1] at hc
      cases hc
    | some z =>
      obtain ⟨c, t⟩ := z
      rw [e1] at hc
      cases e2 : PyFlat.calls PyKm448.shape f t with
      | none =>
        simp only [e2] at hc
        cases hc
      | some cs' =>
        simp only [e2, Option.some.injEq] at hc
        subst hc
        unfold PyInside.calls at hb
        rw [List.all_cons, Bool.and_eq_true] at hb
        rw [List.map_cons, List.all_cons, Bool.and_eq_true] at ha
        rw [List.map_cons] at hm ho
        unfold may at hm
        rw [Bool.and_eq_true] at hm
        obtain ⟨k, x, e3, hf, h4, h5⟩ := read_call e1 hb.1
        have e6 : step s (PyKm448.whole c) = stepK s k x := step_read h4 h5
        rw [e6] at hm
        refine ⟨k, x, t, PyFlat.told (PyFlat.played step (stepK s k x).1 (cs'.map PyKm448.whole)), e3, hf, ?_, ?_, f, cs', e2, hb.2, ha.2, hm.2, rfl⟩
        · intro q
          rw [q] at hm
          exact absurd hm.1 (by decide)
        · rw [ho, show PyFlat.played step s (PyKm448.whole c :: cs'.map PyKm448.whole) = (step s (PyKm448.whole c)).2 :: PyFlat.played step (step s (PyKm448.whole c)).1 (cs'.map PyKm448.whole) from rfl, e6]
          rfl
/-- all that may be handed in -/
theorem rest_all {l : List Int} (h : PyKm448.answers_asked l = true) : Rest Km448Neutral.start l (PyKm448.answers l) ∧ (PyKm448.answers l).length ≤ 10000000 := by
  unfold PyKm448.answers_asked at h
  cases e : PyFlat.calls PyKm448.shape l.length l with
  | none =>
    rw [e] at h
    cases h
  | some raw =>
    rw [e] at h
    simp only [Bool.and_eq_true] at h
    obtain ⟨⟨⟨⟨_, _⟩, hb⟩, ha⟩, hs⟩ := h
    unfold Km448Neutral.asked at ha
    simp only [Bool.and_eq_true] at ha
    refine ⟨⟨l.length, raw, e, hb, ha.2.2.1, ha.2.2.2, ?_⟩, ?_⟩
    · unfold PyKm448.answers PyKm448.calls
      rw [e]
    · unfold PyFlat.short at hs
      exact of_decide_eq_true hs
end CS
set_option Elab.async false
/-! What a caller is: lemmas about the specification's own functions, in the words in which a program may say them. -/
namespace CS
open Km448
theorem range_find {n i : Nat} {p : Nat → Bool} (hi : i < n) (hp : p i = true) (hj : ∀ j, j < i → p j = false) : (List.range n).find? p = some i := by
  rw [List.find?_range_eq_some]
  exact ⟨hp, List.mem_range.mpr hi, fun j h => by rw [hj j h]; rfl⟩
theorem range_find_none {n : Nat} {p : Nat → Bool} (h : ∀ j, j < n → p j = false) : (List.range n).find? p = none := by
  rw [List.find?_eq_none]
  intro j hj
  rw [h j (List.mem_range.mp hj)]
  exact Bool.false_ne_true
/-- what always holds of a caller -/
structure Ok (c : Caller) : Prop where
  len : c.known.length = c.said.length
  most : c.said.length ≤ 30
  last : c.last ≤ 30
  me : c.me ≤ 3
  told : c.told ≤ 1000000
  what : ∀ w ∈ c.said, w.kind ≤ 9 ∧ w.x ≤ 1000000 ∧ w.y ≤ 1000000
theorem ok_new {me : Nat} (h : me ≤ 3) : Ok (caller0 me) := ⟨rfl, Nat.zero_le _, Nat.le_refl _, h, Nat.zero_le _, fun w hw => by cases hw⟩
/-- n is the first, from start on, that isn't known; or how many there are -/
structure FirstAt (known : List Bool) (start n : Nat) : Prop where
  ge : start ≤ n
  before : ∀ i, start ≤ i → i < n → known[i]? = some true
  at_ : n < known.length → known[n]? = some false
theorem FirstAt.le {known : List Bool} {start n : Nat} (h : FirstAt known start n) (hs : start ≤ known.length) : n ≤ known.length := by
  by_cases c : n ≤ known.length
  · exact c
  · have := h.before known.length hs (by omega)
    rw [List.getElem?_eq_none (Nat.le_refl _)] at this
    cases this
theorem knows_of {c : Caller} {i : Nat} {b : Bool} (h : c.known[i]? = some b) : c.knows i = b := by
  unfold Caller.knows
  rw [List.getD_eq_getElem?_getD, h]
  rfl
theorem open_find {c : Caller} {q : Nat → Bool} : c.open_.find? q = (List.range c.said.length).find? fun i => !c.knows i && q i := by
  unfold Caller.open_
  rw [List.find?_filter]
  refine congrArg (fun f => List.find? f (List.range c.said.length)) (funext fun a => ?_)
  rw [Bool.decide_and, Bool.decide_eq_true, Bool.decide_eq_true]
theorem open_head {c : Caller} : c.open_.head? = (List.range c.said.length).find? fun i => !c.knows i := by
  unfold Caller.open_
  rw [List.head?_filter]
theorem head_of {c : Caller} {n : Nat} (o : Ok c) (h : FirstAt c.known 0 n) : c.open_.head? = if n < c.said.length then some n else none := by
  rw [open_head]
  by_cases hn : n < c.said.length
  · rw [if_pos hn]
    exact range_find hn (by rw [knows_of (h.at_ (by rw [o.len]; exact hn))]; rfl) fun j hj => by
      rw [knows_of (h.before j (Nat.zero_le _) hj)]
      rfl
  · rw [if_neg hn]
    exact range_find_none fun j hj => by
      rw [knows_of (h.before j (Nat.zero_le _) (by omega))]
      rfl
theorem first_of {c : Caller} {n : Nat} (o : Ok c) (h : FirstAt c.known 0 n) : c.first = n := by
  unfold Caller.first
  have hle := h.le (Nat.zero_le _)
  rw [o.len] at hle
  rw [List.headD_eq_head?_getD, head_of o h]
  by_cases hn : n < c.said.length
  · rw [if_pos hn]
    rfl
  · rw [if_neg hn]
    show c.said.length = n
    omega
/-- where the next telling looks first -/
def tellFrom (c : Caller) : Nat := if c.last = 30 then 0 else c.last + 1
theorem tellFrom_le {c : Caller} (o : Ok c) : tellFrom c ≤ 30 := by
  unfold tellFrom
  have := o.last
  by_cases h : c.last = 30
  · rw [if_pos h]; omega
  · rw [if_neg h]; omega
theorem next_here {c : Caller} {n : Nat} (o : Ok c) (h : FirstAt c.known (tellFrom c) n) (hn : n < c.said.length) : c.next = some n := by
  have hk : c.knows n = false := knows_of (h.at_ (by rw [o.len]; exact hn))
  have hm := o.most
  by_cases hl : c.last = 30
  · have ht : tellFrom c = 0 := by unfold tellFrom; rw [if_pos hl]
    rw [ht] at h
    have hf : (c.open_.find? fun i => decide (c.last < i) && decide (c.last < CALLS)) = none := by
      rw [open_find]
      exact range_find_none fun j hj => by
        rw [hl]
        show (!c.knows j && (decide (30 < j) && false)) = false
        rw [Bool.and_false, Bool.and_false]
    unfold Caller.next
    rw [hf, head_of o h, if_pos hn]
  · have ht : tellFrom c = c.last + 1 := by unfold tellFrom; rw [if_neg hl]
    rw [ht] at h
    have ho := o.last
    have hf : (c.open_.find? fun i => decide (c.last < i) && decide (c.last < CALLS)) = some n := by
      rw [open_find]
      refine range_find hn ?_ fun j hj => ?_
      · rw [hk, decide_eq_true (show c.last < n from h.ge), decide_eq_true (show c.last < CALLS by show c.last < 30; omega)]
        rfl
      · by_cases hj2 : c.last < j
        · rw [knows_of (h.before j hj2 hj)]
          rfl
        · rw [decide_eq_false hj2, Bool.false_and, Bool.and_false]
    unfold Caller.next
    rw [hf]
theorem next_round {c : Caller} {n n0 : Nat} (o : Ok c) (h : FirstAt c.known (tellFrom c) n) (hn : ¬ n < c.said.length) (h0 : FirstAt c.known 0 n0) :
    c.next = if n0 < c.said.length then some n0 else none := by
  have hf : (c.open_.find? fun i => decide (c.last < i) && decide (c.last < CALLS)) = none := by
    rw [open_find]
    refine range_find_none fun j hj => ?_
    by_cases hl : c.last = 30
    · rw [hl]
      show (!c.knows j && (decide (30 < j) && false)) = false
      rw [Bool.and_false, Bool.and_false]
    · have ht : tellFrom c = c.last + 1 := by unfold tellFrom; rw [if_neg hl]
      rw [ht] at h
      by_cases hj2 : c.last < j
      · rw [knows_of (h.before j hj2 (by omega))]
        rfl
      · rw [decide_eq_false hj2, Bool.false_and, Bool.and_false]
  unfold Caller.next
  rw [hf]
  exact head_of o h0
/-! ### answers -/
/-- the calls of which an answer tells: how many are all there, the bits -/
def tells (n b i : Nat) : Bool := decide (i < n) || (decide (n + 1 ≤ i) && (decide (i < n + 1 + 8) && b.testBit (i - (n + 1))))
def toldBits (n b : Nat) : List Nat := ((List.range 8).filter fun j => b.testBit j).map fun j => n + 1 + j
def toldList (n b : Nat) : List Nat := List.range n ++ toldBits n b
/-- two rising lists with the same members are one -/
theorem rising_ext : ∀ {l m : List Nat}, l.Pairwise (· < ·) → m.Pairwise (· < ·) → (∀ x, x ∈ l ↔ x ∈ m) → l = m
  | [], [], _, _, _ => rfl
  | [], y :: m, _, _, h => by have := (h y).mpr (List.mem_cons_self ..); cases this
  | x :: l, [], _, _, h => by have := (h x).mp (List.mem_cons_self ..); cases this
  | x :: l, y :: m, hl, hm, h => by
    have hl' := List.pairwise_cons.mp hl
    have hm' := List.pairwise_cons.mp hm
    have e : x = y := by
      rcases List.mem_cons.mp ((h x).mp (List.mem_cons_self ..)) with e | hx
      · exact e
      · rcases List.mem_cons.mp ((h y).mpr (List.mem_cons_self ..)) with e | hy
        · exact e.symm
        · have h1 := hm'.1 x hx
          have h2 := hl'.1 y hy
          omega
    subst e
    refine congrArg (x :: ·) (rising_ext hl'.2 hm'.2 fun z => ⟨fun hz => ?_, fun hz => ?_⟩)
    · rcases List.mem_cons.mp ((h z).mp (List.mem_cons_of_mem _ hz)) with e | hz'
      · have := hl'.1 z hz
        omega
      · exact hz'
    · rcases List.mem_cons.mp ((h z).mpr (List.mem_cons_of_mem _ hz)) with e | hz'
      · have := hm'.1 z hz
        omega
      · exact hz'
theorem mem_toldBits {n b x : Nat} : x ∈ toldBits n b ↔ n + 1 ≤ x ∧ x < n + 1 + 8 ∧ b.testBit (x - (n + 1)) = true := by
  unfold toldBits
  rw [List.mem_map]
  constructor
  · rintro ⟨j, hj, rfl⟩
    rw [List.mem_filter, List.mem_range] at hj
    refine ⟨by omega, by omega, ?_⟩
    rw [show n + 1 + j - (n + 1) = j by omega]
    exact hj.2
  · rintro ⟨h1, h2, h3⟩
    exact ⟨x - (n + 1), List.mem_filter.mpr ⟨List.mem_range.mpr (by omega), h3⟩, by omega⟩
theorem mem_toldList {n b x : Nat} : x ∈ toldList n b ↔ tells n b x = true := by
  unfold toldList tells
  rw [List.mem_append, mem_toldBits, List.mem_range, Bool.or_eq_true, Bool.and_eq_true, Bool.and_eq_true, decide_eq_true_eq, decide_eq_true_eq, decide_eq_true_eq]
theorem toldList_rising (n b : Nat) : (toldList n b).Pairwise (· < ·) := by
  unfold toldList
  rw [List.pairwise_append]
  refine ⟨List.pairwise_lt_range, ?_, fun x hx y hy => ?_⟩
  · unfold toldBits
    rw [List.pairwise_map]
    exact (List.pairwise_lt_range.filter _).imp fun h => by omega
  · have := mem_toldBits.mp hy
    rw [List.mem_range] at hx
    omega
theorem toldList_eq {n b len : Nat} (h : ∀ x ∈ toldList n b, x < len) : toldList n b = (List.range len).filter fun i => tells n b i := by
  refine rising_ext (toldList_rising n b) (List.pairwise_lt_range.filter _) fun x => ?_
  rw [List.mem_filter, List.mem_range, ← mem_toldList]
  exact ⟨fun hx => ⟨h x hx, hx⟩, fun hx => hx.2⟩
theorem good_six {c : Caller} {m0 m1 m2 m3 m4 m5 : Nat} : c.good [m0, m1, m2, m3, m4, m5] = true ↔
    m0 = 2 ∧ m1 = c.me ∧ m4 = 0 ∧ m5 = 0 ∧ m2 ≤ c.said.length ∧ m3 < 256 ∧ ∀ x ∈ toldList m2 m3, x < c.said.length := by
  have key : (k n b : Nat) → (c.good [2, k, n, b, 0, 0] = true ↔ k = c.me ∧ n ≤ c.said.length ∧ b < 256 ∧ ∀ x ∈ toldList n b, x < c.said.length) := by
    intro k n b
    show (k == c.me && (decide (n ≤ c.said.length) && (decide (b < 2 ^ WINDOW) && (List.range WINDOW).all fun j => !(b.testBit j) || decide (n + 1 + j < c.said.length)))) = true ↔ _
    rw [Bool.and_eq_true, Bool.and_eq_true, Bool.and_eq_true, decide_eq_true_eq, decide_eq_true_eq, List.all_eq_true, beq_iff_eq]
    refine and_congr_right fun _ => and_congr_right fun hn => and_congr_right fun _ => ⟨fun h x hx => ?_, fun h j hj => ?_⟩
    · unfold toldList at hx
      rcases List.mem_append.mp hx with hx | hx
      · rw [List.mem_range] at hx
        omega
      · obtain ⟨h1, h2, h3⟩ := mem_toldBits.mp hx
        have := h (x - (n + 1)) (List.mem_range.mpr (by show _ < 8; omega))
        rw [h3] at this
        have := of_decide_eq_true ((Bool.false_or _).symm.trans this)
        omega
    · cases hb : b.testBit j with
      | false => rfl
      | true =>
        have hj' : j < 8 := List.mem_range.mp hj
        have := h (n + 1 + j) (List.mem_append_right _ (mem_toldBits.mpr ⟨by omega, by omega, by rw [show n + 1 + j - (n + 1) = j by omega]; exact hb⟩))
        rw [decide_eq_true this]
        rfl
  by_cases h0 : m0 = 2
  · by_cases h4 : m4 = 0
    · by_cases h5 : m5 = 0
      · subst h0 h4 h5
        rw [key]
        simp
      · constructor
        · intro h
          unfold Caller.good at h
          split at h
          · rename_i e
            simp only [List.cons.injEq] at e
            exact absurd e.2.2.2.2.2.1 h5
          · cases h
        · exact fun h => absurd h.2.2.2.1 h5
    · constructor
      · intro h
        unfold Caller.good at h
        split at h
        · rename_i e
          simp only [List.cons.injEq] at e
          exact absurd e.2.2.2.2.1 h4
        · cases h
      · exact fun h => absurd h.2.2.1 h4
  · constructor
    · intro h
      unfold Caller.good at h
      split at h
      · rename_i e
        simp only [List.cons.injEq] at e
        exact absurd e.1 h0
      · cases h
    · exact fun h => absurd h.1 h0
/-- which of an answer's weren't known -/
def newly (c : Caller) (n b : Nat) : List Nat := (toldList n b).filter fun i => !c.knows i
def setAll (known : List Bool) (l : List Nat) : List Bool := l.foldl (fun k i => k.set i true) known
theorem setAll_len : ∀ (l : List Nat) (known : List Bool), (setAll known l).length = known.length
  | [], _ => rfl
  | i :: l, known => by
    show (setAll (known.set i true) l).length = _
    rw [setAll_len l, List.length_set]
theorem setAll_get : ∀ (l : List Nat) (known : List Bool) (i : Nat), (setAll known l)[i]? = if i ∈ l ∧ i < known.length then some true else known[i]?
  | [], known, i => by simp [setAll]
  | j :: l, known, i => by
    show (setAll (known.set j true) l)[i]? = _
    rw [setAll_get l, List.length_set]
    by_cases h1 : i < known.length
    · by_cases h2 : i ∈ l
      · rw [if_pos ⟨h2, h1⟩, if_pos ⟨List.mem_cons_of_mem _ h2, h1⟩]
      · rw [if_neg (fun h => h2 h.1), List.getElem?_set]
        by_cases h3 : j = i
        · subst h3
          rw [if_pos rfl, if_pos h1, if_pos ⟨List.mem_cons_self .., h1⟩]
        · rw [if_neg h3, if_neg]
          rintro ⟨h, _⟩
          rcases List.mem_cons.mp h with h | h
          · exact h3 h.symm
          · exact h2 h
    · rw [if_neg (fun h => h1 h.2), if_neg (fun h => h1 h.2), List.getElem?_set]
      by_cases h3 : j = i
      · subst h3
        rw [if_pos rfl, if_neg h1, List.getElem?_eq_none (by omega)]
      · rw [if_neg h3]
theorem hears_eq {c : Caller} (k n b x y z : Nat) : c.hears [x, k, n, b, y, z] = { c with known := (List.range c.said.length).map fun i => c.knows i || tells n b i } := rfl
/-- the hearing, item by item -/
theorem hears_known {c : Caller} {n b : Nat} (o : Ok c) (k x y z : Nat) : (c.hears [x, k, n, b, y, z]).known = setAll c.known (newly c n b) := by
  rw [hears_eq]
  refine List.ext_getElem? fun i => ?_
  rw [setAll_get, o.len]
  by_cases hi : i < c.said.length
  · rw [List.getElem?_map, List.getElem?_range hi]
    have hi2 : i < c.known.length := by rw [o.len]; exact hi
    have ek : c.known[i]? = some (c.knows i) := by
      rw [List.getElem?_eq_getElem hi2, knows_of (List.getElem?_eq_getElem hi2)]
    show some (c.knows i || tells n b i) = _
    by_cases hm : i ∈ newly c n b
    · rw [if_pos ⟨hm, hi⟩]
      unfold newly at hm
      rw [List.mem_filter, mem_toldList] at hm
      rw [hm.1, Bool.or_true]
    · rw [if_neg (fun h => hm h.1), ek]
      unfold newly at hm
      rw [List.mem_filter, mem_toldList] at hm
      cases e1 : c.knows i with
      | true => rfl
      | false =>
        cases e2 : tells n b i with
        | false => rfl
        | true => exact absurd ⟨e2, by rw [e1]; rfl⟩ hm
  · rw [if_neg (fun h => hi h.2), List.getElem?_eq_none (by rw [List.length_map, List.length_range]; omega), List.getElem?_eq_none (by rw [o.len]; omega)]
theorem ok_hears {c : Caller} (o : Ok c) (m : List Nat) : Ok (c.hears m) :=
  ⟨by show ((List.range c.said.length).map _).length = c.said.length; rw [List.length_map, List.length_range], o.most, o.last, o.me, o.told, o.what⟩
theorem newly_eq {c : Caller} {n b : Nat} (h : ∀ x ∈ toldList n b, x < c.said.length) : newly c n b = c.open_.filter fun i => tells n b i := by
  unfold newly Caller.open_
  rw [toldList_eq h, List.filter_filter, List.filter_filter]
  exact List.filter_congr fun x _ => Bool.and_comm _ _
theorem filter_two (p : Nat → Bool) : ∀ l : List Nat, l.length = (l.filter p).length + (l.filter fun i => !p i).length
  | [] => rfl
  | x :: l => by
    have ih := filter_two p l
    cases e : p x with
    | true =>
      rw [List.filter_cons_of_pos e, List.filter_cons_of_neg (by rw [e]; decide), List.length_cons, List.length_cons]
      omega
    | false =>
      rw [List.filter_cons_of_neg (by rw [e]; decide), List.filter_cons_of_pos (by rw [e]; decide), List.length_cons, List.length_cons]
      omega
theorem newly_len {c : Caller} {n b : Nat} (o : Ok c) (h : ∀ x ∈ toldList n b, x < c.said.length) (k x y z : Nat) :
    (newly c n b).length = c.open_.length - (c.hears [x, k, n, b, y, z]).open_.length := by
  have e : (c.hears [x, k, n, b, y, z]).open_ = c.open_.filter fun i => !tells n b i := by
    unfold Caller.open_
    rw [List.filter_filter]
    show (List.range c.said.length).filter _ = _
    refine List.filter_congr fun i hi => ?_
    have hi' := List.mem_range.mp hi
    have : (c.hears [x, k, n, b, y, z]).knows i = (c.knows i || tells n b i) := by
      refine knows_of ?_
      rw [hears_eq]
      rw [List.getElem?_map, List.getElem?_range hi']
      rfl
    rw [this, Bool.not_or, Bool.and_comm]
  rw [newly_eq h, e]
  have := filter_two (fun i => tells n b i) c.open_
  omega
end CS
set_option Elab.async false
/-! What each call of a caller comes to. -/
namespace CS
open Km448
theorem next_lt {c : Caller} {i : Nat} (h : c.next = some i) : i < c.said.length := by
  have mem : ∀ {x}, x ∈ c.open_ → x < c.said.length := fun hx => by
    unfold Caller.open_ at hx
    exact List.mem_range.mp (List.mem_filter.mp hx).1
  unfold Caller.next at h
  split at h
  · rename_i j e
    cases h
    exact mem (List.mem_of_find?_eq_some e)
  · exact mem (List.mem_of_head? h)
theorem ok_does {c : Caller} (o : Ok c) (x : Call) (hw : whose x = 0) : Ok (cDoes c x).1 := by
  cases x <;> first | exact o | skip
  case cStart me =>
    show Ok (if CALLERS ≤ me then (c, only (-22)) else (caller0 me, only 0)).1
    by_cases h : CALLERS ≤ me
    · rw [if_pos h]; exact o
    · rw [if_neg h]
      exact ok_new (by have : ¬ 4 ≤ me := h; omega)
  case cSay k x y =>
    show Ok (if okWhat ⟨k, x, y⟩ = false then (c, only (-22)) else if CALLS ≤ c.said.length ∨ c.first + WINDOW ≤ c.said.length then (c, only (-28)) else ({ c with said := c.said ++ [⟨k, x, y⟩], known := c.known ++ [false] }, only ((c.said.length : Nat) : Int))).1
    by_cases h : okWhat ⟨k, x, y⟩ = false
    · rw [if_pos h]; exact o
    · rw [if_neg h]
      by_cases h2 : CALLS ≤ c.said.length ∨ c.first + WINDOW ≤ c.said.length
      · rw [if_pos h2]; exact o
      · rw [if_neg h2]
        have h3 : ¬ 30 ≤ c.said.length := fun z => h2 (Or.inl z)
        refine ⟨?_, ?_, o.last, o.me, o.told, fun w hw => ?_⟩
        · show (c.known ++ [false]).length = (c.said ++ [_]).length
          rw [List.length_append, List.length_append, o.len]
          rfl
        · show (c.said ++ [_]).length ≤ 30
          rw [List.length_append]
          show c.said.length + 1 ≤ 30
          omega
        · rcases List.mem_append.mp hw with hw | hw
          · exact o.what w hw
          · rw [List.mem_singleton] at hw
            subst hw
            unfold okWhat at h
            simp only [Bool.and_eq_true, decide_eq_true_eq, Bool.not_eq_false] at h
            exact ⟨h.2.1, h.2.2.1, h.2.2.2⟩
  case cTell =>
    show Ok (match c.next with
      | none => (c, only (-6))
      | some i => ({ c with last := i, told := min MOST (c.told + 1) }, { value := ((i : Nat) : Int), out := c.message i })).1
    cases e : c.next with
    | none => exact o
    | some i =>
      have := next_lt e
      have := o.most
      exact ⟨o.len, o.most, by show i ≤ 30; omega, o.me, Nat.min_le_left _ _, o.what⟩
  case cHear m =>
    show Ok (if c.good m = false then (c, only (-71)) else (c.hears m, { value := ((c.open_.length - (c.hears m).open_.length : Nat) : Int), out := [(c.hears m).open_.length] })).1
    by_cases h : c.good m = false
    · rw [if_pos h]; exact o
    · rw [if_neg h]; exact ok_hears o m
theorem say_bad {c : Caller} {k x y : Nat} (h : okWhat ⟨k, x, y⟩ = false) : cDoes c (.cSay k x y) = (c, only (-22)) := if_pos h
theorem say_full {c : Caller} {k x y : Nat} (h : okWhat ⟨k, x, y⟩ = true) (h2 : 30 ≤ c.said.length ∨ c.first + 8 ≤ c.said.length) : cDoes c (.cSay k x y) = (c, only (-28)) :=
  (if_neg (by rw [h]; decide)).trans (if_pos h2)
theorem say_ok {c : Caller} {k x y : Nat} (h : okWhat ⟨k, x, y⟩ = true) (h2 : ¬ (30 ≤ c.said.length ∨ c.first + 8 ≤ c.said.length)) :
    cDoes c (.cSay k x y) = ({ c with said := c.said ++ [⟨k, x, y⟩], known := c.known ++ [false] }, only ((c.said.length : Nat) : Int)) :=
  (if_neg (by rw [h]; decide)).trans (if_neg h2)
theorem okWhat_iff {k x y : Nat} : okWhat ⟨k, x, y⟩ = true ↔ 1 ≤ k ∧ k ≤ 9 ∧ x ≤ 1000000 ∧ y ≤ 1000000 := by
  unfold okWhat
  rw [Bool.and_eq_true, Bool.and_eq_true, Bool.and_eq_true, decide_eq_true_eq, decide_eq_true_eq, decide_eq_true_eq, decide_eq_true_eq]
  exact Iff.rfl
theorem okWhat_no {k x y : Nat} (h : ¬ (1 ≤ k ∧ k ≤ 9 ∧ x ≤ 1000000 ∧ y ≤ 1000000)) : okWhat ⟨k, x, y⟩ = false := by
  cases e : okWhat ⟨k, x, y⟩ with
  | false => rfl
  | true => exact absurd (okWhat_iff.mp e) h
theorem tell_none {c : Caller} (h : c.next = none) : cDoes c .cTell = (c, only (-6)) := by
  show (match c.next with | none => (c, only (-6)) | some i => ({ c with last := i, told := min MOST (c.told + 1) }, { value := ((i : Nat) : Int), out := c.message i })) = _
  rw [h]
theorem tell_some {c : Caller} {i : Nat} (h : c.next = some i) : cDoes c .cTell = ({ c with last := i, told := min MOST (c.told + 1) }, { value := ((i : Nat) : Int), out := c.message i }) := by
  show (match c.next with | none => (c, only (-6)) | some i => ({ c with last := i, told := min MOST (c.told + 1) }, { value := ((i : Nat) : Int), out := c.message i })) = _
  rw [h]
theorem hear_bad {c : Caller} {m : List Nat} (h : c.good m = false) : cDoes c (.cHear m) = (c, only (-71)) := if_pos h
theorem hear_ok {c : Caller} {m : List Nat} (h : c.good m = true) : cDoes c (.cHear m) = (c.hears m, { value := ((c.open_.length - (c.hears m).open_.length : Nat) : Int), out := [(c.hears m).open_.length] }) := if_neg (by rw [h]; decide)
theorem would_bad {c : Caller} {m : List Nat} (h : c.good m = false) : cDoes c (.cWould m) = (c, only (-71)) := congrArg (fun z => (c, z)) (if_pos h)
theorem would_ok {c : Caller} {m : List Nat} (h : c.good m = true) : cDoes c (.cWould m) = (c, only ((c.open_.length - (c.hears m).open_.length : Nat) : Int)) := congrArg (fun z => (c, z)) (if_neg (by rw [h]; decide))
theorem known_no {c : Caller} {i : Nat} (h : ¬ i < c.said.length) : cDoes c (.cKnown i) = (c, only (-2)) := congrArg (fun z => (c, z)) (if_pos (by omega))
theorem known_ok {c : Caller} {i : Nat} (h : i < c.said.length) : cDoes c (.cKnown i) = (c, only ((bit (c.knows i) : Nat) : Int)) := congrArg (fun z => (c, z)) (if_neg (by omega))
theorem said_no {c : Caller} {i : Nat} (h : ¬ i < c.said.length) : cDoes c (.cSaid i) = (c, only (-2)) := by
  show (c, match c.said[i]? with | none => only (-2) | some w => { value := ((w.kind : Nat) : Int), out := [w.x, w.y] }) = _
  rw [List.getElem?_eq_none (by omega)]
theorem said_ok {c : Caller} {i : Nat} {w : What} (h : c.said[i]? = some w) : cDoes c (.cSaid i) = (c, { value := ((w.kind : Nat) : Int), out := [w.x, w.y] }) := by
  show (c, match c.said[i]? with | none => only (-2) | some w => { value := ((w.kind : Nat) : Int), out := [w.x, w.y] }) = _
  rw [h]
end CS
set_option Elab.async false
/-! What the shore is: lemmas about the specification's own functions. -/
namespace CS
open Km448
/-- what always holds of a shore -/
structure SOk (s : Shore) : Prop where
  fine : ∀ h ∈ s.log, h.who < 4 ∧ h.number < 30 ∧ okWhat h.what = true
  once : s.log.Pairwise fun g h => ¬ (g.who = h.who ∧ g.number = h.number)
  again : s.again ≤ 1000000
theorem sok_new : SOk shore0 := ⟨fun h hh => (by cases hh), List.Pairwise.nil, Nat.zero_le _⟩
theorem at_none {s : Shore} {k i : Nat} : s.at_ k i = none ↔ ∀ h ∈ s.log, ¬ (h.who = k ∧ h.number = i) := by
  unfold Shore.at_
  rw [Option.map_eq_none_iff, List.find?_eq_none]
  refine forall_congr' fun h => forall_congr' fun _ => ?_
  rw [Bool.and_eq_true, beq_iff_eq, beq_iff_eq]
theorem at_mem {s : Shore} {k i : Nat} {w : What} (h : s.at_ k i = some w) : ⟨k, i, w⟩ ∈ s.log := by
  unfold Shore.at_ at h
  rw [Option.map_eq_some_iff] at h
  obtain ⟨g, e, rfl⟩ := h
  have hm := List.mem_of_find?_eq_some e
  have hp := List.find?_some e
  rw [Bool.and_eq_true, beq_iff_eq, beq_iff_eq] at hp
  obtain ⟨rfl, rfl⟩ := hp
  exact hm
theorem once_eq : ∀ {l : List Heard} {g h : Heard}, (l.Pairwise fun g h => ¬ (g.who = h.who ∧ g.number = h.number)) → g ∈ l → h ∈ l → g.who = h.who → g.number = h.number → g = h
  | [], _, _, _, hg, _, _, _ => by cases hg
  | x :: l, g, h, hp, hg, hh, e1, e2 => by
    rw [List.pairwise_cons] at hp
    rcases List.mem_cons.mp hg with rfl | hg'
    · rcases List.mem_cons.mp hh with rfl | hh'
      · rfl
      · exact absurd ⟨e1, e2⟩ (hp.1 h hh')
    · rcases List.mem_cons.mp hh with rfl | hh'
      · exact absurd ⟨e1.symm, e2.symm⟩ (hp.1 g hg')
      · exact once_eq hp.2 hg' hh' e1 e2
theorem at_of_mem {s : Shore} (o : SOk s) {k i : Nat} {w : What} (h : ⟨k, i, w⟩ ∈ s.log) : s.at_ k i = some w := by
  cases e : s.at_ k i with
  | none => exact absurd ⟨rfl, rfl⟩ (at_none.mp e _ h)
  | some v =>
    have := once_eq o.once h (at_mem e) rfl rfl
    injection this with _ _ e3
    rw [e3]
theorem has_of {s : Shore} {k i : Nat} {w : What} (h : s.at_ k i = some w) : s.has k i = true := by
  unfold Shore.has
  rw [h]
  rfl
theorem has_not {s : Shore} {k i : Nat} (h : s.at_ k i = none) : s.has k i = false := by
  unfold Shore.has
  rw [h]
  rfl
theorem has_iff {s : Shore} {k i : Nat} : s.has k i = true ↔ ∃ h ∈ s.log, h.who = k ∧ h.number = i := by
  constructor
  · intro e
    cases h : s.at_ k i with
    | none => rw [has_not h] at e; cases e
    | some w => exact ⟨_, at_mem h, rfl, rfl⟩
  · rintro ⟨h, hm, e1, e2⟩
    cases e : s.at_ k i with
    | none => exact absurd ⟨e1, e2⟩ (at_none.mp e h hm)
    | some w => exact has_of e
theorem has_lt {s : Shore} (o : SOk s) {k i : Nat} (h : s.has k i = true) : k < 4 ∧ i < 30 := by
  obtain ⟨g, hg, rfl, rfl⟩ := has_iff.mp h
  exact ⟨(o.fine g hg).1, (o.fine g hg).2.1⟩
theorem upto_of {s : Shore} {k n : Nat} (hn : n ≤ 30) (h1 : ∀ i, i < n → s.has k i = true) (h2 : n < 30 → s.has k n = false) : s.upto k = n := by
  unfold Shore.upto
  by_cases h : n < 30
  · rw [range_find (n := CALLS) (i := n) h (by rw [h2 h]; rfl) fun j hj => by rw [h1 j hj]; rfl]
    rfl
  · have e : n = 30 := by omega
    rw [range_find_none fun j hj => by rw [h1 j (by have : j < 30 := hj; omega)]; rfl]
    exact e.symm
theorem upto_le {s : Shore} {k : Nat} : s.upto k ≤ 30 := by
  unfold Shore.upto
  cases e : (List.range CALLS).find? fun i => !s.has k i with
  | none => exact Nat.le_refl _
  | some n =>
    have := List.mem_range.mp (List.mem_of_find?_eq_some e)
    exact Nat.le_of_lt this
/-- two lists without a double, the same members: as long -/
theorem same_len {l m : List Nat} (hl : l.Nodup) (hm : m.Nodup) (h : ∀ x, x ∈ l ↔ x ∈ m) : l.length = m.length := by
  exact Nat.le_antisymm (hl.length_le_of_subset fun x => (h x).mp) (hm.length_le_of_subset fun x => (h x).mpr)
/-- how many of a caller's are kept -/
theorem count_of {s : Shore} (o : SOk s) (k : Nat) : (s.log.filter fun h => h.who == k).length = ((List.range 30).filter fun i => s.has k i).length := by
  rw [← List.length_map (f := fun h : Heard => h.number)]
  refine same_len ?_ (List.nodup_range.filter _) fun x => ?_
  · unfold List.Nodup
    rw [List.pairwise_map]
    have hp := List.Pairwise.filter (fun h => h.who == k) o.once
    refine List.Pairwise.imp_of_mem (fun {a b} ha hb h e => ?_) hp
    rw [List.mem_filter, beq_iff_eq] at ha hb
    exact h ⟨ha.2.trans hb.2.symm, e⟩
  · rw [List.mem_map, List.mem_filter, List.mem_range, has_iff]
    constructor
    · rintro ⟨h, hm, rfl⟩
      rw [List.mem_filter, beq_iff_eq] at hm
      exact ⟨(o.fine h hm.1).2.1, h, hm.1, hm.2, rfl⟩
    · rintro ⟨_, h, hm, e1, e2⟩
      exact ⟨h, List.mem_filter.mpr ⟨hm, by rw [e1]; exact beq_self_eq_true k⟩, e2⟩
/-- one behind the last of a caller's -/
def topOf (s : Shore) (k : Nat) : Nat := (s.log.filter fun h => h.who == k).foldl (fun n h => max n (h.number + 1)) 0
theorem foldl_max : ∀ (l : List Heard) (n : Nat), n ≤ l.foldl (fun n h => max n (h.number + 1)) n ∧ (∀ h ∈ l, h.number + 1 ≤ l.foldl (fun n h => max n (h.number + 1)) n) ∧
    (l.foldl (fun n h => max n (h.number + 1)) n = n ∨ ∃ h ∈ l, l.foldl (fun n h => max n (h.number + 1)) n = h.number + 1)
  | [], n => ⟨Nat.le_refl _, fun h hh => (by cases hh), Or.inl rfl⟩
  | x :: l, n => by
    obtain ⟨h1, h2, h3⟩ := foldl_max l (max n (x.number + 1))
    refine ⟨by rw [List.foldl_cons]; omega, fun h hh => ?_, ?_⟩
    · rw [List.foldl_cons]
      rcases List.mem_cons.mp hh with rfl | hh
      · omega
      · exact h2 h hh
    · rw [List.foldl_cons]
      rcases h3 with e | ⟨h, hh, e⟩
      · by_cases c : x.number + 1 ≤ n
        · left
          omega
        · right
          exact ⟨x, List.mem_cons_self .., by omega⟩
      · exact Or.inr ⟨h, List.mem_cons_of_mem _ hh, e⟩
theorem has_top {s : Shore} {k i : Nat} (h : s.has k i = true) : i < topOf s k := by
  obtain ⟨g, hg, e1, rfl⟩ := has_iff.mp h
  exact (foldl_max _ 0).2.1 g (List.mem_filter.mpr ⟨hg, by rw [e1]; exact beq_self_eq_true k⟩)
theorem top_or {s : Shore} {k : Nat} : topOf s k = 0 ∨ ∃ i, s.has k i = true ∧ topOf s k = i + 1 := by
  rcases (foldl_max (s.log.filter fun h => h.who == k) 0).2.2 with e | ⟨h, hh, e⟩
  · exact Or.inl e
  · rw [List.mem_filter, beq_iff_eq] at hh
    exact Or.inr ⟨h.number, has_iff.mpr ⟨h, hh.1, hh.2, rfl⟩, e⟩
theorem top_le {s : Shore} (o : SOk s) (k : Nat) : topOf s k ≤ 30 := by
  rcases top_or (s := s) (k := k) with e | ⟨i, h, e⟩
  · omega
  · have := (has_lt o h).2
    omega
/-- what tells the top -/
theorem top_is {s : Shore} {k n : Nat} (h1 : ∀ i, s.has k i = true → i < n) (h2 : n = 0 ∨ ∃ i, s.has k i = true ∧ n = i + 1) : topOf s k = n := by
  have a : topOf s k ≤ n := by
    rcases top_or (s := s) (k := k) with e | ⟨i, h, e⟩
    · omega
    · have := h1 i h
      omega
  rcases h2 with e | ⟨i, h, e⟩
  · omega
  · have := has_top h
    omega
theorem gaps_of {s : Shore} (o : SOk s) (k : Nat) : topOf s k - (s.log.filter fun h => h.who == k).length = ((List.range (topOf s k)).filter fun i => !s.has k i).length := by
  rw [count_of o]
  have e : ((List.range 30).filter fun i => s.has k i).length = ((List.range (topOf s k)).filter fun i => s.has k i).length := by
    refine same_len (List.nodup_range.filter _) (List.nodup_range.filter _) fun x => ?_
    rw [List.mem_filter, List.mem_filter, List.mem_range, List.mem_range]
    exact ⟨fun h => ⟨has_top h.2, h.2⟩, fun h => ⟨(has_lt o h.2).2, h.2⟩⟩
  rw [e]
  have := filter_two (fun i => s.has k i) (List.range (topOf s k))
  rw [List.length_range] at this
  omega
theorem log_le {s : Shore} (o : SOk s) : s.log.length ≤ 120 := by
  rw [← List.length_map (f := fun h : Heard => h.who * 30 + h.number)]
  have le : ∀ {l : List Nat}, l.Nodup → (∀ x ∈ l, x < 120) → l.length ≤ 120 := by
    intro l hn hb
    have h2 := filter_two (fun i => decide (i ∈ l)) (List.range 120)
    have h3 : l.length = ((List.range 120).filter fun i => decide (i ∈ l)).length := same_len hn (List.nodup_range.filter _) fun x => by
      rw [List.mem_filter, List.mem_range, decide_eq_true_eq]
      exact ⟨fun h => ⟨hb x h, h⟩, fun h => h.2⟩
    rw [List.length_range] at h2
    omega
  refine le ?_ fun x hx => ?_
  · unfold List.Nodup
    rw [List.pairwise_map]
    refine List.Pairwise.imp_of_mem (fun {a b} ha hb h e => ?_) o.once
    have := (o.fine a ha).2.1
    have := (o.fine b hb).2.1
    exact h ⟨by omega, by omega⟩
  · rw [List.mem_map] at hx
    obtain ⟨h, hm, rfl⟩ := hx
    have := o.fine h hm
    omega
theorem goodCall_six {m0 m1 m2 m3 m4 m5 : Nat} : goodCall [m0, m1, m2, m3, m4, m5] = if m0 = 1 ∧ m1 < 4 ∧ m2 < 30 ∧ okWhat ⟨m3, m4, m5⟩ = true then some ⟨m1, m2, ⟨m3, m4, m5⟩⟩ else none := by
  by_cases h : m0 = 1
  · subst h
    show (if m1 < CALLERS ∧ m2 < CALLS ∧ okWhat ⟨m3, m4, m5⟩ = true then _ else _) = _
    by_cases h2 : m1 < 4 ∧ m2 < 30 ∧ okWhat ⟨m3, m4, m5⟩ = true
    · rw [if_pos (show m1 < CALLERS ∧ m2 < CALLS ∧ okWhat ⟨m3, m4, m5⟩ = true from h2), if_pos ⟨rfl, h2⟩]
    · rw [if_neg (show ¬ (m1 < CALLERS ∧ m2 < CALLS ∧ okWhat ⟨m3, m4, m5⟩ = true) from h2), if_neg (fun z => h2 z.2)]
  · rw [if_neg (fun z => h z.1)]
    unfold goodCall
    split
    · rename_i e
      simp only [List.cons.injEq] at e
      exact absurd e.1 h
    · rfl
theorem sok_hears {s : Shore} (o : SOk s) {h : Heard} (h1 : h.who < 4) (h2 : h.number < 30) (h3 : okWhat h.what = true) : SOk (s.hears h) := by
  unfold Shore.hears
  by_cases c : s.has h.who h.number = true
  · rw [if_pos c]
    exact ⟨o.fine, o.once, Nat.min_le_left _ _⟩
  · rw [if_neg c]
    refine ⟨fun g hg => ?_, ?_, o.again⟩
    · rcases List.mem_append.mp hg with hg | hg
      · exact o.fine g hg
      · rw [List.mem_singleton] at hg
        subst hg
        exact ⟨h1, h2, h3⟩
    · show (s.log ++ [h]).Pairwise _
      rw [List.pairwise_append]
      refine ⟨o.once, List.pairwise_singleton .., fun a ha b hb e => ?_⟩
      rw [List.mem_singleton] at hb
      subst hb
      exact c (has_iff.mpr ⟨a, ha, e.1, e.2⟩)
theorem sok_does {s : Shore} (o : SOk s) (x : Call) : SOk (sDoes s x).1 := by
  cases x <;> first | exact o | skip
  case sStart => exact sok_new
  case sHear m =>
    show SOk (match goodCall m with
      | none => (s, only (-71))
      | some h => match s.at_ h.who h.number with
        | some w => if w = h.what then (s.hears h, { value := 0, out := [s.log.length] }) else (s, only (-74))
        | none => (s.hears h, { value := 1, out := [s.log.length + 1] })).1
    cases e : goodCall m with
    | none => exact o
    | some h =>
      have hh : h.who < 4 ∧ h.number < 30 ∧ okWhat h.what = true := by
        unfold goodCall at e
        split at e
        · rename_i k i a x y
          by_cases c : k < CALLERS ∧ i < CALLS ∧ okWhat ⟨a, x, y⟩ = true
          · rw [if_pos c] at e
            cases e
            exact c
          · rw [if_neg c] at e
            cases e
        · cases e
      show SOk (match s.at_ h.who h.number with
        | some w => if w = h.what then (s.hears h, ({ value := 0, out := [s.log.length] } : Ans)) else (s, only (-74))
        | none => (s.hears h, ({ value := 1, out := [s.log.length + 1] } : Ans))).1
      cases e2 : s.at_ h.who h.number with
      | none => exact sok_hears o hh.1 hh.2.1 hh.2.2
      | some w =>
        show SOk (if w = h.what then (s.hears h, ({ value := 0, out := [s.log.length] } : Ans)) else (s, only (-74))).1
        by_cases c : w = h.what
        · rw [if_pos c]
          exact sok_hears o hh.1 hh.2.1 hh.2.2
        · rw [if_neg c]
          exact o
end CS
set_option Elab.async false
set_option maxRecDepth 100000
set_option maxHeartbeats 2000000
/-! The heap: how callers lie in it. -/
namespace CS
open PySem PySem.Spec PyProof.Rows L2
/-! ### heaps -/
theorem same_upd {H : Hp} {p : Addr} {o : HO} (h : H p = none) : Same H (upd H p o) := fun b x e => by
  rw [upd_ne (ne_of_none e h)]
  exact e
/-- all stands but what is told in F -/
def Chg (F : List Addr) (H H' : Hp) : Prop := ∀ b o, H b = some o → b ∉ F → H' b = some o
theorem Chg.of_same {F : List Addr} {H H' : Hp} (h : Same H H') : Chg F H H' := fun b o e _ => h b o e
theorem Chg.trans {F : List Addr} {H H1 H2 : Hp} (a : Chg F H H1) (b : Chg F H1 H2) : Chg F H H2 := fun c o h n => b c o (a c o h n) n
theorem Chg.upd {F : List Addr} {H H' : Hp} {p : Addr} {o : HO} (a : Chg F H H') (h : p ∈ F) : Chg F H (upd H' p o) := fun b x e n => by
  rw [upd_ne (show b ≠ p from fun q => n (by rw [q]; exact h))]
  exact a b x e n
theorem Chg.new {F : List Addr} {H H' : Hp} {p : Addr} {o : HO} (a : Chg F H H') (h : H p = none) : Chg F H (L2.upd H' p o) := fun b x e n => by
  rw [upd_ne (ne_of_none e h)]
  exact a b x e n
theorem Chg.same {F : List Addr} {H H1 H2 : Hp} (a : Chg F H H1) (b : Same H1 H2) : Chg F H H2 := fun c o h n => b c o (a c o h n)
/-! ### fields by name -/
theorem lk_here {k : Str} {v : V} {r : List (Str × V)} : List.lookup k ((k, v) :: r) = some v := by
  have e : (k == k) = true := beq_self_eq_true k
  simp only [List.lookup, e]
theorem lk_past {k g : Str} {v : V} {r : List (Str × V)} (h : (k == g) = false) : List.lookup k ((g, v) :: r) = List.lookup k r := by
  simp only [List.lookup, h]
theorem put_here {f : Str} {v x : V} {r : List (Str × V)} : putF f v ((f, x) :: r) = (f, v) :: r := if_pos rfl
theorem put_past {f g : Str} {v x : V} {r : List (Str × V)} (h : ¬ g = f) : putF f v ((g, x) :: r) = (g, x) :: putF f v r := if_neg h
/-! ### a caller -/
/-- what a caller's object holds -/
def cF (me : Int) (ls lk : Addr) (told tf : Int) : List (Str × V) := [("me", .int me), ("said", .ref ls), ("known", .ref lk), ("told", .int told), ("tell_from", .int tf)]
section
variable (me : Int) (ls lk : Addr) (told tf : Int)
theorem cF_me : (cF me ls lk told tf).lookup ("me" : Str) = some (.int me) := lk_here
theorem cF_said : (cF me ls lk told tf).lookup ("said" : Str) = some (.ref ls) := (lk_past (by decide +kernel)).trans lk_here
theorem cF_known : (cF me ls lk told tf).lookup ("known" : Str) = some (.ref lk) := (lk_past (by decide +kernel)).trans ((lk_past (by decide +kernel)).trans lk_here)
theorem cF_told : (cF me ls lk told tf).lookup ("told" : Str) = some (.int told) := (lk_past (by decide +kernel)).trans ((lk_past (by decide +kernel)).trans ((lk_past (by decide +kernel)).trans lk_here))
theorem cF_from : (cF me ls lk told tf).lookup ("tell_from" : Str) = some (.int tf) := (lk_past (by decide +kernel)).trans ((lk_past (by decide +kernel)).trans ((lk_past (by decide +kernel)).trans ((lk_past (by decide +kernel)).trans lk_here)))
/-- a method's name is none of them -/
theorem cF_no {m : Str} (h : (m == ("me" : Str)) = false ∧ (m == ("said" : Str)) = false ∧ (m == ("known" : Str)) = false ∧ (m == ("told" : Str)) = false ∧ (m == ("tell_from" : Str)) = false) : (cF me ls lk told tf).lookup m = none :=
  (lk_past h.1).trans ((lk_past h.2.1).trans ((lk_past h.2.2.1).trans ((lk_past h.2.2.2.1).trans ((lk_past h.2.2.2.2).trans rfl))))
theorem cF_put_told (y : Int) : putF "told" (.int y) (cF me ls lk told tf) = cF me ls lk y tf :=
  (put_past (by decide +kernel)).trans (congrArg _ ((put_past (by decide +kernel)).trans (congrArg _ ((put_past (by decide +kernel)).trans (congrArg _ put_here)))))
theorem cF_put_from (y : Int) : putF "tell_from" (.int y) (cF me ls lk told tf) = cF me ls lk told y :=
  (put_past (by decide +kernel)).trans (congrArg _ ((put_past (by decide +kernel)).trans (congrArg _ ((put_past (by decide +kernel)).trans (congrArg _ ((put_past (by decide +kernel)).trans (congrArg _ put_here)))))))
end
theorem cF_new (me : Int) (ls lk : Addr) : putF "tell_from" (.int 0) (putF "told" (.int 0) (putF "known" (.ref lk) (putF "said" (.ref ls) (putF "me" (.int me) [])))) = cF me ls lk 0 0 := by
  have e1 : putF "said" (.ref ls) (putF "me" (.int me) []) = [(("me" : Str), V.int me), ("said", .ref ls)] := (put_past (by decide +kernel)).trans rfl
  have e2 : putF "known" (.ref lk) [(("me" : Str), V.int me), ("said", .ref ls)] = [(("me" : Str), V.int me), ("said", .ref ls), ("known", .ref lk)] := (put_past (by decide +kernel)).trans (congrArg _ ((put_past (by decide +kernel)).trans rfl))
  have e3 : putF "told" (.int 0) [(("me" : Str), V.int me), ("said", .ref ls), ("known", .ref lk)] = [(("me" : Str), V.int me), ("said", .ref ls), ("known", .ref lk), ("told", .int 0)] :=
    (put_past (by decide +kernel)).trans (congrArg _ ((put_past (by decide +kernel)).trans (congrArg _ ((put_past (by decide +kernel)).trans rfl))))
  rw [e1, e2, e3]
  exact (put_past (by decide +kernel)).trans (congrArg _ ((put_past (by decide +kernel)).trans (congrArg _ ((put_past (by decide +kernel)).trans (congrArg _ ((put_past (by decide +kernel)).trans rfl))))))
/-- three numbers of a call, as a tuple at an address -/
def whatT (w : Km448.What) : HO := .tup [.int w.kind, .int w.x, .int w.y]
/-- how a caller lies in the heap -/
structure CallerAt (C : Addr) (H : Hp) (a ls lk : Addr) (c : Km448.Caller) : Prop where
  ob : ∃ dx, H a = some (.ins C dx (cF c.me ls lk c.told (tellFrom c)))
  sd : ∃ ts : List Addr, H ls = some (.lst (ts.map V.ref)) ∧ ts.length = c.said.length ∧ ∀ (i : Nat) (t : Addr) (w : Km448.What), ts[i]? = some t → c.said[i]? = some w → H t = some (whatT w)
  kn : H lk = some (.lst (c.known.map V.bl))
  ne : ls ≠ lk
theorem CallerAt.same {C : Addr} {H H' : Hp} {a ls lk : Addr} {c : Km448.Caller} (h : CallerAt C H a ls lk c) (s : Same H H') : CallerAt C H' a ls lk c := by
  obtain ⟨⟨dx, o⟩, ⟨ts, h1, h2, h3⟩, k, n⟩ := h
  exact ⟨⟨dx, s _ _ o⟩, ⟨ts, s _ _ h1, h2, fun i t w e1 e2 => s _ _ (h3 i t w e1 e2)⟩, s _ _ k, n⟩
/-- a caller stands where another's are changed -/
theorem CallerAt.frame {C : Addr} {H H' : Hp} {a ls lk : Addr} {c : Km448.Caller} {F : List Addr} (h : CallerAt C H a ls lk c) (s : Chg F H H') (ha : a ∉ F) (hs : ls ∉ F) (hk : lk ∉ F) (hF : ∀ b ∈ F, ∀ xs, H b ≠ some (.tup xs)) : CallerAt C H' a ls lk c := by
  obtain ⟨⟨dx, o⟩, ⟨ts, h1, h2, h3⟩, k, n⟩ := h
  exact ⟨⟨dx, s _ _ o ha⟩, ⟨ts, s _ _ h1 hs, h2, fun i t w e1 e2 => s _ _ (h3 i t w e1 e2) fun q => hF t q _ (h3 i t w e1 e2)⟩, s _ _ k hk, n⟩
end CS
set_option Elab.async false
set_option maxRecDepth 100000
set_option maxHeartbeats 2000000
namespace CS
open PySem PySem.Spec PyProof.Rows L2
def top (i : Nat) : Stmt := PySem.Challenge.pw_calledshores_s01_answers.main.body.getD i (.Pass ⟨0, 0, 0, 0⟩)
abbrev sInit : Stmt := inClass (top 34) 0
abbrev sCalled : Stmt := inClass (top 34) 1
abbrev sHas : Stmt := inClass (top 34) 2
abbrev sOpens : Stmt := inClass (top 34) 3
abbrev sFirst : Stmt := inClass (top 34) 4
abbrev sMay : Stmt := inClass (top 34) 5
abbrev sNext : Stmt := inClass (top 34) 6
/-- the truth of a value -/
def tTru (K : PySem.W.Frag) (ta : TE) : TT := fun σ H Q => ta σ H fun x H' => ∃ k, TruV K x H' k ∧ Q k H'
/-- a constant of the top -/
def Kn (mg : Str → Option Value) (x : Str) (n : Int) : Prop := ∃ t, mg x = some (.int n t)
theorem pe_k {X : Cx} {x : Str} {n : Int} {pos : Pos} (hg : Gl X x) (h : Kn X.mg x n) (hd : (x == ("__debug__" : Str)) = false := by decide) : PE X (.Name x pos) (tC (.int n)) := by
  obtain ⟨t, e⟩ := h
  exact pe_glob hg e ⟨_, rfl⟩ hd
/-- what the top has written -/
structure Txt (K : PySem.W.Frag) (mg : Str → Option Value) (C : Addr) : Prop where
  cl : Cls K C
  nMe : NoAttr K C "me"
  nSaid : NoAttr K C "said"
  nKnown : NoAttr K C "known"
  nTold : NoAttr K C "told"
  nFrom : NoAttr K C "tell_from"
  gC : mg "Caller" = some (.ref C)
  len : mg "len" = none
  range : mg "range" = none
  list : mg "list" = none
  min : mg "min" = none
  kMost : Kn mg "MOST_CALLS" 30
  kReach : Kn mg "REACH" 8
section
variable {P : Program} {w : World} {K : PySem.W.Frag} {mg : Str → Option Value} {base : Heap} {C : Addr}
/-! ### __init__ -/
def spInit (C : Addr) : Sp := fun vs H Q _ => ∃ (p dx : Addr) (me : Nat), vs = [.ref p, .int me] ∧ H p = some (.ins C dx []) ∧
  ∀ (H' : Hp) (ls lk : Addr), H ls = none → H lk = none → CallerAt C H' p ls lk (Km448.caller0 me) → (∀ b o, H b = some o → b ≠ p → H' b = some o) → Q .non H'
theorem scInit : FnScope ["self", "me"] ["self", "me"] (defScope sInit) := ⟨rfl, rfl, rfl, by decide +kernel, rfl, by decide +kernel, by decide +kernel⟩
theorem ok_init {f : Addr} {fd : FuncData} (F : Fun K "__init__" "Caller.__init__" sInit f fd) (T : Txt K mg C) : FnOk P w K mg base CX0 1 f fd ["self", "me"] (spInit C) := by
  refine F.ok scInit (fun vs H Q E h => ?_) (fun cdv A outer s H vs Q E hr h => ?_)
  · obtain ⟨p, dx, me, rfl, _⟩ := h
    rfl
  · obtain ⟨p, dx, me, rfl, hp, k⟩ := h
    refine ⟨_, pss_cons (ps_fld (pv 0) (pv 1) rfl) (pss_cons (ps_fld (pv 0) (pe_lst pa_nil) rfl) (pss_cons (ps_fld (pv 0) (pe_lst pa_nil) rfl) (pss_cons (ps_fld (pv 0) pe_int rfl) (pss_one (ps_fld (pv 0) pe_int rfl))))), ?_⟩
    refine ⟨_, rfl, _, rfl, p, C, dx, _, rfl, hp, T.cl, T.nMe, (by decide), ?_⟩
    refine ⟨Nat.zero_le _, fun ls hls => ?_⟩
    have n1 : p ≠ ls := ne_of_none upd_same hls
    refine ⟨_, rfl, p, C, dx, _, rfl, (by rw [upd_ne n1]; exact upd_same), T.cl, T.nSaid, (by show 1 < 1000; decide), ?_⟩
    refine ⟨Nat.zero_le _, fun lk hlk => ?_⟩
    have n2 : p ≠ lk := ne_of_none upd_same hlk
    have e1 : L2.upd (L2.upd (L2.upd H p (.ins C dx (putF "me" (.int me) []))) ls (.lst [])) p (.ins C dx (putF "said" (.ref ls) (putF "me" (.int me) []))) ls = some (.lst []) := by
      rw [upd_ne n1.symm]
      exact upd_same
    have n3 : ls ≠ lk := ne_of_none e1 hlk
    refine ⟨_, rfl, p, C, dx, _, rfl, (by rw [upd_ne n2]; exact upd_same), T.cl, T.nKnown, (by show 2 < 1000; decide), ?_⟩
    refine ⟨_, rfl, p, C, dx, _, rfl, upd_same, T.cl, T.nTold, (by show 3 < 1000; decide), ?_⟩
    refine ⟨_, rfl, p, C, dx, _, rfl, upd_same, T.cl, T.nFrom, (by show 4 < 1000; decide), ?_⟩
    have f1 : H ls = none := by
      have := hls
      rw [upd_ne n1.symm] at this
      exact this
    have f2 : H lk = none := by
      have := hlk
      rw [upd_ne n2.symm, upd_ne n3.symm, upd_ne n2.symm] at this
      exact this
    refine k _ ls lk f1 f2 ⟨⟨dx, ?_⟩, ⟨[], ?_, rfl, fun i t w e => by simp at e⟩, ?_, n3⟩ fun b o e nb => ?_
    · exact upd_same.trans (congrArg (fun q => some (HO.ins C dx q)) (cF_new me ls lk))
    · rw [upd_ne n1.symm, upd_ne n1.symm, upd_ne n1.symm, upd_ne n3]
      exact e1
    · rw [upd_ne n2.symm, upd_ne n2.symm, upd_ne n2.symm]
      exact upd_same
    · rw [upd_ne nb, upd_ne nb, upd_ne nb, upd_ne (ne_of_none e f2), upd_ne nb, upd_ne (ne_of_none e f1), upd_ne nb]
      exact e
/-! ### called, has_call -/
/-- a method that only looks, without a number -/
def spLook0 (C : Addr) (g : Km448.Caller → V → Prop) : Sp := fun vs H Q _ => ∃ (a ls lk : Addr) (c : Km448.Caller), vs = [.ref a] ∧ CallerAt C H a ls lk c ∧ Ok c ∧ ∀ v, g c v → Q v H
/-- .. with a number -/
def spLook1 (C : Addr) (g : Km448.Caller → Nat → V → Prop) : Sp := fun vs H Q _ => ∃ (a ls lk : Addr) (c : Km448.Caller) (n : Nat), vs = [.ref a, .int n] ∧ CallerAt C H a ls lk c ∧ Ok c ∧ ∀ v, g c n v → Q v H
def gCalled (c : Km448.Caller) (v : V) : Prop := v = .int c.said.length
def gHas (c : Km448.Caller) (n : Nat) (v : V) : Prop := v = .bl (decide (n < c.said.length))
theorem scCalled : FnScope ["self"] ["self"] (defScope sCalled) := ⟨rfl, rfl, rfl, by decide +kernel, rfl, by decide +kernel, by decide +kernel⟩
theorem ok_called {f : Addr} {fd : FuncData} (F : Fun K "called" "Caller.called" sCalled f fd) (T : Txt K mg C) : FnOk P w K mg base CX0 1 f fd ["self"] (spLook0 C gCalled) := by
  refine F.ok scCalled (fun vs H Q E h => ?_) (fun cdv A outer s H vs Q E hr h => ?_)
  · obtain ⟨a, ls, lk, c, rfl, _⟩ := h
    rfl
  · obtain ⟨a, ls, lk, c, rfl, hc, o, k⟩ := h
    obtain ⟨⟨dx, ha⟩, ⟨ts, h1, h2, h3⟩, hk, hn⟩ := hc
    refine ⟨_, pss_one (ps_ret (pe_callB call_len_seq (by rfl) T.len PySem.boot_len (pa_cons (pe_fld (pv 0) rfl) pa_nil))), ?_⟩
    refine ⟨_, rfl, a, C, dx, _, _, rfl, ha, T.cl, T.nSaid, cF_said .., ls, _, rfl, .inl (SqL.of h1), k _ ?_⟩
    show V.int _ = V.int _
    rw [List.length_map, h2]
theorem scHas : FnScope ["self", "number"] ["self", "number"] (defScope sHas) := ⟨rfl, rfl, rfl, by decide +kernel, rfl, by decide +kernel, by decide +kernel⟩
theorem ok_has {f : Addr} {fd : FuncData} (F : Fun K "has_call" "Caller.has_call" sHas f fd) (T : Txt K mg C) : FnOk P w K mg base CX0 1 f fd ["self", "number"] (spLook1 C gHas) := by
  refine F.ok scHas (fun vs H Q E h => ?_) (fun cdv A outer s H vs Q E hr h => ?_)
  · obtain ⟨a, ls, lk, c, n, rfl, _⟩ := h
    rfl
  · obtain ⟨a, ls, lk, c, n, rfl, hc, o, k⟩ := h
    obtain ⟨⟨dx, ha⟩, ⟨ts, h1, h2, h3⟩, hk, hn⟩ := hc
    refine ⟨_, pss_one (ps_ret (pe_cmpR op_lt (pv 1) (pe_callB call_len_seq (by rfl) T.len PySem.boot_len (pa_cons (pe_fld (pv 0) rfl) pa_nil)) (nomark _))), ?_⟩
    refine ⟨_, rfl, _, rfl, a, C, dx, _, _, rfl, ha, T.cl, T.nSaid, cF_said .., ls, _, rfl, .inl (SqL.of h1), _, _, rfl, rfl, k _ ?_⟩
    show V.bl _ = V.bl _
    rw [List.length_map, h2]
    exact congrArg V.bl (decide_eq_decide.mpr Int.ofNat_lt)
/-! ### open_numbers -/
abbrev vints (l : List Nat) : List V := l.map fun (n : Nat) => V.int n
theorem vints_snoc (l : List Nat) (n : Nat) : vints (l ++ [n]) = vints l ++ [V.int n] := List.map_append
/-- a def that gives back a new list of numbers -/
def spOpens (C : Addr) : Sp := fun vs H Q _ => ∃ (a ls lk : Addr) (c : Km448.Caller), vs = [.ref a] ∧ CallerAt C H a ls lk c ∧ Ok c ∧
  ∀ H' p, Same H H' → H p = none → H' p = some (.lst (vints c.open_)) → Q (.ref p) H'
theorem scOpens : FnScope ["self", "number"] ["self"] (defScope sOpens) := ⟨rfl, rfl, rfl, by decide +kernel, rfl, by decide +kernel, by decide +kernel⟩
theorem range_filter_succ (p : Nat → Bool) (i : Nat) : (List.range (i + 1)).filter p = (List.range i).filter p ++ if p i = true then [i] else [] := by
  rw [List.range_succ, List.filter_append]
  refine congrArg _ ?_
  cases e : p i with
  | true => rw [List.filter_cons_of_pos e, List.filter_nil, if_pos rfl]
  | false => rw [List.filter_cons_of_neg (by rw [e]; decide), List.filter_nil, if_neg (by decide)]
theorem small30 {n : Nat} (h : n ≤ 30) : n < sizeLine := small1000 (by omega)
theorem ok_opens {f : Addr} {fd : FuncData} (F : Fun K "open_numbers" "Caller.open_numbers" sOpens f fd) (T : Txt K mg C) : FnOk P w K mg base CX0 1 f fd ["self"] (spOpens C) := by
  refine F.ok scOpens (fun vs H Q E h => ?_) (fun cdv A outer s H vs Q E hr h => ?_)
  · obtain ⟨a, ls, lk, c, rfl, _⟩ := h
    rfl
  · obtain ⟨a, ls, lk, c, rfl, hc, o, k⟩ := h
    have hc0 := hc
    obtain ⟨⟨dx, ha⟩, ⟨ts, h1, h2, h3⟩, hk, hn⟩ := hc
    refine ⟨_, pss_one (ps_ret (pe_lc (own := [("number", 1)]) (g := gName 1) (tt := tNot (tTru K (tOp (rIxL K) (tFld K (tVar 0) "known") (tVar 1)))) rfl scOpens.nd
      (pi_range1 rfl T.range (pa_cons (pe_callB call_len_seq (by rfl) T.len PySem.boot_len (pa_cons (pe_fld (pv 0) rfl) pa_nil)) pa_nil))
      (blkOk_by (N := ["self", "number"]) (sc := defScope sOpens) (by decide +kernel))
      (fun _ _ _ _ _ => pg_name (i := 1) scOpens.nd rfl (Or.inl rfl))
      (fun _ _ _ _ _ => pts_one (pt_not (pt_truth (pe_ix ix_list (pe_fld (pv 0) rfl) (pv 1) (fun _ _ => rfl)) (fun _ => rfl))))
      (fun _ _ _ _ _ => pv 1))), ?_⟩
    refine ⟨_, rfl, a, C, dx, _, _, rfl, ha, T.cl, T.nKnown, cF_known .., lk, _, rfl, .inl (SqL.of hk), ?_⟩
    have hl := o.len
    have hm := o.most
    have el : (c.known.map V.bl).length = c.said.length := by rw [List.length_map, hl]
    refine ⟨_, rfl, by rw [el]; omega, by rw [el]; omega, fun D hD => ?_⟩
    rw [el]
    refine lc_range (n := c.said.length) (fun i H' => Same H H' ∧ H' D = some (.lst (vints ((List.range i).filter fun i => !c.knows i)))) ⟨same_upd hD, upd_same⟩ ?_ ?_
    · rintro i H' hi ⟨sm, eD⟩
      refine ⟨rfl, ?_⟩
      have hi2 : i < c.known.length := by rw [hl]; exact hi
      have ek : (c.known.map V.bl)[i]? = some (.bl (c.knows i)) := by
        rw [List.getElem?_map, List.getElem?_eq_getElem hi2]
        exact congrArg (fun z => some (V.bl z)) (knows_of (List.getElem?_eq_getElem hi2)).symm
      refine ⟨_, rfl, a, C, dx, _, _, rfl, sm _ _ ha, T.cl, T.nKnown, cF_known .., _, rfl, lk, _, _, _, rfl, rfl, SqL.of (sm _ _ hk), at_of (Int.zero_add _) ek, _, rfl, ?_⟩
      cases e : c.knows i with
      | true =>
        refine iteF ⟨sm, ?_⟩
        rw [range_filter_succ, if_neg (by rw [e]; decide), List.append_nil]
        exact eD
      | false =>
        refine iteT ⟨_, rfl, _, eD, ?_, fun b x eb => ?_, ?_⟩
        · rw [List.length_map]
          exact small30 (Nat.le_trans (List.length_filter_le _ _) (by rw [List.length_range]; omega))
        · rw [upd_ne (ne_of_none eb hD)]
          exact sm _ _ eb
        · rw [upd_same, range_filter_succ, if_pos (by rw [e]; rfl), vints_snoc, Int.zero_add]
    · rintro H' ⟨sm, eD⟩
      exact k H' D sm hD eD
/-! ### first_open_from -/
def gFirst (c : Km448.Caller) (start : Nat) (v : V) : Prop := ∃ n : Nat, v = .int n ∧ FirstAt c.known start n
theorem scFirst : FnScope ["self", "start", "number"] ["self", "start"] (defScope sFirst) := ⟨rfl, rfl, rfl, by decide +kernel, rfl, by decide +kernel, by decide +kernel⟩
theorem ok_first {f : Addr} {fd : FuncData} (F : Fun K "first_open_from" "Caller.first_open_from" sFirst f fd) (T : Txt K mg C) : FnOk P w K mg base CX0 1 f fd ["self", "start"] (spLook1 C gFirst) := by
  refine F.ok scFirst (fun vs H Q E h => ?_) (fun cdv A outer s H vs Q E hr h => ?_)
  · obtain ⟨a, ls, lk, c, n, rfl, _⟩ := h
    rfl
  · obtain ⟨a, ls, lk, c, n, rfl, hc, o, k⟩ := h
    obtain ⟨⟨dx, ha⟩, ⟨ts, h1, h2, h3⟩, hk, hn⟩ := hc
    refine ⟨_, pss_cons (ps_set (i := 2) scFirst.nd rfl (Or.inl rfl) (pv 1))
      (pss_cons (ps_while PassesOwn.never (PW.pt (pw_and (pt_cmpR op_lt (pv 2) (pe_callB call_len_seq (by rfl) T.len PySem.boot_len (pa_cons (pe_fld (pv 0) rfl) pa_nil)) (nomark _))
          (pw_and1 (pt_truth (pe_ix ix_list (pe_fld (pv 0) rfl) (pv 2) (fun _ _ => rfl)) (fun _ => rfl)))))
        (pss_one (ps_aug (i := 2) scFirst.nd rfl (Or.inl rfl) pe_int ip_add)))
      (pss_one (ps_ret (pv 2)))), ?_⟩
    refine ⟨_, rfl, ?_⟩
    refine ⟨fun m σ H' => ∃ j : Nat, m = c.known.length - j ∧ σ = [some (.ref a), some (.int n), some (.int j)] ∧ H' = H ∧ n ≤ j ∧ ∀ i, n ≤ i → i < j → c.known[i]? = some true, ⟨_, n, rfl, rfl, rfl, Nat.le_refl _, fun i h1 h2 => absurd h1 (by omega)⟩, ?_⟩
    rintro m σ H' ⟨j, rfl, rfl, rfl, hj, hb⟩
    refine ⟨_, rfl, _, rfl, a, C, dx, _, _, rfl, ha, T.cl, T.nKnown, cF_known .., lk, _, rfl, .inl (SqL.of hk), _, _, rfl, rfl, _, rfl, ?_⟩
    rw [List.length_map]
    by_cases hlt : j < c.known.length
    · rw [decide_eq_true (Int.ofNat_lt.mpr hlt)]
      refine iteT ?_
      have ek : (c.known.map V.bl)[j]? = some (.bl c.known[j]) := by
        rw [List.getElem?_map, List.getElem?_eq_getElem hlt]
        rfl
      refine ⟨_, rfl, a, C, dx, _, _, rfl, ha, T.cl, T.nKnown, cF_known .., _, rfl, lk, _, _, _, rfl, rfl, SqL.of hk, atI_nat ek, _, rfl, ?_⟩
      cases e : c.known[j] with
      | true =>
        refine iteT ⟨fun σ' H2 => ∃ j' : Nat, j' = j + 1 ∧ σ' = [some (.ref a), some (.int n), some (.int j')] ∧ H2 = H', ?_, ?_⟩
        · rintro σ' H2 ⟨j', rfl, rfl, rfl⟩
          refine ⟨c.known.length - (j + 1), by omega, j + 1, rfl, rfl, rfl, by omega, fun i h1 h2 => ?_⟩
          by_cases hi : i = j
          · subst hi
            rw [List.getElem?_eq_getElem hlt, e]
          · exact hb i h1 (by omega)
        · exact ⟨_, rfl, _, _, rfl, rfl, j + 1, rfl, rfl, rfl⟩
      | false =>
        refine iteF ⟨_, rfl, k _ ⟨j, rfl, hj, hb, fun _ => ?_⟩⟩
        rw [List.getElem?_eq_getElem hlt, e]
    · rw [decide_eq_false (fun h => hlt (Int.ofNat_lt.mp h))]
      exact iteF (iteF ⟨_, rfl, k _ ⟨j, rfl, hj, hb, fun h => absurd h hlt⟩⟩)
end
end CS
set_option Elab.async false
set_option maxRecDepth 100000
set_option maxHeartbeats 2000000
namespace CS
open PySem PySem.Spec PyProof.Rows L2
abbrev sRefused : Stmt := top 36
abbrev sTold : Stmt := top 40
section
variable {P : Program} {w : World} {K : PySem.W.Frag} {mg : Str → Option Value} {base : Heap} {C : Addr}
/-- a method of a caller and its promise, as its callers hold it -/
structure MethOk (P : Program) (w : World) (K : PySem.W.Frag) (mg : Str → Option Value) (base : Heap) (C : Addr) (k : Nat) (m : Str) (ps : List Str) (sp : Sp) : Prop where
  ex : ∃ f fd, Meth K C m f ∧ FnOk P w K mg base CX0 k f fd ps sp ∧ Binds K fd ps []
/-- a def of the top and its promise -/
structure DefOk (P : Program) (w : World) (K : PySem.W.Frag) (mg : Str → Option Value) (base : Heap) (k : Nat) (x : Str) (ps : List Str) (sp : Sp) : Prop where
  ex : ∃ f fd, mg x = some (.ref f) ∧ PySem.W.keepIn K (.ref f) = true ∧ FnOk P w K mg base CX0 k f fd ps sp ∧ Binds K fd ps []
def gMay (c : Km448.Caller) (v : V) : Prop := v = .bl (decide (¬ (30 ≤ c.said.length ∨ c.first + 8 ≤ c.said.length)))
theorem scMay : FnScope ["self", "number"] ["self"] (defScope sMay) := ⟨rfl, rfl, rfl, by decide +kernel, rfl, by decide +kernel, by decide +kernel⟩
theorem ok_may {f : Addr} {fd : FuncData} (F : Fun K "may_call" "Caller.may_call" sMay f fd) (T : Txt K mg C) (M : MethOk P w K mg base C 1 "first_open_from" ["self", "start"] (spLook1 C gFirst)) : FnOk P w K mg base CX0 2 f fd ["self"] (spLook0 C gMay) := by
  obtain ⟨f1, fd1, m1, G1, b1⟩ := M.ex
  refine F.ok scMay (fun vs H Q E h => ?_) (fun cdv A outer s H vs Q E hr h => ?_)
  · obtain ⟨a, ls, lk, c, rfl, _⟩ := h
    rfl
  · obtain ⟨a, ls, lk, c, rfl, hc, o, k⟩ := h
    have hc0 := hc
    obtain ⟨⟨dx, ha⟩, ⟨ts, h1, h2, h3⟩, hk, hn⟩ := hc
    refine ⟨_, pss_cons (ps_set (i := 1) scMay.nd rfl (Or.inl rfl) (pe_callB call_len_seq (by rfl) T.len PySem.boot_len (pa_cons (pe_fld (pv 0) rfl) pa_nil)))
      (pss_one (ps_ret (pe_and (pe_cmpR op_lt (pv 1) (pe_k rfl T.kMost) (nomark _))
        (pe_one (pe_cmpR op_lt (pe_op op_sub (pv 1) (pe_meth (pv 0) T.cl m1 G1 hr b1 .nil pass0 (pa_cons pe_int pa_nil))) (pe_k rfl T.kReach) (nomark _)))))), ?_⟩
    refine ⟨_, rfl, a, C, dx, _, _, rfl, ha, T.cl, T.nSaid, cF_said .., ls, _, rfl, .inl (SqL.of h1), ?_⟩
    rw [List.length_map, h2]
    refine ⟨_, rfl, _, _, rfl, rfl, _, rfl, ?_⟩
    by_cases h30 : c.said.length < 30
    · rw [decide_eq_true (show ((c.said.length : Nat) : Int) < 30 by omega)]
      refine iteT ⟨_, rfl, _, rfl, a, dx, _, rfl, ha, cF_no _ _ _ _ _ (by decide +kernel), a, ls, lk, c, 0, rfl, hc0, o, ?_⟩
      rintro v ⟨n, rfl, hf⟩
      have e := first_of o hf
      have hle := hf.le (Nat.zero_le _)
      rw [o.len] at hle
      refine ⟨_, _, rfl, rfl, _, _, rfl, rfl, k _ (congrArg V.bl (decide_eq_decide.mpr ?_))⟩
      rw [e]
      omega
    · rw [decide_eq_false (show ¬ ((c.said.length : Nat) : Int) < 30 by omega)]
      exact iteF (k _ (congrArg V.bl (decide_eq_false (fun h => h (Or.inl (by omega)))).symm))
def gNext (c : Km448.Caller) (v : V) : Prop := ∃ n : Nat, v = .int n ∧ c.next = if n < c.said.length then some n else none
theorem scNext : FnScope ["self", "number"] ["self"] (defScope sNext) := ⟨rfl, rfl, rfl, by decide +kernel, rfl, by decide +kernel, by decide +kernel⟩
theorem ok_next {f : Addr} {fd : FuncData} (F : Fun K "told_next" "Caller.told_next" sNext f fd) (T : Txt K mg C) (M : MethOk P w K mg base C 1 "first_open_from" ["self", "start"] (spLook1 C gFirst)) : FnOk P w K mg base CX0 2 f fd ["self"] (spLook0 C gNext) := by
  obtain ⟨f1, fd1, m1, G1, b1⟩ := M.ex
  refine F.ok scNext (fun vs H Q E h => ?_) (fun cdv A outer s H vs Q E hr h => ?_)
  · obtain ⟨a, ls, lk, c, rfl, _⟩ := h
    rfl
  · obtain ⟨a, ls, lk, c, rfl, hc, o, k⟩ := h
    have hc0 := hc
    obtain ⟨⟨dx, ha⟩, ⟨ts, h1, h2, h3⟩, hk, hn⟩ := hc
    refine ⟨_, pss_cons (ps_set (i := 1) scNext.nd rfl (Or.inl rfl) (pe_meth (pv 0) T.cl m1 G1 hr b1 .nil pass0 (pa_cons (pe_fld (pv 0) rfl) pa_nil)))
      (pss_cons (ps_if (pt_cmpR op_lt (pv 1) (pe_callB call_len_seq (by rfl) T.len PySem.boot_len (pa_cons (pe_fld (pv 0) rfl) pa_nil)) (nomark _)) (pss_one (ps_ret (pv 1))) pss_nil)
      (pss_one (ps_ret (pe_meth (pv 0) T.cl m1 G1 hr b1 .nil pass0 (pa_cons pe_int pa_nil))))), ?_⟩
    refine ⟨_, rfl, a, dx, _, rfl, ha, cF_no _ _ _ _ _ (by decide +kernel), _, rfl, a, C, dx, _, _, rfl, ha, T.cl, T.nFrom, cF_from .., a, ls, lk, c, tellFrom c, rfl, hc0, o, ?_⟩
    rintro v ⟨n, rfl, hf⟩
    refine ⟨_, rfl, _, rfl, a, C, dx, _, _, rfl, ha, T.cl, T.nSaid, cF_said .., ls, _, rfl, .inl (SqL.of h1), _, _, rfl, rfl, _, rfl, ?_⟩
    rw [List.length_map, h2]
    by_cases hlt : n < c.said.length
    · rw [decide_eq_true (Int.ofNat_lt.mpr hlt)]
      refine iteT ⟨_, rfl, k _ ⟨n, rfl, ?_⟩⟩
      rw [if_pos hlt]
      exact next_here o hf hlt
    · rw [decide_eq_false (fun h => hlt (Int.ofNat_lt.mp h))]
      refine iteF ⟨_, rfl, a, dx, _, rfl, ha, cF_no _ _ _ _ _ (by decide +kernel), a, ls, lk, c, 0, rfl, hc0, o, ?_⟩
      rintro v ⟨n0, rfl, hf0⟩
      exact k _ ⟨n0, rfl, next_round o hf hlt hf0⟩
/-! ### refused -/
/-- a new list comes back, all that was there stands -/
def NewL (H : Hp) (Q : VK) (l : List V) : Prop := ∀ H' p, Same H H' → H p = none → H' p = some (.lst l) → Q (.ref p) H'
def spRefused : Sp := fun vs H Q _ => ∃ n : Int, vs = [.int n] ∧ NewL H Q [.int (-n)]
theorem scRefused : FnScope ["refusal"] ["refusal"] (defScope sRefused) := ⟨rfl, rfl, rfl, by decide +kernel, rfl, by decide +kernel, by decide +kernel⟩
theorem ok_refused {f : Addr} {fd : FuncData} (F : Fun K "refused" "refused" sRefused f fd) : FnOk P w K mg base CX0 1 f fd ["refusal"] spRefused := by
  refine F.ok scRefused (fun vs H Q E h => ?_) (fun cdv A outer s H vs Q E hr h => ?_)
  · obtain ⟨n, rfl, _⟩ := h
    rfl
  · obtain ⟨n, rfl, k⟩ := h
    refine ⟨_, pss_one (ps_ret (pe_lst (pa_cons (pe_un un_neg (pv 0)) pa_nil))), ?_⟩
    exact ⟨_, rfl, _, rfl, (by show 1 ≤ sizeLine; decide), fun p hp => k _ p (same_upd hp) hp upd_same⟩
/-! ### numbers_told -/
/-- a message in the heap: six numbers -/
def MsgAt (H : Hp) (m : Addr) (l : List Nat) : Prop := H m = some (.lst (vints l)) ∧ Six l
def spTold : Sp := fun vs H Q _ => ∃ (m : Addr) (l : List Nat) (n b : Nat), vs = [.ref m] ∧ H m = some (.lst (vints l)) ∧ l[2]? = some n ∧ l[3]? = some b ∧ n ≤ 30 ∧ NewL H Q (vints (toldList n b))
theorem scTold : FnScope ["message", "all_there", "numbers", "bit"] ["message"] (defScope sTold) := ⟨rfl, rfl, rfl, by decide +kernel, rfl, by decide +kernel, by decide +kernel⟩
theorem vints_get {l : List Nat} {i n : Nat} (h : l[i]? = some n) : (vints l)[i]? = some (.int n) := by
  rw [List.getElem?_map, h]
  rfl
theorem toldBits_upto (n b i : Nat) : ((List.range (i + 1)).filter fun j => b.testBit j).map (fun j => n + 1 + j) = (((List.range i).filter fun j => b.testBit j).map fun j => n + 1 + j) ++ if b.testBit i = true then [n + 1 + i] else [] := by
  rw [range_filter_succ, List.map_append]
  refine congrArg _ ?_
  cases e : b.testBit i <;> rfl
theorem rg_vints (n : Nat) : rgV 0 (n : Int) = vints (List.range n) := by
  unfold rgV
  rw [show ((n : Int) - 0).toNat = n by omega]
  exact List.map_congr_left fun i _ => by rw [Int.zero_add]
theorem bit_is (b i : Nat) : Builtin.bitAnd ((b : Int) / 2 ^ i) 1 = if b.testBit i = true then 1 else 0 := by
  rw [bitAnd_m1, show ((b : Int) / 2 ^ i) = ((b / 2 ^ i : Nat) : Int) by rw [Int.natCast_ediv, Int.natCast_pow]; rfl]
  rw [Nat.testBit_eq_decide_div_mod_eq]
  by_cases h : b / 2 ^ i % 2 = 1
  · rw [decide_eq_true h, if_pos rfl]
    omega
  · rw [decide_eq_false h, if_neg (by decide)]
    omega
theorem if_yes {c : Bool} {A B : Prop} (hc : c = true) (h : A) : if c = true then A else B := by
  rw [if_pos hc]
  exact h
theorem if_no {c : Bool} {A B : Prop} (hc : c = false) (h : B) : if c = true then A else B := by
  rw [hc, if_neg Bool.false_ne_true]
  exact h
theorem ok_told {f : Addr} {fd : FuncData} (F : Fun K "numbers_told" "numbers_told" sTold f fd) (T : Txt K mg C) (kB : Kn mg "ANSWER_BITS" 8) : FnOk P w K mg base CX0 1 f fd ["message"] spTold := by
  refine F.ok scTold (fun vs H Q E h => ?_) (fun cdv A outer s H vs Q E hr h => ?_)
  · obtain ⟨m, l, n, b, rfl, _⟩ := h
    rfl
  · obtain ⟨m, l, n, b, rfl, hm, g2, g3, hn, k⟩ := h
    refine ⟨_, pss_cons (ps_set (i := 1) scTold.nd rfl (Or.inl rfl) (pe_ix ix_list (pv 0) pe_int (fun _ _ => rfl)))
      (pss_cons (ps_set (i := 2) scTold.nd rfl (Or.inl rfl) (pe_listRg rfl rfl T.list (prg_1 rfl T.range (pv 1))))
      (pss_cons (ps_for PassesOwn.never rfl (pi_range1 rfl T.range (pa_cons (pe_k rfl kB) pa_nil)) (pg_name (i := 3) scTold.nd rfl (Or.inl rfl))
        (pss_one (ps_if (pt_cmpR op_eq (pe_op op_and (pe_op op_shr (pe_ix ix_list (pv 0) pe_int (fun _ _ => rfl)) (pv 3)) pe_int) pe_int (nomark _))
          (pss_one (ps_expr (pe_bm PySem.F.plainAttrs_list PySem.F.slot_list_append PySem.F.type_list_append mt_append (pv 2) (pa_cons (pe_op op_add (pe_op op_add (pv 1) pe_int) (pv 3)) pa_nil)))) pss_nil)))
      (pss_one (ps_ret (pv 2))))), ?_⟩
    refine ⟨_, rfl, m, _, _, _, rfl, rfl, SqL.of hm, at_of (j := 2) rfl (vints_get g2), ?_⟩
    refine ⟨_, rfl, _, rfl, ⟨by omega, by omega, by omega, by omega, by omega⟩, fun D hD => ?_⟩
    rw [rg_vints]
    have nm : m ≠ D := ne_of_none hm hD
    refine ⟨8, rfl, by decide, by decide, for_range (n := 8) (fun i σ H' => ∃ y, σ = [some (.ref m), some (.int n), some (.ref D), y] ∧ Same H H' ∧ H' D = some (.lst (vints (List.range n ++ ((List.range i).filter fun j => b.testBit j).map fun j => n + 1 + j)))) ⟨none, rfl, same_upd hD, ?_⟩ ?_ ?_⟩
    · rw [upd_same]
      simp
    · rintro i σ H' hi ⟨y, rfl, sm, eD⟩
      refine ⟨_, rfl, m, _, _, _, rfl, rfl, SqL.of (sm _ _ hm), at_of (j := 3) rfl (vints_get g3), ?_⟩
      refine ⟨_, rfl, _, _, rfl, rfl, (by omega), _, _, rfl, rfl, rfl, _, rfl, ?_⟩
      have eb : Builtin.bitAnd ((b : Int) / 2 ^ ((0 : Int) + (i : Int)).toNat) 1 = if b.testBit i = true then 1 else 0 := by
        rw [show ((0 : Int) + (i : Int)).toNat = i by omega, bit_is]
      cases e : b.testBit i with
      | true =>
        rw [e, if_pos rfl] at eb
        refine if_yes (decide_eq_true (congrArg V.int eb)) ?_
        refine ⟨_, rfl, .inl ⟨rfl, _, SqL.of eD⟩, _, rfl, _, _, rfl, rfl, _, rfl, _, _, rfl, rfl, D, _, _, rfl, rfl, eD, ?_, ?_⟩
        · refine small1000 ?_
          rw [List.length_map, List.length_append, List.length_range, List.length_map]
          have := List.length_filter_le (fun j => b.testBit j) (List.range i)
          rw [List.length_range] at this
          omega
        · refine ⟨_, rfl, fun q x eq => ?_, ?_⟩
          · rw [upd_ne (ne_of_none eq hD)]
            exact sm _ _ eq
          · rw [upd_same, toldBits_upto, if_pos e, ← List.append_assoc, vints_snoc]
            refine congrArg (fun z => some (HO.lst (_ ++ [V.int z]))) ?_
            omega
      | false =>
        rw [e, if_neg (by decide)] at eb
        refine if_no (decide_eq_false (fun h => absurd (V.int.inj h) (by show ¬ Builtin.bitAnd _ _ = _; rw [eb]; decide))) ⟨_, rfl, sm, ?_⟩
        rw [toldBits_upto, if_neg (by rw [e]; decide), List.append_nil]
        exact eD
    · rintro σ H' ⟨y, rfl, sm, eD⟩
      exact ⟨_, rfl, k H' D sm hD eD⟩
end
end CS
set_option Elab.async false
set_option maxRecDepth 100000
set_option maxHeartbeats 2000000
namespace CS
open PySem PySem.Spec PyProof.Rows L2
abbrev sGood : Stmt := top 41
abbrev sNewly : Stmt := top 42
abbrev sStart : Stmt := top 43
abbrev sSay : Stmt := top 44
section
variable {P : Program} {w : World} {K : PySem.W.Frag} {mg : Str → Option Value} {base : Heap} {C : Addr}
/-! ### is_good -/
/-- six numbers at an address -/
def Six6 (H : Hp) (m : Addr) (m0 m1 m2 m3 m4 m5 : Nat) : Prop := H m = some (.lst (vints [m0, m1, m2, m3, m4, m5]))
def spGood (C : Addr) : Sp := fun vs H Q _ => ∃ (a ls lk : Addr) (c : Km448.Caller) (m : Addr) (m0 m1 m2 m3 m4 m5 : Nat), vs = [.ref a, .ref m] ∧ CallerAt C H a ls lk c ∧ Ok c ∧ Six6 H m m0 m1 m2 m3 m4 m5 ∧
  ∀ H', Same H H' → Q (.bl (c.good [m0, m1, m2, m3, m4, m5])) H'
theorem scGood : FnScope ["caller", "message", "number"] ["caller", "message"] (defScope sGood) := ⟨rfl, rfl, rfl, by decide +kernel, rfl, by decide +kernel, by decide +kernel⟩
theorem not_good {c : Km448.Caller} {m0 m1 m2 m3 m4 m5 : Nat} (h : ¬ (m0 = 2 ∧ m1 = c.me ∧ m4 = 0 ∧ m5 = 0 ∧ m2 ≤ c.said.length ∧ m3 < 256 ∧ ∀ x ∈ toldList m2 m3, x < c.said.length)) : c.good [m0, m1, m2, m3, m4, m5] = false := by
  cases e : c.good [m0, m1, m2, m3, m4, m5] with
  | false => rfl
  | true => exact absurd (good_six.mp e) h
theorem nat_ne {a b : Nat} (h : ¬ a = b) : (!decide (V.int (a : Int) = V.int (b : Int))) = true := by
  rw [decide_eq_false (show ¬ V.int (a : Int) = V.int (b : Int) from fun e => h (by have := V.int.inj e; omega))]
  rfl
theorem nat_eq {a b : Nat} (h : a = b) : (!decide (V.int (a : Int) = V.int (b : Int))) = false := by
  rw [h, decide_eq_true rfl]
  rfl
theorem ok_good {f : Addr} {fd : FuncData} (F : Fun K "is_good" "is_good" sGood f fd) (T : Txt K mg C) (kA : Kn mg "AN_ANSWER" 2) (kE : Kn mg "BITS_END" 256)
    (M1 : MethOk P w K mg base C 1 "called" ["self"] (spLook0 C gCalled)) (M2 : MethOk P w K mg base C 1 "has_call" ["self", "number"] (spLook1 C gHas)) (D1 : DefOk P w K mg base 1 "numbers_told" ["message"] spTold) :
    FnOk P w K mg base CX0 2 f fd ["caller", "message"] (spGood C) := by
  obtain ⟨f1, fd1, m1', G1, b1⟩ := M1.ex
  obtain ⟨f2, fd2, m2', G2, b2⟩ := M2.ex
  obtain ⟨f3, fd3, g3, k3, G3, b3⟩ := D1.ex
  refine F.ok scGood (fun vs H Q E h => ?_) (fun cdv A outer s H vs Q E hr h => ?_)
  · obtain ⟨a, ls, lk, c, m, m0, m1, m2, m3, m4, m5, rfl, _⟩ := h
    rfl
  · obtain ⟨a, ls, lk, c, m, m0, m1, m2, m3, m4, m5, rfl, hc, o, hm, k⟩ := h
    have hc0 := hc
    obtain ⟨⟨dx, ha⟩, ⟨ts, h1, h2, h3⟩, hk, hn⟩ := hc
    have i0 : (vints [m0, m1, m2, m3, m4, m5])[0]? = some (.int m0) := rfl
    have i1 : (vints [m0, m1, m2, m3, m4, m5])[1]? = some (.int m1) := rfl
    have i2 : (vints [m0, m1, m2, m3, m4, m5])[2]? = some (.int m2) := rfl
    have i3 : (vints [m0, m1, m2, m3, m4, m5])[3]? = some (.int m3) := rfl
    have i4 : (vints [m0, m1, m2, m3, m4, m5])[4]? = some (.int m4) := rfl
    have i5 : (vints [m0, m1, m2, m3, m4, m5])[5]? = some (.int m5) := rfl
    refine ⟨_, pss_cons (ps_if (PW.pt (pw_or (pt_cmpR op_ne (pe_ix ix_list (pv 1) pe_int (fun _ _ => rfl)) (pe_k rfl kA) (nomark _)) (pw_or1 (pt_cmpR op_ne (pe_ix ix_list (pv 1) pe_int (fun _ _ => rfl)) (pe_fld (pv 0) rfl) (nomark _))))) (pss_one (ps_ret pe_bl)) pss_nil)
      (pss_cons (ps_if (PW.pt (pw_or (pt_cmpR op_ne (pe_ix ix_list (pv 1) pe_int (fun _ _ => rfl)) pe_int (nomark _)) (pw_or1 (pt_cmpR op_ne (pe_ix ix_list (pv 1) pe_int (fun _ _ => rfl)) pe_int (nomark _))))) (pss_one (ps_ret pe_bl)) pss_nil)
      (pss_cons (ps_if (PW.pt (pw_or (pt_cmpR op_gt (pe_ix ix_list (pv 1) pe_int (fun _ _ => rfl)) (pe_meth0 (pv 0) T.cl m1' G1 hr b1 .nil pass0) (nomark _)) (pw_or1 (pt_cmpR op_ge (pe_ix ix_list (pv 1) pe_int (fun _ _ => rfl)) (pe_k rfl kE) (nomark _))))) (pss_one (ps_ret pe_bl)) pss_nil)
      (pss_cons (ps_for PassesOwn.never rfl (pi_list (pe_call G3 hr rfl g3 k3 b3 .nil pass0 (pa_cons (pv 1) pa_nil))) (pg_name (i := 2) scGood.nd rfl (Or.inl rfl))
        (pss_one (ps_if (pt_not (pt_val (pe_meth (pv 0) T.cl m2' G2 hr b2 .nil pass0 (pa_cons (pv 2) pa_nil)))) (pss_one (ps_ret pe_bl)) pss_nil)))
      (pss_one (ps_ret pe_bl))))), ?_⟩
    have no : ∀ {H'}, Same H H' → c.good [m0, m1, m2, m3, m4, m5] = false → Q (.bl false) H' := fun s e => by
      have := k _ s
      rw [e] at this
      exact this
    refine ⟨_, rfl, m, _, _, _, rfl, rfl, SqL.of hm, at_of (j := 0) rfl i0, rfl, _, rfl, ?_⟩
    by_cases c0 : m0 = 2
    case neg => exact if_yes (nat_ne c0) (iteT (no (Same.refl _) (not_good fun h => c0 h.1)))
    refine if_no (nat_eq c0) ⟨_, rfl, m, _, _, _, rfl, rfl, SqL.of hm, at_of (j := 1) rfl i1, _, rfl, a, C, dx, _, _, rfl, ha, T.cl, T.nMe, cF_me .., rfl, _, rfl, ?_⟩
    by_cases c1 : m1 = c.me
    case neg => exact if_yes (nat_ne c1) (no (Same.refl _) (not_good fun h => c1 h.2.1))
    refine if_no (nat_eq c1) ⟨_, rfl, m, _, _, _, rfl, rfl, SqL.of hm, at_of (j := 4) rfl i4, rfl, _, rfl, ?_⟩
    by_cases c4 : m4 = 0
    case neg => exact if_yes (nat_ne c4) (iteT (no (Same.refl _) (not_good fun h => c4 h.2.2.1)))
    refine if_no (nat_eq c4) ⟨_, rfl, m, _, _, _, rfl, rfl, SqL.of hm, at_of (j := 5) rfl i5, rfl, _, rfl, ?_⟩
    by_cases c5 : m5 = 0
    case neg => exact if_yes (nat_ne c5) (no (Same.refl _) (not_good fun h => c5 h.2.2.2.1))
    refine if_no (nat_eq c5) ⟨_, rfl, m, _, _, _, rfl, rfl, SqL.of hm, at_of (j := 2) rfl i2, _, rfl, a, dx, _, rfl, ha, cF_no _ _ _ _ _ (by decide +kernel), a, ls, lk, c, rfl, hc0, o, ?_⟩
    rintro v rfl
    refine ⟨_, _, rfl, rfl, _, rfl, ?_⟩
    by_cases c2 : m2 ≤ c.said.length
    case neg => exact if_yes (decide_eq_true (by omega)) (iteT (no (Same.refl _) (not_good fun h => c2 h.2.2.2.2.1)))
    refine if_no (decide_eq_false (by omega)) ⟨_, rfl, m, _, _, _, rfl, rfl, SqL.of hm, at_of (j := 3) rfl i3, _, _, rfl, rfl, _, rfl, ?_⟩
    by_cases c3 : m3 < 256
    case neg => exact if_yes (decide_eq_true (by omega)) (no (Same.refl _) (not_good fun h => c3 h.2.2.2.2.2.1))
    refine if_no (decide_eq_false (by omega)) ⟨_, rfl, m, _, m2, m3, rfl, hm, rfl, rfl, Nat.le_trans c2 o.most, ?_⟩
    intro H1 p s1 hp e1
    refine ⟨p, rfl, ⟨_, SqL.of e1⟩, for_list (K := K) (a := p) (xs := vints (toldList m2 m3)) (fun i σ H' => ∃ y, σ = [some (.ref a), some (.ref m), y] ∧ H' = H1 ∧ ∀ j x, j < i → (toldList m2 m3)[j]? = some x → x < c.said.length)
      ⟨none, rfl, rfl, fun j x hj => absurd hj (by omega)⟩ ?_ ?_ ?_⟩
    · rintro i σ H' _ ⟨y, rfl, rfl, _⟩
      exact SqL.of e1
    · rintro i x σ H' hx ⟨y, rfl, rfl, hj⟩
      obtain ⟨z, hz, rfl⟩ : ∃ z, (toldList m2 m3)[i]? = some z ∧ x = V.int (z : Nat) := by
        rw [List.getElem?_map] at hx
        cases e : (toldList m2 m3)[i]? with
        | none => rw [e] at hx; cases hx
        | some z => rw [e] at hx; exact ⟨z, rfl, (Option.some.inj hx).symm⟩
      refine ⟨_, rfl, a, dx, _, rfl, s1 _ _ ha, cF_no _ _ _ _ _ (by decide +kernel), _, rfl, a, ls, lk, c, z, rfl, hc0.same s1, o, ?_⟩
      rintro v rfl
      refine ⟨_, rfl, ?_⟩
      by_cases cz : z < c.said.length
      · rw [decide_eq_true cz]
        refine iteF ⟨_, rfl, rfl, fun j x hj' hx' => ?_⟩
        by_cases ej : j = i
        · subst ej
          rw [hz] at hx'
          cases hx'
          exact cz
        · exact hj j x (by omega) hx'
      · rw [decide_eq_false cz]
        exact iteT (no s1 (not_good fun h => cz (h.2.2.2.2.2.2 z (List.mem_of_getElem? hz))))
    · rintro σ H' ⟨y, rfl, rfl, hj⟩
      have : c.good [m0, m1, m2, m3, m4, m5] = true := good_six.mpr ⟨c0, c1, c4, c5, c2, c3, fun x hx => by
        obtain ⟨j, hj1, hj2⟩ := List.getElem_of_mem hx
        exact hj j x (by rw [List.length_map]; exact hj1) (by rw [List.getElem?_eq_getElem hj1, hj2])⟩
      have q := k _ s1
      rw [this] at q
      exact q
/-! ### newly_known -/
def spNewly (C : Addr) : Sp := fun vs H Q _ => ∃ (a ls lk : Addr) (c : Km448.Caller) (m : Addr) (m0 m1 m2 m3 m4 m5 : Nat), vs = [.ref a, .ref m] ∧ CallerAt C H a ls lk c ∧ Ok c ∧ Six6 H m m0 m1 m2 m3 m4 m5 ∧ c.good [m0, m1, m2, m3, m4, m5] = true ∧
  NewL H Q (vints (newly c m2 m3))
theorem scNewly : FnScope ["caller", "message", "number"] ["caller", "message"] (defScope sNewly) := ⟨rfl, rfl, rfl, by decide +kernel, rfl, by decide +kernel, by decide +kernel⟩
theorem take_more {α : Type} : ∀ {l : List α} {i : Nat} {x : α}, l[i]? = some x → l.take (i + 1) = l.take i ++ [x]
  | [], i, x, h => by simp at h
  | a :: l, 0, x, h => by
    have e : a = x := Option.some.inj h
    subst e
    rfl
  | a :: l, i + 1, x, h => by
    have ih := take_more (l := l) (i := i) (x := x) h
    show a :: l.take (i + 1) = a :: l.take i ++ [x]
    rw [ih]
    rfl
theorem toldList_len (n b : Nat) : (toldList n b).length ≤ n + 8 := by
  unfold toldList toldBits
  rw [List.length_append, List.length_range, List.length_map]
  have := List.length_filter_le (fun j => b.testBit j) (List.range 8)
  rw [List.length_range] at this
  omega
theorem vints_at {l : List Nat} {i : Nat} {x : V} (hx : (vints l)[i]? = some x) : ∃ z : Nat, l[i]? = some z ∧ x = V.int z := by
  rw [List.getElem?_map] at hx
  cases e : l[i]? with
  | none => rw [e] at hx; cases hx
  | some z => rw [e] at hx; exact ⟨z, rfl, (Option.some.inj hx).symm⟩
theorem known_at {c : Km448.Caller} (o : Ok c) {i : Nat} (h : i < c.said.length) : (c.known.map V.bl)[i]? = some (.bl (c.knows i)) := by
  have hi2 : i < c.known.length := by rw [o.len]; exact h
  rw [List.getElem?_map, List.getElem?_eq_getElem hi2]
  exact congrArg (fun z => some (V.bl z)) (knows_of (List.getElem?_eq_getElem hi2)).symm
theorem ok_newly {f : Addr} {fd : FuncData} (F : Fun K "newly_known" "newly_known" sNewly f fd) (T : Txt K mg C) (D1 : DefOk P w K mg base 1 "numbers_told" ["message"] spTold) :
    FnOk P w K mg base CX0 2 f fd ["caller", "message"] (spNewly C) := by
  obtain ⟨f3, fd3, g3, k3, G3, b3⟩ := D1.ex
  refine F.ok scNewly (fun vs H Q E h => ?_) (fun cdv A outer s H vs Q E hr h => ?_)
  · obtain ⟨a, ls, lk, c, m, m0, m1, m2, m3, m4, m5, rfl, _⟩ := h
    rfl
  · obtain ⟨a, ls, lk, c, m, m0, m1, m2, m3, m4, m5, rfl, hc, o, hm, hg, k⟩ := h
    obtain ⟨⟨dx, ha⟩, ⟨ts, h1, h2, h3⟩, hk, hn⟩ := hc
    obtain ⟨_, _, _, _, c2, c3, c6⟩ := good_six.mp hg
    have hm30 := o.most
    refine ⟨_, pss_one (ps_ret (pe_lc (own := [("number", 2)]) (g := gName 2) (tt := tNot (tTru K (tOp (rIxL K) (tFld K (tVar 0) "known") (tVar 2)))) rfl scNewly.nd
      (pi_list (pe_call G3 hr rfl g3 k3 b3 .nil pass0 (pa_cons (pv 1) pa_nil)))
      (blkOk_by (N := ["caller", "message", "number"]) (sc := defScope sNewly) (by decide +kernel))
      (fun _ _ _ _ _ => pg_name (i := 2) scNewly.nd rfl (Or.inl rfl))
      (fun _ _ _ _ _ => pts_one (pt_not (pt_truth (pe_ix ix_list (pe_fld (pv 0) rfl) (pv 2) (fun _ _ => rfl)) (fun _ => rfl))))
      (fun _ _ _ _ _ => pv 2))), ?_⟩
    refine ⟨_, rfl, m, _, m2, m3, rfl, hm, rfl, rfl, Nat.le_trans c2 o.most, ?_⟩
    intro H1 p s1 hp e1
    refine ⟨p, rfl, ⟨_, SqL.of e1⟩, fun D hD => ?_⟩
    refine lc_list (K := K) (a := p) (xs := vints (toldList m2 m3)) (fun i H' => Same H1 H' ∧ H' D = some (.lst (vints (((toldList m2 m3).take i).filter fun i => !c.knows i)))) ⟨same_upd hD, upd_same⟩ (fun i H' _ ⟨sm, _⟩ => SqL.of (sm _ _ e1)) ?_ ?_
    · rintro i x H' hx ⟨sm, eD⟩
      obtain ⟨z, hz, rfl⟩ := vints_at hx
      refine ⟨rfl, ?_⟩
      have hzl : z < c.said.length := c6 z (List.mem_of_getElem? hz)
      refine ⟨_, rfl, a, C, dx, _, _, rfl, sm _ _ (s1 _ _ ha), T.cl, T.nKnown, cF_known .., _, rfl, lk, _, _, _, rfl, rfl, SqL.of (sm _ _ (s1 _ _ hk)), atI_nat (known_at o hzl), _, rfl, ?_⟩
      have et := take_more hz
      cases e : c.knows z with
      | true =>
        refine iteF ⟨sm, ?_⟩
        rw [et, List.filter_append, List.filter_cons_of_neg (by rw [e]; decide), List.filter_nil, List.append_nil]
        exact eD
      | false =>
        refine iteT ⟨_, rfl, _, eD, ?_, fun b x eb => ?_, ?_⟩
        · rw [List.length_map]
          refine small1000 (Nat.le_trans (List.length_filter_le _ _) ?_)
          have := toldList_len m2 m3
          rw [List.length_take]
          omega
        · rw [upd_ne (ne_of_none eb hD)]
          exact sm _ _ eb
        · rw [upd_same, et, List.filter_append, List.filter_cons_of_pos (by rw [e]; rfl), List.filter_nil, vints_snoc]
    · rintro H' ⟨sm, eD⟩
      rw [List.length_map, List.take_length] at eD
      exact k H' D (s1.trans sm) (s1.free hD) eD
end
end CS
set_option Elab.async false
set_option maxRecDepth 100000
set_option maxHeartbeats 2000000
namespace CS
open PySem PySem.Spec PyProof.Rows L2
abbrev sBits : Stmt := top 37
abbrev sRange : Stmt := top 38
abbrev sIsCall : Stmt := top 39
section
variable {P : Program} {w : World} {K : PySem.W.Frag} {mg : Str → Option Value} {base : Heap}
/-! ### as_bits -/
theorem bits_snoc (l : List Nat) (n : Nat) : Km448.bits (l ++ [n]) = Km448.bits l + 2 ^ n := by
  unfold Km448.bits
  rw [List.foldl_append]
  rfl
def spBits : Sp := fun vs H Q _ => ∃ (p : Addr) (l : List Nat), vs = [.ref p] ∧ H p = some (.lst (vints l)) ∧ (∀ n ∈ l, n ≤ 1000) ∧ Q (.int (Km448.bits l : Nat)) H
theorem scBits : FnScope ["numbers", "bits", "number"] ["numbers"] (defScope sBits) := ⟨rfl, rfl, rfl, by decide +kernel, rfl, by decide +kernel, by decide +kernel⟩
theorem ok_bits {f : Addr} {fd : FuncData} (F : Fun K "as_bits" "as_bits" sBits f fd) : FnOk P w K mg base CX0 1 f fd ["numbers"] spBits := by
  refine F.ok scBits (fun vs H Q E h => ?_) (fun cdv A outer s H vs Q E hr h => ?_)
  · obtain ⟨p, l, rfl, _⟩ := h
    rfl
  · obtain ⟨p, l, rfl, hp, hb, k⟩ := h
    refine ⟨_, pss_cons (ps_set (i := 1) scBits.nd rfl (Or.inl rfl) pe_int)
      (pss_cons (ps_for PassesOwn.never rfl (pi_list (pv 0)) (pg_name (i := 2) scBits.nd rfl (Or.inl rfl))
        (pss_one (ps_aug (i := 1) scBits.nd rfl (Or.inl rfl) (pe_op op_oneShl pe_int (pv 2)) ip_add)))
      (pss_one (ps_ret (pv 1)))), ?_⟩
    refine ⟨_, rfl, p, rfl, ⟨_, SqL.of hp⟩, for_list (K := K) (a := p) (xs := vints l) (fun i σ H' => ∃ y, σ = [some (.ref p), some (.int (Km448.bits (l.take i) : Nat)), y] ∧ H' = H)
      ⟨none, rfl, rfl⟩ ?_ ?_ ?_⟩
    · rintro i σ H' _ ⟨y, rfl, rfl⟩
      exact SqL.of hp
    · rintro i x σ H' hx ⟨y, rfl, rfl⟩
      obtain ⟨z, hz, rfl⟩ := vints_at hx
      have hzl := hb z (List.mem_of_getElem? hz)
      refine ⟨_, rfl, _, rfl, z, rfl, rfl, (by omega), _, _, rfl, rfl, some (.int z), ?_, rfl⟩
      rw [take_more hz, bits_snoc, Int.natCast_add, Int.natCast_pow]
      rfl
    · rintro σ H' ⟨y, rfl, rfl⟩
      rw [List.length_map, List.take_length]
      exact ⟨_, rfl, k⟩
/-! ### in_range -/
def spRange : Sp := fun vs H Q _ => ∃ kd x y : Nat, vs = [.int kd, .int x, .int y] ∧ Q (.bl (Km448.okWhat ⟨kd, x, y⟩)) H
theorem scRange : FnScope ["kind", "x", "y"] ["kind", "x", "y"] (defScope sRange) := ⟨rfl, rfl, rfl, by decide +kernel, rfl, by decide +kernel, by decide +kernel⟩
theorem ok_range {f : Addr} {fd : FuncData} (F : Fun K "in_range" "in_range" sRange f fd) (kK : Kn mg "GREATEST_KIND" 9) (kV : Kn mg "GREATEST_VALUE" 1000000) : FnOk P w K mg base CX0 1 f fd ["kind", "x", "y"] spRange := by
  refine F.ok scRange (fun vs H Q E h => ?_) (fun cdv A outer s H vs Q E hr h => ?_)
  · obtain ⟨kd, x, y, rfl, _⟩ := h
    rfl
  · obtain ⟨kd, x, y, rfl, k⟩ := h
    refine ⟨_, pss_one (ps_ret (pe_and (pe_cmpR op_le pe_int (pv 0) (nomark _)) (pe_and (pe_cmpR op_le (pv 0) (pe_k rfl kK) (nomark _)) (pe_and (pe_cmpR op_le (pv 1) (pe_k rfl kV) (nomark _)) (pe_one (pe_cmpR op_le (pv 2) (pe_k rfl kV) (nomark _))))))), ?_⟩
    have bad : ¬ (1 ≤ kd ∧ kd ≤ 9 ∧ x ≤ 1000000 ∧ y ≤ 1000000) → Q (.bl false) H := fun h => by
      rw [okWhat_no h] at k
      exact k
    refine ⟨_, rfl, _, _, rfl, rfl, _, rfl, ?_⟩
    by_cases c1 : 1 ≤ kd
    case neg => exact if_no (decide_eq_false (by omega)) (bad (by omega))
    refine if_yes (decide_eq_true (by omega)) ⟨_, rfl, _, _, rfl, rfl, _, rfl, ?_⟩
    by_cases c2 : kd ≤ 9
    case neg => exact if_no (decide_eq_false (by omega)) (bad (by omega))
    refine if_yes (decide_eq_true (by omega)) ⟨_, rfl, _, _, rfl, rfl, _, rfl, ?_⟩
    by_cases c3 : x ≤ 1000000
    case neg => exact if_no (decide_eq_false (by omega)) (bad (by omega))
    refine if_yes (decide_eq_true (by omega)) ⟨_, rfl, _, _, rfl, rfl, ?_⟩
    show Q (.bl (decide (((y : Nat) : Int) ≤ 1000000))) H
    by_cases c4 : y ≤ 1000000
    · rw [okWhat_iff.mpr ⟨c1, c2, c3, c4⟩] at k
      rw [decide_eq_true (show ((y : Nat) : Int) ≤ 1000000 by omega)]
      exact k
    · rw [decide_eq_false (show ¬ ((y : Nat) : Int) ≤ 1000000 by omega)]
      exact bad (by omega)
/-! ### is_call -/
def spIsCall : Sp := fun vs H Q _ => ∃ (m : Addr) (m0 m1 m2 m3 m4 m5 : Nat), vs = [.ref m] ∧ Six6 H m m0 m1 m2 m3 m4 m5 ∧ Q (.bl (Km448.goodCall [m0, m1, m2, m3, m4, m5]).isSome) H
theorem scIsCall : FnScope ["message"] ["message"] (defScope sIsCall) := ⟨rfl, rfl, rfl, by decide +kernel, rfl, by decide +kernel, by decide +kernel⟩
theorem ok_isCall {f : Addr} {fd : FuncData} (F : Fun K "is_call" "is_call" sIsCall f fd) (kA : Kn mg "A_CALL" 1) (kG : Kn mg "GREATEST_CALLER" 3) (kM : Kn mg "MOST_CALLS" 30) (D1 : DefOk P w K mg base 1 "in_range" ["kind", "x", "y"] spRange) :
    FnOk P w K mg base CX0 2 f fd ["message"] spIsCall := by
  obtain ⟨f1, fd1, g1, k1, G1, b1⟩ := D1.ex
  refine F.ok scIsCall (fun vs H Q E h => ?_) (fun cdv A outer s H vs Q E hr h => ?_)
  · obtain ⟨m, m0, m1, m2, m3, m4, m5, rfl, _⟩ := h
    rfl
  · obtain ⟨m, m0, m1, m2, m3, m4, m5, rfl, hm, k⟩ := h
    have i0 : (vints [m0, m1, m2, m3, m4, m5])[0]? = some (.int m0) := rfl
    have i1 : (vints [m0, m1, m2, m3, m4, m5])[1]? = some (.int m1) := rfl
    have i2 : (vints [m0, m1, m2, m3, m4, m5])[2]? = some (.int m2) := rfl
    have i3 : (vints [m0, m1, m2, m3, m4, m5])[3]? = some (.int m3) := rfl
    have i4 : (vints [m0, m1, m2, m3, m4, m5])[4]? = some (.int m4) := rfl
    have i5 : (vints [m0, m1, m2, m3, m4, m5])[5]? = some (.int m5) := rfl
    have sl := SqL.of (K := K) hm
    rw [goodCall_six] at k
    have bad : ¬ (m0 = 1 ∧ m1 < 4 ∧ m2 < 30 ∧ Km448.okWhat ⟨m3, m4, m5⟩ = true) → Q (.bl false) H := fun h => by
      rw [if_neg h] at k
      exact k
    refine ⟨_, pss_cons (ps_if (PW.pt (pw_or (pt_cmpR op_ne (pe_ix ix_list (pv 0) pe_int (fun _ _ => rfl)) (pe_k rfl kA) (nomark _)) (pw_or (pt_cmpR op_gt (pe_ix ix_list (pv 0) pe_int (fun _ _ => rfl)) (pe_k rfl kG) (nomark _)) (pw_or1 (pt_cmpR op_ge (pe_ix ix_list (pv 0) pe_int (fun _ _ => rfl)) (pe_k rfl kM) (nomark _)))))) (pss_one (ps_ret pe_bl)) pss_nil)
      (pss_one (ps_ret (pe_call G1 hr rfl g1 k1 b1 .nil pass0 (pa_cons (pe_ix ix_list (pv 0) pe_int (fun _ _ => rfl)) (pa_cons (pe_ix ix_list (pv 0) pe_int (fun _ _ => rfl)) (pa_cons (pe_ix ix_list (pv 0) pe_int (fun _ _ => rfl)) pa_nil)))))), ?_⟩
    refine ⟨_, rfl, m, _, _, _, rfl, rfl, sl, at_of (j := 0) rfl i0, rfl, _, rfl, ?_⟩
    by_cases c0 : m0 = 1
    case neg => exact if_yes (nat_ne c0) (iteT (bad fun h => c0 h.1))
    refine if_no (nat_eq c0) ⟨_, rfl, m, _, _, _, rfl, rfl, sl, at_of (j := 1) rfl i1, _, _, rfl, rfl, _, rfl, ?_⟩
    by_cases c1 : m1 < 4
    case neg => exact if_yes (decide_eq_true (by omega)) (iteT (bad fun h => c1 h.2.1))
    refine if_no (decide_eq_false (by omega)) ⟨_, rfl, m, _, _, _, rfl, rfl, sl, at_of (j := 2) rfl i2, _, _, rfl, rfl, _, rfl, ?_⟩
    by_cases c2 : m2 < 30
    case neg => exact if_yes (decide_eq_true (by omega)) (bad fun h => c2 h.2.2.1)
    refine if_no (decide_eq_false (by omega)) ⟨_, rfl, m, _, _, _, rfl, rfl, sl, at_of (j := 3) rfl i3, _, rfl, m, _, _, _, rfl, rfl, sl, at_of (j := 4) rfl i4, _, rfl, m, _, _, _, rfl, rfl, sl, at_of (j := 5) rfl i5, m3, m4, m5, rfl, ?_⟩
    cases c3 : Km448.okWhat ⟨m3, m4, m5⟩ with
    | true =>
      rw [if_pos ⟨c0, c1, c2, c3⟩] at k
      exact k
    | false => exact bad fun h => by rw [c3] at h; exact absurd h.2.2.2 (by decide)
end
end CS
set_option Elab.async false
set_option maxRecDepth 100000
set_option maxHeartbeats 2000000
namespace CS
open PySem PySem.Spec PyProof.Rows L2
abbrev sTell : Stmt := top 45
abbrev sHear : Stmt := top 46
abbrev sKnown : Stmt := top 47
abbrev sOpen : Stmt := top 48
abbrev sSaid : Stmt := top 49
abbrev sWould : Stmt := top 50
abbrev sState : Stmt := top 51
section
variable {P : Program} {w : World} {K : PySem.W.Frag} {mg : Str → Option Value} {base : Heap} {C : Addr}
abbrev iints (l : List Int) : List V := l.map V.int
/-- a call of a caller, done: the answer is a new list, the caller is what it becomes, all else stands -/
def Does (C : Addr) (H : Hp) (Q : VK) (a ls lk : Addr) (c : Km448.Caller) (x : Km448.Call) : Prop :=
  ∀ H' p, CallerAt C H' a ls lk (Km448.cDoes c x).1 → Chg [a, ls, lk] H H' → H p = none → H' p = some (.lst (iints (Km448Neutral.told (Km448.cDoes c x).2))) → Q (.ref p) H'
/-- where it changes nothing: an answer alone -/
theorem Does.only {H : Hp} {Q : VK} {a ls lk : Addr} {c : Km448.Caller} {x : Km448.Call} {v : Km448.Ans} (k : Does C H Q a ls lk c x) (hc : CallerAt C H a ls lk c) (e : Km448.cDoes c x = (c, v)) : NewL H Q (iints (Km448Neutral.told v)) := by
  intro H' p s hp ep
  refine k H' p ?_ (Chg.of_same s) hp ?_
  · rw [e]
    exact hc.same s
  · rw [e]
    exact ep
def spSay (C : Addr) : Sp := fun vs H Q _ => ∃ (a ls lk : Addr) (c : Km448.Caller) (kd x y : Nat), vs = [.ref a, .int kd, .int x, .int y] ∧ CallerAt C H a ls lk c ∧ Ok c ∧ Does C H Q a ls lk c (.cSay kd x y)
theorem scSay : FnScope ["caller", "kind", "x", "y"] ["caller", "kind", "x", "y"] (defScope sSay) := ⟨rfl, rfl, rfl, by decide +kernel, rfl, by decide +kernel, by decide +kernel⟩
theorem ok_say {f : Addr} {fd : FuncData} (F : Fun K "ca_say" "ca_say" sSay f fd) (T : Txt K mg C) (kO : Kn mg "OUT_OF_RANGE" 22) (kN : Kn mg "NO_ROOM" 28) (D4 : DefOk P w K mg base 1 "in_range" ["kind", "x", "y"] spRange)
    (D1 : DefOk P w K mg base 1 "refused" ["refusal"] spRefused) (M1 : MethOk P w K mg base C 2 "may_call" ["self"] (spLook0 C gMay)) (M2 : MethOk P w K mg base C 1 "called" ["self"] (spLook0 C gCalled)) :
    FnOk P w K mg base CX0 3 f fd ["caller", "kind", "x", "y"] (spSay C) := by
  obtain ⟨f1, fd1, g1, k1, G1, b1⟩ := D1.ex
  obtain ⟨f2, fd2, m2, G2, b2⟩ := M1.ex
  obtain ⟨f3, fd3, m3, G3, b3⟩ := M2.ex
  obtain ⟨f4, fd4, g4, k4, G4, b4⟩ := D4.ex
  refine F.ok scSay (fun vs H Q E h => ?_) (fun cdv A outer s H vs Q E hr h => ?_)
  · obtain ⟨a, ls, lk, c, kd, x, y, rfl, _⟩ := h
    rfl
  · obtain ⟨a, ls, lk, c, kd, x, y, rfl, hc, o, k⟩ := h
    have hc0 := hc
    obtain ⟨⟨dx, ha⟩, ⟨ts, h1, h2, h3⟩, hk, hn⟩ := hc
    have hr1 : Room 1 _ := hr.mono (by decide)
    refine ⟨_, pss_cons (ps_if (pt_not (pt_val (pe_call G4 hr1 rfl g4 k4 b4 .nil pass0 (pa_cons (pv 1) (pa_cons (pv 2) (pa_cons (pv 3) pa_nil))))))
        (pss_one (ps_ret (pe_call G1 hr1 rfl g1 k1 b1 .nil pass0 (pa_cons (pe_k rfl kO) pa_nil)))) pss_nil)
      (pss_cons (ps_if (pt_not (pt_val (pe_meth0 (pv 0) T.cl m2 G2 hr b2 .nil pass0))) (pss_one (ps_ret (pe_call G1 hr1 rfl g1 k1 b1 .nil pass0 (pa_cons (pe_k rfl kN) pa_nil)))) pss_nil)
      (pss_cons (ps_expr (pe_bm PySem.F.plainAttrs_list PySem.F.slot_list_append PySem.F.type_list_append mt_append (pe_fld (pv 0) rfl) (pa_cons (pe_tup (pa_cons (pv 1) (pa_cons (pv 2) (pa_cons (pv 3) pa_nil)))) pa_nil)))
      (pss_cons (ps_expr (pe_bm PySem.F.plainAttrs_list PySem.F.slot_list_append PySem.F.type_list_append mt_append (pe_fld (pv 0) rfl) (pa_cons pe_bl pa_nil)))
      (pss_one (ps_ret (pe_lst (pa_cons (pe_op op_sub (pe_meth0 (pv 0) T.cl m3 G3 hr1 b3 .nil pass0) pe_int) pa_nil))))))), ?_⟩
    refine ⟨_, rfl, _, rfl, _, rfl, kd, x, y, rfl, _, rfl, ?_⟩
    cases hw : Km448.okWhat ⟨kd, x, y⟩ with
    | false => exact iteT ⟨_, rfl, k.only hc0 (say_bad hw)⟩
    | true =>
    refine iteF ⟨_, rfl, a, dx, _, rfl, ha, cF_no _ _ _ _ _ (by decide +kernel), a, ls, lk, c, rfl, hc0, o, ?_⟩
    rintro v rfl
    refine ⟨_, rfl, ?_⟩
    by_cases c5 : 30 ≤ c.said.length ∨ c.first + 8 ≤ c.said.length
    · rw [decide_eq_false (fun h => h c5)]
      exact iteT ⟨_, rfl, k.only hc0 (say_full hw c5)⟩
    · rw [decide_eq_true c5]
      have h30 : c.said.length < 30 := by omega
      refine iteF ?_
      refine ⟨_, rfl, a, C, dx, _, _, rfl, ha, T.cl, T.nSaid, cF_said .., .inl ⟨rfl, _, SqL.of h1⟩, _, rfl, _, rfl, _, rfl, (by show 3 ≤ sizeLine; decide), fun t ht => ?_⟩
      have nsl : ls ≠ t := ne_of_none h1 ht
      have nkl : lk ≠ t := ne_of_none hk ht
      have nal : a ≠ t := ne_of_none ha ht
      have nas : a ≠ ls := ne_of ha h1 (by intro z; cases z)
      have nak : a ≠ lk := ne_of ha hk (by intro z; cases z)
      refine ⟨ls, _, _, rfl, rfl, (by rw [upd_ne nsl]; exact h1), (by rw [List.length_map, h2]; exact small30 (by omega)), ?_⟩
      refine ⟨_, rfl, a, C, dx, _, _, rfl, (by rw [upd_ne nas, upd_ne nal]; exact ha), T.cl, T.nKnown, cF_known .., .inl ⟨rfl, _, SqL.of (xs := c.known.map V.bl) (by rw [upd_ne hn.symm, upd_ne nkl]; exact hk)⟩,
        lk, _, _, rfl, rfl, (by rw [upd_ne hn.symm, upd_ne nkl]; exact hk), (by rw [List.length_map, o.len]; exact small30 (by omega)), ?_⟩
      have e := say_ok (c := c) hw c5
      have o' := ok_does o (.cSay kd x y) rfl
      rw [e] at o'
      have at1 : CallerAt C (L2.upd (L2.upd (L2.upd H t (.tup [.int kd, .int x, .int y])) ls (.lst (ts.map V.ref ++ [.ref t]))) lk (.lst (c.known.map V.bl ++ [.bl false]))) a ls lk { c with said := c.said ++ [⟨kd, x, y⟩], known := c.known ++ [false] } := by
        refine ⟨⟨dx, ?_⟩, ⟨ts ++ [t], ?_, ?_, fun i t' w' e1 e2 => ?_⟩, ?_, hn⟩
        · rw [upd_ne nak, upd_ne nas, upd_ne nal]
          exact ha
        · rw [upd_ne hn, upd_same, List.map_append]
          rfl
        · rw [List.length_append, h2]
          show _ = (c.said ++ [_]).length
          rw [List.length_append]
          rfl
        · have e2 : (c.said ++ [(⟨kd, x, y⟩ : Km448.What)])[i]? = some w' := e2
          by_cases hi : i < c.said.length
          · rw [List.getElem?_append_left (by omega)] at e1
            rw [List.getElem?_append_left hi] at e2
            have q := h3 i t' w' e1 e2
            rw [upd_ne (ne_of q hk (by unfold whatT; intro z; cases z)), upd_ne (ne_of q h1 (by unfold whatT; intro z; cases z)), upd_ne (ne_of_none q ht)]
            exact q
          · rw [List.getElem?_append_right (by omega), h2] at e1
            rw [List.getElem?_append_right (by omega)] at e2
            by_cases hi2 : i - c.said.length = 0
            · rw [hi2] at e1 e2
              cases e1
              cases e2
              rw [upd_ne nkl.symm, upd_ne nsl.symm]
              exact upd_same
            · rw [List.getElem?_eq_none (by show 1 ≤ _; omega)] at e1
              cases e1
        · rw [upd_same]
          show _ = some (HO.lst ((c.known ++ [false]).map V.bl))
          rw [List.map_append]
          rfl
      refine ⟨_, rfl, a, dx, _, rfl, (by rw [upd_ne nak, upd_ne nas, upd_ne nal]; exact ha), cF_no _ _ _ _ _ (by decide +kernel), a, ls, lk, _, rfl, at1, o', ?_⟩
      rintro v rfl
      refine ⟨_, _, rfl, rfl, (by show 1 ≤ sizeLine; decide), fun p hp => ?_⟩
      have hp0 : H p = none := by
        have n1 : p ≠ lk := fun z => by
          rw [z, upd_same] at hp
          cases hp
        rw [upd_ne n1] at hp
        have n2 : p ≠ ls := fun z => by
          rw [z, upd_same] at hp
          cases hp
        rw [upd_ne n2] at hp
        have n3 : p ≠ t := fun z => by
          rw [z, upd_same] at hp
          cases hp
        rw [upd_ne n3] at hp
        exact hp
      refine k _ p ?_ ?_ hp0 ?_
      · rw [e]
        exact at1.same (same_upd hp)
      · refine Chg.same ?_ (same_upd hp)
        refine Chg.upd (Chg.upd (Chg.new (fun b x e _ => e) ht) ?_) ?_
        · simp
        · simp
      · rw [e, upd_same]
        refine congrArg (fun z => some (HO.lst [V.int z])) ?_
        show ((c.said ++ [_]).length : Int) - 1 = _
        rw [List.length_append]
        show ((c.said.length + 1 : Nat) : Int) - 1 = (c.said.length : Int)
        omega
end
end CS
set_option Elab.async false
set_option maxRecDepth 100000
set_option maxHeartbeats 2000000
namespace CS
open PySem PySem.Spec PyProof.Rows L2
section
variable {P : Program} {w : World} {K : PySem.W.Frag} {mg : Str → Option Value} {base : Heap} {C : Addr}
/-! ### ca_tell -/
def spCa0 (C : Addr) (x : Km448.Call) : Sp := fun vs H Q _ => ∃ (a ls lk : Addr) (c : Km448.Caller), vs = [.ref a] ∧ CallerAt C H a ls lk c ∧ Ok c ∧ Does C H Q a ls lk c x
def spCa1 (C : Addr) (x : Nat → Km448.Call) : Sp := fun vs H Q _ => ∃ (a ls lk : Addr) (c : Km448.Caller) (i : Nat), vs = [.ref a, .int i] ∧ CallerAt C H a ls lk c ∧ Ok c ∧ Does C H Q a ls lk c (x i)
def spCaM (C : Addr) (x : List Nat → Km448.Call) : Sp := fun vs H Q _ => ∃ (a ls lk : Addr) (c : Km448.Caller) (m : Addr) (m0 m1 m2 m3 m4 m5 : Nat), vs = [.ref a, .ref m] ∧ CallerAt C H a ls lk c ∧ Ok c ∧ Six6 H m m0 m1 m2 m3 m4 m5 ∧ Does C H Q a ls lk c (x [m0, m1, m2, m3, m4, m5])
theorem scTell : FnScope ["caller", "number"] ["caller"] (defScope sTell) := ⟨rfl, rfl, rfl, by decide +kernel, rfl, by decide +kernel, by decide +kernel⟩
/-- a caller's tuple -/
theorem said_tup {H : Hp} {ts : List Addr} {c : Km448.Caller} {i : Nat} {w : Km448.What} (h2 : ts.length = c.said.length) (h3 : ∀ (i : Nat) (t : Addr) (w : Km448.What), ts[i]? = some t → c.said[i]? = some w → H t = some (whatT w)) (hw : c.said[i]? = some w) :
    ∃ t, (ts.map V.ref)[i]? = some (.ref t) ∧ H t = some (whatT w) := by
  have hi : i < ts.length := by
    rw [h2]
    exact (List.getElem?_eq_some_iff.mp hw).1
  refine ⟨ts[i], ?_, h3 i _ w (List.getElem?_eq_getElem hi) hw⟩
  rw [List.getElem?_map, List.getElem?_eq_getElem hi]
  rfl
theorem upd_free {H : Hp} {p q : Addr} {o : HO} (h : L2.upd H q o p = none) : H p = none := by
  have n : p ≠ q := fun z => by
    rw [z, upd_same] at h
    cases h
  rw [upd_ne n] at h
  exact h
theorem ok_tell {f : Addr} {fd : FuncData} (F : Fun K "ca_tell" "ca_tell" sTell f fd) (T : Txt K mg C) (kN : Kn mg "NONE_THERE" 6) (kT : Kn mg "MOST_COUNTED" 1000000) (kA : Kn mg "A_CALL" 1)
    (D1 : DefOk P w K mg base 1 "refused" ["refusal"] spRefused) (M1 : MethOk P w K mg base C 2 "told_next" ["self"] (spLook0 C gNext)) (M2 : MethOk P w K mg base C 1 "has_call" ["self", "number"] (spLook1 C gHas)) :
    FnOk P w K mg base CX0 3 f fd ["caller"] (spCa0 C .cTell) := by
  obtain ⟨f1, fd1, g1, k1, G1, b1⟩ := D1.ex
  obtain ⟨f2, fd2, m2, G2, b2⟩ := M1.ex
  obtain ⟨f3, fd3, m3, G3, b3⟩ := M2.ex
  refine F.ok scTell (fun vs H Q E h => ?_) (fun cdv A outer s H vs Q E hr h => ?_)
  · obtain ⟨a, ls, lk, c, rfl, _⟩ := h
    rfl
  · obtain ⟨a, ls, lk, c, rfl, hc, o, k⟩ := h
    have hc0 := hc
    obtain ⟨⟨dx, ha⟩, ⟨ts, h1, h2, h3⟩, hk, hn⟩ := hc
    have hr1 : Room 1 _ := hr.mono (by decide)
    refine ⟨_, pss_cons (ps_set (i := 1) scTell.nd rfl (Or.inl rfl) (pe_meth0 (pv 0) T.cl m2 G2 hr b2 .nil pass0))
      (pss_cons (ps_if (pt_not (pt_val (pe_meth (pv 0) T.cl m3 G3 hr1 b3 .nil pass0 (pa_cons (pv 1) pa_nil)))) (pss_one (ps_ret (pe_call G1 hr1 rfl g1 k1 b1 .nil pass0 (pa_cons (pe_k rfl kN) pa_nil)))) pss_nil)
      (pss_cons (ps_fld (pv 0) (pe_op op_add (pv 1) pe_int) rfl)
      (pss_cons (ps_fld (pv 0) (pe_callB (call_min2 rfl) (by rfl) T.min (by decide +kernel) (pa_cons (pe_op op_add (pe_fld (pv 0) rfl) pe_int) (pa_cons (pe_k rfl kT) pa_nil))) rfl)
      (pss_one (ps_ret (pe_op op_cat (pe_lst (pa_cons (pv 1) (pa_cons (pe_k rfl kA) (pa_cons (pe_fld (pv 0) rfl) (pa_cons (pv 1) pa_nil)))))
        (pe_callTy call_list_of (by rfl) T.list (by decide +kernel) (pa_cons (pe_ix ix_list (pe_fld (pv 0) rfl) (pv 1) (fun _ _ => rfl)) pa_nil)))))))), ?_⟩
    refine ⟨_, rfl, a, dx, _, rfl, ha, cF_no _ _ _ _ _ (by decide +kernel), a, ls, lk, c, rfl, hc0, o, ?_⟩
    rintro v ⟨n, rfl, hx⟩
    refine ⟨_, rfl, a, dx, _, rfl, ha, cF_no _ _ _ _ _ (by decide +kernel), _, rfl, a, ls, lk, c, n, rfl, hc0, o, ?_⟩
    rintro v rfl
    refine ⟨_, rfl, ?_⟩
    by_cases hlt : n < c.said.length
    case neg =>
      rw [decide_eq_false hlt]
      rw [if_neg hlt] at hx
      exact iteT ⟨_, rfl, k.only hc0 (tell_none hx)⟩
    rw [decide_eq_true hlt]
    rw [if_pos hlt] at hx
    have e := tell_some hx
    have hm30 := o.most
    refine iteF ⟨_, rfl, _, _, rfl, rfl, _, rfl, a, C, dx, _, rfl, ha, T.cl, T.nFrom, (by show 5 < 1000; decide), ?_⟩
    rw [cF_put_from]
    refine ⟨_, rfl, a, C, dx, _, _, rfl, upd_same, T.cl, T.nTold, cF_told .., _, _, rfl, rfl, _, _, rfl, _, rfl, a, C, dx, _, rfl, upd_same, T.cl, T.nTold, (by show 5 < 1000; decide), ?_⟩
    rw [cF_put_told, upd_upd]
    have nas : a ≠ ls := ne_of ha h1 (by intro z; cases z)
    have nak : a ≠ lk := ne_of ha hk (by intro z; cases z)
    have et : (if (1000000 : Int) < (c.told : Int) + 1 then (1000000 : Int) else (c.told : Int) + 1) = ((min Km448.MOST (c.told + 1) : Nat) : Int) := by
      show _ = ((min 1000000 (c.told + 1) : Nat) : Int)
      by_cases h : (1000000 : Int) < (c.told : Int) + 1
      · rw [if_pos h]
        omega
      · rw [if_neg h]
        omega
    rw [et]
    have ef : ((n : Int) + 1) = ((tellFrom { c with last := n, told := min Km448.MOST (c.told + 1) } : Nat) : Int) := by
      unfold tellFrom
      rw [if_neg (show ¬ n = 30 by omega)]
      rfl
    rw [ef]
    have at1 : CallerAt C (L2.upd H a (.ins C dx (cF c.me ls lk (min Km448.MOST (c.told + 1) : Nat) (tellFrom { c with last := n, told := min Km448.MOST (c.told + 1) })))) a ls lk { c with last := n, told := min Km448.MOST (c.told + 1) } := by
      refine ⟨⟨dx, upd_same⟩, ⟨ts, ?_, h2, fun i t w e1 e2 => ?_⟩, ?_, hn⟩
      · rw [upd_ne nas.symm]
        exact h1
      · have q := h3 i t w e1 e2
        rw [upd_ne (ne_of q ha (by unfold whatT; intro z; cases z))]
        exact q
      · rw [upd_ne nak.symm]
        exact hk
    refine ⟨_, rfl, _, rfl, a, C, dx, _, _, rfl, upd_same, T.cl, T.nMe, cF_me .., _, rfl, (by show 4 ≤ sizeLine; decide), fun p hp => ?_⟩
    have hp0 : H p = none := upd_free hp
    have nap : a ≠ p := ne_of_none ha hp0
    obtain ⟨t, e1, e2⟩ := said_tup h2 h3 (List.getElem?_eq_getElem hlt)
    have nta : t ≠ a := ne_of e2 ha (by unfold whatT; intro z; cases z)
    have ntp : t ≠ p := ne_of_none e2 hp0
    refine ⟨_, rfl, a, C, dx, _, _, rfl, (by rw [upd_ne nap]; exact upd_same), T.cl, T.nSaid, cF_said .., _, rfl, ls, _, _, _, rfl, rfl, SqL.of (xs := ts.map V.ref) (by rw [upd_ne (ne_of_none h1 hp0), upd_ne nas.symm]; exact h1), atI_nat e1, ?_⟩
    refine ⟨t, _, rfl, .inr (SqT.of (xs := [.int c.said[n].kind, .int c.said[n].x, .int c.said[n].y]) (by rw [upd_ne ntp, upd_ne nta]; exact e2)), fun q hq => ?_⟩
    have npq : p ≠ q := ne_of_none upd_same hq
    refine ⟨p, q, _, _, rfl, rfl, (by rw [upd_ne npq]; exact upd_same), upd_same, (by show 7 ≤ sizeLine; decide), fun r hr' => ?_⟩
    have f1 : L2.upd H a (.ins C dx (cF c.me ls lk (min Km448.MOST (c.told + 1) : Nat) (tellFrom { c with last := n, told := min Km448.MOST (c.told + 1) }))) r = none := upd_free (upd_free hr')
    refine k _ r ?_ ?_ (upd_free f1) ?_
    · rw [e]
      exact at1.same (((same_upd hp).trans (same_upd hq)).trans (same_upd hr'))
    · exact Chg.same (Chg.upd (fun b x e _ => e) (by simp)) (((same_upd hp).trans (same_upd hq)).trans (same_upd hr'))
    · rw [e, upd_same]
      show _ = some (HO.lst (iints (((n : Nat) : Int) :: Km448Neutral.nums (c.message n))))
      unfold Km448.Caller.message
      rw [List.getD_eq_getElem?_getD, List.getElem?_eq_getElem hlt]
      rfl
/-! ### ca_known, ca_said, ca_state -/
theorem scKnown : FnScope ["caller", "i"] ["caller", "i"] (defScope sKnown) := ⟨rfl, rfl, rfl, by decide +kernel, rfl, by decide +kernel, by decide +kernel⟩
theorem ok_known {f : Addr} {fd : FuncData} (F : Fun K "ca_known" "ca_known" sKnown f fd) (T : Txt K mg C) (kN : Kn mg "NO_SUCH" 2)
    (D1 : DefOk P w K mg base 1 "refused" ["refusal"] spRefused) (M2 : MethOk P w K mg base C 1 "has_call" ["self", "number"] (spLook1 C gHas)) :
    FnOk P w K mg base CX0 2 f fd ["caller", "i"] (spCa1 C .cKnown) := by
  obtain ⟨f1, fd1, g1, k1, G1, b1⟩ := D1.ex
  obtain ⟨f3, fd3, m3, G3, b3⟩ := M2.ex
  refine F.ok scKnown (fun vs H Q E h => ?_) (fun cdv A outer s H vs Q E hr h => ?_)
  · obtain ⟨a, ls, lk, c, i, rfl, _⟩ := h
    rfl
  · obtain ⟨a, ls, lk, c, i, rfl, hc, o, k⟩ := h
    have hc0 := hc
    obtain ⟨⟨dx, ha⟩, ⟨ts, h1, h2, h3⟩, hk, hn⟩ := hc
    refine ⟨_, pss_cons (ps_if (pt_not (pt_val (pe_meth (pv 0) T.cl m3 G3 hr b3 .nil pass0 (pa_cons (pv 1) pa_nil)))) (pss_one (ps_ret (pe_call G1 hr rfl g1 k1 b1 .nil pass0 (pa_cons (pe_k rfl kN) pa_nil)))) pss_nil)
      (pss_one (ps_ret (pe_lst (pa_cons (pe_ifExp (pt_truth (pe_ix ix_list (pe_fld (pv 0) rfl) (pv 1) (fun _ _ => rfl)) (fun _ => rfl)) pe_int pe_int) pa_nil)))), ?_⟩
    refine ⟨_, rfl, a, dx, _, rfl, ha, cF_no _ _ _ _ _ (by decide +kernel), _, rfl, a, ls, lk, c, i, rfl, hc0, o, ?_⟩
    rintro v rfl
    refine ⟨_, rfl, ?_⟩
    by_cases hlt : i < c.said.length
    case neg =>
      rw [decide_eq_false hlt]
      exact iteT ⟨_, rfl, k.only hc0 (known_no hlt)⟩
    rw [decide_eq_true hlt]
    have q := k.only hc0 (known_ok hlt)
    refine iteF ⟨_, rfl, a, C, dx, _, _, rfl, ha, T.cl, T.nKnown, cF_known .., _, rfl, lk, _, _, _, rfl, rfl, SqL.of hk, atI_nat (known_at o hlt), _, rfl, ?_⟩
    cases e : c.knows i with
    | true =>
      rw [e] at q
      exact iteT ⟨(by show 1 ≤ sizeLine; decide), fun p hp => q _ p (same_upd hp) hp upd_same⟩
    | false =>
      rw [e] at q
      exact iteF ⟨(by show 1 ≤ sizeLine; decide), fun p hp => q _ p (same_upd hp) hp upd_same⟩
theorem scSaid : FnScope ["caller", "i"] ["caller", "i"] (defScope sSaid) := ⟨rfl, rfl, rfl, by decide +kernel, rfl, by decide +kernel, by decide +kernel⟩
theorem ok_said {f : Addr} {fd : FuncData} (F : Fun K "ca_said" "ca_said" sSaid f fd) (T : Txt K mg C) (kN : Kn mg "NO_SUCH" 2)
    (D1 : DefOk P w K mg base 1 "refused" ["refusal"] spRefused) (M2 : MethOk P w K mg base C 1 "has_call" ["self", "number"] (spLook1 C gHas)) :
    FnOk P w K mg base CX0 2 f fd ["caller", "i"] (spCa1 C .cSaid) := by
  obtain ⟨f1, fd1, g1, k1, G1, b1⟩ := D1.ex
  obtain ⟨f3, fd3, m3, G3, b3⟩ := M2.ex
  refine F.ok scSaid (fun vs H Q E h => ?_) (fun cdv A outer s H vs Q E hr h => ?_)
  · obtain ⟨a, ls, lk, c, i, rfl, _⟩ := h
    rfl
  · obtain ⟨a, ls, lk, c, i, rfl, hc, o, k⟩ := h
    have hc0 := hc
    obtain ⟨⟨dx, ha⟩, ⟨ts, h1, h2, h3⟩, hk, hn⟩ := hc
    refine ⟨_, pss_cons (ps_if (pt_not (pt_val (pe_meth (pv 0) T.cl m3 G3 hr b3 .nil pass0 (pa_cons (pv 1) pa_nil)))) (pss_one (ps_ret (pe_call G1 hr rfl g1 k1 b1 .nil pass0 (pa_cons (pe_k rfl kN) pa_nil)))) pss_nil)
      (pss_one (ps_ret (pe_callTy call_list_of (by rfl) T.list (by decide +kernel) (pa_cons (pe_ix ix_list (pe_fld (pv 0) rfl) (pv 1) (fun _ _ => rfl)) pa_nil)))), ?_⟩
    refine ⟨_, rfl, a, dx, _, rfl, ha, cF_no _ _ _ _ _ (by decide +kernel), _, rfl, a, ls, lk, c, i, rfl, hc0, o, ?_⟩
    rintro v rfl
    refine ⟨_, rfl, ?_⟩
    by_cases hlt : i < c.said.length
    case neg =>
      rw [decide_eq_false hlt]
      exact iteT ⟨_, rfl, k.only hc0 (said_no hlt)⟩
    rw [decide_eq_true hlt]
    have q := k.only hc0 (said_ok (List.getElem?_eq_getElem hlt))
    obtain ⟨t, e1, e2⟩ := said_tup h2 h3 (List.getElem?_eq_getElem hlt)
    refine iteF ⟨_, rfl, a, C, dx, _, _, rfl, ha, T.cl, T.nSaid, cF_said .., _, rfl, ls, _, _, _, rfl, rfl, SqL.of h1, atI_nat e1, t, _, rfl, .inr (SqT.of e2), fun p hp => q _ p (same_upd hp) hp upd_same⟩
theorem scState : FnScope ["caller"] ["caller"] (defScope sState) := ⟨rfl, rfl, rfl, by decide +kernel, rfl, by decide +kernel, by decide +kernel⟩
theorem ok_state {f : Addr} {fd : FuncData} (F : Fun K "ca_state" "ca_state" sState f fd) (T : Txt K mg C) (M2 : MethOk P w K mg base C 1 "called" ["self"] (spLook0 C gCalled)) :
    FnOk P w K mg base CX0 2 f fd ["caller"] (spCa0 C .cState) := by
  obtain ⟨f3, fd3, m3, G3, b3⟩ := M2.ex
  refine F.ok scState (fun vs H Q E h => ?_) (fun cdv A outer s H vs Q E hr h => ?_)
  · obtain ⟨a, ls, lk, c, rfl, _⟩ := h
    rfl
  · obtain ⟨a, ls, lk, c, rfl, hc, o, k⟩ := h
    have hc0 := hc
    obtain ⟨⟨dx, ha⟩, ⟨ts, h1, h2, h3⟩, hk, hn⟩ := hc
    refine ⟨_, pss_one (ps_ret (pe_lst (pa_cons (pe_meth0 (pv 0) T.cl m3 G3 hr b3 .nil pass0) (pa_cons (pe_fld (pv 0) rfl) (pa_cons (pe_fld (pv 0) rfl) pa_nil))))), ?_⟩
    refine ⟨_, rfl, a, dx, _, rfl, ha, cF_no _ _ _ _ _ (by decide +kernel), a, ls, lk, c, rfl, hc0, o, ?_⟩
    rintro v rfl
    refine ⟨_, rfl, a, C, dx, _, _, rfl, ha, T.cl, T.nMe, cF_me .., _, rfl, a, C, dx, _, _, rfl, ha, T.cl, T.nTold, cF_told .., (by show 3 ≤ sizeLine; decide), fun p hp => ?_⟩
    exact k.only hc0 (x := .cState) rfl _ p (same_upd hp) hp upd_same
end
end CS
set_option Elab.async false
set_option maxRecDepth 100000
set_option maxHeartbeats 2000000
namespace CS
open PySem PySem.Spec PyProof.Rows L2
section
variable {P : Program} {w : World} {K : PySem.W.Frag} {mg : Str → Option Value} {base : Heap} {C : Addr}
/-! ### ca_open -/
theorem open_lt {c : Km448.Caller} {n : Nat} (h : n ∈ c.open_) : n < c.said.length := by
  unfold Km448.Caller.open_ at h
  exact List.mem_range.mp (List.mem_filter.mp h).1
theorem scOpen : FnScope ["caller", "numbers"] ["caller"] (defScope sOpen) := ⟨rfl, rfl, rfl, by decide +kernel, rfl, by decide +kernel, by decide +kernel⟩
theorem ok_open {f : Addr} {fd : FuncData} (F : Fun K "ca_open" "ca_open" sOpen f fd) (T : Txt K mg C) (D1 : DefOk P w K mg base 1 "as_bits" ["numbers"] spBits)
    (M1 : MethOk P w K mg base C 1 "open_numbers" ["self"] (spOpens C)) (M2 : MethOk P w K mg base C 1 "first_open_from" ["self", "start"] (spLook1 C gFirst)) :
    FnOk P w K mg base CX0 2 f fd ["caller"] (spCa0 C .cOpen) := by
  obtain ⟨f1, fd1, g1, k1, G1, b1⟩ := D1.ex
  obtain ⟨f2, fd2, m2, G2, b2⟩ := M1.ex
  obtain ⟨f3, fd3, m3, G3, b3⟩ := M2.ex
  refine F.ok scOpen (fun vs H Q E h => ?_) (fun cdv A outer s H vs Q E hr h => ?_)
  · obtain ⟨a, ls, lk, c, rfl, _⟩ := h
    rfl
  · obtain ⟨a, ls, lk, c, rfl, hc, o, k⟩ := h
    have hc0 := hc
    obtain ⟨⟨dx, ha⟩, ⟨ts, h1, h2, h3⟩, hk, hn⟩ := hc
    have hm30 := o.most
    refine ⟨_, pss_cons (ps_set (i := 1) scOpen.nd rfl (Or.inl rfl) (pe_meth0 (pv 0) T.cl m2 G2 hr b2 .nil pass0))
      (pss_one (ps_ret (pe_lst (pa_cons (pe_callB call_len_seq (by rfl) T.len PySem.boot_len (pa_cons (pv 1) pa_nil)) (pa_cons (pe_call G1 hr rfl g1 k1 b1 .nil pass0 (pa_cons (pv 1) pa_nil)) (pa_cons (pe_meth (pv 0) T.cl m3 G3 hr b3 .nil pass0 (pa_cons pe_int pa_nil)) pa_nil)))))), ?_⟩
    refine ⟨_, rfl, a, dx, _, rfl, ha, cF_no _ _ _ _ _ (by decide +kernel), a, ls, lk, c, rfl, hc0, o, ?_⟩
    intro H1 p s1 hp e1
    refine ⟨_, rfl, p, _, rfl, .inl (SqL.of e1), _, rfl, p, c.open_, rfl, e1, (fun n hn => by have := open_lt hn; omega), ?_⟩
    refine ⟨_, rfl, a, dx, _, rfl, s1 _ _ ha, cF_no _ _ _ _ _ (by decide +kernel), a, ls, lk, c, 0, rfl, hc0.same s1, o, ?_⟩
    rintro v ⟨n, rfl, hf⟩
    refine ⟨(by show 3 ≤ sizeLine; decide), fun q hq => ?_⟩
    refine k.only hc0 (x := .cOpen) rfl _ q (s1.trans (same_upd hq)) (s1.free hq) ?_
    rw [upd_same, List.length_map, ← first_of o hf]
    rfl
/-! ### ca_hear, ca_would -/
theorem scWould : FnScope ["caller", "message"] ["caller", "message"] (defScope sWould) := ⟨rfl, rfl, rfl, by decide +kernel, rfl, by decide +kernel, by decide +kernel⟩
theorem ok_would {f : Addr} {fd : FuncData} (F : Fun K "ca_would" "ca_would" sWould f fd) (T : Txt K mg C) (kN : Kn mg "NOT_GOOD" 71)
    (D1 : DefOk P w K mg base 1 "refused" ["refusal"] spRefused) (D2 : DefOk P w K mg base 2 "is_good" ["caller", "message"] (spGood C)) (D3 : DefOk P w K mg base 2 "newly_known" ["caller", "message"] (spNewly C)) :
    FnOk P w K mg base CX0 3 f fd ["caller", "message"] (spCaM C .cWould) := by
  obtain ⟨f1, fd1, g1, k1, G1, b1⟩ := D1.ex
  obtain ⟨f2, fd2, g2, k2, G2, b2⟩ := D2.ex
  obtain ⟨f3, fd3, g3, k3, G3, b3⟩ := D3.ex
  refine F.ok scWould (fun vs H Q E h => ?_) (fun cdv A outer s H vs Q E hr h => ?_)
  · obtain ⟨a, ls, lk, c, m, m0, m1, m2, m3, m4, m5, rfl, _⟩ := h
    rfl
  · obtain ⟨a, ls, lk, c, m, m0, m1, m2, m3, m4, m5, rfl, hc, o, hm, k⟩ := h
    have hr1 : Room 1 _ := hr.mono (by decide)
    refine ⟨_, pss_cons (ps_if (pt_not (pt_val (pe_call G2 hr rfl g2 k2 b2 .nil pass0 (pa_cons (pv 0) (pa_cons (pv 1) pa_nil))))) (pss_one (ps_ret (pe_call G1 hr1 rfl g1 k1 b1 .nil pass0 (pa_cons (pe_k rfl kN) pa_nil)))) pss_nil)
      (pss_one (ps_ret (pe_lst (pa_cons (pe_callB call_len_seq (by rfl) T.len PySem.boot_len (pa_cons (pe_call G3 hr rfl g3 k3 b3 .nil pass0 (pa_cons (pv 0) (pa_cons (pv 1) pa_nil))) pa_nil)) pa_nil)))), ?_⟩
    refine ⟨_, rfl, _, rfl, a, ls, lk, c, m, m0, m1, m2, m3, m4, m5, rfl, hc, o, hm, ?_⟩
    intro H1 s1
    refine ⟨_, rfl, ?_⟩
    cases hg : c.good [m0, m1, m2, m3, m4, m5] with
    | false => exact iteT ⟨_, rfl, fun H' p s2 hp ep => k.only hc (would_bad hg) H' p (s1.trans s2) (s1.free hp) ep⟩
    | true =>
      refine iteF ⟨_, rfl, _, rfl, a, ls, lk, c, m, m0, m1, m2, m3, m4, m5, rfl, hc.same s1, o, s1 _ _ hm, hg, ?_⟩
      intro H2 p s2 hp ep
      refine ⟨p, _, rfl, .inl (SqL.of ep), (by show 1 ≤ sizeLine; decide), fun q hq => ?_⟩
      refine k.only hc (would_ok hg) _ q ((s1.trans s2).trans (same_upd hq)) ((s1.trans s2).free hq) ?_
      rw [upd_same, List.length_map, newly_len o (good_six.mp hg).2.2.2.2.2.2 m1 m0 m4 m5]
      rfl
theorem scHear : FnScope ["caller", "message", "numbers", "number"] ["caller", "message"] (defScope sHear) := ⟨rfl, rfl, rfl, by decide +kernel, rfl, by decide +kernel, by decide +kernel⟩
theorem setAll_snoc (k : List Bool) (l : List Nat) (n : Nat) : setAll k (l ++ [n]) = (setAll k l).set n true := by
  unfold setAll
  rw [List.foldl_append]
  rfl
theorem map_set_bl (k : List Bool) (n : Nat) (b : Bool) : (k.map V.bl).set n (.bl b) = (k.set n b).map V.bl := List.map_set.symm
theorem ixN_nat {n i : Nat} (h : i < n) : ixN n (i : Int) = some i := by
  unfold ixN
  rw [if_pos (Int.natCast_nonneg _), if_pos (Int.ofNat_lt.mpr h)]
  rfl
theorem ok_hear {f : Addr} {fd : FuncData} (F : Fun K "ca_hear" "ca_hear" sHear f fd) (T : Txt K mg C) (kN : Kn mg "NOT_GOOD" 71)
    (D1 : DefOk P w K mg base 1 "refused" ["refusal"] spRefused) (D2 : DefOk P w K mg base 2 "is_good" ["caller", "message"] (spGood C)) (D3 : DefOk P w K mg base 2 "newly_known" ["caller", "message"] (spNewly C))
    (M1 : MethOk P w K mg base C 1 "open_numbers" ["self"] (spOpens C)) :
    FnOk P w K mg base CX0 3 f fd ["caller", "message"] (spCaM C .cHear) := by
  obtain ⟨f1, fd1, g1, k1, G1, b1⟩ := D1.ex
  obtain ⟨f2, fd2, g2, k2, G2, b2⟩ := D2.ex
  obtain ⟨f3, fd3, g3, k3, G3, b3⟩ := D3.ex
  obtain ⟨f4, fd4, m4', G4, b4⟩ := M1.ex
  refine F.ok scHear (fun vs H Q E h => ?_) (fun cdv A outer s H vs Q E hr h => ?_)
  · obtain ⟨a, ls, lk, c, m, m0, m1, m2, m3, m4, m5, rfl, _⟩ := h
    rfl
  · obtain ⟨a, ls, lk, c, m, m0, m1, m2, m3, m4, m5, rfl, hc, o, hm, k⟩ := h
    have hr1 : Room 1 _ := hr.mono (by decide)
    refine ⟨_, pss_cons (ps_if (pt_not (pt_val (pe_call G2 hr rfl g2 k2 b2 .nil pass0 (pa_cons (pv 0) (pa_cons (pv 1) pa_nil))))) (pss_one (ps_ret (pe_call G1 hr1 rfl g1 k1 b1 .nil pass0 (pa_cons (pe_k rfl kN) pa_nil)))) pss_nil)
      (pss_cons (ps_set (i := 2) scHear.nd rfl (Or.inl rfl) (pe_call G3 hr rfl g3 k3 b3 .nil pass0 (pa_cons (pv 0) (pa_cons (pv 1) pa_nil))))
      (pss_cons (ps_for PassesOwn.never rfl (pi_list (pv 2)) (pg_name (i := 3) scHear.nd rfl (Or.inl rfl)) (pss_one (ps_asg pe_bl (pg_sub (pe_fld (pv 0) rfl) (pv 3) set_list) rfl)))
      (pss_one (ps_ret (pe_lst (pa_cons (pe_callB call_len_seq (by rfl) T.len PySem.boot_len (pa_cons (pv 2) pa_nil))
        (pa_cons (pe_callB call_len_seq (by rfl) T.len PySem.boot_len (pa_cons (pe_meth0 (pv 0) T.cl m4' G4 hr1 b4 .nil pass0) pa_nil)) pa_nil))))))), ?_⟩
    refine ⟨_, rfl, _, rfl, a, ls, lk, c, m, m0, m1, m2, m3, m4, m5, rfl, hc, o, hm, ?_⟩
    intro H1 s1
    refine ⟨_, rfl, ?_⟩
    cases hg : c.good [m0, m1, m2, m3, m4, m5] with
    | false => exact iteT ⟨_, rfl, fun H' p s2 hp ep => k.only hc (hear_bad hg) H' p (s1.trans s2) (s1.free hp) ep⟩
    | true =>
      refine iteF ⟨_, rfl, _, rfl, a, ls, lk, c, m, m0, m1, m2, m3, m4, m5, rfl, hc.same s1, o, s1 _ _ hm, hg, ?_⟩
      intro H2 p s2 hp ep
      have s12 := s1.trans s2
      have c6 := (good_six.mp hg).2.2.2.2.2.2
      have hc2 := hc.same s12
      obtain ⟨⟨dx, ha⟩, ⟨ts, h1, h2, h3⟩, hk, hn⟩ := hc2
      have nas : a ≠ ls := ne_of ha h1 (by intro z; cases z)
      have nak : a ≠ lk := ne_of ha hk (by intro z; cases z)
      have npk : p ≠ lk := by
        intro z
        have := s1.free hp
        rw [z] at this
        exact ne_of_none hc.kn this rfl
      refine ⟨_, rfl, p, rfl, ⟨_, SqL.of ep⟩, for_list (K := K) (a := p) (xs := vints (newly c m2 m3)) (fun i σ H' => ∃ y, σ = [some (.ref a), some (.ref m), some (.ref p), y] ∧ Chg [lk] H2 H' ∧ (∀ q, H' q = none → H2 q = none) ∧ H' lk = some (.lst ((setAll c.known ((newly c m2 m3).take i)).map V.bl)))
        ⟨none, rfl, fun b x e _ => e, fun _ e => e, hk⟩ ?_ ?_ ?_⟩
      · rintro i σ H' _ ⟨y, rfl, sm, _⟩
        exact SqL.of (sm _ _ ep (by simpa using npk))
      · rintro i x σ H' hx ⟨y, rfl, sm, fr, ek⟩
        obtain ⟨z, hz, rfl⟩ := vints_at hx
        have hzl : z < c.said.length := by
          have hm := List.mem_of_getElem? hz
          unfold newly at hm
          exact c6 z (List.mem_filter.mp hm).1
        refine ⟨_, rfl, a, C, dx, _, _, rfl, sm _ _ ha (by simpa using nak), T.cl, T.nKnown, cF_known .., _, rfl, lk, _, _, z, rfl, rfl, ek, ixN_nat (by rw [List.length_map, setAll_len, o.len]; exact hzl), _, rfl, sm.upd (by simp), fun q hq => fr q (upd_free hq), ?_⟩
        rw [upd_same, map_set_bl, take_more hz, setAll_snoc]
      · rintro σ H' ⟨y, rfl, sm, fr, ek⟩
        rw [List.length_map, List.take_length, ← hears_known o m1 m0 m4 m5] at ek
        have at1 : CallerAt C H' a ls lk (c.hears [m0, m1, m2, m3, m4, m5]) := by
          refine ⟨⟨dx, sm _ _ ha (by simpa using nak)⟩, ⟨ts, sm _ _ h1 (by simpa using hn), h2, fun i t w e1 e2 => sm _ _ (h3 i t w e1 e2) ?_⟩, ek, hn⟩
          have := ne_of (h3 i t w e1 e2) hk (by unfold whatT; intro z; cases z)
          simpa using this
        refine ⟨_, rfl, p, _, rfl, .inl (SqL.of (sm _ _ ep (by simpa using npk))), _, rfl, a, dx, _, rfl, sm _ _ ha (by simpa using nak), cF_no _ _ _ _ _ (by decide +kernel), a, ls, lk, _, rfl, at1, ok_hears o _, ?_⟩
        intro H3 p2 s3 hp2 ep2
        refine ⟨p2, _, rfl, .inl (SqL.of ep2), (by show 2 ≤ sizeLine; decide), fun q hq => ?_⟩
        have e := hear_ok hg
        refine k _ q ?_ ?_ (s12.free (fr _ (s3.free hq))) ?_
        · rw [e]
          exact (at1.same s3).same (same_upd hq)
        · refine Chg.same (fun b x e n => sm _ _ (s12 _ _ e) (fun h => n ?_)) (s3.trans (same_upd hq))
          rw [List.mem_singleton] at h
          rw [h]
          simp
        · rw [e, upd_same, List.length_map, List.length_map, newly_len o c6 m1 m0 m4 m5]
          rfl
end
end CS
set_option Elab.async false
set_option maxRecDepth 100000
set_option maxHeartbeats 2000000
namespace CS
open PySem PySem.Spec PyProof.Rows L2
abbrev sCaller : Stmt := top 60
section
variable {P : Program} {w : World} {K : PySem.W.Frag} {mg : Str → Option Value} {base : Heap} {C : Addr}
/-! ### ca_start -/
def spStart (C : Addr) : Sp := fun vs H Q _ => ∃ (L : Addr) (us : List V) (k me : Nat), vs = [.ref L, .int k, .int me] ∧ H L = some (.lst us) ∧ k < us.length ∧
  (¬ me ≤ 3 → NewL H Q [.int (-22)]) ∧
  (me ≤ 3 → ∀ H' p a ls lk, CallerAt C H' a ls lk (Km448.caller0 me) → H a = none → H ls = none → H lk = none → H p = none → Chg [L] H H' → H' L = some (.lst (us.set k (.ref a))) → H' p = some (.lst [.int 0]) → Q (.ref p) H')
theorem scStart : FnScope ["callers", "place", "me"] ["callers", "place", "me"] (defScope sStart) := ⟨rfl, rfl, rfl, by decide +kernel, rfl, by decide +kernel, by decide +kernel⟩
theorem ok_start {f fI : Addr} {fd fdI : FuncData} (F : Fun K "ca_start" "ca_start" sStart f fd) (T : Txt K mg C) (kG : Kn mg "GREATEST_CALLER" 3) (kO : Kn mg "OUT_OF_RANGE" 22)
    (D1 : DefOk P w K mg base 1 "refused" ["refusal"] spRefused) (M : Mk K C fI) (GI : FnOk P w K mg base CX0 1 fI fdI ["self", "me"] (spInit C)) (bI : L2.Binds K fdI ["self", "me"] []) :
    FnOk P w K mg base CX0 3 f fd ["callers", "place", "me"] (spStart C) := by
  obtain ⟨f1, fd1, g1, k1, G1, b1⟩ := D1.ex
  refine F.ok scStart (fun vs H Q E h => ?_) (fun cdv A outer s H vs Q E hr h => ?_)
  · obtain ⟨L, us, k, me, rfl, _⟩ := h
    rfl
  · obtain ⟨L, us, k, me, rfl, hL, hk, kB, kG'⟩ := h
    have hr1 : Room 1 _ := hr.mono (by decide)
    refine ⟨_, pss_cons (ps_if (pt_cmpR op_gt (pv 2) (pe_k rfl kG) (nomark _)) (pss_one (ps_ret (pe_call G1 hr1 rfl g1 k1 b1 .nil pass0 (pa_cons (pe_k rfl kO) pa_nil)))) pss_nil)
      (pss_cons (ps_asg (pe_make M GI hr rfl T.gC bI .nil pass0 (pa_cons (pv 2) pa_nil)) (pg_sub (pv 0) (pv 1) set_list) rfl)
      (pss_one (ps_ret (pe_lst (pa_cons pe_int pa_nil))))), ?_⟩
    refine ⟨_, rfl, _, _, rfl, rfl, _, rfl, ?_⟩
    by_cases hme : me ≤ 3
    case neg => exact if_yes (decide_eq_true (by omega)) ⟨_, rfl, kB hme⟩
    refine if_no (decide_eq_false (by omega)) ⟨_, rfl, ?_⟩
    intro x dx nx nd ne
    refine ⟨x, dx, me, rfl, upd_same, fun H1 ls lk fs fk at1 kp => ⟨rfl, ?_⟩⟩
    have s1 : Same H H1 := Same.made nx nd kp
    have eL := s1 _ _ hL
    refine ⟨_, rfl, _, rfl, L, us, _, k, rfl, rfl, eL, ixN_nat hk, (by show 1 ≤ sizeLine; decide), fun p hp => ?_⟩
    have hp1 := upd_free hp
    have q1 : CallerAt C (L2.upd H1 L (.lst (us.set k (.ref x)))) x ls lk (Km448.caller0 me) := by
      refine at1.frame (F := [L]) (Chg.upd (fun b x e _ => e) (by simp)) ?_ ?_ ?_ ?_
      · have := ne_of_none hL nx
        simpa using this.symm
      · have := ne_of_none hL (upd_free (upd_free fs))
        simpa using this.symm
      · have := ne_of_none hL (upd_free (upd_free fk))
        simpa using this.symm
      · intro b hb xs e
        rw [List.mem_singleton] at hb
        rw [hb, eL] at e
        cases e
    refine kG' hme _ p x ls lk (q1.same (same_upd hp)) nx (upd_free (upd_free fs)) (upd_free (upd_free fk)) (s1.free hp1) (Chg.same (Chg.upd (Chg.of_same s1) (by simp)) (same_upd hp)) ?_ upd_same
    rw [upd_ne (ne_of_none eL hp1)]
    exact upd_same
/-! ### the callers of a line -/
/-- whose an address is: 0, 1, 2 a caller's, 10 the callers' list -/
abbrev Tag : Type := Addr → Nat
def Slot (C : Addr) (H : Hp) (tag : Tag) (i : Nat) (v : V) (oc : Option Km448.Caller) : Prop :=
  (v = .non ∧ oc = none) ∨ ∃ a ls lk c, v = .ref a ∧ oc = some c ∧ CallerAt C H a ls lk c ∧ Ok c ∧ tag a = i ∧ tag ls = i ∧ tag lk = i
structure Callers (C : Addr) (H : Hp) (tag : Tag) (L : Addr) (os : List (Option Km448.Caller)) : Prop where
  ex : ∃ us, H L = some (.lst us) ∧ us.length = 3 ∧ os.length = 3 ∧ ∀ i v oc, us[i]? = some v → os[i]? = some oc → Slot C H tag i v oc
  tg : tag L = 10
/-- what may be changed: things of these owners, no tuple -/
def Only (tag : Tag) (own : Nat → Prop) (F : List Addr) (H : Hp) : Prop := ∀ b ∈ F, own (tag b) ∧ (∃ o, H b = some o) ∧ ∀ xs, H b ≠ some (.tup xs)
theorem Slot.frame {H H' : Hp} {tag tag' : Tag} {own : Nat → Prop} {F : List Addr} {i : Nat} {v : V} {oc : Option Km448.Caller} (h : Slot C H tag i v oc) (s : Chg F H H') (hF : Only tag own F H) (ho : ¬ own i) (ht : ∀ b o, H b = some o → tag' b = tag b) : Slot C H' tag' i v oc := by
  rcases h with h | ⟨a, ls, lk, c, rfl, rfl, hc, o, ta, ts, tk⟩
  · exact .inl h
  · have no : ∀ {b}, tag b = i → b ∉ F := fun e hb => ho (e ▸ (hF _ hb).1)
    refine .inr ⟨a, ls, lk, c, rfl, rfl, hc.frame s (no ta) (no ts) (no tk) (fun b hb => (hF b hb).2.2), o, ?_, ?_, ?_⟩
    · obtain ⟨dx, e⟩ := hc.ob
      rw [ht _ _ e]
      exact ta
    · obtain ⟨us, e, _⟩ := hc.sd
      rw [ht _ _ e]
      exact ts
    · rw [ht _ _ hc.kn]
      exact tk
theorem Callers.frame {H H' : Hp} {tag tag' : Tag} {own : Nat → Prop} {F : List Addr} {L : Addr} {os : List (Option Km448.Caller)} (h : Callers C H tag L os) (s : Chg F H H') (hF : Only tag own F H) (ho : ∀ i, i < 3 ∨ i = 10 → ¬ own i) (ht : ∀ b o, H b = some o → tag' b = tag b) : Callers C H' tag' L os := by
  obtain ⟨us, e, l1, l2, hs⟩ := h.ex
  refine ⟨⟨us, s _ _ e fun hb => ho 10 (Or.inr rfl) (h.tg ▸ (hF _ hb).1), l1, l2, fun i v oc e1 e2 => (hs i v oc e1 e2).frame s hF (ho i (Or.inl ?_)) ht⟩, ?_⟩
  · rw [← l1]
    exact (List.getElem?_eq_some_iff.mp e1).1
  · rw [ht _ _ e]
    exact h.tg
/-- one caller has changed -/
theorem Callers.did {H H' : Hp} {tag : Tag} {L a ls lk : Addr} {os : List (Option Km448.Caller)} {us : List V} {k : Nat} {c c' : Km448.Caller} (h : Callers C H tag L os) (hL : H L = some (.lst us)) (hk : us[k]? = some (.ref a)) (hc : CallerAt C H a ls lk c)
    (ta : tag a = k) (ts : tag ls = k) (tk : tag lk = k) (at1 : CallerAt C H' a ls lk c') (o' : Ok c') (s : Chg [a, ls, lk] H H') : Callers C H' tag L (os.set k (some c')) := by
  obtain ⟨us', e, l1, l2, hs⟩ := h.ex
  rw [hL] at e
  obtain rfl : us = us' := by
    injection e with e
    injection e
  have k3 : k < 3 := by
    rw [← l1]
    exact (List.getElem?_eq_some_iff.mp hk).1
  obtain ⟨dx, eo⟩ := hc.ob
  obtain ⟨us2, es, _⟩ := hc.sd
  have hF : Only tag (fun i => i = k) [a, ls, lk] H := by
    intro b hb
    simp only [List.mem_cons, List.not_mem_nil, or_false] at hb
    rcases hb with rfl | rfl | rfl
    · exact ⟨ta, ⟨_, eo⟩, fun xs e => by rw [eo] at e; cases e⟩
    · exact ⟨ts, ⟨_, es⟩, fun xs e => by rw [es] at e; cases e⟩
    · exact ⟨tk, ⟨_, hc.kn⟩, fun xs e => by rw [hc.kn] at e; cases e⟩
  refine ⟨⟨us, s _ _ hL fun hb => ?_, l1, by rw [List.length_set]; exact l2, fun i v oc e1 e2 => ?_⟩, h.tg⟩
  · have := (hF _ hb).1
    rw [h.tg] at this
    omega
  · by_cases hi : i = k
    · subst hi
      rw [List.getElem?_set_self (by rw [l2]; exact k3)] at e2
      rw [hk] at e1
      cases e1
      cases e2
      exact .inr ⟨a, ls, lk, c', rfl, rfl, at1, o', ta, ts, tk⟩
    · rw [List.getElem?_set_ne (fun z => hi z.symm)] at e2
      exact (hs i v oc e1 e2).frame s hF hi (fun _ _ _ => rfl)
/-- one caller is new -/
theorem Callers.made {H H' : Hp} {tag : Tag} {L a ls lk : Addr} {os : List (Option Km448.Caller)} {us : List V} {k : Nat} {c' : Km448.Caller} (h : Callers C H tag L os) (hL : H L = some (.lst us)) (hk : k < 3)
    (at1 : CallerAt C H' a ls lk c') (o' : Ok c') (fa : H a = none) (fs : H ls = none) (fk : H lk = none) (s : Chg [L] H H') (eL : H' L = some (.lst (us.set k (.ref a)))) :
    Callers C H' (fun b => if b = a ∨ b = ls ∨ b = lk then k else tag b) L (os.set k (some c')) := by
  obtain ⟨us', e, l1, l2, hs⟩ := h.ex
  rw [hL] at e
  obtain rfl : us = us' := by
    injection e with e
    injection e
  have ht : ∀ b o, H b = some o → (fun b => if b = a ∨ b = ls ∨ b = lk then k else tag b) b = tag b := by
    intro b o eb
    show (if b = a ∨ b = ls ∨ b = lk then k else tag b) = tag b
    rw [if_neg]
    rintro (z | z | z)
    · exact ne_of_none eb fa z
    · exact ne_of_none eb fs z
    · exact ne_of_none eb fk z
  have hF : Only tag (fun i => i = 10) [L] H := by
    intro b hb
    rw [List.mem_singleton] at hb
    subst hb
    exact ⟨h.tg, ⟨_, hL⟩, fun xs e => by rw [hL] at e; cases e⟩
  refine ⟨⟨us.set k (.ref a), eL, by rw [List.length_set]; exact l1, by rw [List.length_set]; exact l2, fun i v oc e1 e2 => ?_⟩, ?_⟩
  · by_cases hi : i = k
    · subst hi
      rw [List.getElem?_set_self (by rw [l2]; exact hk)] at e2
      rw [List.getElem?_set_self (by rw [l1]; exact hk)] at e1
      cases e1
      cases e2
      exact .inr ⟨a, ls, lk, c', rfl, rfl, at1, o', if_pos (Or.inl rfl), if_pos (Or.inr (Or.inl rfl)), if_pos (Or.inr (Or.inr rfl))⟩
    · rw [List.getElem?_set_ne (fun z => hi z.symm)] at e1 e2
      have i3 : i < 3 := by
        rw [← l1]
        exact (List.getElem?_eq_some_iff.mp e1).1
      exact (hs i v oc e1 e2).frame s hF (by omega) ht
  · exact (ht _ _ hL).trans h.tg
end
end CS
set_option Elab.async false
set_option maxRecDepth 100000
set_option maxHeartbeats 2000000
namespace CS
open PySem PySem.Spec PyProof.Rows L2
section
variable {P : Program} {w : World} {K : PySem.W.Frag} {mg : Str → Option Value} {base : Heap} {C : Addr}
abbrev SS : Type := List (Option Km448.Shore)
theorem step_some {os : List (Option Km448.Caller)} {ss : SS} {k : Nat} {x : Km448.Call} {c : Km448.Caller} (hk : k ≤ 2) (h : os[k]? = some (some c)) : Km448Neutral.step0 (os, ss) k x = ((os.set k (some (Km448.cDoes c x).1), ss), Km448Neutral.told (Km448.cDoes c x).2) := by
  unfold Km448Neutral.step0
  rw [if_neg (by omega)]
  show (match os.getD k none with | some a => _ | none => _) = _
  rw [List.getD_eq_getElem?_getD, h]
  rfl
theorem step_none {os : List (Option Km448.Caller)} {ss : SS} {k : Nat} {x : Km448.Call} (hk : k ≤ 2) (h : os[k]? = some none) (hs : Km448.isStart x = false) : Km448Neutral.step0 (os, ss) k x = ((os, ss), []) := by
  unfold Km448Neutral.step0
  rw [if_neg (by omega)]
  show (match os.getD k none with | some a => _ | none => _) = _
  rw [List.getD_eq_getElem?_getD, h]
  show (if Km448.isStart x = true then _ else _) = _
  rw [hs]
  rfl
theorem step_start_bad {os : List (Option Km448.Caller)} {ss : SS} {k me : Nat} {oc : Option Km448.Caller} (hk : k ≤ 2) (h : os[k]? = some oc) (hm : ¬ me ≤ 3) : Km448Neutral.step0 (os, ss) k (.cStart me) = ((os, ss), [-22]) := by
  have e : ∀ c, Km448.cDoes c (.cStart me) = (c, Km448.only (-22)) := fun c => if_pos (show 4 ≤ me by omega)
  cases oc with
  | none =>
    unfold Km448Neutral.step0
    rw [if_neg (by omega)]
    show (match os.getD k none with | some a => _ | none => _) = _
    rw [List.getD_eq_getElem?_getD, h]
    show (if (Km448Neutral.told (Km448.cDoes (Km448.caller0 0) (.cStart me)).2).headD 0 < 0 then (os, ss) else _, Km448Neutral.told (Km448.cDoes (Km448.caller0 0) (.cStart me)).2) = _
    rw [e]
    rfl
  | some c =>
    rw [step_some hk h, e]
    refine congrArg (fun z => ((z, ss), [(-22 : Int)])) ?_
    refine List.ext_getElem? fun i => ?_
    rw [List.getElem?_set]
    by_cases hi : k = i
    · subst hi
      rw [if_pos rfl, if_pos (List.getElem?_eq_some_iff.mp h).1, h]
    · rw [if_neg hi]
theorem step_start_ok {os : List (Option Km448.Caller)} {ss : SS} {k me : Nat} {oc : Option Km448.Caller} (hk : k ≤ 2) (h : os[k]? = some oc) (hm : me ≤ 3) : Km448Neutral.step0 (os, ss) k (.cStart me) = ((os.set k (some (Km448.caller0 me)), ss), [0]) := by
  have e : ∀ c, Km448.cDoes c (.cStart me) = (Km448.caller0 me, Km448.only 0) := fun c => if_neg (show ¬ 4 ≤ me by omega)
  cases oc with
  | none =>
    unfold Km448Neutral.step0
    rw [if_neg (by omega)]
    show (match os.getD k none with | some a => _ | none => _) = _
    rw [List.getD_eq_getElem?_getD, h]
    show (if (Km448Neutral.told (Km448.cDoes (Km448.caller0 0) (.cStart me)).2).headD 0 < 0 then (os, ss) else (os.set k (some (Km448.cDoes (Km448.caller0 0) (.cStart me)).1), ss), Km448Neutral.told (Km448.cDoes (Km448.caller0 0) (.cStart me)).2) = _
    rw [e]
    rfl
  | some c =>
    rw [step_some hk h, e]
    rfl
theorem Callers.here {H : Hp} {tag : Tag} {L : Addr} {os : List (Option Km448.Caller)} {k : Nat} (h : Callers C H tag L os) (hk : k ≤ 2) : ∃ us v oc, H L = some (.lst us) ∧ us.length = 3 ∧ us[k]? = some v ∧ os[k]? = some oc ∧ Slot C H tag k v oc := by
  obtain ⟨us, e, l1, l2, hs⟩ := h.ex
  have h1 : k < us.length := by omega
  have h2 : k < os.length := by omega
  exact ⟨us, us[k], os[k], e, l1, List.getElem?_eq_getElem h1, List.getElem?_eq_getElem h2, hs k _ _ (List.getElem?_eq_getElem h1) (List.getElem?_eq_getElem h2)⟩
theorem six_parts {m : List Nat} (h : Six m) : ∃ m0 m1 m2 m3 m4 m5, m = [m0, m1, m2, m3, m4, m5] := by
  obtain ⟨hl, _⟩ := h
  match m, hl with
  | [m0, m1, m2, m3, m4, m5], _ => exact ⟨m0, m1, m2, m3, m4, m5, rfl⟩
theorem cut_from (xs : List V) (n : Nat) (h : n ≤ xs.length) : cutV xs (some (n : Int)) none = xs.drop n := by
  unfold cutV
  rw [HT.sIx_nat, HT.sIx_none, Nat.min_eq_left h]
  exact List.take_of_length_le (by rw [List.length_drop]; omega)
/-- what a call of the callers comes to -/
def spCaller (C : Addr) : Sp := fun vs H Q _ => ∃ (L q : Addr) (tag : Tag) (os : List (Option Km448.Caller)) (ss : SS) (k : Nat) (x : Km448.Call), vs = [.ref L, .ref q] ∧ Callers C H tag L os ∧ H q = some (.lst (iints (flat k x))) ∧ Fine k x ∧ Km448.whose x = 0 ∧
  (Km448Neutral.step0 (os, ss) k x).2 ≠ [] ∧
  ∀ H' p tag' F, Callers C H' tag' L (Km448Neutral.step0 (os, ss) k x).1.1 → Chg F H H' → Only tag (fun i => i < 3 ∨ i = 10) F H → (∀ b o, H b = some o → tag' b = tag b) → H p = none → H' p = some (.lst (iints (Km448Neutral.step0 (os, ss) k x).2)) → Q (.ref p) H'
theorem scCaller : FnScope ["callers", "call", "number", "caller"] ["callers", "call"] (defScope sCaller) := ⟨rfl, rfl, rfl, by decide +kernel, rfl, by decide +kernel, by decide +kernel⟩
theorem int_ne {a b : Int} (h : ¬ a = b) : decide (V.int a = V.int b) = false := decide_eq_false fun e => h (V.int.inj e)
theorem int_eq {a b : Int} (h : a = b) : decide (V.int a = V.int b) = true := decide_eq_true (congrArg V.int h)
/-- the numbers of the calls, as the program names them -/
structure Nums (mg : Str → Option Value) : Prop where
  n0 : Kn mg "CA_START" 0
  n1 : Kn mg "CA_SAY" 1
  n2 : Kn mg "CA_TELL" 2
  n3 : Kn mg "CA_HEAR" 3
  n4 : Kn mg "CA_KNOWN" 4
  n5 : Kn mg "CA_OPEN" 5
  n6 : Kn mg "CA_SAID" 6
  n7 : Kn mg "CA_WOULD" 7
  at_ : Kn mg "MESSAGE_AT" 3
theorem ok_caller {f : Addr} {fd : FuncData} (F : Fun K "caller_answer" "caller_answer" sCaller f fd) (N : Nums mg)
    (D0 : DefOk P w K mg base 3 "ca_start" ["callers", "place", "me"] (spStart C)) (D1 : DefOk P w K mg base 3 "ca_say" ["caller", "kind", "x", "y"] (spSay C)) (D2 : DefOk P w K mg base 3 "ca_tell" ["caller"] (spCa0 C .cTell))
    (D3 : DefOk P w K mg base 3 "ca_hear" ["caller", "message"] (spCaM C .cHear)) (D4 : DefOk P w K mg base 2 "ca_known" ["caller", "i"] (spCa1 C .cKnown)) (D5 : DefOk P w K mg base 2 "ca_open" ["caller"] (spCa0 C .cOpen))
    (D6 : DefOk P w K mg base 2 "ca_said" ["caller", "i"] (spCa1 C .cSaid)) (D7 : DefOk P w K mg base 3 "ca_would" ["caller", "message"] (spCaM C .cWould)) (D8 : DefOk P w K mg base 2 "ca_state" ["caller"] (spCa0 C .cState)) :
    FnOk P w K mg base CX0 4 f fd ["callers", "call"] (spCaller C) := by
  obtain ⟨f0, fd0, g0, k0, G0, b0⟩ := D0.ex
  obtain ⟨f1, fd1, g1, k1, G1, b1⟩ := D1.ex
  obtain ⟨f2, fd2, g2, k2, G2, b2⟩ := D2.ex
  obtain ⟨f3, fd3, g3, k3, G3, b3⟩ := D3.ex
  obtain ⟨f4, fd4, g4, k4, G4, b4⟩ := D4.ex
  obtain ⟨f5, fd5, g5, k5, G5, b5⟩ := D5.ex
  obtain ⟨f6, fd6, g6, k6, G6, b6⟩ := D6.ex
  obtain ⟨f7, fd7, g7, k7, G7, b7⟩ := D7.ex
  obtain ⟨f8, fd8, g8, k8, G8, b8⟩ := D8.ex
  refine F.ok scCaller (fun vs H Q E h => ?_) (fun cdv A outer s H vs Q E hr h => ?_)
  · obtain ⟨L, q, tag, os, ss, k, x, rfl, _⟩ := h
    rfl
  · obtain ⟨L, q, tag, os, ss, k, x, rfl, hC, hq, hf, hw, hne, kQ⟩ := h
    have hr2 : Room 2 _ := hr.mono (by decide)
    refine ⟨_, pss_cons (ps_set (i := 2) scCaller.nd rfl (Or.inl rfl) (pe_ix ix_list (pv 1) pe_int (fun _ _ => rfl)))
      (pss_cons (ps_if (pt_cmpR op_eq (pv 2) (pe_k rfl N.n0) (nomark _)) (pss_one (ps_ret (pe_call G0 hr rfl g0 k0 b0 .nil pass0 (pa_cons (pv 0) (pa_cons (pe_ix ix_list (pv 1) pe_int (fun _ _ => rfl)) (pa_cons (pe_ix ix_list (pv 1) pe_int (fun _ _ => rfl)) pa_nil)))))) pss_nil)
      (pss_cons (ps_set (i := 3) scCaller.nd rfl (Or.inl rfl) (pe_ix ix_list (pv 0) (pe_ix ix_list (pv 1) pe_int (fun _ _ => rfl)) (fun _ _ => rfl)))
      (pss_cons (ps_if (pt_cmpR op_eq (pv 2) (pe_k rfl N.n1) (nomark _)) (pss_one (ps_ret (pe_call G1 hr rfl g1 k1 b1 .nil pass0 (pa_cons (pv 3) (pa_cons (pe_ix ix_list (pv 1) pe_int (fun _ _ => rfl)) (pa_cons (pe_ix ix_list (pv 1) pe_int (fun _ _ => rfl)) (pa_cons (pe_ix ix_list (pv 1) pe_int (fun _ _ => rfl)) pa_nil))))))) pss_nil)
      (pss_cons (ps_if (pt_cmpR op_eq (pv 2) (pe_k rfl N.n2) (nomark _)) (pss_one (ps_ret (pe_call G2 hr rfl g2 k2 b2 .nil pass0 (pa_cons (pv 3) pa_nil)))) pss_nil)
      (pss_cons (ps_if (pt_cmpR op_eq (pv 2) (pe_k rfl N.n3) (nomark _)) (pss_one (ps_ret (pe_call G3 hr rfl g3 k3 b3 .nil pass0 (pa_cons (pv 3) (pa_cons (pe_slice sl_list (pv 1) (po_some (pe_k rfl N.at_)) po_none) pa_nil))))) pss_nil)
      (pss_cons (ps_if (pt_cmpR op_eq (pv 2) (pe_k rfl N.n4) (nomark _)) (pss_one (ps_ret (pe_call G4 hr2 rfl g4 k4 b4 .nil pass0 (pa_cons (pv 3) (pa_cons (pe_ix ix_list (pv 1) pe_int (fun _ _ => rfl)) pa_nil))))) pss_nil)
      (pss_cons (ps_if (pt_cmpR op_eq (pv 2) (pe_k rfl N.n5) (nomark _)) (pss_one (ps_ret (pe_call G5 hr2 rfl g5 k5 b5 .nil pass0 (pa_cons (pv 3) pa_nil)))) pss_nil)
      (pss_cons (ps_if (pt_cmpR op_eq (pv 2) (pe_k rfl N.n6) (nomark _)) (pss_one (ps_ret (pe_call G6 hr2 rfl g6 k6 b6 .nil pass0 (pa_cons (pv 3) (pa_cons (pe_ix ix_list (pv 1) pe_int (fun _ _ => rfl)) pa_nil))))) pss_nil)
      (pss_cons (ps_if (pt_cmpR op_eq (pv 2) (pe_k rfl N.n7) (nomark _)) (pss_one (ps_ret (pe_call G7 hr rfl g7 k7 b7 .nil pass0 (pa_cons (pv 3) (pa_cons (pe_slice sl_list (pv 1) (po_some (pe_k rfl N.at_)) po_none) pa_nil))))) pss_nil)
      (pss_one (ps_ret (pe_call G8 hr2 rfl g8 k8 b8 .nil pass0 (pa_cons (pv 3) pa_nil))))))))))))), ?_⟩
    have hk2 : k ≤ 2 := by
      cases x <;> first | exact hf.1 | exact hf | cases hw
    obtain ⟨us, v, oc, hL, l3, huk, hok, hsl⟩ := hC.here hk2
    by_cases hst : ∃ me, x = .cStart me
    · obtain ⟨me, rfl⟩ := hst
      refine ⟨_, rfl, q, _, _, _, rfl, rfl, SqL.of hq, at_of (j := 0) rfl rfl, ?_⟩
      refine ⟨_, rfl, rfl, _, rfl, if_yes (int_eq rfl) ?_⟩
      refine ⟨_, rfl, _, rfl, q, _, _, _, rfl, rfl, SqL.of hq, at_of (j := 1) rfl rfl, _, rfl, q, _, _, _, rfl, rfl, SqL.of hq, at_of (j := 2) rfl rfl, ?_⟩
      refine ⟨L, us, k, me, rfl, hL, by omega, fun hm => ?_, fun hm => ?_⟩
      · intro H' p sm hp ep
        have e := step_start_bad (ss := ss) hk2 hok hm
        refine kQ H' p tag [] ?_ (Chg.of_same sm) (fun b hb => by cases hb) (fun _ _ _ => rfl) hp ?_
        · rw [e]
          exact hC.frame (own := fun _ => False) (F := []) (Chg.of_same sm) (fun b hb => by cases hb) (fun _ _ h => h) (fun _ _ _ => rfl)
        · rw [e]
          exact ep
      · intro H' p a ls lk at1 fa fs fk hp ch eL ep
        have e := step_start_ok (ss := ss) hk2 hok hm
        refine kQ H' p (fun b => if b = a ∨ b = ls ∨ b = lk then k else tag b) [L] ?_ ch ?_ ?_ hp ?_
        · rw [e]
          exact hC.made hL (by omega) at1 (ok_new hm) fa fs fk ch eL
        · intro b hb
          rw [List.mem_singleton] at hb
          subst hb
          exact ⟨Or.inr hC.tg, ⟨_, hL⟩, fun xs e => by rw [hL] at e; cases e⟩
        · intro b o eb
          show (if b = a ∨ b = ls ∨ b = lk then k else tag b) = tag b
          rw [if_neg]
          rintro (z | z | z)
          · exact ne_of_none eb fa z
          · exact ne_of_none eb fs z
          · exact ne_of_none eb fk z
        · rw [e]
          exact ep
    · have hns : Km448.isStart x = false := by
        cases x <;> first | rfl | (exact absurd ⟨_, rfl⟩ hst) | cases hw
      rcases hsl with ⟨rfl, rfl⟩ | ⟨a, ls, lk, c, rfl, rfl, hc, o, ta, ts, tk⟩
      · rw [step_none hk2 hok hns] at hne
        exact absurd rfl hne
      have e := step_some (ss := ss) (x := x) hk2 hok
      have fin : ∀ H1, Same H H1 → Does C H1 Q a ls lk c x := by
        intro H1 s1 H' p at1 ch hp ep
        have ch' : Chg [a, ls, lk] H H' := (Chg.of_same s1).trans ch
        refine kQ H' p tag [a, ls, lk] ?_ ch' ?_ (fun _ _ _ => rfl) (s1.free hp) ?_
        · rw [e]
          exact hC.did hL huk hc ta ts tk at1 (ok_does o x hw) ch'
        · obtain ⟨dx, eo⟩ := hc.ob
          obtain ⟨us2, es, _⟩ := hc.sd
          intro b hb
          simp only [List.mem_cons, List.not_mem_nil, or_false] at hb
          rcases hb with rfl | rfl | rfl
          · exact ⟨Or.inl (by omega), ⟨_, eo⟩, fun xs e => by rw [eo] at e; cases e⟩
          · exact ⟨Or.inl (by omega), ⟨_, es⟩, fun xs e => by rw [es] at e; cases e⟩
          · exact ⟨Or.inl (by omega), ⟨_, hc.kn⟩, fun xs e => by rw [hc.kn] at e; cases e⟩
        · rw [e]
          exact ep
      have sl := SqL.of (K := K) hq
      have us1 : atI us ((k : Nat) : Int) = some (.ref a) := atI_nat huk
      have sL := SqL.of (K := K) hL
      cases x with
      | cSay kd y z =>
        refine ⟨_, rfl, q, _, _, _, rfl, rfl, sl, at_of (j := 0) rfl rfl, _, rfl, rfl, _, rfl, if_no (int_ne (by decide)) ?_⟩
        refine ⟨_, rfl, _, rfl, q, _, _, _, rfl, rfl, sl, at_of (j := 1) rfl rfl, L, _, _, _, rfl, rfl, sL, us1, _, rfl, rfl, _, rfl, if_yes (int_eq rfl) ?_⟩
        exact ⟨_, rfl, _, rfl, q, _, _, _, rfl, rfl, sl, at_of (j := 2) rfl rfl, _, rfl, q, _, _, _, rfl, rfl, sl, at_of (j := 3) rfl rfl, _, rfl, q, _, _, _, rfl, rfl, sl, at_of (j := 4) rfl rfl, a, ls, lk, c, kd, y, z, rfl, hc, o, fin H (Same.refl _)⟩
      | cTell =>
        refine ⟨_, rfl, q, _, _, _, rfl, rfl, sl, at_of (j := 0) rfl rfl, _, rfl, rfl, _, rfl, if_no (int_ne (by decide)) ?_⟩
        refine ⟨_, rfl, _, rfl, q, _, _, _, rfl, rfl, sl, at_of (j := 1) rfl rfl, L, _, _, _, rfl, rfl, sL, us1, _, rfl, rfl, _, rfl, if_no (int_ne (by decide)) ?_⟩
        refine ⟨_, rfl, rfl, _, rfl, if_yes (int_eq rfl) ?_⟩
        exact ⟨_, rfl, a, ls, lk, c, rfl, hc, o, fin H (Same.refl _)⟩
      | cHear m =>
        obtain ⟨m0, m1, m2, m3, m4, m5, rfl⟩ := six_parts hf.2
        refine ⟨_, rfl, q, _, _, _, rfl, rfl, sl, at_of (j := 0) rfl rfl, _, rfl, rfl, _, rfl, if_no (int_ne (by decide)) ?_⟩
        refine ⟨_, rfl, _, rfl, q, _, _, _, rfl, rfl, sl, at_of (j := 1) rfl rfl, L, _, _, _, rfl, rfl, sL, us1, _, rfl, rfl, _, rfl, if_no (int_ne (by decide)) ?_⟩
        refine ⟨_, rfl, rfl, _, rfl, if_no (int_ne (by decide)) ⟨_, rfl, rfl, _, rfl, if_yes (int_eq rfl) ?_⟩⟩
        refine ⟨_, rfl, _, rfl, 3, rfl, q, _, rfl, sl, fun z hz => ?_⟩
        exact ⟨a, ls, lk, c, z, m0, m1, m2, m3, m4, m5, rfl, hc.same (same_upd hz), o, upd_same.trans (congrArg (fun z => some (HO.lst z)) (cut_from _ 3 (by simp [flat]))), fin _ (same_upd hz)⟩
      | cKnown i =>
        refine ⟨_, rfl, q, _, _, _, rfl, rfl, sl, at_of (j := 0) rfl rfl, _, rfl, rfl, _, rfl, if_no (int_ne (by decide)) ?_⟩
        refine ⟨_, rfl, _, rfl, q, _, _, _, rfl, rfl, sl, at_of (j := 1) rfl rfl, L, _, _, _, rfl, rfl, sL, us1, _, rfl, rfl, _, rfl, if_no (int_ne (by decide)) ?_⟩
        refine ⟨_, rfl, rfl, _, rfl, if_no (int_ne (by decide)) ⟨_, rfl, rfl, _, rfl, if_no (int_ne (by decide)) ⟨_, rfl, rfl, _, rfl, if_yes (int_eq rfl) ?_⟩⟩⟩
        exact ⟨_, rfl, _, rfl, q, _, _, _, rfl, rfl, sl, at_of (j := 2) rfl rfl, a, ls, lk, c, i, rfl, hc, o, fin H (Same.refl _)⟩
      | cOpen =>
        refine ⟨_, rfl, q, _, _, _, rfl, rfl, sl, at_of (j := 0) rfl rfl, _, rfl, rfl, _, rfl, if_no (int_ne (by decide)) ?_⟩
        refine ⟨_, rfl, _, rfl, q, _, _, _, rfl, rfl, sl, at_of (j := 1) rfl rfl, L, _, _, _, rfl, rfl, sL, us1, _, rfl, rfl, _, rfl, if_no (int_ne (by decide)) ?_⟩
        refine ⟨_, rfl, rfl, _, rfl, if_no (int_ne (by decide)) ⟨_, rfl, rfl, _, rfl, if_no (int_ne (by decide)) ⟨_, rfl, rfl, _, rfl, if_no (int_ne (by decide)) ⟨_, rfl, rfl, _, rfl, if_yes (int_eq rfl) ?_⟩⟩⟩⟩
        exact ⟨_, rfl, a, ls, lk, c, rfl, hc, o, fin H (Same.refl _)⟩
      | cSaid i =>
        refine ⟨_, rfl, q, _, _, _, rfl, rfl, sl, at_of (j := 0) rfl rfl, _, rfl, rfl, _, rfl, if_no (int_ne (by decide)) ?_⟩
        refine ⟨_, rfl, _, rfl, q, _, _, _, rfl, rfl, sl, at_of (j := 1) rfl rfl, L, _, _, _, rfl, rfl, sL, us1, _, rfl, rfl, _, rfl, if_no (int_ne (by decide)) ?_⟩
        refine ⟨_, rfl, rfl, _, rfl, if_no (int_ne (by decide)) ⟨_, rfl, rfl, _, rfl, if_no (int_ne (by decide)) ⟨_, rfl, rfl, _, rfl, if_no (int_ne (by decide)) ⟨_, rfl, rfl, _, rfl, if_no (int_ne (by decide)) ⟨_, rfl, rfl, _, rfl, if_yes (int_eq rfl) ?_⟩⟩⟩⟩⟩
        exact ⟨_, rfl, _, rfl, q, _, _, _, rfl, rfl, sl, at_of (j := 2) rfl rfl, a, ls, lk, c, i, rfl, hc, o, fin H (Same.refl _)⟩
      | cWould m =>
        obtain ⟨m0, m1, m2, m3, m4, m5, rfl⟩ := six_parts hf.2
        refine ⟨_, rfl, q, _, _, _, rfl, rfl, sl, at_of (j := 0) rfl rfl, _, rfl, rfl, _, rfl, if_no (int_ne (by decide)) ?_⟩
        refine ⟨_, rfl, _, rfl, q, _, _, _, rfl, rfl, sl, at_of (j := 1) rfl rfl, L, _, _, _, rfl, rfl, sL, us1, _, rfl, rfl, _, rfl, if_no (int_ne (by decide)) ?_⟩
        refine ⟨_, rfl, rfl, _, rfl, if_no (int_ne (by decide)) ⟨_, rfl, rfl, _, rfl, if_no (int_ne (by decide)) ⟨_, rfl, rfl, _, rfl, if_no (int_ne (by decide)) ⟨_, rfl, rfl, _, rfl, if_no (int_ne (by decide)) ⟨_, rfl, rfl, _, rfl, if_no (int_ne (by decide)) ⟨_, rfl, rfl, _, rfl, if_yes (int_eq rfl) ?_⟩⟩⟩⟩⟩⟩
        refine ⟨_, rfl, _, rfl, 3, rfl, q, _, rfl, sl, fun z hz => ?_⟩
        exact ⟨a, ls, lk, c, z, m0, m1, m2, m3, m4, m5, rfl, hc.same (same_upd hz), o, upd_same.trans (congrArg (fun z => some (HO.lst z)) (cut_from _ 3 (by simp [flat]))), fin _ (same_upd hz)⟩
      | cState =>
        refine ⟨_, rfl, q, _, _, _, rfl, rfl, sl, at_of (j := 0) rfl rfl, _, rfl, rfl, _, rfl, if_no (int_ne (by decide)) ?_⟩
        refine ⟨_, rfl, _, rfl, q, _, _, _, rfl, rfl, sl, at_of (j := 1) rfl rfl, L, _, _, _, rfl, rfl, sL, us1, _, rfl, rfl, _, rfl, if_no (int_ne (by decide)) ?_⟩
        refine ⟨_, rfl, rfl, _, rfl, if_no (int_ne (by decide)) ⟨_, rfl, rfl, _, rfl, if_no (int_ne (by decide)) ⟨_, rfl, rfl, _, rfl, if_no (int_ne (by decide)) ⟨_, rfl, rfl, _, rfl, if_no (int_ne (by decide)) ⟨_, rfl, rfl, _, rfl, if_no (int_ne (by decide)) ⟨_, rfl, rfl, _, rfl, if_no (int_ne (by decide)) ?_⟩⟩⟩⟩⟩⟩
        exact ⟨_, rfl, a, ls, lk, c, rfl, hc, o, fin H (Same.refl _)⟩
      | cStart me => exact absurd ⟨me, rfl⟩ hst
      | _ => cases hw
end
end CS
set_option Elab.async false
set_option maxRecDepth 100000
set_option maxHeartbeats 2000000
/-! How the shore lies in the heap. -/
namespace CS
open PySem PySem.Spec PyProof.Rows L2
/-- what a shore's object holds -/
def sF (lo dk : Addr) (ag : Int) : List (Str × V) := [("order", .ref lo), ("kept", .ref dk), ("again", .int ag)]
section
variable (lo dk : Addr) (ag : Int)
theorem sF_order : (sF lo dk ag).lookup ("order" : Str) = some (.ref lo) := lk_here
theorem sF_kept : (sF lo dk ag).lookup ("kept" : Str) = some (.ref dk) := (lk_past (by decide +kernel)).trans lk_here
theorem sF_again : (sF lo dk ag).lookup ("again" : Str) = some (.int ag) := (lk_past (by decide +kernel)).trans ((lk_past (by decide +kernel)).trans lk_here)
theorem sF_no {m : Str} (h : (m == ("order" : Str)) = false ∧ (m == ("kept" : Str)) = false ∧ (m == ("again" : Str)) = false) : (sF lo dk ag).lookup m = none :=
  (lk_past h.1).trans ((lk_past h.2.1).trans ((lk_past h.2.2).trans rfl))
theorem sF_put (y : Int) : putF "again" (.int y) (sF lo dk ag) = sF lo dk y :=
  (put_past (by decide +kernel)).trans (congrArg _ ((put_past (by decide +kernel)).trans (congrArg _ put_here)))
end
theorem sF_new (lo dk : Addr) : putF "again" (.int 0) (putF "kept" (.ref dk) (putF "order" (.ref lo) [])) = sF lo dk 0 := by
  have e1 : putF "kept" (.ref dk) (putF "order" (.ref lo) []) = [(("order" : Str), V.ref lo), ("kept", .ref dk)] := (put_past (by decide +kernel)).trans rfl
  rw [e1]
  exact (put_past (by decide +kernel)).trans (congrArg _ ((put_past (by decide +kernel)).trans rfl))
/-- a call's key in the dict, and as a tuple -/
def key (k i : Nat) : List Key := [Sum.inl (k : Int), Sum.inl (i : Int)]
def keyT (k i : Nat) : HO := .tup [.int k, .int i]
theorem key_ne {k i k' i' : Nat} (h : ¬ (k = k' ∧ i = i')) : ¬ key k i = key k' i' := by
  intro e
  unfold key at e
  simp only [List.cons.injEq, Sum.inl.injEq, and_true] at e
  exact h ⟨by omega, by omega⟩
/-- what the dict holds for one call -/
def KeptAt (H : Hp) (v : Option V) (ow : Option Km448.What) : Prop := (ow = none ∧ v = none) ∨ ∃ w t, ow = some w ∧ v = some (.ref t) ∧ H t = some (whatT w)
theorem KeptAt.same {H H' : Hp} {v : Option V} {ow : Option Km448.What} (h : KeptAt H v ow) (s : Same H H') : KeptAt H' v ow := by
  rcases h with h | ⟨w, t, e1, e2, e3⟩
  · exact .inl h
  · exact .inr ⟨w, t, e1, e2, s _ _ e3⟩
theorem KeptAt.isSome {H : Hp} {v : Option V} {ow : Option Km448.What} (h : KeptAt H v ow) : v.isSome = ow.isSome := by
  rcases h with ⟨rfl, rfl⟩ | ⟨w, t, rfl, rfl, e3⟩ <;> rfl
/-- how a shore lies in the heap -/
structure ShoreAt (C : Addr) (H : Hp) (a lo dk : Addr) (s : Km448.Shore) : Prop where
  ob : ∃ dx, H a = some (.ins C dx (sF lo dk s.again))
  od : ∃ ts : List Addr, H lo = some (.lst (ts.map V.ref)) ∧ ts.length = s.log.length ∧ ∀ (i : Nat) (t : Addr) (h : Km448.Heard), ts[i]? = some t → s.log[i]? = some h → H t = some (keyT h.who h.number)
  kp : ∃ kvs : List (List Key × V), H dk = some (.dT kvs) ∧ kvs.length = s.log.length ∧ ∀ k i, KeptAt H (valV kvs (key k i)) (s.at_ k i)
theorem ShoreAt.same {C : Addr} {H H' : Hp} {a lo dk : Addr} {s : Km448.Shore} (h : ShoreAt C H a lo dk s) (sm : Same H H') : ShoreAt C H' a lo dk s := by
  obtain ⟨⟨dx, o⟩, ⟨ts, h1, h2, h3⟩, ⟨kvs, k1, k2, k3⟩⟩ := h
  exact ⟨⟨dx, sm _ _ o⟩, ⟨ts, sm _ _ h1, h2, fun i t w e1 e2 => sm _ _ (h3 i t w e1 e2)⟩, ⟨kvs, sm _ _ k1, k2, fun k i => (k3 k i).same sm⟩⟩
theorem ShoreAt.frame {C : Addr} {H H' : Hp} {a lo dk : Addr} {s : Km448.Shore} {F : List Addr} (h : ShoreAt C H a lo dk s) (sm : Chg F H H') (ha : a ∉ F) (hl : lo ∉ F) (hd : dk ∉ F) (hF : ∀ b ∈ F, ∀ xs, H b ≠ some (.tup xs)) : ShoreAt C H' a lo dk s := by
  obtain ⟨⟨dx, o⟩, ⟨ts, h1, h2, h3⟩, ⟨kvs, k1, k2, k3⟩⟩ := h
  refine ⟨⟨dx, sm _ _ o ha⟩, ⟨ts, sm _ _ h1 hl, h2, fun i t w e1 e2 => sm _ _ (h3 i t w e1 e2) fun q => hF t q _ (h3 i t w e1 e2)⟩, ⟨kvs, sm _ _ k1 hd, k2, fun k i => ?_⟩⟩
  rcases k3 k i with h | ⟨w, t, e1, e2, e3⟩
  · exact .inl h
  · exact .inr ⟨w, t, e1, e2, sm _ _ e3 fun q => hF t q _ e3⟩
/-! ### max(xs, default=d) of a list of whole numbers -/
theorem maxOf_spec : ∀ (xs : List Int) (x : Int), PySem.W.maxOf x xs ∈ x :: xs ∧ ∀ y, y ∈ x :: xs → y ≤ PySem.W.maxOf x xs
  | [], x => ⟨List.mem_cons_self .., fun y hy => by
    rw [List.mem_singleton] at hy
    rw [hy]
    exact Int.le_refl _⟩
  | z :: xs, x => by
    have e : PySem.W.maxOf x (z :: xs) = PySem.W.maxOf (if decide (x < z) = true then z else x) xs := rfl
    rw [e]
    by_cases c : x < z
    · rw [decide_eq_true c, if_pos rfl]
      obtain ⟨h1, h2⟩ := maxOf_spec xs z
      refine ⟨List.mem_cons_of_mem _ h1, fun y hy => ?_⟩
      rcases List.mem_cons.mp hy with rfl | hy
      · have := h2 z (List.mem_cons_self ..)
        omega
      · exact h2 y hy
    · rw [decide_eq_false c, if_neg (by decide)]
      obtain ⟨h1, h2⟩ := maxOf_spec xs x
      refine ⟨?_, fun y hy => ?_⟩
      · rcases List.mem_cons.mp h1 with h | h
        · rw [h]
          exact List.mem_cons_self ..
        · exact List.mem_cons_of_mem _ (List.mem_cons_of_mem _ h)
      · rcases List.mem_cons.mp hy with rfl | hy
        · exact h2 y (List.mem_cons_self ..)
        · rcases List.mem_cons.mp hy with rfl | hy
          · have := h2 x (List.mem_cons_self ..)
            omega
          · exact h2 y (List.mem_cons_of_mem _ hy)
theorem hold_ints {h : Heap} : ∀ {its : List Value} {ns : List Int}, IntsAre its ns → PySem.W.HoldAll h its ns
  | _, _, .nil => ⟨_, .nil⟩
  | _, _, .cons n t hr => by
    obtain ⟨as, r⟩ := hold_ints (h := h) hr
    exact ⟨_, .cons (.int n t) r⟩
def rMaxDef (K : PySem.W.Frag) : List V → List V → Hp → VK → Prop := fun vs zs H Q => ∃ (a : Addr) (ns : List Int) (d : V), vs = [V.ref a] ∧ zs = [d] ∧ SqL K H a (ns.map V.int) ∧ (ns = [] → Q d H) ∧ ∀ m, m ∈ ns → (∀ y, y ∈ ns → y ≤ m) → Q (.int m) H
theorem call_maxDef {X : Cx} (hc : X.calm = true) (hu : X.A.units + 64 < cLine) : CallRK X (.builtin "max") [Str.ofString "default"] (rMaxDef X.K) := by
  intro pins s σ H xs zs us ws Q I r1 r2 h
  obtain ⟨a, ns, d, rfl, rfl, hs, q0, q⟩ := h
  obtain ⟨its, rv, hl, _⟩ := I.list hs
  rw [Vals.ref1 r1]
  cases r2 with
  | cons rd r3 =>
    cases r3
    refine PySem.W.max_list_datum_default (α := Int) (xs := ns) (I.ok.hd hc) hl.isList (hold_ints rv.ints) (by show X.A.units + 1 + 0 < cLine; omega) (fun e h' tk hk => ⟨d, H, I.kept hk, rd, q0 e⟩) (fun y ys i v h' tk e hi hv hk => ?_)
    obtain ⟨as, hr⟩ := hv
    have hm := maxOf_spec ys y
    subst e
    cases hr with
    | int n t => exact ⟨.int _, H, I.kept hk, ⟨_, rfl⟩, q _ hm.1 hm.2⟩
end CS
set_option Elab.async false
set_option maxRecDepth 100000
set_option maxHeartbeats 2000000
namespace CS
open PySem PySem.Spec PyProof.Rows L2
abbrev sInitS : Stmt := inClass (top 35) 0
abbrev sHow : Stmt := inClass (top 35) 1
abbrev sKeeps : Stmt := inClass (top 35) 2
abbrev sGap : Stmt := inClass (top 35) 3
abbrev sKept : Stmt := inClass (top 35) 4
abbrev sMissing : Stmt := inClass (top 35) 5
/-- what the top has written of the shore -/
structure TxtS (K : PySem.W.Frag) (mg : Str → Option Value) (C : Addr) : Prop where
  cl : Cls K C
  nOrder : NoAttr K C "order"
  nKept : NoAttr K C "kept"
  nAgain : NoAttr K C "again"
  gC : mg "Shore" = some (.ref C)
  len : mg "len" = none
  range : mg "range" = none
  list : mg "list" = none
  min : mg "min" = none
  max : mg "max" = none
  kMost : Kn mg "MOST_CALLS" 30
section
variable {P : Program} {w : World} {K : PySem.W.Frag} {mg : Str → Option Value} {base : Heap} {C : Addr}
/-! ### __init__ -/
def spInitS (C : Addr) : Sp := fun vs H Q _ => ∃ (p dx : Addr), vs = [.ref p] ∧ H p = some (.ins C dx []) ∧
  ∀ (H' : Hp) (lo dk : Addr), H lo = none → H dk = none → ShoreAt C H' p lo dk Km448.shore0 → (∀ b o, H b = some o → b ≠ p → H' b = some o) → Q .non H'
theorem scInitS : FnScope ["self"] ["self"] (defScope sInitS) := ⟨rfl, rfl, rfl, by decide +kernel, rfl, by decide +kernel, by decide +kernel⟩
theorem ok_initS {f : Addr} {fd : FuncData} (F : Fun K "__init__" "Shore.__init__" sInitS f fd) (T : TxtS K mg C) : FnOk P w K mg base CX0 1 f fd ["self"] (spInitS C) := by
  refine F.ok scInitS (fun vs H Q E h => ?_) (fun cdv A outer s H vs Q E hr h => ?_)
  · obtain ⟨p, dx, rfl, _⟩ := h
    rfl
  · obtain ⟨p, dx, rfl, hp, k⟩ := h
    refine ⟨_, pss_cons (ps_fld (pv 0) (pe_lst pa_nil) rfl) (pss_cons (ps_fld (pv 0) pe_dnewT rfl) (pss_one (ps_fld (pv 0) pe_int rfl))), ?_⟩
    refine ⟨Nat.zero_le _, fun lo hlo => ?_⟩
    have n1 : p ≠ lo := ne_of_none hp hlo
    refine ⟨_, rfl, p, C, dx, _, rfl, (by rw [upd_ne n1]; exact hp), T.cl, T.nOrder, (by show 0 < 1000; decide), ?_⟩
    intro dk hdk
    have n2 : p ≠ dk := ne_of_none upd_same hdk
    have e1 : L2.upd (L2.upd H lo (.lst [])) p (.ins C dx (putF "order" (.ref lo) [])) lo = some (.lst []) := by
      rw [upd_ne n1.symm]
      exact upd_same
    have n3 : lo ≠ dk := ne_of_none e1 hdk
    refine ⟨_, rfl, p, C, dx, _, rfl, (by rw [upd_ne n2]; exact upd_same), T.cl, T.nKept, (by show 1 < 1000; decide), ?_⟩
    refine ⟨_, rfl, p, C, dx, _, rfl, upd_same, T.cl, T.nAgain, (by show 2 < 1000; decide), ?_⟩
    have f2 : H dk = none := by
      have := hdk
      rw [upd_ne n2.symm, upd_ne n3.symm] at this
      exact this
    refine k _ lo dk hlo f2 ⟨⟨dx, ?_⟩, ⟨[], ?_, rfl, fun i t w e => by simp at e⟩, ⟨[], ?_, rfl, fun k i => .inl ⟨rfl, rfl⟩⟩⟩ fun b o e nb => ?_
    · exact upd_same.trans (congrArg (fun q => some (HO.ins C dx q)) (sF_new lo dk))
    · rw [upd_ne n1.symm, upd_ne n1.symm, upd_ne n3]
      exact e1
    · rw [upd_ne n2.symm, upd_ne n2.symm]
      exact upd_same
    · rw [upd_ne nb, upd_ne nb, upd_ne (ne_of_none e f2), upd_ne nb, upd_ne (ne_of_none e hlo)]
      exact e
/-! ### how_many, keeps -/
def spHow (C : Addr) : Sp := fun vs H Q _ => ∃ (a lo dk : Addr) (s : Km448.Shore), vs = [.ref a] ∧ ShoreAt C H a lo dk s ∧ Q (.int (s.log.length : Nat)) H
theorem scHow : FnScope ["self"] ["self"] (defScope sHow) := ⟨rfl, rfl, rfl, by decide +kernel, rfl, by decide +kernel, by decide +kernel⟩
theorem ok_how {f : Addr} {fd : FuncData} (F : Fun K "how_many" "Shore.how_many" sHow f fd) (T : TxtS K mg C) : FnOk P w K mg base CX0 1 f fd ["self"] (spHow C) := by
  refine F.ok scHow (fun vs H Q E h => ?_) (fun cdv A outer s H vs Q E hr h => ?_)
  · obtain ⟨a, lo, dk, s, rfl, _⟩ := h
    rfl
  · obtain ⟨a, lo, dk, s, rfl, hc, k⟩ := h
    obtain ⟨⟨dx, ha⟩, ⟨ts, h1, h2, h3⟩, hk⟩ := hc
    refine ⟨_, pss_one (ps_ret (pe_callB call_len_seq (by rfl) T.len PySem.boot_len (pa_cons (pe_fld (pv 0) rfl) pa_nil))), ?_⟩
    refine ⟨_, rfl, a, C, dx, _, _, rfl, ha, T.cl, T.nOrder, sF_order .., lo, _, rfl, .inl (SqL.of h1), ?_⟩
    rw [List.length_map, h2]
    exact k
def spKeeps (C : Addr) : Sp := fun vs H Q _ => ∃ (a lo dk : Addr) (s : Km448.Shore) (k i : Nat), vs = [.ref a, .int k, .int i] ∧ ShoreAt C H a lo dk s ∧ ∀ H', Same H H' → Q (.bl (s.has k i)) H'
theorem scKeeps : FnScope ["self", "k", "number"] ["self", "k", "number"] (defScope sKeeps) := ⟨rfl, rfl, rfl, by decide +kernel, rfl, by decide +kernel, by decide +kernel⟩
theorem ok_keeps {f : Addr} {fd : FuncData} (F : Fun K "keeps" "Shore.keeps" sKeeps f fd) (T : TxtS K mg C) : FnOk P w K mg base CX0 1 f fd ["self", "k", "number"] (spKeeps C) := by
  refine F.ok scKeeps (fun vs H Q E h => ?_) (fun cdv A outer s H vs Q E hr h => ?_)
  · obtain ⟨a, lo, dk, s, k, i, rfl, _⟩ := h
    rfl
  · obtain ⟨a, lo, dk, s, k, i, rfl, hc, q⟩ := h
    obtain ⟨⟨dx, ha⟩, ⟨ts, h1, h2, h3⟩, ⟨kvs, k1, k2, k3⟩⟩ := hc
    refine ⟨_, pss_one (ps_ret (pe_cmp (pc_din (hu_of hr) (pe_tup (pa_cons (pv 1) (pa_cons (pv 2) pa_nil))) (pe_fld (pv 0) rfl)))), ?_⟩
    refine ⟨_, rfl, _, rfl, (by show 2 ≤ sizeLine; decide), fun t ht => ?_⟩
    have st := same_upd (H := H) (o := .tup [.int k, .int i]) ht
    refine ⟨_, rfl, a, C, dx, _, _, rfl, st _ _ ha, T.cl, T.nKept, sF_kept .., dk, _, rfl, DGet.t (k := key k i) (st _ _ k1) upd_same, ?_⟩
    rw [(k3 k i).isSome]
    exact q _ st
/-! ### first_gap -/
def spGap (C : Addr) : Sp := fun vs H Q _ => ∃ (a lo dk : Addr) (s : Km448.Shore) (k : Nat), vs = [.ref a, .int k] ∧ ShoreAt C H a lo dk s ∧ SOk s ∧ ∀ H', Same H H' → Q (.int (s.upto k : Nat)) H'
theorem scGap : FnScope ["self", "k", "number"] ["self", "k"] (defScope sGap) := ⟨rfl, rfl, rfl, by decide +kernel, rfl, by decide +kernel, by decide +kernel⟩
theorem ok_gap {f : Addr} {fd : FuncData} (F : Fun K "first_gap" "Shore.first_gap" sGap f fd) (T : TxtS K mg C) (M : MethOk P w K mg base C 1 "keeps" ["self", "k", "number"] (spKeeps C)) : FnOk P w K mg base CX0 2 f fd ["self", "k"] (spGap C) := by
  obtain ⟨f1, fd1, m1, G1, b1⟩ := M.ex
  refine F.ok scGap (fun vs H Q E h => ?_) (fun cdv A outer s H vs Q E hr h => ?_)
  · obtain ⟨a, lo, dk, s, k, rfl, _⟩ := h
    rfl
  · obtain ⟨a, lo, dk, s, k, rfl, hc, o, q⟩ := h
    obtain ⟨dx, ha⟩ := hc.ob
    refine ⟨_, pss_cons (ps_set (i := 2) scGap.nd rfl (Or.inl rfl) pe_int)
      (pss_cons (ps_while PassesOwn.never (pt_val (pe_meth (pv 0) T.cl m1 G1 hr b1 .nil pass0 (pa_cons (pv 1) (pa_cons (pv 2) pa_nil)))) (pss_one (ps_aug (i := 2) scGap.nd rfl (Or.inl rfl) pe_int ip_add)))
      (pss_one (ps_ret (pv 2)))), ?_⟩
    refine ⟨fun m σ H' => ∃ j : Nat, m = 30 - j ∧ σ = [some (.ref a), some (.int k), some (.int j)] ∧ Same H H' ∧ j ≤ 30 ∧ ∀ i, i < j → s.has k i = true, ⟨_, 0, rfl, rfl, Same.refl _, by omega, fun i h => absurd h (by omega)⟩, ?_⟩
    rintro m σ H' ⟨j, rfl, rfl, sm, hj, hb⟩
    refine ⟨_, rfl, a, dx, _, rfl, sm _ _ ha, sF_no _ _ _ (by decide +kernel), _, rfl, _, rfl, a, lo, dk, s, k, j, rfl, hc.same sm, fun H2 s2 => ⟨_, rfl, ?_⟩⟩
    cases e : s.has k j with
    | true =>
      have hlt := (has_lt o e).2
      refine iteT ⟨fun σ' H3 => ∃ j' : Nat, j' = j + 1 ∧ σ' = [some (.ref a), some (.int k), some (.int j')] ∧ H3 = H2, ?_, ?_⟩
      · rintro σ' H3 ⟨j', rfl, rfl, rfl⟩
        refine ⟨30 - (j + 1), by omega, j + 1, rfl, rfl, sm.trans s2, by omega, fun i hi => ?_⟩
        by_cases hij : i = j
        · rw [hij]
          exact e
        · exact hb i (by omega)
      · exact ⟨_, rfl, _, _, rfl, rfl, j + 1, rfl, rfl, rfl⟩
    | false =>
      have q' := q H2 (sm.trans s2)
      rw [upto_of hj hb (fun _ => e)] at q'
      exact iteF ⟨_, rfl, q'⟩
/-! ### numbers_kept -/
def keptOf (s : Km448.Shore) (k : Nat) : List Nat := (List.range 30).filter fun i => s.has k i
def missOf (s : Km448.Shore) (k : Nat) : List Nat := (List.range (topOf s k)).filter fun i => !s.has k i
def spNums (C : Addr) (g : Km448.Shore → Nat → List Nat) : Sp := fun vs H Q _ => ∃ (a lo dk : Addr) (s : Km448.Shore) (k : Nat), vs = [.ref a, .int k] ∧ ShoreAt C H a lo dk s ∧ SOk s ∧ NewL H Q (vints (g s k))
abbrev tKeeps (C : Addr) (i j l : Nat) : TE := tMeth C "keeps" (spKeeps C) [] E0 (tVar i) (tCons (tVar j) (tCons (tVar l) tNil))
theorem scKept : FnScope ["self", "k", "number"] ["self", "k"] (defScope sKept) := ⟨rfl, rfl, rfl, by decide +kernel, rfl, by decide +kernel, by decide +kernel⟩
theorem ok_kept {f : Addr} {fd : FuncData} (F : Fun K "numbers_kept" "Shore.numbers_kept" sKept f fd) (T : TxtS K mg C) (M : MethOk P w K mg base C 1 "keeps" ["self", "k", "number"] (spKeeps C)) : FnOk P w K mg base CX0 2 f fd ["self", "k"] (spNums C keptOf) := by
  obtain ⟨f1, fd1, m1, G1, b1⟩ := M.ex
  refine F.ok scKept (fun vs H Q E h => ?_) (fun cdv A outer s H vs Q E hr h => ?_)
  · obtain ⟨a, lo, dk, s, k, rfl, _⟩ := h
    rfl
  · obtain ⟨a, lo, dk, s, k, rfl, hc, o, q⟩ := h
    obtain ⟨dx, ha⟩ := hc.ob
    refine ⟨_, pss_one (ps_ret (pe_lc (own := [("number", 2)]) (g := gName 2) (tt := tB (tKeeps C 0 1 2)) rfl scKept.nd
      (pi_range1 rfl T.range (pa_cons (pe_k rfl T.kMost) pa_nil))
      (blkOk_by (N := ["self", "k", "number"]) (sc := defScope sKept) (by decide +kernel))
      (fun _ _ _ _ _ => pg_name (i := 2) scKept.nd rfl (Or.inl rfl))
      (fun _ _ _ _ _ => pts_one (pt_val (pe_meth (pv 0) T.cl m1 G1 hr b1 .nil pass0 (pa_cons (pv 1) (pa_cons (pv 2) pa_nil)))))
      (fun _ _ _ _ _ => pv 2))), ?_⟩
    refine ⟨30, rfl, by decide, by decide, fun D hD => ?_⟩
    refine lc_range (n := 30) (fun i H' => Same H H' ∧ H' D = some (.lst (vints ((List.range i).filter fun i => s.has k i)))) ⟨same_upd hD, upd_same⟩ ?_ ?_
    · rintro i H' hi ⟨sm, eD⟩
      refine ⟨rfl, ?_⟩
      refine ⟨_, rfl, a, dx, _, rfl, sm _ _ ha, sF_no _ _ _ (by decide +kernel), _, rfl, _, rfl, a, lo, dk, s, k, i, (by rw [Int.zero_add]; rfl), hc.same sm, fun H2 s2 => ⟨_, rfl, ?_⟩⟩
      cases e : s.has k i with
      | false =>
        refine iteF ⟨sm.trans s2, ?_⟩
        rw [range_filter_succ, if_neg (by rw [e]; decide), List.append_nil]
        exact s2 _ _ eD
      | true =>
        refine iteT ⟨_, rfl, _, s2 _ _ eD, ?_, fun b x eb => ?_, ?_⟩
        · rw [List.length_map]
          exact small30 (Nat.le_trans (List.length_filter_le _ _) (by rw [List.length_range]; omega))
        · rw [upd_ne (ne_of_none eb hD)]
          exact s2 _ _ (sm _ _ eb)
        · rw [upd_same, range_filter_succ, if_pos e, vints_snoc, Int.zero_add]
    · rintro H' ⟨sm, eD⟩
      exact q H' D sm hD eD
/-! ### numbers_missing -/
theorem scMissing : FnScope ["self", "k", "end", "number"] ["self", "k"] (defScope sMissing) := ⟨rfl, rfl, rfl, by decide +kernel, rfl, by decide +kernel, by decide +kernel⟩
theorem vints_iints (l : List Nat) : vints l = (l.map fun (n : Nat) => (n : Int)).map V.int := by
  rw [List.map_map]
  rfl
theorem miss_none {s : Km448.Shore} {k : Nat} (o : SOk s) (h : keptOf s k = []) : missOf s k = (List.range 0).filter fun i => !s.has k i := by
  unfold missOf
  have : topOf s k = 0 := top_is (n := 0) (fun i hi => by
    have : i ∈ keptOf s k := List.mem_filter.mpr ⟨List.mem_range.mpr (has_lt o hi).2, hi⟩
    rw [h] at this
    cases this) (Or.inl rfl)
  rw [this]
theorem miss_some {s : Km448.Shore} {k m : Nat} (o : SOk s) (h : m ∈ keptOf s k) (hm : ∀ y ∈ keptOf s k, y ≤ m) : missOf s k = (List.range m).filter fun i => !s.has k i := by
  unfold missOf
  have hh := (List.mem_filter.mp h).2
  have : topOf s k = m + 1 := top_is (n := m + 1) (fun i hi => by
    have := hm i (List.mem_filter.mpr ⟨List.mem_range.mpr (has_lt o hi).2, hi⟩)
    omega) (Or.inr ⟨m, hh, rfl⟩)
  rw [this, range_filter_succ, if_neg (by rw [hh]; decide), List.append_nil]
theorem maxDef_use {H1 : Hp} {p : Addr} {s : Km448.Shore} {k : Nat} {Q' : VK} (o : SOk s) (ep : H1 p = some (.lst (vints (keptOf s k)))) (g : ∀ m : Nat, m ≤ 30 → missOf s k = ((List.range m).filter fun i => !s.has k i) → Q' (.int m) H1) : rMaxDef K [.ref p] [.int 0] H1 Q' := by
  refine ⟨p, (keptOf s k).map fun (n : Nat) => (n : Int), .int 0, rfl, rfl, SqL.of (by rw [← vints_iints]; exact ep), fun e => g 0 (by omega) (miss_none o (List.map_eq_nil_iff.mp e)), fun z hz hx => ?_⟩
  obtain ⟨m, hm, rfl⟩ := List.mem_map.mp hz
  refine g m (Nat.le_of_lt (List.mem_range.mp (List.mem_filter.mp hm).1)) (miss_some o hm fun y hy => ?_)
  have := hx (y : Int) (List.mem_map.mpr ⟨y, hy, rfl⟩)
  omega
theorem ok_missing {f : Addr} {fd : FuncData} (F : Fun K "numbers_missing" "Shore.numbers_missing" sMissing f fd) (T : TxtS K mg C) (M : MethOk P w K mg base C 1 "keeps" ["self", "k", "number"] (spKeeps C)) (M2 : MethOk P w K mg base C 2 "numbers_kept" ["self", "k"] (spNums C keptOf)) :
    FnOk P w K mg base CX0 3 f fd ["self", "k"] (spNums C missOf) := by
  obtain ⟨f1, fd1, m1, G1, b1⟩ := M.ex
  obtain ⟨f2, fd2, m2, G2, b2⟩ := M2.ex
  refine F.ok scMissing (fun vs H Q E h => ?_) (fun cdv A outer s H vs Q E hr h => ?_)
  · obtain ⟨a, lo, dk, s, k, rfl, _⟩ := h
    rfl
  · obtain ⟨a, lo, dk, s, k, rfl, hc, o, q⟩ := h
    obtain ⟨dx, ha⟩ := hc.ob
    have hr1 : Room 1 _ := hr.mono (by decide)
    refine ⟨_, pss_cons (ps_set (i := 2) scMissing.nd rfl (Or.inl rfl) (pe_callBK (call_maxDef rfl hr.units) (by rfl) T.max (by decide +kernel) (pa_cons (pe_meth (pv 0) T.cl m2 G2 hr b2 .nil pass0 (pa_cons (pv 1) pa_nil)) pa_nil) (pk_cons pe_int pk_nil)))
      (pss_one (ps_ret (pe_lc (own := [("number", 3)]) (g := gName 3) (tt := tNot (tB (tKeeps C 0 1 3))) rfl scMissing.nd
      (pi_range1 rfl T.range (pa_cons (pv 2) pa_nil))
      (blkOk_by (N := ["self", "k", "end", "number"]) (sc := defScope sMissing) (by decide +kernel))
      (fun _ _ _ _ _ => pg_name (i := 3) scMissing.nd rfl (Or.inl rfl))
      (fun _ _ _ _ _ => pts_one (pt_not (pt_val (pe_meth (pv 0) T.cl m1 G1 hr1 b1 .nil pass0 (pa_cons (pv 1) (pa_cons (pv 3) pa_nil))))))
      (fun _ _ _ _ _ => pv 3)))), ?_⟩
    refine ⟨_, rfl, a, dx, _, rfl, ha, sF_no _ _ _ (by decide +kernel), _, rfl, a, lo, dk, s, k, rfl, hc, o, ?_⟩
    intro H1 p s1 hp ep
    refine maxDef_use o ep fun m hm em => ?_
    refine ⟨_, rfl, _, rfl, by omega, by omega, fun D hD => ?_⟩
    refine lc_range (n := m) (fun i H' => Same H1 H' ∧ H' D = some (.lst (vints ((List.range i).filter fun i => !s.has k i)))) ⟨same_upd hD, upd_same⟩ ?_ ?_
    · rintro i H' hi ⟨sm, eD⟩
      refine ⟨rfl, ?_⟩
      refine ⟨_, rfl, a, dx, _, rfl, sm _ _ (s1 _ _ ha), sF_no _ _ _ (by decide +kernel), _, rfl, _, rfl, a, lo, dk, s, k, i, (by rw [Int.zero_add]; rfl), (hc.same s1).same sm, fun H2 s2 => ⟨_, rfl, ?_⟩⟩
      cases e : s.has k i with
      | true =>
        refine iteF ⟨sm.trans s2, ?_⟩
        rw [range_filter_succ, if_neg (by rw [e]; decide), List.append_nil]
        exact s2 _ _ eD
      | false =>
        refine iteT ⟨_, rfl, _, s2 _ _ eD, ?_, fun b x eb => ?_, ?_⟩
        · rw [List.length_map]
          exact small30 (Nat.le_trans (List.length_filter_le _ _) (by rw [List.length_range]; omega))
        · rw [upd_ne (ne_of_none eb hD)]
          exact s2 _ _ (sm _ _ eb)
        · rw [upd_same, range_filter_succ, if_pos (by rw [e]; rfl), vints_snoc, Int.zero_add]
    · rintro H' ⟨sm, eD⟩
      rw [← em] at eD
      exact q H' D (s1.trans sm) (s1.free hD) eD
end
end CS
set_option Elab.async false
set_option maxRecDepth 100000
set_option maxHeartbeats 2000000
namespace CS
open PySem PySem.Spec PyProof.Rows L2
abbrev sStartS : Stmt := top 52
abbrev sHearS : Stmt := top 53
abbrev sAnswerS : Stmt := top 54
abbrev sGetS : Stmt := top 55
abbrev sFindS : Stmt := top 56
abbrev sOfS : Stmt := top 57
abbrev sGapsS : Stmt := top 58
abbrev sStateS : Stmt := top 59
/-! ### what each call of the shore comes to -/
section
open Km448
theorem k_high {s : Shore} {k : Nat} {A : Ans} (h : ¬ k < 4) : (s, if CALLERS ≤ k then only (-2) else A) = (s, only (-2)) := congrArg (fun z => (s, z)) (if_pos (show 4 ≤ k by omega))
theorem k_low {s : Shore} {k : Nat} {A : Ans} (h : k < 4) : (s, if CALLERS ≤ k then only (-2) else A) = (s, A) := congrArg (fun z => (s, z)) (if_neg (show ¬ 4 ≤ k by omega))
theorem get_no {s : Shore} {i : Nat} (h : ¬ i < s.log.length) : sDoes s (.sGet i) = (s, only (-2)) := by
  show (s, match s.log[i]? with | none => only (-2) | some h => { value := ((h.what.kind : Nat) : Int), out := [h.who, h.number, h.what.x, h.what.y] }) = _
  rw [List.getElem?_eq_none (by omega)]
theorem get_ok {s : Shore} {i : Nat} {h : Heard} (e : s.log[i]? = some h) : sDoes s (.sGet i) = (s, { value := ((h.what.kind : Nat) : Int), out := [h.who, h.number, h.what.x, h.what.y] }) := by
  show (s, match s.log[i]? with | none => only (-2) | some h => { value := ((h.what.kind : Nat) : Int), out := [h.who, h.number, h.what.x, h.what.y] }) = _
  rw [e]
theorem find_no {s : Shore} {k i : Nat} (hk : k < 4) (h : s.at_ k i = none) : sDoes s (.sFind k i) = (s, only (-6)) := by
  refine (k_low (s := s) hk).trans ?_
  rw [h]
theorem find_ok {s : Shore} {k i : Nat} {w : What} (hk : k < 4) (h : s.at_ k i = some w) : sDoes s (.sFind k i) = (s, { value := ((w.kind : Nat) : Int), out := [w.x, w.y] }) := by
  refine (k_low (s := s) hk).trans ?_
  rw [h]
theorem above_go (s : Shore) (k u : Nat) : ∀ (l : List Nat) (w : Nat), l.foldl (fun w j => if s.has k (u + 1 + j) = true then w + 2 ^ j else w) w = (l.filter fun j => s.has k (u + 1 + j)).foldl (fun w j => w + 2 ^ j) w
  | [], _ => rfl
  | j :: l, w => by
    rw [List.foldl_cons]
    cases e : s.has k (u + 1 + j) with
    | true => rw [List.filter_cons_of_pos (p := fun j => s.has k (u + 1 + j)) e, List.foldl_cons, if_pos rfl, above_go s k u l]
    | false => rw [List.filter_cons_of_neg (p := fun j => s.has k (u + 1 + j)) (by rw [e]; decide), if_neg (by decide), above_go s k u l]
theorem above_bits (s : Shore) (k : Nat) : s.above k = bits ((List.range 8).filter fun j => s.has k (s.upto k + 1 + j)) := above_go s k (s.upto k) (List.range 8) 0
theorem hearS_bad {s : Shore} {m : List Nat} (h : goodCall m = none) : sDoes s (.sHear m) = (s, only (-71)) := by
  show (match goodCall m with | none => (s, only (-71)) | some h => match s.at_ h.who h.number with | some w => if w = h.what then (s.hears h, ({ value := 0, out := [s.log.length] } : Ans)) else (s, only (-74)) | none => (s.hears h, ({ value := 1, out := [s.log.length + 1] } : Ans))) = _
  rw [h]
theorem hearS_new {s : Shore} {m : List Nat} {h : Heard} (hg : goodCall m = some h) (ha : s.at_ h.who h.number = none) : sDoes s (.sHear m) = ({ s with log := s.log ++ [h] }, { value := 1, out := [s.log.length + 1] }) := by
  show (match goodCall m with | none => (s, only (-71)) | some h => match s.at_ h.who h.number with | some w => if w = h.what then (s.hears h, ({ value := 0, out := [s.log.length] } : Ans)) else (s, only (-74)) | none => (s.hears h, ({ value := 1, out := [s.log.length + 1] } : Ans))) = _
  rw [hg]
  show (match s.at_ h.who h.number with | some w => if w = h.what then (s.hears h, ({ value := 0, out := [s.log.length] } : Ans)) else (s, only (-74)) | none => (s.hears h, ({ value := 1, out := [s.log.length + 1] } : Ans))) = _
  rw [ha]
  show (s.hears h, ({ value := 1, out := [s.log.length + 1] } : Ans)) = _
  unfold Shore.hears
  rw [has_not ha, if_neg (by decide)]
theorem hearS_other {s : Shore} {m : List Nat} {h : Heard} {w : What} (hg : goodCall m = some h) (ha : s.at_ h.who h.number = some w) (hw : ¬ w = h.what) : sDoes s (.sHear m) = (s, only (-74)) := by
  show (match goodCall m with | none => (s, only (-71)) | some h => match s.at_ h.who h.number with | some w => if w = h.what then (s.hears h, ({ value := 0, out := [s.log.length] } : Ans)) else (s, only (-74)) | none => (s.hears h, ({ value := 1, out := [s.log.length + 1] } : Ans))) = _
  rw [hg]
  show (match s.at_ h.who h.number with | some w => if w = h.what then (s.hears h, ({ value := 0, out := [s.log.length] } : Ans)) else (s, only (-74)) | none => (s.hears h, ({ value := 1, out := [s.log.length + 1] } : Ans))) = _
  rw [ha]
  exact if_neg hw
theorem hearS_again {s : Shore} {m : List Nat} {h : Heard} {w : What} (hg : goodCall m = some h) (ha : s.at_ h.who h.number = some w) (hw : w = h.what) : sDoes s (.sHear m) = ({ s with again := min MOST (s.again + 1) }, { value := 0, out := [s.log.length] }) := by
  show (match goodCall m with | none => (s, only (-71)) | some h => match s.at_ h.who h.number with | some w => if w = h.what then (s.hears h, ({ value := 0, out := [s.log.length] } : Ans)) else (s, only (-74)) | none => (s.hears h, ({ value := 1, out := [s.log.length + 1] } : Ans))) = _
  rw [hg]
  show (match s.at_ h.who h.number with | some w => if w = h.what then (s.hears h, ({ value := 0, out := [s.log.length] } : Ans)) else (s, only (-74)) | none => (s.hears h, ({ value := 1, out := [s.log.length + 1] } : Ans))) = _
  rw [ha]
  show (if w = h.what then (s.hears h, ({ value := 0, out := [s.log.length] } : Ans)) else (s, only (-74))) = _
  rw [if_pos hw]
  unfold Shore.hears
  rw [has_of ha, if_pos rfl]
end
section
variable {P : Program} {w : World} {K : PySem.W.Frag} {mg : Str → Option Value} {base : Heap} {C : Addr}
/-- a call of the shore, done -/
def DoesS (C : Addr) (H : Hp) (Q : VK) (a lo dk : Addr) (s : Km448.Shore) (x : Km448.Call) : Prop :=
  ∀ H' p, ShoreAt C H' a lo dk (Km448.sDoes s x).1 → Chg [a, lo, dk] H H' → H p = none → H' p = some (.lst (iints (Km448Neutral.told (Km448.sDoes s x).2))) → Q (.ref p) H'
theorem DoesS.only {H : Hp} {Q : VK} {a lo dk : Addr} {s : Km448.Shore} {x : Km448.Call} {v : Km448.Ans} (k : DoesS C H Q a lo dk s x) (hc : ShoreAt C H a lo dk s) (e : Km448.sDoes s x = (s, v)) : NewL H Q (iints (Km448Neutral.told v)) := by
  intro H' p sm hp ep
  refine k H' p ?_ (Chg.of_same sm) hp ?_
  · rw [e]
    exact hc.same sm
  · rw [e]
    exact ep
def spSh0 (C : Addr) (x : Km448.Call) : Sp := fun vs H Q _ => ∃ (a lo dk : Addr) (s : Km448.Shore), vs = [.ref a] ∧ ShoreAt C H a lo dk s ∧ SOk s ∧ DoesS C H Q a lo dk s x
def spSh1 (C : Addr) (x : Nat → Km448.Call) : Sp := fun vs H Q _ => ∃ (a lo dk : Addr) (s : Km448.Shore) (i : Nat), vs = [.ref a, .int i] ∧ ShoreAt C H a lo dk s ∧ SOk s ∧ DoesS C H Q a lo dk s (x i)
def spSh2 (C : Addr) (x : Nat → Nat → Km448.Call) : Sp := fun vs H Q _ => ∃ (a lo dk : Addr) (s : Km448.Shore) (k i : Nat), vs = [.ref a, .int k, .int i] ∧ ShoreAt C H a lo dk s ∧ SOk s ∧ DoesS C H Q a lo dk s (x k i)
def spShM (C : Addr) (x : List Nat → Km448.Call) : Sp := fun vs H Q _ => ∃ (a lo dk : Addr) (s : Km448.Shore) (m : Addr) (m0 m1 m2 m3 m4 m5 : Nat), vs = [.ref a, .ref m] ∧ ShoreAt C H a lo dk s ∧ SOk s ∧ Six6 H m m0 m1 m2 m3 m4 m5 ∧ DoesS C H Q a lo dk s (x [m0, m1, m2, m3, m4, m5])
/-! ### sh_start -/
def spStartS (C : Addr) : Sp := fun vs H Q _ => ∃ (L : Addr) (us : List V) (k : Nat), vs = [.ref L, .int k] ∧ H L = some (.lst us) ∧ k < us.length ∧
  ∀ H' p a lo dk, ShoreAt C H' a lo dk Km448.shore0 → H a = none → H lo = none → H dk = none → H p = none → Chg [L] H H' → H' L = some (.lst (us.set k (.ref a))) → H' p = some (.lst [.int 0]) → Q (.ref p) H'
theorem scStartS : FnScope ["shores", "place"] ["shores", "place"] (defScope sStartS) := ⟨rfl, rfl, rfl, by decide +kernel, rfl, by decide +kernel, by decide +kernel⟩
theorem ok_startS {f fI : Addr} {fd fdI : FuncData} (F : Fun K "sh_start" "sh_start" sStartS f fd) (T : TxtS K mg C) (M : Mk K C fI) (GI : FnOk P w K mg base CX0 1 fI fdI ["self"] (spInitS C)) (bI : L2.Binds K fdI ["self"] []) :
    FnOk P w K mg base CX0 3 f fd ["shores", "place"] (spStartS C) := by
  refine F.ok scStartS (fun vs H Q E h => ?_) (fun cdv A outer s H vs Q E hr h => ?_)
  · obtain ⟨L, us, k, rfl, _⟩ := h
    rfl
  · obtain ⟨L, us, k, rfl, hL, hk, kG⟩ := h
    refine ⟨_, pss_cons (ps_asg (pe_make0 M GI hr rfl T.gC bI .nil pass0) (pg_sub (pv 0) (pv 1) set_list) rfl)
      (pss_one (ps_ret (pe_lst (pa_cons pe_int pa_nil)))), ?_⟩
    intro x dx nx nd ne
    refine ⟨x, dx, rfl, upd_same, fun H1 lo dk fl fk at1 kp => ⟨rfl, ?_⟩⟩
    have s1 : Same H H1 := Same.made nx nd kp
    have eL := s1 _ _ hL
    refine ⟨_, rfl, _, rfl, L, us, _, k, rfl, rfl, eL, ixN_nat hk, (by show 1 ≤ sizeLine; decide), fun p hp => ?_⟩
    have hp1 := upd_free hp
    have q1 : ShoreAt C (L2.upd H1 L (.lst (us.set k (.ref x)))) x lo dk Km448.shore0 := by
      refine at1.frame (F := [L]) (Chg.upd (fun b x e _ => e) (by simp)) ?_ ?_ ?_ ?_
      · have := ne_of_none hL nx
        simpa using this.symm
      · have := ne_of_none hL (upd_free (upd_free fl))
        simpa using this.symm
      · have := ne_of_none hL (upd_free (upd_free fk))
        simpa using this.symm
      · intro b hb xs e
        rw [List.mem_singleton] at hb
        rw [hb, eL] at e
        cases e
    refine kG _ p x lo dk (q1.same (same_upd hp)) nx (upd_free (upd_free fl)) (upd_free (upd_free fk)) (s1.free hp1) (Chg.same (Chg.upd (Chg.of_same s1) (by simp)) (same_upd hp)) ?_ upd_same
    rw [upd_ne (ne_of_none eL hp1)]
    exact upd_same
/-! ### sh_get, sh_find, sh_of, sh_gaps, sh_state -/
theorem scGetS : FnScope ["shore", "i", "key", "what"] ["shore", "i"] (defScope sGetS) := ⟨rfl, rfl, rfl, by decide +kernel, rfl, by decide +kernel, by decide +kernel⟩
theorem ok_getS {f : Addr} {fd : FuncData} (F : Fun K "sh_get" "sh_get" sGetS f fd) (T : TxtS K mg C) (kN : Kn mg "NO_SUCH" 2)
    (D1 : DefOk P w K mg base 1 "refused" ["refusal"] spRefused) (M1 : MethOk P w K mg base C 1 "how_many" ["self"] (spHow C)) :
    FnOk P w K mg base CX0 2 f fd ["shore", "i"] (spSh1 C .sGet) := by
  obtain ⟨f1, fd1, g1, k1, G1, b1⟩ := D1.ex
  obtain ⟨f3, fd3, m3, G3, b3⟩ := M1.ex
  refine F.ok scGetS (fun vs H Q E h => ?_) (fun cdv A outer s H vs Q E hr h => ?_)
  · obtain ⟨a, lo, dk, s, i, rfl, _⟩ := h
    rfl
  · obtain ⟨a, lo, dk, s, i, rfl, hc, o, k⟩ := h
    have hc0 := hc
    obtain ⟨⟨dx, ha⟩, ⟨ts, h1, h2, h3⟩, ⟨kvs, e1, e2, e3⟩⟩ := hc
    refine ⟨_, pss_cons (ps_if (pt_cmpR op_ge (pv 1) (pe_meth0 (pv 0) T.cl m3 G3 hr b3 .nil pass0) (nomark _)) (pss_one (ps_ret (pe_call G1 hr rfl g1 k1 b1 .nil pass0 (pa_cons (pe_k rfl kN) pa_nil)))) pss_nil)
      (pss_cons (ps_set (i := 2) scGetS.nd rfl (Or.inl rfl) (pe_ix ix_list (pe_fld (pv 0) rfl) (pv 1) (fun _ _ => rfl)))
      (pss_cons (ps_set (i := 3) scGetS.nd rfl (Or.inl rfl) (pe_dget (hu_of hr) (pe_fld (pv 0) rfl) (pv 2) (fun _ _ => rfl)))
      (pss_one (ps_ret (pe_lst (pa_cons (pe_ix ix_tup (pv 3) pe_int (fun _ _ => rfl)) (pa_cons (pe_ix ix_tup (pv 2) pe_int (fun _ _ => rfl)) (pa_cons (pe_ix ix_tup (pv 2) pe_int (fun _ _ => rfl)) (pa_cons (pe_ix ix_tup (pv 3) pe_int (fun _ _ => rfl)) (pa_cons (pe_ix ix_tup (pv 3) pe_int (fun _ _ => rfl)) pa_nil)))))))))), ?_⟩
    refine ⟨_, rfl, _, rfl, a, dx, _, rfl, ha, sF_no _ _ _ (by decide +kernel), a, lo, dk, s, rfl, hc0, _, _, rfl, rfl, _, rfl, ?_⟩
    by_cases hlt : i < s.log.length
    case neg => exact if_yes (decide_eq_true (by omega)) ⟨_, rfl, k.only hc0 (get_no hlt)⟩
    have hlt2 : i < ts.length := by rw [h2]; exact hlt
    have q := k.only hc0 (get_ok (List.getElem?_eq_getElem hlt))
    have ht := h3 i _ _ (List.getElem?_eq_getElem hlt2) (List.getElem?_eq_getElem hlt)
    have hat : s.at_ s.log[i].who s.log[i].number = some s.log[i].what := at_of_mem o (List.getElem_mem hlt)
    have hv := e3 s.log[i].who s.log[i].number
    rw [hat] at hv
    obtain ⟨w, t, ew, et, hw⟩ : ∃ w t, some s.log[i].what = some w ∧ valV kvs (key s.log[i].who s.log[i].number) = some (.ref t) ∧ H t = some (whatT w) := by
      rcases hv with ⟨h, _⟩ | h
      · cases h
      · exact h
    cases ew
    refine if_no (decide_eq_false (by omega)) ⟨_, rfl, a, C, dx, _, _, rfl, ha, T.cl, T.nOrder, sF_order .., _, rfl, lo, _, _, _, rfl, rfl, SqL.of h1, atI_nat (v := .ref ts[i]) (by rw [List.getElem?_map, List.getElem?_eq_getElem hlt2]; rfl), ?_⟩
    have dg : DGet H dk (.ref ts[i]) (some (.ref t)) := by
      have := DGet.t (H := H) (a := dk) (b := ts[i]) (k := key s.log[i].who s.log[i].number) e1 ht
      rw [et] at this
      exact this
    have st := SqT.of (K := K) hw
    have sk := SqT.of (K := K) ht
    refine ⟨_, rfl, a, C, dx, _, _, rfl, ha, T.cl, T.nKept, sF_kept .., _, rfl, dk, _, rfl, dg, ?_⟩
    refine ⟨_, rfl, t, _, _, _, rfl, rfl, st, at_of (j := 0) rfl rfl, _, rfl, ts[i], _, _, _, rfl, rfl, sk, at_of (j := 0) rfl rfl, _, rfl, ts[i], _, _, _, rfl, rfl, sk, at_of (j := 1) rfl rfl, _, rfl, t, _, _, _, rfl, rfl, st, at_of (j := 1) rfl rfl, _, rfl, t, _, _, _, rfl, rfl, st, at_of (j := 2) rfl rfl, (by show 5 ≤ sizeLine; decide), fun p hp => ?_⟩
    exact q _ p (same_upd hp) hp upd_same
theorem scFindS : FnScope ["shore", "k", "i"] ["shore", "k", "i"] (defScope sFindS) := ⟨rfl, rfl, rfl, by decide +kernel, rfl, by decide +kernel, by decide +kernel⟩
theorem ok_findS {f : Addr} {fd : FuncData} (F : Fun K "sh_find" "sh_find" sFindS f fd) (T : TxtS K mg C) (kG : Kn mg "GREATEST_CALLER" 3) (kN : Kn mg "NO_SUCH" 2) (kO : Kn mg "NONE_THERE" 6)
    (D1 : DefOk P w K mg base 1 "refused" ["refusal"] spRefused) (M1 : MethOk P w K mg base C 1 "keeps" ["self", "k", "number"] (spKeeps C)) :
    FnOk P w K mg base CX0 2 f fd ["shore", "k", "i"] (spSh2 C .sFind) := by
  obtain ⟨f1, fd1, g1, k1, G1, b1⟩ := D1.ex
  obtain ⟨f3, fd3, m3, G3, b3⟩ := M1.ex
  refine F.ok scFindS (fun vs H Q E h => ?_) (fun cdv A outer s H vs Q E hr h => ?_)
  · obtain ⟨a, lo, dk, s, k, i, rfl, _⟩ := h
    rfl
  · obtain ⟨a, lo, dk, s, k, i, rfl, hc, o, q⟩ := h
    obtain ⟨dx, ha⟩ := hc.ob
    refine ⟨_, pss_cons (ps_if (pt_cmpR op_gt (pv 1) (pe_k rfl kG) (nomark _)) (pss_one (ps_ret (pe_call G1 hr rfl g1 k1 b1 .nil pass0 (pa_cons (pe_k rfl kN) pa_nil)))) pss_nil)
      (pss_cons (ps_if (pt_not (pt_val (pe_meth (pv 0) T.cl m3 G3 hr b3 .nil pass0 (pa_cons (pv 1) (pa_cons (pv 2) pa_nil))))) (pss_one (ps_ret (pe_call G1 hr rfl g1 k1 b1 .nil pass0 (pa_cons (pe_k rfl kO) pa_nil)))) pss_nil)
      (pss_one (ps_ret (pe_callTy call_list_of (by rfl) T.list (by decide +kernel) (pa_cons (pe_dget (hu_of hr) (pe_fld (pv 0) rfl) (pe_tup (pa_cons (pv 1) (pa_cons (pv 2) pa_nil))) (fun _ _ => rfl)) pa_nil))))), ?_⟩
    refine ⟨_, rfl, _, _, rfl, rfl, _, rfl, ?_⟩
    by_cases hk : k < 4
    case neg => exact if_yes (decide_eq_true (by omega)) ⟨_, rfl, q.only hc (x := .sFind k i) (k_high hk)⟩
    refine if_no (decide_eq_false (by omega)) ⟨_, rfl, a, dx, _, rfl, ha, sF_no _ _ _ (by decide +kernel), _, rfl, _, rfl, a, lo, dk, s, k, i, rfl, hc, fun H1 s1 => ⟨_, rfl, ?_⟩⟩
    have hc1 := hc.same s1
    obtain ⟨kvs, e1, e2, e3⟩ := hc1.kp
    rcases e3 k i with ⟨ew, ev⟩ | ⟨w, t, ew, ev, hw⟩
    · rw [has_not ew]
      exact iteT ⟨_, rfl, fun H' p s2 hp ep => q.only hc (find_no hk ew) H' p (s1.trans s2) (s1.free hp) ep⟩
    · rw [has_of ew]
      refine iteF ⟨_, rfl, a, C, dx, _, _, rfl, s1 _ _ ha, T.cl, T.nKept, sF_kept .., _, rfl, _, rfl, (by show 2 ≤ sizeLine; decide), fun u hu => ?_⟩
      have s2 := same_upd (H := H1) (o := .tup [.int k, .int i]) hu
      have dg : DGet (L2.upd H1 u (.tup [.int k, .int i])) dk (.ref u) (some (.ref t)) := by
        have := DGet.t (H := L2.upd H1 u (.tup [.int k, .int i])) (a := dk) (b := u) (k := key k i) (s2 _ _ e1) upd_same
        rw [ev] at this
        exact this
      refine ⟨dk, _, rfl, dg, t, _, rfl, .inr (SqT.of (s2 _ _ hw)), fun p hp => ?_⟩
      exact q.only hc (find_ok hk ew) _ p ((s1.trans s2).trans (same_upd hp)) ((s1.trans s2).free hp) upd_same
theorem scOfS : FnScope ["shore", "k", "numbers"] ["shore", "k"] (defScope sOfS) := ⟨rfl, rfl, rfl, by decide +kernel, rfl, by decide +kernel, by decide +kernel⟩
theorem ok_ofS {f : Addr} {fd : FuncData} (F : Fun K "sh_of" "sh_of" sOfS f fd) (T : TxtS K mg C) (kG : Kn mg "GREATEST_CALLER" 3) (kN : Kn mg "NO_SUCH" 2)
    (D1 : DefOk P w K mg base 1 "refused" ["refusal"] spRefused) (D2 : DefOk P w K mg base 1 "as_bits" ["numbers"] spBits) (M1 : MethOk P w K mg base C 2 "numbers_kept" ["self", "k"] (spNums C keptOf)) :
    FnOk P w K mg base CX0 3 f fd ["shore", "k"] (spSh1 C .sOf) := by
  obtain ⟨f1, fd1, g1, k1, G1, b1⟩ := D1.ex
  obtain ⟨f2, fd2, g2, k2, G2, b2⟩ := D2.ex
  obtain ⟨f3, fd3, m3, G3, b3⟩ := M1.ex
  refine F.ok scOfS (fun vs H Q E h => ?_) (fun cdv A outer s H vs Q E hr h => ?_)
  · obtain ⟨a, lo, dk, s, k, rfl, _⟩ := h
    rfl
  · obtain ⟨a, lo, dk, s, k, rfl, hc, o, q⟩ := h
    obtain ⟨dx, ha⟩ := hc.ob
    have hr1 : Room 1 _ := hr.mono (by decide)
    refine ⟨_, pss_cons (ps_if (pt_cmpR op_gt (pv 1) (pe_k rfl kG) (nomark _)) (pss_one (ps_ret (pe_call G1 hr1 rfl g1 k1 b1 .nil pass0 (pa_cons (pe_k rfl kN) pa_nil)))) pss_nil)
      (pss_cons (ps_set (i := 2) scOfS.nd rfl (Or.inl rfl) (pe_meth (pv 0) T.cl m3 G3 hr b3 .nil pass0 (pa_cons (pv 1) pa_nil)))
      (pss_one (ps_ret (pe_lst (pa_cons (pe_callB call_len_seq (by rfl) T.len PySem.boot_len (pa_cons (pv 2) pa_nil)) (pa_cons (pe_call G2 hr1 rfl g2 k2 b2 .nil pass0 (pa_cons (pv 2) pa_nil)) pa_nil)))))), ?_⟩
    refine ⟨_, rfl, _, _, rfl, rfl, _, rfl, ?_⟩
    by_cases hk : k < 4
    case neg => exact if_yes (decide_eq_true (by omega)) ⟨_, rfl, q.only hc (x := .sOf k) (k_high hk)⟩
    refine if_no (decide_eq_false (by omega)) ⟨_, rfl, a, dx, _, rfl, ha, sF_no _ _ _ (by decide +kernel), _, rfl, a, lo, dk, s, k, rfl, hc, o, ?_⟩
    intro H1 p s1 hp ep
    refine ⟨_, rfl, p, _, rfl, .inl (SqL.of ep), _, rfl, p, _, rfl, ep, (fun n hn => by have := List.mem_range.mp (List.mem_filter.mp hn).1; omega), (by show 2 ≤ sizeLine; decide), fun r hr' => ?_⟩
    refine q.only hc (x := .sOf k) (k_low hk) _ r (s1.trans (same_upd hr')) (s1.free hr') ?_
    rw [upd_same, List.length_map]
    show _ = some (HO.lst [V.int ((s.log.filter fun h => h.who == k).length : Nat), V.int ((Km448.bits (keptOf s k) : Nat) : Int)])
    rw [count_of o k]
    rfl
theorem scGapsS : FnScope ["shore", "k", "numbers"] ["shore", "k"] (defScope sGapsS) := ⟨rfl, rfl, rfl, by decide +kernel, rfl, by decide +kernel, by decide +kernel⟩
theorem ok_gapsS {f : Addr} {fd : FuncData} (F : Fun K "sh_gaps" "sh_gaps" sGapsS f fd) (T : TxtS K mg C) (kG : Kn mg "GREATEST_CALLER" 3) (kN : Kn mg "NO_SUCH" 2)
    (D1 : DefOk P w K mg base 1 "refused" ["refusal"] spRefused) (D2 : DefOk P w K mg base 1 "as_bits" ["numbers"] spBits) (M1 : MethOk P w K mg base C 3 "numbers_missing" ["self", "k"] (spNums C missOf)) :
    FnOk P w K mg base CX0 4 f fd ["shore", "k"] (spSh1 C .sGaps) := by
  obtain ⟨f1, fd1, g1, k1, G1, b1⟩ := D1.ex
  obtain ⟨f2, fd2, g2, k2, G2, b2⟩ := D2.ex
  obtain ⟨f3, fd3, m3, G3, b3⟩ := M1.ex
  refine F.ok scGapsS (fun vs H Q E h => ?_) (fun cdv A outer s H vs Q E hr h => ?_)
  · obtain ⟨a, lo, dk, s, k, rfl, _⟩ := h
    rfl
  · obtain ⟨a, lo, dk, s, k, rfl, hc, o, q⟩ := h
    obtain ⟨dx, ha⟩ := hc.ob
    have hr1 : Room 1 _ := hr.mono (by decide)
    refine ⟨_, pss_cons (ps_if (pt_cmpR op_gt (pv 1) (pe_k rfl kG) (nomark _)) (pss_one (ps_ret (pe_call G1 hr1 rfl g1 k1 b1 .nil pass0 (pa_cons (pe_k rfl kN) pa_nil)))) pss_nil)
      (pss_cons (ps_set (i := 2) scGapsS.nd rfl (Or.inl rfl) (pe_meth (pv 0) T.cl m3 G3 hr b3 .nil pass0 (pa_cons (pv 1) pa_nil)))
      (pss_one (ps_ret (pe_lst (pa_cons (pe_callB call_len_seq (by rfl) T.len PySem.boot_len (pa_cons (pv 2) pa_nil)) (pa_cons (pe_call G2 hr1 rfl g2 k2 b2 .nil pass0 (pa_cons (pv 2) pa_nil)) pa_nil)))))), ?_⟩
    refine ⟨_, rfl, _, _, rfl, rfl, _, rfl, ?_⟩
    by_cases hk : k < 4
    case neg => exact if_yes (decide_eq_true (by omega)) ⟨_, rfl, q.only hc (x := .sGaps k) (k_high hk)⟩
    refine if_no (decide_eq_false (by omega)) ⟨_, rfl, a, dx, _, rfl, ha, sF_no _ _ _ (by decide +kernel), _, rfl, a, lo, dk, s, k, rfl, hc, o, ?_⟩
    intro H1 p s1 hp ep
    refine ⟨_, rfl, p, _, rfl, .inl (SqL.of ep), _, rfl, p, _, rfl, ep, (fun n hn => by have := List.mem_range.mp (List.mem_filter.mp hn).1; have := top_le o k; omega), (by show 2 ≤ sizeLine; decide), fun r hr' => ?_⟩
    refine q.only hc (x := .sGaps k) (k_low hk) _ r (s1.trans (same_upd hr')) (s1.free hr') ?_
    rw [upd_same, List.length_map]
    show _ = some (HO.lst [V.int ((topOf s k - (s.log.filter fun h => h.who == k).length : Nat) : Int), V.int ((Km448.bits (missOf s k) : Nat) : Int)])
    rw [gaps_of o k]
    rfl
theorem scStateS : FnScope ["shore"] ["shore"] (defScope sStateS) := ⟨rfl, rfl, rfl, by decide +kernel, rfl, by decide +kernel, by decide +kernel⟩
theorem ok_stateS {f : Addr} {fd : FuncData} (F : Fun K "sh_state" "sh_state" sStateS f fd) (T : TxtS K mg C) (M1 : MethOk P w K mg base C 1 "how_many" ["self"] (spHow C)) :
    FnOk P w K mg base CX0 2 f fd ["shore"] (spSh0 C .sState) := by
  obtain ⟨f3, fd3, m3, G3, b3⟩ := M1.ex
  refine F.ok scStateS (fun vs H Q E h => ?_) (fun cdv A outer s H vs Q E hr h => ?_)
  · obtain ⟨a, lo, dk, s, rfl, _⟩ := h
    rfl
  · obtain ⟨a, lo, dk, s, rfl, hc, o, q⟩ := h
    obtain ⟨dx, ha⟩ := hc.ob
    refine ⟨_, pss_one (ps_ret (pe_lst (pa_cons (pe_meth0 (pv 0) T.cl m3 G3 hr b3 .nil pass0) (pa_cons (pe_fld (pv 0) rfl) pa_nil)))), ?_⟩
    refine ⟨_, rfl, a, dx, _, rfl, ha, sF_no _ _ _ (by decide +kernel), a, lo, dk, s, rfl, hc, ?_⟩
    refine ⟨_, rfl, a, C, dx, _, _, rfl, ha, T.cl, T.nAgain, sF_again .., (by show 2 ≤ sizeLine; decide), fun p hp => ?_⟩
    exact q.only hc (x := .sState) rfl _ p (same_upd hp) hp upd_same
end
end CS
set_option Elab.async false
set_option maxRecDepth 100000
set_option maxHeartbeats 2000000
namespace CS
open PySem PySem.Spec PyProof.Rows L2
section
variable {P : Program} {w : World} {K : PySem.W.Frag} {mg : Str → Option Value} {base : Heap} {C : Addr}
/-! ### sh_answer -/
theorem scAnswerS : FnScope ["shore", "k", "gap", "behind", "bit"] ["shore", "k"] (defScope sAnswerS) := ⟨rfl, rfl, rfl, by decide +kernel, rfl, by decide +kernel, by decide +kernel⟩
theorem ok_answerS {f : Addr} {fd : FuncData} (F : Fun K "sh_answer" "sh_answer" sAnswerS f fd) (T : TxtS K mg C) (kG : Kn mg "GREATEST_CALLER" 3) (kN : Kn mg "NO_SUCH" 2) (kB : Kn mg "ANSWER_BITS" 8) (kA : Kn mg "AN_ANSWER" 2)
    (D1 : DefOk P w K mg base 1 "refused" ["refusal"] spRefused) (D2 : DefOk P w K mg base 1 "as_bits" ["numbers"] spBits) (M1 : MethOk P w K mg base C 2 "first_gap" ["self", "k"] (spGap C)) (M2 : MethOk P w K mg base C 1 "keeps" ["self", "k", "number"] (spKeeps C)) :
    FnOk P w K mg base CX0 3 f fd ["shore", "k"] (spSh1 C .sAnswer) := by
  obtain ⟨f1, fd1, g1, k1, G1, b1⟩ := D1.ex
  obtain ⟨f2, fd2, g2, k2, G2, b2⟩ := D2.ex
  obtain ⟨f3, fd3, m3, G3, b3⟩ := M1.ex
  obtain ⟨f4, fd4, m4, G4, b4⟩ := M2.ex
  refine F.ok scAnswerS (fun vs H Q E h => ?_) (fun cdv A outer s H vs Q E hr h => ?_)
  · obtain ⟨a, lo, dk, s, k, rfl, _⟩ := h
    rfl
  · obtain ⟨a, lo, dk, s, k, rfl, hc, o, q⟩ := h
    obtain ⟨dx, ha⟩ := hc.ob
    have hr1 : Room 1 _ := hr.mono (by decide)
    refine ⟨_, pss_cons (ps_if (pt_cmpR op_gt (pv 1) (pe_k rfl kG) (nomark _)) (pss_one (ps_ret (pe_call G1 hr1 rfl g1 k1 b1 .nil pass0 (pa_cons (pe_k rfl kN) pa_nil)))) pss_nil)
      (pss_cons (ps_set (i := 2) scAnswerS.nd rfl (Or.inr rfl) (pe_meth (pv 0) T.cl m3 G3 hr b3 .nil pass0 (pa_cons (pv 1) pa_nil)))
      (pss_cons (ps_setLc (i := 3) (own := [("bit", 4)]) (g := gName 4) (tt := tB (tMeth C "keeps" (spKeeps C) [] E0 (tVar 0) (tCons (tVar 1) (tCons (tOp (rI0 fun i j => .int (i + j)) (tOp (rI0 fun i j => .int (i + j)) (tVar 2) (tC (.int 1))) (tVar 4)) tNil)))) rfl scAnswerS.nd rfl rfl (sw_true rfl rfl rfl (by decide +kernel))
        (pi_range1 rfl T.range (pa_cons (pe_k rfl kB) pa_nil))
        (blkOk_by (N := ["shore", "k", "gap", "behind", "bit"]) (sc := defScope sAnswerS) (by decide +kernel))
        (fun _ _ _ _ _ => pg_name (i := 4) scAnswerS.nd rfl (Or.inl rfl))
        (fun _ _ _ _ _ => pts_one (pt_val (pe_meth (pv 0) T.cl m4 G4 hr1 b4 .nil pass0 (pa_cons (pv 1) (pa_cons (pe_op op_add (pe_op op_add (pv 2) pe_int) (pv 4)) pa_nil)))))
        (fun _ _ _ _ _ => pv 4))
      (pss_one (ps_ret (pe_lst (pa_cons (pv 2) (pa_cons (pe_k rfl kA) (pa_cons (pv 1) (pa_cons (pv 2) (pa_cons (pe_call G2 hr1 rfl g2 k2 b2 .nil pass0 (pa_cons (pv 3) pa_nil)) (pa_cons pe_int (pa_cons pe_int pa_nil)))))))))))), ?_⟩
    refine ⟨_, rfl, _, _, rfl, rfl, _, rfl, ?_⟩
    by_cases hk : k < 4
    case neg => exact if_yes (decide_eq_true (by omega)) ⟨_, rfl, q.only hc (x := .sAnswer k) (k_high hk)⟩
    refine if_no (decide_eq_false (by omega)) ⟨_, rfl, a, dx, _, rfl, ha, sF_no _ _ _ (by decide +kernel), _, rfl, a, lo, dk, s, k, rfl, hc, o, ?_⟩
    intro H1 s1
    refine ⟨8, rfl, by decide, by decide, fun D hD => ?_⟩
    refine lc_range (n := 8) (fun i H' => Same H1 H' ∧ H' D = some (.lst (vints ((List.range i).filter fun j => s.has k (s.upto k + 1 + j))))) ⟨same_upd hD, upd_same⟩ ?_ ?_
    · rintro i H' hi ⟨sm, eD⟩
      refine ⟨rfl, ?_⟩
      refine ⟨_, rfl, a, dx, _, rfl, sm _ _ (s1 _ _ ha), sF_no _ _ _ (by decide +kernel), _, rfl, _, rfl, _, _, rfl, rfl, _, rfl, _, _, rfl, rfl, a, lo, dk, s, k, s.upto k + 1 + i, ?_, (hc.same s1).same sm, fun H2 s2 => ⟨_, rfl, ?_⟩⟩
      · show [V.ref a, V.int k, V.int ((s.upto k : Int) + 1 + (0 + (i : Int)))] = [V.ref a, V.int k, V.int ((s.upto k + 1 + i : Nat) : Int)]
        rw [show ((s.upto k : Int) + 1 + (0 + (i : Int))) = ((s.upto k + 1 + i : Nat) : Int) by omega]
      cases e : s.has k (s.upto k + 1 + i) with
      | false =>
        refine iteF ⟨sm.trans s2, ?_⟩
        rw [range_filter_succ, if_neg (by rw [e]; decide), List.append_nil]
        exact s2 _ _ eD
      | true =>
        refine iteT ⟨_, rfl, _, s2 _ _ eD, ?_, fun b x eb => ?_, ?_⟩
        · rw [List.length_map]
          exact small30 (Nat.le_trans (List.length_filter_le _ _) (by rw [List.length_range]; omega))
        · rw [upd_ne (ne_of_none eb hD)]
          exact s2 _ _ (sm _ _ eb)
        · rw [upd_same, range_filter_succ, if_pos e, vints_snoc, Int.zero_add]
    · rintro H' ⟨sm, eD⟩
      refine ⟨_, rfl, _, rfl, _, rfl, _, rfl, D, _, rfl, eD, (fun n hn => by have := List.mem_range.mp (List.mem_filter.mp hn).1; omega), (by show 7 ≤ sizeLine; decide), fun r hr' => ?_⟩
      refine q.only hc (x := .sAnswer k) (k_low hk) _ r ((s1.trans sm).trans (same_upd hr')) ((s1.trans sm).free hr') ?_
      rw [upd_same, ← above_bits]
      rfl
/-! ### sh_hear -/
def whatD (w : Km448.What) : PyData := .tuple [.int w.kind, .int w.x, .int w.y]
theorem whatD_eqv (v w : Km448.What) : PyData.eqv (whatD v) (whatD w) = decide (v = w) := by
  obtain ⟨a, b, c⟩ := v
  obtain ⟨a', b', c'⟩ := w
  have e : PyData.eqv (whatD ⟨a, b, c⟩) (whatD ⟨a', b', c'⟩) = (((a : Int) == (a' : Int)) && (((b : Int) == (b' : Int)) && (((c : Int) == (c' : Int)) && true))) := by simp only [whatD, PyData.eqv, PyData.eqvAll]
  rw [e, Bool.eq_iff_iff, decide_eq_true_eq]
  simp only [Bool.and_eq_true, beq_iff_eq, and_true, Km448.What.mk.injEq]
  omega
theorem dp_what {H : Hp} {t : Addr} {w : Km448.What} (h : H t = some (whatT w)) : Dp K H (.ref t) (whatD w) := .tup (SqT.of h) (.cons (.int _) (.cons (.int _) (.cons (.int _) .nil)))
theorem at_snoc {s : Km448.Shore} {h : Km448.Heard} (hn : s.at_ h.who h.number = none) (k i : Nat) : ({ s with log := s.log ++ [h] } : Km448.Shore).at_ k i = if k = h.who ∧ i = h.number then some h.what else s.at_ k i := by
  unfold Km448.Shore.at_ at hn ⊢
  show ((s.log ++ [h]).find? _).map _ = _
  rw [List.find?_append]
  by_cases e : k = h.who ∧ i = h.number
  · rw [if_pos e, e.1, e.2]
    rw [Option.map_eq_none_iff] at hn
    rw [hn, List.find?_cons_of_pos (by rw [Bool.and_eq_true, beq_iff_eq, beq_iff_eq]; exact ⟨rfl, rfl⟩)]
    rfl
  · rw [if_neg e, List.find?_cons_of_neg (by rw [Bool.and_eq_true, beq_iff_eq, beq_iff_eq]; exact fun z => e ⟨z.1.symm, z.2.symm⟩), List.find?_nil, Option.or_none]
theorem scHearS : FnScope ["shore", "message", "key", "what"] ["shore", "message"] (defScope sHearS) := ⟨rfl, rfl, rfl, by decide +kernel, rfl, by decide +kernel, by decide +kernel⟩
theorem ok_hearS {f : Addr} {fd : FuncData} (F : Fun K "sh_hear" "sh_hear" sHearS f fd) (T : TxtS K mg C) (kN : Kn mg "NOT_GOOD" 71) (kO : Kn mg "KEPT_OTHERWISE" 74) (kM : Kn mg "MOST_COUNTED" 1000000)
    (D1 : DefOk P w K mg base 1 "refused" ["refusal"] spRefused) (D2 : DefOk P w K mg base 2 "is_call" ["message"] spIsCall) (M1 : MethOk P w K mg base C 1 "how_many" ["self"] (spHow C)) :
    FnOk P w K mg base CX0 3 f fd ["shore", "message"] (spShM C .sHear) := by
  obtain ⟨f1, fd1, g1, k1, G1, b1⟩ := D1.ex
  obtain ⟨f2, fd2, g2, k2, G2, b2⟩ := D2.ex
  obtain ⟨f3, fd3, m3', G3, b3⟩ := M1.ex
  refine F.ok scHearS (fun vs H Q E h => ?_) (fun cdv A outer s H vs Q E hr h => ?_)
  · obtain ⟨a, lo, dk, s, m, m0, m1, m2, m3, m4, m5, rfl, _⟩ := h
    rfl
  · obtain ⟨a, lo, dk, s, m, m0, m1, m2, m3, m4, m5, rfl, hc, o, hm, q⟩ := h
    have hc0 := hc
    obtain ⟨⟨dx, ha⟩, ⟨ts, h1, h2, h3⟩, ⟨kvs, e1, e2, e3⟩⟩ := hc
    have hr1 : Room 1 _ := hr.mono (by decide)
    have i1 : (vints [m0, m1, m2, m3, m4, m5])[1]? = some (.int m1) := rfl
    have i2 : (vints [m0, m1, m2, m3, m4, m5])[2]? = some (.int m2) := rfl
    have i3 : (vints [m0, m1, m2, m3, m4, m5])[3]? = some (.int m3) := rfl
    have i4 : (vints [m0, m1, m2, m3, m4, m5])[4]? = some (.int m4) := rfl
    have i5 : (vints [m0, m1, m2, m3, m4, m5])[5]? = some (.int m5) := rfl
    refine ⟨_, pss_cons (ps_if (pt_not (pt_val (pe_call G2 hr rfl g2 k2 b2 .nil pass0 (pa_cons (pv 1) pa_nil)))) (pss_one (ps_ret (pe_call G1 hr1 rfl g1 k1 b1 .nil pass0 (pa_cons (pe_k rfl kN) pa_nil)))) pss_nil)
      (pss_cons (ps_set (i := 2) scHearS.nd rfl (Or.inl rfl) (pe_tup (pa_cons (pe_ix ix_list (pv 1) pe_int (fun _ _ => rfl)) (pa_cons (pe_ix ix_list (pv 1) pe_int (fun _ _ => rfl)) pa_nil))))
      (pss_cons (ps_set (i := 3) scHearS.nd rfl (Or.inl rfl) (pe_tup (pa_cons (pe_ix ix_list (pv 1) pe_int (fun _ _ => rfl)) (pa_cons (pe_ix ix_list (pv 1) pe_int (fun _ _ => rfl)) (pa_cons (pe_ix ix_list (pv 1) pe_int (fun _ _ => rfl)) pa_nil)))))
      (pss_cons (ps_if (pt_cmp (pc_dnotin (hu_of hr) (pv 2) (pe_fld (pv 0) rfl)))
        (pss_cons (ps_expr (pe_bm PySem.F.plainAttrs_list PySem.F.slot_list_append PySem.F.type_list_append mt_append (pe_fld (pv 0) rfl) (pa_cons (pv 2) pa_nil)))
        (pss_cons (ps_dput (hu_of hr) (pe_fld (pv 0) rfl) (pv 2) (pv 3) rfl)
        (pss_one (ps_ret (pe_lst (pa_cons pe_int (pa_cons (pe_meth0 (pv 0) T.cl m3' G3 hr1 b3 .nil pass0) pa_nil))))))) pss_nil)
      (pss_cons (ps_if (pt_cmpR (op_neD hr.units) (pe_dget (hu_of hr) (pe_fld (pv 0) rfl) (pv 2) (fun _ _ => rfl)) (pv 3) (nomark _)) (pss_one (ps_ret (pe_call G1 hr1 rfl g1 k1 b1 .nil pass0 (pa_cons (pe_k rfl kO) pa_nil)))) pss_nil)
      (pss_cons (ps_fld (pv 0) (pe_callB (call_min2 rfl) (by rfl) T.min (by decide +kernel) (pa_cons (pe_op op_add (pe_fld (pv 0) rfl) pe_int) (pa_cons (pe_k rfl kM) pa_nil))) rfl)
      (pss_one (ps_ret (pe_lst (pa_cons pe_int (pa_cons (pe_meth0 (pv 0) T.cl m3' G3 hr1 b3 .nil pass0) pa_nil)))))))))), ?_⟩
    refine ⟨_, rfl, m, m0, m1, m2, m3, m4, m5, rfl, hm, _, rfl, ?_⟩
    cases hg : Km448.goodCall [m0, m1, m2, m3, m4, m5] with
    | none => exact iteT ⟨_, rfl, q.only hc0 (hearS_bad hg)⟩
    | some h =>
    have hh : h = ⟨m1, m2, ⟨m3, m4, m5⟩⟩ := by
      rw [goodCall_six] at hg
      by_cases c : m0 = 1 ∧ m1 < 4 ∧ m2 < 30 ∧ Km448.okWhat ⟨m3, m4, m5⟩ = true
      · rw [if_pos c] at hg
        exact (Option.some.inj hg).symm
      · rw [if_neg c] at hg
        cases hg
    subst hh
    have sl := SqL.of (K := K) hm
    refine iteF ⟨_, rfl, m, _, _, _, rfl, rfl, sl, at_of (j := 1) rfl i1, _, rfl, m, _, _, _, rfl, rfl, sl, at_of (j := 2) rfl i2, (by show 2 ≤ sizeLine; decide), fun t ht => ?_⟩
    have s1 := same_upd (H := H) (o := .tup [.int m1, .int m2]) ht
    have hm1 := s1 _ _ hm
    have sl1 := SqL.of (K := K) hm1
    refine ⟨_, rfl, m, _, _, _, rfl, rfl, sl1, at_of (j := 3) rfl i3, _, rfl, m, _, _, _, rfl, rfl, sl1, at_of (j := 4) rfl i4, _, rfl, m, _, _, _, rfl, rfl, sl1, at_of (j := 5) rfl i5, (by show 3 ≤ sizeLine; decide), fun u hu => ?_⟩
    have s2 := same_upd (H := L2.upd H t (.tup [.int m1, .int m2])) (o := .tup [.int m3, .int m4, .int m5]) hu
    have s12 := s1.trans s2
    have et : L2.upd (L2.upd H t (.tup [.int m1, .int m2])) u (.tup [.int m3, .int m4, .int m5]) t = some (.tup [.int m1, .int m2]) := s2 _ _ upd_same
    have eu : L2.upd (L2.upd H t (.tup [.int m1, .int m2])) u (.tup [.int m3, .int m4, .int m5]) u = some (whatT ⟨m3, m4, m5⟩) := upd_same
    have hu0 : H u = none := s1.free hu
    generalize hH2 : L2.upd (L2.upd H t (.tup [.int m1, .int m2])) u (.tup [.int m3, .int m4, .int m5]) = H2 at *
    have fr : ∀ {p}, H2 p = none → H p = none := fun hp => s12.free hp
    have dg := DGet.t (H := H2) (a := dk) (b := t) (k := key m1 m2) (s12 _ _ e1) et
    refine ⟨_, rfl, _, rfl, a, C, dx, _, _, rfl, s12 _ _ ha, T.cl, T.nKept, sF_kept .., dk, _, rfl, dg, _, rfl, ?_⟩
    rcases e3 m1 m2 with ⟨ew, ev⟩ | ⟨w', t', ew, ev, hw'⟩
    · -- it's kept now
      rw [ev]
      have e := hearS_new hg ew
      have nla : a ≠ lo := ne_of ha h1 (by intro z; cases z)
      have nda : a ≠ dk := ne_of ha e1 (by intro z; cases z)
      have nld : lo ≠ dk := ne_of h1 e1 (by intro z; cases z)
      have hl120 := log_le o
      refine iteT ⟨_, rfl, a, C, dx, _, _, rfl, s12 _ _ ha, T.cl, T.nOrder, sF_order .., .inl ⟨rfl, _, SqL.of (s12 _ _ h1)⟩, _, rfl, lo, _, _, rfl, rfl, s12 _ _ h1, (by rw [List.length_map, h2]; exact small1000 (by omega)), ?_⟩
      have ntl : t ≠ lo := ne_of et (s12 _ _ h1) (by intro z; cases z)
      refine ⟨_, rfl, _, rfl, a, C, dx, _, _, rfl, (by rw [upd_ne nla]; exact s12 _ _ ha), T.cl, T.nKept, sF_kept .., _, rfl, dk, _, rfl, DPut.t (k := key m1 m2) (kvs := kvs) (by rw [upd_ne nld.symm]; exact s12 _ _ e1) (by rw [upd_ne ntl]; exact et) (by rw [e2]; exact small1000 (by omega)), ?_⟩
      have at1 : ShoreAt C (L2.upd (L2.upd H2 lo (.lst (ts.map V.ref ++ [.ref t]))) dk (.dT (putK kvs (key m1 m2) (.ref u)))) a lo dk { s with log := s.log ++ [⟨m1, m2, ⟨m3, m4, m5⟩⟩] } := by
        have tup : ∀ {b xs}, H2 b = some (.tup xs) → L2.upd (L2.upd H2 lo (.lst (ts.map V.ref ++ [.ref t]))) dk (.dT (putK kvs (key m1 m2) (.ref u))) b = some (.tup xs) := fun {b xs} eb => by
          rw [upd_ne (ne_of eb (s12 _ _ e1) (by intro z; cases z)), upd_ne (ne_of eb (s12 _ _ h1) (by intro z; cases z))]
          exact eb
        refine ⟨⟨dx, ?_⟩, ⟨ts ++ [t], ?_, ?_, fun i t' w' e1' e2' => ?_⟩, ⟨putK kvs (key m1 m2) (.ref u), upd_same, ?_, fun k i => ?_⟩⟩
        · rw [upd_ne nda, upd_ne nla]
          exact s12 _ _ ha
        · rw [upd_ne nld, upd_same, List.map_append]
          rfl
        · rw [List.length_append, h2]
          show _ = (s.log ++ [_]).length
          rw [List.length_append]
          rfl
        · have e2' : (s.log ++ [(⟨m1, m2, ⟨m3, m4, m5⟩⟩ : Km448.Heard)])[i]? = some w' := e2'
          by_cases hi : i < s.log.length
          · rw [List.getElem?_append_left (by omega)] at e1'
            rw [List.getElem?_append_left hi] at e2'
            exact tup (s12 _ _ (h3 i t' w' e1' e2'))
          · rw [List.getElem?_append_right (by omega), h2] at e1'
            rw [List.getElem?_append_right (by omega)] at e2'
            by_cases hi2 : i - s.log.length = 0
            · rw [hi2] at e1' e2'
              cases e1'
              cases e2'
              exact tup et
            · rw [List.getElem?_eq_none (by show 1 ≤ _; omega)] at e1'
              cases e1'
        · rw [putK_new _ ev, List.length_append, e2]
          show _ = (s.log ++ [_]).length
          rw [List.length_append]
          rfl
        · rw [at_snoc (h := ⟨m1, m2, ⟨m3, m4, m5⟩⟩) ew, valV_put]
          by_cases c : k = m1 ∧ i = m2
          · rw [if_pos c, if_pos (by rw [c.1, c.2])]
            exact .inr ⟨_, u, rfl, rfl, tup eu⟩
          · rw [if_neg c, if_neg (key_ne c)]
            rcases e3 k i with h | ⟨w2, t2, q1, q2, q3⟩
            · exact .inl h
            · exact .inr ⟨w2, t2, q1, q2, tup (s12 _ _ q3)⟩
      refine ⟨_, rfl, a, dx, _, rfl, (by rw [upd_ne nda, upd_ne nla]; exact s12 _ _ ha), sF_no _ _ _ (by decide +kernel), a, lo, dk, _, rfl, at1, (by show 2 ≤ sizeLine; decide), fun p hp => ?_⟩
      refine q _ p ?_ ?_ (fr (upd_free (upd_free hp))) ?_
      · rw [e]
        exact at1.same (same_upd hp)
      · refine Chg.same (Chg.upd (Chg.upd (Chg.of_same s12) ?_) ?_) (same_upd hp)
        · simp
        · simp
      · rw [e, upd_same]
        show some (HO.lst [V.int 1, V.int (((s.log ++ [_]).length : Nat) : Int)]) = some (HO.lst [V.int 1, V.int ((s.log.length + 1 : Nat) : Int)])
        rw [List.length_append]
        rfl
    · -- it was kept already
      rw [ev]
      rw [ev] at dg
      refine iteF ⟨_, rfl, a, C, dx, _, _, rfl, s12 _ _ ha, T.cl, T.nKept, sF_kept .., _, rfl, dk, _, rfl, dg, _, rfl, whatD w', whatD ⟨m3, m4, m5⟩, dp_what (s12 _ _ hw'), dp_what eu, rfl, rfl, _, rfl, ?_⟩
      rw [whatD_eqv]
      by_cases c : w' = ⟨m3, m4, m5⟩
      case neg =>
        rw [decide_eq_false c]
        exact iteT ⟨_, rfl, fun H' p s3 hp ep => q.only hc0 (hearS_other hg ew c) H' p (s12.trans s3) (s12.free hp) ep⟩
      rw [decide_eq_true c]
      have e := hearS_again hg ew c
      refine iteF ⟨_, rfl, a, C, dx, _, _, rfl, s12 _ _ ha, T.cl, T.nAgain, sF_again .., _, _, rfl, rfl, _, _, rfl, _, rfl, a, C, dx, _, rfl, s12 _ _ ha, T.cl, T.nAgain, (by show 3 < 1000; decide), ?_⟩
      rw [sF_put]
      have et : (if (1000000 : Int) < (s.again : Int) + 1 then (1000000 : Int) else (s.again : Int) + 1) = ((min Km448.MOST (s.again + 1) : Nat) : Int) := by
        show _ = ((min 1000000 (s.again + 1) : Nat) : Int)
        by_cases h : (1000000 : Int) < (s.again : Int) + 1
        · rw [if_pos h]
          omega
        · rw [if_neg h]
          omega
      rw [et]
      have at1 : ShoreAt C (L2.upd H2 a (.ins C dx (sF lo dk (min Km448.MOST (s.again + 1) : Nat)))) a lo dk { s with again := min Km448.MOST (s.again + 1) } := by
        have oth : ∀ {b o}, H2 b = some o → (∀ g, o ≠ .ins C dx g) → L2.upd H2 a (.ins C dx (sF lo dk (min Km448.MOST (s.again + 1) : Nat))) b = some o := fun {b o} eb ho => by
          rw [upd_ne (ne_of eb (s12 _ _ ha) (ho _))]
          exact eb
        refine ⟨⟨dx, upd_same⟩, ⟨ts, oth (s12 _ _ h1) (by intro g z; cases z), h2, fun i t w q1 q2 => oth (s12 _ _ (h3 i t w q1 q2)) (by intro g z; cases z)⟩, ⟨kvs, oth (s12 _ _ e1) (by intro g z; cases z), e2, fun k i => ?_⟩⟩
        rcases e3 k i with h | ⟨w2, t2, q1, q2, q3⟩
        · exact .inl h
        · exact .inr ⟨w2, t2, q1, q2, oth (s12 _ _ q3) (by intro g z; cases z)⟩
      refine ⟨_, rfl, a, dx, _, rfl, upd_same, sF_no _ _ _ (by decide +kernel), a, lo, dk, _, rfl, at1, (by show 2 ≤ sizeLine; decide), fun p hp => ?_⟩
      refine q _ p ?_ ?_ (fr (upd_free hp)) ?_
      · rw [e]
        exact at1.same (same_upd hp)
      · exact Chg.same (Chg.upd (Chg.of_same s12) (by simp)) (same_upd hp)
      · rw [e, upd_same]
        rfl
end
end CS
set_option Elab.async false
set_option maxRecDepth 100000
set_option maxHeartbeats 2000000
namespace CS
open PySem PySem.Spec PyProof.Rows L2
abbrev sShore : Stmt := top 61
section
variable {P : Program} {w : World} {K : PySem.W.Frag} {mg : Str → Option Value} {base : Heap} {C : Addr}
abbrev OS : Type := List (Option Km448.Caller)
/-! ### the shore of a line: its things are of owner 5, the list of owner 12 -/
def SlotS (C : Addr) (H : Hp) (tag : Tag) (v : V) (ow : Option Km448.Shore) : Prop :=
  (v = .non ∧ ow = none) ∨ ∃ a lo dk s, v = .ref a ∧ ow = some s ∧ ShoreAt C H a lo dk s ∧ SOk s ∧ tag a = 5 ∧ tag lo = 5 ∧ tag dk = 5
structure Shores (C : Addr) (H : Hp) (tag : Tag) (L : Addr) (ss : SS) : Prop where
  ex : ∃ v ow, H L = some (.lst [v]) ∧ ss = [ow] ∧ SlotS C H tag v ow
  tg : tag L = 12
theorem ShoreAt.ownF {H : Hp} {tag : Tag} {a lo dk : Addr} {s : Km448.Shore} (hc : ShoreAt C H a lo dk s) (ta : tag a = 5) (tl : tag lo = 5) (td : tag dk = 5) : Only tag (fun i => i = 5) [a, lo, dk] H := by
  obtain ⟨dx, eo⟩ := hc.ob
  obtain ⟨ts, es, _⟩ := hc.od
  obtain ⟨kvs, ek, _⟩ := hc.kp
  intro b hb
  simp only [List.mem_cons, List.not_mem_nil, or_false] at hb
  rcases hb with rfl | rfl | rfl
  · exact ⟨ta, ⟨_, eo⟩, fun xs e => by rw [eo] at e; cases e⟩
  · exact ⟨tl, ⟨_, es⟩, fun xs e => by rw [es] at e; cases e⟩
  · exact ⟨td, ⟨_, ek⟩, fun xs e => by rw [ek] at e; cases e⟩
theorem Only.wide {tag : Tag} {own own' : Nat → Prop} {F : List Addr} {H : Hp} (h : Only tag own F H) (hw : ∀ i, own i → own' i) : Only tag own' F H := fun b hb => ⟨hw _ (h b hb).1, (h b hb).2⟩
theorem Shores.frame {H H' : Hp} {tag tag' : Tag} {own : Nat → Prop} {F : List Addr} {L : Addr} {ss : SS} (h : Shores C H tag L ss) (s : Chg F H H') (hF : Only tag own F H) (h5 : ¬ own 5) (h12 : ¬ own 12) (ht : ∀ b o, H b = some o → tag' b = tag b) : Shores C H' tag' L ss := by
  obtain ⟨v, ow, e, es, hs⟩ := h.ex
  refine ⟨⟨v, ow, s _ _ e fun hb => h12 (h.tg ▸ (hF _ hb).1), es, ?_⟩, (ht _ _ e).trans h.tg⟩
  rcases hs with hs | ⟨a, lo, dk, s0, rfl, rfl, hc, o, ta, tl, td⟩
  · exact .inl hs
  · have no : ∀ {b}, tag b = 5 → b ∉ F := fun e hb => h5 (e ▸ (hF _ hb).1)
    obtain ⟨dx, eo⟩ := hc.ob
    obtain ⟨ts, el, _⟩ := hc.od
    obtain ⟨kvs, ek, _⟩ := hc.kp
    exact .inr ⟨a, lo, dk, s0, rfl, rfl, hc.frame s (no ta) (no tl) (no td) (fun b hb => (hF b hb).2.2), o, (ht _ _ eo).trans ta, (ht _ _ el).trans tl, (ht _ _ ek).trans td⟩
theorem Shores.start {H : Hp} {tag : Tag} {L : Addr} (h : H L = some (.lst [.non])) (t : tag L = 12) : Shores C H tag L [none] := ⟨⟨_, _, h, rfl, .inl ⟨rfl, rfl⟩⟩, t⟩
theorem stepS_some {os : OS} {s : Km448.Shore} {x : Km448.Call} : Km448Neutral.step1 (os, [some s]) 0 x = ((os, [some (Km448.sDoes s x).1]), Km448Neutral.told (Km448.sDoes s x).2) := rfl
theorem stepS_none {os : OS} {x : Km448.Call} (hs : Km448.isStart x = false) : Km448Neutral.step1 (os, [none]) 0 x = ((os, [none]), []) := by
  show (if Km448.isStart x = true then _ else _) = _
  rw [hs]
  rfl
theorem stepS_start {os : OS} {ow : Option Km448.Shore} : Km448Neutral.step1 (os, [ow]) 0 .sStart = ((os, [some Km448.shore0]), [0]) := by
  cases ow <;> rfl
/-- what a call of the shore comes to -/
def spShore (C : Addr) : Sp := fun vs H Q _ => ∃ (L q : Addr) (tag : Tag) (os : OS) (ss : SS) (k : Nat) (x : Km448.Call), vs = [.ref L, .ref q] ∧ Shores C H tag L ss ∧ H q = some (.lst (iints (flat k x))) ∧ Fine k x ∧ Km448.whose x = 1 ∧
  (Km448Neutral.step1 (os, ss) k x).2 ≠ [] ∧
  ∀ H' p tag' F, Shores C H' tag' L (Km448Neutral.step1 (os, ss) k x).1.2 → Chg F H H' → Only tag (fun i => i = 5 ∨ i = 12) F H → (∀ b o, H b = some o → tag' b = tag b) → H p = none → H' p = some (.lst (iints (Km448Neutral.step1 (os, ss) k x).2)) → Q (.ref p) H'
theorem scShore : FnScope ["shores", "call", "number", "shore"] ["shores", "call"] (defScope sShore) := ⟨rfl, rfl, rfl, by decide +kernel, rfl, by decide +kernel, by decide +kernel⟩
/-- the numbers of the shore's calls, as the program names them -/
structure NumsS (mg : Str → Option Value) : Prop where
  n9 : Kn mg "SH_START" 9
  n10 : Kn mg "SH_HEAR" 10
  n11 : Kn mg "SH_ANSWER" 11
  n12 : Kn mg "SH_GET" 12
  n13 : Kn mg "SH_FIND" 13
  n14 : Kn mg "SH_OF" 14
  n15 : Kn mg "SH_GAPS" 15
  at_ : Kn mg "MESSAGE_AT" 3
theorem ok_shore {f : Addr} {fd : FuncData} (F : Fun K "shore_answer" "shore_answer" sShore f fd) (N : NumsS mg)
    (D0 : DefOk P w K mg base 3 "sh_start" ["shores", "place"] (spStartS C)) (D1 : DefOk P w K mg base 3 "sh_hear" ["shore", "message"] (spShM C .sHear)) (D2 : DefOk P w K mg base 3 "sh_answer" ["shore", "k"] (spSh1 C .sAnswer))
    (D3 : DefOk P w K mg base 2 "sh_get" ["shore", "i"] (spSh1 C .sGet)) (D4 : DefOk P w K mg base 2 "sh_find" ["shore", "k", "i"] (spSh2 C .sFind)) (D5 : DefOk P w K mg base 3 "sh_of" ["shore", "k"] (spSh1 C .sOf))
    (D6 : DefOk P w K mg base 4 "sh_gaps" ["shore", "k"] (spSh1 C .sGaps)) (D7 : DefOk P w K mg base 2 "sh_state" ["shore"] (spSh0 C .sState)) :
    FnOk P w K mg base CX0 5 f fd ["shores", "call"] (spShore C) := by
  obtain ⟨f0, fd0, g0, k0, G0, b0⟩ := D0.ex
  obtain ⟨f1, fd1, g1, k1, G1, b1⟩ := D1.ex
  obtain ⟨f2, fd2, g2, k2, G2, b2⟩ := D2.ex
  obtain ⟨f3, fd3, g3, k3, G3, b3⟩ := D3.ex
  obtain ⟨f4, fd4, g4, k4, G4, b4⟩ := D4.ex
  obtain ⟨f5, fd5, g5, k5, G5, b5⟩ := D5.ex
  obtain ⟨f6, fd6, g6, k6, G6, b6⟩ := D6.ex
  obtain ⟨f7, fd7, g7, k7, G7, b7⟩ := D7.ex
  refine F.ok scShore (fun vs H Q E h => ?_) (fun cdv A outer s H vs Q E hr h => ?_)
  · obtain ⟨L, q, tag, os, ss, k, x, rfl, _⟩ := h
    rfl
  · obtain ⟨L, q, tag, os, ss, k, x, rfl, hC, hq, hf, hw, hne, kQ⟩ := h
    have hr2 : Room 2 _ := hr.mono (by decide)
    have hr3 : Room 3 _ := hr.mono (by decide)
    refine ⟨_, pss_cons (ps_set (i := 2) scShore.nd rfl (Or.inl rfl) (pe_ix ix_list (pv 1) pe_int (fun _ _ => rfl)))
      (pss_cons (ps_if (pt_cmpR op_eq (pv 2) (pe_k rfl N.n9) (nomark _)) (pss_one (ps_ret (pe_call G0 hr3 rfl g0 k0 b0 .nil pass0 (pa_cons (pv 0) (pa_cons (pe_ix ix_list (pv 1) pe_int (fun _ _ => rfl)) pa_nil))))) pss_nil)
      (pss_cons (ps_set (i := 3) scShore.nd rfl (Or.inl rfl) (pe_ix ix_list (pv 0) (pe_ix ix_list (pv 1) pe_int (fun _ _ => rfl)) (fun _ _ => rfl)))
      (pss_cons (ps_if (pt_cmpR op_eq (pv 2) (pe_k rfl N.n10) (nomark _)) (pss_one (ps_ret (pe_call G1 hr3 rfl g1 k1 b1 .nil pass0 (pa_cons (pv 3) (pa_cons (pe_slice sl_list (pv 1) (po_some (pe_k rfl N.at_)) po_none) pa_nil))))) pss_nil)
      (pss_cons (ps_if (pt_cmpR op_eq (pv 2) (pe_k rfl N.n11) (nomark _)) (pss_one (ps_ret (pe_call G2 hr3 rfl g2 k2 b2 .nil pass0 (pa_cons (pv 3) (pa_cons (pe_ix ix_list (pv 1) pe_int (fun _ _ => rfl)) pa_nil))))) pss_nil)
      (pss_cons (ps_if (pt_cmpR op_eq (pv 2) (pe_k rfl N.n12) (nomark _)) (pss_one (ps_ret (pe_call G3 hr2 rfl g3 k3 b3 .nil pass0 (pa_cons (pv 3) (pa_cons (pe_ix ix_list (pv 1) pe_int (fun _ _ => rfl)) pa_nil))))) pss_nil)
      (pss_cons (ps_if (pt_cmpR op_eq (pv 2) (pe_k rfl N.n13) (nomark _)) (pss_one (ps_ret (pe_call G4 hr2 rfl g4 k4 b4 .nil pass0 (pa_cons (pv 3) (pa_cons (pe_ix ix_list (pv 1) pe_int (fun _ _ => rfl)) (pa_cons (pe_ix ix_list (pv 1) pe_int (fun _ _ => rfl)) pa_nil)))))) pss_nil)
      (pss_cons (ps_if (pt_cmpR op_eq (pv 2) (pe_k rfl N.n14) (nomark _)) (pss_one (ps_ret (pe_call G5 hr3 rfl g5 k5 b5 .nil pass0 (pa_cons (pv 3) (pa_cons (pe_ix ix_list (pv 1) pe_int (fun _ _ => rfl)) pa_nil))))) pss_nil)
      (pss_cons (ps_if (pt_cmpR op_eq (pv 2) (pe_k rfl N.n15) (nomark _)) (pss_one (ps_ret (pe_call G6 hr rfl g6 k6 b6 .nil pass0 (pa_cons (pv 3) (pa_cons (pe_ix ix_list (pv 1) pe_int (fun _ _ => rfl)) pa_nil))))) pss_nil)
      (pss_one (ps_ret (pe_call G7 hr2 rfl g7 k7 b7 .nil pass0 (pa_cons (pv 3) pa_nil)))))))))))), ?_⟩
    have hk0 : k = 0 := by
      cases x <;> first | exact hf.1 | exact hf | cases hw
    subst hk0
    obtain ⟨v, ow, hL, rfl, hsl⟩ := hC.ex
    have sl := SqL.of (K := K) hq
    by_cases hst : x = .sStart
    · subst hst
      refine ⟨_, rfl, q, _, _, _, rfl, rfl, sl, at_of (j := 0) rfl rfl, ?_⟩
      refine ⟨_, rfl, rfl, _, rfl, if_yes (int_eq rfl) ?_⟩
      refine ⟨_, rfl, _, rfl, q, _, _, _, rfl, rfl, sl, at_of (j := 1) rfl rfl, L, [v], 0, rfl, hL, (by show 0 < 1; decide), ?_⟩
      intro H' p a lo dk at1 fa fl fk hp ch eL ep
      have e := stepS_start (os := os) (ow := ow)
      have ht : ∀ b o, H b = some o → (fun b => if b = a ∨ b = lo ∨ b = dk then 5 else tag b) b = tag b := by
        intro b o eb
        show (if b = a ∨ b = lo ∨ b = dk then 5 else tag b) = tag b
        rw [if_neg]
        rintro (z | z | z)
        · exact ne_of_none eb fa z
        · exact ne_of_none eb fl z
        · exact ne_of_none eb fk z
      refine kQ H' p (fun b => if b = a ∨ b = lo ∨ b = dk then 5 else tag b) [L] ?_ ch ?_ ht hp ?_
      · rw [e]
        exact ⟨⟨.ref a, some Km448.shore0, eL, rfl, .inr ⟨a, lo, dk, _, rfl, rfl, at1, sok_new, if_pos (Or.inl rfl), if_pos (Or.inr (Or.inl rfl)), if_pos (Or.inr (Or.inr rfl))⟩⟩, (ht _ _ hL).trans hC.tg⟩
      · intro b hb
        rw [List.mem_singleton] at hb
        subst hb
        exact ⟨Or.inr hC.tg, ⟨_, hL⟩, fun xs e => by rw [hL] at e; cases e⟩
      · rw [e]
        exact ep
    · have hns : Km448.isStart x = false := by
        cases x <;> first | rfl | (exact absurd rfl hst) | cases hw
      rcases hsl with ⟨rfl, rfl⟩ | ⟨a, lo, dk, s0, rfl, rfl, hc, o, ta, tl, td⟩
      · rw [stepS_none hns] at hne
        exact absurd rfl hne
      have e := stepS_some (os := os) (s := s0) (x := x)
      have fin : ∀ H1, Same H H1 → DoesS C H1 Q a lo dk s0 x := by
        intro H1 s1 H' p at1 ch hp ep
        have ch' : Chg [a, lo, dk] H H' := (Chg.of_same s1).trans ch
        have hF := hc.ownF ta tl td
        refine kQ H' p tag [a, lo, dk] ?_ ch' (hF.wide fun i h => Or.inl h) (fun _ _ _ => rfl) (s1.free hp) ?_
        · rw [e]
          refine ⟨⟨.ref a, _, ch' _ _ hL (fun hb => ?_), rfl, .inr ⟨a, lo, dk, _, rfl, rfl, at1, sok_does o x, ta, tl, td⟩⟩, hC.tg⟩
          have := (hF _ hb).1
          rw [hC.tg] at this
          omega
        · rw [e]
          exact ep
      have us1 : atI [V.ref a] ((0 : Nat) : Int) = some (.ref a) := atI_nat rfl
      have sL := SqL.of (K := K) hL
      cases x with
      | sHear m =>
        obtain ⟨m0, m1, m2, m3, m4, m5, rfl⟩ := six_parts hf.2
        refine ⟨_, rfl, q, _, _, _, rfl, rfl, sl, at_of (j := 0) rfl rfl, _, rfl, rfl, _, rfl, if_no (int_ne (by decide)) ?_⟩
        refine ⟨_, rfl, _, rfl, q, _, _, _, rfl, rfl, sl, at_of (j := 1) rfl rfl, L, _, _, _, rfl, rfl, sL, us1, _, rfl, rfl, _, rfl, if_yes (int_eq rfl) ?_⟩
        refine ⟨_, rfl, _, rfl, 3, rfl, q, _, rfl, sl, fun z hz => ?_⟩
        exact ⟨a, lo, dk, s0, z, m0, m1, m2, m3, m4, m5, rfl, hc.same (same_upd hz), o, upd_same.trans (congrArg (fun z => some (HO.lst z)) (cut_from _ 3 (by simp [flat]))), fin _ (same_upd hz)⟩
      | sAnswer i =>
        refine ⟨_, rfl, q, _, _, _, rfl, rfl, sl, at_of (j := 0) rfl rfl, _, rfl, rfl, _, rfl, if_no (int_ne (by decide)) ?_⟩
        refine ⟨_, rfl, _, rfl, q, _, _, _, rfl, rfl, sl, at_of (j := 1) rfl rfl, L, _, _, _, rfl, rfl, sL, us1, _, rfl, rfl, _, rfl, if_no (int_ne (by decide)) ?_⟩
        refine ⟨_, rfl, rfl, _, rfl, if_yes (int_eq rfl) ?_⟩
        exact ⟨_, rfl, _, rfl, q, _, _, _, rfl, rfl, sl, at_of (j := 2) rfl rfl, a, lo, dk, s0, i, rfl, hc, o, fin H (Same.refl _)⟩
      | sGet i =>
        refine ⟨_, rfl, q, _, _, _, rfl, rfl, sl, at_of (j := 0) rfl rfl, _, rfl, rfl, _, rfl, if_no (int_ne (by decide)) ?_⟩
        refine ⟨_, rfl, _, rfl, q, _, _, _, rfl, rfl, sl, at_of (j := 1) rfl rfl, L, _, _, _, rfl, rfl, sL, us1, _, rfl, rfl, _, rfl, if_no (int_ne (by decide)) ?_⟩
        refine ⟨_, rfl, rfl, _, rfl, if_no (int_ne (by decide)) ⟨_, rfl, rfl, _, rfl, if_yes (int_eq rfl) ?_⟩⟩
        exact ⟨_, rfl, _, rfl, q, _, _, _, rfl, rfl, sl, at_of (j := 2) rfl rfl, a, lo, dk, s0, i, rfl, hc, o, fin H (Same.refl _)⟩
      | sFind k i =>
        refine ⟨_, rfl, q, _, _, _, rfl, rfl, sl, at_of (j := 0) rfl rfl, _, rfl, rfl, _, rfl, if_no (int_ne (by decide)) ?_⟩
        refine ⟨_, rfl, _, rfl, q, _, _, _, rfl, rfl, sl, at_of (j := 1) rfl rfl, L, _, _, _, rfl, rfl, sL, us1, _, rfl, rfl, _, rfl, if_no (int_ne (by decide)) ?_⟩
        refine ⟨_, rfl, rfl, _, rfl, if_no (int_ne (by decide)) ⟨_, rfl, rfl, _, rfl, if_no (int_ne (by decide)) ⟨_, rfl, rfl, _, rfl, if_yes (int_eq rfl) ?_⟩⟩⟩
        exact ⟨_, rfl, _, rfl, q, _, _, _, rfl, rfl, sl, at_of (j := 2) rfl rfl, _, rfl, q, _, _, _, rfl, rfl, sl, at_of (j := 3) rfl rfl, a, lo, dk, s0, k, i, rfl, hc, o, fin H (Same.refl _)⟩
      | sOf i =>
        refine ⟨_, rfl, q, _, _, _, rfl, rfl, sl, at_of (j := 0) rfl rfl, _, rfl, rfl, _, rfl, if_no (int_ne (by decide)) ?_⟩
        refine ⟨_, rfl, _, rfl, q, _, _, _, rfl, rfl, sl, at_of (j := 1) rfl rfl, L, _, _, _, rfl, rfl, sL, us1, _, rfl, rfl, _, rfl, if_no (int_ne (by decide)) ?_⟩
        refine ⟨_, rfl, rfl, _, rfl, if_no (int_ne (by decide)) ⟨_, rfl, rfl, _, rfl, if_no (int_ne (by decide)) ⟨_, rfl, rfl, _, rfl, if_no (int_ne (by decide)) ⟨_, rfl, rfl, _, rfl, if_yes (int_eq rfl) ?_⟩⟩⟩⟩
        exact ⟨_, rfl, _, rfl, q, _, _, _, rfl, rfl, sl, at_of (j := 2) rfl rfl, a, lo, dk, s0, i, rfl, hc, o, fin H (Same.refl _)⟩
      | sGaps i =>
        refine ⟨_, rfl, q, _, _, _, rfl, rfl, sl, at_of (j := 0) rfl rfl, _, rfl, rfl, _, rfl, if_no (int_ne (by decide)) ?_⟩
        refine ⟨_, rfl, _, rfl, q, _, _, _, rfl, rfl, sl, at_of (j := 1) rfl rfl, L, _, _, _, rfl, rfl, sL, us1, _, rfl, rfl, _, rfl, if_no (int_ne (by decide)) ?_⟩
        refine ⟨_, rfl, rfl, _, rfl, if_no (int_ne (by decide)) ⟨_, rfl, rfl, _, rfl, if_no (int_ne (by decide)) ⟨_, rfl, rfl, _, rfl, if_no (int_ne (by decide)) ⟨_, rfl, rfl, _, rfl, if_no (int_ne (by decide)) ⟨_, rfl, rfl, _, rfl, if_yes (int_eq rfl) ?_⟩⟩⟩⟩⟩
        exact ⟨_, rfl, _, rfl, q, _, _, _, rfl, rfl, sl, at_of (j := 2) rfl rfl, a, lo, dk, s0, i, rfl, hc, o, fin H (Same.refl _)⟩
      | sState =>
        refine ⟨_, rfl, q, _, _, _, rfl, rfl, sl, at_of (j := 0) rfl rfl, _, rfl, rfl, _, rfl, if_no (int_ne (by decide)) ?_⟩
        refine ⟨_, rfl, _, rfl, q, _, _, _, rfl, rfl, sl, at_of (j := 1) rfl rfl, L, _, _, _, rfl, rfl, sL, us1, _, rfl, rfl, _, rfl, if_no (int_ne (by decide)) ?_⟩
        refine ⟨_, rfl, rfl, _, rfl, if_no (int_ne (by decide)) ⟨_, rfl, rfl, _, rfl, if_no (int_ne (by decide)) ⟨_, rfl, rfl, _, rfl, if_no (int_ne (by decide)) ⟨_, rfl, rfl, _, rfl, if_no (int_ne (by decide)) ⟨_, rfl, rfl, _, rfl, if_no (int_ne (by decide)) ?_⟩⟩⟩⟩⟩
        exact ⟨_, rfl, a, lo, dk, s0, rfl, hc, o, fin H (Same.refl _)⟩
      | sStart => exact absurd rfl hst
      | _ => cases hw
end
end CS
set_option Elab.async false
set_option maxRecDepth 100000
set_option maxHeartbeats 2000000
namespace CS
open PySem PySem.Spec PyProof.Rows L2
abbrev sOne : Stmt := top 62
abbrev sAnswers : Stmt := top 63
section
variable {P : Program} {w : World} {K : PySem.W.Frag} {mg : Str → Option Value} {base : Heap} {C D : Addr}
/-! ### one_answer -/
theorem whose_or (x : Km448.Call) : Km448.whose x = 0 ∨ Km448.whose x = 1 := by
  cases x <;> first | exact Or.inl rfl | exact Or.inr rfl
theorem stepK0 {s : Km448Neutral.S} {k : Nat} {x : Km448.Call} (h : Km448.whose x = 0) : stepK s k x = Km448Neutral.step0 s k x := by
  unfold stepK
  rw [h]
  rfl
theorem stepK1 {s : Km448Neutral.S} {k : Nat} {x : Km448.Call} (h : Km448.whose x = 1) : stepK s k x = Km448Neutral.step1 s k x := by
  unfold stepK
  rw [h]
  rfl
theorem step0_snd (os : OS) (ss : SS) (k : Nat) (x : Km448.Call) : (Km448Neutral.step0 (os, ss) k x).1.2 = ss := by
  unfold Km448Neutral.step0
  split
  · rfl
  · split
    · rfl
    · split
      · dsimp only
        split <;> rfl
      · rfl
theorem step1_fst (os : OS) (ss : SS) (k : Nat) (x : Km448.Call) : (Km448Neutral.step1 (os, ss) k x).1.1 = os := by
  unfold Km448Neutral.step1
  split
  · rfl
  · split
    · rfl
    · split
      · dsimp only
        split <;> rfl
      · rfl
/-- whose things a call may change -/
def Ours (i : Nat) : Prop := i < 3 ∨ i = 10 ∨ i = 5 ∨ i = 12
def spOne (C D : Addr) : Sp := fun vs H Q _ => ∃ (L M q : Addr) (tag : Tag) (os : OS) (ss : SS) (k : Nat) (x : Km448.Call), vs = [.ref L, .ref M, .ref q] ∧ Callers C H tag L os ∧ Shores D H tag M ss ∧ H q = some (.lst (iints (flat k x))) ∧ Fine k x ∧
  (stepK (os, ss) k x).2 ≠ [] ∧
  ∀ H' p tag' F, Callers C H' tag' L (stepK (os, ss) k x).1.1 → Shores D H' tag' M (stepK (os, ss) k x).1.2 → Chg F H H' → Only tag Ours F H → (∀ b o, H b = some o → tag' b = tag b) → H p = none → H' p = some (.lst (iints (stepK (os, ss) k x).2)) → Q (.ref p) H'
theorem scOne : FnScope ["callers", "shores", "call"] ["callers", "shores", "call"] (defScope sOne) := ⟨rfl, rfl, rfl, by decide +kernel, rfl, by decide +kernel, by decide +kernel⟩
/-- the number of a call: below 9 a caller's -/
theorem flat_whose {k : Nat} (x : Km448.Call) : ∃ n : Nat, (iints (flat k x))[0]? = some (.int n) ∧ (Km448.whose x = 0 ↔ n < 9) := by
  cases x
  case cStart => exact ⟨0, rfl, ⟨fun _ => by decide, fun _ => rfl⟩⟩
  case cSay => exact ⟨1, rfl, ⟨fun _ => by decide, fun _ => rfl⟩⟩
  case cTell => exact ⟨2, rfl, by decide⟩
  case cHear => exact ⟨3, rfl, ⟨fun _ => by decide, fun _ => rfl⟩⟩
  case cKnown => exact ⟨4, rfl, ⟨fun _ => by decide, fun _ => rfl⟩⟩
  case cOpen => exact ⟨5, rfl, by decide⟩
  case cSaid => exact ⟨6, rfl, ⟨fun _ => by decide, fun _ => rfl⟩⟩
  case cWould => exact ⟨7, rfl, ⟨fun _ => by decide, fun _ => rfl⟩⟩
  case cState => exact ⟨8, rfl, by decide⟩
  case sStart => exact ⟨9, rfl, by decide⟩
  case sHear => exact ⟨10, rfl, ⟨fun h => absurd h (by intro z; cases z), fun h => absurd h (by decide)⟩⟩
  case sAnswer => exact ⟨11, rfl, ⟨fun h => absurd h (by intro z; cases z), fun h => absurd h (by decide)⟩⟩
  case sGet => exact ⟨12, rfl, ⟨fun h => absurd h (by intro z; cases z), fun h => absurd h (by decide)⟩⟩
  case sFind => exact ⟨13, rfl, ⟨fun h => absurd h (by intro z; cases z), fun h => absurd h (by decide)⟩⟩
  case sOf => exact ⟨14, rfl, ⟨fun h => absurd h (by intro z; cases z), fun h => absurd h (by decide)⟩⟩
  case sGaps => exact ⟨15, rfl, ⟨fun h => absurd h (by intro z; cases z), fun h => absurd h (by decide)⟩⟩
  case sState => exact ⟨16, rfl, by decide⟩
theorem ok_one {f : Addr} {fd : FuncData} (F : Fun K "one_answer" "one_answer" sOne f fd) (kS : Kn mg "SH_START" 9) (D1 : DefOk P w K mg base 4 "caller_answer" ["callers", "call"] (spCaller C)) (D2 : DefOk P w K mg base 5 "shore_answer" ["shores", "call"] (spShore D)) :
    FnOk P w K mg base CX0 6 f fd ["callers", "shores", "call"] (spOne C D) := by
  obtain ⟨f1, fd1, g1, k1, G1, b1⟩ := D1.ex
  obtain ⟨f2, fd2, g2, k2, G2, b2⟩ := D2.ex
  refine F.ok scOne (fun vs H Q E h => ?_) (fun cdv A outer s H vs Q E hr h => ?_)
  · obtain ⟨L, M, q, tag, os, ss, k, x, rfl, _⟩ := h
    rfl
  · obtain ⟨L, M, q, tag, os, ss, k, x, rfl, hC, hS, hq, hf, hne, kQ⟩ := h
    have hr4 : Room 4 _ := hr.mono (by decide)
    refine ⟨_, pss_cons (ps_if (pt_cmpR op_lt (pe_ix ix_list (pv 2) pe_int (fun _ _ => rfl)) (pe_k rfl kS) (nomark _)) (pss_one (ps_ret (pe_call G1 hr4 rfl g1 k1 b1 .nil pass0 (pa_cons (pv 0) (pa_cons (pv 2) pa_nil))))) pss_nil)
      (pss_one (ps_ret (pe_call G2 hr rfl g2 k2 b2 .nil pass0 (pa_cons (pv 1) (pa_cons (pv 2) pa_nil))))), ?_⟩
    obtain ⟨n, hn, hw⟩ := flat_whose (k := k) x
    refine ⟨_, rfl, q, _, _, _, rfl, rfl, SqL.of hq, at_of (j := 0) rfl hn, _, _, rfl, rfl, _, rfl, ?_⟩
    by_cases h9 : n < 9
    · have hw0 := hw.mpr h9
      rw [stepK0 hw0] at hne kQ
      refine if_yes (decide_eq_true (by omega)) ⟨_, rfl, _, rfl, L, q, tag, os, ss, k, x, rfl, hC, hq, hf, hw0, hne, ?_⟩
      intro H' p tag' Fs hC2 ch hO ht hp ep
      refine kQ H' p tag' Fs hC2 ?_ ch (hO.wide fun i h => by unfold Ours; omega) ht hp ep
      rw [step0_snd]
      exact hS.frame ch hO (by omega) (by omega) ht
    · have hw1 : Km448.whose x = 1 := (whose_or x).resolve_left fun h => h9 (hw.mp h)
      rw [stepK1 hw1] at hne kQ
      refine if_no (decide_eq_false (by omega)) ⟨_, rfl, _, rfl, M, q, tag, os, ss, k, x, rfl, hS, hq, hf, hw1, hne, ?_⟩
      intro H' p tag' Fs hS2 ch hO ht hp ep
      refine kQ H' p tag' Fs ?_ hS2 ch (hO.wide fun i h => by unfold Ours; omega) ht hp ep
      rw [step1_fst]
      exact hC.frame ch hO (fun i hi => by omega) ht
/-! ### answers -/
theorem scAns : FnScope ["calls", "callers", "shores", "given", "at", "end", "answer"] ["calls"] (defScope sAnswers) := ⟨rfl, rfl, rfl, by decide +kernel, rfl, by decide +kernel, by decide +kernel⟩
/-- a written tuple of numbers -/
def WTup (K : PySem.W.Frag) (mg : Str → Option Value) (x : Str) (l : List Int) : Prop := ∃ a, mg x = some (.ref a) ∧ ∀ H, SqT K H a (iints l)
def lens : List Int := [3, 5, 2, 9, 3, 2, 3, 9, 2, 2, 9, 3, 3, 4, 3, 3, 2]
def spAns (K : PySem.W.Frag) : Sp := fun vs H Q _ => ∃ (a : Addr) (ns : List Int), vs = [.ref a] ∧ SqL K H a (iints ns) ∧ ns.length ≤ 30000 ∧ PyKm448.answers_asked ns = true ∧
  ∀ (H' : Hp) (p : Addr), H' p = some (.lst (iints (PyKm448.answers ns))) → Q (.ref p) H'
theorem cut_mid (xs : List V) (i j : Nat) (h1 : i ≤ j) (h2 : j ≤ xs.length) : cutV xs (some (i : Int)) (some (j : Int)) = (xs.drop i).take (j - i) := by
  unfold cutV
  rw [HT.sIx_nat, HT.sIx_nat, Nat.min_eq_left h2, Nat.min_eq_left (Nat.le_trans h1 h2)]
theorem flat_len_pos (k : Nat) (x : Km448.Call) : 0 < (flat k x).length := by
  cases x <;> exact Nat.succ_pos _
/-- the first number of a call, and how long it is -/
theorem flat_head {k : Nat} {x : Km448.Call} (hf : Fine k x) : ∃ n : Nat, (flat k x)[0]? = some (n : Int) ∧ lens[n]? = some ((flat k x).length : Int) := by
  cases x
  case cStart => exact ⟨0, rfl, rfl⟩
  case cSay => exact ⟨1, rfl, rfl⟩
  case cTell => exact ⟨2, rfl, rfl⟩
  case cHear => obtain ⟨m0, m1, m2, m3, m4, m5, rfl⟩ := six_parts hf.2; exact ⟨3, rfl, rfl⟩
  case cKnown => exact ⟨4, rfl, rfl⟩
  case cOpen => exact ⟨5, rfl, rfl⟩
  case cSaid => exact ⟨6, rfl, rfl⟩
  case cWould => obtain ⟨m0, m1, m2, m3, m4, m5, rfl⟩ := six_parts hf.2; exact ⟨7, rfl, rfl⟩
  case cState => exact ⟨8, rfl, rfl⟩
  case sStart => exact ⟨9, rfl, rfl⟩
  case sHear => obtain ⟨m0, m1, m2, m3, m4, m5, rfl⟩ := six_parts hf.2; exact ⟨10, rfl, rfl⟩
  case sAnswer => exact ⟨11, rfl, rfl⟩
  case sGet => exact ⟨12, rfl, rfl⟩
  case sFind => exact ⟨13, rfl, rfl⟩
  case sOf => exact ⟨14, rfl, rfl⟩
  case sGaps => exact ⟨15, rfl, rfl⟩
  case sState => exact ⟨16, rfl, rfl⟩
theorem Callers.start {H : Hp} {tag : Tag} {L : Addr} (h : H L = some (.lst [.non, .non, .non])) (t : tag L = 10) : Callers C H tag L [none, none, none] :=
  ⟨⟨_, h, rfl, rfl, fun i v oc e1 e2 => .inl (by
    match i with
    | 0 => cases e1; cases e2; exact ⟨rfl, rfl⟩
    | 1 => cases e1; cases e2; exact ⟨rfl, rfl⟩
    | 2 => cases e1; cases e2; exact ⟨rfl, rfl⟩
    | i + 3 => simp at e1)⟩, t⟩
/-- between two turns -/
structure Mid (C D : Addr) (H0 : Hp) (L M G : Addr) (ns : List Int) (at_ : Nat) (H : Hp) : Prop where
  ex : ∃ (tag : Tag) (os : OS) (ss : SS) (done rest : List Int), Rest (os, ss) (ns.drop at_) rest ∧ H G = some (.lst (iints done)) ∧ done ++ rest = PyKm448.answers ns ∧ Callers C H tag L os ∧ Shores D H tag M ss ∧ tag G = 11 ∧
    Same H0 H ∧ ∀ b o, H0 b = some o → tag b = 99
  le : at_ ≤ ns.length
theorem ok_answers {f : Addr} {fd : FuncData} (F : Fun K "answers" "answers" sAnswers f fd) (T : Txt K mg C) (W : WTup K mg "CALL_LENGTHS" lens) (D1 : DefOk P w K mg base 6 "one_answer" ["callers", "shores", "call"] (spOne C D)) :
    FnOk P w K mg base CX0 7 f fd ["calls"] (spAns K) := by
  obtain ⟨f1, fd1, g1, k1, G1, b1⟩ := D1.ex
  obtain ⟨aT, gT, hT⟩ := W
  refine F.ok scAns (fun vs H Q E h => ?_) (fun cdv A outer s H vs Q E hr h => ?_)
  · obtain ⟨a, ns, rfl, _⟩ := h
    rfl
  · obtain ⟨a, ns, rfl, hS, hlen, hask, k⟩ := h
    refine ⟨_, pss_cons (ps_set (i := 1) scAns.nd rfl (Or.inl rfl) (pe_lst (pa_cons pe_non (pa_cons pe_non (pa_cons pe_non pa_nil)))))
      (pss_cons (ps_set (i := 2) scAns.nd rfl (Or.inl rfl) (pe_lst (pa_cons pe_non pa_nil)))
      (pss_cons (ps_set (i := 3) scAns.nd rfl (Or.inl rfl) (pe_lst pa_nil))
      (pss_cons (ps_set (i := 4) scAns.nd rfl (Or.inl rfl) pe_int)
      (pss_cons (ps_while PassesOwn.never (pt_cmpR op_lt (pv 4) (pe_callB call_len_seq (by rfl) T.len PySem.boot_len (pa_cons (pv 0) pa_nil)) (nomark _))
        (pss_cons (ps_set (i := 5) scAns.nd rfl (Or.inl rfl) (pe_op op_add (pv 4) (pe_ix ix_tup (pe_glob (v := .ref aT) rfl gT rfl) (pe_ix ix_list (pv 0) (pv 4) (fun _ _ => rfl)) (fun _ _ => rfl))))
        (pss_cons (ps_set (i := 6) scAns.nd rfl (Or.inl rfl) (pe_call G1 hr rfl g1 k1 b1 .nil pass0 (pa_cons (pv 1) (pa_cons (pv 2) (pa_cons (pe_slice sl_list (pv 0) (po_some (pv 4)) (po_some (pv 5))) pa_nil)))))
        (pss_cons (ps_expr (pe_bm PySem.F.plainAttrs_list PySem.F.slot_list_append PySem.F.type_list_append mt_append (pv 3) (pa_cons (pe_callB call_len_seq (by rfl) T.len PySem.boot_len (pa_cons (pv 6) pa_nil)) pa_nil)))
        (pss_cons (ps_expr (pe_bm PySem.F.plainAttrs_list PySem.F.slot_list_extend PySem.F.type_list_extend mt_extend (pv 3) (pa_cons (pv 6) pa_nil)))
        (pss_one (ps_set (i := 4) scAns.nd rfl (Or.inl rfl) (pv 5))))))))
      (pss_one (ps_ret (pv 3))))))), ?_⟩
    refine ⟨(by show 3 ≤ sizeLine; decide), fun L hL => ?_⟩
    refine ⟨(by show 1 ≤ sizeLine; decide), fun M hM => ?_⟩
    refine ⟨(by show 0 ≤ sizeLine; decide), fun G hG => ?_⟩
    obtain ⟨hrest, hshort⟩ := rest_all hask
    have eL1 : L2.upd (L2.upd H L (.lst [.non, .non, .non])) M (.lst [.non]) L = some (.lst [.non, .non, .non]) := by
      rw [upd_ne (ne_of_none upd_same hM)]
      exact upd_same
    have eM1 : L2.upd (L2.upd H L (.lst [.non, .non, .non])) M (.lst [.non]) M = some (.lst [.non]) := upd_same
    have nLM : L ≠ M := ne_of_none upd_same hM
    have nLG : L ≠ G := ne_of_none eL1 hG
    have nMG : M ≠ G := ne_of_none eM1 hG
    refine ⟨fun m σ H' => ∃ (at_ : Nat) (y4 y5 : Option V), m = ns.length - at_ ∧ σ = [some (.ref a), some (.ref L), some (.ref M), some (.ref G), some (.int at_), y4, y5] ∧ Mid C D H L M G ns at_ H', ⟨_, 0, none, none, rfl, rfl, ?_⟩, ?_⟩
    · have h0M : H M = none := upd_free hM
      have h0G : H G = none := upd_free (upd_free hG)
      refine ⟨⟨fun b => if b = L then 10 else if b = M then 12 else if b = G then 11 else 99, [none, none, none], [none], [], PyKm448.answers ns, hrest, upd_same, rfl, Callers.start (by rw [upd_ne nLG]; exact eL1) (if_pos rfl), Shores.start (by rw [upd_ne nMG]; exact eM1) ((if_neg nLM.symm).trans (if_pos rfl)), (if_neg nLG.symm).trans ((if_neg nMG.symm).trans (if_pos rfl)), ((same_upd hL).trans (same_upd hM)).trans (same_upd hG), fun b o e => ?_⟩, Nat.zero_le _⟩
      show (if b = L then 10 else if b = M then 12 else if b = G then 11 else 99) = 99
      rw [if_neg (ne_of_none e hL), if_neg (ne_of_none e h0M), if_neg (ne_of_none e h0G)]
    · rintro m σ H' ⟨at_, y4, y5, rfl, rfl, ⟨⟨tag, os, ss, done, rest, hR, eG, hdone, hC, hM', tG, sm, h99⟩, hle⟩⟩
      refine ⟨_, rfl, _, rfl, a, _, rfl, .inl (sm.seq hS), _, _, rfl, rfl, _, rfl, ?_⟩
      rw [List.length_map]
      by_cases hlt : at_ < ns.length
      case neg =>
        rw [decide_eq_false (by omega)]
        refine iteF ⟨_, rfl, k H' G ?_⟩
        rw [List.drop_eq_nil_of_le (by omega)] at hR
        have er := rest_nil hR
        rw [er, List.append_nil] at hdone
        rw [← hdone]
        exact eG
      rw [decide_eq_true (by omega)]
      have hdrop : ns.drop at_ = ns[at_] :: ns.drop (at_ + 1) := List.drop_eq_getElem_cons hlt
      rw [hdrop] at hR
      obtain ⟨kk, x, l', out', efl, hf, hne, eout, hR'⟩ := rest_cons hR
      rw [← hdrop] at efl
      obtain ⟨n, en1, en2⟩ := flat_head hf
      have hfl : 0 < (flat kk x).length := flat_len_pos kk x
      have en0 : (iints ns)[at_]? = some (.int n) := by
        have := congrArg (fun z => z[0]?) efl
        rw [List.getElem?_drop, List.getElem?_append_left hfl, en1, Nat.add_zero] at this
        rw [List.getElem?_map, this]
        rfl
      have hend : at_ + (flat kk x).length ≤ ns.length := by
        have := congrArg List.length efl
        rw [List.length_drop, List.length_append] at this
        omega
      refine iteT ⟨fun σ' H2 => ∃ (at2 : Nat) (y4 y5 : Option V), at_ < at2 ∧ σ' = [some (.ref a), some (.ref L), some (.ref M), some (.ref G), some (.int at2), y4, y5] ∧ Mid C D H L M G ns at2 H2, ?_, ?_⟩
      · rintro σ' H2 ⟨at2, y4, y5, h2, e2, m2⟩
        exact ⟨ns.length - at2, by have := m2.le; omega, at2, y4, y5, rfl, e2, m2⟩
      refine ⟨_, rfl, _, rfl, _, rfl, a, _, _, _, rfl, rfl, sm.seq hS, atI_nat en0, aT, _, _, _, rfl, rfl, hT _, atI_nat (by rw [List.getElem?_map, en2]; rfl), _, _, rfl, rfl, ?_⟩
      refine ⟨_, rfl, _, rfl, _, rfl, _, rfl, _, rfl, _, rfl, _, rfl, a, _, rfl, sm.seq hS, fun q hq => ?_⟩
      have eq : cutV (iints ns) (some ((at_ : Nat) : Int)) (some ((at_ : Int) + ((flat kk x).length : Int))) = iints (flat kk x) := by
        rw [← Int.natCast_add, cut_mid _ _ _ (by omega) (by rw [List.length_map]; exact hend), ← List.map_drop, ← List.map_take, efl, Nat.add_sub_cancel_left, List.take_left]
      rw [eq]
      have s1 := same_upd (H := H') (o := .lst (iints (flat kk x))) hq
      refine ⟨L, M, q, tag, os, ss, kk, x, rfl, hC.frame (own := fun _ => False) (F := []) (Chg.of_same s1) (fun b hb => by cases hb) (fun _ _ h => h) (fun _ _ _ => rfl), hM'.frame (own := fun _ => False) (F := []) (Chg.of_same s1) (fun b hb => by cases hb) (fun h => h) (fun h => h) (fun _ _ _ => rfl), upd_same, hf, hne, ?_⟩
      intro H2 p tag' Fs hC2 hM2 ch hO ht hp ep
      have eG1 := s1 _ _ eG
      have tG' : tag' G = 11 := (ht _ _ eG1).trans tG
      have nGF : G ∉ Fs := fun hb => by
        have := (hO _ hb).1
        rw [tG] at this
        unfold Ours at this
        omega
      have eG2 := ch _ _ eG1 nGF
      have nGp : p ≠ G := (ne_of_none eG1 hp).symm
      have hlenout : done.length + ((stepK (os, ss) kk x).2.length + 1) ≤ 10000000 := by
        have := congrArg List.length hdone
        rw [List.length_append, eout, List.length_append, List.length_cons] at this
        omega
      refine ⟨_, rfl, .inl ⟨rfl, _, SqL.of eG2⟩, _, rfl, p, _, rfl, .inl (SqL.of ep), G, _, _, rfl, rfl, eG2, ?_, ?_⟩
      · rw [List.length_map]
        exact Nat.lt_of_lt_of_le (show done.length < 10000001 by omega) (by decide)
      have sG : L2.upd H2 G (.lst (iints done ++ [.int (iints (stepK (os, ss) kk x).2).length])) p = some (.lst (iints (stepK (os, ss) kk x).2)) := by
        rw [upd_ne nGp]
        exact ep
      refine ⟨_, rfl, .inl ⟨rfl, _, SqL.of upd_same⟩, _, rfl, G, p, _, _, rfl, rfl, upd_same, sG, ?_, ?_⟩
      · rw [List.length_append, List.length_map, List.length_map]
        exact Nat.le_trans (show done.length + 1 + (stepK (os, ss) kk x).2.length ≤ 10000001 by omega) (by decide)
      rw [upd_upd]
      refine ⟨_, rfl, at_ + (flat kk x).length, _, _, by omega, rfl, ⟨⟨tag', (stepK (os, ss) kk x).1.1, (stepK (os, ss) kk x).1.2, done ++ (((stepK (os, ss) kk x).2.length : Int) :: (stepK (os, ss) kk x).2), out', ?_, ?_, ?_, ?_, ?_, tG', ?_, ?_⟩, hend⟩⟩
      · rw [← List.drop_drop, efl, List.drop_left]
        exact hR'
      · rw [upd_same, List.length_map]
        simp [iints]
      · rw [← hdone, eout, List.append_assoc]
      · refine hC2.frame (own := fun i => i = 11) (F := [G]) (tag' := tag') (Chg.upd (fun b x e _ => e) (by simp)) (fun b hb => ?_) (fun i hi => by omega) (fun _ _ _ => rfl)
        rw [List.mem_singleton] at hb
        subst hb
        exact ⟨tG', ⟨_, eG2⟩, fun xs e => by rw [eG2] at e; cases e⟩
      · refine hM2.frame (own := fun i => i = 11) (F := [G]) (tag' := tag') (Chg.upd (fun b x e _ => e) (by simp)) (fun b hb => ?_) (by omega) (by omega) (fun _ _ _ => rfl)
        rw [List.mem_singleton] at hb
        subst hb
        exact ⟨tG', ⟨_, eG2⟩, fun xs e => by rw [eG2] at e; cases e⟩
      · intro b o e
        have t99 := h99 b o e
        have e1 := s1 _ _ (sm _ _ e)
        rw [upd_ne (fun z => by rw [z, tG] at t99; omega)]
        refine ch _ _ e1 fun hb => ?_
        have := (hO _ hb).1
        rw [t99] at this
        unfold Ours at this
        omega
      · intro b o e
        rw [ht _ _ (s1 _ _ (sm _ _ e))]
        exact h99 b o e
end
end CS
set_option Elab.async false
set_option maxRecDepth 100000
set_option maxHeartbeats 4000000
namespace CS
open PySem PySem.Spec PyProof.Rows L2
theorem all_mk {P : Program} {w : World} {K : PySem.W.Frag} {h : Heap} {mg : Str → Option Value} {fa : Addr} (X : K.In h) (G : h.Ns mainGlobals mg) (hfa : mg "answers" = some (.ref fa))
    {t_CA_START : Tok}
    {t_CA_SAY : Tok}
    {t_CA_TELL : Tok}
    {t_CA_HEAR : Tok}
    {t_CA_KNOWN : Tok}
    {t_CA_OPEN : Tok}
    {t_CA_SAID : Tok}
    {t_CA_WOULD : Tok}
    {t_SH_START : Tok}
    {t_SH_HEAR : Tok}
    {t_SH_ANSWER : Tok}
    {t_SH_GET : Tok}
    {t_SH_FIND : Tok}
    {t_SH_OF : Tok}
    {t_SH_GAPS : Tok}
    {t_MESSAGE_AT : Tok}
    {t_NO_SUCH : Tok}
    {t_NONE_THERE : Tok}
    {t_OUT_OF_RANGE : Tok}
    {t_NO_ROOM : Tok}
    {t_NOT_GOOD : Tok}
    {t_KEPT_OTHERWISE : Tok}
    {t_A_CALL : Tok}
    {t_AN_ANSWER : Tok}
    {t_GREATEST_CALLER : Tok}
    {t_GREATEST_KIND : Tok}
    {t_GREATEST_VALUE : Tok}
    {t_MOST_CALLS : Tok}
    {t_MOST_COUNTED : Tok}
    {t_REACH : Tok}
    {t_ANSWER_BITS : Tok}
    {t_BITS_END : Tok}
    {a_CALL_LENGTHS : Addr} {od_CALL_LENGTHS : Option Addr} {n_CALL_LENGTHS : Nat} {sl_CALL_LENGTHS : Array (Option Value)} {t_CALL_LENGTHS_0 t_CALL_LENGTHS_1 t_CALL_LENGTHS_2 t_CALL_LENGTHS_3 t_CALL_LENGTHS_4 t_CALL_LENGTHS_5 t_CALL_LENGTHS_6 t_CALL_LENGTHS_7 t_CALL_LENGTHS_8 t_CALL_LENGTHS_9 t_CALL_LENGTHS_10 t_CALL_LENGTHS_11 t_CALL_LENGTHS_12 t_CALL_LENGTHS_13 t_CALL_LENGTHS_14 t_CALL_LENGTHS_15 t_CALL_LENGTHS_16 : Tok}
    {C_Caller : Addr}
    {f_Caller___init__ : Addr} {od_Caller___init__ an_Caller___init__ : Option Addr} {sl_Caller___init__ : Array (Option Value)} {oc_Caller___init__ kV_Caller___init__ dc_Caller___init__ pm_Caller___init__ cd_Caller___init__ ct_Caller___init__ : Value}
    {f_Caller_called : Addr} {od_Caller_called an_Caller_called : Option Addr} {sl_Caller_called : Array (Option Value)} {oc_Caller_called kV_Caller_called dc_Caller_called pm_Caller_called cd_Caller_called ct_Caller_called : Value}
    {f_Caller_has_call : Addr} {od_Caller_has_call an_Caller_has_call : Option Addr} {sl_Caller_has_call : Array (Option Value)} {oc_Caller_has_call kV_Caller_has_call dc_Caller_has_call pm_Caller_has_call cd_Caller_has_call ct_Caller_has_call : Value}
    {f_Caller_open_numbers : Addr} {od_Caller_open_numbers an_Caller_open_numbers : Option Addr} {sl_Caller_open_numbers : Array (Option Value)} {oc_Caller_open_numbers kV_Caller_open_numbers dc_Caller_open_numbers pm_Caller_open_numbers cd_Caller_open_numbers ct_Caller_open_numbers : Value}
    {f_Caller_first_open_from : Addr} {od_Caller_first_open_from an_Caller_first_open_from : Option Addr} {sl_Caller_first_open_from : Array (Option Value)} {oc_Caller_first_open_from kV_Caller_first_open_from dc_Caller_first_open_from pm_Caller_first_open_from cd_Caller_first_open_from ct_Caller_first_open_from : Value}
    {f_Caller_may_call : Addr} {od_Caller_may_call an_Caller_may_call : Option Addr} {sl_Caller_may_call : Array (Option Value)} {oc_Caller_may_call kV_Caller_may_call dc_Caller_may_call pm_Caller_may_call cd_Caller_may_call ct_Caller_may_call : Value}
    {f_Caller_told_next : Addr} {od_Caller_told_next an_Caller_told_next : Option Addr} {sl_Caller_told_next : Array (Option Value)} {oc_Caller_told_next kV_Caller_told_next dc_Caller_told_next pm_Caller_told_next cd_Caller_told_next ct_Caller_told_next : Value}
    {C_Shore : Addr}
    {f_Shore___init__ : Addr} {od_Shore___init__ an_Shore___init__ : Option Addr} {sl_Shore___init__ : Array (Option Value)} {oc_Shore___init__ kV_Shore___init__ dc_Shore___init__ pm_Shore___init__ cd_Shore___init__ ct_Shore___init__ : Value}
    {f_Shore_how_many : Addr} {od_Shore_how_many an_Shore_how_many : Option Addr} {sl_Shore_how_many : Array (Option Value)} {oc_Shore_how_many kV_Shore_how_many dc_Shore_how_many pm_Shore_how_many cd_Shore_how_many ct_Shore_how_many : Value}
    {f_Shore_keeps : Addr} {od_Shore_keeps an_Shore_keeps : Option Addr} {sl_Shore_keeps : Array (Option Value)} {oc_Shore_keeps kV_Shore_keeps dc_Shore_keeps pm_Shore_keeps cd_Shore_keeps ct_Shore_keeps : Value}
    {f_Shore_first_gap : Addr} {od_Shore_first_gap an_Shore_first_gap : Option Addr} {sl_Shore_first_gap : Array (Option Value)} {oc_Shore_first_gap kV_Shore_first_gap dc_Shore_first_gap pm_Shore_first_gap cd_Shore_first_gap ct_Shore_first_gap : Value}
    {f_Shore_numbers_kept : Addr} {od_Shore_numbers_kept an_Shore_numbers_kept : Option Addr} {sl_Shore_numbers_kept : Array (Option Value)} {oc_Shore_numbers_kept kV_Shore_numbers_kept dc_Shore_numbers_kept pm_Shore_numbers_kept cd_Shore_numbers_kept ct_Shore_numbers_kept : Value}
    {f_Shore_numbers_missing : Addr} {od_Shore_numbers_missing an_Shore_numbers_missing : Option Addr} {sl_Shore_numbers_missing : Array (Option Value)} {oc_Shore_numbers_missing kV_Shore_numbers_missing dc_Shore_numbers_missing pm_Shore_numbers_missing cd_Shore_numbers_missing ct_Shore_numbers_missing : Value}
    {f_refused : Addr} {od_refused an_refused : Option Addr} {sl_refused : Array (Option Value)} {oc_refused kV_refused dc_refused pm_refused cd_refused ct_refused : Value}
    {f_as_bits : Addr} {od_as_bits an_as_bits : Option Addr} {sl_as_bits : Array (Option Value)} {oc_as_bits kV_as_bits dc_as_bits pm_as_bits cd_as_bits ct_as_bits : Value}
    {f_in_range : Addr} {od_in_range an_in_range : Option Addr} {sl_in_range : Array (Option Value)} {oc_in_range kV_in_range dc_in_range pm_in_range cd_in_range ct_in_range : Value}
    {f_is_call : Addr} {od_is_call an_is_call : Option Addr} {sl_is_call : Array (Option Value)} {oc_is_call kV_is_call dc_is_call pm_is_call cd_is_call ct_is_call : Value}
    {f_numbers_told : Addr} {od_numbers_told an_numbers_told : Option Addr} {sl_numbers_told : Array (Option Value)} {oc_numbers_told kV_numbers_told dc_numbers_told pm_numbers_told cd_numbers_told ct_numbers_told : Value}
    {f_is_good : Addr} {od_is_good an_is_good : Option Addr} {sl_is_good : Array (Option Value)} {oc_is_good kV_is_good dc_is_good pm_is_good cd_is_good ct_is_good : Value}
    {f_newly_known : Addr} {od_newly_known an_newly_known : Option Addr} {sl_newly_known : Array (Option Value)} {oc_newly_known kV_newly_known dc_newly_known pm_newly_known cd_newly_known ct_newly_known : Value}
    {f_ca_start : Addr} {od_ca_start an_ca_start : Option Addr} {sl_ca_start : Array (Option Value)} {oc_ca_start kV_ca_start dc_ca_start pm_ca_start cd_ca_start ct_ca_start : Value}
    {f_ca_say : Addr} {od_ca_say an_ca_say : Option Addr} {sl_ca_say : Array (Option Value)} {oc_ca_say kV_ca_say dc_ca_say pm_ca_say cd_ca_say ct_ca_say : Value}
    {f_ca_tell : Addr} {od_ca_tell an_ca_tell : Option Addr} {sl_ca_tell : Array (Option Value)} {oc_ca_tell kV_ca_tell dc_ca_tell pm_ca_tell cd_ca_tell ct_ca_tell : Value}
    {f_ca_hear : Addr} {od_ca_hear an_ca_hear : Option Addr} {sl_ca_hear : Array (Option Value)} {oc_ca_hear kV_ca_hear dc_ca_hear pm_ca_hear cd_ca_hear ct_ca_hear : Value}
    {f_ca_known : Addr} {od_ca_known an_ca_known : Option Addr} {sl_ca_known : Array (Option Value)} {oc_ca_known kV_ca_known dc_ca_known pm_ca_known cd_ca_known ct_ca_known : Value}
    {f_ca_open : Addr} {od_ca_open an_ca_open : Option Addr} {sl_ca_open : Array (Option Value)} {oc_ca_open kV_ca_open dc_ca_open pm_ca_open cd_ca_open ct_ca_open : Value}
    {f_ca_said : Addr} {od_ca_said an_ca_said : Option Addr} {sl_ca_said : Array (Option Value)} {oc_ca_said kV_ca_said dc_ca_said pm_ca_said cd_ca_said ct_ca_said : Value}
    {f_ca_would : Addr} {od_ca_would an_ca_would : Option Addr} {sl_ca_would : Array (Option Value)} {oc_ca_would kV_ca_would dc_ca_would pm_ca_would cd_ca_would ct_ca_would : Value}
    {f_ca_state : Addr} {od_ca_state an_ca_state : Option Addr} {sl_ca_state : Array (Option Value)} {oc_ca_state kV_ca_state dc_ca_state pm_ca_state cd_ca_state ct_ca_state : Value}
    {f_sh_start : Addr} {od_sh_start an_sh_start : Option Addr} {sl_sh_start : Array (Option Value)} {oc_sh_start kV_sh_start dc_sh_start pm_sh_start cd_sh_start ct_sh_start : Value}
    {f_sh_hear : Addr} {od_sh_hear an_sh_hear : Option Addr} {sl_sh_hear : Array (Option Value)} {oc_sh_hear kV_sh_hear dc_sh_hear pm_sh_hear cd_sh_hear ct_sh_hear : Value}
    {f_sh_answer : Addr} {od_sh_answer an_sh_answer : Option Addr} {sl_sh_answer : Array (Option Value)} {oc_sh_answer kV_sh_answer dc_sh_answer pm_sh_answer cd_sh_answer ct_sh_answer : Value}
    {f_sh_get : Addr} {od_sh_get an_sh_get : Option Addr} {sl_sh_get : Array (Option Value)} {oc_sh_get kV_sh_get dc_sh_get pm_sh_get cd_sh_get ct_sh_get : Value}
    {f_sh_find : Addr} {od_sh_find an_sh_find : Option Addr} {sl_sh_find : Array (Option Value)} {oc_sh_find kV_sh_find dc_sh_find pm_sh_find cd_sh_find ct_sh_find : Value}
    {f_sh_of : Addr} {od_sh_of an_sh_of : Option Addr} {sl_sh_of : Array (Option Value)} {oc_sh_of kV_sh_of dc_sh_of pm_sh_of cd_sh_of ct_sh_of : Value}
    {f_sh_gaps : Addr} {od_sh_gaps an_sh_gaps : Option Addr} {sl_sh_gaps : Array (Option Value)} {oc_sh_gaps kV_sh_gaps dc_sh_gaps pm_sh_gaps cd_sh_gaps ct_sh_gaps : Value}
    {f_sh_state : Addr} {od_sh_state an_sh_state : Option Addr} {sl_sh_state : Array (Option Value)} {oc_sh_state kV_sh_state dc_sh_state pm_sh_state cd_sh_state ct_sh_state : Value}
    {f_caller_answer : Addr} {od_caller_answer an_caller_answer : Option Addr} {sl_caller_answer : Array (Option Value)} {oc_caller_answer kV_caller_answer dc_caller_answer pm_caller_answer cd_caller_answer ct_caller_answer : Value}
    {f_shore_answer : Addr} {od_shore_answer an_shore_answer : Option Addr} {sl_shore_answer : Array (Option Value)} {oc_shore_answer kV_shore_answer dc_shore_answer pm_shore_answer cd_shore_answer ct_shore_answer : Value}
    {f_one_answer : Addr} {od_one_answer an_one_answer : Option Addr} {sl_one_answer : Array (Option Value)} {oc_one_answer kV_one_answer dc_one_answer pm_one_answer cd_one_answer ct_one_answer : Value}
    {f_answers : Addr} {od_answers an_answers : Option Addr} {sl_answers : Array (Option Value)} {oc_answers kV_answers dc_answers pm_answers cd_answers ct_answers : Value}
    (k_CA_START : PySem.W.nsIn K mainGlobals "CA_START" = some (some (.int 0 t_CA_START)))
    (k_CA_SAY : PySem.W.nsIn K mainGlobals "CA_SAY" = some (some (.int 1 t_CA_SAY)))
    (k_CA_TELL : PySem.W.nsIn K mainGlobals "CA_TELL" = some (some (.int 2 t_CA_TELL)))
    (k_CA_HEAR : PySem.W.nsIn K mainGlobals "CA_HEAR" = some (some (.int 3 t_CA_HEAR)))
    (k_CA_KNOWN : PySem.W.nsIn K mainGlobals "CA_KNOWN" = some (some (.int 4 t_CA_KNOWN)))
    (k_CA_OPEN : PySem.W.nsIn K mainGlobals "CA_OPEN" = some (some (.int 5 t_CA_OPEN)))
    (k_CA_SAID : PySem.W.nsIn K mainGlobals "CA_SAID" = some (some (.int 6 t_CA_SAID)))
    (k_CA_WOULD : PySem.W.nsIn K mainGlobals "CA_WOULD" = some (some (.int 7 t_CA_WOULD)))
    (k_SH_START : PySem.W.nsIn K mainGlobals "SH_START" = some (some (.int 9 t_SH_START)))
    (k_SH_HEAR : PySem.W.nsIn K mainGlobals "SH_HEAR" = some (some (.int 10 t_SH_HEAR)))
    (k_SH_ANSWER : PySem.W.nsIn K mainGlobals "SH_ANSWER" = some (some (.int 11 t_SH_ANSWER)))
    (k_SH_GET : PySem.W.nsIn K mainGlobals "SH_GET" = some (some (.int 12 t_SH_GET)))
    (k_SH_FIND : PySem.W.nsIn K mainGlobals "SH_FIND" = some (some (.int 13 t_SH_FIND)))
    (k_SH_OF : PySem.W.nsIn K mainGlobals "SH_OF" = some (some (.int 14 t_SH_OF)))
    (k_SH_GAPS : PySem.W.nsIn K mainGlobals "SH_GAPS" = some (some (.int 15 t_SH_GAPS)))
    (k_MESSAGE_AT : PySem.W.nsIn K mainGlobals "MESSAGE_AT" = some (some (.int 3 t_MESSAGE_AT)))
    (k_NO_SUCH : PySem.W.nsIn K mainGlobals "NO_SUCH" = some (some (.int 2 t_NO_SUCH)))
    (k_NONE_THERE : PySem.W.nsIn K mainGlobals "NONE_THERE" = some (some (.int 6 t_NONE_THERE)))
    (k_OUT_OF_RANGE : PySem.W.nsIn K mainGlobals "OUT_OF_RANGE" = some (some (.int 22 t_OUT_OF_RANGE)))
    (k_NO_ROOM : PySem.W.nsIn K mainGlobals "NO_ROOM" = some (some (.int 28 t_NO_ROOM)))
    (k_NOT_GOOD : PySem.W.nsIn K mainGlobals "NOT_GOOD" = some (some (.int 71 t_NOT_GOOD)))
    (k_KEPT_OTHERWISE : PySem.W.nsIn K mainGlobals "KEPT_OTHERWISE" = some (some (.int 74 t_KEPT_OTHERWISE)))
    (k_A_CALL : PySem.W.nsIn K mainGlobals "A_CALL" = some (some (.int 1 t_A_CALL)))
    (k_AN_ANSWER : PySem.W.nsIn K mainGlobals "AN_ANSWER" = some (some (.int 2 t_AN_ANSWER)))
    (k_GREATEST_CALLER : PySem.W.nsIn K mainGlobals "GREATEST_CALLER" = some (some (.int 3 t_GREATEST_CALLER)))
    (k_GREATEST_KIND : PySem.W.nsIn K mainGlobals "GREATEST_KIND" = some (some (.int 9 t_GREATEST_KIND)))
    (k_GREATEST_VALUE : PySem.W.nsIn K mainGlobals "GREATEST_VALUE" = some (some (.int 1000000 t_GREATEST_VALUE)))
    (k_MOST_CALLS : PySem.W.nsIn K mainGlobals "MOST_CALLS" = some (some (.int 30 t_MOST_CALLS)))
    (k_MOST_COUNTED : PySem.W.nsIn K mainGlobals "MOST_COUNTED" = some (some (.int 1000000 t_MOST_COUNTED)))
    (k_REACH : PySem.W.nsIn K mainGlobals "REACH" = some (some (.int 8 t_REACH)))
    (k_ANSWER_BITS : PySem.W.nsIn K mainGlobals "ANSWER_BITS" = some (some (.int 8 t_ANSWER_BITS)))
    (k_BITS_END : PySem.W.nsIn K mainGlobals "BITS_END" = some (some (.int 256 t_BITS_END)))
    (g_CALL_LENGTHS : PySem.W.nsIn K mainGlobals "CALL_LENGTHS" = some (some (.ref a_CALL_LENGTHS)))
    (l_CALL_LENGTHS : K.lookup a_CALL_LENGTHS = some ⟨.type "tuple", od_CALL_LENGTHS, .seq #[.int 3 t_CALL_LENGTHS_0, .int 5 t_CALL_LENGTHS_1, .int 2 t_CALL_LENGTHS_2, .int 9 t_CALL_LENGTHS_3, .int 3 t_CALL_LENGTHS_4, .int 2 t_CALL_LENGTHS_5, .int 3 t_CALL_LENGTHS_6, .int 9 t_CALL_LENGTHS_7, .int 2 t_CALL_LENGTHS_8, .int 2 t_CALL_LENGTHS_9, .int 9 t_CALL_LENGTHS_10, .int 3 t_CALL_LENGTHS_11, .int 3 t_CALL_LENGTHS_12, .int 4 t_CALL_LENGTHS_13, .int 3 t_CALL_LENGTHS_14, .int 3 t_CALL_LENGTHS_15, .int 2 t_CALL_LENGTHS_16] n_CALL_LENGTHS, sl_CALL_LENGTHS⟩)
    (z_len : PySem.W.nsIn K mainGlobals "len" = some none)
    (z_range : PySem.W.nsIn K mainGlobals "range" = some none)
    (z_list : PySem.W.nsIn K mainGlobals "list" = some none)
    (z_min : PySem.W.nsIn K mainGlobals "min" = some none)
    (z_max : PySem.W.nsIn K mainGlobals "max" = some none)
    (a_Caller : PySem.W.nsIn K mainGlobals "Caller" = some (some (.ref C_Caller)))
    (pg_Caller : PySem.W.plainGet K C_Caller Str.empty = true)
    (hd_Caller : PySem.W.hasDictIn K C_Caller = true)
    (po_Caller : PySem.W.plainOver K C_Caller = true)
    (sa_Caller : PySem.W.findIn K (.ref C_Caller) "__setattr__" = some (some (.builtin "object.__setattr__")))
    (mk_Caller : PySem.W.makesIn K C_Caller = true)
    (kc_Caller : PySem.W.keepIn K (.ref C_Caller) = true)
    (n_Caller_me : PySem.W.findIn K (.ref C_Caller) "me" = some none)
    (n_Caller_said : PySem.W.findIn K (.ref C_Caller) "said" = some none)
    (n_Caller_known : PySem.W.findIn K (.ref C_Caller) "known" = some none)
    (n_Caller_told : PySem.W.findIn K (.ref C_Caller) "told" = some none)
    (n_Caller_tell_from : PySem.W.findIn K (.ref C_Caller) "tell_from" = some none)
    (a_Caller___init__ : PySem.W.findIn K (.ref C_Caller) "__init__" = some (some (.ref f_Caller___init__)))
    (i_Caller___init__ : PySem.W.isFn K (.ref f_Caller___init__) = true)
    (l_Caller___init__ : K.lookup f_Caller___init__ = some ⟨oc_Caller___init__, od_Caller___init__, .func (PySem.W.fnOf "__init__" "Caller.__init__" (defArgs sInit) (defBody sInit) (defScope sInit) .none kV_Caller___init__ dc_Caller___init__ pm_Caller___init__ an_Caller___init__ cd_Caller___init__ ct_Caller___init__), sl_Caller___init__⟩)
    (c_Caller___init__ : PySem.W.codeIn K cd_Caller___init__ "Caller.__init__" = true)
    (q_Caller___init__ : PySem.W.keepIn K (.ref f_Caller___init__) = true)
    (a_Caller_called : PySem.W.findIn K (.ref C_Caller) "called" = some (some (.ref f_Caller_called)))
    (i_Caller_called : PySem.W.isFn K (.ref f_Caller_called) = true)
    (l_Caller_called : K.lookup f_Caller_called = some ⟨oc_Caller_called, od_Caller_called, .func (PySem.W.fnOf "called" "Caller.called" (defArgs sCalled) (defBody sCalled) (defScope sCalled) .none kV_Caller_called dc_Caller_called pm_Caller_called an_Caller_called cd_Caller_called ct_Caller_called), sl_Caller_called⟩)
    (c_Caller_called : PySem.W.codeIn K cd_Caller_called "Caller.called" = true)
    (q_Caller_called : PySem.W.keepIn K (.ref f_Caller_called) = true)
    (a_Caller_has_call : PySem.W.findIn K (.ref C_Caller) "has_call" = some (some (.ref f_Caller_has_call)))
    (i_Caller_has_call : PySem.W.isFn K (.ref f_Caller_has_call) = true)
    (l_Caller_has_call : K.lookup f_Caller_has_call = some ⟨oc_Caller_has_call, od_Caller_has_call, .func (PySem.W.fnOf "has_call" "Caller.has_call" (defArgs sHas) (defBody sHas) (defScope sHas) .none kV_Caller_has_call dc_Caller_has_call pm_Caller_has_call an_Caller_has_call cd_Caller_has_call ct_Caller_has_call), sl_Caller_has_call⟩)
    (c_Caller_has_call : PySem.W.codeIn K cd_Caller_has_call "Caller.has_call" = true)
    (q_Caller_has_call : PySem.W.keepIn K (.ref f_Caller_has_call) = true)
    (a_Caller_open_numbers : PySem.W.findIn K (.ref C_Caller) "open_numbers" = some (some (.ref f_Caller_open_numbers)))
    (i_Caller_open_numbers : PySem.W.isFn K (.ref f_Caller_open_numbers) = true)
    (l_Caller_open_numbers : K.lookup f_Caller_open_numbers = some ⟨oc_Caller_open_numbers, od_Caller_open_numbers, .func (PySem.W.fnOf "open_numbers" "Caller.open_numbers" (defArgs sOpens) (defBody sOpens) (defScope sOpens) .none kV_Caller_open_numbers dc_Caller_open_numbers pm_Caller_open_numbers an_Caller_open_numbers cd_Caller_open_numbers ct_Caller_open_numbers), sl_Caller_open_numbers⟩)
    (c_Caller_open_numbers : PySem.W.codeIn K cd_Caller_open_numbers "Caller.open_numbers" = true)
    (q_Caller_open_numbers : PySem.W.keepIn K (.ref f_Caller_open_numbers) = true)
    (a_Caller_first_open_from : PySem.W.findIn K (.ref C_Caller) "first_open_from" = some (some (.ref f_Caller_first_open_from)))
    (i_Caller_first_open_from : PySem.W.isFn K (.ref f_Caller_first_open_from) = true)
    (l_Caller_first_open_from : K.lookup f_Caller_first_open_from = some ⟨oc_Caller_first_open_from, od_Caller_first_open_from, .func (PySem.W.fnOf "first_open_from" "Caller.first_open_from" (defArgs sFirst) (defBody sFirst) (defScope sFirst) .none kV_Caller_first_open_from dc_Caller_first_open_from pm_Caller_first_open_from an_Caller_first_open_from cd_Caller_first_open_from ct_Caller_first_open_from), sl_Caller_first_open_from⟩)
    (c_Caller_first_open_from : PySem.W.codeIn K cd_Caller_first_open_from "Caller.first_open_from" = true)
    (q_Caller_first_open_from : PySem.W.keepIn K (.ref f_Caller_first_open_from) = true)
    (a_Caller_may_call : PySem.W.findIn K (.ref C_Caller) "may_call" = some (some (.ref f_Caller_may_call)))
    (i_Caller_may_call : PySem.W.isFn K (.ref f_Caller_may_call) = true)
    (l_Caller_may_call : K.lookup f_Caller_may_call = some ⟨oc_Caller_may_call, od_Caller_may_call, .func (PySem.W.fnOf "may_call" "Caller.may_call" (defArgs sMay) (defBody sMay) (defScope sMay) .none kV_Caller_may_call dc_Caller_may_call pm_Caller_may_call an_Caller_may_call cd_Caller_may_call ct_Caller_may_call), sl_Caller_may_call⟩)
    (c_Caller_may_call : PySem.W.codeIn K cd_Caller_may_call "Caller.may_call" = true)
    (q_Caller_may_call : PySem.W.keepIn K (.ref f_Caller_may_call) = true)
    (a_Caller_told_next : PySem.W.findIn K (.ref C_Caller) "told_next" = some (some (.ref f_Caller_told_next)))
    (i_Caller_told_next : PySem.W.isFn K (.ref f_Caller_told_next) = true)
    (l_Caller_told_next : K.lookup f_Caller_told_next = some ⟨oc_Caller_told_next, od_Caller_told_next, .func (PySem.W.fnOf "told_next" "Caller.told_next" (defArgs sNext) (defBody sNext) (defScope sNext) .none kV_Caller_told_next dc_Caller_told_next pm_Caller_told_next an_Caller_told_next cd_Caller_told_next ct_Caller_told_next), sl_Caller_told_next⟩)
    (c_Caller_told_next : PySem.W.codeIn K cd_Caller_told_next "Caller.told_next" = true)
    (q_Caller_told_next : PySem.W.keepIn K (.ref f_Caller_told_next) = true)
    (a_Shore : PySem.W.nsIn K mainGlobals "Shore" = some (some (.ref C_Shore)))
    (pg_Shore : PySem.W.plainGet K C_Shore Str.empty = true)
    (hd_Shore : PySem.W.hasDictIn K C_Shore = true)
    (po_Shore : PySem.W.plainOver K C_Shore = true)
    (sa_Shore : PySem.W.findIn K (.ref C_Shore) "__setattr__" = some (some (.builtin "object.__setattr__")))
    (mk_Shore : PySem.W.makesIn K C_Shore = true)
    (kc_Shore : PySem.W.keepIn K (.ref C_Shore) = true)
    (n_Shore_order : PySem.W.findIn K (.ref C_Shore) "order" = some none)
    (n_Shore_kept : PySem.W.findIn K (.ref C_Shore) "kept" = some none)
    (n_Shore_again : PySem.W.findIn K (.ref C_Shore) "again" = some none)
    (a_Shore___init__ : PySem.W.findIn K (.ref C_Shore) "__init__" = some (some (.ref f_Shore___init__)))
    (i_Shore___init__ : PySem.W.isFn K (.ref f_Shore___init__) = true)
    (l_Shore___init__ : K.lookup f_Shore___init__ = some ⟨oc_Shore___init__, od_Shore___init__, .func (PySem.W.fnOf "__init__" "Shore.__init__" (defArgs sInitS) (defBody sInitS) (defScope sInitS) .none kV_Shore___init__ dc_Shore___init__ pm_Shore___init__ an_Shore___init__ cd_Shore___init__ ct_Shore___init__), sl_Shore___init__⟩)
    (c_Shore___init__ : PySem.W.codeIn K cd_Shore___init__ "Shore.__init__" = true)
    (q_Shore___init__ : PySem.W.keepIn K (.ref f_Shore___init__) = true)
    (a_Shore_how_many : PySem.W.findIn K (.ref C_Shore) "how_many" = some (some (.ref f_Shore_how_many)))
    (i_Shore_how_many : PySem.W.isFn K (.ref f_Shore_how_many) = true)
    (l_Shore_how_many : K.lookup f_Shore_how_many = some ⟨oc_Shore_how_many, od_Shore_how_many, .func (PySem.W.fnOf "how_many" "Shore.how_many" (defArgs sHow) (defBody sHow) (defScope sHow) .none kV_Shore_how_many dc_Shore_how_many pm_Shore_how_many an_Shore_how_many cd_Shore_how_many ct_Shore_how_many), sl_Shore_how_many⟩)
    (c_Shore_how_many : PySem.W.codeIn K cd_Shore_how_many "Shore.how_many" = true)
    (q_Shore_how_many : PySem.W.keepIn K (.ref f_Shore_how_many) = true)
    (a_Shore_keeps : PySem.W.findIn K (.ref C_Shore) "keeps" = some (some (.ref f_Shore_keeps)))
    (i_Shore_keeps : PySem.W.isFn K (.ref f_Shore_keeps) = true)
    (l_Shore_keeps : K.lookup f_Shore_keeps = some ⟨oc_Shore_keeps, od_Shore_keeps, .func (PySem.W.fnOf "keeps" "Shore.keeps" (defArgs sKeeps) (defBody sKeeps) (defScope sKeeps) .none kV_Shore_keeps dc_Shore_keeps pm_Shore_keeps an_Shore_keeps cd_Shore_keeps ct_Shore_keeps), sl_Shore_keeps⟩)
    (c_Shore_keeps : PySem.W.codeIn K cd_Shore_keeps "Shore.keeps" = true)
    (q_Shore_keeps : PySem.W.keepIn K (.ref f_Shore_keeps) = true)
    (a_Shore_first_gap : PySem.W.findIn K (.ref C_Shore) "first_gap" = some (some (.ref f_Shore_first_gap)))
    (i_Shore_first_gap : PySem.W.isFn K (.ref f_Shore_first_gap) = true)
    (l_Shore_first_gap : K.lookup f_Shore_first_gap = some ⟨oc_Shore_first_gap, od_Shore_first_gap, .func (PySem.W.fnOf "first_gap" "Shore.first_gap" (defArgs sGap) (defBody sGap) (defScope sGap) .none kV_Shore_first_gap dc_Shore_first_gap pm_Shore_first_gap an_Shore_first_gap cd_Shore_first_gap ct_Shore_first_gap), sl_Shore_first_gap⟩)
    (c_Shore_first_gap : PySem.W.codeIn K cd_Shore_first_gap "Shore.first_gap" = true)
    (q_Shore_first_gap : PySem.W.keepIn K (.ref f_Shore_first_gap) = true)
    (a_Shore_numbers_kept : PySem.W.findIn K (.ref C_Shore) "numbers_kept" = some (some (.ref f_Shore_numbers_kept)))
    (i_Shore_numbers_kept : PySem.W.isFn K (.ref f_Shore_numbers_kept) = true)
    (l_Shore_numbers_kept : K.lookup f_Shore_numbers_kept = some ⟨oc_Shore_numbers_kept, od_Shore_numbers_kept, .func (PySem.W.fnOf "numbers_kept" "Shore.numbers_kept" (defArgs sKept) (defBody sKept) (defScope sKept) .none kV_Shore_numbers_kept dc_Shore_numbers_kept pm_Shore_numbers_kept an_Shore_numbers_kept cd_Shore_numbers_kept ct_Shore_numbers_kept), sl_Shore_numbers_kept⟩)
    (c_Shore_numbers_kept : PySem.W.codeIn K cd_Shore_numbers_kept "Shore.numbers_kept" = true)
    (q_Shore_numbers_kept : PySem.W.keepIn K (.ref f_Shore_numbers_kept) = true)
    (a_Shore_numbers_missing : PySem.W.findIn K (.ref C_Shore) "numbers_missing" = some (some (.ref f_Shore_numbers_missing)))
    (i_Shore_numbers_missing : PySem.W.isFn K (.ref f_Shore_numbers_missing) = true)
    (l_Shore_numbers_missing : K.lookup f_Shore_numbers_missing = some ⟨oc_Shore_numbers_missing, od_Shore_numbers_missing, .func (PySem.W.fnOf "numbers_missing" "Shore.numbers_missing" (defArgs sMissing) (defBody sMissing) (defScope sMissing) .none kV_Shore_numbers_missing dc_Shore_numbers_missing pm_Shore_numbers_missing an_Shore_numbers_missing cd_Shore_numbers_missing ct_Shore_numbers_missing), sl_Shore_numbers_missing⟩)
    (c_Shore_numbers_missing : PySem.W.codeIn K cd_Shore_numbers_missing "Shore.numbers_missing" = true)
    (q_Shore_numbers_missing : PySem.W.keepIn K (.ref f_Shore_numbers_missing) = true)
    (a_refused : PySem.W.nsIn K mainGlobals "refused" = some (some (.ref f_refused)))
    (l_refused : K.lookup f_refused = some ⟨oc_refused, od_refused, .func (PySem.W.fnOf "refused" "refused" (defArgs sRefused) (defBody sRefused) (defScope sRefused) .none kV_refused dc_refused pm_refused an_refused cd_refused ct_refused), sl_refused⟩)
    (c_refused : PySem.W.codeIn K cd_refused "refused" = true)
    (q_refused : PySem.W.keepIn K (.ref f_refused) = true)
    (a_as_bits : PySem.W.nsIn K mainGlobals "as_bits" = some (some (.ref f_as_bits)))
    (l_as_bits : K.lookup f_as_bits = some ⟨oc_as_bits, od_as_bits, .func (PySem.W.fnOf "as_bits" "as_bits" (defArgs sBits) (defBody sBits) (defScope sBits) .none kV_as_bits dc_as_bits pm_as_bits an_as_bits cd_as_bits ct_as_bits), sl_as_bits⟩)
    (c_as_bits : PySem.W.codeIn K cd_as_bits "as_bits" = true)
    (q_as_bits : PySem.W.keepIn K (.ref f_as_bits) = true)
    (a_in_range : PySem.W.nsIn K mainGlobals "in_range" = some (some (.ref f_in_range)))
    (l_in_range : K.lookup f_in_range = some ⟨oc_in_range, od_in_range, .func (PySem.W.fnOf "in_range" "in_range" (defArgs sRange) (defBody sRange) (defScope sRange) .none kV_in_range dc_in_range pm_in_range an_in_range cd_in_range ct_in_range), sl_in_range⟩)
    (c_in_range : PySem.W.codeIn K cd_in_range "in_range" = true)
    (q_in_range : PySem.W.keepIn K (.ref f_in_range) = true)
    (a_is_call : PySem.W.nsIn K mainGlobals "is_call" = some (some (.ref f_is_call)))
    (l_is_call : K.lookup f_is_call = some ⟨oc_is_call, od_is_call, .func (PySem.W.fnOf "is_call" "is_call" (defArgs sIsCall) (defBody sIsCall) (defScope sIsCall) .none kV_is_call dc_is_call pm_is_call an_is_call cd_is_call ct_is_call), sl_is_call⟩)
    (c_is_call : PySem.W.codeIn K cd_is_call "is_call" = true)
    (q_is_call : PySem.W.keepIn K (.ref f_is_call) = true)
    (a_numbers_told : PySem.W.nsIn K mainGlobals "numbers_told" = some (some (.ref f_numbers_told)))
    (l_numbers_told : K.lookup f_numbers_told = some ⟨oc_numbers_told, od_numbers_told, .func (PySem.W.fnOf "numbers_told" "numbers_told" (defArgs sTold) (defBody sTold) (defScope sTold) .none kV_numbers_told dc_numbers_told pm_numbers_told an_numbers_told cd_numbers_told ct_numbers_told), sl_numbers_told⟩)
    (c_numbers_told : PySem.W.codeIn K cd_numbers_told "numbers_told" = true)
    (q_numbers_told : PySem.W.keepIn K (.ref f_numbers_told) = true)
    (a_is_good : PySem.W.nsIn K mainGlobals "is_good" = some (some (.ref f_is_good)))
    (l_is_good : K.lookup f_is_good = some ⟨oc_is_good, od_is_good, .func (PySem.W.fnOf "is_good" "is_good" (defArgs sGood) (defBody sGood) (defScope sGood) .none kV_is_good dc_is_good pm_is_good an_is_good cd_is_good ct_is_good), sl_is_good⟩)
    (c_is_good : PySem.W.codeIn K cd_is_good "is_good" = true)
    (q_is_good : PySem.W.keepIn K (.ref f_is_good) = true)
    (a_newly_known : PySem.W.nsIn K mainGlobals "newly_known" = some (some (.ref f_newly_known)))
    (l_newly_known : K.lookup f_newly_known = some ⟨oc_newly_known, od_newly_known, .func (PySem.W.fnOf "newly_known" "newly_known" (defArgs sNewly) (defBody sNewly) (defScope sNewly) .none kV_newly_known dc_newly_known pm_newly_known an_newly_known cd_newly_known ct_newly_known), sl_newly_known⟩)
    (c_newly_known : PySem.W.codeIn K cd_newly_known "newly_known" = true)
    (q_newly_known : PySem.W.keepIn K (.ref f_newly_known) = true)
    (a_ca_start : PySem.W.nsIn K mainGlobals "ca_start" = some (some (.ref f_ca_start)))
    (l_ca_start : K.lookup f_ca_start = some ⟨oc_ca_start, od_ca_start, .func (PySem.W.fnOf "ca_start" "ca_start" (defArgs sStart) (defBody sStart) (defScope sStart) .none kV_ca_start dc_ca_start pm_ca_start an_ca_start cd_ca_start ct_ca_start), sl_ca_start⟩)
    (c_ca_start : PySem.W.codeIn K cd_ca_start "ca_start" = true)
    (q_ca_start : PySem.W.keepIn K (.ref f_ca_start) = true)
    (a_ca_say : PySem.W.nsIn K mainGlobals "ca_say" = some (some (.ref f_ca_say)))
    (l_ca_say : K.lookup f_ca_say = some ⟨oc_ca_say, od_ca_say, .func (PySem.W.fnOf "ca_say" "ca_say" (defArgs sSay) (defBody sSay) (defScope sSay) .none kV_ca_say dc_ca_say pm_ca_say an_ca_say cd_ca_say ct_ca_say), sl_ca_say⟩)
    (c_ca_say : PySem.W.codeIn K cd_ca_say "ca_say" = true)
    (q_ca_say : PySem.W.keepIn K (.ref f_ca_say) = true)
    (a_ca_tell : PySem.W.nsIn K mainGlobals "ca_tell" = some (some (.ref f_ca_tell)))
    (l_ca_tell : K.lookup f_ca_tell = some ⟨oc_ca_tell, od_ca_tell, .func (PySem.W.fnOf "ca_tell" "ca_tell" (defArgs sTell) (defBody sTell) (defScope sTell) .none kV_ca_tell dc_ca_tell pm_ca_tell an_ca_tell cd_ca_tell ct_ca_tell), sl_ca_tell⟩)
    (c_ca_tell : PySem.W.codeIn K cd_ca_tell "ca_tell" = true)
    (q_ca_tell : PySem.W.keepIn K (.ref f_ca_tell) = true)
    (a_ca_hear : PySem.W.nsIn K mainGlobals "ca_hear" = some (some (.ref f_ca_hear)))
    (l_ca_hear : K.lookup f_ca_hear = some ⟨oc_ca_hear, od_ca_hear, .func (PySem.W.fnOf "ca_hear" "ca_hear" (defArgs sHear) (defBody sHear) (defScope sHear) .none kV_ca_hear dc_ca_hear pm_ca_hear an_ca_hear cd_ca_hear ct_ca_hear), sl_ca_hear⟩)
    (c_ca_hear : PySem.W.codeIn K cd_ca_hear "ca_hear" = true)
    (q_ca_hear : PySem.W.keepIn K (.ref f_ca_hear) = true)
    (a_ca_known : PySem.W.nsIn K mainGlobals "ca_known" = some (some (.ref f_ca_known)))
    (l_ca_known : K.lookup f_ca_known = some ⟨oc_ca_known, od_ca_known, .func (PySem.W.fnOf "ca_known" "ca_known" (defArgs sKnown) (defBody sKnown) (defScope sKnown) .none kV_ca_known dc_ca_known pm_ca_known an_ca_known cd_ca_known ct_ca_known), sl_ca_known⟩)
    (c_ca_known : PySem.W.codeIn K cd_ca_known "ca_known" = true)
    (q_ca_known : PySem.W.keepIn K (.ref f_ca_known) = true)
    (a_ca_open : PySem.W.nsIn K mainGlobals "ca_open" = some (some (.ref f_ca_open)))
    (l_ca_open : K.lookup f_ca_open = some ⟨oc_ca_open, od_ca_open, .func (PySem.W.fnOf "ca_open" "ca_open" (defArgs sOpen) (defBody sOpen) (defScope sOpen) .none kV_ca_open dc_ca_open pm_ca_open an_ca_open cd_ca_open ct_ca_open), sl_ca_open⟩)
    (c_ca_open : PySem.W.codeIn K cd_ca_open "ca_open" = true)
    (q_ca_open : PySem.W.keepIn K (.ref f_ca_open) = true)
    (a_ca_said : PySem.W.nsIn K mainGlobals "ca_said" = some (some (.ref f_ca_said)))
    (l_ca_said : K.lookup f_ca_said = some ⟨oc_ca_said, od_ca_said, .func (PySem.W.fnOf "ca_said" "ca_said" (defArgs sSaid) (defBody sSaid) (defScope sSaid) .none kV_ca_said dc_ca_said pm_ca_said an_ca_said cd_ca_said ct_ca_said), sl_ca_said⟩)
    (c_ca_said : PySem.W.codeIn K cd_ca_said "ca_said" = true)
    (q_ca_said : PySem.W.keepIn K (.ref f_ca_said) = true)
    (a_ca_would : PySem.W.nsIn K mainGlobals "ca_would" = some (some (.ref f_ca_would)))
    (l_ca_would : K.lookup f_ca_would = some ⟨oc_ca_would, od_ca_would, .func (PySem.W.fnOf "ca_would" "ca_would" (defArgs sWould) (defBody sWould) (defScope sWould) .none kV_ca_would dc_ca_would pm_ca_would an_ca_would cd_ca_would ct_ca_would), sl_ca_would⟩)
    (c_ca_would : PySem.W.codeIn K cd_ca_would "ca_would" = true)
    (q_ca_would : PySem.W.keepIn K (.ref f_ca_would) = true)
    (a_ca_state : PySem.W.nsIn K mainGlobals "ca_state" = some (some (.ref f_ca_state)))
    (l_ca_state : K.lookup f_ca_state = some ⟨oc_ca_state, od_ca_state, .func (PySem.W.fnOf "ca_state" "ca_state" (defArgs sState) (defBody sState) (defScope sState) .none kV_ca_state dc_ca_state pm_ca_state an_ca_state cd_ca_state ct_ca_state), sl_ca_state⟩)
    (c_ca_state : PySem.W.codeIn K cd_ca_state "ca_state" = true)
    (q_ca_state : PySem.W.keepIn K (.ref f_ca_state) = true)
    (a_sh_start : PySem.W.nsIn K mainGlobals "sh_start" = some (some (.ref f_sh_start)))
    (l_sh_start : K.lookup f_sh_start = some ⟨oc_sh_start, od_sh_start, .func (PySem.W.fnOf "sh_start" "sh_start" (defArgs sStartS) (defBody sStartS) (defScope sStartS) .none kV_sh_start dc_sh_start pm_sh_start an_sh_start cd_sh_start ct_sh_start), sl_sh_start⟩)
    (c_sh_start : PySem.W.codeIn K cd_sh_start "sh_start" = true)
    (q_sh_start : PySem.W.keepIn K (.ref f_sh_start) = true)
    (a_sh_hear : PySem.W.nsIn K mainGlobals "sh_hear" = some (some (.ref f_sh_hear)))
    (l_sh_hear : K.lookup f_sh_hear = some ⟨oc_sh_hear, od_sh_hear, .func (PySem.W.fnOf "sh_hear" "sh_hear" (defArgs sHearS) (defBody sHearS) (defScope sHearS) .none kV_sh_hear dc_sh_hear pm_sh_hear an_sh_hear cd_sh_hear ct_sh_hear), sl_sh_hear⟩)
    (c_sh_hear : PySem.W.codeIn K cd_sh_hear "sh_hear" = true)
    (q_sh_hear : PySem.W.keepIn K (.ref f_sh_hear) = true)
    (a_sh_answer : PySem.W.nsIn K mainGlobals "sh_answer" = some (some (.ref f_sh_answer)))
    (l_sh_answer : K.lookup f_sh_answer = some ⟨oc_sh_answer, od_sh_answer, .func (PySem.W.fnOf "sh_answer" "sh_answer" (defArgs sAnswerS) (defBody sAnswerS) (defScope sAnswerS) .none kV_sh_answer dc_sh_answer pm_sh_answer an_sh_answer cd_sh_answer ct_sh_answer), sl_sh_answer⟩)
    (c_sh_answer : PySem.W.codeIn K cd_sh_answer "sh_answer" = true)
    (q_sh_answer : PySem.W.keepIn K (.ref f_sh_answer) = true)
    (a_sh_get : PySem.W.nsIn K mainGlobals "sh_get" = some (some (.ref f_sh_get)))
    (l_sh_get : K.lookup f_sh_get = some ⟨oc_sh_get, od_sh_get, .func (PySem.W.fnOf "sh_get" "sh_get" (defArgs sGetS) (defBody sGetS) (defScope sGetS) .none kV_sh_get dc_sh_get pm_sh_get an_sh_get cd_sh_get ct_sh_get), sl_sh_get⟩)
    (c_sh_get : PySem.W.codeIn K cd_sh_get "sh_get" = true)
    (q_sh_get : PySem.W.keepIn K (.ref f_sh_get) = true)
    (a_sh_find : PySem.W.nsIn K mainGlobals "sh_find" = some (some (.ref f_sh_find)))
    (l_sh_find : K.lookup f_sh_find = some ⟨oc_sh_find, od_sh_find, .func (PySem.W.fnOf "sh_find" "sh_find" (defArgs sFindS) (defBody sFindS) (defScope sFindS) .none kV_sh_find dc_sh_find pm_sh_find an_sh_find cd_sh_find ct_sh_find), sl_sh_find⟩)
    (c_sh_find : PySem.W.codeIn K cd_sh_find "sh_find" = true)
    (q_sh_find : PySem.W.keepIn K (.ref f_sh_find) = true)
    (a_sh_of : PySem.W.nsIn K mainGlobals "sh_of" = some (some (.ref f_sh_of)))
    (l_sh_of : K.lookup f_sh_of = some ⟨oc_sh_of, od_sh_of, .func (PySem.W.fnOf "sh_of" "sh_of" (defArgs sOfS) (defBody sOfS) (defScope sOfS) .none kV_sh_of dc_sh_of pm_sh_of an_sh_of cd_sh_of ct_sh_of), sl_sh_of⟩)
    (c_sh_of : PySem.W.codeIn K cd_sh_of "sh_of" = true)
    (q_sh_of : PySem.W.keepIn K (.ref f_sh_of) = true)
    (a_sh_gaps : PySem.W.nsIn K mainGlobals "sh_gaps" = some (some (.ref f_sh_gaps)))
    (l_sh_gaps : K.lookup f_sh_gaps = some ⟨oc_sh_gaps, od_sh_gaps, .func (PySem.W.fnOf "sh_gaps" "sh_gaps" (defArgs sGapsS) (defBody sGapsS) (defScope sGapsS) .none kV_sh_gaps dc_sh_gaps pm_sh_gaps an_sh_gaps cd_sh_gaps ct_sh_gaps), sl_sh_gaps⟩)
    (c_sh_gaps : PySem.W.codeIn K cd_sh_gaps "sh_gaps" = true)
    (q_sh_gaps : PySem.W.keepIn K (.ref f_sh_gaps) = true)
    (a_sh_state : PySem.W.nsIn K mainGlobals "sh_state" = some (some (.ref f_sh_state)))
    (l_sh_state : K.lookup f_sh_state = some ⟨oc_sh_state, od_sh_state, .func (PySem.W.fnOf "sh_state" "sh_state" (defArgs sStateS) (defBody sStateS) (defScope sStateS) .none kV_sh_state dc_sh_state pm_sh_state an_sh_state cd_sh_state ct_sh_state), sl_sh_state⟩)
    (c_sh_state : PySem.W.codeIn K cd_sh_state "sh_state" = true)
    (q_sh_state : PySem.W.keepIn K (.ref f_sh_state) = true)
    (a_caller_answer : PySem.W.nsIn K mainGlobals "caller_answer" = some (some (.ref f_caller_answer)))
    (l_caller_answer : K.lookup f_caller_answer = some ⟨oc_caller_answer, od_caller_answer, .func (PySem.W.fnOf "caller_answer" "caller_answer" (defArgs sCaller) (defBody sCaller) (defScope sCaller) .none kV_caller_answer dc_caller_answer pm_caller_answer an_caller_answer cd_caller_answer ct_caller_answer), sl_caller_answer⟩)
    (c_caller_answer : PySem.W.codeIn K cd_caller_answer "caller_answer" = true)
    (q_caller_answer : PySem.W.keepIn K (.ref f_caller_answer) = true)
    (a_shore_answer : PySem.W.nsIn K mainGlobals "shore_answer" = some (some (.ref f_shore_answer)))
    (l_shore_answer : K.lookup f_shore_answer = some ⟨oc_shore_answer, od_shore_answer, .func (PySem.W.fnOf "shore_answer" "shore_answer" (defArgs sShore) (defBody sShore) (defScope sShore) .none kV_shore_answer dc_shore_answer pm_shore_answer an_shore_answer cd_shore_answer ct_shore_answer), sl_shore_answer⟩)
    (c_shore_answer : PySem.W.codeIn K cd_shore_answer "shore_answer" = true)
    (q_shore_answer : PySem.W.keepIn K (.ref f_shore_answer) = true)
    (a_one_answer : PySem.W.nsIn K mainGlobals "one_answer" = some (some (.ref f_one_answer)))
    (l_one_answer : K.lookup f_one_answer = some ⟨oc_one_answer, od_one_answer, .func (PySem.W.fnOf "one_answer" "one_answer" (defArgs sOne) (defBody sOne) (defScope sOne) .none kV_one_answer dc_one_answer pm_one_answer an_one_answer cd_one_answer ct_one_answer), sl_one_answer⟩)
    (c_one_answer : PySem.W.codeIn K cd_one_answer "one_answer" = true)
    (q_one_answer : PySem.W.keepIn K (.ref f_one_answer) = true)
    (a_answers : PySem.W.nsIn K mainGlobals "answers" = some (some (.ref f_answers)))
    (l_answers : K.lookup f_answers = some ⟨oc_answers, od_answers, .func (PySem.W.fnOf "answers" "answers" (defArgs sAnswers) (defBody sAnswers) (defScope sAnswers) .none kV_answers dc_answers pm_answers an_answers cd_answers ct_answers), sl_answers⟩)
    (c_answers : PySem.W.codeIn K cd_answers "answers" = true)
    (q_answers : PySem.W.keepIn K (.ref f_answers) = true) :
    ∃ fd : FuncData, (∀ (s : Shared) (us : List Value), us.length = (["calls"] : List Str).length → BindsTo s fd ⟨us, []⟩ ((["calls"] : List Str).zip us)) ∧ ∀ base : Heap, K.In base → base.Ns mainGlobals mg → FnOk P w K mg base CX0 7 fa fd ["calls"] (spAns K) := by
  have e := hfa.symm.trans (PySem.W.mg_of X G a_answers)
  cases e
  have F_Caller___init__ := fun_mk (st := sInit) l_Caller___init__ c_Caller___init__ q_Caller___init__
  have b_Caller___init__ := F_Caller___init__.binds (ps := ["self", "me"]) fun _ _ _ _ _ _ us hl => match us, hl with | [_, _], _ => rfl
  have F_Caller_called := fun_mk (st := sCalled) l_Caller_called c_Caller_called q_Caller_called
  have b_Caller_called := F_Caller_called.binds (ps := ["self"]) fun _ _ _ _ _ _ us hl => match us, hl with | [_], _ => rfl
  have F_Caller_has_call := fun_mk (st := sHas) l_Caller_has_call c_Caller_has_call q_Caller_has_call
  have b_Caller_has_call := F_Caller_has_call.binds (ps := ["self", "number"]) fun _ _ _ _ _ _ us hl => match us, hl with | [_, _], _ => rfl
  have F_Caller_open_numbers := fun_mk (st := sOpens) l_Caller_open_numbers c_Caller_open_numbers q_Caller_open_numbers
  have b_Caller_open_numbers := F_Caller_open_numbers.binds (ps := ["self"]) fun _ _ _ _ _ _ us hl => match us, hl with | [_], _ => rfl
  have F_Caller_first_open_from := fun_mk (st := sFirst) l_Caller_first_open_from c_Caller_first_open_from q_Caller_first_open_from
  have b_Caller_first_open_from := F_Caller_first_open_from.binds (ps := ["self", "start"]) fun _ _ _ _ _ _ us hl => match us, hl with | [_, _], _ => rfl
  have F_Caller_may_call := fun_mk (st := sMay) l_Caller_may_call c_Caller_may_call q_Caller_may_call
  have b_Caller_may_call := F_Caller_may_call.binds (ps := ["self"]) fun _ _ _ _ _ _ us hl => match us, hl with | [_], _ => rfl
  have F_Caller_told_next := fun_mk (st := sNext) l_Caller_told_next c_Caller_told_next q_Caller_told_next
  have b_Caller_told_next := F_Caller_told_next.binds (ps := ["self"]) fun _ _ _ _ _ _ us hl => match us, hl with | [_], _ => rfl
  have F_Shore___init__ := fun_mk (st := sInitS) l_Shore___init__ c_Shore___init__ q_Shore___init__
  have b_Shore___init__ := F_Shore___init__.binds (ps := ["self"]) fun _ _ _ _ _ _ us hl => match us, hl with | [_], _ => rfl
  have F_Shore_how_many := fun_mk (st := sHow) l_Shore_how_many c_Shore_how_many q_Shore_how_many
  have b_Shore_how_many := F_Shore_how_many.binds (ps := ["self"]) fun _ _ _ _ _ _ us hl => match us, hl with | [_], _ => rfl
  have F_Shore_keeps := fun_mk (st := sKeeps) l_Shore_keeps c_Shore_keeps q_Shore_keeps
  have b_Shore_keeps := F_Shore_keeps.binds (ps := ["self", "k", "number"]) fun _ _ _ _ _ _ us hl => match us, hl with | [_, _, _], _ => rfl
  have F_Shore_first_gap := fun_mk (st := sGap) l_Shore_first_gap c_Shore_first_gap q_Shore_first_gap
  have b_Shore_first_gap := F_Shore_first_gap.binds (ps := ["self", "k"]) fun _ _ _ _ _ _ us hl => match us, hl with | [_, _], _ => rfl
  have F_Shore_numbers_kept := fun_mk (st := sKept) l_Shore_numbers_kept c_Shore_numbers_kept q_Shore_numbers_kept
  have b_Shore_numbers_kept := F_Shore_numbers_kept.binds (ps := ["self", "k"]) fun _ _ _ _ _ _ us hl => match us, hl with | [_, _], _ => rfl
  have F_Shore_numbers_missing := fun_mk (st := sMissing) l_Shore_numbers_missing c_Shore_numbers_missing q_Shore_numbers_missing
  have b_Shore_numbers_missing := F_Shore_numbers_missing.binds (ps := ["self", "k"]) fun _ _ _ _ _ _ us hl => match us, hl with | [_, _], _ => rfl
  have F_refused := fun_mk (st := sRefused) l_refused c_refused q_refused
  have b_refused := F_refused.binds (ps := ["refusal"]) fun _ _ _ _ _ _ us hl => match us, hl with | [_], _ => rfl
  have g_refused := PySem.W.mg_of X G a_refused
  have F_as_bits := fun_mk (st := sBits) l_as_bits c_as_bits q_as_bits
  have b_as_bits := F_as_bits.binds (ps := ["numbers"]) fun _ _ _ _ _ _ us hl => match us, hl with | [_], _ => rfl
  have g_as_bits := PySem.W.mg_of X G a_as_bits
  have F_in_range := fun_mk (st := sRange) l_in_range c_in_range q_in_range
  have b_in_range := F_in_range.binds (ps := ["kind", "x", "y"]) fun _ _ _ _ _ _ us hl => match us, hl with | [_, _, _], _ => rfl
  have g_in_range := PySem.W.mg_of X G a_in_range
  have F_is_call := fun_mk (st := sIsCall) l_is_call c_is_call q_is_call
  have b_is_call := F_is_call.binds (ps := ["message"]) fun _ _ _ _ _ _ us hl => match us, hl with | [_], _ => rfl
  have g_is_call := PySem.W.mg_of X G a_is_call
  have F_numbers_told := fun_mk (st := sTold) l_numbers_told c_numbers_told q_numbers_told
  have b_numbers_told := F_numbers_told.binds (ps := ["message"]) fun _ _ _ _ _ _ us hl => match us, hl with | [_], _ => rfl
  have g_numbers_told := PySem.W.mg_of X G a_numbers_told
  have F_is_good := fun_mk (st := sGood) l_is_good c_is_good q_is_good
  have b_is_good := F_is_good.binds (ps := ["caller", "message"]) fun _ _ _ _ _ _ us hl => match us, hl with | [_, _], _ => rfl
  have g_is_good := PySem.W.mg_of X G a_is_good
  have F_newly_known := fun_mk (st := sNewly) l_newly_known c_newly_known q_newly_known
  have b_newly_known := F_newly_known.binds (ps := ["caller", "message"]) fun _ _ _ _ _ _ us hl => match us, hl with | [_, _], _ => rfl
  have g_newly_known := PySem.W.mg_of X G a_newly_known
  have F_ca_start := fun_mk (st := sStart) l_ca_start c_ca_start q_ca_start
  have b_ca_start := F_ca_start.binds (ps := ["callers", "place", "me"]) fun _ _ _ _ _ _ us hl => match us, hl with | [_, _, _], _ => rfl
  have g_ca_start := PySem.W.mg_of X G a_ca_start
  have F_ca_say := fun_mk (st := sSay) l_ca_say c_ca_say q_ca_say
  have b_ca_say := F_ca_say.binds (ps := ["caller", "kind", "x", "y"]) fun _ _ _ _ _ _ us hl => match us, hl with | [_, _, _, _], _ => rfl
  have g_ca_say := PySem.W.mg_of X G a_ca_say
  have F_ca_tell := fun_mk (st := sTell) l_ca_tell c_ca_tell q_ca_tell
  have b_ca_tell := F_ca_tell.binds (ps := ["caller"]) fun _ _ _ _ _ _ us hl => match us, hl with | [_], _ => rfl
  have g_ca_tell := PySem.W.mg_of X G a_ca_tell
  have F_ca_hear := fun_mk (st := sHear) l_ca_hear c_ca_hear q_ca_hear
  have b_ca_hear := F_ca_hear.binds (ps := ["caller", "message"]) fun _ _ _ _ _ _ us hl => match us, hl with | [_, _], _ => rfl
  have g_ca_hear := PySem.W.mg_of X G a_ca_hear
  have F_ca_known := fun_mk (st := sKnown) l_ca_known c_ca_known q_ca_known
  have b_ca_known := F_ca_known.binds (ps := ["caller", "i"]) fun _ _ _ _ _ _ us hl => match us, hl with | [_, _], _ => rfl
  have g_ca_known := PySem.W.mg_of X G a_ca_known
  have F_ca_open := fun_mk (st := sOpen) l_ca_open c_ca_open q_ca_open
  have b_ca_open := F_ca_open.binds (ps := ["caller"]) fun _ _ _ _ _ _ us hl => match us, hl with | [_], _ => rfl
  have g_ca_open := PySem.W.mg_of X G a_ca_open
  have F_ca_said := fun_mk (st := sSaid) l_ca_said c_ca_said q_ca_said
  have b_ca_said := F_ca_said.binds (ps := ["caller", "i"]) fun _ _ _ _ _ _ us hl => match us, hl with | [_, _], _ => rfl
  have g_ca_said := PySem.W.mg_of X G a_ca_said
  have F_ca_would := fun_mk (st := sWould) l_ca_would c_ca_would q_ca_would
  have b_ca_would := F_ca_would.binds (ps := ["caller", "message"]) fun _ _ _ _ _ _ us hl => match us, hl with | [_, _], _ => rfl
  have g_ca_would := PySem.W.mg_of X G a_ca_would
  have F_ca_state := fun_mk (st := sState) l_ca_state c_ca_state q_ca_state
  have b_ca_state := F_ca_state.binds (ps := ["caller"]) fun _ _ _ _ _ _ us hl => match us, hl with | [_], _ => rfl
  have g_ca_state := PySem.W.mg_of X G a_ca_state
  have F_sh_start := fun_mk (st := sStartS) l_sh_start c_sh_start q_sh_start
  have b_sh_start := F_sh_start.binds (ps := ["shores", "place"]) fun _ _ _ _ _ _ us hl => match us, hl with | [_, _], _ => rfl
  have g_sh_start := PySem.W.mg_of X G a_sh_start
  have F_sh_hear := fun_mk (st := sHearS) l_sh_hear c_sh_hear q_sh_hear
  have b_sh_hear := F_sh_hear.binds (ps := ["shore", "message"]) fun _ _ _ _ _ _ us hl => match us, hl with | [_, _], _ => rfl
  have g_sh_hear := PySem.W.mg_of X G a_sh_hear
  have F_sh_answer := fun_mk (st := sAnswerS) l_sh_answer c_sh_answer q_sh_answer
  have b_sh_answer := F_sh_answer.binds (ps := ["shore", "k"]) fun _ _ _ _ _ _ us hl => match us, hl with | [_, _], _ => rfl
  have g_sh_answer := PySem.W.mg_of X G a_sh_answer
  have F_sh_get := fun_mk (st := sGetS) l_sh_get c_sh_get q_sh_get
  have b_sh_get := F_sh_get.binds (ps := ["shore", "i"]) fun _ _ _ _ _ _ us hl => match us, hl with | [_, _], _ => rfl
  have g_sh_get := PySem.W.mg_of X G a_sh_get
  have F_sh_find := fun_mk (st := sFindS) l_sh_find c_sh_find q_sh_find
  have b_sh_find := F_sh_find.binds (ps := ["shore", "k", "i"]) fun _ _ _ _ _ _ us hl => match us, hl with | [_, _, _], _ => rfl
  have g_sh_find := PySem.W.mg_of X G a_sh_find
  have F_sh_of := fun_mk (st := sOfS) l_sh_of c_sh_of q_sh_of
  have b_sh_of := F_sh_of.binds (ps := ["shore", "k"]) fun _ _ _ _ _ _ us hl => match us, hl with | [_, _], _ => rfl
  have g_sh_of := PySem.W.mg_of X G a_sh_of
  have F_sh_gaps := fun_mk (st := sGapsS) l_sh_gaps c_sh_gaps q_sh_gaps
  have b_sh_gaps := F_sh_gaps.binds (ps := ["shore", "k"]) fun _ _ _ _ _ _ us hl => match us, hl with | [_, _], _ => rfl
  have g_sh_gaps := PySem.W.mg_of X G a_sh_gaps
  have F_sh_state := fun_mk (st := sStateS) l_sh_state c_sh_state q_sh_state
  have b_sh_state := F_sh_state.binds (ps := ["shore"]) fun _ _ _ _ _ _ us hl => match us, hl with | [_], _ => rfl
  have g_sh_state := PySem.W.mg_of X G a_sh_state
  have F_caller_answer := fun_mk (st := sCaller) l_caller_answer c_caller_answer q_caller_answer
  have b_caller_answer := F_caller_answer.binds (ps := ["callers", "call"]) fun _ _ _ _ _ _ us hl => match us, hl with | [_, _], _ => rfl
  have g_caller_answer := PySem.W.mg_of X G a_caller_answer
  have F_shore_answer := fun_mk (st := sShore) l_shore_answer c_shore_answer q_shore_answer
  have b_shore_answer := F_shore_answer.binds (ps := ["shores", "call"]) fun _ _ _ _ _ _ us hl => match us, hl with | [_, _], _ => rfl
  have g_shore_answer := PySem.W.mg_of X G a_shore_answer
  have F_one_answer := fun_mk (st := sOne) l_one_answer c_one_answer q_one_answer
  have b_one_answer := F_one_answer.binds (ps := ["callers", "shores", "call"]) fun _ _ _ _ _ _ us hl => match us, hl with | [_, _, _], _ => rfl
  have g_one_answer := PySem.W.mg_of X G a_one_answer
  have F_answers := fun_mk (st := sAnswers) l_answers c_answers q_answers
  have b_answers := F_answers.binds (ps := ["calls"]) fun _ _ _ _ _ _ us hl => match us, hl with | [_], _ => rfl
  have g_answers := PySem.W.mg_of X G a_answers
  have kn : ∀ {x : Str} {n : Int} {t : Tok}, PySem.W.nsIn K mainGlobals x = some (some (.int n t)) → Kn mg x n := fun e => ⟨_, PySem.W.mg_of X G e⟩
  have T : Txt K mg C_Caller := ⟨⟨pg_Caller, hd_Caller, po_Caller, sa_Caller⟩, n_Caller_me, n_Caller_said, n_Caller_known, n_Caller_told, n_Caller_tell_from, PySem.W.mg_of X G a_Caller, PySem.W.mg_none_of X G z_len, PySem.W.mg_none_of X G z_range, PySem.W.mg_none_of X G z_list, PySem.W.mg_none_of X G z_min, kn k_MOST_CALLS, kn k_REACH⟩
  have TS : TxtS K mg C_Shore := ⟨⟨pg_Shore, hd_Shore, po_Shore, sa_Shore⟩, n_Shore_order, n_Shore_kept, n_Shore_again, PySem.W.mg_of X G a_Shore, PySem.W.mg_none_of X G z_len, PySem.W.mg_none_of X G z_range, PySem.W.mg_none_of X G z_list, PySem.W.mg_none_of X G z_min, PySem.W.mg_none_of X G z_max, kn k_MOST_CALLS⟩
  have N : Nums mg := ⟨kn k_CA_START, kn k_CA_SAY, kn k_CA_TELL, kn k_CA_HEAR, kn k_CA_KNOWN, kn k_CA_OPEN, kn k_CA_SAID, kn k_CA_WOULD, kn k_MESSAGE_AT⟩
  have NS : NumsS mg := ⟨kn k_SH_START, kn k_SH_HEAR, kn k_SH_ANSWER, kn k_SH_GET, kn k_SH_FIND, kn k_SH_OF, kn k_SH_GAPS, kn k_MESSAGE_AT⟩
  have W : WTup K mg "CALL_LENGTHS" lens := ⟨a_CALL_LENGTHS, PySem.W.mg_of X G g_CALL_LENGTHS, fun H => .inr ⟨_, _, _, l_CALL_LENGTHS, rfl, rfl, (by show 17 ≤ sizeLine; decide), (.cons ⟨_, rfl⟩ (.cons ⟨_, rfl⟩ (.cons ⟨_, rfl⟩ (.cons ⟨_, rfl⟩ (.cons ⟨_, rfl⟩ (.cons ⟨_, rfl⟩ (.cons ⟨_, rfl⟩ (.cons ⟨_, rfl⟩ (.cons ⟨_, rfl⟩ (.cons ⟨_, rfl⟩ (.cons ⟨_, rfl⟩ (.cons ⟨_, rfl⟩ (.cons ⟨_, rfl⟩ (.cons ⟨_, rfl⟩ (.cons ⟨_, rfl⟩ (.cons ⟨_, rfl⟩ (.cons ⟨_, rfl⟩ .nil)))))))))))))))))⟩⟩
  refine ⟨PySem.W.fnOf "answers" "answers" (defArgs sAnswers) (defBody sAnswers) (defScope sAnswers) .none kV_answers dc_answers pm_answers an_answers cd_answers ct_answers, fun s us hu => match us, hu with | [_], _ => .of_eq rfl, fun base _ _ => ?_⟩
  have M_Caller_called : MethOk P w K mg base C_Caller 1 "called" ["self"] (spLook0 C_Caller gCalled) := ⟨⟨_, _, ⟨a_Caller_called, i_Caller_called, q_Caller_called⟩, ok_called F_Caller_called T, b_Caller_called⟩⟩
  have M_Caller_has_call : MethOk P w K mg base C_Caller 1 "has_call" ["self", "number"] (spLook1 C_Caller gHas) := ⟨⟨_, _, ⟨a_Caller_has_call, i_Caller_has_call, q_Caller_has_call⟩, ok_has F_Caller_has_call T, b_Caller_has_call⟩⟩
  have M_Caller_open_numbers : MethOk P w K mg base C_Caller 1 "open_numbers" ["self"] (spOpens C_Caller) := ⟨⟨_, _, ⟨a_Caller_open_numbers, i_Caller_open_numbers, q_Caller_open_numbers⟩, ok_opens F_Caller_open_numbers T, b_Caller_open_numbers⟩⟩
  have M_Caller_first_open_from : MethOk P w K mg base C_Caller 1 "first_open_from" ["self", "start"] (spLook1 C_Caller gFirst) := ⟨⟨_, _, ⟨a_Caller_first_open_from, i_Caller_first_open_from, q_Caller_first_open_from⟩, ok_first F_Caller_first_open_from T, b_Caller_first_open_from⟩⟩
  have M_Caller_may_call : MethOk P w K mg base C_Caller 2 "may_call" ["self"] (spLook0 C_Caller gMay) := ⟨⟨_, _, ⟨a_Caller_may_call, i_Caller_may_call, q_Caller_may_call⟩, ok_may F_Caller_may_call T M_Caller_first_open_from, b_Caller_may_call⟩⟩
  have M_Caller_told_next : MethOk P w K mg base C_Caller 2 "told_next" ["self"] (spLook0 C_Caller gNext) := ⟨⟨_, _, ⟨a_Caller_told_next, i_Caller_told_next, q_Caller_told_next⟩, ok_next F_Caller_told_next T M_Caller_first_open_from, b_Caller_told_next⟩⟩
  have M_Shore_how_many : MethOk P w K mg base C_Shore 1 "how_many" ["self"] (spHow C_Shore) := ⟨⟨_, _, ⟨a_Shore_how_many, i_Shore_how_many, q_Shore_how_many⟩, ok_how F_Shore_how_many TS, b_Shore_how_many⟩⟩
  have M_Shore_keeps : MethOk P w K mg base C_Shore 1 "keeps" ["self", "k", "number"] (spKeeps C_Shore) := ⟨⟨_, _, ⟨a_Shore_keeps, i_Shore_keeps, q_Shore_keeps⟩, ok_keeps F_Shore_keeps TS, b_Shore_keeps⟩⟩
  have M_Shore_first_gap : MethOk P w K mg base C_Shore 2 "first_gap" ["self", "k"] (spGap C_Shore) := ⟨⟨_, _, ⟨a_Shore_first_gap, i_Shore_first_gap, q_Shore_first_gap⟩, ok_gap F_Shore_first_gap TS M_Shore_keeps, b_Shore_first_gap⟩⟩
  have M_Shore_numbers_kept : MethOk P w K mg base C_Shore 2 "numbers_kept" ["self", "k"] (spNums C_Shore keptOf) := ⟨⟨_, _, ⟨a_Shore_numbers_kept, i_Shore_numbers_kept, q_Shore_numbers_kept⟩, ok_kept F_Shore_numbers_kept TS M_Shore_keeps, b_Shore_numbers_kept⟩⟩
  have M_Shore_numbers_missing : MethOk P w K mg base C_Shore 3 "numbers_missing" ["self", "k"] (spNums C_Shore missOf) := ⟨⟨_, _, ⟨a_Shore_numbers_missing, i_Shore_numbers_missing, q_Shore_numbers_missing⟩, ok_missing F_Shore_numbers_missing TS M_Shore_keeps M_Shore_numbers_kept, b_Shore_numbers_missing⟩⟩
  have D_refused : DefOk P w K mg base 1 "refused" ["refusal"] (spRefused) := ⟨⟨_, _, g_refused, q_refused, ok_refused F_refused, b_refused⟩⟩
  have D_as_bits : DefOk P w K mg base 1 "as_bits" ["numbers"] (spBits) := ⟨⟨_, _, g_as_bits, q_as_bits, ok_bits F_as_bits, b_as_bits⟩⟩
  have D_in_range : DefOk P w K mg base 1 "in_range" ["kind", "x", "y"] (spRange) := ⟨⟨_, _, g_in_range, q_in_range, ok_range F_in_range (kn k_GREATEST_KIND) (kn k_GREATEST_VALUE), b_in_range⟩⟩
  have D_is_call : DefOk P w K mg base 2 "is_call" ["message"] (spIsCall) := ⟨⟨_, _, g_is_call, q_is_call, ok_isCall F_is_call (kn k_A_CALL) (kn k_GREATEST_CALLER) (kn k_MOST_CALLS) D_in_range, b_is_call⟩⟩
  have D_numbers_told : DefOk P w K mg base 1 "numbers_told" ["message"] (spTold) := ⟨⟨_, _, g_numbers_told, q_numbers_told, ok_told F_numbers_told T (kn k_ANSWER_BITS), b_numbers_told⟩⟩
  have D_is_good : DefOk P w K mg base 2 "is_good" ["caller", "message"] (spGood C_Caller) := ⟨⟨_, _, g_is_good, q_is_good, ok_good F_is_good T (kn k_AN_ANSWER) (kn k_BITS_END) M_Caller_called M_Caller_has_call D_numbers_told, b_is_good⟩⟩
  have D_newly_known : DefOk P w K mg base 2 "newly_known" ["caller", "message"] (spNewly C_Caller) := ⟨⟨_, _, g_newly_known, q_newly_known, ok_newly F_newly_known T D_numbers_told, b_newly_known⟩⟩
  have D_ca_start : DefOk P w K mg base 3 "ca_start" ["callers", "place", "me"] (spStart C_Caller) := ⟨⟨_, _, g_ca_start, q_ca_start, ok_start F_ca_start T (kn k_GREATEST_CALLER) (kn k_OUT_OF_RANGE) D_refused ⟨mk_Caller, a_Caller___init__, i_Caller___init__, kc_Caller⟩ (ok_init F_Caller___init__ T) b_Caller___init__, b_ca_start⟩⟩
  have D_ca_say : DefOk P w K mg base 3 "ca_say" ["caller", "kind", "x", "y"] (spSay C_Caller) := ⟨⟨_, _, g_ca_say, q_ca_say, ok_say F_ca_say T (kn k_OUT_OF_RANGE) (kn k_NO_ROOM) D_in_range D_refused M_Caller_may_call M_Caller_called, b_ca_say⟩⟩
  have D_ca_tell : DefOk P w K mg base 3 "ca_tell" ["caller"] (spCa0 C_Caller .cTell) := ⟨⟨_, _, g_ca_tell, q_ca_tell, ok_tell F_ca_tell T (kn k_NONE_THERE) (kn k_MOST_COUNTED) (kn k_A_CALL) D_refused M_Caller_told_next M_Caller_has_call, b_ca_tell⟩⟩
  have D_ca_hear : DefOk P w K mg base 3 "ca_hear" ["caller", "message"] (spCaM C_Caller .cHear) := ⟨⟨_, _, g_ca_hear, q_ca_hear, ok_hear F_ca_hear T (kn k_NOT_GOOD) D_refused D_is_good D_newly_known M_Caller_open_numbers, b_ca_hear⟩⟩
  have D_ca_known : DefOk P w K mg base 2 "ca_known" ["caller", "i"] (spCa1 C_Caller .cKnown) := ⟨⟨_, _, g_ca_known, q_ca_known, ok_known F_ca_known T (kn k_NO_SUCH) D_refused M_Caller_has_call, b_ca_known⟩⟩
  have D_ca_open : DefOk P w K mg base 2 "ca_open" ["caller"] (spCa0 C_Caller .cOpen) := ⟨⟨_, _, g_ca_open, q_ca_open, ok_open F_ca_open T D_as_bits M_Caller_open_numbers M_Caller_first_open_from, b_ca_open⟩⟩
  have D_ca_said : DefOk P w K mg base 2 "ca_said" ["caller", "i"] (spCa1 C_Caller .cSaid) := ⟨⟨_, _, g_ca_said, q_ca_said, ok_said F_ca_said T (kn k_NO_SUCH) D_refused M_Caller_has_call, b_ca_said⟩⟩
  have D_ca_would : DefOk P w K mg base 3 "ca_would" ["caller", "message"] (spCaM C_Caller .cWould) := ⟨⟨_, _, g_ca_would, q_ca_would, ok_would F_ca_would T (kn k_NOT_GOOD) D_refused D_is_good D_newly_known, b_ca_would⟩⟩
  have D_ca_state : DefOk P w K mg base 2 "ca_state" ["caller"] (spCa0 C_Caller .cState) := ⟨⟨_, _, g_ca_state, q_ca_state, ok_state F_ca_state T M_Caller_called, b_ca_state⟩⟩
  have D_sh_start : DefOk P w K mg base 3 "sh_start" ["shores", "place"] (spStartS C_Shore) := ⟨⟨_, _, g_sh_start, q_sh_start, ok_startS F_sh_start TS ⟨mk_Shore, a_Shore___init__, i_Shore___init__, kc_Shore⟩ (ok_initS F_Shore___init__ TS) b_Shore___init__, b_sh_start⟩⟩
  have D_sh_hear : DefOk P w K mg base 3 "sh_hear" ["shore", "message"] (spShM C_Shore .sHear) := ⟨⟨_, _, g_sh_hear, q_sh_hear, ok_hearS F_sh_hear TS (kn k_NOT_GOOD) (kn k_KEPT_OTHERWISE) (kn k_MOST_COUNTED) D_refused D_is_call M_Shore_how_many, b_sh_hear⟩⟩
  have D_sh_answer : DefOk P w K mg base 3 "sh_answer" ["shore", "k"] (spSh1 C_Shore .sAnswer) := ⟨⟨_, _, g_sh_answer, q_sh_answer, ok_answerS F_sh_answer TS (kn k_GREATEST_CALLER) (kn k_NO_SUCH) (kn k_ANSWER_BITS) (kn k_AN_ANSWER) D_refused D_as_bits M_Shore_first_gap M_Shore_keeps, b_sh_answer⟩⟩
  have D_sh_get : DefOk P w K mg base 2 "sh_get" ["shore", "i"] (spSh1 C_Shore .sGet) := ⟨⟨_, _, g_sh_get, q_sh_get, ok_getS F_sh_get TS (kn k_NO_SUCH) D_refused M_Shore_how_many, b_sh_get⟩⟩
  have D_sh_find : DefOk P w K mg base 2 "sh_find" ["shore", "k", "i"] (spSh2 C_Shore .sFind) := ⟨⟨_, _, g_sh_find, q_sh_find, ok_findS F_sh_find TS (kn k_GREATEST_CALLER) (kn k_NO_SUCH) (kn k_NONE_THERE) D_refused M_Shore_keeps, b_sh_find⟩⟩
  have D_sh_of : DefOk P w K mg base 3 "sh_of" ["shore", "k"] (spSh1 C_Shore .sOf) := ⟨⟨_, _, g_sh_of, q_sh_of, ok_ofS F_sh_of TS (kn k_GREATEST_CALLER) (kn k_NO_SUCH) D_refused D_as_bits M_Shore_numbers_kept, b_sh_of⟩⟩
  have D_sh_gaps : DefOk P w K mg base 4 "sh_gaps" ["shore", "k"] (spSh1 C_Shore .sGaps) := ⟨⟨_, _, g_sh_gaps, q_sh_gaps, ok_gapsS F_sh_gaps TS (kn k_GREATEST_CALLER) (kn k_NO_SUCH) D_refused D_as_bits M_Shore_numbers_missing, b_sh_gaps⟩⟩
  have D_sh_state : DefOk P w K mg base 2 "sh_state" ["shore"] (spSh0 C_Shore .sState) := ⟨⟨_, _, g_sh_state, q_sh_state, ok_stateS F_sh_state TS M_Shore_how_many, b_sh_state⟩⟩
  have D_caller_answer : DefOk P w K mg base 4 "caller_answer" ["callers", "call"] (spCaller C_Caller) := ⟨⟨_, _, g_caller_answer, q_caller_answer, ok_caller F_caller_answer N D_ca_start D_ca_say D_ca_tell D_ca_hear D_ca_known D_ca_open D_ca_said D_ca_would D_ca_state, b_caller_answer⟩⟩
  have D_shore_answer : DefOk P w K mg base 5 "shore_answer" ["shores", "call"] (spShore C_Shore) := ⟨⟨_, _, g_shore_answer, q_shore_answer, ok_shore F_shore_answer NS D_sh_start D_sh_hear D_sh_answer D_sh_get D_sh_find D_sh_of D_sh_gaps D_sh_state, b_shore_answer⟩⟩
  have D_one_answer : DefOk P w K mg base 6 "one_answer" ["callers", "shores", "call"] (spOne C_Caller C_Shore) := ⟨⟨_, _, g_one_answer, q_one_answer, ok_one F_one_answer (kn k_SH_START) D_caller_answer D_shore_answer, b_one_answer⟩⟩
  exact ok_answers F_answers T W D_one_answer
end CS
set_option Elab.async false
open PySem PySem.W PyProof.Rows
set_option maxRecDepth 100000 in
set_option maxHeartbeats 8000000 in
theorem PySem.Challenge.cw_calledshores_s01_answers_holds : PySem.Challenge.rw_calledshores_s01_answers.Holds := by
  w_on; k_headS; (case hw => exact ⟨[.list [.int 9, .int 0]], by decide +kernel, by decide +kernel⟩)
  k_fillS
  refine L2.walk_specK (r := PySem.Challenge.rw_calledshores_s01_answers) (k := 7) (CX := L2.CX0) (ps := ["calls"]) (sp := CS.spAns) (by decide +kernel) rfl rfl ⟨rfl, by decide, by decide⟩ (fun w h Y => PySem.W.kIn_of Y) ?F ?S (fun _ _ _ _ z => z)
  case F =>
    intro w mg fa h Y KX G hmg
    refine' CS.all_mk KX G hmg ?k_CA_START ?k_CA_SAY ?k_CA_TELL ?k_CA_HEAR ?k_CA_KNOWN ?k_CA_OPEN ?k_CA_SAID ?k_CA_WOULD ?k_SH_START ?k_SH_HEAR ?k_SH_ANSWER ?k_SH_GET ?k_SH_FIND ?k_SH_OF ?k_SH_GAPS ?k_MESSAGE_AT ?k_NO_SUCH ?k_NONE_THERE ?k_OUT_OF_RANGE ?k_NO_ROOM ?k_NOT_GOOD ?k_KEPT_OTHERWISE ?k_A_CALL ?k_AN_ANSWER ?k_GREATEST_CALLER ?k_GREATEST_KIND ?k_GREATEST_VALUE ?k_MOST_CALLS ?k_MOST_COUNTED ?k_REACH ?k_ANSWER_BITS ?k_BITS_END ?g_CALL_LENGTHS ?l_CALL_LENGTHS ?z_len ?z_range ?z_list ?z_min ?z_max ?a_Caller ?pg_Caller ?hd_Caller ?po_Caller ?sa_Caller ?mk_Caller ?kc_Caller ?n_Caller_me ?n_Caller_said ?n_Caller_known ?n_Caller_told ?n_Caller_tell_from ?a_Caller___init__ ?i_Caller___init__ ?l_Caller___init__ ?c_Caller___init__ ?q_Caller___init__ ?a_Caller_called ?i_Caller_called ?l_Caller_called ?c_Caller_called ?q_Caller_called ?a_Caller_has_call ?i_Caller_has_call ?l_Caller_has_call ?c_Caller_has_call ?q_Caller_has_call ?a_Caller_open_numbers ?i_Caller_open_numbers ?l_Caller_open_numbers ?c_Caller_open_numbers ?q_Caller_open_numbers ?a_Caller_first_open_from ?i_Caller_first_open_from ?l_Caller_first_open_from ?c_Caller_first_open_from ?q_Caller_first_open_from ?a_Caller_may_call ?i_Caller_may_call ?l_Caller_may_call ?c_Caller_may_call ?q_Caller_may_call ?a_Caller_told_next ?i_Caller_told_next ?l_Caller_told_next ?c_Caller_told_next ?q_Caller_told_next ?a_Shore ?pg_Shore ?hd_Shore ?po_Shore ?sa_Shore ?mk_Shore ?kc_Shore ?n_Shore_order ?n_Shore_kept ?n_Shore_again ?a_Shore___init__ ?i_Shore___init__ ?l_Shore___init__ ?c_Shore___init__ ?q_Shore___init__ ?a_Shore_how_many ?i_Shore_how_many ?l_Shore_how_many ?c_Shore_how_many ?q_Shore_how_many ?a_Shore_keeps ?i_Shore_keeps ?l_Shore_keeps ?c_Shore_keeps ?q_Shore_keeps ?a_Shore_first_gap ?i_Shore_first_gap ?l_Shore_first_gap ?c_Shore_first_gap ?q_Shore_first_gap ?a_Shore_numbers_kept ?i_Shore_numbers_kept ?l_Shore_numbers_kept ?c_Shore_numbers_kept ?q_Shore_numbers_kept ?a_Shore_numbers_missing ?i_Shore_numbers_missing ?l_Shore_numbers_missing ?c_Shore_numbers_missing ?q_Shore_numbers_missing ?a_refused ?l_refused ?c_refused ?q_refused ?a_as_bits ?l_as_bits ?c_as_bits ?q_as_bits ?a_in_range ?l_in_range ?c_in_range ?q_in_range ?a_is_call ?l_is_call ?c_is_call ?q_is_call ?a_numbers_told ?l_numbers_told ?c_numbers_told ?q_numbers_told ?a_is_good ?l_is_good ?c_is_good ?q_is_good ?a_newly_known ?l_newly_known ?c_newly_known ?q_newly_known ?a_ca_start ?l_ca_start ?c_ca_start ?q_ca_start ?a_ca_say ?l_ca_say ?c_ca_say ?q_ca_say ?a_ca_tell ?l_ca_tell ?c_ca_tell ?q_ca_tell ?a_ca_hear ?l_ca_hear ?c_ca_hear ?q_ca_hear ?a_ca_known ?l_ca_known ?c_ca_known ?q_ca_known ?a_ca_open ?l_ca_open ?c_ca_open ?q_ca_open ?a_ca_said ?l_ca_said ?c_ca_said ?q_ca_said ?a_ca_would ?l_ca_would ?c_ca_would ?q_ca_would ?a_ca_state ?l_ca_state ?c_ca_state ?q_ca_state ?a_sh_start ?l_sh_start ?c_sh_start ?q_sh_start ?a_sh_hear ?l_sh_hear ?c_sh_hear ?q_sh_hear ?a_sh_answer ?l_sh_answer ?c_sh_answer ?q_sh_answer ?a_sh_get ?l_sh_get ?c_sh_get ?q_sh_get ?a_sh_find ?l_sh_find ?c_sh_find ?q_sh_find ?a_sh_of ?l_sh_of ?c_sh_of ?q_sh_of ?a_sh_gaps ?l_sh_gaps ?c_sh_gaps ?q_sh_gaps ?a_sh_state ?l_sh_state ?c_sh_state ?q_sh_state ?a_caller_answer ?l_caller_answer ?c_caller_answer ?q_caller_answer ?a_shore_answer ?l_shore_answer ?c_shore_answer ?q_shore_answer ?a_one_answer ?l_one_answer ?c_one_answer ?q_one_answer ?a_answers ?l_answers ?c_answers ?q_answers
    (case k_CA_START => k_is); (case k_CA_SAY => k_is); (case k_CA_TELL => k_is); (case k_CA_HEAR => k_is); (case k_CA_KNOWN => k_is); (case k_CA_OPEN => k_is)
    (case k_CA_SAID => k_is); (case k_CA_WOULD => k_is); (case k_SH_START => k_is); (case k_SH_HEAR => k_is); (case k_SH_ANSWER => k_is); (case k_SH_GET => k_is)
    (case k_SH_FIND => k_is); (case k_SH_OF => k_is); (case k_SH_GAPS => k_is); (case k_MESSAGE_AT => k_is); (case k_NO_SUCH => k_is); (case k_NONE_THERE => k_is)
    (case k_OUT_OF_RANGE => k_is); (case k_NO_ROOM => k_is); (case k_NOT_GOOD => k_is); (case k_KEPT_OTHERWISE => k_is); (case k_A_CALL => k_is); (case k_AN_ANSWER => k_is)
    (case k_GREATEST_CALLER => k_is); (case k_GREATEST_KIND => k_is); (case k_GREATEST_VALUE => k_is); (case k_MOST_CALLS => k_is); (case k_MOST_COUNTED => k_is); (case k_REACH => k_is)
    (case k_ANSWER_BITS => k_is); (case k_BITS_END => k_is); (case g_CALL_LENGTHS => k_is); (case l_CALL_LENGTHS => k_is); (case z_len => k_is); (case z_range => k_is)
    (case z_list => k_is); (case z_min => k_is); (case z_max => k_is); (case a_Caller => k_is); (case pg_Caller => k_is); (case hd_Caller => k_is)
    (case po_Caller => k_is); (case sa_Caller => k_is); (case mk_Caller => k_is); (case kc_Caller => k_is); (case n_Caller_me => k_is); (case n_Caller_said => k_is)
    (case n_Caller_known => k_is); (case n_Caller_told => k_is); (case n_Caller_tell_from => k_is); (case a_Caller___init__ => k_is); (case i_Caller___init__ => k_is); (case l_Caller___init__ => k_is)
    (case c_Caller___init__ => k_is); (case q_Caller___init__ => k_is); (case a_Caller_called => k_is); (case i_Caller_called => k_is); (case l_Caller_called => k_is); (case c_Caller_called => k_is)
    (case q_Caller_called => k_is); (case a_Caller_has_call => k_is); (case i_Caller_has_call => k_is); (case l_Caller_has_call => k_is); (case c_Caller_has_call => k_is); (case q_Caller_has_call => k_is)
    (case a_Caller_open_numbers => k_is); (case i_Caller_open_numbers => k_is); (case l_Caller_open_numbers => k_is); (case c_Caller_open_numbers => k_is); (case q_Caller_open_numbers => k_is); (case a_Caller_first_open_from => k_is)
    (case i_Caller_first_open_from => k_is); (case l_Caller_first_open_from => k_is); (case c_Caller_first_open_from => k_is); (case q_Caller_first_open_from => k_is); (case a_Caller_may_call => k_is); (case i_Caller_may_call => k_is)
    (case l_Caller_may_call => k_is); (case c_Caller_may_call => k_is); (case q_Caller_may_call => k_is); (case a_Caller_told_next => k_is); (case i_Caller_told_next => k_is); (case l_Caller_told_next => k_is)
    (case c_Caller_told_next => k_is); (case q_Caller_told_next => k_is); (case a_Shore => k_is); (case pg_Shore => k_is); (case hd_Shore => k_is); (case po_Shore => k_is)
    (case sa_Shore => k_is); (case mk_Shore => k_is); (case kc_Shore => k_is); (case n_Shore_order => k_is); (case n_Shore_kept => k_is); (case n_Shore_again => k_is)
    (case a_Shore___init__ => k_is); (case i_Shore___init__ => k_is); (case l_Shore___init__ => k_is); (case c_Shore___init__ => k_is); (case q_Shore___init__ => k_is); (case a_Shore_how_many => k_is)
    (case i_Shore_how_many => k_is); (case l_Shore_how_many => k_is); (case c_Shore_how_many => k_is); (case q_Shore_how_many => k_is); (case a_Shore_keeps => k_is); (case i_Shore_keeps => k_is)
    (case l_Shore_keeps => k_is); (case c_Shore_keeps => k_is); (case q_Shore_keeps => k_is); (case a_Shore_first_gap => k_is); (case i_Shore_first_gap => k_is); (case l_Shore_first_gap => k_is)
    (case c_Shore_first_gap => k_is); (case q_Shore_first_gap => k_is); (case a_Shore_numbers_kept => k_is); (case i_Shore_numbers_kept => k_is); (case l_Shore_numbers_kept => k_is); (case c_Shore_numbers_kept => k_is)
    (case q_Shore_numbers_kept => k_is); (case a_Shore_numbers_missing => k_is); (case i_Shore_numbers_missing => k_is); (case l_Shore_numbers_missing => k_is); (case c_Shore_numbers_missing => k_is); (case q_Shore_numbers_missing => k_is)
    (case a_refused => k_is); (case l_refused => k_is); (case c_refused => k_is); (case q_refused => k_is); (case a_as_bits => k_is); (case l_as_bits => k_is)
    (case c_as_bits => k_is); (case q_as_bits => k_is); (case a_in_range => k_is); (case l_in_range => k_is); (case c_in_range => k_is); (case q_in_range => k_is)
    (case a_is_call => k_is); (case l_is_call => k_is); (case c_is_call => k_is); (case q_is_call => k_is); (case a_numbers_told => k_is); (case l_numbers_told => k_is)
    (case c_numbers_told => k_is); (case q_numbers_told => k_is); (case a_is_good => k_is); (case l_is_good => k_is); (case c_is_good => k_is); (case q_is_good => k_is)
    (case a_newly_known => k_is); (case l_newly_known => k_is); (case c_newly_known => k_is); (case q_newly_known => k_is); (case a_ca_start => k_is); (case l_ca_start => k_is)
    (case c_ca_start => k_is); (case q_ca_start => k_is); (case a_ca_say => k_is); (case l_ca_say => k_is); (case c_ca_say => k_is); (case q_ca_say => k_is)
    (case a_ca_tell => k_is); (case l_ca_tell => k_is); (case c_ca_tell => k_is); (case q_ca_tell => k_is); (case a_ca_hear => k_is); (case l_ca_hear => k_is)
    (case c_ca_hear => k_is); (case q_ca_hear => k_is); (case a_ca_known => k_is); (case l_ca_known => k_is); (case c_ca_known => k_is); (case q_ca_known => k_is)
    (case a_ca_open => k_is); (case l_ca_open => k_is); (case c_ca_open => k_is); (case q_ca_open => k_is); (case a_ca_said => k_is); (case l_ca_said => k_is)
    (case c_ca_said => k_is); (case q_ca_said => k_is); (case a_ca_would => k_is); (case l_ca_would => k_is); (case c_ca_would => k_is); (case q_ca_would => k_is)
    (case a_ca_state => k_is); (case l_ca_state => k_is); (case c_ca_state => k_is); (case q_ca_state => k_is); (case a_sh_start => k_is); (case l_sh_start => k_is)
    (case c_sh_start => k_is); (case q_sh_start => k_is); (case a_sh_hear => k_is); (case l_sh_hear => k_is); (case c_sh_hear => k_is); (case q_sh_hear => k_is)
    (case a_sh_answer => k_is); (case l_sh_answer => k_is); (case c_sh_answer => k_is); (case q_sh_answer => k_is); (case a_sh_get => k_is); (case l_sh_get => k_is)
    (case c_sh_get => k_is); (case q_sh_get => k_is); (case a_sh_find => k_is); (case l_sh_find => k_is); (case c_sh_find => k_is); (case q_sh_find => k_is)
    (case a_sh_of => k_is); (case l_sh_of => k_is); (case c_sh_of => k_is); (case q_sh_of => k_is); (case a_sh_gaps => k_is); (case l_sh_gaps => k_is)
    (case c_sh_gaps => k_is); (case q_sh_gaps => k_is); (case a_sh_state => k_is); (case l_sh_state => k_is); (case c_sh_state => k_is); (case q_sh_state => k_is)
    (case a_caller_answer => k_is); (case l_caller_answer => k_is); (case c_caller_answer => k_is); (case q_caller_answer => k_is); (case a_shore_answer => k_is); (case l_shore_answer => k_is)
    (case c_shore_answer => k_is); (case q_shore_answer => k_is); (case a_one_answer => k_is); (case l_one_answer => k_is); (case c_one_answer => k_is); (case q_one_answer => k_is)
    (case a_answers => k_is); (case l_answers => k_is); (case c_answers => k_is); (case q_answers => k_is)
  case S =>
    intro K H xs a hO hwi hask hx
    cases hx with
    | cons h1 h2 =>
      cases h2
      cases h1 with
      | lst hs ha =>
        have e := L2.ints_dw a.1 _ ha
        subst e
        have q : ((Codec.inLen 0 30000 a.1 && a.1.all (Codec.inInt 0 4294967295)) && true) = true := hwi
        rw [Bool.and_eq_true, Bool.and_eq_true] at q
        exact ⟨_, a.1, rfl, hs, (Codec.inNat_iff.mp q.1.1).2, hask, fun H' p hp => .lst (L2.SqL.of hp) (L2.dw_ints _)⟩
#print axioms PySem.Challenge.cw_calledshores_s01_answers_holds
