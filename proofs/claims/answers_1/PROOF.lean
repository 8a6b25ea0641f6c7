import PyProof.Rows.All
import Wide.All
import OpenK.AllK
import Wide.FinOn
import Open.SpecLaws
import KE.OsGo
import HandS.ForSpec
import HandS.ForMost
import HandS.SetFor
import HandS.Walk
import HandS.Conv
import KE.KLam
import KE.KNestM
import HandS.Lambda
import HandS.Nested
import HandS.EndTab
import PySem.Challenge.RW_pairchecks_s01_answers
set_option Elab.async false
set_option linter.unusedVariables false
set_option maxRecDepth 100000
set_option maxHeartbeats 2000000
namespace Pc
open Ut12Neutral (termIn condIn)
/-- numbers as ints -/
def I (l : List Nat) : List Int := l.map fun (n : Nat) => (n : Int)
theorem I_nil : I [] = [] := rfl
theorem I_cons (a : Nat) (l : List Nat) : I (a :: l) = (a : Int) :: I l := rfl
theorem I_app (a b : List Nat) : I (a ++ b) = I a ++ I b := List.map_append
theorem I_len (a : List Nat) : (I a).length = a.length := List.length_map _
theorem I_take (a : List Nat) (n : Nat) : (I a).take n = I (a.take n) := (List.map_take ..).symm
theorem I_drop (a : List Nat) (n : Nat) : (I a).drop n = I (a.drop n) := (List.map_drop ..).symm
theorem I_back : ∀ (a : List Nat), (I a).map Int.toNat = a
  | [] => rfl
  | x :: a => by rw [I_cons, List.map_cons, I_back a]; rfl
theorem I_of : ∀ (l : List Int), (∀ x ∈ l, 0 ≤ x) → l = I (l.map Int.toNat)
  | [], _ => rfl
  | x :: l, h => by
    rw [List.map_cons, I_cons, ← I_of l fun y hy => h y (List.mem_cons_of_mem _ hy)]
    rw [Int.toNat_of_nonneg (h x List.mem_cons_self)]

inductive RdCall : List Nat → Ut12.Call → List Nat → Prop
  | check {row l1 r : List Nat} {w m : Ut12.Cond} : condIn 12 row = some (w, l1) → condIn 12 l1 = some (m, []) → row.length ≤ 200 → RdCall (0 :: row.length :: (row ++ r)) (.check w m) r
  | gone {k : Nat} {r : List Nat} : RdCall (1 :: k :: r) (.gone k) r
  | letters {a r : List Nat} : a.length ≤ 40 → RdCall (2 :: a.length :: (a ++ r)) (.letters a) r
  | run {s t r : List Nat} : s.length ≤ 60 → t.length ≤ 60 → RdCall (3 :: s.length :: (s ++ t.length :: (t ++ r))) (.run (s, t)) r
  | value {s t u r : List Nat} {x : Ut12.Term} : s.length ≤ 60 → t.length ≤ 60 → u.length ≤ 80 → termIn 12 u = some (x, []) → RdCall (4 :: s.length :: (s ++ t.length :: (t ++ u.length :: (u ++ r)))) (.value x (s, t)) r
  | fine {n : Nat} {r : List Nat} : RdCall (5 :: n :: r) (.fine n) r
  | alone {k n : Nat} {r : List Nat} : RdCall (6 :: k :: n :: r) (.alone k n) r
  | apart {k j n : Nat} {r : List Nat} : RdCall (7 :: k :: j :: n :: r) (.apart k j n) r
  | clash {n : Nat} {r : List Nat} : RdCall (8 :: n :: r) (.clash n) r
  | each {n : Nat} {s r : List Nat} : s.length ≤ 60 → RdCall (9 :: n :: s.length :: (s ++ r)) (.fineFor n s) r
  | checks {r : List Nat} : RdCall (10 :: r) .checks r
inductive Rd : List Nat → List Ut12.Call → Prop
  | nil : Rd [] []
  | cons {l r : List Nat} {x : Ut12.Call} {xs : List Ut12.Call} : RdCall l x r → Rd r xs → Rd l (x :: xs)
/-- the calls played -/
def plays : Ut12.St → List Ut12.Call → List (List Int)
  | _, [] => []
  | s, x :: r => (Ut12.step s x).2 :: plays (Ut12.step s x).1 r

theorem row_nat {l : List Nat} {x s : List Int} (h : PyFlat.row (I l) = some (x, s)) : ∃ a r, l = a.length :: (a ++ r) ∧ x = I a ∧ s = I r := by
  cases l with
  | nil => cases h
  | cons n r =>
    have h' : (if 0 ≤ (n : Int) ∧ ((n : Int)).toNat ≤ (I r).length then some ((I r).take ((n : Int)).toNat, (I r).drop ((n : Int)).toNat) else none) = some (x, s) := h
    by_cases k : 0 ≤ (n : Int) ∧ ((n : Int)).toNat ≤ (I r).length
    · rw [if_pos k] at h'
      obtain ⟨e1, e2⟩ := Prod.mk.inj (Option.some.inj h')
      have hn : ((n : Int)).toNat = n := rfl
      rw [hn, I_take] at e1
      rw [hn, I_drop] at e2
      have k2 : n ≤ r.length := by have := k.2; rw [I_len] at this; omega
      refine ⟨r.take n, r.drop n, ?_, e1.symm, e2.symm⟩
      rw [List.take_append_drop, List.length_take, Nat.min_eq_left k2]
    · rw [if_neg k] at h'
      cases h'
theorem rows0 {l x s} (h : PyFlat.rows 0 l = some (x, s)) : x = [] ∧ s = l := by
  obtain ⟨e1, e2⟩ := Prod.mk.inj (Option.some.inj (show some (([] : List (List Int)), l) = some (x, s) from h))
  exact ⟨e1.symm, e2.symm⟩
theorem rows1 {k : Nat} {l : List Nat} {x s} (h : PyFlat.rows (k + 1) (I l) = some (x, s)) : ∃ a r xs, l = a.length :: (a ++ r) ∧ x = I a :: xs ∧ PyFlat.rows k (I r) = some (xs, s) := by
  have h' : (match PyFlat.row (I l) with
      | none => none
      | some (y, t) => match PyFlat.rows k t with
        | none => none
        | some (ys, u) => some (y :: ys, u)) = some (x, s) := h
  cases e : PyFlat.row (I l) with
  | none => rw [e] at h'; cases h'
  | some q =>
    obtain ⟨y, t⟩ := q
    rw [e] at h'
    obtain ⟨a, r, e1, e2, e3⟩ := row_nat e
    subst e2 e3
    have h2 : (match PyFlat.rows k (I r) with
        | none => none
        | some (ys, u) => some (I a :: ys, u)) = some (x, s) := h'
    cases e2 : PyFlat.rows k (I r) with
    | none => rw [e2] at h2; cases h2
    | some q2 =>
      obtain ⟨ys, u⟩ := q2
      rw [e2] at h2
      obtain ⟨e4, e5⟩ := Prod.mk.inj (Option.some.inj (show some (I a :: ys, u) = some (x, s) from h2))
      subst e4 e5
      exact ⟨a, r, ys, e1, rfl, e2⟩
theorem call_nat {l : List Nat} {c t} (h : PyFlat.call PyUt12.shape (I l) = some (c, t)) : ∃ p r n k xs, l = p :: r ∧ PyUt12.shape (p : Int) = some (n, k) ∧ n ≤ r.length ∧ c = ((p : Int) :: I (r.take n)) :: xs ∧ PyFlat.rows k (I (r.drop n)) = some (xs, t) := by
  cases l with
  | nil => cases h
  | cons p r =>
    have h' : (match PyUt12.shape (p : Int) with
    | none => none
    | some (n, k) => if (I r).length < n then none else match PyFlat.rows k ((I r).drop n) with
      | none => none
      | some (xs, t) => some (((p : Int) :: (I r).take n) :: xs, t)) = some (c, t) := h
    cases e : PyUt12.shape (p : Int) with
    | none => rw [e] at h'; cases h'
    | some q =>
      obtain ⟨n, k⟩ := q
      rw [e] at h'
      have h2 : (if (I r).length < n then none else match PyFlat.rows k ((I r).drop n) with
      | none => none
      | some (xs, t) => some (((p : Int) :: (I r).take n) :: xs, t)) = some (c, t) := h'
      by_cases g : (I r).length < n
      · rw [if_pos g] at h2; cases h2
      · rw [if_neg g, I_drop, I_take] at h2
        rw [I_len] at g
        cases e3 : PyFlat.rows k (I (r.drop n)) with
        | none => rw [e3] at h2; cases h2
        | some q =>
          obtain ⟨xs, u⟩ := q
          rw [e3] at h2
          obtain ⟨e4, e5⟩ := Prod.mk.inj (Option.some.inj (show some (((p : Int) :: I (r.take n)) :: xs, u) = some (c, t) from h2))
          subst e4 e5
          exact ⟨p, r, n, k, xs, rfl, e, by omega, rfl, e3⟩
theorem callOf_I {a : List Nat} {x} (h : Ut12Neutral.callOf (I a) = some x) : Ut12Neutral.callIn a = some x := by
  unfold Ut12Neutral.callOf at h
  split at h
  · cases h
  · rw [I_back] at h; exact h
theorem sentIn_app (s r : List Nat) : Ut12Neutral.sentIn (s.length :: (s ++ r)) = some (s, r) := by
  show (if (s ++ r).length < s.length then none else some ((s ++ r).take s.length, (s ++ r).drop s.length)) = some (s, r)
  rw [if_neg (by rw [List.length_append]; omega), List.take_left, List.drop_left]
theorem pairIn_app (s t r : List Nat) : Ut12Neutral.pairIn (s.length :: (s ++ t.length :: (t ++ r))) = some ((s, t), r) := by
  unfold Ut12Neutral.pairIn
  rw [sentIn_app, Option.bind_some, sentIn_app]
  rfl
theorem shape_big {p : Nat} (h : 11 ≤ p) : PyUt12.shape (p : Int) = none := by
  unfold PyUt12.shape
  repeat rw [if_neg (by omega)]
theorem take0 {l : List Nat} {n : Nat} (h : n ≤ l.length) (e : n = 0) : l.take n = [] ∧ l.drop n = l := by subst e; exact ⟨rfl, rfl⟩
theorem len1 {r : List Nat} (h : 1 ≤ r.length) : ∃ a t, r = a :: t := by
  cases r with
  | nil => simp at h
  | cons a t => exact ⟨a, t, rfl⟩
theorem len2 {r : List Nat} (h : 2 ≤ r.length) : ∃ a b t, r = a :: b :: t := by
  obtain ⟨a, t, rfl⟩ := len1 (by omega : 1 ≤ r.length)
  obtain ⟨b, u, rfl⟩ := len1 (by rw [List.length_cons] at h; omega : 1 ≤ t.length)
  exact ⟨a, b, u, rfl⟩
theorem len3 {r : List Nat} (h : 3 ≤ r.length) : ∃ a b c t, r = a :: b :: c :: t := by
  obtain ⟨a, b, t, rfl⟩ := len2 (by omega : 2 ≤ r.length)
  obtain ⟨c, u, rfl⟩ := len1 (by rw [List.length_cons, List.length_cons] at h; omega : 1 ≤ t.length)
  exact ⟨a, b, c, u, rfl⟩
/-- one call -/
theorem one {l : List Nat} {c t} (h : PyFlat.call PyUt12.shape (I l) = some (c, t)) (hb : PyInside.call PyUt12.bound c = true) (ha : Ut12Neutral.asked1 ((PyUt12.whole c).headD []) = true) :
    ∃ x r, RdCall l x r ∧ t = I r ∧ Ut12Neutral.callOf ((PyUt12.whole c).headD []) = some x := by
  obtain ⟨p, r, n, k, xs, rfl, hs, hn, rfl, hr⟩ := call_nat h
  obtain ⟨x, hx⟩ := Option.isSome_iff_exists.mp (show (Ut12Neutral.callOf ((PyUt12.whole (((p : Int) :: I (r.take n)) :: xs)).headD [])).isSome = true from ha)
  rw [hx]
  have hp : p = 0 ∨ p = 1 ∨ p = 2 ∨ p = 3 ∨ p = 4 ∨ p = 5 ∨ p = 6 ∨ p = 7 ∨ p = 8 ∨ p = 9 ∨ p = 10 ∨ 11 ≤ p := by omega
  rcases hp with rfl | rfl | rfl | rfl | rfl | rfl | rfl | rfl | rfl | rfl | rfl | hp
  · obtain ⟨rfl, rfl⟩ := Prod.mk.inj (Option.some.inj (show some (0, 1) = some (n, k) from hs))
    obtain ⟨a, s, ys, e1, rfl, e3⟩ := rows1 hr
    obtain ⟨rfl, rfl⟩ := rows0 e3
    have e1 : r = a.length :: (a ++ s) := e1
    subst e1
    have hx : Ut12Neutral.callOf (I (0 :: a)) = some x := hx
    have hx := callOf_I hx
    have hx : ((condIn 12 a).bind fun x => (condIn 12 x.2).bind fun y => if y.2 = [] then some (Ut12.Call.check x.1 y.1) else none) = some x := hx
    have hb : (PyInside.lists [(0, 4294967295, 2, 200)] [I a]) = true := hb
    have hlen : a.length ≤ 200 := by
      simp [PyInside.lists, I_len] at hb; omega
    cases e1 : condIn 12 a with
    | none => rw [e1] at hx; cases hx
    | some q =>
      obtain ⟨w, l1⟩ := q
      rw [e1, Option.bind_some] at hx
      cases e2 : condIn 12 l1 with
      | none => dsimp only at hx; rw [e2] at hx; cases hx
      | some q =>
        obtain ⟨m, l2⟩ := q
        dsimp only at hx
        rw [e2, Option.bind_some] at hx
        dsimp only at hx
        by_cases g : l2 = []
        · subst g
          rw [if_pos rfl] at hx
          cases hx
          exact ⟨_, s, .check e1 e2 hlen, rfl, rfl⟩
        · rw [if_neg g] at hx; cases hx
  · obtain ⟨rfl, rfl⟩ := Prod.mk.inj (Option.some.inj (show some (1, 0) = some (n, k) from hs))
    obtain ⟨rfl, rfl⟩ := rows0 hr
    obtain ⟨a, r, rfl⟩ := len1 hn
    have hx := callOf_I (show Ut12Neutral.callOf (I [1, a]) = some x from hx)
    have hx : some (Ut12.Call.gone a) = some x := hx
    cases hx
    exact ⟨_, r, .gone, rfl, rfl⟩
  · obtain ⟨rfl, rfl⟩ := Prod.mk.inj (Option.some.inj (show some (0, 1) = some (n, k) from hs))
    obtain ⟨a, s, ys, e1, rfl, e3⟩ := rows1 hr
    obtain ⟨rfl, rfl⟩ := rows0 e3
    have e1 : r = a.length :: (a ++ s) := e1
    subst e1
    have hx := callOf_I (show Ut12Neutral.callOf (I (2 :: a)) = some x from hx)
    have hx : some (Ut12.Call.letters a) = some x := hx
    cases hx
    have hb : (PyInside.lists [(0, 4294967295, 0, 40)] [I a]) = true := hb
    have hlen : a.length ≤ 40 := by
      simp [PyInside.lists, I_len] at hb; omega
    exact ⟨_, s, .letters hlen, rfl, rfl⟩
  · obtain ⟨rfl, rfl⟩ := Prod.mk.inj (Option.some.inj (show some (0, 2) = some (n, k) from hs))
    obtain ⟨a, s, ys, e1, rfl, e3⟩ := rows1 hr
    obtain ⟨b, s2, zs, e4, rfl, e3b⟩ := rows1 e3
    obtain ⟨rfl, rfl⟩ := rows0 e3b
    have e1 : r = a.length :: (a ++ s) := e1
    subst e4 e1
    have e0 : (PyUt12.whole ([(3 : Int)] :: [I a, I b])).headD [] = I (3 :: a.length :: (a ++ b.length :: (b ++ []))) := by
      simp [PyUt12.whole, I, List.append_assoc]
    have hx := callOf_I (show Ut12Neutral.callOf (I (3 :: a.length :: (a ++ b.length :: (b ++ [])))) = some x from e0 ▸ hx)
    have hx : ((Ut12Neutral.pairIn (a.length :: (a ++ b.length :: (b ++ [])))).bind fun x => if x.2 = [] then some (Ut12.Call.run x.1) else none) = some x := hx
    rw [pairIn_app, Option.bind_some] at hx
    cases hx
    have hb : (PyInside.lists [(0, 4294967295, 0, 60), (0, 4294967295, 0, 60)] [I a, I b]) = true := hb
    have hlen : a.length ≤ 60 ∧ b.length ≤ 60 := by
      simp [PyInside.lists, I_len] at hb; omega
    exact ⟨_, s2, .run hlen.1 hlen.2, rfl, rfl⟩
  · obtain ⟨rfl, rfl⟩ := Prod.mk.inj (Option.some.inj (show some (0, 3) = some (n, k) from hs))
    obtain ⟨a, s, ys, e1, rfl, e3⟩ := rows1 hr
    obtain ⟨b, s2, zs, e4, rfl, e3b⟩ := rows1 e3
    obtain ⟨u, s3, zs2, e5, rfl, e3c⟩ := rows1 e3b
    obtain ⟨rfl, rfl⟩ := rows0 e3c
    have e1 : r = a.length :: (a ++ s) := e1
    subst e5 e4 e1
    have e0 : (PyUt12.whole ([(4 : Int)] :: [I a, I b, I u])).headD [] = I (4 :: a.length :: (a ++ b.length :: (b ++ u))) := by
      simp [PyUt12.whole, I, List.append_assoc]
    have hx := callOf_I (show Ut12Neutral.callOf (I (4 :: a.length :: (a ++ b.length :: (b ++ u)))) = some x from e0 ▸ hx)
    have hx : ((Ut12Neutral.pairIn (a.length :: (a ++ b.length :: (b ++ u)))).bind fun x => (termIn 12 x.2).bind fun y => if y.2 = [] then some (Ut12.Call.value y.1 x.1) else none) = some x := hx
    rw [pairIn_app, Option.bind_some] at hx
    dsimp only at hx
    have hb : (PyInside.lists [(0, 4294967295, 0, 60), (0, 4294967295, 0, 60), (0, 4294967295, 2, 80)] [I a, I b, I u]) = true := hb
    have hlen : a.length ≤ 60 ∧ b.length ≤ 60 ∧ u.length ≤ 80 := by
      simp [PyInside.lists, I_len] at hb; omega
    cases e1 : termIn 12 u with
    | none => rw [e1] at hx; cases hx
    | some q =>
      obtain ⟨w, l1⟩ := q
      rw [e1, Option.bind_some] at hx
      dsimp only at hx
      by_cases g : l1 = []
      · subst g
        rw [if_pos rfl] at hx
        cases hx
        exact ⟨_, s3, .value hlen.1 hlen.2.1 hlen.2.2 e1, rfl, rfl⟩
      · rw [if_neg g] at hx; cases hx
  · obtain ⟨rfl, rfl⟩ := Prod.mk.inj (Option.some.inj (show some (1, 0) = some (n, k) from hs))
    obtain ⟨rfl, rfl⟩ := rows0 hr
    obtain ⟨a, r, rfl⟩ := len1 hn
    have hx := callOf_I (show Ut12Neutral.callOf (I [5, a]) = some x from hx)
    have hx : some (Ut12.Call.fine a) = some x := hx
    cases hx
    exact ⟨_, r, .fine, rfl, rfl⟩
  · obtain ⟨rfl, rfl⟩ := Prod.mk.inj (Option.some.inj (show some (2, 0) = some (n, k) from hs))
    obtain ⟨rfl, rfl⟩ := rows0 hr
    obtain ⟨a, b, r, rfl⟩ := len2 hn
    have hx := callOf_I (show Ut12Neutral.callOf (I [6, a, b]) = some x from hx)
    have hx : some (Ut12.Call.alone a b) = some x := hx
    cases hx
    exact ⟨_, r, .alone, rfl, rfl⟩
  · obtain ⟨rfl, rfl⟩ := Prod.mk.inj (Option.some.inj (show some (3, 0) = some (n, k) from hs))
    obtain ⟨rfl, rfl⟩ := rows0 hr
    obtain ⟨a, b, c, r, rfl⟩ := len3 hn
    have hx := callOf_I (show Ut12Neutral.callOf (I [7, a, b, c]) = some x from hx)
    have hx : some (Ut12.Call.apart a b c) = some x := hx
    cases hx
    exact ⟨_, r, .apart, rfl, rfl⟩
  · obtain ⟨rfl, rfl⟩ := Prod.mk.inj (Option.some.inj (show some (1, 0) = some (n, k) from hs))
    obtain ⟨rfl, rfl⟩ := rows0 hr
    obtain ⟨a, r, rfl⟩ := len1 hn
    have hx := callOf_I (show Ut12Neutral.callOf (I [8, a]) = some x from hx)
    have hx : some (Ut12.Call.clash a) = some x := hx
    cases hx
    exact ⟨_, r, .clash, rfl, rfl⟩
  · obtain ⟨rfl, rfl⟩ := Prod.mk.inj (Option.some.inj (show some (1, 1) = some (n, k) from hs))
    obtain ⟨z, r, rfl⟩ := len1 hn
    obtain ⟨a, s, ys, e1, rfl, e3⟩ := rows1 hr
    obtain ⟨rfl, rfl⟩ := rows0 e3
    have e1 : r = a.length :: (a ++ s) := e1
    subst e1
    have e0 : (PyUt12.whole ([(9 : Int), (z : Int)] :: [I a])).headD [] = I (9 :: z :: a.length :: (a ++ [])) := by
      simp [PyUt12.whole, I]
    have hx := callOf_I (show Ut12Neutral.callOf (I (9 :: z :: a.length :: (a ++ []))) = some x from e0 ▸ hx)
    have hx : ((Ut12Neutral.sentIn (a.length :: (a ++ []))).bind fun x => if x.2 = [] then some (Ut12.Call.fineFor z x.1) else none) = some x := hx
    rw [sentIn_app, Option.bind_some] at hx
    cases hx
    have hb : (PyInside.within 0 4294967295 (z : Int) && true && PyInside.lists [(0, 4294967295, 0, 60)] [I a]) = true := hb
    have hlen : a.length ≤ 60 := by
      simp [PyInside.lists, I_len] at hb; omega
    exact ⟨_, s, .each hlen, rfl, rfl⟩
  · obtain ⟨rfl, rfl⟩ := Prod.mk.inj (Option.some.inj (show some (0, 0) = some (n, k) from hs))
    obtain ⟨rfl, rfl⟩ := rows0 hr
    have hx := callOf_I (show Ut12Neutral.callOf (I [10]) = some x from hx)
    have hx : some Ut12.Call.checks = some x := hx
    cases hx
    exact ⟨_, r, .checks, rfl, rfl⟩
  · rw [shape_big hp] at hs
    cases hs
/-- all calls -/
theorem all : ∀ (f : Nat) (l : List Nat) (raw : List (List (List Int))), PyFlat.calls PyUt12.shape f (I l) = some raw → raw.all (PyInside.call PyUt12.bound) = true → ((raw.map PyUt12.whole).map fun c => c.headD []).all Ut12Neutral.asked1 = true →
    ∃ xs, Rd l xs ∧ xs.length = raw.length ∧ ∀ s, PyFlat.played (fun s c => Ut12Neutral.step s (c.headD [])) s (raw.map PyUt12.whole) = plays s xs
  | f, [], raw, h, _, _ => by
    have h : some [] = some raw := by cases f <;> exact h
    cases h
    exact ⟨[], .nil, rfl, fun s => rfl⟩
  | 0, p :: l, raw, h, _, _ => by cases h
  | f + 1, p :: l, raw, h, hb, ha => by
    have h : (match PyFlat.call PyUt12.shape (I (p :: l)) with
      | none => none
      | some (c, t) => match PyFlat.calls PyUt12.shape f t with
        | none => none
        | some cs => some (c :: cs)) = some raw := h
    cases e : PyFlat.call PyUt12.shape (I (p :: l)) with
    | none => rw [e] at h; cases h
    | some q =>
      obtain ⟨c, t⟩ := q
      rw [e] at h
      dsimp only at h
      cases e2 : PyFlat.calls PyUt12.shape f t with
      | none => rw [e2] at h; cases h
      | some cs =>
        rw [e2] at h
        cases h
        rw [List.all_cons, Bool.and_eq_true] at hb
        rw [List.map_cons, List.map_cons, List.all_cons, Bool.and_eq_true] at ha
        obtain ⟨x, r, h1, rfl, h3⟩ := one e hb.1 ha.1
        obtain ⟨xs, h4, h5, h6⟩ := all f r cs e2 hb.2 ha.2
        refine ⟨x :: xs, .cons h1 h4, by rw [List.length_cons, List.length_cons, h5], fun s => ?_⟩
        have e3 : Ut12Neutral.step s ((PyUt12.whole c).headD []) = Ut12.step s x := by
          unfold Ut12Neutral.step
          rw [h3]
        show (Ut12Neutral.step s ((PyUt12.whole c).headD [])).2 :: PyFlat.played _ (Ut12Neutral.step s ((PyUt12.whole c).headD [])).1 _ = (Ut12.step s x).2 :: plays (Ut12.step s x).1 xs
        rw [e3, h6]
/-- what is asked, by calls read off the list -/
theorem parsed {ns : List Int} (h0 : ∀ x ∈ ns, 0 ≤ x) (ha : PyUt12.answers_asked ns = true) :
    ∃ cs xs, ns = I cs ∧ Rd cs xs ∧ xs.length ≤ 30 ∧ PyUt12.answers ns = PyFlat.told (plays Ut12.init xs) ∧ (PyFlat.told (plays Ut12.init xs)).length ≤ 10000000 := by
  have e := I_of ns h0
  generalize hcs : ns.map Int.toNat = cs at e
  subst e
  unfold PyUt12.answers_asked at ha
  cases e : PyFlat.calls PyUt12.shape (I cs).length (I cs) with
  | none => rw [e] at ha; cases ha
  | some raw =>
    rw [e] at ha
    have ha : (!raw.isEmpty && PyFlat.atMost 30 raw && PyInside.calls PyUt12.bound raw && Ut12Neutral.asked ((raw.map PyUt12.whole).map fun c => c.headD []) && PyFlat.short 10000000 (PyUt12.answers (I cs))) = true := ha
    rw [Bool.and_eq_true, Bool.and_eq_true, Bool.and_eq_true, Bool.and_eq_true] at ha
    obtain ⟨⟨⟨⟨a1, a2⟩, a3⟩, a4⟩, a5⟩ := ha
    unfold Ut12Neutral.asked at a4
    rw [Bool.and_eq_true] at a4
    obtain ⟨xs, h4, h5, h6⟩ := all _ cs raw e a3 a4.1
    have e3 : PyUt12.answers (I cs) = PyFlat.told (plays Ut12.init xs) := by
      unfold PyUt12.answers PyUt12.calls
      rw [e]
      show PyFlat.told (PyFlat.played (fun s c => Ut12Neutral.step s (c.headD [])) Ut12Neutral.start (raw.map PyUt12.whole)) = _
      rw [h6]
      rfl
    rw [e3] at a5
    exact ⟨cs, xs, rfl, h4, by rw [h5]; exact of_decide_eq_true a2, e3, of_decide_eq_true a5⟩
end Pc

namespace Pc
open Ut12Neutral (termIn condIn)
open Ut12 (Term Cond Check)
/-! ### depths -/
def tdep : Term → Nat
  | .sum a b => Nat.max (tdep a) (tdep b) + 1
  | .by_ _ a => tdep a + 1
  | _ => 1
def cdep : Cond → Nat
  | .both a b => Nat.max (cdep a) (cdep b) + 1
  | .either a b => Nat.max (cdep a) (cdep b) + 1
  | .not_ a => cdep a + 1
  | .atMost a b => Nat.max (tdep a) (tdep b) + 1
  | .same a b => Nat.max (tdep a) (tdep b) + 1
  | _ => 1
/-- a side as a number -/
def bN (b : Bool) : Nat := if b = true then 1 else 0
theorem bit_inv {n : Nat} {b : Bool} (h : Ut12Neutral.bit n = some b) : n = bN b := by
  unfold Ut12Neutral.bit at h
  by_cases c : n = 0
  · rw [if_pos c] at h; cases h; exact c
  · rw [if_neg c] at h
    by_cases d : n = 1
    · rw [if_pos d] at h; cases h; exact d
    · rw [if_neg d] at h; cases h
theorem bit_map {α : Type} {n : Nat} {g : Bool → α} {y : α} (h : (Ut12Neutral.bit n).map g = some y) : ∃ b, n = bN b ∧ g b = y := by
  cases e : Ut12Neutral.bit n with
  | none => rw [e] at h; cases h
  | some b => rw [e] at h; exact ⟨b, bit_inv e, Option.some.inj h⟩
theorem two_inv {α β : Type} {p : List Nat → Option (α × List Nat)} {l : List Nat} {k : α → α → β} {y : β × List Nat} (h : ((p l).bind fun x => (p x.2).map fun y => (k x.1 y.1, y.2)) = some y) :
    ∃ a b m, p l = some (a, m) ∧ p m = some (b, y.2) ∧ y.1 = k a b := by
  cases e : p l with
  | none => rw [e] at h; cases h
  | some q =>
    obtain ⟨a, m⟩ := q
    rw [e, Option.bind_some] at h
    cases e2 : p m with
    | none => dsimp only at h; rw [e2] at h; cases h
    | some q =>
      obtain ⟨b, r⟩ := q
      dsimp only at h
      rw [e2] at h
      cases h
      exact ⟨a, b, m, rfl, e2, rfl⟩
theorem one_inv {α β : Type} {p : List Nat → Option (α × List Nat)} {l : List Nat} {k : α → β} {y : β × List Nat} (h : ((p l).map fun x => (k x.1, x.2)) = some y) :
    ∃ a, p l = some (a, y.2) ∧ y.1 = k a := by
  cases e : p l with
  | none => rw [e] at h; cases h
  | some q =>
    obtain ⟨a, m⟩ := q
    rw [e] at h
    cases h
    exact ⟨a, rfl, rfl⟩
/-- one step of reading a term -/
inductive TStep (f : Nat) : List Nat → Term → List Nat → Prop
  | num {k : Nat} {r : List Nat} : TStep f (0 :: k :: r) (.num k) r
  | long {b : Bool} {r : List Nat} : TStep f (1 :: bN b :: r) (.long b) r
  | times {b : Bool} {w : Nat} {r : List Nat} : TStep f (2 :: bN b :: w :: r) (.times b w) r
  | sum {a b : Term} {l m r : List Nat} : termIn f l = some (a, m) → termIn f m = some (b, r) → TStep f (3 :: l) (.sum a b) r
  | by_ {k : Nat} {a : Term} {l r : List Nat} : termIn f l = some (a, r) → TStep f (4 :: k :: l) (.by_ k a) r
theorem term_inv {f : Nat} {l : List Nat} {t : Term} {r : List Nat} (h : termIn (f + 1) l = some (t, r)) : TStep f l t r := by
  unfold termIn at h
  split at h
  · cases h; exact .num
  · obtain ⟨b, rfl, e⟩ := bit_map h; cases e; exact .long
  · obtain ⟨b, rfl, e⟩ := bit_map h; cases e; exact .times
  · obtain ⟨a, b, m, h1, h2, h3⟩ := two_inv (k := fun x y => Term.sum x y) h; cases h3; exact .sum h1 h2
  · rename_i k r'
    obtain ⟨a, h1, h3⟩ := one_inv (k := fun x => Term.by_ k x) h; cases h3; exact .by_ h1
  · cases h
theorem term_zero {l : List Nat} {x} (h : termIn 0 l = some x) : False := by unfold termIn at h; cases h
theorem cond_zero {l : List Nat} {x} (h : condIn 0 l = some x) : False := by unfold condIn at h; cases h
/-- one step of reading a condition -/
inductive CStep (f : Nat) : List Nat → Cond → List Nat → Prop
  | always {r : List Nat} : CStep f (0 :: r) .always r
  | never {r : List Nat} : CStep f (1 :: r) .never r
  | both {a b : Cond} {l m r : List Nat} : condIn f l = some (a, m) → condIn f m = some (b, r) → CStep f (2 :: l) (.both a b) r
  | either {a b : Cond} {l m r : List Nat} : condIn f l = some (a, m) → condIn f m = some (b, r) → CStep f (3 :: l) (.either a b) r
  | not_ {a : Cond} {l r : List Nat} : condIn f l = some (a, r) → CStep f (4 :: l) (.not_ a) r
  | atMost {a b : Term} {l m r : List Nat} : termIn f l = some (a, m) → termIn f m = some (b, r) → CStep f (5 :: l) (.atMost a b) r
  | same {a b : Term} {l m r : List Nat} : termIn f l = some (a, m) → termIn f m = some (b, r) → CStep f (6 :: l) (.same a b) r
  | begins {b : Bool} {w : Nat} {r : List Nat} : CStep f (7 :: bN b :: w :: r) (.begins b w) r
  | ends {b : Bool} {w : Nat} {r : List Nat} : CStep f (8 :: bN b :: w :: r) (.ends b w) r
  | ahead {b : Bool} {w v : Nat} {r : List Nat} : CStep f (9 :: bN b :: w :: v :: r) (.ahead b w v) r
theorem cond_inv {f : Nat} {l : List Nat} {t : Cond} {r : List Nat} (h : condIn (f + 1) l = some (t, r)) : CStep f l t r := by
  unfold condIn at h
  split at h
  · cases h; exact .always
  · cases h; exact .never
  · obtain ⟨a, b, m, h1, h2, h3⟩ := two_inv (k := fun x y => Cond.both x y) h; cases h3; exact .both h1 h2
  · obtain ⟨a, b, m, h1, h2, h3⟩ := two_inv (k := fun x y => Cond.either x y) h; cases h3; exact .either h1 h2
  · obtain ⟨a, h1, h3⟩ := one_inv (k := fun x => Cond.not_ x) h; cases h3; exact .not_ h1
  · obtain ⟨a, b, m, h1, h2, h3⟩ := two_inv (k := fun x y => Cond.atMost x y) h; cases h3; exact .atMost h1 h2
  · obtain ⟨a, b, m, h1, h2, h3⟩ := two_inv (k := fun x y => Cond.same x y) h; cases h3; exact .same h1 h2
  · obtain ⟨b, rfl, e⟩ := bit_map h; cases e; exact .begins
  · obtain ⟨b, rfl, e⟩ := bit_map h; cases e; exact .ends
  · obtain ⟨b, rfl, e⟩ := bit_map h; cases e; exact .ahead
  · cases h
/-! ### what is small -/
def small (l : List Nat) : Bool := l.all fun n => decide (n ≤ 99)
theorem small_cons (n : Nat) (l : List Nat) : small (n :: l) = (decide (n ≤ 99) && small l) := rfl
theorem small_app (a b : List Nat) : small (a ++ b) = (small a && small b) := List.all_append
theorem small_bN (b : Bool) : decide (bN b ≤ 99) = true := by cases b <;> rfl
theorem term_small : ∀ (f : Nat) (l : List Nat) (t : Term) (r : List Nat), termIn f l = some (t, r) → tdep t ≤ f ∧ ∃ p, l = p ++ r ∧ small p = Ut12.termOk t
  | 0, _, _, _, h => (term_zero h).elim
  | f + 1, l, t, r, h => by
    cases term_inv h with
    | num => exact ⟨by simp [tdep], [0, _], rfl, by simp [small, Ut12.termOk]⟩
    | @long b => exact ⟨by simp [tdep], [1, _], rfl, by simp [small, Ut12.termOk, bN]; cases b <;> decide⟩
    | @times b => exact ⟨by simp [tdep], [2, _, _], rfl, by simp [small, Ut12.termOk, bN]; cases b <;> simp⟩
    | sum h1 h2 =>
      obtain ⟨d1, p1, rfl, s1⟩ := term_small f _ _ _ h1
      obtain ⟨d2, p2, rfl, s2⟩ := term_small f _ _ _ h2
      refine ⟨Nat.succ_le_succ (Nat.max_le.mpr ⟨d1, d2⟩), 3 :: (p1 ++ p2), by simp, ?_⟩
      rw [small_cons, small_app, s1, s2]
      rfl
    | by_ h1 =>
      obtain ⟨d1, p1, rfl, s1⟩ := term_small f _ _ _ h1
      refine ⟨Nat.succ_le_succ d1, 4 :: _ :: p1, rfl, ?_⟩
      rw [small_cons, small_cons, s1]
      rfl
theorem cond_small : ∀ (f : Nat) (l : List Nat) (t : Cond) (r : List Nat), condIn f l = some (t, r) → cdep t ≤ f ∧ ∃ p, l = p ++ r ∧ small p = Ut12.condOk t
  | 0, _, _, _, h => (cond_zero h).elim
  | f + 1, l, t, r, h => by
    cases cond_inv h with
    | always => exact ⟨by simp [cdep], [0], rfl, rfl⟩
    | never => exact ⟨by simp [cdep], [1], rfl, rfl⟩
    | both h1 h2 =>
      obtain ⟨d1, p1, rfl, s1⟩ := cond_small f _ _ _ h1
      obtain ⟨d2, p2, rfl, s2⟩ := cond_small f _ _ _ h2
      refine ⟨Nat.succ_le_succ (Nat.max_le.mpr ⟨d1, d2⟩), 2 :: (p1 ++ p2), by simp, ?_⟩
      rw [small_cons, small_app, s1, s2]
      rfl
    | either h1 h2 =>
      obtain ⟨d1, p1, rfl, s1⟩ := cond_small f _ _ _ h1
      obtain ⟨d2, p2, rfl, s2⟩ := cond_small f _ _ _ h2
      refine ⟨Nat.succ_le_succ (Nat.max_le.mpr ⟨d1, d2⟩), 3 :: (p1 ++ p2), by simp, ?_⟩
      rw [small_cons, small_app, s1, s2]
      rfl
    | not_ h1 =>
      obtain ⟨d1, p1, rfl, s1⟩ := cond_small f _ _ _ h1
      refine ⟨Nat.succ_le_succ d1, 4 :: p1, rfl, ?_⟩
      rw [small_cons, s1]
      rfl
    | atMost h1 h2 =>
      obtain ⟨d1, p1, rfl, s1⟩ := term_small f _ _ _ h1
      obtain ⟨d2, p2, rfl, s2⟩ := term_small f _ _ _ h2
      refine ⟨Nat.succ_le_succ (Nat.max_le.mpr ⟨d1, d2⟩), 5 :: (p1 ++ p2), by simp, ?_⟩
      rw [small_cons, small_app, s1, s2]
      rfl
    | same h1 h2 =>
      obtain ⟨d1, p1, rfl, s1⟩ := term_small f _ _ _ h1
      obtain ⟨d2, p2, rfl, s2⟩ := term_small f _ _ _ h2
      refine ⟨Nat.succ_le_succ (Nat.max_le.mpr ⟨d1, d2⟩), 6 :: (p1 ++ p2), by simp, ?_⟩
      rw [small_cons, small_app, s1, s2]
      rfl
    | @begins b w => exact ⟨by simp [cdep], [7, _, _], rfl, by rw [small_cons, small_cons, small_bN]; simp [small, Ut12.condOk]⟩
    | @ends b w => exact ⟨by simp [cdep], [8, _, _], rfl, by rw [small_cons, small_cons, small_bN]; simp [small, Ut12.condOk]⟩
    | @ahead b w v => exact ⟨by simp [cdep], [9, _, _, _], rfl, by rw [small_cons, small_cons, small_bN]; simp [small, Ut12.condOk]⟩
theorem check_small {row l1 : List Nat} {w m : Cond} (h1 : condIn 12 row = some (w, l1)) (h2 : condIn 12 l1 = some (m, [])) : small row = (Ut12.condOk w && Ut12.condOk m) := by
  obtain ⟨_, p1, rfl, s1⟩ := cond_small 12 _ _ _ h1
  obtain ⟨_, p2, rfl, s2⟩ := cond_small 12 _ _ _ h2
  rw [small_app, s1, List.append_nil, s2]
theorem value_small {row : List Nat} {t : Term} (h1 : termIn 12 row = some (t, [])) : small row = Ut12.termOk t := by
  obtain ⟨_, p1, rfl, s1⟩ := term_small 12 _ _ _ h1
  rw [List.append_nil, s1]
/-! ### each_is_followed -/
def waitStep (a v : Nat) (w : Bool) (x : Nat) : Bool := if x = a then true else if x = v then false else w
theorem waits_ahead (a v : Nat) : ∀ (s : List Nat) (w : Bool), (!(s.foldl (waitStep a v) w)) = ((!w || s.contains v) && Ut12.aheadOf s a v)
  | [], w => by cases w <;> rfl
  | x :: l, w => by
    rw [List.foldl_cons, waits_ahead a v l, List.contains_cons]
    show _ = ((!w || (v == x || l.contains v)) && ((x != a || l.contains v) && Ut12.aheadOf l a v))
    unfold waitStep
    by_cases h : x = a
    · rw [if_pos h]
      subst h
      cases w <;> cases l.contains v <;> cases Ut12.aheadOf l x v <;> simp
    · rw [if_neg h]
      have e : (x != a) = true := by simp [h]
      rw [e]
      by_cases g : x = v
      · subst g
        rw [if_pos rfl]
        cases w <;> cases l.contains x <;> cases Ut12.aheadOf l a x <;> simp
      · rw [if_neg g]
        have e : (v == x) = false := by simp; exact fun z => g z.symm
        rw [e]
        cases w <;> cases l.contains v <;> cases Ut12.aheadOf l a v <;> rfl
theorem followed (a v : Nat) (s : List Nat) : (!(s.foldl (waitStep a v) false)) = Ut12.aheadOf s a v := by
  rw [waits_ahead]
  simp
/-! ### rising -/
theorem rising_iff : ∀ (l : List Nat), Ut12.rising l = true ↔ ∀ i x y, l[i]? = some x → l[i + 1]? = some y → x < y
  | [] => by simp [Ut12.rising]
  | [a] => by simp [Ut12.rising]
  | a :: b :: l => by
    have ih := rising_iff (b :: l)
    show (decide (a < b) && Ut12.rising (b :: l)) = true ↔ _
    rw [Bool.and_eq_true, ih]
    constructor
    · rintro ⟨h1, h2⟩ i x y hx hy
      cases i with
      | zero =>
        cases hx
        cases hy
        exact of_decide_eq_true h1
      | succ i => exact h2 i x y hx hy
    · intro h
      exact ⟨decide_eq_true (h 0 a b rfl rfl), fun i x y hx hy => h (i + 1) x y hx hy⟩
/-! ### how many sentences -/
theorem many_zero (a : Nat) : Ut12.many a 0 = 1 := by simp [Ut12.many, List.range_succ]
theorem many_succ (a n : Nat) : Ut12.many a (n + 1) = Ut12.many a n + a ^ (n + 1) := by
  unfold Ut12.many
  rw [List.range_succ (n := n + 1), List.map_append, List.sum_append]
  simp
/-! ### sentences in order -/
def longer (l : List (List Nat)) (a : List Nat) : List (List Nat) := l.flatMap fun s => a.map fun c => s ++ [c]
theorem words_succ (a : List Nat) : ∀ n, Ut12.words a (n + 1) = longer (Ut12.words a n) a
  | 0 => by
    show (a.flatMap fun c => [c :: []]) = longer [[]] a
    unfold longer
    simp
    induction a with
    | nil => rfl
    | cons x a ih => simp [ih]
  | n + 1 => by
    show (a.flatMap fun c => (Ut12.words a (n + 1)).map fun w => c :: w) = longer (a.flatMap fun c => (Ut12.words a n).map fun w => c :: w) a
    rw [words_succ a n]
    unfold longer
    rw [List.flatMap_assoc]
    refine congrArg (fun f => a.flatMap f) (funext fun c => ?_)
    rw [List.map_flatMap, List.flatMap_map]
    refine congrArg (fun f => (Ut12.words a n).flatMap f) (funext fun s => ?_)
    simp
theorem upTo_zero (a : List Nat) : Ut12.upTo a 0 = [[]] := by simp [Ut12.upTo, List.range_succ, Ut12.words]
theorem upTo_succ (a : List Nat) (n : Nat) : Ut12.upTo a (n + 1) = Ut12.upTo a n ++ Ut12.words a (n + 1) := by
  unfold Ut12.upTo
  rw [List.range_succ (n := n + 1), List.flatMap_append]
  simp
theorem sum_const {α : Type} (c : Nat) : ∀ (l : List α), (l.map fun _ => c).sum = l.length * c
  | [] => by simp
  | x :: l => by rw [List.map_cons, List.sum_cons, sum_const c l, List.length_cons, Nat.succ_mul, Nat.add_comm]
theorem words_len (a : List Nat) : ∀ n, (Ut12.words a n).length = a.length ^ n
  | 0 => rfl
  | n + 1 => by
    show (a.flatMap fun c => (Ut12.words a n).map fun w => c :: w).length = _
    rw [List.length_flatMap]
    simp only [List.length_map, words_len a n]
    rw [sum_const, Nat.pow_succ, Nat.mul_comm]
theorem upTo_len (a : List Nat) : ∀ n, (Ut12.upTo a n).length = Ut12.many a.length n
  | 0 => by rw [upTo_zero, many_zero]; rfl
  | n + 1 => by rw [upTo_succ, many_succ, List.length_append, upTo_len a n, words_len]
theorem words_each (a : List Nat) : ∀ n, ∀ s ∈ Ut12.words a n, s.length = n ∧ ∀ x ∈ s, x ∈ a
  | 0, s, h => by
    have h : s ∈ [[]] := h
    simp at h
    subst h
    exact ⟨rfl, fun x h => by cases h⟩
  | n + 1, s, h => by
    have h : s ∈ a.flatMap fun c => (Ut12.words a n).map fun w => c :: w := h
    rw [List.mem_flatMap] at h
    obtain ⟨c, hc, h⟩ := h
    rw [List.mem_map] at h
    obtain ⟨w, hw, rfl⟩ := h
    obtain ⟨h1, h2⟩ := words_each a n w hw
    refine ⟨by rw [List.length_cons, h1], fun x hx => ?_⟩
    cases hx with
    | head => exact hc
    | tail _ hx => exact h2 x hx
theorem upTo_each (a : List Nat) (n : Nat) (s : List Nat) (h : s ∈ Ut12.upTo a n) : s.length ≤ n ∧ ∀ x ∈ s, x ∈ a := by
  unfold Ut12.upTo at h
  rw [List.mem_flatMap] at h
  obtain ⟨k, hk, h⟩ := h
  rw [List.mem_range] at hk
  obtain ⟨h1, h2⟩ := words_each a k s h
  exact ⟨by omega, h2⟩
/-! ### searching pairs -/
theorem find_pairs {α : Type} (u : List α) (p : α × α → Bool) : ∀ (v : List α), (v.flatMap fun s => u.map fun t => (s, t)).find? p = v.findSome? fun s => (u.find? fun t => p (s, t)).map fun t => (s, t)
  | [] => rfl
  | s :: v => by
    rw [List.flatMap_cons, List.find?_append, find_pairs u p v, List.findSome?_cons, List.find?_map]
    cases e : u.find? (p ∘ fun t => (s, t)) with
    | none =>
      have e2 : (u.find? fun t => p (s, t)) = none := e
      rw [e2]
      rfl
    | some t =>
      have e2 : (u.find? fun t => p (s, t)) = some t := e
      rw [e2]
      rfl
end Pc

/-! the rows of so many numbers, one number longer each time -/
namespace Pc
def above (c : List Nat) (x : Nat) : Bool := match c.getLast? with
  | none => true
  | some y => decide (y < x)
def ext1 (l c : List Nat) : List (List Nat) := (l.filter (above c)).map fun x => c ++ [x]
def longerN (cs : List (List Nat)) (l : List Nat) : List (List Nat) := cs.flatMap (ext1 l)
theorem choices_each : ∀ (k : Nat) (l c : List Nat), c ∈ Ut12.choices k l → c.length = k ∧ ∀ x ∈ c, x ∈ l
  | 0, l, c, h => by
    have e : Ut12.choices 0 l = [[]] := by cases l <;> rfl
    rw [e] at h
    rw [List.mem_singleton.mp h]
    exact ⟨rfl, fun x hx => by cases hx⟩
  | k + 1, [], c, h => by cases h
  | k + 1, n :: l, c, h => by
    have e : Ut12.choices (k + 1) (n :: l) = (Ut12.choices k l).map (fun c => n :: c) ++ Ut12.choices (k + 1) l := rfl
    rw [e] at h
    rcases List.mem_append.mp h with h | h
    · obtain ⟨d, hd, rfl⟩ := List.mem_map.mp h
      obtain ⟨h1, h2⟩ := choices_each k l d hd
      refine ⟨by rw [List.length_cons, h1], fun x hx => ?_⟩
      rcases List.mem_cons.mp hx with h | h
      · rw [h]; exact List.mem_cons_self
      · exact List.mem_cons_of_mem _ (h2 x h)
    · obtain ⟨h1, h2⟩ := choices_each (k + 1) l c h
      exact ⟨h1, fun x hx => List.mem_cons_of_mem _ (h2 x hx)⟩
theorem choices_zero (l : List Nat) : Ut12.choices 0 l = [[]] := by cases l <;> rfl
theorem above_nil (x : Nat) : above [] x = true := rfl
theorem above_cons {n : Nat} {c : List Nat} (x : Nat) (h : c ≠ []) : above (n :: c) x = above c x := by
  unfold above
  rw [List.getLast?_cons]
  cases e : c.getLast? with
  | none => exact absurd (List.getLast?_eq_none_iff.mp e) h
  | some y => rfl
theorem above_out {n : Nat} {c l : List Nat} (hn : ∀ x ∈ l, n < x) (hc : ∀ x ∈ c, x ∈ l) (h : c ≠ []) : above c n = false := by
  unfold above
  cases e : c.getLast? with
  | none => exact absurd (List.getLast?_eq_none_iff.mp e) h
  | some y =>
    have h1 := hn y (hc y (List.mem_of_getLast? e))
    show decide (y < n) = false
    rw [decide_eq_false_iff_not]
    omega
theorem ext_out {n : Nat} {c l : List Nat} (hn : ∀ x ∈ l, n < x) (hc : ∀ x ∈ c, x ∈ l) (h : c ≠ []) : ext1 (n :: l) c = ext1 l c := by
  unfold ext1
  rw [List.filter_cons, above_out hn hc h]
  rfl
theorem ext_in {n : Nat} {c l : List Nat} (hn : ∀ x ∈ l, n < x) (hc : ∀ x ∈ c, x ∈ l) : ext1 (n :: l) (n :: c) = (ext1 l c).map fun d => n :: d := by
  have e0 : above (n :: c) n = false := by
    by_cases h : c = []
    · subst h
      show decide (n < n) = false
      rw [decide_eq_false_iff_not]
      omega
    · rw [above_cons n h]
      exact above_out hn hc h
  unfold ext1
  rw [List.filter_cons, e0, List.map_map]
  have e1 : l.filter (above (n :: c)) = l.filter (above c) := by
    refine List.filter_congr fun x hx => ?_
    by_cases h : c = []
    · subst h
      show decide (n < x) = true
      exact decide_eq_true (hn x hx)
    · exact above_cons x h
  simp only [Bool.false_eq_true, if_false]
  rw [e1]
  rfl
theorem flat_congr {α β : Type} {f g : α → List β} : ∀ {l : List α}, (∀ x ∈ l, f x = g x) → l.flatMap f = l.flatMap g
  | [], _ => rfl
  | a :: l, h => by
    rw [List.flatMap_cons, List.flatMap_cons, h a List.mem_cons_self, flat_congr fun x hx => h x (List.mem_cons_of_mem _ hx)]
theorem flat_map {α β γ : Type} {f : α → List β} {g : β → γ} (l : List α) : (l.flatMap f).map g = l.flatMap fun x => (f x).map g := by
  induction l with
  | nil => rfl
  | cons a l ih => rw [List.flatMap_cons, List.map_append, ih, List.flatMap_cons]
theorem map_flat {α β γ : Type} {f : β → List γ} {g : α → β} (l : List α) : (l.map g).flatMap f = l.flatMap fun x => f (g x) := by
  induction l with
  | nil => rfl
  | cons a l ih => rw [List.map_cons, List.flatMap_cons, ih, List.flatMap_cons]
theorem choices_succ : ∀ (l : List Nat), l.Pairwise (· < ·) → ∀ k, Ut12.choices (k + 1) l = longerN (Ut12.choices k l) l
  | [], _, k => by
    show [] = longerN (Ut12.choices k []) []
    cases k with
    | zero => rfl
    | succ k => rfl
  | n :: l, hp, k => by
    obtain ⟨hn, hp'⟩ := List.pairwise_cons.mp hp
    have e : Ut12.choices (k + 1) (n :: l) = (Ut12.choices k l).map (fun c => n :: c) ++ Ut12.choices (k + 1) l := rfl
    cases k with
    | zero =>
      rw [e, choices_zero, choices_succ l hp' 0, choices_zero, choices_zero]
      show [[n]] ++ longerN [[]] l = longerN [[]] (n :: l)
      unfold longerN ext1
      simp only [List.flatMap_cons, List.flatMap_nil, List.append_nil]
      rw [List.filter_cons]
      rfl
    | succ k =>
      have e2 : Ut12.choices (k + 1) (n :: l) = (Ut12.choices k l).map (fun c => n :: c) ++ Ut12.choices (k + 1) l := rfl
      rw [e, e2]
      unfold longerN
      rw [List.flatMap_append, map_flat]
      have h1 : ((Ut12.choices k l).flatMap fun c => ext1 (n :: l) (n :: c)) = (Ut12.choices (k + 1) l).map fun c => n :: c := by
        rw [choices_succ l hp' k]
        unfold longerN
        rw [flat_map]
        exact flat_congr fun c hc => ext_in hn (choices_each k l c hc).2
      have h2 : (Ut12.choices (k + 1) l).flatMap (ext1 (n :: l)) = Ut12.choices (k + 1 + 1) l := by
        rw [choices_succ l hp' (k + 1)]
        unfold longerN
        refine flat_congr fun c hc => ext_out hn (choices_each (k + 1) l c hc).2 fun z => ?_
        have := (choices_each (k + 1) l c hc).1
        rw [z] at this
        cases this
      rw [h1, h2]
theorem choices_none : ∀ (l : List Nat) (k : Nat), l.length < k → Ut12.choices k l = []
  | _, 0, h => by omega
  | [], k + 1, _ => rfl
  | n :: l, k + 1, h => by
    have h : l.length < k := by rw [List.length_cons] at h; omega
    show (Ut12.choices k l).map (fun c => n :: c) ++ Ut12.choices (k + 1) l = []
    rw [choices_none l k h, choices_none l (k + 1) (by omega)]
    rfl
theorem choices_some : ∀ (l : List Nat) (k : Nat), k ≤ l.length → Ut12.choices k l ≠ []
  | l, 0, _ => by rw [choices_zero]; intro z; cases z
  | [], k + 1, h => by simp at h
  | n :: l, k + 1, h => by
    have h : k ≤ l.length := by rw [List.length_cons] at h; omega
    show (Ut12.choices k l).map (fun c => n :: c) ++ Ut12.choices (k + 1) l ≠ []
    intro z
    exact choices_some l k h (List.map_eq_nil_iff.mp (List.append_eq_nil_iff.mp z).1)
theorem choices_few : ∀ (l : List Nat) (k : Nat), (Ut12.choices k l).length ≤ 2 ^ l.length
  | l, 0 => by
    rw [choices_zero]
    exact Nat.one_le_two_pow
  | [], k + 1 => by
    exact Nat.zero_le _
  | n :: l, k + 1 => by
    show ((Ut12.choices k l).map (fun c => n :: c) ++ Ut12.choices (k + 1) l).length ≤ 2 ^ (l.length + 1)
    rw [List.length_append, List.length_map, Nat.pow_succ]
    have := choices_few l k
    have := choices_few l (k + 1)
    omega
/-- the fewest that each row has one of -/
def inEach (ks : List (List Nat)) (c : List Nat) : Bool := ks.all fun x => c.any fun k => x.contains k
def fewest (ks : List (List Nat)) (l : List Nat) : Option (List Nat) := ((List.range (l.length + 1)).flatMap fun k => Ut12.choices k l).find? (inEach ks)
theorem find_flat {α : Type} (p : α → Bool) (f : Nat → List α) : ∀ (n : Nat), (∀ k < n, ∀ c ∈ f k, p c = false) → ∀ m, ((List.range (n + m)).flatMap f).find? p = (((List.range m).map fun k => n + k).flatMap f).find? p
  | n, h, m => by
    have e : List.range (n + m) = List.range n ++ (List.range m).map fun k => n + k := List.range_add
    rw [e, List.flatMap_append, List.find?_append]
    have e2 : ((List.range n).flatMap f).find? p = none := by
      rw [List.find?_eq_none]
      intro c hc
      obtain ⟨k, hk, hc⟩ := List.mem_flatMap.mp hc
      rw [h k (List.mem_range.mp hk) c hc]
      decide
    rw [e2]
    rfl
/-- found in the k-th row of choices, none ahead -/
theorem fewest_at {ks : List (List Nat)} {l c : List Nat} {k i : Nat} (h : ∀ j < k, ∀ c ∈ Ut12.choices j l, inEach ks c = false) (hi : (Ut12.choices k l)[i]? = some c) (hc : inEach ks c = true) (hn : ∀ x ∈ (Ut12.choices k l).take i, inEach ks x = false) : fewest ks l = some c := by
  have hk : k ≤ l.length := by
    rcases Nat.lt_or_ge l.length k with z | z
    · rw [choices_none l k z] at hi
      cases hi
    · exact z
  unfold fewest
  have e := find_flat (inEach ks) (fun k => Ut12.choices k l) k h (l.length + 1 - k)
  rw [Nat.add_sub_cancel' (by omega)] at e
  rw [e]
  have e2 : l.length + 1 - k = (l.length - k) + 1 := by omega
  rw [e2, List.range_succ_eq_map, List.map_cons, List.flatMap_cons, List.find?_append]
  have e3 : (Ut12.choices (k + 0) l).find? (inEach ks) = some c := by
    rw [Nat.add_zero]
    obtain ⟨a, b, e4⟩ : ∃ a b, Ut12.choices k l = a ++ c :: b ∧ a = (Ut12.choices k l).take i := by
      have hi2 := (List.getElem?_eq_some_iff.mp hi)
      refine ⟨(Ut12.choices k l).take i, (Ut12.choices k l).drop (i + 1), ?_, rfl⟩
      conv => lhs; rw [← List.take_append_drop i (Ut12.choices k l)]
      rw [List.drop_eq_getElem_cons hi2.1, hi2.2]
    rw [e4.1, List.find?_append, List.find?_eq_none.mpr (fun x hx => by rw [hn x (e4.2 ▸ hx)]; decide), List.find?_cons_of_pos hc]
    rfl
  rw [e3]
  rfl
theorem fewest_none {ks : List (List Nat)} {l : List Nat} {k : Nat} (h : ∀ j < k, ∀ c ∈ Ut12.choices j l, inEach ks c = false) (hk : Ut12.choices k l = []) : fewest ks l = none := by
  have hk2 : l.length < k := by
    rcases Nat.lt_or_ge l.length k with z | z
    · exact z
    · exact absurd hk (choices_some l k z)
  unfold fewest
  rw [List.find?_eq_none]
  intro c hc
  obtain ⟨j, hj, hc⟩ := List.mem_flatMap.mp hc
  rw [h j (by have := List.mem_range.mp hj; omega) c hc]
  decide
theorem inEach_congr {ks ms : List (List Nat)} (h : ∀ x, x ∈ ks ↔ x ∈ ms) (c : List Nat) : inEach ks c = inEach ms c := by
  unfold inEach
  rw [Bool.eq_iff_iff, List.all_eq_true, List.all_eq_true]
  exact ⟨fun z x hx => z x ((h x).mpr hx), fun z x hx => z x ((h x).mp hx)⟩
theorem clash_fewest (l : List Ut12.Check) (a : List Nat) (n : Nat) {ks : List (List Nat)} (h : ∀ x, x ∈ ks ↔ x ∈ (Ut12.pairs a n).map fun p => Ut12.broken l p) : Ut12.clash l a n = fewest ks (l.map fun c => c.number) := by
  unfold Ut12.clash fewest
  rw [List.length_map]
  have e : inEach ks = inEach ((Ut12.pairs a n).map fun p => Ut12.broken l p) := funext fun c => inEach_congr h c
  rw [e]
  rfl
end Pc

namespace Pc
open PySem PySem.Spec PyProof.Rows L2
/-! ### the text by places -/
def top (i : Nat) : Stmt := PySem.Challenge.pw_pairchecks_s01_answers.main.body.getD i (.Pass ⟨0, 0, 0, 0⟩)
abbrev s_fewest_in_each : Stmt := top 1
abbrev s_is_in_each : Stmt := top 2
abbrev s_share_one : Stmt := top 3
abbrev s_one_number_longer : Stmt := top 4
abbrev s_read_term : Stmt := top 10
abbrev s_term_value : Stmt := top 11
abbrev s_read_check : Stmt := top 23
abbrev s_read_condition : Stmt := top 24
abbrev s_breaks : Stmt := top 25
abbrev s_holds : Stmt := top 26
abbrev s_holds_of_words : Stmt := top 27
abbrev s_each_is_followed : Stmt := top 28
abbrev s_Reader___init__ : Stmt := inClass (top 30) 0
abbrev s_Reader_at_end : Stmt := inClass (top 30) 1
abbrev s_Reader_number : Stmt := inClass (top 30) 2
abbrev s_Reader_row : Stmt := inClass (top 30) 3
abbrev s_are_small : Stmt := top 37
abbrev s_is_sentence : Stmt := top 38
abbrev s_are_letters : Stmt := top 39
abbrev s_are_rising : Stmt := top 40
abbrev s_can_be_searched : Stmt := top 41
abbrev s_count_sentences : Stmt := top 42
abbrev s_sentences_in_order : Stmt := top 43
abbrev s_one_word_longer : Stmt := top 44
abbrev s_pairs_in_order : Stmt := top 45
abbrev s_Office___init__ : Stmt := inClass (top 64) 0
abbrev s_Office_check : Stmt := inClass (top 64) 1
abbrev s_Office_gone : Stmt := inClass (top 64) 2
abbrev s_Office_letters : Stmt := inClass (top 64) 3
abbrev s_Office_run : Stmt := inClass (top 64) 4
abbrev s_Office_value : Stmt := inClass (top 64) 5
abbrev s_Office_fine : Stmt := inClass (top 64) 6
abbrev s_Office_alone : Stmt := inClass (top 64) 7
abbrev s_Office_apart : Stmt := inClass (top 64) 8
abbrev s_Office_clash : Stmt := inClass (top 64) 9
abbrev s_Office_each : Stmt := inClass (top 64) 10
abbrev s_Office_checks : Stmt := inClass (top 64) 11
abbrev s_Office_first_pair : Stmt := inClass (top 64) 12
abbrev s_Office_broken_by : Stmt := inClass (top 64) 13
abbrev s_Office_is_kept_by : Stmt := inClass (top 64) 14
abbrev s_counted : Stmt := top 65
abbrev s_answers : Stmt := top 66
abbrev s_answer_call : Stmt := top 67
abbrev s_answer_about_pair : Stmt := top 68
abbrev s_answer_search : Stmt := top 69
theorem sc_fewest_in_each : FnScope ["rows", "numbers", "choices", "choice"] ["rows", "numbers"] (defScope s_fewest_in_each) := ⟨rfl, rfl, rfl, by decide +kernel, rfl, by decide +kernel, by decide +kernel⟩
theorem sc_is_in_each : FnScope ["choice", "rows", "row"] ["choice", "rows"] (defScope s_is_in_each) := ⟨rfl, rfl, rfl, by decide +kernel, rfl, by decide +kernel, by decide +kernel⟩
theorem sc_share_one : FnScope ["numbers", "others", "number"] ["numbers", "others"] (defScope s_share_one) := ⟨rfl, rfl, rfl, by decide +kernel, rfl, by decide +kernel, by decide +kernel⟩
theorem sc_one_number_longer : FnScope ["choices", "numbers", "longer", "choice", "number"] ["choices", "numbers"] (defScope s_one_number_longer) := ⟨rfl, rfl, rfl, by decide +kernel, rfl, by decide +kernel, by decide +kernel⟩
theorem sc_read_term : FnScope ["reader", "kind", "side", "first", "factor"] ["reader"] (defScope s_read_term) := ⟨rfl, rfl, rfl, by decide +kernel, rfl, by decide +kernel, by decide +kernel⟩
theorem sc_term_value : FnScope ["term", "pair", "kind"] ["term", "pair"] (defScope s_term_value) := ⟨rfl, rfl, rfl, by decide +kernel, rfl, by decide +kernel, by decide +kernel⟩
theorem sc_read_check : FnScope ["reader", "when"] ["reader"] (defScope s_read_check) := ⟨rfl, rfl, rfl, by decide +kernel, rfl, by decide +kernel, by decide +kernel⟩
theorem sc_read_condition : FnScope ["reader", "kind", "first", "side", "word"] ["reader"] (defScope s_read_condition) := ⟨rfl, rfl, rfl, by decide +kernel, rfl, by decide +kernel, by decide +kernel⟩
theorem sc_breaks : FnScope ["pair", "check"] ["pair", "check"] (defScope s_breaks) := ⟨rfl, rfl, rfl, by decide +kernel, rfl, by decide +kernel, by decide +kernel⟩
theorem sc_holds : FnScope ["condition", "pair", "kind"] ["condition", "pair"] (defScope s_holds) := ⟨rfl, rfl, rfl, by decide +kernel, rfl, by decide +kernel, by decide +kernel⟩
theorem sc_holds_of_words : FnScope ["condition", "words", "kind"] ["condition", "words"] (defScope s_holds_of_words) := ⟨rfl, rfl, rfl, by decide +kernel, rfl, by decide +kernel, by decide +kernel⟩
theorem sc_each_is_followed : FnScope ["words", "first", "second", "waits", "word"] ["words", "first", "second"] (defScope s_each_is_followed) := ⟨rfl, rfl, rfl, by decide +kernel, rfl, by decide +kernel, by decide +kernel⟩
theorem sc_Reader___init__ : FnScope ["self", "numbers"] ["self", "numbers"] (defScope s_Reader___init__) := ⟨rfl, rfl, rfl, by decide +kernel, rfl, by decide +kernel, by decide +kernel⟩
theorem sc_Reader_at_end : FnScope ["self"] ["self"] (defScope s_Reader_at_end) := ⟨rfl, rfl, rfl, by decide +kernel, rfl, by decide +kernel, by decide +kernel⟩
theorem sc_Reader_number : FnScope ["self"] ["self"] (defScope s_Reader_number) := ⟨rfl, rfl, rfl, by decide +kernel, rfl, by decide +kernel, by decide +kernel⟩
theorem sc_Reader_row : FnScope ["self", "size", "start"] ["self"] (defScope s_Reader_row) := ⟨rfl, rfl, rfl, by decide +kernel, rfl, by decide +kernel, by decide +kernel⟩
theorem sc_are_small : FnScope ["numbers", "number"] ["numbers"] (defScope s_are_small) := ⟨rfl, rfl, rfl, by decide +kernel, rfl, by decide +kernel, by decide +kernel⟩
theorem sc_is_sentence : FnScope ["words"] ["words"] (defScope s_is_sentence) := ⟨rfl, rfl, rfl, by decide +kernel, rfl, by decide +kernel, by decide +kernel⟩
theorem sc_are_letters : FnScope ["numbers"] ["numbers"] (defScope s_are_letters) := ⟨rfl, rfl, rfl, by decide +kernel, rfl, by decide +kernel, by decide +kernel⟩
theorem sc_are_rising : FnScope ["numbers", "place"] ["numbers"] (defScope s_are_rising) := ⟨rfl, rfl, rfl, by decide +kernel, rfl, by decide +kernel, by decide +kernel⟩
theorem sc_can_be_searched : FnScope ["letters", "most_words"] ["letters", "most_words"] (defScope s_can_be_searched) := ⟨rfl, rfl, rfl, by decide +kernel, rfl, by decide +kernel, by decide +kernel⟩
theorem sc_count_sentences : FnScope ["letter_count", "most_words", "total", "as_long", "length"] ["letter_count", "most_words"] (defScope s_count_sentences) := ⟨rfl, rfl, rfl, by decide +kernel, rfl, by decide +kernel, by decide +kernel⟩
theorem sc_sentences_in_order : FnScope ["letters", "most_words", "sentences", "as_long", "length"] ["letters", "most_words"] (defScope s_sentences_in_order) := ⟨rfl, rfl, rfl, by decide +kernel, rfl, by decide +kernel, by decide +kernel⟩
theorem sc_one_word_longer : FnScope ["sentences", "letters", "longer", "sentence", "letter"] ["sentences", "letters"] (defScope s_one_word_longer) := ⟨rfl, rfl, rfl, by decide +kernel, rfl, by decide +kernel, by decide +kernel⟩
theorem sc_pairs_in_order : FnScope ["letters", "most_words", "sentences", "pairs", "sentence", "translation"] ["letters", "most_words"] (defScope s_pairs_in_order) := ⟨rfl, rfl, rfl, by decide +kernel, rfl, by decide +kernel, by decide +kernel⟩
theorem sc_Office___init__ : FnScope ["self"] ["self"] (defScope s_Office___init__) := ⟨rfl, rfl, rfl, by decide +kernel, rfl, by decide +kernel, by decide +kernel⟩
theorem sc_Office_check : FnScope ["self", "conditions", "number"] ["self", "conditions"] (defScope s_Office_check) := ⟨rfl, rfl, rfl, by decide +kernel, rfl, by decide +kernel, by decide +kernel⟩
theorem sc_Office_gone : FnScope ["self", "number"] ["self", "number"] (defScope s_Office_gone) := ⟨rfl, rfl, rfl, by decide +kernel, rfl, by decide +kernel, by decide +kernel⟩
theorem sc_Office_letters : FnScope ["self", "alphabet"] ["self", "alphabet"] (defScope s_Office_letters) := ⟨rfl, rfl, rfl, by decide +kernel, rfl, by decide +kernel, by decide +kernel⟩
theorem sc_Office_run : FnScope ["self", "sentence", "translation"] ["self", "sentence", "translation"] (defScope s_Office_run) := ⟨rfl, rfl, rfl, by decide +kernel, rfl, by decide +kernel, by decide +kernel⟩
theorem sc_Office_value : FnScope ["self", "sentence", "translation", "term"] ["self", "sentence", "translation", "term"] (defScope s_Office_value) := ⟨rfl, rfl, rfl, by decide +kernel, rfl, by decide +kernel, by decide +kernel⟩
theorem sc_Office_fine : FnScope ["self", "most_words"] ["self", "most_words"] (defScope s_Office_fine) := ⟨rfl, rfl, rfl, by decide +kernel, rfl, by decide +kernel, by decide +kernel⟩
theorem sc_Office_alone : FnScope ["self", "number", "most_words"] ["self", "number", "most_words"] (defScope s_Office_alone) := ⟨rfl, rfl, rfl, by decide +kernel, rfl, by decide +kernel, by decide +kernel⟩
theorem sc_Office_apart : FnScope ["self", "number", "other", "most_words", "one", "two"] ["self", "number", "other", "most_words"] (defScope s_Office_apart) := ⟨rfl, rfl, rfl, by decide +kernel, rfl, by decide +kernel, by decide +kernel⟩
theorem sc_Office_clash : FnScope ["self", "most_words", "broken", "pair", "fewest"] ["self", "most_words"] (defScope s_Office_clash) := ⟨rfl, rfl, rfl, by decide +kernel, rfl, by decide +kernel, by decide +kernel⟩
theorem sc_Office_each : FnScope ["self", "most_words", "sentence", "translations", "keeping", "translation", "answer"] ["self", "most_words", "sentence"] (defScope s_Office_each) := ⟨rfl, rfl, rfl, by decide +kernel, rfl, by decide +kernel, by decide +kernel⟩
theorem sc_Office_checks : FnScope ["self"] ["self"] (defScope s_Office_checks) := ⟨rfl, rfl, rfl, by decide +kernel, rfl, by decide +kernel, by decide +kernel⟩
theorem sc_Office_first_pair : FnScope ["self", "most_words", "is_sought", "pair"] ["self", "most_words", "is_sought"] (defScope s_Office_first_pair) := ⟨rfl, rfl, rfl, by decide +kernel, rfl, by decide +kernel, by decide +kernel⟩
theorem sc_Office_broken_by : FnScope ["self", "pair", "number", "check"] ["self", "pair"] (defScope s_Office_broken_by) := ⟨rfl, rfl, rfl, by decide +kernel, rfl, by decide +kernel, by decide +kernel⟩
theorem sc_Office_is_kept_by : FnScope ["self", "pair", "check"] ["self", "pair"] (defScope s_Office_is_kept_by) := ⟨rfl, rfl, rfl, by decide +kernel, rfl, by decide +kernel, by decide +kernel⟩
theorem sc_counted : FnScope ["row"] ["row"] (defScope s_counted) := ⟨rfl, rfl, rfl, by decide +kernel, rfl, by decide +kernel, by decide +kernel⟩
theorem sc_answers : FnScope ["calls", "office", "reader", "answered"] ["calls"] (defScope s_answers) := ⟨rfl, rfl, rfl, by decide +kernel, rfl, by decide +kernel, by decide +kernel⟩
theorem sc_answer_call : FnScope ["office", "reader", "call"] ["office", "reader"] (defScope s_answer_call) := ⟨rfl, rfl, rfl, by decide +kernel, rfl, by decide +kernel, by decide +kernel⟩
theorem sc_answer_about_pair : FnScope ["call", "office", "reader", "sentence", "translation"] ["call", "office", "reader"] (defScope s_answer_about_pair) := ⟨rfl, rfl, rfl, by decide +kernel, rfl, by decide +kernel, by decide +kernel⟩
theorem sc_answer_search : FnScope ["call", "office", "reader", "number", "other", "most_words"] ["call", "office", "reader"] (defScope s_answer_search) := ⟨rfl, rfl, rfl, by decide +kernel, rfl, by decide +kernel, by decide +kernel⟩
/-! ### what the top has written -/
def Cst (mg : Str → Option Value) (x : Str) (i : Int) : Prop := ∃ t, mg x = some (.int i t)
structure Txt (K : PySem.W.Frag) (mg : Str → Option Value) (CReader COffice : Addr) : Prop where
  cl_Reader : Cls K CReader
  n_Reader_numbers : NoAttr K CReader "numbers"
  n_Reader_place : NoAttr K CReader "place"
  cl_Office : Cls K COffice
  n_Office_kept : NoAttr K COffice "kept"
  n_Office_given : NoAttr K COffice "given"
  n_Office_alphabet : NoAttr K COffice "alphabet"
  b_len : mg "len" = none
  b_range : mg "range" = none
  b_list : mg "list" = none
  b_tuple : mg "tuple" = none
  g_NUMBER : Cst mg "NUMBER" 0
  g_LENGTH : Cst mg "LENGTH" 1
  g_OCCURRENCES : Cst mg "OCCURRENCES" 2
  g_SUM : Cst mg "SUM" 3
  g_ALWAYS : Cst mg "ALWAYS" 0
  g_NEVER : Cst mg "NEVER" 1
  g_BOTH : Cst mg "BOTH" 2
  g_EITHER : Cst mg "EITHER" 3
  g_OPPOSITE : Cst mg "OPPOSITE" 4
  g_AT_MOST : Cst mg "AT_MOST" 5
  g_SAME : Cst mg "SAME" 6
  g_BEGINS : Cst mg "BEGINS" 7
  g_ENDS : Cst mg "ENDS" 8
  g_FOLLOWED : Cst mg "FOLLOWED" 9
  g_LARGEST_WORD : Cst mg "LARGEST_WORD" 99
  g_MOST_WORDS : Cst mg "MOST_WORDS" 20
  g_MOST_LETTERS : Cst mg "MOST_LETTERS" 5
  g_MOST_SEARCHED_WORDS : Cst mg "MOST_SEARCHED_WORDS" 4
  g_MOST_SEARCHED_SENTENCES : Cst mg "MOST_SEARCHED_SENTENCES" 31
  g_CHECK : Cst mg "CHECK" 0
  g_GONE : Cst mg "GONE" 1
  g_LETTERS : Cst mg "LETTERS" 2
  g_RUN : Cst mg "RUN" 3
  g_VALUE : Cst mg "VALUE" 4
  g_FINE : Cst mg "FINE" 5
  g_ALONE : Cst mg "ALONE" 6
  g_APART : Cst mg "APART" 7
  g_CLASH : Cst mg "CLASH" 8
  g_EACH : Cst mg "EACH" 9
  g_CHECKS : Cst mg "CHECKS" 10
  g_BEYOND_BOUNDS : Cst mg "BEYOND_BOUNDS" (-1)
  g_NO_SUCH_CHECK : Cst mg "NO_SUCH_CHECK" (-2)
  g_NO_ROOM : Cst mg "NO_ROOM" (-5)
  g_NOTHING_FOUND : Cst mg "NOTHING_FOUND" (-6)
  g_MOST_CHECKS : Cst mg "MOST_CHECKS" 8
/-! ### defs, methods, classes by their promises -/
section
variable (P : Program) (w : World) (K : PySem.W.Frag) (mg : Str → Option Value) (base : Heap)
structure Cal (k : Nat) (x : Str) (ps : List Str) (sp : Sp) : Prop where
  ex : ∃ f fd, FnOk P w K mg base CX0 k f fd ps sp ∧ mg x = some (.ref f) ∧ PySem.W.keepIn K (.ref f) = true ∧ Binds K fd ps []
structure Met (k : Nat) (C : Addr) (m : Str) (ps : List Str) (sp : Sp) : Prop where
  ex : ∃ f fd, FnOk P w K mg base CX0 k f fd ps sp ∧ Cls K C ∧ Meth K C m f ∧ Binds K fd ps []
structure Mak (k : Nat) (C : Addr) (x : Str) (ps : List Str) (sp : Sp) : Prop where
  ex : ∃ f fd, FnOk P w K mg base CX0 k f fd ps sp ∧ Mk K C f ∧ mg x = some (.ref C) ∧ Binds K fd ps []
end
section
variable {X : Cx} {k j : Nat} {C : Addr} {x m : Str} {ps : List Str} {sp : Sp} {p pos apos : Pos} {e o : Expr} {es : List Expr} {ta : TE} {t : TA}
theorem pe_gi {i : Int} (c : Cst X.mg x i) (hg : Gl X x := by rfl) (hd : (x == ("__debug__" : Str)) = false := by decide) : PE X (.Name x p) (tC (.int i)) := by
  obtain ⟨t, c⟩ := c
  exact pe_glob hg c ⟨_, rfl⟩ hd
theorem pe_c (c : Cal X.prog X.w X.K X.mg X.base k x ps sp) (hr : Room j X.A) (hk : k ≤ j) (hg : Gl X x) (ha : PA X (e :: es) t)
    (hdb : (x == ("__debug__" : Str)) = false := by decide) (he : starEach (e :: es) X.env = (false, eval e X.env) :: starEach es X.env := by rfl)
    (hpl : (backTo pos (starEach es X.env)).any (·.1) = false := by rfl) : PE X (.Call (.Name x p) (e :: es) [] pos) (tCall sp [] E0 t) := by
  obtain ⟨f, fd, F, hm, kp, b⟩ := c.ex
  exact pe_call F (hr.mono hk) hg hm kp b .nil pass0 ha hdb he hpl
theorem pe_mk (c : Mak X.prog X.w X.K X.mg X.base k C x ps sp) (hr : Room j X.A) (hk : k + 1 ≤ j) (hg : Gl X x) (ha : PA X (e :: es) t)
    (hdb : (x == ("__debug__" : Str)) = false := by decide) (he : starEach (e :: es) X.env = (false, eval e X.env) :: starEach es X.env := by rfl)
    (hpl : (backTo pos (starEach es X.env)).any (·.1) = false := by rfl) : PE X (.Call (.Name x p) (e :: es) [] pos) (tMake C sp [] E0 t) := by
  obtain ⟨f, fd, F, M, hm, b⟩ := c.ex
  exact pe_make M F (hr.mono hk) hg hm b .nil pass0 ha hdb he hpl
theorem pe_mk0 (c : Mak X.prog X.w X.K X.mg X.base k C x ps sp) (hr : Room j X.A) (hk : k + 1 ≤ j) (hg : Gl X x)
    (hdb : (x == ("__debug__" : Str)) = false := by decide) : PE X (.Call (.Name x p) [] [] pos) (tMake C sp [] E0 tNil) := by
  obtain ⟨f, fd, F, M, hm, b⟩ := c.ex
  exact pe_make0 M F (hr.mono hk) hg hm b .nil pass0 hdb
theorem pe_mt {pl : Sem Bool} (c : Met X.prog X.w X.K X.mg X.base k C m ps sp) (hr : Room j X.A) (hk : k ≤ j) (he : PE X o ta) (ha : PA X (e :: es) t)
    (hst : starEach (e :: es) X.env = (false, eval e X.env) :: starEach es X.env := by rfl)
    (hpl : (backTo pos (starEach es X.env)).any (·.1) = false := by rfl)
    (ht : eval (.Call (.Attribute o m apos) (e :: es) [] pos) X.env = (do
      let ov ← eval o X.env
      standAt apos.atName
      let (f, first) ← holding [ov] (getMethod ov m pl)
      callWith pos f first (backTo pos (starEach (e :: es) X.env)) (backToKw pos (keywordEach [] X.env))) := by rfl) :
    PE X (.Call (.Attribute o m apos) (e :: es) [] pos) (tMeth C m sp [] E0 ta t) := by
  obtain ⟨f, fd, F, c, hm, b⟩ := c.ex
  exact pe_meth (pl := pl) he c hm F (hr.mono hk) b .nil pass0 ha hst hpl ht
theorem pe_mt0 {pl : Sem Bool} (c : Met X.prog X.w X.K X.mg X.base k C m ps sp) (hr : Room j X.A) (hk : k ≤ j) (he : PE X o ta)
    (ht : eval (.Call (.Attribute o m apos) [] [] pos) X.env = (do
      let ov ← eval o X.env
      standAt apos.atName
      let (f, first) ← holding [ov] (getMethod ov m pl)
      callWith pos f first (backTo pos (starEach [] X.env)) (backToKw pos (keywordEach [] X.env))) := by rfl) :
    PE X (.Call (.Attribute o m apos) [] [] pos) (tMeth C m sp [] E0 ta tNil) := by
  obtain ⟨f, fd, F, c, hm, b⟩ := c.ex
  exact pe_meth0 (pl := pl) he c hm F (hr.mono hk) b .nil pass0 ht
/-- x *= e, small numbers -/
theorem ip_mul : PIp X .Mult (fun x y H Q => ∃ i j : Int, x = .int i ∧ y = .int j ∧ (-(2 ^ 64) < i ∧ i < 2 ^ 64) ∧ Q (.int (i * j)) H) := by
  intro pins s σ H x y v u Q I r1 r2 h
  obtain ⟨i, j, e1, e2, b, q⟩ := h
  subst e1; subst e2
  obtain ⟨t, rfl⟩ := r1
  obtain ⟨t', rfl⟩ := r2
  exact PyProof.Rows.imul_int ⟨.int _, H, I.tok _, ⟨_, rfl⟩, q⟩ (.of_left (intBits_le_64 b.1 b.2))
end
/-! ### lists of numbers, what is kept -/
def vi (l : List Nat) : List V := l.map fun (n : Nat) => V.int (n : Int)
theorem vi_len (l : List Nat) : (vi l).length = l.length := List.length_map _
theorem vi_cons (n : Nat) (l : List Nat) : vi (n :: l) = V.int (n : Int) :: vi l := rfl
theorem vi_app (a b : List Nat) : vi (a ++ b) = vi a ++ vi b := List.map_append
theorem vi_I (l : List Nat) : vi l = (I l).map V.int := by
  unfold vi I
  rw [List.map_map]
  rfl
theorem vi_get {l : List Nat} {i : Nat} {x : Nat} (h : l[i]? = some x) : (vi l)[i]? = some (V.int (x : Int)) := by
  unfold vi
  rw [List.getElem?_map, h]
  rfl
theorem vi_inv {l : List Nat} {i : Nat} {y : V} (h : (vi l)[i]? = some y) : ∃ x : Nat, l[i]? = some x ∧ y = V.int (x : Int) := by
  unfold vi at h
  rw [List.getElem?_map] at h
  cases e : l[i]? with
  | none => rw [e] at h; cases h
  | some x => rw [e] at h; exact ⟨x, rfl, (Option.some.inj h).symm⟩
theorem atI_vi {l : List Nat} {i : Nat} {x : Nat} (h : l[i]? = some x) : atI (vi l) (i : Int) = some (V.int (x : Int)) := atI_nat (vi_get h)
theorem atI_vi' {l : List Nat} {z : Int} {i : Nat} {x : Nat} (e : z = (i : Int)) (h : l[i]? = some x) : atI (vi l) z = some (V.int (x : Int)) := by
  subst e
  exact atI_vi h
theorem drop_at {l r : List Nat} {n x : Nat} (h : l.drop n = x :: r) : l[n]? = some x ∧ l.drop (n + 1) = r := by
  have h0 : (l.drop n)[0]? = some x := by rw [h]; rfl
  rw [List.getElem?_drop] at h0
  refine ⟨h0, ?_⟩
  rw [← List.drop_drop, h]
  rfl
theorem drop_lt {l r : List Nat} {n x : Nat} (h : l.drop n = x :: r) : n < l.length := (List.getElem?_eq_some_iff.mp (drop_at h).1).1
theorem drop_app {l s r : List Nat} {n : Nat} (h : l.drop n = s ++ r) : l.drop (n + s.length) = r ∧ (l.drop n).take s.length = s := by
  refine ⟨?_, ?_⟩
  · rw [← List.drop_drop, h, List.drop_left]
  · rw [h, List.take_left]
/-- all but what stands at a -/
def Kp1 (a : Addr) (H H' : Hp) : Prop := ∀ b o, H b = some o → b ≠ a → H' b = some o
/-- all but what stands at a and d -/
def Kp2 (a d : Addr) (H H' : Hp) : Prop := ∀ b o, H b = some o → b ≠ a → b ≠ d → H' b = some o
theorem Kp1.refl (a : Addr) (H : Hp) : Kp1 a H H := fun _ _ h _ => h
theorem Kp1.trans {a : Addr} {H H1 H2 : Hp} (x : Kp1 a H H1) (y : Kp1 a H1 H2) : Kp1 a H H2 := fun b o h n => y b o (x b o h n) n
theorem Kp1.upd (a : Addr) (H : Hp) (o : HO) : Kp1 a H (upd H a o) := fun b u h n => by rw [upd_ne n]; exact h
theorem Kp2.refl (a d : Addr) (H : Hp) : Kp2 a d H H := fun _ _ h _ _ => h
theorem Kp2.trans {a d : Addr} {H H1 H2 : Hp} (x : Kp2 a d H H1) (y : Kp2 a d H1 H2) : Kp2 a d H H2 := fun b o h n m => y b o (x b o h n m) n m
theorem same_new {H : Hp} {p : Addr} (h : H p = none) (o : HO) : Same H (upd H p o) := fun b u q => by rw [upd_ne (ne_of_none q h)]; exact q
theorem Kp1.of {a : Addr} {H H' : Hp} (s : Same H H') : Kp1 a H H' := fun b o h _ => s b o h
theorem Kp2.of {a d : Addr} {H H' : Hp} (s : Same H H') : Kp2 a d H H' := fun b o h _ _ => s b o h
theorem Kp1.new {a p : Addr} {H H1 : Hp} (k : Kp1 a H H1) (h : H1 p = none) (o : HO) : Kp1 a H (L2.upd H1 p o) := k.trans (.of (same_new h o))
/-- tuples stand -/
def TK (H H' : Hp) : Prop := ∀ b xs, H b = some (.tup xs) → H' b = some (.tup xs)
theorem TK.refl (H : Hp) : TK H H := fun _ _ h => h
theorem TK.trans {H H1 H2 : Hp} (a : TK H H1) (b : TK H1 H2) : TK H H2 := fun c xs h => b c xs (a c xs h)
theorem TK.same {H H' : Hp} (s : Same H H') : TK H H' := fun b _ h => s b _ h
theorem TK.new {H : Hp} {p : Addr} (h : H p = none) (o : HO) : TK H (upd H p o) := .same (same_new h o)
theorem TK.kp1 {a : Addr} {H H' : Hp} {o : HO} (ha : H a = some o) (ho : ∀ xs, o ≠ .tup xs) (k : Kp1 a H H') : TK H H' := fun b xs h => k b _ h fun e => by
  subst e
  rw [ha] at h
  exact ho xs (Option.some.inj h)
theorem TK.upd {a : Addr} {H : Hp} {o : HO} (u : HO) (ha : H a = some o) (ho : ∀ xs, o ≠ .tup xs) : TK H (upd H a u) := .kp1 ha ho (.upd a H u)
/-- lists to be read stand: all but what is an instance, a dict -/
theorem seq_kp1 {K : PySem.W.Frag} {H H' : Hp} {a l C dx : Addr} {fs : List (Str × V)} {xs : List V} (ha : H a = some (.ins C dx fs)) (k : Kp1 a H H') (h : SqL K H l xs) : SqL K H' l xs := by
  rcases h with h | h
  · refine .inl ?_
    rcases h with h | ⟨o, h⟩
    · exact .inl (k l _ h fun e => by subst e; rw [ha] at h; cases h)
    · exact .inr ⟨o, k l _ h fun e => by subst e; rw [ha] at h; cases h⟩
  · exact .inr h
theorem seq_kp2 {K : PySem.W.Frag} {H H' : Hp} {a d l C dx : Addr} {fs : List (Str × V)} {kvs : List (Key × V)} {xs : List V} (ha : H a = some (.ins C dx fs)) (hd : H d = some (.dK kvs)) (k : Kp2 a d H H') (h : SqL K H l xs) : SqL K H' l xs := by
  rcases h with h | h
  · refine .inl ?_
    rcases h with h | ⟨o, h⟩
    · exact .inl (k l _ h (fun e => by subst e; rw [ha] at h; cases h) (fun e => by subst e; rw [hd] at h; cases h))
    · exact .inr ⟨o, k l _ h (fun e => by subst e; rw [ha] at h; cases h) (fun e => by subst e; rw [hd] at h; cases h)⟩
  · exact .inr h
/-! ### terms and conditions in the heap -/
def TmAt (H : Hp) : V → Ut12.Term → Prop
  | v, .num k => ∃ a, v = .ref a ∧ H a = some (.tup [.int 0, .int (k : Int)])
  | v, .long t => ∃ a, v = .ref a ∧ H a = some (.tup [.int 1, .int (bN t : Int)])
  | v, .times t w => ∃ a, v = .ref a ∧ H a = some (.tup [.int 2, .int (bN t : Int), .int (w : Int)])
  | v, .sum x y => ∃ a vx vy, v = .ref a ∧ H a = some (.tup [.int 3, vx, vy]) ∧ TmAt H vx x ∧ TmAt H vy y
  | v, .by_ k x => ∃ a vx, v = .ref a ∧ H a = some (.tup [.int 4, .int (k : Int), vx]) ∧ TmAt H vx x
theorem TmAt.mono {H H' : Hp} (k : TK H H') : ∀ (t : Ut12.Term) (v : V), TmAt H v t → TmAt H' v t
  | .num _, _, ⟨a, e, h⟩ => ⟨a, e, k _ _ h⟩
  | .long _, _, ⟨a, e, h⟩ => ⟨a, e, k _ _ h⟩
  | .times _ _, _, ⟨a, e, h⟩ => ⟨a, e, k _ _ h⟩
  | .sum x y, _, ⟨a, vx, vy, e, h, hx, hy⟩ => ⟨a, vx, vy, e, k _ _ h, TmAt.mono k x vx hx, TmAt.mono k y vy hy⟩
  | .by_ _ x, _, ⟨a, vx, e, h, hx⟩ => ⟨a, vx, e, k _ _ h, TmAt.mono k x vx hx⟩
def CdAt (H : Hp) : V → Ut12.Cond → Prop
  | v, .always => ∃ a, v = .ref a ∧ H a = some (.tup [.int 0])
  | v, .never => ∃ a, v = .ref a ∧ H a = some (.tup [.int 1])
  | v, .both x y => ∃ a vx vy, v = .ref a ∧ H a = some (.tup [.int 2, vx, vy]) ∧ CdAt H vx x ∧ CdAt H vy y
  | v, .either x y => ∃ a vx vy, v = .ref a ∧ H a = some (.tup [.int 3, vx, vy]) ∧ CdAt H vx x ∧ CdAt H vy y
  | v, .not_ x => ∃ a vx, v = .ref a ∧ H a = some (.tup [.int 4, vx]) ∧ CdAt H vx x
  | v, .atMost x y => ∃ a vx vy, v = .ref a ∧ H a = some (.tup [.int 5, vx, vy]) ∧ TmAt H vx x ∧ TmAt H vy y
  | v, .same x y => ∃ a vx vy, v = .ref a ∧ H a = some (.tup [.int 6, vx, vy]) ∧ TmAt H vx x ∧ TmAt H vy y
  | v, .begins t w => ∃ a, v = .ref a ∧ H a = some (.tup [.int 7, .int (bN t : Int), .int (w : Int)])
  | v, .ends t w => ∃ a, v = .ref a ∧ H a = some (.tup [.int 8, .int (bN t : Int), .int (w : Int)])
  | v, .ahead t w u => ∃ a, v = .ref a ∧ H a = some (.tup [.int 9, .int (bN t : Int), .int (w : Int), .int (u : Int)])
theorem CdAt.mono {H H' : Hp} (k : TK H H') : ∀ (t : Ut12.Cond) (v : V), CdAt H v t → CdAt H' v t
  | .always, _, ⟨a, e, h⟩ => ⟨a, e, k _ _ h⟩
  | .never, _, ⟨a, e, h⟩ => ⟨a, e, k _ _ h⟩
  | .both x y, _, ⟨a, vx, vy, e, h, hx, hy⟩ => ⟨a, vx, vy, e, k _ _ h, CdAt.mono k x vx hx, CdAt.mono k y vy hy⟩
  | .either x y, _, ⟨a, vx, vy, e, h, hx, hy⟩ => ⟨a, vx, vy, e, k _ _ h, CdAt.mono k x vx hx, CdAt.mono k y vy hy⟩
  | .not_ x, _, ⟨a, vx, e, h, hx⟩ => ⟨a, vx, e, k _ _ h, CdAt.mono k x vx hx⟩
  | .atMost x y, _, ⟨a, vx, vy, e, h, hx, hy⟩ => ⟨a, vx, vy, e, k _ _ h, hx.mono k, hy.mono k⟩
  | .same x y, _, ⟨a, vx, vy, e, h, hx, hy⟩ => ⟨a, vx, vy, e, k _ _ h, hx.mono k, hy.mono k⟩
  | .begins _ _, _, ⟨a, e, h⟩ => ⟨a, e, k _ _ h⟩
  | .ends _ _, _, ⟨a, e, h⟩ => ⟨a, e, k _ _ h⟩
  | .ahead _ _ _, _, ⟨a, e, h⟩ => ⟨a, e, k _ _ h⟩
/-- a pair as a tuple of two lists -/
def PairAt (K : PySem.W.Frag) (H : Hp) (v : V) (p : Ut12.Pair) : Prop := ∃ q a b, v = .ref q ∧ H q = some (.tup [.ref a, .ref b]) ∧ SqL K H a (vi p.1) ∧ SqL K H b (vi p.2)
/-! ### a reader -/
def rdF (l : Addr) (n : Nat) : List (Str × V) := [("numbers", .ref l), ("place", .int (n : Int))]
def rdO (C dx l : Addr) (n : Nat) : HO := .ins C dx (rdF l n)
theorem lk_here {k : Str} {v : V} {r : List (Str × V)} : List.lookup k ((k, v) :: r) = some v := by
  have e : (k == k) = true := beq_self_eq_true k
  simp only [List.lookup, e]
theorem lk_past {k g : Str} {v : V} {r : List (Str × V)} (h : (k == g) = false) : List.lookup k ((g, v) :: r) = List.lookup k r := by
  simp only [List.lookup, h]
theorem put_here {f : Str} {v x : V} {r : List (Str × V)} : putF f v ((f, x) :: r) = (f, v) :: r := if_pos rfl
theorem put_past {f g : Str} {v x : V} {r : List (Str × V)} (h : ¬ g = f) : putF f v ((g, x) :: r) = (g, x) :: putF f v r := if_neg h
theorem rdF_numbers (l : Addr) (n : Nat) : (rdF l n).lookup ("numbers" : Str) = some (.ref l) := lk_here
theorem rdF_place (l : Addr) (n : Nat) : (rdF l n).lookup ("place" : Str) = some (.int (n : Int)) := (lk_past (by decide +kernel)).trans lk_here
theorem rdF_no (l : Addr) (n : Nat) {m : Str} (h1 : (m == ("numbers" : Str)) = false) (h2 : (m == ("place" : Str)) = false) : (rdF l n).lookup m = none := (lk_past h1).trans ((lk_past h2).trans rfl)
theorem rdF_put (l : Addr) (n : Nat) (z : Int) (m : Nat) (e : z = (m : Int)) : putF "place" (.int z) (rdF l n) = rdF l m := by
  subst e
  exact (put_past (by decide +kernel)).trans (congrArg _ put_here)
theorem rdF_new (l : Addr) : putF "place" (.int 0) (putF "numbers" (.ref l) []) = rdF l 0 := (put_past (by decide +kernel)).trans rfl
/-! ### tests whose outcome is known -/
theorem if_t {c : Bool} {A B : Prop} (hc : c = true) (h : A) : if c = true then A else B := by
  rw [if_pos hc]
  exact h
theorem if_f {c : Bool} {A B : Prop} (hc : c = false) (h : B) : if c = true then A else B := by
  rw [hc, if_neg Bool.false_ne_true]
  exact h
theorem no_ok {P : Program} {w : World} {K : PySem.W.Frag} {mg : Str → Option Value} {base : Heap} {k : Nat} {f : Addr} {fd : FuncData} {ps : List Str} {sp : Sp} (no : ∀ vs H Q E, ¬ sp vs H Q E) : FnOk P w K mg base CX0 k f fd ps sp :=
  ⟨fun vs H Q E h => absurd h (no vs H Q E), fun _ _ _ H _ _ vs Q E _ _ _ _ h => absurd h (no vs H Q E)⟩
end Pc

namespace Pc
open PySem PySem.Spec PyProof.Rows L2
/-! ### the reader's promises -/
def spRInit (C : Addr) : Sp := fun vs H Q _ => ∃ (p dx l : Addr), vs = [.ref p, .ref l] ∧ H p = some (.ins C dx []) ∧ Q .non (upd H p (rdO C dx l 0))
def spAtEnd (K : PySem.W.Frag) (C : Addr) : Sp := fun vs H Q _ => ∃ (a dx l : Addr) (cs : List Nat) (n : Nat), vs = [.ref a] ∧ H a = some (rdO C dx l n) ∧ SqL K H l (vi cs) ∧ Q (.bl (decide (n = cs.length))) H
def spNumber (K : PySem.W.Frag) (C : Addr) : Sp := fun vs H Q _ => ∃ (a dx l : Addr) (cs : List Nat) (n x : Nat), vs = [.ref a] ∧ H a = some (rdO C dx l n) ∧ SqL K H l (vi cs) ∧ cs[n]? = some x ∧ Q (.int (x : Int)) (upd H a (rdO C dx l (n + 1)))
def spRow (K : PySem.W.Frag) (C : Addr) : Sp := fun vs H Q _ => ∃ (a dx l : Addr) (cs : List Nat) (n : Nat) (s r : List Nat), vs = [.ref a] ∧ H a = some (rdO C dx l n) ∧ SqL K H l (vi cs) ∧ cs.drop n = s.length :: (s ++ r) ∧
  ∀ p, H p = none → Q (.ref p) (upd (upd H a (rdO C dx l (n + 1 + s.length))) p (.lst (vi s)))
theorem dec_vint (x y : Nat) : decide (V.int (x : Int) = V.int (y : Int)) = decide (x = y) := by
  by_cases h : x = y
  · subst h
    rw [decide_eq_true rfl, decide_eq_true rfl]
  · rw [decide_eq_false h, decide_eq_false fun e => h (by injection e with e; omega)]
theorem cut_vi {cs s r : List Nat} {n : Nat} {i j : Int} (hi : i = (n : Int)) (hj : j = ((n + s.length : Nat) : Int)) (h : cs.drop n = s ++ r) (hn : n + s.length ≤ cs.length) : cutV (vi cs) (some i) (some j) = vi s := by
  subst hi hj
  have e1 : HT.sIx (vi cs).length 0 (some (n : Int)) = n := by
    unfold HT.sIx
    rw [vi_len]
    simp
    split <;> omega
  have e2 : HT.sIx (vi cs).length (vi cs).length (some ((n + s.length : Nat) : Int)) = n + s.length := by
    unfold HT.sIx
    rw [vi_len]
    simp
    split <;> omega
  unfold cutV
  rw [e1, e2, Nat.add_sub_cancel_left]
  unfold vi
  rw [← List.map_drop, h, ← List.map_take, List.take_left]
theorem tnil {σ : L2.St} {H : Hp} {Q : List V → Hp → Prop} (h : Q [] H) : tNil σ H Q := h
/-- the calls of number and row, the heap behind them by what stands -/
theorem rd_num {K : PySem.W.Frag} {C a dx l : Addr} {cs r : List Nat} {n x : Nat} {H : Hp} {Q : VK} {E : XK} (ha : H a = some (rdO C dx l n)) (hl : SqL K H l (vi cs)) (h : cs.drop n = x :: r)
    (q : ∀ H', H' a = some (rdO C dx l (n + 1)) → SqL K H' l (vi cs) → Kp1 a H H' → cs.drop (n + 1) = r → Q (.int (x : Int)) H') : spNumber K C [.ref a] H Q E :=
  ⟨a, dx, l, cs, n, x, rfl, ha, hl, (drop_at h).1, q _ upd_same (seq_kp1 ha (Kp1.upd a H _) hl) (Kp1.upd a H _) (drop_at h).2⟩
theorem rd_row {K : PySem.W.Frag} {C a dx l : Addr} {cs s r : List Nat} {n : Nat} {H : Hp} {Q : VK} {E : XK} (ha : H a = some (rdO C dx l n)) (hl : SqL K H l (vi cs)) (h : cs.drop n = s.length :: (s ++ r))
    (q : ∀ H' p, H' a = some (rdO C dx l (n + 1 + s.length)) → SqL K H' l (vi cs) → Kp1 a H H' → H p = none → H' p = some (.lst (vi s)) → cs.drop (n + 1 + s.length) = r → Q (.ref p) H') : spRow K C [.ref a] H Q E :=
  ⟨a, dx, l, cs, n, s, r, rfl, ha, hl, h, fun p hp => by
    have k : Kp1 a H (upd (upd H a (rdO C dx l (n + 1 + s.length))) p (.lst (vi s))) := fun b o e ne => by
      rw [upd_ne (ne_of_none e hp), upd_ne ne]
      exact e
    exact q _ p (by rw [upd_ne (ne_of_none ha hp), upd_same]) (seq_kp1 ha k hl) k hp upd_same (drop_app (drop_at h).2).1⟩
theorem rdO_tup (C dx l : Addr) (n : Nat) : ∀ xs, rdO C dx l n ≠ .tup xs := fun xs e => by cases e
section
variable {P : Program} {w : World} {K : PySem.W.Frag} {mg : Str → Option Value} {base : Heap} {CR CO : Addr} {f : Addr} {fd : FuncData}
theorem ok_Reader___init__ (F : Fun K "__init__" "Reader.__init__" s_Reader___init__ f fd) (T : Txt K mg CR CO) : FnOk P w K mg base CX0 1 f fd ["self", "numbers"] (spRInit CR) := by
  refine F.ok sc_Reader___init__ (fun vs H Q E h => ?_) (fun cdv A outer s H vs Q E hr h => ?_)
  · obtain ⟨p, dx, l, rfl, _⟩ := h
    rfl
  obtain ⟨p, dx, l, rfl, hp, q⟩ := h
  refine ⟨_, (pss_cons (ps_fld (pv 0) (pv 1) rfl)
      (pss_one (ps_fld (pv 0) pe_int rfl))), ?_⟩
  refine ⟨_, rfl, _, rfl, p, CR, dx, [], rfl, hp, T.cl_Reader, T.n_Reader_numbers, (by show 0 < 1000; decide), ?_⟩
  refine ⟨_, rfl, p, CR, dx, _, rfl, upd_same, T.cl_Reader, T.n_Reader_place, (by show 1 < 1000; decide), ?_⟩
  show Q .non _
  rw [upd_upd, rdF_new]
  exact q
theorem ok_Reader_at_end (F : Fun K "at_end" "Reader.at_end" s_Reader_at_end f fd) (T : Txt K mg CR CO) : FnOk P w K mg base CX0 1 f fd ["self"] (spAtEnd K CR) := by
  refine F.ok sc_Reader_at_end (fun vs H Q E h => ?_) (fun cdv A outer s H vs Q E hr h => ?_)
  · obtain ⟨a, dx, l, cs, n, rfl, _⟩ := h
    rfl
  obtain ⟨a, dx, l, cs, n, rfl, ha, hl, q⟩ := h
  refine ⟨_, (pss_one (ps_ret (pe_cmpR op_eq (pe_fld (pv 0) rfl) (pe_callB call_len_seq (by rfl) T.b_len PySem.boot_len (pa_cons (pe_fld (pv 0) rfl) pa_nil)) (nomark _)))), ?_⟩
  refine ⟨_, rfl, a, CR, dx, _, _, rfl, ha, T.cl_Reader, T.n_Reader_place, rdF_place _ _, _, rfl, a, CR, dx, _, _, rfl, ha, T.cl_Reader, T.n_Reader_numbers, rdF_numbers _ _, l, _, rfl, .inl hl, rfl, ?_⟩
  show Q (.bl (decide (V.int (n : Int) = V.int ((vi cs).length : Nat)))) H
  rw [vi_len, dec_vint]
  exact q
theorem ok_Reader_number (F : Fun K "number" "Reader.number" s_Reader_number f fd) (T : Txt K mg CR CO) : FnOk P w K mg base CX0 1 f fd ["self"] (spNumber K CR) := by
  refine F.ok sc_Reader_number (fun vs H Q E h => ?_) (fun cdv A outer s H vs Q E hr h => ?_)
  · obtain ⟨a, dx, l, cs, n, x, rfl, _⟩ := h
    rfl
  obtain ⟨a, dx, l, cs, n, x, rfl, ha, hl, hx, q⟩ := h
  refine ⟨_, (pss_cons (ps_fldaug (pv 0) pe_int in_add)
      (pss_one (ps_ret (pe_ix ix_list (pe_fld (pv 0) rfl) (pe_op op_sub (pe_fld (pv 0) rfl) pe_int) (fun _ _ => rfl))))), ?_⟩
  refine ⟨_, rfl, a, CR, dx, _, _, rfl, ha, T.cl_Reader, T.n_Reader_place, rdF_place _ _, _, _, rfl, rfl, dx, _, ha, (by show 2 < 1000; decide), ?_⟩
  have ha' : upd H a (.ins CR dx (putF "place" (.int ((n : Int) + 1)) (rdF l n))) a = some (rdO CR dx l (n + 1)) := by
    rw [upd_same, rdF_put l n _ (n + 1) (by omega)]
    rfl
  have hl' := seq_kp1 ha (Kp1.upd a H (.ins CR dx (putF "place" (.int ((n : Int) + 1)) (rdF l n)))) hl
  refine ⟨_, rfl, a, CR, dx, _, _, rfl, ha', T.cl_Reader, T.n_Reader_numbers, rdF_numbers _ _, _, rfl, a, CR, dx, _, _, rfl, ha', T.cl_Reader, T.n_Reader_place, rdF_place _ _, _, _, rfl, rfl, l, _, _, .int (x : Int), rfl, rfl, hl', atI_vi' (by omega) hx, ?_⟩
  show Q _ _
  rw [rdF_put l n _ (n + 1) (by omega)]
  exact q
theorem ok_Reader_row (F : Fun K "row" "Reader.row" s_Reader_row f fd) (T : Txt K mg CR CO) (c_number : Met P w K mg base 1 CR "number" ["self"] (spNumber K CR)) : FnOk P w K mg base CX0 2 f fd ["self"] (spRow K CR) := by
  refine F.ok sc_Reader_row (fun vs H Q E h => ?_) (fun cdv A outer s H vs Q E hr h => ?_)
  · obtain ⟨a, dx, l, cs, n, s, r, rfl, _⟩ := h
    rfl
  obtain ⟨a, dx, l, cs, n, s, r, rfl, ha, hl, hx, q⟩ := h
  refine ⟨_, (pss_cons (ps_set (i := 1) sc_Reader_row.nd rfl (Or.inl rfl) (pe_mt0 c_number hr (by omega) (pv 0)))
      (pss_cons (ps_set (i := 2) sc_Reader_row.nd rfl (Or.inl rfl) (pe_fld (pv 0) rfl))
      (pss_cons (ps_fld (pv 0) (pe_op op_add (pv 2) (pv 1)) rfl)
      (pss_one (ps_ret (pe_slice sl_list (pe_fld (pv 0) rfl) (po_some (pv 2)) (po_some (pe_fld (pv 0) rfl)))))))), ?_⟩
  obtain ⟨h1, h2⟩ := drop_at hx
  have ha1 : upd H a (rdO CR dx l (n + 1)) a = some (rdO CR dx l (n + 1)) := upd_same
  refine ⟨_, rfl, a, dx, _, rfl, ha, rdF_no _ _ (by decide +kernel) (by decide +kernel), a, dx, l, cs, n, _, rfl, ha, hl, h1, ?_⟩
  refine ⟨_, rfl, a, CR, dx, _, _, rfl, ha1, T.cl_Reader, T.n_Reader_place, rdF_place _ _, ?_⟩
  refine ⟨_, rfl, _, rfl, _, _, rfl, rfl, _, rfl, a, CR, dx, _, rfl, ha1, T.cl_Reader, T.n_Reader_place, (by show 2 < 1000; decide), ?_⟩
  rw [upd_upd, rdF_put l (n + 1) _ (n + 1 + s.length) (by omega)]
  have ha2 : upd H a (.ins CR dx (rdF l (n + 1 + s.length))) a = some (rdO CR dx l (n + 1 + s.length)) := upd_same
  have hl2 := seq_kp1 ha (Kp1.upd a H (.ins CR dx (rdF l (n + 1 + s.length)))) hl
  refine ⟨_, rfl, a, CR, dx, _, _, rfl, ha2, T.cl_Reader, T.n_Reader_numbers, rdF_numbers _ _, _, rfl, _, rfl, _, rfl, a, CR, dx, _, _, rfl, ha2, T.cl_Reader, T.n_Reader_place, rdF_place _ _, _, rfl, l, _, rfl, hl2, fun p hp => ?_⟩
  have hlen : n + 1 + s.length ≤ cs.length := by
    have e := congrArg List.length h2
    have e0 := drop_lt hx
    rw [List.length_drop, List.length_append] at e
    omega
  rw [cut_vi (n := n + 1) (s := s) (r := r) (by omega) rfl h2 hlen]
  refine q p ?_
  by_cases e : p = a
  · subst e
    rw [upd_same] at hp
    cases hp
  · rw [upd_ne e] at hp
    exact hp
end
end Pc

namespace Pc
open PySem PySem.Spec PyProof.Rows L2
def spReadTerm (K : PySem.W.Frag) (C : Addr) (d : Nat) : Sp := fun vs H Q _ => ∃ (a dx l : Addr) (cs : List Nat) (n : Nat) (t : Ut12.Term) (r : List Nat), vs = [.ref a] ∧ H a = some (rdO C dx l n) ∧ SqL K H l (vi cs) ∧ Ut12Neutral.termIn d (cs.drop n) = some (t, r) ∧
  ∀ (H' : Hp) (v : V) (m : Nat), cs.drop m = r → H' a = some (rdO C dx l m) → Kp1 a H H' → TmAt H' v t → Q v H'
theorem rd_term {K : PySem.W.Frag} {C a dx l : Addr} {cs r : List Nat} {n d : Nat} {t : Ut12.Term} {H : Hp} {Q : VK} {E : XK} (ha : H a = some (rdO C dx l n)) (hl : SqL K H l (vi cs)) (h : Ut12Neutral.termIn d (cs.drop n) = some (t, r))
    (q : ∀ H' v m, H' a = some (rdO C dx l m) → SqL K H' l (vi cs) → Kp1 a H H' → TmAt H' v t → cs.drop m = r → Q v H') : spReadTerm K C d [.ref a] H Q E :=
  ⟨a, dx, l, cs, n, t, r, rfl, ha, hl, h, fun H' v m h1 h2 h3 h4 => q H' v m h2 (seq_kp1 ha h3 hl) h3 h4 h1⟩
/-- a new tuple behind the reading -/
theorem new_tup {a p : Addr} {H H1 : Hp} {o : HO} {xs : List V} (k : Kp1 a H H1) (ha : H1 a = some o) (hp : H1 p = none) : Kp1 a H (upd H1 p (.tup xs)) ∧ upd H1 p (.tup xs) a = some o ∧ TK H1 (upd H1 p (.tup xs)) :=
  ⟨k.new hp _, by rw [upd_ne (ne_of_none ha hp)]; exact ha, .new hp _⟩
def spTermValue (K : PySem.W.Frag) (d : Nat) : Sp := fun vs H Q _ => ∃ (v vp : V) (t : Ut12.Term) (p : Ut12.Pair), vs = [v, vp] ∧ TmAt H v t ∧ tdep t ≤ d ∧ Ut12.termOk t = true ∧ PairAt K H vp p ∧ Q (.int (Ut12.value p t : Nat)) H
theorem at_side {K : PySem.W.Frag} {H : Hp} {a b : Addr} {p : Ut12.Pair} (ha : SqL K H a (vi p.1)) (hb : SqL K H b (vi p.2)) (t : Bool) : ∃ c, atI [V.ref a, V.ref b] (bN t : Int) = some (.ref c) ∧ SqL K H c (vi (Ut12.side p t)) := by
  cases t
  · exact ⟨a, rfl, ha⟩
  · exact ⟨b, rfl, hb⟩
theorem count_filter (w : Nat) : ∀ (l : List Nat), (I l).count (w : Int) = (l.filter fun x => x == w).length
  | [] => rfl
  | x :: l => by
    rw [I_cons, List.count_cons, count_filter w l, List.filter_cons]
    by_cases h : x = w
    · subst h
      simp
    · have h1 : (x == w) = false := by simp [h]
      have h2 : ((x : Int) == (w : Int)) = false := by simp; omega
      rw [h1, h2]
      simp
section
variable {P : Program} {w : World} {K : PySem.W.Frag} {mg : Str → Option Value} {base : Heap} {CR CO : Addr} {f : Addr} {fd : FuncData}
theorem ok_read_term {d : Nat} (F : Fun K "read_term" "read_term" s_read_term f fd) (T : Txt K mg CR CO) (c_number : Met P w K mg base 1 CR "number" ["self"] (spNumber K CR)) (c_read_term : Cal P w K mg base (d + 1) "read_term" ["reader"] (spReadTerm K CR d)) :
    FnOk P w K mg base CX0 (d + 2) f fd ["reader"] (spReadTerm K CR (d + 1)) := by
  refine F.ok sc_read_term (fun vs H Q E h => ?_) (fun cdv A outer s H vs Q E hr h => ?_)
  · obtain ⟨a, dx, l, cs, n, t, r, rfl, _⟩ := h
    rfl
  obtain ⟨a, dx, l, cs, n, t, r, rfl, ha, hl, ht, q⟩ := h
  refine ⟨_, (pss_cons (ps_set (i := 1) sc_read_term.nd rfl (Or.inl rfl) (pe_mt0 c_number hr (by omega) (pv 0)))
      (pss_cons (ps_if (PW.pt (pw_or (pt_cmpR op_eq (pv 1) (pe_gi T.g_NUMBER) (nomark _)) (pw_or1 (pt_cmpR op_eq (pv 1) (pe_gi T.g_LENGTH) (nomark _))))) (pss_one (ps_ret (pe_tup (pa_cons (pv 1) (pa_cons (pe_mt0 c_number hr (by omega) (pv 0)) pa_nil))))) pss_nil)
      (pss_cons (ps_if (pt_cmpR op_eq (pv 1) (pe_gi T.g_OCCURRENCES) (nomark _)) (pss_cons (ps_set (i := 2) sc_read_term.nd rfl (Or.inl rfl) (pe_mt0 c_number hr (by omega) (pv 0)))
      (pss_one (ps_ret (pe_tup (pa_cons (pv 1) (pa_cons (pv 2) (pa_cons (pe_mt0 c_number hr (by omega) (pv 0)) pa_nil))))))) pss_nil)
      (pss_cons (ps_if (pt_cmpR op_eq (pv 1) (pe_gi T.g_SUM) (nomark _)) (pss_cons (ps_set (i := 3) sc_read_term.nd rfl (Or.inl rfl) (pe_c c_read_term hr (by omega) rfl (pa_cons (pv 0) pa_nil)))
      (pss_one (ps_ret (pe_tup (pa_cons (pv 1) (pa_cons (pv 3) (pa_cons (pe_c c_read_term hr (by omega) rfl (pa_cons (pv 0) pa_nil)) pa_nil))))))) pss_nil)
      (pss_cons (ps_set (i := 4) sc_read_term.nd rfl (Or.inl rfl) (pe_mt0 c_number hr (by omega) (pv 0)))
      (pss_one (ps_ret (pe_tup (pa_cons (pv 1) (pa_cons (pv 4) (pa_cons (pe_c c_read_term hr (by omega) rfl (pa_cons (pv 0) pa_nil)) pa_nil))))))))))), ?_⟩
  generalize hc : cs.drop n = c at ht
  have no : ∀ n, (rdF l n).lookup ("number" : Str) = none := fun n => rdF_no l n (by decide +kernel) (by decide +kernel)
  cases term_inv ht with
  | @num k =>
    refine ⟨_, rfl, a, dx, _, rfl, ha, no _, tnil <| rd_num ha hl hc fun H1 ha1 hl1 k1 h1 => ?_⟩
    refine ⟨_, rfl, rfl, _, rfl, if_t (by decide) (if_t rfl ?_)⟩
    refine ⟨_, rfl, _, rfl, a, dx, _, rfl, ha1, no _, tnil <| rd_num ha1 hl1 h1 fun H2 ha2 hl2 k2 h2 => ⟨(by show 2 ≤ sizeLine; decide), fun p hp => ?_⟩⟩
    obtain ⟨k3, ha3, tk⟩ := new_tup (xs := [V.int (0 : Nat), V.int (k : Nat)]) (k1.trans k2) ha2 hp
    exact q _ _ _ h2 ha3 k3 ⟨p, rfl, upd_same⟩
  | @long b =>
    refine ⟨_, rfl, a, dx, _, rfl, ha, no _, tnil <| rd_num ha hl hc fun H1 ha1 hl1 k1 h1 => ?_⟩
    refine ⟨_, rfl, rfl, _, rfl, if_f (by decide) ⟨_, rfl, rfl, _, rfl, if_t (by decide) ?_⟩⟩
    refine ⟨_, rfl, _, rfl, a, dx, _, rfl, ha1, no _, tnil <| rd_num ha1 hl1 h1 fun H2 ha2 hl2 k2 h2 => ⟨(by show 2 ≤ sizeLine; decide), fun p hp => ?_⟩⟩
    obtain ⟨k3, ha3, tk⟩ := new_tup (xs := [V.int (1 : Nat), V.int (bN b : Nat)]) (k1.trans k2) ha2 hp
    exact q _ _ _ h2 ha3 k3 ⟨p, rfl, upd_same⟩
  | @times b w =>
    refine ⟨_, rfl, a, dx, _, rfl, ha, no _, tnil <| rd_num ha hl hc fun H1 ha1 hl1 k1 h1 => ?_⟩
    refine ⟨_, rfl, rfl, _, rfl, if_f (by decide) ⟨_, rfl, rfl, _, rfl, if_f (by decide) ?_⟩⟩
    refine ⟨_, rfl, rfl, _, rfl, if_t (by decide) ?_⟩
    refine ⟨_, rfl, a, dx, _, rfl, ha1, no _, tnil <| rd_num ha1 hl1 h1 fun H2 ha2 hl2 k2 h2 => ?_⟩
    refine ⟨_, rfl, _, rfl, _, rfl, a, dx, _, rfl, ha2, no _, tnil <| rd_num ha2 hl2 h2 fun H3 ha3 hl3 k3 h3 => ⟨(by show 3 ≤ sizeLine; decide), fun p hp => ?_⟩⟩
    obtain ⟨k4, ha4, tk⟩ := new_tup (xs := [V.int (2 : Nat), V.int (bN b : Nat), V.int (w : Nat)]) ((k1.trans k2).trans k3) ha3 hp
    exact q _ _ _ h3 ha4 k4 ⟨p, rfl, upd_same⟩
  | @sum x y l1 m1 _ e1 e2 =>
    refine ⟨_, rfl, a, dx, _, rfl, ha, no _, tnil <| rd_num ha hl hc fun H1 ha1 hl1 k1 h1 => ?_⟩
    refine ⟨_, rfl, rfl, _, rfl, if_f (by decide) ⟨_, rfl, rfl, _, rfl, if_f (by decide) ?_⟩⟩
    refine ⟨_, rfl, rfl, _, rfl, if_f (by decide) ?_⟩
    refine ⟨_, rfl, rfl, _, rfl, if_t (by decide) ?_⟩
    rw [← h1] at e1
    refine ⟨_, rfl, tnil <| rd_term ha1 hl1 e1 fun H2 vx m ha2 hl2 k2 tx h2 => ?_⟩
    rw [← h2] at e2
    refine ⟨_, rfl, _, rfl, _, rfl, tnil <| rd_term ha2 hl2 e2 fun H3 vy m' ha3 hl3 k3 ty h3 => ⟨(by show 3 ≤ sizeLine; decide), fun p hp => ?_⟩⟩
    obtain ⟨k4, ha4, tk⟩ := new_tup (xs := [V.int (3 : Nat), vx, vy]) ((k1.trans k2).trans k3) ha3 hp
    exact q _ _ _ h3 ha4 k4 ⟨p, vx, vy, rfl, upd_same, (tx.mono (.kp1 ha2 (rdO_tup _ _ _ _) k3)).mono tk, ty.mono tk⟩
  | @by_ k x l1 _ e1 =>
    refine ⟨_, rfl, a, dx, _, rfl, ha, no _, tnil <| rd_num ha hl hc fun H1 ha1 hl1 k1 h1 => ?_⟩
    refine ⟨_, rfl, rfl, _, rfl, if_f (by decide) ⟨_, rfl, rfl, _, rfl, if_f (by decide) ?_⟩⟩
    refine ⟨_, rfl, rfl, _, rfl, if_f (by decide) ?_⟩
    refine ⟨_, rfl, rfl, _, rfl, if_f (by decide) ?_⟩
    refine ⟨_, rfl, a, dx, _, rfl, ha1, no _, tnil <| rd_num ha1 hl1 h1 fun H2 ha2 hl2 k2 h2 => ?_⟩
    rw [← h2] at e1
    refine ⟨_, rfl, _, rfl, _, rfl, tnil <| rd_term ha2 hl2 e1 fun H3 vx m ha3 hl3 k3 tx h3 => ⟨(by show 3 ≤ sizeLine; decide), fun p hp => ?_⟩⟩
    obtain ⟨k4, ha4, tk⟩ := new_tup (xs := [V.int (4 : Nat), V.int (k : Nat), vx]) ((k1.trans k2).trans k3) ha3 hp
    exact q _ _ _ h3 ha4 k4 ⟨p, vx, rfl, upd_same, tx.mono tk⟩
theorem ok_term_value {d : Nat} (F : Fun K "term_value" "term_value" s_term_value f fd) (T : Txt K mg CR CO) (c_term_value : Cal P w K mg base (d + 1) "term_value" ["term", "pair"] (spTermValue K d)) :
    FnOk P w K mg base CX0 (d + 2) f fd ["term", "pair"] (spTermValue K (d + 1)) := by
  refine F.ok sc_term_value (fun vs H Q E h => ?_) (fun cdv A outer s H vs Q E hr h => ?_)
  · obtain ⟨v, vp, t, p, rfl, _⟩ := h
    rfl
  obtain ⟨v, vp, t, p, rfl, ht, hd, hok, hp, q⟩ := h
  refine ⟨_, (pss_cons (ps_set (i := 2) sc_term_value.nd rfl (Or.inl rfl) (pe_ix ix_tup (pv 0) pe_int (fun _ _ => rfl)))
      (pss_cons (ps_if (pt_cmpR op_eq (pv 2) (pe_gi T.g_NUMBER) (nomark _)) (pss_one (ps_ret (pe_ix ix_tup (pv 0) pe_int (fun _ _ => rfl)))) pss_nil)
      (pss_cons (ps_if (pt_cmpR op_eq (pv 2) (pe_gi T.g_LENGTH) (nomark _)) (pss_one (ps_ret (pe_callB call_len_seq (by rfl) T.b_len PySem.boot_len (pa_cons (pe_ix ix_tup (pv 1) (pe_ix ix_tup (pv 0) pe_int (fun _ _ => rfl)) (fun _ _ => rfl)) pa_nil)))) pss_nil)
      (pss_cons (ps_if (pt_cmpR op_eq (pv 2) (pe_gi T.g_OCCURRENCES) (nomark _)) (pss_one (ps_ret (pe_bm PySem.F.plainAttrs_list PySem.F.slot_list_count PySem.F.type_list_count mt_lcount (pe_ix ix_tup (pv 1) (pe_ix ix_tup (pv 0) pe_int (fun _ _ => rfl)) (fun _ _ => rfl)) (pa_cons (pe_ix ix_tup (pv 0) pe_int (fun _ _ => rfl)) pa_nil)))) pss_nil)
      (pss_cons (ps_if (pt_cmpR op_eq (pv 2) (pe_gi T.g_SUM) (nomark _)) (pss_one (ps_ret (pe_op op_add (pe_c c_term_value hr (by omega) rfl (pa_cons (pe_ix ix_tup (pv 0) pe_int (fun _ _ => rfl)) (pa_cons (pv 1) pa_nil))) (pe_c c_term_value hr (by omega) rfl (pa_cons (pe_ix ix_tup (pv 0) pe_int (fun _ _ => rfl)) (pa_cons (pv 1) pa_nil)))))) pss_nil)
      (pss_one (ps_ret (pe_op op_mul (pe_ix ix_tup (pv 0) pe_int (fun _ _ => rfl)) (pe_c c_term_value hr (by omega) rfl (pa_cons (pe_ix ix_tup (pv 0) pe_int (fun _ _ => rfl)) (pa_cons (pv 1) pa_nil))))))))))), ?_⟩
  cases t with
  | num k =>
    obtain ⟨a, rfl, h⟩ := ht
    refine ⟨_, rfl, a, _, _, _, rfl, rfl, SqT.of h, rfl, ?_⟩
    refine ⟨_, rfl, rfl, _, rfl, if_t (by decide) ?_⟩
    exact ⟨_, rfl, a, _, _, _, rfl, rfl, SqT.of h, rfl, q⟩
  | long b =>
    obtain ⟨a, rfl, h⟩ := ht
    obtain ⟨pq, a1, b1, rfl, hpq, hA, hB⟩ := hp
    obtain ⟨c, hc, hs⟩ := at_side hA hB b
    refine ⟨_, rfl, a, _, _, _, rfl, rfl, SqT.of h, rfl, ?_⟩
    refine ⟨_, rfl, rfl, _, rfl, if_f (by decide) ?_⟩
    refine ⟨_, rfl, rfl, _, rfl, if_t (by decide) ?_⟩
    refine ⟨_, rfl, _, rfl, a, _, _, _, rfl, rfl, SqT.of h, rfl, pq, _, _, _, rfl, rfl, SqT.of hpq, hc, c, _, rfl, .inl hs, ?_⟩
    rw [vi_len]
    exact q
  | times b w =>
    obtain ⟨a, rfl, h⟩ := ht
    obtain ⟨pq, a1, b1, rfl, hpq, hA, hB⟩ := hp
    obtain ⟨c, hc, hs⟩ := at_side hA hB b
    refine ⟨_, rfl, a, _, _, _, rfl, rfl, SqT.of h, rfl, ?_⟩
    refine ⟨_, rfl, rfl, _, rfl, if_f (by decide) ?_⟩
    refine ⟨_, rfl, rfl, _, rfl, if_f (by decide) ?_⟩
    refine ⟨_, rfl, rfl, _, rfl, if_t (by decide) ?_⟩
    refine ⟨_, rfl, _, rfl, a, _, _, _, rfl, rfl, SqT.of h, rfl, pq, _, _, _, rfl, rfl, SqT.of hpq, hc, .inl ⟨rfl, _, hs⟩, _, rfl, a, _, _, _, rfl, rfl, SqT.of h, rfl, c, I (Ut12.side p b), _, rfl, rfl, ?_, ?_⟩
    · rw [← vi_I]
      exact hs
    · rw [count_filter]
      exact q
  | sum x y =>
    obtain ⟨a, vx, vy, rfl, h, hx, hy⟩ := ht
    have hd' : Nat.max (tdep x) (tdep y) + 1 ≤ d + 1 := hd
    have hok' : (Ut12.termOk x && Ut12.termOk y) = true := hok
    rw [Bool.and_eq_true] at hok'
    have d1 : tdep x ≤ d := Nat.le_trans (Nat.le_max_left _ _) (Nat.le_of_succ_le_succ hd')
    have d2 : tdep y ≤ d := Nat.le_trans (Nat.le_max_right _ _) (Nat.le_of_succ_le_succ hd')
    refine ⟨_, rfl, a, _, _, _, rfl, rfl, SqT.of h, rfl, ?_⟩
    refine ⟨_, rfl, rfl, _, rfl, if_f (by decide) ?_⟩
    refine ⟨_, rfl, rfl, _, rfl, if_f (by decide) ?_⟩
    refine ⟨_, rfl, rfl, _, rfl, if_f (by decide) ?_⟩
    refine ⟨_, rfl, rfl, _, rfl, if_t (by decide) ?_⟩
    refine ⟨_, rfl, a, _, _, _, rfl, rfl, SqT.of h, rfl, _, rfl, vx, vp, x, p, rfl, hx, d1, hok'.1, hp, ?_⟩
    refine ⟨_, rfl, a, _, _, _, rfl, rfl, SqT.of h, rfl, _, rfl, vy, vp, y, p, rfl, hy, d2, hok'.2, hp, _, _, rfl, rfl, ?_⟩
    have e : ((Ut12.value p x : Nat) : Int) + ((Ut12.value p y : Nat) : Int) = ((Ut12.value p (.sum x y) : Nat) : Int) := by
      show _ = ((Ut12.value p x + Ut12.value p y : Nat) : Int)
      omega
    show Q (.int (((Ut12.value p x : Nat) : Int) + ((Ut12.value p y : Nat) : Int))) H
    rw [e]
    exact q
  | by_ k x =>
    obtain ⟨a, vx, rfl, h, hx⟩ := ht
    have hd' : tdep x + 1 ≤ d + 1 := hd
    have hok' : (decide (k ≤ 99) && Ut12.termOk x) = true := hok
    rw [Bool.and_eq_true] at hok'
    have hk : k ≤ 99 := of_decide_eq_true hok'.1
    refine ⟨_, rfl, a, _, _, _, rfl, rfl, SqT.of h, rfl, ?_⟩
    refine ⟨_, rfl, rfl, _, rfl, if_f (by decide) ?_⟩
    refine ⟨_, rfl, rfl, _, rfl, if_f (by decide) ?_⟩
    refine ⟨_, rfl, rfl, _, rfl, if_f (by decide) ?_⟩
    refine ⟨_, rfl, rfl, _, rfl, if_f (by decide) ?_⟩
    refine ⟨_, rfl, a, _, _, _, rfl, rfl, SqT.of h, rfl, _, rfl, a, _, _, _, rfl, rfl, SqT.of h, rfl, _, rfl, vx, vp, x, p, rfl, hx, Nat.le_of_succ_le_succ hd', hok'.2, hp, _, _, rfl, rfl, .inl ⟨by omega, by omega⟩, ?_⟩
    have e : (k : Int) * ((Ut12.value p x : Nat) : Int) = ((Ut12.value p (.by_ k x) : Nat) : Int) := (Int.natCast_mul k (Ut12.value p x)).symm
    show Q (.int ((k : Int) * ((Ut12.value p x : Nat) : Int))) H
    rw [e]
    exact q
end
end Pc

namespace Pc
open PySem PySem.Spec PyProof.Rows L2
def spReadCond (K : PySem.W.Frag) (C : Addr) (d : Nat) : Sp := fun vs H Q _ => ∃ (a dx l : Addr) (cs : List Nat) (n : Nat) (t : Ut12.Cond) (r : List Nat), vs = [.ref a] ∧ H a = some (rdO C dx l n) ∧ SqL K H l (vi cs) ∧ Ut12Neutral.condIn d (cs.drop n) = some (t, r) ∧
  ∀ (H' : Hp) (v : V) (m : Nat), cs.drop m = r → H' a = some (rdO C dx l m) → Kp1 a H H' → CdAt H' v t → Q v H'
theorem rd_cond {K : PySem.W.Frag} {C a dx l : Addr} {cs r : List Nat} {n d : Nat} {t : Ut12.Cond} {H : Hp} {Q : VK} {E : XK} (ha : H a = some (rdO C dx l n)) (hl : SqL K H l (vi cs)) (h : Ut12Neutral.condIn d (cs.drop n) = some (t, r))
    (q : ∀ H' v m, H' a = some (rdO C dx l m) → SqL K H' l (vi cs) → Kp1 a H H' → CdAt H' v t → cs.drop m = r → Q v H') : spReadCond K C d [.ref a] H Q E :=
  ⟨a, dx, l, cs, n, t, r, rfl, ha, hl, h, fun H' v m h1 h2 h3 h4 => q H' v m h2 (seq_kp1 ha h3 hl) h3 h4 h1⟩
/-- a check in the heap -/
def ChAt (H : Hp) (v : V) (c m : Ut12.Cond) : Prop := ∃ p vw vm, v = .ref p ∧ H p = some (.tup [vw, vm]) ∧ CdAt H vw c ∧ CdAt H vm m
theorem ChAt.mono {H H' : Hp} {v : V} {c m : Ut12.Cond} (k : TK H H') (h : ChAt H v c m) : ChAt H' v c m := by
  obtain ⟨p, vw, vm, e, h, h1, h2⟩ := h
  exact ⟨p, vw, vm, e, k _ _ h, h1.mono k, h2.mono k⟩
def spReadCheck (K : PySem.W.Frag) (C : Addr) : Sp := fun vs H Q _ => ∃ (a dx l : Addr) (cs : List Nat) (n : Nat) (c m : Ut12.Cond) (l1 r : List Nat), vs = [.ref a] ∧ H a = some (rdO C dx l n) ∧ SqL K H l (vi cs) ∧ Ut12Neutral.condIn 12 (cs.drop n) = some (c, l1) ∧ Ut12Neutral.condIn 12 l1 = some (m, r) ∧
  ∀ (H' : Hp) (v : V), Kp1 a H H' → ChAt H' v c m → Q v H'
def spFollowed (K : PySem.W.Frag) : Sp := fun vs H Q _ => ∃ (a : Addr) (s : List Nat) (x y : Nat), vs = [.ref a, .int (x : Int), .int (y : Int)] ∧ SqL K H a (vi s) ∧ Q (.bl (Ut12.aheadOf s x y)) H
/-- begins, ends, ahead -/
def wordy : Ut12.Cond → Bool
  | .begins _ _ => true
  | .ends _ _ => true
  | .ahead _ _ _ => true
  | _ => false
def sideOf : Ut12.Cond → Bool
  | .begins t _ => t
  | .ends t _ => t
  | .ahead t _ _ => t
  | _ => false
def spWords (K : PySem.W.Frag) : Sp := fun vs H Q _ => ∃ (v : V) (a : Addr) (c : Ut12.Cond) (p : Ut12.Pair), vs = [v, .ref a] ∧ wordy c = true ∧ CdAt H v c ∧ SqL K H a (vi (Ut12.side p (sideOf c))) ∧ Q (.bl (Ut12.holds p c)) H
def spHolds (K : PySem.W.Frag) (d : Nat) : Sp := fun vs H Q _ => ∃ (v vp : V) (c : Ut12.Cond) (p : Ut12.Pair), vs = [v, vp] ∧ CdAt H v c ∧ cdep c ≤ d ∧ Ut12.condOk c = true ∧ PairAt K H vp p ∧ Q (.bl (Ut12.holds p c)) H
def spBreaks (K : PySem.W.Frag) : Sp := fun vs H Q _ => ∃ (v vp : V) (c : Ut12.Check) (p : Ut12.Pair), vs = [vp, v] ∧ ChAt H v c.when c.must ∧ cdep c.when ≤ 12 ∧ cdep c.must ≤ 12 ∧ Ut12.condOk c.when = true ∧ Ut12.condOk c.must = true ∧ PairAt K H vp p ∧ Q (.bl (Ut12.breaks c p)) H
theorem opt_beq (y x : Nat) : (some y == some x) = decide (y = x) := by
  by_cases h : y = x
  · subst h
    simp
  · simp [h]
theorem take_more {α : Type} : ∀ {l : List α} {i : Nat} {x : α}, l[i]? = some x → l.take (i + 1) = l.take i ++ [x]
  | [], i, x, h => by simp at h
  | a :: l, 0, x, h => by
    have e : a = x := Option.some.inj h
    subst e
    rfl
  | a :: l, i + 1, x, h => by
    have ih := take_more (l := l) (i := i) (x := x) h
    show a :: l.take (i + 1) = a :: l.take i ++ [x]
    rw [ih]
    rfl
section
variable {P : Program} {w : World} {K : PySem.W.Frag} {mg : Str → Option Value} {base : Heap} {CR CO : Addr} {f : Addr} {fd : FuncData}
theorem ok_read_condition {d : Nat} (F : Fun K "read_condition" "read_condition" s_read_condition f fd) (T : Txt K mg CR CO) (c_number : Met P w K mg base 1 CR "number" ["self"] (spNumber K CR)) (c_read_term : Cal P w K mg base (d + 1) "read_term" ["reader"] (spReadTerm K CR d))
    (c_read_condition : Cal P w K mg base (d + 1) "read_condition" ["reader"] (spReadCond K CR d)) : FnOk P w K mg base CX0 (d + 2) f fd ["reader"] (spReadCond K CR (d + 1)) := by
  refine F.ok sc_read_condition (fun vs H Q E h => ?_) (fun cdv A outer s H vs Q E hr h => ?_)
  · obtain ⟨a, dx, l, cs, n, t, r, rfl, _⟩ := h
    rfl
  obtain ⟨a, dx, l, cs, n, t, r, rfl, ha, hl, ht, q⟩ := h
  refine ⟨_, (pss_cons (ps_set (i := 1) sc_read_condition.nd rfl (Or.inl rfl) (pe_mt0 c_number hr (by omega) (pv 0)))
      (pss_cons (ps_if (PW.pt (pw_or (pt_cmpR op_eq (pv 1) (pe_gi T.g_ALWAYS) (nomark _)) (pw_or1 (pt_cmpR op_eq (pv 1) (pe_gi T.g_NEVER) (nomark _))))) (pss_one (ps_ret (pe_tup (pa_cons (pv 1) pa_nil)))) pss_nil)
      (pss_cons (ps_if (PW.pt (pw_or (pt_cmpR op_eq (pv 1) (pe_gi T.g_BOTH) (nomark _)) (pw_or1 (pt_cmpR op_eq (pv 1) (pe_gi T.g_EITHER) (nomark _))))) (pss_cons (ps_set (i := 2) sc_read_condition.nd rfl (Or.inl rfl) (pe_c c_read_condition hr (by omega) rfl (pa_cons (pv 0) pa_nil)))
      (pss_one (ps_ret (pe_tup (pa_cons (pv 1) (pa_cons (pv 2) (pa_cons (pe_c c_read_condition hr (by omega) rfl (pa_cons (pv 0) pa_nil)) pa_nil))))))) pss_nil)
      (pss_cons (ps_if (pt_cmpR op_eq (pv 1) (pe_gi T.g_OPPOSITE) (nomark _)) (pss_one (ps_ret (pe_tup (pa_cons (pv 1) (pa_cons (pe_c c_read_condition hr (by omega) rfl (pa_cons (pv 0) pa_nil)) pa_nil))))) pss_nil)
      (pss_cons (ps_if (PW.pt (pw_or (pt_cmpR op_eq (pv 1) (pe_gi T.g_AT_MOST) (nomark _)) (pw_or1 (pt_cmpR op_eq (pv 1) (pe_gi T.g_SAME) (nomark _))))) (pss_cons (ps_set (i := 2) sc_read_condition.nd rfl (Or.inl rfl) (pe_c c_read_term hr (by omega) rfl (pa_cons (pv 0) pa_nil)))
      (pss_one (ps_ret (pe_tup (pa_cons (pv 1) (pa_cons (pv 2) (pa_cons (pe_c c_read_term hr (by omega) rfl (pa_cons (pv 0) pa_nil)) pa_nil))))))) pss_nil)
      (pss_cons (ps_set (i := 3) sc_read_condition.nd rfl (Or.inl rfl) (pe_mt0 c_number hr (by omega) (pv 0)))
      (pss_cons (ps_set (i := 4) sc_read_condition.nd rfl (Or.inl rfl) (pe_mt0 c_number hr (by omega) (pv 0)))
      (pss_cons (ps_if (pt_cmpR op_eq (pv 1) (pe_gi T.g_FOLLOWED) (nomark _)) (pss_one (ps_ret (pe_tup (pa_cons (pv 1) (pa_cons (pv 3) (pa_cons (pv 4) (pa_cons (pe_mt0 c_number hr (by omega) (pv 0)) pa_nil))))))) pss_nil)
      (pss_one (ps_ret (pe_tup (pa_cons (pv 1) (pa_cons (pv 3) (pa_cons (pv 4) pa_nil)))))))))))))), ?_⟩
  generalize hc : cs.drop n = c at ht
  have no : ∀ n, (rdF l n).lookup ("number" : Str) = none := fun n => rdF_no l n (by decide +kernel) (by decide +kernel)
  cases cond_inv ht with
  | always =>
    refine ⟨_, rfl, a, dx, _, rfl, ha, no _, tnil <| rd_num ha hl hc fun H1 ha1 hl1 k1 h1 => ?_⟩
    refine ⟨_, rfl, rfl, _, rfl, if_t (by decide) (if_t rfl ?_)⟩
    refine ⟨_, rfl, (by show 1 ≤ sizeLine; decide), fun p hp => ?_⟩
    obtain ⟨k3, ha3, tk⟩ := new_tup (xs := [V.int (0 : Nat)]) k1 ha1 hp
    exact q _ _ _ h1 ha3 k3 ⟨p, rfl, upd_same⟩
  | never =>
    refine ⟨_, rfl, a, dx, _, rfl, ha, no _, tnil <| rd_num ha hl hc fun H1 ha1 hl1 k1 h1 => ?_⟩
    refine ⟨_, rfl, rfl, _, rfl, if_f (by decide) ⟨_, rfl, rfl, _, rfl, if_t (by decide) ?_⟩⟩
    refine ⟨_, rfl, (by show 1 ≤ sizeLine; decide), fun p hp => ?_⟩
    obtain ⟨k3, ha3, tk⟩ := new_tup (xs := [V.int (1 : Nat)]) k1 ha1 hp
    exact q _ _ _ h1 ha3 k3 ⟨p, rfl, upd_same⟩
  | @both x y l1 m1 _ e1 e2 =>
    refine ⟨_, rfl, a, dx, _, rfl, ha, no _, tnil <| rd_num ha hl hc fun H1 ha1 hl1 k1 h1 => ?_⟩
    refine ⟨_, rfl, rfl, _, rfl, if_f (by decide) ⟨_, rfl, rfl, _, rfl, if_f (by decide) ?_⟩⟩
    refine ⟨_, rfl, rfl, _, rfl, if_t (by decide) (if_t rfl ?_)⟩
    rw [← h1] at e1
    refine ⟨_, rfl, tnil <| rd_cond ha1 hl1 e1 fun H2 vx m ha2 hl2 k2 tx h2 => ?_⟩
    rw [← h2] at e2
    refine ⟨_, rfl, _, rfl, _, rfl, tnil <| rd_cond ha2 hl2 e2 fun H3 vy m' ha3 hl3 k3 ty h3 => ⟨(by show 3 ≤ sizeLine; decide), fun p hp => ?_⟩⟩
    obtain ⟨k4, ha4, tk⟩ := new_tup (xs := [V.int (2 : Nat), vx, vy]) ((k1.trans k2).trans k3) ha3 hp
    exact q _ _ _ h3 ha4 k4 ⟨p, vx, vy, rfl, upd_same, (tx.mono (.kp1 ha2 (rdO_tup _ _ _ _) k3)).mono tk, ty.mono tk⟩
  | @either x y l1 m1 _ e1 e2 =>
    refine ⟨_, rfl, a, dx, _, rfl, ha, no _, tnil <| rd_num ha hl hc fun H1 ha1 hl1 k1 h1 => ?_⟩
    refine ⟨_, rfl, rfl, _, rfl, if_f (by decide) ⟨_, rfl, rfl, _, rfl, if_f (by decide) ?_⟩⟩
    refine ⟨_, rfl, rfl, _, rfl, if_f (by decide) ⟨_, rfl, rfl, _, rfl, if_t (by decide) ?_⟩⟩
    rw [← h1] at e1
    refine ⟨_, rfl, tnil <| rd_cond ha1 hl1 e1 fun H2 vx m ha2 hl2 k2 tx h2 => ?_⟩
    rw [← h2] at e2
    refine ⟨_, rfl, _, rfl, _, rfl, tnil <| rd_cond ha2 hl2 e2 fun H3 vy m' ha3 hl3 k3 ty h3 => ⟨(by show 3 ≤ sizeLine; decide), fun p hp => ?_⟩⟩
    obtain ⟨k4, ha4, tk⟩ := new_tup (xs := [V.int (3 : Nat), vx, vy]) ((k1.trans k2).trans k3) ha3 hp
    exact q _ _ _ h3 ha4 k4 ⟨p, vx, vy, rfl, upd_same, (tx.mono (.kp1 ha2 (rdO_tup _ _ _ _) k3)).mono tk, ty.mono tk⟩
  | @not_ x l1 _ e1 =>
    refine ⟨_, rfl, a, dx, _, rfl, ha, no _, tnil <| rd_num ha hl hc fun H1 ha1 hl1 k1 h1 => ?_⟩
    refine ⟨_, rfl, rfl, _, rfl, if_f (by decide) ⟨_, rfl, rfl, _, rfl, if_f (by decide) ?_⟩⟩
    refine ⟨_, rfl, rfl, _, rfl, if_f (by decide) ⟨_, rfl, rfl, _, rfl, if_f (by decide) ?_⟩⟩
    refine ⟨_, rfl, rfl, _, rfl, if_t (by decide) ?_⟩
    rw [← h1] at e1
    refine ⟨_, rfl, _, rfl, tnil <| rd_cond ha1 hl1 e1 fun H2 vx m ha2 hl2 k2 tx h2 => ⟨(by show 2 ≤ sizeLine; decide), fun p hp => ?_⟩⟩
    obtain ⟨k4, ha4, tk⟩ := new_tup (xs := [V.int (4 : Nat), vx]) (k1.trans k2) ha2 hp
    exact q _ _ _ h2 ha4 k4 ⟨p, vx, rfl, upd_same, tx.mono tk⟩
  | @atMost x y l1 m1 _ e1 e2 =>
    refine ⟨_, rfl, a, dx, _, rfl, ha, no _, tnil <| rd_num ha hl hc fun H1 ha1 hl1 k1 h1 => ?_⟩
    refine ⟨_, rfl, rfl, _, rfl, if_f (by decide) ⟨_, rfl, rfl, _, rfl, if_f (by decide) ?_⟩⟩
    refine ⟨_, rfl, rfl, _, rfl, if_f (by decide) ⟨_, rfl, rfl, _, rfl, if_f (by decide) ?_⟩⟩
    refine ⟨_, rfl, rfl, _, rfl, if_f (by decide) ?_⟩
    refine ⟨_, rfl, rfl, _, rfl, if_t (by decide) (if_t rfl ?_)⟩
    rw [← h1] at e1
    refine ⟨_, rfl, tnil <| rd_term ha1 hl1 e1 fun H2 vx m ha2 hl2 k2 tx h2 => ?_⟩
    rw [← h2] at e2
    refine ⟨_, rfl, _, rfl, _, rfl, tnil <| rd_term ha2 hl2 e2 fun H3 vy m' ha3 hl3 k3 ty h3 => ⟨(by show 3 ≤ sizeLine; decide), fun p hp => ?_⟩⟩
    obtain ⟨k4, ha4, tk⟩ := new_tup (xs := [V.int (5 : Nat), vx, vy]) ((k1.trans k2).trans k3) ha3 hp
    exact q _ _ _ h3 ha4 k4 ⟨p, vx, vy, rfl, upd_same, (tx.mono (.kp1 ha2 (rdO_tup _ _ _ _) k3)).mono tk, ty.mono tk⟩
  | @same x y l1 m1 _ e1 e2 =>
    refine ⟨_, rfl, a, dx, _, rfl, ha, no _, tnil <| rd_num ha hl hc fun H1 ha1 hl1 k1 h1 => ?_⟩
    refine ⟨_, rfl, rfl, _, rfl, if_f (by decide) ⟨_, rfl, rfl, _, rfl, if_f (by decide) ?_⟩⟩
    refine ⟨_, rfl, rfl, _, rfl, if_f (by decide) ⟨_, rfl, rfl, _, rfl, if_f (by decide) ?_⟩⟩
    refine ⟨_, rfl, rfl, _, rfl, if_f (by decide) ?_⟩
    refine ⟨_, rfl, rfl, _, rfl, if_f (by decide) ⟨_, rfl, rfl, _, rfl, if_t (by decide) ?_⟩⟩
    rw [← h1] at e1
    refine ⟨_, rfl, tnil <| rd_term ha1 hl1 e1 fun H2 vx m ha2 hl2 k2 tx h2 => ?_⟩
    rw [← h2] at e2
    refine ⟨_, rfl, _, rfl, _, rfl, tnil <| rd_term ha2 hl2 e2 fun H3 vy m' ha3 hl3 k3 ty h3 => ⟨(by show 3 ≤ sizeLine; decide), fun p hp => ?_⟩⟩
    obtain ⟨k4, ha4, tk⟩ := new_tup (xs := [V.int (6 : Nat), vx, vy]) ((k1.trans k2).trans k3) ha3 hp
    exact q _ _ _ h3 ha4 k4 ⟨p, vx, vy, rfl, upd_same, (tx.mono (.kp1 ha2 (rdO_tup _ _ _ _) k3)).mono tk, ty.mono tk⟩
  | @begins b w =>
    refine ⟨_, rfl, a, dx, _, rfl, ha, no _, tnil <| rd_num ha hl hc fun H1 ha1 hl1 k1 h1 => ?_⟩
    refine ⟨_, rfl, rfl, _, rfl, if_f (by decide) ⟨_, rfl, rfl, _, rfl, if_f (by decide) ?_⟩⟩
    refine ⟨_, rfl, rfl, _, rfl, if_f (by decide) ⟨_, rfl, rfl, _, rfl, if_f (by decide) ?_⟩⟩
    refine ⟨_, rfl, rfl, _, rfl, if_f (by decide) ?_⟩
    refine ⟨_, rfl, rfl, _, rfl, if_f (by decide) ⟨_, rfl, rfl, _, rfl, if_f (by decide) ?_⟩⟩
    refine ⟨_, rfl, a, dx, _, rfl, ha1, no _, tnil <| rd_num ha1 hl1 h1 fun H2 ha2 hl2 k2 h2 => ?_⟩
    refine ⟨_, rfl, a, dx, _, rfl, ha2, no _, tnil <| rd_num ha2 hl2 h2 fun H3 ha3 hl3 k3 h3 => ?_⟩
    refine ⟨_, rfl, rfl, _, rfl, if_f (by decide) ?_⟩
    refine ⟨_, rfl, _, rfl, _, rfl, (by show 3 ≤ sizeLine; decide), fun p hp => ?_⟩
    obtain ⟨k4, ha4, tk⟩ := new_tup (xs := [V.int (7 : Nat), V.int (bN b : Nat), V.int (w : Nat)]) ((k1.trans k2).trans k3) ha3 hp
    exact q _ _ _ h3 ha4 k4 ⟨p, rfl, upd_same⟩
  | @ends b w =>
    refine ⟨_, rfl, a, dx, _, rfl, ha, no _, tnil <| rd_num ha hl hc fun H1 ha1 hl1 k1 h1 => ?_⟩
    refine ⟨_, rfl, rfl, _, rfl, if_f (by decide) ⟨_, rfl, rfl, _, rfl, if_f (by decide) ?_⟩⟩
    refine ⟨_, rfl, rfl, _, rfl, if_f (by decide) ⟨_, rfl, rfl, _, rfl, if_f (by decide) ?_⟩⟩
    refine ⟨_, rfl, rfl, _, rfl, if_f (by decide) ?_⟩
    refine ⟨_, rfl, rfl, _, rfl, if_f (by decide) ⟨_, rfl, rfl, _, rfl, if_f (by decide) ?_⟩⟩
    refine ⟨_, rfl, a, dx, _, rfl, ha1, no _, tnil <| rd_num ha1 hl1 h1 fun H2 ha2 hl2 k2 h2 => ?_⟩
    refine ⟨_, rfl, a, dx, _, rfl, ha2, no _, tnil <| rd_num ha2 hl2 h2 fun H3 ha3 hl3 k3 h3 => ?_⟩
    refine ⟨_, rfl, rfl, _, rfl, if_f (by decide) ?_⟩
    refine ⟨_, rfl, _, rfl, _, rfl, (by show 3 ≤ sizeLine; decide), fun p hp => ?_⟩
    obtain ⟨k4, ha4, tk⟩ := new_tup (xs := [V.int (8 : Nat), V.int (bN b : Nat), V.int (w : Nat)]) ((k1.trans k2).trans k3) ha3 hp
    exact q _ _ _ h3 ha4 k4 ⟨p, rfl, upd_same⟩
  | @ahead b w v =>
    refine ⟨_, rfl, a, dx, _, rfl, ha, no _, tnil <| rd_num ha hl hc fun H1 ha1 hl1 k1 h1 => ?_⟩
    refine ⟨_, rfl, rfl, _, rfl, if_f (by decide) ⟨_, rfl, rfl, _, rfl, if_f (by decide) ?_⟩⟩
    refine ⟨_, rfl, rfl, _, rfl, if_f (by decide) ⟨_, rfl, rfl, _, rfl, if_f (by decide) ?_⟩⟩
    refine ⟨_, rfl, rfl, _, rfl, if_f (by decide) ?_⟩
    refine ⟨_, rfl, rfl, _, rfl, if_f (by decide) ⟨_, rfl, rfl, _, rfl, if_f (by decide) ?_⟩⟩
    refine ⟨_, rfl, a, dx, _, rfl, ha1, no _, tnil <| rd_num ha1 hl1 h1 fun H2 ha2 hl2 k2 h2 => ?_⟩
    refine ⟨_, rfl, a, dx, _, rfl, ha2, no _, tnil <| rd_num ha2 hl2 h2 fun H3 ha3 hl3 k3 h3 => ?_⟩
    refine ⟨_, rfl, rfl, _, rfl, if_t (by decide) ?_⟩
    refine ⟨_, rfl, _, rfl, _, rfl, _, rfl, a, dx, _, rfl, ha3, no _, tnil <| rd_num ha3 hl3 h3 fun H4 ha4 hl4 k4 h4 => ⟨(by show 4 ≤ sizeLine; decide), fun p hp => ?_⟩⟩
    obtain ⟨k5, ha5, tk⟩ := new_tup (xs := [V.int (9 : Nat), V.int (bN b : Nat), V.int (w : Nat), V.int (v : Nat)]) (((k1.trans k2).trans k3).trans k4) ha4 hp
    exact q _ _ _ h4 ha5 k5 ⟨p, rfl, upd_same⟩
theorem ok_read_check (F : Fun K "read_check" "read_check" s_read_check f fd) (T : Txt K mg CR CO) (c_read_condition : Cal P w K mg base 13 "read_condition" ["reader"] (spReadCond K CR 12)) : FnOk P w K mg base CX0 14 f fd ["reader"] (spReadCheck K CR) := by
  refine F.ok sc_read_check (fun vs H Q E h => ?_) (fun cdv A outer s H vs Q E hr h => ?_)
  · obtain ⟨a, dx, l, cs, n, c, m, l1, r, rfl, _⟩ := h
    rfl
  obtain ⟨a, dx, l, cs, n, c, m, l1, r, rfl, ha, hl, e1, e2, q⟩ := h
  refine ⟨_, (pss_cons (ps_set (i := 1) sc_read_check.nd rfl (Or.inl rfl) (pe_c c_read_condition hr (by omega) rfl (pa_cons (pv 0) pa_nil)))
      (pss_one (ps_ret (pe_tup (pa_cons (pv 1) (pa_cons (pe_c c_read_condition hr (by omega) rfl (pa_cons (pv 0) pa_nil)) pa_nil)))))), ?_⟩
  refine ⟨_, rfl, tnil <| rd_cond ha hl e1 fun H1 vx m1 ha1 hl1 k1 tx h1 => ?_⟩
  rw [← h1] at e2
  refine ⟨_, rfl, _, rfl, tnil <| rd_cond ha1 hl1 e2 fun H2 vy m2 ha2 hl2 k2 ty h2 => ⟨(by show 2 ≤ sizeLine; decide), fun p hp => ?_⟩⟩
  obtain ⟨k3, ha3, tk⟩ := new_tup (xs := [vx, vy]) (k1.trans k2) ha2 hp
  exact q _ _ k3 ⟨p, vx, vy, rfl, upd_same, (tx.mono (.kp1 ha1 (rdO_tup _ _ _ _) k2)).mono tk, ty.mono tk⟩
theorem ok_each_is_followed (F : Fun K "each_is_followed" "each_is_followed" s_each_is_followed f fd) : FnOk P w K mg base CX0 1 f fd ["words", "first", "second"] (spFollowed K) := by
  refine F.ok sc_each_is_followed (fun vs H Q E h => ?_) (fun cdv A outer s H vs Q E hr h => ?_)
  · obtain ⟨a, s, x, y, rfl, _⟩ := h
    rfl
  obtain ⟨a, s, x, y, rfl, hl, q⟩ := h
  refine ⟨_, (pss_cons (ps_set (i := 3) sc_each_is_followed.nd rfl (Or.inl rfl) pe_bl)
      (pss_cons (ps_for PassesOwn.never rfl (pi_list (pv 0)) (pg_name (i := 4) sc_each_is_followed.nd rfl (Or.inl rfl)) (pss_cons (ps_if (pt_cmpR op_eq (pv 4) (pv 2) (nomark _)) (pss_one (ps_set (i := 3) sc_each_is_followed.nd rfl (Or.inl rfl) pe_bl)) pss_nil)
      (pss_one (ps_if (pt_cmpR op_eq (pv 4) (pv 1) (nomark _)) (pss_one (ps_set (i := 3) sc_each_is_followed.nd rfl (Or.inl rfl) pe_bl)) pss_nil))))
      (pss_one (ps_ret (pe_not (pv 3)))))), ?_⟩
  refine ⟨_, rfl, a, rfl, ⟨_, hl⟩, for_list (K := K) (a := a) (xs := vi s) (fun i σ H' => ∃ v : Option V, σ = [some (.ref a), some (.int (x : Int)), some (.int (y : Int)), some (.bl ((s.take i).foldl (waitStep x y) false)), v] ∧ H' = H)
    ⟨none, rfl, rfl⟩ (fun i σ H' _ ⟨_, _, e⟩ => by rw [e]; exact hl) ?_ ?_⟩
  · rintro i z σ H' hi ⟨v, rfl, rfl⟩
    obtain ⟨z, hz, rfl⟩ := vi_inv hi
    have e : (s.take (i + 1)).foldl (waitStep x y) false = waitStep x y ((s.take i).foldl (waitStep x y) false) z := by
      rw [take_more hz, List.foldl_append]
      rfl
    by_cases h1 : z = y
    · refine ⟨_, rfl, _, rfl, rfl, _, rfl, if_t (by rw [dec_vint]; exact decide_eq_true h1) ?_⟩
      by_cases h2 : z = x
      · refine ⟨_, rfl, _, rfl, rfl, _, rfl, if_t (by rw [dec_vint]; exact decide_eq_true h2) ?_⟩
        refine ⟨some (.int (z : Int)), ?_, rfl⟩
        rw [e, waitStep, if_pos h2]
        rfl
      · refine ⟨_, rfl, _, rfl, rfl, _, rfl, if_f (by rw [dec_vint]; exact decide_eq_false h2) ?_⟩
        refine ⟨some (.int (z : Int)), ?_, rfl⟩
        rw [e, waitStep, if_neg h2, if_pos h1]
        rfl
    · refine ⟨_, rfl, _, rfl, rfl, _, rfl, if_f (by rw [dec_vint]; exact decide_eq_false h1) ?_⟩
      by_cases h2 : z = x
      · refine ⟨_, rfl, _, rfl, rfl, _, rfl, if_t (by rw [dec_vint]; exact decide_eq_true h2) ?_⟩
        refine ⟨some (.int (z : Int)), ?_, rfl⟩
        rw [e, waitStep, if_pos h2]
        rfl
      · refine ⟨_, rfl, _, rfl, rfl, _, rfl, if_f (by rw [dec_vint]; exact decide_eq_false h2) ?_⟩
        refine ⟨some (.int (z : Int)), ?_, rfl⟩
        rw [e, waitStep, if_neg h2, if_neg h1]
        rfl
  · rintro σ H' ⟨v, rfl, rfl⟩
    rw [vi_len, List.take_length]
    refine ⟨_, rfl, _, rfl, ?_⟩
    rw [followed]
    exact q
theorem ok_holds_of_words (F : Fun K "holds_of_words" "holds_of_words" s_holds_of_words f fd) (T : Txt K mg CR CO) (c_each_is_followed : Cal P w K mg base 1 "each_is_followed" ["words", "first", "second"] (spFollowed K)) :
    FnOk P w K mg base CX0 2 f fd ["condition", "words"] (spWords K) := by
  refine F.ok sc_holds_of_words (fun vs H Q E h => ?_) (fun cdv A outer s H vs Q E hr h => ?_)
  · obtain ⟨v, a, c, p, rfl, _⟩ := h
    rfl
  obtain ⟨v, a, c, p, rfl, hw, hc, hl, q⟩ := h
  refine ⟨_, (pss_cons (ps_set (i := 2) sc_holds_of_words.nd rfl (Or.inl rfl) (pe_ix ix_tup (pv 0) pe_int (fun _ _ => rfl)))
      (pss_cons (ps_if (pt_cmpR op_eq (pv 2) (pe_gi T.g_BEGINS) (nomark _)) (pss_one (ps_ret (pe_and (pe_cmpR op_gt (pe_callB call_len_seq (by rfl) T.b_len PySem.boot_len (pa_cons (pv 1) pa_nil)) pe_int (nomark _)) (pe_one (pe_cmpR op_eq (pe_ix ix_list (pv 1) pe_int (fun _ _ => rfl)) (pe_ix ix_tup (pv 0) pe_int (fun _ _ => rfl)) (nomark _)))))) pss_nil)
      (pss_cons (ps_if (pt_cmpR op_eq (pv 2) (pe_gi T.g_ENDS) (nomark _)) (pss_one (ps_ret (pe_and (pe_cmpR op_gt (pe_callB call_len_seq (by rfl) T.b_len PySem.boot_len (pa_cons (pv 1) pa_nil)) pe_int (nomark _)) (pe_one (pe_cmpR op_eq (pe_ix ix_list (pv 1) (pe_un un_neg pe_int) (fun _ _ => rfl)) (pe_ix ix_tup (pv 0) pe_int (fun _ _ => rfl)) (nomark _)))))) pss_nil)
      (pss_one (ps_ret (pe_c c_each_is_followed hr (by omega) rfl (pa_cons (pv 1) (pa_cons (pe_ix ix_tup (pv 0) pe_int (fun _ _ => rfl)) (pa_cons (pe_ix ix_tup (pv 0) pe_int (fun _ _ => rfl)) pa_nil))))))))), ?_⟩
  cases c with
  | begins t x =>
    obtain ⟨b, rfl, h⟩ := hc
    have hl : SqL K H a (vi (Ut12.side p t)) := hl
    have q : Q (.bl ((Ut12.side p t).head? == some x)) H := q
    refine ⟨_, rfl, b, _, _, _, rfl, rfl, SqT.of h, rfl, ?_⟩
    refine ⟨_, rfl, rfl, _, rfl, if_t (by decide) ?_⟩
    refine ⟨_, rfl, a, _, rfl, .inl hl, _, _, rfl, rfl, _, rfl, ?_⟩
    cases e : Ut12.side p t with
    | nil =>
      rw [e] at q
      refine if_f ?_ ?_
      · rfl
      · exact q
    | cons y r =>
      rw [e] at hl q
      refine if_t ?_ ?_
      · rw [vi_len]; exact decide_eq_true (by simp)
      · refine ⟨_, rfl, a, _, _, V.int (y : Int), rfl, rfl, hl, atI_vi' (i := 0) rfl rfl, _, rfl, b, _, _, V.int (x : Int), rfl, rfl, SqT.of h, rfl, rfl, ?_⟩
        show Q (.bl (decide (V.int (y : Int) = V.int (x : Int)))) H
        rw [dec_vint]
        have e2 : ((y :: r).head? == some x) = decide (y = x) := opt_beq y x
        rw [e2] at q
        exact q
  | ends t x =>
    obtain ⟨b, rfl, h⟩ := hc
    have hl : SqL K H a (vi (Ut12.side p t)) := hl
    have q : Q (.bl ((Ut12.side p t).getLast? == some x)) H := q
    refine ⟨_, rfl, b, _, _, _, rfl, rfl, SqT.of h, rfl, ?_⟩
    refine ⟨_, rfl, rfl, _, rfl, if_f (by decide) ?_⟩
    refine ⟨_, rfl, rfl, _, rfl, if_t (by decide) ?_⟩
    refine ⟨_, rfl, a, _, rfl, .inl hl, _, _, rfl, rfl, _, rfl, ?_⟩
    cases e : (Ut12.side p t).getLast? with
    | none =>
      rw [e] at q
      rw [List.getLast?_eq_none_iff] at e
      rw [e]
      exact if_f rfl q
    | some y =>
      rw [e] at q
      have e3 : atI (vi (Ut12.side p t)) (-1) = some (V.int (y : Int)) := by
        obtain ⟨ys, e5⟩ := List.getLast?_eq_some_iff.mp e
        rw [e5, vi_app]
        exact atI_last _ _
      have e4 : Ut12.side p t ≠ [] := fun z => by rw [z] at e; cases e
      refine if_t ?_ ?_
      · rw [vi_len]
        refine decide_eq_true ?_
        have := List.length_pos_iff.mpr e4
        omega
      · refine ⟨_, rfl, _, rfl, a, _, _, V.int (y : Int), rfl, rfl, hl, e3, _, rfl, b, _, _, V.int (x : Int), rfl, rfl, SqT.of h, rfl, rfl, ?_⟩
        show Q (.bl (decide (V.int (y : Int) = V.int (x : Int)))) H
        rw [dec_vint]
        rw [opt_beq] at q
        exact q
  | ahead t x y =>
    obtain ⟨b, rfl, h⟩ := hc
    have hl : SqL K H a (vi (Ut12.side p t)) := hl
    have q : Q (.bl (Ut12.aheadOf (Ut12.side p t) x y)) H := q
    refine ⟨_, rfl, b, _, _, _, rfl, rfl, SqT.of h, rfl, ?_⟩
    refine ⟨_, rfl, rfl, _, rfl, if_f (by decide) ?_⟩
    refine ⟨_, rfl, rfl, _, rfl, if_f (by decide) ?_⟩
    exact ⟨_, rfl, _, rfl, b, _, _, _, rfl, rfl, SqT.of h, rfl, _, rfl, b, _, _, _, rfl, rfl, SqT.of h, rfl, a, _, x, y, rfl, hl, q⟩
  | _ => cases hw
theorem ok_holds {d : Nat} (F : Fun K "holds" "holds" s_holds f fd) (T : Txt K mg CR CO) (c_holds : Cal P w K mg base (d + 2) "holds" ["condition", "pair"] (spHolds K d)) (c_term_value : Cal P w K mg base (d + 1) "term_value" ["term", "pair"] (spTermValue K d))
    (c_holds_of_words : Cal P w K mg base 2 "holds_of_words" ["condition", "words"] (spWords K)) : FnOk P w K mg base CX0 (d + 3) f fd ["condition", "pair"] (spHolds K (d + 1)) := by
  refine F.ok sc_holds (fun vs H Q E h => ?_) (fun cdv A outer s H vs Q E hr h => ?_)
  · obtain ⟨v, vp, c, p, rfl, _⟩ := h
    rfl
  obtain ⟨v, vp, c, p, rfl, hc, hd, hok, hp, q⟩ := h
  refine ⟨_, (pss_cons (ps_set (i := 2) sc_holds.nd rfl (Or.inl rfl) (pe_ix ix_tup (pv 0) pe_int (fun _ _ => rfl)))
      (pss_cons (ps_if (pt_cmpR op_eq (pv 2) (pe_gi T.g_ALWAYS) (nomark _)) (pss_one (ps_ret pe_bl)) pss_nil)
      (pss_cons (ps_if (pt_cmpR op_eq (pv 2) (pe_gi T.g_NEVER) (nomark _)) (pss_one (ps_ret pe_bl)) pss_nil)
      (pss_cons (ps_if (pt_cmpR op_eq (pv 2) (pe_gi T.g_BOTH) (nomark _)) (pss_one (ps_ret (pe_and (pe_c c_holds hr (by omega) rfl (pa_cons (pe_ix ix_tup (pv 0) pe_int (fun _ _ => rfl)) (pa_cons (pv 1) pa_nil))) (pe_one (pe_c c_holds hr (by omega) rfl (pa_cons (pe_ix ix_tup (pv 0) pe_int (fun _ _ => rfl)) (pa_cons (pv 1) pa_nil))))))) pss_nil)
      (pss_cons (ps_if (pt_cmpR op_eq (pv 2) (pe_gi T.g_EITHER) (nomark _)) (pss_one (ps_ret (pe_or (pe_c c_holds hr (by omega) rfl (pa_cons (pe_ix ix_tup (pv 0) pe_int (fun _ _ => rfl)) (pa_cons (pv 1) pa_nil))) (pe_one (pe_c c_holds hr (by omega) rfl (pa_cons (pe_ix ix_tup (pv 0) pe_int (fun _ _ => rfl)) (pa_cons (pv 1) pa_nil))))))) pss_nil)
      (pss_cons (ps_if (pt_cmpR op_eq (pv 2) (pe_gi T.g_OPPOSITE) (nomark _)) (pss_one (ps_ret (pe_not (pe_c c_holds hr (by omega) rfl (pa_cons (pe_ix ix_tup (pv 0) pe_int (fun _ _ => rfl)) (pa_cons (pv 1) pa_nil)))))) pss_nil)
      (pss_cons (ps_if (pt_cmpR op_eq (pv 2) (pe_gi T.g_AT_MOST) (nomark _)) (pss_one (ps_ret (pe_cmpR op_le (pe_c c_term_value hr (by omega) rfl (pa_cons (pe_ix ix_tup (pv 0) pe_int (fun _ _ => rfl)) (pa_cons (pv 1) pa_nil))) (pe_c c_term_value hr (by omega) rfl (pa_cons (pe_ix ix_tup (pv 0) pe_int (fun _ _ => rfl)) (pa_cons (pv 1) pa_nil))) (nomark _)))) pss_nil)
      (pss_cons (ps_if (pt_cmpR op_eq (pv 2) (pe_gi T.g_SAME) (nomark _)) (pss_one (ps_ret (pe_cmpR op_eq (pe_c c_term_value hr (by omega) rfl (pa_cons (pe_ix ix_tup (pv 0) pe_int (fun _ _ => rfl)) (pa_cons (pv 1) pa_nil))) (pe_c c_term_value hr (by omega) rfl (pa_cons (pe_ix ix_tup (pv 0) pe_int (fun _ _ => rfl)) (pa_cons (pv 1) pa_nil))) (nomark _)))) pss_nil)
      (pss_one (ps_ret (pe_c c_holds_of_words hr (by omega) rfl (pa_cons (pv 0) (pa_cons (pe_ix ix_tup (pv 1) (pe_ix ix_tup (pv 0) pe_int (fun _ _ => rfl)) (fun _ _ => rfl)) pa_nil))))))))))))), ?_⟩
  cases c with
  | always =>
    obtain ⟨a, rfl, h⟩ := hc
    refine ⟨_, rfl, a, _, _, _, rfl, rfl, SqT.of h, rfl, ?_⟩
    exact ⟨_, rfl, rfl, _, rfl, if_t (by decide) q⟩
  | never =>
    obtain ⟨a, rfl, h⟩ := hc
    refine ⟨_, rfl, a, _, _, _, rfl, rfl, SqT.of h, rfl, ?_⟩
    refine ⟨_, rfl, rfl, _, rfl, if_f (by decide) ?_⟩
    exact ⟨_, rfl, rfl, _, rfl, if_t (by decide) q⟩
  | both x y =>
    obtain ⟨a, vx, vy, rfl, h, hx, hy⟩ := hc
    have hd' : Nat.max (cdep x) (cdep y) + 1 ≤ d + 1 := hd
    have hok' : (Ut12.condOk x && Ut12.condOk y) = true := hok
    rw [Bool.and_eq_true] at hok'
    have d1 : cdep x ≤ d := Nat.le_trans (Nat.le_max_left _ _) (Nat.le_of_succ_le_succ hd')
    have d2 : cdep y ≤ d := Nat.le_trans (Nat.le_max_right _ _) (Nat.le_of_succ_le_succ hd')
    have q : Q (.bl (Ut12.holds p x && Ut12.holds p y)) H := q
    refine ⟨_, rfl, a, _, _, _, rfl, rfl, SqT.of h, rfl, ?_⟩
    refine ⟨_, rfl, rfl, _, rfl, if_f (by decide) ?_⟩
    refine ⟨_, rfl, rfl, _, rfl, if_f (by decide) ?_⟩
    refine ⟨_, rfl, rfl, _, rfl, if_t (by decide) ?_⟩
    refine ⟨_, rfl, a, _, _, _, rfl, rfl, SqT.of h, rfl, _, rfl, vx, vp, x, p, rfl, hx, d1, hok'.1, hp, _, rfl, ?_⟩
    cases e : Ut12.holds p x with
    | false =>
      rw [e] at q
      exact if_f rfl q
    | true =>
      rw [e] at q
      exact if_t rfl ⟨_, rfl, a, _, _, _, rfl, rfl, SqT.of h, rfl, _, rfl, vy, vp, y, p, rfl, hy, d2, hok'.2, hp, q⟩
  | either x y =>
    obtain ⟨a, vx, vy, rfl, h, hx, hy⟩ := hc
    have hd' : Nat.max (cdep x) (cdep y) + 1 ≤ d + 1 := hd
    have hok' : (Ut12.condOk x && Ut12.condOk y) = true := hok
    rw [Bool.and_eq_true] at hok'
    have d1 : cdep x ≤ d := Nat.le_trans (Nat.le_max_left _ _) (Nat.le_of_succ_le_succ hd')
    have d2 : cdep y ≤ d := Nat.le_trans (Nat.le_max_right _ _) (Nat.le_of_succ_le_succ hd')
    have q : Q (.bl (Ut12.holds p x || Ut12.holds p y)) H := q
    refine ⟨_, rfl, a, _, _, _, rfl, rfl, SqT.of h, rfl, ?_⟩
    refine ⟨_, rfl, rfl, _, rfl, if_f (by decide) ?_⟩
    refine ⟨_, rfl, rfl, _, rfl, if_f (by decide) ?_⟩
    refine ⟨_, rfl, rfl, _, rfl, if_f (by decide) ?_⟩
    refine ⟨_, rfl, rfl, _, rfl, if_t (by decide) ?_⟩
    refine ⟨_, rfl, a, _, _, _, rfl, rfl, SqT.of h, rfl, _, rfl, vx, vp, x, p, rfl, hx, d1, hok'.1, hp, _, rfl, ?_⟩
    cases e : Ut12.holds p x with
    | true =>
      rw [e] at q
      exact if_t rfl q
    | false =>
      rw [e] at q
      exact if_f rfl ⟨_, rfl, a, _, _, _, rfl, rfl, SqT.of h, rfl, _, rfl, vy, vp, y, p, rfl, hy, d2, hok'.2, hp, q⟩
  | not_ x =>
    obtain ⟨a, vx, rfl, h, hx⟩ := hc
    have hd' : cdep x + 1 ≤ d + 1 := hd
    have q : Q (.bl (!Ut12.holds p x)) H := q
    refine ⟨_, rfl, a, _, _, _, rfl, rfl, SqT.of h, rfl, ?_⟩
    refine ⟨_, rfl, rfl, _, rfl, if_f (by decide) ?_⟩
    refine ⟨_, rfl, rfl, _, rfl, if_f (by decide) ?_⟩
    refine ⟨_, rfl, rfl, _, rfl, if_f (by decide) ?_⟩
    refine ⟨_, rfl, rfl, _, rfl, if_f (by decide) ?_⟩
    refine ⟨_, rfl, rfl, _, rfl, if_t (by decide) ?_⟩
    exact ⟨_, rfl, a, _, _, _, rfl, rfl, SqT.of h, rfl, _, rfl, vx, vp, x, p, rfl, hx, Nat.le_of_succ_le_succ hd', hok, hp, _, rfl, q⟩
  | atMost x y =>
    obtain ⟨a, vx, vy, rfl, h, hx, hy⟩ := hc
    have hd' : Nat.max (tdep x) (tdep y) + 1 ≤ d + 1 := hd
    have hok' : (Ut12.termOk x && Ut12.termOk y) = true := hok
    rw [Bool.and_eq_true] at hok'
    have d1 : tdep x ≤ d := Nat.le_trans (Nat.le_max_left _ _) (Nat.le_of_succ_le_succ hd')
    have d2 : tdep y ≤ d := Nat.le_trans (Nat.le_max_right _ _) (Nat.le_of_succ_le_succ hd')
    have q : Q (.bl (decide (Ut12.value p x ≤ Ut12.value p y))) H := q
    refine ⟨_, rfl, a, _, _, _, rfl, rfl, SqT.of h, rfl, ?_⟩
    refine ⟨_, rfl, rfl, _, rfl, if_f (by decide) ?_⟩
    refine ⟨_, rfl, rfl, _, rfl, if_f (by decide) ?_⟩
    refine ⟨_, rfl, rfl, _, rfl, if_f (by decide) ?_⟩
    refine ⟨_, rfl, rfl, _, rfl, if_f (by decide) ?_⟩
    refine ⟨_, rfl, rfl, _, rfl, if_f (by decide) ?_⟩
    refine ⟨_, rfl, rfl, _, rfl, if_t (by decide) ?_⟩
    refine ⟨_, rfl, a, _, _, _, rfl, rfl, SqT.of h, rfl, _, rfl, vx, vp, x, p, rfl, hx, d1, hok'.1, hp, ?_⟩
    refine ⟨_, rfl, a, _, _, _, rfl, rfl, SqT.of h, rfl, _, rfl, vy, vp, y, p, rfl, hy, d2, hok'.2, hp, _, _, rfl, rfl, ?_⟩
    show Q (.bl (decide (((Ut12.value p x : Nat) : Int) ≤ ((Ut12.value p y : Nat) : Int)))) H
    have e : decide (((Ut12.value p x : Nat) : Int) ≤ ((Ut12.value p y : Nat) : Int)) = decide (Ut12.value p x ≤ Ut12.value p y) := decide_eq_decide.mpr Int.ofNat_le
    rw [e]
    exact q
  | same x y =>
    obtain ⟨a, vx, vy, rfl, h, hx, hy⟩ := hc
    have hd' : Nat.max (tdep x) (tdep y) + 1 ≤ d + 1 := hd
    have hok' : (Ut12.termOk x && Ut12.termOk y) = true := hok
    rw [Bool.and_eq_true] at hok'
    have d1 : tdep x ≤ d := Nat.le_trans (Nat.le_max_left _ _) (Nat.le_of_succ_le_succ hd')
    have d2 : tdep y ≤ d := Nat.le_trans (Nat.le_max_right _ _) (Nat.le_of_succ_le_succ hd')
    have q : Q (.bl (Ut12.value p x == Ut12.value p y)) H := q
    refine ⟨_, rfl, a, _, _, _, rfl, rfl, SqT.of h, rfl, ?_⟩
    refine ⟨_, rfl, rfl, _, rfl, if_f (by decide) ?_⟩
    refine ⟨_, rfl, rfl, _, rfl, if_f (by decide) ?_⟩
    refine ⟨_, rfl, rfl, _, rfl, if_f (by decide) ?_⟩
    refine ⟨_, rfl, rfl, _, rfl, if_f (by decide) ?_⟩
    refine ⟨_, rfl, rfl, _, rfl, if_f (by decide) ?_⟩
    refine ⟨_, rfl, rfl, _, rfl, if_f (by decide) ?_⟩
    refine ⟨_, rfl, rfl, _, rfl, if_t (by decide) ?_⟩
    refine ⟨_, rfl, a, _, _, _, rfl, rfl, SqT.of h, rfl, _, rfl, vx, vp, x, p, rfl, hx, d1, hok'.1, hp, ?_⟩
    refine ⟨_, rfl, a, _, _, _, rfl, rfl, SqT.of h, rfl, _, rfl, vy, vp, y, p, rfl, hy, d2, hok'.2, hp, rfl, ?_⟩
    show Q (.bl (decide (V.int ((Ut12.value p x : Nat) : Int) = V.int ((Ut12.value p y : Nat) : Int)))) H
    rw [dec_vint]
    have e : (Ut12.value p x == Ut12.value p y) = decide (Ut12.value p x = Ut12.value p y) := by simp [BEq.beq]
    rw [e] at q
    exact q
  | begins t x =>
    have hc' : CdAt H v (.begins t x) := hc
    obtain ⟨a, rfl, h⟩ := hc
    obtain ⟨pq, a1, b1, rfl, hpq, hA, hB⟩ := hp
    obtain ⟨c, hcc, hs⟩ := at_side hA hB t
    refine ⟨_, rfl, a, _, _, _, rfl, rfl, SqT.of h, rfl, ?_⟩
    refine ⟨_, rfl, rfl, _, rfl, if_f (by decide) ?_⟩
    refine ⟨_, rfl, rfl, _, rfl, if_f (by decide) ?_⟩
    refine ⟨_, rfl, rfl, _, rfl, if_f (by decide) ?_⟩
    refine ⟨_, rfl, rfl, _, rfl, if_f (by decide) ?_⟩
    refine ⟨_, rfl, rfl, _, rfl, if_f (by decide) ?_⟩
    refine ⟨_, rfl, rfl, _, rfl, if_f (by decide) ?_⟩
    refine ⟨_, rfl, rfl, _, rfl, if_f (by decide) ?_⟩
    exact ⟨_, rfl, _, rfl, _, rfl, a, _, _, _, rfl, rfl, SqT.of h, rfl, pq, _, _, _, rfl, rfl, SqT.of hpq, hcc, _, c, .begins t x, p, rfl, rfl, hc', hs, q⟩
  | ends t x =>
    have hc' : CdAt H v (.ends t x) := hc
    obtain ⟨a, rfl, h⟩ := hc
    obtain ⟨pq, a1, b1, rfl, hpq, hA, hB⟩ := hp
    obtain ⟨c, hcc, hs⟩ := at_side hA hB t
    refine ⟨_, rfl, a, _, _, _, rfl, rfl, SqT.of h, rfl, ?_⟩
    refine ⟨_, rfl, rfl, _, rfl, if_f (by decide) ?_⟩
    refine ⟨_, rfl, rfl, _, rfl, if_f (by decide) ?_⟩
    refine ⟨_, rfl, rfl, _, rfl, if_f (by decide) ?_⟩
    refine ⟨_, rfl, rfl, _, rfl, if_f (by decide) ?_⟩
    refine ⟨_, rfl, rfl, _, rfl, if_f (by decide) ?_⟩
    refine ⟨_, rfl, rfl, _, rfl, if_f (by decide) ?_⟩
    refine ⟨_, rfl, rfl, _, rfl, if_f (by decide) ?_⟩
    exact ⟨_, rfl, _, rfl, _, rfl, a, _, _, _, rfl, rfl, SqT.of h, rfl, pq, _, _, _, rfl, rfl, SqT.of hpq, hcc, _, c, .ends t x, p, rfl, rfl, hc', hs, q⟩
  | ahead t x y =>
    have hc' : CdAt H v (.ahead t x y) := hc
    obtain ⟨a, rfl, h⟩ := hc
    obtain ⟨pq, a1, b1, rfl, hpq, hA, hB⟩ := hp
    obtain ⟨c, hcc, hs⟩ := at_side hA hB t
    refine ⟨_, rfl, a, _, _, _, rfl, rfl, SqT.of h, rfl, ?_⟩
    refine ⟨_, rfl, rfl, _, rfl, if_f (by decide) ?_⟩
    refine ⟨_, rfl, rfl, _, rfl, if_f (by decide) ?_⟩
    refine ⟨_, rfl, rfl, _, rfl, if_f (by decide) ?_⟩
    refine ⟨_, rfl, rfl, _, rfl, if_f (by decide) ?_⟩
    refine ⟨_, rfl, rfl, _, rfl, if_f (by decide) ?_⟩
    refine ⟨_, rfl, rfl, _, rfl, if_f (by decide) ?_⟩
    refine ⟨_, rfl, rfl, _, rfl, if_f (by decide) ?_⟩
    exact ⟨_, rfl, _, rfl, _, rfl, a, _, _, _, rfl, rfl, SqT.of h, rfl, pq, _, _, _, rfl, rfl, SqT.of hpq, hcc, _, c, .ahead t x y, p, rfl, rfl, hc', hs, q⟩
theorem ok_breaks (F : Fun K "breaks" "breaks" s_breaks f fd) (c_holds : Cal P w K mg base 14 "holds" ["condition", "pair"] (spHolds K 12)) : FnOk P w K mg base CX0 15 f fd ["pair", "check"] (spBreaks K) := by
  refine F.ok sc_breaks (fun vs H Q E h => ?_) (fun cdv A outer s H vs Q E hr h => ?_)
  · obtain ⟨v, vp, c, p, rfl, _⟩ := h
    rfl
  obtain ⟨v, vp, c, p, rfl, ⟨a, vw, vm, rfl, h, hw, hm⟩, d1, d2, o1, o2, hp, q⟩ := h
  refine ⟨_, (pss_one (ps_ret (pe_and (pe_c c_holds hr (by omega) rfl (pa_cons (pe_ix ix_tup (pv 1) pe_int (fun _ _ => rfl)) (pa_cons (pv 0) pa_nil))) (pe_one (pe_not (pe_c c_holds hr (by omega) rfl (pa_cons (pe_ix ix_tup (pv 1) pe_int (fun _ _ => rfl)) (pa_cons (pv 0) pa_nil)))))))), ?_⟩
  refine ⟨_, rfl, a, _, _, _, rfl, rfl, SqT.of h, rfl, _, rfl, vw, vp, c.when, p, rfl, hw, d1, o1, hp, _, rfl, ?_⟩
  have q : Q (.bl (Ut12.holds p c.when && !Ut12.holds p c.must)) H := q
  cases e : Ut12.holds p c.when with
  | false =>
    rw [e] at q
    exact if_f rfl q
  | true =>
    rw [e] at q
    exact if_t rfl ⟨_, rfl, a, _, _, _, rfl, rfl, SqT.of h, rfl, _, rfl, vm, vp, c.must, p, rfl, hm, d2, o2, hp, _, rfl, q⟩
end
end Pc

namespace Pc
open PySem PySem.Spec PyProof.Rows L2
def spSmall (K : PySem.W.Frag) : Sp := fun vs H Q _ => ∃ (a : Addr) (l : List Nat), vs = [.ref a] ∧ SqL K H a (vi l) ∧ Q (.bl (small l)) H
def spSent (K : PySem.W.Frag) : Sp := fun vs H Q _ => ∃ (a : Addr) (l : List Nat), vs = [.ref a] ∧ SqL K H a (vi l) ∧ Q (.bl (Ut12.sentOk l)) H
def spRising (K : PySem.W.Frag) : Sp := fun vs H Q _ => ∃ (a : Addr) (l : List Nat), vs = [.ref a] ∧ SqL K H a (vi l) ∧ l.length ≤ 1000 ∧ Q (.bl (Ut12.rising l)) H
def letOk (a : List Nat) : Bool := !decide (a = [] ∨ 5 < a.length ∨ (a.all fun w => decide (w ≤ 99)) = false ∨ Ut12.rising a = false)
def spLetters (K : PySem.W.Frag) : Sp := fun vs H Q _ => ∃ (a : Addr) (l : List Nat), vs = [.ref a] ∧ SqL K H a (vi l) ∧ Q (.bl (letOk l)) H
def spCount : Sp := fun vs H Q _ => ∃ (a n : Nat), vs = [.int (a : Int), .int (n : Int)] ∧ a ≤ 5 ∧ n ≤ 4 ∧ Q (.int (Ut12.many a n : Nat)) H
def fewB (a n : Nat) : Bool := decide (n ≤ 4) && decide (Ut12.many a n ≤ 31)
def spSearch (K : PySem.W.Frag) : Sp := fun vs H Q _ => ∃ (a : Addr) (l : List Nat) (n : Nat), vs = [.ref a, .int (n : Int)] ∧ SqL K H a (vi l) ∧ l.length ≤ 5 ∧ Q (.bl (fewB l.length n)) H
/-- lists of lists -/
inductive Lists (H : Hp) : List Addr → List (List Nat) → Prop
  | nil : Lists H [] []
  | cons {r : Addr} {rs : List Addr} {s : List Nat} {ss : List (List Nat)} : H r = some (.lst (vi s)) → Lists H rs ss → Lists H (r :: rs) (s :: ss)
theorem Lists.mono {H H' : Hp} (k : Same H H') {rs : List Addr} {ss : List (List Nat)} (h : Lists H rs ss) : Lists H' rs ss := by
  induction h with
  | nil => exact .nil
  | cons e _ ih => exact .cons (k _ _ e) ih
theorem Lists.keep {H H' : Hp} {rs : List Addr} {ss : List (List Nat)} (h : Lists H rs ss) (k : ∀ r ∈ rs, ∀ o, H r = some o → H' r = some o) : Lists H' rs ss := by
  induction h with
  | nil => exact .nil
  | cons e _ ih => exact .cons (k _ List.mem_cons_self _ e) (ih fun r hr => k r (List.mem_cons_of_mem _ hr))
theorem Lists.app {H : Hp} {rs qs : List Addr} {ss ts : List (List Nat)} (h : Lists H rs ss) (g : Lists H qs ts) : Lists H (rs ++ qs) (ss ++ ts) := by
  induction h with
  | nil => exact g
  | cons e _ ih => exact .cons e ih
theorem Lists.len {H : Hp} {rs : List Addr} {ss : List (List Nat)} (h : Lists H rs ss) : rs.length = ss.length := by
  induction h with
  | nil => rfl
  | cons _ _ ih => rw [List.length_cons, List.length_cons, ih]
theorem Lists.get {H : Hp} {rs : List Addr} {ss : List (List Nat)} (h : Lists H rs ss) : ∀ {i : Nat} {r : Addr}, rs[i]? = some r → ∃ s, ss[i]? = some s ∧ H r = some (.lst (vi s)) := by
  induction h with
  | nil => intro i r e; simp at e
  | cons e0 _ ih =>
    intro i r e
    cases i with
    | zero => cases e; exact ⟨_, rfl, e0⟩
    | succ i => exact ih e
/-- at a a list of lists -/
def LLAt (H : Hp) (a : Addr) (ss : List (List Nat)) : Prop := ∃ rs : List Addr, H a = some (.lst (rs.map V.ref)) ∧ Lists H rs ss
theorem LLAt.mono {H H' : Hp} (k : Same H H') {a : Addr} {ss : List (List Nat)} (h : LLAt H a ss) : LLAt H' a ss := by
  obtain ⟨rs, h1, h2⟩ := h
  exact ⟨rs, k _ _ h1, h2.mono k⟩
def spLonger (K : PySem.W.Frag) : Sp := fun vs H Q _ => ∃ (b a : Addr) (ss : List (List Nat)) (l : List Nat), vs = [.ref b, .ref a] ∧ LLAt H b ss ∧ SqL K H a (vi l) ∧ (∀ s ∈ ss, s.length ≤ 1000) ∧ (longer ss l).length ≤ 100000 ∧ l.length ≤ 5 ∧
  ∀ (H' : Hp) (p : Addr), Same H H' → H p = none → LLAt H' p (longer ss l) → Q (.ref p) H'
def spInOrder (K : PySem.W.Frag) : Sp := fun vs H Q _ => ∃ (a : Addr) (l : List Nat) (n : Nat), vs = [.ref a, .int (n : Int)] ∧ SqL K H a (vi l) ∧ l.length ≤ 5 ∧ n ≤ 4 ∧ (Ut12.upTo l n).length ≤ 31 ∧
  ∀ (H' : Hp) (p : Addr), Same H H' → H p = none → LLAt H' p (Ut12.upTo l n) → Q (.ref p) H'
/-- a row with its count ahead -/
def spCounted : Sp := fun vs H Q _ => ∃ (a : Addr) (xs : List V), vs = [.ref a] ∧ H a = some (.lst xs) ∧ xs.length < sizeLine ∧ ∀ (H' : Hp) (p : Addr), Same H H' → H p = none → H' p = some (.lst (.int (xs.length : Nat) :: xs)) → Q (.ref p) H'
/-- pairs in the heap: the tuples stand in H, the lists in H1 -/
inductive Prs (H1 H : Hp) : List Addr → List Ut12.Pair → Prop
  | nil : Prs H1 H [] []
  | cons {q a b : Addr} {qs : List Addr} {p : Ut12.Pair} {ps : List Ut12.Pair} : H q = some (.tup [.ref a, .ref b]) → H1 a = some (.lst (vi p.1)) → H1 b = some (.lst (vi p.2)) → Prs H1 H qs ps → Prs H1 H (q :: qs) (p :: ps)
theorem Prs.tk {H1 H H' : Hp} (k : TK H H') {qs : List Addr} {ps : List Ut12.Pair} (h : Prs H1 H qs ps) : Prs H1 H' qs ps := by
  induction h with
  | nil => exact .nil
  | cons e e1 e2 _ ih => exact .cons (k _ _ e) e1 e2 ih
theorem Prs.left {H1 H2 H : Hp} (k : Same H1 H2) {qs : List Addr} {ps : List Ut12.Pair} (h : Prs H1 H qs ps) : Prs H2 H qs ps := by
  induction h with
  | nil => exact .nil
  | cons e e1 e2 _ ih => exact .cons e (k _ _ e1) (k _ _ e2) ih
theorem Prs.app {H1 H : Hp} {rs qs : List Addr} {ss ts : List Ut12.Pair} (h : Prs H1 H rs ss) (g : Prs H1 H qs ts) : Prs H1 H (rs ++ qs) (ss ++ ts) := by
  induction h with
  | nil => exact g
  | cons e e1 e2 _ ih => exact .cons e e1 e2 ih
theorem Prs.len {H1 H : Hp} {rs : List Addr} {ss : List Ut12.Pair} (h : Prs H1 H rs ss) : rs.length = ss.length := by
  induction h with
  | nil => rfl
  | cons _ _ _ _ ih => rw [List.length_cons, List.length_cons, ih]
theorem Prs.get {H1 H : Hp} {rs : List Addr} {ss : List Ut12.Pair} (h : Prs H1 H rs ss) : ∀ {i : Nat} {r : Addr}, rs[i]? = some r → ∃ p a b, ss[i]? = some p ∧ H r = some (.tup [.ref a, .ref b]) ∧ H1 a = some (.lst (vi p.1)) ∧ H1 b = some (.lst (vi p.2)) := by
  induction h with
  | nil => intro i r e; simp at e
  | cons e0 e1 e2 _ ih =>
    intro i r e
    cases i with
    | zero => cases e; exact ⟨_, _, _, rfl, e0, e1, e2⟩
    | succ i => exact ih e
def spPairs (K : PySem.W.Frag) : Sp := fun vs H Q _ => ∃ (a : Addr) (l : List Nat) (n : Nat), vs = [.ref a, .int (n : Int)] ∧ SqL K H a (vi l) ∧ l.length ≤ 5 ∧ n ≤ 4 ∧ (Ut12.upTo l n).length ≤ 31 ∧
  ∀ (H' : Hp) (p : Addr) (qs : List Addr), Same H H' → H p = none → H' p = some (.lst (qs.map V.ref)) → Prs H' H' qs (Ut12.pairs l n) → Q (.ref p) H'
theorem small_take {l : List Nat} {i x : Nat} (h : l[i]? = some x) (hx : 99 < x) : small l = false := by
  unfold small
  rw [List.all_eq_false]
  exact ⟨x, List.mem_of_getElem? h, by simp; omega⟩
theorem line5 {n : Nat} (h : n ≤ 1000000) : n < sizeLine := Nat.lt_of_le_of_lt h (by decide)
theorem ne_mem {p r : Addr} {qs : List Addr} (np : p ∉ qs) (hr : r ∈ qs) : r ≠ p := fun e => by
  subst e
  exact np hr
theorem ref_vi {qs : List Addr} {s : List Nat} (h : 1 ≤ qs.length) : qs.map V.ref ≠ vi s := fun e => by
  cases qs with
  | nil => simp at h
  | cons q qs =>
    cases s with
    | nil => cases e
    | cons x s => cases e
theorem ref_get {rs : List Addr} {i : Nat} {z : V} (h : (rs.map V.ref)[i]? = some z) : ∃ r, rs[i]? = some r ∧ z = .ref r := by
  rw [List.getElem?_map] at h
  cases er : rs[i]? with
  | none => rw [er] at h; cases h
  | some r => rw [er] at h; exact ⟨r, rfl, (Option.some.inj h).symm⟩
theorem upTo_pos (l : List Nat) : ∀ n, 1 ≤ (Ut12.upTo l n).length
  | 0 => by rw [upTo_zero]; exact Nat.le_refl _
  | n + 1 => by
    rw [upTo_succ, List.length_append]
    have := upTo_pos l n
    omega
section
variable {P : Program} {w : World} {K : PySem.W.Frag} {mg : Str → Option Value} {base : Heap} {CR CO : Addr} {f : Addr} {fd : FuncData}
theorem ok_are_small (F : Fun K "are_small" "are_small" s_are_small f fd) (T : Txt K mg CR CO) : FnOk P w K mg base CX0 1 f fd ["numbers"] (spSmall K) := by
  refine F.ok sc_are_small (fun vs H Q E h => ?_) (fun cdv A outer s H vs Q E hr h => ?_)
  · obtain ⟨a, l, rfl, _⟩ := h
    rfl
  obtain ⟨a, l, rfl, hl, q⟩ := h
  refine ⟨_, (pss_cons (ps_for PassesOwn.never rfl (pi_list (pv 0)) (pg_name (i := 1) sc_are_small.nd rfl (Or.inl rfl)) (pss_one (ps_if (pt_cmpR op_gt (pv 1) (pe_gi T.g_LARGEST_WORD) (nomark _)) (pss_one (ps_ret pe_bl)) pss_nil)))
      (pss_one (ps_ret pe_bl))), ?_⟩
  refine ⟨_, rfl, a, rfl, ⟨_, hl⟩, for_list (K := K) (a := a) (xs := vi l) (fun i σ H' => ∃ v : Option V, σ = [some (.ref a), v] ∧ H' = H ∧ small (l.take i) = true)
    ⟨none, rfl, rfl, rfl⟩ (fun i σ H' _ ⟨_, _, e, _⟩ => by rw [e]; exact hl) ?_ ?_⟩
  · rintro i z σ H' hi ⟨v, rfl, rfl, hs⟩
    obtain ⟨z, hz, rfl⟩ := vi_inv hi
    refine ⟨_, rfl, _, _, rfl, rfl, _, rfl, ?_⟩
    by_cases h1 : 99 < z
    · refine if_t (decide_eq_true (by omega)) ?_
      rw [small_take hz h1] at q
      exact q
    · refine if_f (decide_eq_false (by omega)) ?_
      refine ⟨_, rfl, rfl, ?_⟩
      rw [take_more hz, small_app, hs]
      show (true && (decide (z ≤ 99) && true)) = true
      rw [decide_eq_true (by omega)]
      rfl
  · rintro σ H' ⟨v, rfl, rfl, hs⟩
    rw [vi_len, List.take_length] at hs
    rw [hs] at q
    exact q
theorem ok_is_sentence (F : Fun K "is_sentence" "is_sentence" s_is_sentence f fd) (T : Txt K mg CR CO) (c_are_small : Cal P w K mg base 1 "are_small" ["numbers"] (spSmall K)) : FnOk P w K mg base CX0 2 f fd ["words"] (spSent K) := by
  refine F.ok sc_is_sentence (fun vs H Q E h => ?_) (fun cdv A outer s H vs Q E hr h => ?_)
  · obtain ⟨a, l, rfl, _⟩ := h
    rfl
  obtain ⟨a, l, rfl, hl, q⟩ := h
  refine ⟨_, (pss_one (ps_ret (pe_and (pe_cmpR op_le (pe_callB call_len_seq (by rfl) T.b_len PySem.boot_len (pa_cons (pv 0) pa_nil)) (pe_gi T.g_MOST_WORDS) (nomark _)) (pe_one (pe_c c_are_small hr (by omega) rfl (pa_cons (pv 0) pa_nil)))))), ?_⟩
  refine ⟨_, rfl, a, _, rfl, .inl hl, _, _, rfl, rfl, _, rfl, ?_⟩
  have q : Q (.bl (decide (l.length ≤ 20) && small l)) H := q
  rw [vi_len]
  by_cases h : l.length ≤ 20
  · refine if_t (decide_eq_true (by omega)) ?_
    rw [decide_eq_true h] at q
    exact ⟨_, rfl, a, l, rfl, hl, q⟩
  · refine if_f (decide_eq_false (by omega)) ?_
    rw [decide_eq_false h] at q
    exact q
theorem ok_are_rising (F : Fun K "are_rising" "are_rising" s_are_rising f fd) (T : Txt K mg CR CO) : FnOk P w K mg base CX0 1 f fd ["numbers"] (spRising K) := by
  refine F.ok sc_are_rising (fun vs H Q E h => ?_) (fun cdv A outer s H vs Q E hr h => ?_)
  · obtain ⟨a, l, rfl, _⟩ := h
    rfl
  obtain ⟨a, l, rfl, hl, hlen, q⟩ := h
  refine ⟨_, (pss_cons (ps_for PassesOwn.never rfl (pi_range2 (by rfl) T.b_range (pa_cons pe_int (pa_cons (pe_callB call_len_seq (by rfl) T.b_len PySem.boot_len (pa_cons (pv 0) pa_nil)) pa_nil))) (pg_name (i := 1) sc_are_rising.nd rfl (Or.inl rfl)) (pss_one (ps_if (pt_cmpR op_le (pe_ix ix_list (pv 0) (pv 1) (fun _ _ => rfl)) (pe_ix ix_list (pv 0) (pe_op op_sub (pv 1) pe_int) (fun _ _ => rfl)) (nomark _)) (pss_one (ps_ret pe_bl)) pss_nil)))
      (pss_one (ps_ret pe_bl))), ?_⟩
  refine ⟨_, rfl, a, _, rfl, .inl hl, _, _, rfl, ⟨by decide, by decide, by rw [vi_len]; omega, by rw [vi_len]; omega⟩, ?_⟩
  refine for_range (lo := 1) (n := (((vi l).length : Int) - 1).toNat) (fun i σ H' => ∃ v : Option V, σ = [some (.ref a), v] ∧ H' = H ∧ ∀ j x y, j < i → l[j]? = some x → l[j + 1]? = some y → x < y)
    ⟨none, rfl, rfl, fun j x y hj => absurd hj (Nat.not_lt_zero j)⟩ ?_ ?_
  · rintro i σ H' hi ⟨v, rfl, rfl, hs⟩
    rw [vi_len] at hi
    have hi2 : i + 1 < l.length := by omega
    have e1 : l[i]? = some l[i] := List.getElem?_eq_getElem (by omega)
    have e2 : l[i + 1]? = some l[i + 1] := List.getElem?_eq_getElem hi2
    refine ⟨_, rfl, _, rfl, a, _, _, _, rfl, rfl, hl, atI_vi' (i := i + 1) (by omega) e2, _, rfl, _, rfl, _, _, rfl, rfl, a, _, _, _, rfl, rfl, hl, atI_vi' (i := i) (by omega) e1, _, _, rfl, rfl, _, rfl, ?_⟩
    by_cases h : l[i] < l[i + 1]
    · refine if_f (decide_eq_false (by omega)) ⟨_, rfl, rfl, fun j x y hj hx hy => ?_⟩
      by_cases ej : j = i
      · subst ej
        rw [e1] at hx
        rw [e2] at hy
        cases hx
        cases hy
        exact h
      · exact hs j x y (by omega) hx hy
    · refine if_t (decide_eq_true (by omega)) ?_
      have e : Ut12.rising l = false := Bool.eq_false_iff.mpr fun z => h ((rising_iff l).mp z i _ _ e1 e2)
      rw [e] at q
      exact q
  · rintro σ H' ⟨v, rfl, rfl, hs⟩
    have e : Ut12.rising l = true := (rising_iff l).mpr fun i x y hx hy => by
      have h2 := (List.getElem?_eq_some_iff.mp hy).1
      exact hs i x y (by rw [vi_len]; omega) hx hy
    rw [e] at q
    exact q
theorem ok_are_letters (F : Fun K "are_letters" "are_letters" s_are_letters f fd) (T : Txt K mg CR CO) (c_are_small : Cal P w K mg base 1 "are_small" ["numbers"] (spSmall K)) (c_are_rising : Cal P w K mg base 1 "are_rising" ["numbers"] (spRising K)) :
    FnOk P w K mg base CX0 2 f fd ["numbers"] (spLetters K) := by
  refine F.ok sc_are_letters (fun vs H Q E h => ?_) (fun cdv A outer s H vs Q E hr h => ?_)
  · obtain ⟨a, l, rfl, _⟩ := h
    rfl
  obtain ⟨a, l, rfl, hl, q⟩ := h
  refine ⟨_, (pss_cons (ps_if (PW.pt (pw_or (pt_cmpR op_eq (pe_callB call_len_seq (by rfl) T.b_len PySem.boot_len (pa_cons (pv 0) pa_nil)) pe_int (nomark _)) (pw_or1 (pt_cmpR op_gt (pe_callB call_len_seq (by rfl) T.b_len PySem.boot_len (pa_cons (pv 0) pa_nil)) (pe_gi T.g_MOST_LETTERS) (nomark _))))) (pss_one (ps_ret pe_bl)) pss_nil)
      (pss_one (ps_ret (pe_and (pe_c c_are_small hr (by omega) rfl (pa_cons (pv 0) pa_nil)) (pe_one (pe_c c_are_rising hr (by omega) rfl (pa_cons (pv 0) pa_nil))))))), ?_⟩
  refine ⟨_, rfl, a, _, rfl, .inl hl, rfl, _, rfl, ?_⟩
  rw [vi_len]
  by_cases h0 : l = []
  · refine if_t (by subst h0; decide) (if_t rfl ?_)
    have e : letOk l = false := by unfold letOk; rw [decide_eq_true (.inl h0)]; rfl
    rw [e] at q
    exact q
  · have hp := List.length_pos_iff.mpr h0
    refine if_f (decide_eq_false fun z => by injection z with z; omega) ?_
    refine ⟨_, rfl, a, _, rfl, .inl hl, _, _, rfl, rfl, _, rfl, ?_⟩
    rw [vi_len]
    by_cases h1 : 5 < l.length
    · refine if_t (decide_eq_true (by omega)) ?_
      have e : letOk l = false := by unfold letOk; rw [decide_eq_true (.inr (.inl h1))]; rfl
      rw [e] at q
      exact q
    · refine if_f (decide_eq_false (by omega)) ?_
      refine ⟨_, rfl, a, l, rfl, hl, _, rfl, ?_⟩
      cases e : small l with
      | false =>
        refine if_f rfl ?_
        have e : letOk l = false := by unfold letOk; rw [decide_eq_true (.inr (.inr (.inl e)))]; rfl
        rw [e] at q
        exact q
      | true =>
        refine if_t rfl ⟨_, rfl, a, l, rfl, hl, by omega, ?_⟩
        have e : letOk l = Ut12.rising l := by
          unfold letOk
          cases e2 : Ut12.rising l with
          | false => rw [decide_eq_true (.inr (.inr (.inr rfl)))]; rfl
          | true =>
            rw [decide_eq_false]
            · rfl
            · rintro (z | z | z | z)
              · exact h0 z
              · exact h1 z
              · have e : (l.all fun w => decide (w ≤ 99)) = true := e
                rw [e] at z
                cases z
              · cases z
        rw [e] at q
        exact q
theorem ok_count_sentences (F : Fun K "count_sentences" "count_sentences" s_count_sentences f fd) (T : Txt K mg CR CO) : FnOk P w K mg base CX0 1 f fd ["letter_count", "most_words"] spCount := by
  refine F.ok sc_count_sentences (fun vs H Q E h => ?_) (fun cdv A outer s H vs Q E hr h => ?_)
  · obtain ⟨a, n, rfl, _⟩ := h
    rfl
  obtain ⟨a, n, rfl, ha, hn, q⟩ := h
  refine ⟨_, (pss_cons (ps_set (i := 2) sc_count_sentences.nd rfl (Or.inl rfl) pe_int)
      (pss_cons (ps_set (i := 3) sc_count_sentences.nd rfl (Or.inl rfl) pe_int)
      (pss_cons (ps_for PassesOwn.never rfl (pi_range1 rfl T.b_range (pa_cons (pv 1) pa_nil)) (pg_name (i := 4) sc_count_sentences.nd rfl (Or.inl rfl)) (pss_cons (ps_aug (i := 3) sc_count_sentences.nd rfl (.inl rfl) (pv 0) ip_mul)
      (pss_one (ps_aug (i := 2) sc_count_sentences.nd rfl (.inl rfl) (pv 3) ip_add))))
      (pss_one (ps_ret (pv 2)))))), ?_⟩
  refine ⟨_, rfl, _, rfl, by omega, by omega, ?_⟩
  refine for_range (lo := 0) (n := ((n : Int)).toNat) (fun i σ H' => ∃ v : Option V, σ = [some (.int (a : Int)), some (.int (n : Int)), some (.int (Ut12.many a i : Nat)), some (.int (a ^ i : Nat)), v] ∧ H' = H)
    ⟨none, by rw [many_zero]; rfl, rfl⟩ ?_ ?_
  · rintro i σ H' hi ⟨v, rfl, rfl⟩
    have hi2 : i < n := hi
    have b1 : a ^ i ≤ 5 ^ 4 := Nat.le_trans (Nat.pow_le_pow_left ha i) (Nat.pow_le_pow_right (by decide) (by omega))
    refine ⟨_, rfl, _, rfl, _, _, rfl, rfl, ⟨by omega, by omega⟩, ?_⟩
    refine ⟨_, rfl, _, rfl, _, _, rfl, rfl, ⟨some (.int (0 + i)), ?_, rfl⟩⟩
    have e1 : ((a ^ i : Nat) : Int) * (a : Int) = ((a ^ (i + 1) : Nat) : Int) := by rw [Nat.pow_succ, Int.natCast_mul]
    have e2 : ((Ut12.many a i : Nat) : Int) + ((a ^ i : Nat) : Int) * (a : Int) = ((Ut12.many a (i + 1) : Nat) : Int) := by rw [e1, many_succ, Int.natCast_add]
    show [some (V.int (a : Int)), some (V.int (n : Int)), some (V.int (((Ut12.many a i : Nat) : Int) + ((a ^ i : Nat) : Int) * (a : Int))), some (V.int (((a ^ i : Nat) : Int) * (a : Int))), some (V.int (0 + i))] = _
    rw [e2, e1]
  · rintro σ H' ⟨v, rfl, rfl⟩
    exact ⟨_, rfl, q⟩
theorem ok_can_be_searched (F : Fun K "can_be_searched" "can_be_searched" s_can_be_searched f fd) (T : Txt K mg CR CO) (c_count_sentences : Cal P w K mg base 1 "count_sentences" ["letter_count", "most_words"] spCount) :
    FnOk P w K mg base CX0 2 f fd ["letters", "most_words"] (spSearch K) := by
  refine F.ok sc_can_be_searched (fun vs H Q E h => ?_) (fun cdv A outer s H vs Q E hr h => ?_)
  · obtain ⟨a, l, n, rfl, _⟩ := h
    rfl
  obtain ⟨a, l, n, rfl, hl, h5, q⟩ := h
  refine ⟨_, (pss_cons (ps_if (pt_cmpR op_gt (pv 1) (pe_gi T.g_MOST_SEARCHED_WORDS) (nomark _)) (pss_one (ps_ret pe_bl)) pss_nil)
      (pss_one (ps_ret (pe_cmpR op_le (pe_c c_count_sentences hr (by omega) rfl (pa_cons (pe_callB call_len_seq (by rfl) T.b_len PySem.boot_len (pa_cons (pv 0) pa_nil)) (pa_cons (pv 1) pa_nil))) (pe_gi T.g_MOST_SEARCHED_SENTENCES) (nomark _))))), ?_⟩
  refine ⟨_, rfl, _, _, rfl, rfl, _, rfl, ?_⟩
  unfold fewB at q
  by_cases h : n ≤ 4
  · refine if_f (decide_eq_false (by omega)) ?_
    refine ⟨_, rfl, a, _, rfl, .inl hl, _, rfl, l.length, n, by rw [vi_len]; rfl, h5, h, _, _, rfl, rfl, ?_⟩
    rw [decide_eq_true h] at q
    have e : decide (((Ut12.many l.length n : Nat) : Int) ≤ 31) = decide (Ut12.many l.length n ≤ 31) := decide_eq_decide.mpr (by omega)
    show Q (.bl (decide (((Ut12.many l.length n : Nat) : Int) ≤ 31))) H
    rw [e]
    exact q
  · refine if_t (decide_eq_true (by omega)) ?_
    rw [decide_eq_false h] at q
    exact q
theorem ok_counted (F : Fun K "counted" "counted" s_counted f fd) (T : Txt K mg CR CO) : FnOk P w K mg base CX0 1 f fd ["row"] spCounted := by
  refine F.ok sc_counted (fun vs H Q E h => ?_) (fun cdv A outer s H vs Q E hr h => ?_)
  · obtain ⟨a, l, rfl, _⟩ := h
    rfl
  obtain ⟨a, l, rfl, hl, hlen, q⟩ := h
  refine ⟨_, (pss_one (ps_ret (pe_op op_cat (pe_lst (pa_cons (pe_callB call_len_seq (by rfl) T.b_len PySem.boot_len (pa_cons (pv 0) pa_nil)) pa_nil)) (pv 0)))), ?_⟩
  refine ⟨_, rfl, a, _, rfl, .inl (SqL.of hl), (by show 1 ≤ sizeLine; decide), fun p hp => ?_⟩
  have s1 := same_new hp (.lst [.int (l.length : Nat)])
  refine ⟨_, rfl, p, a, _, _, rfl, rfl, upd_same, s1 _ _ hl, ?_, fun r hr' => ?_⟩
  · show 1 + l.length ≤ sizeLine
    omega
  · refine q _ r (s1.trans (same_new hr' _)) (s1.free hr') ?_
    rw [upd_same]
    rfl
theorem ok_one_word_longer (F : Fun K "one_word_longer" "one_word_longer" s_one_word_longer f fd) (T : Txt K mg CR CO) : FnOk P w K mg base CX0 1 f fd ["sentences", "letters"] (spLonger K) := by
  refine F.ok sc_one_word_longer (fun vs H Q E h => ?_) (fun cdv A outer s H vs Q E hr h => ?_)
  · obtain ⟨b, a, ss, l, rfl, _⟩ := h
    rfl
  obtain ⟨b, a, ss, l, rfl, ⟨rs, hb, hls⟩, hl, hs, hlen, h5, q⟩ := h
  refine ⟨_, (pss_cons (ps_set (i := 2) sc_one_word_longer.nd rfl (Or.inl rfl) (pe_lst pa_nil))
      (pss_cons (ps_for PassesOwn.never rfl (pi_list (pv 0)) (pg_name (i := 3) sc_one_word_longer.nd rfl (Or.inl rfl)) (pss_one (ps_for PassesOwn.never rfl (pi_list (pv 1)) (pg_name (i := 4) sc_one_word_longer.nd rfl (Or.inl rfl)) (pss_one (ps_expr (pe_bm PySem.F.plainAttrs_list PySem.F.slot_list_append PySem.F.type_list_append mt_append (pv 2) (pa_cons (pe_op op_cat (pv 3) (pe_lst (pa_cons (pv 4) pa_nil))) pa_nil)))))))
      (pss_one (ps_ret (pv 2))))), ?_⟩
  refine ⟨(by show 0 ≤ sizeLine; decide), fun p hp => ?_⟩
  have s1 := same_new hp (.lst [])
  have pa : ∀ c o, H c = some o → c ≠ p := fun c o h => ne_of_none h hp
  have lenr : rs.length = ss.length := hls.len
  refine ⟨_, rfl, b, rfl, ⟨_, SqL.of (s1 _ _ hb)⟩, for_list (K := K) (a := b) (xs := rs.map V.ref) (fun i σ H' => ∃ (v v2 : Option V) (qs : List Addr), σ = [some (.ref b), some (.ref a), some (.ref p), v, v2] ∧ Same H H' ∧ H' p = some (.lst (qs.map V.ref)) ∧ p ∉ qs ∧ Lists H' qs (longer (ss.take i) l))
    ⟨none, none, [], rfl, s1, upd_same, by simp, .nil⟩ (fun i σ H' _ ⟨_, _, _, _, e, _⟩ => SqL.of (e _ _ hb)) ?_ ?_⟩
  · rintro i z σ H1 hi ⟨v, v2, qs, rfl, k1, hp1, np1, ls1⟩
    rw [List.getElem?_map] at hi
    cases er : rs[i]? with
    | none => rw [er] at hi; cases hi
    | some r =>
      rw [er] at hi
      cases hi
      obtain ⟨x, hx, hr0⟩ := hls.get er
      have e1 : longer (ss.take (i + 1)) l = longer (ss.take i) l ++ l.map fun c => x ++ [c] := by
        unfold longer
        rw [take_more hx, List.flatMap_append]
        simp
      have bnd : (longer (ss.take i) l).length + l.length ≤ 100000 := by
        have e3 : (longer (ss.take (i + 1)) l).length ≤ (longer ss l).length := by
          unfold longer
          conv => rhs; rw [← List.take_append_drop (i + 1) ss, List.flatMap_append, List.length_append]
          omega
        rw [e1, List.length_append, List.length_map] at e3
        omega
      refine ⟨_, rfl, a, rfl, ⟨_, k1.seq hl⟩, for_list (K := K) (a := a) (xs := vi l) (fun j σ H' => ∃ (v2 : Option V) (qs : List Addr), σ = [some (.ref b), some (.ref a), some (.ref p), some (.ref r), v2] ∧ Same H H' ∧ H' p = some (.lst (qs.map V.ref)) ∧ p ∉ qs ∧ Lists H' qs (longer (ss.take i) l ++ (l.take j).map fun c => x ++ [c]))
        ⟨v2, qs, rfl, k1, hp1, np1, by simpa using ls1⟩ (fun i σ H' _ ⟨_, _, _, e, _⟩ => e.seq hl) ?_ ?_⟩
      · rintro j z σ H2 hj ⟨v2, qs, rfl, k2, hp2, np2, ls2⟩
        obtain ⟨z, hz, rfl⟩ := vi_inv hj
        have hj2 := (List.getElem?_eq_some_iff.mp hz).1
        refine ⟨_, rfl, .inl ⟨rfl, _, SqL.of hp2⟩, ?_⟩
        refine ⟨_, rfl, _, rfl, (by show 1 ≤ sizeLine; decide), fun t ht => ?_⟩
        have s3 := same_new ht (.lst [.int (z : Int)])
        refine ⟨r, t, _, _, rfl, rfl, s3 _ _ (k2 _ _ hr0), upd_same, ?_, fun u hu => ?_⟩
        · show (vi x).length + 1 ≤ sizeLine
          rw [vi_len]
          have := hs x (List.mem_of_getElem? hx)
          exact Nat.le_of_lt (line5 (by omega))
        have s4 := s3.trans (same_new hu (.lst (vi x ++ [.int (z : Int)])))
        have hpu : p ≠ u := ne_of_none (s3 _ _ hp2) hu
        refine ⟨p, _, _, rfl, rfl, s4 _ _ hp2, ?_, ?_⟩
        · rw [List.length_map, ls2.len, List.length_append, List.length_map, List.length_take]
          exact line5 (by omega)
        · refine ⟨_, qs ++ [u], rfl, ?_, ?_, ?_, ?_⟩
          · intro c o h
            rw [upd_ne (pa c o h)]
            exact s4 _ _ (k2 _ _ h)
          · rw [upd_same, List.map_append]
            rfl
          · intro h
            rcases List.mem_append.mp h with h | h
            · exact np2 h
            · exact hpu (List.mem_singleton.mp h)
          · have e2 : longer (ss.take i) l ++ (l.take (j + 1)).map (fun c => x ++ [c]) = (longer (ss.take i) l ++ (l.take j).map fun c => x ++ [c]) ++ [x ++ [z]] := by
              rw [take_more hz, List.map_append, List.append_assoc]
              rfl
            rw [e2]
            refine Lists.app (ls2.keep fun r hr o ho => ?_) (.cons ?_ .nil)
            · rw [upd_ne (ne_mem np2 hr)]
              exact s4 _ _ ho
            · rw [upd_ne hpu.symm, upd_same, vi_app]
              rfl
      · rintro σ H2 ⟨v2, qs, rfl, k2, hp2, np2, ls2⟩
        rw [vi_len, List.take_length] at ls2
        exact ⟨_, v2, qs, rfl, k2, hp2, np2, by rw [e1]; exact ls2⟩
  · rintro σ H1 ⟨v, v2, qs, rfl, k1, hp1, np1, ls1⟩
    rw [List.length_map, lenr, List.take_length] at ls1
    exact ⟨_, rfl, q _ p k1 hp ⟨qs, hp1, ls1⟩⟩
theorem ok_sentences_in_order (F : Fun K "sentences_in_order" "sentences_in_order" s_sentences_in_order f fd) (T : Txt K mg CR CO) (c_one_word_longer : Cal P w K mg base 1 "one_word_longer" ["sentences", "letters"] (spLonger K)) :
    FnOk P w K mg base CX0 2 f fd ["letters", "most_words"] (spInOrder K) := by
  refine F.ok sc_sentences_in_order (fun vs H Q E h => ?_) (fun cdv A outer s H vs Q E hr h => ?_)
  · obtain ⟨a, l, n, rfl, _⟩ := h
    rfl
  obtain ⟨a, l, n, rfl, hl, h5, hn, hlen, q⟩ := h
  refine ⟨_, (pss_cons (ps_set (i := 2) sc_sentences_in_order.nd rfl (Or.inl rfl) (pe_lst (pa_cons (pe_lst pa_nil) pa_nil)))
      (pss_cons (ps_set (i := 3) sc_sentences_in_order.nd rfl (Or.inl rfl) (pe_lst (pa_cons (pe_lst pa_nil) pa_nil)))
      (pss_cons (ps_for PassesOwn.never rfl (pi_range1 rfl T.b_range (pa_cons (pv 1) pa_nil)) (pg_name (i := 4) sc_sentences_in_order.nd rfl (Or.inl rfl)) (pss_cons (ps_set (i := 3) sc_sentences_in_order.nd rfl (Or.inl rfl) (pe_c c_one_word_longer hr (by omega) rfl (pa_cons (pv 3) (pa_cons (pv 0) pa_nil))))
      (pss_one (ps_expr (pe_bm PySem.F.plainAttrs_list PySem.F.slot_list_extend PySem.F.type_list_extend mt_extend (pv 2) (pa_cons (pv 3) pa_nil))))))
      (pss_one (ps_ret (pv 2)))))), ?_⟩
  refine ⟨(by show 0 ≤ sizeLine; decide), fun e0 he0 => ⟨(by show 1 ≤ sizeLine; decide), fun p hp => ?_⟩⟩
  have s0 := same_new he0 (.lst [])
  have s1 := same_new hp (.lst [.ref e0])
  refine ⟨(by show 0 ≤ sizeLine; decide), fun e1 he1 => ⟨(by show 1 ≤ sizeLine; decide), fun g hg => ?_⟩⟩
  have s2 := same_new he1 (.lst [])
  have s3 := same_new hg (.lst [.ref e1])
  have hp0 : H p = none := s0.free hp
  have pa : ∀ c o, H c = some o → c ≠ p := fun c o h => ne_of_none h hp0
  have st : Same H _ := ((s0.trans s1).trans s2).trans s3
  refine ⟨_, rfl, _, rfl, by omega, by omega, ?_⟩
  refine for_range (lo := 0) (n := ((n : Int)).toNat) (fun i σ H' => ∃ (g : Addr) (v : Option V) (qs rs : List Addr), σ = [some (.ref a), some (.int (n : Int)), some (.ref p), some (.ref g), v] ∧ Same H H' ∧ g ≠ p ∧ H' p = some (.lst (qs.map V.ref)) ∧ p ∉ qs ∧ Lists H' qs (Ut12.upTo l i) ∧ H' g = some (.lst (rs.map V.ref)) ∧ p ∉ rs ∧ Lists H' rs (Ut12.words l i))
    ?_ ?_ ?_
  · have ep : e0 ≠ p := ne_of_none upd_same hp
    have ep1 : p ≠ e1 := ne_of_none upd_same he1
    have pg : p ≠ g := ne_of_none (s2 _ _ upd_same) hg
    refine ⟨g, none, [e0], [e1], rfl, st, pg.symm, s3 _ _ (s2 _ _ upd_same), by simp; exact ep.symm, ?_, upd_same, by simp; exact ep1, ?_⟩
    · rw [upTo_zero]
      exact .cons (s3 _ _ (s2 _ _ (s1 _ _ upd_same))) .nil
    · exact .cons (s3 _ _ upd_same) .nil
  · rintro i σ H1 hi ⟨g, v, qs, rs, rfl, k1, gp, hp1, np1, lq, hg1, np2, lr⟩
    have hi2 : i < n := hi
    have ew : longer (Ut12.words l i) l = Ut12.words l (i + 1) := (words_succ l i).symm
    have bw : (Ut12.words l (i + 1)).length ≤ 3125 := by
      rw [words_len]
      exact Nat.le_trans (Nat.pow_le_pow_left h5 (i + 1)) (Nat.le_trans (Nat.pow_le_pow_right (by decide) (show i + 1 ≤ 4 by omega)) (by decide))
    have bu : (Ut12.upTo l i).length ≤ 31 := by
      have h : ∀ j, (Ut12.upTo l i).length ≤ (Ut12.upTo l (i + j)).length := fun j => by
        induction j with
        | zero => exact Nat.le_refl _
        | succ j ih =>
          rw [← Nat.add_assoc, upTo_succ, List.length_append]
          omega
      have := h (n - i)
      rw [Nat.add_sub_cancel' (Nat.le_of_lt hi2)] at this
      omega
    refine ⟨_, rfl, _, rfl, g, a, Ut12.words l i, l, rfl, ⟨rs, hg1, lr⟩, k1.seq hl, fun s hs => ?_, by rw [ew]; omega, h5, fun H2 g2 k2 hg2 ll2 => ?_⟩
    · have := (words_each l i s hs).1
      omega
    obtain ⟨rs2, hr2, lr2⟩ := ll2
    rw [ew] at lr2
    have g2p : g2 ≠ p := fun e => by subst e; rw [hg2] at hp1; cases hp1
    have np3 : p ∉ rs2 := fun h => by
      obtain ⟨j, hj⟩ := List.getElem?_of_mem h
      obtain ⟨s, _, e⟩ := lr2.get hj
      have e2 := k2 _ _ hp1
      rw [e2] at e
      injection e with e
      injection e with e
      exact ref_vi (by rw [lq.len]; exact upTo_pos l i) e
    refine ⟨_, rfl, .inl ⟨rfl, _, SqL.of (k2 _ _ hp1)⟩, _, rfl, p, g2, _, _, rfl, rfl, k2 _ _ hp1, hr2, ?_, ?_⟩
    · rw [List.length_map, List.length_map, lq.len, lr2.len]
      exact Nat.le_of_lt (line5 (by omega))
    · refine ⟨g2, _, qs ++ rs2, rs2, rfl, ?_, g2p, ?_, ?_, ?_, ?_, np3, ?_⟩
      · intro c o h
        rw [upd_ne (pa c o h)]
        exact k2 _ _ (k1 _ _ h)
      · rw [upd_same, List.map_append]
      · intro h
        rcases List.mem_append.mp h with h | h
        · exact np1 h
        · exact np3 h
      · rw [upTo_succ]
        refine Lists.app ?_ ?_
        · exact (lq.mono k2).keep fun r hr o ho => by rw [upd_ne (ne_mem np1 hr)]; exact ho
        · exact lr2.keep fun r hr o ho => by rw [upd_ne (ne_mem np3 hr)]; exact ho
      · rw [upd_ne g2p]
        exact hr2
      · exact lr2.keep fun r hr o ho => by rw [upd_ne (ne_mem np3 hr)]; exact ho
  · rintro σ H1 ⟨g, v, qs, rs, rfl, k1, gp, hp1, np1, lq, hg1, np2, lr⟩
    exact ⟨_, rfl, q _ p k1 hp0 ⟨qs, hp1, lq⟩⟩
theorem ok_pairs_in_order (F : Fun K "pairs_in_order" "pairs_in_order" s_pairs_in_order f fd) (T : Txt K mg CR CO) (c_sentences_in_order : Cal P w K mg base 2 "sentences_in_order" ["letters", "most_words"] (spInOrder K)) :
    FnOk P w K mg base CX0 3 f fd ["letters", "most_words"] (spPairs K) := by
  refine F.ok sc_pairs_in_order (fun vs H Q E h => ?_) (fun cdv A outer s H vs Q E hr h => ?_)
  · obtain ⟨a, l, n, rfl, _⟩ := h
    rfl
  obtain ⟨a, l, n, rfl, hl, h5, hn, hlen, q⟩ := h
  refine ⟨_, (pss_cons (ps_set (i := 2) sc_pairs_in_order.nd rfl (Or.inl rfl) (pe_c c_sentences_in_order hr (by omega) rfl (pa_cons (pv 0) (pa_cons (pv 1) pa_nil))))
      (pss_cons (ps_set (i := 3) sc_pairs_in_order.nd rfl (Or.inl rfl) (pe_lst pa_nil))
      (pss_cons (ps_for PassesOwn.never rfl (pi_list (pv 2)) (pg_name (i := 4) sc_pairs_in_order.nd rfl (Or.inl rfl)) (pss_one (ps_for PassesOwn.never rfl (pi_list (pv 2)) (pg_name (i := 5) sc_pairs_in_order.nd rfl (Or.inl rfl)) (pss_one (ps_expr (pe_bm PySem.F.plainAttrs_list PySem.F.slot_list_append PySem.F.type_list_append mt_append (pv 3) (pa_cons (pe_tup (pa_cons (pv 4) (pa_cons (pv 5) pa_nil))) pa_nil)))))))
      (pss_one (ps_ret (pv 3)))))), ?_⟩
  refine ⟨_, rfl, _, rfl, a, l, n, rfl, hl, h5, hn, hlen, fun H1 g k1 hg ⟨rs, hrg, lls⟩ => ?_⟩
  refine ⟨(by show 0 ≤ sizeLine; decide), fun p hp => ?_⟩
  have s1 := same_new hp (.lst [])
  have pa : ∀ c o, H1 c = some o → c ≠ p := fun c o h => ne_of_none h hp
  have lenr : rs.length = (Ut12.upTo l n).length := lls.len
  let F1 : List Nat → List Ut12.Pair := fun s => (Ut12.upTo l n).map fun t => (s, t)
  refine ⟨_, rfl, g, rfl, ⟨_, SqL.of (s1 _ _ hrg)⟩, for_list (K := K) (a := g) (xs := rs.map V.ref) (fun i σ H' => ∃ (v v2 : Option V) (qs : List Addr), σ = [some (.ref a), some (.int (n : Int)), some (.ref g), some (.ref p), v, v2] ∧ Same H1 H' ∧ H' p = some (.lst (qs.map V.ref)) ∧ Prs H1 H' qs (((Ut12.upTo l n).take i).flatMap F1))
    ⟨none, none, [], rfl, s1, upd_same, .nil⟩ (fun i σ H' _ ⟨_, _, _, _, e, _⟩ => SqL.of (e _ _ hrg)) ?_ ?_⟩
  · rintro i z σ H2 hi ⟨v, v2, qs, rfl, k2, hp2, ls2⟩
    obtain ⟨r, er, rfl⟩ := ref_get hi
    obtain ⟨x, hx, hrx⟩ := lls.get er
    have e1 : ((Ut12.upTo l n).take (i + 1)).flatMap F1 = ((Ut12.upTo l n).take i).flatMap F1 ++ F1 x := by
      rw [take_more hx, List.flatMap_append]
      simp
    have bl : ∀ ss : List (List Nat), (ss.flatMap F1).length = ss.length * (Ut12.upTo l n).length := fun ss => by
      induction ss with
      | nil => simp
      | cons s ss ih =>
        rw [List.flatMap_cons, List.length_append, ih, List.length_cons, Nat.add_mul]
        show ((Ut12.upTo l n).map _).length + _ = _
        rw [List.length_map]
        omega
    have b1 : (((Ut12.upTo l n).take i).flatMap F1).length ≤ 31 * 31 := by
      rw [bl, List.length_take]
      exact Nat.mul_le_mul (by omega) hlen
    refine ⟨_, rfl, g, rfl, ⟨_, SqL.of (k2 _ _ hrg)⟩, for_list (K := K) (a := g) (xs := rs.map V.ref) (fun j σ H' => ∃ (v2 : Option V) (qs : List Addr), σ = [some (.ref a), some (.int (n : Int)), some (.ref g), some (.ref p), some (.ref r), v2] ∧ Same H1 H' ∧ H' p = some (.lst (qs.map V.ref)) ∧ Prs H1 H' qs (((Ut12.upTo l n).take i).flatMap F1 ++ ((Ut12.upTo l n).take j).map fun t => (x, t)))
      ⟨v2, qs, rfl, k2, hp2, by simpa using ls2⟩ (fun i σ H' _ ⟨_, _, _, e, _⟩ => SqL.of (e _ _ hrg)) ?_ ?_⟩
    · rintro j z σ H3 hj ⟨v2, qs, rfl, k3, hp3, ls3⟩
      obtain ⟨r2, er2, rfl⟩ := ref_get hj
      obtain ⟨y, hy, hry⟩ := lls.get er2
      have hj2 := (List.getElem?_eq_some_iff.mp hy).1
      refine ⟨_, rfl, .inl ⟨rfl, _, SqL.of hp3⟩, _, rfl, _, rfl, (by show 2 ≤ sizeLine; decide), fun t ht => ?_⟩
      have s4 := same_new ht (.tup [.ref r, .ref r2])
      have hpt : p ≠ t := ne_of_none hp3 ht
      refine ⟨p, _, _, rfl, rfl, s4 _ _ hp3, ?_, ?_⟩
      · rw [List.length_map, ls3.len, List.length_append, List.length_map, List.length_take]
        exact line5 (by omega)
      · have tk5 : TK (upd H3 t (.tup [.ref r, .ref r2])) (upd (upd H3 t (.tup [.ref r, .ref r2])) p (.lst (qs.map V.ref ++ [.ref t]))) := .upd _ (s4 _ _ hp3) fun xs z => by cases z
        refine ⟨_, qs ++ [t], rfl, ?_, ?_, ?_⟩
        · intro c o h
          rw [upd_ne (pa c o h)]
          exact s4 _ _ (k3 _ _ h)
        · rw [upd_same, List.map_append]
          rfl
        · have e2 : ((Ut12.upTo l n).take i).flatMap F1 ++ ((Ut12.upTo l n).take (j + 1)).map (fun t => (x, t)) = (((Ut12.upTo l n).take i).flatMap F1 ++ ((Ut12.upTo l n).take j).map fun t => (x, t)) ++ [(x, y)] := by
            rw [take_more hy, List.map_append, List.append_assoc]
            rfl
          rw [e2]
          exact Prs.app (ls3.tk (TK.trans (.same s4) tk5)) (.cons (tk5 _ _ upd_same) hrx hry .nil)
    · rintro σ H3 ⟨v2, qs, rfl, k3, hp3, ls3⟩
      rw [List.length_map, lenr, List.take_length] at ls3
      exact ⟨_, v2, qs, rfl, k3, hp3, by rw [e1]; exact ls3⟩
  · rintro σ H2 ⟨v, v2, qs, rfl, k2, hp2, ls2⟩
    rw [List.length_map, lenr, List.take_length] at ls2
    exact ⟨_, rfl, q _ p qs (k1.trans k2) (k1.free hp) hp2 (ls2.left k2)⟩
end
end Pc

namespace Pc
open PySem PySem.Spec PyProof.Rows L2
/-! ### an office in the heap -/
def ofF (d : Addr) (g : Nat) (al : Addr) : List (Str × V) := [("kept", .ref d), ("given", .int (g : Int)), ("alphabet", .ref al)]
def ofO (C dx d : Addr) (g : Nat) (al : Addr) : HO := .ins C dx (ofF d g al)
theorem ofF_kept (d : Addr) (g : Nat) (al : Addr) : (ofF d g al).lookup ("kept" : Str) = some (.ref d) := lk_here
theorem ofF_given (d : Addr) (g : Nat) (al : Addr) : (ofF d g al).lookup ("given" : Str) = some (.int (g : Int)) := (lk_past (by decide +kernel)).trans lk_here
theorem ofF_alphabet (d : Addr) (g : Nat) (al : Addr) : (ofF d g al).lookup ("alphabet" : Str) = some (.ref al) := (lk_past (by decide +kernel)).trans ((lk_past (by decide +kernel)).trans lk_here)
theorem ofF_no (d : Addr) (g : Nat) (al : Addr) {m : Str} (h1 : (m == ("kept" : Str)) = false) (h2 : (m == ("given" : Str)) = false) (h3 : (m == ("alphabet" : Str)) = false) : (ofF d g al).lookup m = none :=
  (lk_past h1).trans ((lk_past h2).trans ((lk_past h3).trans rfl))
theorem ofF_putG (d : Addr) (g : Nat) (al : Addr) (z : Int) (m : Nat) (e : z = (m : Int)) : putF "given" (.int z) (ofF d g al) = ofF d m al := by
  subst e
  exact (put_past (by decide +kernel)).trans (congrArg _ put_here)
theorem ofF_putA (d : Addr) (g : Nat) (al al' : Addr) : putF "alphabet" (.ref al') (ofF d g al) = ofF d g al' :=
  (put_past (by decide +kernel)).trans (congrArg _ ((put_past (by decide +kernel)).trans (congrArg _ put_here)))
theorem ofF_new (d al : Addr) : putF "alphabet" (.ref al) (putF "given" (.int 0) (putF "kept" (.ref d) [])) = ofF d 0 al := by
  have e : putF "given" (.int 0) (putF "kept" (.ref d) []) = ([("kept", V.ref d), ("given", V.int 0)] : List (Str × V)) := (put_past (by decide +kernel)).trans rfl
  rw [e]
  exact (put_past (by decide +kernel)).trans (congrArg _ ((put_past (by decide +kernel)).trans rfl))
/-- the dict's pairs are the checks -/
inductive Kvs (H : Hp) : List (Key × V) → List Ut12.Check → Prop
  | nil : Kvs H [] []
  | cons {v : V} {kvs : List (Key × V)} {c : Ut12.Check} {cs : List Ut12.Check} : ChAt H v c.when c.must → Kvs H kvs cs → Kvs H ((Sum.inl (c.number : Int), v) :: kvs) (c :: cs)
theorem Kvs.mono {H H' : Hp} (k : TK H H') {kvs : List (Key × V)} {cs : List Ut12.Check} (h : Kvs H kvs cs) : Kvs H' kvs cs := by
  induction h with
  | nil => exact .nil
  | cons e _ ih => exact .cons (e.mono k) ih
theorem Kvs.len {H : Hp} {kvs : List (Key × V)} {cs : List Ut12.Check} (h : Kvs H kvs cs) : kvs.length = cs.length := by
  induction h with
  | nil => rfl
  | cons _ _ ih => rw [List.length_cons, List.length_cons, ih]
theorem Kvs.get {H : Hp} {kvs : List (Key × V)} {cs : List Ut12.Check} (h : Kvs H kvs cs) : ∀ {i : Nat} {kv : Key × V}, kvs[i]? = some kv → ∃ c, cs[i]? = some c ∧ kv.1 = Sum.inl (c.number : Int) ∧ ChAt H kv.2 c.when c.must := by
  induction h with
  | nil => intro i r e; simp at e
  | cons e0 _ ih =>
    intro i r e
    cases i with
    | zero => cases e; exact ⟨_, rfl, rfl, e0⟩
    | succ i => exact ih e
theorem Kvs.snoc {H : Hp} {kvs : List (Key × V)} {cs : List Ut12.Check} (h : Kvs H kvs cs) {v : V} {c : Ut12.Check} (e : ChAt H v c.when c.must) : Kvs H (kvs ++ [(Sum.inl (c.number : Int), v)]) (cs ++ [c]) := by
  induction h with
  | nil => exact .cons e .nil
  | cons e0 _ ih => exact .cons e0 ih
theorem Kvs.find {H : Hp} {kvs : List (Key × V)} {cs : List Ut12.Check} (h : Kvs H kvs cs) (k : Nat) : (∃ c v, cs.find? (fun c => c.number == k) = some c ∧ valV kvs (Sum.inl (k : Int)) = some v ∧ ChAt H v c.when c.must) ∨ (cs.find? (fun c => c.number == k) = none ∧ valV kvs (Sum.inl (k : Int)) = none) := by
  induction h with
  | nil => exact .inr ⟨rfl, rfl⟩
  | @cons v kvs c cs e0 _ ih =>
    by_cases h : c.number = k
    · refine .inl ⟨c, v, ?_, ?_, e0⟩
      · rw [List.find?_cons_of_pos (by simp [h])]
      · exact valV_pos (p := (Sum.inl (c.number : Int), v)) (by rw [h])
    · rw [List.find?_cons_of_neg (by simp [h]), valV_neg (p := (Sum.inl (c.number : Int), v)) (fun z => h (by injection z with z; omega))]
      exact ih
theorem Kvs.drop {H : Hp} {kvs : List (Key × V)} {cs : List Ut12.Check} (h : Kvs H kvs cs) (k : Nat) : Kvs H (dropK kvs (Sum.inl (k : Int))) (cs.filter fun c => c.number != k) := by
  induction h with
  | nil => exact .nil
  | @cons v kvs c cs e0 _ ih =>
    by_cases h : c.number = k
    · rw [List.filter_cons_of_neg (by simp [h]), dropK_pos (p := (Sum.inl (c.number : Int), v)) (by rw [h])]
      exact ih
    · rw [List.filter_cons_of_pos (by simp [h]), dropK_neg (p := (Sum.inl (c.number : Int), v)) (fun z => h (by injection z with z; omega))]
      exact .cons e0 ih
/-- what holds of the checks between two calls -/
structure Good (g : Ut12.House) : Prop where
  few : g.checks.length ≤ 8
  below : ∀ c ∈ g.checks, c.number < g.given
  nd : (g.checks.map fun c => c.number).Pairwise (· < ·)
  ok : ∀ c ∈ g.checks, cdep c.when ≤ 12 ∧ cdep c.must ≤ 12 ∧ Ut12.condOk c.when = true ∧ Ut12.condOk c.must = true
  l5 : g.letters.length ≤ 5
theorem good_init : Good Ut12.init := ⟨by decide, fun c h => (by cases h), List.Pairwise.nil, fun c h => (by cases h), by decide⟩
structure OffAt (C : Addr) (H : Hp) (o d al : Addr) (g : Ut12.House) : Prop where
  ob : ∃ dx, H o = some (ofO C dx d g.given al)
  dc : ∃ kvs, H d = some (.dK kvs) ∧ Kvs H kvs g.checks
  le : H al = some (.lst (vi g.letters))
  ok : Good g
theorem OffAt.keep {C : Addr} {H H' : Hp} {o d al : Addr} {g : Ut12.House} (h : OffAt C H o d al g) (k : ∀ b u, (b = o ∨ b = d ∨ b = al) → H b = some u → H' b = some u) (tk : TK H H') : OffAt C H' o d al g := by
  obtain ⟨⟨dx, h1⟩, ⟨kvs, h2, h3⟩, h4, h5⟩ := h
  exact ⟨⟨dx, k _ _ (.inl rfl) h1⟩, ⟨kvs, k _ _ (.inr (.inl rfl)) h2, h3.mono tk⟩, k _ _ (.inr (.inr rfl)) h4, h5⟩
theorem OffAt.same {C : Addr} {H H' : Hp} {o d al : Addr} {g : Ut12.House} (h : OffAt C H o d al g) (s : Same H H') : OffAt C H' o d al g := h.keep (fun b u _ e => s b u e) (.same s)
/-- a method of the office, against the step of the specification -/
def spOff (C : Addr) (args : List V → Hp → Ut12.Call → Prop) : Sp := fun vs H Q _ => ∃ (o d al : Addr) (g : Ut12.House) (c : Ut12.Call) (rest : List V), vs = .ref o :: rest ∧ OffAt C H o d al g ∧ args rest H c ∧
  ∀ (H' : Hp) (al' p : Addr), OffAt C H' o d al' (Ut12.step g c).1 → (al' = al ∨ H al' = none) → Kp2 o d H H' → H p = none → H' p = some (.lst ((Ut12.step g c).2.map V.int)) → Q (.ref p) H'
def aCheck (K : PySem.W.Frag) : List V → Hp → Ut12.Call → Prop := fun vs H c => ∃ (r : Addr) (row l1 : List Nat) (x m : Ut12.Cond), vs = [.ref r] ∧ SqL K H r (vi row) ∧ Ut12Neutral.condIn 12 row = some (x, l1) ∧ Ut12Neutral.condIn 12 l1 = some (m, []) ∧ c = .check x m
def aGone : List V → Hp → Ut12.Call → Prop := fun vs _ c => ∃ (k : Nat), vs = [.int (k : Int)] ∧ c = .gone k
def aLetters (K : PySem.W.Frag) : List V → Hp → Ut12.Call → Prop := fun vs H c => ∃ (r : Addr) (a : List Nat), vs = [.ref r] ∧ SqL K H r (vi a) ∧ c = .letters a
def aRun (K : PySem.W.Frag) : List V → Hp → Ut12.Call → Prop := fun vs H c => ∃ (r q : Addr) (s t : List Nat), vs = [.ref r, .ref q] ∧ SqL K H r (vi s) ∧ SqL K H q (vi t) ∧ c = .run (s, t)
def aValue (K : PySem.W.Frag) : List V → Hp → Ut12.Call → Prop := fun vs H c => ∃ (r q b : Addr) (s t u : List Nat) (x : Ut12.Term), vs = [.ref r, .ref q, .ref b] ∧ SqL K H r (vi s) ∧ SqL K H q (vi t) ∧ SqL K H b (vi u) ∧ Ut12Neutral.termIn 12 u = some (x, []) ∧ c = .value x (s, t)
def aFine : List V → Hp → Ut12.Call → Prop := fun vs _ c => ∃ (n : Nat), vs = [.int (n : Int)] ∧ c = .fine n
def spOInit (C : Addr) : Sp := fun vs H Q _ => ∃ (p dx : Addr), vs = [.ref p] ∧ H p = some (.ins C dx []) ∧ ∀ (H' : Hp) (d al : Addr), H d = none → H al = none → OffAt C H' p d al Ut12.init → Kp1 p H H' → Q .non H'
theorem vi_map (l : List Nat) : (Ut12.ints l).map V.int = vi l := by
  unfold Ut12.ints vi
  rw [List.map_map]
  rfl
/-- a refusal, or an answer that changes nothing, in a new list -/
theorem off_new {C o d al p : Addr} {g : Ut12.House} {H : Hp} (S : OffAt C H o d al g) (hp : H p = none) (u : HO) : OffAt C (upd H p u) o d al g ∧ Kp2 o d H (upd H p u) := ⟨S.same (same_new hp u), .of (same_new hp u)⟩
theorem few_fields {d al : Addr} {g : Nat} : (ofF d g al).length < 1000 := by show 3 < 1000; decide
section
variable {P : Program} {w : World} {K : PySem.W.Frag} {mg : Str → Option Value} {base : Heap} {CR CO : Addr} {f : Addr} {fd : FuncData}
theorem ok_Office___init__ (F : Fun K "__init__" "Office.__init__" s_Office___init__ f fd) (T : Txt K mg CR CO) : FnOk P w K mg base CX0 1 f fd ["self"] (spOInit CO) := by
  refine F.ok sc_Office___init__ (fun vs H Q E h => ?_) (fun cdv A outer s H vs Q E hr h => ?_)
  · obtain ⟨p, dx, rfl, _⟩ := h
    rfl
  obtain ⟨p, dx, rfl, hp, q⟩ := h
  refine ⟨_, (pss_cons (ps_fld (pv 0) pe_dnewK rfl)
      (pss_cons (ps_fld (pv 0) pe_int rfl)
      (pss_one (ps_fld (pv 0) (pe_lst (pa_cons pe_int (pa_cons pe_int pa_nil))) rfl)))), ?_⟩
  intro d hd
  have npd : p ≠ d := ne_of_none hp hd
  refine ⟨_, rfl, p, CO, dx, [], rfl, (by rw [upd_ne npd]; exact hp), T.cl_Office, T.n_Office_kept, (by show 0 < 1000; decide), ?_⟩
  refine ⟨_, rfl, p, CO, dx, _, rfl, upd_same, T.cl_Office, T.n_Office_given, (by show 1 < 1000; decide), ?_⟩
  rw [upd_upd]
  refine ⟨(by show 2 ≤ sizeLine; decide), fun al hal => ?_⟩
  have npa : p ≠ al := ne_of_none upd_same hal
  have nda : d ≠ al := ne_of_none (show upd (upd H d (.dK [])) p _ d = some (.dK []) by rw [upd_ne npd.symm, upd_same]) hal
  have ha0 : H al = none := by
    rw [upd_ne npa.symm, upd_ne nda.symm] at hal
    exact hal
  refine ⟨_, rfl, p, CO, dx, _, rfl, (by rw [upd_ne npa, upd_same]), T.cl_Office, T.n_Office_alphabet, (by show 2 < 1000; decide), ?_⟩
  rw [ofF_new]
  refine q _ d al hd ha0 ⟨⟨dx, upd_same⟩, ⟨[], ?_, .nil⟩, ?_, good_init⟩ fun b o e hb => ?_
  · rw [upd_ne npd.symm, upd_ne nda, upd_ne npd.symm, upd_same]
  · rw [upd_ne npa.symm, upd_same]
    rfl
  · rw [upd_ne hb, upd_ne (ne_of_none e ha0), upd_ne hb, upd_ne (ne_of_none e hd)]
    exact e
theorem ok_Office_gone (F : Fun K "gone" "Office.gone" s_Office_gone f fd) (T : Txt K mg CR CO) : FnOk P w K mg base CX0 1 f fd ["self", "number"] (spOff CO aGone) := by
  refine F.ok sc_Office_gone (fun vs H Q E h => ?_) (fun cdv A outer s H vs Q E hr h => ?_)
  · obtain ⟨o, d, al, g, c, rest, rfl, S, ⟨k, rfl, rfl⟩, _⟩ := h
    rfl
  obtain ⟨o, d, al, g, c, rest, rfl, S, ⟨k, rfl, rfl⟩, q⟩ := h
  have hu := hu_of hr
  refine ⟨_, (pss_cons (ps_if (pt_cmp (pc_dnotin hu (pv 1) (pe_fld (pv 0) rfl))) (pss_one (ps_ret (pe_lst (pa_cons (pe_gi T.g_NO_SUCH_CHECK) pa_nil)))) pss_nil)
      (pss_cons (ps_expr (pe_dpop1 (pe_fld (pv 0) rfl) (pv 1) ⟨rfl, rfl, rfl, rfl⟩))
      (pss_one (ps_ret (pe_lst (pa_cons (pe_callB call_lenD (by rfl) T.b_len PySem.boot_len (pa_cons (pe_fld (pv 0) rfl) pa_nil)) pa_nil)))))), ?_⟩
  obtain ⟨⟨dx, ho⟩, ⟨kvs, hd, hk⟩, hle, G⟩ := id S
  have nod : o ≠ d := ne_of ho hd (by intro z; cases z)
  refine ⟨_, rfl, _, rfl, o, CO, dx, _, _, rfl, ho, T.cl_Office, T.n_Office_kept, ofF_kept _ _ _, d, _, rfl, DGet.k (k := Sum.inl (k : Int)) hd, _, rfl, ?_⟩
  rcases hk.find k with ⟨c, v, e1, e2, _⟩ | ⟨e1, e2⟩
  · rw [e2]
    refine if_f rfl ?_
    refine ⟨_, rfl, o, CO, dx, _, _, rfl, ho, T.cl_Office, T.n_Office_kept, ofF_kept _ _ _, d, rfl, .inl ⟨kvs, .inl hd⟩, _, rfl, kvs, Sum.inl (k : Int), v, hd, rfl, e2, ?_⟩
    have ho1 : upd H d (.dK (dropK kvs (Sum.inl (k : Int)))) o = some (ofO CO dx d g.given al) := by rw [upd_ne nod]; exact ho
    refine ⟨_, rfl, o, CO, dx, _, _, rfl, ho1, T.cl_Office, T.n_Office_kept, ofF_kept _ _ _, d, _, rfl, upd_same, (by show 1 ≤ sizeLine; decide), fun p hp => ?_⟩
    have es : Ut12.step g (.gone k) = ({ g with checks := g.checks.filter fun c => c.number != k }, Ut12.ints [(g.checks.filter fun c => c.number != k).length]) := by
      show (if (Ut12.checkOf g k).isNone = true then _ else _) = _
      have e : Ut12.checkOf g k = some c := e1
      rw [e]
      rfl
    rw [es] at q
    have tk : TK H (upd H d (.dK (dropK kvs (Sum.inl (k : Int))))) := .upd _ hd fun xs z => by cases z
    have hp0 : H p = none := by
      by_cases e : p = d
      · subst e; rw [upd_same] at hp; cases hp
      · rw [upd_ne e] at hp; exact hp
    have nald : al ≠ d := ne_of hle hd (by intro z; cases z)
    have s2 := same_new hp (.lst [.int ((dropK kvs (Sum.inl (k : Int))).length : Nat)])
    refine q _ al p (OffAt.same (H := upd H d (.dK (dropK kvs (Sum.inl (k : Int))))) ?_ s2) (.inl rfl) (fun b u e n1 n2 => s2 _ _ (by rw [upd_ne n2]; exact e)) hp0 ?_
    · refine ⟨⟨dx, ho1⟩, ⟨_, upd_same, (hk.drop k).mono tk⟩, (by rw [upd_ne nald]; exact hle), ?_⟩
      exact ⟨Nat.le_trans (List.length_filter_le _ _) G.few, fun c hc => G.below c (List.mem_filter.mp hc).1, G.nd.sublist (List.filter_sublist.map _), fun c hc => G.ok c (List.mem_filter.mp hc).1, G.l5⟩
    · rw [upd_same, vi_map, (hk.drop k).len]
      rfl
  · rw [e2]
    refine if_t rfl ?_
    refine ⟨(by show 1 ≤ sizeLine; decide), fun p hp => ?_⟩
    have es : Ut12.step g (.gone k) = (g, [-2]) := by
      show (if (Ut12.checkOf g k).isNone = true then _ else _) = _
      have e : Ut12.checkOf g k = none := e1
      rw [e]
      rfl
    rw [es] at q
    obtain ⟨S1, k1⟩ := off_new S hp (.lst [.int (-2)])
    exact q _ al p S1 (.inl rfl) k1 hp upd_same
theorem ok_Office_letters (F : Fun K "letters" "Office.letters" s_Office_letters f fd) (T : Txt K mg CR CO) (c_are_letters : Cal P w K mg base 2 "are_letters" ["numbers"] (spLetters K)) : FnOk P w K mg base CX0 3 f fd ["self", "alphabet"] (spOff CO (aLetters K)) := by
  refine F.ok sc_Office_letters (fun vs H Q E h => ?_) (fun cdv A outer s H vs Q E hr h => ?_)
  · obtain ⟨o, d, al, g, c, rest, rfl, S, ⟨r, a, rfl, _⟩, _⟩ := h
    rfl
  obtain ⟨o, d, al, g, c, rest, rfl, S, ⟨r, a, rfl, hr', rfl⟩, q⟩ := h
  refine ⟨_, (pss_cons (ps_if (pt_not (pt_val (pe_c c_are_letters hr (by omega) rfl (pa_cons (pv 1) pa_nil)))) (pss_one (ps_ret (pe_lst (pa_cons (pe_gi T.g_BEYOND_BOUNDS) pa_nil)))) pss_nil)
      (pss_cons (ps_fld (pv 0) (pe_callTy call_list_of (by rfl) T.b_list (by decide +kernel) (pa_cons (pv 1) pa_nil)) rfl)
      (pss_one (ps_ret (pe_lst (pa_cons (pe_callB call_len_seq (by rfl) T.b_len PySem.boot_len (pa_cons (pv 1) pa_nil)) pa_nil)))))), ?_⟩
  obtain ⟨⟨dx, ho⟩, ⟨kvs, hd, hk⟩, hle, G⟩ := id S
  refine ⟨_, rfl, r, a, rfl, hr', _, rfl, ?_⟩
  by_cases hok : a = [] ∨ 5 < a.length ∨ (a.all fun w => decide (w ≤ 99)) = false ∨ Ut12.rising a = false
  · have e : letOk a = false := by unfold letOk; rw [decide_eq_true hok]; rfl
    rw [e]
    refine if_t rfl ⟨(by show 1 ≤ sizeLine; decide), fun p hp => ?_⟩
    have es : Ut12.step g (.letters a) = (g, [-1]) := if_pos hok
    rw [es] at q
    obtain ⟨S1, k1⟩ := off_new S hp (.lst [.int (-1)])
    exact q _ al p S1 (.inl rfl) k1 hp upd_same
  · have e : letOk a = true := by unfold letOk; rw [decide_eq_false hok]; rfl
    rw [e]
    refine if_f rfl ?_
    have es : Ut12.step g (.letters a) = ({ g with letters := a }, Ut12.ints [a.length]) := if_neg hok
    rw [es] at q
    refine ⟨_, rfl, r, _, rfl, .inl hr', fun b hb => ?_⟩
    have s1 := same_new hb (.lst (vi a))
    refine ⟨_, rfl, o, CO, dx, _, rfl, s1 _ _ ho, T.cl_Office, T.n_Office_alphabet, few_fields, ?_⟩
    rw [ofF_putA]
    have nob : o ≠ b := ne_of_none ho hb
    have k2 : Kp1 o H (upd (upd H b (.lst (vi a))) o (ofO CO dx d g.given b)) := fun c u e n => by rw [upd_ne n]; exact s1 _ _ e
    have hr2 := seq_kp1 ho k2 hr'
    refine ⟨_, rfl, r, _, rfl, .inl hr2, (by show 1 ≤ sizeLine; decide), fun p hp => ?_⟩
    have hp1 : H p = none := by
      cases e : H p with
      | none => rfl
      | some u =>
        by_cases ep : p = o
        · subst ep
          rw [show upd (upd H b (.lst (vi a))) p (.ins CO dx (ofF d g.given b)) p = some _ from upd_same] at hp
          cases hp
        · have e2 := k2 p u e ep
          rw [show upd (upd H b (.lst (vi a))) o (.ins CO dx (ofF d g.given b)) p = some u from e2] at hp
          cases hp
    have s3 := same_new hp (.lst [.int ((vi a).length : Nat)])
    have ndo : d ≠ o := fun e => by subst e; rw [ho] at hd; cases hd
    refine q _ b p (OffAt.same (H := upd (upd H b (.lst (vi a))) o (ofO CO dx d g.given b)) ?_ s3) (.inr hb) (fun c u e n1 n2 => s3 _ _ (k2 c u e n1)) hp1 ?_
    · refine ⟨⟨dx, upd_same⟩, ⟨kvs, k2 _ _ hd ndo, hk.mono (.kp1 ho (fun xs z => by cases z) k2)⟩, ?_, ?_⟩
      · rw [upd_ne nob.symm, upd_same]
      · exact ⟨G.few, G.below, G.nd, G.ok, by
          have h : ¬ 5 < a.length := fun z => hok (.inr (.inl z))
          show a.length ≤ 5
          omega⟩
    · rw [upd_same, vi_map, vi_len]
      rfl
end
end Pc

namespace Pc
open PySem PySem.Spec PyProof.Rows L2
/-- Reader(list) -/
theorem mk_rd {K : PySem.W.Frag} {C r x dx : Addr} {H : Hp} {row : List Nat} {Q : VK} {E : XK} (nx : H x = none) (nd : H dx = none) (hr : SqL K H r (vi row)) (q : ∀ H', Same H H' → H' x = some (rdO C dx r 0) → SqL K H' r (vi row) → Q .non H') :
    spRInit C [.ref x, .ref r] (upd (upd H dx (.own x)) x (.ins C dx [])) Q E := by
  refine ⟨x, dx, r, rfl, upd_same, ?_⟩
  have s1 : Same H (upd (upd (upd H dx (.own x)) x (.ins C dx [])) x (rdO C dx r 0)) := fun b o e => by
    rw [upd_ne (ne_of_none e nx), upd_ne (ne_of_none e nx), upd_ne (ne_of_none e nd)]
    exact e
  exact q _ s1 upd_same (s1.seq hr)
theorem back {H : Hp} {d : Addr} {u : HO} (h : H d = some u) (z : HO) : upd (upd H d z) d u = H := by
  rw [upd_upd]
  funext b
  by_cases e : b = d
  · subst e
    rw [upd_same, h]
  · rw [upd_ne e]
theorem pair_mono {K : PySem.W.Frag} {H H' : Hp} {v : V} {p : Ut12.Pair} (tk : TK H H') (sk : ∀ l xs, SqL K H l xs → SqL K H' l xs) (h : PairAt K H v p) : PairAt K H' v p := by
  obtain ⟨q, a, b, e, h, h1, h2⟩ := h
  exact ⟨q, a, b, e, tk _ _ h, sk _ _ h1, sk _ _ h2⟩
/-- a dict locked -/
theorem lock_seq {K : PySem.W.Frag} {H : Hp} {d : Addr} {kvs : List (Key × V)} (hd : H d = some (.dK kvs)) (u : HO) (l : Addr) (xs : List V) (h : SqL K H l xs) : SqL K (upd H d u) l xs := by
  have n : ∀ {o : HO}, H l = some o → o ≠ .dK kvs → l ≠ d := fun e z => ne_of e hd z
  rcases h with h | h
  · refine .inl ?_
    rcases h with h | ⟨o, h⟩
    · exact .inl (by rw [upd_ne (n h (by intro z; cases z))]; exact h)
    · exact .inr ⟨o, by rw [upd_ne (n h (by intro z; cases z))]; exact h⟩
  · exact .inr h
theorem broken_app (a b : List Ut12.Check) (p : Ut12.Pair) : Ut12.broken (a ++ b) p = Ut12.broken a p ++ Ut12.broken b p := by
  unfold Ut12.broken
  rw [List.filter_append, List.map_append]
theorem broken_one (c : Ut12.Check) (p : Ut12.Pair) : Ut12.broken [c] p = if Ut12.breaks c p = true then [c.number] else [] := by
  unfold Ut12.broken
  rw [List.filter_cons]
  split <;> rfl
theorem broken_at {l : List Ut12.Check} {i : Nat} {c : Ut12.Check} {p : Ut12.Pair} (h : l[i]? = some c) (hb : Ut12.breaks c p = true) : (Ut12.broken l p).isEmpty = false := by
  have e : c.number ∈ Ut12.broken l p := List.mem_map.mpr ⟨c, List.mem_filter.mpr ⟨List.mem_of_getElem? h, hb⟩, rfl⟩
  cases e2 : Ut12.broken l p with
  | nil => rw [e2] at e; cases e
  | cons _ _ => rfl
def spKept (K : PySem.W.Frag) (C : Addr) : Sp := fun vs H Q _ => ∃ (o d al : Addr) (g : Ut12.House) (vp : V) (p : Ut12.Pair), vs = [.ref o, vp] ∧ OffAt C H o d al g ∧ PairAt K H vp p ∧ Q (.bl (Ut12.broken g.checks p).isEmpty) H
def spBroken (K : PySem.W.Frag) (C : Addr) : Sp := fun vs H Q _ => ∃ (o d al : Addr) (g : Ut12.House) (vp : V) (p : Ut12.Pair), vs = [.ref o, vp] ∧ OffAt C H o d al g ∧ PairAt K H vp p ∧
  ∀ (H' : Hp) (q : Addr), Same H H' → H q = none → H' q = some (.lst (vi (Ut12.broken g.checks p))) → Q (.ref q) H'
section
variable {P : Program} {w : World} {K : PySem.W.Frag} {mg : Str → Option Value} {base : Heap} {CR CO : Addr} {f : Addr} {fd : FuncData}
theorem ok_Office_check (F : Fun K "check" "Office.check" s_Office_check f fd) (T : Txt K mg CR CO) (c_are_small : Cal P w K mg base 1 "are_small" ["numbers"] (spSmall K)) (c_read_check : Cal P w K mg base 14 "read_check" ["reader"] (spReadCheck K CR))
    (c_Reader : Mak P w K mg base 1 CR "Reader" ["self", "numbers"] (spRInit CR)) : FnOk P w K mg base CX0 15 f fd ["self", "conditions"] (spOff CO (aCheck K)) := by
  refine F.ok sc_Office_check (fun vs H Q E h => ?_) (fun cdv A outer s H vs Q E hr h => ?_)
  · obtain ⟨o, d, al, g, c, rest, rfl, S, ⟨r, row, l1, x, m, rfl, _⟩, _⟩ := h
    rfl
  obtain ⟨o, d, al, g, c, rest, rfl, S, ⟨r, row, l1, x, m, rfl, hrow, e1, e2, rfl⟩, q⟩ := h
  have hu := hu_of hr
  refine ⟨_, (pss_cons (ps_if (pt_not (pt_val (pe_c c_are_small hr (by omega) rfl (pa_cons (pv 1) pa_nil)))) (pss_one (ps_ret (pe_lst (pa_cons (pe_gi T.g_BEYOND_BOUNDS) pa_nil)))) pss_nil)
      (pss_cons (ps_if (pt_cmpR op_eq (pe_callB call_lenD (by rfl) T.b_len PySem.boot_len (pa_cons (pe_fld (pv 0) rfl) pa_nil)) (pe_gi T.g_MOST_CHECKS) (nomark _)) (pss_one (ps_ret (pe_lst (pa_cons (pe_gi T.g_NO_ROOM) pa_nil)))) pss_nil)
      (pss_cons (ps_set (i := 2) sc_Office_check.nd rfl (Or.inl rfl) (pe_fld (pv 0) rfl))
      (pss_cons (ps_dput hu (pe_fld (pv 0) rfl) (pv 2) (pe_c c_read_check hr (by omega) rfl (pa_cons (pe_mk c_Reader hr (by omega) rfl (pa_cons (pv 1) pa_nil)) pa_nil)) rfl)
      (pss_cons (ps_fld (pv 0) (pe_op op_add (pv 2) pe_int) rfl)
      (pss_one (ps_ret (pe_lst (pa_cons (pv 2) pa_nil))))))))), ?_⟩
  obtain ⟨⟨dx, ho⟩, ⟨kvs, hd, hk⟩, hle, G⟩ := id S
  have nod : o ≠ d := ne_of ho hd (by intro z; cases z)
  refine ⟨_, rfl, r, row, rfl, hrow, _, rfl, ?_⟩
  rw [check_small e1 e2]
  by_cases hok : Ut12.condOk x = false ∨ Ut12.condOk m = false
  · have e : (Ut12.condOk x && Ut12.condOk m) = false := by rcases hok with h | h <;> rw [h] <;> simp
    rw [e]
    refine if_t rfl ⟨(by show 1 ≤ sizeLine; decide), fun p hp => ?_⟩
    have es : Ut12.step g (.check x m) = (g, [-1]) := if_pos hok
    rw [es] at q
    obtain ⟨S1, k1⟩ := off_new S hp (.lst [.int (-1)])
    exact q _ al p S1 (.inl rfl) k1 hp upd_same
  · have ox : Ut12.condOk x = true := by cases h : Ut12.condOk x with | true => rfl | false => exact absurd (.inl h) hok
    have om : Ut12.condOk m = true := by cases h : Ut12.condOk m with | true => rfl | false => exact absurd (.inr h) hok
    rw [ox, om]
    refine if_f rfl ?_
    refine ⟨_, rfl, o, CO, dx, _, _, rfl, ho, T.cl_Office, T.n_Office_kept, ofF_kept _ _ _, d, kvs, rfl, hd, rfl, _, rfl, ?_⟩
    rw [hk.len]
    by_cases h8 : 8 ≤ g.checks.length
    · have e8 : g.checks.length = 8 := by have := G.few; omega
      refine if_t (by rw [e8]; decide) ⟨(by show 1 ≤ sizeLine; decide), fun p hp => ?_⟩
      have es : Ut12.step g (.check x m) = (g, [-5]) := (if_neg hok).trans (if_pos h8)
      rw [es] at q
      obtain ⟨S1, k1⟩ := off_new S hp (.lst [.int (-5)])
      exact q _ al p S1 (.inl rfl) k1 hp upd_same
    · refine if_f (decide_eq_false fun z => by injection z with z; omega) ?_
      have es : Ut12.step g (.check x m) = ({ g with checks := g.checks ++ [⟨g.given, x, m⟩], given := g.given + 1 }, Ut12.ints [g.given]) := (if_neg hok).trans (if_neg h8)
      rw [es] at q
      refine ⟨_, rfl, o, CO, dx, _, _, rfl, ho, T.cl_Office, T.n_Office_given, ofF_given _ _ _, ?_⟩
      refine ⟨_, rfl, tnil fun y dy ny ndy _ => mk_rd ny ndy hrow fun H2 s2 hy hrow2 => ⟨rfl, ?_⟩⟩
      refine tnil (?_ : spReadCheck K CR [.ref y] H2 _ _)
      refine ⟨y, dy, r, row, 0, x, m, l1, [], rfl, hy, hrow2, e1, e2, fun H3 v k3 ch => ?_⟩
      have s3 : Same H H3 := fun b u e => k3 b u (s2 b u e) (ne_of_none e ny)
      have ho3 := s3 _ _ ho
      have hd3 := s3 _ _ hd
      refine ⟨_, rfl, o, CO, dx, _, _, rfl, ho3, T.cl_Office, T.n_Office_kept, ofF_kept _ _ _, _, rfl, d, _, rfl, DPut.k (k := Sum.inl (g.given : Int)) hd3 (line5 (by rw [hk.len]; omega)), ?_⟩
      have en : valV kvs (Sum.inl (g.given : Int)) = none := by
        rcases hk.find g.given with ⟨c, v, e1, _⟩ | ⟨_, e⟩
        · have h1 := List.mem_of_find?_eq_some e1
          have h2 := List.find?_some e1
          have h3 := G.below c h1
          simp at h2
          omega
        · exact e
      rw [putK_new v en]
      have ho4 : upd H3 d (.dK (kvs ++ [(Sum.inl (g.given : Int), v)])) o = some (ofO CO dx d g.given al) := by rw [upd_ne nod]; exact ho3
      refine ⟨_, rfl, _, _, rfl, rfl, _, rfl, o, CO, dx, _, rfl, ho4, T.cl_Office, T.n_Office_given, few_fields, ?_⟩
      rw [ofF_putG _ _ _ _ (g.given + 1) (by omega)]
      refine ⟨_, rfl, (by show 1 ≤ sizeLine; decide), fun p hp => ?_⟩
      have nald : al ≠ d := ne_of hle hd (by intro z; cases z)
      have nalo : al ≠ o := ne_of hle ho (by intro z; cases z)
      have k5 : Kp2 o d H (upd (upd H3 d (.dK (kvs ++ [(Sum.inl (g.given : Int), v)]))) o (.ins CO dx (ofF d (g.given + 1) al))) := fun b u e n1 n2 => by
        rw [upd_ne n1, upd_ne n2]
        exact s3 _ _ e
      have tk3 : TK H3 (upd (upd H3 d (.dK (kvs ++ [(Sum.inl (g.given : Int), v)]))) o (.ins CO dx (ofF d (g.given + 1) al))) :=
        TK.trans (.upd _ hd3 fun xs z => by cases z) (.upd _ ho4 fun xs z => by cases z)
      have hp0 : H p = none := by
        cases e : H p with
        | none => rfl
        | some u =>
          by_cases ep : p = o
          · subst ep; rw [upd_same] at hp; cases hp
          · by_cases ed : p = d
            · subst ed; rw [upd_ne ep, upd_same] at hp; cases hp
            · rw [k5 p u e ep ed] at hp; cases hp
      have s6 := same_new hp (.lst [.int (g.given : Int)])
      refine q _ al p (OffAt.same (H := upd (upd H3 d (.dK (kvs ++ [(Sum.inl (g.given : Int), v)]))) o (.ins CO dx (ofF d (g.given + 1) al))) ?_ s6) (.inl rfl) (fun b u e n1 n2 => s6 _ _ (k5 b u e n1 n2)) hp0 ?_
      · refine ⟨⟨dx, upd_same⟩, ⟨_, ?_, Kvs.snoc (c := ⟨g.given, x, m⟩) ((hk.mono (.same s3)).mono tk3) (ch.mono tk3)⟩, ?_, ?_⟩
        · rw [upd_ne nod.symm, upd_same]
        · rw [upd_ne nalo, upd_ne nald]
          exact s3 _ _ hle
        · refine ⟨?_, ?_, ?_, ?_, G.l5⟩
          · show (g.checks ++ [_]).length ≤ 8
            rw [List.length_append]
            show g.checks.length + 1 ≤ 8
            omega
          · intro c hc
            show c.number < g.given + 1
            rcases List.mem_append.mp hc with h | h
            · have := G.below c h
              omega
            · rw [List.mem_singleton.mp h]
              exact Nat.lt_succ_self _
          · show ((g.checks ++ [(⟨g.given, x, m⟩ : Ut12.Check)]).map fun (c : Ut12.Check) => c.number).Pairwise (· < ·)
            rw [List.map_append]
            refine List.pairwise_append.mpr ⟨G.nd, List.pairwise_singleton _ _, fun a ha b hb => ?_⟩
            obtain ⟨c, hc, e⟩ := List.mem_map.mp ha
            have h1 := G.below c hc
            have h2 : b = g.given := List.mem_singleton.mp hb
            have e : c.number = a := e
            omega
          · intro c hc
            rcases List.mem_append.mp hc with h | h
            · exact G.ok c h
            · rw [List.mem_singleton.mp h]
              exact ⟨(cond_small 12 _ _ _ e1).1, (cond_small 12 _ _ _ e2).1, ox, om⟩
      · rw [upd_same, vi_map]
        rfl
theorem ok_Office_value (F : Fun K "value" "Office.value" s_Office_value f fd) (T : Txt K mg CR CO) (c_is_sentence : Cal P w K mg base 2 "is_sentence" ["words"] (spSent K)) (c_are_small : Cal P w K mg base 1 "are_small" ["numbers"] (spSmall K))
    (c_read_term : Cal P w K mg base 13 "read_term" ["reader"] (spReadTerm K CR 12)) (c_term_value : Cal P w K mg base 13 "term_value" ["term", "pair"] (spTermValue K 12)) (c_Reader : Mak P w K mg base 1 CR "Reader" ["self", "numbers"] (spRInit CR)) :
    FnOk P w K mg base CX0 15 f fd ["self", "sentence", "translation", "term"] (spOff CO (aValue K)) := by
  refine F.ok sc_Office_value (fun vs H Q E h => ?_) (fun cdv A outer s H vs Q E hr h => ?_)
  · obtain ⟨o, d, al, g, c, rest, rfl, S, ⟨r, b, y, s, t, u, x, rfl, _⟩, _⟩ := h
    rfl
  obtain ⟨o, d, al, g, c, rest, rfl, S, ⟨r, b, y, s, t, u, x, rfl, hs, ht, hy, e1, rfl⟩, q⟩ := h
  refine ⟨_, (pss_cons (ps_if (pt_not (PW.pt (pw_and (pt_val (pe_c c_is_sentence hr (by omega) rfl (pa_cons (pv 1) pa_nil))) (pw_and (pt_val (pe_c c_is_sentence hr (by omega) rfl (pa_cons (pv 2) pa_nil))) (pw_and1 (pt_val (pe_c c_are_small hr (by omega) rfl (pa_cons (pv 3) pa_nil)))))))) (pss_one (ps_ret (pe_lst (pa_cons (pe_gi T.g_BEYOND_BOUNDS) pa_nil)))) pss_nil)
      (pss_one (ps_ret (pe_lst (pa_cons (pe_c c_term_value hr (by omega) rfl (pa_cons (pe_c c_read_term hr (by omega) rfl (pa_cons (pe_mk c_Reader hr (by omega) rfl (pa_cons (pv 3) pa_nil)) pa_nil)) (pa_cons (pe_tup (pa_cons (pv 1) (pa_cons (pv 2) pa_nil))) pa_nil))) pa_nil))))), ?_⟩
  have no : (Ut12.sentOk s = false ∨ Ut12.sentOk t = false ∨ Ut12.termOk x = false) → ∀ p, H p = none → Q (.ref p) (upd H p (.lst [.int (-1)])) := fun h p hp => by
    have es : Ut12.step g (.value x (s, t)) = (g, [-1]) := by
      show (g, if _ then _ else _) = _
      rw [if_pos h]
    rw [es] at q
    obtain ⟨S1, k1⟩ := off_new S hp (.lst [.int (-1)])
    exact q _ al p S1 (.inl rfl) k1 hp upd_same
  refine ⟨_, rfl, r, s, rfl, hs, _, rfl, ?_⟩
  cases es1 : Ut12.sentOk s with
  | false =>
    refine if_f rfl (if_t rfl ⟨(by show 1 ≤ sizeLine; decide), fun p hp => ?_⟩)
    exact no (.inl es1) p hp
  | true =>
    refine if_t rfl ⟨_, rfl, b, t, rfl, ht, _, rfl, ?_⟩
    cases es2 : Ut12.sentOk t with
    | false =>
      refine if_f rfl (if_t rfl ⟨(by show 1 ≤ sizeLine; decide), fun p hp => ?_⟩)
      exact no (.inr (.inl es2)) p hp
    | true =>
      refine if_t rfl ⟨_, rfl, y, u, rfl, hy, _, rfl, ?_⟩
      rw [value_small e1]
      cases es3 : Ut12.termOk x with
      | false =>
        refine (if_t rfl ⟨(by show 1 ≤ sizeLine; decide), fun p hp => ?_⟩)
        exact no (.inr (.inr es3)) p hp
      | true =>
        refine if_f rfl ?_
        have es : Ut12.step g (.value x (s, t)) = (g, Ut12.ints [Ut12.value (s, t) x]) := by
          show (g, if _ then _ else _) = _
          rw [if_neg]
          rintro (h | h | h)
          · rw [es1] at h; cases h
          · rw [es2] at h; cases h
          · rw [es3] at h; cases h
        rw [es] at q
        refine ⟨_, rfl, tnil fun z dz nz ndz _ => mk_rd nz ndz hy fun H2 s2 hz hy2 => ⟨rfl, ?_⟩⟩
        refine tnil <| rd_term hz hy2 (by rw [List.drop_zero]; exact e1) fun H3 v m ha3 hl3 k3 tm h3 => ?_
        have s3 : Same H H3 := fun b u e => k3 b u (s2 b u e) (ne_of_none e nz)
        refine ⟨_, rfl, _, rfl, (by show 2 ≤ sizeLine; decide), fun pq hpq => ?_⟩
        have s4 := s3.trans (same_new hpq (.tup [.ref r, .ref b]))
        refine tnil (?_ : spTermValue K 12 [v, .ref pq] _ _ _)
        refine ⟨v, _, x, (s, t), rfl, tm.mono (.new hpq _), (term_small 12 _ _ _ e1).1, es3, ⟨pq, r, b, rfl, upd_same, s4.seq hs, s4.seq ht⟩, ?_⟩
        refine ⟨(by show 1 ≤ sizeLine; decide), fun p hp => ?_⟩
        have s5 := s4.trans (same_new hp (.lst [.int (Ut12.value (s, t) x : Nat)]))
        exact q _ al p (S.same s5) (.inl rfl) (.of s5) (s4.free hp) upd_same
theorem ok_Office_is_kept_by (F : Fun K "is_kept_by" "Office.is_kept_by" s_Office_is_kept_by f fd) (T : Txt K mg CR CO) (c_breaks : Cal P w K mg base 15 "breaks" ["pair", "check"] (spBreaks K)) : FnOk P w K mg base CX0 16 f fd ["self", "pair"] (spKept K CO) := by
  refine F.ok sc_Office_is_kept_by (fun vs H Q E h => ?_) (fun cdv A outer s H vs Q E hr h => ?_)
  · obtain ⟨o, d, al, g, vp, p, rfl, _⟩ := h
    rfl
  obtain ⟨o, d, al, g, vp, p, rfl, S, hp, q⟩ := h
  refine ⟨_, (pss_cons (ps_lock (ps_for PassesOwn.never rfl (pi_values (pe_fld (pv 0) rfl)) (pg_name (i := 2) sc_Office_is_kept_by.nd rfl (Or.inl rfl)) (pss_one (ps_if (pt_val (pe_c c_breaks hr (by omega) rfl (pa_cons (pv 1) (pa_cons (pv 2) pa_nil)))) (pss_one (ps_ret pe_bl)) pss_nil))))
      (pss_one (ps_ret pe_bl))), ?_⟩
  obtain ⟨⟨dx, ho⟩, ⟨kvs, hd, hk⟩, hle, G⟩ := id S
  have nod : o ≠ d := ne_of ho hd (by intro z; cases z)
  refine ⟨d, .dK kvs, hd, trivial, fun od => ?_⟩
  have hoL : upd H d (.frz od (.dK kvs)) o = some (ofO CO dx d g.given al) := by rw [upd_ne nod]; exact ho
  have tk : TK H (upd H d (.frz od (.dK kvs))) := .upd _ hd fun xs z => by cases z
  have hpL : PairAt K (upd H d (.frz od (.dK kvs))) vp p := pair_mono tk (fun l xs => lock_seq hd _ l xs) hp
  have hkL := hk.mono tk
  refine ⟨_, rfl, o, CO, dx, _, _, rfl, hoL, T.cl_Office, T.n_Office_kept, ofF_kept _ _ _, d, od, kvs, rfl, upd_same, for_it walk_values (fun i σ H' => ∃ v : Option V, σ = [some (.ref o), some vp, v] ∧ H' = upd H d (.frz od (.dK kvs)) ∧ Ut12.broken (g.checks.take i) p = [])
    ⟨none, rfl, rfl, rfl⟩ (fun i σ H' _ ⟨_, _, e, _⟩ => by rw [e]; exact upd_same) ?_ ?_⟩
  · rintro i x σ H' H'' hi ⟨v, rfl, rfl, hb⟩ ⟨rfl, k, hx⟩
    obtain ⟨c, hc, ek, ch⟩ := hkL.get hx
    obtain ⟨g1, g2, g3, g4⟩ := G.ok c (List.mem_of_getElem? hc)
    refine ⟨_, rfl, _, rfl, x, vp, c, p, rfl, ch, g1, g2, g3, g4, hpL, _, rfl, ?_⟩
    cases eb : Ut12.breaks c p with
    | true =>
      refine if_t rfl ⟨upd_same, ?_⟩
      rw [back hd]
      rw [broken_at hc eb] at q
      exact q
    | false =>
      refine if_f rfl ⟨_, rfl, rfl, ?_⟩
      rw [take_more hc, broken_app, hb, broken_one, eb]
      rfl
  · rintro σ H' ⟨v, rfl, rfl, hb⟩
    rw [hk.len, List.take_length] at hb
    rw [hb] at q
    refine ⟨upd_same, ?_⟩
    rw [back hd]
    exact q
end
end Pc

namespace Pc
open PySem PySem.Spec PyProof.Rows L2
theorem broken_le (l : List Ut12.Check) (p : Ut12.Pair) : (Ut12.broken l p).length ≤ l.length := by
  unfold Ut12.broken
  rw [List.length_map]
  exact List.length_filter_le _ _
theorem find_at {α : Type} {p : α → Bool} : ∀ {U : List α} {i : Nat} {s : α}, U[i]? = some s → p s = true → (∀ x ∈ U.take i, p x = false) → U.find? p = some s
  | [], i, s, h, _, _ => by simp at h
  | a :: U, 0, s, h, hp, _ => by
    cases h
    exact List.find?_cons_of_pos hp
  | a :: U, i + 1, s, h, hp, hn => by
    have h1 : p a = false := hn a (by simp)
    rw [List.find?_cons_of_neg (by rw [h1]; decide)]
    exact find_at (U := U) (i := i) h hp fun x hx => hn x (by rw [List.take_succ_cons]; exact List.mem_cons_of_mem _ hx)
theorem findSome_at {α β : Type} {f : α → Option β} {y : β} : ∀ {U : List α} {i : Nat} {s : α}, U[i]? = some s → f s = some y → (∀ x ∈ U.take i, f x = none) → U.findSome? f = some y
  | [], i, s, h, _, _ => by simp at h
  | a :: U, 0, s, h, hp, _ => by
    cases h
    rw [List.findSome?_cons, hp]
  | a :: U, i + 1, s, h, hp, hn => by
    have h1 : f a = none := hn a (by simp)
    rw [List.findSome?_cons, h1]
    exact findSome_at (U := U) (i := i) h hp fun x hx => hn x (by rw [List.take_succ_cons]; exact List.mem_cons_of_mem _ hx)
theorem mem_more {α : Type} {l : List α} {i : Nat} {x y : α} (h : l[i]? = some x) (hy : y ∈ l.take (i + 1)) : y ∈ l.take i ∨ y = x := by
  rw [take_more h] at hy
  rcases List.mem_append.mp hy with h | h
  · exact .inl h
  · exact .inr (List.mem_singleton.mp h)
/-- the first pair: found at these places, or none -/
theorem pair_found {a : List Nat} {n : Nat} {p : Ut12.Pair → Bool} {i j : Nat} {s t : List Nat} (hi : (Ut12.upTo a n)[i]? = some s) (hj : (Ut12.upTo a n)[j]? = some t) (h : p (s, t) = true)
    (h1 : ∀ x ∈ (Ut12.upTo a n).take i, ∀ y ∈ Ut12.upTo a n, p (x, y) = false) (h2 : ∀ y ∈ (Ut12.upTo a n).take j, p (s, y) = false) : (Ut12.pairs a n).find? p = some (s, t) := by
  unfold Ut12.pairs
  rw [find_pairs]
  refine findSome_at hi ?_ fun x hx => ?_
  · rw [find_at (p := fun t => p (s, t)) hj h h2]
    rfl
  · rw [List.find?_eq_none.mpr fun y hy => by rw [h1 x hx y hy]; decide]
    rfl
theorem pair_none {a : List Nat} {n : Nat} {p : Ut12.Pair → Bool} (h1 : ∀ x ∈ Ut12.upTo a n, ∀ y ∈ Ut12.upTo a n, p (x, y) = false) : (Ut12.pairs a n).find? p = none := by
  rw [List.find?_eq_none]
  intro q hq
  unfold Ut12.pairs at hq
  rw [List.mem_flatMap] at hq
  obtain ⟨x, hx, hq⟩ := hq
  rw [List.mem_map] at hq
  obtain ⟨y, hy, rfl⟩ := hq
  rw [h1 x hx y hy]
  decide
section
variable {P : Program} {w : World} {K : PySem.W.Frag} {mg : Str → Option Value} {base : Heap} {CR CO : Addr} {f : Addr} {fd : FuncData}
theorem ok_Office_broken_by (F : Fun K "broken_by" "Office.broken_by" s_Office_broken_by f fd) (T : Txt K mg CR CO) (c_breaks : Cal P w K mg base 15 "breaks" ["pair", "check"] (spBreaks K)) : FnOk P w K mg base CX0 16 f fd ["self", "pair"] (spBroken K CO) := by
  refine F.ok sc_Office_broken_by (fun vs H Q E h => ?_) (fun cdv A outer s H vs Q E hr h => ?_)
  · obtain ⟨o, d, al, g, vp, p, rfl, _⟩ := h
    rfl
  obtain ⟨o, d, al, g, vp, p, rfl, S, hp, q⟩ := h
  refine ⟨_, (pss_one (ps_ret (pe_lock (pe_lc (own := [("number", 2), ("check", 3)]) (g := gTup K 2 (gCons (gName 2) (gCons (gName 3) gNil))) (tt := tTest (tCall (spBreaks K) [] E0 (tCons (tVar 1) (tCons (tVar 3) tNil)))) rfl sc_Office_broken_by.nd (pi_items (pe_fld (pv 0) rfl)) (blkOk_by (own := [("number", 2), ("check", 3)]) (N := ["self", "pair", "number", "check"]) (sc := defScope s_Office_broken_by) (by decide +kernel))
    (fun _ _ _ _ _ => pg_tup rfl (pgs_cons (pg_name (i := 2) sc_Office_broken_by.nd rfl (Or.inl rfl)) (pgs_cons (pg_name (i := 3) sc_Office_broken_by.nd rfl (Or.inl rfl)) pgs_nil)))
    (fun _ _ _ _ _ => pts_one (pt_val (pe_c c_breaks hr (by omega) rfl (pa_cons (pv 1) (pa_cons (pv 3) pa_nil))))) (fun _ _ _ _ _ => pv 2))))), ?_⟩
  obtain ⟨⟨dx, ho⟩, ⟨kvs, hd, hk⟩, hle, G⟩ := id S
  have nod : o ≠ d := ne_of ho hd (by intro z; cases z)
  refine ⟨d, .dK kvs, hd, trivial, fun od => ?_⟩
  have hoL : upd H d (.frz od (.dK kvs)) o = some (ofO CO dx d g.given al) := by rw [upd_ne nod]; exact ho
  have tk : TK H (upd H d (.frz od (.dK kvs))) := .upd _ hd fun xs z => by cases z
  have hpL : PairAt K (upd H d (.frz od (.dK kvs))) vp p := pair_mono tk (fun l xs => lock_seq hd _ l xs) hp
  have hkL := hk.mono tk
  refine ⟨_, rfl, o, CO, dx, _, _, rfl, hoL, T.cl_Office, T.n_Office_kept, ofF_kept _ _ _, d, od, kvs, rfl, upd_same, fun D hD => ?_⟩
  have hD0 : H D = none := by
    by_cases e : D = d
    · subst e; rw [upd_same] at hD; cases hD
    · rw [upd_ne e] at hD; exact hD
  refine lc_it walk_items (fun i H' => Same (upd H d (.frz od (.dK kvs))) H' ∧ H' D = some (.lst (vi (Ut12.broken (g.checks.take i) p))))
    ⟨same_new hD _, upd_same⟩ (fun i H' _ ⟨e, _⟩ => e _ _ upd_same) ?_ ?_
  · rintro i x H1 H2 hi ⟨k1, hD1⟩ ⟨Tt, y, z, rfl, hT, rfl, e1, e2⟩
    dsimp only at e1 e2
    cases ek : kvs[i]? with
    | none => rw [ek] at e1; cases e1
    | some kv =>
      rw [ek] at e1 e2
      cases e1
      cases e2
      obtain ⟨c, hc, en, ch⟩ := hkL.get ek
      obtain ⟨g1, g2, g3, g4⟩ := G.ok c (List.mem_of_getElem? hc)
      have s2 := same_new hT (.tup [kV kv.1, kv.2])
      have k2 := k1.trans s2
      refine ⟨Tt, _, rfl, SqT.of upd_same, rfl, _, _, rfl, _, _, rfl, rfl, rfl, ?_⟩
      refine ⟨_, rfl, _, rfl, kv.2, vp, c, p, rfl, ch.mono (.same k2), g1, g2, g3, g4, pair_mono (.same k2) (fun l xs h => k2.seq h) hpL, _, rfl, ?_⟩
      cases eb : Ut12.breaks c p with
      | true =>
        refine if_t rfl ⟨_, rfl, _, s2 _ _ hD1, ?_, ?_, ?_⟩
        · rw [vi_len]
          have h1 := broken_le (g.checks.take i) p
          have h2 := List.length_take_le i g.checks
          have := G.few
          exact line5 (by rw [List.length_take] at h1; omega)
        · intro b u e
          have nb : b ≠ D := ne_of_none e hD
          rw [upd_ne nb]
          exact k2 _ _ e
        · rw [upd_same, take_more hc, broken_app, broken_one, if_pos eb, vi_app]
          show some (HO.lst (_ ++ [kV kv.1])) = _
          rw [en]
          rfl
      | false =>
        refine if_f rfl ⟨k2, ?_⟩
        rw [s2 _ _ hD1, take_more hc, broken_app, broken_one, eb]
        simp
  · rintro H1 ⟨k1, hD1⟩
    rw [hk.len, List.take_length] at hD1
    refine ⟨k1 _ _ upd_same, ?_⟩
    have nDd : D ≠ d := fun e => by subst e; rw [upd_same] at hD; cases hD
    refine q _ D (fun b u e => ?_) hD0 ?_
    · by_cases eb : b = d
      · subst eb
        rw [upd_same, ← e, hd]
      · rw [upd_ne eb]
        exact k1 _ _ (by rw [upd_ne eb]; exact e)
    · rw [upd_ne nDd]
      exact hD1
theorem ok_Office_run (F : Fun K "run" "Office.run" s_Office_run f fd) (T : Txt K mg CR CO) (c_is_sentence : Cal P w K mg base 2 "is_sentence" ["words"] (spSent K)) (c_broken_by : Met P w K mg base 16 CO "broken_by" ["self", "pair"] (spBroken K CO)) (c_counted : Cal P w K mg base 1 "counted" ["row"] spCounted) :
    FnOk P w K mg base CX0 17 f fd ["self", "sentence", "translation"] (spOff CO (aRun K)) := by
  refine F.ok sc_Office_run (fun vs H Q E h => ?_) (fun cdv A outer s H vs Q E hr h => ?_)
  · obtain ⟨o, d, al, g, c, rest, rfl, S, ⟨r, b, s, t, rfl, _⟩, _⟩ := h
    rfl
  obtain ⟨o, d, al, g, c, rest, rfl, S, ⟨r, b, s, t, rfl, hs, ht, rfl⟩, q⟩ := h
  refine ⟨_, (pss_cons (ps_if (pt_not (PW.pt (pw_and (pt_val (pe_c c_is_sentence hr (by omega) rfl (pa_cons (pv 1) pa_nil))) (pw_and1 (pt_val (pe_c c_is_sentence hr (by omega) rfl (pa_cons (pv 2) pa_nil))))))) (pss_one (ps_ret (pe_lst (pa_cons (pe_gi T.g_BEYOND_BOUNDS) pa_nil)))) pss_nil)
      (pss_one (ps_ret (pe_c c_counted hr (by omega) rfl (pa_cons (pe_mt c_broken_by hr (by omega) (pv 0) (pa_cons (pe_tup (pa_cons (pv 1) (pa_cons (pv 2) pa_nil))) pa_nil)) pa_nil))))), ?_⟩
  have no : (Ut12.sentOk s = false ∨ Ut12.sentOk t = false) → ∀ p, H p = none → Q (.ref p) (upd H p (.lst [.int (-1)])) := fun h p hp => by
    have es : Ut12.step g (.run (s, t)) = (g, [-1]) := by
      show (g, if _ then _ else _) = _
      rw [if_pos h]
    rw [es] at q
    obtain ⟨S1, k1⟩ := off_new S hp (.lst [.int (-1)])
    exact q _ al p S1 (.inl rfl) k1 hp upd_same
  refine ⟨_, rfl, r, s, rfl, hs, _, rfl, ?_⟩
  cases es1 : Ut12.sentOk s with
  | false =>
    refine if_f rfl (if_t rfl ⟨(by show 1 ≤ sizeLine; decide), fun p hp => ?_⟩)
    exact no (.inl es1) p hp
  | true =>
    refine if_t rfl ⟨_, rfl, b, t, rfl, ht, _, rfl, ?_⟩
    cases es2 : Ut12.sentOk t with
    | false =>
      refine (if_t rfl ⟨(by show 1 ≤ sizeLine; decide), fun p hp => ?_⟩)
      exact no (.inr es2) p hp
    | true =>
      refine if_f rfl ?_
      have es : Ut12.step g (.run (s, t)) = (g, Ut12.ints ((Ut12.broken g.checks (s, t)).length :: Ut12.broken g.checks (s, t))) := by
        show (g, if _ then _ else _) = _
        rw [if_neg]
        rintro (h | h)
        · rw [es1] at h; cases h
        · rw [es2] at h; cases h
      rw [es] at q
      obtain ⟨⟨dx, ho⟩, _, _, G⟩ := id S
      refine ⟨_, rfl, o, dx, _, rfl, ho, ofF_no _ _ _ (by decide +kernel) (by decide +kernel) (by decide +kernel), _, rfl, _, rfl, (by show 2 ≤ sizeLine; decide), fun pq hpq => ?_⟩
      have s1 := same_new hpq (.tup [.ref r, .ref b])
      refine tnil (?_ : spBroken K CO [.ref o, .ref pq] _ _ _)
      refine ⟨o, d, al, g, .ref pq, (s, t), rfl, S.same s1, ⟨pq, r, b, rfl, upd_same, s1.seq hs, s1.seq ht⟩, fun H2 z k2 hz hz2 => ?_⟩
      have s2 := s1.trans k2
      refine ⟨z, _, rfl, hz2, ?_, fun H3 p k3 hp hp3 => ?_⟩
      · rw [vi_len]
        have h1 := broken_le g.checks (s, t)
        have := G.few
        exact line5 (by omega)
      · have s3 := s2.trans k3
        refine q _ al p (S.same s3) (.inl rfl) (.of s3) (s2.free hp) ?_
        rw [hp3, vi_map, vi_len]
        rfl
end
end Pc

/-! a lambda with parameters, handed to a method that calls it -/
namespace Pc
open PySem PySem.Spec PyProof.Rows L2 LamX NdefX
theorem cells_un {cl : List (Str × Addr)} {fr : List Str} {ws : List (Option V)} {h h' : Heap} {H H' : Hp} {fs : List Addr} (C : CellsAt cl fr ws h H) (un : Un fs [] H H' h h') : CellsAt cl fr ws h' H' := by
  have kp : ∀ {c : Addr} {v : Option Value}, H c = none → h.IsCell c v → h'.IsCell c v := fun {c v} n ⟨o, ho, hd⟩ => by
    obtain ⟨sl, q⟩ := un.any ho n (by simp)
    exact ⟨_, q, hd⟩
  refine ⟨C.len, fun y c e => ?_, C.inj, fun i y e => ?_⟩
  · obtain ⟨n, v, o, ho, hd⟩ := C.all y c e
    exact ⟨un.free c o ho n (by simp), v, kp n ⟨o, ho, hd⟩⟩
  · obtain ⟨c, hc, hv⟩ := C.has i y e
    refine ⟨c, hc, fun v ev => ?_⟩
    obtain ⟨u, r, z⟩ := hv v ev
    exact ⟨u, r, kp (C.all y c hc).1 z⟩
/-- a lambda called -/
theorem lam_run {P : Program} {w : World} {K : PySem.W.Frag} {mg : Str → Option Value} {base : Heap} {N ps fr : List Str} {F : NF} {f : Addr} {k : Nat} {body : Expr} {pm ctv : Value} {tb : TE} {A : Around} {outer : List Env} {s : Shared} {H : Hp} {us : List Value} {vs : List V} {ws : List (Option V)} {Q : VK}
    (S : NScope N ps fr F.scope) (hb : bindArgs (PySem.W.kla_fn F.name F.qual F.params body F.scope F.cl pm (.ref F.c) ctv) ⟨us, []⟩ = pure (ps.zip us)) (hbody : Room k (A.deeper (envF F f s.heap.objs.size)) → PE (ncx CX0 P w K mg base N F f A outer s H E0) body tb) (hr : Room (k + 1) A)
    (e0 : Env0 P w K mg base A outer s H) (hf : s.heap.get? f = some (PySem.W.kla_obj F.name F.qual F.params body F.scope F.cl pm F.c ctv)) (hc : H F.c = some (CodeO F.c F.qual)) (C : CellsAt F.cl fr ws s.heap H) (r : Vals vs us) (hl : vs.length = ps.length) (ht : tb (startF N vs ws) H Q) :
    codeAny (model P w) A (.call (.ref f) ⟨us, []⟩) (CR CX0 outer P w H s Q E0) s := by
  have nolim : s.heap.NoLimit := e0.mod.nolimit.keeps fun b o e => (e0.bs b o e).1
  refine PySem.W.kla_callFunE hr.depth hf rfl S.co S.gen rfl (codeO_at e0.hok hc) ?_
  rw [hb]
  refine wpAny_pure (wpAny_newFunctionEnv S.nocell (fun ⟨x, _⟩ hx => S.par x (List.of_mem_zip hx).1) (fun h1 hns hsb => ⟨nolim.fresh _ hsb, ?_⟩) S.kind)
  show codeAny _ _ (.expr body (envF F f s.heap.objs.size)) _ _
  have kept : ∀ b o, s.heap.get? b = some o → h1.get? b = some o := fun b o e => hsb.extBut b o (Nat.ne_of_lt (Heap.lt_size e)) (Heap.get?_push_of_some _ e)
  have I0 : Inv (ncx CX0 P w K mg base N F f A outer s H E0) [] (startF N vs ws) H { s with heap := h1, toks := s.toks + (ps.zip us).length } := inv_startN S hr.hd e0 hl r C hns kept
  refine PySem.W.kla_codeExpr (wpAny_mono ((hbody (hr.deeper _)).run [] _ _ H Q I0 ht) (fun v s' hq => ?_) fun e s' hq => hq)
  obtain ⟨v', H', J, rv, q⟩ := hq
  exact ⟨v', H', J.os, J.bare, J.base, J.hok, rv, q⟩
/-- a(..) in a def that got the lambda: what was known at the def's entry -/
theorem pe_got {Y : Cx} {N ps fr : List Str} {F : NF} {f : Addr} {k i : Nat} {body : Expr} {pm ctv : Value} {tb : TE} {t : TA} {ws : List (Option V)} {a : Str} {e : Expr} {es : List Expr} {p1 p2 : Pos} (hex : Y.ex = []) (S : NScope N ps fr F.scope)
    (hb : ∀ us : List Value, us.length = ps.length → bindArgs (PySem.W.kla_fn F.name F.qual F.params body F.scope F.cl pm (.ref F.c) ctv) ⟨us, []⟩ = pure (ps.zip us))
    (hbody : ∀ (A : Around) (outer : List Env) (s : Shared) (H : Hp), Room k (A.deeper (envF F f s.heap.objs.size)) → PE (ncx CX0 Y.prog Y.w Y.K Y.mg Y.base N F f A outer s H E0) body tb) (hr : Room (k + 1) Y.A)
    (hf : Y.s_0.heap.get? f = some (PySem.W.kla_obj F.name F.qual F.params body F.scope F.cl pm F.c ctv)) (hfn : Y.H_0 f = none) (hff : f ∉ Y.fs) (C : CellsAt F.cl fr ws Y.s_0.heap Y.H_0) (hN : Y.N[i]? = some a) (hv : Vis Y.env.scope a) (ha : PA Y (e :: es) t)
    (hd : (a == ("__debug__" : Str)) = false := by decide) (hcd : (a == ("__classdict__" : Str)) = false := by decide)
    (he : starEach (e :: es) Y.env = (false, eval e Y.env) :: starEach es Y.env := by rfl) (hpl : (backTo p2 (starEach es Y.env)).any (·.1) = false := by rfl) :
    PE Y (.Call (.Name a p1) (e :: es) [] p2) (fun σ H Q => σ[i]? = some (some (.ref f)) ∧ t σ H fun vs H1 => vs.length = ps.length ∧ H1 F.c = some (CodeO F.c F.qual) ∧ tb (startF N vs ws) H1 Q) := by
  refine ⟨fun pins s σ H Q I h => ?_⟩
  obtain ⟨hs, ht⟩ := h
  have fat : ∀ {H' : Hp} {s' : Shared}, Inv Y pins σ H' s' → s'.heap.get? f = some (PySem.W.kla_obj F.name F.qual F.params body F.scope F.cl pm F.c ctv) := fun J => J.base.keep f _ hf hfn hff (by rw [hex]; simp)
  have cat : ∀ {H' : Hp} {s' : Shared}, Inv Y pins σ H' s' → CellsAt F.cl fr ws s'.heap H' := fun J => cells_un C (by have u := J.base; rw [hex] at u; exact u)
  refine wpAny_Call_Name_kw (thn ((pe_var (pos := p1) hN hv hd hcd).run pins s σ H (fun v H1 => v = .ref f ∧ H1 = H) I ⟨.ref f, hs, rfl, rfl⟩) fun u s1 ⟨v, H1, J1, r1, q1⟩ => ?_)
  obtain ⟨e1, e2⟩ := q1
  subst e1
  rw [e2] at J1
  obtain rfl : u = Value.ref f := r1
  refine PySem.W.callWith_F (first := []) ⟨_, _, _, _, fat J1⟩ (thn (ha.run p2 pins s1 σ H _ J1 ht) fun us s2 ⟨vs, H2, J2, r, hl, hc, q⟩ => ⟨⟨_, _, _, _, fat J2⟩, ?_⟩) he hpl
  show wpAny _ _ (call (.ref f) us) _ _ _
  refine wpAny_call (codeAny_mono (lam_run S (hb us (by rw [← r.length]; exact hl)) (hbody _ _ _ _) hr J2.env0 (fat J2) hc (cat J2) r hl q) fun r' s' hq => ?_)
  cases r' with
  | error z => exact (show False from hq).elim
  | ok fl =>
    cases fl with
    | ret u => exact J2.after hq
    | next => exact False.elim hq
    | brk => exact False.elim hq
    | cont => exact False.elim hq
/-- a method whose last parameter (slot i, name x) is a function that it calls with the name y (slot j): what it makes of that function's reading -/
def Gives (P : Program) (w : World) (K : PySem.W.Frag) (mg : Str → Option Value) (base : Heap) (k : Nat) (st : Stmt) (qual : Str) (g : Addr) (N : List Str) (i j : Nat) (x y : Str) (TT : (V → Hp → VK → Prop) → List V → Hp → VK → Prop) : Prop :=
  ∀ (cdv : Value) (A : Around) (outer : List Env) (s : Shared) (H : Hp) (f c' : Addr) (q : Str) (vs : List V) (Q : VK) (tl : V → Hp → VK → Prop), Room k (A.deeper (envOfC qual (defScope st) s.heap.objs.size g cdv)) →
    (∀ p1 p2 p3 : Pos, PE (cxOf CX0 P w K mg base N qual (defScope st) g cdv A outer s H E0).nox (.Call (.Name x p1) [.Name y p3] [] p2) (fun σ H' Q' => σ[i]? = some (some (.ref f)) ∧ ∃ v, σ[j]? = some (some v) ∧ H' c' = some (CodeO c' q) ∧ tl v H' Q')) →
    H c' = some (CodeO c' q) → TT tl vs H Q →
    ∃ t, PSs (cxOf CX0 P w K mg base N qual (defScope st) g cdv A outer s H E0).nox (defBody st) t ∧ t { nx := fun _ H' => Q .non H', rt := Q } (L2.start N (vs ++ [.ref f])) H
def tLamM (X : Cx) (C : Addr) (m : Str) (T : List (Addr × Str)) (TT : (V → Hp → VK → Prop) → List V → Hp → VK → Prop) (tb : TE) (NL : List Str) (js : List Nat) (ta t1 : TE) : TE := fun σ H Q => ta σ H fun x H1 => ∃ a dx fs, x = .ref a ∧ H1 a = some (.ins C dx fs) ∧ fs.lookup m = none ∧
  t1 σ H1 fun v1 H2 => Tabs T H2 ∧ ∀ H3, ExtN H2 H3 → Tabs T H3 → (∀ b ps, X.H_0 b = some (.tbl ps) → ∃ more, H3 b = some (.tbl (ps ++ more))) → TT (fun v H' Q' => tb (startF NL [v] (js.map (slotAt σ))) H' Q') [x, v1] H3 Q
/-- o.m(e, lambda ..: body) -/
theorem pe_lamM {X : Cx} {T : List (Addr × Str)} {TT : (V → Hp → VK → Prop) → List V → Hp → VK → Prop} {C g c P : Addr} {m x y z : Str} {i j k : Nat} {st : Stmt} {qual : Str} {fd : FuncData} {Ng psg NL fr : List Str} {js : List Nat} {o e : Expr} {params : Arguments} {body : Expr} {scope : Scope} {tb ta t1 : TE}
    {apos lpos pos : Pos} {pl : Sem Bool} (he : PE X o ta) (hC : Cls X.K C) (hm : Meth X.K C m g) (Fg : Fun X.K m qual st g fd) (Sg : FnScope Ng psg (defScope st)) (hb : Binds X.K fd psg []) (h3 : psg.length = 3) (ha : PE X e t1)
    (hG : Gives X.prog X.w X.K X.mg X.base k st qual g Ng i j x y TT) (hi : Ng[i]? = some x) (hj : Ng[j]? = some y) (hvi : Vis (defScope st) x) (hvj : Vis (defScope st) y)
    (TB : TabB X.base X.mg c P) (hcode : X.env.code = .ref c) (hT : (P, X.env.qual ++ "<lambda>") ∈ T) (hu : ∀ p ∈ T, p.1 = P → p.2 = X.env.qual ++ "<lambda>") (hr : Room (k + 1) X.A) (hdef : defaultsOf params X.env = ([], []))
    (S : NScope NL [z] fr scope) (hfree : ndefB X.env.scope scope fr = true) (hjs : js.map (fun j => X.N[j]?) = fr.map some)
    (hbind : ∀ (q : Str) (cl : List (Str × Addr)) (pm cv ctv : Value) (us : List Value), us.length = ([z] : List Str).length → bindArgs (PySem.W.kla_fn "<lambda>" q params body scope cl pm cv ctv) ⟨us, []⟩ = pure (([z] : List Str).zip us)) {kl : Nat} (hkl : kl + 1 ≤ k)
    (hbody : ∀ (F : NF) (A : Around) (outer : List Env) (s : Shared) (H : Hp) (f : Addr), F.scope = scope → Room kl (A.deeper (envF F f s.heap.objs.size)) → PE (ncx CX0 X.prog X.w X.K X.mg X.base NL F f A outer s H E0) body tb)
    (hst : starEach [e, .Lambda params body scope lpos] X.env = (false, eval e X.env) :: (false, eval (.Lambda params body scope lpos) X.env) :: [] := by rfl)
    (hdx : (x == ("__debug__" : Str)) = false := by decide) (hcx : (x == ("__classdict__" : Str)) = false := by decide) (hdy : (y == ("__debug__" : Str)) = false := by decide) (hcy : (y == ("__classdict__" : Str)) = false := by decide)
    (ht : eval (.Call (.Attribute o m apos) [e, .Lambda params body scope lpos] [] pos) X.env = (do
      let ov ← eval o X.env
      standAt apos.atName
      let (f, first) ← holding [ov] (getMethod ov m pl)
      callWith pos f first (backTo pos (starEach [e, .Lambda params body scope lpos] X.env)) (backToKw pos (keywordEach [] X.env))) := by rfl) :
    PE X (.Call (.Attribute o m apos) [e, .Lambda params body scope lpos] [] pos) (tLamM X C m T TT tb NL js ta t1) := by
  refine ⟨fun pins s σ H Q I h => ?_⟩
  refine PySem.W.methodCall_KW (pl := pl) (thn (he.run pins s σ H _ I h) fun u s1 ⟨x0, H1, I1, rx, a, dx, fs, ex, ea, l, q⟩ => ?_) ht
  subst ex
  obtain rfl : u = Value.ref a := rx
  refine getmeth_ok I1 ea hC hm l ?_
  refine PySem.W.callWith_K (first := [.ref a]) (h₀ := X.base) I.ok.mod.kin hm.kp ?_ (by rw [hst]; rfl) (by rfl)
  rw [hst]
  refine Calls.spliced_cons (thn (ha.run pins s1 σ H1 _ I1 q) fun u1 s2 ⟨v1, H2, I2, r1, hT2, q2⟩ => ?_)
  have hfr0 : ∀ y ∈ scope.names, y.2 = .free → ∃ c, X.env.cells.lookup y.1 = some c := fun y hy e => (ndef_free hfree y hy e).elim (fun z => I.ok.has _ (.inl z)) fun z => I.ok.has _ (.inr z)
  refine Calls.spliced_cons (lam_make2 I2 TB hcode hT hu hT2 hdef hfr0 fun f c' pm' ctv H3 s3 I3 eN T3 hf hfn hff hco => ?_)
  refine Calls.spliced_nil ⟨I3.kIn, ?_⟩
  show wpAny _ _ (call (.ref g) [.ref a, u1, .ref f]) _ _ _
  have C3 := cells_of I3 (Caps.made (fr := fr) (js := js) (scope := scope) I3.ok (ndef_free hfree) (ndef_fr hfree) hjs)
  obtain ⟨oc, od, kV, doc, pm, an, cdv, ct, osl, rfl, lk, hcd⟩ := Fg.ex
  have rc : codeAny (model X.prog X.w) X.A (.call (.ref g) ⟨[.ref a, u1, .ref f], []⟩) (CR C8.CX0 X.stack X.prog X.w H3 s3 Q C8.E0) s3 := by
    refine run_ofS (N := Ng) (ps := psg) (us := [.ref a, u1, .ref f]) (vs := [.ref a, v1, .ref f]) lk hcd Sg hr I3.env0 ?_ (.cons rfl (.cons r1 (.cons rfl .nil))) h3.symm fun hr' => ?_
    · have z := hb s3 [.ref a, u1, .ref f] I3.kIn (by rw [List.append_nil]; exact h3.symm)
      rw [List.append_nil] at z
      exact z
    have act : ∀ p1 p2 p3 : Pos, PE (cxOf CX0 X.prog X.w X.K X.mg X.base Ng qual (defScope st) g cdv X.A X.stack s3 H3 E0).nox (.Call (.Name x p1) [.Name y p3] [] p2) (fun σ' H' Q' => σ'[i]? = some (some (.ref f)) ∧ ∃ v, σ'[j]? = some (some v) ∧ H' c' = some (CodeO c' (X.env.qual ++ "<lambda>")) ∧ tb (startF NL [v] (js.map (slotAt σ))) H' Q') := fun p1 p2 p3 => by
      have pg := pe_got (Y := (cxOf CX0 X.prog X.w X.K X.mg X.base Ng qual (defScope st) g cdv X.A X.stack s3 H3 E0).nox) (F := ⟨"<lambda>", X.env.qual ++ "<lambda>", params, [], scope, cloFrom X.env.cells scope.names [], c'⟩) (k := kl) (i := i) (p1 := p1) (p2 := p2) rfl S (fun us hl => hbind _ _ _ _ _ us hl)
        (fun A outer s H hr => hbody _ A outer s H f rfl hr) (hr'.mono hkl) hf hfn hff C3 hi hvi (pa_cons (pe_var (pos := p3) hj hvj hdy hcy) pa_nil) hdx hcx
      refine ⟨fun pins s σ' H' Q' I' h' => pg.run pins s σ' H' Q' I' ?_⟩
      obtain ⟨k1, v, k2, k3, k4⟩ := h'
      exact ⟨k1, v, k2, rfl, k3, k4⟩
    obtain ⟨t', ht', hq'⟩ := hG cdv X.A X.stack s3 H3 f c' (X.env.qual ++ "<lambda>") [.ref a, v1] Q (fun v H' Q' => tb (startF NL [v] (js.map (slotAt σ))) H' Q') hr' act hco (q2 H3 eN T3 fun b ps hb => I3.base.tbls b ps hb)
    exact ⟨t', ht'.nox, hq'⟩
  refine wpAny_call (codeAny_mono rc fun r s' hq => ?_)
  cases r with
  | error z => exact (show False from hq).elim
  | ok fl =>
    cases fl with
    | ret u => exact I3.after hq
    | next => exact False.elim hq
    | brk => exact False.elim hq
    | cont => exact False.elim hq
end Pc

namespace Pc
open PySem PySem.Spec PyProof.Rows L2 LamX NdefX
/-- a search for the first pair that is so -/
def sought (g : Ut12.House) (n : Nat) (pr : Ut12.Pair → Bool) : List Int := if Ut12.few g n = false then [-1] else Ut12.told ((Ut12.pairs g.letters n).find? pr)
/-- what first_pair makes of the function that it gets -/
def TFirst (K : PySem.W.Frag) (CO : Addr) : (V → Hp → VK → Prop) → List V → Hp → VK → Prop := fun tl vs H Q => ∃ (o d al : Addr) (g : Ut12.House) (n : Nat) (pr : Ut12.Pair → Bool), vs = [.ref o, .int (n : Int)] ∧ OffAt CO H o d al g ∧
  (∀ (H' : Hp) (v : V) (p : Ut12.Pair) (Q' : VK), Same H H' → PairAt K H' v p → (∀ H'', Same H' H'' → Q' (.bl (pr p)) H'') → tl v H' Q') ∧
  ∀ (H' : Hp) (p : Addr), Same H H' → H p = none → H' p = some (.lst ((sought g n pr).map V.int)) → Q (.ref p) H'
theorem pairs_len (a : List Nat) (n : Nat) : (Ut12.pairs a n).length = (Ut12.upTo a n).length * (Ut12.upTo a n).length := by
  unfold Ut12.pairs
  have h : ∀ (S : List (List Nat)) (U : List (List Nat)), (S.flatMap fun s => U.map fun t => ((s, t) : Ut12.Pair)).length = S.length * U.length := fun S U => by
    induction S with
    | nil => simp
    | cons s S ih =>
      rw [List.flatMap_cons, List.length_append, ih, List.length_cons, Nat.add_mul, List.length_map]
      omega
  exact h _ _
theorem pairs_each {a : List Nat} {n : Nat} {p : Ut12.Pair} (h : p ∈ Ut12.pairs a n) : p.1 ∈ Ut12.upTo a n ∧ p.2 ∈ Ut12.upTo a n := by
  unfold Ut12.pairs at h
  obtain ⟨s, hs, h⟩ := List.mem_flatMap.mp h
  obtain ⟨t, ht, rfl⟩ := List.mem_map.mp h
  exact ⟨hs, ht⟩
section
variable {P : Program} {w : World} {K : PySem.W.Frag} {mg : Str → Option Value} {base : Heap} {CR CO : Addr} {f : Addr} {fd : FuncData}
theorem gives_first_pair {g : Addr} (T : Txt K mg CR CO) (c_can_be_searched : Cal P w K mg base 2 "can_be_searched" ["letters", "most_words"] (spSearch K)) (c_pairs_in_order : Cal P w K mg base 3 "pairs_in_order" ["letters", "most_words"] (spPairs K))
    (c_counted : Cal P w K mg base 1 "counted" ["row"] spCounted) : Gives P w K mg base 17 s_Office_first_pair "Office.first_pair" g ["self", "most_words", "is_sought", "pair"] 2 3 "is_sought" "pair" (TFirst K CO) := by
  intro cdv A outer s H f c' qq vs Q tl hr act hco h
  obtain ⟨o, d, al, g, n, pr, rfl, S, htl, q⟩ := h
  refine ⟨_, (pss_cons (ps_if (pt_not (pt_val (pe_c c_can_be_searched hr (by omega) rfl (pa_cons (pe_fld (pv 0) rfl) (pa_cons (pv 1) pa_nil))))) (pss_one (ps_ret (pe_lst (pa_cons (pe_gi T.g_BEYOND_BOUNDS) pa_nil)))) pss_nil)
      (pss_cons (ps_for PassesOwn.never rfl (pi_list (pe_c c_pairs_in_order hr (by omega) rfl (pa_cons (pe_fld (pv 0) rfl) (pa_cons (pv 1) pa_nil)))) (pg_name (i := 3) sc_Office_first_pair.nd rfl (Or.inl rfl)) (pss_one (ps_if (pt_val (act _ _ _)) (pss_one (ps_ret (pe_op op_cat (pe_c c_counted hr (by omega) rfl (pa_cons (pe_ix ix_tup (pv 3) pe_int (fun _ _ => rfl)) pa_nil)) (pe_c c_counted hr (by omega) rfl (pa_cons (pe_ix ix_tup (pv 3) pe_int (fun _ _ => rfl)) pa_nil))))) pss_nil)))
      (pss_one (ps_ret (pe_lst (pa_cons (pe_gi T.g_NOTHING_FOUND) pa_nil)))))), ?_⟩
  obtain ⟨⟨dx, ho⟩, ⟨kvs, hd, hk⟩, hle, G⟩ := id S
  refine ⟨_, rfl, o, CO, dx, _, _, rfl, ho, T.cl_Office, T.n_Office_alphabet, ofF_alphabet _ _ _, _, rfl, al, g.letters, n, rfl, SqL.of hle, G.l5, _, rfl, ?_⟩
  have ef : Ut12.few g n = fewB g.letters.length n := rfl
  cases e : fewB g.letters.length n with
  | false =>
    refine if_t rfl ⟨(by show 1 ≤ sizeLine; decide), fun p hp => ?_⟩
    refine q _ p (same_new hp _) hp ?_
    rw [upd_same]
    unfold sought
    rw [if_pos (ef.trans e)]
    rfl
  | true =>
    refine if_f rfl ?_
    have es : sought g n pr = Ut12.told ((Ut12.pairs g.letters n).find? pr) := by
      unfold sought
      rw [if_neg (by rw [ef, e]; decide)]
    rw [es] at q
    have e' := e
    unfold fewB at e'
    rw [Bool.and_eq_true] at e'
    have hn : n ≤ 4 := of_decide_eq_true e'.1
    have hm : Ut12.many g.letters.length n ≤ 31 := of_decide_eq_true e'.2
    refine ⟨_, rfl, o, CO, dx, _, _, rfl, ho, T.cl_Office, T.n_Office_alphabet, ofF_alphabet _ _ _, _, rfl, al, g.letters, n, rfl, SqL.of hle, G.l5, hn, by rw [upTo_len]; exact hm, fun H1 a qs k1 ha hqa prs => ?_⟩
    have lenq : qs.length = (Ut12.pairs g.letters n).length := prs.len
    refine ⟨a, rfl, ⟨_, SqL.of hqa⟩, for_list (K := K) (a := a) (xs := qs.map V.ref) (fun i σ H' => ∃ v : Option V, σ = [some (.ref o), some (.int (n : Int)), some (.ref f), v] ∧ Same H1 H' ∧ ∀ x ∈ (Ut12.pairs g.letters n).take i, pr x = false)
      ⟨none, rfl, .refl _, fun x hx => by simp at hx⟩ (fun i σ H' _ ⟨_, _, e, _⟩ => SqL.of (e _ _ hqa)) ?_ ?_⟩
    · rintro i z σ H2 hi ⟨v, rfl, k2, no⟩
      obtain ⟨r, er, rfl⟩ := ref_get hi
      obtain ⟨p, b1, b2, hp, hr1, hb1, hb2⟩ := prs.get er
      have k12 := k1.trans k2
      refine ⟨rfl, _, rfl, k12 _ _ hco, htl H2 (.ref r) p _ k12 ⟨r, b1, b2, rfl, k2 _ _ hr1, SqL.of (k2 _ _ hb1), SqL.of (k2 _ _ hb2)⟩ fun H3 k3 => ⟨_, rfl, ?_⟩⟩
      have k23 := k2.trans k3
      cases eb : pr p with
      | false =>
        refine if_f rfl ⟨_, rfl, k23, fun x hx => ?_⟩
        rcases mem_more hp hx with h | h
        · exact no _ h
        · rw [h]; exact eb
      | true =>
        refine if_t rfl ?_
        have ff : (Ut12.pairs g.letters n).find? pr = some p := find_at hp eb no
        rw [ff] at q
        obtain ⟨m1, m2⟩ := pairs_each (List.mem_of_getElem? hp)
        obtain ⟨l1, _⟩ := upTo_each _ _ _ m1
        obtain ⟨l2, _⟩ := upTo_each _ _ _ m2
        have big : ∀ {l : List Nat}, l.length ≤ n → (vi l).length < sizeLine := fun h => by rw [vi_len]; exact line5 (by omega)
        refine ⟨_, rfl, r, _, _, _, rfl, rfl, SqT.of (k23 _ _ hr1), rfl, b1, _, rfl, k23 _ _ hb1, big l1, fun H5 p5 k5 hp5 e5 => ?_⟩
        have s5 := k23.trans k5
        refine ⟨_, rfl, r, _, _, _, rfl, rfl, SqT.of (s5 _ _ hr1), rfl, b2, _, rfl, s5 _ _ hb2, big l2, fun H6 p6 k6 hp6 e6 => ?_⟩
        have s6 := s5.trans k6
        refine ⟨p5, p6, _, _, rfl, rfl, k6 _ _ e5, e6, ?_, fun p' hp' => ?_⟩
        · show (vi p.1).length + 1 + ((vi p.2).length + 1) ≤ sizeLine
          rw [vi_len, vi_len]
          exact Nat.le_of_lt (line5 (by omega))
        · refine q _ p' ((k1.trans s6).trans (same_new hp' _)) ((k1.trans s6).free hp') ?_
          rw [upd_same]
          show _ = some (HO.lst ((Ut12.ints (Ut12.row p.1 ++ Ut12.row p.2)).map V.int))
          rw [vi_map, vi_app, vi_len, vi_len]
          rfl
    · rintro σ H2 ⟨v, rfl, k2, no⟩
      rw [List.length_map, lenq, List.take_length] at no
      refine ⟨(by show 1 ≤ sizeLine; decide), fun p hp => ?_⟩
      have ff : (Ut12.pairs g.letters n).find? pr = none := List.find?_eq_none.mpr fun x hx => by rw [no x hx]; decide
      rw [ff] at q
      exact q _ p ((k1.trans k2).trans (same_new hp _)) ((k1.trans k2).free hp) upd_same
end
end Pc

namespace Pc
open PySem PySem.Spec PyProof.Rows L2 LamX NdefX
/-! ### the office's methods with the tables of code objects -/
/-- all but the office, its dict and the tables -/
def Kp2T (o d : Addr) (H H' : Hp) : Prop := ∀ b u, H b = some u → (∀ ps, u ≠ .tbl ps) → b ≠ o → b ≠ d → H' b = some u
def spOffT (Tt : List (Addr × Str)) (C : Addr) (args : List V → Hp → Ut12.Call → Prop) : Sp := fun vs H Q _ => ∃ (o d al : Addr) (g : Ut12.House) (c : Ut12.Call) (rest : List V), vs = .ref o :: rest ∧ OffAt C H o d al g ∧ Tabs Tt H ∧ args rest H c ∧
  ∀ (H' : Hp) (al' p : Addr), OffAt C H' o d al' (Ut12.step g c).1 → Tabs Tt H' → (al' = al ∨ H al' = none) → Kp2T o d H H' → H p = none → H' p = some (.lst ((Ut12.step g c).2.map V.int)) → Q (.ref p) H'
theorem codeO_ins {c C dx : Addr} {q : Str} {fs : List (Str × V)} : CodeO c q ≠ .ins C dx fs := fun z => by
  unfold CodeO at z
  cases z
theorem codeO_dK {c : Addr} {q : Str} {kvs : List (Key × V)} : CodeO c q ≠ .dK kvs := fun z => by
  unfold CodeO at z
  cases z
theorem codeO_lst {c : Addr} {q : Str} {xs : List V} : CodeO c q ≠ .lst xs := fun z => by
  unfold CodeO at z
  cases z
/-- tables and their code objects stand where all but instances, dicts and lists do -/
theorem tabs_keep {Tt : List (Addr × Str)} {H H' : Hp} (t : Tabs Tt H) (k : ∀ b u, H b = some u → (∀ C dx fs, u ≠ .ins C dx fs) → (∀ kvs, u ≠ .dK kvs) → (∀ xs, u ≠ .lst xs) → H' b = some u) : Tabs Tt H' := fun p hp => by
  obtain ⟨ps, h1, h2, h3⟩ := t p hp
  refine ⟨ps, k _ _ h1 (fun _ _ _ z => by cases z) (fun _ z => by cases z) (fun _ z => by cases z), h2, fun pos cv hc => ?_⟩
  obtain ⟨c, e1, e2⟩ := h3 pos cv hc
  exact ⟨c, e1, k _ _ e2 (fun _ _ _ => codeO_ins) (fun _ => codeO_dK) fun _ => codeO_lst⟩
theorem off_T {Tt : List (Addr × Str)} {C : Addr} {args : List V → Hp → Ut12.Call → Prop} {vs : List V} {H : Hp} {Q : VK} {E : XK} (h : spOffT Tt C args vs H Q E) : spOff C args vs H Q E := by
  obtain ⟨o, d, al, g, c, rest, rfl, S, hT, ha, q⟩ := h
  refine ⟨o, d, al, g, c, rest, rfl, S, ha, fun H' al' p S' hal k hp hp' => ?_⟩
  obtain ⟨⟨dx, ho⟩, ⟨kvs, hd, _⟩, _, _⟩ := id S
  refine q H' al' p S' (tabs_keep hT fun b u e n1 n2 _ => k b u e (fun z => ?_) fun z => ?_) hal (fun b u e _ n1 n2 => k b u e n1 n2) hp hp'
  · subst z
    rw [ho] at e
    exact n1 _ _ _ (Option.some.inj e).symm
  · subst z
    rw [hd] at e
    exact n2 _ (Option.some.inj e).symm
theorem OffAt.ext {C : Addr} {H H' : Hp} {o d al : Addr} {g : Ut12.House} (h : OffAt C H o d al g) (e : ExtN H H') : OffAt C H' o d al g := by
  obtain ⟨⟨dx, h1⟩, ⟨kvs, h2, h3⟩, h4, h5⟩ := id h
  refine h.keep (fun b u hb eu => e b u eu fun ps z => ?_) fun b xs eb => e b _ eb fun ps z => by cases z
  subst z
  rcases hb with rfl | rfl | rfl
  · rw [h1] at eu; cases eu
  · rw [h2] at eu; cases eu
  · rw [h4] at eu; cases eu
/-- what was free before the lambda was made -/
theorem ext_free {H H3 : Hp} (e : ExtN H H3) (t : ∀ b ps, H b = some (.tbl ps) → ∃ more, H3 b = some (.tbl (ps ++ more))) {b : Addr} (h : H3 b = none) : H b = none := by
  cases eb : H b with
  | none => rfl
  | some u =>
    cases u with
    | tbl ps =>
      obtain ⟨more, z⟩ := t b ps eb
      rw [z] at h
      cases h
    | _ =>
      rw [e b _ eb fun ps z => by cases z] at h
      cases h
/-- a def whose code object is known -/
theorem fun_okC {P : Program} {w : World} {K : PySem.W.Frag} {mg : Str → Option Value} {base : Heap} {x qual : Str} {st : Stmt} {f c : Addr} {fd : FuncData} {N ps : List Str} {k : Nat} {sp : Sp} (F : Fun K x qual st f fd) (hc : fd.code = .ref c) (S : FnScope N ps (defScope st))
    (len : ∀ vs H Q E, sp vs H Q E → vs.length = ps.length)
    (hbody : ∀ (A : Around) (outer : List Env) (s : Shared) (H : Hp) (vs : List V) (Q : VK) (E : XK), Room k (A.deeper (envOfC qual (defScope st) s.heap.objs.size f (.ref c))) → sp vs H Q E →
      ∃ t, PSs (cxOf CX0 P w K mg base N qual (defScope st) f (.ref c) A outer s H E).nox (defBody st) t ∧ t { nx := fun _ H' => Q .non H', rt := Q } (L2.start N vs) H) : FnOk P w K mg base CX0 (k + 1) f fd ps sp := by
  obtain ⟨oc, od, kV, doc, pm, an, cdv, ct, osl, rfl, lk, hcd⟩ := F.ex
  have e : cdv = .ref c := hc
  subst e
  refine fn_of lk hcd S len fun A outer s H vs Q E hr hsp => ?_
  obtain ⟨t, h, q⟩ := hbody A outer s H vs Q E hr hsp
  exact ⟨t, h.nox, q⟩
/-- the name of the lambda in a def -/
abbrev lamQ (q : Str) : Str := (q ++ ".<locals>.") ++ "<lambda>"
/-- first_pair, as it is called with a lambda -/
structure First (P : Program) (w : World) (K : PySem.W.Frag) (mg : Str → Option Value) (base : Heap) (CO gF : Addr) (fdF : FuncData) : Prop where
  m : Meth K CO "first_pair" gF
  f : Fun K "first_pair" "Office.first_pair" s_Office_first_pair gF fdF
  b : Binds K fdF ["self", "most_words", "is_sought"] []
  g : Gives P w K mg base 17 s_Office_first_pair "Office.first_pair" gF ["self", "most_words", "is_sought", "pair"] 2 3 "is_sought" "pair" (TFirst K CO)
/-- the def that makes a lambda: its code object, its table, the lambda's name in the tables -/
structure Maker (base : Heap) (mg : Str → Option Value) (Tt : List (Addr × Str)) (c Pt : Addr) (q : Str) : Prop where
  t : TabB base mg c Pt
  i : (Pt, lamQ q) ∈ Tt
  u : ∀ p ∈ Tt, p.1 = Pt → p.2 = lamQ q
def aAlone : List V → Hp → Ut12.Call → Prop := fun vs _ c => ∃ (k n : Nat), vs = [.int (k : Int), .int (n : Int)] ∧ c = .alone k n
def aApart : List V → Hp → Ut12.Call → Prop := fun vs _ c => ∃ (k j n : Nat), vs = [.int (k : Int), .int (j : Int), .int (n : Int)] ∧ c = .apart k j n
theorem dp_vi {K : PySem.W.Frag} {H : Hp} : ∀ l : List Nat, DpAll K H (vi l) (l.map fun (n : Nat) => PyData.int (n : Int))
  | [] => .nil
  | n :: l => .cons (.int _) (dp_vi l)
theorem lay_vi : ∀ l : List Nat, PyData.canLayAll0 (l.map fun (n : Nat) => PyData.int (n : Int)) = true
  | [] => rfl
  | n :: l => by
    show (PyData.canLay0 (.int (n : Int)) && PyData.canLayAll0 (l.map fun (n : Nat) => PyData.int (n : Int))) = true
    rw [lay_vi l]
    rfl
theorem depth_vi : ∀ l : List Nat, PyData.depthAll (l.map fun (n : Nat) => PyData.int (n : Int)) = 0
  | [] => rfl
  | n :: l => by
    show max (PyData.depth (.int (n : Int))) (PyData.depthAll (l.map fun (n : Nat) => PyData.int (n : Int))) = 0
    rw [depth_vi l]
    rfl
theorem shaped_vi (l : List Nat) : SeqAt.shaped (.list (l.map fun (n : Nat) => PyData.int (n : Int))) = true := by
  show (PyData.canLayAll0 _ && decide (PyData.depthAll _ + 1 ≤ 64)) = true
  rw [lay_vi, depth_vi]
  rfl
theorem eqv_vi : ∀ l m : List Nat, PyData.eqvAll (l.map fun (n : Nat) => PyData.int (n : Int)) (m.map fun (n : Nat) => PyData.int (n : Int)) = (l == m)
  | [], [] => rfl
  | [], _ :: _ => rfl
  | _ :: _, [] => rfl
  | x :: l, y :: m => by
    show (((x : Int) == (y : Int)) && PyData.eqvAll (l.map fun (n : Nat) => PyData.int (n : Int)) (m.map fun (n : Nat) => PyData.int (n : Int))) = ((x == y) && (l == m))
    rw [eqv_vi l m]
    have e : ((x : Int) == (y : Int)) = (x == y) := by
      by_cases h : x = y
      · subst h; rw [beq_self_eq_true, beq_self_eq_true]
      · have h2 : ¬ (x : Int) = (y : Int) := fun z => h (by omega)
        rw [beq_eq_false_iff_ne.mpr h, beq_eq_false_iff_ne.mpr h2]
    rw [e]
theorem op_eqK {X : Cx} {K : PySem.W.Frag} (e : X.K = K) (hu : X.A.units + 64 < cLine) : OpR X (compareOp .Eq) (rEqD K) := by
  subst e
  exact op_eqD hu
section
variable {P : Program} {w : World} {K : PySem.W.Frag} {mg : Str → Option Value} {base : Heap} {CR CO : Addr} {f gF c Pt : Addr} {fd fdF : FuncData} {Tt : List (Addr × Str)}
theorem ok_Office_fine (F : Fun K "fine" "Office.fine" s_Office_fine f fd) (hcd : fd.code = .ref c) (T : Txt K mg CR CO) (FF : First P w K mg base CO gF fdF) (M : Maker base mg Tt c Pt "Office.fine") (c_is_kept_by : Met P w K mg base 16 CO "is_kept_by" ["self", "pair"] (spKept K CO)) :
    FnOk P w K mg base CX0 19 f fd ["self", "most_words"] (spOffT Tt CO aFine) := by
  refine fun_okC F hcd sc_Office_fine (fun vs H Q E h => ?_) (fun A outer s H vs Q E hr h => ?_)
  · obtain ⟨o, d, al, g, c, rest, rfl, S, hT, ⟨n, rfl, _⟩, _⟩ := h
    rfl
  obtain ⟨o, d, al, g, c, rest, rfl, S, hT, ⟨n, rfl, rfl⟩, q⟩ := h
  refine ⟨_, (pss_one (ps_ret (pe_lamM (NL := ["pair", "self"]) (fr := ["self"]) (js := [0]) (kl := 16) (pv 0) T.cl_Office FF.m FF.f sc_Office_first_pair FF.b rfl (pv 1) FF.g rfl rfl (.inl rfl) (.inl rfl) M.t rfl M.i M.u hr rfl (nscope_by (by decide +kernel)) (by show ndefB (defScope s_Office_fine) _ _ = true; decide +kernel) rfl
    (fun _ _ _ _ _ us hl => match us, hl with | [_], _ => rfl) (by omega) (fun F A outer s H f hF hr2 => by cases F; cases hF; exact pe_mt c_is_kept_by hr2 (by omega) (pv 1) (pa_cons (pv 0) pa_nil))))), ?_⟩
  obtain ⟨⟨dx, ho⟩, ⟨kvs, hd, hk⟩, hle, G⟩ := id S
  refine ⟨_, rfl, o, dx, _, rfl, ho, ofF_no _ _ _ (by decide +kernel) (by decide +kernel) (by decide +kernel), _, rfl, hT, fun H3 eN T3 tb3 => ?_⟩
  have S3 := S.ext eN
  refine ⟨o, d, al, g, n, fun p => (Ut12.broken g.checks p).isEmpty, rfl, S3, fun H' v p Q' k hv hq => ?_, fun H' p k hp hp' => ?_⟩
  · obtain ⟨⟨dx', ho'⟩, _, _, _⟩ := id (S3.same k)
    refine ⟨_, rfl, o, dx', _, rfl, ho', ofF_no _ _ _ (by decide +kernel) (by decide +kernel) (by decide +kernel), _, rfl, tnil (?_ : spKept K CO [.ref o, v] _ _ _)⟩
    exact ⟨o, d, al, g, v, p, rfl, S3.same k, hv, hq _ (.refl _)⟩
  · exact q H' al p (S3.same k) (T3.ext k) (.inl rfl) (fun b u e nt _ _ => k _ _ (eN b u e nt)) (ext_free eN tb3 hp) hp'
theorem ok_Office_alone (F : Fun K "alone" "Office.alone" s_Office_alone f fd) (hcd : fd.code = .ref c) (T : Txt K mg CR CO) (FF : First P w K mg base CO gF fdF) (M : Maker base mg Tt c Pt "Office.alone") (c_broken_by : Met P w K mg base 16 CO "broken_by" ["self", "pair"] (spBroken K CO)) :
    FnOk P w K mg base CX0 19 f fd ["self", "number", "most_words"] (spOffT Tt CO aAlone) := by
  refine fun_okC F hcd sc_Office_alone (fun vs H Q E h => ?_) (fun A outer s H vs Q E hr h => ?_)
  · obtain ⟨o, d, al, g, c, rest, rfl, S, hT, ⟨k, n, rfl, _⟩, _⟩ := h
    rfl
  obtain ⟨o, d, al, g, c, rest, rfl, S, hT, ⟨k, n, rfl, rfl⟩, q⟩ := h
  have hu := hu_of hr
  refine ⟨_, (pss_cons (ps_if (pt_cmp (pc_dnotin hu (pv 1) (pe_fld (pv 0) rfl))) (pss_one (ps_ret (pe_lst (pa_cons (pe_gi T.g_NO_SUCH_CHECK) pa_nil)))) pss_nil)
    (pss_one (ps_ret (pe_lamM (NL := ["pair", "self", "number"]) (fr := ["self", "number"]) (js := [0, 1]) (kl := 16) (pv 0) T.cl_Office FF.m FF.f sc_Office_first_pair FF.b rfl (pv 2) FF.g rfl rfl (.inl rfl) (.inl rfl) M.t rfl M.i M.u hr rfl (nscope_by (by decide +kernel)) (by show ndefB (defScope s_Office_alone) _ _ = true; decide +kernel) rfl
    (fun _ _ _ _ _ us hl => match us, hl with | [_], _ => rfl) (by omega)
    (fun F A outer s H f hF hr2 => by cases F; cases hF; exact pe_cmpR (op_eqK (K := K) rfl hr2.units) (pe_mt c_broken_by hr2 (by omega) (pv 1) (pa_cons (pv 0) pa_nil)) (pe_lst (pa_cons (pv 2) pa_nil)) (nomark _)))))), ?_⟩
  obtain ⟨⟨dx, ho⟩, ⟨kvs, hd, hk⟩, hle, G⟩ := id S
  refine ⟨_, rfl, _, rfl, o, CO, dx, _, _, rfl, ho, T.cl_Office, T.n_Office_kept, ofF_kept _ _ _, d, _, rfl, DGet.k (k := Sum.inl (k : Int)) hd, _, rfl, ?_⟩
  rcases hk.find k with ⟨c, v, e1, e2, _⟩ | ⟨e1, e2⟩
  · rw [e2]
    refine if_f rfl ?_
    have es : Ut12.step g (.alone k n) = (g, sought g n fun p => Ut12.broken g.checks p == [k]) := by
      show (g, if (Ut12.checkOf g k).isNone = true then _ else _) = _
      have e : Ut12.checkOf g k = some c := e1
      rw [e]
      rfl
    rw [es] at q
    refine ⟨_, rfl, o, dx, _, rfl, ho, ofF_no _ _ _ (by decide +kernel) (by decide +kernel) (by decide +kernel), _, rfl, hT, fun H3 eN T3 tb3 => ?_⟩
    have S3 := S.ext eN
    refine ⟨o, d, al, g, n, fun p => Ut12.broken g.checks p == [k], rfl, S3, fun H' v p Q' k' hv hq => ?_, fun H' p k' hp hp' => ?_⟩
    · obtain ⟨⟨dx', ho'⟩, _, _, _⟩ := id (S3.same k')
      refine ⟨_, rfl, o, dx', _, rfl, ho', ofF_no _ _ _ (by decide +kernel) (by decide +kernel) (by decide +kernel), _, rfl, tnil (?_ : spBroken K CO [.ref o, v] _ _ _)⟩
      refine ⟨o, d, al, g, v, p, rfl, S3.same k', hv, fun H5 b k5 hb hb5 => ?_⟩
      refine ⟨_, rfl, (by show 1 ≤ sizeLine; decide), fun y hy => ?_⟩
      have s6 := same_new hy (.lst (vi [k]))
      refine ⟨_, _, .lst (SqL.of (s6 _ _ hb5)) (dp_vi _), .lst (SqL.of upd_same) (dp_vi [k]), shaped_vi _, shaped_vi [k], ?_⟩
      have e3 : PyData.eqv (.list ((Ut12.broken g.checks p).map fun (n : Nat) => PyData.int (n : Int))) (.list (([k] : List Nat).map fun (n : Nat) => PyData.int (n : Int))) = (Ut12.broken g.checks p == [k]) := eqv_vi _ _
      rw [e3]
      exact hq _ (k5.trans s6)
    · exact q H' al p (S3.same k') (T3.ext k') (.inl rfl) (fun b u e nt _ _ => k' _ _ (eN b u e nt)) (ext_free eN tb3 hp) hp'
  · rw [e2]
    refine if_t rfl ?_
    refine ⟨(by show 1 ≤ sizeLine; decide), fun p hp => ?_⟩
    have es : Ut12.step g (.alone k n) = (g, [-2]) := by
      show (g, if (Ut12.checkOf g k).isNone = true then _ else _) = _
      have e : Ut12.checkOf g k = none := e1
      rw [e]
      rfl
    rw [es] at q
    have s1 := same_new hp (.lst [.int (-2)])
    exact q _ al p (S.same s1) (hT.ext s1) (.inl rfl) (fun b u e _ _ _ => s1 _ _ e) hp upd_same
theorem ok_Office_apart (F : Fun K "apart" "Office.apart" s_Office_apart f fd) (hcd : fd.code = .ref c) (T : Txt K mg CR CO) (FF : First P w K mg base CO gF fdF) (M : Maker base mg Tt c Pt "Office.apart") (c_breaks : Cal P w K mg base 15 "breaks" ["pair", "check"] (spBreaks K)) :
    FnOk P w K mg base CX0 19 f fd ["self", "number", "other", "most_words"] (spOffT Tt CO aApart) := by
  refine fun_okC F hcd sc_Office_apart (fun vs H Q E h => ?_) (fun A outer s H vs Q E hr h => ?_)
  · obtain ⟨o, d, al, g, c, rest, rfl, S, hT, ⟨k, j, n, rfl, _⟩, _⟩ := h
    rfl
  obtain ⟨o, d, al, g, c, rest, rfl, S, hT, ⟨k, j, n, rfl, rfl⟩, q⟩ := h
  have hu := hu_of hr
  refine ⟨_, (pss_cons (ps_if (PW.pt (pw_or (pt_cmp (pc_dnotin hu (pv 1) (pe_fld (pv 0) rfl))) (pw_or1 (pt_cmp (pc_dnotin hu (pv 2) (pe_fld (pv 0) rfl)))))) (pss_one (ps_ret (pe_lst (pa_cons (pe_gi T.g_NO_SUCH_CHECK) pa_nil)))) pss_nil)
    (pss_cons (ps_set (i := 4) sc_Office_apart.nd rfl (Or.inr rfl) (pe_dget hu (pe_fld (pv 0) rfl) (pv 1) (fun _ _ => rfl)))
    (pss_cons (ps_set (i := 5) sc_Office_apart.nd rfl (Or.inr rfl) (pe_dget hu (pe_fld (pv 0) rfl) (pv 2) (fun _ _ => rfl)))
    (pss_one (ps_ret (pe_lamM (NL := ["pair", "one", "two"]) (fr := ["one", "two"]) (js := [4, 5]) (kl := 16) (pv 0) T.cl_Office FF.m FF.f sc_Office_first_pair FF.b rfl (pv 3) FF.g rfl rfl (.inl rfl) (.inl rfl) M.t rfl M.i M.u hr rfl (nscope_by (by decide +kernel)) (by show ndefB (defScope s_Office_apart) _ _ = true; decide +kernel) rfl
    (fun _ _ _ _ _ us hl => match us, hl with | [_], _ => rfl) (by omega)
    (fun F A outer s H f hF hr2 => by cases F; cases hF; exact pe_cmpR op_ne (pe_c c_breaks hr2 (by omega) rfl (pa_cons (pv 0) (pa_cons (pv 1) pa_nil))) (pe_c c_breaks hr2 (by omega) rfl (pa_cons (pv 0) (pa_cons (pv 2) pa_nil))) (nomark _)))))))), ?_⟩
  obtain ⟨⟨dx, ho⟩, ⟨kvs, hd, hk⟩, hle, G⟩ := id S
  have no : (Ut12.checkOf g k = none ∨ Ut12.checkOf g j = none) → ∀ p, H p = none → Q (.ref p) (upd H p (.lst [.int (-2)])) := fun h p hp => by
    have es : Ut12.step g (.apart k j n) = (g, [-2]) := by
      show (g, match Ut12.checkOf g k, Ut12.checkOf g j with | some c, some d => _ | _, _ => _) = _
      rcases h with h | h
      · rw [h]
      · rw [h]
        cases Ut12.checkOf g k <;> rfl
    rw [es] at q
    have s1 := same_new hp (.lst [.int (-2)])
    exact q _ al p (S.same s1) (hT.ext s1) (.inl rfl) (fun b u e _ _ _ => s1 _ _ e) hp upd_same
  refine ⟨_, rfl, _, rfl, o, CO, dx, _, _, rfl, ho, T.cl_Office, T.n_Office_kept, ofF_kept _ _ _, d, _, rfl, DGet.k (k := Sum.inl (k : Int)) hd, _, rfl, ?_⟩
  rcases hk.find k with ⟨c1, v1, e1, e2, ch1⟩ | ⟨e1, e2⟩
  · rw [e2]
    refine if_f rfl ?_
    refine ⟨_, rfl, _, rfl, o, CO, dx, _, _, rfl, ho, T.cl_Office, T.n_Office_kept, ofF_kept _ _ _, d, _, rfl, DGet.k (k := Sum.inl (j : Int)) hd, _, rfl, ?_⟩
    rcases hk.find j with ⟨c2, v2, e3, e4, ch2⟩ | ⟨e3, e4⟩
    · rw [e4]
      refine if_f rfl ?_
      have es : Ut12.step g (.apart k j n) = (g, sought g n fun p => Ut12.breaks c1 p != Ut12.breaks c2 p) := by
        show (g, match Ut12.checkOf g k, Ut12.checkOf g j with | some c, some d => _ | _, _ => _) = _
        have e : Ut12.checkOf g k = some c1 := e1
        have e' : Ut12.checkOf g j = some c2 := e3
        rw [e, e']
        rfl
      rw [es] at q
      refine ⟨_, rfl, o, CO, dx, _, _, rfl, ho, T.cl_Office, T.n_Office_kept, ofF_kept _ _ _, _, rfl, d, v1, rfl, (by have z := DGet.k (k := Sum.inl (k : Int)) hd; rw [e2] at z; exact z), ?_⟩
      refine ⟨_, rfl, o, CO, dx, _, _, rfl, ho, T.cl_Office, T.n_Office_kept, ofF_kept _ _ _, _, rfl, d, v2, rfl, (by have z := DGet.k (k := Sum.inl (j : Int)) hd; rw [e4] at z; exact z), ?_⟩
      refine ⟨_, rfl, o, dx, _, rfl, ho, ofF_no _ _ _ (by decide +kernel) (by decide +kernel) (by decide +kernel), _, rfl, hT, fun H3 eN T3 tb3 => ?_⟩
      have S3 := S.ext eN
      have tk3 : TK H H3 := fun b xs e => eN b _ e fun ps z => by cases z
      obtain ⟨g1, g2, g3, g4⟩ := G.ok c1 (List.mem_of_find?_eq_some e1)
      obtain ⟨f1, f2, f3, f4⟩ := G.ok c2 (List.mem_of_find?_eq_some e3)
      refine ⟨o, d, al, g, n, fun p => Ut12.breaks c1 p != Ut12.breaks c2 p, rfl, S3, fun H' v p Q' k' hv hq => ?_, fun H' p k' hp hp' => ?_⟩
      · have tk' := TK.trans tk3 (.same k')
        refine ⟨_, rfl, _, rfl, v1, v, c1, p, rfl, ch1.mono tk', g1, g2, g3, g4, hv, ?_⟩
        refine ⟨_, rfl, _, rfl, v2, v, c2, p, rfl, ch2.mono tk', f1, f2, f3, f4, hv, ?_⟩
        refine ⟨rfl, ?_⟩
        have e5 : (!decide (V.bl (Ut12.breaks c1 p) = V.bl (Ut12.breaks c2 p))) = (Ut12.breaks c1 p != Ut12.breaks c2 p) := by
          cases Ut12.breaks c1 p <;> cases Ut12.breaks c2 p <;> rfl
        rw [e5]
        exact hq _ (.refl _)
      · exact q H' al p (S3.same k') (T3.ext k') (.inl rfl) (fun b u e nt _ _ => k' _ _ (eN b u e nt)) (ext_free eN tb3 hp) hp'
    · rw [e4]
      exact if_t rfl ⟨(by show 1 ≤ sizeLine; decide), fun p hp => no (.inr e3) p hp⟩
  · rw [e2]
    exact if_t rfl (if_t rfl ⟨(by show 1 ≤ sizeLine; decide), fun p hp => no (.inl e1) p hp⟩)
end
end Pc

namespace Pc
open PySem PySem.Spec PyProof.Rows L2 LamX
/-- tuples of numbers -/
inductive Tups (H : Hp) : List Addr → List (List Nat) → Prop
  | nil : Tups H [] []
  | cons {r : Addr} {rs : List Addr} {s : List Nat} {ss : List (List Nat)} : H r = some (.tup (vi s)) → Tups H rs ss → Tups H (r :: rs) (s :: ss)
theorem Tups.mono {H H' : Hp} (k : TK H H') {rs : List Addr} {ss : List (List Nat)} (h : Tups H rs ss) : Tups H' rs ss := by
  induction h with
  | nil => exact .nil
  | cons e _ ih => exact .cons (k _ _ e) ih
theorem Tups.len {H : Hp} {rs : List Addr} {ss : List (List Nat)} (h : Tups H rs ss) : rs.length = ss.length := by
  induction h with
  | nil => rfl
  | cons _ _ ih => rw [List.length_cons, List.length_cons, ih]
theorem Tups.get {H : Hp} {rs : List Addr} {ss : List (List Nat)} (h : Tups H rs ss) : ∀ {i : Nat} {r : Addr}, rs[i]? = some r → ∃ s, ss[i]? = some s ∧ H r = some (.tup (vi s)) := by
  induction h with
  | nil => intro i r e; simp at e
  | cons e0 _ ih =>
    intro i r e
    cases i with
    | zero => cases e; exact ⟨_, rfl, e0⟩
    | succ i => exact ih e
def hasOne (c x : List Nat) : Bool := c.any fun k => x.contains k
def spShare (K : PySem.W.Frag) : Sp := fun vs H Q _ => ∃ (a b : Addr) (c x : List Nat), vs = [.ref a, .ref b] ∧ H a = some (.lst (vi c)) ∧ H b = some (.tup (vi x)) ∧ Q (.bl (hasOne c x)) H
def spInEach (K : PySem.W.Frag) : Sp := fun vs H Q _ => ∃ (a b : Addr) (c : List Nat) (rs : List Addr) (ks : List (List Nat)), vs = [.ref a, .ref b] ∧ H a = some (.lst (vi c)) ∧ H b = some (.lst (rs.map V.ref)) ∧ Tups H rs ks ∧ Q (.bl (inEach ks c)) H
def spNLonger (K : PySem.W.Frag) : Sp := fun vs H Q _ => ∃ (b a : Addr) (ss : List (List Nat)) (l : List Nat), vs = [.ref b, .ref a] ∧ LLAt H b ss ∧ SqL K H a (vi l) ∧ (∀ s ∈ ss, s.length ≤ 1000) ∧ (longerN ss l).length ≤ 100000 ∧
  ∀ (H' : Hp) (p : Addr), Same H H' → H p = none → LLAt H' p (longerN ss l) → Q (.ref p) H'
def spFewest (K : PySem.W.Frag) : Sp := fun vs H Q _ => ∃ (b a : Addr) (rs : List Addr) (ks : List (List Nat)) (l : List Nat), vs = [.ref b, .ref a] ∧ H b = some (.lst (rs.map V.ref)) ∧ Tups H rs ks ∧ SqL K H a (vi l) ∧ l.Pairwise (· < ·) ∧ l.length ≤ 8 ∧
  (∀ H' : Hp, Same H H' → fewest ks l = none → Q .non H') ∧ ∀ (H' : Hp) (p : Addr) (c : List Nat), Same H H' → fewest ks l = some c → H' p = some (.lst (vi c)) → Q (.ref p) H'
theorem flat_vi : ∀ l : List Nat, (vi l).all flatV = true
  | [] => rfl
  | n :: l => by
    show (true && (vi l).all flatV) = true
    rw [flat_vi l]
    rfl
theorem in_vi (n : Nat) : ∀ l : List Nat, inV (.int (n : Int)) (vi l) = l.contains n
  | [] => rfl
  | m :: l => by
    show (((m : Int) == (n : Int)) || inV (.int (n : Int)) (vi l)) = ((n == m) || l.contains n)
    rw [in_vi n l]
    by_cases h : n = m
    · subst h
      rw [beq_self_eq_true, beq_self_eq_true]
    · have h2 : ¬ (m : Int) = (n : Int) := fun z => h (by omega)
      rw [beq_eq_false_iff_ne.mpr h, beq_eq_false_iff_ne.mpr h2]
section
variable {P : Program} {w : World} {K : PySem.W.Frag} {mg : Str → Option Value} {base : Heap} {CR CO : Addr} {f : Addr} {fd : FuncData}
theorem ok_share_one (F : Fun K "share_one" "share_one" s_share_one f fd) (T : Txt K mg CR CO) : FnOk P w K mg base CX0 1 f fd ["numbers", "others"] (spShare K) := by
  refine F.ok sc_share_one (fun vs H Q E h => ?_) (fun cdv A outer s H vs Q E hr h => ?_)
  · obtain ⟨a, b, c, x, rfl, _⟩ := h
    rfl
  obtain ⟨a, b, c, x, rfl, ha, hb, q⟩ := h
  refine ⟨_, (pss_cons (ps_for PassesOwn.never rfl (pi_list (pv 0)) (pg_name (i := 2) sc_share_one.nd rfl (Or.inl rfl)) (pss_one (ps_if (pt_cmpR op_in_seq (pv 2) (pv 1) rfl) (pss_one (ps_ret pe_bl)) pss_nil)))
      (pss_one (ps_ret pe_bl))), ?_⟩
  refine ⟨_, rfl, a, rfl, ⟨_, SqL.of ha⟩, for_list (K := K) (a := a) (xs := vi c) (fun i σ H' => ∃ v : Option V, σ = [some (.ref a), some (.ref b), v] ∧ H' = H ∧ hasOne (c.take i) x = false)
    ⟨none, rfl, rfl, rfl⟩ (fun i σ H' _ ⟨_, _, e, _⟩ => by rw [e]; exact SqL.of ha) ?_ ?_⟩
  · rintro i z σ H' hi ⟨v, rfl, rfl, hs⟩
    obtain ⟨z, hz, rfl⟩ := vi_inv hi
    refine ⟨_, rfl, _, rfl, b, vi x, rfl, .inr (SqT.of hb), rfl, flat_vi x, _, rfl, ?_⟩
    show if inV (.int (z : Int)) (vi x) = true then _ else _
    rw [in_vi]
    cases e : x.contains z with
    | true =>
      refine if_t rfl ?_
      have e2 : hasOne c x = true := List.any_eq_true.mpr ⟨z, List.mem_of_getElem? hz, e⟩
      rw [e2] at q
      exact q
    | false =>
      refine if_f rfl ⟨_, rfl, rfl, ?_⟩
      rw [take_more hz]
      unfold hasOne at hs ⊢
      rw [List.any_append, hs]
      show (false || (x.contains z || false)) = false
      rw [e]
      rfl
  · rintro σ H' ⟨v, rfl, rfl, hs⟩
    rw [vi_len, List.take_length] at hs
    rw [hs] at q
    exact q
theorem ok_is_in_each (F : Fun K "is_in_each" "is_in_each" s_is_in_each f fd) (T : Txt K mg CR CO) (c_share_one : Cal P w K mg base 1 "share_one" ["numbers", "others"] (spShare K)) : FnOk P w K mg base CX0 2 f fd ["choice", "rows"] (spInEach K) := by
  refine F.ok sc_is_in_each (fun vs H Q E h => ?_) (fun cdv A outer s H vs Q E hr h => ?_)
  · obtain ⟨a, b, c, rs, ks, rfl, _⟩ := h
    rfl
  obtain ⟨a, b, c, rs, ks, rfl, ha, hb, ht, q⟩ := h
  refine ⟨_, (pss_cons (ps_for PassesOwn.never rfl (pi_list (pv 1)) (pg_name (i := 2) sc_is_in_each.nd rfl (Or.inl rfl)) (pss_one (ps_if (pt_not (pt_val (pe_c c_share_one hr (by omega) rfl (pa_cons (pv 0) (pa_cons (pv 2) pa_nil))))) (pss_one (ps_ret pe_bl)) pss_nil)))
      (pss_one (ps_ret pe_bl))), ?_⟩
  refine ⟨_, rfl, b, rfl, ⟨_, SqL.of hb⟩, for_list (K := K) (a := b) (xs := rs.map V.ref) (fun i σ H' => ∃ v : Option V, σ = [some (.ref a), some (.ref b), v] ∧ H' = H ∧ inEach (ks.take i) c = true)
    ⟨none, rfl, rfl, rfl⟩ (fun i σ H' _ ⟨_, _, e, _⟩ => by rw [e]; exact SqL.of hb) ?_ ?_⟩
  · rintro i z σ H' hi ⟨v, rfl, rfl, hs⟩
    obtain ⟨r, er, rfl⟩ := ref_get hi
    obtain ⟨x, hx, hrx⟩ := ht.get er
    refine ⟨_, rfl, _, rfl, a, r, c, x, rfl, ha, hrx, _, rfl, ?_⟩
    cases e : hasOne c x with
    | false =>
      refine if_t rfl ?_
      have e2 : inEach ks c = false := List.all_eq_false.mpr ⟨x, List.mem_of_getElem? hx, by
        have e : (c.any fun k => x.contains k) = false := e
        rw [e]
        decide⟩
      rw [e2] at q
      exact q
    | true =>
      refine if_f rfl ⟨_, rfl, rfl, ?_⟩
      rw [take_more hx]
      unfold inEach at hs ⊢
      rw [List.all_append, hs]
      show (true && (hasOne c x && true)) = true
      rw [e]
      rfl
  · rintro σ H' ⟨v, rfl, rfl, hs⟩
    rw [List.length_map, ht.len, List.take_length] at hs
    rw [hs] at q
    exact q
theorem ok_one_number_longer (F : Fun K "one_number_longer" "one_number_longer" s_one_number_longer f fd) (T : Txt K mg CR CO) : FnOk P w K mg base CX0 1 f fd ["choices", "numbers"] (spNLonger K) := by
  refine F.ok sc_one_number_longer (fun vs H Q E h => ?_) (fun cdv A outer s H vs Q E hr h => ?_)
  · obtain ⟨b, a, ss, l, rfl, _⟩ := h
    rfl
  obtain ⟨b, a, ss, l, rfl, ⟨rs, hb, hls⟩, hl, hs, hlen, q⟩ := h
  refine ⟨_, (pss_cons (ps_set (i := 2) sc_one_number_longer.nd rfl (Or.inl rfl) (pe_lst pa_nil))
      (pss_cons (ps_for PassesOwn.never rfl (pi_list (pv 0)) (pg_name (i := 3) sc_one_number_longer.nd rfl (Or.inl rfl)) (pss_one (ps_for PassesOwn.never rfl (pi_list (pv 1)) (pg_name (i := 4) sc_one_number_longer.nd rfl (Or.inl rfl)) (pss_one (ps_if (PW.pt (pw_or (pt_cmpR op_eq (pe_callB call_len_seq (by rfl) T.b_len PySem.boot_len (pa_cons (pv 3) pa_nil)) pe_int (nomark _)) (pw_or1 (pt_cmpR op_gt (pv 4) (pe_ix ix_list (pv 3) (pe_un un_neg pe_int) (fun _ _ => rfl)) (nomark _))))) (pss_one (ps_expr (pe_bm PySem.F.plainAttrs_list PySem.F.slot_list_append PySem.F.type_list_append mt_append (pv 2) (pa_cons (pe_op op_cat (pv 3) (pe_lst (pa_cons (pv 4) pa_nil))) pa_nil)))) pss_nil)))))
      (pss_one (ps_ret (pv 2))))), ?_⟩
  refine ⟨(by show 0 ≤ sizeLine; decide), fun p hp => ?_⟩
  have s1 := same_new hp (.lst [])
  have pa : ∀ c o, H c = some o → c ≠ p := fun c o h => ne_of_none h hp
  have lenr : rs.length = ss.length := hls.len
  refine ⟨_, rfl, b, rfl, ⟨_, SqL.of (s1 _ _ hb)⟩, for_list (K := K) (a := b) (xs := rs.map V.ref) (fun i σ H' => ∃ (v v2 : Option V) (qs : List Addr), σ = [some (.ref b), some (.ref a), some (.ref p), v, v2] ∧ Same H H' ∧ H' p = some (.lst (qs.map V.ref)) ∧ p ∉ qs ∧ Lists H' qs (longerN (ss.take i) l))
    ⟨none, none, [], rfl, s1, upd_same, by simp, .nil⟩ (fun i σ H' _ ⟨_, _, _, _, e, _⟩ => SqL.of (e _ _ hb)) ?_ ?_⟩
  · rintro i z σ H1 hi ⟨v, v2, qs, rfl, k1, hp1, np1, ls1⟩
    obtain ⟨r, er, rfl⟩ := ref_get hi
    obtain ⟨x, hx, hr0⟩ := hls.get er
    have e1 : longerN (ss.take (i + 1)) l = longerN (ss.take i) l ++ ext1 l x := by
      unfold longerN
      rw [take_more hx, List.flatMap_append]
      simp
    have bnd : (longerN (ss.take i) l).length + (ext1 l x).length ≤ 100000 := by
      have e3 : (longerN (ss.take (i + 1)) l).length ≤ (longerN ss l).length := by
        unfold longerN
        conv => rhs; rw [← List.take_append_drop (i + 1) ss, List.flatMap_append, List.length_append]
        omega
      rw [e1, List.length_append] at e3
      omega
    refine ⟨_, rfl, a, rfl, ⟨_, k1.seq hl⟩, for_list (K := K) (a := a) (xs := vi l) (fun j σ H' => ∃ (v2 : Option V) (qs : List Addr), σ = [some (.ref b), some (.ref a), some (.ref p), some (.ref r), v2] ∧ Same H H' ∧ H' p = some (.lst (qs.map V.ref)) ∧ p ∉ qs ∧ Lists H' qs (longerN (ss.take i) l ++ ext1 (l.take j) x))
      ⟨v2, qs, rfl, k1, hp1, np1, by simpa [ext1] using ls1⟩ (fun i σ H' _ ⟨_, _, _, e, _⟩ => e.seq hl) ?_ ?_⟩
    · rintro j z σ H2 hj ⟨v2, qs, rfl, k2, hp2, np2, ls2⟩
      obtain ⟨z, hz, rfl⟩ := vi_inv hj
      have e4 : ext1 (l.take (j + 1)) x = ext1 (l.take j) x ++ if above x z = true then [x ++ [z]] else [] := by
        unfold ext1
        rw [take_more hz, List.filter_append, List.map_append, List.filter_cons]
        split <;> rfl
      have b4 : (ext1 (l.take (j + 1)) x).length ≤ (ext1 l x).length := by
        unfold ext1
        rw [List.length_map, List.length_map]
        exact (List.Sublist.filter _ (List.take_sublist _ _)).length_le
      have hr2 : H2 r = some (.lst (vi x)) := k2 _ _ hr0
      refine ⟨_, rfl, r, _, rfl, .inl (SqL.of hr2), rfl, _, rfl, ?_⟩
      cases ex : x.getLast? with
      | none =>
        have e6 : x = [] := List.getLast?_eq_none_iff.mp ex
        have hab : above x z = true := by unfold above; rw [ex]
        refine if_t (by rw [e6]; rfl) (if_t rfl ?_)
        refine ⟨_, rfl, .inl ⟨rfl, _, SqL.of hp2⟩, ?_⟩
        refine ⟨_, rfl, _, rfl, (by show 1 ≤ sizeLine; decide), fun t ht => ?_⟩
        have s3 := same_new ht (.lst [.int (z : Int)])
        refine ⟨r, t, _, _, rfl, rfl, s3 _ _ hr2, upd_same, ?_, fun u hu => ?_⟩
        · show (vi x).length + 1 ≤ sizeLine
          rw [vi_len]
          have := hs x (List.mem_of_getElem? hx)
          exact Nat.le_of_lt (line5 (by omega))
        have s4 := s3.trans (same_new hu (.lst (vi x ++ [.int (z : Int)])))
        have hpu : p ≠ u := ne_of_none (s3 _ _ hp2) hu
        rw [hab, if_pos rfl] at e4
        refine ⟨p, _, _, rfl, rfl, s4 _ _ hp2, ?_, ?_⟩
        · rw [e4, List.length_append] at b4
          rw [List.length_map, ls2.len, List.length_append]
          have b5 : (ext1 (l.take j) x).length + 1 ≤ (ext1 l x).length := b4
          exact line5 (by omega)
        · refine ⟨_, qs ++ [u], rfl, ?_, ?_, ?_, ?_⟩
          · intro c o h
            rw [upd_ne (pa c o h)]
            exact s4 _ _ (k2 _ _ h)
          · rw [upd_same, List.map_append]
            rfl
          · intro h
            rcases List.mem_append.mp h with h | h
            · exact np2 h
            · exact hpu (List.mem_singleton.mp h)
          · rw [e4, ← List.append_assoc]
            refine Lists.app (ls2.keep fun r hr o ho => ?_) (.cons ?_ .nil)
            · rw [upd_ne (ne_mem np2 hr)]
              exact s4 _ _ ho
            · rw [upd_ne hpu.symm, upd_same, vi_app]
              rfl
      | some y =>
        have e3 : atI (vi x) (-1) = some (V.int (y : Int)) := by
          obtain ⟨ys, e5⟩ := List.getLast?_eq_some_iff.mp ex
          rw [e5, vi_app]
          exact atI_last _ _
        have e6 : x ≠ [] := fun z => by rw [z] at ex; cases ex
        have e7 : ¬ x.length = 0 := fun z => e6 (List.length_eq_zero_iff.mp z)
        have ea : above x z = decide (y < z) := by
          unfold above
          rw [ex]
        refine if_f (by rw [vi_len]; exact decide_eq_false fun z => by injection z with z; omega) ⟨_, rfl, _, rfl, _, rfl, r, _, _, V.int (y : Int), rfl, rfl, SqL.of hr2, e3, _, _, rfl, rfl, _, rfl, ?_⟩
        by_cases hyz : y < z
        · have hab : above x z = true := by rw [ea]; exact decide_eq_true hyz
          refine if_t (decide_eq_true (by omega)) ?_
          refine ⟨_, rfl, .inl ⟨rfl, _, SqL.of hp2⟩, ?_⟩
          refine ⟨_, rfl, _, rfl, (by show 1 ≤ sizeLine; decide), fun t ht => ?_⟩
          have s3 := same_new ht (.lst [.int (z : Int)])
          refine ⟨r, t, _, _, rfl, rfl, s3 _ _ hr2, upd_same, ?_, fun u hu => ?_⟩
          · show (vi x).length + 1 ≤ sizeLine
            rw [vi_len]
            have := hs x (List.mem_of_getElem? hx)
            exact Nat.le_of_lt (line5 (by omega))
          have s4 := s3.trans (same_new hu (.lst (vi x ++ [.int (z : Int)])))
          have hpu : p ≠ u := ne_of_none (s3 _ _ hp2) hu
          rw [hab, if_pos rfl] at e4
          refine ⟨p, _, _, rfl, rfl, s4 _ _ hp2, ?_, ?_⟩
          · rw [e4, List.length_append] at b4
            rw [List.length_map, ls2.len, List.length_append]
            have b5 : (ext1 (l.take j) x).length + 1 ≤ (ext1 l x).length := b4
            exact line5 (by omega)
          · refine ⟨_, qs ++ [u], rfl, ?_, ?_, ?_, ?_⟩
            · intro c o h
              rw [upd_ne (pa c o h)]
              exact s4 _ _ (k2 _ _ h)
            · rw [upd_same, List.map_append]
              rfl
            · intro h
              rcases List.mem_append.mp h with h | h
              · exact np2 h
              · exact hpu (List.mem_singleton.mp h)
            · rw [e4, ← List.append_assoc]
              refine Lists.app (ls2.keep fun r hr o ho => ?_) (.cons ?_ .nil)
              · rw [upd_ne (ne_mem np2 hr)]
                exact s4 _ _ ho
              · rw [upd_ne hpu.symm, upd_same, vi_app]
                rfl
        · have hab : above x z = false := by rw [ea]; exact decide_eq_false hyz
          refine if_f (decide_eq_false (by omega)) ?_
          refine ⟨_, qs, rfl, k2, hp2, np2, ?_⟩
          rw [e4, hab]
          simpa using ls2
    · rintro σ H2 ⟨v2, qs, rfl, k2, hp2, np2, ls2⟩
      rw [vi_len, List.take_length] at ls2
      exact ⟨_, v2, qs, rfl, k2, hp2, np2, by rw [e1]; exact ls2⟩
  · rintro σ H1 ⟨v, v2, qs, rfl, k1, hp1, np1, ls1⟩
    rw [List.length_map, lenr, List.take_length] at ls1
    exact ⟨_, rfl, q _ p k1 hp ⟨qs, hp1, ls1⟩⟩
theorem ok_fewest_in_each (F : Fun K "fewest_in_each" "fewest_in_each" s_fewest_in_each f fd) (T : Txt K mg CR CO) (c_is_in_each : Cal P w K mg base 2 "is_in_each" ["choice", "rows"] (spInEach K))
    (c_one_number_longer : Cal P w K mg base 1 "one_number_longer" ["choices", "numbers"] (spNLonger K)) : FnOk P w K mg base CX0 3 f fd ["rows", "numbers"] (spFewest K) := by
  refine F.ok sc_fewest_in_each (fun vs H Q E h => ?_) (fun cdv A outer s H vs Q E hr h => ?_)
  · obtain ⟨b, a, rs, ks, l, rfl, _⟩ := h
    rfl
  obtain ⟨b, a, rs, ks, l, rfl, hb, ht, hl, hup, h8, q1, q2⟩ := h
  refine ⟨_, (pss_cons (ps_set (i := 2) sc_fewest_in_each.nd rfl (Or.inl rfl) (pe_lst (pa_cons (pe_lst pa_nil) pa_nil)))
      (pss_cons (ps_while PassesOwn.never (pt_cmpR op_gt (pe_callB call_len_seq (by rfl) T.b_len PySem.boot_len (pa_cons (pv 2) pa_nil)) pe_int (nomark _)) (pss_cons (ps_for PassesOwn.never rfl (pi_list (pv 2)) (pg_name (i := 3) sc_fewest_in_each.nd rfl (Or.inl rfl)) (pss_one (ps_if (pt_val (pe_c c_is_in_each hr (by omega) rfl (pa_cons (pv 3) (pa_cons (pv 0) pa_nil)))) (pss_one (ps_ret (pv 3))) pss_nil)))
      (pss_one (ps_set (i := 2) sc_fewest_in_each.nd rfl (Or.inl rfl) (pe_c c_one_number_longer hr (by omega) rfl (pa_cons (pv 2) (pa_cons (pv 1) pa_nil)))))))
      (pss_one (ps_ret pe_non)))), ?_⟩
  refine ⟨(by show 0 ≤ sizeLine; decide), fun e0 he0 => ⟨(by show 1 ≤ sizeLine; decide), fun p hp => ?_⟩⟩
  have s0 := same_new he0 (.lst [])
  have s1 := s0.trans (same_new hp (.lst [.ref e0]))
  refine ⟨fun m σ H' => ∃ (k : Nat) (ch : Addr) (v : Option V), m + k = l.length + 2 ∧ σ = [some (.ref b), some (.ref a), some (.ref ch), v] ∧ Same H H' ∧ LLAt H' ch (Ut12.choices k l) ∧ ∀ j < k, ∀ c ∈ Ut12.choices j l, inEach ks c = false,
    ⟨l.length + 2, 0, p, none, rfl, rfl, s1, ⟨[e0], upd_same, by rw [choices_zero]; exact .cons (same_new hp _ _ _ upd_same) .nil⟩, fun j hj => by omega⟩, ?_⟩
  rintro m σ H1 ⟨k, ch, v, hm, rfl, k1, ⟨qs, hqs, lls⟩, no⟩
  refine ⟨_, rfl, ch, _, rfl, .inl (SqL.of hqs), _, _, rfl, rfl, _, rfl, ?_⟩
  rw [List.length_map, lls.len]
  by_cases hk : Ut12.choices k l = []
  · rw [hk]
    refine if_f rfl ?_
    exact q1 H1 k1 (fewest_none no hk)
  · have hk2 : k ≤ l.length := by
      rcases Nat.lt_or_ge l.length k with z | z
      · exact absurd (choices_none l k z) hk
      · exact z
    have hpos := List.length_pos_iff.mpr hk
    refine if_t (decide_eq_true (by omega)) ?_
    refine ⟨fun σ' H' => ∃ (ch : Addr) (v : Option V), σ' = [some (.ref b), some (.ref a), some (.ref ch), v] ∧ Same H H' ∧ LLAt H' ch (Ut12.choices (k + 1) l) ∧ ∀ j < k + 1, ∀ c ∈ Ut12.choices j l, inEach ks c = false, fun σ' H' ⟨ch, v, h1, h2, h3, h4⟩ => ⟨m - 1, by omega, k + 1, ch, v, by omega, h1, h2, h3, h4⟩, ?_⟩
    refine ⟨_, rfl, ch, rfl, ⟨_, SqL.of hqs⟩, for_list (K := K) (a := ch) (xs := qs.map V.ref) (fun i σ H' => ∃ v : Option V, σ = [some (.ref b), some (.ref a), some (.ref ch), v] ∧ H' = H1 ∧ ∀ x ∈ (Ut12.choices k l).take i, inEach ks x = false)
      ⟨v, rfl, rfl, fun x hx => by simp at hx⟩ (fun i σ H' _ ⟨_, _, e, _⟩ => by rw [e]; exact SqL.of hqs) ?_ ?_⟩
    · rintro i z σ H' hi ⟨v, rfl, rfl, nx⟩
      obtain ⟨r, er, rfl⟩ := ref_get hi
      obtain ⟨c, hc, hrc⟩ := lls.get er
      refine ⟨_, rfl, _, rfl, r, b, c, rs, ks, rfl, hrc, k1 _ _ hb, ht.mono (.same k1), _, rfl, ?_⟩
      cases e : inEach ks c with
      | true =>
        refine if_t rfl ⟨_, rfl, q2 _ r c k1 (fewest_at no hc e nx) hrc⟩
      | false =>
        refine if_f rfl ⟨_, rfl, rfl, fun x hx => ?_⟩
        rcases mem_more hc hx with h | h
        · exact nx _ h
        · rw [h]; exact e
    · rintro σ H' ⟨v, rfl, rfl, nx⟩
      rw [List.length_map, lls.len, List.take_length] at nx
      refine ⟨_, rfl, _, rfl, ch, a, Ut12.choices k l, l, rfl, ⟨qs, hqs, lls⟩, k1.seq hl, fun s hs => ?_, ?_, fun H2 p2 k2 hp2 ll2 => ?_⟩
      · have := (choices_each k l s hs).1
        omega
      · rw [← choices_succ l hup k]
        have h1 := choices_few l (k + 1)
        have h2 : 2 ^ l.length ≤ 2 ^ 8 := Nat.pow_le_pow_right (by decide) h8
        omega
      · rw [← choices_succ l hup k] at ll2
        refine ⟨p2, _, rfl, k1.trans k2, ll2, fun j hj c hc => ?_⟩
        rcases Nat.lt_or_ge j k with z | z
        · exact no j z c hc
        · have e : j = k := by omega
          subst e
          exact nx c hc
end
end Pc

namespace Pc
open PySem PySem.Spec PyProof.Rows L2 LamX
def aClash : List V → Hp → Ut12.Call → Prop := fun vs _ c => ∃ (n : Nat), vs = [.int (n : Int)] ∧ c = .clash n
def aEach (K : PySem.W.Frag) : List V → Hp → Ut12.Call → Prop := fun vs H c => ∃ (n : Nat) (r : Addr) (s : List Nat), vs = [.int (n : Int), .ref r] ∧ SqL K H r (vi s) ∧ c = .fineFor n s
def aChecks : List V → Hp → Ut12.Call → Prop := fun vs _ c => vs = [] ∧ c = .checks
theorem Kvs.nums {H : Hp} {kvs : List (Key × V)} {cs : List Ut12.Check} (h : Kvs H kvs cs) : (kvs.map fun kv => kV kv.1) = vi (cs.map fun c => c.number) := by
  induction h with
  | nil => rfl
  | cons _ _ ih => rw [List.map_cons, ih]; rfl
/-- a row of numbers as a key -/
def tk (x : List Nat) : List Key := x.map fun (n : Nat) => (Sum.inl (n : Int) : Key)
theorem tk_vi (x : List Nat) : (tk x).map kV = vi x := by
  unfold tk vi
  rw [List.map_map]
  rfl
theorem tk_inj : ∀ {x y : List Nat}, tk x = tk y → x = y
  | [], [], _ => rfl
  | [], _ :: _, h => by cases h
  | _ :: _, [], h => by cases h
  | a :: x, b :: y, h => by
    have h : (Sum.inl (a : Int) : Key) :: tk x = (Sum.inl (b : Int) : Key) :: tk y := h
    injection h with h1 h2
    injection h1 with h1
    rw [tk_inj h2, show a = b by omega]
theorem putK_in {kvs : List (List Key × V)} {k : List Key} {v : V} (h : k ∈ kvs.map (·.1)) : (putK kvs k v).map (·.1) = kvs.map (·.1) := by
  unfold putK
  obtain ⟨kv, h1, h2⟩ := List.mem_map.mp h
  rw [if_pos (List.any_eq_true.mpr ⟨kv, h1, decide_eq_true h2⟩), List.map_map]
  refine List.map_congr_left fun p _ => ?_
  show (if p.1 = k then (p.1, v) else p).1 = p.1
  split <;> rfl
theorem putK_out {kvs : List (List Key × V)} {k : List Key} {v : V} (h : ¬ k ∈ kvs.map (·.1)) : (putK kvs k v).map (·.1) = kvs.map (·.1) ++ [k] := by
  unfold putK
  rw [if_neg, List.map_append]
  · rfl
  · intro z
    obtain ⟨kv, h1, h2⟩ := List.any_eq_true.mp z
    exact h (List.mem_map.mpr ⟨kv, h1, of_decide_eq_true h2⟩)
/-- the keys are just these rows -/
structure Keys (kvs : List (List Key × V)) (bs : List (List Nat)) (i : Nat) : Prop where
  ex : ∃ ks : List (List Nat), kvs.map (·.1) = ks.map tk ∧ (∀ x, x ∈ ks ↔ x ∈ bs) ∧ ks.length ≤ i
theorem Keys.put {kvs : List (List Key × V)} {bs : List (List Nat)} {i : Nat} (h : Keys kvs bs i) (x : List Nat) (v : V) : Keys (putK kvs (tk x) v) (bs ++ [x]) (i + 1) := by
  obtain ⟨ks, e1, e2, e3⟩ := h.ex
  by_cases hx : x ∈ ks
  · refine ⟨ks, ?_, fun y => ?_, by omega⟩
    · rw [putK_in, e1]
      rw [e1]
      exact List.mem_map.mpr ⟨x, hx, rfl⟩
    · rw [e2, List.mem_append]
      refine ⟨.inl, fun z => ?_⟩
      rcases z with z | z
      · exact z
      · rw [List.mem_singleton.mp z]
        exact (e2 x).mp hx
  · refine ⟨ks ++ [x], ?_, fun y => ?_, by rw [List.length_append]; exact Nat.add_le_add_right e3 1⟩
    · rw [putK_out, e1, List.map_append]
      · rfl
      · rw [e1]
        intro z
        obtain ⟨y, hy, e⟩ := List.mem_map.mp z
        rw [← tk_inj e] at hx
        exact hx hy
    · rw [List.mem_append, List.mem_append, e2]
theorem Keys.len {kvs : List (List Key × V)} {bs : List (List Nat)} {i : Nat} (h : Keys kvs bs i) : kvs.length ≤ i := by
  obtain ⟨ks, e1, _, e3⟩ := h.ex
  have e := congrArg List.length e1
  rw [List.length_map, List.length_map] at e
  omega
theorem tups_keys {H : Hp} : ∀ {kvs : List (List Key × V)} {rs : List Addr} {ks : List (List Nat)}, IsKeys H kvs rs → kvs.map (·.1) = ks.map tk → Tups H rs ks
  | [], rs, ks, h, e => by
    cases h
    cases ks with
    | nil => exact .nil
    | cons _ _ => cases e
  | p :: kvs, rs, ks, h, e => by
    cases h with
    | cons h1 h2 =>
      cases ks with
      | nil => cases e
      | cons k ks =>
        rw [List.map_cons, List.map_cons] at e
        injection e with e1 e2
        refine .cons ?_ (tups_keys h2 e2)
        rw [e1, tk_vi] at h1
        exact h1
section
variable {P : Program} {w : World} {K : PySem.W.Frag} {mg : Str → Option Value} {base : Heap} {CR CO : Addr} {f : Addr} {fd : FuncData}
theorem ok_Office_checks (F : Fun K "checks" "Office.checks" s_Office_checks f fd) (T : Txt K mg CR CO) (c_counted : Cal P w K mg base 1 "counted" ["row"] spCounted) : FnOk P w K mg base CX0 2 f fd ["self"] (spOff CO aChecks) := by
  refine F.ok sc_Office_checks (fun vs H Q E h => ?_) (fun cdv A outer s H vs Q E hr h => ?_)
  · obtain ⟨o, d, al, g, c, rest, rfl, S, ⟨rfl, _⟩, _⟩ := h
    rfl
  obtain ⟨o, d, al, g, c, rest, rfl, S, ⟨rfl, rfl⟩, q⟩ := h
  refine ⟨_, (pss_one (ps_ret (pe_c c_counted hr (by omega) rfl (pa_cons (pe_callTy (call_list_dK rfl) (by rfl) T.b_list (by decide +kernel) (pa_cons (pe_fld (pv 0) rfl) pa_nil)) pa_nil)))), ?_⟩
  obtain ⟨⟨dx, ho⟩, ⟨kvs, hd, hk⟩, hle, G⟩ := id S
  refine ⟨_, rfl, o, CO, dx, _, _, rfl, ho, T.cl_Office, T.n_Office_kept, ofF_kept _ _ _, d, kvs, rfl, hd, fun p1 hp1 => ?_⟩
  have s1 := same_new hp1 (.lst (kvs.map fun kv => kV kv.1))
  refine ⟨p1, _, rfl, upd_same, ?_, fun H2 p k2 hp hp2 => ?_⟩
  · rw [List.length_map, hk.len]
    have := G.few
    exact line5 (by omega)
  · have s2 := s1.trans k2
    refine q _ al p (S.same s2) (.inl rfl) (.of s2) (s1.free hp) ?_
    rw [hp2, hk.nums, vi_len, List.length_map]
    show _ = some (HO.lst ((Ut12.ints (g.checks.length :: g.checks.map fun c => c.number)).map V.int))
    rw [vi_map]
    rfl
theorem ok_Office_clash (F : Fun K "clash" "Office.clash" s_Office_clash f fd) (T : Txt K mg CR CO) (c_can_be_searched : Cal P w K mg base 2 "can_be_searched" ["letters", "most_words"] (spSearch K)) (c_pairs_in_order : Cal P w K mg base 3 "pairs_in_order" ["letters", "most_words"] (spPairs K))
    (c_broken_by : Met P w K mg base 16 CO "broken_by" ["self", "pair"] (spBroken K CO)) (c_fewest_in_each : Cal P w K mg base 3 "fewest_in_each" ["rows", "numbers"] (spFewest K)) (c_counted : Cal P w K mg base 1 "counted" ["row"] spCounted) :
    FnOk P w K mg base CX0 17 f fd ["self", "most_words"] (spOff CO aClash) := by
  refine F.ok sc_Office_clash (fun vs H Q E h => ?_) (fun cdv A outer s H vs Q E hr h => ?_)
  · obtain ⟨o, d, al, g, c, rest, rfl, S, ⟨n, rfl, _⟩, _⟩ := h
    rfl
  obtain ⟨o, d, al, g, c, rest, rfl, S, ⟨n, rfl, rfl⟩, q⟩ := h
  have hu := hu_of hr
  refine ⟨_, (pss_cons (ps_if (pt_not (pt_val (pe_c c_can_be_searched hr (by omega) rfl (pa_cons (pe_fld (pv 0) rfl) (pa_cons (pv 1) pa_nil))))) (pss_one (ps_ret (pe_lst (pa_cons (pe_gi T.g_BEYOND_BOUNDS) pa_nil)))) pss_nil)
      (pss_cons (ps_set (i := 2) sc_Office_clash.nd rfl (Or.inl rfl) pe_dnewT)
      (pss_cons (ps_for PassesOwn.never rfl (pi_list (pe_c c_pairs_in_order hr (by omega) rfl (pa_cons (pe_fld (pv 0) rfl) (pa_cons (pv 1) pa_nil)))) (pg_name (i := 3) sc_Office_clash.nd rfl (Or.inl rfl)) (pss_one (ps_dput hu (pv 2) (pe_callTy call_tuple_of (by rfl) T.b_tuple (by decide +kernel) (pa_cons (pe_mt c_broken_by hr (by omega) (pv 0) (pa_cons (pv 3) pa_nil)) pa_nil)) pe_bl rfl)))
      (pss_cons (ps_set (i := 4) sc_Office_clash.nd rfl (Or.inl rfl) (pe_c c_fewest_in_each hr (by omega) rfl (pa_cons (pe_callTy (call_list_dT rfl) (by rfl) T.b_list (by decide +kernel) (pa_cons (pv 2) pa_nil)) (pa_cons (pe_callTy (call_list_dK rfl) (by rfl) T.b_list (by decide +kernel) (pa_cons (pe_fld (pv 0) rfl) pa_nil)) pa_nil))))
      (pss_cons (ps_if (pt_cmp (pc_isN (pv 4))) (pss_one (ps_ret (pe_lst (pa_cons (pe_gi T.g_NOTHING_FOUND) pa_nil)))) pss_nil)
      (pss_one (ps_ret (pe_c c_counted hr (by omega) rfl (pa_cons (pv 4) pa_nil))))))))), ?_⟩
  obtain ⟨⟨dx, ho⟩, ⟨kvs, hd, hk⟩, hle, G⟩ := id S
  refine ⟨_, rfl, o, CO, dx, _, _, rfl, ho, T.cl_Office, T.n_Office_alphabet, ofF_alphabet _ _ _, _, rfl, al, g.letters, n, rfl, SqL.of hle, G.l5, _, rfl, ?_⟩
  have ef : Ut12.few g n = fewB g.letters.length n := rfl
  cases e : fewB g.letters.length n with
  | false =>
    refine if_t rfl ⟨(by show 1 ≤ sizeLine; decide), fun p hp => ?_⟩
    have es : Ut12.step g (.clash n) = (g, [-1]) := by
      show (g, if Ut12.few g n = false then _ else _) = _
      rw [if_pos (ef.trans e)]
    rw [es] at q
    obtain ⟨S1, k1⟩ := off_new S hp (.lst [.int (-1)])
    exact q _ al p S1 (.inl rfl) k1 hp upd_same
  | true =>
    refine if_f rfl ?_
    have e' := e
    unfold fewB at e'
    rw [Bool.and_eq_true] at e'
    have hn : n ≤ 4 := of_decide_eq_true e'.1
    have hm : Ut12.many g.letters.length n ≤ 31 := of_decide_eq_true e'.2
    have h31 : (Ut12.upTo g.letters n).length ≤ 31 := by rw [upTo_len]; exact hm
    have hpl : (Ut12.pairs g.letters n).length ≤ 31 * 31 := by rw [pairs_len]; exact Nat.mul_le_mul h31 h31
    intro B hB
    have s0 := same_new hB (.dT [])
    refine ⟨_, rfl, o, CO, dx, _, _, rfl, s0 _ _ ho, T.cl_Office, T.n_Office_alphabet, ofF_alphabet _ _ _, _, rfl, al, g.letters, n, rfl, SqL.of (s0 _ _ hle), G.l5, hn, h31, fun H1 a qs k1 ha hqa prs => ?_⟩
    have lenq : qs.length = (Ut12.pairs g.letters n).length := prs.len
    have hB1 : H1 B = some (.dT []) := k1 _ _ upd_same
    have k01 := s0.trans k1
    have S1 := S.same k01
    obtain ⟨_, ⟨kvs1, hd1, hk1⟩, hle1, _⟩ := id S1
    have ho1 := k01 _ _ ho
    have nB : ∀ {b : Addr} {u : HO}, H b = some u → b ≠ B := fun h => ne_of_none h hB
    have offK : ∀ {H' : Hp}, Kp1 B H1 H' → OffAt CO H' o d al g := fun k => S1.keep (fun b u hb eu => k b u eu (by
      rcases hb with rfl | rfl | rfl
      · exact nB ho
      · exact nB hd
      · exact nB hle)) (.kp1 hB1 (fun xs z => by cases z) k)
    refine ⟨a, rfl, ⟨_, SqL.of hqa⟩, for_list (K := K) (a := a) (xs := qs.map V.ref) (fun i σ H' => ∃ (v : Option V) (kv : List (List Key × V)), σ = [some (.ref o), some (.int (n : Int)), some (.ref B), v, none] ∧ Kp1 B H1 H' ∧ H' B = some (.dT kv) ∧ Keys kv (((Ut12.pairs g.letters n).take i).map fun p => Ut12.broken g.checks p) i)
      ⟨none, [], rfl, .refl _ _, hB1, ⟨[], rfl, fun x => by simp, Nat.le_refl _⟩⟩ (fun i σ H' _ ⟨_, _, _, e, _⟩ => SqL.of (e _ _ hqa (ne_of hqa hB1 (by intro z; cases z)))) ?_ ?_⟩
    · rintro i z σ H2 hi ⟨v, kv, rfl, k2, hB2, key⟩
      obtain ⟨r, er, rfl⟩ := ref_get hi
      obtain ⟨p, b1, b2, hp, hr1, hb1, hb2⟩ := prs.get er
      have hi2 := (List.getElem?_eq_some_iff.mp hp).1
      have S2 := offK k2
      obtain ⟨⟨dx2, ho2⟩, _, _, _⟩ := id S2
      have w1 : ∀ {b : Addr} {xs : List V}, H1 b = some (.lst xs) → H2 b = some (.lst xs) := fun h => k2 _ _ h (ne_of h hB1 (by intro z; cases z))
      refine ⟨_, rfl, _, rfl, o, dx2, _, rfl, ho2, ofF_no _ _ _ (by decide +kernel) (by decide +kernel) (by decide +kernel), _, rfl, tnil (?_ : spBroken K CO [.ref o, .ref r] _ _ _)⟩
      refine ⟨o, d, al, g, .ref r, p, rfl, S2, ⟨r, b1, b2, rfl, k2 _ _ hr1 (ne_of hr1 hB1 (by intro z; cases z)), SqL.of (w1 hb1), SqL.of (w1 hb2)⟩, fun H3 b k3 hb hb3 => ?_⟩
      refine ⟨b, _, rfl, .inl ⟨SqL.of hb3, fun t ht => ?_⟩⟩
      have s4 := k3.trans (same_new ht (.tup (vi (Ut12.broken g.checks p))))
      refine ⟨B, _, rfl, DPut.t (k := tk (Ut12.broken g.checks p)) (s4 _ _ hB2) (by rw [tk_vi]; exact upd_same) (line5 (by have := key.len; omega)), ?_⟩
      refine ⟨_, _, rfl, fun c u h nc => ?_, upd_same, ?_⟩
      · rw [upd_ne nc]
        exact s4 _ _ (k2 _ _ h nc)
      · rw [take_more hp, List.map_append]
        exact key.put _ _
    · rintro σ H2 ⟨v, kv, rfl, k2, hB2, key⟩
      rw [List.length_map, lenq, List.take_length] at key
      obtain ⟨ks, ek, em, _⟩ := key.ex
      have S2 := offK k2
      obtain ⟨⟨dx2, ho2⟩, ⟨kvs2, hd2, hk2⟩, _, _⟩ := id S2
      refine ⟨_, rfl, B, kv, rfl, .inl hB2, fun p1 bs hp1 isk => ?_⟩
      have s3 := same_new hp1 (.lst (bs.map V.ref))
      refine ⟨_, rfl, o, CO, dx2, _, _, rfl, s3 _ _ ho2, T.cl_Office, T.n_Office_kept, ofF_kept _ _ _, d, kvs2, rfl, s3 _ _ hd2, fun p2 hp2 => ?_⟩
      have s4 := same_new hp2 (.lst (kvs2.map fun kv => kV kv.1))
      have tks : TK H2 _ := .same (s3.trans s4)
      have ecl := clash_fewest g.checks g.letters n em
      have es : Ut12.step g (.clash n) = (g, match fewest ks (g.checks.map fun c => c.number) with | none => [-6] | some l => Ut12.ints (l.length :: l)) := by
        show (g, if Ut12.few g n = false then _ else _) = _
        rw [if_neg (by rw [ef, e]; decide), ecl]
        rfl
      rw [es] at q
      have kH : ∀ {H' : Hp}, Same (upd (upd H2 p1 (.lst (bs.map V.ref))) p2 (.lst (kvs2.map fun kv => kV kv.1))) H' → Same H H' := fun k b u h => k _ _ (s4 _ _ (s3 _ _ (k2 _ _ (k01 _ _ h) (nB h))))
      refine ⟨p1, p2, bs, ks, g.checks.map fun c => c.number, rfl, s4 _ _ upd_same, (tups_keys isk ek).mono tks, SqL.of (by rw [upd_same, hk2.nums]), G.nd, by rw [List.length_map]; exact G.few, fun H5 k5 e5 => ?_, fun H5 p5 c k5 e5 hp5 => ?_⟩
      · rw [e5] at q
        refine ⟨_, rfl, _, rfl, if_t rfl ⟨(by show 1 ≤ sizeLine; decide), fun p hp => ?_⟩⟩
        have s6 := (kH k5).trans (same_new hp (.lst [.int (-6)]))
        exact q _ al p (S.same s6) (.inl rfl) (.of s6) ((kH k5).free hp) upd_same
      · rw [e5] at q
        have hc8 : c.length ≤ 8 := by
          unfold fewest at e5
          obtain ⟨j, _, hc⟩ := List.mem_flatMap.mp (List.mem_of_find?_eq_some e5)
          have h1 := (choices_each _ _ _ hc).1
          have h2 : ¬ (g.checks.map fun c => c.number).length < j := fun z => by rw [choices_none _ _ z] at hc; cases hc
          rw [List.length_map] at h2
          have := G.few
          omega
        refine ⟨_, rfl, _, rfl, if_f rfl ⟨_, rfl, p5, _, rfl, hp5, by rw [vi_len]; exact line5 (by omega), fun H6 p k6 hp hp6 => ?_⟩⟩
        have s6 := (kH k5).trans k6
        refine q _ al p (S.same s6) (.inl rfl) (.of s6) ((kH k5).free hp) ?_
        rw [hp6, vi_len]
        show _ = some (HO.lst ((Ut12.ints (c.length :: c)).map V.int))
        rw [vi_map]
        rfl
end
end Pc

namespace Pc
open PySem PySem.Spec PyProof.Rows L2 LamX
section
variable {P : Program} {w : World} {K : PySem.W.Frag} {mg : Str → Option Value} {base : Heap} {CR CO : Addr} {f : Addr} {fd : FuncData}
theorem ok_Office_each (F : Fun K "each" "Office.each" s_Office_each f fd) (T : Txt K mg CR CO) (c_can_be_searched : Cal P w K mg base 2 "can_be_searched" ["letters", "most_words"] (spSearch K)) (c_is_sentence : Cal P w K mg base 2 "is_sentence" ["words"] (spSent K))
    (c_sentences_in_order : Cal P w K mg base 2 "sentences_in_order" ["letters", "most_words"] (spInOrder K)) (c_is_kept_by : Met P w K mg base 16 CO "is_kept_by" ["self", "pair"] (spKept K CO)) (c_counted : Cal P w K mg base 1 "counted" ["row"] spCounted) :
    FnOk P w K mg base CX0 17 f fd ["self", "most_words", "sentence"] (spOff CO (aEach K)) := by
  refine F.ok sc_Office_each (fun vs H Q E h => ?_) (fun cdv A outer s H vs Q E hr h => ?_)
  · obtain ⟨o, d, al, g, c, rest, rfl, S, ⟨n, r, s, rfl, _⟩, _⟩ := h
    rfl
  obtain ⟨o, d, al, g, c, rest, rfl, S, ⟨n, r0, s0, rfl, hs, rfl⟩, q⟩ := h
  refine ⟨_, (pss_cons (ps_if (pt_not (PW.pt (pw_and (pt_val (pe_c c_can_be_searched hr (by omega) rfl (pa_cons (pe_fld (pv 0) rfl) (pa_cons (pv 1) pa_nil)))) (pw_and1 (pt_val (pe_c c_is_sentence hr (by omega) rfl (pa_cons (pv 2) pa_nil))))))) (pss_one (ps_ret (pe_lst (pa_cons (pe_gi T.g_BEYOND_BOUNDS) pa_nil)))) pss_nil)
      (pss_cons (ps_set (i := 3) sc_Office_each.nd rfl (Or.inl rfl) (pe_c c_sentences_in_order hr (by omega) rfl (pa_cons (pe_fld (pv 0) rfl) (pa_cons (pv 1) pa_nil))))
      (pss_cons (ps_setLc (i := 4) (own := [("translation", 5)]) (g := gName 5) (tt := tTest (tMeth CO "is_kept_by" (spKept K CO) [] E0 (tVar 0) (tCons (tTup (tCons (tVar 2) (tCons (tVar 5) tNil))) tNil))) rfl sc_Office_each.nd rfl rfl rfl (pi_list (pv 3))
        (blkOk_by (own := [("translation", 5)]) (N := ["self", "most_words", "sentence", "translations", "keeping", "translation", "answer"]) (sc := defScope s_Office_each) (by decide +kernel))
        (fun _ _ _ _ _ => pg_name (i := 5) sc_Office_each.nd rfl (Or.inl rfl)) (fun _ _ _ _ _ => pts_one (pt_val (pe_mt c_is_kept_by hr (by omega) (pv 0) (pa_cons (pe_tup (pa_cons (pv 2) (pa_cons (pv 5) pa_nil))) pa_nil)))) (fun _ _ _ _ _ => pv 5))
      (pss_cons (ps_set (i := 6) sc_Office_each.nd rfl (Or.inl rfl) (pe_lst (pa_cons (pe_callB call_len_seq (by rfl) T.b_len PySem.boot_len (pa_cons (pv 4) pa_nil)) pa_nil)))
      (pss_cons (ps_for PassesOwn.never rfl (pi_list (pv 4)) (pg_name (i := 5) sc_Office_each.nd rfl (Or.inl rfl)) (pss_one (ps_expr (pe_bm PySem.F.plainAttrs_list PySem.F.slot_list_extend PySem.F.type_list_extend mt_extend (pv 6) (pa_cons (pe_c c_counted hr (by omega) rfl (pa_cons (pv 5) pa_nil)) pa_nil)))))
      (pss_one (ps_ret (pv 6)))))))), ?_⟩
  obtain ⟨⟨dx, ho⟩, ⟨kvs, hd, hk⟩, hle, G⟩ := id S
  refine ⟨_, rfl, o, CO, dx, _, _, rfl, ho, T.cl_Office, T.n_Office_alphabet, ofF_alphabet _ _ _, _, rfl, al, g.letters, n, rfl, SqL.of hle, G.l5, _, rfl, ?_⟩
  have ef : Ut12.few g n = fewB g.letters.length n := rfl
  have no : (Ut12.few g n = false ∨ Ut12.sentOk s0 = false) → ∀ p, H p = none → Q (.ref p) (upd H p (.lst [.int (-1)])) := fun h p hp => by
    have es : Ut12.step g (.fineFor n s0) = (g, [-1]) := by
      show (g, if _ then _ else _) = _
      rw [if_pos h]
    rw [es] at q
    obtain ⟨S1, k1⟩ := off_new S hp (.lst [.int (-1)])
    exact q _ al p S1 (.inl rfl) k1 hp upd_same
  cases e : fewB g.letters.length n with
  | false =>
    refine if_f rfl (if_t rfl ⟨(by show 1 ≤ sizeLine; decide), fun p hp => ?_⟩)
    exact no (.inl (ef.trans e)) p hp
  | true =>
    refine if_t rfl ⟨_, rfl, r0, s0, rfl, hs, _, rfl, ?_⟩
    cases es1 : Ut12.sentOk s0 with
    | false =>
      refine if_t rfl ⟨(by show 1 ≤ sizeLine; decide), fun p hp => ?_⟩
      exact no (.inr es1) p hp
    | true =>
      refine if_f rfl ?_
      have es : Ut12.step g (.fineFor n s0) = (g, Ut12.ints ((Ut12.fineFor g.checks g.letters n s0).length :: (Ut12.fineFor g.checks g.letters n s0).flatMap Ut12.row)) := by
        show (g, if _ then _ else _) = _
        rw [if_neg]
        rintro (h | h)
        · rw [ef, e] at h; cases h
        · rw [es1] at h; cases h
      rw [es] at q
      have e' := e
      unfold fewB at e'
      rw [Bool.and_eq_true] at e'
      have hn : n ≤ 4 := of_decide_eq_true e'.1
      have hm : Ut12.many g.letters.length n ≤ 31 := of_decide_eq_true e'.2
      have h31 : (Ut12.upTo g.letters n).length ≤ 31 := by rw [upTo_len]; exact hm
      refine ⟨_, rfl, o, CO, dx, _, _, rfl, ho, T.cl_Office, T.n_Office_alphabet, ofF_alphabet _ _ _, _, rfl, al, g.letters, n, rfl, SqL.of hle, G.l5, hn, h31, fun H1 a k1 ha ⟨rs, hra, lls⟩ => ?_⟩
      have lenr : rs.length = (Ut12.upTo g.letters n).length := lls.len
      have S1 := S.same k1
      obtain ⟨⟨dx1, ho1⟩, _, _, _⟩ := id S1
      refine ⟨_, rfl, a, rfl, ⟨_, SqL.of hra⟩, fun D hD => ?_⟩
      refine lc_it (walk_list (K := K) (a := a) (xs := rs.map V.ref)) (fun i H' => ∃ qs : List Addr, Same H1 H' ∧ H' D = some (.lst (qs.map V.ref)) ∧ Lists H1 qs (((Ut12.upTo g.letters n).take i).filter fun t => (Ut12.broken g.checks (s0, t)).isEmpty))
        ⟨[], same_new hD _, upd_same, .nil⟩ (fun i H' _ ⟨_, e, _⟩ => SqL.of (e _ _ hra)) ?_ ?_
      · rintro i x H2 H3 hi ⟨qs, k2, hD2, ls2⟩ ⟨rfl, hx⟩
        obtain ⟨r, er, rfl⟩ := ref_get hx
        obtain ⟨t, ht, hrt⟩ := lls.get er
        have hi2 := (List.getElem?_eq_some_iff.mp ht).1
        refine ⟨rfl, _, rfl, o, dx1, _, rfl, k2 _ _ ho1, ofF_no _ _ _ (by decide +kernel) (by decide +kernel) (by decide +kernel), _, rfl, _, rfl, (by show 2 ≤ sizeLine; decide), fun pq hpq => ?_⟩
        have s4 := same_new hpq (.tup [.ref r0, .ref r])
        have s5 := k2.trans s4
        refine tnil (?_ : spKept K CO [.ref o, .ref pq] _ _ _)
        refine ⟨o, d, al, g, .ref pq, (s0, t), rfl, S1.same s5, ⟨pq, r0, r, rfl, upd_same, (k1.trans s5).seq hs, SqL.of (s5 _ _ hrt)⟩, _, rfl, ?_⟩
        have hf : ((Ut12.upTo g.letters n).take (i + 1)).filter (fun t => (Ut12.broken g.checks (s0, t)).isEmpty) = ((Ut12.upTo g.letters n).take i).filter (fun t => (Ut12.broken g.checks (s0, t)).isEmpty) ++ if (Ut12.broken g.checks (s0, t)).isEmpty = true then [t] else [] := by
          rw [take_more ht, List.filter_append, List.filter_cons]
          rfl
        cases eb : (Ut12.broken g.checks (s0, t)).isEmpty with
        | true =>
          rw [eb, if_pos rfl] at hf
          refine if_t rfl ⟨_, rfl, _, s4 _ _ hD2, ?_, qs ++ [r], ?_, ?_, ?_⟩
          · rw [List.length_map, ls2.len]
            exact line5 (Nat.le_trans (List.length_filter_le _ _) (by rw [List.length_take]; omega))
          · intro b u h
            rw [upd_ne (ne_of_none h hD)]
            exact s5 _ _ h
          · rw [upd_same, List.map_append]
            rfl
          · rw [hf]
            exact Lists.app ls2 (.cons hrt .nil)
        | false =>
          rw [eb] at hf
          refine if_f rfl ⟨qs, s5, s4 _ _ hD2, ?_⟩
          rw [hf]
          simpa using ls2
      · rintro H2 ⟨qs, k2, hD2, ls2⟩
        rw [List.length_map, lenr, List.take_length] at ls2
        have ls2 : Lists H1 qs (Ut12.fineFor g.checks g.letters n s0) := ls2
        have hin : ∀ t ∈ Ut12.fineFor g.checks g.letters n s0, t.length ≤ n := fun t ht => (upTo_each _ _ t (List.mem_filter.mp ht).1).1
        have hfl : (Ut12.fineFor g.checks g.letters n s0).length ≤ 31 := Nat.le_trans (List.length_filter_le _ _) h31
        generalize Ut12.fineFor g.checks g.letters n s0 = ff at ls2 hin hfl q
        refine ⟨_, rfl, D, _, rfl, .inl (SqL.of hD2), (by show 1 ≤ sizeLine; decide), fun y hy => ?_⟩
        rw [List.length_map, ls2.len]
        have s3 := same_new hy (.lst [.int (ff.length : Nat)])
        have k12 := k1.trans k2
        have hy0 : H y = none := k12.free hy
        have rowl : ∀ l : List (List Nat), (∀ t ∈ l, t.length ≤ n) → (l.flatMap Ut12.row).length ≤ l.length * 5 := fun l => by
          induction l with
          | nil => intro _; simp
          | cons t l ih =>
            intro h
            rw [List.flatMap_cons, List.length_append, List.length_cons, Nat.add_mul]
            have h1 := ih fun t ht => h t (List.mem_cons_of_mem _ ht)
            have h2 := h t List.mem_cons_self
            show (t.length + 1) + _ ≤ _
            omega
        refine ⟨_, rfl, D, rfl, ⟨_, SqL.of (s3 _ _ hD2)⟩, for_list (K := K) (a := D) (xs := qs.map V.ref) (fun i σ H' => ∃ v : Option V, σ = [some (.ref o), some (.int (n : Int)), some (.ref r0), some (.ref a), some (.ref D), v, some (.ref y)] ∧ Same H2 H' ∧ H' y = some (.lst (vi (ff.length :: (ff.take i).flatMap Ut12.row))))
          ⟨none, rfl, s3, upd_same⟩ (fun i σ H' _ ⟨_, _, e, _⟩ => SqL.of (e _ _ hD2)) ?_ ?_⟩
        · rintro i z σ H3 hi ⟨v, rfl, k3, hy3⟩
          obtain ⟨r, er, rfl⟩ := ref_get hi
          obtain ⟨t, ht, hrt⟩ := ls2.get er
          have hi2 := (List.getElem?_eq_some_iff.mp ht).1
          have htn := hin t (List.mem_of_getElem? ht)
          have nyr : ∀ {b : Addr} {u : HO}, H2 b = some u → b ≠ y := fun h => ne_of_none h hy
          refine ⟨_, rfl, .inl ⟨rfl, _, SqL.of hy3⟩, _, rfl, r, _, rfl, k3 _ _ (k2 _ _ hrt), by rw [vi_len]; exact line5 (by omega), fun H4 p k4 hp hp4 => ?_⟩
          refine ⟨y, p, _, _, rfl, rfl, k4 _ _ hy3, hp4, ?_, ?_⟩
          · rw [vi_len, List.length_cons, List.length_cons, vi_len]
            have h1 := rowl (ff.take i) fun t ht => hin t (List.mem_of_mem_take ht)
            rw [List.length_take] at h1
            exact Nat.le_of_lt (line5 (by omega))
          · refine ⟨_, rfl, fun b u h => ?_, ?_⟩
            · rw [upd_ne (nyr h)]
              exact k4 _ _ (k3 _ _ h)
            · rw [upd_same, take_more ht, List.flatMap_append, vi_len]
              show some (HO.lst (vi (ff.length :: (ff.take i).flatMap Ut12.row) ++ vi (Ut12.row t))) = _
              rw [← vi_app]
              simp
        · rintro σ H3 ⟨v, rfl, k3, hy3⟩
          rw [List.length_map, ls2.len, List.take_length] at hy3
          have s6 := k12.trans k3
          refine ⟨_, rfl, q _ al y (S.same s6) (.inl rfl) (.of s6) hy0 ?_⟩
          rw [hy3, vi_map]
end
end Pc

namespace Pc
open PySem PySem.Spec PyProof.Rows L2 LamX
/-- all but what stands at three places, and the tables -/
def Kp3 (a o d : Addr) (H H' : Hp) : Prop := ∀ b u, H b = some u → (∀ ps, u ≠ .tbl ps) → b ≠ a → b ≠ o → b ≠ d → H' b = some u
theorem tabs_kp1 {Tt : List (Addr × Str)} {H H' : Hp} {C a dx l : Addr} {n : Nat} (t : Tabs Tt H) (ha : H a = some (rdO C dx l n)) (k : Kp1 a H H') : Tabs Tt H' := tabs_keep t fun b u e n1 _ _ => k b u e fun z => by
  subst z
  rw [ha] at e
  exact n1 _ _ _ (Option.some.inj e).symm
theorem rd_of_ne {H : Hp} {a o CR CO dx dy l d al : Addr} {n g : Nat} (ha : H a = some (rdO CR dx l n)) (ho : H o = some (ofO CO dy d g al)) : a ≠ o := by
  refine ne_of ha ho fun z => ?_
  unfold rdO ofO rdF ofF at z
  simp at z
theorem off_kp1 {C CR : Addr} {H H' : Hp} {o d al a dx l : Addr} {n : Nat} {g : Ut12.House} (h : OffAt C H o d al g) (ha : H a = some (rdO CR dx l n)) (k : Kp1 a H H') : OffAt C H' o d al g := by
  obtain ⟨⟨dy, h1⟩, ⟨kvs, h2, h3⟩, h4, h5⟩ := id h
  refine h.keep (fun b u hb e => k b u e ?_) (.kp1 ha (rdO_tup _ _ _ _) k)
  rcases hb with rfl | rfl | rfl
  · exact (rd_of_ne ha h1).symm
  · exact ne_of h2 ha (by intro z; cases z)
  · exact ne_of h4 ha (by intro z; cases z)
theorem kp1_fr {a b : Addr} {H H1 : Hp} (k : Kp1 a H H1) (e : H1 b = none) : H b = none ∨ b = a := by
  by_cases eb : b = a
  · exact .inr eb
  · refine .inl ?_
    cases e2 : H b with
    | none => rfl
    | some u => rw [k b u e2 eb] at e; cases e
/-- one call, read and answered -/
def After (Tt : List (Addr × Str)) (CR CO : Addr) (H : Hp) (o d al a dx l : Addr) (cs : List Nat) (n : Nat) (g : Ut12.House) (c : Ut12.Call) (r : List Nat) (Q : VK) : Prop :=
  ∀ (H' : Hp) (al' p : Addr) (m : Nat), OffAt CO H' o d al' (Ut12.step g c).1 → Tabs Tt H' → (al' = al ∨ H al' = none) → H' a = some (rdO CR dx l m) → cs.drop m = r → m ≤ cs.length → n ≤ m → Kp3 a o d H H' → H p = none → H' p = some (.lst ((Ut12.step g c).2.map V.int)) → Q (.ref p) H'
/-- behind the reading the office's method ends the call -/
theorem after_off {Tt : List (Addr × Str)} {CR CO : Addr} {H H1 : Hp} {o d al a dx l : Addr} {cs : List Nat} {n m : Nat} {g : Ut12.House} {c : Ut12.Call} {r : List Nat} {Q : VK} {E : XK} {args : List V → Hp → Ut12.Call → Prop} {rest : List V}
    (S : OffAt CO H1 o d al g) (hT : Tabs Tt H1) (ha1 : H1 a = some (rdO CR dx l m)) (k : Kp1 a H H1) (hd : cs.drop m = r) (hm : m ≤ cs.length) (hn : n ≤ m) (hargs : args rest H1 c) (q : After Tt CR CO H o d al a dx l cs n g c r Q) : spOffT Tt CO args (.ref o :: rest) H1 Q E := by
  obtain ⟨⟨dy, ho⟩, ⟨kvs, hdd, _⟩, _, _⟩ := id S
  have fr := fun b => kp1_fr (b := b) k
  refine ⟨o, d, al, g, c, rest, rfl, S, hT, hargs, fun H2 al' p S2 T2 hal k2 hp hp2 => ?_⟩
  have nao := rd_of_ne ha1 ho
  have nad : a ≠ d := ne_of ha1 hdd (by intro z; cases z)
  refine q H2 al' p m S2 T2 ?_ (k2 _ _ ha1 (fun ps z => by cases z) nao nad) hd hm hn (fun b u e nt n1 n2 n3 => k2 _ _ (k b u e n1) nt n2 n3) ?_ hp2
  · rcases hal with h | h
    · exact .inl h
    · rcases fr _ h with h | h
      · exact .inr h
      · subst h; rw [ha1] at h; cases h
  · rcases fr _ hp with h | h
    · exact h
    · subst h; rw [ha1] at hp; cases hp
def spPairCall (Tt : List (Addr × Str)) (K : PySem.W.Frag) (CR CO : Addr) : Sp := fun vs H Q _ => ∃ (o d al a dx l : Addr) (cs : List Nat) (n k : Nat) (g : Ut12.House) (c : Ut12.Call) (r : List Nat), vs = [.int (k : Int), .ref o, .ref a] ∧ OffAt CO H o d al g ∧ Tabs Tt H ∧ H a = some (rdO CR dx l n) ∧ SqL K H l (vi cs) ∧ n ≤ cs.length ∧
  RdCall (k :: cs.drop n) c r ∧ (k = 3 ∨ k = 4) ∧ After Tt CR CO H o d al a dx l cs n g c r Q
theorem after_more {Tt : List (Addr × Str)} {CR CO : Addr} {H H1 : Hp} {o d al a dx l : Addr} {cs : List Nat} {n m : Nat} {g : Ut12.House} {c : Ut12.Call} {r : List Nat} {Q : VK} (k : Kp1 a H H1) (ha1 : H1 a = some (rdO CR dx l m)) (hn : n ≤ m)
    (q : After Tt CR CO H o d al a dx l cs n g c r Q) : After Tt CR CO H1 o d al a dx l cs m g c r Q := by
  have fr := fun b => kp1_fr (b := b) k
  intro H' al' p m' S2 T2 hal ha' hd hm hn' k2 hp hp2
  refine q H' al' p m' S2 T2 ?_ ha' hd hm (Nat.le_trans hn hn') (fun b u e nt n1 n2 n3 => k2 _ _ (k b u e n1) nt n1 n2 n3) ?_ hp2
  · rcases hal with h | h
    · exact .inl h
    · rcases fr _ h with h | h
      · exact .inr h
      · subst h; rw [ha1] at h; cases h
  · rcases fr _ hp with h | h
    · exact h
    · subst h; rw [ha1] at hp; cases hp
/-- a search is read: its number k stands ahead -/
def spSearchCall (Tt : List (Addr × Str)) (K : PySem.W.Frag) (CR CO : Addr) : Sp := fun vs H Q _ => ∃ (o d al a dx l : Addr) (cs : List Nat) (n k : Nat) (g : Ut12.House) (c : Ut12.Call) (r : List Nat), vs = [.int (k : Int), .ref o, .ref a] ∧ OffAt CO H o d al g ∧ Tabs Tt H ∧ H a = some (rdO CR dx l n) ∧ SqL K H l (vi cs) ∧ n ≤ cs.length ∧
  RdCall (k :: cs.drop n) c r ∧ (5 ≤ k ∧ k ≤ 9) ∧ After Tt CR CO H o d al a dx l cs n g c r Q
def spAnswerCall (Tt : List (Addr × Str)) (K : PySem.W.Frag) (CR CO : Addr) : Sp := fun vs H Q _ => ∃ (o d al a dx l : Addr) (cs : List Nat) (n : Nat) (g : Ut12.House) (c : Ut12.Call) (r : List Nat), vs = [.ref o, .ref a] ∧ OffAt CO H o d al g ∧ Tabs Tt H ∧ H a = some (rdO CR dx l n) ∧ SqL K H l (vi cs) ∧ n ≤ cs.length ∧
  RdCall (cs.drop n) c r ∧ ∀ (H' : Hp) (al' p : Addr) (m : Nat), OffAt CO H' o d al' (Ut12.step g c).1 → Tabs Tt H' → (al' = al ∨ H al' = none) → H' a = some (rdO CR dx l m) → cs.drop m = r → m ≤ cs.length → n < m → Kp3 a o d H H' → H p = none → H' p = some (.lst ((Ut12.step g c).2.map V.int)) → Q (.ref p) H'
theorem drop_le {l r : List Nat} {n x : Nat} (h : l.drop n = x :: r) : n + 1 ≤ l.length := drop_lt h
theorem drop_row {l s r : List Nat} {n : Nat} (h : l.drop n = s.length :: (s ++ r)) : n + 1 + s.length ≤ l.length := by
  have e0 := drop_lt h
  have e := congrArg List.length (drop_at h).2
  rw [List.length_drop, List.length_append] at e
  omega
section
variable {P : Program} {w : World} {K : PySem.W.Frag} {mg : Str → Option Value} {base : Heap} {CR CO : Addr} {f : Addr} {fd : FuncData} {Tt : List (Addr × Str)}
theorem ok_answer_about_pair (F : Fun K "answer_about_pair" "answer_about_pair" s_answer_about_pair f fd) (T : Txt K mg CR CO) (c_row : Met P w K mg base 2 CR "row" ["self"] (spRow K CR)) (c_run : Met P w K mg base 17 CO "run" ["self", "sentence", "translation"] (spOffT Tt CO (aRun K)))
    (c_value : Met P w K mg base 15 CO "value" ["self", "sentence", "translation", "term"] (spOffT Tt CO (aValue K))) : FnOk P w K mg base CX0 18 f fd ["call", "office", "reader"] (spPairCall Tt K CR CO) := by
  refine F.ok sc_answer_about_pair (fun vs H Q E h => ?_) (fun cdv A outer s H vs Q E hr h => ?_)
  · obtain ⟨o, d, al, a, dx, l, cs, n, k, g, c, r, rfl, _⟩ := h
    rfl
  obtain ⟨o, d, al, a, dx, l, cs, n, k, g, c, r, rfl, S, hT, ha, hl, hn, hrd, hk, q⟩ := h
  refine ⟨_, (pss_cons (ps_set (i := 3) sc_answer_about_pair.nd rfl (Or.inl rfl) (pe_mt0 c_row hr (by omega) (pv 2)))
      (pss_cons (ps_set (i := 4) sc_answer_about_pair.nd rfl (Or.inl rfl) (pe_mt0 c_row hr (by omega) (pv 2)))
      (pss_cons (ps_if (pt_cmpR op_eq (pv 0) (pe_gi T.g_RUN) (nomark _)) (pss_one (ps_ret (pe_mt c_run hr (by omega) (pv 1) (pa_cons (pv 3) (pa_cons (pv 4) pa_nil))))) pss_nil)
      (pss_one (ps_ret (pe_mt c_value hr (by omega) (pv 1) (pa_cons (pv 3) (pa_cons (pv 4) (pa_cons (pe_mt0 c_row hr (by omega) (pv 2)) pa_nil))))))))), ?_⟩
  have no : ∀ n, (rdF l n).lookup ("row" : Str) = none := fun n => rdF_no l n (by decide +kernel) (by decide +kernel)
  generalize hc : cs.drop n = x at hrd
  rcases hk with rfl | rfl
  · cases hrd with
    | @run s t _ ls lt =>
      refine ⟨_, rfl, a, dx, _, rfl, ha, no _, tnil <| rd_row ha hl hc fun H1 p1 ha1 hl1 k1 np1 hp1 h1 => ?_⟩
      refine ⟨_, rfl, a, dx, _, rfl, ha1, no _, tnil <| rd_row ha1 hl1 h1 fun H2 p2 ha2 hl2 k2 np2 hp2 h2 => ?_⟩
      refine ⟨_, rfl, rfl, _, rfl, if_t (by decide) ?_⟩
      have k12 := k1.trans k2
      have S2 := off_kp1 S ha k12
      obtain ⟨⟨dy, ho⟩, _, _, _⟩ := id S2
      have e1 : p1 ≠ a := fun e => by subst e; rw [hp1] at ha1; cases ha1
      refine ⟨_, rfl, o, dy, _, rfl, ho, ofF_no _ _ _ (by decide +kernel) (by decide +kernel) (by decide +kernel), _, rfl, _, rfl, tnil ?_⟩
      refine after_off (rest := [.ref p1, .ref p2]) S2 (tabs_kp1 hT ha k12) ha2 k12 h2 (drop_row h1) (by omega) ?_ q
      exact ⟨p1, p2, s, t, rfl, SqL.of (k2 _ _ hp1 e1), SqL.of hp2, rfl⟩
  · cases hrd with
    | @value s t u _ x ls lt lu hx =>
      refine ⟨_, rfl, a, dx, _, rfl, ha, no _, tnil <| rd_row ha hl hc fun H1 p1 ha1 hl1 k1 np1 hp1 h1 => ?_⟩
      refine ⟨_, rfl, a, dx, _, rfl, ha1, no _, tnil <| rd_row ha1 hl1 h1 fun H2 p2 ha2 hl2 k2 np2 hp2 h2 => ?_⟩
      refine ⟨_, rfl, rfl, _, rfl, if_f (by decide) ?_⟩
      have k12 := k1.trans k2
      have S2 := off_kp1 S ha k12
      obtain ⟨⟨dy, ho⟩, _, _, _⟩ := id S2
      have e1 : p1 ≠ a := fun e => by subst e; rw [hp1] at ha1; cases ha1
      have e2 : p2 ≠ a := fun e => by subst e; rw [hp2] at ha2; cases ha2
      refine ⟨_, rfl, o, dy, _, rfl, ho, ofF_no _ _ _ (by decide +kernel) (by decide +kernel) (by decide +kernel), _, rfl, _, rfl, _, rfl, a, dx, _, rfl, ha2, no _, tnil <| rd_row ha2 hl2 h2 fun H3 p3 ha3 hl3 k3 np3 hp3 h3 => tnil ?_⟩
      refine after_off (rest := [.ref p1, .ref p2, .ref p3]) (off_kp1 S2 ha2 k3) (tabs_kp1 hT ha (k12.trans k3)) ha3 (k12.trans k3) h3 (drop_row h2) (by omega) ?_ q
      exact ⟨p1, p2, p3, s, t, u, x, rfl, SqL.of (k3 _ _ (k2 _ _ hp1 e1) e1), SqL.of (k3 _ _ hp2 e2), SqL.of hp3, hx, rfl⟩
theorem ok_answer_search (F : Fun K "answer_search" "answer_search" s_answer_search f fd) (T : Txt K mg CR CO) (c_number : Met P w K mg base 1 CR "number" ["self"] (spNumber K CR)) (c_row : Met P w K mg base 2 CR "row" ["self"] (spRow K CR))
    (c_fine : Met P w K mg base 19 CO "fine" ["self", "most_words"] (spOffT Tt CO aFine)) (c_alone : Met P w K mg base 19 CO "alone" ["self", "number", "most_words"] (spOffT Tt CO aAlone)) (c_apart : Met P w K mg base 19 CO "apart" ["self", "number", "other", "most_words"] (spOffT Tt CO aApart))
    (c_clash : Met P w K mg base 17 CO "clash" ["self", "most_words"] (spOffT Tt CO aClash)) (c_each : Met P w K mg base 17 CO "each" ["self", "most_words", "sentence"] (spOffT Tt CO (aEach K))) : FnOk P w K mg base CX0 20 f fd ["call", "office", "reader"] (spSearchCall Tt K CR CO) := by
  refine F.ok sc_answer_search (fun vs H Q E h => ?_) (fun cdv A outer s H vs Q E hr h => ?_)
  · obtain ⟨o, d, al, a, dx, l, cs, n, k, g, c, r, rfl, _⟩ := h
    rfl
  obtain ⟨o, d, al, a, dx, l, cs, n, k, g, c, r, rfl, S, hT, ha, hl, hn, hrd, hk, q⟩ := h
  refine ⟨_, (pss_cons (ps_if (pt_cmpR op_eq (pv 0) (pe_gi T.g_FINE) (nomark _)) (pss_one (ps_ret (pe_mt c_fine hr (by omega) (pv 1) (pa_cons (pe_mt0 c_number hr (by omega) (pv 2)) pa_nil)))) pss_nil)
      (pss_cons (ps_if (pt_cmpR op_eq (pv 0) (pe_gi T.g_ALONE) (nomark _)) (pss_cons (ps_set (i := 3) sc_answer_search.nd rfl (Or.inl rfl) (pe_mt0 c_number hr (by omega) (pv 2)))
      (pss_one (ps_ret (pe_mt c_alone hr (by omega) (pv 1) (pa_cons (pv 3) (pa_cons (pe_mt0 c_number hr (by omega) (pv 2)) pa_nil)))))) pss_nil)
      (pss_cons (ps_if (pt_cmpR op_eq (pv 0) (pe_gi T.g_APART) (nomark _)) (pss_cons (ps_set (i := 3) sc_answer_search.nd rfl (Or.inl rfl) (pe_mt0 c_number hr (by omega) (pv 2)))
      (pss_cons (ps_set (i := 4) sc_answer_search.nd rfl (Or.inl rfl) (pe_mt0 c_number hr (by omega) (pv 2)))
      (pss_one (ps_ret (pe_mt c_apart hr (by omega) (pv 1) (pa_cons (pv 3) (pa_cons (pv 4) (pa_cons (pe_mt0 c_number hr (by omega) (pv 2)) pa_nil)))))))) pss_nil)
      (pss_cons (ps_if (pt_cmpR op_eq (pv 0) (pe_gi T.g_CLASH) (nomark _)) (pss_one (ps_ret (pe_mt c_clash hr (by omega) (pv 1) (pa_cons (pe_mt0 c_number hr (by omega) (pv 2)) pa_nil)))) pss_nil)
      (pss_cons (ps_if (pt_cmpR op_eq (pv 0) (pe_gi T.g_EACH) (nomark _)) (pss_cons (ps_set (i := 5) sc_answer_search.nd rfl (Or.inl rfl) (pe_mt0 c_number hr (by omega) (pv 2)))
      (pss_one (ps_ret (pe_mt c_each hr (by omega) (pv 1) (pa_cons (pv 5) (pa_cons (pe_mt0 c_row hr (by omega) (pv 2)) pa_nil)))))) pss_nil)
      (pss_one ps_never)))))), ?_⟩
  have nR : ∀ n, (rdF l n).lookup ("row" : Str) = none := fun n => rdF_no l n (by decide +kernel) (by decide +kernel)
  have nN : ∀ n, (rdF l n).lookup ("number" : Str) = none := fun n => rdF_no l n (by decide +kernel) (by decide +kernel)
  have nO : ∀ {m : Str}, (m == ("kept" : Str)) = false → (m == ("given" : Str)) = false → (m == ("alphabet" : Str)) = false → (ofF d g.given al).lookup m = none := fun h1 h2 h3 => ofF_no _ _ _ h1 h2 h3
  have offAt : ∀ {H' : Hp}, Kp1 a H H' → ∃ dy, H' o = some (ofO CO dy d g.given al) := fun k => (off_kp1 S ha k).ob
  generalize hc : cs.drop n = x at hrd
  have h5 : k = 5 ∨ k = 6 ∨ k = 7 ∨ k = 8 ∨ k = 9 := by omega
  rcases h5 with rfl | rfl | rfl | rfl | rfl
  · cases hrd with
    | @fine m =>
      obtain ⟨dy, ho⟩ := offAt (.refl a H)
      refine ⟨_, rfl, rfl, _, rfl, if_t (by decide) ?_⟩
      refine ⟨_, rfl, o, dy, _, rfl, ho, nO (by decide +kernel) (by decide +kernel) (by decide +kernel), _, rfl, a, dx, _, rfl, ha, nN _, tnil <| rd_num ha hl hc fun H2 ha2 hl2 k2 h2 => tnil ?_⟩
      exact after_off (rest := [.int (m : Int)]) (off_kp1 S ha k2) (tabs_kp1 hT ha k2) ha2 k2 h2 (drop_le hc) (by omega) ⟨m, rfl, rfl⟩ q
  · cases hrd with
    | @alone k1 m =>
      refine ⟨_, rfl, rfl, _, rfl, if_f (by decide) ?_⟩
      refine ⟨_, rfl, rfl, _, rfl, if_t (by decide) ?_⟩
      refine ⟨_, rfl, a, dx, _, rfl, ha, nN _, tnil <| rd_num ha hl hc fun H1 ha1 hl1 kp1 h1 => ?_⟩
      obtain ⟨dy, ho⟩ := offAt kp1
      refine ⟨_, rfl, o, dy, _, rfl, ho, nO (by decide +kernel) (by decide +kernel) (by decide +kernel), _, rfl, _, rfl, a, dx, _, rfl, ha1, nN _, tnil <| rd_num ha1 hl1 h1 fun H2 ha2 hl2 kp2 h2 => tnil ?_⟩
      have k12 := kp1.trans kp2
      exact after_off (rest := [.int (k1 : Int), .int (m : Int)]) (off_kp1 S ha k12) (tabs_kp1 hT ha k12) ha2 k12 h2 (drop_le h1) (by omega) ⟨k1, m, rfl, rfl⟩ q
  · cases hrd with
    | @apart k1 j m =>
      refine ⟨_, rfl, rfl, _, rfl, if_f (by decide) ?_⟩
      refine ⟨_, rfl, rfl, _, rfl, if_f (by decide) ?_⟩
      refine ⟨_, rfl, rfl, _, rfl, if_t (by decide) ?_⟩
      refine ⟨_, rfl, a, dx, _, rfl, ha, nN _, tnil <| rd_num ha hl hc fun H1 ha1 hl1 kp1 h1 => ?_⟩
      refine ⟨_, rfl, a, dx, _, rfl, ha1, nN _, tnil <| rd_num ha1 hl1 h1 fun H2 ha2 hl2 kp2 h2 => ?_⟩
      have k12 := kp1.trans kp2
      obtain ⟨dy, ho⟩ := offAt k12
      refine ⟨_, rfl, o, dy, _, rfl, ho, nO (by decide +kernel) (by decide +kernel) (by decide +kernel), _, rfl, _, rfl, _, rfl, a, dx, _, rfl, ha2, nN _, tnil <| rd_num ha2 hl2 h2 fun H3 ha3 hl3 kp3 h3 => tnil ?_⟩
      have k13 := k12.trans kp3
      exact after_off (rest := [.int (k1 : Int), .int (j : Int), .int (m : Int)]) (off_kp1 S ha k13) (tabs_kp1 hT ha k13) ha3 k13 h3 (drop_le h2) (by omega) ⟨k1, j, m, rfl, rfl⟩ q
  · cases hrd with
    | @clash m =>
      obtain ⟨dy, ho⟩ := offAt (.refl a H)
      refine ⟨_, rfl, rfl, _, rfl, if_f (by decide) ?_⟩
      refine ⟨_, rfl, rfl, _, rfl, if_f (by decide) ?_⟩
      refine ⟨_, rfl, rfl, _, rfl, if_f (by decide) ?_⟩
      refine ⟨_, rfl, rfl, _, rfl, if_t (by decide) ?_⟩
      refine ⟨_, rfl, o, dy, _, rfl, ho, nO (by decide +kernel) (by decide +kernel) (by decide +kernel), _, rfl, a, dx, _, rfl, ha, nN _, tnil <| rd_num ha hl hc fun H2 ha2 hl2 k2 h2 => tnil ?_⟩
      exact after_off (rest := [.int (m : Int)]) (off_kp1 S ha k2) (tabs_kp1 hT ha k2) ha2 k2 h2 (drop_le hc) (by omega) ⟨m, rfl, rfl⟩ q
  · cases hrd with
    | @each m s _ ls =>
      refine ⟨_, rfl, rfl, _, rfl, if_f (by decide) ?_⟩
      refine ⟨_, rfl, rfl, _, rfl, if_f (by decide) ?_⟩
      refine ⟨_, rfl, rfl, _, rfl, if_f (by decide) ?_⟩
      refine ⟨_, rfl, rfl, _, rfl, if_f (by decide) ?_⟩
      refine ⟨_, rfl, rfl, _, rfl, if_t (by decide) ?_⟩
      refine ⟨_, rfl, a, dx, _, rfl, ha, nN _, tnil <| rd_num ha hl hc fun H1 ha1 hl1 kp1 h1 => ?_⟩
      obtain ⟨dy, ho⟩ := offAt kp1
      refine ⟨_, rfl, o, dy, _, rfl, ho, nO (by decide +kernel) (by decide +kernel) (by decide +kernel), _, rfl, _, rfl, a, dx, _, rfl, ha1, nR _, tnil <| rd_row ha1 hl1 h1 fun H2 p2 ha2 hl2 kp2 np2 hp2 h2 => tnil ?_⟩
      have k12 := kp1.trans kp2
      exact after_off (rest := [.int (m : Int), .ref p2]) (off_kp1 S ha k12) (tabs_kp1 hT ha k12) ha2 k12 h2 (drop_row h1) (by omega) ⟨m, p2, s, rfl, SqL.of hp2, rfl⟩ q
theorem ok_answer_call (F : Fun K "answer_call" "answer_call" s_answer_call f fd) (T : Txt K mg CR CO) (c_number : Met P w K mg base 1 CR "number" ["self"] (spNumber K CR)) (c_row : Met P w K mg base 2 CR "row" ["self"] (spRow K CR))
    (c_check : Met P w K mg base 15 CO "check" ["self", "conditions"] (spOffT Tt CO (aCheck K))) (c_gone : Met P w K mg base 1 CO "gone" ["self", "number"] (spOffT Tt CO aGone)) (c_letters : Met P w K mg base 3 CO "letters" ["self", "alphabet"] (spOffT Tt CO (aLetters K)))
    (c_checks : Met P w K mg base 2 CO "checks" ["self"] (spOffT Tt CO aChecks)) (c_answer_about_pair : Cal P w K mg base 18 "answer_about_pair" ["call", "office", "reader"] (spPairCall Tt K CR CO)) (c_answer_search : Cal P w K mg base 20 "answer_search" ["call", "office", "reader"] (spSearchCall Tt K CR CO)) : FnOk P w K mg base CX0 21 f fd ["office", "reader"] (spAnswerCall Tt K CR CO) := by
  refine F.ok sc_answer_call (fun vs H Q E h => ?_) (fun cdv A outer s H vs Q E hr h => ?_)
  · obtain ⟨o, d, al, a, dx, l, cs, n, g, c, r, rfl, _⟩ := h
    rfl
  obtain ⟨o, d, al, a, dx, l, cs, n, g, c, r, rfl, S, hT, ha, hl, hn, hrd, q0⟩ := h
  refine ⟨_, (pss_cons (ps_set (i := 2) sc_answer_call.nd rfl (Or.inl rfl) (pe_mt0 c_number hr (by omega) (pv 1)))
      (pss_cons (ps_if (pt_cmpR op_eq (pv 2) (pe_gi T.g_CHECK) (nomark _)) (pss_one (ps_ret (pe_mt c_check hr (by omega) (pv 0) (pa_cons (pe_mt0 c_row hr (by omega) (pv 1)) pa_nil)))) pss_nil)
      (pss_cons (ps_if (pt_cmpR op_eq (pv 2) (pe_gi T.g_GONE) (nomark _)) (pss_one (ps_ret (pe_mt c_gone hr (by omega) (pv 0) (pa_cons (pe_mt0 c_number hr (by omega) (pv 1)) pa_nil)))) pss_nil)
      (pss_cons (ps_if (pt_cmpR op_eq (pv 2) (pe_gi T.g_LETTERS) (nomark _)) (pss_one (ps_ret (pe_mt c_letters hr (by omega) (pv 0) (pa_cons (pe_mt0 c_row hr (by omega) (pv 1)) pa_nil)))) pss_nil)
      (pss_cons (ps_if (PW.pt (pw_or (pt_cmpR op_eq (pv 2) (pe_gi T.g_RUN) (nomark _)) (pw_or1 (pt_cmpR op_eq (pv 2) (pe_gi T.g_VALUE) (nomark _))))) (pss_one (ps_ret (pe_c c_answer_about_pair hr (by omega) rfl (pa_cons (pv 2) (pa_cons (pv 0) (pa_cons (pv 1) pa_nil)))))) pss_nil)
      (pss_cons (ps_if (pt_cmpR op_eq (pv 2) (pe_gi T.g_CHECKS) (nomark _)) (pss_one (ps_ret (pe_mt0 c_checks hr (by omega) (pv 0)))) pss_nil)
      (pss_one (ps_ret (pe_c c_answer_search hr (by omega) rfl (pa_cons (pv 2) (pa_cons (pv 0) (pa_cons (pv 1) pa_nil)))))))))))), ?_⟩
  have nR : ∀ n, (rdF l n).lookup ("row" : Str) = none := fun n => rdF_no l n (by decide +kernel) (by decide +kernel)
  have nN : ∀ n, (rdF l n).lookup ("number" : Str) = none := fun n => rdF_no l n (by decide +kernel) (by decide +kernel)
  have q : ∀ {H1 : Hp}, H1 a = some (rdO CR dx l (n + 1)) → Kp1 a H H1 → After Tt CR CO H1 o d al a dx l cs (n + 1) g c r Q := fun ha1 k1 => by
    have fr := fun b => kp1_fr (b := b) k1
    intro H' al' p m' S2 T2 hal ha' hd hm hn' k2 hp hp2
    refine q0 H' al' p m' S2 T2 ?_ ha' hd hm hn' (fun b u e nt n1 n2 n3 => k2 _ _ (k1 b u e n1) nt n1 n2 n3) ?_ hp2
    · rcases hal with h | h
      · exact .inl h
      · rcases fr _ h with h | h
        · exact .inr h
        · subst h; rw [ha1] at h; cases h
    · rcases fr _ hp with h | h
      · exact h
      · subst h; rw [ha1] at hp; cases hp
  generalize hc : cs.drop n = x at hrd
  cases hrd with
  | @check row l1 _ x m e1 e2 e3 =>
    refine ⟨_, rfl, a, dx, _, rfl, ha, nN _, tnil <| rd_num ha hl hc fun H1 ha1 hl1 k1 h1 => ?_⟩
    refine ⟨_, rfl, rfl, _, rfl, if_t (by decide) ?_⟩
    have S1 := off_kp1 S ha k1
    obtain ⟨⟨dy, ho⟩, _, _, _⟩ := id S1
    refine ⟨_, rfl, o, dy, _, rfl, ho, ofF_no _ _ _ (by decide +kernel) (by decide +kernel) (by decide +kernel), _, rfl, a, dx, _, rfl, ha1, nR _, tnil <| rd_row ha1 hl1 h1 fun H2 p2 ha2 hl2 k2 np2 hp2 h2 => tnil ?_⟩
    refine after_off (rest := [.ref p2]) (off_kp1 S1 ha1 k2) (tabs_kp1 (tabs_kp1 hT ha k1) ha1 k2) ha2 k2 h2 (drop_row h1) (by omega) ?_ (q ha1 k1)
    exact ⟨p2, row, l1, x, m, rfl, SqL.of hp2, e1, e2, rfl⟩
  | @gone k =>
    refine ⟨_, rfl, a, dx, _, rfl, ha, nN _, tnil <| rd_num ha hl hc fun H1 ha1 hl1 k1 h1 => ?_⟩
    refine ⟨_, rfl, rfl, _, rfl, if_f (by decide) ?_⟩
    refine ⟨_, rfl, rfl, _, rfl, if_t (by decide) ?_⟩
    have S1 := off_kp1 S ha k1
    obtain ⟨⟨dy, ho⟩, _, _, _⟩ := id S1
    refine ⟨_, rfl, o, dy, _, rfl, ho, ofF_no _ _ _ (by decide +kernel) (by decide +kernel) (by decide +kernel), _, rfl, a, dx, _, rfl, ha1, nN _, tnil <| rd_num ha1 hl1 h1 fun H2 ha2 hl2 k2 h2 => tnil ?_⟩
    exact after_off (rest := [.int (k : Int)]) (off_kp1 S1 ha1 k2) (tabs_kp1 (tabs_kp1 hT ha k1) ha1 k2) ha2 k2 h2 (drop_le h1) (by omega) ⟨k, rfl, rfl⟩ (q ha1 k1)
  | @letters b _ e1 =>
    refine ⟨_, rfl, a, dx, _, rfl, ha, nN _, tnil <| rd_num ha hl hc fun H1 ha1 hl1 k1 h1 => ?_⟩
    refine ⟨_, rfl, rfl, _, rfl, if_f (by decide) ?_⟩
    refine ⟨_, rfl, rfl, _, rfl, if_f (by decide) ?_⟩
    refine ⟨_, rfl, rfl, _, rfl, if_t (by decide) ?_⟩
    have S1 := off_kp1 S ha k1
    obtain ⟨⟨dy, ho⟩, _, _, _⟩ := id S1
    refine ⟨_, rfl, o, dy, _, rfl, ho, ofF_no _ _ _ (by decide +kernel) (by decide +kernel) (by decide +kernel), _, rfl, a, dx, _, rfl, ha1, nR _, tnil <| rd_row ha1 hl1 h1 fun H2 p2 ha2 hl2 k2 np2 hp2 h2 => tnil ?_⟩
    exact after_off (rest := [.ref p2]) (off_kp1 S1 ha1 k2) (tabs_kp1 (tabs_kp1 hT ha k1) ha1 k2) ha2 k2 h2 (drop_row h1) (by omega) ⟨p2, b, rfl, SqL.of hp2, rfl⟩ (q ha1 k1)
  | @run s t _ ls lt =>
    refine ⟨_, rfl, a, dx, _, rfl, ha, nN _, tnil <| rd_num ha hl hc fun H1 ha1 hl1 k1 h1 => ?_⟩
    refine ⟨_, rfl, rfl, _, rfl, if_f (by decide) ?_⟩
    refine ⟨_, rfl, rfl, _, rfl, if_f (by decide) ?_⟩
    refine ⟨_, rfl, rfl, _, rfl, if_f (by decide) ?_⟩
    refine ⟨_, rfl, rfl, _, rfl, if_t (by decide) (if_t rfl ?_)⟩
    exact ⟨_, rfl, _, rfl, _, rfl, o, d, al, a, dx, l, cs, n + 1, 3, g, _, r, rfl, off_kp1 S ha k1, tabs_kp1 hT ha k1, ha1, hl1, drop_le hc, by rw [h1]; exact .run ls lt, .inl rfl, q ha1 k1⟩
  | @value s t u _ x ls lt lu hx =>
    refine ⟨_, rfl, a, dx, _, rfl, ha, nN _, tnil <| rd_num ha hl hc fun H1 ha1 hl1 k1 h1 => ?_⟩
    refine ⟨_, rfl, rfl, _, rfl, if_f (by decide) ?_⟩
    refine ⟨_, rfl, rfl, _, rfl, if_f (by decide) ?_⟩
    refine ⟨_, rfl, rfl, _, rfl, if_f (by decide) ?_⟩
    refine ⟨_, rfl, rfl, _, rfl, if_f (by decide) ⟨_, rfl, rfl, _, rfl, if_t (by decide) ?_⟩⟩
    exact ⟨_, rfl, _, rfl, _, rfl, o, d, al, a, dx, l, cs, n + 1, 4, g, _, r, rfl, off_kp1 S ha k1, tabs_kp1 hT ha k1, ha1, hl1, drop_le hc, by rw [h1]; exact .value ls lt lu hx, .inr rfl, q ha1 k1⟩
  | @fine k =>
    refine ⟨_, rfl, a, dx, _, rfl, ha, nN _, tnil <| rd_num ha hl hc fun H1 ha1 hl1 k1 h1 => ?_⟩
    refine ⟨_, rfl, rfl, _, rfl, if_f (by decide) ?_⟩
    refine ⟨_, rfl, rfl, _, rfl, if_f (by decide) ?_⟩
    refine ⟨_, rfl, rfl, _, rfl, if_f (by decide) ?_⟩
    refine ⟨_, rfl, rfl, _, rfl, if_f (by decide) ⟨_, rfl, rfl, _, rfl, if_f (by decide) ?_⟩⟩
    refine ⟨_, rfl, rfl, _, rfl, if_f (by decide) ?_⟩
    exact ⟨_, rfl, _, rfl, _, rfl, o, d, al, a, dx, l, cs, n + 1, 5, g, _, r, rfl, off_kp1 S ha k1, tabs_kp1 hT ha k1, ha1, hl1, drop_le hc, by rw [h1]; exact .fine, by omega, q ha1 k1⟩
  | @alone k m =>
    refine ⟨_, rfl, a, dx, _, rfl, ha, nN _, tnil <| rd_num ha hl hc fun H1 ha1 hl1 k1 h1 => ?_⟩
    refine ⟨_, rfl, rfl, _, rfl, if_f (by decide) ?_⟩
    refine ⟨_, rfl, rfl, _, rfl, if_f (by decide) ?_⟩
    refine ⟨_, rfl, rfl, _, rfl, if_f (by decide) ?_⟩
    refine ⟨_, rfl, rfl, _, rfl, if_f (by decide) ⟨_, rfl, rfl, _, rfl, if_f (by decide) ?_⟩⟩
    refine ⟨_, rfl, rfl, _, rfl, if_f (by decide) ?_⟩
    exact ⟨_, rfl, _, rfl, _, rfl, o, d, al, a, dx, l, cs, n + 1, 6, g, _, r, rfl, off_kp1 S ha k1, tabs_kp1 hT ha k1, ha1, hl1, drop_le hc, by rw [h1]; exact .alone, by omega, q ha1 k1⟩
  | @apart k j m =>
    refine ⟨_, rfl, a, dx, _, rfl, ha, nN _, tnil <| rd_num ha hl hc fun H1 ha1 hl1 k1 h1 => ?_⟩
    refine ⟨_, rfl, rfl, _, rfl, if_f (by decide) ?_⟩
    refine ⟨_, rfl, rfl, _, rfl, if_f (by decide) ?_⟩
    refine ⟨_, rfl, rfl, _, rfl, if_f (by decide) ?_⟩
    refine ⟨_, rfl, rfl, _, rfl, if_f (by decide) ⟨_, rfl, rfl, _, rfl, if_f (by decide) ?_⟩⟩
    refine ⟨_, rfl, rfl, _, rfl, if_f (by decide) ?_⟩
    exact ⟨_, rfl, _, rfl, _, rfl, o, d, al, a, dx, l, cs, n + 1, 7, g, _, r, rfl, off_kp1 S ha k1, tabs_kp1 hT ha k1, ha1, hl1, drop_le hc, by rw [h1]; exact .apart, by omega, q ha1 k1⟩
  | @clash m =>
    refine ⟨_, rfl, a, dx, _, rfl, ha, nN _, tnil <| rd_num ha hl hc fun H1 ha1 hl1 k1 h1 => ?_⟩
    refine ⟨_, rfl, rfl, _, rfl, if_f (by decide) ?_⟩
    refine ⟨_, rfl, rfl, _, rfl, if_f (by decide) ?_⟩
    refine ⟨_, rfl, rfl, _, rfl, if_f (by decide) ?_⟩
    refine ⟨_, rfl, rfl, _, rfl, if_f (by decide) ⟨_, rfl, rfl, _, rfl, if_f (by decide) ?_⟩⟩
    refine ⟨_, rfl, rfl, _, rfl, if_f (by decide) ?_⟩
    exact ⟨_, rfl, _, rfl, _, rfl, o, d, al, a, dx, l, cs, n + 1, 8, g, _, r, rfl, off_kp1 S ha k1, tabs_kp1 hT ha k1, ha1, hl1, drop_le hc, by rw [h1]; exact .clash, by omega, q ha1 k1⟩
  | @each m s _ ls =>
    refine ⟨_, rfl, a, dx, _, rfl, ha, nN _, tnil <| rd_num ha hl hc fun H1 ha1 hl1 k1 h1 => ?_⟩
    refine ⟨_, rfl, rfl, _, rfl, if_f (by decide) ?_⟩
    refine ⟨_, rfl, rfl, _, rfl, if_f (by decide) ?_⟩
    refine ⟨_, rfl, rfl, _, rfl, if_f (by decide) ?_⟩
    refine ⟨_, rfl, rfl, _, rfl, if_f (by decide) ⟨_, rfl, rfl, _, rfl, if_f (by decide) ?_⟩⟩
    refine ⟨_, rfl, rfl, _, rfl, if_f (by decide) ?_⟩
    exact ⟨_, rfl, _, rfl, _, rfl, o, d, al, a, dx, l, cs, n + 1, 9, g, _, r, rfl, off_kp1 S ha k1, tabs_kp1 hT ha k1, ha1, hl1, drop_le hc, by rw [h1]; exact .each ls, by omega, q ha1 k1⟩
  | checks =>
    refine ⟨_, rfl, a, dx, _, rfl, ha, nN _, tnil <| rd_num ha hl hc fun H1 ha1 hl1 k1 h1 => ?_⟩
    refine ⟨_, rfl, rfl, _, rfl, if_f (by decide) ?_⟩
    refine ⟨_, rfl, rfl, _, rfl, if_f (by decide) ?_⟩
    refine ⟨_, rfl, rfl, _, rfl, if_f (by decide) ?_⟩
    refine ⟨_, rfl, rfl, _, rfl, if_f (by decide) ⟨_, rfl, rfl, _, rfl, if_f (by decide) ?_⟩⟩
    refine ⟨_, rfl, rfl, _, rfl, if_t (by decide) ?_⟩
    have S1 := off_kp1 S ha k1
    obtain ⟨⟨dy, ho⟩, _, _, _⟩ := id S1
    refine ⟨_, rfl, o, dy, _, rfl, ho, ofF_no _ _ _ (by decide +kernel) (by decide +kernel) (by decide +kernel), tnil ?_⟩
    exact after_off (rest := []) S1 (tabs_kp1 hT ha k1) ha1 (.refl a H1) h1 (drop_le hc) (by omega) ⟨rfl, rfl⟩ (q ha1 k1)
end
end Pc

namespace Pc
open PySem PySem.Spec PyProof.Rows L2 LamX
/-- the calls on one list -/
def spCalls (Tt : List (Addr × Str)) (K : PySem.W.Frag) : Sp := fun vs H Q _ => ∃ (l : Addr) (cs : List Nat) (xs : List Ut12.Call), vs = [.ref l] ∧ SqL K H l (vi cs) ∧ Tabs Tt H ∧ Rd cs xs ∧ (PyFlat.told (plays Ut12.init xs)).length ≤ 10000000 ∧
  ∀ (H' : Hp) (p : Addr), H' p = some (.lst ((PyFlat.told (plays Ut12.init xs)).map V.int)) → Q (.ref p) H'
/-- the place of a reader -/
def placeOf : Option HO → Nat
  | some (.ins _ _ [_, (_, .int z)]) => z.toNat
  | _ => 0
theorem placeOf_rd (C dx l : Addr) (n : Nat) : placeOf (some (rdO C dx l n)) = n := rfl
theorem told_cons (x : List Int) (r : List (List Int)) : PyFlat.told (x :: r) = ((x.length : Int) :: x) ++ PyFlat.told r := rfl
section
variable {P : Program} {w : World} {K : PySem.W.Frag} {mg : Str → Option Value} {base : Heap} {CR CO : Addr} {f : Addr} {fd : FuncData} {Tt : List (Addr × Str)}
theorem ok_answers (F : Fun K "answers" "answers" s_answers f fd) (T : Txt K mg CR CO) (c_Office : Mak P w K mg base 1 CO "Office" ["self"] (spOInit CO)) (c_Reader : Mak P w K mg base 1 CR "Reader" ["self", "numbers"] (spRInit CR))
    (c_at_end : Met P w K mg base 1 CR "at_end" ["self"] (spAtEnd K CR)) (c_counted : Cal P w K mg base 1 "counted" ["row"] spCounted) (c_answer_call : Cal P w K mg base 21 "answer_call" ["office", "reader"] (spAnswerCall Tt K CR CO)) : FnOk P w K mg base CX0 22 f fd ["calls"] (spCalls Tt K) := by
  refine F.ok sc_answers (fun vs H Q E h => ?_) (fun cdv A outer s H vs Q E hr h => ?_)
  · obtain ⟨l, cs, xs, rfl, _⟩ := h
    rfl
  obtain ⟨l, cs, xs, rfl, hl, hT, hrd, hlen, q⟩ := h
  refine ⟨_, (pss_cons (ps_set (i := 1) sc_answers.nd rfl (Or.inl rfl) (pe_mk0 c_Office hr (by omega) rfl))
      (pss_cons (ps_set (i := 2) sc_answers.nd rfl (Or.inl rfl) (pe_mk c_Reader hr (by omega) rfl (pa_cons (pv 0) pa_nil)))
      (pss_cons (ps_set (i := 3) sc_answers.nd rfl (Or.inl rfl) (pe_lst pa_nil))
      (pss_cons (ps_while PassesOwn.never (pt_not (pt_val (pe_mt0 c_at_end hr (by omega) (pv 2)))) (pss_one (ps_expr (pe_bm PySem.F.plainAttrs_list PySem.F.slot_list_extend PySem.F.type_list_extend mt_extend (pv 3) (pa_cons (pe_c c_counted hr (by omega) rfl (pa_cons (pe_c c_answer_call hr (by omega) rfl (pa_cons (pv 1) (pa_cons (pv 2) pa_nil))) pa_nil)) pa_nil)))))
      (pss_one (ps_ret (pv 3))))))), ?_⟩
  -- office = Office()
  intro o dy no ndy _
  refine ⟨o, dy, rfl, upd_same, fun H1 d al nd nal S1 k1 => ⟨rfl, ?_⟩⟩
  have s1 : Same H H1 := fun b u e => k1 b u (by rw [upd_ne (ne_of_none e no), upd_ne (ne_of_none e ndy)]; exact e) (ne_of_none e no)
  -- reader = Reader(calls)
  refine ⟨_, rfl, tnil fun a dx na ndx _ => mk_rd na ndx (s1.seq hl) fun H2 s2 ha hl2 => ⟨rfl, ?_⟩⟩
  refine ⟨(by show 0 ≤ sizeLine; decide), fun y hy => ?_⟩
  have s3 := same_new hy (.lst [])
  have S3 := (S1.same s2).same s3
  have nal3 : al ≠ y := ne_of_none (s2 _ _ S1.le) hy
  have hlY : l ≠ y ∨ ∀ H'', SqL K H'' l (vi cs) := by
    rcases hl with h | h
    · refine .inl ?_
      rcases h with h | ⟨ob, h⟩
      · exact ne_of_none (s2 _ _ (s1 _ _ h)) hy
      · exact ne_of_none (s2 _ _ (s1 _ _ h)) hy
    · exact .inr fun H'' => .inr h
  have nya : ∀ {C dx l n} {H' : Hp}, H' a = some (rdO C dx l n) → ∀ {zs}, H' y = some (.lst zs) → a ≠ y := fun h1 zs h2 => ne_of h1 h2 (by intro z; cases z)
  refine while_by (fun σ H' => ∃ (g : Ut12.House) (al : Addr) (n : Nat) (xs' : List Ut12.Call) (out : List Int), σ = [some (.ref l), some (.ref o), some (.ref a), some (.ref y)] ∧ OffAt CO H' o d al g ∧ Tabs Tt H' ∧ al ≠ y ∧ H' a = some (rdO CR dx l n) ∧ SqL K H' l (vi cs) ∧ n ≤ cs.length ∧ Rd (cs.drop n) xs' ∧
      H' y = some (.lst (out.map V.int)) ∧ out ++ PyFlat.told (plays g xs') = PyFlat.told (plays Ut12.init xs)) (fun _ H' => cs.length - placeOf (H' a)) ⟨Ut12.init, al, 0, xs, [], rfl, S3, ((hT.ext s1).ext s2).ext s3, nal3, s3 _ _ ha, s3.seq hl2, Nat.zero_le _, hrd, upd_same, rfl⟩ ?_ ?_
  · rintro σ H4 ⟨g, al, n, xs', out, rfl, S, hT4, naly, ha, hl, hn, hrd, hy, eq⟩
    have no : ∀ n, (rdF l n).lookup ("at_end" : Str) = none := fun n => rdF_no l n (by decide +kernel) (by decide +kernel)
    refine ⟨_, rfl, a, dx, _, rfl, ha, no _, tnil (?_ : spAtEnd K CR [.ref a] _ _ _)⟩
    refine ⟨a, dx, l, cs, n, rfl, ha, hl, _, rfl, ?_⟩
    cases hrd' : xs' with
    | nil =>
      subst hrd'
      have e0 : cs.drop n = [] := by cases h : cs.drop n with | nil => rfl | cons _ _ => rw [h] at hrd; cases hrd
      have e1 : n = cs.length := by
        have := congrArg List.length e0
        rw [List.length_drop] at this
        have : cs.length - n = 0 := this
        omega
      rw [decide_eq_true e1]
      refine if_f rfl ?_
      refine ⟨_, rfl, q H4 y ?_⟩
      rw [hy, ← eq]
      show _ = some (HO.lst ((out ++ PyFlat.told []).map V.int))
      rw [show PyFlat.told [] = [] from rfl, List.append_nil]
    | cons c xs'' =>
      subst hrd'
      generalize hdr : cs.drop n = dr at hrd
      cases hrd with
      | @cons _ r _ _ hc hrest =>
        have e1 : ¬ n = cs.length := fun e => by
          rw [e, List.drop_length] at hdr
          subst hdr
          cases hc
        rw [decide_eq_false e1]
        refine if_t rfl ?_
        have hc' : RdCall (cs.drop n) c r := by rw [hdr]; exact hc
        refine ⟨_, rfl, .inl ⟨rfl, _, SqL.of hy⟩, _, rfl, _, rfl, o, d, al, a, dx, l, cs, n, g, c, r, rfl, S, hT4, ha, hl, hn, hc', fun H5 al5 p m S5 T5 hal ha5 hd5 hm hnm k5 hp hp5 => ?_⟩
        obtain ⟨⟨dz, ho4⟩, ⟨kvs, hdd, _⟩, _, _⟩ := id S
        have yo : y ≠ o := ne_of hy ho4 (by intro z; cases z)
        have yd : y ≠ d := ne_of hy hdd (by intro z; cases z)
        have ya : y ≠ a := (nya ha hy).symm
        have hy5 := k5 _ _ hy (fun ps z => by cases z) ya yo yd
        have yp : y ≠ p := ne_of_none hy hp
        have hl5 : SqL K H5 l (vi cs) := by
          rcases hl with h | h
          · refine .inl ?_
            rcases h with h | ⟨ob, h⟩
            · exact .inl (k5 _ _ h (fun ps z => by cases z) (ne_of h ha (by intro z; cases z)) (ne_of h ho4 (by intro z; cases z)) (ne_of h hdd (by intro z; cases z)))
            · exact .inr ⟨ob, k5 _ _ h (fun ps z => by cases z) (ne_of h ha (by intro z; cases z)) (ne_of h ho4 (by intro z; cases z)) (ne_of h hdd (by intro z; cases z))⟩
          · exact .inr h
        have nal5 : al5 ≠ y := by
          rcases hal with e | e
          · rw [e]; exact naly
          · exact fun z => by subst z; rw [hy] at e; cases e
        have eq2 : out ++ (((Ut12.step g c).2.length : Int) :: (Ut12.step g c).2 ++ PyFlat.told (plays (Ut12.step g c).1 xs'')) = PyFlat.told (plays Ut12.init xs) := eq
        have bnd : out.length + 1 + (Ut12.step g c).2.length ≤ 10000000 := by
          have e := congrArg List.length eq2
          rw [List.length_append, List.length_append, List.length_cons] at e
          omega
        have big : ∀ {k : Nat}, k ≤ 10000000 → k < sizeLine := fun h => Nat.lt_of_le_of_lt h (by decide)
        -- counted(answer), extend
        have len1 : ((Ut12.step g c).2.map V.int).length = (Ut12.step g c).2.length := List.length_map _
        refine ⟨p, _, rfl, hp5, by rw [len1]; exact big (by omega), fun H6 p6 k6 np6 hp6 => ?_⟩
        have hy6 := k6 _ _ hy5
        refine ⟨y, p6, _, _, rfl, rfl, hy6, hp6, ?_, ?_⟩
        · rw [List.length_map, List.length_cons, len1]
          exact Nat.le_of_lt (big (by omega))
        have kY : ∀ b u, b ≠ y → H6 b = some u → upd H6 y (.lst (out.map V.int ++ (.int (((Ut12.step g c).2.map V.int).length : Nat) :: (Ut12.step g c).2.map V.int))) b = some u := fun b u n e => by rw [upd_ne n]; exact e
        refine ⟨⟨(Ut12.step g c).1, al5, m, xs'', out ++ (((Ut12.step g c).2.length : Int) :: (Ut12.step g c).2), rfl, ?_, ?_, nal5, ?_, ?_, hm, by rw [hd5]; exact hrest, ?_, ?_⟩, ?_⟩
        · refine (S5.same k6).keep (fun b u hb e => kY b u ?_ e) (.upd _ hy6 fun xs z => by cases z)
          rcases hb with rfl | rfl | rfl
          · exact yo.symm
          · exact yd.symm
          · exact nal5
        · refine tabs_keep (T5.ext k6) fun b u e _ _ n3 => kY b u (fun z => ?_) e
          subst z
          rw [hy6] at e
          exact n3 _ (Option.some.inj e).symm
        · exact kY _ _ ya.symm (k6 _ _ ha5)
        · rcases hlY with ly | ly
          · rcases hl5 with h | h
            · refine .inl ?_
              rcases h with h | ⟨ob, h⟩
              · exact .inl (kY _ _ ly (k6 _ _ h))
              · exact .inr ⟨ob, kY _ _ ly (k6 _ _ h)⟩
            · exact .inr h
          · exact ly _
        · rw [upd_same]
          congr 1
          rw [List.map_append, List.map_cons, List.length_map]
        · rw [← eq2, List.append_assoc]
        · have e6 := kY _ _ ya.symm (k6 _ _ ha5)
          show cs.length - placeOf (upd H6 y _ a) < cs.length - placeOf (H4 a)
          rw [e6, ha, placeOf_rd, placeOf_rd]
          omega
  · intro σ H4 Q1 Q2 hq h
    obtain ⟨v, e, a', dx', fs, e1, e2, e3, a1, dx1, l1, cs1, n1, f1, f2, f3, b, f4, f5⟩ := h
    exact ⟨v, e, a', dx', fs, e1, e2, e3, a1, dx1, l1, cs1, n1, f1, f2, f3, b, f4, hq _ _ f5⟩
end
end Pc

/-! the end of a row with a specification whose program has tables of code objects -/
namespace Pc
open PySem PySem.Spec PyProof.Rows L2 LamX
/-- the tables beside what is handed in -/
def withT (ts : List Addr) (H0 : Hp) : Hp := fun b => if b ∈ ts then some (.tbl #[]) else H0 b
theorem withT_in {ts : List Addr} {H0 : Hp} {b : Addr} (h : b ∈ ts) : withT ts H0 b = some (.tbl #[]) := if_pos h
theorem withT_out {ts : List Addr} {H0 : Hp} {b : Addr} (h : b ∉ ts) : withT ts H0 b = H0 b := if_neg h
theorem spec_tab {P : Program} {w : World} {K : PySem.W.Frag} {mg mb : Str → Option Value} {k : Nat} {fa : Addr} {fd : FuncData} {ps : List Str} {sp : Sp} {s1 : Shared} {vals : List Value} {ds : List PySem.W.WData} {R : PySem.W.WRecords} {cl : Str → Option Addr} {d0 : PySem.W.WData} {cs : List (Addr × Addr)}
    (KX : K.In s1.heap) (hns : s1.heap.Ns mainGlobals mg) (hb : s1.heap.Ns builtinsNs mb) (hbb : ∀ x : Str, x ≠ "__name__" → mb x = bootBuiltins x) (hlim : s1.heap.NoLimit) (hg : s1.gens = #[])
    (hT : ∀ p ∈ cs, s1.heap.get? p.2 = some (PySem.W.tabObj #[])) (nT : ∀ p ∈ cs, K.lookup p.2 = none) (C : ∀ p ∈ cs, PySem.W.CodeHd s1.heap p.1 p.2)
    (hbm : ∃ (bm : Addr) (ob : Obj), mg "__builtins__" = some (.ref bm) ∧ bm ≠ builtinsNs ∧ s1.heap.get? bm = some ob ∧ ob.cls = .type "module" ∧ ob.dict = some builtinsNs ∧ ob.data = .plain)
    (hwl : PySem.W.WellAll w.params s1.heap vals ds) (hpl : plWs ds = true) (hwt : ∀ d ∈ ds, d.weight ≤ 1048576) (hr : Room k callerA)
    (F : ∀ base : Heap, K.In base → base.Ns mainGlobals mg → (∀ p ∈ cs, TabB base mg p.1 p.2) → FnOk P w K mg base CX0 k fa fd ps sp) (hbind : ∀ (s : Shared) (us : List Value), us.length = ps.length → BindsTo s fd ⟨us, []⟩ (ps.zip us)) (hlen : ds.length = ps.length)
    (hsp : ∀ (H0 H : Hp) (xs : List V), Same H0 H → (∀ p ∈ cs, H p.2 = some (.tbl #[])) → DwAll K H0 xs ds → sp xs H (fun v H' => Dw K H' v d0) fun _ _ _ => False) :
    codeAny (model P w) callerA (.call (.ref fa) ⟨vals, []⟩) (fun r s' => ∃ u as, r = .ok (.ret u) ∧ PySem.W.ReadsW R cl s'.heap u d0 as ∧ OldK s1.heap s'.heap ∧ s'.os = s1.os ∧ AllBare s'.gens) s1 := by
  obtain ⟨A, hA, ar⟩ := area_all ds vals hwl hpl hwt
  have hD := dw_all KX ar ds vals hwl hpl hA
  have hV := vals_toV hA
  have isT : ∀ b : Addr, b ∈ cs.map (·.2) → s1.heap.get? b = some (PySem.W.tabObj #[]) := fun b h => by
    obtain ⟨p, hp, e⟩ := List.mem_map.mp h
    rw [← e]
    exact hT p hp
  have memT : ∀ p ∈ cs, p.2 ∈ cs.map (·.2) := fun p hp => List.mem_map.mpr ⟨p, hp, rfl⟩
  have seq0 : ∀ b u, argH K s1.heap A b = some u → K.lookup b = none ∧ ∃ (o : Obj) (u' : HO) (vs : Array Value) (z : Nat), s1.heap.get? b = some o ∧ o.data = .seq vs z ∧ u = .frz o u' ∧ ∀ H : Hp, ObjOk P w H s1.heap b u := fun b u q => by
    obtain ⟨q1, us, l1, l2, q3⟩ := argH_is ar q
    refine ⟨q1, ?_⟩
    rcases q3 with ⟨e, rfl⟩ | ⟨e, rfl⟩
    · exact ⟨_, _, _, _, e, rfl, rfl, fun _ => ⟨e, (by rw [List.length_map]; exact l1), us, _, vals_toV l2, e⟩⟩
    · exact ⟨_, _, _, _, e, rfl, rfl, fun _ => ⟨e, (by rw [List.length_map]; exact l1), us, vals_toV l2, _, e, rfl, _, rfl⟩⟩
  generalize argH K s1.heap A = H0 at hD seq0
  have noT0 : ∀ b, b ∈ cs.map (·.2) → H0 b = none := fun b h => by
    cases q : H0 b with
    | none => rfl
    | some u =>
      obtain ⟨_, o, _, vs, z, e, ed, _⟩ := seq0 b u q
      rw [isT b h] at e
      cases e
      cases ed
  have s0 : Same H0 (withT (cs.map (·.2)) H0) := fun b u e => by
    rw [withT_out fun h => by rw [noT0 b h] at e; cases e]
    exact e
  have hH : ∀ p ∈ cs, withT (cs.map (·.2)) H0 p.2 = some (.tbl #[]) := fun p hp => withT_in (memT p hp)
  have hok : HOk P w (withT (cs.map (·.2)) H0) s1.heap := fun b u q => by
    by_cases h : b ∈ cs.map (·.2)
    · rw [withT_in h] at q
      cases q
      exact isT b h
    · rw [withT_out h] at q
      obtain ⟨_, _, _, _, _, _, _, _, z⟩ := seq0 b u q
      exact z _
  have trkd : ∀ b u, withT (cs.map (·.2)) H0 b = some u → K.lookup b = none ∧ ∃ o : Obj, s1.heap.get? b = some o ∧ ((∃ vs z, o.data = .seq vs z) ∨ o = PySem.W.tabObj #[]) := fun b u q => by
    by_cases h : b ∈ cs.map (·.2)
    · obtain ⟨p, hp, e⟩ := List.mem_map.mp h
      subst e
      exact ⟨nT p hp, _, hT p hp, .inr rfl⟩
    · rw [withT_out h] at q
      obtain ⟨z1, o, _, vs, z, e, ed, _⟩ := seq0 b u q
      exact ⟨z1, o, e, .inl ⟨vs, z, ed⟩⟩
  have free : ∀ {b : Addr} {o : Obj}, s1.heap.get? b = some o → (∀ vs z, o.data ≠ .seq vs z) → o ≠ PySem.W.tabObj #[] → withT (cs.map (·.2)) H0 b = none := fun {b o} e n1 n2 => by
    cases q : withT (cs.map (·.2)) H0 b with
    | none => rfl
    | some u =>
      obtain ⟨_, o', e', z⟩ := trkd b u q
      rw [e] at e'
      cases e'
      rcases z with ⟨vs, z, ed⟩ | ed
      · exact absurd ed (n1 vs z)
      · exact absurd ed n2
  have fin0 := hsp H0 _ _ s0 hH hD
  have frz0 : ∀ b, b ∉ cs.map (·.2) → withT (cs.map (·.2)) H0 b = none ∨ ∃ o u, withT (cs.map (·.2)) H0 b = some (.frz o u) := fun b h => by
    rw [withT_out h]
    cases q : H0 b with
    | none => exact .inl rfl
    | some u =>
      obtain ⟨_, o, u', _, _, _, _, rfl, _⟩ := seq0 b u q
      exact .inr ⟨o, u', rfl⟩
  generalize withT (cs.map (·.2)) H0 = H at fin0 hH hok trkd free frz0
  have toB : ∀ {b : Addr} {o : Obj}, s1.heap.get? b = some o → H b = none → (hidT s1.heap H).get? b = some o := fun e n => hidT_get e n
  have nsB : ∀ {b : Addr} {m : Str → Option Value}, s1.heap.Ns b m → (hidT s1.heap H).Ns b m := fun {b m} ⟨o, es, ep, e, d, r⟩ => ⟨o, es, ep, toB e (free e (fun vs z q => by rw [d] at q; cases q) fun q => by rw [q] at d; cases d), d, r⟩
  have KB : K.In (hidT s1.heap H) := fun b o e => toB (KX b o e) (by
    cases q : H b with
    | none => rfl
    | some u => rw [(trkd b u q).1] at e; cases e)
  have M : L2.Mod K mg (hidT s1.heap H) := ⟨KB, nsB hns, ⟨mb, nsB hb, hbb⟩, let ⟨mc, z1, z2⟩ := hlim; ⟨mc, nsB z1, z2⟩⟩
  have TB : ∀ p ∈ cs, TabB (hidT s1.heap H) mg p.1 p.2 := fun p hp => by
    refine ⟨?_, ?_, fun z => ?_⟩
    · obtain ⟨o, us, fl, tf, fg, tg, inF, tx, tt, e1, r1, r2, r3, r⟩ := C p hp
      refine ⟨o, us, fl, tf, fg, tg, inF, tx, tt, toB e1 (free e1 (fun vs z q => ?_) fun q => ?_), r1, r2, r3, r⟩
      · rw [r2] at q; cases q
      · rw [q] at r1; cases r1
    · obtain ⟨bm, ob, b1, b2, b3, b4, b5, b6⟩ := hbm
      refine ⟨bm, ob, b1, b2, fun q => ?_, fun q => ?_, toB b3 (free b3 (fun vs z q => ?_) fun q => ?_), b4, b5, b6⟩
      · obtain ⟨o, es, ep, e, d, _⟩ := hns
        rw [q, e] at b3
        cases b3
        rw [d] at b6
        cases b6
      · rw [q, hT p hp] at b3
        cases b3
        cases b6
      · rw [b6] at q; cases q
      · rw [q] at b6; cases b6
    · obtain ⟨o, es, ep, e, d, _⟩ := hns
      rw [z, hT p hp] at e
      cases e
      cases d
  have E0' : Env0 P w K mg (hidT s1.heap H) callerA [] s1 H := ⟨rfl, M, fun b o e => of_hidT e, Nat.le_of_eq (hidT_size _ _), trivial, fun b z => absurd (show b ∈ ([] : List Addr) from z) (by simp), hok, .of_eq hg⟩
  have hl : vals.length = ps.length := (wellAll_len hwl).trans hlen
  refine codeAny_mono ((F _ KB (nsB hns) TB).run callerA [] s1 H ⟨vals, []⟩ vals (vals.map toV) _ _ hr E0' (hbind s1 vals hl) hV fin0) fun r s' x => ?_
  cases r with
  | error e => exact (show False from x).elim
  | ok fl =>
    cases fl with
    | next => exact False.elim x
    | brk => exact False.elim x
    | cont => exact False.elim x
    | ret u =>
      obtain ⟨v, H', os, bare, un, hok', r', q⟩ := x
      have key : ∀ b o, b ∉ cs.map (·.2) → s1.heap.get? b = some o → s'.heap.get? b = some o := fun b o nb e => by
        rcases frz0 b nb with z | ⟨ob, u3, z⟩
        · exact un.keep b o e z (fun h => absurd (show b ∈ ([] : List Addr) from h) (by simp)) (by simp)
        · have z2 := un.frzs b ob _ z
          obtain ⟨e1, _⟩ := hok b _ z
          obtain ⟨e2, _⟩ := hok' b _ z2
          rw [e] at e1
          cases e1
          exact e2
      have grown : ∀ p ∈ cs, ∃ more : Array Value, s'.heap.get? p.2 = some { cls := .none, data := .fields more } := fun p hp => by
        obtain ⟨more, z⟩ := un.tbls p.2 #[] (hH p hp)
        exact ⟨_, hok' p.2 _ z⟩
      have KX' : K.In s'.heap := fun b o e => key b o (fun h => by
        obtain ⟨p, hp, ep⟩ := List.mem_map.mp h
        rw [← ep, nT p hp] at e
        cases e) (KX b o e)
      obtain ⟨as, hrd⟩ := Dw.reads (R := R) (cl := cl) hok' KX' d0 v u q r'
      refine ⟨u, as, rfl, hrd, ⟨fun b o e => ?_, fun b o e => ?_⟩, os, bare⟩
      · by_cases h : b ∈ cs.map (·.2)
        · obtain ⟨p, hp, ep⟩ := List.mem_map.mp h
          subst ep
          obtain ⟨more, hm⟩ := grown p hp
          have e2 := hT p hp
          rw [e] at e2
          cases e2
          exact .inr (.inl ⟨((C p hp).tab (hT p hp)).isCodeTable, rfl, #[], more, rfl, (by rw [Array.empty_append]; exact hm)⟩)
        · exact .inl (key b o h e)
      · by_cases h : b ∈ cs.map (·.2)
        · obtain ⟨p, hp, ep⟩ := List.mem_map.mp h
          subst ep
          obtain ⟨more, hm⟩ := grown p hp
          exact ⟨_, hm⟩
        · exact ⟨o, key b o h e⟩
/-- the goal that the head leaves, from the def's promise -/
theorem walk_tab {r : PySem.W.OpenSpec} {k : Nat} {q : Program} {loose : List Str} {XP : (Str → Option Value) → Heap → Prop} {YP : World → Heap → Prop} {d : DefRec} {K : Params → PySem.W.Frag} {ps : List Str} {sp : PySem.W.Frag → Sp} {cs : List (Addr × Addr)}
    (hwell : r.wellSaid = true) (hdf : d.params.defaults = []) (hlen : r.args.length = ps.length) (hr : Room k callerA) (hY : ∀ (w : World) (h : Heap), YP w h → (K w.params).In h) (hYT : ∀ (w : World) (h : Heap), YP w h → ∀ p ∈ cs, h.get? p.2 = some (PySem.W.tabObj #[]))
    (hK : ∀ (w : World) (h : Heap), YP w h → ∀ p ∈ cs, (K w.params).lookup p.2 = none ∧ PySem.W.CodeHd h p.1 p.2)
    (F : ∀ (w : World) (mg : Str → Option Value) (fa : Addr) (h : Heap), YP w h → (K w.params).In h → h.Ns mainGlobals mg → mg d.name = some (.ref fa) →
      ∃ fd : FuncData, (∀ (s : Shared) (us : List Value), us.length = ps.length → BindsTo s fd ⟨us, []⟩ (ps.zip us)) ∧
        ∀ base : Heap, (K w.params).In base → base.Ns mainGlobals mg → (∀ p ∈ cs, TabB base mg p.1 p.2) → FnOk r.prog w (K w.params) mg base CX0 k fa fd ps (sp (K w.params)))
    (hsp : ∀ (K : PySem.W.Frag) (H0 H : Hp) (xs : List V) (a : PySem.W.Codec.denoteAll r.args), Same H0 H → (∀ p ∈ cs, H p.2 = some (.tbl #[])) → PySem.W.Codec.withinAll r.args a = true → PySem.W.Codec.app r.args r.asked a = true → DwAll K H0 xs (PySem.W.Codec.encAll r.args a) →
      sp K xs H (fun v H' => Dw K H' v (r.ret.enc (PySem.W.Codec.app r.args r.f a))) fun _ _ _ => False) :
    PySem.W.WalkOS q loose XP YP r d [] (fun f vs => PySem.call f vs) := by
  intro w s0 s1 mg mb G Y fa o pm cd doc dV kV ho hd hcd hD hmg hg args vals as hpre hlay hrd hwl hlo
  obtain ⟨a, e1, e2⟩ := PySem.W.os_pre_some hpre
  obtain ⟨e3, hwi⟩ := PySem.W.Codec.encAll_of_decAll r.args args a e1
  subst e3
  have KX := hY w _ Y
  obtain ⟨fd, hb, hF⟩ := F w mg fa _ Y KX G.T.g hmg
  refine PySem.W.enter_call (codeAny_mono (spec_tab (R := []) (cl := classAt s0.heap) (d0 := r.ret.enc (PySem.W.Codec.app r.args r.f a)) KX G.T.g G.T.b G.T.builtins G.T.nolimit hg (hYT w _ Y) (fun p hp => (hK w _ Y p hp).1) (fun p hp => (hK w _ Y p hp).2) G.T.bmain hwl (pl_encAll _ _) (layable_weight hlay) hr hF hb
    (by rw [encAll_len]; exact hlen) (fun H0 H xs sm hH hS => hsp (K w.params) H0 H xs a sm hH hwi e2 hS)) fun r' s' hq => ?_)
  obtain ⟨u, as', rfl, z1, z2, z3, z4⟩ := hq
  exact ⟨.inl ⟨u, _, as', rfl, fun _ => rfl, z1, (PySem.W.OpenSpec.post_iff hwell hwi _ _).mpr rfl, fun z => Bool.noConfusion (show false = true from z)⟩, z2, z3, z4⟩
end Pc

namespace Pc
open PySem PySem.Spec PyProof.Rows L2 LamX
theorem cst_of {K : PySem.W.Frag} {h : Heap} {mg : Str → Option Value} {x : Str} {i : Int} {v : Value} (X : K.In h) (G : h.Ns mainGlobals mg) (e : PySem.W.nsIn K mainGlobals x = some (some v)) (e2 : ∃ t, v = .int i t) : Cst mg x i := by
  obtain ⟨t, rfl⟩ := e2
  exact ⟨t, PySem.W.mg_of X G e⟩
section
variable {P : Program} {w : World} {K : PySem.W.Frag} {mg : Str → Option Value} {base : Heap} {CR CO : Addr} {f : Addr} {fd : FuncData}
theorem all_read_term (F : Fun K "read_term" "read_term" s_read_term f fd) (T : Txt K mg CR CO) (hm : mg "read_term" = some (.ref f)) (b : Binds K fd ["reader"] []) (c_number : Met P w K mg base 1 CR "number" ["self"] (spNumber K CR)) :
    ∀ d, Cal P w K mg base (d + 1) "read_term" ["reader"] (spReadTerm K CR d)
  | 0 => ⟨f, fd, no_ok fun vs H Q E ⟨_, _, _, _, _, _, _, _, _, _, h, _⟩ => term_zero h, hm, F.kp, b⟩
  | d + 1 => ⟨f, fd, ok_read_term F T c_number (all_read_term F T hm b c_number d), hm, F.kp, b⟩
theorem all_term_value (F : Fun K "term_value" "term_value" s_term_value f fd) (T : Txt K mg CR CO) (hm : mg "term_value" = some (.ref f)) (b : Binds K fd ["term", "pair"] []) :
    ∀ d, Cal P w K mg base (d + 1) "term_value" ["term", "pair"] (spTermValue K d)
  | 0 => ⟨f, fd, no_ok fun vs H Q E ⟨_, _, t, _, _, _, h, _⟩ => by cases t <;> simp [tdep] at h, hm, F.kp, b⟩
  | d + 1 => ⟨f, fd, ok_term_value F T (all_term_value F T hm b d), hm, F.kp, b⟩
theorem all_read_condition (F : Fun K "read_condition" "read_condition" s_read_condition f fd) (T : Txt K mg CR CO) (hm : mg "read_condition" = some (.ref f)) (b : Binds K fd ["reader"] []) (c_number : Met P w K mg base 1 CR "number" ["self"] (spNumber K CR))
    (c_read_term : ∀ d, Cal P w K mg base (d + 1) "read_term" ["reader"] (spReadTerm K CR d)) : ∀ d, Cal P w K mg base (d + 1) "read_condition" ["reader"] (spReadCond K CR d)
  | 0 => ⟨f, fd, no_ok fun vs H Q E ⟨_, _, _, _, _, _, _, _, _, _, h, _⟩ => cond_zero h, hm, F.kp, b⟩
  | d + 1 => ⟨f, fd, ok_read_condition F T c_number (c_read_term d) (all_read_condition F T hm b c_number c_read_term d), hm, F.kp, b⟩
theorem all_holds (F : Fun K "holds" "holds" s_holds f fd) (T : Txt K mg CR CO) (hm : mg "holds" = some (.ref f)) (b : Binds K fd ["condition", "pair"] []) (c_term_value : ∀ d, Cal P w K mg base (d + 1) "term_value" ["term", "pair"] (spTermValue K d))
    (c_holds_of_words : Cal P w K mg base 2 "holds_of_words" ["condition", "words"] (spWords K)) : ∀ d, Cal P w K mg base (d + 2) "holds" ["condition", "pair"] (spHolds K d)
  | 0 => ⟨f, fd, no_ok fun vs H Q E ⟨_, _, c, _, _, _, h, _⟩ => by cases c <;> simp [cdep] at h, hm, F.kp, b⟩
  | d + 1 => ⟨f, fd, ok_holds F T (all_holds F T hm b c_term_value c_holds_of_words d) (c_term_value d) c_holds_of_words, hm, F.kp, b⟩
end
/-- the tables, each with the name of its lambda -/
def tabsOf (P1 P2 P3 : Addr) : List (Addr × Str) := [(P1, lamQ "Office.fine"), (P2, lamQ "Office.alone"), (P3, lamQ "Office.apart")]
theorem tabs_u1 {P1 P2 P3 : Addr} (n12 : P1 ≠ P2) (n13 : P1 ≠ P3) : ∀ p ∈ tabsOf P1 P2 P3, p.1 = P1 → p.2 = lamQ "Office.fine" := fun p hp e => by
  unfold tabsOf at hp
  rcases List.mem_cons.mp hp with h | h
  · rw [h]
  · rcases List.mem_cons.mp h with h | h
    · rw [h] at e; exact absurd e.symm n12
    · rw [List.mem_singleton.mp h] at e; exact absurd e.symm n13
theorem tabs_u2 {P1 P2 P3 : Addr} (n12 : P1 ≠ P2) (n23 : P2 ≠ P3) : ∀ p ∈ tabsOf P1 P2 P3, p.1 = P2 → p.2 = lamQ "Office.alone" := fun p hp e => by
  unfold tabsOf at hp
  rcases List.mem_cons.mp hp with h | h
  · rw [h] at e; exact absurd e n12
  · rcases List.mem_cons.mp h with h | h
    · rw [h]
    · rw [List.mem_singleton.mp h] at e; exact absurd e.symm n23
theorem tabs_u3 {P1 P2 P3 : Addr} (n13 : P1 ≠ P3) (n23 : P2 ≠ P3) : ∀ p ∈ tabsOf P1 P2 P3, p.1 = P3 → p.2 = lamQ "Office.apart" := fun p hp e => by
  unfold tabsOf at hp
  rcases List.mem_cons.mp hp with h | h
  · rw [h] at e; exact absurd e n13
  · rcases List.mem_cons.mp h with h | h
    · rw [h] at e; exact absurd e n23
    · rw [List.mem_singleton.mp h]
theorem tabs_start {P1 P2 P3 : Addr} {H : Hp} (h1 : H P1 = some (.tbl #[])) (h2 : H P2 = some (.tbl #[])) (h3 : H P3 = some (.tbl #[])) : Tabs (tabsOf P1 P2 P3) H := fun p hp => by
  unfold tabsOf at hp
  rcases List.mem_cons.mp hp with h | h
  · rw [h]; exact .nil h1
  · rcases List.mem_cons.mp h with h | h
    · rw [h]; exact .nil h2
    · rw [List.mem_singleton.mp h]; exact .nil h3
theorem all_mk {P : Program} {w : World} {K : PySem.W.Frag} {h : Heap} {mg : Str → Option Value} {fa CReader COffice f_fewest_in_each f_is_in_each f_share_one f_one_number_longer f_read_term f_term_value f_read_check f_read_condition f_breaks f_holds f_holds_of_words f_each_is_followed f_Reader___init__ f_Reader_at_end f_Reader_number f_Reader_row f_are_small f_is_sentence f_are_letters f_are_rising f_can_be_searched f_count_sentences f_sentences_in_order f_one_word_longer f_pairs_in_order f_Office___init__ f_Office_check f_Office_gone f_Office_letters f_Office_run f_Office_value f_Office_fine c_Office_fine f_Office_alone c_Office_alone f_Office_apart c_Office_apart f_Office_clash f_Office_each f_Office_checks f_Office_first_pair f_Office_broken_by f_Office_is_kept_by f_counted f_answers f_answer_call f_answer_about_pair f_answer_search P1 P2 P3 : Addr} {v_NUMBER v_LENGTH v_OCCURRENCES v_SUM v_ALWAYS v_NEVER v_BOTH v_EITHER v_OPPOSITE v_AT_MOST v_SAME v_BEGINS v_ENDS v_FOLLOWED v_LARGEST_WORD v_MOST_WORDS v_MOST_LETTERS v_MOST_SEARCHED_WORDS v_MOST_SEARCHED_SENTENCES v_CHECK v_GONE v_LETTERS v_RUN v_VALUE v_FINE v_ALONE v_APART v_CLASH v_EACH v_CHECKS v_BEYOND_BOUNDS v_NO_SUCH_CHECK v_NO_ROOM v_NOTHING_FOUND v_MOST_CHECKS : Value} (X : K.In h) (G : h.Ns mainGlobals mg) (hfa : mg "answers" = some (.ref fa)) (n12 : P1 ≠ P2) (n13 : P1 ≠ P3) (n23 : P2 ≠ P3)
    (aC_Reader : PySem.W.nsIn K mainGlobals "Reader" = some (some (.ref CReader)))
    (aC_Office : PySem.W.nsIn K mainGlobals "Office" = some (some (.ref COffice)))
    (a_fewest_in_each : PySem.W.nsIn K mainGlobals "fewest_in_each" = some (some (.ref f_fewest_in_each)))
    (d_fewest_in_each : ∃ fd, Fun K "fewest_in_each" "fewest_in_each" s_fewest_in_each f_fewest_in_each fd)
    (a_is_in_each : PySem.W.nsIn K mainGlobals "is_in_each" = some (some (.ref f_is_in_each)))
    (d_is_in_each : ∃ fd, Fun K "is_in_each" "is_in_each" s_is_in_each f_is_in_each fd)
    (a_share_one : PySem.W.nsIn K mainGlobals "share_one" = some (some (.ref f_share_one)))
    (d_share_one : ∃ fd, Fun K "share_one" "share_one" s_share_one f_share_one fd)
    (a_one_number_longer : PySem.W.nsIn K mainGlobals "one_number_longer" = some (some (.ref f_one_number_longer)))
    (d_one_number_longer : ∃ fd, Fun K "one_number_longer" "one_number_longer" s_one_number_longer f_one_number_longer fd)
    (a_read_term : PySem.W.nsIn K mainGlobals "read_term" = some (some (.ref f_read_term)))
    (d_read_term : ∃ fd, Fun K "read_term" "read_term" s_read_term f_read_term fd)
    (a_term_value : PySem.W.nsIn K mainGlobals "term_value" = some (some (.ref f_term_value)))
    (d_term_value : ∃ fd, Fun K "term_value" "term_value" s_term_value f_term_value fd)
    (a_read_check : PySem.W.nsIn K mainGlobals "read_check" = some (some (.ref f_read_check)))
    (d_read_check : ∃ fd, Fun K "read_check" "read_check" s_read_check f_read_check fd)
    (a_read_condition : PySem.W.nsIn K mainGlobals "read_condition" = some (some (.ref f_read_condition)))
    (d_read_condition : ∃ fd, Fun K "read_condition" "read_condition" s_read_condition f_read_condition fd)
    (a_breaks : PySem.W.nsIn K mainGlobals "breaks" = some (some (.ref f_breaks)))
    (d_breaks : ∃ fd, Fun K "breaks" "breaks" s_breaks f_breaks fd)
    (a_holds : PySem.W.nsIn K mainGlobals "holds" = some (some (.ref f_holds)))
    (d_holds : ∃ fd, Fun K "holds" "holds" s_holds f_holds fd)
    (a_holds_of_words : PySem.W.nsIn K mainGlobals "holds_of_words" = some (some (.ref f_holds_of_words)))
    (d_holds_of_words : ∃ fd, Fun K "holds_of_words" "holds_of_words" s_holds_of_words f_holds_of_words fd)
    (a_each_is_followed : PySem.W.nsIn K mainGlobals "each_is_followed" = some (some (.ref f_each_is_followed)))
    (d_each_is_followed : ∃ fd, Fun K "each_is_followed" "each_is_followed" s_each_is_followed f_each_is_followed fd)
    (a_Reader___init__ : PySem.W.findIn K (.ref CReader) "__init__" = some (some (.ref f_Reader___init__)))
    (i_Reader___init__ : PySem.W.isFn K (.ref f_Reader___init__) = true)
    (d_Reader___init__ : ∃ fd, Fun K "__init__" "Reader.__init__" s_Reader___init__ f_Reader___init__ fd)
    (a_Reader_at_end : PySem.W.findIn K (.ref CReader) "at_end" = some (some (.ref f_Reader_at_end)))
    (i_Reader_at_end : PySem.W.isFn K (.ref f_Reader_at_end) = true)
    (d_Reader_at_end : ∃ fd, Fun K "at_end" "Reader.at_end" s_Reader_at_end f_Reader_at_end fd)
    (a_Reader_number : PySem.W.findIn K (.ref CReader) "number" = some (some (.ref f_Reader_number)))
    (i_Reader_number : PySem.W.isFn K (.ref f_Reader_number) = true)
    (d_Reader_number : ∃ fd, Fun K "number" "Reader.number" s_Reader_number f_Reader_number fd)
    (a_Reader_row : PySem.W.findIn K (.ref CReader) "row" = some (some (.ref f_Reader_row)))
    (i_Reader_row : PySem.W.isFn K (.ref f_Reader_row) = true)
    (d_Reader_row : ∃ fd, Fun K "row" "Reader.row" s_Reader_row f_Reader_row fd)
    (a_are_small : PySem.W.nsIn K mainGlobals "are_small" = some (some (.ref f_are_small)))
    (d_are_small : ∃ fd, Fun K "are_small" "are_small" s_are_small f_are_small fd)
    (a_is_sentence : PySem.W.nsIn K mainGlobals "is_sentence" = some (some (.ref f_is_sentence)))
    (d_is_sentence : ∃ fd, Fun K "is_sentence" "is_sentence" s_is_sentence f_is_sentence fd)
    (a_are_letters : PySem.W.nsIn K mainGlobals "are_letters" = some (some (.ref f_are_letters)))
    (d_are_letters : ∃ fd, Fun K "are_letters" "are_letters" s_are_letters f_are_letters fd)
    (a_are_rising : PySem.W.nsIn K mainGlobals "are_rising" = some (some (.ref f_are_rising)))
    (d_are_rising : ∃ fd, Fun K "are_rising" "are_rising" s_are_rising f_are_rising fd)
    (a_can_be_searched : PySem.W.nsIn K mainGlobals "can_be_searched" = some (some (.ref f_can_be_searched)))
    (d_can_be_searched : ∃ fd, Fun K "can_be_searched" "can_be_searched" s_can_be_searched f_can_be_searched fd)
    (a_count_sentences : PySem.W.nsIn K mainGlobals "count_sentences" = some (some (.ref f_count_sentences)))
    (d_count_sentences : ∃ fd, Fun K "count_sentences" "count_sentences" s_count_sentences f_count_sentences fd)
    (a_sentences_in_order : PySem.W.nsIn K mainGlobals "sentences_in_order" = some (some (.ref f_sentences_in_order)))
    (d_sentences_in_order : ∃ fd, Fun K "sentences_in_order" "sentences_in_order" s_sentences_in_order f_sentences_in_order fd)
    (a_one_word_longer : PySem.W.nsIn K mainGlobals "one_word_longer" = some (some (.ref f_one_word_longer)))
    (d_one_word_longer : ∃ fd, Fun K "one_word_longer" "one_word_longer" s_one_word_longer f_one_word_longer fd)
    (a_pairs_in_order : PySem.W.nsIn K mainGlobals "pairs_in_order" = some (some (.ref f_pairs_in_order)))
    (d_pairs_in_order : ∃ fd, Fun K "pairs_in_order" "pairs_in_order" s_pairs_in_order f_pairs_in_order fd)
    (a_Office___init__ : PySem.W.findIn K (.ref COffice) "__init__" = some (some (.ref f_Office___init__)))
    (i_Office___init__ : PySem.W.isFn K (.ref f_Office___init__) = true)
    (d_Office___init__ : ∃ fd, Fun K "__init__" "Office.__init__" s_Office___init__ f_Office___init__ fd)
    (a_Office_check : PySem.W.findIn K (.ref COffice) "check" = some (some (.ref f_Office_check)))
    (i_Office_check : PySem.W.isFn K (.ref f_Office_check) = true)
    (d_Office_check : ∃ fd, Fun K "check" "Office.check" s_Office_check f_Office_check fd)
    (a_Office_gone : PySem.W.findIn K (.ref COffice) "gone" = some (some (.ref f_Office_gone)))
    (i_Office_gone : PySem.W.isFn K (.ref f_Office_gone) = true)
    (d_Office_gone : ∃ fd, Fun K "gone" "Office.gone" s_Office_gone f_Office_gone fd)
    (a_Office_letters : PySem.W.findIn K (.ref COffice) "letters" = some (some (.ref f_Office_letters)))
    (i_Office_letters : PySem.W.isFn K (.ref f_Office_letters) = true)
    (d_Office_letters : ∃ fd, Fun K "letters" "Office.letters" s_Office_letters f_Office_letters fd)
    (a_Office_run : PySem.W.findIn K (.ref COffice) "run" = some (some (.ref f_Office_run)))
    (i_Office_run : PySem.W.isFn K (.ref f_Office_run) = true)
    (d_Office_run : ∃ fd, Fun K "run" "Office.run" s_Office_run f_Office_run fd)
    (a_Office_value : PySem.W.findIn K (.ref COffice) "value" = some (some (.ref f_Office_value)))
    (i_Office_value : PySem.W.isFn K (.ref f_Office_value) = true)
    (d_Office_value : ∃ fd, Fun K "value" "Office.value" s_Office_value f_Office_value fd)
    (a_Office_fine : PySem.W.findIn K (.ref COffice) "fine" = some (some (.ref f_Office_fine)))
    (i_Office_fine : PySem.W.isFn K (.ref f_Office_fine) = true)
    (d_Office_fine : ∃ fd, Fun K "fine" "Office.fine" s_Office_fine f_Office_fine fd ∧ fd.code = .ref c_Office_fine)
    (a_Office_alone : PySem.W.findIn K (.ref COffice) "alone" = some (some (.ref f_Office_alone)))
    (i_Office_alone : PySem.W.isFn K (.ref f_Office_alone) = true)
    (d_Office_alone : ∃ fd, Fun K "alone" "Office.alone" s_Office_alone f_Office_alone fd ∧ fd.code = .ref c_Office_alone)
    (a_Office_apart : PySem.W.findIn K (.ref COffice) "apart" = some (some (.ref f_Office_apart)))
    (i_Office_apart : PySem.W.isFn K (.ref f_Office_apart) = true)
    (d_Office_apart : ∃ fd, Fun K "apart" "Office.apart" s_Office_apart f_Office_apart fd ∧ fd.code = .ref c_Office_apart)
    (a_Office_clash : PySem.W.findIn K (.ref COffice) "clash" = some (some (.ref f_Office_clash)))
    (i_Office_clash : PySem.W.isFn K (.ref f_Office_clash) = true)
    (d_Office_clash : ∃ fd, Fun K "clash" "Office.clash" s_Office_clash f_Office_clash fd)
    (a_Office_each : PySem.W.findIn K (.ref COffice) "each" = some (some (.ref f_Office_each)))
    (i_Office_each : PySem.W.isFn K (.ref f_Office_each) = true)
    (d_Office_each : ∃ fd, Fun K "each" "Office.each" s_Office_each f_Office_each fd)
    (a_Office_checks : PySem.W.findIn K (.ref COffice) "checks" = some (some (.ref f_Office_checks)))
    (i_Office_checks : PySem.W.isFn K (.ref f_Office_checks) = true)
    (d_Office_checks : ∃ fd, Fun K "checks" "Office.checks" s_Office_checks f_Office_checks fd)
    (a_Office_first_pair : PySem.W.findIn K (.ref COffice) "first_pair" = some (some (.ref f_Office_first_pair)))
    (i_Office_first_pair : PySem.W.isFn K (.ref f_Office_first_pair) = true)
    (d_Office_first_pair : ∃ fd, Fun K "first_pair" "Office.first_pair" s_Office_first_pair f_Office_first_pair fd)
    (a_Office_broken_by : PySem.W.findIn K (.ref COffice) "broken_by" = some (some (.ref f_Office_broken_by)))
    (i_Office_broken_by : PySem.W.isFn K (.ref f_Office_broken_by) = true)
    (d_Office_broken_by : ∃ fd, Fun K "broken_by" "Office.broken_by" s_Office_broken_by f_Office_broken_by fd)
    (a_Office_is_kept_by : PySem.W.findIn K (.ref COffice) "is_kept_by" = some (some (.ref f_Office_is_kept_by)))
    (i_Office_is_kept_by : PySem.W.isFn K (.ref f_Office_is_kept_by) = true)
    (d_Office_is_kept_by : ∃ fd, Fun K "is_kept_by" "Office.is_kept_by" s_Office_is_kept_by f_Office_is_kept_by fd)
    (a_counted : PySem.W.nsIn K mainGlobals "counted" = some (some (.ref f_counted)))
    (d_counted : ∃ fd, Fun K "counted" "counted" s_counted f_counted fd)
    (a_answers : PySem.W.nsIn K mainGlobals "answers" = some (some (.ref f_answers)))
    (d_answers : ∃ fd, Fun K "answers" "answers" s_answers f_answers fd)
    (a_answer_call : PySem.W.nsIn K mainGlobals "answer_call" = some (some (.ref f_answer_call)))
    (d_answer_call : ∃ fd, Fun K "answer_call" "answer_call" s_answer_call f_answer_call fd)
    (a_answer_about_pair : PySem.W.nsIn K mainGlobals "answer_about_pair" = some (some (.ref f_answer_about_pair)))
    (d_answer_about_pair : ∃ fd, Fun K "answer_about_pair" "answer_about_pair" s_answer_about_pair f_answer_about_pair fd)
    (a_answer_search : PySem.W.nsIn K mainGlobals "answer_search" = some (some (.ref f_answer_search)))
    (d_answer_search : ∃ fd, Fun K "answer_search" "answer_search" s_answer_search f_answer_search fd)
    (pg_Reader : PySem.W.plainGet K CReader Str.empty = true)
    (hd_Reader : PySem.W.hasDictIn K CReader = true)
    (po_Reader : PySem.W.plainOver K CReader = true)
    (sa_Reader : PySem.W.findIn K (.ref CReader) "__setattr__" = some (some (.builtin "object.__setattr__")))
    (mk_Reader : PySem.W.makesIn K CReader = true)
    (kc_Reader : PySem.W.keepIn K (.ref CReader) = true)
    (n_Reader_numbers : PySem.W.findIn K (.ref CReader) "numbers" = some none)
    (n_Reader_place : PySem.W.findIn K (.ref CReader) "place" = some none)
    (pg_Office : PySem.W.plainGet K COffice Str.empty = true)
    (hd_Office : PySem.W.hasDictIn K COffice = true)
    (po_Office : PySem.W.plainOver K COffice = true)
    (sa_Office : PySem.W.findIn K (.ref COffice) "__setattr__" = some (some (.builtin "object.__setattr__")))
    (mk_Office : PySem.W.makesIn K COffice = true)
    (kc_Office : PySem.W.keepIn K (.ref COffice) = true)
    (n_Office_kept : PySem.W.findIn K (.ref COffice) "kept" = some none)
    (n_Office_given : PySem.W.findIn K (.ref COffice) "given" = some none)
    (n_Office_alphabet : PySem.W.findIn K (.ref COffice) "alphabet" = some none)
    (b_len : PySem.W.nsIn K mainGlobals "len" = some none)
    (b_range : PySem.W.nsIn K mainGlobals "range" = some none)
    (b_list : PySem.W.nsIn K mainGlobals "list" = some none)
    (b_tuple : PySem.W.nsIn K mainGlobals "tuple" = some none)
    (g_NUMBER : PySem.W.nsIn K mainGlobals "NUMBER" = some (some v_NUMBER))
    (h_NUMBER : ∃ t, v_NUMBER = .int 0 t)
    (g_LENGTH : PySem.W.nsIn K mainGlobals "LENGTH" = some (some v_LENGTH))
    (h_LENGTH : ∃ t, v_LENGTH = .int 1 t)
    (g_OCCURRENCES : PySem.W.nsIn K mainGlobals "OCCURRENCES" = some (some v_OCCURRENCES))
    (h_OCCURRENCES : ∃ t, v_OCCURRENCES = .int 2 t)
    (g_SUM : PySem.W.nsIn K mainGlobals "SUM" = some (some v_SUM))
    (h_SUM : ∃ t, v_SUM = .int 3 t)
    (g_ALWAYS : PySem.W.nsIn K mainGlobals "ALWAYS" = some (some v_ALWAYS))
    (h_ALWAYS : ∃ t, v_ALWAYS = .int 0 t)
    (g_NEVER : PySem.W.nsIn K mainGlobals "NEVER" = some (some v_NEVER))
    (h_NEVER : ∃ t, v_NEVER = .int 1 t)
    (g_BOTH : PySem.W.nsIn K mainGlobals "BOTH" = some (some v_BOTH))
    (h_BOTH : ∃ t, v_BOTH = .int 2 t)
    (g_EITHER : PySem.W.nsIn K mainGlobals "EITHER" = some (some v_EITHER))
    (h_EITHER : ∃ t, v_EITHER = .int 3 t)
    (g_OPPOSITE : PySem.W.nsIn K mainGlobals "OPPOSITE" = some (some v_OPPOSITE))
    (h_OPPOSITE : ∃ t, v_OPPOSITE = .int 4 t)
    (g_AT_MOST : PySem.W.nsIn K mainGlobals "AT_MOST" = some (some v_AT_MOST))
    (h_AT_MOST : ∃ t, v_AT_MOST = .int 5 t)
    (g_SAME : PySem.W.nsIn K mainGlobals "SAME" = some (some v_SAME))
    (h_SAME : ∃ t, v_SAME = .int 6 t)
    (g_BEGINS : PySem.W.nsIn K mainGlobals "BEGINS" = some (some v_BEGINS))
    (h_BEGINS : ∃ t, v_BEGINS = .int 7 t)
    (g_ENDS : PySem.W.nsIn K mainGlobals "ENDS" = some (some v_ENDS))
    (h_ENDS : ∃ t, v_ENDS = .int 8 t)
    (g_FOLLOWED : PySem.W.nsIn K mainGlobals "FOLLOWED" = some (some v_FOLLOWED))
    (h_FOLLOWED : ∃ t, v_FOLLOWED = .int 9 t)
    (g_LARGEST_WORD : PySem.W.nsIn K mainGlobals "LARGEST_WORD" = some (some v_LARGEST_WORD))
    (h_LARGEST_WORD : ∃ t, v_LARGEST_WORD = .int 99 t)
    (g_MOST_WORDS : PySem.W.nsIn K mainGlobals "MOST_WORDS" = some (some v_MOST_WORDS))
    (h_MOST_WORDS : ∃ t, v_MOST_WORDS = .int 20 t)
    (g_MOST_LETTERS : PySem.W.nsIn K mainGlobals "MOST_LETTERS" = some (some v_MOST_LETTERS))
    (h_MOST_LETTERS : ∃ t, v_MOST_LETTERS = .int 5 t)
    (g_MOST_SEARCHED_WORDS : PySem.W.nsIn K mainGlobals "MOST_SEARCHED_WORDS" = some (some v_MOST_SEARCHED_WORDS))
    (h_MOST_SEARCHED_WORDS : ∃ t, v_MOST_SEARCHED_WORDS = .int 4 t)
    (g_MOST_SEARCHED_SENTENCES : PySem.W.nsIn K mainGlobals "MOST_SEARCHED_SENTENCES" = some (some v_MOST_SEARCHED_SENTENCES))
    (h_MOST_SEARCHED_SENTENCES : ∃ t, v_MOST_SEARCHED_SENTENCES = .int 31 t)
    (g_CHECK : PySem.W.nsIn K mainGlobals "CHECK" = some (some v_CHECK))
    (h_CHECK : ∃ t, v_CHECK = .int 0 t)
    (g_GONE : PySem.W.nsIn K mainGlobals "GONE" = some (some v_GONE))
    (h_GONE : ∃ t, v_GONE = .int 1 t)
    (g_LETTERS : PySem.W.nsIn K mainGlobals "LETTERS" = some (some v_LETTERS))
    (h_LETTERS : ∃ t, v_LETTERS = .int 2 t)
    (g_RUN : PySem.W.nsIn K mainGlobals "RUN" = some (some v_RUN))
    (h_RUN : ∃ t, v_RUN = .int 3 t)
    (g_VALUE : PySem.W.nsIn K mainGlobals "VALUE" = some (some v_VALUE))
    (h_VALUE : ∃ t, v_VALUE = .int 4 t)
    (g_FINE : PySem.W.nsIn K mainGlobals "FINE" = some (some v_FINE))
    (h_FINE : ∃ t, v_FINE = .int 5 t)
    (g_ALONE : PySem.W.nsIn K mainGlobals "ALONE" = some (some v_ALONE))
    (h_ALONE : ∃ t, v_ALONE = .int 6 t)
    (g_APART : PySem.W.nsIn K mainGlobals "APART" = some (some v_APART))
    (h_APART : ∃ t, v_APART = .int 7 t)
    (g_CLASH : PySem.W.nsIn K mainGlobals "CLASH" = some (some v_CLASH))
    (h_CLASH : ∃ t, v_CLASH = .int 8 t)
    (g_EACH : PySem.W.nsIn K mainGlobals "EACH" = some (some v_EACH))
    (h_EACH : ∃ t, v_EACH = .int 9 t)
    (g_CHECKS : PySem.W.nsIn K mainGlobals "CHECKS" = some (some v_CHECKS))
    (h_CHECKS : ∃ t, v_CHECKS = .int 10 t)
    (g_BEYOND_BOUNDS : PySem.W.nsIn K mainGlobals "BEYOND_BOUNDS" = some (some v_BEYOND_BOUNDS))
    (h_BEYOND_BOUNDS : ∃ t, v_BEYOND_BOUNDS = .int (-1) t)
    (g_NO_SUCH_CHECK : PySem.W.nsIn K mainGlobals "NO_SUCH_CHECK" = some (some v_NO_SUCH_CHECK))
    (h_NO_SUCH_CHECK : ∃ t, v_NO_SUCH_CHECK = .int (-2) t)
    (g_NO_ROOM : PySem.W.nsIn K mainGlobals "NO_ROOM" = some (some v_NO_ROOM))
    (h_NO_ROOM : ∃ t, v_NO_ROOM = .int (-5) t)
    (g_NOTHING_FOUND : PySem.W.nsIn K mainGlobals "NOTHING_FOUND" = some (some v_NOTHING_FOUND))
    (h_NOTHING_FOUND : ∃ t, v_NOTHING_FOUND = .int (-6) t)
    (g_MOST_CHECKS : PySem.W.nsIn K mainGlobals "MOST_CHECKS" = some (some v_MOST_CHECKS))
    (h_MOST_CHECKS : ∃ t, v_MOST_CHECKS = .int 8 t) :
    ∃ fd : FuncData, (∀ (s : Shared) (us : List Value), us.length = (["calls"] : List Str).length → BindsTo s fd ⟨us, []⟩ ((["calls"] : List Str).zip us)) ∧ ∀ base : Heap, K.In base → base.Ns mainGlobals mg → (∀ p ∈ [(c_Office_fine, P1), (c_Office_alone, P2), (c_Office_apart, P3)], TabB base mg p.1 p.2) → FnOk P w K mg base CX0 22 fa fd ["calls"] (spCalls (tabsOf P1 P2 P3) K) := by
  have e := hfa.symm.trans (PySem.W.mg_of X G a_answers)
  cases e
  have T : Txt K mg CReader COffice := ⟨⟨pg_Reader, hd_Reader, po_Reader, sa_Reader⟩, n_Reader_numbers, n_Reader_place, ⟨pg_Office, hd_Office, po_Office, sa_Office⟩, n_Office_kept, n_Office_given, n_Office_alphabet, PySem.W.mg_none_of X G b_len, PySem.W.mg_none_of X G b_range, PySem.W.mg_none_of X G b_list, PySem.W.mg_none_of X G b_tuple, cst_of X G g_NUMBER h_NUMBER, cst_of X G g_LENGTH h_LENGTH, cst_of X G g_OCCURRENCES h_OCCURRENCES, cst_of X G g_SUM h_SUM, cst_of X G g_ALWAYS h_ALWAYS, cst_of X G g_NEVER h_NEVER, cst_of X G g_BOTH h_BOTH, cst_of X G g_EITHER h_EITHER, cst_of X G g_OPPOSITE h_OPPOSITE, cst_of X G g_AT_MOST h_AT_MOST, cst_of X G g_SAME h_SAME, cst_of X G g_BEGINS h_BEGINS, cst_of X G g_ENDS h_ENDS, cst_of X G g_FOLLOWED h_FOLLOWED, cst_of X G g_LARGEST_WORD h_LARGEST_WORD, cst_of X G g_MOST_WORDS h_MOST_WORDS, cst_of X G g_MOST_LETTERS h_MOST_LETTERS, cst_of X G g_MOST_SEARCHED_WORDS h_MOST_SEARCHED_WORDS, cst_of X G g_MOST_SEARCHED_SENTENCES h_MOST_SEARCHED_SENTENCES, cst_of X G g_CHECK h_CHECK, cst_of X G g_GONE h_GONE, cst_of X G g_LETTERS h_LETTERS, cst_of X G g_RUN h_RUN, cst_of X G g_VALUE h_VALUE, cst_of X G g_FINE h_FINE, cst_of X G g_ALONE h_ALONE, cst_of X G g_APART h_APART, cst_of X G g_CLASH h_CLASH, cst_of X G g_EACH h_EACH, cst_of X G g_CHECKS h_CHECKS, cst_of X G g_BEYOND_BOUNDS h_BEYOND_BOUNDS, cst_of X G g_NO_SUCH_CHECK h_NO_SUCH_CHECK, cst_of X G g_NO_ROOM h_NO_ROOM, cst_of X G g_NOTHING_FOUND h_NOTHING_FOUND, cst_of X G g_MOST_CHECKS h_MOST_CHECKS⟩
  obtain ⟨fd_fewest_in_each, F_fewest_in_each⟩ := d_fewest_in_each
  have B_fewest_in_each := F_fewest_in_each.binds (ps := ["rows", "numbers"]) fun _ _ _ _ _ _ us hl => match us, hl with | [_, _], _ => rfl
  have m_fewest_in_each := PySem.W.mg_of X G a_fewest_in_each
  obtain ⟨fd_is_in_each, F_is_in_each⟩ := d_is_in_each
  have B_is_in_each := F_is_in_each.binds (ps := ["choice", "rows"]) fun _ _ _ _ _ _ us hl => match us, hl with | [_, _], _ => rfl
  have m_is_in_each := PySem.W.mg_of X G a_is_in_each
  obtain ⟨fd_share_one, F_share_one⟩ := d_share_one
  have B_share_one := F_share_one.binds (ps := ["numbers", "others"]) fun _ _ _ _ _ _ us hl => match us, hl with | [_, _], _ => rfl
  have m_share_one := PySem.W.mg_of X G a_share_one
  obtain ⟨fd_one_number_longer, F_one_number_longer⟩ := d_one_number_longer
  have B_one_number_longer := F_one_number_longer.binds (ps := ["choices", "numbers"]) fun _ _ _ _ _ _ us hl => match us, hl with | [_, _], _ => rfl
  have m_one_number_longer := PySem.W.mg_of X G a_one_number_longer
  obtain ⟨fd_read_term, F_read_term⟩ := d_read_term
  have B_read_term := F_read_term.binds (ps := ["reader"]) fun _ _ _ _ _ _ us hl => match us, hl with | [_], _ => rfl
  have m_read_term := PySem.W.mg_of X G a_read_term
  obtain ⟨fd_term_value, F_term_value⟩ := d_term_value
  have B_term_value := F_term_value.binds (ps := ["term", "pair"]) fun _ _ _ _ _ _ us hl => match us, hl with | [_, _], _ => rfl
  have m_term_value := PySem.W.mg_of X G a_term_value
  obtain ⟨fd_read_check, F_read_check⟩ := d_read_check
  have B_read_check := F_read_check.binds (ps := ["reader"]) fun _ _ _ _ _ _ us hl => match us, hl with | [_], _ => rfl
  have m_read_check := PySem.W.mg_of X G a_read_check
  obtain ⟨fd_read_condition, F_read_condition⟩ := d_read_condition
  have B_read_condition := F_read_condition.binds (ps := ["reader"]) fun _ _ _ _ _ _ us hl => match us, hl with | [_], _ => rfl
  have m_read_condition := PySem.W.mg_of X G a_read_condition
  obtain ⟨fd_breaks, F_breaks⟩ := d_breaks
  have B_breaks := F_breaks.binds (ps := ["pair", "check"]) fun _ _ _ _ _ _ us hl => match us, hl with | [_, _], _ => rfl
  have m_breaks := PySem.W.mg_of X G a_breaks
  obtain ⟨fd_holds, F_holds⟩ := d_holds
  have B_holds := F_holds.binds (ps := ["condition", "pair"]) fun _ _ _ _ _ _ us hl => match us, hl with | [_, _], _ => rfl
  have m_holds := PySem.W.mg_of X G a_holds
  obtain ⟨fd_holds_of_words, F_holds_of_words⟩ := d_holds_of_words
  have B_holds_of_words := F_holds_of_words.binds (ps := ["condition", "words"]) fun _ _ _ _ _ _ us hl => match us, hl with | [_, _], _ => rfl
  have m_holds_of_words := PySem.W.mg_of X G a_holds_of_words
  obtain ⟨fd_each_is_followed, F_each_is_followed⟩ := d_each_is_followed
  have B_each_is_followed := F_each_is_followed.binds (ps := ["words", "first", "second"]) fun _ _ _ _ _ _ us hl => match us, hl with | [_, _, _], _ => rfl
  have m_each_is_followed := PySem.W.mg_of X G a_each_is_followed
  obtain ⟨fd_Reader___init__, F_Reader___init__⟩ := d_Reader___init__
  have B_Reader___init__ := F_Reader___init__.binds (ps := ["self", "numbers"]) fun _ _ _ _ _ _ us hl => match us, hl with | [_, _], _ => rfl
  obtain ⟨fd_Reader_at_end, F_Reader_at_end⟩ := d_Reader_at_end
  have B_Reader_at_end := F_Reader_at_end.binds (ps := ["self"]) fun _ _ _ _ _ _ us hl => match us, hl with | [_], _ => rfl
  obtain ⟨fd_Reader_number, F_Reader_number⟩ := d_Reader_number
  have B_Reader_number := F_Reader_number.binds (ps := ["self"]) fun _ _ _ _ _ _ us hl => match us, hl with | [_], _ => rfl
  obtain ⟨fd_Reader_row, F_Reader_row⟩ := d_Reader_row
  have B_Reader_row := F_Reader_row.binds (ps := ["self"]) fun _ _ _ _ _ _ us hl => match us, hl with | [_], _ => rfl
  obtain ⟨fd_are_small, F_are_small⟩ := d_are_small
  have B_are_small := F_are_small.binds (ps := ["numbers"]) fun _ _ _ _ _ _ us hl => match us, hl with | [_], _ => rfl
  have m_are_small := PySem.W.mg_of X G a_are_small
  obtain ⟨fd_is_sentence, F_is_sentence⟩ := d_is_sentence
  have B_is_sentence := F_is_sentence.binds (ps := ["words"]) fun _ _ _ _ _ _ us hl => match us, hl with | [_], _ => rfl
  have m_is_sentence := PySem.W.mg_of X G a_is_sentence
  obtain ⟨fd_are_letters, F_are_letters⟩ := d_are_letters
  have B_are_letters := F_are_letters.binds (ps := ["numbers"]) fun _ _ _ _ _ _ us hl => match us, hl with | [_], _ => rfl
  have m_are_letters := PySem.W.mg_of X G a_are_letters
  obtain ⟨fd_are_rising, F_are_rising⟩ := d_are_rising
  have B_are_rising := F_are_rising.binds (ps := ["numbers"]) fun _ _ _ _ _ _ us hl => match us, hl with | [_], _ => rfl
  have m_are_rising := PySem.W.mg_of X G a_are_rising
  obtain ⟨fd_can_be_searched, F_can_be_searched⟩ := d_can_be_searched
  have B_can_be_searched := F_can_be_searched.binds (ps := ["letters", "most_words"]) fun _ _ _ _ _ _ us hl => match us, hl with | [_, _], _ => rfl
  have m_can_be_searched := PySem.W.mg_of X G a_can_be_searched
  obtain ⟨fd_count_sentences, F_count_sentences⟩ := d_count_sentences
  have B_count_sentences := F_count_sentences.binds (ps := ["letter_count", "most_words"]) fun _ _ _ _ _ _ us hl => match us, hl with | [_, _], _ => rfl
  have m_count_sentences := PySem.W.mg_of X G a_count_sentences
  obtain ⟨fd_sentences_in_order, F_sentences_in_order⟩ := d_sentences_in_order
  have B_sentences_in_order := F_sentences_in_order.binds (ps := ["letters", "most_words"]) fun _ _ _ _ _ _ us hl => match us, hl with | [_, _], _ => rfl
  have m_sentences_in_order := PySem.W.mg_of X G a_sentences_in_order
  obtain ⟨fd_one_word_longer, F_one_word_longer⟩ := d_one_word_longer
  have B_one_word_longer := F_one_word_longer.binds (ps := ["sentences", "letters"]) fun _ _ _ _ _ _ us hl => match us, hl with | [_, _], _ => rfl
  have m_one_word_longer := PySem.W.mg_of X G a_one_word_longer
  obtain ⟨fd_pairs_in_order, F_pairs_in_order⟩ := d_pairs_in_order
  have B_pairs_in_order := F_pairs_in_order.binds (ps := ["letters", "most_words"]) fun _ _ _ _ _ _ us hl => match us, hl with | [_, _], _ => rfl
  have m_pairs_in_order := PySem.W.mg_of X G a_pairs_in_order
  obtain ⟨fd_Office___init__, F_Office___init__⟩ := d_Office___init__
  have B_Office___init__ := F_Office___init__.binds (ps := ["self"]) fun _ _ _ _ _ _ us hl => match us, hl with | [_], _ => rfl
  obtain ⟨fd_Office_check, F_Office_check⟩ := d_Office_check
  have B_Office_check := F_Office_check.binds (ps := ["self", "conditions"]) fun _ _ _ _ _ _ us hl => match us, hl with | [_, _], _ => rfl
  obtain ⟨fd_Office_gone, F_Office_gone⟩ := d_Office_gone
  have B_Office_gone := F_Office_gone.binds (ps := ["self", "number"]) fun _ _ _ _ _ _ us hl => match us, hl with | [_, _], _ => rfl
  obtain ⟨fd_Office_letters, F_Office_letters⟩ := d_Office_letters
  have B_Office_letters := F_Office_letters.binds (ps := ["self", "alphabet"]) fun _ _ _ _ _ _ us hl => match us, hl with | [_, _], _ => rfl
  obtain ⟨fd_Office_run, F_Office_run⟩ := d_Office_run
  have B_Office_run := F_Office_run.binds (ps := ["self", "sentence", "translation"]) fun _ _ _ _ _ _ us hl => match us, hl with | [_, _, _], _ => rfl
  obtain ⟨fd_Office_value, F_Office_value⟩ := d_Office_value
  have B_Office_value := F_Office_value.binds (ps := ["self", "sentence", "translation", "term"]) fun _ _ _ _ _ _ us hl => match us, hl with | [_, _, _, _], _ => rfl
  obtain ⟨fd_Office_fine, F_Office_fine, hc_Office_fine⟩ := d_Office_fine
  have B_Office_fine := F_Office_fine.binds (ps := ["self", "most_words"]) fun _ _ _ _ _ _ us hl => match us, hl with | [_, _], _ => rfl
  obtain ⟨fd_Office_alone, F_Office_alone, hc_Office_alone⟩ := d_Office_alone
  have B_Office_alone := F_Office_alone.binds (ps := ["self", "number", "most_words"]) fun _ _ _ _ _ _ us hl => match us, hl with | [_, _, _], _ => rfl
  obtain ⟨fd_Office_apart, F_Office_apart, hc_Office_apart⟩ := d_Office_apart
  have B_Office_apart := F_Office_apart.binds (ps := ["self", "number", "other", "most_words"]) fun _ _ _ _ _ _ us hl => match us, hl with | [_, _, _, _], _ => rfl
  obtain ⟨fd_Office_clash, F_Office_clash⟩ := d_Office_clash
  have B_Office_clash := F_Office_clash.binds (ps := ["self", "most_words"]) fun _ _ _ _ _ _ us hl => match us, hl with | [_, _], _ => rfl
  obtain ⟨fd_Office_each, F_Office_each⟩ := d_Office_each
  have B_Office_each := F_Office_each.binds (ps := ["self", "most_words", "sentence"]) fun _ _ _ _ _ _ us hl => match us, hl with | [_, _, _], _ => rfl
  obtain ⟨fd_Office_checks, F_Office_checks⟩ := d_Office_checks
  have B_Office_checks := F_Office_checks.binds (ps := ["self"]) fun _ _ _ _ _ _ us hl => match us, hl with | [_], _ => rfl
  obtain ⟨fd_Office_first_pair, F_Office_first_pair⟩ := d_Office_first_pair
  have B_Office_first_pair := F_Office_first_pair.binds (ps := ["self", "most_words", "is_sought"]) fun _ _ _ _ _ _ us hl => match us, hl with | [_, _, _], _ => rfl
  obtain ⟨fd_Office_broken_by, F_Office_broken_by⟩ := d_Office_broken_by
  have B_Office_broken_by := F_Office_broken_by.binds (ps := ["self", "pair"]) fun _ _ _ _ _ _ us hl => match us, hl with | [_, _], _ => rfl
  obtain ⟨fd_Office_is_kept_by, F_Office_is_kept_by⟩ := d_Office_is_kept_by
  have B_Office_is_kept_by := F_Office_is_kept_by.binds (ps := ["self", "pair"]) fun _ _ _ _ _ _ us hl => match us, hl with | [_, _], _ => rfl
  obtain ⟨fd_counted, F_counted⟩ := d_counted
  have B_counted := F_counted.binds (ps := ["row"]) fun _ _ _ _ _ _ us hl => match us, hl with | [_], _ => rfl
  have m_counted := PySem.W.mg_of X G a_counted
  obtain ⟨fd_answers, F_answers⟩ := d_answers
  have B_answers := F_answers.binds (ps := ["calls"]) fun _ _ _ _ _ _ us hl => match us, hl with | [_], _ => rfl
  have m_answers := PySem.W.mg_of X G a_answers
  obtain ⟨fd_answer_call, F_answer_call⟩ := d_answer_call
  have B_answer_call := F_answer_call.binds (ps := ["office", "reader"]) fun _ _ _ _ _ _ us hl => match us, hl with | [_, _], _ => rfl
  have m_answer_call := PySem.W.mg_of X G a_answer_call
  obtain ⟨fd_answer_about_pair, F_answer_about_pair⟩ := d_answer_about_pair
  have B_answer_about_pair := F_answer_about_pair.binds (ps := ["call", "office", "reader"]) fun _ _ _ _ _ _ us hl => match us, hl with | [_, _, _], _ => rfl
  have m_answer_about_pair := PySem.W.mg_of X G a_answer_about_pair
  obtain ⟨fd_answer_search, F_answer_search⟩ := d_answer_search
  have B_answer_search := F_answer_search.binds (ps := ["call", "office", "reader"]) fun _ _ _ _ _ _ us hl => match us, hl with | [_, _, _], _ => rfl
  have m_answer_search := PySem.W.mg_of X G a_answer_search
  refine ⟨fd_answers, fun s us hu => ?_, fun base _ _ tb => ?_⟩
  · obtain ⟨⟨oc, od, kV, doc, pm, an, cdv, ct, osl, rfl, _, _⟩, _⟩ := F_answers
    match us, hu with
    | [_], _ => exact .of_eq rfl
  have c_Reader : Mak P w K mg base 1 CReader "Reader" ["self", "numbers"] (spRInit CReader) := ⟨_, _, ok_Reader___init__ F_Reader___init__ T, ⟨mk_Reader, a_Reader___init__, i_Reader___init__, kc_Reader⟩, PySem.W.mg_of X G aC_Reader, B_Reader___init__⟩
  have c_at_end : Met P w K mg base 1 CReader "at_end" ["self"] (spAtEnd K CReader) := ⟨_, _, ok_Reader_at_end F_Reader_at_end T, T.cl_Reader, ⟨a_Reader_at_end, i_Reader_at_end, F_Reader_at_end.kp⟩, B_Reader_at_end⟩
  have c_number : Met P w K mg base 1 CReader "number" ["self"] (spNumber K CReader) := ⟨_, _, ok_Reader_number F_Reader_number T, T.cl_Reader, ⟨a_Reader_number, i_Reader_number, F_Reader_number.kp⟩, B_Reader_number⟩
  have c_row : Met P w K mg base 2 CReader "row" ["self"] (spRow K CReader) := ⟨_, _, ok_Reader_row F_Reader_row T c_number, T.cl_Reader, ⟨a_Reader_row, i_Reader_row, F_Reader_row.kp⟩, B_Reader_row⟩
  have c_read_term := all_read_term (P := P) (w := w) (base := base) F_read_term T m_read_term B_read_term c_number
  have c_term_value := all_term_value (P := P) (w := w) (base := base) F_term_value T m_term_value B_term_value
  have c_read_condition := all_read_condition (P := P) (w := w) (base := base) F_read_condition T m_read_condition B_read_condition c_number c_read_term
  have c_read_check : Cal P w K mg base 14 "read_check" ["reader"] (spReadCheck K CReader) := ⟨_, _, ok_read_check F_read_check T (c_read_condition 12), m_read_check, F_read_check.kp, B_read_check⟩
  have c_each_is_followed : Cal P w K mg base 1 "each_is_followed" ["words", "first", "second"] (spFollowed K) := ⟨_, _, ok_each_is_followed F_each_is_followed, m_each_is_followed, F_each_is_followed.kp, B_each_is_followed⟩
  have c_holds_of_words : Cal P w K mg base 2 "holds_of_words" ["condition", "words"] (spWords K) := ⟨_, _, ok_holds_of_words F_holds_of_words T c_each_is_followed, m_holds_of_words, F_holds_of_words.kp, B_holds_of_words⟩
  have c_holds := all_holds (P := P) (w := w) (base := base) F_holds T m_holds B_holds c_term_value c_holds_of_words
  have c_breaks : Cal P w K mg base 15 "breaks" ["pair", "check"] (spBreaks K) := ⟨_, _, ok_breaks F_breaks (c_holds 12), m_breaks, F_breaks.kp, B_breaks⟩
  have c_are_small : Cal P w K mg base 1 "are_small" ["numbers"] (spSmall K) := ⟨_, _, ok_are_small F_are_small T, m_are_small, F_are_small.kp, B_are_small⟩
  have c_is_sentence : Cal P w K mg base 2 "is_sentence" ["words"] (spSent K) := ⟨_, _, ok_is_sentence F_is_sentence T c_are_small, m_is_sentence, F_is_sentence.kp, B_is_sentence⟩
  have c_are_rising : Cal P w K mg base 1 "are_rising" ["numbers"] (spRising K) := ⟨_, _, ok_are_rising F_are_rising T, m_are_rising, F_are_rising.kp, B_are_rising⟩
  have c_are_letters : Cal P w K mg base 2 "are_letters" ["numbers"] (spLetters K) := ⟨_, _, ok_are_letters F_are_letters T c_are_small c_are_rising, m_are_letters, F_are_letters.kp, B_are_letters⟩
  have c_count_sentences : Cal P w K mg base 1 "count_sentences" ["letter_count", "most_words"] spCount := ⟨_, _, ok_count_sentences F_count_sentences T, m_count_sentences, F_count_sentences.kp, B_count_sentences⟩
  have c_can_be_searched : Cal P w K mg base 2 "can_be_searched" ["letters", "most_words"] (spSearch K) := ⟨_, _, ok_can_be_searched F_can_be_searched T c_count_sentences, m_can_be_searched, F_can_be_searched.kp, B_can_be_searched⟩
  have c_one_word_longer : Cal P w K mg base 1 "one_word_longer" ["sentences", "letters"] (spLonger K) := ⟨_, _, ok_one_word_longer F_one_word_longer T, m_one_word_longer, F_one_word_longer.kp, B_one_word_longer⟩
  have c_sentences_in_order : Cal P w K mg base 2 "sentences_in_order" ["letters", "most_words"] (spInOrder K) := ⟨_, _, ok_sentences_in_order F_sentences_in_order T c_one_word_longer, m_sentences_in_order, F_sentences_in_order.kp, B_sentences_in_order⟩
  have c_pairs_in_order : Cal P w K mg base 3 "pairs_in_order" ["letters", "most_words"] (spPairs K) := ⟨_, _, ok_pairs_in_order F_pairs_in_order T c_sentences_in_order, m_pairs_in_order, F_pairs_in_order.kp, B_pairs_in_order⟩
  have c_counted : Cal P w K mg base 1 "counted" ["row"] spCounted := ⟨_, _, ok_counted F_counted T, m_counted, F_counted.kp, B_counted⟩
  have c_share_one : Cal P w K mg base 1 "share_one" ["numbers", "others"] (spShare K) := ⟨_, _, ok_share_one F_share_one T, m_share_one, F_share_one.kp, B_share_one⟩
  have c_is_in_each : Cal P w K mg base 2 "is_in_each" ["choice", "rows"] (spInEach K) := ⟨_, _, ok_is_in_each F_is_in_each T c_share_one, m_is_in_each, F_is_in_each.kp, B_is_in_each⟩
  have c_one_number_longer : Cal P w K mg base 1 "one_number_longer" ["choices", "numbers"] (spNLonger K) := ⟨_, _, ok_one_number_longer F_one_number_longer T, m_one_number_longer, F_one_number_longer.kp, B_one_number_longer⟩
  have c_fewest_in_each : Cal P w K mg base 3 "fewest_in_each" ["rows", "numbers"] (spFewest K) := ⟨_, _, ok_fewest_in_each F_fewest_in_each T c_is_in_each c_one_number_longer, m_fewest_in_each, F_fewest_in_each.kp, B_fewest_in_each⟩
  have c_Office : Mak P w K mg base 1 COffice "Office" ["self"] (spOInit COffice) := ⟨_, _, ok_Office___init__ F_Office___init__ T, ⟨mk_Office, a_Office___init__, i_Office___init__, kc_Office⟩, PySem.W.mg_of X G aC_Office, B_Office___init__⟩
  have c_check : Met P w K mg base 15 COffice "check" ["self", "conditions"] (spOffT (tabsOf P1 P2 P3) COffice (aCheck K)) := ⟨_, _, (ok_Office_check F_Office_check T c_are_small c_read_check c_Reader).imp fun _ _ _ _ => off_T, T.cl_Office, ⟨a_Office_check, i_Office_check, F_Office_check.kp⟩, B_Office_check⟩
  have c_gone : Met P w K mg base 1 COffice "gone" ["self", "number"] (spOffT (tabsOf P1 P2 P3) COffice aGone) := ⟨_, _, (ok_Office_gone F_Office_gone T).imp fun _ _ _ _ => off_T, T.cl_Office, ⟨a_Office_gone, i_Office_gone, F_Office_gone.kp⟩, B_Office_gone⟩
  have c_letters : Met P w K mg base 3 COffice "letters" ["self", "alphabet"] (spOffT (tabsOf P1 P2 P3) COffice (aLetters K)) := ⟨_, _, (ok_Office_letters F_Office_letters T c_are_letters).imp fun _ _ _ _ => off_T, T.cl_Office, ⟨a_Office_letters, i_Office_letters, F_Office_letters.kp⟩, B_Office_letters⟩
  have c_value : Met P w K mg base 15 COffice "value" ["self", "sentence", "translation", "term"] (spOffT (tabsOf P1 P2 P3) COffice (aValue K)) := ⟨_, _, (ok_Office_value F_Office_value T c_is_sentence c_are_small (c_read_term 12) (c_term_value 12) c_Reader).imp fun _ _ _ _ => off_T, T.cl_Office, ⟨a_Office_value, i_Office_value, F_Office_value.kp⟩, B_Office_value⟩
  have c_is_kept_by : Met P w K mg base 16 COffice "is_kept_by" ["self", "pair"] (spKept K COffice) := ⟨_, _, ok_Office_is_kept_by F_Office_is_kept_by T c_breaks, T.cl_Office, ⟨a_Office_is_kept_by, i_Office_is_kept_by, F_Office_is_kept_by.kp⟩, B_Office_is_kept_by⟩
  have c_broken_by : Met P w K mg base 16 COffice "broken_by" ["self", "pair"] (spBroken K COffice) := ⟨_, _, ok_Office_broken_by F_Office_broken_by T c_breaks, T.cl_Office, ⟨a_Office_broken_by, i_Office_broken_by, F_Office_broken_by.kp⟩, B_Office_broken_by⟩
  have c_run : Met P w K mg base 17 COffice "run" ["self", "sentence", "translation"] (spOffT (tabsOf P1 P2 P3) COffice (aRun K)) := ⟨_, _, (ok_Office_run F_Office_run T c_is_sentence c_broken_by c_counted).imp fun _ _ _ _ => off_T, T.cl_Office, ⟨a_Office_run, i_Office_run, F_Office_run.kp⟩, B_Office_run⟩
  have first : First P w K mg base COffice f_Office_first_pair fd_Office_first_pair := ⟨⟨a_Office_first_pair, i_Office_first_pair, F_Office_first_pair.kp⟩, F_Office_first_pair, B_Office_first_pair, gives_first_pair T c_can_be_searched c_pairs_in_order c_counted⟩
  have mk1 : Maker base mg (tabsOf P1 P2 P3) c_Office_fine P1 "Office.fine" := ⟨tb (c_Office_fine, P1) (.head _), .head _, tabs_u1 n12 n13⟩
  have mk2 : Maker base mg (tabsOf P1 P2 P3) c_Office_alone P2 "Office.alone" := ⟨tb (c_Office_alone, P2) (.tail _ (.head _)), .tail _ (.head _), tabs_u2 n12 n23⟩
  have mk3 : Maker base mg (tabsOf P1 P2 P3) c_Office_apart P3 "Office.apart" := ⟨tb (c_Office_apart, P3) (.tail _ (.tail _ (.head _))), .tail _ (.tail _ (.head _)), tabs_u3 n13 n23⟩
  have c_fine : Met P w K mg base 19 COffice "fine" ["self", "most_words"] (spOffT (tabsOf P1 P2 P3) COffice aFine) := ⟨_, _, ok_Office_fine F_Office_fine hc_Office_fine T first mk1 c_is_kept_by, T.cl_Office, ⟨a_Office_fine, i_Office_fine, F_Office_fine.kp⟩, B_Office_fine⟩
  have c_alone : Met P w K mg base 19 COffice "alone" ["self", "number", "most_words"] (spOffT (tabsOf P1 P2 P3) COffice aAlone) := ⟨_, _, ok_Office_alone F_Office_alone hc_Office_alone T first mk2 c_broken_by, T.cl_Office, ⟨a_Office_alone, i_Office_alone, F_Office_alone.kp⟩, B_Office_alone⟩
  have c_apart : Met P w K mg base 19 COffice "apart" ["self", "number", "other", "most_words"] (spOffT (tabsOf P1 P2 P3) COffice aApart) := ⟨_, _, ok_Office_apart F_Office_apart hc_Office_apart T first mk3 c_breaks, T.cl_Office, ⟨a_Office_apart, i_Office_apart, F_Office_apart.kp⟩, B_Office_apart⟩
  have c_clash : Met P w K mg base 17 COffice "clash" ["self", "most_words"] (spOffT (tabsOf P1 P2 P3) COffice aClash) := ⟨_, _, (ok_Office_clash F_Office_clash T c_can_be_searched c_pairs_in_order c_broken_by c_fewest_in_each c_counted).imp fun _ _ _ _ => off_T, T.cl_Office, ⟨a_Office_clash, i_Office_clash, F_Office_clash.kp⟩, B_Office_clash⟩
  have c_each : Met P w K mg base 17 COffice "each" ["self", "most_words", "sentence"] (spOffT (tabsOf P1 P2 P3) COffice (aEach K)) := ⟨_, _, (ok_Office_each F_Office_each T c_can_be_searched c_is_sentence c_sentences_in_order c_is_kept_by c_counted).imp fun _ _ _ _ => off_T, T.cl_Office, ⟨a_Office_each, i_Office_each, F_Office_each.kp⟩, B_Office_each⟩
  have c_checks : Met P w K mg base 2 COffice "checks" ["self"] (spOffT (tabsOf P1 P2 P3) COffice aChecks) := ⟨_, _, (ok_Office_checks F_Office_checks T c_counted).imp fun _ _ _ _ => off_T, T.cl_Office, ⟨a_Office_checks, i_Office_checks, F_Office_checks.kp⟩, B_Office_checks⟩
  have c_answer_about_pair : Cal P w K mg base 18 "answer_about_pair" ["call", "office", "reader"] (spPairCall (tabsOf P1 P2 P3) K CReader COffice) := ⟨_, _, ok_answer_about_pair F_answer_about_pair T c_row c_run c_value, m_answer_about_pair, F_answer_about_pair.kp, B_answer_about_pair⟩
  have c_answer_search : Cal P w K mg base 20 "answer_search" ["call", "office", "reader"] (spSearchCall (tabsOf P1 P2 P3) K CReader COffice) := ⟨_, _, ok_answer_search F_answer_search T c_number c_row c_fine c_alone c_apart c_clash c_each, m_answer_search, F_answer_search.kp, B_answer_search⟩
  have c_answer_call : Cal P w K mg base 21 "answer_call" ["office", "reader"] (spAnswerCall (tabsOf P1 P2 P3) K CReader COffice) := ⟨_, _, ok_answer_call F_answer_call T c_number c_row c_check c_gone c_letters c_checks c_answer_about_pair c_answer_search, m_answer_call, F_answer_call.kp, B_answer_call⟩
  exact ok_answers F_answers T c_Office c_Reader c_at_end c_counted c_answer_call
end Pc

open PySem PySem.W PyProof.Rows
local macro_rules
  | `(tactic| o_headS ($_ $k $a $e)) => `(tactic| o_headS (PySem.W.kmHook $k $a $e [267, 274, 281]))
set_option maxRecDepth 100000 in
set_option maxHeartbeats 8000000 in
theorem PySem.Challenge.cw_pairchecks_s01_answers_holds : PySem.Challenge.rw_pairchecks_s01_answers.Holds := by
  w_on; k_headS; (case hw => exact ⟨[.list [.int 10]], by decide +kernel, by decide +kernel⟩)
  k_fillS
  refine Pc.walk_tab (r := PySem.Challenge.rw_pairchecks_s01_answers) (k := 22) (ps := ["calls"]) (sp := Pc.spCalls (Pc.tabsOf 267 274 281)) (cs := [(271, 267), (278, 274), (285, 281)]) (by decide +kernel) rfl rfl ⟨rfl, by decide, by decide⟩ (fun w h Y => PySem.W.km_in_of Y)
    (fun w h Y => List.forall_mem_cons.mpr ⟨PySem.W.km_tabs_of Y 267 (.head _), List.forall_mem_cons.mpr ⟨PySem.W.km_tabs_of Y 274 (.tail _ (.head _)), List.forall_mem_cons.mpr ⟨PySem.W.km_tabs_of Y 281 (.tail _ (.tail _ (.head _))), fun _ z => nomatch z⟩⟩⟩) ?C ?F ?S
  case C =>
    intro w h Y
    have KX := PySem.W.km_in_of Y
    exact List.forall_mem_cons.mpr ⟨⟨by kernel_rfl, PySem.W.codeHd_of_K (c := 271) (P := 267) KX (by kernel_rfl)⟩, List.forall_mem_cons.mpr ⟨⟨by kernel_rfl, PySem.W.codeHd_of_K (c := 278) (P := 274) KX (by kernel_rfl)⟩, List.forall_mem_cons.mpr ⟨⟨by kernel_rfl, PySem.W.codeHd_of_K (c := 285) (P := 281) KX (by kernel_rfl)⟩, fun _ z => nomatch z⟩⟩⟩
  case F =>
    intro w mg fa h Y KX G hmg
    open Pc L2 in
    refine' Pc.all_mk (P1 := 267) (P2 := 274) (P3 := 281) (c_Office_fine := 271) (c_Office_alone := 278) (c_Office_apart := 285) KX G hmg (by decide) (by decide) (by decide) ?aC_Reader ?aC_Office ?a_fewest_in_each ?d_fewest_in_each ?a_is_in_each ?d_is_in_each ?a_share_one ?d_share_one ?a_one_number_longer ?d_one_number_longer ?a_read_term ?d_read_term ?a_term_value ?d_term_value ?a_read_check ?d_read_check ?a_read_condition ?d_read_condition ?a_breaks ?d_breaks ?a_holds ?d_holds ?a_holds_of_words ?d_holds_of_words ?a_each_is_followed ?d_each_is_followed ?a_Reader___init__ ?i_Reader___init__ ?d_Reader___init__ ?a_Reader_at_end ?i_Reader_at_end ?d_Reader_at_end ?a_Reader_number ?i_Reader_number ?d_Reader_number ?a_Reader_row ?i_Reader_row ?d_Reader_row ?a_are_small ?d_are_small ?a_is_sentence ?d_is_sentence ?a_are_letters ?d_are_letters ?a_are_rising ?d_are_rising ?a_can_be_searched ?d_can_be_searched ?a_count_sentences ?d_count_sentences ?a_sentences_in_order ?d_sentences_in_order ?a_one_word_longer ?d_one_word_longer ?a_pairs_in_order ?d_pairs_in_order ?a_Office___init__ ?i_Office___init__ ?d_Office___init__ ?a_Office_check ?i_Office_check ?d_Office_check ?a_Office_gone ?i_Office_gone ?d_Office_gone ?a_Office_letters ?i_Office_letters ?d_Office_letters ?a_Office_run ?i_Office_run ?d_Office_run ?a_Office_value ?i_Office_value ?d_Office_value ?a_Office_fine ?i_Office_fine ?d_Office_fine ?a_Office_alone ?i_Office_alone ?d_Office_alone ?a_Office_apart ?i_Office_apart ?d_Office_apart ?a_Office_clash ?i_Office_clash ?d_Office_clash ?a_Office_each ?i_Office_each ?d_Office_each ?a_Office_checks ?i_Office_checks ?d_Office_checks ?a_Office_first_pair ?i_Office_first_pair ?d_Office_first_pair ?a_Office_broken_by ?i_Office_broken_by ?d_Office_broken_by ?a_Office_is_kept_by ?i_Office_is_kept_by ?d_Office_is_kept_by ?a_counted ?d_counted ?a_answers ?d_answers ?a_answer_call ?d_answer_call ?a_answer_about_pair ?d_answer_about_pair ?a_answer_search ?d_answer_search ?pg_Reader ?hd_Reader ?po_Reader ?sa_Reader ?mk_Reader ?kc_Reader ?n_Reader_numbers ?n_Reader_place ?pg_Office ?hd_Office ?po_Office ?sa_Office ?mk_Office ?kc_Office ?n_Office_kept ?n_Office_given ?n_Office_alphabet ?b_len ?b_range ?b_list ?b_tuple ?g_NUMBER ?h_NUMBER ?g_LENGTH ?h_LENGTH ?g_OCCURRENCES ?h_OCCURRENCES ?g_SUM ?h_SUM ?g_ALWAYS ?h_ALWAYS ?g_NEVER ?h_NEVER ?g_BOTH ?h_BOTH ?g_EITHER ?h_EITHER ?g_OPPOSITE ?h_OPPOSITE ?g_AT_MOST ?h_AT_MOST ?g_SAME ?h_SAME ?g_BEGINS ?h_BEGINS ?g_ENDS ?h_ENDS ?g_FOLLOWED ?h_FOLLOWED ?g_LARGEST_WORD ?h_LARGEST_WORD ?g_MOST_WORDS ?h_MOST_WORDS ?g_MOST_LETTERS ?h_MOST_LETTERS ?g_MOST_SEARCHED_WORDS ?h_MOST_SEARCHED_WORDS ?g_MOST_SEARCHED_SENTENCES ?h_MOST_SEARCHED_SENTENCES ?g_CHECK ?h_CHECK ?g_GONE ?h_GONE ?g_LETTERS ?h_LETTERS ?g_RUN ?h_RUN ?g_VALUE ?h_VALUE ?g_FINE ?h_FINE ?g_ALONE ?h_ALONE ?g_APART ?h_APART ?g_CLASH ?h_CLASH ?g_EACH ?h_EACH ?g_CHECKS ?h_CHECKS ?g_BEYOND_BOUNDS ?h_BEYOND_BOUNDS ?g_NO_SUCH_CHECK ?h_NO_SUCH_CHECK ?g_NO_ROOM ?h_NO_ROOM ?g_NOTHING_FOUND ?h_NOTHING_FOUND ?g_MOST_CHECKS ?h_MOST_CHECKS
    (case aC_Reader => k_is)
    (case aC_Office => k_is)
    (case a_fewest_in_each => k_is)
    (case d_fewest_in_each => refine' ⟨_, fun_mk (st := s_fewest_in_each) ?l ?c ?k⟩; (case l => k_is); (case c => k_is); (case k => k_is))
    (case a_is_in_each => k_is)
    (case d_is_in_each => refine' ⟨_, fun_mk (st := s_is_in_each) ?l ?c ?k⟩; (case l => k_is); (case c => k_is); (case k => k_is))
    (case a_share_one => k_is)
    (case d_share_one => refine' ⟨_, fun_mk (st := s_share_one) ?l ?c ?k⟩; (case l => k_is); (case c => k_is); (case k => k_is))
    (case a_one_number_longer => k_is)
    (case d_one_number_longer => refine' ⟨_, fun_mk (st := s_one_number_longer) ?l ?c ?k⟩; (case l => k_is); (case c => k_is); (case k => k_is))
    (case a_read_term => k_is)
    (case d_read_term => refine' ⟨_, fun_mk (st := s_read_term) ?l ?c ?k⟩; (case l => k_is); (case c => k_is); (case k => k_is))
    (case a_term_value => k_is)
    (case d_term_value => refine' ⟨_, fun_mk (st := s_term_value) ?l ?c ?k⟩; (case l => k_is); (case c => k_is); (case k => k_is))
    (case a_read_check => k_is)
    (case d_read_check => refine' ⟨_, fun_mk (st := s_read_check) ?l ?c ?k⟩; (case l => k_is); (case c => k_is); (case k => k_is))
    (case a_read_condition => k_is)
    (case d_read_condition => refine' ⟨_, fun_mk (st := s_read_condition) ?l ?c ?k⟩; (case l => k_is); (case c => k_is); (case k => k_is))
    (case a_breaks => k_is)
    (case d_breaks => refine' ⟨_, fun_mk (st := s_breaks) ?l ?c ?k⟩; (case l => k_is); (case c => k_is); (case k => k_is))
    (case a_holds => k_is)
    (case d_holds => refine' ⟨_, fun_mk (st := s_holds) ?l ?c ?k⟩; (case l => k_is); (case c => k_is); (case k => k_is))
    (case a_holds_of_words => k_is)
    (case d_holds_of_words => refine' ⟨_, fun_mk (st := s_holds_of_words) ?l ?c ?k⟩; (case l => k_is); (case c => k_is); (case k => k_is))
    (case a_each_is_followed => k_is)
    (case d_each_is_followed => refine' ⟨_, fun_mk (st := s_each_is_followed) ?l ?c ?k⟩; (case l => k_is); (case c => k_is); (case k => k_is))
    (case a_Reader___init__ => k_is)
    (case i_Reader___init__ => k_is)
    (case d_Reader___init__ => refine' ⟨_, fun_mk (st := s_Reader___init__) ?l ?c ?k⟩; (case l => k_is); (case c => k_is); (case k => k_is))
    (case a_Reader_at_end => k_is)
    (case i_Reader_at_end => k_is)
    (case d_Reader_at_end => refine' ⟨_, fun_mk (st := s_Reader_at_end) ?l ?c ?k⟩; (case l => k_is); (case c => k_is); (case k => k_is))
    (case a_Reader_number => k_is)
    (case i_Reader_number => k_is)
    (case d_Reader_number => refine' ⟨_, fun_mk (st := s_Reader_number) ?l ?c ?k⟩; (case l => k_is); (case c => k_is); (case k => k_is))
    (case a_Reader_row => k_is)
    (case i_Reader_row => k_is)
    (case d_Reader_row => refine' ⟨_, fun_mk (st := s_Reader_row) ?l ?c ?k⟩; (case l => k_is); (case c => k_is); (case k => k_is))
    (case a_are_small => k_is)
    (case d_are_small => refine' ⟨_, fun_mk (st := s_are_small) ?l ?c ?k⟩; (case l => k_is); (case c => k_is); (case k => k_is))
    (case a_is_sentence => k_is)
    (case d_is_sentence => refine' ⟨_, fun_mk (st := s_is_sentence) ?l ?c ?k⟩; (case l => k_is); (case c => k_is); (case k => k_is))
    (case a_are_letters => k_is)
    (case d_are_letters => refine' ⟨_, fun_mk (st := s_are_letters) ?l ?c ?k⟩; (case l => k_is); (case c => k_is); (case k => k_is))
    (case a_are_rising => k_is)
    (case d_are_rising => refine' ⟨_, fun_mk (st := s_are_rising) ?l ?c ?k⟩; (case l => k_is); (case c => k_is); (case k => k_is))
    (case a_can_be_searched => k_is)
    (case d_can_be_searched => refine' ⟨_, fun_mk (st := s_can_be_searched) ?l ?c ?k⟩; (case l => k_is); (case c => k_is); (case k => k_is))
    (case a_count_sentences => k_is)
    (case d_count_sentences => refine' ⟨_, fun_mk (st := s_count_sentences) ?l ?c ?k⟩; (case l => k_is); (case c => k_is); (case k => k_is))
    (case a_sentences_in_order => k_is)
    (case d_sentences_in_order => refine' ⟨_, fun_mk (st := s_sentences_in_order) ?l ?c ?k⟩; (case l => k_is); (case c => k_is); (case k => k_is))
    (case a_one_word_longer => k_is)
    (case d_one_word_longer => refine' ⟨_, fun_mk (st := s_one_word_longer) ?l ?c ?k⟩; (case l => k_is); (case c => k_is); (case k => k_is))
    (case a_pairs_in_order => k_is)
    (case d_pairs_in_order => refine' ⟨_, fun_mk (st := s_pairs_in_order) ?l ?c ?k⟩; (case l => k_is); (case c => k_is); (case k => k_is))
    (case a_Office___init__ => k_is)
    (case i_Office___init__ => k_is)
    (case d_Office___init__ => refine' ⟨_, fun_mk (st := s_Office___init__) ?l ?c ?k⟩; (case l => k_is); (case c => k_is); (case k => k_is))
    (case a_Office_check => k_is)
    (case i_Office_check => k_is)
    (case d_Office_check => refine' ⟨_, fun_mk (st := s_Office_check) ?l ?c ?k⟩; (case l => k_is); (case c => k_is); (case k => k_is))
    (case a_Office_gone => k_is)
    (case i_Office_gone => k_is)
    (case d_Office_gone => refine' ⟨_, fun_mk (st := s_Office_gone) ?l ?c ?k⟩; (case l => k_is); (case c => k_is); (case k => k_is))
    (case a_Office_letters => k_is)
    (case i_Office_letters => k_is)
    (case d_Office_letters => refine' ⟨_, fun_mk (st := s_Office_letters) ?l ?c ?k⟩; (case l => k_is); (case c => k_is); (case k => k_is))
    (case a_Office_run => k_is)
    (case i_Office_run => k_is)
    (case d_Office_run => refine' ⟨_, fun_mk (st := s_Office_run) ?l ?c ?k⟩; (case l => k_is); (case c => k_is); (case k => k_is))
    (case a_Office_value => k_is)
    (case i_Office_value => k_is)
    (case d_Office_value => refine' ⟨_, fun_mk (st := s_Office_value) ?l ?c ?k⟩; (case l => k_is); (case c => k_is); (case k => k_is))
    (case a_Office_fine => k_is)
    (case i_Office_fine => k_is)
    (case d_Office_fine => refine' ⟨_, fun_mk (st := s_Office_fine) ?l ?c ?k, ?r⟩; (case l => k_is); (case c => k_is); (case k => k_is); (case r => exact rfl))
    (case a_Office_alone => k_is)
    (case i_Office_alone => k_is)
    (case d_Office_alone => refine' ⟨_, fun_mk (st := s_Office_alone) ?l ?c ?k, ?r⟩; (case l => k_is); (case c => k_is); (case k => k_is); (case r => exact rfl))
    (case a_Office_apart => k_is)
    (case i_Office_apart => k_is)
    (case d_Office_apart => refine' ⟨_, fun_mk (st := s_Office_apart) ?l ?c ?k, ?r⟩; (case l => k_is); (case c => k_is); (case k => k_is); (case r => exact rfl))
    (case a_Office_clash => k_is)
    (case i_Office_clash => k_is)
    (case d_Office_clash => refine' ⟨_, fun_mk (st := s_Office_clash) ?l ?c ?k⟩; (case l => k_is); (case c => k_is); (case k => k_is))
    (case a_Office_each => k_is)
    (case i_Office_each => k_is)
    (case d_Office_each => refine' ⟨_, fun_mk (st := s_Office_each) ?l ?c ?k⟩; (case l => k_is); (case c => k_is); (case k => k_is))
    (case a_Office_checks => k_is)
    (case i_Office_checks => k_is)
    (case d_Office_checks => refine' ⟨_, fun_mk (st := s_Office_checks) ?l ?c ?k⟩; (case l => k_is); (case c => k_is); (case k => k_is))
    (case a_Office_first_pair => k_is)
    (case i_Office_first_pair => k_is)
    (case d_Office_first_pair => refine' ⟨_, fun_mk (st := s_Office_first_pair) ?l ?c ?k⟩; (case l => k_is); (case c => k_is); (case k => k_is))
    (case a_Office_broken_by => k_is)
    (case i_Office_broken_by => k_is)
    (case d_Office_broken_by => refine' ⟨_, fun_mk (st := s_Office_broken_by) ?l ?c ?k⟩; (case l => k_is); (case c => k_is); (case k => k_is))
    (case a_Office_is_kept_by => k_is)
    (case i_Office_is_kept_by => k_is)
    (case d_Office_is_kept_by => refine' ⟨_, fun_mk (st := s_Office_is_kept_by) ?l ?c ?k⟩; (case l => k_is); (case c => k_is); (case k => k_is))
    (case a_counted => k_is)
    (case d_counted => refine' ⟨_, fun_mk (st := s_counted) ?l ?c ?k⟩; (case l => k_is); (case c => k_is); (case k => k_is))
    (case a_answers => k_is)
    (case d_answers => refine' ⟨_, fun_mk (st := s_answers) ?l ?c ?k⟩; (case l => k_is); (case c => k_is); (case k => k_is))
    (case a_answer_call => k_is)
    (case d_answer_call => refine' ⟨_, fun_mk (st := s_answer_call) ?l ?c ?k⟩; (case l => k_is); (case c => k_is); (case k => k_is))
    (case a_answer_about_pair => k_is)
    (case d_answer_about_pair => refine' ⟨_, fun_mk (st := s_answer_about_pair) ?l ?c ?k⟩; (case l => k_is); (case c => k_is); (case k => k_is))
    (case a_answer_search => k_is)
    (case d_answer_search => refine' ⟨_, fun_mk (st := s_answer_search) ?l ?c ?k⟩; (case l => k_is); (case c => k_is); (case k => k_is))
    (case pg_Reader => k_is)
    (case hd_Reader => k_is)
    (case po_Reader => k_is)
    (case sa_Reader => k_is)
    (case mk_Reader => k_is)
    (case kc_Reader => k_is)
    (case n_Reader_numbers => k_is)
    (case n_Reader_place => k_is)
    (case pg_Office => k_is)
    (case hd_Office => k_is)
    (case po_Office => k_is)
    (case sa_Office => k_is)
    (case mk_Office => k_is)
    (case kc_Office => k_is)
    (case n_Office_kept => k_is)
    (case n_Office_given => k_is)
    (case n_Office_alphabet => k_is)
    (case b_len => k_is)
    (case b_range => k_is)
    (case b_list => k_is)
    (case b_tuple => k_is)
    (case g_NUMBER => k_is)
    (case h_NUMBER => exact ⟨_, rfl⟩)
    (case g_LENGTH => k_is)
    (case h_LENGTH => exact ⟨_, rfl⟩)
    (case g_OCCURRENCES => k_is)
    (case h_OCCURRENCES => exact ⟨_, rfl⟩)
    (case g_SUM => k_is)
    (case h_SUM => exact ⟨_, rfl⟩)
    (case g_ALWAYS => k_is)
    (case h_ALWAYS => exact ⟨_, rfl⟩)
    (case g_NEVER => k_is)
    (case h_NEVER => exact ⟨_, rfl⟩)
    (case g_BOTH => k_is)
    (case h_BOTH => exact ⟨_, rfl⟩)
    (case g_EITHER => k_is)
    (case h_EITHER => exact ⟨_, rfl⟩)
    (case g_OPPOSITE => k_is)
    (case h_OPPOSITE => exact ⟨_, rfl⟩)
    (case g_AT_MOST => k_is)
    (case h_AT_MOST => exact ⟨_, rfl⟩)
    (case g_SAME => k_is)
    (case h_SAME => exact ⟨_, rfl⟩)
    (case g_BEGINS => k_is)
    (case h_BEGINS => exact ⟨_, rfl⟩)
    (case g_ENDS => k_is)
    (case h_ENDS => exact ⟨_, rfl⟩)
    (case g_FOLLOWED => k_is)
    (case h_FOLLOWED => exact ⟨_, rfl⟩)
    (case g_LARGEST_WORD => k_is)
    (case h_LARGEST_WORD => exact ⟨_, rfl⟩)
    (case g_MOST_WORDS => k_is)
    (case h_MOST_WORDS => exact ⟨_, rfl⟩)
    (case g_MOST_LETTERS => k_is)
    (case h_MOST_LETTERS => exact ⟨_, rfl⟩)
    (case g_MOST_SEARCHED_WORDS => k_is)
    (case h_MOST_SEARCHED_WORDS => exact ⟨_, rfl⟩)
    (case g_MOST_SEARCHED_SENTENCES => k_is)
    (case h_MOST_SEARCHED_SENTENCES => exact ⟨_, rfl⟩)
    (case g_CHECK => k_is)
    (case h_CHECK => exact ⟨_, rfl⟩)
    (case g_GONE => k_is)
    (case h_GONE => exact ⟨_, rfl⟩)
    (case g_LETTERS => k_is)
    (case h_LETTERS => exact ⟨_, rfl⟩)
    (case g_RUN => k_is)
    (case h_RUN => exact ⟨_, rfl⟩)
    (case g_VALUE => k_is)
    (case h_VALUE => exact ⟨_, rfl⟩)
    (case g_FINE => k_is)
    (case h_FINE => exact ⟨_, rfl⟩)
    (case g_ALONE => k_is)
    (case h_ALONE => exact ⟨_, rfl⟩)
    (case g_APART => k_is)
    (case h_APART => exact ⟨_, rfl⟩)
    (case g_CLASH => k_is)
    (case h_CLASH => exact ⟨_, rfl⟩)
    (case g_EACH => k_is)
    (case h_EACH => exact ⟨_, rfl⟩)
    (case g_CHECKS => k_is)
    (case h_CHECKS => exact ⟨_, rfl⟩)
    (case g_BEYOND_BOUNDS => k_is)
    (case h_BEYOND_BOUNDS => exact ⟨_, rfl⟩)
    (case g_NO_SUCH_CHECK => k_is)
    (case h_NO_SUCH_CHECK => exact ⟨_, rfl⟩)
    (case g_NO_ROOM => k_is)
    (case h_NO_ROOM => exact ⟨_, rfl⟩)
    (case g_NOTHING_FOUND => k_is)
    (case h_NOTHING_FOUND => exact ⟨_, rfl⟩)
    (case g_MOST_CHECKS => k_is)
    (case h_MOST_CHECKS => exact ⟨_, rfl⟩)
  case S =>
    intro K H0 H xs a sm hH hwi hask hx
    cases hx with
    | cons h1 h2 =>
      cases h2
      cases h1 with
      | lst hs ha =>
        have e := L2.ints_dw a.1 _ ha
        subst e
        have q : ((Codec.inLen 0 6600 a.1 && a.1.all (Codec.inInt 0 4294967295)) && true) = true := hwi
        rw [Bool.and_eq_true, Bool.and_eq_true, List.all_eq_true] at q
        have h0 : ∀ x ∈ a.1, 0 ≤ x := fun x hx => (Codec.inInt_iff.mp (q.1.2 x hx)).1
        obtain ⟨cs, ys, e1, hrd, h30, e2, hlen⟩ := Pc.parsed h0 hask
        refine ⟨_, cs, ys, rfl, ?_, Pc.tabs_start (hH (271, 267) (.head _)) (hH (278, 274) (.tail _ (.head _))) (hH (285, 281) (.tail _ (.tail _ (.head _)))), hrd, hlen, fun H' p hp => ?_⟩
        · rw [Pc.vi_I, ← e1]
          exact sm.seq hs
        · have e3 : L2.Dw K H' (.ref p) (WData.list ((PyFlat.told (Pc.plays Ut12.init ys)).map WData.int)) := .lst (L2.SqL.of hp) (L2.dw_ints _)
          rw [← e2] at e3
          exact e3
