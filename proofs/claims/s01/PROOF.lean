import PyProof.Rows.All
import Wide.All
import OpenK.AllK
import Wide.FinOn
import Open.SpecLaws
import KE.OsHead
import KE.OsGo
import HandS.ForSpec
import HandS.Dict
import HandS.WordsDict
import HandS.Comp
import HandS.Iter
import KE.KMinKey
import KE.KNestM
import HandS.Nested
import HandS.EndTab
import HandS.SortInts
import HandS.Walk
import HandS.SetFor
import HandS.DictTup
import PyProof.DictMoreH
import HandS.TupLen
import PySem.Challenge.RW_mergedone_s01_answers
set_option Elab.async false
/-! Parsing: a list that is asked is its calls' numbers, one behind another; what is due is the calls played. Speaks of the specification alone. -/
namespace Md
open Rl06 (Call St)

/-- a call's numbers, as the interface writes them -/
def enc : Rl06.Call → List Int
  | .fields n => [0, (n : Int)]
  | .rule f k => [1, (f : Int), (k : Int)]
  | .trust l => 2 :: (l.length : Int) :: Rl06.ints l
  | .record a b t l => 3 :: (a : Int) :: (b : Int) :: (t : Int) :: (l.length : Int) :: Rl06.ints l
  | .remove r => [4, (r : Int)]
  | .change r f v => [5, (r : Int), (f : Int), (v : Int)]
  | .put r t => [6, (r : Int), (t : Int)]
  | .wrong r f => [7, (r : Int), (f : Int)]
  | .pin t f v => [8, (t : Int), (f : Int), (v : Int)]
  | .one t => [9, (t : Int)]
  | .why t f => [10, (t : Int), (f : Int)]
  | .conflicts t => [11, (t : Int)]
  | .fewest t f => [12, (t : Int), (f : Int)]
  | .counts => [13]

/-- the bounds of the rows -/
def okCall : Rl06.Call → Prop
  | .trust l => l.length ≤ 8
  | .record _ _ _ l => l.length ≤ 8
  | _ => True

def play : St → List Rl06.Call → List (List Int)
  | _, [] => []
  | s, c :: r => (Rl06.step s c).2 :: play (Rl06.step s c).1 r

theorem nat_of {z : Int} (h : Rl06Neutral.nat z = true) : ∃ n : Nat, z = (n : Int) ∧ n < 2 ^ 32 := by
  unfold Rl06Neutral.nat at h
  rw [Bool.and_eq_true] at h
  have h1 := of_decide_eq_true h.1
  have h2 := of_decide_eq_true h.2
  exact ⟨z.toNat, by omega, by omega⟩

theorem nats_of : ∀ {l : List Int}, l.all Rl06Neutral.nat = true → l = Rl06.ints (l.map Int.toNat)
  | [], _ => rfl
  | z :: l, h => by
    rw [List.all_cons, Bool.and_eq_true] at h
    obtain ⟨n, rfl, _⟩ := nat_of h.1
    show (n : Int) :: l = (n : Int) :: Rl06.ints (l.map Int.toNat)
    rw [← nats_of h.2]

theorem asked_all {c : List (List Int)} (h : Rl06Neutral.asked1 c = true) : c.all (fun r => r.all Rl06Neutral.nat) = true := by
  unfold Rl06Neutral.asked1 Rl06Neutral.callOf at h
  cases e : c.all (fun r => r.all Rl06Neutral.nat)
  · rw [if_pos e] at h; cases h
  · rfl

theorem callOf_eq {c : List (List Int)} (h : c.all (fun r => r.all Rl06Neutral.nat) = true) : Rl06Neutral.callOf c = Rl06Neutral.callIn (c.map fun r => r.map Int.toNat) := by
  unfold Rl06Neutral.callOf
  rw [if_neg (by rw [h]; exact Bool.noConfusion)]

theorem call1 {p : Int} {r t : List Int} {c : List (List Int)} (hs : PyRl06.shape p = some (1, 0)) (h : PyFlat.call PyRl06.shape (p :: r) = some (c, t)) : ∃ x0, r = x0 :: t ∧ c = [[p, x0]] := by
  unfold PyFlat.call at h
  match r, h with
  | [], h => simp [hs] at h
  | x0 :: r, h =>
    simp [hs, PyFlat.rows] at h
    exact ⟨x0, by rw [h.2], h.1.symm⟩
theorem call2 {p : Int} {r t : List Int} {c : List (List Int)} (hs : PyRl06.shape p = some (2, 0)) (h : PyFlat.call PyRl06.shape (p :: r) = some (c, t)) : ∃ x0 x1, r = x0 :: x1 :: t ∧ c = [[p, x0, x1]] := by
  unfold PyFlat.call at h
  match r, h with
  | [], h => simp [hs] at h
  | [_], h => simp [hs] at h
  | x0 :: x1 :: r, h =>
    simp [hs, PyFlat.rows] at h
    exact ⟨x0, x1, by rw [h.2], h.1.symm⟩
theorem call3 {p : Int} {r t : List Int} {c : List (List Int)} (hs : PyRl06.shape p = some (3, 0)) (h : PyFlat.call PyRl06.shape (p :: r) = some (c, t)) : ∃ x0 x1 x2, r = x0 :: x1 :: x2 :: t ∧ c = [[p, x0, x1, x2]] := by
  unfold PyFlat.call at h
  match r, h with
  | [], h => simp [hs] at h
  | [_], h => simp [hs] at h
  | [_, _], h => simp [hs] at h
  | x0 :: x1 :: x2 :: r, h =>
    simp [hs, PyFlat.rows] at h
    exact ⟨x0, x1, x2, by rw [h.2], h.1.symm⟩
theorem call0 {p : Int} {r t : List Int} {c : List (List Int)} (hs : PyRl06.shape p = some (0, 0)) (h : PyFlat.call PyRl06.shape (p :: r) = some (c, t)) : r = t ∧ c = [[p]] := by
  unfold PyFlat.call at h
  simp [hs, PyFlat.rows] at h
  exact ⟨h.2, h.1.symm⟩
theorem row_of {r s x : List Int} (h : PyFlat.row r = some (x, s)) : r = (x.length : Int) :: (x ++ s) := by
  match r, h with
  | [], h => cases h
  | n :: r, h =>
    unfold PyFlat.row at h
    dsimp only at h
    by_cases q : 0 ≤ n ∧ n.toNat ≤ r.length
    · rw [if_pos q] at h
      cases h
      rw [List.take_append_drop, List.length_take, Nat.min_eq_left q.2, Int.toNat_of_nonneg q.1]
    · rw [if_neg q] at h; cases h
theorem callR0 {p : Int} {r t : List Int} {c : List (List Int)} (hs : PyRl06.shape p = some (0, 1)) (h : PyFlat.call PyRl06.shape (p :: r) = some (c, t)) : ∃ x, r = (x.length : Int) :: (x ++ t) ∧ c = [[p], x] := by
  unfold PyFlat.call at h
  simp [hs, PyFlat.rows] at h
  cases e : PyFlat.row r with
  | none => rw [e] at h; cases h
  | some q =>
    obtain ⟨x, s⟩ := q
    rw [e] at h
    cases h
    exact ⟨x, row_of e, rfl⟩
theorem callR3 {p : Int} {r t : List Int} {c : List (List Int)} (hs : PyRl06.shape p = some (3, 1)) (h : PyFlat.call PyRl06.shape (p :: r) = some (c, t)) : ∃ x0 x1 x2 x, r = x0 :: x1 :: x2 :: (x.length : Int) :: (x ++ t) ∧ c = [[p, x0, x1, x2], x] := by
  unfold PyFlat.call at h
  match r, h with
  | [], h => simp [hs] at h
  | [_], h => simp [hs] at h
  | [_, _], h => simp [hs] at h
  | x0 :: x1 :: x2 :: r, h =>
    simp [hs, PyFlat.rows] at h
    cases e : PyFlat.row r with
    | none => rw [e] at h; cases h
    | some q =>
      obtain ⟨x, s⟩ := q
      rw [e] at h
      cases h
      exact ⟨x0, x1, x2, x, by rw [row_of e], rfl⟩

theorem shape_cases {p : Int} {q : Nat × Nat} (h : PyRl06.shape p = some q) : p = 0 ∨ p = 1 ∨ p = 2 ∨ p = 3 ∨ p = 4 ∨ p = 5 ∨ p = 6 ∨ p = 7 ∨ p = 8 ∨ p = 9 ∨ p = 10 ∨ p = 11 ∨ p = 12 ∨ p = 13 := by
  unfold PyRl06.shape at h
  by_cases h0 : p = 0; · omega
  by_cases h1 : p = 1; · omega
  by_cases h2 : p = 2; · omega
  by_cases h3 : p = 3; · omega
  by_cases h4 : p = 4; · omega
  by_cases h5 : p = 5; · omega
  by_cases h6 : p = 6; · omega
  by_cases h7 : p = 7; · omega
  by_cases h8 : p = 8; · omega
  by_cases h9 : p = 9; · omega
  by_cases h10 : p = 10; · omega
  by_cases h11 : p = 11; · omega
  by_cases h12 : p = 12; · omega
  by_cases h13 : p = 13; · omega
  simp only [h0, h1, h2, h3, h4, h5, h6, h7, h8, h9, h10, h11, h12, h13, if_false] at h
  cases h

theorem ints_len (l : List Nat) : (Rl06.ints l).length = l.length := by
  unfold Rl06.ints; exact List.length_map ..
theorem ints_nat (l : List Nat) : (Rl06.ints l).map Int.toNat = l := by
  unfold Rl06.ints
  rw [List.map_map]
  exact List.map_id'' (fun n => rfl) l

theorem call_enc {p : Int} {r t : List Int} {c : List (List Int)} (h : PyFlat.call PyRl06.shape (p :: r) = some (c, t)) (hb : PyInside.call PyRl06.bound c = true) (ha : Rl06Neutral.asked1 (PyRl06.whole c) = true) :
    ∃ x, p :: r = enc x ++ t ∧ okCall x ∧ Rl06Neutral.callOf (PyRl06.whole c) = some x := by
  have hs : ∃ q, PyRl06.shape p = some q := by
    unfold PyFlat.call at h
    cases e : PyRl06.shape p with
    | none => simp [e] at h
    | some q => exact ⟨q, rfl⟩
  obtain ⟨q, hs⟩ := hs
  have hal := asked_all ha
  have hce := callOf_eq hal
  rcases shape_cases hs with e | e | e | e | e | e | e | e | e | e | e | e | e | e
  · subst e
    obtain ⟨x0, rfl, rfl⟩ := call1 rfl h
    obtain ⟨n0, rfl, _⟩ := nat_of (z := x0) (by simpa [PyRl06.whole, Rl06Neutral.nat] using hal)
    exact ⟨.fields n0, rfl, trivial, hce.trans rfl⟩
  · subst e
    obtain ⟨x0, x1, rfl, rfl⟩ := call2 rfl h
    have hal' : Rl06Neutral.nat x0 = true ∧ Rl06Neutral.nat x1 = true := by
      have := hal; simp [PyRl06.whole] at this; exact this.2
    obtain ⟨n0, rfl, _⟩ := nat_of hal'.1
    obtain ⟨n1, rfl, _⟩ := nat_of hal'.2
    exact ⟨.rule n0 n1, rfl, trivial, hce.trans rfl⟩
  · subst e
    obtain ⟨x, rfl, rfl⟩ := callR0 rfl h
    have hal' : x.all Rl06Neutral.nat = true := by
      have := hal; simp only [PyRl06.whole, List.all_cons, List.all_nil, Bool.and_true, Bool.and_eq_true] at this; exact this.2
    have hx := nats_of hal'
    have hl : x.length ≤ 8 := by
      have := hb
      simp [PyInside.call, PyRl06.bound, PyInside.each, PyInside.lists] at this
      exact this.1
    refine ⟨.trust (x.map Int.toNat), ?_, ?_, hce.trans rfl⟩
    · show _ = 2 :: ((x.map Int.toNat).length : Int) :: (Rl06.ints (x.map Int.toNat) ++ t)
      rw [← hx, List.length_map]
    · show (x.map Int.toNat).length ≤ 8
      rw [List.length_map]; exact hl
  · subst e
    obtain ⟨x0, x1, x2, x, rfl, rfl⟩ := callR3 rfl h
    have hal' : (Rl06Neutral.nat x0 = true ∧ Rl06Neutral.nat x1 = true ∧ Rl06Neutral.nat x2 = true) ∧ x.all Rl06Neutral.nat = true := by
      have := hal; simp only [PyRl06.whole, List.all_cons, List.all_nil, Bool.and_true, Bool.and_eq_true] at this; exact ⟨this.1.2, this.2⟩
    have hx := nats_of hal'.2
    obtain ⟨n0, rfl, _⟩ := nat_of hal'.1.1
    obtain ⟨n1, rfl, _⟩ := nat_of hal'.1.2.1
    obtain ⟨n2, rfl, _⟩ := nat_of hal'.1.2.2
    have hl : x.length ≤ 8 := by
      have := hb
      simp [PyInside.call, PyRl06.bound, PyInside.each, PyInside.lists] at this
      exact this.2.1
    refine ⟨.record n0 n1 n2 (x.map Int.toNat), ?_, ?_, hce.trans rfl⟩
    · show _ = 3 :: (n0 : Int) :: (n1 : Int) :: (n2 : Int) :: ((x.map Int.toNat).length : Int) :: (Rl06.ints (x.map Int.toNat) ++ t)
      rw [← hx, List.length_map]
    · show (x.map Int.toNat).length ≤ 8
      rw [List.length_map]; exact hl
  · subst e
    obtain ⟨x0, rfl, rfl⟩ := call1 rfl h
    obtain ⟨n0, rfl, _⟩ := nat_of (z := x0) (by have := hal; simp [PyRl06.whole] at this; exact this.2)
    exact ⟨.remove n0, rfl, trivial, hce.trans rfl⟩
  · subst e
    obtain ⟨x0, x1, x2, rfl, rfl⟩ := call3 rfl h
    have hal' : Rl06Neutral.nat x0 = true ∧ Rl06Neutral.nat x1 = true ∧ Rl06Neutral.nat x2 = true := by
      have := hal; simp [PyRl06.whole] at this; exact this.2
    obtain ⟨n0, rfl, _⟩ := nat_of hal'.1
    obtain ⟨n1, rfl, _⟩ := nat_of hal'.2.1
    obtain ⟨n2, rfl, _⟩ := nat_of hal'.2.2
    exact ⟨.change n0 n1 n2, rfl, trivial, hce.trans rfl⟩
  · subst e
    obtain ⟨x0, x1, rfl, rfl⟩ := call2 rfl h
    have hal' : Rl06Neutral.nat x0 = true ∧ Rl06Neutral.nat x1 = true := by
      have := hal; simp [PyRl06.whole] at this; exact this.2
    obtain ⟨n0, rfl, _⟩ := nat_of hal'.1
    obtain ⟨n1, rfl, _⟩ := nat_of hal'.2
    exact ⟨.put n0 n1, rfl, trivial, hce.trans rfl⟩
  · subst e
    obtain ⟨x0, x1, rfl, rfl⟩ := call2 rfl h
    have hal' : Rl06Neutral.nat x0 = true ∧ Rl06Neutral.nat x1 = true := by
      have := hal; simp [PyRl06.whole] at this; exact this.2
    obtain ⟨n0, rfl, _⟩ := nat_of hal'.1
    obtain ⟨n1, rfl, _⟩ := nat_of hal'.2
    exact ⟨.wrong n0 n1, rfl, trivial, hce.trans rfl⟩
  · subst e
    obtain ⟨x0, x1, x2, rfl, rfl⟩ := call3 rfl h
    have hal' : Rl06Neutral.nat x0 = true ∧ Rl06Neutral.nat x1 = true ∧ Rl06Neutral.nat x2 = true := by
      have := hal; simp [PyRl06.whole] at this; exact this.2
    obtain ⟨n0, rfl, _⟩ := nat_of hal'.1
    obtain ⟨n1, rfl, _⟩ := nat_of hal'.2.1
    obtain ⟨n2, rfl, _⟩ := nat_of hal'.2.2
    exact ⟨.pin n0 n1 n2, rfl, trivial, hce.trans rfl⟩
  · subst e
    obtain ⟨x0, rfl, rfl⟩ := call1 rfl h
    obtain ⟨n0, rfl, _⟩ := nat_of (z := x0) (by have := hal; simp [PyRl06.whole] at this; exact this.2)
    exact ⟨.one n0, rfl, trivial, hce.trans rfl⟩
  · subst e
    obtain ⟨x0, x1, rfl, rfl⟩ := call2 rfl h
    have hal' : Rl06Neutral.nat x0 = true ∧ Rl06Neutral.nat x1 = true := by
      have := hal; simp [PyRl06.whole] at this; exact this.2
    obtain ⟨n0, rfl, _⟩ := nat_of hal'.1
    obtain ⟨n1, rfl, _⟩ := nat_of hal'.2
    exact ⟨.why n0 n1, rfl, trivial, hce.trans rfl⟩
  · subst e
    obtain ⟨x0, rfl, rfl⟩ := call1 rfl h
    obtain ⟨n0, rfl, _⟩ := nat_of (z := x0) (by have := hal; simp [PyRl06.whole] at this; exact this.2)
    exact ⟨.conflicts n0, rfl, trivial, hce.trans rfl⟩
  · subst e
    obtain ⟨x0, x1, rfl, rfl⟩ := call2 rfl h
    have hal' : Rl06Neutral.nat x0 = true ∧ Rl06Neutral.nat x1 = true := by
      have := hal; simp [PyRl06.whole] at this; exact this.2
    obtain ⟨n0, rfl, _⟩ := nat_of hal'.1
    obtain ⟨n1, rfl, _⟩ := nat_of hal'.2
    exact ⟨.fewest n0 n1, rfl, trivial, hce.trans rfl⟩
  · subst e
    obtain ⟨rfl, rfl⟩ := call0 rfl h
    exact ⟨.counts, rfl, trivial, hce.trans rfl⟩

theorem calls_enc : ∀ (fuel : Nat) (l : List Int) (raw : List (List (List Int))), PyFlat.calls PyRl06.shape fuel l = some raw → PyInside.calls PyRl06.bound raw = true → (raw.map PyRl06.whole).all Rl06Neutral.asked1 = true →
    ∃ cs : List Call, l = cs.flatMap enc ∧ (∀ c ∈ cs, okCall c) ∧ cs.length = raw.length ∧ ∀ s, PyFlat.played Rl06Neutral.step s (raw.map PyRl06.whole) = play s cs := by
  intro fuel
  induction fuel with
  | zero =>
    intro l raw h _ _
    match l, h with
    | [], h => cases h; exact ⟨[], rfl, (fun c hc => nomatch hc), rfl, fun s => rfl⟩
    | _ :: _, h => cases h
  | succ fuel ih =>
    intro l raw h hb ha
    match l, h with
    | [], h => cases h; exact ⟨[], rfl, (fun c hc => nomatch hc), rfl, fun s => rfl⟩
    | p :: r, h =>
      unfold PyFlat.calls at h
      cases e : PyFlat.call PyRl06.shape (p :: r) with
      | none => rw [e] at h; cases h
      | some q =>
        obtain ⟨c, t⟩ := q
        rw [e] at h
        dsimp only at h
        cases e2 : PyFlat.calls PyRl06.shape fuel t with
        | none => rw [e2] at h; cases h
        | some raw' =>
          rw [e2] at h
          cases h
          have hb' : PyInside.call PyRl06.bound c = true ∧ PyInside.calls PyRl06.bound raw' = true := by
            unfold PyInside.calls at hb ⊢
            rw [List.all_cons, Bool.and_eq_true] at hb
            exact hb
          rw [List.map_cons, List.all_cons, Bool.and_eq_true] at ha
          obtain ⟨x, e3, ok, e4⟩ := call_enc e hb'.1 ha.1
          obtain ⟨cs, e5, ok5, e6, e7⟩ := ih t raw' e2 hb'.2 ha.2
          refine ⟨x :: cs, ?_, ?_, by rw [List.length_cons, List.length_cons, e6], fun s => ?_⟩
          · rw [e3, e5, List.flatMap_cons]
          · intro c hc
            cases hc with
            | head => exact ok
            | tail _ hc => exact ok5 c hc
          · have es : Rl06Neutral.step s (PyRl06.whole c) = Rl06.step s x := by
              unfold Rl06Neutral.step
              rw [e4]
            show (Rl06Neutral.step s (PyRl06.whole c)).2 :: PyFlat.played Rl06Neutral.step (Rl06Neutral.step s (PyRl06.whole c)).1 (raw'.map PyRl06.whole) = (Rl06.step s x).2 :: play (Rl06.step s x).1 cs
            rw [es, e7]

/-- **what is asked**: the list is some calls' numbers, at most sixty; what is due is what these calls answer -/
theorem asked_calls {l : List Int} (h : PyRl06.answers_asked l = true) :
    ∃ cs : List Call, l = cs.flatMap enc ∧ (∀ c ∈ cs, okCall c) ∧ cs.length ≤ 60 ∧ PyRl06.answers l = PyFlat.told (play Rl06.init cs) ∧ (PyRl06.answers l).length ≤ 10000000 := by
  unfold PyRl06.answers_asked at h
  cases e : PyFlat.calls PyRl06.shape l.length l with
  | none => rw [e] at h; cases h
  | some raw =>
    rw [e] at h
    dsimp only at h
    simp only [Bool.and_eq_true] at h
    obtain ⟨⟨⟨⟨_, h60⟩, hb⟩, ha⟩, hsh⟩ := h
    unfold Rl06Neutral.asked at ha
    rw [Bool.and_eq_true] at ha
    obtain ⟨cs, e1, e2, e3, e4⟩ := calls_enc _ _ _ e hb ha.1
    refine ⟨cs, e1, e2, ?_, ?_, of_decide_eq_true hsh⟩
    · rw [e3]; exact of_decide_eq_true h60
    · unfold PyRl06.answers PyRl06.calls
      rw [e]
      dsimp only
      unfold Rl06Neutral.start
      rw [e4]

/-! ### call by call -/
/-- the state behind some calls -/
def run : St → List Rl06.Call → St
  | s, [] => s
  | s, c :: r => run (Rl06.step s c).1 r
theorem play_append : ∀ (pre post : List Rl06.Call) (s : St), play s (pre ++ post) = play s pre ++ play (run s pre) post
  | [], _, _ => rfl
  | c :: pre, post, s => by
    show (Rl06.step s c).2 :: play (Rl06.step s c).1 (pre ++ post) = (Rl06.step s c).2 :: (play (Rl06.step s c).1 pre ++ play (run (Rl06.step s c).1 pre) post)
    rw [play_append pre post]
theorem run_append : ∀ (pre post : List Rl06.Call) (s : St), run s (pre ++ post) = run (run s pre) post
  | [], _, _ => rfl
  | c :: pre, post, s => run_append pre post (Rl06.step s c).1
theorem told_append (a b : List (List Int)) : PyFlat.told (a ++ b) = PyFlat.told a ++ PyFlat.told b := by
  unfold PyFlat.told; exact List.flatMap_append
theorem told_snoc (pre : List Rl06.Call) (c : Rl06.Call) (s : St) : PyFlat.told (play s (pre ++ [c])) = PyFlat.told (play s pre) ++ ((Rl06.step (run s pre) c).2.length : Int) :: (Rl06.step (run s pre) c).2 := by
  rw [play_append, told_append]
  show _ ++ ((((Rl06.step (run s pre) c).2.length : Int) :: (Rl06.step (run s pre) c).2) ++ []) = _
  rw [List.append_nil]
theorem enc_ne (c : Rl06.Call) : 1 ≤ (enc c).length := by cases c <;> exact Nat.succ_le_succ (Nat.zero_le _)
end Md

set_option Elab.async false
/-! What every desk that calls lead to keeps. Speaks of the specification alone. -/
namespace Md
open Rl06 (Call St Rec)

structure RecOk (n : Nat) (r : Rec) : Prop where
  src : 1 ≤ r.source ∧ r.source ≤ 4
  time : r.time ≤ 1000000
  thing : r.thing ≤ 4
  vlen : r.vals.length = n
  vle : ∀ v ∈ r.vals, v ≤ 1000
  wok : ∀ g ∈ r.wrong, 1 ≤ g ∧ g ≤ n
  wnd : r.wrong.Nodup
  num1 : 1 ≤ r.num

structure Wf (s : St) : Prop where
  rlen : 1 ≤ s.rules.length ∧ s.rules.length ≤ 4
  rle : ∀ k ∈ s.rules, k ≤ 4
  tlen : s.trust.length = 4
  tall : ∀ i, 1 ≤ i → i ≤ 4 → i ∈ s.trust
  nums : (s.recs.map (·.num)).Pairwise (· < ·)
  nlt : ∀ r ∈ s.recs, r.num < s.next
  most : s.recs.length ≤ 12
  rok : ∀ r ∈ s.recs, RecOk s.rules.length r
  pnd : (s.pins.map (·.1)).Nodup
  pok : ∀ p ∈ s.pins, (1 ≤ p.1.1 ∧ p.1.1 ≤ 4) ∧ (1 ≤ p.1.2 ∧ p.1.2 ≤ s.rules.length) ∧ 1 ≤ p.2 ∧ p.2 ≤ 1000
  next1 : 1 ≤ s.next

theorem wf_fresh {n : Nat} (h1 : 1 ≤ n) (h4 : n ≤ 4) : Wf (Rl06.fresh n) := by
  refine ⟨?_, ?_, rfl, ?_, List.Pairwise.nil, (fun r h => nomatch h), Nat.zero_le _, (fun r h => nomatch h), List.Pairwise.nil, (fun p h => nomatch h), Nat.le_refl _⟩
  · show 1 ≤ (List.replicate n 0).length ∧ (List.replicate n 0).length ≤ 4
    rw [List.length_replicate]; exact ⟨h1, h4⟩
  · intro k hk
    rw [List.eq_of_mem_replicate hk]; omega
  · intro i h1 h4
    show i ∈ [1, 2, 3, 4]
    simp; omega
theorem wf_init : Wf Rl06.init := wf_fresh (by decide) (by decide)

theorem recAt_mem {s : St} {n : Nat} {r : Rec} (h : Rl06.recAt s n = some r) : r ∈ s.recs ∧ r.num = n := by
  unfold Rl06.recAt at h
  exact ⟨List.mem_of_find?_eq_some h, by simpa using List.find?_some h⟩
theorem isField_iff {s : St} {f : Nat} : Rl06.isField s f = true ↔ 1 ≤ f ∧ f ≤ s.rules.length := by
  unfold Rl06.isField; simp
theorem isThing_iff {t : Nat} : Rl06.isThing t = true ↔ 1 ≤ t ∧ t ≤ 4 := by
  unfold Rl06.isThing Rl06.THINGS; simp

theorem wf_setRec {s : St} {r : Rec} (W : Wf s) (h : RecOk s.rules.length r) (hn : r.num < s.next) : Wf (Rl06.setRec s r) := by
  have e : (s.recs.map fun q => if q.num = r.num then r else q).map (·.num) = s.recs.map (·.num) := by
    rw [List.map_map]
    apply List.map_congr_left
    intro q _
    show (if q.num = r.num then r else q).num = q.num
    by_cases c : q.num = r.num
    · rw [if_pos c]; exact c.symm
    · rw [if_neg c]
  refine ⟨W.rlen, W.rle, W.tlen, W.tall, ?_, ?_, ?_, ?_, W.pnd, W.pok, W.next1⟩
  · show ((s.recs.map fun q => if q.num = r.num then r else q).map (·.num)).Pairwise (· < ·)
    rw [e]; exact W.nums
  · intro q hq
    obtain ⟨q0, h0, rfl⟩ := List.mem_map.mp hq
    show (if q0.num = r.num then r else q0).num < s.next
    by_cases c : q0.num = r.num
    · rw [if_pos c]; exact hn
    · rw [if_neg c]; exact W.nlt q0 h0
  · show (s.recs.map fun q => if q.num = r.num then r else q).length ≤ 12
    rw [List.length_map]; exact W.most
  · intro q hq
    obtain ⟨q0, h0, rfl⟩ := List.mem_map.mp hq
    show RecOk s.rules.length (if q0.num = r.num then r else q0)
    by_cases c : q0.num = r.num
    · rw [if_pos c]; exact h
    · rw [if_neg c]; exact W.rok q0 h0

theorem mem_set_le {l : List Nat} {i v b x : Nat} (h : ∀ x ∈ l, x ≤ b) (hv : v ≤ b) (hx : x ∈ l.set i v) : x ≤ b := by
  rcases List.mem_or_eq_of_mem_set hx with h1 | h1
  · exact h x h1
  · omega

/-- **each call keeps it**; the next number grows by one at most -/
theorem wf_step {s : St} (W : Wf s) (c : Call) : Wf (Rl06.step s c).1 ∧ (Rl06.step s c).1.next ≤ s.next + 1 := by
  have hid : Wf s ∧ s.next ≤ s.next + 1 := ⟨W, Nat.le_succ _⟩
  have n1 := W.next1
  cases c with
  | fields n =>
    dsimp only [Rl06.step]
    by_cases h : n = 0 ∨ 4 < n
    · rw [if_pos h]; exact hid
    · rw [if_neg h]
      exact ⟨wf_fresh (by omega) (by omega), by show 1 ≤ _; omega⟩
  | rule f k =>
    dsimp only [Rl06.step]
    split
    · exact hid
    · split
      · exact hid
      · refine ⟨⟨?_, ?_, W.tlen, W.tall, W.nums, W.nlt, W.most, ?_, W.pnd, ?_, W.next1⟩, Nat.le_succ _⟩
        · show 1 ≤ (s.rules.set (f - 1) k).length ∧ (s.rules.set (f - 1) k).length ≤ 4
          rw [List.length_set]; exact W.rlen
        · intro x hx
          exact mem_set_le W.rle (by omega) hx
        · show ∀ r ∈ s.recs, RecOk (s.rules.set (f - 1) k).length r
          rw [List.length_set]; exact W.rok
        · show ∀ p ∈ s.pins, (1 ≤ p.1.1 ∧ p.1.1 ≤ 4) ∧ (1 ≤ p.1.2 ∧ p.1.2 ≤ (s.rules.set (f - 1) k).length) ∧ 1 ≤ p.2 ∧ p.2 ≤ 1000
          rw [List.length_set]; exact W.pok
  | trust l =>
    dsimp only [Rl06.step]
    split
    · exact hid
    · rename_i h
      have hl : l.length = 4 := Classical.byContradiction fun q => h (.inl q)
      have ha : [1, 2, 3, 4].all l.contains = true := by
        cases e : [1, 2, 3, 4].all l.contains
        · exact absurd (.inr e) h
        · rfl
      refine ⟨⟨W.rlen, W.rle, hl, ?_, W.nums, W.nlt, W.most, W.rok, W.pnd, W.pok, W.next1⟩, Nat.le_succ _⟩
      intro i h1 h4
      have hm : i ∈ [1, 2, 3, 4] := by simp; omega
      have := List.all_eq_true.mp ha i hm
      simpa using this
  | record a b t l =>
    dsimp only [Rl06.step]
    split
    · exact hid
    · rename_i h
      split
      · exact hid
      · rename_i h12
        simp only [Rl06.SOURCES, Rl06.THINGS] at h
        have hv : ∀ v ∈ l, v ≤ 1000 := by
          have : l.all (fun v => decide (v ≤ 1000)) = true := by
            cases e : l.all (fun v => decide (v ≤ 1000))
            · exact absurd (.inr (.inr (.inr (.inr (.inr e))))) h
            · rfl
          intro v hv
          exact of_decide_eq_true (List.all_eq_true.mp this v hv)
        refine ⟨⟨W.rlen, W.rle, W.tlen, W.tall, ?_, ?_, ?_, ?_, W.pnd, W.pok, Nat.le_succ_of_le W.next1⟩, Nat.le_refl _⟩
        · show ((s.recs ++ [(⟨s.next, a, b, t, l, []⟩ : Rec)]).map (·.num)).Pairwise (· < ·)
          rw [List.map_append, List.pairwise_append]
          refine ⟨W.nums, List.pairwise_singleton _ _, fun x hx y hy => ?_⟩
          obtain ⟨r, hr, rfl⟩ := List.mem_map.mp hx
          have : y = s.next := by simpa using hy
          rw [this]; exact W.nlt r hr
        · intro r hr
          show r.num < s.next + 1
          rcases List.mem_append.mp hr with h1 | h1
          · exact Nat.lt_succ_of_lt (W.nlt r h1)
          · have : r = ⟨s.next, a, b, t, l, []⟩ := by simpa using h1
            rw [this]; exact Nat.lt_succ_self _
        · show (s.recs ++ [_]).length ≤ 12
          rw [List.length_append, List.length_singleton]; omega
        · intro r hr
          show RecOk s.rules.length r
          rcases List.mem_append.mp hr with h1 | h1
          · exact W.rok r h1
          · have : r = ⟨s.next, a, b, t, l, []⟩ := by simpa using h1
            subst this
            exact ⟨⟨by show 1 ≤ a; omega, by show a ≤ 4; omega⟩, by show b ≤ 1000000; omega, by show t ≤ 4; omega, by show l.length = _; omega, hv, (fun g hg => nomatch hg), List.Pairwise.nil, n1⟩
  | remove n =>
    dsimp only [Rl06.step]
    split
    · exact hid
    · refine ⟨⟨W.rlen, W.rle, W.tlen, W.tall, ?_, ?_, ?_, ?_, W.pnd, W.pok, W.next1⟩, Nat.le_succ _⟩
      · exact W.nums.sublist (List.filter_sublist.map _)
      · exact fun r hr => W.nlt r (List.mem_filter.mp hr).1
      · exact Nat.le_trans (List.length_filter_le _ _) W.most
      · exact fun r hr => W.rok r (List.mem_filter.mp hr).1
  | change n f v =>
    dsimp only [Rl06.step]
    split
    · exact hid
    · rename_i r hr
      obtain ⟨hm, hn⟩ := recAt_mem hr
      have R := W.rok r hm
      split
      · exact hid
      · split
        · exact hid
        · refine ⟨wf_setRec W ⟨R.src, R.time, R.thing, ?_, ?_, ?_, ?_, R.num1⟩ (W.nlt r hm), Nat.le_succ _⟩
          · show (r.vals.set (f - 1) v).length = _
            rw [List.length_set]; exact R.vlen
          · intro x hx
            exact mem_set_le R.vle (by omega) hx
          · exact fun g hg => R.wok g (List.mem_filter.mp hg).1
          · exact R.wnd.filter _
  | put n t =>
    dsimp only [Rl06.step]
    split
    · exact hid
    · rename_i r hr
      obtain ⟨hm, hn⟩ := recAt_mem hr
      have R := W.rok r hm
      split
      · exact hid
      · rename_i h
        simp only [Rl06.THINGS] at h
        exact ⟨wf_setRec W ⟨R.src, R.time, by show t ≤ 4; omega, R.vlen, R.vle, R.wok, R.wnd, R.num1⟩ (W.nlt r hm), Nat.le_succ _⟩
  | wrong n f =>
    dsimp only [Rl06.step]
    split
    · exact hid
    · rename_i r hr
      obtain ⟨hm, hn⟩ := recAt_mem hr
      have R := W.rok r hm
      split
      · exact hid
      · rename_i hf
        have hf : 1 ≤ f ∧ f ≤ s.rules.length := isField_iff.mp (by cases e : Rl06.isField s f <;> first | exact absurd e hf | rfl)
        split
        · exact ⟨wf_setRec W ⟨R.src, R.time, R.thing, R.vlen, R.vle, fun g hg => R.wok g (List.mem_filter.mp hg).1, R.wnd.filter _, R.num1⟩ (W.nlt r hm), Nat.le_succ _⟩
        · rename_i hc
          refine ⟨wf_setRec W ⟨R.src, R.time, R.thing, R.vlen, R.vle, ?_, ?_, R.num1⟩ (W.nlt r hm), Nat.le_succ _⟩
          · intro g hg
            rcases List.mem_append.mp hg with h1 | h1
            · exact R.wok g h1
            · have : g = f := by simpa using h1
              rw [this]; exact hf
          · show (r.wrong ++ [f]).Nodup
            rw [List.nodup_append]
            refine ⟨R.wnd, by simp, fun a ha b hb => ?_⟩
            have : b = f := by simpa using hb
            subst this
            intro e
            subst e
            exact hc (by simpa using ha)
  | pin t f v =>
    dsimp only [Rl06.step]
    split
    · exact hid
    · rename_i h
      have ht : Rl06.isThing t = true := by
        cases e : Rl06.isThing t
        · exact absurd (.inl e) h
        · rfl
      have hf : Rl06.isField s f = true := by
        cases e : Rl06.isField s f
        · exact absurd (.inr e) h
        · rfl
      split
      · exact hid
      · rename_i hv
        have pnd : ((s.pins.filter fun x => x.1 != (t, f)).map (·.1)).Nodup := W.pnd.sublist (List.filter_sublist.map _)
        have pok := fun p (hp : p ∈ s.pins.filter fun x => x.1 != (t, f)) => W.pok p (List.mem_filter.mp hp).1
        by_cases hv0 : v = 0
        · rw [if_pos hv0]
          exact ⟨⟨W.rlen, W.rle, W.tlen, W.tall, W.nums, W.nlt, W.most, W.rok, pnd, pok, W.next1⟩, Nat.le_succ _⟩
        · rw [if_neg hv0]
          refine ⟨⟨W.rlen, W.rle, W.tlen, W.tall, W.nums, W.nlt, W.most, W.rok, ?_, ?_, W.next1⟩, Nat.le_succ _⟩
          · show ((s.pins.filter (fun x => x.1 != (t, f)) ++ [((t, f), v)]).map (·.1)).Nodup
            rw [List.map_append, List.nodup_append]
            refine ⟨pnd, by simp, fun a ha b hb => ?_⟩
            have : b = (t, f) := by simpa using hb
            subst this
            obtain ⟨p, hp, rfl⟩ := List.mem_map.mp ha
            have := (List.mem_filter.mp hp).2
            simpa using this
          · intro p hp
            rcases List.mem_append.mp hp with h1 | h1
            · exact pok p h1
            · have : p = ((t, f), v) := by simpa using h1
              subst this
              exact ⟨isThing_iff.mp ht, isField_iff.mp hf, by show 1 ≤ v; omega, by show v ≤ 1000; omega⟩
  | one t => exact hid
  | why t f => exact hid
  | conflicts t => exact hid
  | fewest t f => exact hid
  | counts => exact hid

/-! The trust: four numbers among which are 1 to 4, each once. -/
theorem trust_perm {l : List Nat} (h4 : l.length = 4) (ha : ∀ i, 1 ≤ i → i ≤ 4 → i ∈ l) : l.Perm [1, 2, 3, 4] := by
  have p1 := List.perm_cons_erase (ha 1 (by omega) (by omega))
  have m2 : 2 ∈ l.erase 1 := (List.mem_erase_of_ne (by decide)).mpr (ha 2 (by omega) (by omega))
  have m3 : 3 ∈ l.erase 1 := (List.mem_erase_of_ne (by decide)).mpr (ha 3 (by omega) (by omega))
  have m4 : 4 ∈ l.erase 1 := (List.mem_erase_of_ne (by decide)).mpr (ha 4 (by omega) (by omega))
  have p2 := List.perm_cons_erase m2
  have n3 : 3 ∈ (l.erase 1).erase 2 := (List.mem_erase_of_ne (by decide)).mpr m3
  have n4 : 4 ∈ (l.erase 1).erase 2 := (List.mem_erase_of_ne (by decide)).mpr m4
  have p3 := List.perm_cons_erase n3
  have o4 : 4 ∈ ((l.erase 1).erase 2).erase 3 := (List.mem_erase_of_ne (by decide)).mpr n4
  have p4 := List.perm_cons_erase o4
  have p := p1.trans ((p2.trans ((p3.trans (p4.cons 3)).cons 2)).cons 1)
  have hl := p.length_eq
  rw [h4] at hl
  have e : (((l.erase 1).erase 2).erase 3).erase 4 = [] := by
    apply List.eq_nil_of_length_eq_zero
    simp only [List.length_cons] at hl
    omega
  rw [e] at p
  exact p
theorem trust_iff {l : List Nat} : (l.length ≠ 4 ∨ [1, 2, 3, 4].all l.contains = false) ↔ ¬ l.Perm [1, 2, 3, 4] := by
  constructor
  · intro h p
    rcases h with h | h
    · exact h p.length_eq
    · have : [1, 2, 3, 4].all l.contains = true := by
        rw [List.all_eq_true]
        intro x hx
        simpa using p.symm.subset hx
      rw [h] at this; cases this
  · intro h
    by_cases h4 : l.length = 4
    · right
      cases e : [1, 2, 3, 4].all l.contains
      · rfl
      · refine absurd (trust_perm h4 fun i h1 h2 => ?_) h
        have := List.all_eq_true.mp e i (by simp; omega)
        simpa using this
    · exact .inl h4
theorem Wf.perm {s : St} (W : Wf s) : s.trust.Perm [1, 2, 3, 4] := trust_perm W.tlen W.tall
end Md

set_option Elab.async false
/-! What is chosen: a strict weak order, whose ties say the same; what goes ahead of all is unique in what it says. Speaks of the specification alone. -/
namespace Md
open Rl06 (Call St Rec)

theorem later_iff {s : St} {f : Nat} {r q : Rec} : Rl06.later s f r q = true ↔ q.time < r.time ∨ (q.time = r.time ∧ (Rl06.place s r.source < Rl06.place s q.source ∨ (Rl06.place s r.source = Rl06.place s q.source ∧ Rl06.says r f < Rl06.says q f))) := by
  unfold Rl06.later; simp
theorem truer_iff {s : St} {f : Nat} {r q : Rec} : Rl06.truer s f r q = true ↔ Rl06.place s r.source < Rl06.place s q.source ∨ (Rl06.place s r.source = Rl06.place s q.source ∧ Rl06.later s f r q = true) := by
  unfold Rl06.truer; simp
theorem commoner_iff {s : St} {rs : List Rec} {f : Nat} {r q : Rec} : Rl06.commoner s rs f r q = true ↔ Rl06.often rs f (Rl06.says q f) < Rl06.often rs f (Rl06.says r f) ∨ (Rl06.often rs f (Rl06.says r f) = Rl06.often rs f (Rl06.says q f) ∧ Rl06.later s f r q = true) := by
  unfold Rl06.commoner; simp

/-- whether one goes ahead, as a proposition -/
def Ahead (s : St) (rs : List Rec) (f k : Nat) (r q : Rec) : Prop := match k with
  | 0 => Rl06.later s f r q = true
  | 1 => Rl06.truer s f r q = true
  | 2 => Rl06.commoner s rs f r q = true
  | 3 => Rl06.says q f < Rl06.says r f
  | _ => Rl06.says r f < Rl06.says q f
theorem ahead_iff {s : St} {rs : List Rec} {f k : Nat} {r q : Rec} : Rl06.ahead s rs f k r q = true ↔ Ahead s rs f k r q := by
  unfold Rl06.ahead Ahead
  match k with
  | 0 => exact Iff.rfl
  | 1 => exact Iff.rfl
  | 2 => exact Iff.rfl
  | 3 => exact decide_eq_true_iff
  | _ + 4 => exact decide_eq_true_iff
theorem ahead0 {s : St} {rs : List Rec} {f : Nat} {r q : Rec} : Ahead s rs f 0 r q ↔ q.time < r.time ∨ (q.time = r.time ∧ (Rl06.place s r.source < Rl06.place s q.source ∨ (Rl06.place s r.source = Rl06.place s q.source ∧ Rl06.says r f < Rl06.says q f))) := later_iff
theorem ahead1 {s : St} {rs : List Rec} {f : Nat} {r q : Rec} : Ahead s rs f 1 r q ↔ Rl06.place s r.source < Rl06.place s q.source ∨ (Rl06.place s r.source = Rl06.place s q.source ∧ (q.time < r.time ∨ (q.time = r.time ∧ (Rl06.place s r.source < Rl06.place s q.source ∨ (Rl06.place s r.source = Rl06.place s q.source ∧ Rl06.says r f < Rl06.says q f))))) := by
  rw [← later_iff]; exact truer_iff
theorem ahead2 {s : St} {rs : List Rec} {f : Nat} {r q : Rec} : Ahead s rs f 2 r q ↔ Rl06.often rs f (Rl06.says q f) < Rl06.often rs f (Rl06.says r f) ∨ (Rl06.often rs f (Rl06.says r f) = Rl06.often rs f (Rl06.says q f) ∧ (q.time < r.time ∨ (q.time = r.time ∧ (Rl06.place s r.source < Rl06.place s q.source ∨ (Rl06.place s r.source = Rl06.place s q.source ∧ Rl06.says r f < Rl06.says q f))))) := by
  rw [← later_iff]; exact commoner_iff
theorem ahead3 {s : St} {rs : List Rec} {f : Nat} {r q : Rec} : Ahead s rs f 3 r q ↔ Rl06.says q f < Rl06.says r f := Iff.rfl
theorem ahead4 {s : St} {rs : List Rec} {f k : Nat} {r q : Rec} : Ahead s rs f (k + 4) r q ↔ Rl06.says r f < Rl06.says q f := Iff.rfl
theorem Ahead.asymm {s : St} {rs : List Rec} {f : Nat} {r q : Rec} : ∀ {k : Nat}, Ahead s rs f k r q → ¬ Ahead s rs f k q r
  | 0, h => by rw [ahead0] at h ⊢; omega
  | 1, h => by rw [ahead1] at h ⊢; omega
  | 2, h => by rw [ahead2] at h ⊢; omega
  | 3, h => by rw [ahead3] at h ⊢; omega
  | _ + 4, h => by rw [ahead4] at h ⊢; omega
theorem Ahead.trans' {s : St} {rs : List Rec} {f : Nat} {a b c : Rec} : ∀ {k : Nat}, ¬ Ahead s rs f k a b → ¬ Ahead s rs f k b c → ¬ Ahead s rs f k a c
  | 0, h1, h2 => by rw [ahead0] at h1 h2 ⊢; omega
  | 1, h1, h2 => by rw [ahead1] at h1 h2 ⊢; omega
  | 2, h1, h2 => by rw [ahead2] at h1 h2 ⊢; omega
  | 3, h1, h2 => by rw [ahead3] at h1 h2 ⊢; omega
  | _ + 4, h1, h2 => by rw [ahead4] at h1 h2 ⊢; omega
theorem Ahead.tie {s : St} {rs : List Rec} {f : Nat} {a b : Rec} : ∀ {k : Nat}, ¬ Ahead s rs f k a b → ¬ Ahead s rs f k b a → Rl06.says a f = Rl06.says b f
  | 0, h1, h2 => by rw [ahead0] at h1 h2; omega
  | 1, h1, h2 => by rw [ahead1] at h1 h2; omega
  | 2, h1, h2 => by rw [ahead2] at h1 h2; omega
  | 3, h1, h2 => by rw [ahead3] at h1 h2; omega
  | _ + 4, h1, h2 => by rw [ahead4] at h1 h2; omega
theorem Ahead.irrefl {s : St} {rs : List Rec} {f k : Nat} {a : Rec} : ¬ Ahead s rs f k a a := fun h => h.asymm h

/-- the fold's best -/
def best (s : St) (rs : List Rec) (f k : Nat) (r : Rec) (l : List Rec) : Rec := l.foldl (fun b q => if Rl06.ahead s rs f k q b = true then q else b) r
theorem best_max {s : St} {rs : List Rec} {f k : Nat} : ∀ (l : List Rec) (r : Rec) (pre : List Rec), (∀ q ∈ pre, ¬ Ahead s rs f k q r) → r ∈ pre →
    best s rs f k r l ∈ pre ++ l ∧ ∀ q ∈ pre ++ l, ¬ Ahead s rs f k q (best s rs f k r l)
  | [], r, pre, h, hm => by
    rw [List.append_nil]
    exact ⟨hm, h⟩
  | q :: l, r, pre, h, hm => by
    have e : best s rs f k r (q :: l) = best s rs f k (if Rl06.ahead s rs f k q r = true then q else r) l := rfl
    rw [e]
    have e2 : pre ++ q :: l = (pre ++ [q]) ++ l := by rw [List.append_assoc]; rfl
    rw [e2]
    by_cases c : Rl06.ahead s rs f k q r = true
    · rw [if_pos c]
      have c' := ahead_iff.mp c
      refine best_max l q (pre ++ [q]) (fun p hp => ?_) (List.mem_append_right _ (List.mem_singleton_self _))
      rcases List.mem_append.mp hp with h1 | h1
      · exact Ahead.trans' (h p h1) c'.asymm
      · rw [List.mem_singleton.mp h1]; exact Ahead.irrefl
    · rw [if_neg c]
      refine best_max l r (pre ++ [q]) (fun p hp => ?_) (List.mem_append_left _ hm)
      rcases List.mem_append.mp hp with h1 | h1
      · exact h p h1
      · rw [List.mem_singleton.mp h1]; exact fun a => c (ahead_iff.mpr a)

/-- **what is chosen** is what any record says that nothing goes ahead of -/
theorem chosen_of {s : St} {rs : List Rec} {f k : Nat} {m : Rec} (hm : m ∈ rs) (h : ∀ q ∈ rs, ¬ Ahead s rs f k q m) : Rl06.chosen s rs f k = Rl06.says m f := by
  match rs, hm, h with
  | r :: l, hm, h =>
    show Rl06.says (best s (r :: l) f k r l) f = _
    have b := best_max (s := s) (rs := r :: l) (f := f) (k := k) l r [r] (fun q hq => by rw [List.mem_singleton.mp hq]; exact Ahead.irrefl) (List.mem_singleton_self _)
    exact Ahead.tie (h _ b.1) (b.2 m hm)
theorem chosen_max {s : St} {rs : List Rec} {f k : Nat} (h : rs ≠ []) : ∃ m ∈ rs, (∀ q ∈ rs, ¬ Ahead s rs f k q m) ∧ Rl06.chosen s rs f k = Rl06.says m f := by
  match rs, h with
  | r :: l, _ =>
    have b := best_max (s := s) (rs := r :: l) (f := f) (k := k) l r [r] (fun q hq => by rw [List.mem_singleton.mp hq]; exact Ahead.irrefl) (List.mem_singleton_self _)
    exact ⟨_, b.1, b.2, rfl⟩
theorem often_perm {rs qs : List Rec} (p : rs.Perm qs) (f v : Nat) : Rl06.often rs f v = Rl06.often qs f v := by
  unfold Rl06.often
  exact (p.filter _).length_eq
theorem Ahead.perm {s : St} {rs qs : List Rec} {f k : Nat} {a b : Rec} (p : rs.Perm qs) : Ahead s rs f k a b ↔ Ahead s qs f k a b := by
  unfold Ahead
  match k with
  | 0 => exact Iff.rfl
  | 1 => exact Iff.rfl
  | 2 => rw [commoner_iff, commoner_iff, often_perm p, often_perm p]
  | 3 => exact Iff.rfl
  | _ + 4 => exact Iff.rfl
/-- **in whatever order** -/
theorem chosen_perm {s : St} {rs qs : List Rec} {f k : Nat} (p : rs.Perm qs) : Rl06.chosen s rs f k = Rl06.chosen s qs f k := by
  by_cases e : rs = []
  · subst e
    rw [List.nil_perm.mp p]
  · obtain ⟨m, hm, h, e1⟩ := chosen_max (s := s) (f := f) (k := k) e
    rw [e1]
    exact (chosen_of (p.subset hm) fun q hq a => h q (p.symm.subset hq) ((Ahead.perm p).mpr a)).symm

/-! fewest -/
theorem sayers_says {s : St} {t f : Nat} {r : Rec} (h : r ∈ Rl06.sayers s t f) : r ∈ s.recs ∧ r.thing = t ∧ Rl06.says r f ≠ 0 := by
  unfold Rl06.sayers at h
  have := List.mem_filter.mp h
  refine ⟨this.1, ?_⟩
  simpa using this.2
theorem chosen_nil {s : St} {f k : Nat} : Rl06.chosen s [] f k = 0 := rfl
theorem chosen_zero {s : St} {f k : Nat} {rs : List Rec} (h : ∀ r ∈ rs, Rl06.says r f ≠ 0) : Rl06.chosen s rs f k = 0 ↔ rs = [] := by
  constructor
  · intro e
    apply Classical.byContradiction
    intro hn
    obtain ⟨m, hm, _, e1⟩ := chosen_max (s := s) (f := f) (k := k) hn
    exact h m hm (e1.symm.trans e)
  · intro e; subst e; rfl
theorem choose_all : ∀ (l : List Nat), Rl06.choose l.length l = [l]
  | [] => rfl
  | x :: l => by
    have e : Rl06.choose (l.length + 1) l = [] := choose_more l _ (Nat.lt_succ_self _)
    show (Rl06.choose l.length l).map (fun c => x :: c) ++ Rl06.choose (l.length + 1) l = [x :: l]
    rw [choose_all l, e]; rfl
where
  choose_more : ∀ (l : List Nat) (k : Nat), l.length < k → Rl06.choose k l = []
  | [], k + 1, _ => rfl
  | x :: l, k + 1, h => by
    show (Rl06.choose k l).map (fun c => x :: c) ++ Rl06.choose (k + 1) l = []
    rw [choose_more l k (by simpa using h), choose_more l (k + 1) (by simp at h; omega)]; rfl
theorem choose_zero (l : List Nat) : Rl06.choose 0 l = [[]] := by cases l <;> rfl
theorem choose_len : ∀ {k : Nat} {l c : List Nat}, c ∈ Rl06.choose k l → c.length = k
  | 0, l, c, h => by
    rw [choose_zero] at h
    rw [List.mem_singleton.mp h]; rfl
  | k + 1, [], c, h => by cases h
  | k + 1, x :: l, c, h => by
    have h : c ∈ (Rl06.choose k l).map (fun c => x :: c) ++ Rl06.choose (k + 1) l := h
    rcases List.mem_append.mp h with h1 | h1
    · obtain ⟨d, hd, rfl⟩ := List.mem_map.mp h1
      rw [List.length_cons, choose_len hd]
    · exact choose_len h1
theorem choose_sub : ∀ {k : Nat} {l c : List Nat}, c ∈ Rl06.choose k l → c.Sublist l
  | 0, l, c, h => by
    rw [choose_zero] at h
    rw [List.mem_singleton.mp h]; exact List.nil_sublist _
  | k + 1, [], c, h => by cases h
  | k + 1, x :: l, c, h => by
    have h : c ∈ (Rl06.choose k l).map (fun c => x :: c) ++ Rl06.choose (k + 1) l := h
    rcases List.mem_append.mp h with h1 | h1
    · obtain ⟨d, hd, rfl⟩ := List.mem_map.mp h1
      exact (choose_sub hd).cons_cons x
    · exact (choose_sub h1).cons x
theorem mem_choose : ∀ {l c : List Nat}, c.Sublist l → c ∈ Rl06.choose c.length l
  | [], c, h => by
    rw [List.sublist_nil.mp h]; exact List.mem_singleton_self _
  | x :: l, c, h => by
    cases h with
    | cons _ h =>
      have := mem_choose h
      match c, this with
      | [], _ => rw [List.length_nil, choose_zero]; exact List.mem_singleton_self _
      | y :: c, this => exact List.mem_append_right _ this
    | cons_cons _ h =>
      exact List.mem_append_left _ (List.mem_map.mpr ⟨_, mem_choose h, rfl⟩)
end Md

set_option Elab.async false
/-! fewest: how few have to go, by the leaders; the first such, by trying one after another. Speaks of the specification alone. -/
namespace Md
open Rl06 (Call St Rec)
section
variable {s : St} {f k v : Nat}
/-- j of these can go so that something else is chosen -/
def Gone (s : St) (f k v : Nat) (S : List Rec) (j : Nat) : Prop := ∃ T R, (T ++ R).Perm S ∧ R.length = j ∧ Rl06.chosen s T f k ≠ v
def Least (s : St) (f k v : Nat) (S : List Rec) (j : Nat) : Prop := Gone s f k v S j ∧ ∀ i, Gone s f k v S i → j ≤ i
theorem Gone.perm {S S' : List Rec} {j : Nat} (p : S.Perm S') (h : Gone s f k v S j) : Gone s f k v S' j := by
  obtain ⟨T, R, h1, h2, h3⟩ := h
  exact ⟨T, R, h1.trans p, h2, h3⟩
theorem Least.perm {S S' : List Rec} {j : Nat} (p : S.Perm S') (h : Least s f k v S j) : Least s f k v S' j :=
  ⟨h.1.perm p, fun i hi => h.2 i (hi.perm p.symm)⟩
theorem Least.unique {S : List Rec} {i j : Nat} (a : Least s f k v S i) (b : Least s f k v S j) : i = j := Nat.le_antisymm (a.2 j b.1) (b.2 i a.1)
theorem Gone.zero {S : List Rec} : Gone s f k v S 0 ↔ Rl06.chosen s S f k ≠ v := by
  constructor
  · rintro ⟨T, R, h1, h2, h3⟩
    rw [List.length_eq_zero_iff.mp h2, List.append_nil] at h1
    rw [← chosen_perm h1]; exact h3
  · intro h
    exact ⟨S, [], by rw [List.append_nil], rfl, h⟩
theorem Least.zero {S : List Rec} (h : Rl06.chosen s S f k ≠ v) : Least s f k v S 0 := ⟨Gone.zero.mpr h, fun _ _ => Nat.zero_le _⟩
theorem often_append (a b : List Rec) (w : Nat) : Rl06.often (a ++ b) f w = Rl06.often a f w + Rl06.often b f w := by
  unfold Rl06.often; rw [List.filter_append, List.length_append]
theorem often_cons (r : Rec) (l : List Rec) (w : Nat) : Rl06.often (r :: l) f w = (if Rl06.says r f = w then 1 else 0) + Rl06.often l f w := by
  unfold Rl06.often
  by_cases c : Rl06.says r f = w
  · rw [List.filter_cons_of_pos (by simpa using c), if_pos c, List.length_cons]; omega
  · rw [List.filter_cons_of_neg (by simpa using c), if_neg c]; omega
theorem often_pos {l : List Rec} {w : Nat} (h : 0 < Rl06.often l f w) : ∃ x ∈ l, Rl06.says x f = w := by
  unfold Rl06.often at h
  obtain ⟨x, hx⟩ := List.exists_mem_of_length_pos h
  have := List.mem_filter.mp hx
  exact ⟨x, this.1, by simpa using this.2⟩
/-- who goes ahead hangs on the others by their counts alone -/
theorem Ahead.often {S T : List Rec} {a b : Rec} (h : k = 2 → Rl06.often S f (Rl06.says a f) = Rl06.often T f (Rl06.says a f) ∧ Rl06.often S f (Rl06.says b f) = Rl06.often T f (Rl06.says b f)) : Ahead s S f k a b ↔ Ahead s T f k a b := by
  match k, h with
  | 0, _ => exact Iff.rfl
  | 1, _ => exact Iff.rfl
  | 2, h =>
    obtain ⟨h1, h2⟩ := h rfl
    show Rl06.commoner s S f a b = true ↔ Rl06.commoner s T f a b = true
    rw [commoner_iff, commoner_iff, h1, h2]
  | 3, _ => exact Iff.rfl
  | _ + 4, _ => exact Iff.rfl
/-- the leader may be among those that go -/
theorem exchange {S : List Rec} {l : Rec} {j : Nat} (hv : Rl06.chosen s S f k = v) (hl : l ∈ S) (hm : ∀ q ∈ S, ¬ Ahead s S f k q l) (h : Gone s f k v S j) :
    ∃ T R, (T ++ R).Perm S ∧ l ∈ R ∧ R.length = j ∧ Rl06.chosen s T f k ≠ v := by
  obtain ⟨T, R, hp, hj, hc⟩ := h
  have ev : Rl06.says l f = v := by rw [← hv]; exact (chosen_of hl hm).symm
  rcases List.mem_append.mp (hp.mem_iff.mpr hl) with hT | hR
  · -- l stays: then one that says the same goes
    obtain ⟨m, hmT, hmm, em⟩ := chosen_max (s := s) (f := f) (k := k) (List.ne_nil_of_mem hT)
    have hne : Rl06.says m f ≠ v := by rw [← em]; exact hc
    have ml : Ahead s T f k m l := by
      apply Classical.byContradiction
      intro z
      exact hne ((Ahead.tie z (hmm l hT)).trans ev)
    have mS : ¬ Ahead s S f k m l := hm m (hp.subset (List.mem_append_left _ hmT))
    have k2 : k = 2 := by
      apply Classical.byContradiction
      intro z
      exact mS ((Ahead.often (fun e => absurd e z)).mp ml)
    subst k2
    have o1 : ∀ w, Rl06.often S f w = Rl06.often T f w + Rl06.often R f w := fun w => by rw [← often_append, often_perm hp]
    have hx : ∃ x ∈ R, Rl06.says x f = v := by
      apply often_pos (f := f)
      rw [ahead2, ← later_iff, o1, o1, ev] at mS
      rw [ahead2, ← later_iff, ev] at ml
      rcases Nat.eq_zero_or_pos (Rl06.often R f v) with z | z
      · exfalso
        apply mS
        rcases ml with c | ⟨c1, c2⟩
        · left; omega
        · rcases Nat.eq_zero_or_pos (Rl06.often R f (Rl06.says m f)) with y | y
          · right; exact ⟨by omega, c2⟩
          · left; omega
      · exact z
    obtain ⟨x, hxR, ex⟩ := hx
    obtain ⟨T0, pT⟩ : ∃ T0, T.Perm (l :: T0) := ⟨T.erase l, (List.perm_cons_erase hT)⟩
    obtain ⟨R0, pR⟩ : ∃ R0, R.Perm (x :: R0) := ⟨R.erase x, (List.perm_cons_erase hxR)⟩
    refine ⟨x :: T0, l :: R0, ?_, List.mem_cons_self, ?_, ?_⟩
    · refine List.Perm.trans ?_ ((pT.append pR).symm.trans hp)
      show (x :: (T0 ++ l :: R0)).Perm (l :: (T0 ++ x :: R0))
      refine (List.Perm.cons x List.perm_middle).trans ((List.Perm.swap l x _).trans (List.Perm.cons l ?_))
      exact List.perm_middle.symm
    · rw [← hj, pR.length_eq]; rfl
    · intro hcv
      have hmT0 : m ∈ T0 := by
        rcases List.mem_cons.mp (pT.subset hmT) with z | z
        · rw [z] at hne; exact absurd ev hne
        · exact z
      have oo : ∀ w, Rl06.often (x :: T0) f w = Rl06.often T f w := fun w => by
        rw [often_perm pT, often_cons, often_cons, ex, ev]
      obtain ⟨y, hy, hyy, ey⟩ := chosen_max (s := s) (rs := x :: T0) (f := f) (k := 2) (List.cons_ne_nil _ _)
      have eyv : Rl06.says y f = v := by rw [← ey]; exact hcv
      have a1 : ¬ Ahead s T f 2 m y := fun z => hyy m (List.mem_cons_of_mem _ hmT0) ((Ahead.often (fun _ => ⟨oo _, oo _⟩)).mpr z)
      have hyS : y ∈ S := by
        apply hp.subset
        rcases List.mem_cons.mp hy with z | z
        · rw [z]; exact List.mem_append_right _ hxR
        · exact List.mem_append_left _ (pT.symm.subset (List.mem_cons_of_mem _ z))
      have a2 : ¬ Ahead s T f 2 y l := fun z => by
        refine hm y hyS ?_
        rw [ahead2, ← later_iff] at z ⊢
        rw [eyv, ev] at z ⊢
        rcases z with z | z
        · omega
        · exact .inr ⟨rfl, z.2⟩
      exact Ahead.trans' a1 a2 ml
  · exact ⟨T, R, hp, hR, hj, hc⟩
/-- **the leaders go**: one more than without the leader -/
theorem Least.succ {S S0 : List Rec} {l : Rec} {j : Nat} (hv : Rl06.chosen s S f k = v) (hl : l ∈ S) (hm : ∀ q ∈ S, ¬ Ahead s S f k q l) (hp : S.Perm (l :: S0)) (h : Least s f k v S0 j) : Least s f k v S (j + 1) := by
  refine ⟨?_, fun i hi => ?_⟩
  · obtain ⟨T, R, h1, h2, h3⟩ := h.1
    refine ⟨T, l :: R, ?_, by rw [List.length_cons, h2], h3⟩
    exact List.perm_middle.trans ((List.Perm.cons l h1).trans hp.symm)
  · obtain ⟨T, R, h1, h2, h3, h4⟩ := exchange hv hl hm hi
    have pR := List.perm_cons_erase h2
    have p0 : (T ++ R.erase l).Perm S0 := by
      have : (l :: (T ++ R.erase l)).Perm (l :: S0) := List.perm_middle.symm.trans (((List.Perm.refl T).append pR.symm).trans (h1.trans hp))
      exact (List.perm_cons l).mp this
    have := h.2 (R.erase l).length ⟨T, R.erase l, p0, rfl, h4⟩
    rw [List.length_erase_of_mem h2, h3] at this
    have : 0 < R.length := List.length_pos_of_mem h2
    omega
end
/-! ### the first such -/
def keptOf (rs : List Rec) (A : List Nat) : List Rec := rs.filter fun r => !A.contains r.num
theorem keptOf_nil (rs : List Rec) : keptOf rs [] = rs := List.filter_eq_self.mpr fun _ _ => rfl
theorem keptOf_mem {rs : List Rec} {A : List Nat} {r : Rec} : r ∈ keptOf rs A ↔ r ∈ rs ∧ r.num ∉ A := by
  unfold keptOf
  rw [List.mem_filter]
  simp
theorem keptOf_congr {rs : List Rec} {A B : List Nat} (h : ∀ y, y ∈ A ↔ y ∈ B) : keptOf rs A = keptOf rs B := by
  unfold keptOf
  apply List.filter_congr
  intro r _
  congr 1
  rw [Bool.eq_iff_iff, List.contains_iff_mem, List.contains_iff_mem]
  exact h _
theorem keptOf_append (rs : List Rec) (A B : List Nat) : keptOf rs (A ++ B) = (keptOf rs A).filter fun r => !B.contains r.num := by
  unfold keptOf
  rw [List.filter_filter]
  apply List.filter_congr
  intro r _
  rw [Bool.eq_iff_iff]
  simp only [Bool.and_eq_true, Bool.not_eq_true', Bool.eq_false_iff, ne_eq, List.contains_iff_mem, List.mem_append, not_or]
  exact And.comm
theorem keptOf_nums {rs : List Rec} (nd : (rs.map (·.num)).Nodup) (A : List Nat) : ((keptOf rs A).map (·.num)).Nodup := (List.Sublist.map _ List.filter_sublist).nodup nd
section
variable {s : St} {f k v : Nat} {rs : List Rec}
/-- j numbers beside A, without whose records something else is chosen -/
def Sol (s : St) (f k v : Nat) (rs : List Rec) (A : List Nat) (c : List Nat) : Prop := c.Nodup ∧ (∀ y ∈ c, y ∈ (keptOf rs A).map (·.num)) ∧ Rl06.chosen s (keptOf rs (A ++ c)) f k ≠ v
theorem Sol.gone (nd : (rs.map (·.num)).Nodup) {A c : List Nat} (h : Sol s f k v rs A c) : Gone s f k v (keptOf rs A) c.length := by
  obtain ⟨h1, h2, h3⟩ := h
  refine ⟨keptOf rs (A ++ c), (keptOf rs A).filter fun r => c.contains r.num, ?_, ?_, h3⟩
  · rw [keptOf_append]
    have := List.filter_append_perm (fun r : Rec => !c.contains r.num) (keptOf rs A)
    simp only [Bool.not_not] at this
    exact this
  · have p : (((keptOf rs A).filter fun r => c.contains r.num).map (·.num)).Perm c := by
      rw [List.perm_ext_iff_of_nodup ((List.Sublist.map _ List.filter_sublist).nodup (keptOf_nums nd A)) h1]
      intro y
      constructor
      · intro hy
        obtain ⟨r, hr, rfl⟩ := List.mem_map.mp hy
        exact List.contains_iff_mem.mp (List.mem_filter.mp hr).2
      · intro hy
        obtain ⟨r, hr, rfl⟩ := List.mem_map.mp (h2 y hy)
        exact List.mem_map.mpr ⟨r, List.mem_filter.mpr ⟨hr, List.contains_iff_mem.mpr hy⟩, rfl⟩
    rw [← p.length_eq, List.length_map]
theorem Gone.sol (nd : (rs.map (·.num)).Nodup) {A : List Nat} {j : Nat} (h : Gone s f k v (keptOf rs A) j) : ∃ c, Sol s f k v rs A c ∧ c.length = j := by
  obtain ⟨T, R, hp, hj, hc⟩ := h
  have nd2 : ((T ++ R).map (·.num)).Nodup := (hp.map _).nodup_iff.mpr (keptOf_nums nd A)
  rw [List.map_append, List.nodup_append] at nd2
  obtain ⟨nT, nR, nTR⟩ := nd2
  refine ⟨R.map (·.num), ⟨nR, fun y hy => ?_, ?_⟩, by rw [List.length_map, hj]⟩
  · obtain ⟨r, hr, rfl⟩ := List.mem_map.mp hy
    exact List.mem_map.mpr ⟨r, hp.subset (List.mem_append_right _ hr), rfl⟩
  · have e : (keptOf rs (A ++ R.map (·.num))).Perm T := by
      rw [keptOf_append]
      refine (hp.symm.filter _).trans ?_
      rw [List.filter_append]
      have e1 : T.filter (fun r => !(R.map (·.num)).contains r.num) = T := List.filter_eq_self.mpr fun r hr => by
        have : r.num ∉ R.map (·.num) := fun z => nTR r.num (List.mem_map.mpr ⟨r, hr, rfl⟩) r.num z rfl
        rw [Bool.not_eq_true', Bool.eq_false_iff, ne_eq, List.contains_iff_mem]; exact this
      have e2 : R.filter (fun r => !(R.map (·.num)).contains r.num) = [] := List.filter_eq_nil_iff.mpr fun r hr => by
        have : r.num ∈ R.map (·.num) := List.mem_map.mpr ⟨r, hr, rfl⟩
        rw [← List.contains_iff_mem] at this
        rw [this]; simp
      rw [e1, e2, List.append_nil]
    rw [chosen_perm e]; exact hc
theorem Sol.congr {A B c d : List Nat} (h : Sol s f k v rs A c) (hd : d.Nodup) (h2 : ∀ y ∈ d, y ∈ (keptOf rs B).map (·.num)) (e : ∀ y, y ∈ A ++ c ↔ y ∈ B ++ d) : Sol s f k v rs B d :=
  ⟨hd, h2, by rw [← keptOf_congr e]; exact h.2.2⟩
theorem kept_num {A : List Nat} {y : Nat} : y ∈ (keptOf rs A).map (·.num) ↔ y ∈ rs.map (·.num) ∧ y ∉ A := by
  constructor
  · intro h
    obtain ⟨r, hr, rfl⟩ := List.mem_map.mp h
    obtain ⟨h1, h2⟩ := keptOf_mem.mp hr
    exact ⟨List.mem_map.mpr ⟨r, h1, rfl⟩, h2⟩
  · rintro ⟨h1, h2⟩
    obtain ⟨r, hr, rfl⟩ := List.mem_map.mp h1
    exact List.mem_map.mpr ⟨r, keptOf_mem.mpr ⟨hr, h2⟩, rfl⟩
/-- one of them goes ahead of the others -/
theorem Sol.take {A c : List Nat} {y : Nat} (h : Sol s f k v rs A c) (hy : y ∈ c) : Sol s f k v rs (A ++ [y]) (c.erase y) := by
  refine h.congr (h.1.erase y) (fun z hz => ?_) fun z => ?_
  · obtain ⟨h1, h2⟩ := (List.Nodup.mem_erase_iff h.1).mp hz
    obtain ⟨h3, h4⟩ := kept_num.mp (h.2.1 z h2)
    refine kept_num.mpr ⟨h3, ?_⟩
    rw [List.mem_append, List.mem_singleton]
    exact fun q => q.elim h4 h1
  · rw [List.mem_append, List.mem_append, List.mem_append, List.mem_singleton, List.Nodup.mem_erase_iff h.1]
    by_cases e : z = y
    · subst e; simp [hy]
    · simp [e]
theorem Sol.give {A c : List Nat} {x : Nat} (hx : x ∈ rs.map (·.num)) (hA : x ∉ A) (h : Sol s f k v rs (A ++ [x]) c) : Sol s f k v rs A (x :: c) := by
  refine h.congr (List.nodup_cons.mpr ⟨fun z => ?_, h.1⟩) (fun z hz => ?_) fun z => ?_
  · exact (kept_num.mp (h.2.1 x z)).2 (List.mem_append_right _ (List.mem_singleton_self _))
  · rcases List.mem_cons.mp hz with rfl | hz
    · exact kept_num.mpr ⟨hx, hA⟩
    · obtain ⟨h3, h4⟩ := kept_num.mp (h.2.1 z hz)
      exact kept_num.mpr ⟨h3, fun q => h4 (List.mem_append_left _ q)⟩
  · rw [List.append_assoc]; rfl
theorem Gone.give (nd : (rs.map (·.num)).Nodup) {A : List Nat} {x i : Nat} (hx : x ∈ rs.map (·.num)) (hA : x ∉ A) (h : Gone s f k v (keptOf rs (A ++ [x])) i) : Gone s f k v (keptOf rs A) (i + 1) := by
  obtain ⟨c, hc, rfl⟩ := h.sol nd
  exact (hc.give hx hA).gone nd
/-- whether without these something else is chosen -/
def other (s : St) (f k v : Nat) (rs : List Rec) (out : List Nat) : Bool := Rl06.chosen s (keptOf rs out) f k != v
/-- the loop's state behind pre: A went, j are still to go -/
structure Try (s : St) (f k v : Nat) (rs : List Rec) (A pre post : List Nat) (j : Nat) (res : Option (List Nat)) : Prop where
  nums : rs.map (·.num) = pre ++ post
  sub : ∀ y ∈ A, y ∈ pre
  least : Least s f k v (keptOf rs A) j
  skip : ∀ y ∈ pre, y ∉ A → ∀ i, Gone s f k v (keptOf rs (A ++ [y])) i → j ≤ i
  res : res = ((Rl06.choose j post).find? fun c => other s f k v rs (A ++ c)).map (A ++ ·)
variable {A pre post : List Nat} {x j i : Nat} {res : Option (List Nat)}
/-- the smallest are among those that were not yet tried -/
theorem Try.within (nd : (rs.map (·.num)).Nodup) (t : Try s f k v rs A pre post j res) {c : List Nat} (hc : Sol s f k v rs A c) (hl : c.length = j) : ∃ d ∈ Rl06.choose j post, other s f k v rs (A ++ d) = true := by
  have hin : ∀ y ∈ c, y ∈ post := fun y hy => by
    obtain ⟨h1, h2⟩ := kept_num.mp (hc.2.1 y hy)
    rw [t.nums] at h1
    rcases List.mem_append.mp h1 with h1 | h1
    · exfalso
      have := t.skip y h1 h2 _ ((hc.take hy).gone nd)
      rw [List.length_erase_of_mem hy, hl] at this
      have : 0 < c.length := List.length_pos_of_mem hy
      omega
    · exact h1
  have ndp : post.Nodup := by
    rw [t.nums, List.nodup_append] at nd
    exact nd.2.1
  have p : (post.filter fun y => c.contains y).Perm c := by
    rw [List.perm_ext_iff_of_nodup (List.filter_sublist.nodup ndp) hc.1]
    intro y
    rw [List.mem_filter, List.contains_iff_mem]
    exact ⟨fun z => z.2, fun z => ⟨hin y z, z⟩⟩
  refine ⟨post.filter fun y => c.contains y, ?_, ?_⟩
  · have := mem_choose (l := post) (c := post.filter fun y => c.contains y) List.filter_sublist
    rw [p.length_eq, hl] at this
    exact this
  · unfold other
    rw [keptOf_congr (B := A ++ c) fun y => by rw [List.mem_append, List.mem_append, p.mem_iff]]
    simpa using hc.2.2
theorem choose_sol (nd : (rs.map (·.num)).Nodup) (hn : rs.map (·.num) = pre ++ post) (hs : ∀ y ∈ A, y ∈ pre) {d : List Nat} (hd : d ∈ Rl06.choose j post) (ho : other s f k v rs (A ++ d) = true) : Sol s f k v rs A d := by
  have sub := choose_sub hd
  have nd' := nd
  rw [hn, List.nodup_append] at nd'
  refine ⟨sub.nodup nd'.2.1, fun y hy => ?_, by unfold other at ho; simpa using ho⟩
  have hy' := sub.subset hy
  exact kept_num.mpr ⟨by rw [hn]; exact List.mem_append_right _ hy', fun z => nd'.2.2 y (hs y z) y hy' rfl⟩
/-- it goes -/
theorem Try.go (nd : (rs.map (·.num)).Nodup) (t : Try s f k v rs A pre (x :: post) j res) (hi : Least s f k v (keptOf rs (A ++ [x])) i) (h : i < j) : Try s f k v rs (A ++ [x]) (pre ++ [x]) post (j - 1) res := by
  have nd' := nd
  rw [t.nums, List.nodup_append] at nd'
  have hx : x ∈ rs.map (·.num) := by rw [t.nums]; exact List.mem_append_right _ List.mem_cons_self
  have hA : x ∉ A := fun z => nd'.2.2 x (t.sub x z) x List.mem_cons_self rfl
  have ij : j = i + 1 := by
    have := t.least.2 _ (hi.1.give nd hx hA)
    omega
  subst ij
  have t' : Try s f k v rs (A ++ [x]) (pre ++ [x]) post i (((Rl06.choose i post).find? fun c => other s f k v rs (A ++ [x] ++ c)).map (A ++ [x] ++ ·)) := by
    refine ⟨by rw [t.nums, List.append_assoc]; rfl, fun y hy => ?_, hi, fun y hy hyA i' hg => ?_, rfl⟩
    · rcases List.mem_append.mp hy with z | z
      · exact List.mem_append_left _ (t.sub y z)
      · exact List.mem_append_right _ z
    · have hyx : y ≠ x := fun z => hyA (List.mem_append_right _ (List.mem_singleton.mpr z))
      have hyA' : y ∉ A := fun z => hyA (List.mem_append_left _ z)
      have hyp : y ∈ pre := by
        rcases List.mem_append.mp hy with z | z
        · exact z
        · exact absurd (List.mem_singleton.mp z) hyx
      have e : keptOf rs (A ++ [x] ++ [y]) = keptOf rs (A ++ [y] ++ [x]) := keptOf_congr fun z => by
        simp only [List.mem_append, List.mem_singleton]
        constructor
        · rintro ((a | a) | a)
          · exact .inl (.inl a)
          · exact .inr a
          · exact .inl (.inr a)
        · rintro ((a | a) | a)
          · exact .inl (.inl a)
          · exact .inr a
          · exact .inl (.inr a)
      rw [e] at hg
      have hxA : x ∉ A ++ [y] := fun z => by
        rcases List.mem_append.mp z with z | z
        · exact hA z
        · exact hyx (List.mem_singleton.mp z).symm
      have := t.skip y hyp hyA' _ (hg.give nd hx hxA)
      omega
  rw [Nat.add_sub_cancel]
  have er : res = ((Rl06.choose i post).find? fun c => other s f k v rs (A ++ [x] ++ c)).map (A ++ [x] ++ ·) := by
    rw [t.res]
    show (List.find? _ ((Rl06.choose i post).map (fun c => x :: c) ++ Rl06.choose (i + 1) post)).map _ = _
    rw [List.find?_append, List.find?_map]
    obtain ⟨c, hc, hl⟩ := hi.1.sol nd
    obtain ⟨d, hd, ho⟩ := t'.within nd hc hl
    have e1 : ((fun c => other s f k v rs (A ++ c)) ∘ fun c => x :: c) = fun c => other s f k v rs (A ++ [x] ++ c) := by
      funext c
      show other s f k v rs (A ++ x :: c) = _
      rw [List.append_assoc]; rfl
    rw [e1]
    cases hfd : (Rl06.choose i post).find? (fun c => other s f k v rs (A ++ [x] ++ c)) with
    | none =>
      rw [List.find?_eq_none] at hfd
      exact absurd ho (hfd d hd)
    | some d' =>
      show some (A ++ x :: d') = some (A ++ [x] ++ d')
      rw [List.append_assoc]; rfl
  rw [er]
  exact t'
/-- it stays -/
theorem Try.stay (nd : (rs.map (·.num)).Nodup) (t : Try s f k v rs A pre (x :: post) j res) (hi : Least s f k v (keptOf rs (A ++ [x])) i) (h : ¬ i < j) : Try s f k v rs A (pre ++ [x]) post j res := by
  have nd' := nd
  rw [t.nums, List.nodup_append] at nd'
  have hx : x ∈ rs.map (·.num) := by rw [t.nums]; exact List.mem_append_right _ List.mem_cons_self
  have hA : x ∉ A := fun z => nd'.2.2 x (t.sub x z) x List.mem_cons_self rfl
  have hn : rs.map (·.num) = pre ++ [x] ++ post := by rw [t.nums, List.append_assoc]; rfl
  refine ⟨hn, fun y hy => List.mem_append_left _ (t.sub y hy), t.least, fun y hy hyA i' hg => ?_, ?_⟩
  · rcases List.mem_append.mp hy with z | z
    · exact t.skip y z hyA i' hg
    · rw [List.mem_singleton.mp z] at hg
      have := hi.2 i' hg
      omega
  · rw [t.res]
    match j, h with
    | 0, _ => rw [choose_zero, choose_zero]
    | j + 1, h =>
      show (List.find? _ ((Rl06.choose j post).map (fun c => x :: c) ++ Rl06.choose (j + 1) post)).map _ = _
      rw [List.find?_append]
      have e : ((Rl06.choose j post).map fun c => x :: c).find? (fun c => other s f k v rs (A ++ c)) = none := by
        rw [List.find?_eq_none]
        intro c hc ho
        obtain ⟨d, hd, rfl⟩ := List.mem_map.mp hc
        have ho : other s f k v rs (A ++ [x] ++ d) = true := by rw [List.append_assoc]; exact ho
        have sd := choose_sol nd hn (fun y hy => (by
          rcases List.mem_append.mp hy with z | z
          · exact List.mem_append_left _ (t.sub y z)
          · exact List.mem_append_right _ z)) hd ho
        have := hi.2 _ (sd.gone nd)
        rw [choose_len hd] at this
        omega
      rw [e]
      rfl
/-- all were tried -/
theorem Try.done (nd : (rs.map (·.num)).Nodup) (t : Try s f k v rs A pre [] j res) : res = some A := by
  obtain ⟨c, hc, hl⟩ := t.least.1.sol nd
  obtain ⟨d, hd, ho⟩ := t.within nd hc hl
  rw [t.res]
  match j, hd with
  | 0, hd =>
    rw [choose_zero] at hd ⊢
    rw [List.mem_singleton.mp hd] at ho
    have e : [([] : List Nat)].find? (fun c => other s f k v rs (A ++ c)) = some [] := List.find?_cons_of_pos (p := fun c => other s f k v rs (A ++ c)) ho
    rw [e]
    show some (A ++ []) = some A
    rw [List.append_nil]
/-- at the beginning -/
theorem Try.start {s : St} {t f : Nat} {j : Nat} (nd : ((Rl06.sayers s t f).map (·.num)).Nodup) (h : Least s f (Rl06.rule s f) (Rl06.chosen s (Rl06.sayers s t f) f (Rl06.rule s f)) (Rl06.sayers s t f) j) :
    Try s f (Rl06.rule s f) (Rl06.chosen s (Rl06.sayers s t f) f (Rl06.rule s f)) (Rl06.sayers s t f) [] [] ((Rl06.sayers s t f).map (·.num)) j (Rl06.fewest s t f) := by
  have h' : Least s f (Rl06.rule s f) (Rl06.chosen s (Rl06.sayers s t f) f (Rl06.rule s f)) (keptOf (Rl06.sayers s t f) []) j := by rw [keptOf_nil]; exact h
  have t' : Try s f (Rl06.rule s f) (Rl06.chosen s (Rl06.sayers s t f) f (Rl06.rule s f)) (Rl06.sayers s t f) [] [] ((Rl06.sayers s t f).map (·.num)) j _ :=
    ⟨rfl, (fun y hy => nomatch hy), h', (fun y hy => nomatch hy), rfl⟩
  refine ⟨rfl, (fun y hy => nomatch hy), h', (fun y hy => nomatch hy), ?_⟩
  obtain ⟨c, hc, hl⟩ := h'.1.sol nd
  obtain ⟨d, hd, ho⟩ := t'.within nd hc hl
  have jle : j ≤ (Rl06.sayers s t f).length := by
    have := (choose_sub hd).length_le
    rw [choose_len hd, List.length_map] at this
    exact this
  show ((List.range ((Rl06.sayers s t f).length + 1)).flatMap fun k => Rl06.choose k ((Rl06.sayers s t f).map fun r => r.num)).find? (other s f (Rl06.rule s f) (Rl06.chosen s (Rl06.sayers s t f) f (Rl06.rule s f)) (Rl06.sayers s t f)) = _
  have er : List.range ((Rl06.sayers s t f).length + 1) = List.range j ++ j :: (List.range ((Rl06.sayers s t f).length - j)).map (fun i => j + 1 + i) := by
    have e : (Rl06.sayers s t f).length + 1 = j + (((Rl06.sayers s t f).length - j) + 1) := by omega
    rw [e, List.range_add, List.range_succ_eq_map]
    simp only [List.map_cons, Nat.add_zero, List.map_map]
    congr 2
    apply List.map_congr_left
    intro i _
    show j + (i + 1) = j + 1 + i
    omega
  rw [er, List.flatMap_append, List.flatMap_cons, List.find?_append, List.find?_append]
  have e0 : ((List.range j).flatMap fun k => Rl06.choose k ((Rl06.sayers s t f).map fun r => r.num)).find? (other s f (Rl06.rule s f) (Rl06.chosen s (Rl06.sayers s t f) f (Rl06.rule s f)) (Rl06.sayers s t f)) = none := by
    rw [List.find?_eq_none]
    intro c hc ho
    obtain ⟨i, hi, hci⟩ := List.mem_flatMap.mp hc
    have sd := choose_sol (A := []) (pre := []) (post := (Rl06.sayers s t f).map (·.num)) nd rfl (fun y hy => nomatch hy) hci ho
    have := h'.2 _ (sd.gone nd)
    rw [choose_len hci] at this
    have := List.mem_range.mp hi
    omega
  rw [e0]
  have e1 : (fun c => other s f (Rl06.rule s f) (Rl06.chosen s (Rl06.sayers s t f) f (Rl06.rule s f)) (Rl06.sayers s t f) ([] ++ c)) = other s f (Rl06.rule s f) (Rl06.chosen s (Rl06.sayers s t f) f (Rl06.rule s f)) (Rl06.sayers s t f) := rfl
  rw [e1]
  cases hfd : (Rl06.choose j ((Rl06.sayers s t f).map (·.num))).find? (other s f (Rl06.rule s f) (Rl06.chosen s (Rl06.sayers s t f) f (Rl06.rule s f)) (Rl06.sayers s t f)) with
  | none =>
    rw [List.find?_eq_none] at hfd
    exact absurd ho (hfd d hd)
  | some d' => rfl
end
theorem fewest_none {s : St} {t f : Nat} (h : Rl06.sayers s t f = []) : Rl06.fewest s t f = none := by
  unfold Rl06.fewest
  rw [h]
  rfl
end Md

set_option Elab.async false
set_option maxRecDepth 100000
set_option maxHeartbeats 2000000
/-! How the desk lies in the heap. -/
namespace Md
open PySem PySem.Spec PyProof.Rows L2

/-! ### attributes by name -/
theorem lk_here {k : Str} {v : V} {r : List (Str × V)} : List.lookup k ((k, v) :: r) = some v := by
  have e : (k == k) = true := beq_self_eq_true k
  simp only [List.lookup, e]
theorem lk_past {k g : Str} {v : V} {r : List (Str × V)} (h : (k == g) = false) : List.lookup k ((g, v) :: r) = List.lookup k r := by
  simp only [List.lookup, h]
theorem put_here {f : Str} {v x : V} {r : List (Str × V)} : putF f v ((f, x) :: r) = (f, v) :: r := if_pos rfl
theorem put_past {f g : Str} {v x : V} {r : List (Str × V)} (h : ¬ g = f) : putF f v ((g, x) :: r) = (g, x) :: putF f v r := if_neg h

/-! ### numbers -/
def iv (n : Nat) : V := .int (n : Int)
def ivs (l : List Nat) : List V := l.map iv
theorem ivs_ints (l : List Nat) : ivs l = (Rl06.ints l).map V.int := by
  unfold ivs Rl06.ints
  rw [List.map_map]
  rfl
theorem ivs_len (l : List Nat) : (ivs l).length = l.length := List.length_map ..
theorem ivs_get {l : List Nat} {i n : Nat} (h : l[i]? = some n) : (ivs l)[i]? = some (iv n) := by
  unfold ivs
  rw [List.getElem?_map, h]; rfl
theorem ivs_set (l : List Nat) (i n : Nat) : (ivs l).set i (iv n) = ivs (l.set i n) := by
  unfold ivs
  rw [List.map_set]

/-! ### a record -/
abbrev Q3 := Addr × Addr × Addr
def recF (r : Rl06.Rec) (q : Q3) : List (Str × V) := [("source", iv r.source), ("time", iv r.time), ("thing", iv r.thing), ("field_values", .ref q.2.1), ("field_wrong", .ref q.2.2)]
theorem recF_source (r : Rl06.Rec) (q : Q3) : (recF r q).lookup ("source" : Str) = some (iv r.source) := lk_here
theorem recF_time (r : Rl06.Rec) (q : Q3) : (recF r q).lookup ("time" : Str) = some (iv r.time) := (lk_past (by decide +kernel)).trans lk_here
theorem recF_thing (r : Rl06.Rec) (q : Q3) : (recF r q).lookup ("thing" : Str) = some (iv r.thing) := (lk_past (by decide +kernel)).trans ((lk_past (by decide +kernel)).trans lk_here)
theorem recF_vals (r : Rl06.Rec) (q : Q3) : (recF r q).lookup ("field_values" : Str) = some (.ref q.2.1) := (lk_past (by decide +kernel)).trans ((lk_past (by decide +kernel)).trans ((lk_past (by decide +kernel)).trans lk_here))
theorem recF_wrong (r : Rl06.Rec) (q : Q3) : (recF r q).lookup ("field_wrong" : Str) = some (.ref q.2.2) := (lk_past (by decide +kernel)).trans ((lk_past (by decide +kernel)).trans ((lk_past (by decide +kernel)).trans ((lk_past (by decide +kernel)).trans lk_here)))
theorem recF_put_thing (r : Rl06.Rec) (q : Q3) (t : Nat) : putF "thing" (iv t) (recF r q) = recF { r with thing := t } q :=
  (put_past (by decide +kernel)).trans (congrArg _ ((put_past (by decide +kernel)).trans (congrArg _ put_here)))
/-- which fields are wrong, as the program keeps it -/
def wbits (n : Nat) (w : List Nat) : List Bool := (List.range n).map fun i => w.contains (i + 1)
theorem wbits_len (n : Nat) (w : List Nat) : (wbits n w).length = n := by
  unfold wbits; rw [List.length_map, List.length_range]
theorem wbits_get {n : Nat} {w : List Nat} {i : Nat} (h : i < n) : (wbits n w)[i]? = some (w.contains (i + 1)) := by
  unfold wbits
  rw [List.getElem?_map, List.getElem?_range h]; rfl
theorem wbits_nil (n : Nat) : wbits n [] = List.replicate n false := by
  apply List.ext_getElem?
  intro i
  by_cases h : i < n
  · rw [wbits_get h, List.getElem?_replicate, if_pos h]; rfl
  · rw [List.getElem?_eq_none (by rw [wbits_len]; omega), List.getElem?_eq_none (by rw [List.length_replicate]; omega)]
/-- the field f is put right -/
theorem wbits_right {n : Nat} {w : List Nat} {f : Nat} (h1 : 1 ≤ f) : (wbits n w).set (f - 1) false = wbits n (w.filter fun g => g != f) := by
  apply List.ext_getElem?
  intro i
  by_cases h : i < n
  · rw [wbits_get h, List.getElem?_set]
    by_cases e : f - 1 = i
    · rw [if_pos e, if_pos (by rw [wbits_len]; omega)]
      have : (List.filter (fun g => g != f) w).contains (i + 1) = false := by
        rw [Bool.eq_false_iff]
        intro q
        have q' := List.mem_filter.mp (List.contains_iff_mem.mp q)
        have q2 : (i + 1 != f) = true := q'.2
        simp at q2
        omega
      rw [this]
    · rw [if_neg e, wbits_get h]
      congr 1
      rw [Bool.eq_iff_iff, List.contains_iff_mem, List.contains_iff_mem, List.mem_filter]
      constructor
      · intro q; exact ⟨q, by simp; omega⟩
      · exact fun q => q.1
  · rw [List.getElem?_eq_none (by rw [List.length_set, wbits_len]; omega), List.getElem?_eq_none (by rw [wbits_len]; omega)]
/-- the field f is put wrong -/
theorem wbits_wrong {n : Nat} {w : List Nat} {f : Nat} (h1 : 1 ≤ f) : (wbits n w).set (f - 1) true = wbits n (w ++ [f]) := by
  apply List.ext_getElem?
  intro i
  by_cases h : i < n
  · rw [wbits_get h, List.getElem?_set]
    by_cases e : f - 1 = i
    · rw [if_pos e, if_pos (by rw [wbits_len]; omega)]
      have : (w ++ [f]).contains (i + 1) = true := by
        rw [List.contains_iff_mem, List.mem_append, List.mem_singleton]
        right; omega
      rw [this]
    · rw [if_neg e, wbits_get h]
      congr 1
      rw [Bool.eq_iff_iff, List.contains_iff_mem, List.contains_iff_mem, List.mem_append, List.mem_singleton]
      constructor
      · exact .inl
      · intro q
        rcases q with q | q
        · exact q
        · omega
  · rw [List.getElem?_eq_none (by rw [List.length_set, wbits_len]; omega), List.getElem?_eq_none (by rw [wbits_len]; omega)]
structure RecAt (C : Addr) (H : Hp) (n : Nat) (r : Rl06.Rec) (q : Q3) : Prop where
  ob : ∃ dx, H q.1 = some (.ins C dx (recF r q))
  vs : H q.2.1 = some (.lst (ivs r.vals))
  ws : H q.2.2 = some (.lst ((wbits n r.wrong).map V.bl))
theorem RecAt.cong {C : Addr} {H H' : Hp} {n : Nat} {r : Rl06.Rec} {q : Q3} (R : RecAt C H n r q) (h : ∀ b ∈ [q.1, q.2.1, q.2.2], H' b = H b) : RecAt C H' n r q := by
  obtain ⟨⟨dx, h1⟩, h2, h3⟩ := R
  exact ⟨⟨dx, (h _ (by simp)).trans h1⟩, (h _ (by simp)).trans h2, (h _ (by simp)).trans h3⟩

/-! ### the desk -/
structure Lay where
  R : Addr
  T : Addr
  D : Addr
  P : Addr
  qs : List Q3
  ps : List ((Nat × Nat) × Nat)
def q3 (q : Q3) : List Addr := [q.1, q.2.1, q.2.2]
def Lay.own (L : Lay) (d : Addr) : List Addr := d :: L.R :: L.T :: L.D :: L.P :: L.qs.flatMap q3
def deskF (L : Lay) (next : Nat) : List (Str × V) := [("rules", .ref L.R), ("trusted", .ref L.T), ("records", .ref L.D), ("last_number", .int ((next : Int) - 1)), ("pins", .ref L.P)]
theorem deskF_rules (L : Lay) (n : Nat) : (deskF L n).lookup ("rules" : Str) = some (.ref L.R) := lk_here
theorem deskF_trusted (L : Lay) (n : Nat) : (deskF L n).lookup ("trusted" : Str) = some (.ref L.T) := (lk_past (by decide +kernel)).trans lk_here
theorem deskF_records (L : Lay) (n : Nat) : (deskF L n).lookup ("records" : Str) = some (.ref L.D) := (lk_past (by decide +kernel)).trans ((lk_past (by decide +kernel)).trans lk_here)
theorem deskF_last (L : Lay) (n : Nat) : (deskF L n).lookup ("last_number" : Str) = some (.int ((n : Int) - 1)) := (lk_past (by decide +kernel)).trans ((lk_past (by decide +kernel)).trans ((lk_past (by decide +kernel)).trans lk_here))
theorem deskF_pins (L : Lay) (n : Nat) : (deskF L n).lookup ("pins" : Str) = some (.ref L.P) := (lk_past (by decide +kernel)).trans ((lk_past (by decide +kernel)).trans ((lk_past (by decide +kernel)).trans ((lk_past (by decide +kernel)).trans lk_here)))
theorem deskF_no {L : Lay} {n : Nat} {m : Str} (h1 : (m == "rules") = false) (h2 : (m == "trusted") = false) (h3 : (m == "records") = false) (h4 : (m == "last_number") = false) (h5 : (m == "pins") = false) : (deskF L n).lookup m = none :=
  (lk_past h1).trans ((lk_past h2).trans ((lk_past h3).trans ((lk_past h4).trans ((lk_past h5).trans rfl))))
def recKvs (rs : List Rl06.Rec) (qs : List Q3) : List (Key × V) := (rs.zip qs).map fun p => (Sum.inl (p.1.num : Int), V.ref p.2.1)
def pinKvs (ps : List ((Nat × Nat) × Nat)) : List (List Key × V) := ps.map fun p => ([Sum.inl (p.1.1 : Int), Sum.inl (p.1.2 : Int)], iv p.2)
structure DeskAt (CD CR : Addr) (H : Hp) (d : Addr) (s : Rl06.St) (L : Lay) : Prop where
  ob : ∃ dx, H d = some (.ins CD dx (deskF L s.next))
  rl : H L.R = some (.lst (ivs s.rules))
  tr : H L.T = some (.lst (ivs s.trust))
  dc : H L.D = some (.dK (recKvs s.recs L.qs))
  pn : H L.P = some (.dT (pinKvs L.ps))
  len : L.qs.length = s.recs.length
  rc : ∀ (i : Nat) (r : Rl06.Rec) (q : Q3), s.recs[i]? = some r → L.qs[i]? = some q → RecAt CR H s.rules.length r q
  nd : (L.own d).Nodup
  pp : L.ps.Perm s.pins
theorem mem_own {L : Lay} {d b : Addr} : b ∈ L.own d ↔ b = d ∨ b = L.R ∨ b = L.T ∨ b = L.D ∨ b = L.P ∨ ∃ q ∈ L.qs, b ∈ q3 q := by
  unfold Lay.own
  simp only [List.mem_cons, List.mem_flatMap]
theorem q_own {L : Lay} {d b : Addr} {q : Q3} (hq : q ∈ L.qs) (hb : b ∈ q3 q) : b ∈ L.own d := mem_own.mpr (.inr (.inr (.inr (.inr (.inr ⟨q, hq, hb⟩)))))
section
variable {CD CR d : Addr} {H H' : Hp} {s : Rl06.St} {L : Lay}
theorem DeskAt.there (D : DeskAt CD CR H d s L) {b : Addr} (h : b ∈ L.own d) : ∃ o, H b = some o := by
  rcases mem_own.mp h with rfl | rfl | rfl | rfl | rfl | ⟨q, hq, hb⟩
  · obtain ⟨dx, e⟩ := D.ob; exact ⟨_, e⟩
  · exact ⟨_, D.rl⟩
  · exact ⟨_, D.tr⟩
  · exact ⟨_, D.dc⟩
  · exact ⟨_, D.pn⟩
  · obtain ⟨i, hi⟩ := List.mem_iff_getElem?.mp hq
    have hil : i < s.recs.length := by rw [← D.len]; exact (List.getElem?_eq_some_iff.mp hi).1
    obtain ⟨⟨dx, h1⟩, h2, h3⟩ := D.rc i _ q (List.getElem?_eq_getElem hil) hi
    unfold q3 at hb
    simp only [List.mem_cons, List.not_mem_nil, or_false] at hb
    rcases hb with rfl | rfl | rfl
    · exact ⟨_, h1⟩
    · exact ⟨_, h2⟩
    · exact ⟨_, h3⟩
theorem DeskAt.not_own (D : DeskAt CD CR H d s L) {p : Addr} (h : H p = none) : p ∉ L.own d := fun hp => by
  obtain ⟨o, e⟩ := D.there hp
  rw [h] at e; cases e
/-- what stands on the desk's own addresses alone is the desk -/
theorem DeskAt.cong (D : DeskAt CD CR H d s L) (h : ∀ b ∈ L.own d, H' b = H b) : DeskAt CD CR H' d s L := by
  obtain ⟨⟨dx, h1⟩, h2, h3, h4, h5, h6, h7, h8, h9⟩ := D
  refine ⟨⟨dx, (h _ (mem_own.mpr (.inl rfl))).trans h1⟩, (h _ (mem_own.mpr (.inr (.inl rfl)))).trans h2, (h _ (mem_own.mpr (.inr (.inr (.inl rfl))))).trans h3, (h _ (mem_own.mpr (.inr (.inr (.inr (.inl rfl)))))).trans h4, (h _ (mem_own.mpr (.inr (.inr (.inr (.inr (.inl rfl))))))).trans h5, h6, fun i r q hr hq => (h7 i r q hr hq).cong fun b hb => h b (q_own (List.mem_of_getElem? hq) hb), h8, h9⟩
theorem DeskAt.new (D : DeskAt CD CR H d s L) {p : Addr} {o : HO} (h : H p = none) : DeskAt CD CR (upd H p o) d s L :=
  D.cong fun b hb => upd_ne fun e => D.not_own h (e ▸ hb)
theorem DeskAt.out (D : DeskAt CD CR H d s L) {p : Addr} {o : HO} (h : p ∉ L.own d) : DeskAt CD CR (upd H p o) d s L :=
  D.cong fun b hb => upd_ne fun e => h (e ▸ hb)
end
/-! ### what an operation leaves alone -/
/-- all that stood and was not the first desk's stands, and is not the second's -/
def Keep (own own' : List Addr) (H H' : Hp) : Prop := ∀ b o, H b = some o → b ∉ own → H' b = some o ∧ b ∉ own'
theorem Keep.refl (own : List Addr) (H : Hp) : Keep own own H H := fun _ _ h n => ⟨h, n⟩
theorem Keep.trans {o1 o2 o3 : List Addr} {H1 H2 H3 : Hp} (a : Keep o1 o2 H1 H2) (b : Keep o2 o3 H2 H3) : Keep o1 o3 H1 H3 := fun c o h n =>
  let ⟨h1, n1⟩ := a c o h n
  b c o h1 n1
theorem Keep.upd {own own' : List Addr} {H H' : Hp} {p : Addr} {o : HO} (a : Keep own own' H H') (h : p ∈ own' ∨ H p = none) : Keep own own' H (upd H' p o) := fun b u hb nb => by
  obtain ⟨h1, n1⟩ := a b u hb nb
  have ne : b ≠ p := by
    rintro rfl
    rcases h with h | h
    · exact n1 h
    · rw [hb] at h; cases h
  exact ⟨by rw [upd_ne ne]; exact h1, n1⟩
end Md

set_option Elab.async false
set_option maxRecDepth 100000
set_option maxHeartbeats 2000000
/-! The desk in the heap: which of its addresses stand apart; a record found, changed, laid, taken out. -/
namespace Md
open PySem PySem.Spec PyProof.Rows L2
section
variable {d : Addr} {L : Lay}
theorem own_eq : L.own d = [d, L.R, L.T, L.D, L.P] ++ L.qs.flatMap q3 := rfl
theorem own_q (h : (L.own d).Nodup) {i : Nat} {q : Q3} (hq : L.qs[i]? = some q) : q.1 ≠ q.2.1 ∧ q.1 ≠ q.2.2 ∧ q.2.1 ≠ q.2.2 := by
  rw [own_eq, List.nodup_append] at h
  have h2 := (List.pairwise_flatMap.mp h.2.1).1 q (List.mem_of_getElem? hq)
  unfold q3 at h2
  simp only [List.pairwise_cons, List.mem_cons, List.not_mem_nil, or_false, forall_eq_or_imp, forall_eq] at h2
  exact ⟨h2.1.1, h2.1.2, h2.2.1⟩
theorem own_qq (h : (L.own d).Nodup) {i j : Nat} {q p : Q3} (hq : L.qs[i]? = some q) (hp : L.qs[j]? = some p) (hij : i ≠ j) {b : Addr} (hb : b ∈ q3 q) : b ∉ q3 p := by
  rw [own_eq, List.nodup_append] at h
  have h2 := (List.pairwise_flatMap.mp h.2.1).2
  obtain ⟨hi, ei⟩ := List.getElem?_eq_some_iff.mp hq
  obtain ⟨hj, ej⟩ := List.getElem?_eq_some_iff.mp hp
  intro hb'
  rw [List.pairwise_iff_getElem] at h2
  rcases Nat.lt_or_gt_of_ne hij with l | l
  · exact h2 i j hi hj l b (by rw [ei]; exact hb) b (by rw [ej]; exact hb') rfl
  · exact h2 j i hj hi l b (by rw [ej]; exact hb') b (by rw [ei]; exact hb) rfl
theorem own_bq (h : (L.own d).Nodup) {q : Q3} (hq : q ∈ L.qs) {b : Addr} (hb : b ∈ [d, L.R, L.T, L.D, L.P]) : b ∉ q3 q := by
  rw [own_eq, List.nodup_append] at h
  exact fun hb' => h.2.2 b hb b (List.mem_flatMap.mpr ⟨q, hq, hb'⟩) rfl
theorem own_b (h : (L.own d).Nodup) : [d, L.R, L.T, L.D, L.P].Nodup := by
  rw [own_eq, List.nodup_append] at h
  exact h.1
end

/-! ### the dict of records -/
theorem find_rec (n : Nat) : ∀ (rs : List Rl06.Rec) (qs : List Q3), qs.length = rs.length →
    (rs.find? (fun r => r.num == n) = none → valV (recKvs rs qs) (Sum.inl (n : Int) : Key) = none) ∧
    (∀ r, rs.find? (fun r => r.num == n) = some r → ∃ (i : Nat) (q : Q3), rs[i]? = some r ∧ qs[i]? = some q ∧ valV (recKvs rs qs) (Sum.inl (n : Int) : Key) = some (.ref q.1))
  | [], [], _ => ⟨fun _ => rfl, (fun r h => nomatch h)⟩
  | a :: rs, q :: qs, h => by
    obtain ⟨i1, i2⟩ := find_rec n rs qs (by simpa using h)
    have ek : recKvs (a :: rs) (q :: qs) = ((Sum.inl (a.num : Int) : Key), V.ref q.1) :: recKvs rs qs := rfl
    by_cases e : a.num = n
    · have ef : (a :: rs).find? (fun r => r.num == n) = some a := by rw [List.find?_cons_of_pos]; simpa using e
      have ev : valV (recKvs (a :: rs) (q :: qs)) (Sum.inl (n : Int) : Key) = some (.ref q.1) := by rw [ek]; exact valV_pos (by rw [e])
      rw [ef]
      exact ⟨(fun z => nomatch z), fun r z => (by cases z; exact ⟨0, q, rfl, rfl, ev⟩)⟩
    · have ef : (a :: rs).find? (fun r => r.num == n) = rs.find? (fun r => r.num == n) := by rw [List.find?_cons_of_neg]; simpa using e
      have ev : valV (recKvs (a :: rs) (q :: qs)) (Sum.inl (n : Int) : Key) = valV (recKvs rs qs) (Sum.inl (n : Int) : Key) := by
        rw [ek]; exact valV_neg (fun z => e (by have := Sum.inl.inj z; omega))
      rw [ef, ev]
      refine ⟨i1, fun r z => ?_⟩
      obtain ⟨i, p, h1, h2, h3⟩ := i2 r z
      exact ⟨i + 1, p, h1, h2, h3⟩
theorem recKvs_len {rs : List Rl06.Rec} {qs : List Q3} (h : qs.length = rs.length) : (recKvs rs qs).length = rs.length := by
  unfold recKvs
  rw [List.length_map, List.length_zip, h, Nat.min_self]
theorem recKvs_snoc {rs : List Rl06.Rec} {qs : List Q3} {r : Rl06.Rec} {q : Q3} (h : qs.length = rs.length) : recKvs (rs ++ [r]) (qs ++ [q]) = recKvs rs qs ++ [(Sum.inl (r.num : Int), V.ref q.1)] := by
  unfold recKvs
  rw [List.zip_append h.symm, List.map_append]
  rfl
theorem recKvs_map (f : Rl06.Rec → Rl06.Rec) (hf : ∀ r, (f r).num = r.num) : ∀ (rs : List Rl06.Rec) (qs : List Q3), recKvs (rs.map f) qs = recKvs rs qs
  | [], _ => rfl
  | _ :: _, [] => rfl
  | a :: rs, q :: qs => by
    show ((Sum.inl ((f a).num : Int) : Key), V.ref q.1) :: recKvs (rs.map f) qs = ((Sum.inl (a.num : Int) : Key), V.ref q.1) :: recKvs rs qs
    rw [hf, recKvs_map f hf rs qs]
theorem nums_ne {rs : List Rl06.Rec} (h : (rs.map (·.num)).Pairwise (· < ·)) {i j : Nat} {a b : Rl06.Rec} (hi : rs[i]? = some a) (hj : rs[j]? = some b) (hn : a.num = b.num) : i = j := by
  have hp : (rs.map (·.num)).Nodup := h.imp (fun q => Nat.ne_of_lt q)
  exact nd_ix hp (x := a.num) (by rw [List.getElem?_map, hi]; rfl) (by rw [List.getElem?_map, hj, hn]; rfl)

section
variable {CD CR d : Addr} {H H' : Hp} {s : Rl06.St} {L : Lay}
theorem DeskAt.val_none (D : DeskAt CD CR H d s L) {n : Nat} (h : Rl06.recAt s n = none) : valV (recKvs s.recs L.qs) (Sum.inl (n : Int) : Key) = none := (find_rec n s.recs L.qs D.len).1 h
theorem DeskAt.val_some (D : DeskAt CD CR H d s L) {n : Nat} {r : Rl06.Rec} (h : Rl06.recAt s n = some r) : ∃ (i : Nat) (q : Q3), s.recs[i]? = some r ∧ L.qs[i]? = some q ∧ valV (recKvs s.recs L.qs) (Sum.inl (n : Int) : Key) = some (.ref q.1) := (find_rec n s.recs L.qs D.len).2 r h
/-- a record is changed in its place -/
theorem DeskAt.setRec (D : DeskAt CD CR H d s L) (W : Wf s) {i : Nat} {r r' : Rl06.Rec} {q : Q3} (hi : s.recs[i]? = some r) (hq : L.qs[i]? = some q) (hn : r'.num = r.num) (hR : RecAt CR H' s.rules.length r' q)
    (hk : ∀ b ∈ L.own d, b ∉ q3 q → H' b = H b) : DeskAt CD CR H' d (Rl06.setRec s r') L := by
  have hm := List.mem_of_getElem? hq
  have hb : ∀ b ∈ [d, L.R, L.T, L.D, L.P], H' b = H b := fun b h => hk b (by rw [own_eq]; exact List.mem_append_left _ h) (own_bq D.nd hm h)
  obtain ⟨⟨dx, h1⟩, h2, h3, h4, h5, h6, h7, h8, h9⟩ := id D
  refine ⟨⟨dx, (hb _ (by simp)).trans h1⟩, (hb _ (by simp)).trans h2, (hb _ (by simp)).trans h3, ?_, (hb _ (by simp)).trans h5, ?_, ?_, h8, h9⟩
  · rw [hb _ (by simp), h4]
    congr 2
    refine (recKvs_map (fun q => if q.num = r'.num then r' else q) (fun r => ?_) s.recs L.qs).symm
    show (if r.num = r'.num then r' else r).num = r.num
    by_cases c : r.num = r'.num
    · rw [if_pos c]; exact c.symm
    · rw [if_neg c]
  · show L.qs.length = (s.recs.map _).length
    rw [List.length_map]; exact h6
  · intro j a p ha hp
    have ha : (s.recs.map fun q => if q.num = r'.num then r' else q)[j]? = some a := ha
    rw [List.getElem?_map] at ha
    obtain ⟨a0, e0, rfl⟩ := Option.map_eq_some_iff.mp ha
    by_cases hij : i = j
    · subst hij
      rw [hi] at e0; cases e0
      rw [hq] at hp; cases hp
      rw [if_pos hn.symm]
      exact hR
    · rw [if_neg (fun z => hij (nums_ne W.nums hi e0 (hn.symm.trans z.symm)))]
      exact (h7 j a0 p e0 hp).cong fun b hb => hk b (q_own (List.mem_of_getElem? hp) hb) (fun z => own_qq h8 hp hq (fun e => hij e.symm) hb z)
/-- a record is laid down -/
theorem DeskAt.addRec (D : DeskAt CD CR H d s L) {r : Rl06.Rec} {q : Q3} (hnum : r.num = s.next) (hdx : ∃ dx, H' d = some (.ins CD dx (deskF L (s.next + 1)))) (hdc : H' L.D = some (.dK (recKvs s.recs L.qs ++ [(Sum.inl (s.next : Int), V.ref q.1)])))
    (hk : ∀ b ∈ L.own d, b ≠ d → b ≠ L.D → H' b = H b) (hR : RecAt CR H' s.rules.length r q) (hnew : ∀ b ∈ q3 q, b ∉ L.own d) (hqq : (q3 q).Nodup) :
    DeskAt CD CR H' d { s with recs := s.recs ++ [r], next := s.next + 1 } { L with qs := L.qs ++ [q] } := by
  have nb := own_b D.nd
  simp only [List.nodup_cons, List.mem_cons, List.not_mem_nil, or_false, not_or] at nb
  obtain ⟨⟨n1, n2, n3, n4⟩, ⟨n5, n6, n7⟩, ⟨n8, n9⟩, n10, _⟩ := nb
  refine ⟨hdx, ?_, ?_, ?_, ?_, ?_, ?_, ?_, D.pp⟩
  · exact (hk L.R (mem_own.mpr (by simp)) (fun e => n1 e.symm) n6).trans D.rl
  · exact (hk L.T (mem_own.mpr (by simp)) (fun e => n2 e.symm) n8).trans D.tr
  · show H' L.D = some (.dK (recKvs (s.recs ++ [r]) (L.qs ++ [q])))
    rw [hdc, recKvs_snoc D.len, hnum]
  · exact (hk L.P (mem_own.mpr (by simp)) (fun e => n4 e.symm) (fun e => n10 e.symm)).trans D.pn
  · show (L.qs ++ [q]).length = (s.recs ++ [r]).length
    rw [List.length_append, List.length_append, D.len]; rfl
  · intro i a p ha hp
    have ha : (s.recs ++ [r])[i]? = some a := ha
    have hp : (L.qs ++ [q])[i]? = some p := hp
    by_cases hil : i < s.recs.length
    · rw [List.getElem?_append_left hil] at ha
      rw [List.getElem?_append_left (by rw [D.len]; exact hil)] at hp
      have hm := List.mem_of_getElem? hp
      refine (D.rc i a p ha hp).cong fun b hb => hk b (q_own hm hb) ?_ ?_
      · exact fun e => own_bq D.nd hm (b := b) (by simp [e]) hb
      · exact fun e => own_bq D.nd hm (b := b) (by simp [e]) hb
    · have hl := (List.getElem?_eq_some_iff.mp ha).1
      rw [List.length_append, List.length_singleton] at hl
      have : i = s.recs.length := by omega
      subst this
      rw [List.getElem?_append_right (Nat.le_refl _), Nat.sub_self] at ha
      rw [List.getElem?_append_right (by rw [D.len]; exact Nat.le_refl _), D.len, Nat.sub_self] at hp
      cases ha; cases hp
      exact hR
  · show (d :: L.R :: L.T :: L.D :: L.P :: (L.qs ++ [q]).flatMap q3).Nodup
    have e : (d :: L.R :: L.T :: L.D :: L.P :: (L.qs ++ [q]).flatMap q3) = L.own d ++ q3 q := by
      rw [List.flatMap_append]
      simp [Lay.own]
    rw [e, List.nodup_append]
    exact ⟨D.nd, hqq, fun a ha b hb e => hnew b hb (e ▸ ha)⟩
theorem own_add {q : Q3} : ({ L with qs := L.qs ++ [q] } : Lay).own d = L.own d ++ q3 q := by
  unfold Lay.own
  simp [List.flatMap_append]
/-! ### a record is taken out -/
def dropQ (n : Nat) : List Rl06.Rec → List Q3 → List Q3
  | r :: rs, q :: qs => if r.num = n then dropQ n rs qs else q :: dropQ n rs qs
  | _, _ => []
theorem dropQ_sub (n : Nat) : ∀ (rs : List Rl06.Rec) (qs : List Q3), (dropQ n rs qs).Sublist qs
  | [], qs => List.nil_sublist _
  | _ :: _, [] => List.Sublist.refl _
  | r :: rs, q :: qs => by
    show (if r.num = n then dropQ n rs qs else q :: dropQ n rs qs).Sublist (q :: qs)
    by_cases c : r.num = n
    · rw [if_pos c]; exact (dropQ_sub n rs qs).cons q
    · rw [if_neg c]; exact (dropQ_sub n rs qs).cons_cons q
theorem dropQ_kvs (n : Nat) : ∀ (rs : List Rl06.Rec) (qs : List Q3), qs.length = rs.length → dropK (recKvs rs qs) (Sum.inl (n : Int) : Key) = recKvs (rs.filter fun r => r.num != n) (dropQ n rs qs) ∧ (dropQ n rs qs).length = (rs.filter fun r => r.num != n).length
  | [], [], _ => ⟨rfl, rfl⟩
  | r :: rs, q :: qs, h => by
    obtain ⟨i1, i2⟩ := dropQ_kvs n rs qs (by simpa using h)
    have ek : recKvs (r :: rs) (q :: qs) = ((Sum.inl (r.num : Int) : Key), V.ref q.1) :: recKvs rs qs := rfl
    show dropK (recKvs (r :: rs) (q :: qs)) _ = recKvs _ (if r.num = n then dropQ n rs qs else q :: dropQ n rs qs) ∧ (if r.num = n then dropQ n rs qs else q :: dropQ n rs qs).length = _
    by_cases c : r.num = n
    · rw [if_pos c, ek, dropK_pos (by rw [c]), List.filter_cons_of_neg (by simp [c])]
      exact ⟨i1, i2⟩
    · rw [if_neg c, ek, dropK_neg (fun z => c (by have := Sum.inl.inj z; omega)), List.filter_cons_of_pos (by simp [c])]
      refine ⟨?_, by rw [List.length_cons, List.length_cons, i2]⟩
      rw [i1]
      rfl
theorem dropQ_rec (n : Nat) (F : Rl06.Rec → Q3 → Prop) : ∀ (rs : List Rl06.Rec) (qs : List Q3), (∀ (i : Nat) r q, rs[i]? = some r → qs[i]? = some q → F r q) → ∀ (i : Nat) r q, (rs.filter fun r => r.num != n)[i]? = some r → (dropQ n rs qs)[i]? = some q → F r q
  | [], _, _, i, r, q, h, _ => by simp at h
  | _ :: _, [], _, i, r, q, _, h => by
    have h : ([] : List Q3)[i]? = some q := h
    simp at h
  | a :: rs, p :: qs, hF, i, r, q, h1, h2 => by
    have ih := dropQ_rec n F rs qs (fun j r q x y => hF (j + 1) r q x y)
    have h2 : (if a.num = n then dropQ n rs qs else p :: dropQ n rs qs)[i]? = some q := h2
    by_cases c : a.num = n
    · rw [if_pos c] at h2
      rw [List.filter_cons_of_neg (by simp [c])] at h1
      exact ih i r q h1 h2
    · rw [if_neg c] at h2
      rw [List.filter_cons_of_pos (by simp [c])] at h1
      match i, h1, h2 with
      | 0, h1, h2 => cases h1; cases h2; exact hF 0 a p rfl rfl
      | i + 1, h1, h2 => exact ih i r q h1 h2
theorem sub_flat {α β : Type} {f : α → List β} : ∀ {l m : List α}, l.Sublist m → (l.flatMap f).Sublist (m.flatMap f)
  | _, _, .slnil => List.Sublist.refl _
  | _, _, .cons a h => by
    rw [List.flatMap_cons]
    exact (sub_flat h).trans (List.sublist_append_right _ _)
  | _, _, .cons_cons a h => by
    rw [List.flatMap_cons, List.flatMap_cons]
    exact (List.Sublist.refl _).append (sub_flat h)
theorem DeskAt.dropRec (D : DeskAt CD CR H d s L) (n : Nat) :
    DeskAt CD CR (upd H L.D (.dK (dropK (recKvs s.recs L.qs) (Sum.inl (n : Int) : Key)))) d { s with recs := s.recs.filter fun r => r.num != n } { L with qs := dropQ n s.recs L.qs } := by
  have nb := own_b D.nd
  simp only [List.nodup_cons, List.mem_cons, List.not_mem_nil, or_false, not_or] at nb
  obtain ⟨⟨n1, n2, n3, n4⟩, ⟨n5, n6, n7⟩, ⟨n8, n9⟩, n10, _⟩ := nb
  obtain ⟨e1, e2⟩ := dropQ_kvs n s.recs L.qs D.len
  obtain ⟨dx, h1⟩ := D.ob
  have sub := dropQ_sub n s.recs L.qs
  refine ⟨⟨dx, ?_⟩, ?_, ?_, ?_, ?_, e2, ?_, ?_, D.pp⟩
  · rw [upd_ne n3]; exact h1
  · show upd H L.D _ L.R = _
    rw [upd_ne n6]; exact D.rl
  · show upd H L.D _ L.T = _
    rw [upd_ne n8]; exact D.tr
  · show upd H L.D _ L.D = _
    rw [upd_same, e1]
  · show upd H L.D _ L.P = _
    rw [upd_ne (fun e => n10 e.symm)]; exact D.pn
  · intro i r q hr hq
    have R := dropQ_rec n (fun r q => RecAt CR H s.rules.length r q) s.recs L.qs D.rc i r q hr hq
    refine R.cong fun b hb => upd_ne fun e => ?_
    exact own_bq D.nd (sub.subset (List.mem_of_getElem? hq)) (b := b) (by simp [e]) hb
  · show (d :: L.R :: L.T :: L.D :: L.P :: (dropQ n s.recs L.qs).flatMap q3).Nodup
    have sf : ((dropQ n s.recs L.qs).flatMap q3).Sublist (L.qs.flatMap q3) := sub_flat sub
    exact D.nd.sublist (((((sf.cons_cons _).cons_cons _).cons_cons _).cons_cons _).cons_cons _)
theorem own_drop {n : Nat} {b : Addr} (h : b ∈ ({ L with qs := dropQ n s.recs L.qs } : Lay).own d) : b ∈ L.own d := by
  rcases mem_own.mp h with h | h | h | h | h | ⟨q, hq, hb⟩
  · exact mem_own.mpr (.inl h)
  · exact mem_own.mpr (.inr (.inl h))
  · exact mem_own.mpr (.inr (.inr (.inl h)))
  · exact mem_own.mpr (.inr (.inr (.inr (.inl h))))
  · exact mem_own.mpr (.inr (.inr (.inr (.inr (.inl h)))))
  · exact q_own ((dropQ_sub n s.recs L.qs).subset hq) hb
end
end Md

set_option Elab.async false
set_option maxRecDepth 100000
set_option maxHeartbeats 2000000
/-! The pins: a dict by (thing, field), up to the order of its entries. -/
namespace Md
open PySem PySem.Spec PyProof.Rows L2
abbrev Pin := (Nat × Nat) × Nat
def pkey (t f : Nat) : List Key := [Sum.inl (t : Int), Sum.inl (f : Int)]
theorem pkey_inj {t f t' f' : Nat} : pkey t f = pkey t' f' ↔ (t, f) = (t', f') := by
  constructor
  · intro h
    unfold pkey at h
    simp only [List.cons.injEq, Sum.inl.injEq, and_true] at h
    rw [Prod.mk.injEq]
    omega
  · intro h
    cases h; rfl
theorem pin_val (t f : Nat) : ∀ ps : List Pin, valV (pinKvs ps) (pkey t f) = (ps.find? fun p => p.1 == (t, f)).map fun p => iv p.2
  | [] => rfl
  | p :: ps => by
    have ek : pinKvs (p :: ps) = (pkey p.1.1 p.1.2, iv p.2) :: pinKvs ps := rfl
    by_cases e : p.1 = (t, f)
    · rw [ek, valV_pos (by show pkey p.1.1 p.1.2 = _; rw [e]), List.find?_cons_of_pos (by rw [e]; exact beq_self_eq_true _)]
      rfl
    · rw [ek, valV_neg (fun z => e (pkey_inj.mp z)), List.find?_cons_of_neg (by simpa using e), pin_val t f ps]
theorem find_perm {ps qs : List Pin} {k : Nat × Nat} (h : ps.Perm qs) (nd : (qs.map (·.1)).Nodup) : ps.find? (fun p => p.1 == k) = qs.find? (fun p => p.1 == k) := by
  cases e : qs.find? (fun p => p.1 == k) with
  | none =>
    rw [List.find?_eq_none] at e ⊢
    exact fun p hp => e p (h.subset hp)
  | some q =>
    have hq := List.mem_of_find?_eq_some e
    have kq : q.1 = k := by simpa using List.find?_some e
    cases e2 : ps.find? (fun p => p.1 == k) with
    | none =>
      rw [List.find?_eq_none] at e2
      exact absurd (by simpa using kq) (e2 q (h.symm.subset hq))
    | some p =>
      have hp := h.subset (List.mem_of_find?_eq_some e2)
      have kp : p.1 = k := by simpa using List.find?_some e2
      obtain ⟨i, hi⟩ := List.mem_iff_getElem?.mp hp
      obtain ⟨j, hj⟩ := List.mem_iff_getElem?.mp hq
      have : i = j := nd_ix nd (x := k) (by rw [List.getElem?_map, hi, ← kp]; rfl) (by rw [List.getElem?_map, hj, ← kq]; rfl)
      subst this
      rw [hi] at hj
      exact hj
/-- a pin's entry, in its place or at the end -/
def putP (ps : List Pin) (k : Nat × Nat) (v : Nat) : List Pin := if (ps.any fun p => decide (p.1 = k)) = true then ps.map (fun p => if p.1 = k then (p.1, v) else p) else ps ++ [(k, v)]
theorem putP_kvs (ps : List Pin) (t f v : Nat) : putK (pinKvs ps) (pkey t f) (iv v) = pinKvs (putP ps (t, f) v) := by
  have ea : ((pinKvs ps).any fun kv => decide (kv.1 = pkey t f)) = ps.any fun p => decide (p.1 = (t, f)) := by
    unfold pinKvs
    rw [List.any_map]
    congr 1
    funext p
    exact decide_eq_decide.mpr (pkey_inj (t := p.1.1) (f := p.1.2))
  unfold putK putP
  rw [ea]
  by_cases c : (ps.any fun p => decide (p.1 = (t, f))) = true
  · rw [if_pos c, if_pos c]
    unfold pinKvs
    rw [List.map_map, List.map_map]
    apply List.map_congr_left
    intro p _
    show (if pkey p.1.1 p.1.2 = pkey t f then (pkey p.1.1 p.1.2, iv v) else (pkey p.1.1 p.1.2, iv p.2)) = _
    by_cases e : p.1 = (t, f)
    · rw [if_pos (by rw [pkey_inj]; exact e)]
      show _ = (pkey (if p.1 = (t, f) then (p.1, v) else p).1.1 (if p.1 = (t, f) then (p.1, v) else p).1.2, iv (if p.1 = (t, f) then (p.1, v) else p).2)
      rw [if_pos e]
    · rw [if_neg (by rw [pkey_inj]; exact e)]
      show _ = (pkey (if p.1 = (t, f) then (p.1, v) else p).1.1 (if p.1 = (t, f) then (p.1, v) else p).1.2, iv (if p.1 = (t, f) then (p.1, v) else p).2)
      rw [if_neg e]
  · rw [if_neg c, if_neg c]
    unfold pinKvs
    rw [List.map_append]
    rfl
theorem dropP_kvs (ps : List Pin) (t f : Nat) : dropK (pinKvs ps) (pkey t f) = pinKvs (ps.filter fun p => p.1 != (t, f)) := by
  unfold dropK pinKvs
  rw [List.filter_map]
  congr 1
  apply List.filter_congr
  intro p _
  show decide (pkey p.1.1 p.1.2 ≠ pkey t f) = (p.1 != (t, f))
  rw [Bool.eq_iff_iff, decide_eq_true_iff, bne_iff_ne]
  exact not_congr pkey_inj
theorem putP_perm {ps : List Pin} {k : Nat × Nat} {v : Nat} (nd : (ps.map (·.1)).Nodup) : (putP ps k v).Perm (ps.filter (fun p => p.1 != k) ++ [(k, v)]) := by
  unfold putP
  by_cases c : (ps.any fun p => decide (p.1 = k)) = true
  · rw [if_pos c]
    induction ps with
    | nil => simp at c
    | cons p ps ih =>
      rw [List.map_cons] at nd
      obtain ⟨n1, n2⟩ := List.nodup_cons.mp nd
      rw [List.map_cons]
      by_cases e : p.1 = k
      · have hno : ∀ q ∈ ps, q.1 ≠ k := fun q hq z => n1 (by rw [e, ← z]; exact List.mem_map.mpr ⟨q, hq, rfl⟩)
        rw [if_pos e, List.filter_cons_of_neg (by simp [e])]
        have e1 : (ps.map fun p => if p.1 = k then (p.1, v) else p) = ps := by
          conv => rhs; rw [← List.map_id ps]
          apply List.map_congr_left
          intro q hq
          rw [if_neg (hno q hq)]; rfl
        have e2 : ps.filter (fun p => p.1 != k) = ps := List.filter_eq_self.mpr fun q hq => by simpa using hno q hq
        rw [e1, e2, e]
        exact (List.perm_append_singleton _ _).symm
      · rw [if_neg e, List.filter_cons_of_pos (by simpa using e)]
        refine (ih n2 ?_).cons p
        rw [List.any_cons, decide_eq_false e, Bool.false_or] at c
        exact c
  · rw [if_neg c]
    have e2 : ps.filter (fun p => p.1 != k) = ps := List.filter_eq_self.mpr fun q hq => by
      have : ¬ q.1 = k := fun z => c (List.any_eq_true.mpr ⟨q, hq, decide_eq_true z⟩)
      simpa using this
    rw [e2]
section
variable {CD CR d : Addr} {H : Hp} {s : Rl06.St} {L : Lay}
theorem DeskAt.pin_get (D : DeskAt CD CR H d s L) (W : Wf s) (t f : Nat) : valV (pinKvs L.ps) (pkey t f) = (Rl06.pinned s t f).map iv := by
  rw [pin_val, find_perm D.pp W.pnd]
  unfold Rl06.pinned
  rw [Option.map_map]
  rfl
theorem DeskAt.pin_len (D : DeskAt CD CR H d s L) : (pinKvs L.ps).length = s.pins.length := by
  unfold pinKvs
  rw [List.length_map, D.pp.length_eq]
/-- another dict of pins in its place -/
theorem DeskAt.upP (D : DeskAt CD CR H d s L) {ps qs : List Pin} (h : ps.Perm qs) : DeskAt CD CR (upd H L.P (.dT (pinKvs ps))) d { s with pins := qs } { L with ps := ps } := by
  have nb := own_b D.nd
  simp only [List.nodup_cons, List.mem_cons, List.not_mem_nil, or_false, not_or] at nb
  obtain ⟨⟨n1, n2, n3, n4⟩, ⟨n5, n6, n7⟩, ⟨n8, n9⟩, n10, _⟩ := nb
  obtain ⟨dx, h1⟩ := D.ob
  refine ⟨⟨dx, (upd_ne n4).trans h1⟩, (upd_ne n7).trans D.rl, (upd_ne n9).trans D.tr, (upd_ne n10).trans D.dc, upd_same, D.len, fun i r q hr hq => ?_, D.nd, h⟩
  exact (D.rc i r q hr hq).cong fun b hb => upd_ne fun e => own_bq D.nd (List.mem_of_getElem? hq) (b := b) (by simp [e]) hb
theorem DeskAt.putPin (D : DeskAt CD CR H d s L) (W : Wf s) (t f v : Nat) : DeskAt CD CR (upd H L.P (.dT (putK (pinKvs L.ps) (pkey t f) (iv v)))) d { s with pins := s.pins.filter (fun x => x.1 != (t, f)) ++ [((t, f), v)] } { L with ps := putP L.ps (t, f) v } := by
  rw [putP_kvs]
  have nd : (L.ps.map (·.1)).Nodup := (D.pp.map _).nodup_iff.mpr W.pnd
  exact D.upP ((putP_perm nd).trans ((D.pp.filter _).append_right _))
theorem DeskAt.dropPin (D : DeskAt CD CR H d s L) (t f : Nat) : DeskAt CD CR (upd H L.P (.dT (dropK (pinKvs L.ps) (pkey t f)))) d { s with pins := s.pins.filter (fun x => x.1 != (t, f)) } { L with ps := L.ps.filter fun x => x.1 != (t, f) } := by
  rw [dropP_kvs]
  exact D.upP (D.pp.filter _)
end
end Md

set_option Elab.async false
set_option linter.unusedVariables false
set_option maxRecDepth 100000
set_option maxHeartbeats 4000000
/-! min(xs, key=lambda x: ..): a lambda with one parameter that captures names, and whose answer is a tuple of ints. -/
namespace Md
open PySem PySem.Spec PyProof.Rows L2 LamX NdefX

/-! ### a lambda called -/
theorem lam_run {CX : CXT} {P : Program} {w : World} {K : PySem.W.Frag} {mg : Str → Option Value} {base : Heap} {N ps fr : List Str} {F : NF} {f : Addr} {k : Nat} {body : Expr} {pm ctv : Value} {A : Around} {outer : List Env} {s : Shared} {H : Hp}
    {us : List Value} {vs : List V} {ws : List (Option V)} {Q : VK} {E : XK} {t : TE} (S : NScope N ps fr F.scope) (hb : bindArgs (PySem.W.kla_fn F.name F.qual F.params body F.scope F.cl pm (.ref F.c) ctv) ⟨us, []⟩ = pure (ps.zip us))
    (hr : Room (k + 1) A) (e0 : Env0 P w K mg base A outer s H) (hf : s.heap.get? f = some (PySem.W.kla_obj F.name F.qual F.params body F.scope F.cl pm F.c ctv)) (hc : H F.c = some (CodeO F.c F.qual)) (C : CellsAt F.cl fr ws s.heap H)
    (r : Vals vs us) (hl : vs.length = ps.length) (hbody : PE (ncx CX P w K mg base N F f A outer s H E) body t) (ht : t (startF N vs ws) H Q) :
    codeAny (model P w) A (.call (.ref f) ⟨us, []⟩) (CR CX outer P w H s Q E) s := by
  have lim : s.heap.NoLimit := e0.mod.nolimit.keeps fun b o e => (e0.bs b o e).1
  refine PySem.W.kla_callFunE hr.depth hf rfl S.co S.gen rfl (codeO_at e0.hok hc) ?_
  rw [hb]
  refine wpAny_pure (wpAny_newFunctionEnv S.nocell (fun ⟨n, _⟩ hy => S.par n (List.of_mem_zip hy).1) (fun h1 hns hsb => ⟨lim.fresh _ hsb, ?_⟩) S.kind)
  show codeAny _ _ (.expr body (envF F f s.heap.objs.size)) _ _
  have kp : ∀ b o, s.heap.get? b = some o → h1.get? b = some o := fun b o e => hsb.extBut b o (Nat.ne_of_lt (Heap.lt_size e)) (Heap.get?_push_of_some _ e)
  have I : Inv (ncx CX P w K mg base N F f A outer s H E) [] (startF N vs ws) H { s with heap := h1, toks := s.toks + (ps.zip us).length } := inv_startN S hr.hd e0 hl r C hns kp
  refine PySem.W.kla_codeExpr (wpAny_mono (hbody.run [] _ _ H Q I ht) (fun v s' hq => ?_) fun e s' hq => hq)
  obtain ⟨w', H', J', rv, q⟩ := hq
  exact ⟨w', H', J'.os, J'.bare, J'.base, J'.hok, rv, q⟩

/-! ### the order of tuples -/
theorem lexLt_trans : ∀ {a b c : List Int}, HT.lexLt a b = true → HT.lexLt b c = true → HT.lexLt a c = true
  | [], [], _, h, _ => by cases h
  | [], _ :: _, [], _, h => by cases h
  | [], _ :: _, _ :: _, _, _ => rfl
  | _ :: _, [], _, h, _ => by cases h
  | _ :: _, _ :: _, [], _, h => by cases h
  | x :: a, y :: b, z :: c, h1, h2 => by
    rw [HT.lexLt_cons] at h1 h2 ⊢
    by_cases e1 : x = y
    · by_cases e2 : y = z
      · rw [if_pos e1] at h1
        rw [if_pos e2] at h2
        rw [if_pos (e1.trans e2)]
        exact lexLt_trans h1 h2
      · rw [if_neg e2] at h2
        rw [if_neg (fun q => e2 (e1.symm.trans q)), e1]
        exact h2
    · rw [if_neg e1] at h1
      have h1 := of_decide_eq_true h1
      by_cases e2 : y = z
      · rw [if_neg (fun q => e1 (q.trans e2.symm)), ← e2]
        exact decide_eq_true h1
      · rw [if_neg e2] at h2
        have h2 := of_decide_eq_true h2
        rw [if_neg (by omega)]
        exact decide_eq_true (by omega)
theorem lexLt_irrefl : ∀ a : List Int, HT.lexLt a a = false
  | [] => rfl
  | x :: a => by rw [HT.lexLt_cons, if_pos rfl]; exact lexLt_irrefl a

/-! ### the loop of min -/
section
variable {X : Cx} {pins : List (Addr × Obj)} {σ : L2.St} {l f It S : Addr} {fo : Obj} {ns : List Int} {kf : Int → List Int} {G : Hp → Prop} {Q : VK} {R : Result → Shared → Prop}
/-- what a turn of the key promises -/
def KeyOk (X : Cx) (σ : L2.St) (f : Addr) (fo : Obj) (ns : List Int) (kf : Int → List Int) (G : Hp → Prop) : Prop :=
  ∀ n ∈ ns, ∀ (pins : List (Addr × Obj)) (s : Shared) (H : Hp) (u : Value), Inv X pins σ H s → s.heap.get? f = some fo → G H → RelV (.int n) u →
    wpAny (model X.prog X.w) X.A.in1 (call (.ref f) [u]) (EP X pins σ fun v H' => ∃ p, v = .ref p ∧ H' p = some (.tup ((kf n).map V.int)) ∧ Same H H') (fun _ _ => False) s
theorem fp_pin {H : Hp} {s : Shared} {b : Addr} {o : Obj} (x : FpOk X pins H b) (e : s.heap.get? b = some o) (d : ∀ v, o.data ≠ .cell v) : s.heap.get? (b, o).1 = some (b, o).2 ∧ H (b, o).1 = none ∧ (b, o).1 ≠ X.env.locals ∧ (b, o).1 ∉ X.fs ∧ ∀ v, (b, o).2.data ≠ .cell v :=
  ⟨e, x.1, x.2.1, x.2.2.1, d⟩
/-- it may be pinned -/
def PinOk (X : Cx) (H : Hp) (b : Addr) : Prop := H b = none ∧ b ≠ X.env.locals ∧ b ∉ X.fs
theorem fp_none {H H' : Hp} {b : Addr} (x : FpOk X pins H b) (h : H' b = none) : FpOk X pins H' b := ⟨h, x.2⟩
/-- the key is asked: what lies apart stays -/
theorem key_turn (KO : KeyOk X σ f fo ns kf G) (hfd : ∀ v, fo.data ≠ .cell v) {H : Hp} {s : Shared} {oS oI : Obj} {n : Int} {u : Value} {Z : Value → Shared → Prop} (hn : n ∈ ns) (I : Inv X pins σ H s) (g : G H) (xS : FpOk X pins H S) (xI : FpOk X pins H It) (xf : PinOk X H f)
    (ef : s.heap.get? f = some fo) (eS : s.heap.get? S = some oS) (dS : ∀ v, oS.data ≠ .cell v) (eI : s.heap.get? It = some oI) (dI : ∀ v, oI.data ≠ .cell v) (r : RelV (.int n) u)
    (h : ∀ (p : Addr) (H' : Hp) (s' : Shared), Inv X pins σ H' s' → Same H H' → H' p = some (.tup ((kf n).map V.int)) → FpOk X pins H' S → FpOk X pins H' It → PinOk X H' f → s'.heap.get? f = some fo → s'.heap.get? S = some oS → s'.heap.get? It = some oI → Z (.ref p) s') :
    wpAny (model X.prog X.w) X.A.in1 (call (.ref f) [u]) Z (fun _ _ => False) s := by
  have I1 : Inv X (pins ++ [(f, fo), (S, oS), (It, oI)]) σ H s := I.pins_of fun p hp => by
    rcases List.mem_append.mp hp with z | z
    · exact I.pin p (List.mem_append_right _ z)
    · simp only [List.mem_cons, List.not_mem_nil, or_false] at z
      rcases z with rfl | rfl | rfl
      · exact ⟨ef, xf.1, xf.2.1, xf.2.2, hfd⟩
      · exact fp_pin xS eS dS
      · exact fp_pin xI eI dI
  refine wpAny_mono (KO n hn _ s H u I1 ef g r) (fun v s' hq => ?_) fun _ _ z => z
  obtain ⟨w', H', I2, rv, p, rfl, hp, sm⟩ := hq
  obtain rfl : v = Value.ref p := rv
  have pf := I2.pin (f, fo) (List.mem_append_right _ (List.mem_append_right _ (by simp)))
  have pS := I2.pin (S, oS) (List.mem_append_right _ (List.mem_append_right _ (by simp)))
  have pI := I2.pin (It, oI) (List.mem_append_right _ (List.mem_append_right _ (by simp)))
  exact h p H' s' I2.unpinned sm hp (fp_none xS pS.2.1) (fp_none xI pI.2.1) ⟨pf.2.1, xf.2⟩ pf.1 pS.1 pI.1
theorem seq_nocell {items : Array Value} {n : Nat} : ∀ v, (seqObj "list" items n).data ≠ .cell v := fun v z => by cases z

theorem min_loop (hh : X.A.handled = none) (hu : X.A.in1.units < cLine) (KO : KeyOk X σ f fo ns kf G) (hfd : ∀ v, fo.data ≠ .cell v) (hG : ∀ H H', G H → Same H H' → G H') (hl : ∀ H, G H → SqL X.K H l (ns.map V.int)) (hlI : l ≠ It) (hSI : S ≠ It) (hfS : f ≠ S) (hfI : f ≠ It)
    (hR : ∀ v s', EP X pins σ Q v s' → R (.ok (.ret v)) s') (fin : ∀ m ∈ ns, (∀ n ∈ ns, HT.lexLt (kf n) (kf m) = false) → ∀ H', G H' → Q (.int m) H') :
    ∀ (r j : Nat) (m : Int) (H : Hp) (s : Shared) (vb : Value) (p : Addr) (c : Nat), ns.length - (j + 1) = r → j + 1 ≤ ns.length → Inv X pins σ H s → G H → FpOk X pins H S → FpOk X pins H It → PinOk X H f → s.heap.get? f = some fo →
      s.heap.get? S = some (seqObj "list" #[vb, .ref p] c) → s.heap.IsListIter It l (j + 1) → RelV (.int m) vb → H p = some (.tup ((kf m).map V.int)) → m ∈ ns → (∀ j' n, j' ≤ j → ns[j']? = some n → HT.lexLt (kf n) (kf m) = false) →
      codeAny (model X.prog X.w) X.A (.builtin "min.loop" ⟨[.ref It, .ref f, .ref S], []⟩) R s := by
  have hname : (toString "min" ++ toString ".loop" : String) = "min.loop" := by decide
  intro r
  induction r with
  | zero =>
    intro j m H s vb p c hr hj I g xS xI xf ef eS hit rm hp hm hbest
    have hin : j + 1 = ns.length := by omega
    obtain ⟨its, rv, pl, hz⟩ := I.list (hl H g)
    have hlen : its.toArray.size = ns.length := by rw [List.size_toArray, ← rv.length, List.length_map]
    have W := Walks.list (prog := X.prog) (w := X.w) (A := X.A.in1) hh It l hlI its.toArray
    refine codeAny_builtin PySem.F.entry_min_loop ?_
    rw [Around.under_plainId PySem.F.plain_min_loop _]
    show wpAny _ X.A.in1 (seqItems? (.ref S) >>= _) _ _ _
    refine wpAny_bind (wpAny_seqItems eS rfl ?_)
    show wpAny _ X.A.in1 (tryCatch (pyNext (.ref It)) _ >>= _) _ _ _
    refine wpAny_bind (wpAny_tryCatch (W.done _ _ _ ⟨by rw [hlen, ← hin]; exact hit, pl.isList⟩ fun h' tk' hk' => ?_))
    have I1 : Inv X pins σ H { s with heap := h', toks := tk' } := I.turnedL (ch := [It]) (fun b o hb e => hk' b o hb e) (fun b hb => by rw [List.mem_singleton.mp hb]; exact xI)
    have hS' := hk' S _ (by simpa using hSI) eS
    have s1 := Heap.SameBut.update h' S (Obj.mapSeq fun _ => (#[] : Array Value))
    show wpAny _ X.A.in1 (updateSeq S (fun _ => #[]) >>= _) _ _ _
    refine wpAny_bind ?_
    refine wpAny_updateSeq hS' rfl (wpAny_bind (wpAny_letGo (wpAny_pure ?_)))
    refine hR vb _ ⟨.int m, H, I1.turnedL (ch := [S]) (t' := tk') (fun b o hb e => (s1.2 b (fun z => hb (by simp [z]))).trans e) (fun b hb => by rw [List.mem_singleton.mp hb]; exact xS), rm, fin m hm (fun n hn => ?_) H g⟩
    obtain ⟨i, hi⟩ := List.mem_iff_getElem?.mp hn
    have hil := (List.getElem?_eq_some_iff.mp hi).1
    exact hbest i n (by omega) hi
  | succ r ih =>
    intro j m H s vb p c hr hj I g xS xI xf ef eS hit rm hp hm hbest
    have hlt : j + 1 < ns.length := by omega
    obtain ⟨its, rv, pl, hz⟩ := I.list (hl H g)
    have hlen : its.toArray.size = ns.length := by rw [List.size_toArray, ← rv.length, List.length_map]
    have W := Walks.list (prog := X.prog) (w := X.w) (A := X.A.in1) hh It l hlI its.toArray
    refine codeAny_builtin PySem.F.entry_min_loop ?_
    rw [Around.under_plainId PySem.F.plain_min_loop _]
    show wpAny _ X.A.in1 (seqItems? (.ref S) >>= _) _ _ _
    refine wpAny_bind (wpAny_seqItems eS rfl ?_)
    show wpAny _ X.A.in1 (tryCatch (pyNext (.ref It)) _ >>= _) _ _ _
    refine wpAny_bind (wpAny_tryCatch (W.item (j + 1) _ _ _ (by rw [hlen]; exact hlt) ⟨hit, pl.isList⟩ fun v h' tk' hP hst' hk' => ?_))
    have hv : its[j + 1]? = some v := by simpa using hP
    obtain ⟨n, hn⟩ : ∃ n, ns[j + 1]? = some n := ⟨_, List.getElem?_eq_getElem hlt⟩
    have hnm := List.mem_of_getElem? hn
    obtain ⟨u', hu', rn⟩ := rv.get (show (ns.map V.int)[j + 1]? = some (.int n) by rw [List.getElem?_map, hn]; rfl)
    rw [hv] at hu'
    cases hu'
    obtain ⟨oI', hoI', hoc, hod⟩ := id hst'.1
    have I1 : Inv X pins σ H { s with heap := h', toks := tk' } := I.turnedL (ch := [It]) (fun b o hb e => hk' b o hb e) (fun b hb => by rw [List.mem_singleton.mp hb]; exact xI)
    have eS1 := hk' S _ (by simpa using hSI) eS
    have ef1 := hk' f _ (by simpa using hfI) ef
    show wpAny _ X.A.in1 (tryCatch (holding [v] (call (.ref f) [v])) _ >>= _) _ _ _
    refine wpAny_bind (wpAny_tryCatch (wpAny_holding (wpAny_mono (key_turn KO hfd hnm I1 g xS xI xf ef1 eS1 seq_nocell hoI' (fun w' z => by rw [hod] at z; cases z) rn fun q H2 s2 I2 sm hq xS2 xI2 xf2 ef2 eS2 eI2 => ?_) (fun _ _ z => z) fun _ _ z => z.elim)))
    have g2 := hG _ _ g sm
    have hp2 := sm _ _ hp
    obtain ⟨itq, rq, pq, _⟩ := I2.tuple (SqT.of (K := X.K) hq)
    obtain ⟨itp, rp, pp, _⟩ := I2.tuple (SqT.of (K := X.K) hp2)
    show wpAny _ X.A.in1 (tryCatch (holding [v, .ref q] (richCompare .Lt (.ref q) (.ref p) >>= _)) _ >>= _) _ _ _
    refine wpAny_bind (wpAny_tryCatch (wpAny_holding (wpAny_bind (HT.lt_tupInts pq pp (intsAre_of rq) (intsAre_of rp) hu ?_))))
    refine wpAny_bind (wpAny_holding (wpAny_truthy_bool ?_))
    refine wpAny_bind (wpAny_letGo (wpAny_pure ?_))
    have hit2 : s2.heap.IsListIter It l (j + 1 + 1) := ⟨oI', eI2, hoc, hod⟩
    cases hb' : HT.lexLt (kf n) (kf m) with
    | true =>
      have s1 := Heap.SameBut.update s2.heap S (Obj.mapSeq fun _ => #[v, .ref q])
      obtain ⟨c2, hc2⟩ : ∃ c2, (s2.heap.update S (Obj.mapSeq fun _ => #[v, .ref q])).get? S = some (seqObj "list" #[v, .ref q] c2) := ⟨_, get?_update_seq eS2 fun _ => #[v, .ref q]⟩
      simp only [if_true]
      refine wpAny_bind ?_
      refine wpAny_updateSeq eS2 rfl (wpAny_bind (wpAny_letGo ?_))
      rw [hname]
      refine wpAny_pure ⟨plainId_quiet PySem.F.plain_min_loop _, ?_⟩
      have I3 : Inv X pins σ H2 { s2 with heap := s2.heap.update S (Obj.mapSeq fun _ => #[v, .ref q]), toks := s2.toks } := I2.turnedL (ch := [S]) (fun b o hb e => (s1.2 b (fun z => hb (by simp [z]))).trans e) (fun b hb => by rw [List.mem_singleton.mp hb]; exact xS2)
      refine ih (j + 1) n H2 _ v q c2 (by omega) hlt I3 g2 xS2 xI2 xf2 ((s1.2 f hfS).trans ef2) hc2 ⟨oI', (s1.2 It hSI.symm).trans eI2, hoc, hod⟩ rn hq hnm fun j' n' hj' hn' => ?_
      by_cases e : j' = j + 1
      · subst e
        rw [hn] at hn'; cases hn'
        exact lexLt_irrefl _
      · cases hz' : HT.lexLt (kf n') (kf n) with
        | false => rfl
        | true =>
          have := lexLt_trans hz' hb'
          rw [hbest j' n' (by omega) hn'] at this
          cases this
    | false =>
      simp only [Bool.false_eq_true, if_false]
      refine wpAny_bind (wpAny_letGo ?_)
      rw [hname]
      refine wpAny_pure ⟨plainId_quiet PySem.F.plain_min_loop _, ih (j + 1) m H2 s2 vb p c (by omega) hlt I2 g2 xS2 xI2 xf2 ef2 eS2 hit2 rm hp2 hm fun j' n' hj' hn' => ?_⟩
      by_cases e : j' = j + 1
      · subst e
        rw [hn] at hn'; cases hn'
        exact hb'
      · exact hbest j' n' (by omega) hn'
end
end Md

set_option Elab.async false
set_option linter.unusedVariables false
set_option maxRecDepth 100000
set_option maxHeartbeats 4000000
namespace Md
open PySem PySem.Spec PyProof.Rows L2 LamX NdefX
/-! ### min(l, key=f) -/
section
variable {X : Cx} {pins : List (Addr × Obj)} {σ : L2.St} {l f : Addr} {fo : Obj} {ns : List Int} {kf : Int → List Int} {G : Hp → Prop} {Q : VK} {H : Hp} {s : Shared}
theorem min_key (hh : X.A.handled = none) (hu : X.A.in1.units < cLine) (KO : KeyOk X σ f fo ns kf G) (hfd : ∀ v, fo.data ≠ .cell v) (hG : ∀ H H', G H → Same H H' → G H') (hl : ∀ H, G H → SqL X.K H l (ns.map V.int)) (hne : 0 < ns.length)
    (I : Inv X pins σ H s) (g : G H) (ef : s.heap.get? f = some fo) (xf : PinOk X H f) (fin : ∀ m ∈ ns, (∀ n ∈ ns, HT.lexLt (kf n) (kf m) = false) → ∀ H', G H' → Q (.int m) H') :
    wpAny (model X.prog X.w) X.A (call (.builtin "min") [.ref l] [(Str.ofString "key", .ref f)]) (EP X pins σ Q) X.xe s := by
  have hname : (toString "min" ++ toString ".loop" : String) = "min.loop" := by decide
  obtain ⟨its, rv, pl, hz⟩ := I.list (hl H g)
  have hls := pl.isList
  obtain ⟨ol, hol, _⟩ := id hls
  have hll : l < s.heap.objs.size := Heap.lt_size hol
  have hff : f < s.heap.objs.size := Heap.lt_size ef
  refine kmk_tree PySem.F.kind_min PySem.F.plain_min PySem.F.entry_min (kmk_min_key _ _) ?_
  show wpAny _ X.A.in1 (Builtin.Builtins.bindParams "min" ["key", "default"] 0 ⟨[], [(Str.ofString "key", .ref f)]⟩ >>= _) _ _ s
  refine wpAny_bind (wpAny_of_eq (show Builtin.Builtins.bindParams "min" ["key", "default"] 0 ⟨[], [(Str.ofString "key", .ref f)]⟩ = pure [some (.ref f), none] from rfl) ?_)
  refine wpAny_bind (wpAny_pure ?_)
  refine wpAny_bind (wpAny_pyIter_list hls ?_)
  refine wpAny_bind (wpAny_newList ?_ (Nat.zero_le _))
  rw [hname]
  have hS : (s.heap.push { cls := .type "list_iterator", data := .fields #[.ref l, .int 0 0] }).objs.size = s.heap.objs.size + 1 := size_push' ..
  have hlI : l ≠ s.heap.objs.size := Nat.ne_of_lt hll
  have hfI : f ≠ s.heap.objs.size := Nat.ne_of_lt hff
  have hfS : f ≠ (s.heap.push { cls := .type "list_iterator", data := .fields #[.ref l, .int 0 0] }).objs.size := by rw [hS]; exact Nat.ne_of_lt (Nat.lt_succ_of_lt hff)
  have hSI : (s.heap.push { cls := .type "list_iterator", data := .fields #[.ref l, .int 0 0] }).objs.size ≠ s.heap.objs.size := by rw [hS]; exact Nat.ne_of_gt (Nat.lt_succ_self _)
  refine wpAny_pure ⟨plainId_quiet PySem.F.plain_min_loop _, ?_⟩
  have kp : ∀ b o, s.heap.get? b = some o → ((s.heap.push { cls := .type "list_iterator", data := .fields #[.ref l, .int 0 0] }).push (seqObj "list" #[] 0)).get? b = some o := fun b o e => Heap.get?_push_of_some _ (Heap.get?_push_of_some _ e)
  have gI : ((s.heap.push { cls := .type "list_iterator", data := .fields #[.ref l, .int 0 0] }).push (seqObj "list" #[] 0)).get? s.heap.objs.size = some { cls := .type "list_iterator", data := .fields #[.ref l, .int 0 0] } :=
    Heap.get?_push_of_some _ (Heap.get?_push_size _ rfl)
  have gS : ((s.heap.push { cls := .type "list_iterator", data := .fields #[.ref l, .int 0 0] }).push (seqObj "list" #[] 0)).get? (s.heap.push { cls := .type "list_iterator", data := .fields #[.ref l, .int 0 0] }).objs.size = some (seqObj "list" #[] 0) := Heap.get?_push_size _ rfl
  have xI : FpOk X pins H s.heap.objs.size := I.fpOk (Nat.le_refl _) (I.hok.fresh (Nat.le_refl _))
  have leS : s.heap.objs.size ≤ (s.heap.push { cls := .type "list_iterator", data := .fields #[.ref l, .int 0 0] }).objs.size := by rw [hS]; exact Nat.le_succ _
  have xS : FpOk X pins H (s.heap.push { cls := .type "list_iterator", data := .fields #[.ref l, .int 0 0] }).objs.size := I.fpOk leS (I.hok.fresh leS)
  have I0 : Inv X pins σ H { s with heap := (s.heap.push { cls := .type "list_iterator", data := .fields #[.ref l, .int 0 0] }).push (seqObj "list" #[] 0), toks := s.toks } := I.kept kp
  obtain ⟨its, rv, pl, hz⟩ := I0.list (hl H g)
  have hlen : its.toArray.size = ns.length := by rw [List.size_toArray, ← rv.length, List.length_map]
  have W := Walks.list (prog := X.prog) (w := X.w) (A := X.A.in1) hh s.heap.objs.size l hlI its.toArray
  refine codeAny_builtin PySem.F.entry_min_loop ?_
  rw [Around.under_plainId PySem.F.plain_min_loop _]
  show wpAny _ X.A.in1 (seqItems? (.ref _) >>= _) _ _ _
  refine wpAny_bind (wpAny_seqItems gS rfl ?_)
  show wpAny _ X.A.in1 (tryCatch (pyNext (.ref s.heap.objs.size)) _ >>= _) _ _ _
  refine wpAny_bind (wpAny_tryCatch (W.item 0 _ _ _ (by rw [hlen]; exact hne) ⟨⟨_, gI, rfl, rfl⟩, pl.isList⟩ fun v h' tk' hP hst' hk' => ?_))
  have hv : its[0]? = some v := by simpa using hP
  obtain ⟨n, hn⟩ : ∃ n, ns[0]? = some n := ⟨_, List.getElem?_eq_getElem hne⟩
  have hnm := List.mem_of_getElem? hn
  obtain ⟨u', hu', rn⟩ := rv.get (show (ns.map V.int)[0]? = some (.int n) by rw [List.getElem?_map, hn]; rfl)
  rw [hv] at hu'
  cases hu'
  obtain ⟨oI', hoI', hoc, hod⟩ := id hst'.1
  have I1 : Inv X pins σ H { s with heap := h', toks := tk' } := by
    have z := I0.turnedL (h' := h') (t' := tk') (ch := [s.heap.objs.size]) (fun b o hb e => hk' b o hb e) (fun b hb => by rw [List.mem_singleton.mp hb]; exact xI)
    exact z
  have eS1 := hk' _ _ (by simpa using hSI) gS
  have ef1 := hk' f _ (by simpa using hfI) (kp _ _ ef)
  show wpAny _ X.A.in1 (tryCatch (holding [v] (call (.ref f) [v])) _ >>= _) _ _ _
  refine wpAny_bind (wpAny_tryCatch (wpAny_holding (wpAny_mono (key_turn KO hfd hnm I1 g xS xI xf ef1 eS1 seq_nocell hoI' (fun w' z => by rw [hod] at z; cases z) rn fun q H2 s2 I2 sm hq xS2 xI2 xf2 ef2 eS2 eI2 => ?_) (fun _ _ z => z) fun _ _ z => z.elim)))
  have s1 := Heap.SameBut.update s2.heap (s.heap.push { cls := .type "list_iterator", data := .fields #[.ref l, .int 0 0] }).objs.size (Obj.mapSeq fun _ => #[v, .ref q])
  obtain ⟨c2, hc2⟩ : ∃ c2, (s2.heap.update (s.heap.push { cls := .type "list_iterator", data := .fields #[.ref l, .int 0 0] }).objs.size (Obj.mapSeq fun _ => #[v, .ref q])).get? (s.heap.push { cls := .type "list_iterator", data := .fields #[.ref l, .int 0 0] }).objs.size = some (seqObj "list" #[v, .ref q] c2) := ⟨_, get?_update_seq eS2 fun _ => #[v, .ref q]⟩
  show wpAny _ X.A.in1 (updateSeq (s.heap.push { cls := .type "list_iterator", data := .fields #[.ref l, .int 0 0] }).objs.size (fun _ => #[v, .ref q]) >>= _) _ _ _
  refine wpAny_bind ?_
  refine wpAny_updateSeq eS2 rfl ?_
  rw [hname]
  have I3 : Inv X pins σ H2 { s2 with heap := s2.heap.update (s.heap.push { cls := .type "list_iterator", data := .fields #[.ref l, .int 0 0] }).objs.size (Obj.mapSeq fun _ => #[v, .ref q]), toks := s2.toks } :=
    I2.turnedL (ch := [(s.heap.push { cls := .type "list_iterator", data := .fields #[.ref l, .int 0 0] }).objs.size]) (fun b o hb e => (s1.2 b (fun z => hb (by simp [z]))).trans e) (fun b hb => by rw [List.mem_singleton.mp hb]; exact xS2)
  refine wpAny_pure ⟨plainId_quiet PySem.F.plain_min_loop _, min_loop hh hu KO hfd hG hl hlI hSI hfS hfI (fun v s' h => h) fin _ 0 n H2 _ v q c2 rfl hne I3 (hG _ _ g sm) xS2 xI2 xf2 ((s1.2 f hfS).trans ef2) hc2 ⟨oI', (s1.2 _ hSI.symm).trans eI2, hoc, hod⟩ rn hq hnm fun j' n' hj' hn' => ?_⟩
  have e : j' = 0 := by omega
  subst e
  rw [hn] at hn'; cases hn'
  exact lexLt_irrefl _
end

/-! ### the rule -/
/-- min(e, key=lambda x: body): N the lambda's names (its parameter first, then the captured ones), js where these stand among the running frame's, kf the key -/
def tMinKey (K : PySem.W.Frag) (P : Addr) (q : Str) (N : List Str) (js : List Nat) (t : TE) (ta : TA) : TE := fun σ H Q => ta σ H fun vs H1 => ∃ (l : Addr) (ns : List Int) (kf : Int → List Int), vs = [.ref l] ∧ SqL K H1 l (ns.map V.int) ∧ 0 < ns.length ∧ TabS H1 P q ∧
  (∀ n ∈ ns, ∀ H2, ExtN H1 H2 → TabS H2 P q → t (startF N [.int n] (js.map (slotAt σ))) H2 fun v H3 => ∃ p, v = .ref p ∧ H3 p = some (.tup ((kf n).map V.int)) ∧ Same H2 H3) ∧
  ∀ m ∈ ns, (∀ n ∈ ns, HT.lexLt (kf n) (kf m) = false) → ∀ H2, ExtN H1 H2 → TabS H2 P q → Q (.int m) H2
theorem extN_seq {K : PySem.W.Frag} {H H' : Hp} {a : Addr} {xs : List V} (e : ExtN H H') (h : SqL K H a xs) : SqL K H' a xs := by
  rcases h with (h | ⟨u, h⟩) | h
  · exact .inl (.inl (e _ _ h (fun ps z => by cases z)))
  · exact .inl (.inr ⟨u, e _ _ h (fun ps z => by cases z)⟩)
  · exact .inr h
theorem extN_same {H H' : Hp} (e : Same H H') : ExtN H H' := fun b o h _ => e b o h
section
variable {X : Cx}
theorem pe_minkey {c P : Addr} {k : Nat} {params : Arguments} {body : Expr} {scope : Scope} {N fr : List Str} {a : Str} {js : List Nat} {t : TE} {ta : TA} {e : Expr} {p lpos kpos pos : Pos}
    (hg : Gl X "min") (hm : X.mg "min" = none) (ha : PA X [e] ta) (TB : TabB X.base X.mg c P) (hcode : X.env.code = .ref c) (hr : Room (k + 2) X.A) (S : NScope N [a] fr scope) (hdef : defaultsOf params X.env = ([], []))
    (hfree : ∀ y ∈ scope.names, y.2 = .free → X.env.scope.names.lookup y.1 = some .cell ∨ X.env.scope.names.lookup y.1 = some .free) (hfr : ∀ y ∈ fr, (y, NameKind.free) ∈ scope.names) (hjs : js.map (fun j => X.N[j]?) = fr.map some)
    (hbind : ∀ (q : Str) (cl : List (Str × Addr)) (pm cv ctv u : Value), bindArgs (PySem.W.kla_fn "<lambda>" q params body scope cl pm cv ctv) ⟨[u], []⟩ = pure (([a] : List Str).zip [u]))
    (hbody : ∀ (A : Around) (outer : List Env) (s : Shared) (H : Hp) (F : NF) (f : Addr), F.scope = scope → Room k (A.deeper (envF F f s.heap.objs.size)) → PE (ncx CX0 X.prog X.w X.K X.mg X.base N F f A outer s H (fun _ _ _ => False)) body t)
    (he : backTo pos (starEach [e] X.env) = (false, eval e X.env) :: backTo pos (starEach [] X.env) := by rfl) (hpl : (backTo pos (starEach [e] X.env)).any (·.1) = false := by rfl) :
    PE X (.Call (.Name "min" p) [e] [⟨some "key", .Lambda params body scope lpos, kpos⟩] pos) (tMinKey X.K P (X.env.qual ++ "<lambda>") N js t ta) := by
  refine ⟨fun pins s σ H Q I h => ?_⟩
  refine wpAny_Call_Name_kw (ld_blt I hg hm (show bootBuiltins "min" = some (.builtin "min") by decide +kernel) ?_ (by decide) (by decide))
  refine PyProof.Rows.callWith_kw (thn (ha.run pos pins s σ H _ I h) fun us s1 ⟨vs, H1, I1, r1, l, ns, kf, evs, hl, hne, hT, hk, hq⟩ => ?_) he hpl rfl rfl
  subst evs
  obtain rfl := Vals.ref1 r1
  show wpAny _ _ (evalAll [(do let v ← eval (.Lambda params body scope lpos) X.env; standAt pos; pure v)]) _ _ s1
  have hT1 : Tabs [(P, X.env.qual ++ "<lambda>")] H1 := fun p hp => by rw [List.mem_singleton.mp hp]; exact hT
  have hf : ∀ y ∈ scope.names, y.2 = .free → ∃ c, X.env.cells.lookup y.1 = some c := fun y hy e => (hfree y hy e).elim (fun z => I.ok.has _ (.inl z)) fun z => I.ok.has _ (.inr z)
  refine wpAny_evalAll_cons (wpAny_bind (lam_make2 (T := [(P, X.env.qual ++ "<lambda>")]) I1 TB hcode (List.mem_singleton_self _) (fun p hp _ => by rw [List.mem_singleton.mp hp]) hT1 hdef hf fun f c' pm ctv H2 s2 I2 eN T2 ef hfn hfr' hco => wpAny_bind (wpAny_standAt (wpAny_pure (wpAny_evalAll_nil ?_)))))
  show wpAny _ _ (call (.builtin "min") [.ref l] [(Str.ofString "key", .ref f)]) _ _ s2
  have hT2 : TabS H2 P (X.env.qual ++ "<lambda>") := T2 _ (List.mem_singleton_self _)
  have hcap : Caps X (cloFrom X.env.cells scope.names []) fr js := Caps.made I.ok hfree hfr hjs
  have xf : PinOk X H2 f := by
    refine ⟨hfn, fun z => ?_, fun z => hfr' ?_⟩
    · obtain ⟨m, ⟨o, es, ep, ho, hd, _⟩, _⟩ := I2.loc
      rw [← z, ef] at ho
      cases ho
      cases hd
    · rcases I.ok.stk with e | ⟨e, _⟩
      · rw [e]; exact z
      · rw [e]
        unfold frs
        rw [List.filterMap_cons]
        split
        · exact z
        · exact List.mem_cons_of_mem _ z
  refine min_key (G := fun H' => ExtN H1 H' ∧ TabS H' P (X.env.qual ++ "<lambda>") ∧ H' c' = some (CodeO c' (X.env.qual ++ "<lambda>"))) (hr.hd) hr.in1.units0 (fun n hn pins' s3 H3 u I3 ef3 g3 rn => ?_) (fun v z => by cases z)
    (fun Ha Hb ga sm => ⟨ga.1.trans (extN_same sm), ga.2.1.ext sm, sm _ _ ga.2.2⟩) (fun H' g' => extN_seq g'.1 hl) hne I2 ⟨eN, hT2, hco⟩ ef xf (fun m hmn hb H' g' => hq m hmn hb H' g'.1 g'.2.1)
  have rr : Room (k + 1) X.A.in1 := hr.in1
  have run := lam_run (CX := CX0) (N := N) (ps := [a]) (fr := fr) (F := ⟨"<lambda>", X.env.qual ++ "<lambda>", params, [], scope, cloFrom X.env.cells scope.names [], c'⟩) (E := fun _ _ _ => False) (vs := [.int n]) (us := [u]) (ws := js.map (slotAt σ)) S (hbind _ _ _ _ _ u) rr (I3.env0.in1) ef3 g3.2.2 (cells_of I3 hcap) (.cons rn .nil) rfl
    (hbody _ _ s3 H3 _ f rfl (rr.deeper _)) (hk n hn H3 g3.1 g3.2.1)
  refine wpAny_call (codeAny_mono run fun r s' hr' => ?_)
  cases r with
  | error e => exact (show False from hr')
  | ok fl =>
    cases fl with
    | ret u => exact I3.after hr'
    | next => exact False.elim hr'
    | brk => exact False.elim hr'
    | cont => exact False.elim hr'
end
end Md

set_option Elab.async false
set_option linter.unusedVariables false
set_option maxRecDepth 100000
set_option maxHeartbeats 4000000
/-! The end of a Spec row with a table of code objects (a def that makes a lambda). -/
namespace Md
open PySem PySem.Spec PySem.W PySem.Calls PyProof.Rows L2 LamX
theorem spec_callT {P : Program} {w : World} {K : PySem.W.Frag} {mg mb : Str → Option Value} {CX : CXT} {k : Nat} {fa c T : Addr} {fd : FuncData} {ps : List Str} {sp : Sp} {s₁ : Shared} {vals : List Value} {ds : List WData} {R : PySem.W.WRecords} {cl : Str → Option Addr} {d0 : WData}
    (KX : K.In s₁.heap) (hns : s₁.heap.Ns mainGlobals mg) (hb : s₁.heap.Ns builtinsNs mb) (hbb : ∀ x : Str, x ≠ "__name__" → mb x = bootBuiltins x) (hlim : s₁.heap.NoLimit) (hg : s₁.gens = #[])
    (hT : s₁.heap.get? T = some { cls := .none, data := .fields #[] }) (nT : K.lookup T = none) (C : PySem.W.CodeHd s₁.heap c T)
    (hbm : ∃ (bm : Addr) (ob : Obj), mg "__builtins__" = some (.ref bm) ∧ bm ≠ builtinsNs ∧ s₁.heap.get? bm = some ob ∧ ob.cls = .type "module" ∧ ob.dict = some builtinsNs ∧ ob.data = .plain)
    (hwl : WellAll w.params s₁.heap vals ds) (hpl : plWs ds = true) (hwt : ∀ d ∈ ds, d.weight ≤ 1048576) (hr : Room k callerA)
    (F : ∀ base : Heap, K.In base → base.Ns mainGlobals mg → TabB base mg c T → FnOk P w K mg base CX k fa fd ps sp) (hbind : ∀ (s : Shared) (us : List Value), us.length = ps.length → BindsTo s fd ⟨us, []⟩ (ps.zip us)) (hlen : ds.length = ps.length)
    (hsp : ∀ (H0 H : Hp) (xs : List V), Same H0 H → H T = some (.tbl #[]) → DwAll K H0 xs ds → sp xs H (fun v H' => Dw K H' v d0) fun _ _ _ => False)
    (hCX : ∀ H e s', CX [] H s₁ (fun _ _ _ => False) e s' → False) :
    codeAny (model P w) callerA (.call (.ref fa) ⟨vals, []⟩) (fun r s' => ∃ u as, r = .ok (.ret u) ∧ ReadsW R cl s'.heap u d0 as ∧ OldK s₁.heap s'.heap ∧ s'.os = s₁.os ∧ AllBare s'.gens) s₁ := by
  obtain ⟨A, ho, ar⟩ := area_all ds vals hwl hpl hwt
  have hO : OnlyF (argH K s₁.heap A) := argH_only ar
  have hok0 : HOk P w (argH K s₁.heap A) s₁.heap := argH_ok ar
  have hS := dw_all KX ar ds vals hwl hpl ho
  have hV := vals_toV ho
  have hK : ∀ b u, argH K s₁.heap A b = some u → K.lookup b = none := fun b u q => (argH_is ar q).1
  have noS : ∀ {b : Addr} {o : Obj}, s₁.heap.get? b = some o → (∀ vs n, o.data ≠ .seq vs n) → argH K s₁.heap A b = none := fun {b o} e d => by
    cases q : argH K s₁.heap A b with
    | none => rfl
    | some u =>
      obtain ⟨_, vs, _, _, ⟨e2, _⟩ | ⟨e2, _⟩⟩ := argH_is ar q
      · rw [e2] at e
        cases e
        exact absurd rfl (d _ _)
      · rw [e2] at e
        cases e
        exact absurd rfl (d _ _)
  generalize argH K s₁.heap A = H0 at hO hok0 hS hK noS
  have nT0 : H0 T = none := noS hT (fun vs n z => by cases z)
  have H_eq : ∀ b, b ≠ T → upd H0 T (.tbl #[]) b = H0 b := fun b hb => upd_ne hb
  have sm : Same H0 (upd H0 T (.tbl #[])) := fun b o e => by rw [H_eq b (ne_of_none e nT0)]; exact e
  have hok : HOk P w (upd H0 T (.tbl #[])) s₁.heap := fun b u e => by
    by_cases hb : b = T
    · subst hb
      rw [upd_same] at e
      cases e
      exact hT
    · rw [H_eq b hb] at e
      exact (hok0 b u e).stay (fun c v _ q => q) (fun d q => sm _ _ q) fun d xs q => sm _ _ q
  have noA : ∀ {b : Addr} {o : Obj}, s₁.heap.get? b = some o → (∀ vs n, o.data ≠ .seq vs n) → o.data ≠ .fields #[] → upd H0 T (.tbl #[]) b = none := fun {b o} e h1 h2 => by
    have hb : b ≠ T := fun z => by
      rw [z, hT] at e
      cases e
      exact h2 rfl
    rw [H_eq b hb]
    exact noS e h1
  have base_of : ∀ {b : Addr} {o : Obj}, s₁.heap.get? b = some o → upd H0 T (.tbl #[]) b = none → (hidT s₁.heap (upd H0 T (.tbl #[]))).get? b = some o := fun e n => hidT_get e n
  have noD : ∀ {b : Addr} {o : Obj} {es : Array DictEntry} {ep : Nat}, s₁.heap.get? b = some o → o.data = .dict es ep → upd H0 T (.tbl #[]) b = none := fun {b o es ep} e d => noA e (fun vs n z => by rw [d] at z; cases z) (fun z => by rw [d] at z; cases z)
  have nsK : ∀ {b : Addr} {m : Str → Option Value}, s₁.heap.Ns b m → (hidT s₁.heap (upd H0 T (.tbl #[]))).Ns b m := fun {b m} ⟨o, es, ep, e, d, r⟩ => ⟨o, es, ep, base_of e (noD e d), d, r⟩
  have nK : ∀ b o, K.lookup b = some o → upd H0 T (.tbl #[]) b = none := fun b o e => by
    have hb : b ≠ T := fun z => by rw [z, nT] at e; cases e
    rw [H_eq b hb]
    cases q : H0 b with
    | none => rfl
    | some u =>
      rw [hK b u q] at e
      cases e
  have hKb : K.In (hidT s₁.heap (upd H0 T (.tbl #[]))) := fun b o e => base_of (KX b o e) (nK b o e)
  have hM : L2.Mod K mg (hidT s₁.heap (upd H0 T (.tbl #[]))) := ⟨hKb, nsK hns, ⟨mb, nsK hb, hbb⟩, let ⟨mc, h1, h2⟩ := hlim; ⟨mc, nsK h1, h2⟩⟩
  have TB : TabB (hidT s₁.heap (upd H0 T (.tbl #[]))) mg c T := by
    refine ⟨?_, ?_, fun z => ?_⟩
    · obtain ⟨o, us, file, tf, flags, tg, inF, text, tt, e1, r1, r2, r3, r4, r5, r6, r7, r8, hne⟩ := id C
      refine ⟨o, us, file, tf, flags, tg, inF, text, tt, base_of e1 (noA e1 (fun vs n z => ?_) fun z => ?_), r1, r2, r3, r4, r5, r6, r7, r8, hne⟩
      · rw [r2] at z
        cases z
      · rw [r2] at z
        cases z
        simp at r3
    · obtain ⟨bm, ob, b1, b2, b3, b4, b5, b6⟩ := hbm
      have nG : bm ≠ mainGlobals := fun q => by
        obtain ⟨o, es, ep, e, hd, _⟩ := hns
        rw [q, e] at b3
        cases b3
        rw [hd] at b6
        cases b6
      have nP : bm ≠ T := fun q => by
        rw [q, hT] at b3
        cases b3
        cases b6
      refine ⟨bm, ob, b1, b2, nG, nP, base_of b3 (noA b3 (fun vs n z => ?_) fun z => ?_), b4, b5, b6⟩
      · rw [b6] at z
        cases z
      · rw [b6] at z
        cases z
    · obtain ⟨o, es, ep, e, hd, _⟩ := hns
      rw [z, hT] at e
      cases e
      cases hd
  have e0 : Env0 P w K mg (hidT s₁.heap (upd H0 T (.tbl #[]))) callerA [] s₁ (upd H0 T (.tbl #[])) := ⟨rfl, hM, fun b o e => of_hidT e, Nat.le_of_eq (hidT_size _ _), trivial, fun b hb => absurd (show b ∈ ([] : List Addr) from hb) (by simp), hok, .of_eq hg⟩
  have hl : vals.length = ps.length := by rw [wellAll_len hwl]; exact hlen
  refine codeAny_mono ((F _ hKb (nsK hns) TB).run callerA [] s₁ (upd H0 T (.tbl #[])) ⟨vals, []⟩ vals (vals.map toV) _ _ hr e0 (hbind s₁ vals hl) hV (hsp H0 _ _ sm upd_same hS)) fun r s' x => ?_
  cases r with
  | error e => exact (hCX _ e s' x).elim
  | ok fl =>
    cases fl with
    | next => exact False.elim x
    | brk => exact False.elim x
    | cont => exact False.elim x
    | ret u =>
      obtain ⟨v, H', os, bare, un, hok', r', q⟩ := x
      have key : ∀ b o, b ≠ T → s₁.heap.get? b = some o → s'.heap.get? b = some o := fun b o nb e => by
        cases q2 : upd H0 T (.tbl #[]) b with
        | none => exact un.keep b o e q2 (by intro z; exact absurd (show b ∈ ([] : List Addr) from z) (by simp)) (by simp)
        | some u2 =>
          rw [H_eq b nb] at q2
          rcases hO b with z | ⟨ob, u3, z⟩
          · rw [q2] at z
            cases z
          · have z2 := un.frzs b ob _ (sm _ _ z)
            obtain ⟨e1, _⟩ := hok0 b _ z
            obtain ⟨e2, _⟩ := hok' b _ z2
            rw [e] at e1
            cases e1
            exact e2
      have grown : ∃ more : Array Value, s'.heap.get? T = some { cls := .none, data := .fields more } := by
        obtain ⟨more, z⟩ := un.tbls T #[] upd_same
        exact ⟨_, hok' T _ z⟩
      have KX' : K.In s'.heap := fun b o e => key b o (fun z => by rw [z, nT] at e; cases e) (KX b o e)
      obtain ⟨as, hrd⟩ := Dw.reads (R := R) (cl := cl) hok' KX' d0 v u q r'
      obtain ⟨more, hm⟩ := grown
      refine ⟨u, as, rfl, hrd, ⟨fun b o e => ?_, fun b o e => ?_⟩, os, bare⟩
      · by_cases hb : b = T
        · rw [hb] at e ⊢
          rw [hT] at e
          cases e
          exact .inr (.inl ⟨(C.tab hT).isCodeTable, rfl, #[], more, rfl, by rw [Array.empty_append]; exact hm⟩)
        · exact .inl (key b o hb e)
      · by_cases hb : b = T
        · rw [hb]
          exact ⟨_, hm⟩
        · exact ⟨o, key b o hb e⟩
theorem walk_specT {r : OpenSpec} {k : Nat} {q : Program} {loose : List Str} {XP : (Str → Option Value) → Heap → Prop} {YP : World → Heap → Prop} {d : DefRec} {K : Params → PySem.W.Frag} {CX : CXT} {ps : List Str} {sp : PySem.W.Frag → Sp} {c T : Addr}
    (hwell : r.wellSaid = true) (hdf : d.params.defaults = []) (hlen : r.args.length = ps.length) (hr : Room k callerA)
    (hY : ∀ (w : World) (h : Heap), YP w h → (K w.params).In h) (hT : ∀ (w : World) (h : Heap), YP w h → h.get? T = some { cls := .none, data := .fields #[] }) (nT : ∀ w : World, (K w.params).lookup T = none) (hC : ∀ w : World, PySem.W.codeHdIn (K w.params) c T = true)
    (F : ∀ (w : World) (mg : Str → Option Value) (fa : Addr) (h : Heap), YP w h → (K w.params).In h → h.Ns mainGlobals mg → mg d.name = some (.ref fa) →
      ∃ fd : FuncData, (∀ (s : Shared) (us : List Value), us.length = ps.length → BindsTo s fd ⟨us, []⟩ (ps.zip us)) ∧
        ∀ base : Heap, (K w.params).In base → base.Ns mainGlobals mg → TabB base mg c T → FnOk r.prog w (K w.params) mg base CX k fa fd ps (sp (K w.params)))
    (hsp : ∀ (K : PySem.W.Frag) (H0 H : Hp) (xs : List V) (a : Codec.denoteAll r.args), Same H0 H → H T = some (.tbl #[]) → Codec.withinAll r.args a = true → Codec.app r.args r.asked a = true → DwAll K H0 xs (Codec.encAll r.args a) →
      sp K xs H (fun v H' => Dw K H' v (r.ret.enc (Codec.app r.args r.f a))) fun _ _ _ => False)
    (hCX : ∀ (H : Hp) (s : Shared) (e : Value) (s' : Shared), CX [] H s (fun _ _ _ => False) e s' → False) :
    PySem.W.WalkOS q loose XP YP r d [] (fun f vs => PySem.call f vs) := by
  intro w s₀ s₁ mg mb G Y fa o pm cd doc dV kV ho hd hcd hD hmg hg args vals as hpre hlay hrd hwl hlo
  obtain ⟨a, e1, e2⟩ := PySem.W.os_pre_some hpre
  obtain ⟨e3, hwi⟩ := Codec.encAll_of_decAll r.args args a e1
  subst e3
  have KX := hY w _ Y
  obtain ⟨fd, hb, hF⟩ := F w mg fa _ Y KX G.T.g hmg
  refine PySem.W.enter_call (codeAny_mono (spec_callT (R := []) (cl := classAt s₀.heap) (d0 := r.ret.enc (Codec.app r.args r.f a)) KX G.T.g G.T.b G.T.builtins G.T.nolimit hg (hT w _ Y) (nT w) (PySem.W.codeHd_of_K KX (hC w)) G.T.bmain hwl (pl_encAll _ _) (layable_weight hlay) hr hF hb (by rw [encAll_len]; exact hlen)
    (fun H0 H xs sm hH hS => hsp _ H0 H xs a sm hH hwi e2 hS) fun H e s' => hCX H s₁ e s') fun r' s' hq => ?_)
  obtain ⟨u, as', rfl, h1, h2, h3, h4⟩ := hq
  exact ⟨.inl ⟨u, _, as', rfl, fun _ => rfl, h1, (OpenSpec.post_iff hwell hwi _ _).mpr rfl, fun z => Bool.noConfusion (show false = true from z)⟩, h2, h3, h4⟩
end Md

set_option Elab.async false
set_option maxRecDepth 100000
set_option maxHeartbeats 4000000
/-! The classes Record and Desk: each method keeps its promise. -/
namespace Md
open PySem PySem.Spec PyProof.Rows L2
def top (i : Nat) : Stmt := PySem.Challenge.pw_mergedone_s01_answers.main.body.getD i (.Pass ⟨0, 0, 0, 0⟩)
/-- a whole number among the module's names -/
def GInt (mg : Str → Option Value) (x : Str) (i : Int) : Prop := ∃ t, mg x = some (.int i t)
theorem pe_gint {X : Cx} {x : Str} {i : Int} {pos : Pos} (hg : Gl X x) (h : GInt X.mg x i) (hd : (x == ("__debug__" : Str)) = false := by decide) : PE X (.Name x pos) (tC (.int i)) :=
  let ⟨_, e⟩ := h
  pe_glob hg e ⟨_, rfl⟩ hd
/-- what the top has written -/
structure Txt (K : PySem.W.Frag) (mg : Str → Option Value) (CD CR : Addr) : Prop where
  clD : Cls K CD
  clR : Cls K CR
  nRules : NoAttr K CD "rules"
  nTrusted : NoAttr K CD "trusted"
  nRecords : NoAttr K CD "records"
  nLast : NoAttr K CD "last_number"
  nPins : NoAttr K CD "pins"
  nSource : NoAttr K CR "source"
  nTime : NoAttr K CR "time"
  nThing : NoAttr K CR "thing"
  nVals : NoAttr K CR "field_values"
  nWrong : NoAttr K CR "field_wrong"
  gD : mg "Desk" = some (.ref CD)
  gR : mg "Record" = some (.ref CR)
  src : ∃ a, mg "SOURCES" = some (.ref a) ∧ ∀ H, SqT K H a (ivs [1, 2, 3, 4])
  len : mg "len" = none
  list : mg "list" = none
  first : GInt mg "FIELDS_AT_FIRST" 2
theorem SqL.new {K : PySem.W.Frag} {H : Hp} {b p : Addr} {o : HO} {xs : List V} (h : SqL K H b xs) (hp : H p = none) : SqL K (upd H p o) b xs := by
  rcases h with (h | ⟨u, h⟩) | h
  · exact .inl (.inl (by rw [upd_ne (ne_of_none h hp)]; exact h))
  · exact .inl (.inr ⟨u, by rw [upd_ne (ne_of_none h hp)]; exact h⟩)
  · exact .inr h
theorem SqL.atIns {K : PySem.W.Frag} {H : Hp} {b p C dx : Addr} {fs : List (Str × V)} {o : HO} {xs : List V} (h : SqL K H b xs) (hp : H p = some (.ins C dx fs)) : SqL K (upd H p o) b xs := by
  rcases h with (h | ⟨u, h⟩) | h
  · exact .inl (.inl (by rw [upd_ne (ne_of h hp (by intro z; cases z))]; exact h))
  · exact .inl (.inr ⟨u, by rw [upd_ne (ne_of h hp (by intro z; cases z))]; exact h⟩)
  · exact .inr h
theorem own_ne {L : Lay} {d b : Addr} (h : b ∉ L.own d) : b ≠ d ∧ b ≠ L.R ∧ b ≠ L.T ∧ b ≠ L.D ∧ b ≠ L.P :=
  ⟨fun e => h (mem_own.mpr (.inl e)), fun e => h (mem_own.mpr (.inr (.inl e))), fun e => h (mem_own.mpr (.inr (.inr (.inl e)))), fun e => h (mem_own.mpr (.inr (.inr (.inr (.inl e))))), fun e => h (mem_own.mpr (.inr (.inr (.inr (.inr (.inl e))))))⟩
theorem few {fs : List (Str × V)} {f : Str} {v : V} {n : Nat} (h : fs.length ≤ n) : (putF f v fs).length ≤ n + 1 := by
  induction fs generalizing n with
  | nil => show 1 ≤ n + 1; omega
  | cons p r ih =>
    obtain ⟨g, x⟩ := p
    show (if g = f then (g, v) :: r else (g, x) :: putF f v r).length ≤ n + 1
    rw [List.length_cons] at h
    by_cases c : g = f
    · rw [if_pos c, List.length_cons]; omega
    · rw [if_neg c, List.length_cons]
      have := ih (n := n - 1) (by omega)
      omega
theorem few0 : ([] : List (Str × V)).length ≤ 0 := Nat.le_refl _
theorem recF_new (r : Rl06.Rec) (q : Q3) : putF "field_wrong" (.ref q.2.2) (putF "field_values" (.ref q.2.1) (putF "thing" (iv r.thing) (putF "time" (iv r.time) (putF "source" (iv r.source) [])))) = recF r q := by
  rw [show putF "source" (iv r.source) [] = [(("source" : Str), iv r.source)] from rfl]
  repeat rw [put_past (by decide +kernel)]
  rfl
section
variable {P : Program} {w : World} {K : PySem.W.Frag} {mg : Str → Option Value} {base : Heap} {CD CR : Addr}

/-! ### Record.__init__ -/
abbrev sRInit : Stmt := inClass (top 8) 0
theorem scRInit : FnScope ["self", "source", "time", "thing", "field_values"] ["self", "source", "time", "thing", "field_values"] (defScope sRInit) := ⟨rfl, rfl, rfl, by decide +kernel, rfl, by decide +kernel, by decide +kernel⟩
/-- a new record: nothing of it is wrong -/
def spRInit (K : PySem.W.Frag) (CR : Addr) : Sp := fun vs H Q _ => ∃ (p dx b : Addr) (so ti th : Nat) (l : List Nat), vs = [.ref p, iv so, iv ti, iv th, .ref b] ∧ H p = some (.ins CR dx []) ∧ SqL K H b (ivs l) ∧ l.length ≤ 1000 ∧
  ∀ (H' : Hp) (v u : Addr), RecAt CR H' l.length ⟨0, so, ti, th, l, []⟩ (p, v, u) → H v = none → H u = none → v ≠ u → (∀ b o, H b = some o → b ≠ p → H' b = some o) → Q .non H'
theorem ok_rinit {f : Addr} {fd : FuncData} (F : Fun K "__init__" "Record.__init__" sRInit f fd) (T : Txt K mg CD CR) : FnOk P w K mg base CX0 1 f fd ["self", "source", "time", "thing", "field_values"] (spRInit K CR) := by
  refine F.ok scRInit (fun vs H Q E h => ?_) (fun cdv A outer s H vs Q E hr h => ?_)
  · obtain ⟨p, dx, b, so, ti, th, l, rfl, _⟩ := h
    rfl
  · obtain ⟨p, dx, b, so, ti, th, l, rfl, hp, hb, hl, k⟩ := h
    refine ⟨_, pss_cons (ps_fld (pv 0) (pv 1) rfl) (pss_cons (ps_fld (pv 0) (pv 2) rfl) (pss_cons (ps_fld (pv 0) (pv 3) rfl)
      (pss_cons (ps_fld (pv 0) (pe_callTy call_list_of (by rfl) T.list (by decide +kernel) (pa_cons (pv 4) pa_nil)) rfl)
      (pss_one (ps_fld (pv 0) (pe_op op_rep (pe_lst (pa_cons pe_bl pa_nil)) (pe_callB call_len_seq (by rfl) T.len PySem.boot_len (pa_cons (pv 4) pa_nil))) rfl))))), ?_⟩
    refine ⟨_, rfl, _, rfl, p, CR, dx, _, rfl, hp, T.clR, T.nSource, (by show 0 < 1000; decide), ?_⟩
    have b1 := SqL.atIns (o := .ins CR dx (putF "source" (iv so) [])) hb hp
    refine ⟨_, rfl, _, rfl, p, CR, dx, _, rfl, upd_same, T.clR, T.nTime, (by show 1 < 1000; decide), ?_⟩
    have b2 := SqL.atIns (o := .ins CR dx (putF "time" (iv ti) (putF "source" (iv so) []))) b1 upd_same
    refine ⟨_, rfl, _, rfl, p, CR, dx, _, rfl, upd_same, T.clR, T.nThing, (Nat.lt_of_le_of_lt (few (few few0)) (by decide)), ?_⟩
    have b3 := SqL.atIns (o := .ins CR dx (putF "thing" (iv th) (putF "time" (iv ti) (putF "source" (iv so) [])))) b2 upd_same
    rw [upd_upd, upd_upd] at b3 ⊢
    -- self.field_values = list(field_values)
    refine ⟨_, rfl, b, _, rfl, .inl b3, fun v hv => ?_⟩
    have npv : p ≠ v := ne_of_none upd_same hv
    have hv0 : H v = none := by rw [upd_ne npv.symm] at hv; exact hv
    refine ⟨_, rfl, p, CR, dx, _, rfl, (upd_ne npv).trans upd_same, T.clR, T.nVals, (Nat.lt_of_le_of_lt (few (few (few few0))) (by decide)), ?_⟩
    -- self.field_wrong = [False] * len(field_values)
    refine ⟨(by show 1 ≤ sizeLine; decide), fun z hz => ?_⟩
    have b4 := SqL.new (o := .lst (ivs l)) b3 hv
    have b5 := SqL.atIns (o := .ins CR dx (putF "field_values" (.ref v) (putF "thing" (iv th) (putF "time" (iv ti) (putF "source" (iv so) []))))) b4 ((upd_ne npv).trans upd_same)
    have b6 := SqL.new (o := .lst [.bl false]) b5 hz
    have npz : p ≠ z := ne_of_none upd_same hz
    have nvz : v ≠ z := ne_of_none ((upd_ne npv.symm).trans upd_same) hz
    refine ⟨_, rfl, b, _, rfl, .inl b6, z, (l.length : Int), _, rfl, (by rw [ivs_len]), upd_same, (by omega), (by omega), ?_, fun u hu => ?_⟩
    · show 1 * (l.length : Int).toNat ≤ sizeLine
      rw [Int.toNat_natCast, Nat.one_mul]
      exact Nat.le_of_lt (small1000 hl)
    have npu : p ≠ u := ne_of_none ((upd_ne npz).trans upd_same) hu
    have nvu : v ≠ u := ne_of_none ((upd_ne nvz).trans ((upd_ne npv.symm).trans upd_same)) hu
    have nzu : z ≠ u := ne_of_none upd_same hu
    have hu0 : H u = none := by
      rw [upd_ne nzu.symm, upd_ne npu.symm, upd_ne nvu.symm, upd_ne npu.symm] at hu; exact hu
    have hz0 : H z = none := by
      rw [upd_ne npz.symm, upd_ne nvz.symm, upd_ne npz.symm] at hz; exact hz
    refine ⟨_, rfl, p, CR, dx, _, rfl, (upd_ne npu).trans ((upd_ne npz).trans upd_same), T.clR, T.nWrong, (Nat.lt_of_le_of_lt (few (few (few (few few0)))) (by decide)), ?_⟩
    refine k _ v u ⟨⟨dx, ?_⟩, ?_, ?_⟩ hv0 hu0 nvu fun c o e hc => ?_
    · exact upd_same.trans (congrArg (fun q => some (HO.ins CR dx q)) (recF_new ⟨0, so, ti, th, l, []⟩ (p, v, u)))
    · show upd _ p _ v = _
      rw [upd_ne npv.symm, upd_ne nvu, upd_ne nvz, upd_ne npv.symm, upd_same]
    · show upd _ p _ u = _
      rw [upd_ne npu.symm, upd_same, wbits_nil, Int.toNat_natCast, List.map_replicate]
      congr 2
      exact List.flatten_replicate_singleton
    · rw [upd_ne hc, upd_ne (ne_of_none e hu0), upd_ne (ne_of_none e hz0), upd_ne hc, upd_ne (ne_of_none e hv0), upd_ne hc]
      exact e

/-! ### Desk.begin -/
abbrev sBegin : Stmt := inClass (top 9) 1
theorem scBegin : FnScope ["self", "field_count"] ["self", "field_count"] (defScope sBegin) := ⟨rfl, rfl, rfl, by decide +kernel, rfl, by decide +kernel, by decide +kernel⟩
/-- the attributes of a desk, or none yet -/
def DeskFs (fs : List (Str × V)) : Prop := fs = [] ∨ ∃ L n, fs = deskF L n
theorem deskF_new {fs : List (Str × V)} (h : DeskFs fs) (R T D P : Addr) : putF "pins" (.ref P) (putF "last_number" (.int 0) (putF "records" (.ref D) (putF "trusted" (.ref T) (putF "rules" (.ref R) fs)))) = deskF ⟨R, T, D, P, [], []⟩ 1 := by
  rcases h with rfl | ⟨L, n, rfl⟩
  · rw [show putF "rules" (.ref R) [] = [(("rules" : Str), V.ref R)] from rfl]
    repeat rw [put_past (by decide +kernel)]
    rfl
  · unfold deskF
    repeat first | rw [put_here] | rw [put_past (by decide +kernel)]
    rfl
theorem deskFs_len {fs : List (Str × V)} (h : DeskFs fs) : fs.length ≤ 5 := by
  rcases h with rfl | ⟨L, n, rfl⟩
  · exact Nat.zero_le _
  · exact Nat.le_refl _
def spBegin (CD CR : Addr) : Sp := fun vs H Q _ => ∃ (d dx : Addr) (fs : List (Str × V)) (n : Nat), vs = [.ref d, iv n] ∧ H d = some (.ins CD dx fs) ∧ DeskFs fs ∧ n ≤ 1000 ∧
  ∀ (H' : Hp) (L : Lay), DeskAt CD CR H' d (Rl06.fresh n) L → (∀ b ∈ L.own d, b = d ∨ H b = none) → (∀ b o, H b = some o → b ≠ d → H' b = some o) → Q .non H'
theorem ok_begin {f : Addr} {fd : FuncData} (F : Fun K "begin" "Desk.begin" sBegin f fd) (T : Txt K mg CD CR) : FnOk P w K mg base CX0 1 f fd ["self", "field_count"] (spBegin CD CR) := by
  refine F.ok scBegin (fun vs H Q E h => ?_) (fun cdv A outer s H vs Q E hr h => ?_)
  · obtain ⟨d, dx, fs, n, rfl, _⟩ := h
    rfl
  · obtain ⟨d, dx, fs, n, rfl, hd, hf, hn, k⟩ := h
    obtain ⟨aS, gS, hS⟩ := T.src
    have l5 := deskFs_len hf
    refine ⟨_, pss_cons (ps_fld (pv 0) (pe_op op_rep (pe_lst (pa_cons pe_int pa_nil)) (pv 1)) rfl)
      (pss_cons (ps_fld (pv 0) (pe_callTy call_list_of (by rfl) T.list (by decide +kernel) (pa_cons (pe_glob (v := .ref aS) rfl gS rfl) pa_nil)) rfl)
      (pss_cons (ps_fld (pv 0) pe_dnewK rfl)
      (pss_cons (ps_fld (pv 0) pe_int rfl)
      (pss_one (ps_fld (pv 0) pe_dnewT rfl))))), ?_⟩
    -- self.rules = [0] * field_count
    refine ⟨(by show 1 ≤ sizeLine; decide), fun z hz => ?_⟩
    have ndz : d ≠ z := ne_of_none hd hz
    refine ⟨_, rfl, z, (n : Int), _, rfl, rfl, upd_same, (by omega), (by omega), ?_, fun R hR => ?_⟩
    · show 1 * (n : Int).toNat ≤ sizeLine
      rw [Int.toNat_natCast, Nat.one_mul]
      exact Nat.le_of_lt (small1000 hn)
    have ndR : d ≠ R := ne_of_none ((upd_ne ndz).trans hd) hR
    have nzR : z ≠ R := ne_of_none upd_same hR
    have hR0 : H R = none := by rw [upd_ne nzR.symm] at hR; exact hR
    refine ⟨_, rfl, d, CD, dx, _, rfl, (upd_ne ndR).trans ((upd_ne ndz).trans hd), T.clD, T.nRules, (by omega), ?_⟩
    -- self.trusted = list(SOURCES)
    refine ⟨aS, _, rfl, .inr (hS _), fun Tr hT => ?_⟩
    have ndT : d ≠ Tr := ne_of_none upd_same hT
    have nRT : R ≠ Tr := ne_of_none ((upd_ne ndR.symm).trans upd_same) hT
    have nzT : z ≠ Tr := ne_of_none ((upd_ne ndz.symm).trans ((upd_ne nzR).trans upd_same)) hT
    have hT0 : H Tr = none := by rw [upd_ne ndT.symm, upd_ne nRT.symm, upd_ne nzT.symm] at hT; exact hT
    refine ⟨_, rfl, d, CD, dx, _, rfl, (upd_ne ndT).trans upd_same, T.clD, T.nTrusted, (Nat.lt_of_le_of_lt (few l5) (by decide)), ?_⟩
    -- self.records = {}
    intro D hD
    have ndD : d ≠ D := ne_of_none upd_same hD
    have nTD : Tr ≠ D := ne_of_none ((upd_ne ndT.symm).trans upd_same) hD
    have nRD : R ≠ D := ne_of_none ((upd_ne ndR.symm).trans ((upd_ne nRT).trans ((upd_ne ndR.symm).trans upd_same))) hD
    have nzD : z ≠ D := ne_of_none ((upd_ne ndz.symm).trans ((upd_ne nzT).trans ((upd_ne ndz.symm).trans ((upd_ne nzR).trans upd_same)))) hD
    have hD0 : H D = none := by rw [upd_ne ndD.symm, upd_ne nTD.symm, upd_ne ndD.symm, upd_ne nRD.symm, upd_ne nzD.symm] at hD; exact hD
    refine ⟨_, rfl, d, CD, dx, _, rfl, (upd_ne ndD).trans upd_same, T.clD, T.nRecords, (Nat.lt_of_le_of_lt (few (few l5)) (by decide)), ?_⟩
    -- self.last_number = 0
    refine ⟨_, rfl, d, CD, dx, _, rfl, upd_same, T.clD, T.nLast, (Nat.lt_of_le_of_lt (few (few (few l5))) (by decide)), ?_⟩
    -- self.pins = {}
    intro Pn hP
    have ndP : d ≠ Pn := ne_of_none upd_same hP
    have nDP : D ≠ Pn := ne_of_none ((upd_ne ndD.symm).trans ((upd_ne ndD.symm).trans upd_same)) hP
    have nTP : Tr ≠ Pn := ne_of_none ((upd_ne ndT.symm).trans ((upd_ne ndT.symm).trans ((upd_ne nTD).trans ((upd_ne ndT.symm).trans upd_same)))) hP
    have nRP : R ≠ Pn := ne_of_none ((upd_ne ndR.symm).trans ((upd_ne ndR.symm).trans ((upd_ne nRD).trans ((upd_ne ndR.symm).trans ((upd_ne nRT).trans ((upd_ne ndR.symm).trans upd_same)))))) hP
    have nzP : z ≠ Pn := ne_of_none ((upd_ne ndz.symm).trans ((upd_ne ndz.symm).trans ((upd_ne nzD).trans ((upd_ne ndz.symm).trans ((upd_ne nzT).trans ((upd_ne ndz.symm).trans ((upd_ne nzR).trans upd_same))))))) hP
    have hP0 : H Pn = none := by rw [upd_ne ndP.symm, upd_ne ndP.symm, upd_ne nDP.symm, upd_ne ndP.symm, upd_ne nTP.symm, upd_ne ndP.symm, upd_ne nRP.symm, upd_ne nzP.symm] at hP; exact hP
    refine ⟨_, rfl, d, CD, dx, _, rfl, (upd_ne ndP).trans upd_same, T.clD, T.nPins, (Nat.lt_of_le_of_lt (few (few (few (few l5)))) (by decide)), ?_⟩
    refine k _ ⟨R, Tr, D, Pn, [], []⟩ ⟨⟨dx, ?_⟩, ?_, ?_, ?_, ?_, rfl, ?_, ?_, List.Perm.refl _⟩ ?_ fun c o e hc => ?_
    · exact upd_same.trans (congrArg (fun q => some (HO.ins CD dx q)) (deskF_new hf R Tr D Pn))
    · show upd _ d _ R = some (.lst (ivs (List.replicate n 0)))
      rw [upd_ne ndR.symm, upd_ne nRP, upd_ne ndR.symm, upd_ne ndR.symm, upd_ne nRD, upd_ne ndR.symm, upd_ne nRT, upd_ne ndR.symm, upd_same, Int.toNat_natCast]
      unfold ivs
      rw [List.map_replicate]
      congr 2
      exact List.flatten_replicate_singleton
    · show upd _ d _ Tr = some (.lst (ivs [1, 2, 3, 4]))
      rw [upd_ne ndT.symm, upd_ne nTP, upd_ne ndT.symm, upd_ne ndT.symm, upd_ne nTD, upd_ne ndT.symm, upd_same]
    · show upd _ d _ D = some (.dK [])
      rw [upd_ne ndD.symm, upd_ne nDP, upd_ne ndD.symm, upd_ne ndD.symm, upd_same]
    · show upd _ d _ Pn = some (.dT [])
      rw [upd_ne ndP.symm, upd_same]
    · intro i r q hr _
      have hr : ([] : List Rl06.Rec)[i]? = some r := hr
      simp at hr
    · show [d, R, Tr, D, Pn].Nodup
      simp only [List.nodup_cons, List.mem_cons, List.not_mem_nil, or_false, not_or, not_false_eq_true, List.nodup_nil, and_true]
      exact ⟨⟨ndR, ndT, ndD, ndP⟩, ⟨nRT, nRD, nRP⟩, ⟨nTD, nTP⟩, nDP⟩
    · intro b hb
      have hb : b ∈ [d, R, Tr, D, Pn] := hb
      simp only [List.mem_cons, List.not_mem_nil, or_false] at hb
      rcases hb with rfl | rfl | rfl | rfl | rfl
      · exact .inl rfl
      · exact .inr hR0
      · exact .inr hT0
      · exact .inr hD0
      · exact .inr hP0
    · have hz0 : H z = none := hz
      rw [upd_ne hc, upd_ne (ne_of_none e hP0), upd_ne hc, upd_ne hc, upd_ne (ne_of_none e hD0), upd_ne hc, upd_ne (ne_of_none e hT0), upd_ne hc, upd_ne (ne_of_none e hR0), upd_ne (ne_of_none e hz0)]
      exact e

/-! ### Desk.__init__ -/
abbrev sDInit : Stmt := inClass (top 9) 0
theorem scDInit : FnScope ["self"] ["self"] (defScope sDInit) := ⟨rfl, rfl, rfl, by decide +kernel, rfl, by decide +kernel, by decide +kernel⟩
def spDInit (CD CR : Addr) : Sp := fun vs H Q _ => ∃ (d dx : Addr), vs = [.ref d] ∧ H d = some (.ins CD dx []) ∧
  ∀ (H' : Hp) (L : Lay), DeskAt CD CR H' d Rl06.init L → (∀ b ∈ L.own d, b = d ∨ H b = none) → (∀ b o, H b = some o → b ≠ d → H' b = some o) → Q .non H'
theorem ok_dinit {f fB : Addr} {fd fdB : FuncData} (F : Fun K "__init__" "Desk.__init__" sDInit f fd) (T : Txt K mg CD CR) (GB : FnOk P w K mg base CX0 1 fB fdB ["self", "field_count"] (spBegin CD CR)) (bB : Binds K fdB ["self", "field_count"] []) (mB : Meth K CD "begin" fB) :
    FnOk P w K mg base CX0 2 f fd ["self"] (spDInit CD CR) := by
  refine F.ok scDInit (fun vs H Q E h => ?_) (fun cdv A outer s H vs Q E hr h => ?_)
  · obtain ⟨d, dx, rfl, _⟩ := h
    rfl
  · obtain ⟨d, dx, rfl, hd, k⟩ := h
    refine ⟨_, pss_one (ps_expr (pe_meth (pv 0) T.clD mB GB hr bB .nil pass0 (pa_cons (pe_gint rfl T.first) pa_nil))), ?_⟩
    exact ⟨_, rfl, d, dx, [], rfl, hd, rfl, d, dx, [], 2, rfl, hd, .inl rfl, (by decide), fun H' L D hn kp => k H' L D hn kp⟩

/-! ### Desk.has_field -/
abbrev sHasField : Stmt := inClass (top 9) 2
theorem scHasField : FnScope ["self", "field"] ["self", "field"] (defScope sHasField) := ⟨rfl, rfl, rfl, by decide +kernel, rfl, by decide +kernel, by decide +kernel⟩
def spHasField (CD CR : Addr) : Sp := fun vs H Q _ => ∃ (d : Addr) (s : Rl06.St) (L : Lay) (n : Nat), vs = [.ref d, iv n] ∧ DeskAt CD CR H d s L ∧ Q (.bl (Rl06.isField s n)) H
theorem ok_hasField {f : Addr} {fd : FuncData} (F : Fun K "has_field" "Desk.has_field" sHasField f fd) (T : Txt K mg CD CR) : FnOk P w K mg base CX0 1 f fd ["self", "field"] (spHasField CD CR) := by
  refine F.ok scHasField (fun vs H Q E h => ?_) (fun cdv A outer s H vs Q E hr h => ?_)
  · obtain ⟨d, s, L, n, rfl, _⟩ := h
    rfl
  · obtain ⟨d, s, L, n, rfl, D, k⟩ := h
    obtain ⟨dx, hd⟩ := D.ob
    refine ⟨_, pss_one (ps_ret (pe_chain op_le op_le pe_int (pv 1) (pe_callB call_len_seq (by rfl) T.len PySem.boot_len (pa_cons (pe_fld (pv 0) rfl) pa_nil)))), ?_⟩
    refine ⟨_, rfl, _, _, rfl, rfl, _, rfl, ?_⟩
    by_cases h1 : 1 ≤ n
    · rw [if_pos (decide_eq_true (by omega))]
      refine ⟨_, rfl, d, CD, dx, _, _, rfl, hd, T.clD, T.nRules, deskF_rules _ _, L.R, _, rfl, .inl (SqL.of D.rl), _, _, rfl, rfl, ?_⟩
      have e : decide ((n : Int) ≤ ((ivs s.rules).length : Int)) = Rl06.isField s n := by
        unfold Rl06.isField
        rw [ivs_len, decide_eq_true h1, Bool.true_and]
        exact decide_eq_decide.mpr (by omega)
      show Q (.bl (decide ((n : Int) ≤ ((ivs s.rules).length : Int)))) H
      rw [e]
      exact k
    · rw [if_neg (by rw [decide_eq_true_iff]; omega)]
      have e : Rl06.isField s n = false := by
        unfold Rl06.isField
        rw [decide_eq_false h1, Bool.false_and]
      rw [e] at k
      exact k

/-! ### Desk.has_record -/
abbrev sHasRecord : Stmt := inClass (top 9) 4
theorem scHasRecord : FnScope ["self", "number"] ["self", "number"] (defScope sHasRecord) := ⟨rfl, rfl, rfl, by decide +kernel, rfl, by decide +kernel, by decide +kernel⟩
def spHasRecord (CD CR : Addr) : Sp := fun vs H Q _ => ∃ (d : Addr) (s : Rl06.St) (L : Lay) (n : Nat), vs = [.ref d, iv n] ∧ DeskAt CD CR H d s L ∧ Q (.bl (Rl06.recAt s n).isSome) H
theorem ok_hasRecord {f : Addr} {fd : FuncData} (F : Fun K "has_record" "Desk.has_record" sHasRecord f fd) (T : Txt K mg CD CR) : FnOk P w K mg base CX0 1 f fd ["self", "number"] (spHasRecord CD CR) := by
  refine F.ok scHasRecord (fun vs H Q E h => ?_) (fun cdv A outer s H vs Q E hr h => ?_)
  · obtain ⟨d, s, L, n, rfl, _⟩ := h
    rfl
  · obtain ⟨d, s, L, n, rfl, D, k⟩ := h
    obtain ⟨dx, hd⟩ := D.ob
    refine ⟨_, pss_one (ps_ret (pe_cmp (pc_din (hu_of hr) (pv 1) (pe_fld (pv 0) rfl)) rfl)), ?_⟩
    refine ⟨_, rfl, _, rfl, d, CD, dx, _, _, rfl, hd, T.clD, T.nRecords, deskF_records _ _, L.D, _, rfl, DGet.k (k := Sum.inl (n : Int)) D.dc, ?_⟩
    have e : (valV (recKvs s.recs L.qs) (Sum.inl (n : Int) : Key)).isSome = (Rl06.recAt s n).isSome := by
      cases h : Rl06.recAt s n with
      | none => rw [D.val_none h]; rfl
      | some r =>
        obtain ⟨i, q, _, _, e⟩ := D.val_some h
        rw [e]; rfl
    rw [e]
    exact k

/-! ### Desk.file_record -/
theorem deskF_put_last (L : Lay) (n : Nat) : putF "last_number" (.int ((n : Int) - 1 + 1)) (deskF L n) = deskF L (n + 1) := by
  unfold deskF
  repeat first | rw [put_here] | rw [put_past (by decide +kernel)]
  rw [show (n : Int) - 1 + 1 = ((n + 1 : Nat) : Int) - 1 by omega]
abbrev sFile : Stmt := inClass (top 9) 5
theorem scFile : FnScope ["self", "record"] ["self", "record"] (defScope sFile) := ⟨rfl, rfl, rfl, by decide +kernel, rfl, by decide +kernel, by decide +kernel⟩
def spFile (CD CR : Addr) : Sp := fun vs H Q _ => ∃ (d : Addr) (s : Rl06.St) (L : Lay) (q : Q3) (r : Rl06.Rec), vs = [.ref d, .ref q.1] ∧ DeskAt CD CR H d s L ∧ Wf s ∧ RecAt CR H s.rules.length r q ∧ (∀ b ∈ q3 q, b ∉ L.own d) ∧ (q3 q).Nodup ∧
  ∀ H', DeskAt CD CR H' d { s with recs := s.recs ++ [{ r with num := s.next }], next := s.next + 1 } { L with qs := L.qs ++ [q] } → (∀ b o, H b = some o → b ∉ L.own d → H' b = some o) → Q (iv s.next) H'
theorem Wf.no_next {s : Rl06.St} (W : Wf s) : Rl06.recAt s s.next = none := by
  unfold Rl06.recAt
  rw [List.find?_eq_none]
  intro r hr
  have := W.nlt r hr
  simp; omega
theorem ok_file {f : Addr} {fd : FuncData} (F : Fun K "file_record" "Desk.file_record" sFile f fd) (T : Txt K mg CD CR) : FnOk P w K mg base CX0 1 f fd ["self", "record"] (spFile CD CR) := by
  refine F.ok scFile (fun vs H Q E h => ?_) (fun cdv A outer s H vs Q E hr h => ?_)
  · obtain ⟨d, s, L, q, r, rfl, _⟩ := h
    rfl
  · obtain ⟨d, s, L, q, r, rfl, D, W, R, hq, hnd, k⟩ := h
    obtain ⟨dx, hd⟩ := D.ob
    have hu := hu_of hr
    have nb := own_b D.nd
    simp only [List.nodup_cons, List.mem_cons, List.not_mem_nil, or_false, not_or] at nb
    have ndD : d ≠ L.D := nb.1.2.2.1
    refine ⟨_, pss_cons (ps_fld (pv 0) (pe_op op_add (pe_fld (pv 0) rfl) pe_int) rfl)
      (pss_cons (ps_dput hu (pe_fld (pv 0) rfl) (pe_fld (pv 0) rfl) (pv 1) rfl)
      (pss_one (ps_ret (pe_fld (pv 0) rfl)))), ?_⟩
    refine ⟨_, rfl, d, CD, dx, _, _, rfl, hd, T.clD, T.nLast, deskF_last _ _, _, _, rfl, rfl, _, rfl, d, CD, dx, _, rfl, hd, T.clD, T.nLast, (by show 5 < 1000; decide), ?_⟩
    show tSeq _ _ _ _ (upd H d (.ins CD dx (putF "last_number" (.int ((s.next : Int) - 1 + 1)) (deskF L s.next))))
    rw [deskF_put_last]
    have hl : (deskF L (s.next + 1)).lookup ("last_number" : Str) = some (iv s.next) := (deskF_last L (s.next + 1)).trans (by
      show some (V.int (((s.next + 1 : Nat) : Int) - 1)) = some (V.int (s.next : Int))
      rw [show ((s.next + 1 : Nat) : Int) - 1 = (s.next : Int) by omega])
    have hD1 : upd H d (.ins CD dx (deskF L (s.next + 1))) L.D = some (.dK (recKvs s.recs L.qs)) := (upd_ne ndD.symm).trans D.dc
    have hsm : (recKvs s.recs L.qs).length < sizeLine := small1000 (by rw [recKvs_len D.len]; exact Nat.le_trans W.most (by decide))
    refine ⟨_, rfl, _, rfl, d, CD, dx, _, _, rfl, upd_same, T.clD, T.nRecords, deskF_records _ _, _, rfl, d, CD, dx, _, _, rfl, upd_same, T.clD, T.nLast, hl, L.D, _, rfl, DPut.k (k := Sum.inl (s.next : Int)) hD1 hsm, ?_⟩
    refine ⟨_, rfl, d, CD, dx, _, _, rfl, (upd_ne ndD).trans upd_same, T.clD, T.nLast, hl, ?_⟩
    have hno := D.val_none W.no_next
    refine k _ (D.addRec (r := { r with num := s.next }) (q := q) rfl ⟨dx, (upd_ne ndD).trans upd_same⟩ ?_ ?_ ?_ hq hnd) fun b o e hb => ?_
    · rw [upd_same, putK_new _ hno]
    · intro b _ h1 h2
      rw [upd_ne h2, upd_ne h1]
    · refine RecAt.cong (H := H) ⟨R.ob, R.vs, R.ws⟩ fun b hb => ?_
      have hn := hq b hb
      rw [upd_ne (own_ne hn).2.2.2.1, upd_ne (own_ne hn).1]
    · rw [upd_ne (own_ne hb).2.2.2.1, upd_ne (own_ne hb).1]
      exact e
end
end Md

set_option Elab.async false
set_option maxRecDepth 100000
set_option maxHeartbeats 4000000
/-! The functions of the module desk: one for each call. -/
namespace Md
open PySem PySem.Spec PyProof.Rows L2
structure Cst (K : PySem.W.Frag) (mg : Str → Option Value) : Prop where
  mostFields : GInt mg "MOST_FIELDS" 4
  mostRule : GInt mg "MOST_RULE" 4
  mostTime : GInt mg "MOST_TIME" 1000000
  mostThing : GInt mg "MOST_THING" 4
  mostValue : GInt mg "MOST_VALUE" 1000
  mostRecords : GInt mg "MOST_RECORDS" 12
  not : GInt mg "NOT_AS_TOLD" (-1)
  such : GInt mg "NONE_SUCH" (-3)
  full : GInt mg "FULL" (-6)
  sorted : mg "sorted" = none
  all : mg "all" = none
/-- what is wanted behind a call that answers one number -/
def After (CD CR : Addr) (H : Hp) (d : Addr) (s : Rl06.St) (L : Lay) (c : Rl06.Call) (Q : VK) : Prop := ∀ (H' : Hp) (L' : Lay), DeskAt CD CR H' d (Rl06.step s c).1 L' → Keep (L.own d) (L'.own d) H H' → Q (.int ((Rl06.step s c).2.headD 0)) H'
section
variable {CD CR d : Addr} {H H' : Hp} {s s' : Rl06.St} {L L' : Lay} {c : Rl06.Call} {Q : VK} {z : Int}
theorem After.to (k : After CD CR H d s L c Q) (e : Rl06.step s c = (s', [z])) (D : DeskAt CD CR H' d s' L') (kp : Keep (L.own d) (L'.own d) H H') : Q (.int z) H' := by
  have := k H' L' (by rw [e]; exact D) kp
  rw [e] at this
  exact this
theorem After.same (k : After CD CR H d s L c Q) (D : DeskAt CD CR H d s L) (e : Rl06.step s c = (s, [z])) : Q (.int z) H := k.to e D (Keep.refl _ _)
end
def spOp1 (CD CR : Addr) (mk : Nat → Rl06.Call) : Sp := fun vs H Q _ => ∃ (d : Addr) (s : Rl06.St) (L : Lay) (a : Nat), vs = [.ref d, iv a] ∧ DeskAt CD CR H d s L ∧ Wf s ∧ After CD CR H d s L (mk a) Q
def spOp2 (CD CR : Addr) (mk : Nat → Nat → Rl06.Call) : Sp := fun vs H Q _ => ∃ (d : Addr) (s : Rl06.St) (L : Lay) (a b : Nat), vs = [.ref d, iv a, iv b] ∧ DeskAt CD CR H d s L ∧ Wf s ∧ After CD CR H d s L (mk a b) Q
def spOp3 (CD CR : Addr) (mk : Nat → Nat → Nat → Rl06.Call) : Sp := fun vs H Q _ => ∃ (d : Addr) (s : Rl06.St) (L : Lay) (a b c : Nat), vs = [.ref d, iv a, iv b, iv c] ∧ DeskAt CD CR H d s L ∧ Wf s ∧ After CD CR H d s L (mk a b c) Q
theorem ifT {c : Bool} {A B : Prop} (hc : c = true) (h : A) : if c = true then A else B := by
  rw [if_pos hc]; exact h
theorem ifF {c : Bool} {A B : Prop} (hc : c = false) (h : B) : if c = true then A else B := by
  rw [hc]; exact iteF h
theorem ixN_nat {n j : Nat} {z : Int} (e : z = (j : Int)) (h : j < n) : ixN n z = some j := by
  subst e
  unfold ixN
  rw [if_pos (by omega), if_pos (by omega), Int.toNat_natCast]
theorem getD_get {l : List Nat} {i : Nat} (h : i < l.length) : l[i]? = some (l.getD i 0) := by
  rw [List.getD_eq_getElem?_getD, List.getElem?_eq_getElem h]; rfl
section
variable {CD CR d : Addr} {H : Hp} {s : Rl06.St} {L : Lay}
/-- another list of rules, of the same length, in its place -/
theorem DeskAt.upR (D : DeskAt CD CR H d s L) {l : List Nat} (hl : l.length = s.rules.length) : DeskAt CD CR (upd H L.R (.lst (ivs l))) d { s with rules := l } L := by
  have nb := own_b D.nd
  simp only [List.nodup_cons, List.mem_cons, List.not_mem_nil, or_false, not_or] at nb
  obtain ⟨⟨n1, n2, n3, n4⟩, ⟨n5, n6, n7⟩, ⟨n8, n9⟩, n10, _⟩ := nb
  obtain ⟨dx, h1⟩ := D.ob
  refine ⟨⟨dx, (upd_ne n1).trans h1⟩, upd_same, (upd_ne (fun e => n5 e.symm)).trans D.tr, (upd_ne (fun e => n6 e.symm)).trans D.dc, (upd_ne (fun e => n7 e.symm)).trans D.pn, D.len, fun i r q hr hq => ?_, D.nd, D.pp⟩
  show RecAt CR _ l.length r q
  rw [hl]
  exact (D.rc i r q hr hq).cong fun b hb => upd_ne fun e => own_bq D.nd (List.mem_of_getElem? hq) (b := b) (by simp [e]) hb
/-- another list of trust, at a new place -/
theorem DeskAt.newT (D : DeskAt CD CR H d s L) {dx t : Addr} {l : List Nat} (hd : H d = some (.ins CD dx (deskF L s.next))) (ht : t ∉ L.own d) : DeskAt CD CR (upd (upd H t (.lst (ivs l))) d (.ins CD dx (deskF { L with T := t } s.next))) d { s with trust := l } { L with T := t } := by
  have nb := own_b D.nd
  simp only [List.nodup_cons, List.mem_cons, List.not_mem_nil, or_false, not_or] at nb
  obtain ⟨⟨n1, n2, n3, n4⟩, ⟨n5, n6, n7⟩, ⟨n8, n9⟩, n10, _⟩ := nb
  obtain ⟨td, tR, tT, tD, tP⟩ := own_ne ht
  refine ⟨⟨dx, upd_same⟩, ?_, ?_, ?_, ?_, D.len, fun i r q hr hq => ?_, ?_, D.pp⟩
  · exact (upd_ne (fun e => n1 e.symm)).trans ((upd_ne (fun e => tR e.symm)).trans D.rl)
  · exact (upd_ne td).trans upd_same
  · exact (upd_ne (fun e => n3 e.symm)).trans ((upd_ne (fun e => tD e.symm)).trans D.dc)
  · exact (upd_ne (fun e => n4 e.symm)).trans ((upd_ne (fun e => tP e.symm)).trans D.pn)
  · have hm := List.mem_of_getElem? hq
    refine (D.rc i r q hr hq).cong fun b hb => ?_
    rw [upd_ne (fun e => own_bq D.nd hm (b := b) (by simp [e]) hb), upd_ne (fun e => ht (by rw [← e]; exact q_own hm hb))]
  · have nd := D.nd
    show (d :: L.R :: t :: L.D :: L.P :: L.qs.flatMap q3).Nodup
    have nd : (d :: L.R :: L.T :: L.D :: L.P :: L.qs.flatMap q3).Nodup := nd
    have tq : t ∉ L.qs.flatMap q3 := fun z => ht (by rw [own_eq]; exact List.mem_append_right _ z)
    simp only [List.nodup_cons, List.mem_cons, not_or] at nd ⊢
    obtain ⟨⟨a1, a2, a3, a4, a5⟩, ⟨b1, b2, b3, b4⟩, ⟨c1, c2, c3⟩, d1, d2⟩ := nd
    exact ⟨⟨a1, fun e => td e.symm, a3, a4, a5⟩, ⟨fun e => tR e.symm, b2, b3, b4⟩, ⟨tD, tP, tq⟩, d1, d2⟩
theorem own_newT {t b : Addr} (h : b ∈ ({ L with T := t } : Lay).own d) : b = t ∨ b ∈ L.own d := by
  rcases mem_own.mp h with h | h | h | h | h | h
  · exact .inr (mem_own.mpr (.inl h))
  · exact .inr (mem_own.mpr (.inr (.inl h)))
  · exact .inl h
  · exact .inr (mem_own.mpr (.inr (.inr (.inr (.inl h)))))
  · exact .inr (mem_own.mpr (.inr (.inr (.inr (.inr (.inl h))))))
  · exact .inr (mem_own.mpr (.inr (.inr (.inr (.inr (.inr h))))))
end
section
variable {P : Program} {w : World} {K : PySem.W.Frag} {mg : Str → Option Value} {base : Heap} {CD CR : Addr}

/-! ### set_fields -/
abbrev sSetFields : Stmt := top 37
theorem scSetFields : FnScope ["desk", "field_count"] ["desk", "field_count"] (defScope sSetFields) := ⟨rfl, rfl, rfl, by decide +kernel, rfl, by decide +kernel, by decide +kernel⟩
theorem ok_setFields {f fB : Addr} {fd fdB : FuncData} (F : Fun K "set_fields" "set_fields" sSetFields f fd) (T : Txt K mg CD CR) (T2 : Cst K mg) (GB : FnOk P w K mg base CX0 1 fB fdB ["self", "field_count"] (spBegin CD CR)) (bB : Binds K fdB ["self", "field_count"] []) (mB : Meth K CD "begin" fB) :
    FnOk P w K mg base CX0 2 f fd ["desk", "field_count"] (spOp1 CD CR .fields) := by
  refine F.ok scSetFields (fun vs H Q E h => ?_) (fun cdv A outer s H vs Q E hr h => ?_)
  · obtain ⟨d, s, L, a, rfl, _⟩ := h
    rfl
  · obtain ⟨d, s, L, n, rfl, D, W, k⟩ := h
    obtain ⟨dx, hd⟩ := D.ob
    refine ⟨_, pss_cons (ps_if (pt_not (pt_chain op_le op_le pe_int (pv 1) (pe_gint rfl T2.mostFields))) (pss_one (ps_ret (pe_gint rfl T2.not))) pss_nil)
      (pss_cons (ps_expr (pe_meth (pv 0) T.clD mB GB hr bB .nil pass0 (pa_cons (pv 1) pa_nil))) (pss_one (ps_ret pe_int))), ?_⟩
    refine ⟨_, rfl, _, _, rfl, rfl, _, rfl, ?_⟩
    by_cases h1 : 1 ≤ n
    · rw [if_pos (decide_eq_true (by omega))]
      refine ⟨_, _, rfl, rfl, _, rfl, ?_⟩
      by_cases h4 : n ≤ 4
      · rw [decide_eq_true (show (n : Int) ≤ 4 by omega)]
        refine iteF ?_
        refine ⟨_, rfl, d, dx, _, rfl, hd, deskF_no (by decide +kernel) (by decide +kernel) (by decide +kernel) (by decide +kernel) (by decide +kernel), _, rfl, d, dx, _, n, rfl, hd, .inr ⟨_, _, rfl⟩, (by omega), fun H' L' D' hn kp => ?_⟩
        refine k.to (z := 0) (s' := Rl06.fresh n) ?_ D' fun b o e hb => ⟨kp b o e (own_ne hb).1, fun hb' => ?_⟩
        · show (if n = 0 ∨ 4 < n then (s, [-1]) else (Rl06.fresh n, [0])) = _
          rw [if_neg (by omega)]
        · rcases hn b hb' with z | z
          · exact (own_ne hb).1 z
          · rw [e] at z; cases z
      · rw [decide_eq_false (show ¬ (n : Int) ≤ 4 by omega)]
        refine iteT ?_
        refine k.same D ?_
        show (if n = 0 ∨ 4 < n then (s, [-1]) else (Rl06.fresh n, [0])) = _
        rw [if_pos (by omega)]
    · rw [if_neg (by rw [decide_eq_true_iff]; omega)]
      refine ⟨_, rfl, ?_⟩
      refine iteT ?_
      refine k.same D ?_
      show (if n = 0 ∨ 4 < n then (s, [-1]) else (Rl06.fresh n, [0])) = _
      rw [if_pos (by omega)]

/-! ### set_rule -/
abbrev sSetRule : Stmt := top 38
theorem scSetRule : FnScope ["desk", "field", "rule", "earlier"] ["desk", "field", "rule"] (defScope sSetRule) := ⟨rfl, rfl, rfl, by decide +kernel, rfl, by decide +kernel, by decide +kernel⟩
theorem ok_setRule {f fF : Addr} {fd fdF : FuncData} (F : Fun K "set_rule" "set_rule" sSetRule f fd) (T : Txt K mg CD CR) (T2 : Cst K mg) (GF : FnOk P w K mg base CX0 1 fF fdF ["self", "field"] (spHasField CD CR)) (bF : Binds K fdF ["self", "field"] []) (mF : Meth K CD "has_field" fF) :
    FnOk P w K mg base CX0 2 f fd ["desk", "field", "rule"] (spOp2 CD CR .rule) := by
  refine F.ok scSetRule (fun vs H Q E h => ?_) (fun cdv A outer s H vs Q E hr h => ?_)
  · obtain ⟨d, s, L, a, b, rfl, _⟩ := h
    rfl
  · obtain ⟨d, s, L, f, r, rfl, D, W, k⟩ := h
    obtain ⟨dx, hd⟩ := D.ob
    refine ⟨_, pss_cons (ps_if (pt_not (pt_val (pe_meth (pv 0) T.clD mF GF hr bF .nil pass0 (pa_cons (pv 1) pa_nil)))) (pss_one (ps_ret (pe_gint rfl T2.such))) pss_nil)
      (pss_cons (ps_if (pt_cmpR op_gt (pv 2) (pe_gint rfl T2.mostRule) (nomark _)) (pss_one (ps_ret (pe_gint rfl T2.not))) pss_nil)
      (pss_cons (ps_set (i := 3) scSetRule.nd rfl (.inl rfl) (pe_ix ix_list (pe_fld (pv 0) rfl) (pe_op op_sub (pv 1) pe_int) (fun _ _ => rfl)))
      (pss_cons (ps_asg (pv 2) (pg_sub (pe_fld (pv 0) rfl) (pe_op op_sub (pv 1) pe_int) set_list))
      (pss_one (ps_ret (pv 3)))))), ?_⟩
    refine ⟨_, rfl, d, dx, _, rfl, hd, deskF_no (by decide +kernel) (by decide +kernel) (by decide +kernel) (by decide +kernel) (by decide +kernel), _, rfl, d, s, L, f, rfl, D, _, rfl, ?_⟩
    have es : Rl06.step s (.rule f r) = (if Rl06.isField s f = false then (s, [-3]) else if 4 < r then (s, [-1]) else ({ s with rules := s.rules.set (f - 1) r }, Rl06.ints [Rl06.rule s f])) := rfl
    cases hf : Rl06.isField s f with
    | false =>
      rw [if_pos hf] at es
      exact iteT (k.same D es)
    | true =>
      rw [if_neg (by rw [hf]; exact Bool.noConfusion)] at es
      refine iteF ?_
      obtain ⟨h1, h2⟩ := isField_iff.mp hf
      refine ⟨_, rfl, _, _, rfl, rfl, _, rfl, ?_⟩
      by_cases h4 : 4 < r
      · rw [if_pos h4] at es
        rw [if_pos (decide_eq_true (by omega))]
        exact k.same D es
      · rw [if_neg h4] at es
        rw [if_neg (by rw [decide_eq_true_iff]; omega)]
        have hx : (f : Int) - 1 = ((f - 1 : Nat) : Int) := by omega
        refine ⟨_, rfl, d, CD, dx, _, _, rfl, hd, T.clD, T.nRules, deskF_rules _ _, _, rfl, _, _, rfl, rfl, L.R, _, _, _, rfl, rfl, SqL.of D.rl, at_of hx (ivs_get (getD_get (by omega))), ?_⟩
        refine ⟨_, rfl, _, rfl, d, CD, dx, _, _, rfl, hd, T.clD, T.nRules, deskF_rules _ _, _, rfl, _, _, rfl, rfl, L.R, _, _, f - 1, rfl, rfl, D.rl, ixN_nat hx (by rw [ivs_len]; omega), ?_⟩
        refine ⟨_, rfl, ?_⟩
        rw [ivs_set]
        exact k.to es (D.upR (List.length_set ..)) (Keep.upd (Keep.refl _ _) (.inl (mem_own.mpr (.inr (.inl rfl)))))

/-! ### set_trust -/
theorem ints_dp {K : PySem.W.Frag} {H : Hp} : ∀ ns : List Int, DpAll K H (ns.map V.int) (ns.map PyData.int)
  | [] => .nil
  | n :: ns => .cons (.int n) (ints_dp ns)
theorem ints_eqv : ∀ ns ms : List Int, PyData.eqvAll (ns.map PyData.int) (ms.map PyData.int) = decide (ns = ms)
  | [], [] => rfl
  | [], _ :: _ => rfl
  | _ :: _, [] => rfl
  | n :: ns, m :: ms => by
    show (PyData.eqv (.int n) (.int m) && PyData.eqvAll (ns.map PyData.int) (ms.map PyData.int)) = _
    rw [ints_eqv ns ms]
    have e : PyData.eqv (.int n) (.int m) = decide (n = m) := by
      unfold PyData.eqv
      exact Bool.eq_iff_iff.mpr (by rw [beq_iff_eq, decide_eq_true_iff])
    rw [e]
    by_cases h1 : n = m
    · by_cases h2 : ns = ms
      · rw [decide_eq_true h1, decide_eq_true h2, decide_eq_true (by rw [h1, h2])]; rfl
      · rw [decide_eq_false h2, Bool.and_false, decide_eq_false (fun z => h2 (List.cons.inj z).2)]
    · rw [decide_eq_false h1, Bool.false_and, decide_eq_false (fun z => h1 (List.cons.inj z).1)]
theorem ints_shaped (ns : List Int) : SeqAt.shaped (.list (ns.map PyData.int)) = true := by
  have h1 : ∀ ns : List Int, PyData.canLayAll0 (ns.map PyData.int) = true := by
    intro ns
    induction ns with
    | nil => rfl
    | cons n ns ih =>
      show (PyData.canLay0 (.int n) && PyData.canLayAll0 (ns.map PyData.int)) = true
      rw [ih]; rfl
  have h2 : ∀ ns : List Int, PyData.depthAll (ns.map PyData.int) = 0 := by
    intro ns
    induction ns with
    | nil => rfl
    | cons n ns ih =>
      show max (PyData.depth (.int n)) (PyData.depthAll (ns.map PyData.int)) = 0
      rw [ih]; rfl
  unfold SeqAt.shaped
  rw [Bool.and_eq_true]
  refine ⟨h1 ns, decide_eq_true ?_⟩
  show PyData.depthAll (ns.map PyData.int) + 1 ≤ 64
  rw [h2]; decide
theorem sorted_iff {l : List Nat} {ns : List Int} (hp : ns.Perm (Rl06.ints l)) (hs : ns.Pairwise (· ≤ ·)) : ns = [1, 2, 3, 4] ↔ l.Perm [1, 2, 3, 4] := by
  constructor
  · intro e
    rw [e] at hp
    have := hp.symm.map Int.toNat
    unfold Rl06.ints at this
    rw [List.map_map, List.map_id''] at this
    · exact this
    · exact fun n => rfl
  · intro h
    have h2 : (Rl06.ints l).Perm (Rl06.ints [1, 2, 3, 4]) := h.map _
    exact List.Perm.eq_of_pairwise (le := (· ≤ ·)) (fun a b _ _ h1 h2 => Int.le_antisymm h1 h2) hs (by decide) (hp.trans h2)
abbrev sSetTrust : Stmt := top 39
theorem scSetTrust : FnScope ["desk", "sources"] ["desk", "sources"] (defScope sSetTrust) := ⟨rfl, rfl, rfl, by decide +kernel, rfl, by decide +kernel, by decide +kernel⟩
def spTrust (K : PySem.W.Frag) (CD CR : Addr) : Sp := fun vs H Q _ => ∃ (d b : Addr) (s : Rl06.St) (L : Lay) (l : List Nat), vs = [.ref d, .ref b] ∧ DeskAt CD CR H d s L ∧ Wf s ∧ SqL K H b (ivs l) ∧ l.length ≤ 8 ∧ After CD CR H d s L (.trust l) Q
theorem deskF_put_trusted (L : Lay) (n : Nat) (t : Addr) : putF "trusted" (.ref t) (deskF L n) = deskF { L with T := t } n := by
  unfold deskF
  repeat first | rw [put_here] | rw [put_past (by decide +kernel)]
theorem ok_setTrust {f : Addr} {fd : FuncData} (F : Fun K "set_trust" "set_trust" sSetTrust f fd) (T : Txt K mg CD CR) (T2 : Cst K mg) : FnOk P w K mg base CX0 1 f fd ["desk", "sources"] (spTrust K CD CR) := by
  refine F.ok scSetTrust (fun vs H Q E h => ?_) (fun cdv A outer s H vs Q E hr h => ?_)
  · obtain ⟨d, b, s, L, l, rfl, _⟩ := h
    rfl
  · obtain ⟨d, b, s, L, l, rfl, D, W, hb, hl, k⟩ := h
    obtain ⟨dx, hd⟩ := D.ob
    obtain ⟨aS, gS, hS⟩ := T.src
    refine ⟨_, pss_cons (ps_if (pt_cmpR (op_neD hr.units) (pe_callB cr_sorted (by rfl) T2.sorted (by decide +kernel) (pa_cons (pv 1) pa_nil)) (pe_callTy call_list_of (by rfl) T.list (by decide +kernel) (pa_cons (pe_glob (v := .ref aS) rfl gS rfl) pa_nil)) (nomark _)) (pss_one (ps_ret (pe_gint rfl T2.not))) pss_nil)
      (pss_cons (ps_fld (pv 0) (pe_callTy call_list_of (by rfl) T.list (by decide +kernel) (pa_cons (pv 1) pa_nil)) rfl)
      (pss_one (ps_ret pe_int))), ?_⟩
    refine ⟨_, rfl, b, Rl06.ints l, rfl, (by rw [← ivs_ints]; exact hb), (by unfold Rl06.ints; rw [List.length_map]; omega), fun ns p hp hs hn => ?_⟩
    refine ⟨aS, _, rfl, .inr (hS _), fun q hq => ?_⟩
    have npq : p ≠ q := ne_of_none upd_same hq
    have hq0 : H q = none := by rw [upd_ne npq.symm] at hq; exact hq
    refine ⟨.list (ns.map PyData.int), .list (([1, 2, 3, 4] : List Int).map PyData.int), .lst (SqL.of ((upd_ne npq).trans upd_same)) (ints_dp ns), .lst (SqL.of upd_same) (ints_dp [1, 2, 3, 4]), ints_shaped _, ints_shaped _, _, rfl, ?_⟩
    have e0 : PyData.eqv (.list (ns.map PyData.int)) (.list (([1, 2, 3, 4] : List Int).map PyData.int)) = decide (ns = [1, 2, 3, 4]) := ints_eqv ns [1, 2, 3, 4]
    rw [e0]
    have D2 := (D.new (p := p) (o := .lst (ns.map V.int)) hn).new (p := q) (o := .lst (ivs [1, 2, 3, 4])) hq
    have kp : Keep (L.own d) (L.own d) H (upd (upd H p (.lst (ns.map V.int))) q (.lst (ivs [1, 2, 3, 4]))) := Keep.upd (Keep.upd (Keep.refl _ _) (.inr hn)) (.inr hq0)
    have es : Rl06.step s (.trust l) = if l.length ≠ 4 ∨ [1, 2, 3, 4].all l.contains = false then (s, [-1]) else ({ s with trust := l }, [0]) := rfl
    by_cases c : l.Perm [1, 2, 3, 4]
    · rw [decide_eq_true ((sorted_iff hp hs).mpr c)]
      rw [if_neg (fun z => trust_iff.mp z c)] at es
      refine iteF ?_
      have hd2 : upd (upd H p (.lst (ns.map V.int))) q (.lst (ivs [1, 2, 3, 4])) d = some (.ins CD dx (deskF L s.next)) := (upd_ne (ne_of_none ((upd_ne (ne_of_none hd hn)).trans hd) hq)).trans ((upd_ne (ne_of_none hd hn)).trans hd)
      refine ⟨_, rfl, b, _, rfl, .inl (SqL.new (SqL.new hb hn) hq), fun t ht => ?_⟩
      refine ⟨_, rfl, d, CD, dx, _, rfl, (upd_ne (ne_of_none hd2 ht)).trans hd2, T.clD, T.nTrusted, (by show 5 < 1000; decide), ?_⟩
      have D3 := D2.newT (l := l) hd2 (D2.not_own ht)
      rw [deskF_put_trusted]
      refine k.to es D3 fun c o e hc => ?_
      obtain ⟨e2, _⟩ := kp c o e hc
      refine ⟨?_, fun z => ?_⟩
      · rw [upd_ne (own_ne hc).1, upd_ne (ne_of_none e2 ht)]
        exact e2
      · rcases own_newT z with z | z
        · exact ne_of_none e2 ht z
        · exact hc z
    · rw [decide_eq_false (fun z => c ((sorted_iff hp hs).mp z))]
      rw [if_pos (trust_iff.mpr c)] at es
      exact iteT (k.to es D2 kp)

/-! ### fits_desk -/
theorem DeskAt.same' {CD CR d : Addr} {H H' : Hp} {s : Rl06.St} {L : Lay} (D : DeskAt CD CR H d s L) (h : Same H H') : DeskAt CD CR H' d s L := D.cong fun b hb => by
  obtain ⟨o, e⟩ := D.there hb
  rw [e]; exact h b o e
theorem RecAt.same' {C : Addr} {H H' : Hp} {n : Nat} {r : Rl06.Rec} {q : Q3} (R : RecAt C H n r q) (h : Same H H') : RecAt C H' n r q := by
  obtain ⟨⟨dx, h1⟩, h2, h3⟩ := R
  exact ⟨⟨dx, h _ _ h1⟩, h _ _ h2, h _ _ h3⟩
theorem Same.new {H : Hp} {p : Addr} {o : HO} (h : H p = none) : Same H (upd H p o) := fun b u e => by
  rw [upd_ne (ne_of_none e h)]; exact e
theorem inV_src (a : Nat) : inV (iv a) (ivs [1, 2, 3, 4]) = decide (1 ≤ a ∧ a ≤ 4) := by
  show (((1 : Int) == (a : Int)) || (((2 : Int) == (a : Int)) || (((3 : Int) == (a : Int)) || (((4 : Int) == (a : Int)) || false)))) = decide (1 ≤ a ∧ a ≤ 4)
  rw [Bool.eq_iff_iff]
  simp only [Bool.or_eq_true, beq_iff_eq, decide_eq_true_iff, Bool.false_eq_true, or_false]
  omega
def Bad (s : Rl06.St) (r : Rl06.Rec) : Prop := r.source = 0 ∨ 4 < r.source ∨ 1000000 < r.time ∨ 4 < r.thing ∨ r.vals.length ≠ s.rules.length ∨ r.vals.all (fun v => decide (v ≤ 1000)) = false
instance (s : Rl06.St) (r : Rl06.Rec) : Decidable (Bad s r) := by unfold Bad; infer_instance
abbrev sFits : Stmt := top 40
theorem scFits : FnScope ["desk", "record", "value"] ["desk", "record"] (defScope sFits) := ⟨rfl, rfl, rfl, by decide +kernel, rfl, by decide +kernel, by decide +kernel⟩
def spFits (CD CR : Addr) : Sp := fun vs H Q _ => ∃ (d : Addr) (s : Rl06.St) (L : Lay) (n : Nat) (r : Rl06.Rec) (q : Q3), vs = [.ref d, .ref q.1] ∧ DeskAt CD CR H d s L ∧ RecAt CR H n r q ∧ r.vals.length ≤ 1000 ∧ ∀ H', Same H H' → Q (.bl (!decide (Bad s r))) H'
theorem ok_fits {f : Addr} {fd : FuncData} (F : Fun K "fits_desk" "fits_desk" sFits f fd) (T : Txt K mg CD CR) (T2 : Cst K mg) : FnOk P w K mg base CX0 1 f fd ["desk", "record"] (spFits CD CR) := by
  refine F.ok scFits (fun vs H Q E h => ?_) (fun cdv A outer s H vs Q E hr h => ?_)
  · obtain ⟨d, s, L, n, r, q, rfl, _⟩ := h
    rfl
  · obtain ⟨d, s, L, n, r, q, rfl, D, R, hvl, k⟩ := h
    obtain ⟨dx, hd⟩ := D.ob
    obtain ⟨⟨dr, hq⟩, hv, hw⟩ := id R
    obtain ⟨aS, gS, hS⟩ := T.src
    refine ⟨_, pss_cons (ps_if (PW.pt (pw_or (pt_cmpR op_notIn_seq (pe_fld (pv 1) rfl) (pe_glob (v := .ref aS) rfl gS rfl) (by rfl)) (pw_or (pt_cmpR op_gt (pe_fld (pv 1) rfl) (pe_gint rfl T2.mostThing) (nomark _)) (pw_or1 (pt_cmpR op_gt (pe_fld (pv 1) rfl) (pe_gint rfl T2.mostTime) (nomark _)))))) (pss_one (ps_ret pe_bl)) pss_nil)
      (pss_cons (ps_if (pt_cmpR op_ne (pe_callB call_len_seq (by rfl) T.len PySem.boot_len (pa_cons (pe_fld (pv 1) rfl) pa_nil)) (pe_callB call_len_seq (by rfl) T.len PySem.boot_len (pa_cons (pe_fld (pv 0) rfl) pa_nil)) (nomark _)) (pss_one (ps_ret pe_bl)) pss_nil)
      (pss_one (ps_ret (pe_callB (cr_all rfl) (by rfl) T2.all (by decide +kernel) (pa_cons (pe_lc (own := [("value", 2)]) (g := gName 2) (tt := tYes) (by rfl) scFits.nd (pi_list (pe_fld (pv 1) rfl)) (blkOk_by (own := [("value", 2)]) (N := ["desk", "record", "value"]) (sc := defScope sFits) (by decide +kernel)) (fun _ _ _ _ _ => pg_name (i := 2) scFits.nd rfl (Or.inl rfl)) (fun _ _ _ _ _ => pts_nil)
        (fun _ _ _ _ _ => pe_cmpR op_le (pv 2) (pe_gint rfl T2.mostValue) (nomark _))) pa_nil))))), ?_⟩
    have kb : ∀ H', Same H H' → Bad s r → Q (.bl false) H' := fun H' h b => by
      have := k H' h
      rw [decide_eq_true b] at this
      exact this
    have kg : ∀ H', Same H H' → ¬ Bad s r → Q (.bl true) H' := fun H' h b => by
      have := k H' h
      rw [decide_eq_false b] at this
      exact this
    have s0 := Same.refl H
    refine ⟨_, rfl, q.1, CR, dr, _, _, rfl, hq, T.clR, T.nSource, recF_source _ _, aS, _, rfl, .inr (hS _), rfl, rfl, _, rfl, ?_⟩
    show if (!inV (iv r.source) (ivs [1, 2, 3, 4])) = true then _ else _
    rw [inV_src]
    by_cases h1 : 1 ≤ r.source ∧ r.source ≤ 4
    · refine ifF (by rw [decide_eq_true h1]; rfl) ?_
      refine ⟨_, rfl, q.1, CR, dr, _, _, rfl, hq, T.clR, T.nThing, recF_thing _ _, _, _, rfl, rfl, _, rfl, ?_⟩
      by_cases h2 : 4 < r.thing
      · refine ifT (decide_eq_true (by omega)) ?_
        exact iteT (kb H s0 (by unfold Bad; omega))
      · refine ifF (decide_eq_false (by omega)) ?_
        refine ⟨_, rfl, q.1, CR, dr, _, _, rfl, hq, T.clR, T.nTime, recF_time _ _, _, _, rfl, rfl, _, rfl, ?_⟩
        by_cases h3 : 1000000 < r.time
        · refine ifT (decide_eq_true (by omega)) ?_
          exact kb H s0 (by unfold Bad; omega)
        · refine ifF (decide_eq_false (by omega)) ?_
          refine ⟨_, rfl, q.1, CR, dr, _, _, rfl, hq, T.clR, T.nVals, recF_vals _ _, q.2.1, _, rfl, .inl (SqL.of hv), _, rfl, d, CD, dx, _, _, rfl, hd, T.clD, T.nRules, deskF_rules _ _, L.R, _, rfl, .inl (SqL.of D.rl), rfl, _, rfl, ?_⟩
          by_cases h4 : r.vals.length = s.rules.length
          · refine iteNS (by rw [ivs_len, ivs_len, h4]) ?_
            refine ⟨_, rfl, q.1, CR, dr, _, _, rfl, hq, T.clR, T.nVals, recF_vals _ _, q.2.1, rfl, ⟨_, SqL.of hv⟩, fun Dn hn => ?_⟩
            have nvD : q.2.1 ≠ Dn := ne_of_none hv hn
            refine lc_list (K := K) (a := q.2.1) (xs := ivs r.vals) (fun i H' => (∀ b, b ≠ Dn → H' b = H b) ∧ H' Dn = some (.lst ((r.vals.take i).map fun v => V.bl (decide (v ≤ 1000))))) ⟨fun b hb => upd_ne hb, upd_same⟩ (fun i H' _ ⟨h, _⟩ => SqL.of ((h _ nvD).trans hv)) ?_ ?_
            · rintro i x H' hi ⟨h, hD⟩
              have hil : i < r.vals.length := by
                have := (List.getElem?_eq_some_iff.mp hi).1
                rw [ivs_len] at this; exact this
              have hx := getD_get hil
              have ex := hi.symm.trans (ivs_get hx)
              cases ex
              refine ⟨rfl, _, rfl, _, _, rfl, rfl, _, hD, ?_, fun b hb => (upd_ne hb).trans (h b hb), ?_⟩
              · rw [List.length_map, List.length_take]
                exact small1000 (by omega)
              · rw [upd_same, List.take_add_one, hx, List.map_append]
                congr 3
                show [V.bl (decide (((r.vals.getD i 0 : Nat) : Int) ≤ 1000))] = [V.bl (decide (r.vals.getD i 0 ≤ 1000))]
                rw [decide_eq_decide.mpr (show (((r.vals.getD i 0 : Nat) : Int) ≤ 1000) ↔ r.vals.getD i 0 ≤ 1000 by omega)]
            · rintro H' ⟨h, hD⟩
              have sm : Same H H' := fun b o e => (h b (ne_of_none e hn)).trans e
              rw [ivs_len, List.take_length] at hD
              refine ⟨Dn, r.vals.map fun v => decide (v ≤ 1000), rfl, SqL.of (by rw [hD, List.map_map]; rfl), ?_⟩
              have e : (r.vals.map fun v => decide (v ≤ 1000)).all id = r.vals.all fun v => decide (v ≤ 1000) := by
                rw [List.all_map]; rfl
              show Q (.bl ((r.vals.map fun v => decide (v ≤ 1000)).all id)) H'
              rw [e]
              cases h5 : r.vals.all fun v => decide (v ≤ 1000) with
              | true => exact kg H' sm (by unfold Bad; rw [h5]; simp only [Bool.true_eq_false, or_false]; omega)
              | false => exact kb H' sm (.inr (.inr (.inr (.inr (.inr h5)))))
          · refine ifT ?_ (kb H s0 (by unfold Bad; omega))
            rw [ivs_len, ivs_len]
            show (!decide (V.int (r.vals.length : Int) = V.int (s.rules.length : Int))) = true
            rw [decide_eq_false (by intro z; injection z with z; omega)]; rfl
    · refine ifT (by rw [decide_eq_false h1]; rfl) ?_
      exact iteT (kb H s0 (by unfold Bad; omega))
end
end Md

set_option Elab.async false
set_option maxRecDepth 100000
set_option maxHeartbeats 4000000
set_option linter.unusedVariables false
/-! add_record, remove_record, change_value, put_record. -/
namespace Md
open PySem PySem.Spec PyProof.Rows L2
/-- a def of the module: it is called by its name -/
structure GlobF (P : Program) (w : World) (K : PySem.W.Frag) (mg : Str → Option Value) (base : Heap) (x : Str) (k : Nat) (ps : List Str) (sp : Sp) : Prop where
  ex : ∃ f fd, FnOk P w K mg base CX0 k f fd ps sp ∧ mg x = some (.ref f) ∧ PySem.W.keepIn K (.ref f) = true ∧ Binds K fd ps []
/-- a method of the class at C -/
structure MethF (P : Program) (w : World) (K : PySem.W.Frag) (mg : Str → Option Value) (base : Heap) (C : Addr) (m : Str) (k : Nat) (ps : List Str) (sp : Sp) : Prop where
  ex : ∃ f fd, FnOk P w K mg base CX0 k f fd ps sp ∧ Meth K C m f ∧ Binds K fd ps []
section
variable {X : Cx} {x m : Str} {k : Nat} {ps : List Str} {sp : Sp} {e o : Expr} {es : List Expr} {p pos apos : Pos} {t : TA} {ta : TE} {C : Addr}
theorem pe_g (G : GlobF X.prog X.w X.K X.mg X.base x k ps sp) (hr : Room k X.A) (hg : Gl X x) (ha : PA X (e :: es) t) (hdb : (x == ("__debug__" : Str)) = false := by decide) (he : starEach (e :: es) X.env = (false, eval e X.env) :: starEach es X.env := by rfl)
    (hpl : (backTo pos (starEach es X.env)).any (·.1) = false := by rfl) : PE X (.Call (.Name x p) (e :: es) [] pos) (tCall sp [] E0 t) := by
  obtain ⟨f, fd, F, hm, hk, hb⟩ := G.ex
  exact pe_call F hr hg hm hk hb .nil pass0 ha hdb he hpl
theorem pe_m {pl : Sem Bool} (ho : PE X o ta) (c : Cls X.K C) (G : MethF X.prog X.w X.K X.mg X.base C m k ps sp) (hr : Room k X.A) (ha : PA X (e :: es) t)
    (hst : starEach (e :: es) X.env = (false, eval e X.env) :: starEach es X.env := by rfl) (hpl : (backTo pos (starEach es X.env)).any (·.1) = false := by rfl)
    (ht : eval (.Call (.Attribute o m apos) (e :: es) [] pos) X.env = (do
      let ov ← eval o X.env
      standAt apos.atName
      let (f, first) ← holding [ov] (getMethod ov m pl)
      callWith pos f first (backTo pos (starEach (e :: es) X.env)) (backToKw pos (keywordEach [] X.env))) := by rfl) :
    PE X (.Call (.Attribute o m apos) (e :: es) [] pos) (tMeth C m sp [] E0 ta t) := by
  obtain ⟨f, fd, F, hm, hb⟩ := G.ex
  exact pe_meth ho c hm F hr hb .nil pass0 ha hst hpl ht
end
section
variable {P : Program} {w : World} {K : PySem.W.Frag} {mg : Str → Option Value} {base : Heap} {CD CR : Addr}

/-! ### add_record -/
abbrev sAdd : Stmt := top 41
theorem scAdd : FnScope ["desk", "record"] ["desk", "record"] (defScope sAdd) := ⟨rfl, rfl, rfl, by decide +kernel, rfl, by decide +kernel, by decide +kernel⟩
def spAdd (CD CR : Addr) : Sp := fun vs H Q _ => ∃ (d : Addr) (s : Rl06.St) (L : Lay) (q : Q3) (so ti th : Nat) (l : List Nat), vs = [.ref d, .ref q.1] ∧ DeskAt CD CR H d s L ∧ Wf s ∧ RecAt CR H l.length ⟨0, so, ti, th, l, []⟩ q ∧ l.length ≤ 8 ∧ (∀ b ∈ q3 q, b ∉ L.own d) ∧ (q3 q).Nodup ∧
  ∀ (H' : Hp) (L' : Lay), DeskAt CD CR H' d (Rl06.step s (.record so ti th l)).1 L' → (∀ b o, H b = some o → b ∉ L.own d → b ∉ q3 q → H' b = some o ∧ b ∉ L'.own d) → Q (.int ((Rl06.step s (.record so ti th l)).2.headD 0)) H'
theorem ok_add {f : Addr} {fd : FuncData} (F : Fun K "add_record" "add_record" sAdd f fd) (T : Txt K mg CD CR) (T2 : Cst K mg) (GF : GlobF P w K mg base "fits_desk" 1 ["desk", "record"] (spFits CD CR)) (MF : MethF P w K mg base CD "file_record" 1 ["self", "record"] (spFile CD CR)) :
    FnOk P w K mg base CX0 2 f fd ["desk", "record"] (spAdd CD CR) := by
  refine F.ok scAdd (fun vs H Q E h => ?_) (fun cdv A outer s H vs Q E hr h => ?_)
  · obtain ⟨d, s, L, q, so, ti, th, l, rfl, _⟩ := h
    rfl
  · obtain ⟨d, s, L, q, so, ti, th, l, rfl, D, W, R, hl, hq, hnd, k⟩ := h
    obtain ⟨dx, hd⟩ := D.ob
    refine ⟨_, pss_cons (ps_if (pt_not (pt_val (pe_g GF hr rfl (pa_cons (pv 0) (pa_cons (pv 1) pa_nil))))) (pss_one (ps_ret (pe_gint rfl T2.not))) pss_nil)
      (pss_cons (ps_if (pt_cmpR op_ge (pe_callB call_lenD (by rfl) T.len PySem.boot_len (pa_cons (pe_fld (pv 0) rfl) pa_nil)) (pe_gint rfl T2.mostRecords) (nomark _)) (pss_one (ps_ret (pe_gint rfl T2.full))) pss_nil)
      (pss_one (ps_ret (pe_m (pv 0) T.clD MF hr (pa_cons (pv 1) pa_nil))))), ?_⟩
    refine ⟨_, rfl, _, rfl, d, s, L, l.length, ⟨0, so, ti, th, l, []⟩, q, rfl, D, R, (by show l.length ≤ 1000; omega), fun H1 s1 => ⟨_, rfl, ?_⟩⟩
    have D1 := D.same' s1
    have es : Rl06.step s (.record so ti th l) = (if Bad s ⟨0, so, ti, th, l, []⟩ then (s, [-1]) else
      if 12 ≤ s.recs.length then (s, [-6]) else ({ s with recs := s.recs ++ [⟨s.next, so, ti, th, l, []⟩], next := s.next + 1 }, Rl06.ints [s.next])) := rfl
    have refuse : ∀ z, Rl06.step s (.record so ti th l) = (s, [z]) → Q (.int z) H1 := fun z e => by
      have := k H1 L (by rw [e]; exact D1) (fun b o h1 h2 _ => ⟨s1 b o h1, h2⟩)
      rw [e] at this
      exact this
    by_cases c : Bad s ⟨0, so, ti, th, l, []⟩
    · rw [if_pos c] at es
      refine ifT (by rw [decide_eq_true c]; rfl) ?_
      exact refuse _ es
    · rw [if_neg c] at es
      refine ifF (by rw [decide_eq_false c]; rfl) ?_
      obtain ⟨dx1, hd1⟩ := D1.ob
      refine ⟨_, rfl, d, CD, dx1, _, _, rfl, hd1, T.clD, T.nRecords, deskF_records _ _, L.D, _, rfl, D1.dc, _, _, rfl, rfl, _, rfl, ?_⟩
      by_cases h12 : 12 ≤ s.recs.length
      · rw [if_pos h12] at es
        refine ifT (decide_eq_true (by rw [recKvs_len D.len]; omega)) ?_
        exact refuse _ es
      · rw [if_neg h12] at es
        refine ifF (decide_eq_false (by rw [recKvs_len D.len]; omega)) ?_
        have hlen : l.length = s.rules.length := by
          apply Classical.byContradiction
          intro z
          exact c (.inr (.inr (.inr (.inr (.inl z)))))
        refine ⟨_, rfl, d, dx1, _, rfl, hd1, deskF_no (by decide +kernel) (by decide +kernel) (by decide +kernel) (by decide +kernel) (by decide +kernel), _, rfl, d, s, L, q, ⟨0, so, ti, th, l, []⟩, rfl, D1, W, (by rw [← hlen]; exact R.same' s1), hq, hnd, fun H' D' kp => ?_⟩
        have := k H' { L with qs := L.qs ++ [q] } (by rw [es]; exact D') (fun b o h1 h2 h3 => ⟨kp b o (s1 b o h1) h2, fun z => by
          rw [own_add] at z
          rcases List.mem_append.mp z with z | z
          · exact h2 z
          · exact h3 z⟩)
        rw [es] at this
        exact this

/-! ### remove_record -/
abbrev sRemove : Stmt := top 42
theorem scRemove : FnScope ["desk", "number"] ["desk", "number"] (defScope sRemove) := ⟨rfl, rfl, rfl, by decide +kernel, rfl, by decide +kernel, by decide +kernel⟩
theorem ok_remove {f : Addr} {fd : FuncData} (F : Fun K "remove_record" "remove_record" sRemove f fd) (T : Txt K mg CD CR) (T2 : Cst K mg) (MR : MethF P w K mg base CD "has_record" 1 ["self", "number"] (spHasRecord CD CR)) :
    FnOk P w K mg base CX0 2 f fd ["desk", "number"] (spOp1 CD CR .remove) := by
  refine F.ok scRemove (fun vs H Q E h => ?_) (fun cdv A outer s H vs Q E hr h => ?_)
  · obtain ⟨d, s, L, a, rfl, _⟩ := h
    rfl
  · obtain ⟨d, s, L, n, rfl, D, W, k⟩ := h
    obtain ⟨dx, hd⟩ := D.ob
    refine ⟨_, pss_cons (ps_if (pt_not (pt_val (pe_m (pv 0) T.clD MR hr (pa_cons (pv 1) pa_nil)))) (pss_one (ps_ret (pe_gint rfl T2.such))) pss_nil)
      (pss_cons (ps_expr (pe_dpop1 (pe_fld (pv 0) rfl) (pv 1) ⟨rfl, rfl, rfl, rfl⟩))
      (pss_one (ps_ret (pe_callB call_lenD (by rfl) T.len PySem.boot_len (pa_cons (pe_fld (pv 0) rfl) pa_nil))))), ?_⟩
    have hno : (deskF L s.next).lookup ("has_record" : Str) = none := deskF_no (by decide +kernel) (by decide +kernel) (by decide +kernel) (by decide +kernel) (by decide +kernel)
    refine ⟨_, rfl, d, dx, _, rfl, hd, hno, _, rfl, d, s, L, n, rfl, D, _, rfl, ?_⟩
    cases hn : Rl06.recAt s n with
    | none =>
      refine iteT ?_
      refine k.same D ?_
      dsimp only [Rl06.step]
      rw [hn]
    | some r =>
      refine iteF ?_
      obtain ⟨i, q, hi, hq, hv⟩ := D.val_some hn
      have nb := own_b D.nd
      simp only [List.nodup_cons, List.mem_cons, List.not_mem_nil, or_false, not_or] at nb
      have ndD : d ≠ L.D := nb.1.2.2.1
      refine ⟨_, rfl, d, CD, dx, _, _, rfl, hd, T.clD, T.nRecords, deskF_records _ _, L.D, rfl, .inl ⟨_, .inl D.dc⟩, _, rfl, _, Sum.inl (n : Int), _, D.dc, rfl, hv, ?_⟩
      have D2 := D.dropRec n
      refine ⟨_, rfl, d, CD, dx, _, _, rfl, (upd_ne ndD).trans hd, T.clD, T.nRecords, deskF_records _ _, L.D, _, rfl, upd_same, ?_⟩
      have hlen : (dropK (recKvs s.recs L.qs) (Sum.inl (n : Int) : Key)).length + 1 = s.recs.length := by
        have ndk : ((recKvs s.recs L.qs).map (·.1)).Nodup := by
          have e : (recKvs s.recs L.qs).map (·.1) = (s.recs.map (·.num)).map (fun (n : Nat) => (Sum.inl (n : Int) : Key)) := by
            unfold recKvs
            rw [List.map_map, List.map_map]
            have : (s.recs.zip L.qs).map Prod.fst = s.recs := List.map_fst_zip (by rw [D.len]; exact Nat.le_refl _)
            conv => rhs; rw [← this]
            rw [List.map_map]
            rfl
          rw [e]
          exact List.Pairwise.map _ (fun (a b : Nat) (h : a < b) z => (by have := Sum.inl.inj z; omega)) W.nums
        rw [dropK_len ndk (valV_in hv), recKvs_len D.len]
      refine k.to (s' := { s with recs := s.recs.filter fun r => r.num != n }) ?_ D2 fun b o e hb => ⟨by rw [upd_ne (own_ne hb).2.2.2.1]; exact e, fun z => hb (own_drop z)⟩
      dsimp only [Rl06.step]
      rw [hn]
      show (_, Rl06.ints [s.recs.length - 1]) = _
      unfold Rl06.ints
      rw [← hlen]
      rfl

/-! ### change_value -/
theorem wbits_mapset (n : Nat) (w : List Nat) (i : Nat) (b : Bool) : ((wbits n w).map V.bl).set i (.bl b) = ((wbits n w).set i b).map V.bl := by
  rw [List.map_set]
abbrev sChange : Stmt := top 43
theorem scChange : FnScope ["desk", "number", "field", "value", "record", "earlier"] ["desk", "number", "field", "value"] (defScope sChange) := ⟨rfl, rfl, rfl, by decide +kernel, rfl, by decide +kernel, by decide +kernel⟩
theorem ok_change {f : Addr} {fd : FuncData} (F : Fun K "change_value" "change_value" sChange f fd) (T : Txt K mg CD CR) (T2 : Cst K mg) (MR : MethF P w K mg base CD "has_record" 1 ["self", "number"] (spHasRecord CD CR)) (MF : MethF P w K mg base CD "has_field" 1 ["self", "field"] (spHasField CD CR)) :
    FnOk P w K mg base CX0 2 f fd ["desk", "number", "field", "value"] (spOp3 CD CR .change) := by
  refine F.ok scChange (fun vs H Q E h => ?_) (fun cdv A outer s H vs Q E hr h => ?_)
  · obtain ⟨d, s, L, a, b, c, rfl, _⟩ := h
    rfl
  · obtain ⟨d, s, L, n, fi, va, rfl, D, W, k⟩ := h
    obtain ⟨dx, hd⟩ := D.ob
    have hu := hu_of hr
    refine ⟨_, pss_cons (ps_if (PW.pt (pw_or (pt_not (pt_val (pe_m (pv 0) T.clD MR hr (pa_cons (pv 1) pa_nil)))) (pw_or1 (pt_not (pt_val (pe_m (pv 0) T.clD MF hr (pa_cons (pv 2) pa_nil))))))) (pss_one (ps_ret (pe_gint rfl T2.such))) pss_nil)
      (pss_cons (ps_if (pt_cmpR op_gt (pv 3) (pe_gint rfl T2.mostValue) (nomark _)) (pss_one (ps_ret (pe_gint rfl T2.not))) pss_nil)
      (pss_cons (ps_set (i := 4) scChange.nd rfl (.inl rfl) (pe_dget hu (pe_fld (pv 0) rfl) (pv 1) (fun _ _ => rfl)))
      (pss_cons (ps_set (i := 5) scChange.nd rfl (.inl rfl) (pe_ix ix_list (pe_fld (pv 4) rfl) (pe_op op_sub (pv 2) pe_int) (fun _ _ => rfl)))
      (pss_cons (ps_asg (pv 3) (pg_sub (pe_fld (pv 4) rfl) (pe_op op_sub (pv 2) pe_int) set_list))
      (pss_cons (ps_asg pe_bl (pg_sub (pe_fld (pv 4) rfl) (pe_op op_sub (pv 2) pe_int) set_list))
      (pss_one (ps_ret (pv 5)))))))), ?_⟩
    have hno : (deskF L s.next).lookup ("has_record" : Str) = none := deskF_no (by decide +kernel) (by decide +kernel) (by decide +kernel) (by decide +kernel) (by decide +kernel)
    have hnf : (deskF L s.next).lookup ("has_field" : Str) = none := deskF_no (by decide +kernel) (by decide +kernel) (by decide +kernel) (by decide +kernel) (by decide +kernel)
    refine ⟨_, rfl, d, dx, _, rfl, hd, hno, _, rfl, d, s, L, n, rfl, D, _, rfl, ?_⟩
    cases hn : Rl06.recAt s n with
    | none =>
      refine iteT (iteT ?_)
      refine k.same D ?_
      dsimp only [Rl06.step]
      rw [hn]
    | some r =>
      refine iteF ?_
      have es : Rl06.step s (.change n fi va) = (if Rl06.isField s fi = false then (s, [-3]) else if 1000 < va then (s, [-1]) else (Rl06.setRec s { r with vals := r.vals.set (fi - 1) va, wrong := r.wrong.filter fun g => g != fi }, Rl06.ints [r.vals.getD (fi - 1) 0])) := by
        dsimp only [Rl06.step]
        rw [hn]
      refine ⟨_, rfl, d, dx, _, rfl, hd, hnf, _, rfl, d, s, L, fi, rfl, D, _, rfl, ?_⟩
      cases hf : Rl06.isField s fi with
      | false =>
        rw [if_pos hf] at es
        exact iteT (k.same D es)
      | true =>
        rw [if_neg (by rw [hf]; exact Bool.noConfusion)] at es
        refine iteF ?_
        obtain ⟨h1, h2⟩ := isField_iff.mp hf
        refine ⟨_, rfl, _, _, rfl, rfl, _, rfl, ?_⟩
        by_cases h4 : 1000 < va
        · rw [if_pos h4] at es
          exact ifT (decide_eq_true (by omega)) (k.same D es)
        · rw [if_neg h4] at es
          refine ifF (decide_eq_false (by omega)) ?_
          obtain ⟨i, q, hi, hq, hv⟩ := D.val_some hn
          have R := D.rc i r q hi hq
          have RO := W.rok r (List.mem_of_getElem? hi)
          obtain ⟨⟨dr, r1⟩, r2, r3⟩ := id R
          obtain ⟨n12, n13, n23⟩ := own_q D.nd hq
          have hx : (fi : Int) - 1 = ((fi - 1 : Nat) : Int) := by omega
          refine ⟨_, rfl, d, CD, dx, _, _, rfl, hd, T.clD, T.nRecords, deskF_records _ _, _, rfl, L.D, .ref q.1, rfl, (by have g := DGet.k (k := Sum.inl (n : Int)) D.dc; rw [hv] at g; exact g), ?_⟩
          refine ⟨_, rfl, q.1, CR, dr, _, _, rfl, r1, T.clR, T.nVals, recF_vals _ _, _, rfl, _, _, rfl, rfl, q.2.1, _, _, _, rfl, rfl, SqL.of r2, at_of hx (ivs_get (getD_get (by rw [RO.vlen]; omega))), ?_⟩
          refine ⟨_, rfl, _, rfl, q.1, CR, dr, _, _, rfl, r1, T.clR, T.nVals, recF_vals _ _, _, rfl, _, _, rfl, rfl, q.2.1, _, _, fi - 1, rfl, rfl, r2, ixN_nat hx (by rw [ivs_len, RO.vlen]; omega), ?_⟩
          refine ⟨_, rfl, q.1, CR, dr, _, _, rfl, (upd_ne n12).trans r1, T.clR, T.nWrong, recF_wrong _ _, _, rfl, _, _, rfl, rfl, q.2.2, _, _, fi - 1, rfl, rfl, (upd_ne n23.symm).trans r3, ixN_nat hx (by rw [List.length_map, wbits_len]; omega), ?_⟩
          refine ⟨_, rfl, ?_⟩
          have hm := List.mem_of_getElem? hq
          refine k.to es (D.setRec W hi hq rfl ⟨⟨dr, ?_⟩, ?_, ?_⟩ ?_) (Keep.upd (Keep.upd (Keep.refl _ _) (.inl (q_own hm (by unfold q3; simp)))) (.inl (q_own hm (by unfold q3; simp))))
          · exact (upd_ne n13).trans ((upd_ne n12).trans r1)
          · refine (upd_ne n23).trans (upd_same.trans ?_)
            show some (HO.lst ((ivs r.vals).set (fi - 1) (iv va))) = _
            rw [ivs_set]
          · refine upd_same.trans ?_
            rw [wbits_mapset, wbits_right h1]
          · intro b _ hb
            unfold q3 at hb
            simp only [List.mem_cons, List.not_mem_nil, or_false, not_or] at hb
            rw [upd_ne hb.2.2, upd_ne hb.2.1]

/-! ### put_record -/
abbrev sPut : Stmt := top 44
theorem scPut : FnScope ["desk", "number", "thing", "record", "earlier"] ["desk", "number", "thing"] (defScope sPut) := ⟨rfl, rfl, rfl, by decide +kernel, rfl, by decide +kernel, by decide +kernel⟩
theorem ok_put {f : Addr} {fd : FuncData} (F : Fun K "put_record" "put_record" sPut f fd) (T : Txt K mg CD CR) (T2 : Cst K mg) (MR : MethF P w K mg base CD "has_record" 1 ["self", "number"] (spHasRecord CD CR)) :
    FnOk P w K mg base CX0 2 f fd ["desk", "number", "thing"] (spOp2 CD CR .put) := by
  refine F.ok scPut (fun vs H Q E h => ?_) (fun cdv A outer s H vs Q E hr h => ?_)
  · obtain ⟨d, s, L, a, b, rfl, _⟩ := h
    rfl
  · obtain ⟨d, s, L, n, th, rfl, D, W, k⟩ := h
    obtain ⟨dx, hd⟩ := D.ob
    have hu := hu_of hr
    refine ⟨_, pss_cons (ps_if (pt_not (pt_val (pe_m (pv 0) T.clD MR hr (pa_cons (pv 1) pa_nil)))) (pss_one (ps_ret (pe_gint rfl T2.such))) pss_nil)
      (pss_cons (ps_if (pt_cmpR op_gt (pv 2) (pe_gint rfl T2.mostThing) (nomark _)) (pss_one (ps_ret (pe_gint rfl T2.not))) pss_nil)
      (pss_cons (ps_set (i := 3) scPut.nd rfl (.inl rfl) (pe_dget hu (pe_fld (pv 0) rfl) (pv 1) (fun _ _ => rfl)))
      (pss_cons (ps_set (i := 4) scPut.nd rfl (.inl rfl) (pe_fld (pv 3) rfl))
      (pss_cons (ps_fld (pv 3) (pv 2) rfl)
      (pss_one (ps_ret (pv 4))))))), ?_⟩
    have hno : (deskF L s.next).lookup ("has_record" : Str) = none := deskF_no (by decide +kernel) (by decide +kernel) (by decide +kernel) (by decide +kernel) (by decide +kernel)
    refine ⟨_, rfl, d, dx, _, rfl, hd, hno, _, rfl, d, s, L, n, rfl, D, _, rfl, ?_⟩
    cases hn : Rl06.recAt s n with
    | none =>
      refine iteT ?_
      refine k.same D ?_
      dsimp only [Rl06.step]
      rw [hn]
    | some r =>
      refine iteF ?_
      have es : Rl06.step s (.put n th) = (if 4 < th then (s, [-1]) else (Rl06.setRec s { r with thing := th }, Rl06.ints [r.thing])) := by
        dsimp only [Rl06.step]
        rw [hn]
        rfl
      refine ⟨_, rfl, _, _, rfl, rfl, _, rfl, ?_⟩
      by_cases h4 : 4 < th
      · rw [if_pos h4] at es
        exact ifT (decide_eq_true (by omega)) (k.same D es)
      · rw [if_neg h4] at es
        refine ifF (decide_eq_false (by omega)) ?_
        obtain ⟨i, q, hi, hq, hv⟩ := D.val_some hn
        have R := D.rc i r q hi hq
        obtain ⟨⟨dr, r1⟩, r2, r3⟩ := id R
        obtain ⟨n12, n13, n23⟩ := own_q D.nd hq
        refine ⟨_, rfl, d, CD, dx, _, _, rfl, hd, T.clD, T.nRecords, deskF_records _ _, _, rfl, L.D, .ref q.1, rfl, (by have g := DGet.k (k := Sum.inl (n : Int)) D.dc; rw [hv] at g; exact g), ?_⟩
        refine ⟨_, rfl, q.1, CR, dr, _, _, rfl, r1, T.clR, T.nThing, recF_thing _ _, ?_⟩
        refine ⟨_, rfl, _, rfl, q.1, CR, dr, _, rfl, r1, T.clR, T.nThing, (by show 5 < 1000; decide), ?_⟩
        refine ⟨_, rfl, ?_⟩
        have hm := List.mem_of_getElem? hq
        refine k.to es (D.setRec W hi hq rfl ⟨⟨dr, ?_⟩, ?_, ?_⟩ ?_) (Keep.upd (Keep.refl _ _) (.inl (q_own hm (by unfold q3; simp))))
        · exact upd_same.trans (congrArg (fun z => some (HO.ins CR dr z)) (recF_put_thing r q th))
        · exact (upd_ne n12.symm).trans r2
        · exact (upd_ne n13.symm).trans r3
        · intro b _ hb
          unfold q3 at hb
          simp only [List.mem_cons, List.not_mem_nil, or_false, not_or] at hb
          rw [upd_ne hb.1]
end
end Md

set_option Elab.async false
set_option maxRecDepth 100000
set_option maxHeartbeats 4000000
set_option linter.unusedVariables false
/-! What a record says; a thing's records, those that say something, what they say. -/
namespace Md
open PySem PySem.Spec PyProof.Rows L2
open Rl06 (Rec)
theorem recAt_self {s : Rl06.St} (W : Wf s) {r : Rec} (h : r ∈ s.recs) : Rl06.recAt s r.num = some r := by
  unfold Rl06.recAt
  cases e : s.recs.find? (fun q => q.num == r.num) with
  | none =>
    rw [List.find?_eq_none] at e
    exact absurd (by simp) (e r h)
  | some q =>
    have hq := List.mem_of_find?_eq_some e
    have hn : q.num = r.num := by simpa using List.find?_some e
    obtain ⟨i, hi⟩ := List.mem_iff_getElem?.mp hq
    obtain ⟨j, hj⟩ := List.mem_iff_getElem?.mp h
    have : i = j := nums_ne W.nums hi hj hn
    subst this
    rw [hi] at hj
    exact hj
theorem DeskAt.rec_of {CD CR d : Addr} {H : Hp} {s : Rl06.St} {L : Lay} (D : DeskAt CD CR H d s L) (W : Wf s) {r : Rec} (h : r ∈ s.recs) : ∃ q : Q3, valV (recKvs s.recs L.qs) (Sum.inl (r.num : Int) : Key) = some (.ref q.1) ∧ RecAt CR H s.rules.length r q := by
  obtain ⟨i, q, hi, hq, hv⟩ := D.val_some (recAt_self W h)
  exact ⟨q, hv, D.rc i r q hi hq⟩
section
variable {P : Program} {w : World} {K : PySem.W.Frag} {mg : Str → Option Value} {base : Heap} {CD CR : Addr}

/-! ### Record.says -/
abbrev sSays : Stmt := inClass (top 8) 1
theorem scSays : FnScope ["self", "field"] ["self", "field"] (defScope sSays) := ⟨rfl, rfl, rfl, by decide +kernel, rfl, by decide +kernel, by decide +kernel⟩
def spSays (CR : Addr) : Sp := fun vs H Q _ => ∃ (n f : Nat) (r : Rec) (q : Q3), vs = [.ref q.1, iv f] ∧ RecAt CR H n r q ∧ RecOk n r ∧ 1 ≤ f ∧ f ≤ n ∧ Q (iv (Rl06.says r f)) H
theorem ok_says {f : Addr} {fd : FuncData} (F : Fun K "says" "Record.says" sSays f fd) (T : Txt K mg CD CR) : FnOk P w K mg base CX0 1 f fd ["self", "field"] (spSays CR) := by
  refine F.ok scSays (fun vs H Q E h => ?_) (fun cdv A outer s H vs Q E hr h => ?_)
  · obtain ⟨n, f, r, q, rfl, _⟩ := h
    rfl
  · obtain ⟨n, f, r, q, rfl, R, RO, h1, h2, k⟩ := h
    obtain ⟨⟨dr, hq⟩, hv, hw⟩ := id R
    refine ⟨_, pss_cons (ps_if (pt_val (pe_ix ix_list (pe_fld (pv 0) rfl) (pe_op op_sub (pv 1) pe_int) (fun _ _ => rfl))) (pss_one (ps_ret pe_int)) pss_nil)
      (pss_one (ps_ret (pe_ix ix_list (pe_fld (pv 0) rfl) (pe_op op_sub (pv 1) pe_int) (fun _ _ => rfl)))), ?_⟩
    have hx : (f : Int) - 1 = ((f - 1 : Nat) : Int) := by omega
    have hb : ((wbits n r.wrong).map V.bl)[f - 1]? = some (.bl (r.wrong.contains f)) := by
      rw [List.getElem?_map, wbits_get (by omega), show f - 1 + 1 = f by omega]; rfl
    refine ⟨_, rfl, q.1, CR, dr, _, _, rfl, hq, T.clR, T.nWrong, recF_wrong _ _, _, rfl, _, _, rfl, rfl, q.2.2, _, _, _, rfl, rfl, SqL.of hw, at_of hx hb, _, rfl, ?_⟩
    cases hc : r.wrong.contains f with
    | true =>
      refine iteT ?_
      have e : Rl06.says r f = 0 := by unfold Rl06.says; rw [if_pos hc]
      rw [e] at k
      exact k
    | false =>
      refine iteF ?_
      have e : Rl06.says r f = r.vals.getD (f - 1) 0 := by unfold Rl06.says; rw [if_neg (by rw [hc]; exact Bool.noConfusion)]
      rw [e] at k
      exact ⟨_, rfl, q.1, CR, dr, _, _, rfl, hq, T.clR, T.nVals, recF_vals _ _, _, rfl, _, _, rfl, rfl, q.2.1, _, _, _, rfl, rfl, SqL.of hv, at_of hx (ivs_get (getD_get (by rw [RO.vlen]; omega))), k⟩

/-! ### Desk.has_thing -/
abbrev sHasThing : Stmt := inClass (top 9) 3
theorem scHasThing : FnScope ["self", "thing"] ["self", "thing"] (defScope sHasThing) := ⟨rfl, rfl, rfl, by decide +kernel, rfl, by decide +kernel, by decide +kernel⟩
def spHasThing : Sp := fun vs H Q _ => ∃ (d : Addr) (n : Nat), vs = [.ref d, iv n] ∧ Q (.bl (Rl06.isThing n)) H
theorem ok_hasThing {f : Addr} {fd : FuncData} (F : Fun K "has_thing" "Desk.has_thing" sHasThing f fd) (T2 : Cst K mg) : FnOk P w K mg base CX0 1 f fd ["self", "thing"] spHasThing := by
  refine F.ok scHasThing (fun vs H Q E h => ?_) (fun cdv A outer s H vs Q E hr h => ?_)
  · obtain ⟨d, n, rfl, _⟩ := h
    rfl
  · obtain ⟨d, n, rfl, k⟩ := h
    refine ⟨_, pss_one (ps_ret (pe_chain op_le op_le pe_int (pv 1) (pe_gint rfl T2.mostThing))), ?_⟩
    refine ⟨_, rfl, _, _, rfl, rfl, _, rfl, ?_⟩
    by_cases h1 : 1 ≤ n
    · rw [if_pos (decide_eq_true (by omega))]
      have e : decide ((n : Int) ≤ 4) = Rl06.isThing n := by
        unfold Rl06.isThing Rl06.THINGS
        rw [decide_eq_true h1, Bool.true_and]
        exact decide_eq_decide.mpr (by omega)
      refine ⟨_, _, rfl, rfl, ?_⟩
      show Q (.bl (decide ((n : Int) ≤ 4))) H
      rw [e]
      exact k
    · rw [if_neg (by rw [decide_eq_true_iff]; omega)]
      have e : Rl06.isThing n = false := by
        unfold Rl06.isThing
        rw [decide_eq_false h1, Bool.false_and]
      rw [e] at k
      exact k

/-! ### Desk.numbers_of -/
def numsOf (rs : List Rec) : List Nat := rs.map (·.num)
abbrev sNumsOf : Stmt := inClass (top 9) 6
theorem scNumsOf : FnScope ["self", "thing", "number"] ["self", "thing"] (defScope sNumsOf) := ⟨rfl, rfl, rfl, by decide +kernel, rfl, by decide +kernel, by decide +kernel⟩
/-- a new list of some records' numbers -/
def NewNums (rs : List Rec) (H : Hp) (Q : VK) : Prop := ∀ (H' : Hp) (p : Addr), Same H H' → H p = none → H' p = some (.lst (ivs (numsOf rs))) → Q (.ref p) H'
def spNumsOf (CD CR : Addr) : Sp := fun vs H Q _ => ∃ (d : Addr) (s : Rl06.St) (L : Lay) (t : Nat), vs = [.ref d, iv t] ∧ DeskAt CD CR H d s L ∧ Wf s ∧ NewNums (s.recs.filter fun r => r.thing == t) H Q
theorem recKvs_get {rs : List Rec} {qs : List Q3} {i : Nat} {k : Key} {v : V} (h : (recKvs rs qs)[i]? = some (k, v)) : ∃ r q, rs[i]? = some r ∧ qs[i]? = some q ∧ k = Sum.inl (r.num : Int) ∧ v = .ref q.1 := by
  unfold recKvs at h
  rw [List.getElem?_map] at h
  obtain ⟨⟨r, q⟩, h1, h2⟩ := Option.map_eq_some_iff.mp h
  have := List.getElem?_zip_eq_some.mp h1
  cases h2
  exact ⟨r, q, this.1, this.2, rfl, rfl⟩
theorem ok_numsOf {f : Addr} {fd : FuncData} (F : Fun K "numbers_of" "Desk.numbers_of" sNumsOf f fd) (T : Txt K mg CD CR) : FnOk P w K mg base CX0 1 f fd ["self", "thing"] (spNumsOf CD CR) := by
  refine F.ok scNumsOf (fun vs H Q E h => ?_) (fun cdv A outer s H vs Q E hr h => ?_)
  · obtain ⟨d, s, L, t, rfl, _⟩ := h
    rfl
  · obtain ⟨d, s, L, t, rfl, D, W, k⟩ := h
    obtain ⟨dx, hd⟩ := D.ob
    have hu := hu_of hr
    refine ⟨_, pss_one (ps_ret (pe_lock (pe_lc (own := [("number", 2)]) (g := gName 2) (tt := tTest (tOp rEq (tFld K (tDGet (tFld K (tVar 0) "records") (tVar 2)) "thing") (tVar 1))) (by rfl) scNumsOf.nd (pi_keys (pe_fld (pv 0) rfl)) (blkOk_by (own := [("number", 2)]) (N := ["self", "thing", "number"]) (sc := defScope sNumsOf) (by decide +kernel)) (fun _ _ _ _ _ => pg_name (i := 2) scNumsOf.nd rfl (Or.inl rfl))
      (fun _ _ _ _ _ => pts_one (pt_cmpR op_eq (pe_fld (pe_dget hu (pe_fld (pv 0) rfl) (pv 2) (fun _ _ => rfl)) rfl) (pv 1) (nomark _))) (fun _ _ _ _ _ => pv 2)))), ?_⟩
    refine ⟨L.D, _, D.dc, trivial, fun od => ?_⟩
    have nb := own_b D.nd
    simp only [List.nodup_cons, List.mem_cons, List.not_mem_nil, or_false, not_or] at nb
    have ndD : d ≠ L.D := nb.1.2.2.1
    have hnq : ∀ b q, q ∈ L.qs → b ∈ q3 q → b ≠ L.D := fun b q hq hb e => own_bq D.nd hq (b := b) (by simp [e]) hb
    refine ⟨_, rfl, d, CD, dx, _, _, rfl, (upd_ne ndD).trans hd, T.clD, T.nRecords, deskF_records _ _, L.D, od, rfl, .inl ⟨_, upd_same, fun Dn hn => ?_⟩⟩
    have nDL : Dn ≠ L.D := fun e => by rw [e, upd_same] at hn; cases hn
    have hn0 : H Dn = none := by rw [upd_ne nDL] at hn; exact hn
    refine lc_it walk_keys (fun i H' => (∀ b, b ≠ Dn → H' b = upd H L.D (.frz od (.dK (recKvs s.recs L.qs))) b) ∧ H' Dn = some (.lst (ivs (numsOf ((s.recs.take i).filter fun r => r.thing == t))))) ⟨fun b hb => upd_ne hb, upd_same⟩ (fun i H' _ h => (h.1 _ nDL.symm).trans upd_same) ?_ ?_
    · rintro i x Hz H' hi ⟨h, hD⟩ ⟨rfl, k', v', hk, rfl⟩
      obtain ⟨r, q, hr1, hq1, rfl, rfl⟩ := recKvs_get hk
      have hm := List.mem_of_getElem? hr1
      have hqm := List.mem_of_getElem? hq1
      obtain ⟨⟨dr, r1⟩, r2, r3⟩ := D.rc i r q hr1 hq1
      have hv : valV (recKvs s.recs L.qs) (Sum.inl (r.num : Int) : Key) = some (.ref q.1) := by
        obtain ⟨j, q', hj, hq', e⟩ := D.val_some (recAt_self W hm)
        have : j = i := nums_ne W.nums hj hr1 rfl
        subst this
        rw [hq1] at hq'; cases hq'
        exact e
      have neq : q.1 ≠ L.D := hnq _ q hqm (by unfold q3; simp)
      have nqD : q.1 ≠ Dn := ne_of_none r1 hn0
      have hd' : H' d = some (.ins CD dx (deskF L s.next)) := (h d (ne_of_none hd hn0)).trans ((upd_ne ndD).trans hd)
      have hq' : H' q.1 = some (.ins CR dr (recF r q)) := (h q.1 nqD).trans ((upd_ne neq).trans r1)
      have hL' : H' L.D = some (.frz od (.dK (recKvs s.recs L.qs))) := (h _ nDL.symm).trans upd_same
      refine ⟨rfl, _, rfl, d, CD, dx, _, _, rfl, hd', T.clD, T.nRecords, deskF_records _ _, _, rfl, L.D, .ref q.1, rfl, .inl ⟨_, Sum.inl (r.num : Int), .inr ⟨od, hL'⟩, rfl, hv.symm⟩, q.1, CR, dr, _, _, rfl, hq', T.clR, T.nThing, recF_thing _ _, _, rfl, rfl, _, rfl, ?_⟩
      have et : (s.recs.take (i + 1)).filter (fun r => r.thing == t) = (s.recs.take i).filter (fun r => r.thing == t) ++ (if r.thing = t then [r] else []) := by
        rw [List.take_add_one, hr1, List.filter_append]
        congr 1
        by_cases c : r.thing = t
        · rw [if_pos c]
          exact List.filter_cons_of_pos (by simpa using c)
        · rw [if_neg c]
          exact List.filter_cons_of_neg (by simpa using c)
      by_cases c : r.thing = t
      · refine ifT (decide_eq_true (by rw [c])) ?_
        refine ⟨_, rfl, _, hD, ?_, fun b hb => (upd_ne hb).trans (h b hb), ?_⟩
        · rw [ivs_len]
          unfold numsOf
          rw [List.length_map]
          refine small1000 (Nat.le_trans (List.length_filter_le _ _) ?_)
          rw [List.length_take]
          have := W.most
          omega
        · rw [upd_same, et, if_pos c]
          unfold numsOf ivs
          rw [List.map_append, List.map_append]
          rfl
      · refine ifF (decide_eq_false (fun z => c (by injection z with z; omega))) ⟨h, ?_⟩
        rw [hD, et, if_neg c, List.append_nil]
    · rintro H' ⟨h, hD⟩
      refine ⟨(h _ nDL.symm).trans upd_same, k _ Dn (fun b o e => ?_) hn0 ?_⟩
      · by_cases hb : b = L.D
        · subst hb
          rw [upd_same, ← D.dc]
          exact e
        · rw [upd_ne hb, h b (ne_of_none e hn0), upd_ne hb]
          exact e
      · rw [upd_ne nDL, hD, recKvs_len D.len, List.take_length]

/-! ### Desk.numbers_saying -/
theorem recF_no {r : Rec} {q : Q3} : (recF r q).lookup ("says" : Str) = none :=
  (lk_past (by decide +kernel)).trans ((lk_past (by decide +kernel)).trans ((lk_past (by decide +kernel)).trans ((lk_past (by decide +kernel)).trans ((lk_past (by decide +kernel)).trans rfl))))
theorem deskF_meth {L : Lay} {n : Nat} {m : Str} (h : (m == ("rules" : Str) || (m == ("trusted" : Str) || (m == ("records" : Str) || (m == ("last_number" : Str) || m == ("pins" : Str))))) = false) : (deskF L n).lookup m = none := by
  simp only [Bool.or_eq_false_iff] at h
  exact deskF_no h.1 h.2.1 h.2.2.1 h.2.2.2.1 h.2.2.2.2
theorem sayers_eq (s : Rl06.St) (t f : Nat) : Rl06.sayers s t f = (s.recs.filter fun r => r.thing == t).filter fun r => Rl06.says r f != 0 := by
  unfold Rl06.sayers
  rw [List.filter_filter]
  apply List.filter_congr
  intro r _
  rw [Bool.and_comm]
theorem take_filter {rs : List Rec} {p : Rec → Bool} {i : Nat} {r : Rec} (h : rs[i]? = some r) : (rs.take (i + 1)).filter p = (rs.take i).filter p ++ (if p r = true then [r] else []) := by
  rw [List.take_add_one, h, List.filter_append]
  congr 1
  by_cases c : p r = true
  · rw [if_pos c]
    exact List.filter_cons_of_pos c
  · rw [if_neg c]
    exact List.filter_cons_of_neg c
theorem nums_get {rs : List Rec} {i : Nat} {x : V} (h : (ivs (numsOf rs))[i]? = some x) : ∃ r, rs[i]? = some r ∧ x = iv r.num := by
  unfold ivs numsOf at h
  rw [List.getElem?_map, List.getElem?_map] at h
  cases e : rs[i]? with
  | none => rw [e] at h; cases h
  | some r =>
    rw [e] at h
    cases h
    exact ⟨r, rfl, rfl⟩
theorem numsOf_len (rs : List Rec) : (numsOf rs).length = rs.length := List.length_map ..
abbrev sNumsSay : Stmt := inClass (top 9) 7
theorem scNumsSay : FnScope ["self", "thing", "field", "number"] ["self", "thing", "field"] (defScope sNumsSay) := ⟨rfl, rfl, rfl, by decide +kernel, rfl, by decide +kernel, by decide +kernel⟩
def spNumsSay (CD CR : Addr) : Sp := fun vs H Q _ => ∃ (d : Addr) (s : Rl06.St) (L : Lay) (t f : Nat), vs = [.ref d, iv t, iv f] ∧ DeskAt CD CR H d s L ∧ Wf s ∧ Rl06.isField s f = true ∧ NewNums (Rl06.sayers s t f) H Q
theorem ok_numsSay {f : Addr} {fd : FuncData} (F : Fun K "numbers_saying" "Desk.numbers_saying" sNumsSay f fd) (T : Txt K mg CD CR) (MN : MethF P w K mg base CD "numbers_of" 1 ["self", "thing"] (spNumsOf CD CR)) (MS : MethF P w K mg base CR "says" 1 ["self", "field"] (spSays CR)) :
    FnOk P w K mg base CX0 2 f fd ["self", "thing", "field"] (spNumsSay CD CR) := by
  refine F.ok scNumsSay (fun vs H Q E h => ?_) (fun cdv A outer s H vs Q E hr h => ?_)
  · obtain ⟨d, s, L, t, f, rfl, _⟩ := h
    rfl
  · obtain ⟨d, s, L, t, fi, rfl, D, W, hf, k⟩ := h
    obtain ⟨dx, hd⟩ := D.ob
    obtain ⟨h1, h2⟩ := isField_iff.mp hf
    have hu := hu_of hr
    refine ⟨_, pss_one (ps_ret (pe_lc (own := [("number", 3)]) (g := gName 3) (tt := tTest (tOp rNe (tMeth CR "says" (spSays CR) [] E0 (tDGet (tFld K (tVar 0) "records") (tVar 3)) (tCons (tVar 2) tNil)) (tC (.int 0)))) (by rfl) scNumsSay.nd (pi_list (pe_m (pv 0) T.clD MN hr (pa_cons (pv 1) pa_nil))) (blkOk_by (own := [("number", 3)]) (N := ["self", "thing", "field", "number"]) (sc := defScope sNumsSay) (by decide +kernel)) (fun _ _ _ _ _ => pg_name (i := 3) scNumsSay.nd rfl (Or.inl rfl))
      (fun _ _ _ _ _ => pts_one (pt_cmpR op_ne (pe_m (pe_dget hu (pe_fld (pv 0) rfl) (pv 3) (fun _ _ => rfl)) T.clR MS hr (pa_cons (pv 2) pa_nil)) pe_int (nomark _))) (fun _ _ _ _ _ => pv 3))), ?_⟩
    refine ⟨_, rfl, d, dx, _, rfl, hd, deskF_meth (by decide +kernel), _, rfl, d, s, L, t, rfl, D, W, fun H1 p s1 hp0 hp => ?_⟩
    refine ⟨p, rfl, ⟨_, SqL.of hp⟩, fun Dn hn => ?_⟩
    have D1 := D.same' s1
    have hn0 := s1.free hn
    have npD : p ≠ Dn := ne_of_none hp hn
    refine lc_list (K := K) (a := p) (xs := ivs (numsOf (s.recs.filter fun r => r.thing == t))) (fun i H' => (∀ b, b ≠ Dn → H' b = H1 b) ∧ H' Dn = some (.lst (ivs (numsOf (((s.recs.filter fun r => r.thing == t).take i).filter fun r => Rl06.says r fi != 0))))) ⟨fun b hb => upd_ne hb, upd_same⟩ (fun i H' _ h => SqL.of ((h.1 _ npD).trans hp)) ?_ ?_
    · rintro i x H' hi ⟨h, hD⟩
      obtain ⟨r, hr1, rfl⟩ := nums_get hi
      have hm : r ∈ s.recs := (List.mem_filter.mp (List.mem_of_getElem? hr1)).1
      have sm : Same H1 H' := fun b o e => (h b (ne_of_none e hn)).trans e
      have D2 := D1.same' sm
      obtain ⟨dx2, hd2⟩ := D2.ob
      obtain ⟨q, hv, R⟩ := D2.rec_of W hm
      obtain ⟨⟨dr, r1⟩, r2, r3⟩ := id R
      refine ⟨rfl, _, rfl, d, CD, dx2, _, _, rfl, hd2, T.clD, T.nRecords, deskF_records _ _, _, rfl, L.D, .ref q.1, rfl, (by have g := DGet.k (k := Sum.inl (r.num : Int)) D2.dc; rw [hv] at g; exact g), q.1, dr, _, rfl, r1, recF_no, _, rfl, _, fi, r, q, rfl, R, W.rok r hm, h1, h2, rfl, _, rfl, ?_⟩
      have et := take_filter (p := fun r => Rl06.says r fi != 0) hr1
      by_cases c : Rl06.says r fi = 0
      · refine ifF (by rw [c]; rfl) ⟨h, ?_⟩
        rw [hD, et, if_neg (by rw [c]; decide), List.append_nil]
      · refine ifT (by
          rw [Bool.not_eq_true', decide_eq_false_iff_not]
          exact fun z => c (by injection z with z; omega)) ?_
        refine ⟨_, rfl, _, hD, ?_, fun b hb => (upd_ne hb).trans (h b hb), ?_⟩
        · rw [ivs_len, numsOf_len]
          refine small1000 (Nat.le_trans (List.length_filter_le _ _) ?_)
          rw [List.length_take]
          have := W.most
          have := List.length_filter_le (fun r : Rec => r.thing == t) s.recs
          omega
        · rw [upd_same, et, if_pos (by simpa using c)]
          unfold numsOf ivs
          rw [List.map_append, List.map_append]
          rfl
    · rintro H' ⟨h, hD⟩
      refine k H' Dn (s1.trans fun b o e => (h b (ne_of_none e hn)).trans e) hn0 ?_
      rw [hD, sayers_eq, ivs_len, numsOf_len, List.take_length]

/-! ### Desk.values_said -/
def saysOf (rs : List Rec) (f : Nat) : List Nat := rs.map fun r => Rl06.says r f
abbrev sValsSaid : Stmt := inClass (top 9) 8
theorem scValsSaid : FnScope ["self", "field", "numbers", "number"] ["self", "field", "numbers"] (defScope sValsSaid) := ⟨rfl, rfl, rfl, by decide +kernel, rfl, by decide +kernel, by decide +kernel⟩
/-- some records' numbers in a list at b -/
structure NumsAt (K : PySem.W.Frag) (H : Hp) (s : Rl06.St) (b : Addr) (rs : List Rec) : Prop where
  sq : SqL K H b (ivs (numsOf rs))
  sub : ∀ r ∈ rs, r ∈ s.recs
  few : rs.length ≤ 12
def spValsSaid (K : PySem.W.Frag) (CD CR : Addr) : Sp := fun vs H Q _ => ∃ (d b : Addr) (s : Rl06.St) (L : Lay) (f : Nat) (rs : List Rec), vs = [.ref d, iv f, .ref b] ∧ DeskAt CD CR H d s L ∧ Wf s ∧ Rl06.isField s f = true ∧ NumsAt K H s b rs ∧
  ∀ (H' : Hp) (p : Addr), Same H H' → H p = none → H' p = some (.lst (ivs (saysOf rs f))) → Q (.ref p) H'
theorem ok_valsSaid {f : Addr} {fd : FuncData} (F : Fun K "values_said" "Desk.values_said" sValsSaid f fd) (T : Txt K mg CD CR) (MS : MethF P w K mg base CR "says" 1 ["self", "field"] (spSays CR)) :
    FnOk P w K mg base CX0 2 f fd ["self", "field", "numbers"] (spValsSaid K CD CR) := by
  refine F.ok scValsSaid (fun vs H Q E h => ?_) (fun cdv A outer s H vs Q E hr h => ?_)
  · obtain ⟨d, b, s, L, f, rs, rfl, _⟩ := h
    rfl
  · obtain ⟨d, b, s, L, fi, rs, rfl, D, W, hf, NA, k⟩ := h
    obtain ⟨dx, hd⟩ := D.ob
    obtain ⟨h1, h2⟩ := isField_iff.mp hf
    have hu := hu_of hr
    refine ⟨_, pss_one (ps_ret (pe_lc (own := [("number", 3)]) (g := gName 3) (tt := tYes) (te := tMeth CR "says" (spSays CR) [] E0 (tDGet (tFld K (tVar 0) "records") (tVar 3)) (tCons (tVar 1) tNil)) (by rfl) scValsSaid.nd (pi_list (pv 2)) (blkOk_by (own := [("number", 3)]) (N := ["self", "field", "numbers", "number"]) (sc := defScope sValsSaid) (by decide +kernel)) (fun _ _ _ _ _ => pg_name (i := 3) scValsSaid.nd rfl (Or.inl rfl))
      (fun _ _ _ _ _ => pts_nil) (fun _ _ _ _ _ => pe_m (pe_dget hu (pe_fld (pv 0) rfl) (pv 3) (fun _ _ => rfl)) T.clR MS hr (pa_cons (pv 1) pa_nil)))), ?_⟩
    refine ⟨_, rfl, b, rfl, ⟨_, NA.sq⟩, fun Dn hn => ?_⟩
    have hbm : ∀ H', (∀ b, b ≠ Dn → H' b = H b) → Same H H' := fun H' h b o e => (h b (ne_of_none e hn)).trans e
    refine lc_list (K := K) (a := b) (xs := ivs (numsOf rs)) (fun i H' => (∀ b, b ≠ Dn → H' b = H b) ∧ H' Dn = some (.lst (ivs (saysOf (rs.take i) fi)))) ⟨fun b hb => upd_ne hb, upd_same⟩ (fun i H' _ h => (hbm H' h.1).seq NA.sq) ?_ ?_
    · rintro i x H' hi ⟨h, hD⟩
      obtain ⟨r, hr1, rfl⟩ := nums_get hi
      have hm : r ∈ s.recs := NA.sub r (List.mem_of_getElem? hr1)
      have D2 := D.same' (hbm H' h)
      obtain ⟨dx2, hd2⟩ := D2.ob
      obtain ⟨q, hv, R⟩ := D2.rec_of W hm
      obtain ⟨⟨dr, r1⟩, r2, r3⟩ := id R
      refine ⟨rfl, _, rfl, d, CD, dx2, _, _, rfl, hd2, T.clD, T.nRecords, deskF_records _ _, _, rfl, L.D, .ref q.1, rfl, (by have g := DGet.k (k := Sum.inl (r.num : Int)) D2.dc; rw [hv] at g; exact g), q.1, dr, _, rfl, r1, recF_no, _, rfl, _, fi, r, q, rfl, R, W.rok r hm, h1, h2, _, hD, ?_, fun b hb => (upd_ne hb).trans (h b hb), ?_⟩
      · rw [ivs_len]
        unfold saysOf
        rw [List.length_map, List.length_take]
        have := NA.few
        exact small1000 (by omega)
      · rw [upd_same, List.take_add_one, hr1]
        unfold saysOf ivs
        rw [List.map_append, List.map_append]
        rfl
    · rintro H' ⟨h, hD⟩
      refine k H' Dn (hbm H' h) hn ?_
      rw [hD, ivs_len, numsOf_len, List.take_length]
end
end Md

set_option Elab.async false
set_option maxRecDepth 100000
set_option maxHeartbeats 4000000
set_option linter.unusedVariables false
/-! Which record goes ahead: place; the leader; what is chosen. -/
namespace Md
open PySem PySem.Spec PyProof.Rows L2 LamX
open Rl06 (Rec)
/-- what the program sorts by -/
def keyN (s : Rl06.St) (rs : List Rec) (f : Nat) (r : Rec) : Nat → List Int
  | 1 => [(Rl06.place s r.source : Int), -(r.time : Int), (Rl06.says r f : Int)]
  | 2 => [-(Rl06.often rs f (Rl06.says r f) : Int), -(r.time : Int), (Rl06.place s r.source : Int), (Rl06.says r f : Int)]
  | 3 => [-(Rl06.says r f : Int)]
  | 4 => [(Rl06.says r f : Int)]
  | _ => [-(r.time : Int), (Rl06.place s r.source : Int), (Rl06.says r f : Int)]
def keyOf (s : Rl06.St) (rs : List Rec) (f : Nat) (r : Rec) : List Int := keyN s rs f r (Rl06.rule s f)
theorem lex1 {a b : Int} {x y : List Int} : HT.lexLt (a :: x) (b :: y) = true ↔ a < b ∨ (a = b ∧ HT.lexLt x y = true) := by
  rw [HT.lexLt_cons]
  by_cases e : a = b
  · rw [if_pos e]
    constructor
    · exact fun h => .inr ⟨e, h⟩
    · rintro (h | h)
      · omega
      · exact h.2
  · rw [if_neg e, decide_eq_true_iff]
    constructor
    · exact .inl
    · rintro (h | h)
      · exact h
      · exact absurd h.1 e
theorem lex0 : HT.lexLt [] [] = true ↔ False := by
  constructor
  · intro h; cases h
  · exact False.elim
/-- **the order by the key is the document's** -/
theorem key_ahead {s : Rl06.St} {rs : List Rec} {f : Nat} {a b : Rec} (h : Rl06.rule s f ≤ 4) : HT.lexLt (keyOf s rs f a) (keyOf s rs f b) = true ↔ Ahead s rs f (Rl06.rule s f) a b := by
  unfold keyOf
  generalize Rl06.rule s f = k at h
  match k, h with
  | 0, _ =>
    show HT.lexLt [-(a.time : Int), (Rl06.place s a.source : Int), (Rl06.says a f : Int)] [-(b.time : Int), (Rl06.place s b.source : Int), (Rl06.says b f : Int)] = true ↔ _
    rw [ahead0, lex1, lex1, lex1, lex0, and_false, or_false]; omega
  | 1, _ =>
    show HT.lexLt [(Rl06.place s a.source : Int), -(a.time : Int), (Rl06.says a f : Int)] [(Rl06.place s b.source : Int), -(b.time : Int), (Rl06.says b f : Int)] = true ↔ _
    rw [ahead1, lex1, lex1, lex1, lex0, and_false, or_false]; omega
  | 2, _ =>
    show HT.lexLt [-(Rl06.often rs f (Rl06.says a f) : Int), -(a.time : Int), (Rl06.place s a.source : Int), (Rl06.says a f : Int)] [-(Rl06.often rs f (Rl06.says b f) : Int), -(b.time : Int), (Rl06.place s b.source : Int), (Rl06.says b f : Int)] = true ↔ _
    rw [ahead2, lex1, lex1, lex1, lex1, lex0, and_false, or_false]; omega
  | 3, _ =>
    show HT.lexLt [-(Rl06.says a f : Int)] [-(Rl06.says b f : Int)] = true ↔ _
    rw [ahead3, lex1, lex0, and_false, or_false]; omega
  | 4, _ =>
    show HT.lexLt [(Rl06.says a f : Int)] [(Rl06.says b f : Int)] = true ↔ _
    rw [show (4 : Nat) = 0 + 4 from rfl, ahead4, lex1, lex0, and_false, or_false]; omega
theorem place_at {s : Rl06.St} {a : Nat} (h : a ∈ s.trust) : s.trust[Rl06.place s a]? = some a ∧ ∀ m z, m < Rl06.place s a → s.trust[m]? = some z → z ≠ a := by
  unfold Rl06.place
  cases e : s.trust.findIdx? (fun x => x == a) with
  | none =>
    rw [List.findIdx?_eq_none_iff] at e
    have := e a h
    simp at this
  | some i =>
    obtain ⟨hi, h1, h2⟩ := List.findIdx?_eq_some_iff_getElem.mp e
    refine ⟨?_, fun m z hm hz => ?_⟩
    · show s.trust[i]? = some a
      rw [List.getElem?_eq_getElem hi]
      have : s.trust[i] = a := by simpa using h1
      rw [this]
    · obtain ⟨hml, e2⟩ := List.getElem?_eq_some_iff.mp hz
      have := h2 m hm
      rw [e2] at this
      simpa using this
theorem count_often (rs : List Rec) (f v : Nat) : (Rl06.ints (saysOf rs f)).count (v : Int) = Rl06.often rs f v := by
  induction rs with
  | nil => rfl
  | cons r rs ih =>
    have e : Rl06.ints (saysOf (r :: rs) f) = (Rl06.says r f : Int) :: Rl06.ints (saysOf rs f) := rfl
    rw [e, List.count_cons, ih]
    unfold Rl06.often
    by_cases c : Rl06.says r f = v
    · rw [List.filter_cons_of_pos (by simpa using c), List.length_cons, if_pos (by rw [c]; exact beq_self_eq_true _)]
    · rw [List.filter_cons_of_neg (by simpa using c), if_neg (by rw [beq_iff_eq]; omega)]
      rfl
structure Cst4 (K : PySem.W.Frag) (mg : Str → Option Value) : Prop where
  trusted : GInt mg "MOST_TRUSTED" 1
  common : GInt mg "MOST_COMMON" 2
  greatest : GInt mg "GREATEST" 3
  least : GInt mg "LEAST" 4
  min : mg "min" = none
theorem flat_ivs (l : List Nat) : (ivs l).all flatV = true := by
  unfold ivs
  rw [List.all_map, List.all_eq_true]
  intro x _
  rfl
section
variable {P : Program} {w : World} {K : PySem.W.Frag} {mg : Str → Option Value} {base : Heap} {CD CR : Addr}

/-! ### Desk.place -/
abbrev sPlace : Stmt := inClass (top 9) 9
theorem scPlace : FnScope ["self", "field", "number", "spoken", "record", "value", "distrust", "rule"] ["self", "field", "number", "spoken"] (defScope sPlace) := ⟨rfl, rfl, rfl, by decide +kernel, rfl, by decide +kernel, by decide +kernel⟩
def spPlace (K : PySem.W.Frag) (CD CR : Addr) : Sp := fun vs H Q _ => ∃ (d b : Addr) (s : Rl06.St) (L : Lay) (f : Nat) (r : Rec) (rs : List Rec), vs = [.ref d, iv f, iv r.num, .ref b] ∧ DeskAt CD CR H d s L ∧ Wf s ∧ Rl06.isField s f = true ∧ r ∈ s.recs ∧ SqL K H b (ivs (saysOf rs f)) ∧
  ∀ (H' : Hp) (p : Addr), Same H H' → H' p = some (.tup ((keyOf s rs f r).map V.int)) → Q (.ref p) H'
theorem ok_place {f : Addr} {fd : FuncData} (F : Fun K "place" "Desk.place" sPlace f fd) (T : Txt K mg CD CR) (T4 : Cst4 K mg) (MS : MethF P w K mg base CR "says" 1 ["self", "field"] (spSays CR)) :
    FnOk P w K mg base CX0 2 f fd ["self", "field", "number", "spoken"] (spPlace K CD CR) := by
  refine F.ok scPlace (fun vs H Q E h => ?_) (fun cdv A outer s H vs Q E hr h => ?_)
  · obtain ⟨d, b, s, L, f, r, rs, rfl, _⟩ := h
    rfl
  · obtain ⟨d, b, s, L, fi, r, rs, rfl, D, W, hf, hm, hb, k⟩ := h
    obtain ⟨dx, hd⟩ := D.ob
    obtain ⟨h1, h2⟩ := isField_iff.mp hf
    have hu := hu_of hr
    obtain ⟨q, hv, R⟩ := D.rec_of W hm
    obtain ⟨⟨dr, r1⟩, r2, r3⟩ := id R
    have RO := W.rok r hm
    have htm : r.source ∈ s.trust := W.tall r.source RO.src.1 RO.src.2
    obtain ⟨p1, p2⟩ := place_at htm
    refine ⟨_, pss_cons (ps_set (i := 4) scPlace.nd rfl (.inl rfl) (pe_dget hu (pe_fld (pv 0) rfl) (pv 2) (fun _ _ => rfl)))
      (pss_cons (ps_set (i := 5) scPlace.nd rfl (.inl rfl) (pe_m (pv 4) T.clR MS hr (pa_cons (pv 1) pa_nil)))
      (pss_cons (ps_set (i := 6) scPlace.nd rfl (.inl rfl) (pe_bm PySem.F.plainAttrs_list PySem.F.slot_list_index PySem.F.type_list_index mt_index (pe_fld (pv 0) rfl) (pa_cons (pe_fld (pv 4) rfl) pa_nil)))
      (pss_cons (ps_set (i := 7) scPlace.nd rfl (.inl rfl) (pe_ix ix_list (pe_fld (pv 0) rfl) (pe_op op_sub (pv 1) pe_int) (fun _ _ => rfl)))
      (pss_cons (ps_if (pt_cmpR op_eq (pv 7) (pe_gint rfl T4.trusted) (nomark _)) (pss_one (ps_ret (pe_tup (pa_cons (pv 6) (pa_cons (pe_un un_neg (pe_fld (pv 4) rfl)) (pa_cons (pv 5) pa_nil)))))) pss_nil)
      (pss_cons (ps_if (pt_cmpR op_eq (pv 7) (pe_gint rfl T4.common) (nomark _)) (pss_one (ps_ret (pe_tup (pa_cons (pe_un un_neg (pe_bm PySem.F.plainAttrs_list PySem.F.slot_list_count PySem.F.type_list_count mt_lcount (pv 3) (pa_cons (pv 5) pa_nil))) (pa_cons (pe_un un_neg (pe_fld (pv 4) rfl)) (pa_cons (pv 6) (pa_cons (pv 5) pa_nil))))))) pss_nil)
      (pss_cons (ps_if (pt_cmpR op_eq (pv 7) (pe_gint rfl T4.greatest) (nomark _)) (pss_one (ps_ret (pe_tup (pa_cons (pe_un un_neg (pv 5)) pa_nil)))) pss_nil)
      (pss_cons (ps_if (pt_cmpR op_eq (pv 7) (pe_gint rfl T4.least) (nomark _)) (pss_one (ps_ret (pe_tup (pa_cons (pv 5) pa_nil)))) pss_nil)
      (pss_one (ps_ret (pe_tup (pa_cons (pe_un un_neg (pe_fld (pv 4) rfl)) (pa_cons (pv 6) (pa_cons (pv 5) pa_nil))))))))))))), ?_⟩
    have hx : (fi : Int) - 1 = ((fi - 1 : Nat) : Int) := by omega
    refine ⟨_, rfl, d, CD, dx, _, _, rfl, hd, T.clD, T.nRecords, deskF_records _ _, _, rfl, L.D, .ref q.1, rfl, (by have g := DGet.k (k := Sum.inl (r.num : Int)) D.dc; rw [hv] at g; exact g), ?_⟩
    refine ⟨_, rfl, q.1, dr, _, rfl, r1, recF_no, _, rfl, _, fi, r, q, rfl, R, RO, h1, h2, ?_⟩
    refine ⟨_, rfl, d, CD, dx, _, _, rfl, hd, T.clD, T.nTrusted, deskF_trusted _ _, .inl ⟨rfl, _, SqL.of D.tr⟩, _, rfl, q.1, CR, dr, _, _, rfl, r1, T.clR, T.nSource, recF_source _ _, L.T, _, _, Rl06.place s r.source, _, rfl, rfl, SqL.of D.tr, rfl, flat_ivs _, ivs_get p1, (by exact beq_self_eq_true _), fun m z' hmj hz => ?_, ?_⟩
    · unfold ivs at hz
      rw [List.getElem?_map] at hz
      obtain ⟨z, e1, rfl⟩ := Option.map_eq_some_iff.mp hz
      show ((z : Int) == (r.source : Int)) = false
      rw [beq_eq_false_iff_ne]
      exact fun e => p2 m z hmj e1 (by omega)
    refine ⟨_, rfl, d, CD, dx, _, _, rfl, hd, T.clD, T.nRules, deskF_rules _ _, _, rfl, _, _, rfl, rfl, L.R, _, _, _, rfl, rfl, SqL.of D.rl, at_of hx (ivs_get (getD_get (by omega))), ?_⟩
    have fin : ∀ xs : List Int, keyOf s rs fi r = xs → xs.length ≤ 4 → (xs.map V.int).length ≤ sizeLine ∧ ∀ p, H p = none → Q (.ref p) (upd H p (.tup (xs.map V.int))) := fun xs e hl => by
      refine ⟨?_, fun p hp => k _ p (Same.new hp) (by rw [e]; exact upd_same)⟩
      rw [List.length_map]
      exact Nat.le_of_lt (small1000 (by omega))
    have hrl : s.rules.getD (fi - 1) 0 = Rl06.rule s fi := rfl
    rw [hrl]
    have ru : ∀ (n : Nat), Rl06.rule s fi = n → keyOf s rs fi r = keyN s rs fi r n := fun n e => by
      unfold keyOf
      rw [e]
    refine ⟨_, rfl, rfl, _, rfl, ?_⟩
    by_cases c1 : Rl06.rule s fi = 1
    · refine ifT (decide_eq_true (by rw [c1]; rfl)) ?_
      exact ⟨_, rfl, _, rfl, q.1, CR, dr, _, _, rfl, r1, T.clR, T.nTime, recF_time _ _, _, rfl, _, rfl, fin [(Rl06.place s r.source : Int), -(r.time : Int), (Rl06.says r fi : Int)] (ru 1 c1) (Nat.le_of_ble_eq_true rfl)⟩
    refine ifF (decide_eq_false (by intro z; injection z with z; omega)) ?_
    refine ⟨_, rfl, rfl, _, rfl, ?_⟩
    by_cases c2 : Rl06.rule s fi = 2
    · refine ifT (decide_eq_true (by rw [c2]; rfl)) ?_
      refine ⟨_, rfl, .inl ⟨rfl, _, hb⟩, _, rfl, b, Rl06.ints (saysOf rs fi), _, rfl, rfl, (by rw [← ivs_ints]; exact hb), _, rfl, _, rfl, q.1, CR, dr, _, _, rfl, r1, T.clR, T.nTime, recF_time _ _, _, rfl, _, rfl, _, rfl, ?_⟩
      rw [count_often]
      exact fin [-(Rl06.often rs fi (Rl06.says r fi) : Int), -(r.time : Int), (Rl06.place s r.source : Int), (Rl06.says r fi : Int)] (ru 2 c2) (Nat.le_of_ble_eq_true rfl)
    refine ifF (decide_eq_false (by intro z; injection z with z; omega)) ?_
    refine ⟨_, rfl, rfl, _, rfl, ?_⟩
    by_cases c3 : Rl06.rule s fi = 3
    · refine ifT (decide_eq_true (by rw [c3]; rfl)) ?_
      exact ⟨_, rfl, _, rfl, fin [-(Rl06.says r fi : Int)] (ru 3 c3) (Nat.le_of_ble_eq_true rfl)⟩
    refine ifF (decide_eq_false (by intro z; injection z with z; omega)) ?_
    refine ⟨_, rfl, rfl, _, rfl, ?_⟩
    by_cases c4 : Rl06.rule s fi = 4
    · refine ifT (decide_eq_true (by rw [c4]; rfl)) ?_
      exact ⟨_, rfl, fin [(Rl06.says r fi : Int)] (ru 4 c4) (Nat.le_of_ble_eq_true rfl)⟩
    refine ifF (decide_eq_false (by intro z; injection z with z; omega)) ?_
    refine ⟨_, rfl, q.1, CR, dr, _, _, rfl, r1, T.clR, T.nTime, recF_time _ _, _, rfl, _, rfl, _, rfl, fin [-(r.time : Int), (Rl06.place s r.source : Int), (Rl06.says r fi : Int)] ?_ (Nat.le_of_ble_eq_true rfl)⟩
    rw [ru (Rl06.rule s fi) rfl]
    generalize Rl06.rule s fi = n at c1 c2 c3 c4
    match n, c1, c2, c3, c4 with
    | 0, _, _, _, _ => rfl
    | _ + 5, _, _, _, _ => rfl
end
end Md

set_option Elab.async false
set_option maxRecDepth 100000
set_option maxHeartbeats 4000000
set_option linter.unusedVariables false
/-! The leader; what is chosen; how many leaders have to go. -/
namespace Md
open PySem PySem.Spec PyProof.Rows L2 LamX NdefX
open Rl06 (Rec)
/-- a def whose code object is known -/
theorem Fun_okc {P : Program} {w : World} {K : PySem.W.Frag} {mg : Str → Option Value} {base : Heap} {x qual : Str} {st : Stmt} {f c : Addr} {fd : FuncData} {N ps : List Str} {k : Nat} {sp : Sp} (F : Fun K x qual st f fd) (hc : fd.code = .ref c) (S : FnScope N ps (defScope st)) (len : ∀ vs H Q E, sp vs H Q E → vs.length = ps.length)
    (hbody : ∀ (A : Around) (outer : List Env) (s : Shared) (H : Hp) (vs : List V) (Q : VK) (E : XK), Room k (A.deeper (envOfC qual (defScope st) s.heap.objs.size f (.ref c))) → sp vs H Q E →
      ∃ t, PSs (cxOf CX0 P w K mg base N qual (defScope st) f (.ref c) A outer s H E).nox (defBody st) t ∧ t { nx := fun _ H' => Q .non H', rt := Q } (L2.start N vs) H) : FnOk P w K mg base CX0 (k + 1) f fd ps sp := by
  obtain ⟨oc, od, kV, doc, pm, an, cdv, ct, osl, rfl, lk, hcd⟩ := F.ex
  have hc : cdv = .ref c := hc
  subst hc
  refine fn_of lk hcd S len fun A outer s H vs Q E hr hsp => ?_
  obtain ⟨t, h, q⟩ := hbody A outer s H vs Q E hr hsp
  exact ⟨t, h.nox, q⟩
theorem DeskAt.there' {CD CR d : Addr} {H : Hp} {s : Rl06.St} {L : Lay} (D : DeskAt CD CR H d s L) {b : Addr} (h : b ∈ L.own d) : ∃ o, H b = some o ∧ ∀ ps, o ≠ .tbl ps := by
  rcases mem_own.mp h with rfl | rfl | rfl | rfl | rfl | ⟨q, hq, hb⟩
  · obtain ⟨dx, e⟩ := D.ob; exact ⟨_, e, fun ps z => by cases z⟩
  · exact ⟨_, D.rl, fun ps z => by cases z⟩
  · exact ⟨_, D.tr, fun ps z => by cases z⟩
  · exact ⟨_, D.dc, fun ps z => by cases z⟩
  · exact ⟨_, D.pn, fun ps z => by cases z⟩
  · obtain ⟨i, hi⟩ := List.mem_iff_getElem?.mp hq
    have hil : i < s.recs.length := by rw [← D.len]; exact (List.getElem?_eq_some_iff.mp hi).1
    obtain ⟨⟨dx, h1⟩, h2, h3⟩ := D.rc i _ q (List.getElem?_eq_getElem hil) hi
    unfold q3 at hb
    simp only [List.mem_cons, List.not_mem_nil, or_false] at hb
    rcases hb with rfl | rfl | rfl
    · exact ⟨_, h1, fun ps z => by cases z⟩
    · exact ⟨_, h2, fun ps z => by cases z⟩
    · exact ⟨_, h3, fun ps z => by cases z⟩
theorem DeskAt.extN {CD CR d : Addr} {H H' : Hp} {s : Rl06.St} {L : Lay} (D : DeskAt CD CR H d s L) (e : ExtN H H') : DeskAt CD CR H' d s L := D.cong fun b hb => by
  obtain ⟨o, e1, e2⟩ := D.there' hb
  rw [e1]; exact e b o e1 e2
/-- the name of the lambda's code -/
def lamQ : Str := ("Desk.leader" : Str) ++ ".<locals>." ++ "<lambda>"
/-- what stays, the lambda's table aside -/
structure Sofar (tb : Addr) (H H' : Hp) : Prop where
  ext : ExtN H H'
  tab : TabS H' tb lamQ
theorem Sofar.same {tb : Addr} {H H1 H2 : Hp} (a : Sofar tb H H1) (h : Same H1 H2) : Sofar tb H H2 := ⟨a.ext.trans (extN_same h), a.tab.ext h⟩
theorem Sofar.pre {tb : Addr} {H H1 H2 : Hp} (h : Same H H1) (a : Sofar tb H1 H2) : Sofar tb H H2 := ⟨(extN_same h).trans a.ext, a.tab⟩
theorem Sofar.trans {tb : Addr} {H H1 H2 : Hp} (h : Sofar tb H H1) (a : Sofar tb H1 H2) : Sofar tb H H2 := ⟨h.ext.trans a.ext, a.tab⟩
theorem NumsAt.extN {K : PySem.W.Frag} {H H' : Hp} {s : Rl06.St} {b : Addr} {rs : List Rec} (N : NumsAt K H s b rs) (e : ExtN H H') : NumsAt K H' s b rs := ⟨extN_seq e N.sq, N.sub, N.few⟩
theorem Wf.rule_le {s : Rl06.St} (W : Wf s) {f : Nat} (h : Rl06.isField s f = true) : Rl06.rule s f ≤ 4 := by
  obtain ⟨h1, h2⟩ := isField_iff.mp h
  unfold Rl06.rule
  have := getD_get (l := s.rules) (i := f - 1) (by omega)
  exact W.rle _ (List.mem_of_getElem? this)
/-- the key of a number -/
def kfOf (s : Rl06.St) (rs : List Rec) (f : Nat) (n : Int) : List Int := match Rl06.recAt s n.toNat with
  | some r => keyOf s rs f r
  | none => []
theorem kfOf_rec {s : Rl06.St} (W : Wf s) {rs : List Rec} {f : Nat} {r : Rec} (h : r ∈ s.recs) : kfOf s rs f (r.num : Int) = keyOf s rs f r := by
  unfold kfOf
  rw [Int.toNat_natCast, recAt_self W h]
theorem ivs_nums (rs : List Rec) : ivs (numsOf rs) = (Rl06.ints (numsOf rs)).map V.int := ivs_ints _
theorem mem_nums {rs : List Rec} {n : Int} (h : n ∈ Rl06.ints (numsOf rs)) : ∃ r ∈ rs, n = (r.num : Int) := by
  unfold Rl06.ints numsOf at h
  obtain ⟨a, ha, rfl⟩ := List.mem_map.mp h
  obtain ⟨r, hr, rfl⟩ := List.mem_map.mp ha
  exact ⟨r, hr, rfl⟩
/-- nothing goes ahead of it -/
def Lead (s : Rl06.St) (f : Nat) (rs : List Rec) (m : Rec) : Prop := m ∈ rs ∧ ∀ r ∈ rs, ¬ Ahead s rs f (Rl06.rule s f) r m
section
variable {P : Program} {w : World} {K : PySem.W.Frag} {mg : Str → Option Value} {base : Heap} {CD CR tb : Addr}

/-! ### Desk.leader -/
abbrev sLeader : Stmt := inClass (top 9) 10
theorem scLeader : FnScope ["self", "field", "numbers", "spoken"] ["self", "field", "numbers"] (defScope sLeader) := ⟨rfl, rfl, rfl, by decide +kernel, rfl, by decide +kernel, by decide +kernel⟩
def lamScope : Scope := { kind := .function, names := [("number", .local), ("field", .free), ("self", .free), ("spoken", .free)], isGenerator := false, isCoroutine := false, more := [] }
theorem scLam : NScope ["number", "field", "self", "spoken"] ["number"] ["field", "self", "spoken"] lamScope := nscope_by (by decide +kernel)
def spLeader (K : PySem.W.Frag) (CD CR tb : Addr) : Sp := fun vs H Q _ => ∃ (d b : Addr) (s : Rl06.St) (L : Lay) (f : Nat) (rs : List Rec), vs = [.ref d, iv f, .ref b] ∧ DeskAt CD CR H d s L ∧ Wf s ∧ Rl06.isField s f = true ∧ NumsAt K H s b rs ∧ rs ≠ [] ∧ TabS H tb lamQ ∧
  ∀ (H' : Hp) (m : Rec), Lead s f rs m → Sofar tb H H' → Q (iv m.num) H'
theorem ok_leader {f c : Addr} {fd : FuncData} (F : Fun K "leader" "Desk.leader" sLeader f fd) (hc : fd.code = .ref c) (TB : TabB base mg c tb) (T : Txt K mg CD CR) (T4 : Cst4 K mg) (MV : MethF P w K mg base CD "values_said" 2 ["self", "field", "numbers"] (spValsSaid K CD CR)) (MP : MethF P w K mg base CD "place" 2 ["self", "field", "number", "spoken"] (spPlace K CD CR)) :
    FnOk P w K mg base CX0 5 f fd ["self", "field", "numbers"] (spLeader K CD CR tb) := by
  refine Fun_okc F hc scLeader (fun vs H Q E h => ?_) (fun A outer s H vs Q E hr h => ?_)
  · obtain ⟨d, b, s, L, f, rs, rfl, _⟩ := h
    rfl
  · obtain ⟨d, b, s, L, fi, rs, rfl, D, W, hf, NA, hne, hT, k⟩ := h
    obtain ⟨dx, hd⟩ := D.ob
    have hr2 : Room 2 _ := hr.mono (by decide)
    refine ⟨_, pss_cons (ps_set (i := 3) scLeader.nd rfl (.inr rfl) (pe_m (pv 0) T.clD MV hr2 (pa_cons (pv 1) (pa_cons (pv 2) pa_nil))))
      (pss_one (ps_ret (pe_minkey (k := 2) (N := ["number", "field", "self", "spoken"]) (fr := ["field", "self", "spoken"]) (a := "number") (js := [1, 0, 3]) (t := tMeth CD "place" (spPlace K CD CR) [] E0 (tVar 2) (tCons (tVar 1) (tCons (tVar 0) (tCons (tVar 3) tNil)))) rfl T4.min (pa_cons (pv 2) pa_nil) TB rfl hr scLam rfl
        (ndef_free (sc := defScope sLeader) (fr := ["field", "self", "spoken"]) (by decide +kernel)) (ndef_fr (sc := defScope sLeader) (by decide +kernel)) rfl (fun _ _ _ _ _ _ => rfl) (fun A outer s H F f e hr => ?lam)))), ?_⟩
    case lam =>
      obtain ⟨nm, ql, pr, bd, sc, cl, cc⟩ := F
      have e : sc = _ := e
      subst e
      exact pe_m (pv 2) T.clD MP hr (pa_cons (pv 1) (pa_cons (pv 0) (pa_cons (pv 3) pa_nil)))
    refine ⟨_, rfl, d, dx, _, rfl, hd, deskF_meth (by decide +kernel), _, rfl, _, rfl, d, b, s, L, fi, rs, rfl, D, W, hf, NA, fun H1 p s1 hp0 hp => ?_⟩
    have D1 := D.same' s1
    refine ⟨_, rfl, b, Rl06.ints (numsOf rs), kfOf s rs fi, rfl, (by rw [← ivs_nums]; exact s1.seq NA.sq), ?_, hT.ext s1, fun n hn H2 e2 t2 => ?_, fun n hn hmin H2 e2 t2 => ?_⟩
    · rw [ints_len, numsOf_len]
      exact List.length_pos_iff.mpr hne
    · obtain ⟨r, hrm, rfl⟩ := mem_nums hn
      have D2 := D1.extN e2
      obtain ⟨dx2, hd2⟩ := D2.ob
      refine ⟨_, rfl, d, dx2, _, rfl, hd2, deskF_meth (by decide +kernel), _, rfl, _, rfl, _, rfl, d, p, s, L, fi, r, rs, rfl, D2, W, hf, NA.sub r hrm, SqL.of (e2 _ _ hp (fun ps z => by cases z)), fun H3 q s3 hq => ⟨q, rfl, ?_, s3⟩⟩
      rw [kfOf_rec W (NA.sub r hrm)]
      exact hq
    · obtain ⟨m, hm, rfl⟩ := mem_nums hn
      refine k H2 m ⟨hm, fun r hr' a => ?_⟩ ⟨(extN_same s1).trans e2, t2⟩
      have := hmin (r.num : Int) (by unfold Rl06.ints numsOf; exact List.mem_map.mpr ⟨_, List.mem_map.mpr ⟨r, hr', rfl⟩, rfl⟩)
      rw [kfOf_rec W (NA.sub r hr'), kfOf_rec W (NA.sub m hm)] at this
      rw [(key_ahead (W.rule_le hf)).mpr a] at this
      cases this
end
end Md

set_option Elab.async false
set_option maxRecDepth 100000
set_option maxHeartbeats 4000000
set_option linter.unusedVariables false
/-! What is chosen; how many leaders have to go; which go. -/
namespace Md
open PySem PySem.Spec PyProof.Rows L2 LamX NdefX
open Rl06 (Rec)
theorem Lead.chosen {s : Rl06.St} {f : Nat} {rs : List Rec} {m : Rec} (h : Lead s f rs m) : Rl06.chosen s rs f (Rl06.rule s f) = Rl06.says m f := chosen_of h.1 h.2
section
variable {P : Program} {w : World} {K : PySem.W.Frag} {mg : Str → Option Value} {base : Heap} {CD CR tb : Addr}

/-! ### Desk.chosen -/
abbrev sChosen : Stmt := inClass (top 9) 11
theorem scChosen : FnScope ["self", "field", "numbers"] ["self", "field", "numbers"] (defScope sChosen) := ⟨rfl, rfl, rfl, by decide +kernel, rfl, by decide +kernel, by decide +kernel⟩
def spChosen (K : PySem.W.Frag) (CD CR tb : Addr) : Sp := fun vs H Q _ => ∃ (d b : Addr) (s : Rl06.St) (L : Lay) (f : Nat) (rs : List Rec), vs = [.ref d, iv f, .ref b] ∧ DeskAt CD CR H d s L ∧ Wf s ∧ Rl06.isField s f = true ∧ NumsAt K H s b rs ∧ TabS H tb lamQ ∧
  ∀ H' : Hp, Sofar tb H H' → Q (iv (Rl06.chosen s rs f (Rl06.rule s f))) H'
theorem ok_chosen {f : Addr} {fd : FuncData} (F : Fun K "chosen" "Desk.chosen" sChosen f fd) (T : Txt K mg CD CR) (ML : MethF P w K mg base CD "leader" 5 ["self", "field", "numbers"] (spLeader K CD CR tb)) (MS : MethF P w K mg base CR "says" 1 ["self", "field"] (spSays CR)) :
    FnOk P w K mg base CX0 6 f fd ["self", "field", "numbers"] (spChosen K CD CR tb) := by
  refine F.ok scChosen (fun vs H Q E h => ?_) (fun cdv A outer s H vs Q E hr h => ?_)
  · obtain ⟨d, b, s, L, f, rs, rfl, _⟩ := h
    rfl
  · obtain ⟨d, b, s, L, fi, rs, rfl, D, W, hf, NA, hT, k⟩ := h
    obtain ⟨dx, hd⟩ := D.ob
    obtain ⟨h1, h2⟩ := isField_iff.mp hf
    have hu := hu_of hr
    have hr1 : Room 1 _ := hr.mono (by decide)
    refine ⟨_, pss_cons (ps_if (pt_cmpR op_eq (pe_callB call_len_seq (by rfl) T.len PySem.boot_len (pa_cons (pv 2) pa_nil)) pe_int (nomark _)) (pss_one (ps_ret pe_int)) pss_nil)
      (pss_one (ps_ret (pe_m (pe_dget hu (pe_fld (pv 0) rfl) (pe_m (pv 0) T.clD ML hr (pa_cons (pv 1) (pa_cons (pv 2) pa_nil))) (fun _ _ => rfl)) T.clR MS hr1 (pa_cons (pv 1) pa_nil)))), ?_⟩
    refine ⟨_, rfl, b, _, rfl, .inl NA.sq, rfl, _, rfl, ?_⟩
    by_cases c : rs = []
    · subst c
      refine ifT rfl ?_
      exact k H ⟨ExtN.refl _, hT⟩
    · refine ifF (decide_eq_false (fun z => ?_)) ?_
      · injection z with z
        rw [ivs_len, numsOf_len] at z
        exact c (List.length_eq_zero_iff.mp (by omega))
      refine ⟨_, rfl, d, CD, dx, _, _, rfl, hd, T.clD, T.nRecords, deskF_records _ _, _, rfl, d, dx, _, rfl, hd, deskF_meth (by decide +kernel), _, rfl, _, rfl, d, b, s, L, fi, rs, rfl, D, W, hf, NA, c, hT, fun H1 m lm so => ?_⟩
      have D1 := D.extN so.ext
      have hm := NA.sub m lm.1
      obtain ⟨q, hv, R⟩ := D1.rec_of W hm
      obtain ⟨⟨dr, r1⟩, r2, r3⟩ := id R
      refine ⟨L.D, .ref q.1, rfl, (by have g := DGet.k (k := Sum.inl (m.num : Int)) D1.dc; rw [hv] at g; exact g), q.1, dr, _, rfl, r1, recF_no, _, rfl, _, fi, m, q, rfl, R, W.rok m hm, h1, h2, ?_⟩
      have := k H1 so
      rw [lm.chosen] at this
      exact this

/-! ### Desk.leaders_to_go -/
abbrev sToGo : Stmt := inClass (top 9) 12
theorem scToGo : FnScope ["self", "field", "numbers", "value", "kept"] ["self", "field", "numbers", "value"] (defScope sToGo) := ⟨rfl, rfl, rfl, by decide +kernel, rfl, by decide +kernel, by decide +kernel⟩
def spToGo (K : PySem.W.Frag) (CD CR tb : Addr) : Sp := fun vs H Q _ => ∃ (d b : Addr) (s : Rl06.St) (L : Lay) (f v : Nat) (rs : List Rec), vs = [.ref d, iv f, .ref b, iv v] ∧ DeskAt CD CR H d s L ∧ Wf s ∧ Rl06.isField s f = true ∧ NumsAt K H s b rs ∧ (numsOf rs).Nodup ∧ v ≠ 0 ∧ TabS H tb lamQ ∧
  ∀ (H' : Hp) (j : Nat), Least s f (Rl06.rule s f) v rs j → Sofar tb H H' → Q (iv j) H'
theorem erase_map {α β : Type} (g : α → β) : ∀ (l : List α) (j : Nat), (l.map g).eraseIdx j = (l.eraseIdx j).map g
  | [], j => by simp
  | a :: r, 0 => by simp
  | a :: r, j + 1 => by
    have ih := erase_map g r j
    simp [ih]
theorem erase_perm {α : Type} {l : List α} {i : Nat} (h : i < l.length) : l.Perm (l[i] :: l.eraseIdx i) := by
  rw [List.eraseIdx_eq_take_drop_succ]
  conv => lhs; rw [← List.take_append_drop i l, ← List.getElem_cons_drop h]
  exact List.perm_middle
theorem nums_erase (S : List Rec) (j : Nat) : numsOf (S.eraseIdx j) = (numsOf S).eraseIdx j := by
  unfold numsOf
  exact (erase_map ..).symm
theorem ok_toGo {f : Addr} {fd : FuncData} (F : Fun K "leaders_to_go" "Desk.leaders_to_go" sToGo f fd) (T : Txt K mg CD CR) (MC : MethF P w K mg base CD "chosen" 6 ["self", "field", "numbers"] (spChosen K CD CR tb)) (ML : MethF P w K mg base CD "leader" 5 ["self", "field", "numbers"] (spLeader K CD CR tb)) :
    FnOk P w K mg base CX0 7 f fd ["self", "field", "numbers", "value"] (spToGo K CD CR tb) := by
  refine F.ok scToGo (fun vs H Q E h => ?_) (fun cdv A outer s H vs Q E hr h => ?_)
  · obtain ⟨d, b, s, L, f, v, rs, rfl, _⟩ := h
    rfl
  · obtain ⟨d, b, s, L, fi, v, rs, rfl, D, W, hf, NA, hnd, hv0, hT, k⟩ := h
    have hr5 : Room 5 _ := hr.mono (by decide)
    refine ⟨_, pss_cons (ps_set (i := 4) scToGo.nd rfl (.inl rfl) (pe_callTy call_list_of (by rfl) T.list (by decide +kernel) (pa_cons (pv 2) pa_nil)))
      (pss_cons (ps_while PassesOwn.never (pt_cmpR op_eq (pe_m (pv 0) T.clD MC hr (pa_cons (pv 1) (pa_cons (pv 4) pa_nil))) (pv 3) (nomark _))
        (pss_one (ps_expr (pe_bm PySem.F.plainAttrs_list PySem.F.slot_list_remove PySem.F.type_list_remove mt_remove (pv 4) (pa_cons (pe_m (pv 0) T.clD ML hr5 (pa_cons (pv 1) (pa_cons (pv 4) pa_nil))) pa_nil)))))
      (pss_one (ps_ret (pe_op op_sub (pe_callB call_len_seq (by rfl) T.len PySem.boot_len (pa_cons (pv 2) pa_nil)) (pe_callB call_len_seq (by rfl) T.len PySem.boot_len (pa_cons (pv 4) pa_nil)))))), ?_⟩
    refine ⟨_, rfl, b, _, rfl, .inl NA.sq, fun p hp => ?_⟩
    refine ⟨fun m σ H' => ∃ S : List Rec, m = S.length ∧ σ = [some (.ref d), some (iv fi), some (.ref b), some (iv v), some (.ref p)] ∧ Sofar tb H H' ∧ H' p = some (.lst (ivs (numsOf S))) ∧ (∀ r ∈ S, r ∈ rs) ∧ (numsOf S).Nodup ∧ S.length ≤ rs.length ∧
      ∀ i, Least s fi (Rl06.rule s fi) v S i → Least s fi (Rl06.rule s fi) v rs (rs.length - S.length + i), ?_, ?_⟩
    · exact ⟨rs.length, rs, rfl, rfl, ⟨extN_same (Same.new hp), hT.ext (Same.new hp)⟩, upd_same, fun r h => h, hnd, Nat.le_refl _, fun i h => by rw [Nat.sub_self, Nat.zero_add]; exact h⟩
    · rintro m σ H' ⟨S, rfl, rfl, so, hS, sub, ndS, lenS, low⟩
      have D1 := D.extN so.ext
      obtain ⟨dx, hd⟩ := D1.ob
      have NS : NumsAt K H' s p S := ⟨SqL.of hS, fun r hr => NA.sub r (sub r hr), Nat.le_trans lenS NA.few⟩
      refine ⟨_, rfl, d, dx, _, rfl, hd, deskF_meth (by decide +kernel), _, rfl, _, rfl, d, p, s, L, fi, S, rfl, D1, W, hf, NS, so.tab, fun H2 so2 => ?_⟩
      refine ⟨_, rfl, rfl, _, rfl, ?_⟩
      have hS2 := so2.ext _ _ hS (fun ps z => by cases z)
      have so02 := so.trans so2
      by_cases c : Rl06.chosen s S fi (Rl06.rule s fi) = v
      · refine ifT (decide_eq_true (by rw [c])) ?_
        have hne : S ≠ [] := fun z => hv0 (by rw [← c, z]; rfl)
        have D2 := D1.extN so2.ext
        obtain ⟨dx2, hd2⟩ := D2.ob
        refine ⟨fun σ' H3 => ∃ S' : List Rec, S'.length < S.length ∧ σ' = [some (.ref d), some (iv fi), some (.ref b), some (iv v), some (.ref p)] ∧ Sofar tb H H3 ∧ H3 p = some (.lst (ivs (numsOf S'))) ∧ (∀ r ∈ S', r ∈ rs) ∧ (numsOf S').Nodup ∧ S'.length ≤ rs.length ∧
          ∀ i, Least s fi (Rl06.rule s fi) v S' i → Least s fi (Rl06.rule s fi) v rs (rs.length - S'.length + i), ?_, ?_⟩
        · rintro σ' H3 ⟨S', e0, e1, e2, e3, e4, e5, e6, e7⟩
          exact ⟨S'.length, e0, S', rfl, e1, e2, e3, e4, e5, e6, e7⟩
        refine ⟨_, rfl, .inl ⟨rfl, _, SqL.of hS2⟩, _, rfl, d, dx2, _, rfl, hd2, deskF_meth (by decide +kernel), _, rfl, _, rfl, d, p, s, L, fi, S, rfl, D2, W, hf, NS.extN so2.ext, hne, so2.tab, fun H3 l ll so3 => ?_⟩
        have hS3 := so3.ext _ _ hS2 (fun ps z => by cases z)
        obtain ⟨j, hj⟩ := List.mem_iff_getElem?.mp ll.1
        obtain ⟨hjl, ej⟩ := List.getElem?_eq_some_iff.mp hj
        refine ⟨p, Rl06.ints (numsOf S), (l.num : Int), j, rfl, rfl, (by rw [← ivs_nums]; exact hS3), ?_, fun m' hm' e => ?_, ?_⟩
        · unfold Rl06.ints numsOf
          rw [List.getElem?_map, List.getElem?_map, hj]; rfl
        · have e1 : (numsOf S)[m']? = some l.num := by
            unfold Rl06.ints at e
            rw [List.getElem?_map] at e
            obtain ⟨z, hz, ez⟩ := Option.map_eq_some_iff.mp e
            rw [hz, show z = l.num by omega]
          have e2 : (numsOf S)[j]? = some l.num := by
            unfold numsOf
            rw [List.getElem?_map, hj]; rfl
          have := nd_ix ndS e1 e2
          omega
        · have pm : S.Perm (l :: S.eraseIdx j) := by
            rw [← ej]
            exact erase_perm hjl
          have len1 : (S.eraseIdx j).length = S.length - 1 := List.length_eraseIdx_of_lt hjl
          have e3 : ((Rl06.ints (numsOf S)).eraseIdx j).map V.int = ivs (numsOf (S.eraseIdx j)) := by
            rw [nums_erase, ivs_ints]
            unfold Rl06.ints
            rw [erase_map]
          rw [e3]
          have hpS : H p = none := hp
          refine ⟨S.eraseIdx j, by omega, rfl, ⟨fun b' o e n => ?_, ?_⟩, upd_same, fun r hr => sub r ((List.eraseIdx_sublist S j).subset hr), ?_, by omega, fun i hi => ?_⟩
          · rw [upd_ne (ne_of_none e hpS)]
            exact (so02.trans so3).ext b' o e n
          · obtain ⟨ps, t1, t2, t3⟩ := so3.tab
            have np : ∀ b' o, H3 b' = some o → (∀ xs, o ≠ .lst xs) → b' ≠ p := fun b' o e n z => by
              rw [z, hS3] at e
              exact n _ (Option.some.inj e).symm
            refine ⟨ps, (upd_ne (np _ _ t1 (fun xs z => by cases z))).trans t1, t2, fun pos cv hcv => ?_⟩
            obtain ⟨c0, x1, x2⟩ := t3 pos cv hcv
            exact ⟨c0, x1, (upd_ne (np _ _ x2 (fun xs z => by unfold CodeO at z; cases z))).trans x2⟩
          · rw [nums_erase]
            exact (List.eraseIdx_sublist _ _).nodup ndS
          · have := low (i + 1) (Least.succ c ll.1 ll.2 pm hi)
            have e4 : rs.length - (S.eraseIdx j).length + i = rs.length - S.length + (i + 1) := by omega
            rw [e4]
            exact this
      · refine ifF (decide_eq_false (fun z => c (by injection z with z; omega))) ?_
        have lz := low 0 (Least.zero c)
        rw [Nat.add_zero] at lz
        refine ⟨_, rfl, b, _, rfl, .inl (extN_seq so02.ext NA.sq), _, rfl, p, _, rfl, .inl (SqL.of hS2), _, _, rfl, rfl, ?_⟩
        have := k H2 _ lz so02
        have e : ((ivs (numsOf rs)).length : Int) - ((ivs (numsOf S)).length : Int) = ((rs.length - S.length : Nat) : Int) := by
          rw [ivs_len, ivs_len, numsOf_len, numsOf_len]; omega
        show Q (.int (((ivs (numsOf rs)).length : Int) - ((ivs (numsOf S)).length : Int))) H2
        rw [e]
        exact this
end
end Md

set_option Elab.async false
set_option maxRecDepth 100000
set_option maxHeartbeats 4000000
set_option linter.unusedVariables false
/-! Which records go. -/
namespace Md
open PySem PySem.Spec PyProof.Rows L2 LamX NdefX
open Rl06 (Rec)
theorem Wf.nums_nd {s : Rl06.St} (W : Wf s) : (s.recs.map (·.num)).Nodup := W.nums.imp fun h => Nat.ne_of_lt h
theorem sayers_nd {s : Rl06.St} (W : Wf s) (t f : Nat) : ((Rl06.sayers s t f).map (·.num)).Nodup := (List.Sublist.map _ List.filter_sublist).nodup W.nums_nd
theorem sayers_few {s : Rl06.St} (W : Wf s) (t f : Nat) : (Rl06.sayers s t f).length ≤ 12 := Nat.le_trans (List.length_filter_le _ _) W.most
theorem sayers_sub {s : Rl06.St} {t f : Nat} : ∀ r ∈ Rl06.sayers s t f, r ∈ s.recs := fun r h => (sayers_says h).1
theorem kept_filter (rs : List Rec) (A : List Nat) (x : Nat) : (keptOf rs A).filter (fun r => r.num != x) = keptOf rs (A ++ [x]) := by
  rw [keptOf_append]
  apply List.filter_congr
  intro r _
  rw [Bool.eq_iff_iff, bne_iff_ne, Bool.not_eq_true', Bool.eq_false_iff, ne_eq, ne_eq, List.contains_iff_mem, List.mem_singleton]
theorem keptOf_len (rs : List Rec) (A : List Nat) : (keptOf rs A).length ≤ rs.length := List.length_filter_le _ _
/-- it is none of those that stood (the tables aside) -/
def Fresh (H : Hp) (p : Addr) : Prop := ∀ b o, H b = some o → (∀ ps, o ≠ .tbl ps) → b ≠ p
theorem fresh_of {tb : Addr} {H H' : Hp} {p : Addr} (so : Sofar tb H H') (h : H' p = none) : Fresh H p := fun b o e n => ne_of_none (so.ext b o e n) h
section
variable {P : Program} {w : World} {K : PySem.W.Frag} {mg : Str → Option Value} {base : Heap} {CD CR tb : Addr}
abbrev sFewGo : Stmt := inClass (top 9) 13
theorem scFewGo : FnScope ["self", "field", "numbers", "value", "kept", "still", "gone", "number", "rest", "other"] ["self", "field", "numbers"] (defScope sFewGo) := ⟨rfl, rfl, rfl, by decide +kernel, rfl, by decide +kernel, by decide +kernel⟩
def spFewGo (K : PySem.W.Frag) (CD CR tb : Addr) : Sp := fun vs H Q _ => ∃ (d b : Addr) (s : Rl06.St) (L : Lay) (t f : Nat), vs = [.ref d, iv f, .ref b] ∧ DeskAt CD CR H d s L ∧ Wf s ∧ Rl06.isField s f = true ∧ SqL K H b (ivs (numsOf (Rl06.sayers s t f))) ∧ Rl06.sayers s t f ≠ [] ∧ TabS H tb lamQ ∧
  ∀ (H' : Hp) (p : Addr) (l : List Nat), Rl06.fewest s t f = some l → l.length ≤ 12 → Sofar tb H H' → Fresh H p → H' p = some (.lst (ivs l)) → Q (.ref p) H'
theorem ok_fewGo {f : Addr} {fd : FuncData} (F : Fun K "fewest_to_go" "Desk.fewest_to_go" sFewGo f fd) (T : Txt K mg CD CR) (MC : MethF P w K mg base CD "chosen" 6 ["self", "field", "numbers"] (spChosen K CD CR tb)) (MG : MethF P w K mg base CD "leaders_to_go" 7 ["self", "field", "numbers", "value"] (spToGo K CD CR tb)) :
    FnOk P w K mg base CX0 8 f fd ["self", "field", "numbers"] (spFewGo K CD CR tb) := by
  refine F.ok scFewGo (fun vs H Q E h => ?_) (fun cdv A outer s H vs Q E hr h => ?_)
  · obtain ⟨d, b, s, L, t, f, rfl, _⟩ := h
    rfl
  · obtain ⟨d, b, s, L, t, fi, rfl, D, W, hf, hb, hne, hT, k⟩ := h
    obtain ⟨dx, hd⟩ := D.ob
    have hr6 : Room 6 _ := hr.mono (by decide)
    refine ⟨_, pss_cons (ps_set (i := 3) scFewGo.nd rfl (.inl rfl) (pe_m (pv 0) T.clD MC hr6 (pa_cons (pv 1) (pa_cons (pv 2) pa_nil))))
      (pss_cons (ps_set (i := 4) scFewGo.nd rfl (.inl rfl) (pe_callTy call_list_of (by rfl) T.list (by decide +kernel) (pa_cons (pv 2) pa_nil)))
      (pss_cons (ps_set (i := 5) scFewGo.nd rfl (.inl rfl) (pe_m (pv 0) T.clD MG hr (pa_cons (pv 1) (pa_cons (pv 4) (pa_cons (pv 3) pa_nil)))))
      (pss_cons (ps_set (i := 6) scFewGo.nd rfl (.inl rfl) (pe_lst pa_nil))
      (pss_cons (ps_for PassesOwn.never rfl (pi_list (pv 2)) (pg_name (i := 7) scFewGo.nd rfl (Or.inr rfl))
        (pss_cons (ps_setLc (i := 8) (own := [("other", 9)]) (g := gName 9) (tt := tTest (tOp rNe (tVar 9) (tVar 7))) (te := tVar 9) (by rfl) scFewGo.nd rfl rfl (sw_true rfl rfl rfl (by decide +kernel)) (pi_list (pv 4)) (blkOk_by (own := [("other", 9)]) (N := ["self", "field", "numbers", "value", "kept", "still", "gone", "number", "rest", "other"]) (sc := defScope sFewGo) (by decide +kernel)) (fun _ _ _ _ _ => pg_name (i := 9) scFewGo.nd rfl (Or.inl rfl)) (fun _ _ _ _ _ => pts_one (pt_cmpR op_ne (pv 9) (pv 7) (nomark _))) (fun _ _ _ _ _ => pv 9))
        (pss_one (ps_if (pt_cmpR op_lt (pe_m (pv 0) T.clD MG hr (pa_cons (pv 1) (pa_cons (pv 8) (pa_cons (pv 3) pa_nil)))) (pv 5) (nomark _))
          (pss_cons (ps_expr (pe_bm PySem.F.plainAttrs_list PySem.F.slot_list_append PySem.F.type_list_append mt_append (pv 6) (pa_cons (pv 7) pa_nil)))
          (pss_cons (ps_set (i := 4) scFewGo.nd rfl (.inl rfl) (pv 8))
          (pss_one (ps_set (i := 5) scFewGo.nd rfl (.inl rfl) (pe_op op_sub (pv 5) pe_int))))) pss_nil))))
      (pss_one (ps_ret (pv 6))))))), ?_⟩
    have nd := sayers_nd W t fi
    have few := sayers_few W t fi
    have hv0 : Rl06.chosen s (Rl06.sayers s t fi) fi (Rl06.rule s fi) ≠ 0 := fun z => hne ((chosen_zero (fun r hr => (sayers_says hr).2.2)).mp z)
    -- value = self.chosen(field, numbers)
    refine ⟨_, rfl, d, dx, _, rfl, hd, deskF_meth (by decide +kernel), _, rfl, _, rfl, d, b, s, L, fi, Rl06.sayers s t fi, rfl, D, W, hf, ⟨hb, sayers_sub, few⟩, hT, fun H1 so1 => ?_⟩
    have hb1 := extN_seq so1.ext hb
    -- kept = list(numbers)
    refine ⟨_, rfl, b, _, rfl, .inl hb1, fun p hp => ?_⟩
    have so2 := so1.same (Same.new (o := .lst (ivs (numsOf (Rl06.sayers s t fi)))) hp)
    have D2 := D.extN so2.ext
    obtain ⟨dx2, hd2⟩ := D2.ob
    -- still = self.leaders_to_go(field, kept, value)
    refine ⟨_, rfl, d, dx2, _, rfl, hd2, deskF_meth (by decide +kernel), _, rfl, _, rfl, _, rfl, d, p, s, L, fi, _, Rl06.sayers s t fi, rfl, D2, W, hf, ⟨SqL.of upd_same, sayers_sub, few⟩, nd, hv0, so2.tab, fun H3 j0 lj so3 => ?_⟩
    have hp3 := so3.ext _ _ upd_same (fun ps z => by cases z)
    have so03 := so2.trans so3
    -- gone = []
    refine ⟨Nat.zero_le _, fun g hg => ?_⟩
    have npg : p ≠ g := ne_of_none hp3 hg
    have so4 := so03.same (Same.new (o := .lst []) hg)
    refine ⟨_, rfl, b, rfl, ⟨_, extN_seq so4.ext hb⟩, ?_⟩
    have fg : Fresh H g := fresh_of so03 hg
    refine for_list (K := K) (a := b) (xs := ivs (numsOf (Rl06.sayers s t fi))) (fun i σ H' => ∃ (A : List Nat) (j : Nat) (pk : Addr) (v7 v8 v9 : Option V), σ = [some (.ref d), some (iv fi), some (.ref b), some (iv (Rl06.chosen s (Rl06.sayers s t fi) fi (Rl06.rule s fi))), some (.ref pk), some (iv j), some (.ref g), v7, v8, v9] ∧
      Sofar tb H H' ∧ H' pk = some (.lst (ivs (numsOf (keptOf (Rl06.sayers s t fi) A)))) ∧ H' g = some (.lst (ivs A)) ∧ pk ≠ g ∧ A.length ≤ i ∧
      Try s fi (Rl06.rule s fi) (Rl06.chosen s (Rl06.sayers s t fi) fi (Rl06.rule s fi)) (Rl06.sayers s t fi) A ((numsOf (Rl06.sayers s t fi)).take i) ((numsOf (Rl06.sayers s t fi)).drop i) j (Rl06.fewest s t fi)) ?_ ?_ ?_ ?_
    · refine ⟨[], j0, p, none, none, none, rfl, so4, ?_, upd_same, npg, Nat.le_refl _, Try.start nd lj⟩
      rw [upd_ne npg, keptOf_nil]
      exact hp3
    · rintro i σ H' _ ⟨A, j, pk, v7, v8, v9, _, so, _⟩
      exact extN_seq so.ext hb
    · rintro i x σ H' hi ⟨A, j, pk, v7, v8, v9, rfl, so, hk, hgl, npk, hAl, tr⟩
      obtain ⟨r, hr1, rfl⟩ := nums_get hi
      have hxi : (numsOf (Rl06.sayers s t fi))[i]? = some r.num := by
        unfold numsOf
        rw [List.getElem?_map, hr1]; rfl
      have hil := (List.getElem?_eq_some_iff.mp hxi).1
      have hil12 : i < 12 := by rw [numsOf_len] at hil; omega
      have edrop : (numsOf (Rl06.sayers s t fi)).drop i = r.num :: (numsOf (Rl06.sayers s t fi)).drop (i + 1) := by
        rw [List.drop_eq_getElem_cons hil]
        congr 1
        exact (List.getElem?_eq_some_iff.mp hxi).2
      have etake : (numsOf (Rl06.sayers s t fi)).take (i + 1) = (numsOf (Rl06.sayers s t fi)).take i ++ [r.num] := by
        rw [List.take_add_one, hxi]; rfl
      rw [edrop] at tr
      -- rest = [other for other in kept if other != number]
      refine ⟨_, rfl, pk, rfl, ⟨_, SqL.of hk⟩, fun Dn hn => ?_⟩
      have nkD : pk ≠ Dn := ne_of_none hk hn
      have ngD : g ≠ Dn := ne_of_none hgl hn
      have klen := keptOf_len (Rl06.sayers s t fi) A
      refine lc_list (K := K) (a := pk) (xs := ivs (numsOf (keptOf (Rl06.sayers s t fi) A))) (fun i' H2 => (∀ b, b ≠ Dn → H2 b = H' b) ∧ H2 Dn = some (.lst (ivs (numsOf (((keptOf (Rl06.sayers s t fi) A).take i').filter fun q => q.num != r.num))))) ⟨fun b hb => upd_ne hb, upd_same⟩ (fun i' H2 _ h => SqL.of ((h.1 _ nkD).trans hk)) ?_ ?_
      · rintro i' x H2 hi' ⟨h, hD⟩
        obtain ⟨q, hq1, rfl⟩ := nums_get hi'
        have et := take_filter (p := fun q => q.num != r.num) hq1
        refine ⟨rfl, _, rfl, _, rfl, rfl, _, rfl, ?_⟩
        by_cases c : q.num = r.num
        · refine ifF (by rw [c]; simp) ⟨h, ?_⟩
          rw [hD, et, if_neg (by simp [c]), List.append_nil]
        · refine ifT (by
            rw [Bool.not_eq_true', decide_eq_false_iff_not]
            exact fun z => c (by injection z with z; omega)) ?_
          refine ⟨_, rfl, _, hD, ?_, fun b hb => (upd_ne hb).trans (h b hb), ?_⟩
          · rw [ivs_len, numsOf_len]
            refine small1000 (Nat.le_trans (List.length_filter_le _ _) ?_)
            rw [List.length_take]
            omega
          · rw [upd_same, et, if_pos (by simpa using c)]
            unfold numsOf ivs
            rw [List.map_append, List.map_append]
            rfl
      · rintro H2 ⟨h, hD⟩
        rw [ivs_len, numsOf_len, List.take_length, kept_filter] at hD
        have sm : Same H' H2 := fun b' o e => (h b' (ne_of_none e hn)).trans e
        have so5 := so.same sm
        have D5 := D.extN so5.ext
        obtain ⟨dx5, hd5⟩ := D5.ob
        have klen2 := keptOf_len (Rl06.sayers s t fi) (A ++ [r.num])
        -- if self.leaders_to_go(field, rest, value) < still
        refine ⟨_, rfl, d, dx5, _, rfl, hd5, deskF_meth (by decide +kernel), _, rfl, _, rfl, _, rfl, d, Dn, s, L, fi, _, keptOf (Rl06.sayers s t fi) (A ++ [r.num]), rfl, D5, W, hf, ⟨SqL.of hD, fun q hq => sayers_sub q (keptOf_mem.mp hq).1, Nat.le_trans klen2 few⟩, keptOf_nums nd _, hv0, so5.tab, fun H6 i6 li so6 => ?_⟩
        have so06 := so5.trans so6
        have hD6 := so6.ext _ _ hD (fun ps z => by cases z)
        have hg6 := so6.ext _ _ (sm _ _ hgl) (fun ps z => by cases z)
        have hk6 := so6.ext _ _ (sm _ _ hk) (fun ps z => by cases z)
        refine ⟨_, rfl, _, _, rfl, rfl, _, rfl, ?_⟩
        by_cases c : i6 < j
        · refine ifT (decide_eq_true (by omega)) ?_
          have t2 := tr.go nd li c
          rw [← etake] at t2
          -- gone.append(number); kept = rest; still = still - 1
          refine ⟨_, rfl, .inl ⟨rfl, _, SqL.of hg6⟩, _, rfl, g, _, _, rfl, rfl, hg6, (by rw [ivs_len]; exact small1000 (by omega)), ?_⟩
          refine ⟨_, rfl, _, rfl, _, _, rfl, rfl, ?_⟩
          have ej : ((j : Int) - 1) = ((j - 1 : Nat) : Int) := by omega
          refine ⟨A ++ [r.num], j - 1, Dn, some (iv r.num), some (.ref Dn), v9, ?_, ⟨fun b' o e n => ?_, ?_⟩, ?_, ?_, ngD.symm, ?_, t2⟩
          · rw [show iv (j - 1) = .int ((j : Int) - 1) from congrArg V.int ej.symm]
            rfl
          · rw [upd_ne (fg b' o e n)]
            exact so06.ext b' o e n
          · obtain ⟨ps, t1, t2, t3⟩ := so6.tab
            have np : ∀ b' o, H6 b' = some o → (∀ xs, o ≠ .lst xs) → b' ≠ g := fun b' o e n z => by
              rw [z, hg6] at e
              exact n _ (Option.some.inj e).symm
            refine ⟨ps, (upd_ne (np _ _ t1 (fun xs z => by cases z))).trans t1, t2, fun pos cv hcv => ?_⟩
            obtain ⟨c0, x1, x2⟩ := t3 pos cv hcv
            exact ⟨c0, x1, (upd_ne (np _ _ x2 (fun xs z => by unfold CodeO at z; cases z))).trans x2⟩
          · rw [upd_ne ngD.symm]
            exact hD6
          · rw [upd_same]
            unfold ivs
            rw [List.map_append]
            rfl
          · rw [List.length_append, List.length_singleton]; omega
        · refine ifF (decide_eq_false (by omega)) ?_
          have t2 := tr.stay nd li c
          rw [← etake] at t2
          exact ⟨A, j, pk, some (iv r.num), some (.ref Dn), v9, rfl, so06, hk6, hg6, npk, by omega, t2⟩
    · rintro σ H' ⟨A, j, pk, v7, v8, v9, rfl, so, hk, hgl, npk, hAl, tr⟩
      rw [ivs_len, List.drop_length] at tr
      refine ⟨_, rfl, k H' g A (tr.done nd) ?_ so fg hgl⟩
      rw [ivs_len, numsOf_len] at hAl
      omega
end
end Md

set_option Elab.async false
set_option maxRecDepth 100000
set_option maxHeartbeats 4000000
set_option linter.unusedVariables false
/-! turn_wrong, set_pin. -/
namespace Md
open PySem PySem.Spec PyProof.Rows L2 L2.DX
open Rl06 (Rec)
/-! ### d.pop(k), the key a tuple -/
section
variable {X : Cx}
def rPopT1 : V → List V → Hp → VK → Prop := fun x xs H Q => ∃ (a : Addr) (kvs : List (List L2.Key × V)) (k : List L2.Key) (b : Addr) (v : V), x = .ref a ∧ xs = [.ref b] ∧ H a = some (.dT kvs) ∧ H b = some (.tup (k.map kV)) ∧ valV kvs k = some v ∧ Q v (upd H a (.dT (dropK kvs k)))
theorem mt_popT1 (hu : X.A.units + 1 < cLine) : MtR X "dict.pop" rPopT1 := by
  intro pins s σ H x xs v us Q I rx rxs h
  obtain ⟨a, kvs, k, b, v1, rfl, rfl, ha, hb, hv, q1⟩ := h
  cases rx
  obtain rfl := Vals.ref1 rxs
  obtain ⟨z, hd, xs', rel, dd⟩ := dt_of I.hok ha
  have hz : xs'.length ≤ sizeLine := by rw [← Paired.length rel]; exact z
  have r := rel.val k
  rw [hv] at r
  obtain ⟨p, hp, rv⟩ : ∃ p, atKey xs' k = some p ∧ RelV v1 p.2 := by
    cases ep : atKey xs' k with
    | none => rw [ep] at r; exact (show False from r).elim
    | some p => rw [ep] at r; exact ⟨p, rfl, r⟩
  refine call_pop_heap (more := []) (.inl rfl) (PySem.F.args_dict_pop_2 _ _) (tupleKind_room_in1 hu) (key_of I.hok hb) hd dd hp (fun h' dd' hs => ?_) hz
  obtain ⟨o, es, ep, hq, h2, h3, h4, _, h5⟩ := dd'
  have I2 : Inv X pins σ (upd H a (.dT (dropK kvs k))) { s with heap := h', toks := s.toks + (tupleKind (mixKind X.prog X.w)).draws k } :=
    d_write I (by rw [ha]; exact True.intro) hs ⟨o, hq⟩ ⟨Nat.le_trans (dropK_le kvs k) z, hd, _, (KT_drop k rel).keeps (fun c ys ec => (by rw [upd_ne (ne_of ec ha (fun z => nomatch z))]; exact ec)), o, es, ep, hq, h2, h3, h4, h5⟩
  exact ⟨v1, _, I2, rv, q1⟩
end
section
variable {P : Program} {w : World} {K : PySem.W.Frag} {mg : Str → Option Value} {base : Heap} {CD CR : Addr}

/-! ### turn_wrong -/
abbrev sTurn : Stmt := top 45
theorem scTurn : FnScope ["desk", "number", "field", "record"] ["desk", "number", "field"] (defScope sTurn) := ⟨rfl, rfl, rfl, by decide +kernel, rfl, by decide +kernel, by decide +kernel⟩
theorem ok_turn {f : Addr} {fd : FuncData} (F : Fun K "turn_wrong" "turn_wrong" sTurn f fd) (T : Txt K mg CD CR) (T2 : Cst K mg) (MR : MethF P w K mg base CD "has_record" 1 ["self", "number"] (spHasRecord CD CR)) (MF : MethF P w K mg base CD "has_field" 1 ["self", "field"] (spHasField CD CR)) :
    FnOk P w K mg base CX0 2 f fd ["desk", "number", "field"] (spOp2 CD CR .wrong) := by
  refine F.ok scTurn (fun vs H Q E h => ?_) (fun cdv A outer s H vs Q E hr h => ?_)
  · obtain ⟨d, s, L, a, b, rfl, _⟩ := h
    rfl
  · obtain ⟨d, s, L, n, fi, rfl, D, W, k⟩ := h
    obtain ⟨dx, hd⟩ := D.ob
    have hu := hu_of hr
    refine ⟨_, pss_cons (ps_if (PW.pt (pw_or (pt_not (pt_val (pe_m (pv 0) T.clD MR hr (pa_cons (pv 1) pa_nil)))) (pw_or1 (pt_not (pt_val (pe_m (pv 0) T.clD MF hr (pa_cons (pv 2) pa_nil))))))) (pss_one (ps_ret (pe_gint rfl T2.such))) pss_nil)
      (pss_cons (ps_set (i := 3) scTurn.nd rfl (.inl rfl) (pe_dget hu (pe_fld (pv 0) rfl) (pv 1) (fun _ _ => rfl)))
      (pss_cons (ps_asg (pe_not (pe_ix ix_list (pe_fld (pv 3) rfl) (pe_op op_sub (pv 2) pe_int) (fun _ _ => rfl))) (pg_sub (pe_fld (pv 3) rfl) (pe_op op_sub (pv 2) pe_int) set_list))
      (pss_one (ps_ret (pe_ifExp (pt_val (pe_ix ix_list (pe_fld (pv 3) rfl) (pe_op op_sub (pv 2) pe_int) (fun _ _ => rfl))) pe_int pe_int))))), ?_⟩
    refine ⟨_, rfl, d, dx, _, rfl, hd, deskF_meth (by decide +kernel), _, rfl, d, s, L, n, rfl, D, _, rfl, ?_⟩
    cases hn : Rl06.recAt s n with
    | none =>
      refine iteT (iteT ?_)
      refine k.same D ?_
      dsimp only [Rl06.step]
      rw [hn]
    | some r =>
      refine iteF ?_
      have es : Rl06.step s (.wrong n fi) = (if Rl06.isField s fi = false then (s, [-3]) else if r.wrong.contains fi = true then (Rl06.setRec s { r with wrong := r.wrong.filter fun g => g != fi }, [0]) else (Rl06.setRec s { r with wrong := r.wrong ++ [fi] }, [1])) := by
        dsimp only [Rl06.step]
        rw [hn]
      refine ⟨_, rfl, d, dx, _, rfl, hd, deskF_meth (by decide +kernel), _, rfl, d, s, L, fi, rfl, D, _, rfl, ?_⟩
      cases hf : Rl06.isField s fi with
      | false =>
        rw [if_pos hf] at es
        exact iteT (k.same D es)
      | true =>
        rw [if_neg (by rw [hf]; exact Bool.noConfusion)] at es
        refine iteF ?_
        obtain ⟨h1, h2⟩ := isField_iff.mp hf
        obtain ⟨i, q, hi, hq, hv⟩ := D.val_some hn
        have R := D.rc i r q hi hq
        have RO := W.rok r (List.mem_of_getElem? hi)
        obtain ⟨⟨dr, r1⟩, r2, r3⟩ := id R
        obtain ⟨n12, n13, n23⟩ := own_q D.nd hq
        have hx : (fi : Int) - 1 = ((fi - 1 : Nat) : Int) := by omega
        have hb : ((wbits s.rules.length r.wrong).map V.bl)[fi - 1]? = some (.bl (r.wrong.contains fi)) := by
          rw [List.getElem?_map, wbits_get (by omega), show fi - 1 + 1 = fi by omega]; rfl
        have hm := List.mem_of_getElem? hq
        refine ⟨_, rfl, d, CD, dx, _, _, rfl, hd, T.clD, T.nRecords, deskF_records _ _, _, rfl, L.D, .ref q.1, rfl, (by have g := DGet.k (k := Sum.inl (n : Int)) D.dc; rw [hv] at g; exact g), ?_⟩
        refine ⟨_, rfl, q.1, CR, dr, _, _, rfl, r1, T.clR, T.nWrong, recF_wrong _ _, _, rfl, _, _, rfl, rfl, q.2.2, _, _, _, rfl, rfl, SqL.of r3, at_of hx hb, _, rfl, ?_⟩
        refine ⟨_, rfl, q.1, CR, dr, _, _, rfl, r1, T.clR, T.nWrong, recF_wrong _ _, _, rfl, _, _, rfl, rfl, q.2.2, _, _, fi - 1, rfl, rfl, r3, ixN_nat hx (by rw [List.length_map, wbits_len]; omega), ?_⟩
        have hset : ∀ b : Bool, (((wbits s.rules.length r.wrong).map V.bl).set (fi - 1) (.bl b))[fi - 1]? = some (.bl b) := fun b => by
          rw [List.getElem?_set_self (by rw [List.length_map, wbits_len]; omega)]
        refine ⟨_, rfl, q.1, CR, dr, _, _, rfl, (upd_ne n13).trans r1, T.clR, T.nWrong, recF_wrong _ _, _, rfl, _, _, rfl, rfl, q.2.2, _, _, _, rfl, rfl, SqL.of upd_same, at_of hx (hset _), _, rfl, ?_⟩
        have kp : ∀ b, Keep (L.own d) (L.own d) H (upd H q.2.2 (.lst (((wbits s.rules.length r.wrong).map V.bl).set (fi - 1) (.bl b)))) := fun b => Keep.upd (Keep.refl _ _) (.inl (q_own hm (by unfold q3; simp)))
        have off : ∀ o : HO, ∀ b ∈ L.own d, b ∉ q3 q → upd H q.2.2 o b = H b := fun o b _ hb => by
          unfold q3 at hb
          simp only [List.mem_cons, List.not_mem_nil, or_false, not_or] at hb
          rw [upd_ne hb.2.2]
        cases hc : r.wrong.contains fi with
        | true =>
          rw [if_pos hc] at es
          refine iteF ?_
          refine k.to es (D.setRec W hi hq rfl ⟨⟨dr, (upd_ne n13).trans r1⟩, (upd_ne n23).trans r2, ?_⟩ (off _)) (kp false)
          refine upd_same.trans ?_
          show some (HO.lst (((wbits s.rules.length r.wrong).map V.bl).set (fi - 1) (.bl false))) = _
          rw [wbits_mapset, wbits_right h1]
        | false =>
          rw [if_neg (by rw [hc]; exact Bool.noConfusion)] at es
          refine iteT ?_
          refine k.to es (D.setRec W hi hq rfl ⟨⟨dr, (upd_ne n13).trans r1⟩, (upd_ne n23).trans r2, ?_⟩ (off _)) (kp true)
          refine upd_same.trans ?_
          show some (HO.lst (((wbits s.rules.length r.wrong).map V.bl).set (fi - 1) (.bl true))) = _
          rw [wbits_mapset, wbits_wrong h1]

/-! ### set_pin -/
theorem nodup_len {α : Type} [DecidableEq α] : ∀ {l m : List α}, l.Nodup → (∀ x ∈ l, x ∈ m) → l.length ≤ m.length
  | [], m, _, _ => Nat.zero_le _
  | a :: l, m, nd, h => by
    obtain ⟨n1, n2⟩ := List.nodup_cons.mp nd
    have ha := h a List.mem_cons_self
    have := nodup_len (l := l) (m := m.erase a) n2 fun x hx => (List.mem_erase_of_ne (fun e : x = a => n1 (by rw [← e]; exact hx))).mpr (h x (List.mem_cons_of_mem _ hx))
    rw [List.length_erase_of_mem ha] at this
    have : 0 < m.length := List.length_pos_of_mem ha
    rw [List.length_cons]
    omega

theorem Wf.pins_few {s : Rl06.St} (W : Wf s) : s.pins.length ≤ 1000 := by
  have sub : ∀ k ∈ s.pins.map (·.1), k ∈ (List.range 5).flatMap fun a => (List.range 5).map fun b => (a, b) := fun k hk => by
    obtain ⟨p, hp, rfl⟩ := List.mem_map.mp hk
    obtain ⟨⟨_, h2⟩, ⟨_, h4⟩, _⟩ := W.pok p hp
    have := W.rlen
    exact List.mem_flatMap.mpr ⟨p.1.1, List.mem_range.mpr (by omega), List.mem_map.mpr ⟨p.1.2, List.mem_range.mpr (by omega), rfl⟩⟩
  have := nodup_len W.pnd sub
  rw [List.length_map] at this
  exact Nat.le_trans this (by decide)
theorem pinned_pos {s : Rl06.St} (W : Wf s) {t f v : Nat} (h : Rl06.pinned s t f = some v) : v ≠ 0 := by
  unfold Rl06.pinned at h
  obtain ⟨p, hp, rfl⟩ := Option.map_eq_some_iff.mp h
  have := (W.pok p (List.mem_of_find?_eq_some hp)).2.2.1
  omega
theorem pinned_none {s : Rl06.St} {t f : Nat} (h : Rl06.pinned s t f = none) : (s.pins.filter fun x => x.1 != (t, f)) = s.pins := by
  unfold Rl06.pinned at h
  rw [Option.map_eq_none_iff, List.find?_eq_none] at h
  exact List.filter_eq_self.mpr fun p hp => by
    have := h p hp
    simpa using this
theorem pkey_tup (t f : Nat) : (pkey t f).map kV = [iv t, iv f] := rfl
abbrev sPin : Stmt := top 46
theorem scPin : FnScope ["desk", "thing", "field", "value", "earlier"] ["desk", "thing", "field", "value"] (defScope sPin) := ⟨rfl, rfl, rfl, by decide +kernel, rfl, by decide +kernel, by decide +kernel⟩
theorem ok_pin {f : Addr} {fd : FuncData} (F : Fun K "set_pin" "set_pin" sPin f fd) (T : Txt K mg CD CR) (T2 : Cst K mg) (MT : MethF P w K mg base CD "has_thing" 1 ["self", "thing"] spHasThing) (MF : MethF P w K mg base CD "has_field" 1 ["self", "field"] (spHasField CD CR)) :
    FnOk P w K mg base CX0 2 f fd ["desk", "thing", "field", "value"] (spOp3 CD CR .pin) := by
  refine F.ok scPin (fun vs H Q E h => ?_) (fun cdv A outer s H vs Q E hr h => ?_)
  · obtain ⟨d, s, L, a, b, c, rfl, _⟩ := h
    rfl
  · obtain ⟨d, s, L, t, fi, va, rfl, D, W, k⟩ := h
    obtain ⟨dx, hd⟩ := D.ob
    have hu := hu_of hr
    refine ⟨_, pss_cons (ps_if (PW.pt (pw_or (pt_not (pt_val (pe_m (pv 0) T.clD MT hr (pa_cons (pv 1) pa_nil)))) (pw_or1 (pt_not (pt_val (pe_m (pv 0) T.clD MF hr (pa_cons (pv 2) pa_nil))))))) (pss_one (ps_ret (pe_gint rfl T2.such))) pss_nil)
      (pss_cons (ps_if (pt_cmpR op_gt (pv 3) (pe_gint rfl T2.mostValue) (nomark _)) (pss_one (ps_ret (pe_gint rfl T2.not))) pss_nil)
      (pss_cons (ps_set (i := 4) scPin.nd rfl (.inl rfl) (pe_dget2 hu (pe_fld (pv 0) rfl) (pe_tup (pa_cons (pv 1) (pa_cons (pv 2) pa_nil))) pe_int ⟨rfl, rfl, rfl, rfl⟩))
      (pss_cons (ps_if (pt_cmpR op_ne (pv 3) pe_int (nomark _)) (pss_one (ps_dput hu (pe_fld (pv 0) rfl) (pe_tup (pa_cons (pv 1) (pa_cons (pv 2) pa_nil))) (pv 3) rfl))
        (pss_one (ps_if (pt_cmpR op_ne (pv 4) pe_int (nomark _)) (pss_one (ps_expr (pe_bm PySem.F.plainAttrs_dict PySem.F.slot_dict_pop PySem.F.type_dict_pop (mt_popT1 hu) (pe_fld (pv 0) rfl) (pa_cons (pe_tup (pa_cons (pv 1) (pa_cons (pv 2) pa_nil))) pa_nil)))) pss_nil)))
      (pss_one (ps_ret (pv 4)))))), ?_⟩
    have es : Rl06.step s (.pin t fi va) = (if Rl06.isThing t = false ∨ Rl06.isField s fi = false then (s, [-3]) else if 1000 < va then (s, [-1]) else
      ({ s with pins := if va = 0 then s.pins.filter (fun x => x.1 != (t, fi)) else s.pins.filter (fun x => x.1 != (t, fi)) ++ [((t, fi), va)] }, Rl06.ints [(Rl06.pinned s t fi).getD 0])) := rfl
    refine ⟨_, rfl, d, dx, _, rfl, hd, deskF_meth (by decide +kernel), _, rfl, d, t, rfl, _, rfl, ?_⟩
    cases ht : Rl06.isThing t with
    | false =>
      rw [if_pos (.inl ht)] at es
      exact iteT (iteT (k.same D es))
    | true =>
    refine iteF ?_
    refine ⟨_, rfl, d, dx, _, rfl, hd, deskF_meth (by decide +kernel), _, rfl, d, s, L, fi, rfl, D, _, rfl, ?_⟩
    cases hf : Rl06.isField s fi with
    | false =>
      rw [if_pos (.inr hf)] at es
      exact iteT (k.same D es)
    | true =>
    rw [if_neg (by rw [ht, hf]; simp)] at es
    refine iteF ?_
    refine ⟨_, rfl, _, _, rfl, rfl, _, rfl, ?_⟩
    by_cases h4 : 1000 < va
    · rw [if_pos h4] at es
      exact ifT (decide_eq_true (by omega)) (k.same D es)
    rw [if_neg h4] at es
    refine ifF (decide_eq_false (by omega)) ?_
    have two : ([iv t, iv fi] : List V).length ≤ sizeLine := by show 2 ≤ sizeLine; decide
    -- earlier = desk.pins.get((thing, field), 0)
    refine ⟨_, rfl, d, CD, dx, _, _, rfl, hd, T.clD, T.nPins, deskF_pins _ _, L.P, rfl, .inr ⟨_, .inl D.pn⟩, _, rfl, _, rfl, two, fun u hu1 => ?_⟩
    have D1 : DeskAt CD CR (upd H u (.tup [iv t, iv fi])) d s L := D.new hu1
    obtain ⟨dx1, hd1⟩ := D1.ob
    refine ⟨_, DGet.t (k := pkey t fi) D1.pn upd_same, ?_⟩
    have eg := D.pin_get W t fi
    rw [eg]
    have ee : ((Rl06.pinned s t fi).map iv).getD (.int 0) = iv ((Rl06.pinned s t fi).getD 0) := by
      cases Rl06.pinned s t fi <;> rfl
    rw [ee]
    have kp1 : Keep (L.own d) (L.own d) H (upd H u (.tup [iv t, iv fi])) := Keep.upd (Keep.refl _ _) (.inr hu1)
    -- if value != 0
    refine ⟨_, rfl, rfl, _, rfl, ?_⟩
    by_cases hv : va = 0
    · subst hv
      rw [if_pos rfl] at es
      refine ifF rfl ?_
      refine ⟨_, rfl, rfl, _, rfl, ?_⟩
      cases hpn : Rl06.pinned s t fi with
      | none =>
        refine ifF rfl ?_
        refine ⟨_, rfl, ?_⟩
        rw [pinned_none hpn, hpn] at es
        exact k.to (z := 0) (s' := s) es D1 kp1
      | some v0 =>
        have v00 := pinned_pos W hpn
        refine ifT (by
          rw [Bool.not_eq_true', decide_eq_false_iff_not]
          exact fun z => v00 (by injection z with z; exact Int.ofNat.inj z)) ?_
        refine ⟨_, rfl, d, CD, dx1, _, _, rfl, hd1, T.clD, T.nPins, deskF_pins _ _, .inr (.inr (.inl ⟨rfl, .inr ⟨_, D1.pn⟩⟩)), _, rfl, _, rfl, two, fun u2 hu2 => ?_⟩
        have D2 : DeskAt CD CR (upd (upd H u (.tup [iv t, iv fi])) u2 (.tup [iv t, iv fi])) d s L := D1.new hu2
        have hu20 : H u2 = none := by
          rw [upd_ne (fun e => by rw [e, upd_same] at hu2; cases hu2)] at hu2
          exact hu2
        refine ⟨L.P, _, pkey t fi, u2, iv v0, rfl, rfl, D2.pn, upd_same, (by rw [eg, hpn]; rfl), ?_⟩
        refine ⟨_, rfl, ?_⟩
        rw [hpn] at es
        refine k.to es (D2.dropPin t fi) ?_
        exact Keep.upd (Keep.upd kp1 (.inr hu20)) (.inl (mem_own.mpr (.inr (.inr (.inr (.inr (.inl rfl)))))))
    · rw [if_neg hv] at es
      refine ifT (by
        rw [Bool.not_eq_true', decide_eq_false_iff_not]
        exact fun z => hv (by injection z with z; omega)) ?_
      refine ⟨_, rfl, _, rfl, d, CD, dx1, _, _, rfl, hd1, T.clD, T.nPins, deskF_pins _ _, _, rfl, _, rfl, two, fun u2 hu2 => ?_⟩
      have D2 : DeskAt CD CR (upd (upd H u (.tup [iv t, iv fi])) u2 (.tup [iv t, iv fi])) d s L := D1.new hu2
      have hu20 : H u2 = none := by
        rw [upd_ne (fun e => by rw [e, upd_same] at hu2; cases hu2)] at hu2
        exact hu2
      have hps : (pinKvs L.ps).length < sizeLine := by
        rw [D.pin_len]
        exact small1000 (Wf.pins_few W)
      refine ⟨L.P, _, rfl, DPut.t (k := pkey t fi) D2.pn upd_same hps, ?_⟩
      refine ⟨_, rfl, ?_⟩
      refine k.to es (D2.putPin W t fi va) ?_
      exact Keep.upd (Keep.upd kp1 (.inr hu20)) (.inl (mem_own.mpr (.inr (.inr (.inr (.inr (.inl rfl)))))))
end
end Md

set_option Elab.async false
set_option maxRecDepth 100000
set_option maxHeartbeats 4000000
set_option linter.unusedVariables false
/-! one_field, tell_one, tell_why, tell_conflicts, tell_fewest, tell_counts. -/
namespace Md
open PySem PySem.Spec PyProof.Rows L2 L2.DX LamX
open Rl06 (Rec)
/-! ### len(set(xs)) -/
theorem firstMet_take (ns : List Int) : ∀ i, i ≤ ns.length → firstMet (fun i => ns.getD i 0) i = (ns.take i).foldl step_dedup []
  | 0, _ => rfl
  | i + 1, hi => by
    have hlt : i < ns.length := hi
    have e : ns.getD i 0 = ns[i] := by rw [List.getD_eq_getElem?_getD, List.getElem?_eq_getElem hlt] <;> rfl
    rw [firstMet_succ, firstMet_take ns i (Nat.le_of_lt hlt), List.take_add_one, List.getElem?_eq_getElem hlt, List.foldl_append, e]
    rfl
def tLenSetN (K : PySem.W.Frag) (ta : TE) : TE := fun σ H Q => ta σ H fun x H1 => ∃ (l : Addr) (ns : List Int), x = .ref l ∧ SqL K H1 l (ns.map V.int) ∧ ns.length ≤ 1000 ∧ Q (.int ((ns.foldl step_dedup []).length : Nat)) H1
theorem pe_lenSetN {X : Cx} {a : Expr} {ta : TE} {p p2 q pos : Pos} (hg : Gl X "len") (hm : X.mg "len" = none) (hg2 : Gl X "set") (hm2 : X.mg "set" = none) (ha : PE X a ta) (hc : X.calm = true := by rfl)
    (na : starEach [a] X.env = (false, eval a X.env) :: starEach [] X.env := by rfl) : PE X (.Call (.Name "len" p) [.Call (.Name "set" p2) [a] [] q] [] pos) (tLenSetN X.K ta) := by
  refine ⟨fun pins s σ H Q I h => ?_⟩
  refine Call_ (ld_blt I hg hm PySem.boot_len ?_)
  refine PyProof.Rows.callWith_builtin1 (PyProof.Rows.args_cons ?_ rfl) rfl rfl
  refine Call_ (ld_blt I hg2 hm2 PyProof.Rows.boot_set ?_)
  refine PyProof.Rows.callWith_type1 (PyProof.Rows.args_cons (thn (ha.run pins s σ H _ I h) fun v s1 ⟨x, H1, I1, r1, q1⟩ => PyProof.Rows.args_nil ?_) na) na rfl
  obtain ⟨l, ns, rfl, hq, hl, q1⟩ := q1
  cases r1
  obtain ⟨its, r, pl, hz⟩ := I1.list hq
  have hlen : its.toArray.size = ns.length := by rw [List.size_toArray, ← r.length, List.length_map]
  have le := firstMet_length_le (fun i => ns.getD i 0) ns.length
  refine call_set_list (I1.ok.hd hc) pl.isList (ns := ns) (by simpa using r.ints) (by rw [hlen]; unfold scanBound; omega) fun h' tk hS hk => ?_
  refine PyProof.Rows.args_nil ?_
  rw [hlen] at hS
  obtain ⟨o, es, ep, t, ho, hex, hd, _, _, _, hf, hn⟩ := hS
  have I2 : Inv X pins σ H1 { s1 with heap := h', toks := tk } := I1.kept fun b o e => hk b o (Heap.lt_size e) e
  have e : firstMet (fun i => ns.getD i 0) ns.length = ns.foldl step_dedup [] := by
    rw [firstMet_take ns ns.length (Nat.le_refl _), List.take_length]
  refine call_len_set ho hex hd hf (by rw [hn]; omega) ⟨.int ((ns.foldl step_dedup []).length : Nat), H1, I2.tok _, ⟨_, by rw [hn, e]⟩, q1⟩
theorem dedup_ints : ∀ (l m : List Nat), (Rl06.ints l).foldl step_dedup (Rl06.ints m) = Rl06.ints (l.foldl (fun m x => if m.contains x = true then m else m ++ [x]) m)
  | [], m => rfl
  | x :: l, m => by
    show (Rl06.ints l).foldl step_dedup (step_dedup (Rl06.ints m) (x : Int)) = Rl06.ints (l.foldl _ (if m.contains x = true then m else m ++ [x]))
    have e : step_dedup (Rl06.ints m) (x : Int) = Rl06.ints (if m.contains x = true then m else m ++ [x]) := by
      unfold step_dedup
      have ea : (Rl06.ints m).any (· == (x : Int)) = m.contains x := by
        rw [Bool.eq_iff_iff, List.any_eq_true, List.contains_iff_mem]
        unfold Rl06.ints
        constructor
        · rintro ⟨y, hy, e⟩
          obtain ⟨z, hz, rfl⟩ := List.mem_map.mp hy
          have := beq_iff_eq.mp e
          rw [show x = z by omega]; exact hz
        · intro h
          exact ⟨(x : Int), List.mem_map.mpr ⟨x, h, rfl⟩, beq_self_eq_true _⟩
      rw [ea]
      by_cases c : m.contains x = true
      · rw [if_pos c, if_pos c]
      · rw [if_neg c, if_neg c]
        unfold Rl06.ints
        rw [List.map_append]
        rfl
    rw [e]
    exact dedup_ints l _
theorem distinct_ints (l : List Nat) : ((Rl06.ints l).foldl step_dedup []).length = (Rl06.distinct l).length := by
  have := dedup_ints l []
  rw [show Rl06.ints [] = [] from rfl] at this
  rw [this]
  unfold Rl06.distinct Rl06.ints
  rw [List.length_map]
/-! ### -/
structure Cst5 (K : PySem.W.Frag) (mg : Str → Option Value) : Prop where
  nothing : GInt mg "BY_NOTHING" 0
  choice : GInt mg "BY_CHOICE" 1
  pin : GInt mg "BY_PIN" 2
  said : GInt mg "NOTHING_SAID" (-5)
  range : mg "range" = none
  set : mg "set" = none
/-- the call answers with a new list -/
def TellOk (tb : Addr) (H : Hp) (s : Rl06.St) (c : Rl06.Call) (Q : VK) : Prop := ∀ (H' : Hp) (p : Addr), Sofar tb H H' → Fresh H p → H' p = some (.lst ((Rl06.step s c).2.map V.int)) → Q (.ref p) H'
def spTell0 (CD CR tb : Addr) (c : Rl06.Call) : Sp := fun vs H Q _ => ∃ (d : Addr) (s : Rl06.St) (L : Lay), vs = [.ref d] ∧ DeskAt CD CR H d s L ∧ Wf s ∧ TabS H tb lamQ ∧ TellOk tb H s c Q
def spTell1 (CD CR tb : Addr) (mk : Nat → Rl06.Call) : Sp := fun vs H Q _ => ∃ (d : Addr) (s : Rl06.St) (L : Lay) (a : Nat), vs = [.ref d, iv a] ∧ DeskAt CD CR H d s L ∧ Wf s ∧ TabS H tb lamQ ∧ TellOk tb H s (mk a) Q
def spTell2 (CD CR tb : Addr) (mk : Nat → Nat → Rl06.Call) : Sp := fun vs H Q _ => ∃ (d : Addr) (s : Rl06.St) (L : Lay) (a b : Nat), vs = [.ref d, iv a, iv b] ∧ DeskAt CD CR H d s L ∧ Wf s ∧ TabS H tb lamQ ∧ TellOk tb H s (mk a b) Q
theorem Sofar.refl {tb : Addr} {H : Hp} (t : TabS H tb lamQ) : Sofar tb H H := ⟨ExtN.refl _, t⟩
theorem Sofar.fresh {tb : Addr} {H H' : Hp} {p : Addr} (so : Sofar tb H H') (f : Fresh H' p) : Fresh H p := fun b o e n => f b o (so.ext b o e n) n
theorem fresh_none {H : Hp} {p : Addr} (h : H p = none) : Fresh H p := fun b o e _ => ne_of_none e h
/-- a list of one's own is written -/
theorem Sofar.write {tb : Addr} {H H' : Hp} {p : Addr} {xs ys : List V} (so : Sofar tb H H') (f : Fresh H p) (h : H' p = some (.lst xs)) : Sofar tb H (upd H' p (.lst ys)) := by
  refine ⟨fun b o e n => ?_, ?_⟩
  · rw [upd_ne (f b o e n)]
    exact so.ext b o e n
  · obtain ⟨ps, t1, t2, t3⟩ := so.tab
    have np : ∀ b o, H' b = some o → (∀ xs, o ≠ .lst xs) → b ≠ p := fun b o e n z => by
      rw [z, h] at e
      exact n _ (Option.some.inj e).symm
    refine ⟨ps, (upd_ne (np _ _ t1 (fun xs z => by cases z))).trans t1, t2, fun pos cv hcv => ?_⟩
    obtain ⟨c0, x1, x2⟩ := t3 pos cv hcv
    exact ⟨c0, x1, (upd_ne (np _ _ x2 (fun xs z => by unfold CodeO at z; cases z))).trans x2⟩
section
variable {P : Program} {w : World} {K : PySem.W.Frag} {mg : Str → Option Value} {base : Heap} {CD CR tb : Addr}

/-! ### one_field -/
abbrev sOneField : Stmt := top 47
theorem scOneField : FnScope ["desk", "thing", "field", "value"] ["desk", "thing", "field"] (defScope sOneField) := ⟨rfl, rfl, rfl, by decide +kernel, rfl, by decide +kernel, by decide +kernel⟩
def spOneField (CD CR tb : Addr) : Sp := fun vs H Q _ => ∃ (d : Addr) (s : Rl06.St) (L : Lay) (t f : Nat), vs = [.ref d, iv t, iv f] ∧ DeskAt CD CR H d s L ∧ Wf s ∧ Rl06.isField s f = true ∧ TabS H tb lamQ ∧
  ∀ (H' : Hp) (p : Addr), Sofar tb H H' → Fresh H p → H' p = some (.lst (ivs [(Rl06.field s t f).1, (Rl06.field s t f).2])) → Q (.ref p) H'
theorem ok_oneField {f : Addr} {fd : FuncData} (F : Fun K "one_field" "one_field" sOneField f fd) (T : Txt K mg CD CR) (T5 : Cst5 K mg) (MC : MethF P w K mg base CD "chosen" 6 ["self", "field", "numbers"] (spChosen K CD CR tb)) (MN : MethF P w K mg base CD "numbers_saying" 2 ["self", "thing", "field"] (spNumsSay CD CR)) :
    FnOk P w K mg base CX0 7 f fd ["desk", "thing", "field"] (spOneField CD CR tb) := by
  refine F.ok scOneField (fun vs H Q E h => ?_) (fun cdv A outer s H vs Q E hr h => ?_)
  · obtain ⟨d, s, L, t, f, rfl, _⟩ := h
    rfl
  · obtain ⟨d, s, L, t, fi, rfl, D, W, hf, hT, k⟩ := h
    obtain ⟨dx, hd⟩ := D.ob
    have hu := hu_of hr
    have hr2 : Room 2 _ := hr.mono (by decide)
    refine ⟨_, pss_cons (ps_if (pt_cmp (pc_din hu (pe_tup (pa_cons (pv 1) (pa_cons (pv 2) pa_nil))) (pe_fld (pv 0) rfl))) (pss_one (ps_ret (pe_lst (pa_cons (pe_gint rfl T5.pin) (pa_cons (pe_dget hu (pe_fld (pv 0) rfl) (pe_tup (pa_cons (pv 1) (pa_cons (pv 2) pa_nil))) (fun _ _ => rfl)) pa_nil))))) pss_nil)
      (pss_cons (ps_set (i := 3) scOneField.nd rfl (.inl rfl) (pe_m (pv 0) T.clD MC hr (pa_cons (pv 2) (pa_cons (pe_m (pv 0) T.clD MN hr2 (pa_cons (pv 1) (pa_cons (pv 2) pa_nil))) pa_nil))))
      (pss_cons (ps_if (pt_cmpR op_eq (pv 3) pe_int (nomark _)) (pss_one (ps_ret (pe_lst (pa_cons (pe_gint rfl T5.nothing) (pa_cons pe_int pa_nil))))) pss_nil)
      (pss_one (ps_ret (pe_lst (pa_cons (pe_gint rfl T5.choice) (pa_cons (pv 3) pa_nil))))))), ?_⟩
    have two : ∀ a b : V, ([a, b] : List V).length ≤ sizeLine := fun a b => by show 2 ≤ sizeLine; decide
    refine ⟨_, rfl, _, rfl, two _ _, fun u hu1 => ?_⟩
    have D1 : DeskAt CD CR (upd H u (.tup [iv t, iv fi])) d s L := D.new hu1
    obtain ⟨dx1, hd1⟩ := D1.ob
    have s1 : Same H (upd H u (.tup [iv t, iv fi])) := Same.new hu1
    have so1 := (Sofar.refl hT).same s1
    have eg := D.pin_get W t fi
    refine ⟨_, rfl, d, CD, dx1, _, _, rfl, hd1, T.clD, T.nPins, deskF_pins _ _, L.P, _, rfl, DGet.t (k := pkey t fi) D1.pn upd_same, _, rfl, ?_⟩
    rw [eg]
    cases hpn : Rl06.pinned s t fi with
    | some v =>
      refine ifT rfl ?_
      have ef : Rl06.field s t fi = (2, v) := by unfold Rl06.field; rw [hpn]
      refine ⟨_, rfl, d, CD, dx1, _, _, rfl, hd1, T.clD, T.nPins, deskF_pins _ _, _, rfl, _, rfl, two _ _, fun u2 hu2 => ?_⟩
      have D2 : DeskAt CD CR (upd (upd H u (.tup [iv t, iv fi])) u2 (.tup [iv t, iv fi])) d s L := D1.new hu2
      have so2 := so1.same (Same.new (o := .tup [iv t, iv fi]) hu2)
      refine ⟨L.P, iv v, rfl, (by have g := DGet.t (k := pkey t fi) D2.pn (b := u2) upd_same; rw [eg, hpn] at g; exact g), two _ _, fun p hp => ?_⟩
      refine k _ p (so2.same (Same.new hp)) (so2.fresh (fresh_none hp)) ?_
      rw [upd_same, ef]
      rfl
    | none =>
      refine ifF rfl ?_
      refine ⟨_, rfl, d, dx1, _, rfl, hd1, deskF_meth (by decide +kernel), _, rfl, _, rfl, d, dx1, _, rfl, hd1, deskF_meth (by decide +kernel), _, rfl, _, rfl, d, s, L, t, fi, rfl, D1, W, hf, fun H2 q s2 hq0 hq => ?_⟩
      have so2 := so1.same s2
      have D2 := D1.same' s2
      refine ⟨d, q, s, L, fi, Rl06.sayers s t fi, rfl, D2, W, hf, ⟨SqL.of hq, sayers_sub, sayers_few W t fi⟩, so2.tab, fun H3 so3 => ?_⟩
      have so03 := so2.trans so3
      refine ⟨_, rfl, rfl, _, rfl, ?_⟩
      have ef : Rl06.field s t fi = if Rl06.chosen s (Rl06.sayers s t fi) fi (Rl06.rule s fi) = 0 then (0, 0) else (1, Rl06.chosen s (Rl06.sayers s t fi) fi (Rl06.rule s fi)) := by
        unfold Rl06.field; rw [hpn]
      by_cases c : Rl06.chosen s (Rl06.sayers s t fi) fi (Rl06.rule s fi) = 0
      · rw [if_pos c] at ef
        refine ifT (decide_eq_true (by rw [c]; rfl)) ?_
        refine ⟨two _ _, fun p hp => ?_⟩
        refine k _ p (so03.same (Same.new hp)) (so03.fresh (fresh_none hp)) ?_
        rw [upd_same, ef]
        rfl
      · rw [if_neg c] at ef
        refine ifF (decide_eq_false (fun z => c (by injection z with z; omega))) ?_
        refine ⟨_, rfl, two _ _, fun p hp => ?_⟩
        refine k _ p (so03.same (Same.new hp)) (so03.fresh (fresh_none hp)) ?_
        rw [upd_same, ef]
        rfl
end
end Md

set_option Elab.async false
set_option maxRecDepth 100000
set_option maxHeartbeats 4000000
set_option linter.unusedVariables false
/-! tell_one, tell_why, tell_conflicts, tell_fewest, tell_counts. -/
namespace Md
open PySem PySem.Spec PyProof.Rows L2 L2.DX LamX
open Rl06 (Rec)
theorem map_ints (l : List Nat) : (Rl06.ints l).map V.int = ivs l := (ivs_ints l).symm
section
variable {P : Program} {w : World} {K : PySem.W.Frag} {mg : Str → Option Value} {base : Heap} {CD CR tb : Addr}

/-! ### tell_one -/
def oneUpTo (s : Rl06.St) (t i : Nat) : List Nat := (s.recs.filter fun r => r.thing == t).length :: ((List.range i).map fun i => i + 1).flatMap fun f => [(Rl06.field s t f).1, (Rl06.field s t f).2]
theorem oneUpTo_succ (s : Rl06.St) (t i : Nat) : oneUpTo s t (i + 1) = oneUpTo s t i ++ [(Rl06.field s t (i + 1)).1, (Rl06.field s t (i + 1)).2] := by
  unfold oneUpTo
  rw [List.range_succ, List.map_append, List.flatMap_append]
  rfl
theorem oneUpTo_len (s : Rl06.St) (t : Nat) : ∀ i, (oneUpTo s t i).length = 2 * i + 1
  | 0 => rfl
  | i + 1 => by
    rw [oneUpTo_succ, List.length_append, oneUpTo_len s t i]
    show 2 * i + 1 + 2 = 2 * (i + 1) + 1
    omega
abbrev sTellOne : Stmt := top 48
theorem scTellOne : FnScope ["desk", "thing", "told", "field"] ["desk", "thing"] (defScope sTellOne) := ⟨rfl, rfl, rfl, by decide +kernel, rfl, by decide +kernel, by decide +kernel⟩
theorem ok_tellOne {f : Addr} {fd : FuncData} (F : Fun K "tell_one" "tell_one" sTellOne f fd) (T : Txt K mg CD CR) (T2 : Cst K mg) (T5 : Cst5 K mg) (MT : MethF P w K mg base CD "has_thing" 1 ["self", "thing"] spHasThing) (MN : MethF P w K mg base CD "numbers_of" 1 ["self", "thing"] (spNumsOf CD CR)) (GO : GlobF P w K mg base "one_field" 7 ["desk", "thing", "field"] (spOneField CD CR tb)) :
    FnOk P w K mg base CX0 8 f fd ["desk", "thing"] (spTell1 CD CR tb .one) := by
  refine F.ok scTellOne (fun vs H Q E h => ?_) (fun cdv A outer s H vs Q E hr h => ?_)
  · obtain ⟨d, s, L, a, rfl, _⟩ := h
    rfl
  · obtain ⟨d, s, L, t, rfl, D, W, hT, k⟩ := h
    obtain ⟨dx, hd⟩ := D.ob
    have hr1 : Room 1 _ := hr.mono (by decide)
    refine ⟨_, pss_cons (ps_if (pt_not (pt_val (pe_m (pv 0) T.clD MT hr1 (pa_cons (pv 1) pa_nil)))) (pss_one (ps_ret (pe_lst (pa_cons (pe_gint rfl T2.such) pa_nil)))) pss_nil)
      (pss_cons (ps_set (i := 2) scTellOne.nd rfl (.inl rfl) (pe_lst (pa_cons (pe_callB call_len_seq (by rfl) T.len PySem.boot_len (pa_cons (pe_m (pv 0) T.clD MN hr1 (pa_cons (pv 1) pa_nil)) pa_nil)) pa_nil)))
      (pss_cons (ps_for PassesOwn.never rfl (pi_range2 (by rfl) T5.range (pa_cons pe_int (pa_cons (pe_op op_add (pe_callB call_len_seq (by rfl) T.len PySem.boot_len (pa_cons (pe_fld (pv 0) rfl) pa_nil)) pe_int) pa_nil))) (pg_name (i := 3) scTellOne.nd rfl (Or.inl rfl))
        (pss_one (ps_expr (pe_bm PySem.F.plainAttrs_list PySem.F.slot_list_extend PySem.F.type_list_extend mt_extend (pv 2) (pa_cons (pe_g GO hr rfl (pa_cons (pv 0) (pa_cons (pv 1) (pa_cons (pv 3) pa_nil)))) pa_nil)))))
      (pss_one (ps_ret (pv 2))))), ?_⟩
    have one : ∀ a : V, ([a] : List V).length ≤ sizeLine := fun a => by show 1 ≤ sizeLine; decide
    have es : Rl06.step s (.one t) = (s, if Rl06.isThing t = false then [-3] else Rl06.ints (oneUpTo s t s.rules.length)) := rfl
    have so0 := Sofar.refl hT
    refine ⟨_, rfl, d, dx, _, rfl, hd, deskF_meth (by decide +kernel), _, rfl, d, t, rfl, _, rfl, ?_⟩
    cases ht : Rl06.isThing t with
    | false =>
      rw [if_pos ht] at es
      refine iteT ?_
      refine ⟨one _, fun p hp => k _ p (so0.same (Same.new hp)) (fresh_none hp) ?_⟩
      rw [upd_same, es]
      rfl
    | true =>
    rw [if_neg (by rw [ht]; exact Bool.noConfusion)] at es
    refine iteF ?_
    refine ⟨_, rfl, d, dx, _, rfl, hd, deskF_meth (by decide +kernel), _, rfl, d, s, L, t, rfl, D, W, fun H1 q s1 hq0 hq => ?_⟩
    refine ⟨q, _, rfl, .inl (SqL.of hq), one _, fun g hg => ?_⟩
    have so1 := so0.same s1
    have so2 := so1.same (Same.new (o := .lst [V.int ((ivs (numsOf (s.recs.filter fun r => r.thing == t))).length : Int)]) hg)
    have fg : Fresh H g := so1.fresh (fresh_none hg)
    have D2 := D.extN so2.ext
    obtain ⟨dx2, hd2⟩ := D2.ob
    refine ⟨_, rfl, d, CD, dx2, _, _, rfl, hd2, T.clD, T.nRules, deskF_rules _ _, L.R, _, rfl, .inl (SqL.of D2.rl), _, _, rfl, rfl, 1, _, rfl, ?_, ?_⟩
    · rw [ivs_len]
      have := W.rlen
      exact ⟨by omega, by omega, by omega, by omega⟩
    have en : (((ivs s.rules).length : Int) + 1 - 1).toNat = s.rules.length := by rw [ivs_len]; omega
    rw [en]
    refine for_range (lo := 1) (n := s.rules.length) (fun i σ H' => ∃ v3 : Option V, σ = [some (.ref d), some (iv t), some (.ref g), v3] ∧ Sofar tb H H' ∧ H' g = some (.lst (ivs (oneUpTo s t i)))) ?_ ?_ ?_
    · refine ⟨none, rfl, so2, ?_⟩
      rw [upd_same, ivs_len, numsOf_len]
      rfl
    · rintro i σ H' hi ⟨v3, rfl, so, hgl⟩
      have e1 : (1 : Int) + (i : Int) = ((i + 1 : Nat) : Int) := by omega
      rw [e1]
      have hf : Rl06.isField s (i + 1) = true := isField_iff.mpr ⟨by omega, by omega⟩
      refine ⟨_, rfl, .inl ⟨rfl, _, SqL.of hgl⟩, _, rfl, _, rfl, _, rfl, d, s, L, t, i + 1, rfl, D.extN so.ext, W, hf, so.tab, fun H3 p so3 fp hp => ?_⟩
      have hg3 := so3.ext _ _ hgl (fun ps z => by cases z)
      have so03 := so.trans so3
      refine ⟨g, p, _, _, rfl, rfl, hg3, hp, ?_, ?_⟩
      · rw [ivs_len, ivs_len, oneUpTo_len]
        have := W.rlen
        show 2 * i + 1 + 2 ≤ sizeLine
        exact Nat.le_of_lt (small1000 (by omega))
      · refine ⟨some (iv (i + 1)), rfl, so03.write fg hg3, ?_⟩
        rw [upd_same, oneUpTo_succ]
        unfold ivs
        rw [List.map_append]
    · rintro σ H' ⟨v3, rfl, so, hgl⟩
      refine ⟨_, rfl, k H' g so fg ?_⟩
      rw [hgl, es, map_ints]

/-! ### tell_why -/
abbrev sTellWhy : Stmt := top 49
theorem scTellWhy : FnScope ["desk", "thing", "field", "value", "saying", "numbers", "number"] ["desk", "thing", "field"] (defScope sTellWhy) := ⟨rfl, rfl, rfl, by decide +kernel, rfl, by decide +kernel, by decide +kernel⟩
theorem ok_tellWhy {f : Addr} {fd : FuncData} (F : Fun K "tell_why" "tell_why" sTellWhy f fd) (T : Txt K mg CD CR) (T2 : Cst K mg) (MT : MethF P w K mg base CD "has_thing" 1 ["self", "thing"] spHasThing) (MF : MethF P w K mg base CD "has_field" 1 ["self", "field"] (spHasField CD CR)) (MN : MethF P w K mg base CD "numbers_saying" 2 ["self", "thing", "field"] (spNumsSay CD CR)) (MS : MethF P w K mg base CR "says" 1 ["self", "field"] (spSays CR)) (GO : GlobF P w K mg base "one_field" 7 ["desk", "thing", "field"] (spOneField CD CR tb)) :
    FnOk P w K mg base CX0 8 f fd ["desk", "thing", "field"] (spTell2 CD CR tb .why) := by
  refine F.ok scTellWhy (fun vs H Q E h => ?_) (fun cdv A outer s H vs Q E hr h => ?_)
  · obtain ⟨d, s, L, a, b, rfl, _⟩ := h
    rfl
  · obtain ⟨d, s, L, t, fi, rfl, D, W, hT, k⟩ := h
    obtain ⟨dx, hd⟩ := D.ob
    have hu := hu_of hr
    have hr1 : Room 1 _ := hr.mono (by decide)
    have hr2 : Room 2 _ := hr.mono (by decide)
    refine ⟨_, pss_cons (ps_if (PW.pt (pw_or (pt_not (pt_val (pe_m (pv 0) T.clD MT hr1 (pa_cons (pv 1) pa_nil)))) (pw_or1 (pt_not (pt_val (pe_m (pv 0) T.clD MF hr1 (pa_cons (pv 2) pa_nil))))))) (pss_one (ps_ret (pe_lst (pa_cons (pe_gint rfl T2.such) pa_nil)))) pss_nil)
      (pss_cons (ps_set (i := 3) scTellWhy.nd rfl (.inr rfl) (pe_ix ix_list (pe_g GO hr rfl (pa_cons (pv 0) (pa_cons (pv 1) (pa_cons (pv 2) pa_nil)))) pe_int (fun _ _ => rfl)))
      (pss_cons (ps_set (i := 4) scTellWhy.nd rfl (.inl rfl) (pe_m (pv 0) T.clD MN hr2 (pa_cons (pv 1) (pa_cons (pv 2) pa_nil))))
      (pss_cons (ps_setLc (i := 5) (own := [("number", 6)]) (g := gName 6) (tt := tTest (tOp rEq (tMeth CR "says" (spSays CR) [] E0 (tDGet (tFld K (tVar 0) "records") (tVar 6)) (tCons (tVar 2) tNil)) (tVar 3))) (te := tVar 6) (by rfl) scTellWhy.nd rfl rfl (sw_true rfl rfl rfl (by decide +kernel)) (pi_list (pv 4)) (blkOk_by (own := [("number", 6)]) (N := ["desk", "thing", "field", "value", "saying", "numbers", "number"]) (sc := defScope sTellWhy) (by decide +kernel)) (fun _ _ _ _ _ => pg_name (i := 6) scTellWhy.nd rfl (Or.inl rfl))
        (fun _ _ _ _ _ => pts_one (pt_cmpR op_eq (pe_m (pe_dget hu (pe_fld (pv 0) rfl) (pv 6) (fun _ _ => rfl)) T.clR MS hr1 (pa_cons (pv 2) pa_nil)) (pv 3) (nomark _))) (fun _ _ _ _ _ => pv 6))
      (pss_one (ps_ret (pe_op op_cat (pe_lst (pa_cons (pe_callB call_len_seq (by rfl) T.len PySem.boot_len (pa_cons (pv 5) pa_nil)) pa_nil)) (pv 5))))))), ?_⟩
    have one : ∀ a : V, ([a] : List V).length ≤ sizeLine := fun a => by show 1 ≤ sizeLine; decide
    have es : Rl06.step s (.why t fi) = (s, if Rl06.isThing t = false ∨ Rl06.isField s fi = false then [-3] else Rl06.told (Rl06.why s t fi)) := rfl
    have so0 := Sofar.refl hT
    have bad : Rl06.isThing t = false ∨ Rl06.isField s fi = false → ([V.int (-3)] : List V).length ≤ sizeLine ∧ ∀ p, H p = none → Q (.ref p) (upd H p (.lst [V.int (-3)])) := fun c => by
      rw [if_pos c] at es
      refine ⟨one _, fun p hp => k _ p (so0.same (Same.new hp)) (fresh_none hp) ?_⟩
      rw [upd_same, es]
      rfl
    refine ⟨_, rfl, d, dx, _, rfl, hd, deskF_meth (by decide +kernel), _, rfl, d, t, rfl, _, rfl, ?_⟩
    cases ht : Rl06.isThing t with
    | false => exact iteT (iteT (bad (.inl ht)))
    | true =>
    refine iteF ?_
    refine ⟨_, rfl, d, dx, _, rfl, hd, deskF_meth (by decide +kernel), _, rfl, d, s, L, fi, rfl, D, _, rfl, ?_⟩
    cases hf : Rl06.isField s fi with
    | false => exact iteT (bad (.inr hf))
    | true =>
    rw [if_neg (by rw [ht, hf]; simp)] at es
    obtain ⟨h1, h2⟩ := isField_iff.mp hf
    refine iteF ?_
    refine ⟨_, rfl, _, rfl, _, rfl, d, s, L, t, fi, rfl, D, W, hf, hT, fun H1 p1 so1 fp1 hp1 => ?_⟩
    refine ⟨p1, _, _, _, rfl, rfl, SqL.of hp1, at_of (j := 1) rfl rfl, ?_⟩
    have D1 := D.extN so1.ext
    obtain ⟨dx1, hd1⟩ := D1.ob
    refine ⟨_, rfl, d, dx1, _, rfl, hd1, deskF_meth (by decide +kernel), _, rfl, _, rfl, d, s, L, t, fi, rfl, D1, W, hf, fun H2 q s2 hq0 hq => ?_⟩
    have so2 := so1.same s2
    refine ⟨_, rfl, q, rfl, ⟨_, SqL.of hq⟩, fun Dn hn => ?_⟩
    have nqD : q ≠ Dn := ne_of_none hq hn
    have few := sayers_few W t fi
    refine lc_list (K := K) (a := q) (xs := ivs (numsOf (Rl06.sayers s t fi))) (fun i H' => (∀ b, b ≠ Dn → H' b = H2 b) ∧ H' Dn = some (.lst (ivs (numsOf (((Rl06.sayers s t fi).take i).filter fun r => Rl06.says r fi == (Rl06.field s t fi).2))))) ⟨fun b hb => upd_ne hb, upd_same⟩ (fun i H' _ h => SqL.of ((h.1 _ nqD).trans hq)) ?_ ?_
    · rintro i x H' hi ⟨h, hD⟩
      obtain ⟨r, hr1', rfl⟩ := nums_get hi
      have hm : r ∈ s.recs := sayers_sub r (List.mem_of_getElem? hr1')
      have sm : Same H2 H' := fun b o e => (h b (ne_of_none e hn)).trans e
      have D3 := D.extN (so2.same sm).ext
      obtain ⟨dx3, hd3⟩ := D3.ob
      obtain ⟨q', hv, R⟩ := D3.rec_of W hm
      obtain ⟨⟨dr, r1⟩, r2, r3⟩ := id R
      refine ⟨rfl, _, rfl, d, CD, dx3, _, _, rfl, hd3, T.clD, T.nRecords, deskF_records _ _, _, rfl, L.D, .ref q'.1, rfl, (by have g := DGet.k (k := Sum.inl (r.num : Int)) D3.dc; rw [hv] at g; exact g), q'.1, dr, _, rfl, r1, recF_no, _, rfl, _, fi, r, q', rfl, R, W.rok r hm, h1, h2, _, rfl, rfl, _, rfl, ?_⟩
      have et := take_filter (p := fun r => Rl06.says r fi == (Rl06.field s t fi).2) hr1'
      by_cases c : Rl06.says r fi = (Rl06.field s t fi).2
      · refine ifT (decide_eq_true (by rw [c])) ?_
        refine ⟨_, rfl, _, hD, ?_, fun b hb => (upd_ne hb).trans (h b hb), ?_⟩
        · rw [ivs_len, numsOf_len]
          refine small1000 (Nat.le_trans (List.length_filter_le _ _) ?_)
          rw [List.length_take]
          omega
        · rw [upd_same, et, if_pos (by simpa using c)]
          unfold numsOf ivs
          rw [List.map_append, List.map_append]
          rfl
      · refine ifF (decide_eq_false (fun z => c (by injection z with z; omega))) ⟨h, ?_⟩
        rw [hD, et, if_neg (by simpa using c), List.append_nil]
    · rintro H' ⟨h, hD⟩
      rw [ivs_len, numsOf_len, List.take_length] at hD
      have hD : H' Dn = some (.lst (ivs (Rl06.why s t fi))) := hD
      have sm : Same H2 H' := fun b o e => (h b (ne_of_none e hn)).trans e
      have so3 := so2.same sm
      have wl : (Rl06.why s t fi).length ≤ 12 := by
        unfold Rl06.why
        rw [List.length_map]
        exact Nat.le_trans (List.length_filter_le _ _) few
      refine ⟨_, rfl, Dn, _, rfl, .inl (SqL.of hD), one _, fun u hu1 => ?_⟩
      have nDu : Dn ≠ u := ne_of_none hD hu1
      refine ⟨_, rfl, u, Dn, _, _, rfl, rfl, upd_same, (upd_ne nDu).trans hD, ?_, fun p hp => ?_⟩
      · rw [ivs_len]
        exact Nat.le_of_lt (small1000 (by show 1 + _ ≤ 1000; omega))
      · have so4 := so3.same (Same.new (o := .lst [V.int ((ivs (Rl06.why s t fi)).length : Int)]) hu1)
        refine k _ p (so4.same (Same.new hp)) (so4.fresh (fresh_none hp)) ?_
        rw [upd_same, es]
        show _ = some (HO.lst ((Rl06.ints ((Rl06.why s t fi).length :: Rl06.why s t fi)).map V.int))
        rw [map_ints, ivs_len]
        rfl
end
end Md

set_option Elab.async false
set_option maxRecDepth 100000
set_option maxHeartbeats 4000000
set_option linter.unusedVariables false
/-! tell_conflicts, tell_fewest, tell_counts. -/
namespace Md
open PySem PySem.Spec PyProof.Rows L2 L2.DX LamX
open Rl06 (Rec)
section
variable {P : Program} {w : World} {K : PySem.W.Frag} {mg : Str → Option Value} {base : Heap} {CD CR tb : Addr}

/-! ### tell_conflicts -/
def confUpTo (s : Rl06.St) (t i : Nat) : List Nat := ((List.range i).map fun i => i + 1).map (Rl06.values s t)
theorem confUpTo_succ (s : Rl06.St) (t i : Nat) : confUpTo s t (i + 1) = confUpTo s t i ++ [Rl06.values s t (i + 1)] := by
  unfold confUpTo
  rw [List.range_succ, List.map_append, List.map_append]
  rfl
theorem confUpTo_len (s : Rl06.St) (t i : Nat) : (confUpTo s t i).length = i := by
  unfold confUpTo
  rw [List.length_map, List.length_map, List.length_range]
abbrev sTellConf : Stmt := top 50
theorem scTellConf : FnScope ["desk", "thing", "told", "field", "spoken"] ["desk", "thing"] (defScope sTellConf) := ⟨rfl, rfl, rfl, by decide +kernel, rfl, by decide +kernel, by decide +kernel⟩
theorem ok_tellConf {f : Addr} {fd : FuncData} (F : Fun K "tell_conflicts" "tell_conflicts" sTellConf f fd) (T : Txt K mg CD CR) (T2 : Cst K mg) (T5 : Cst5 K mg) (MT : MethF P w K mg base CD "has_thing" 1 ["self", "thing"] spHasThing) (MN : MethF P w K mg base CD "numbers_saying" 2 ["self", "thing", "field"] (spNumsSay CD CR)) (MV : MethF P w K mg base CD "values_said" 2 ["self", "field", "numbers"] (spValsSaid K CD CR)) :
    FnOk P w K mg base CX0 3 f fd ["desk", "thing"] (spTell1 CD CR tb .conflicts) := by
  refine F.ok scTellConf (fun vs H Q E h => ?_) (fun cdv A outer s H vs Q E hr h => ?_)
  · obtain ⟨d, s, L, a, rfl, _⟩ := h
    rfl
  · obtain ⟨d, s, L, t, rfl, D, W, hT, k⟩ := h
    obtain ⟨dx, hd⟩ := D.ob
    have hr1 : Room 1 _ := hr.mono (by decide)
    refine ⟨_, pss_cons (ps_if (pt_not (pt_val (pe_m (pv 0) T.clD MT hr1 (pa_cons (pv 1) pa_nil)))) (pss_one (ps_ret (pe_lst (pa_cons (pe_gint rfl T2.such) pa_nil)))) pss_nil)
      (pss_cons (ps_set (i := 2) scTellConf.nd rfl (.inl rfl) (pe_lst pa_nil))
      (pss_cons (ps_for PassesOwn.never rfl (pi_range2 (by rfl) T5.range (pa_cons pe_int (pa_cons (pe_op op_add (pe_callB call_len_seq (by rfl) T.len PySem.boot_len (pa_cons (pe_fld (pv 0) rfl) pa_nil)) pe_int) pa_nil))) (pg_name (i := 3) scTellConf.nd rfl (Or.inl rfl))
        (pss_cons (ps_set (i := 4) scTellConf.nd rfl (.inl rfl) (pe_m (pv 0) T.clD MV hr (pa_cons (pv 3) (pa_cons (pe_m (pv 0) T.clD MN hr (pa_cons (pv 1) (pa_cons (pv 3) pa_nil))) pa_nil))))
        (pss_one (ps_expr (pe_bm PySem.F.plainAttrs_list PySem.F.slot_list_append PySem.F.type_list_append mt_append (pv 2) (pa_cons (pe_lenSetN (by rfl) T.len (by rfl) T5.set (pv 4)) pa_nil))))))
      (pss_one (ps_ret (pv 2))))), ?_⟩
    have one : ∀ a : V, ([a] : List V).length ≤ sizeLine := fun a => by show 1 ≤ sizeLine; decide
    have es : Rl06.step s (.conflicts t) = (s, if Rl06.isThing t = false then [-3] else Rl06.ints (confUpTo s t s.rules.length)) := rfl
    have so0 := Sofar.refl hT
    refine ⟨_, rfl, d, dx, _, rfl, hd, deskF_meth (by decide +kernel), _, rfl, d, t, rfl, _, rfl, ?_⟩
    cases ht : Rl06.isThing t with
    | false =>
      rw [if_pos ht] at es
      refine iteT ?_
      refine ⟨one _, fun p hp => k _ p (so0.same (Same.new hp)) (fresh_none hp) ?_⟩
      rw [upd_same, es]
      rfl
    | true =>
    rw [if_neg (by rw [ht]; exact Bool.noConfusion)] at es
    refine iteF ?_
    refine ⟨Nat.zero_le _, fun g hg => ?_⟩
    have so2 := so0.same (Same.new (o := .lst []) hg)
    have fg : Fresh H g := fresh_none hg
    have D2 := D.extN so2.ext
    obtain ⟨dx2, hd2⟩ := D2.ob
    refine ⟨_, rfl, d, CD, dx2, _, _, rfl, hd2, T.clD, T.nRules, deskF_rules _ _, L.R, _, rfl, .inl (SqL.of D2.rl), _, _, rfl, rfl, 1, _, rfl, ?_, ?_⟩
    · rw [ivs_len]
      have := W.rlen
      exact ⟨by omega, by omega, by omega, by omega⟩
    have en : (((ivs s.rules).length : Int) + 1 - 1).toNat = s.rules.length := by rw [ivs_len]; omega
    rw [en]
    refine for_range (lo := 1) (n := s.rules.length) (fun i σ H' => ∃ v3 v4 : Option V, σ = [some (.ref d), some (iv t), some (.ref g), v3, v4] ∧ Sofar tb H H' ∧ H' g = some (.lst (ivs (confUpTo s t i)))) ?_ ?_ ?_
    · exact ⟨none, none, rfl, so2, upd_same⟩
    · rintro i σ H' hi ⟨v3, v4, rfl, so, hgl⟩
      have e1 : (1 : Int) + (i : Int) = ((i + 1 : Nat) : Int) := by omega
      rw [e1]
      have hf : Rl06.isField s (i + 1) = true := isField_iff.mpr ⟨by omega, by omega⟩
      have D3 := D.extN so.ext
      obtain ⟨dx3, hd3⟩ := D3.ob
      refine ⟨_, rfl, d, dx3, _, rfl, hd3, deskF_meth (by decide +kernel), _, rfl, _, rfl, d, dx3, _, rfl, hd3, deskF_meth (by decide +kernel), _, rfl, _, rfl, d, s, L, t, i + 1, rfl, D3, W, hf, fun H4 q s4 hq0 hq => ?_⟩
      refine ⟨d, q, s, L, i + 1, Rl06.sayers s t (i + 1), rfl, D3.same' s4, W, hf, ⟨SqL.of hq, sayers_sub, sayers_few W t (i + 1)⟩, fun H5 u s5 hu0 hu => ?_⟩
      have so5 := (so.same s4).same s5
      have hg5 := s5 _ _ (s4 _ _ hgl)
      refine ⟨_, rfl, .inl ⟨rfl, _, SqL.of hg5⟩, _, rfl, u, Rl06.ints (saysOf (Rl06.sayers s t (i + 1)) (i + 1)), rfl, SqL.of (by rw [map_ints]; exact hu), ?_, ?_⟩
      · unfold Rl06.ints saysOf
        rw [List.length_map, List.length_map]
        have := sayers_few W t (i + 1)
        omega
      · rw [distinct_ints]
        refine ⟨g, _, _, rfl, rfl, hg5, ?_, ?_⟩
        · rw [ivs_len, confUpTo_len]
          have := W.rlen
          exact small1000 (by omega)
        · refine ⟨some (iv (i + 1)), some (.ref u), rfl, so5.write fg hg5, ?_⟩
          rw [upd_same, confUpTo_succ]
          unfold ivs
          rw [List.map_append]
          rfl
    · rintro σ H' ⟨v3, v4, rfl, so, hgl⟩
      refine ⟨_, rfl, k H' g so fg ?_⟩
      rw [hgl, es, map_ints]

/-! ### tell_fewest -/
abbrev sTellFew : Stmt := top 51
theorem scTellFew : FnScope ["desk", "thing", "field", "numbers", "gone"] ["desk", "thing", "field"] (defScope sTellFew) := ⟨rfl, rfl, rfl, by decide +kernel, rfl, by decide +kernel, by decide +kernel⟩
theorem ok_tellFew {f : Addr} {fd : FuncData} (F : Fun K "tell_fewest" "tell_fewest" sTellFew f fd) (T : Txt K mg CD CR) (T2 : Cst K mg) (T5 : Cst5 K mg) (MT : MethF P w K mg base CD "has_thing" 1 ["self", "thing"] spHasThing) (MF : MethF P w K mg base CD "has_field" 1 ["self", "field"] (spHasField CD CR)) (MN : MethF P w K mg base CD "numbers_saying" 2 ["self", "thing", "field"] (spNumsSay CD CR)) (MG : MethF P w K mg base CD "fewest_to_go" 8 ["self", "field", "numbers"] (spFewGo K CD CR tb)) :
    FnOk P w K mg base CX0 9 f fd ["desk", "thing", "field"] (spTell2 CD CR tb .fewest) := by
  refine F.ok scTellFew (fun vs H Q E h => ?_) (fun cdv A outer s H vs Q E hr h => ?_)
  · obtain ⟨d, s, L, a, b, rfl, _⟩ := h
    rfl
  · obtain ⟨d, s, L, t, fi, rfl, D, W, hT, k⟩ := h
    obtain ⟨dx, hd⟩ := D.ob
    have hr1 : Room 1 _ := hr.mono (by decide)
    have hr2 : Room 2 _ := hr.mono (by decide)
    refine ⟨_, pss_cons (ps_if (PW.pt (pw_or (pt_not (pt_val (pe_m (pv 0) T.clD MT hr1 (pa_cons (pv 1) pa_nil)))) (pw_or1 (pt_not (pt_val (pe_m (pv 0) T.clD MF hr1 (pa_cons (pv 2) pa_nil))))))) (pss_one (ps_ret (pe_lst (pa_cons (pe_gint rfl T2.such) pa_nil)))) pss_nil)
      (pss_cons (ps_set (i := 3) scTellFew.nd rfl (.inl rfl) (pe_m (pv 0) T.clD MN hr2 (pa_cons (pv 1) (pa_cons (pv 2) pa_nil))))
      (pss_cons (ps_if (pt_cmpR op_eq (pe_callB call_len_seq (by rfl) T.len PySem.boot_len (pa_cons (pv 3) pa_nil)) pe_int (nomark _)) (pss_one (ps_ret (pe_lst (pa_cons (pe_gint rfl T5.said) pa_nil)))) pss_nil)
      (pss_cons (ps_set (i := 4) scTellFew.nd rfl (.inl rfl) (pe_m (pv 0) T.clD MG hr (pa_cons (pv 2) (pa_cons (pv 3) pa_nil))))
      (pss_one (ps_ret (pe_op op_cat (pe_lst (pa_cons (pe_callB call_len_seq (by rfl) T.len PySem.boot_len (pa_cons (pv 4) pa_nil)) pa_nil)) (pv 4))))))), ?_⟩
    have one : ∀ a : V, ([a] : List V).length ≤ sizeLine := fun a => by show 1 ≤ sizeLine; decide
    have es : Rl06.step s (.fewest t fi) = (s, if Rl06.isThing t = false ∨ Rl06.isField s fi = false then [-3] else match Rl06.fewest s t fi with
      | none => [-5]
      | some l => Rl06.told l) := rfl
    have so0 := Sofar.refl hT
    have bad : Rl06.isThing t = false ∨ Rl06.isField s fi = false → ([V.int (-3)] : List V).length ≤ sizeLine ∧ ∀ p, H p = none → Q (.ref p) (upd H p (.lst [V.int (-3)])) := fun c => by
      rw [if_pos c] at es
      refine ⟨one _, fun p hp => k _ p (so0.same (Same.new hp)) (fresh_none hp) ?_⟩
      rw [upd_same, es]
      rfl
    refine ⟨_, rfl, d, dx, _, rfl, hd, deskF_meth (by decide +kernel), _, rfl, d, t, rfl, _, rfl, ?_⟩
    cases ht : Rl06.isThing t with
    | false => exact iteT (iteT (bad (.inl ht)))
    | true =>
    refine iteF ?_
    refine ⟨_, rfl, d, dx, _, rfl, hd, deskF_meth (by decide +kernel), _, rfl, d, s, L, fi, rfl, D, _, rfl, ?_⟩
    cases hf : Rl06.isField s fi with
    | false => exact iteT (bad (.inr hf))
    | true =>
    rw [if_neg (by rw [ht, hf]; simp)] at es
    refine iteF ?_
    refine ⟨_, rfl, d, dx, _, rfl, hd, deskF_meth (by decide +kernel), _, rfl, _, rfl, d, s, L, t, fi, rfl, D, W, hf, fun H1 q s1 hq0 hq => ?_⟩
    have so1 := so0.same s1
    have D1 := D.same' s1
    obtain ⟨dx1, hd1⟩ := D1.ob
    refine ⟨_, rfl, q, _, rfl, .inl (SqL.of hq), rfl, _, rfl, ?_⟩
    by_cases c : Rl06.sayers s t fi = []
    · refine ifT (decide_eq_true (by rw [c]; rfl)) ?_
      rw [fewest_none c] at es
      refine ⟨one _, fun p hp => k _ p (so1.same (Same.new hp)) (so1.fresh (fresh_none hp)) ?_⟩
      rw [upd_same, es]
      rfl
    · refine ifF (decide_eq_false (fun z => ?_)) ?_
      · injection z with z
        rw [ivs_len, numsOf_len] at z
        exact c (List.length_eq_zero_iff.mp (by omega))
      refine ⟨_, rfl, d, dx1, _, rfl, hd1, deskF_meth (by decide +kernel), _, rfl, _, rfl, d, q, s, L, t, fi, rfl, D1, W, hf, SqL.of hq, c, so1.tab, fun H2 g l hl l12 so2 fg hg => ?_⟩
      have so02 := so1.trans so2
      rw [hl] at es
      refine ⟨_, rfl, g, _, rfl, .inl (SqL.of hg), one _, fun u hu1 => ?_⟩
      have ngu : g ≠ u := ne_of_none hg hu1
      refine ⟨_, rfl, u, g, _, _, rfl, rfl, upd_same, (upd_ne ngu).trans hg, ?_, fun p hp => ?_⟩
      · rw [ivs_len]
        exact Nat.le_of_lt (small1000 (by show 1 + _ ≤ 1000; omega))
      · have so4 := so02.same (Same.new (o := .lst [V.int ((ivs l).length : Int)]) hu1)
        refine k _ p (so4.same (Same.new hp)) (so4.fresh (fresh_none hp)) ?_
        rw [upd_same, es]
        show _ = some (HO.lst ((Rl06.ints (l.length :: l)).map V.int))
        rw [map_ints, ivs_len]
        rfl

/-! ### tell_counts -/
abbrev sTellCnt : Stmt := top 52
theorem scTellCnt : FnScope ["desk"] ["desk"] (defScope sTellCnt) := ⟨rfl, rfl, rfl, by decide +kernel, rfl, by decide +kernel, by decide +kernel⟩
theorem ok_tellCnt {f : Addr} {fd : FuncData} (F : Fun K "tell_counts" "tell_counts" sTellCnt f fd) (T : Txt K mg CD CR) : FnOk P w K mg base CX0 1 f fd ["desk"] (spTell0 CD CR tb .counts) := by
  refine F.ok scTellCnt (fun vs H Q E h => ?_) (fun cdv A outer s H vs Q E hr h => ?_)
  · obtain ⟨d, s, L, rfl, _⟩ := h
    rfl
  · obtain ⟨d, s, L, rfl, D, W, hT, k⟩ := h
    obtain ⟨dx, hd⟩ := D.ob
    refine ⟨_, pss_one (ps_ret (pe_op op_cat (pe_op op_cat (pe_op op_cat (pe_lst (pa_cons (pe_callB call_len_seq (by rfl) T.len PySem.boot_len (pa_cons (pe_fld (pv 0) rfl) pa_nil)) pa_nil)) (pe_fld (pv 0) rfl)) (pe_fld (pv 0) rfl))
      (pe_lst (pa_cons (pe_callB call_lenD (by rfl) T.len PySem.boot_len (pa_cons (pe_fld (pv 0) rfl) pa_nil)) (pa_cons (pe_callB call_len_dT (by rfl) T.len PySem.boot_len (pa_cons (pe_fld (pv 0) rfl) pa_nil)) pa_nil))))), ?_⟩
    have so0 := Sofar.refl hT
    have r4 := W.rlen
    have t4 := W.tlen
    refine ⟨_, rfl, d, CD, dx, _, _, rfl, hd, T.clD, T.nRules, deskF_rules _ _, L.R, _, rfl, .inl (SqL.of D.rl), (by show 1 ≤ sizeLine; decide), fun p1 h1 => ?_⟩
    have D1 : DeskAt CD CR (upd H p1 (.lst [V.int ((ivs s.rules).length : Int)])) d s L := D.new h1
    have so1 := so0.same (Same.new (o := .lst [V.int ((ivs s.rules).length : Int)]) h1)
    obtain ⟨dx1, hd1⟩ := D1.ob
    refine ⟨_, rfl, d, CD, dx1, _, _, rfl, hd1, T.clD, T.nRules, deskF_rules _ _, p1, L.R, _, _, rfl, rfl, upd_same, D1.rl, ?_, fun p2 h2 => ?_⟩
    · rw [ivs_len]
      exact Nat.le_of_lt (small1000 (by show 1 + _ ≤ 1000; omega))
    have D2 := D1.new (o := .lst ([V.int ((ivs s.rules).length : Int)] ++ ivs s.rules)) h2
    have so2 := so1.same (Same.new (o := .lst ([V.int ((ivs s.rules).length : Int)] ++ ivs s.rules)) h2)
    obtain ⟨dx2, hd2⟩ := D2.ob
    refine ⟨_, rfl, d, CD, dx2, _, _, rfl, hd2, T.clD, T.nTrusted, deskF_trusted _ _, p2, L.T, _, _, rfl, rfl, upd_same, D2.tr, ?_, fun p3 h3 => ?_⟩
    · rw [List.length_append, ivs_len, ivs_len]
      exact Nat.le_of_lt (small1000 (by show 1 + _ + _ ≤ 1000; omega))
    have D3 := D2.new (o := .lst ([V.int ((ivs s.rules).length : Int)] ++ ivs s.rules ++ ivs s.trust)) h3
    have so3 := so2.same (Same.new (o := .lst ([V.int ((ivs s.rules).length : Int)] ++ ivs s.rules ++ ivs s.trust)) h3)
    obtain ⟨dx3, hd3⟩ := D3.ob
    refine ⟨_, rfl, d, CD, dx3, _, _, rfl, hd3, T.clD, T.nRecords, deskF_records _ _, L.D, _, rfl, D3.dc, _, rfl, d, CD, dx3, _, _, rfl, hd3, T.clD, T.nPins, deskF_pins _ _, L.P, _, rfl, D3.pn, (by show 2 ≤ sizeLine; decide), fun p4 h4 => ?_⟩
    have n34 : p3 ≠ p4 := ne_of_none upd_same h4
    refine ⟨p3, p4, _, _, rfl, rfl, (upd_ne n34).trans upd_same, upd_same, ?_, fun p hp => ?_⟩
    · rw [List.length_append, List.length_append, ivs_len, ivs_len]
      exact Nat.le_of_lt (small1000 (by show 1 + _ + _ + 2 ≤ 1000; omega))
    have so4 := so3.same (Same.new (o := .lst [V.int ((recKvs s.recs L.qs).length : Int), V.int (((pinKvs L.ps).length : Nat) : Int)]) h4)
    refine k _ p (so4.same (Same.new hp)) (so4.fresh (fresh_none hp)) ?_
    rw [upd_same]
    show _ = some (HO.lst ((Rl06.ints (s.rules.length :: s.rules ++ s.trust ++ [s.recs.length, s.pins.length])).map V.int))
    rw [map_ints, ivs_len, recKvs_len D.len, D.pin_len]
    unfold ivs
    rw [List.map_append, List.map_append]
    rfl
end
end Md

set_option Elab.async false
set_option maxRecDepth 100000
set_option maxHeartbeats 4000000
set_option linter.unusedVariables false
/-! call_end, answer, answers. -/
namespace Md
open PySem PySem.Spec PyProof.Rows L2 LamX
structure Cst3 (K : PySem.W.Frag) (mg : Str → Option Value) : Prop where
  fields : GInt mg "FIELDS" 0
  rule : GInt mg "RULE" 1
  trust : GInt mg "TRUST" 2
  record : GInt mg "RECORD" 3
  remove : GInt mg "REMOVE" 4
  change : GInt mg "CHANGE" 5
  put : GInt mg "PUT" 6
  wrong : GInt mg "WRONG" 7
  pin : GInt mg "PIN" 8
  one : GInt mg "ONE" 9
  why : GInt mg "WHY" 10
  conflicts : GInt mg "CONFLICTS" 11
  fewest : GInt mg "FEWEST" 12
  plain : ∃ a, mg "PLAIN_NUMBERS" = some (.ref a) ∧ ∀ H, SqT K H a (ivs [1, 2, 0, 3, 1, 3, 2, 2, 3, 1, 2, 1, 2, 0])
/-- the calls that answer one number -/
def single : Rl06.Call → Bool
  | .one _ => false
  | .why _ _ => false
  | .conflicts _ => false
  | .fewest _ _ => false
  | .counts => false
  | _ => true
def kindOf : Rl06.Call → Nat
  | .fields _ => 0 | .rule _ _ => 1 | .trust _ => 2 | .record _ _ _ _ => 3 | .remove _ => 4 | .change _ _ _ => 5 | .put _ _ => 6 | .wrong _ _ => 7 | .pin _ _ _ => 8 | .one _ => 9 | .why _ _ => 10 | .conflicts _ => 11 | .fewest _ _ => 12 | .counts => 13
def plainOf : Rl06.Call → Nat
  | .fields _ => 1 | .rule _ _ => 2 | .trust _ => 0 | .record _ _ _ _ => 3 | .remove _ => 1 | .change _ _ _ => 3 | .put _ _ => 2 | .wrong _ _ => 2 | .pin _ _ _ => 3 | .one _ => 1 | .why _ _ => 2 | .conflicts _ => 1 | .fewest _ _ => 2 | .counts => 0
def rowOf : Rl06.Call → Option Nat
  | .trust l => some l.length
  | .record _ _ _ l => some l.length
  | _ => none
theorem enc_kind (c : Rl06.Call) : (enc c)[0]? = some (kindOf c : Int) := by cases c <;> rfl
theorem enc_row {c : Rl06.Call} {n : Nat} (h : rowOf c = some n) : (enc c)[1 + plainOf c]? = some (n : Int) ∧ (enc c).length = 1 + plainOf c + 1 + n ∧ (kindOf c = 2 ∨ kindOf c = 3) := by
  cases c <;> cases h
  · refine ⟨rfl, ?_, .inl rfl⟩
    show (Rl06.ints _).length + 1 + 1 = 1 + 0 + 1 + _
    rw [ints_len]; omega
  · refine ⟨rfl, ?_, .inr rfl⟩
    show (Rl06.ints _).length + 1 + 1 + 1 + 1 + 1 = 1 + 3 + 1 + _
    rw [ints_len]; omega
theorem enc_plain {c : Rl06.Call} (h : rowOf c = none) : (enc c).length = 1 + plainOf c ∧ kindOf c ≠ 2 ∧ kindOf c ≠ 3 := by
  cases c <;> first | (cases h; done) | exact ⟨rfl, by simp [kindOf], by simp [kindOf]⟩
section
variable {P : Program} {w : World} {K : PySem.W.Frag} {mg : Str → Option Value} {base : Heap} {CD CR : Addr}

/-! ### call_end -/
abbrev sEnd : Stmt := top 53
theorem scEnd : FnScope ["calls", "start", "kind", "end"] ["calls", "start"] (defScope sEnd) := ⟨rfl, rfl, rfl, by decide +kernel, rfl, by decide +kernel, by decide +kernel⟩
def spEnd (K : PySem.W.Frag) : Sp := fun vs H Q _ => ∃ (a : Addr) (pre post : List Int) (c : Rl06.Call), vs = [.ref a, .int (pre.length : Int)] ∧ SqL K H a ((pre ++ (enc c ++ post)).map V.int) ∧ Q (.int ((pre.length + (enc c).length : Nat) : Int)) H
theorem mid_get {pre e post : List Int} {i : Nat} {z : Int} (h : e[i]? = some z) : ((pre ++ (e ++ post)).map V.int)[pre.length + i]? = some (V.int z) := by
  rw [List.getElem?_map, List.getElem?_append_right (Nat.le_add_right _ _), Nat.add_sub_cancel_left, List.getElem?_append_left (List.getElem?_eq_some_iff.mp h).1, h]
  rfl
theorem ok_end {f : Addr} {fd : FuncData} (F : Fun K "call_end" "call_end" sEnd f fd) (T3 : Cst3 K mg) : FnOk P w K mg base CX0 1 f fd ["calls", "start"] (spEnd K) := by
  refine F.ok scEnd (fun vs H Q E h => ?_) (fun cdv A outer s H vs Q E hr h => ?_)
  · obtain ⟨a, pre, post, c, rfl, _⟩ := h
    rfl
  · obtain ⟨a, pre, post, c, rfl, ha, k⟩ := h
    obtain ⟨aP, gP, hP⟩ := T3.plain
    refine ⟨_, pss_cons (ps_set (i := 2) scEnd.nd rfl (.inl rfl) (pe_ix ix_list (pv 0) (pv 1) (fun _ _ => rfl)))
      (pss_cons (ps_set (i := 3) scEnd.nd rfl (.inl rfl) (pe_op op_add (pe_op op_add (pv 1) pe_int) (pe_ix ix_tup (pe_glob (v := .ref aP) rfl gP rfl) (pv 2) (fun _ _ => rfl))))
      (pss_cons (ps_if (PW.pt (pw_or (pt_cmpR op_eq (pv 2) (pe_gint rfl T3.trust) (nomark _)) (pw_or1 (pt_cmpR op_eq (pv 2) (pe_gint rfl T3.record) (nomark _)))))
        (pss_one (ps_set (i := 3) scEnd.nd rfl (.inl rfl) (pe_op op_add (pe_op op_add (pv 3) pe_int) (pe_ix ix_list (pv 0) (pv 3) (fun _ _ => rfl))))) pss_nil)
      (pss_one (ps_ret (pv 3))))), ?_⟩
    have hk := mid_get (pre := pre) (post := post) (enc_kind c)
    rw [Nat.add_zero] at hk
    have hpl : (ivs [1, 2, 0, 3, 1, 3, 2, 2, 3, 1, 2, 1, 2, 0])[kindOf c]? = some (iv (plainOf c)) := by
      cases c <;> rfl
    refine ⟨_, rfl, _, rfl, a, _, _, _, rfl, rfl, ha, atI_nat hk, ?_⟩
    refine ⟨_, rfl, _, _, rfl, rfl, _, rfl, aP, _, _, _, rfl, rfl, hP _, atI_nat hpl, _, _, rfl, rfl, ?_⟩
    have e1 : (pre.length : Int) + 1 + (plainOf c : Int) = ((pre.length + (1 + plainOf c) : Nat) : Int) := by omega
    show tSeq _ _ _ ([some (.ref a), some (.int (pre.length : Int)), some (iv (kindOf c)), some (.int ((pre.length : Int) + 1 + (plainOf c : Int)))]) H
    rw [e1]
    refine ⟨_, rfl, rfl, _, rfl, ?_⟩
    cases hrow : rowOf c with
    | none =>
      obtain ⟨el, n2, n3⟩ := enc_plain hrow
      refine ifF (decide_eq_false (by intro z; injection z with z; omega)) ?_
      refine ⟨_, rfl, rfl, _, rfl, ?_⟩
      refine ifF (decide_eq_false (by intro z; injection z with z; omega)) ?_
      refine ⟨_, rfl, ?_⟩
      rw [el] at k
      exact k
    | some n =>
      obtain ⟨er, el, n23⟩ := enc_row hrow
      have hrest : ∀ (σ : L2.St), σ = [some (.ref a), some (.int (pre.length : Int)), some (iv (kindOf c)), some (.int ((pre.length + (1 + plainOf c) : Nat) : Int))] →
          Q (.int (((pre.length + (1 + plainOf c) : Nat) : Int) + 1 + (n : Int))) H := fun σ _ => by
        rw [el] at k
        have e2 : ((pre.length + (1 + plainOf c) : Nat) : Int) + 1 + (n : Int) = ((pre.length + (1 + plainOf c + 1 + n) : Nat) : Int) := by omega
        rw [e2]
        exact k
      have hr2 := mid_get (pre := pre) (post := post) er
      by_cases h2 : kindOf c = 2
      · refine ifT (decide_eq_true (by rw [h2]; rfl)) ?_
        refine iteT ?_
        refine ⟨_, rfl, _, _, rfl, rfl, _, rfl, _, rfl, a, _, _, _, rfl, rfl, ha, atI_nat hr2, _, _, rfl, rfl, ?_⟩
        exact ⟨_, rfl, hrest _ rfl⟩
      · refine ifF (decide_eq_false (by intro z; injection z with z; omega)) ?_
        refine ⟨_, rfl, rfl, _, rfl, ?_⟩
        refine ifT (decide_eq_true (by rw [show kindOf c = 3 by omega]; rfl)) ?_
        refine ⟨_, rfl, _, _, rfl, rfl, _, rfl, _, rfl, a, _, _, _, rfl, rfl, ha, atI_nat hr2, _, _, rfl, rfl, ?_⟩
        exact ⟨_, rfl, hrest _ rfl⟩

/-! ### answer -/
abbrev sAnswer : Stmt := top 54
theorem scAnswer : FnScope ["desk", "call", "kind"] ["desk", "call"] (defScope sAnswer) := ⟨rfl, rfl, rfl, by decide +kernel, rfl, by decide +kernel, by decide +kernel⟩
structure Funs (P : Program) (w : World) (K : PySem.W.Frag) (mg : Str → Option Value) (base : Heap) (CD CR tb : Addr) : Prop where
  setFields : GlobF P w K mg base "set_fields" 2 ["desk", "field_count"] (spOp1 CD CR .fields)
  setRule : GlobF P w K mg base "set_rule" 2 ["desk", "field", "rule"] (spOp2 CD CR .rule)
  setTrust : GlobF P w K mg base "set_trust" 1 ["desk", "sources"] (spTrust K CD CR)
  add : GlobF P w K mg base "add_record" 2 ["desk", "record"] (spAdd CD CR)
  remove : GlobF P w K mg base "remove_record" 2 ["desk", "number"] (spOp1 CD CR .remove)
  change : GlobF P w K mg base "change_value" 2 ["desk", "number", "field", "value"] (spOp3 CD CR .change)
  put : GlobF P w K mg base "put_record" 2 ["desk", "number", "thing"] (spOp2 CD CR .put)
  turn : GlobF P w K mg base "turn_wrong" 2 ["desk", "number", "field"] (spOp2 CD CR .wrong)
  pin : GlobF P w K mg base "set_pin" 2 ["desk", "thing", "field", "value"] (spOp3 CD CR .pin)
  one : GlobF P w K mg base "tell_one" 8 ["desk", "thing"] (spTell1 CD CR tb .one)
  why : GlobF P w K mg base "tell_why" 8 ["desk", "thing", "field"] (spTell2 CD CR tb .why)
  conflicts : GlobF P w K mg base "tell_conflicts" 3 ["desk", "thing"] (spTell1 CD CR tb .conflicts)
  fewest : GlobF P w K mg base "tell_fewest" 9 ["desk", "thing", "field"] (spTell2 CD CR tb .fewest)
  counts : GlobF P w K mg base "tell_counts" 1 ["desk"] (spTell0 CD CR tb .counts)
/-- all that stood and was not the first desk's stands, and is not the second's; the tables aside -/
def KeepN (own own' : List Addr) (H H' : Hp) : Prop := ∀ b o, H b = some o → (∀ ps, o ≠ .tbl ps) → b ∉ own → H' b = some o ∧ b ∉ own'
def spAnswer (K : PySem.W.Frag) (CD CR tb : Addr) : Sp := fun vs H Q _ => ∃ (d b : Addr) (s : Rl06.St) (L : Lay) (c : Rl06.Call), vs = [.ref d, .ref b] ∧ DeskAt CD CR H d s L ∧ Wf s ∧ H b = some (.lst ((enc c).map V.int)) ∧ b ∉ L.own d ∧ okCall c ∧ TabS H tb lamQ ∧
  ∀ (H' : Hp) (L' : Lay) (p : Addr), DeskAt CD CR H' d (Rl06.step s c).1 L' → KeepN (L.own d) (L'.own d) H H' → TabS H' tb lamQ → H' p = some (.lst ((Rl06.step s c).2.map V.int)) → p ∉ L'.own d → (∀ b o, H b = some o → (∀ ps, o ≠ .tbl ps) → b ∉ L.own d → b ≠ p) → Q (.ref p) H'
theorem one_answer {s : Rl06.St} {c : Rl06.Call} (h : single c = true) : (Rl06.step s c).2 = [(Rl06.step s c).2.headD 0] := by
  cases c <;> first | (cases h; done) | skip
  all_goals dsimp only [Rl06.step]
  all_goals (repeat' split) <;> rfl
theorem DeskAt.kinds {CD CR d : Addr} {H : Hp} {s : Rl06.St} {L : Lay} (D : DeskAt CD CR H d s L) {b : Addr} (h : b ∈ L.own d) : ∃ o, H b = some o ∧ (∀ ps, o ≠ .tbl ps) ∧ ∀ f, o ≠ .ext f := by
  rcases mem_own.mp h with rfl | rfl | rfl | rfl | rfl | ⟨q, hq, hb⟩
  · obtain ⟨dx, e⟩ := D.ob; exact ⟨_, e, (fun ps z => by cases z), fun f z => by cases z⟩
  · exact ⟨_, D.rl, (fun ps z => by cases z), fun f z => by cases z⟩
  · exact ⟨_, D.tr, (fun ps z => by cases z), fun f z => by cases z⟩
  · exact ⟨_, D.dc, (fun ps z => by cases z), fun f z => by cases z⟩
  · exact ⟨_, D.pn, (fun ps z => by cases z), fun f z => by cases z⟩
  · obtain ⟨i, hi⟩ := List.mem_iff_getElem?.mp hq
    have hil : i < s.recs.length := by rw [← D.len]; exact (List.getElem?_eq_some_iff.mp hi).1
    obtain ⟨⟨dx, h1⟩, h2, h3⟩ := D.rc i _ q (List.getElem?_eq_getElem hil) hi
    unfold q3 at hb
    simp only [List.mem_cons, List.not_mem_nil, or_false] at hb
    rcases hb with rfl | rfl | rfl
    · exact ⟨_, h1, (fun ps z => by cases z), fun f z => by cases z⟩
    · exact ⟨_, h2, (fun ps z => by cases z), fun f z => by cases z⟩
    · exact ⟨_, h3, (fun ps z => by cases z), fun f z => by cases z⟩
/-- the table stands where all but the desk stands -/
theorem tab_keep {CD CR d tb : Addr} {q : Str} {H H' : Hp} {s : Rl06.St} {L : Lay} {own' : List Addr} (D : DeskAt CD CR H d s L) (k : Keep (L.own d) own' H H') (t : TabS H tb q) : TabS H' tb q := by
  obtain ⟨ps, t1, t2, t3⟩ := t
  have no : ∀ b o, H b = some o → ((∃ ps, o = .tbl ps) ∨ ∃ f, o = .ext f) → b ∉ L.own d := fun b o e n hb => by
    obtain ⟨o', e', n1, n2⟩ := D.kinds hb
    rw [e] at e'
    cases e'
    rcases n with ⟨ps, z⟩ | ⟨f, z⟩
    · exact n1 ps z
    · exact n2 f z
  refine ⟨ps, (k _ _ t1 (no _ _ t1 (.inl ⟨_, rfl⟩))).1, t2, fun pos cv hc => ?_⟩
  obtain ⟨c0, e1, e2⟩ := t3 pos cv hc
  exact ⟨c0, e1, (k _ _ e2 (no _ _ e2 (.inr ⟨_, rfl⟩))).1⟩
theorem Keep.pre {o1 o2 : List Addr} {H H1 H2 : Hp} (h : Same H H1) (k : Keep o1 o2 H1 H2) : Keep o1 o2 H H2 := fun b o e hb => k b o (h b o e) hb
theorem cut_nat {xs : List V} {k : Nat} : cutV xs (some (k : Int)) none = xs.drop k := by
  unfold cutV
  rw [HT.sIx_none, HT.sIx_nat]
  by_cases h : k ≤ xs.length
  · rw [Nat.min_eq_left h, List.take_of_length_le (by rw [List.length_drop]; exact Nat.le_refl _)]
  · rw [Nat.min_eq_right (by omega), Nat.sub_self, List.take_zero, List.drop_eq_nil_of_le (by omega)]
theorem ok_answer {tb f fR : Addr} {fd fdR : FuncData} (F : Fun K "answer" "answer" sAnswer f fd) (T : Txt K mg CD CR) (T3 : Cst3 K mg) (G : Funs P w K mg base CD CR tb) (M : Mk K CR fR) (GR : FnOk P w K mg base CX0 1 fR fdR ["self", "source", "time", "thing", "field_values"] (spRInit K CR)) (bR : Binds K fdR ["self", "source", "time", "thing", "field_values"] []) :
    FnOk P w K mg base CX0 10 f fd ["desk", "call"] (spAnswer K CD CR tb) := by
  refine F.ok scAnswer (fun vs H Q E h => ?_) (fun cdv A outer s H vs Q E hr h => ?_)
  · obtain ⟨d, b, s, L, c, rfl, _⟩ := h
    rfl
  · obtain ⟨d, b, s, L, c, rfl, D, W, hb, hbo, hok, hT, k⟩ := h
    have hr1 : Room 1 _ := hr.mono (by decide)
    have hr2 : Room 2 _ := hr.mono (by decide)
    have hr3 : Room 3 _ := hr.mono (by decide)
    have hr8 : Room 8 _ := hr.mono (by decide)
    refine ⟨_, pss_cons (ps_set (i := 2) scAnswer.nd rfl (.inl rfl) (pe_ix ix_list (pv 1) pe_int (fun _ _ => rfl)))
      (pss_cons (ps_if (pt_cmpR op_eq (pv 2) (pe_gint rfl T3.fields) (nomark _)) (pss_one (ps_ret (pe_lst (pa_cons (pe_g G.setFields hr2 rfl (pa_cons (pv 0) (pa_cons (pe_ix ix_list (pv 1) pe_int (fun _ _ => rfl)) pa_nil))) pa_nil)))) pss_nil)
      (pss_cons (ps_if (pt_cmpR op_eq (pv 2) (pe_gint rfl T3.rule) (nomark _)) (pss_one (ps_ret (pe_lst (pa_cons (pe_g G.setRule hr2 rfl (pa_cons (pv 0) (pa_cons (pe_ix ix_list (pv 1) pe_int (fun _ _ => rfl)) (pa_cons (pe_ix ix_list (pv 1) pe_int (fun _ _ => rfl)) pa_nil)))) pa_nil)))) pss_nil)
      (pss_cons (ps_if (pt_cmpR op_eq (pv 2) (pe_gint rfl T3.trust) (nomark _)) (pss_one (ps_ret (pe_lst (pa_cons (pe_g G.setTrust hr1 rfl (pa_cons (pv 0) (pa_cons (pe_slice sl_list (pv 1) (po_some pe_int) po_none) pa_nil))) pa_nil)))) pss_nil)
      (pss_cons (ps_if (pt_cmpR op_eq (pv 2) (pe_gint rfl T3.record) (nomark _)) (pss_one (ps_ret (pe_lst (pa_cons (pe_g G.add hr2 rfl (pa_cons (pv 0) (pa_cons (pe_make M GR hr2 rfl T.gR bR .nil pass0 (pa_cons (pe_ix ix_list (pv 1) pe_int (fun _ _ => rfl)) (pa_cons (pe_ix ix_list (pv 1) pe_int (fun _ _ => rfl)) (pa_cons (pe_ix ix_list (pv 1) pe_int (fun _ _ => rfl)) (pa_cons (pe_slice sl_list (pv 1) (po_some pe_int) po_none) pa_nil))))) pa_nil))) pa_nil)))) pss_nil)
      (pss_cons (ps_if (pt_cmpR op_eq (pv 2) (pe_gint rfl T3.remove) (nomark _)) (pss_one (ps_ret (pe_lst (pa_cons (pe_g G.remove hr2 rfl (pa_cons (pv 0) (pa_cons (pe_ix ix_list (pv 1) pe_int (fun _ _ => rfl)) pa_nil))) pa_nil)))) pss_nil)
      (pss_cons (ps_if (pt_cmpR op_eq (pv 2) (pe_gint rfl T3.change) (nomark _)) (pss_one (ps_ret (pe_lst (pa_cons (pe_g G.change hr2 rfl (pa_cons (pv 0) (pa_cons (pe_ix ix_list (pv 1) pe_int (fun _ _ => rfl)) (pa_cons (pe_ix ix_list (pv 1) pe_int (fun _ _ => rfl)) (pa_cons (pe_ix ix_list (pv 1) pe_int (fun _ _ => rfl)) pa_nil))))) pa_nil)))) pss_nil)
      (pss_cons (ps_if (pt_cmpR op_eq (pv 2) (pe_gint rfl T3.put) (nomark _)) (pss_one (ps_ret (pe_lst (pa_cons (pe_g G.put hr2 rfl (pa_cons (pv 0) (pa_cons (pe_ix ix_list (pv 1) pe_int (fun _ _ => rfl)) (pa_cons (pe_ix ix_list (pv 1) pe_int (fun _ _ => rfl)) pa_nil)))) pa_nil)))) pss_nil)
      (pss_cons (ps_if (pt_cmpR op_eq (pv 2) (pe_gint rfl T3.wrong) (nomark _)) (pss_one (ps_ret (pe_lst (pa_cons (pe_g G.turn hr2 rfl (pa_cons (pv 0) (pa_cons (pe_ix ix_list (pv 1) pe_int (fun _ _ => rfl)) (pa_cons (pe_ix ix_list (pv 1) pe_int (fun _ _ => rfl)) pa_nil)))) pa_nil)))) pss_nil)
      (pss_cons (ps_if (pt_cmpR op_eq (pv 2) (pe_gint rfl T3.pin) (nomark _)) (pss_one (ps_ret (pe_lst (pa_cons (pe_g G.pin hr2 rfl (pa_cons (pv 0) (pa_cons (pe_ix ix_list (pv 1) pe_int (fun _ _ => rfl)) (pa_cons (pe_ix ix_list (pv 1) pe_int (fun _ _ => rfl)) (pa_cons (pe_ix ix_list (pv 1) pe_int (fun _ _ => rfl)) pa_nil))))) pa_nil)))) pss_nil)
      (pss_cons (ps_if (pt_cmpR op_eq (pv 2) (pe_gint rfl T3.one) (nomark _)) (pss_one (ps_ret (pe_g G.one hr8 rfl (pa_cons (pv 0) (pa_cons (pe_ix ix_list (pv 1) pe_int (fun _ _ => rfl)) pa_nil))))) pss_nil)
      (pss_cons (ps_if (pt_cmpR op_eq (pv 2) (pe_gint rfl T3.why) (nomark _)) (pss_one (ps_ret (pe_g G.why hr8 rfl (pa_cons (pv 0) (pa_cons (pe_ix ix_list (pv 1) pe_int (fun _ _ => rfl)) (pa_cons (pe_ix ix_list (pv 1) pe_int (fun _ _ => rfl)) pa_nil)))))) pss_nil)
      (pss_cons (ps_if (pt_cmpR op_eq (pv 2) (pe_gint rfl T3.conflicts) (nomark _)) (pss_one (ps_ret (pe_g G.conflicts hr3 rfl (pa_cons (pv 0) (pa_cons (pe_ix ix_list (pv 1) pe_int (fun _ _ => rfl)) pa_nil))))) pss_nil)
      (pss_cons (ps_if (pt_cmpR op_eq (pv 2) (pe_gint rfl T3.fewest) (nomark _)) (pss_one (ps_ret (pe_g G.fewest hr rfl (pa_cons (pv 0) (pa_cons (pe_ix ix_list (pv 1) pe_int (fun _ _ => rfl)) (pa_cons (pe_ix ix_list (pv 1) pe_int (fun _ _ => rfl)) pa_nil)))))) pss_nil)
      (pss_one (ps_ret (pe_g G.counts hr1 rfl (pa_cons (pv 0) pa_nil))))))))))))))))), ?_⟩
    have fin : single c = true → ∀ (H' : Hp) (L' : Lay), DeskAt CD CR H' d (Rl06.step s c).1 L' → Keep (L.own d) (L'.own d) H H' → ([V.int ((Rl06.step s c).2.headD 0)] : List V).length ≤ sizeLine ∧ ∀ p, H' p = none → Q (.ref p) (upd H' p (.lst [V.int ((Rl06.step s c).2.headD 0)])) := fun hc H' L' D' kp => by
      refine ⟨(by show 1 ≤ sizeLine; decide), fun p hp => ?_⟩
      have kp2 : Keep (L.own d) (L'.own d) H (upd H' p (.lst [V.int ((Rl06.step s c).2.headD 0)])) := fun b o e hb => by
        obtain ⟨e1, n1⟩ := kp b o e hb
        exact ⟨(upd_ne (ne_of_none e1 hp)).trans e1, n1⟩
      refine k _ L' p (D'.new hp) (fun b o e _ hb => kp2 b o e hb) (tab_keep D kp2 hT) ?_ (D'.not_own hp) (fun b o e _ hb => ne_of_none (kp b o e hb).1 hp)
      rw [upd_same, one_answer hc]
      rfl
    have tell : (Rl06.step s c).1 = s → TellOk tb H s c Q := fun es H' p so fp hp => by
      refine k H' L p (by rw [es]; exact D.extN so.ext) (fun b o e n hb => ⟨so.ext b o e n, hb⟩) so.tab hp (fun z => ?_) (fun b o e n hb => fp b o e n)
      obtain ⟨o, e, n⟩ := D.there' z
      exact fp p o e n rfl
    have h0 : ((enc c).map V.int)[0]? = some (iv (kindOf c)) := by
      rw [List.getElem?_map, enc_kind]; rfl
    refine ⟨_, rfl, b, _, _, _, rfl, rfl, SqL.of hb, at_of (j := 0) rfl h0, ?_⟩
    cases c with
    | fields n =>
      refine ⟨_, rfl, rfl, _, rfl, ifT rfl ?_⟩
      exact ⟨_, rfl, _, rfl, b, _, _, _, rfl, rfl, SqL.of hb, at_of (j := 1) rfl rfl, d, s, L, n, rfl, D, W, fun H' L' D' kp => fin rfl H' L' D' kp⟩
    | rule fi ru =>
      refine ⟨_, rfl, rfl, _, rfl, ifF rfl ?_⟩
      refine ⟨_, rfl, rfl, _, rfl, ifT rfl ?_⟩
      exact ⟨_, rfl, _, rfl, b, _, _, _, rfl, rfl, SqL.of hb, at_of (j := 1) rfl rfl, _, rfl, b, _, _, _, rfl, rfl, SqL.of hb, at_of (j := 2) rfl rfl, d, s, L, fi, ru, rfl, D, W, fun H' L' D' kp => fin rfl H' L' D' kp⟩
    | trust l =>
      refine ⟨_, rfl, rfl, _, rfl, ifF rfl ?_⟩
      refine ⟨_, rfl, rfl, _, rfl, ifF rfl ?_⟩
      refine ⟨_, rfl, rfl, _, rfl, ifT rfl ?_⟩
      refine ⟨_, rfl, _, rfl, 2, rfl, b, _, rfl, SqL.of hb, fun z hz => ?_⟩
      have ez : cutV ((enc (.trust l)).map V.int) (some 2) none = ivs l := by
        rw [ivs_ints]
        exact cut_nat (k := 2)
      rw [ez]
      exact ⟨d, z, s, L, l, rfl, D.new hz, W, SqL.of upd_same, hok, fun H' L' D' kp => fin rfl H' L' D' (Keep.pre (Same.new hz) kp)⟩
    | record so ti th l =>
      refine ⟨_, rfl, rfl, _, rfl, ifF rfl ?_⟩
      refine ⟨_, rfl, rfl, _, rfl, ifF rfl ?_⟩
      refine ⟨_, rfl, rfl, _, rfl, ifF rfl ?_⟩
      refine ⟨_, rfl, rfl, _, rfl, ifT rfl ?_⟩
      refine ⟨_, rfl, _, rfl, b, _, _, _, rfl, rfl, SqL.of hb, at_of (j := 1) rfl rfl, _, rfl, b, _, _, _, rfl, rfl, SqL.of hb, at_of (j := 2) rfl rfl, _, rfl, b, _, _, _, rfl, rfl, SqL.of hb, at_of (j := 3) rfl rfl, _, rfl, 5, rfl, b, _, rfl, SqL.of hb, fun z hz => ?_⟩
      have ez : cutV ((enc (.record so ti th l)).map V.int) (some 5) none = ivs l := by
        rw [ivs_ints]
        exact cut_nat (k := 5)
      rw [ez]
      intro x dx hx hdx ne
      have D1 : DeskAt CD CR (upd H z (.lst (ivs l))) d s L := D.new hz
      have s1 : Same H (upd H z (.lst (ivs l))) := Same.new hz
      have s2 : Same (upd H z (.lst (ivs l))) (upd (upd (upd H z (.lst (ivs l))) dx (.own x)) x (.ins CR dx [])) := (Same.new hdx).trans (Same.new ((upd_ne (fun e => ne e.symm)).trans hx))
      refine ⟨x, dx, z, so, ti, th, l, rfl, upd_same, SqL.of (s2 _ _ upd_same), (by have : l.length ≤ 8 := hok; omega), fun H2 v u R hv hu nvu kp => ?_⟩
      refine ⟨rfl, ?_⟩
      have s3 : Same (upd H z (.lst (ivs l))) H2 := fun c o e => kp c o (s2 c o e) (ne_of_none e hx)
      have D2 := D1.same' s3
      have hv1 := s2.free hv
      have hu1 := s2.free hu
      have nxv : x ≠ v := ne_of_none upd_same hv
      have nxu : x ≠ u := ne_of_none upd_same hu
      have nown : ∀ b ∈ q3 (x, v, u), upd H z (.lst (ivs l)) b = none := fun c hc => by
        unfold q3 at hc
        simp only [List.mem_cons, List.not_mem_nil, or_false] at hc
        rcases hc with rfl | rfl | rfl
        · exact hx
        · exact hv1
        · exact hu1
      refine ⟨d, s, L, (x, v, u), so, ti, th, l, rfl, D2, W, R, hok, fun c hc => D1.not_own (nown c hc), ?_, fun H' L' D' kp' => ?_⟩
      · unfold q3
        simp only [List.nodup_cons, List.mem_cons, List.not_mem_nil, or_false, not_or, not_false_eq_true, List.nodup_nil, and_true]
        exact ⟨⟨nxv, nxu⟩, nvu⟩
      · refine fin rfl H' L' D' fun c o e hc => ?_
        exact kp' c o (s3 c o (s1 c o e)) hc fun hq => ne_of_none (s1 c o e) (nown c hq) rfl
    | remove n =>
      refine ⟨_, rfl, rfl, _, rfl, ifF rfl ?_⟩
      refine ⟨_, rfl, rfl, _, rfl, ifF rfl ?_⟩
      refine ⟨_, rfl, rfl, _, rfl, ifF rfl ?_⟩
      refine ⟨_, rfl, rfl, _, rfl, ifF rfl ?_⟩
      refine ⟨_, rfl, rfl, _, rfl, ifT rfl ?_⟩
      exact ⟨_, rfl, _, rfl, b, _, _, _, rfl, rfl, SqL.of hb, at_of (j := 1) rfl rfl, d, s, L, n, rfl, D, W, fun H' L' D' kp => fin rfl H' L' D' kp⟩
    | change n fi va =>
      refine ⟨_, rfl, rfl, _, rfl, ifF rfl ?_⟩
      refine ⟨_, rfl, rfl, _, rfl, ifF rfl ?_⟩
      refine ⟨_, rfl, rfl, _, rfl, ifF rfl ?_⟩
      refine ⟨_, rfl, rfl, _, rfl, ifF rfl ?_⟩
      refine ⟨_, rfl, rfl, _, rfl, ifF rfl ?_⟩
      refine ⟨_, rfl, rfl, _, rfl, ifT rfl ?_⟩
      exact ⟨_, rfl, _, rfl, b, _, _, _, rfl, rfl, SqL.of hb, at_of (j := 1) rfl rfl, _, rfl, b, _, _, _, rfl, rfl, SqL.of hb, at_of (j := 2) rfl rfl, _, rfl, b, _, _, _, rfl, rfl, SqL.of hb, at_of (j := 3) rfl rfl, d, s, L, n, fi, va, rfl, D, W, fun H' L' D' kp => fin rfl H' L' D' kp⟩
    | put n th =>
      refine ⟨_, rfl, rfl, _, rfl, ifF rfl ?_⟩
      refine ⟨_, rfl, rfl, _, rfl, ifF rfl ?_⟩
      refine ⟨_, rfl, rfl, _, rfl, ifF rfl ?_⟩
      refine ⟨_, rfl, rfl, _, rfl, ifF rfl ?_⟩
      refine ⟨_, rfl, rfl, _, rfl, ifF rfl ?_⟩
      refine ⟨_, rfl, rfl, _, rfl, ifF rfl ?_⟩
      refine ⟨_, rfl, rfl, _, rfl, ifT rfl ?_⟩
      exact ⟨_, rfl, _, rfl, b, _, _, _, rfl, rfl, SqL.of hb, at_of (j := 1) rfl rfl, _, rfl, b, _, _, _, rfl, rfl, SqL.of hb, at_of (j := 2) rfl rfl, d, s, L, n, th, rfl, D, W, fun H' L' D' kp => fin rfl H' L' D' kp⟩
    | wrong n fi =>
      refine ⟨_, rfl, rfl, _, rfl, ifF rfl ?_⟩
      refine ⟨_, rfl, rfl, _, rfl, ifF rfl ?_⟩
      refine ⟨_, rfl, rfl, _, rfl, ifF rfl ?_⟩
      refine ⟨_, rfl, rfl, _, rfl, ifF rfl ?_⟩
      refine ⟨_, rfl, rfl, _, rfl, ifF rfl ?_⟩
      refine ⟨_, rfl, rfl, _, rfl, ifF rfl ?_⟩
      refine ⟨_, rfl, rfl, _, rfl, ifF rfl ?_⟩
      refine ⟨_, rfl, rfl, _, rfl, ifT rfl ?_⟩
      exact ⟨_, rfl, _, rfl, b, _, _, _, rfl, rfl, SqL.of hb, at_of (j := 1) rfl rfl, _, rfl, b, _, _, _, rfl, rfl, SqL.of hb, at_of (j := 2) rfl rfl, d, s, L, n, fi, rfl, D, W, fun H' L' D' kp => fin rfl H' L' D' kp⟩
    | pin t fi va =>
      refine ⟨_, rfl, rfl, _, rfl, ifF rfl ?_⟩
      refine ⟨_, rfl, rfl, _, rfl, ifF rfl ?_⟩
      refine ⟨_, rfl, rfl, _, rfl, ifF rfl ?_⟩
      refine ⟨_, rfl, rfl, _, rfl, ifF rfl ?_⟩
      refine ⟨_, rfl, rfl, _, rfl, ifF rfl ?_⟩
      refine ⟨_, rfl, rfl, _, rfl, ifF rfl ?_⟩
      refine ⟨_, rfl, rfl, _, rfl, ifF rfl ?_⟩
      refine ⟨_, rfl, rfl, _, rfl, ifF rfl ?_⟩
      refine ⟨_, rfl, rfl, _, rfl, ifT rfl ?_⟩
      exact ⟨_, rfl, _, rfl, b, _, _, _, rfl, rfl, SqL.of hb, at_of (j := 1) rfl rfl, _, rfl, b, _, _, _, rfl, rfl, SqL.of hb, at_of (j := 2) rfl rfl, _, rfl, b, _, _, _, rfl, rfl, SqL.of hb, at_of (j := 3) rfl rfl, d, s, L, t, fi, va, rfl, D, W, fun H' L' D' kp => fin rfl H' L' D' kp⟩
    | one t =>
      refine ⟨_, rfl, rfl, _, rfl, ifF rfl ?_⟩
      refine ⟨_, rfl, rfl, _, rfl, ifF rfl ?_⟩
      refine ⟨_, rfl, rfl, _, rfl, ifF rfl ?_⟩
      refine ⟨_, rfl, rfl, _, rfl, ifF rfl ?_⟩
      refine ⟨_, rfl, rfl, _, rfl, ifF rfl ?_⟩
      refine ⟨_, rfl, rfl, _, rfl, ifF rfl ?_⟩
      refine ⟨_, rfl, rfl, _, rfl, ifF rfl ?_⟩
      refine ⟨_, rfl, rfl, _, rfl, ifF rfl ?_⟩
      refine ⟨_, rfl, rfl, _, rfl, ifF rfl ?_⟩
      refine ⟨_, rfl, rfl, _, rfl, ifT rfl ?_⟩
      exact ⟨_, rfl, _, rfl, b, _, _, _, rfl, rfl, SqL.of hb, at_of (j := 1) rfl rfl, d, s, L, t, rfl, D, W, hT, tell rfl⟩
    | why t fi =>
      refine ⟨_, rfl, rfl, _, rfl, ifF rfl ?_⟩
      refine ⟨_, rfl, rfl, _, rfl, ifF rfl ?_⟩
      refine ⟨_, rfl, rfl, _, rfl, ifF rfl ?_⟩
      refine ⟨_, rfl, rfl, _, rfl, ifF rfl ?_⟩
      refine ⟨_, rfl, rfl, _, rfl, ifF rfl ?_⟩
      refine ⟨_, rfl, rfl, _, rfl, ifF rfl ?_⟩
      refine ⟨_, rfl, rfl, _, rfl, ifF rfl ?_⟩
      refine ⟨_, rfl, rfl, _, rfl, ifF rfl ?_⟩
      refine ⟨_, rfl, rfl, _, rfl, ifF rfl ?_⟩
      refine ⟨_, rfl, rfl, _, rfl, ifF rfl ?_⟩
      refine ⟨_, rfl, rfl, _, rfl, ifT rfl ?_⟩
      exact ⟨_, rfl, _, rfl, b, _, _, _, rfl, rfl, SqL.of hb, at_of (j := 1) rfl rfl, _, rfl, b, _, _, _, rfl, rfl, SqL.of hb, at_of (j := 2) rfl rfl, d, s, L, t, fi, rfl, D, W, hT, tell rfl⟩
    | conflicts t =>
      refine ⟨_, rfl, rfl, _, rfl, ifF rfl ?_⟩
      refine ⟨_, rfl, rfl, _, rfl, ifF rfl ?_⟩
      refine ⟨_, rfl, rfl, _, rfl, ifF rfl ?_⟩
      refine ⟨_, rfl, rfl, _, rfl, ifF rfl ?_⟩
      refine ⟨_, rfl, rfl, _, rfl, ifF rfl ?_⟩
      refine ⟨_, rfl, rfl, _, rfl, ifF rfl ?_⟩
      refine ⟨_, rfl, rfl, _, rfl, ifF rfl ?_⟩
      refine ⟨_, rfl, rfl, _, rfl, ifF rfl ?_⟩
      refine ⟨_, rfl, rfl, _, rfl, ifF rfl ?_⟩
      refine ⟨_, rfl, rfl, _, rfl, ifF rfl ?_⟩
      refine ⟨_, rfl, rfl, _, rfl, ifF rfl ?_⟩
      refine ⟨_, rfl, rfl, _, rfl, ifT rfl ?_⟩
      exact ⟨_, rfl, _, rfl, b, _, _, _, rfl, rfl, SqL.of hb, at_of (j := 1) rfl rfl, d, s, L, t, rfl, D, W, hT, tell rfl⟩
    | fewest t fi =>
      refine ⟨_, rfl, rfl, _, rfl, ifF rfl ?_⟩
      refine ⟨_, rfl, rfl, _, rfl, ifF rfl ?_⟩
      refine ⟨_, rfl, rfl, _, rfl, ifF rfl ?_⟩
      refine ⟨_, rfl, rfl, _, rfl, ifF rfl ?_⟩
      refine ⟨_, rfl, rfl, _, rfl, ifF rfl ?_⟩
      refine ⟨_, rfl, rfl, _, rfl, ifF rfl ?_⟩
      refine ⟨_, rfl, rfl, _, rfl, ifF rfl ?_⟩
      refine ⟨_, rfl, rfl, _, rfl, ifF rfl ?_⟩
      refine ⟨_, rfl, rfl, _, rfl, ifF rfl ?_⟩
      refine ⟨_, rfl, rfl, _, rfl, ifF rfl ?_⟩
      refine ⟨_, rfl, rfl, _, rfl, ifF rfl ?_⟩
      refine ⟨_, rfl, rfl, _, rfl, ifF rfl ?_⟩
      refine ⟨_, rfl, rfl, _, rfl, ifT rfl ?_⟩
      exact ⟨_, rfl, _, rfl, b, _, _, _, rfl, rfl, SqL.of hb, at_of (j := 1) rfl rfl, _, rfl, b, _, _, _, rfl, rfl, SqL.of hb, at_of (j := 2) rfl rfl, d, s, L, t, fi, rfl, D, W, hT, tell rfl⟩
    | counts =>
      refine ⟨_, rfl, rfl, _, rfl, ifF rfl ?_⟩
      refine ⟨_, rfl, rfl, _, rfl, ifF rfl ?_⟩
      refine ⟨_, rfl, rfl, _, rfl, ifF rfl ?_⟩
      refine ⟨_, rfl, rfl, _, rfl, ifF rfl ?_⟩
      refine ⟨_, rfl, rfl, _, rfl, ifF rfl ?_⟩
      refine ⟨_, rfl, rfl, _, rfl, ifF rfl ?_⟩
      refine ⟨_, rfl, rfl, _, rfl, ifF rfl ?_⟩
      refine ⟨_, rfl, rfl, _, rfl, ifF rfl ?_⟩
      refine ⟨_, rfl, rfl, _, rfl, ifF rfl ?_⟩
      refine ⟨_, rfl, rfl, _, rfl, ifF rfl ?_⟩
      refine ⟨_, rfl, rfl, _, rfl, ifF rfl ?_⟩
      refine ⟨_, rfl, rfl, _, rfl, ifF rfl ?_⟩
      refine ⟨_, rfl, rfl, _, rfl, ifF rfl ?_⟩
      exact ⟨_, rfl, d, s, L, rfl, D, W, hT, tell rfl⟩
end
end Md

set_option Elab.async false
set_option maxRecDepth 100000
set_option maxHeartbeats 4000000
set_option linter.unusedVariables false
/-! answers: the loop over the calls. -/
namespace Md
open PySem PySem.Spec PyProof.Rows L2 LamX
theorem run_wf : ∀ (cs : List Rl06.Call) (s : Rl06.St), Wf s → Wf (run s cs)
  | [], _, W => W
  | c :: cs, s, W => run_wf cs _ (wf_step W c).1
theorem cut_mid (p e q : List Int) : cutV ((p ++ (e ++ q)).map V.int) (some (p.length : Int)) (some ((p.length + e.length : Nat) : Int)) = e.map V.int := by
  unfold cutV
  rw [HT.sIx_nat, HT.sIx_nat, List.length_map, List.length_append, List.length_append]
  rw [Nat.min_eq_left (by omega), Nat.min_eq_left (by omega), Nat.add_sub_cancel_left, List.map_append, List.map_append, List.drop_append_of_le_length (by rw [List.length_map]; exact Nat.le_refl _)]
  rw [List.drop_eq_nil_of_le (by rw [List.length_map]; exact Nat.le_refl _), List.nil_append, List.take_append_of_le_length (by rw [List.length_map]; exact Nat.le_refl _)]
  rw [List.take_of_length_le (by rw [List.length_map]; exact Nat.le_refl _)]
section
variable {P : Program} {w : World} {K : PySem.W.Frag} {mg : Str → Option Value} {base : Heap} {CD CR : Addr}
abbrev sAnswers : Stmt := top 55
theorem scAnswers : FnScope ["calls", "desk", "given", "start", "end", "answered"] ["calls"] (defScope sAnswers) := ⟨rfl, rfl, rfl, by decide +kernel, rfl, by decide +kernel, by decide +kernel⟩
/-- a list of calls' numbers is handed in; what these calls answer comes out -/
def spAns0 (K : PySem.W.Frag) (tb : Addr) : Sp := fun vs H Q _ => ∃ (a : Addr) (cs : List Rl06.Call), vs = [.ref a] ∧ SqL K H a ((cs.flatMap enc).map V.int) ∧ (∀ c ∈ cs, okCall c) ∧ TabS H tb lamQ ∧ (PyFlat.told (play Rl06.init cs)).length ≤ 10000000 ∧
  ∀ (H' : Hp) (p : Addr), H' p = some (.lst ((PyFlat.told (play Rl06.init cs)).map V.int)) → Q (.ref p) H'
theorem ok_answers {tb f fI : Addr} {fd fdI : FuncData} (F : Fun K "answers" "answers" sAnswers f fd) (T : Txt K mg CD CR) (GE : GlobF P w K mg base "call_end" 1 ["calls", "start"] (spEnd K)) (GA : GlobF P w K mg base "answer" 10 ["desk", "call"] (spAnswer K CD CR tb)) (M : Mk K CD fI) (GI : FnOk P w K mg base CX0 2 fI fdI ["self"] (spDInit CD CR)) (bI : Binds K fdI ["self"] []) :
    FnOk P w K mg base CX0 11 f fd ["calls"] (spAns0 K tb) := by
  refine F.ok scAnswers (fun vs H Q E h => ?_) (fun cdv A outer s H vs Q E hr h => ?_)
  · obtain ⟨a, cs, rfl, _⟩ := h
    rfl
  · obtain ⟨a, cs, rfl, ha, hok, hT, hsz, k⟩ := h
    have hr1 : Room 1 _ := hr.mono (by decide)
    have hr2 : Room 3 _ := hr.mono (by decide)
    refine ⟨_, pss_cons (ps_set (i := 1) scAnswers.nd rfl (.inl rfl) (pe_make0 M GI hr2 rfl T.gD bI .nil pass0))
      (pss_cons (ps_set (i := 2) scAnswers.nd rfl (.inl rfl) (pe_lst pa_nil))
      (pss_cons (ps_set (i := 3) scAnswers.nd rfl (.inl rfl) pe_int)
      (pss_cons (ps_while PassesOwn.never (pt_cmpR op_lt (pv 3) (pe_callB call_len_seq (by rfl) T.len PySem.boot_len (pa_cons (pv 0) pa_nil)) (nomark _))
        (pss_cons (ps_set (i := 4) scAnswers.nd rfl (.inl rfl) (pe_g GE hr1 rfl (pa_cons (pv 0) (pa_cons (pv 3) pa_nil))))
        (pss_cons (ps_set (i := 5) scAnswers.nd rfl (.inl rfl) (pe_g GA hr rfl (pa_cons (pv 1) (pa_cons (pe_slice sl_list (pv 0) (po_some (pv 3)) (po_some (pv 4))) pa_nil))))
        (pss_cons (ps_expr (pe_bm PySem.F.plainAttrs_list PySem.F.slot_list_append PySem.F.type_list_append mt_append (pv 2) (pa_cons (pe_callB call_len_seq (by rfl) T.len PySem.boot_len (pa_cons (pv 5) pa_nil)) pa_nil)))
        (pss_cons (ps_expr (pe_bm PySem.F.plainAttrs_list PySem.F.slot_list_extend PySem.F.type_list_extend mt_extend (pv 2) (pa_cons (pv 5) pa_nil)))
        (pss_one (ps_set (i := 3) scAnswers.nd rfl (.inl rfl) (pv 4))))))))
      (pss_one (ps_ret (pv 2)))))), ?_⟩
    -- desk = Desk()
    intro d dx hd hdx ne
    refine ⟨d, dx, rfl, upd_same, fun H1 L1 D1 hn1 kp1 => ⟨rfl, ?_⟩⟩
    have s1 : Same H H1 := Same.made hd hdx kp1
    have f1 : ∀ b ∈ L1.own d, H b = none := fun b hb => by
      rcases hn1 b hb with rfl | h
      · exact hd
      · exact ((Same.new hdx).trans (Same.new (p := d) (o := .ins CD dx []) ((upd_ne (fun e => ne e.symm)).trans hd))).free h
    -- given = []; start = 0
    refine ⟨Nat.zero_le _, fun g hg => ?_⟩
    have hg0 : H g = none := s1.free hg
    -- while start < len(calls)
    refine ⟨fun m σ H' => ∃ (pre post : List Rl06.Call) (L : Lay) (v4 v5 : Option V), cs = pre ++ post ∧ m = post.length ∧ σ = [some (.ref a), some (.ref d), some (.ref g), some (.int ((pre.flatMap enc).length : Int)), v4, v5] ∧
      DeskAt CD CR H' d (run Rl06.init pre) L ∧ H' g = some (.lst ((PyFlat.told (play Rl06.init pre)).map V.int)) ∧ g ∉ L.own d ∧ KeepN [] (L.own d) H H' ∧ TabS H' tb lamQ, ?_, ?_⟩
    · refine ⟨cs.length, [], cs, L1, none, none, rfl, rfl, rfl, D1.new hg, upd_same, D1.not_own hg, (fun b o e _ _ => ⟨(upd_ne (ne_of_none (s1 b o e) hg)).trans (s1 b o e), fun hb => ?_⟩), (hT.ext s1).ext (Same.new hg)⟩
      rw [f1 b hb] at e; cases e
    · rintro m σ H' ⟨pre, post, L, v4, v5, hcs, rfl, rfl, D, hgl, hgo, kp, hT'⟩
      have ha' := extN_seq (fun b o e n => (kp b o e n (by simp)).1) ha
      have W := run_wf pre Rl06.init wf_init
      have hl : cs.flatMap enc = pre.flatMap enc ++ post.flatMap enc := by rw [hcs, List.flatMap_append]
      refine ⟨_, rfl, _, rfl, a, _, rfl, .inl ha', _, _, rfl, rfl, _, rfl, ?_⟩
      cases post with
      | nil =>
        have hlt : ¬ (((pre.flatMap enc).length : Int) < ((((cs.flatMap enc).map V.int).length : Nat) : Int)) := by
          rw [List.length_map, hl]; simp
        refine ifF (decide_eq_false hlt) ?_
        refine ⟨_, rfl, ?_⟩
        rw [List.append_nil] at hcs
        subst hcs
        exact k H' g hgl
      | cons c post =>
        have hce := enc_ne c
        have hl2 : cs.flatMap enc = pre.flatMap enc ++ (enc c ++ post.flatMap enc) := by rw [hl, List.flatMap_cons]
        have hlt : (((pre.flatMap enc).length : Int) < ((((cs.flatMap enc).map V.int).length : Nat) : Int)) := by
          rw [List.length_map, hl2, List.length_append, List.length_append]; omega
        refine ifT (decide_eq_true hlt) ?_
        have hmc : c ∈ cs := by rw [hcs]; exact List.mem_append_right _ List.mem_cons_self
        rw [hl2] at ha'
        refine ⟨fun σ' H2 => ∃ (L : Lay) (v4 v5 : Option V), σ' = [some (.ref a), some (.ref d), some (.ref g), some (.int (((pre ++ [c]).flatMap enc).length : Int)), v4, v5] ∧
          DeskAt CD CR H2 d (run Rl06.init (pre ++ [c])) L ∧ H2 g = some (.lst ((PyFlat.told (play Rl06.init (pre ++ [c]))).map V.int)) ∧ g ∉ L.own d ∧ KeepN [] (L.own d) H H2 ∧ TabS H2 tb lamQ, ?_, ?_⟩
        · rintro σ' H2 ⟨L2, v4', v5', e1, e2, e3, e4, e5, e6⟩
          exact ⟨post.length, Nat.lt_succ_self _, pre ++ [c], post, L2, v4', v5', by rw [hcs, List.append_assoc]; rfl, rfl, e1, e2, e3, e4, e5, e6⟩
        -- end = call_end(calls, start)
        refine ⟨_, rfl, _, rfl, a, pre.flatMap enc, post.flatMap enc, c, rfl, ha', ?_⟩
        -- answered = answer(desk, calls[start:end])
        refine ⟨_, rfl, _, rfl, _, rfl, _, rfl, _, rfl, _, rfl, a, _, rfl, ha', fun z hz => ?_⟩
        rw [cut_mid]
        have Dz : DeskAt CD CR (upd H' z (.lst ((enc c).map V.int))) d (run Rl06.init pre) L := D.new hz
        refine ⟨d, z, run Rl06.init pre, L, c, rfl, Dz, W, upd_same, D.not_own hz, hok c hmc, hT'.ext (Same.new hz), fun H2 L2 p D2 kp2 hT2 hp hpo hpn => ?_⟩
        have gz : g ≠ z := ne_of_none hgl hz
        have hgl1 : upd H' z (.lst ((enc c).map V.int)) g = some (.lst ((PyFlat.told (play Rl06.init pre)).map V.int)) := (upd_ne gz).trans hgl
        have nl : ∀ (xs : List V) ps, HO.lst xs ≠ .tbl ps := fun xs ps z => by cases z
        obtain ⟨hgl2, hgo2⟩ := kp2 g _ hgl1 (nl _) hgo
        have gp : g ≠ p := hpn g _ hgl1 (nl _) hgo
        have et := told_snoc pre c Rl06.init
        have hle : (PyFlat.told (play Rl06.init (pre ++ [c]))).length ≤ 10000000 := by
          have : PyFlat.told (play Rl06.init cs) = PyFlat.told (play Rl06.init (pre ++ [c])) ++ PyFlat.told (play (run Rl06.init (pre ++ [c])) post) := by
            rw [← told_append, ← play_append, List.append_assoc]
            rw [hcs]; rfl
          rw [this, List.length_append] at hsz
          omega
        rw [et, List.length_append, List.length_cons] at hle
        have big : (10000000 : Nat) < sizeLine := by decide
        -- given.append(len(answered))
        refine ⟨_, rfl, .inl ⟨rfl, _, SqL.of hgl2⟩, _, rfl, p, _, rfl, .inl (SqL.of hp), g, _, _, rfl, rfl, hgl2, (by rw [List.length_map]; omega), ?_⟩
        -- given.extend(answered)
        refine ⟨_, rfl, .inl ⟨rfl, _, SqL.of upd_same⟩, _, rfl, g, p, _, _, rfl, rfl, upd_same, (upd_ne gp.symm).trans hp, (by rw [List.length_append, List.length_map, List.length_map, List.length_singleton]; omega), ?_⟩
        -- start = end
        refine ⟨_, rfl, L2, some (.int (((pre.flatMap enc).length + (enc c).length : Nat) : Int)), some (.ref p), ?_, ?_, ?_, hgo2, ?_, ?_⟩
        · have e1 : ((pre ++ [c]).flatMap enc).length = (pre.flatMap enc).length + (enc c).length := by
            rw [List.flatMap_append, List.length_append, List.flatMap_cons, List.flatMap_nil, List.append_nil]
          rw [e1]
          rfl
        · have e2 : run Rl06.init (pre ++ [c]) = (Rl06.step (run Rl06.init pre) c).1 := run_append pre [c] Rl06.init
          rw [e2, upd_upd]
          exact D2.out hgo2
        · rw [upd_same, et, List.map_append, List.append_assoc]
          congr 3
          show _ = V.int (((Rl06.step (run Rl06.init pre) c).2.length : Nat) : Int) :: List.map V.int (Rl06.step (run Rl06.init pre) c).2
          rw [List.length_map]
          rfl
        · rw [upd_upd]
          intro b o e n _
          obtain ⟨e1, n1⟩ := kp b o e n (by simp)
          have e2 : upd H' z (.lst ((enc c).map V.int)) b = some o := (upd_ne (ne_of_none e1 hz)).trans e1
          obtain ⟨e3, n3⟩ := kp2 b o e2 n n1
          exact ⟨(upd_ne (ne_of_none e hg0)).trans e3, n3⟩
        · rw [upd_upd]
          obtain ⟨ps, t1, t2, t3⟩ := hT2
          have np : ∀ b' o, H2 b' = some o → (∀ xs, o ≠ .lst xs) → b' ≠ g := fun b' o e n z => by
            rw [z, hgl2] at e
            exact n _ (Option.some.inj e).symm
          refine ⟨ps, (upd_ne (np _ _ t1 (fun xs z => by cases z))).trans t1, t2, fun pos cv hcv => ?_⟩
          obtain ⟨c0, x1, x2⟩ := t3 pos cv hcv
          exact ⟨c0, x1, (upd_ne (np _ _ x2 (fun xs z => by unfold CodeO at z; cases z))).trans x2⟩
end
end Md

set_option Elab.async false
set_option maxRecDepth 100000
set_option maxHeartbeats 4000000
set_option linter.unusedVariables false
namespace Md
open PySem PySem.Spec PyProof.Rows L2 LamX
def spTop (K : PySem.W.Frag) : Sp := fun vs H Q _ => ∃ (a : Addr) (ns : List Int), vs = [.ref a] ∧ SqL K H a (ns.map V.int) ∧ PyRl06.answers_asked ns = true ∧ H 116 = some (.tbl #[]) ∧ ∀ (H' : Hp) (p : Addr), H' p = some (.lst ((PyRl06.answers ns).map V.int)) → Q (.ref p) H'
theorem top_imp {K : PySem.W.Frag} (vs : List V) (H : Hp) (Q : VK) (E : XK) (h : spTop K vs H Q E) : spAns0 K 116 vs H Q E := by
  obtain ⟨a, ns, rfl, ha, hask, hT, k⟩ := h
  obtain ⟨cs, e, hok, _, e2, hl⟩ := asked_calls hask
  subst e
  rw [e2] at k hl
  exact ⟨a, cs, rfl, ha, hok, TabS.nil hT, hl, k⟩
theorem tup_of {K : PySem.W.Frag} {a : Addr} {od : Option Addr} {its : Array Value} {n : Nat} {sl : Array (Option Value)} {xs : List V} (h : K.lookup a = some ⟨.type "tuple", od, .seq its n, sl⟩) (hz : its.size ≤ sizeLine) (hv : Vals xs its.toList) : ∀ H, SqT K H a xs :=
  fun H => .inr ⟨_, its, n, h, rfl, rfl, hz, hv⟩
theorem all_mk {P : Program} {w : World} {K : PySem.W.Frag} {h : Heap} {mg : Str → Option Value} {fa CD CR : Addr} (X : K.In h) (G : h.Ns mainGlobals mg) (hfa : mg "answers" = some (.ref fa))
    {f0 : Addr} {od0 an0 : Option Addr} {sl0 : Array (Option Value)} {oc0 kV0 dc0 pm0 cd0 ct0 : Value}
    {f1 : Addr} {od1 an1 : Option Addr} {sl1 : Array (Option Value)} {oc1 kV1 dc1 pm1 cd1 ct1 : Value}
    {f2 : Addr} {od2 an2 : Option Addr} {sl2 : Array (Option Value)} {oc2 kV2 dc2 pm2 cd2 ct2 : Value}
    {f3 : Addr} {od3 an3 : Option Addr} {sl3 : Array (Option Value)} {oc3 kV3 dc3 pm3 cd3 ct3 : Value}
    {f4 : Addr} {od4 an4 : Option Addr} {sl4 : Array (Option Value)} {oc4 kV4 dc4 pm4 cd4 ct4 : Value}
    {f5 : Addr} {od5 an5 : Option Addr} {sl5 : Array (Option Value)} {oc5 kV5 dc5 pm5 cd5 ct5 : Value}
    {f6 : Addr} {od6 an6 : Option Addr} {sl6 : Array (Option Value)} {oc6 kV6 dc6 pm6 cd6 ct6 : Value}
    {f7 : Addr} {od7 an7 : Option Addr} {sl7 : Array (Option Value)} {oc7 kV7 dc7 pm7 cd7 ct7 : Value}
    {f8 : Addr} {od8 an8 : Option Addr} {sl8 : Array (Option Value)} {oc8 kV8 dc8 pm8 cd8 ct8 : Value}
    {f9 : Addr} {od9 an9 : Option Addr} {sl9 : Array (Option Value)} {oc9 kV9 dc9 pm9 cd9 ct9 : Value}
    {f10 : Addr} {od10 an10 : Option Addr} {sl10 : Array (Option Value)} {oc10 kV10 dc10 pm10 cd10 ct10 : Value}
    {f11 : Addr} {od11 an11 : Option Addr} {sl11 : Array (Option Value)} {oc11 kV11 dc11 pm11 cd11 ct11 : Value}
    {f12 : Addr} {od12 an12 : Option Addr} {sl12 : Array (Option Value)} {oc12 kV12 dc12 pm12 cd12 ct12 : Value}
    {f13 : Addr} {od13 an13 : Option Addr} {sl13 : Array (Option Value)} {oc13 kV13 dc13 pm13 cd13 ct13 : Value}
    {f14 : Addr} {od14 an14 : Option Addr} {sl14 : Array (Option Value)} {oc14 kV14 dc14 pm14 cd14 ct14 : Value}
    {f15 : Addr} {od15 an15 : Option Addr} {sl15 : Array (Option Value)} {oc15 kV15 dc15 pm15 cd15 ct15 : Value}
    {f16 : Addr} {od16 an16 : Option Addr} {sl16 : Array (Option Value)} {oc16 kV16 dc16 pm16 cd16 ct16 : Value}
    {f17 : Addr} {od17 an17 : Option Addr} {sl17 : Array (Option Value)} {oc17 kV17 dc17 pm17 cd17 ct17 : Value}
    {f18 : Addr} {od18 an18 : Option Addr} {sl18 : Array (Option Value)} {oc18 kV18 dc18 pm18 cd18 ct18 : Value}
    {f19 : Addr} {od19 an19 : Option Addr} {sl19 : Array (Option Value)} {oc19 kV19 dc19 pm19 cd19 ct19 : Value}
    {f20 : Addr} {od20 an20 : Option Addr} {sl20 : Array (Option Value)} {oc20 kV20 dc20 pm20 cd20 ct20 : Value}
    {f21 : Addr} {od21 an21 : Option Addr} {sl21 : Array (Option Value)} {oc21 kV21 dc21 pm21 cd21 ct21 : Value}
    {f22 : Addr} {od22 an22 : Option Addr} {sl22 : Array (Option Value)} {oc22 kV22 dc22 pm22 cd22 ct22 : Value}
    {f23 : Addr} {od23 an23 : Option Addr} {sl23 : Array (Option Value)} {oc23 kV23 dc23 pm23 cd23 ct23 : Value}
    {f24 : Addr} {od24 an24 : Option Addr} {sl24 : Array (Option Value)} {oc24 kV24 dc24 pm24 cd24 ct24 : Value}
    {f25 : Addr} {od25 an25 : Option Addr} {sl25 : Array (Option Value)} {oc25 kV25 dc25 pm25 cd25 ct25 : Value}
    {f26 : Addr} {od26 an26 : Option Addr} {sl26 : Array (Option Value)} {oc26 kV26 dc26 pm26 cd26 ct26 : Value}
    {f27 : Addr} {od27 an27 : Option Addr} {sl27 : Array (Option Value)} {oc27 kV27 dc27 pm27 cd27 ct27 : Value}
    {f28 : Addr} {od28 an28 : Option Addr} {sl28 : Array (Option Value)} {oc28 kV28 dc28 pm28 cd28 ct28 : Value}
    {f29 : Addr} {od29 an29 : Option Addr} {sl29 : Array (Option Value)} {oc29 kV29 dc29 pm29 cd29 ct29 : Value}
    {f30 : Addr} {od30 an30 : Option Addr} {sl30 : Array (Option Value)} {oc30 kV30 dc30 pm30 cd30 ct30 : Value}
    {f31 : Addr} {od31 an31 : Option Addr} {sl31 : Array (Option Value)} {oc31 kV31 dc31 pm31 cd31 ct31 : Value}
    {f32 : Addr} {od32 an32 : Option Addr} {sl32 : Array (Option Value)} {oc32 kV32 dc32 pm32 cd32 ct32 : Value}
    {f33 : Addr} {od33 an33 : Option Addr} {sl33 : Array (Option Value)} {oc33 kV33 dc33 pm33 cd33 ct33 : Value}
    {f34 : Addr} {od34 an34 : Option Addr} {sl34 : Array (Option Value)} {oc34 kV34 dc34 pm34 cd34 ct34 : Value}
    {t_FIELDS_AT_FIRST : Tok}
    {t_MOST_THING : Tok}
    {t_MOST_TRUSTED : Tok}
    {t_MOST_COMMON : Tok}
    {t_GREATEST : Tok}
    {t_LEAST : Tok}
    {t_FIELDS : Tok}
    {t_RULE : Tok}
    {t_TRUST : Tok}
    {t_RECORD : Tok}
    {t_REMOVE : Tok}
    {t_CHANGE : Tok}
    {t_PUT : Tok}
    {t_WRONG : Tok}
    {t_PIN : Tok}
    {t_ONE : Tok}
    {t_WHY : Tok}
    {t_CONFLICTS : Tok}
    {t_FEWEST : Tok}
    {t_MOST_FIELDS : Tok}
    {t_MOST_RULE : Tok}
    {t_MOST_TIME : Tok}
    {t_MOST_VALUE : Tok}
    {t_MOST_RECORDS : Tok}
    {t_NOT_AS_TOLD : Tok}
    {t_NONE_SUCH : Tok}
    {t_NOTHING_SAID : Tok}
    {t_FULL : Tok}
    {t_BY_NOTHING : Tok}
    {t_BY_CHOICE : Tok}
    {t_BY_PIN : Tok}
    {A_SOURCES : Addr} {od_SOURCES : Option Addr} {n_SOURCES : Nat} {sl_SOURCES : Array (Option Value)} {u_SOURCES0 u_SOURCES1 u_SOURCES2 u_SOURCES3 : Tok}
    {A_PLAIN_NUMBERS : Addr} {od_PLAIN_NUMBERS : Option Addr} {n_PLAIN_NUMBERS : Nat} {sl_PLAIN_NUMBERS : Array (Option Value)} {u_PLAIN_NUMBERS0 u_PLAIN_NUMBERS1 u_PLAIN_NUMBERS2 u_PLAIN_NUMBERS3 u_PLAIN_NUMBERS4 u_PLAIN_NUMBERS5 u_PLAIN_NUMBERS6 u_PLAIN_NUMBERS7 u_PLAIN_NUMBERS8 u_PLAIN_NUMBERS9 u_PLAIN_NUMBERS10 u_PLAIN_NUMBERS11 u_PLAIN_NUMBERS12 u_PLAIN_NUMBERS13 : Tok}
    (gCD : PySem.W.nsIn K mainGlobals "Desk" = some (some (.ref CD)))
    (gCR : PySem.W.nsIn K mainGlobals "Record" = some (some (.ref CR)))
    (a0 : PySem.W.findIn K (.ref CR) "__init__" = some (some (.ref f0)))
    (i0 : PySem.W.isFn K (.ref f0) = true)
    (l0 : K.lookup f0 = some ⟨oc0, od0, .func (PySem.W.fnOf "__init__" "Record.__init__" (defArgs sRInit) (defBody sRInit) (defScope sRInit) .none kV0 dc0 pm0 an0 cd0 ct0), sl0⟩)
    (c0 : PySem.W.codeIn K cd0 "Record.__init__" = true)
    (k0 : PySem.W.keepIn K (.ref f0) = true)
    (a1 : PySem.W.findIn K (.ref CR) "says" = some (some (.ref f1)))
    (i1 : PySem.W.isFn K (.ref f1) = true)
    (l1 : K.lookup f1 = some ⟨oc1, od1, .func (PySem.W.fnOf "says" "Record.says" (defArgs sSays) (defBody sSays) (defScope sSays) .none kV1 dc1 pm1 an1 cd1 ct1), sl1⟩)
    (c1 : PySem.W.codeIn K cd1 "Record.says" = true)
    (k1 : PySem.W.keepIn K (.ref f1) = true)
    (a2 : PySem.W.findIn K (.ref CD) "__init__" = some (some (.ref f2)))
    (i2 : PySem.W.isFn K (.ref f2) = true)
    (l2 : K.lookup f2 = some ⟨oc2, od2, .func (PySem.W.fnOf "__init__" "Desk.__init__" (defArgs sDInit) (defBody sDInit) (defScope sDInit) .none kV2 dc2 pm2 an2 cd2 ct2), sl2⟩)
    (c2 : PySem.W.codeIn K cd2 "Desk.__init__" = true)
    (k2 : PySem.W.keepIn K (.ref f2) = true)
    (a3 : PySem.W.findIn K (.ref CD) "begin" = some (some (.ref f3)))
    (i3 : PySem.W.isFn K (.ref f3) = true)
    (l3 : K.lookup f3 = some ⟨oc3, od3, .func (PySem.W.fnOf "begin" "Desk.begin" (defArgs sBegin) (defBody sBegin) (defScope sBegin) .none kV3 dc3 pm3 an3 cd3 ct3), sl3⟩)
    (c3 : PySem.W.codeIn K cd3 "Desk.begin" = true)
    (k3 : PySem.W.keepIn K (.ref f3) = true)
    (a4 : PySem.W.findIn K (.ref CD) "has_field" = some (some (.ref f4)))
    (i4 : PySem.W.isFn K (.ref f4) = true)
    (l4 : K.lookup f4 = some ⟨oc4, od4, .func (PySem.W.fnOf "has_field" "Desk.has_field" (defArgs sHasField) (defBody sHasField) (defScope sHasField) .none kV4 dc4 pm4 an4 cd4 ct4), sl4⟩)
    (c4 : PySem.W.codeIn K cd4 "Desk.has_field" = true)
    (k4 : PySem.W.keepIn K (.ref f4) = true)
    (a5 : PySem.W.findIn K (.ref CD) "has_thing" = some (some (.ref f5)))
    (i5 : PySem.W.isFn K (.ref f5) = true)
    (l5 : K.lookup f5 = some ⟨oc5, od5, .func (PySem.W.fnOf "has_thing" "Desk.has_thing" (defArgs sHasThing) (defBody sHasThing) (defScope sHasThing) .none kV5 dc5 pm5 an5 cd5 ct5), sl5⟩)
    (c5 : PySem.W.codeIn K cd5 "Desk.has_thing" = true)
    (k5 : PySem.W.keepIn K (.ref f5) = true)
    (a6 : PySem.W.findIn K (.ref CD) "has_record" = some (some (.ref f6)))
    (i6 : PySem.W.isFn K (.ref f6) = true)
    (l6 : K.lookup f6 = some ⟨oc6, od6, .func (PySem.W.fnOf "has_record" "Desk.has_record" (defArgs sHasRecord) (defBody sHasRecord) (defScope sHasRecord) .none kV6 dc6 pm6 an6 cd6 ct6), sl6⟩)
    (c6 : PySem.W.codeIn K cd6 "Desk.has_record" = true)
    (k6 : PySem.W.keepIn K (.ref f6) = true)
    (a7 : PySem.W.findIn K (.ref CD) "file_record" = some (some (.ref f7)))
    (i7 : PySem.W.isFn K (.ref f7) = true)
    (l7 : K.lookup f7 = some ⟨oc7, od7, .func (PySem.W.fnOf "file_record" "Desk.file_record" (defArgs sFile) (defBody sFile) (defScope sFile) .none kV7 dc7 pm7 an7 cd7 ct7), sl7⟩)
    (c7 : PySem.W.codeIn K cd7 "Desk.file_record" = true)
    (k7 : PySem.W.keepIn K (.ref f7) = true)
    (a8 : PySem.W.findIn K (.ref CD) "numbers_of" = some (some (.ref f8)))
    (i8 : PySem.W.isFn K (.ref f8) = true)
    (l8 : K.lookup f8 = some ⟨oc8, od8, .func (PySem.W.fnOf "numbers_of" "Desk.numbers_of" (defArgs sNumsOf) (defBody sNumsOf) (defScope sNumsOf) .none kV8 dc8 pm8 an8 cd8 ct8), sl8⟩)
    (c8 : PySem.W.codeIn K cd8 "Desk.numbers_of" = true)
    (k8 : PySem.W.keepIn K (.ref f8) = true)
    (a9 : PySem.W.findIn K (.ref CD) "numbers_saying" = some (some (.ref f9)))
    (i9 : PySem.W.isFn K (.ref f9) = true)
    (l9 : K.lookup f9 = some ⟨oc9, od9, .func (PySem.W.fnOf "numbers_saying" "Desk.numbers_saying" (defArgs sNumsSay) (defBody sNumsSay) (defScope sNumsSay) .none kV9 dc9 pm9 an9 cd9 ct9), sl9⟩)
    (c9 : PySem.W.codeIn K cd9 "Desk.numbers_saying" = true)
    (k9 : PySem.W.keepIn K (.ref f9) = true)
    (a10 : PySem.W.findIn K (.ref CD) "values_said" = some (some (.ref f10)))
    (i10 : PySem.W.isFn K (.ref f10) = true)
    (l10 : K.lookup f10 = some ⟨oc10, od10, .func (PySem.W.fnOf "values_said" "Desk.values_said" (defArgs sValsSaid) (defBody sValsSaid) (defScope sValsSaid) .none kV10 dc10 pm10 an10 cd10 ct10), sl10⟩)
    (c10 : PySem.W.codeIn K cd10 "Desk.values_said" = true)
    (k10 : PySem.W.keepIn K (.ref f10) = true)
    (a11 : PySem.W.findIn K (.ref CD) "place" = some (some (.ref f11)))
    (i11 : PySem.W.isFn K (.ref f11) = true)
    (l11 : K.lookup f11 = some ⟨oc11, od11, .func (PySem.W.fnOf "place" "Desk.place" (defArgs sPlace) (defBody sPlace) (defScope sPlace) .none kV11 dc11 pm11 an11 cd11 ct11), sl11⟩)
    (c11 : PySem.W.codeIn K cd11 "Desk.place" = true)
    (k11 : PySem.W.keepIn K (.ref f11) = true)
    (a12 : PySem.W.findIn K (.ref CD) "leader" = some (some (.ref f12)))
    (i12 : PySem.W.isFn K (.ref f12) = true)
    (l12 : K.lookup f12 = some ⟨oc12, od12, .func (PySem.W.fnOf "leader" "Desk.leader" (defArgs sLeader) (defBody sLeader) (defScope sLeader) .none kV12 dc12 pm12 an12 cd12 ct12), sl12⟩)
    (c12 : PySem.W.codeIn K cd12 "Desk.leader" = true)
    (k12 : PySem.W.keepIn K (.ref f12) = true)
    (hcode : cd12 = Value.ref 120)
    (a13 : PySem.W.findIn K (.ref CD) "chosen" = some (some (.ref f13)))
    (i13 : PySem.W.isFn K (.ref f13) = true)
    (l13 : K.lookup f13 = some ⟨oc13, od13, .func (PySem.W.fnOf "chosen" "Desk.chosen" (defArgs sChosen) (defBody sChosen) (defScope sChosen) .none kV13 dc13 pm13 an13 cd13 ct13), sl13⟩)
    (c13 : PySem.W.codeIn K cd13 "Desk.chosen" = true)
    (k13 : PySem.W.keepIn K (.ref f13) = true)
    (a14 : PySem.W.findIn K (.ref CD) "leaders_to_go" = some (some (.ref f14)))
    (i14 : PySem.W.isFn K (.ref f14) = true)
    (l14 : K.lookup f14 = some ⟨oc14, od14, .func (PySem.W.fnOf "leaders_to_go" "Desk.leaders_to_go" (defArgs sToGo) (defBody sToGo) (defScope sToGo) .none kV14 dc14 pm14 an14 cd14 ct14), sl14⟩)
    (c14 : PySem.W.codeIn K cd14 "Desk.leaders_to_go" = true)
    (k14 : PySem.W.keepIn K (.ref f14) = true)
    (a15 : PySem.W.findIn K (.ref CD) "fewest_to_go" = some (some (.ref f15)))
    (i15 : PySem.W.isFn K (.ref f15) = true)
    (l15 : K.lookup f15 = some ⟨oc15, od15, .func (PySem.W.fnOf "fewest_to_go" "Desk.fewest_to_go" (defArgs sFewGo) (defBody sFewGo) (defScope sFewGo) .none kV15 dc15 pm15 an15 cd15 ct15), sl15⟩)
    (c15 : PySem.W.codeIn K cd15 "Desk.fewest_to_go" = true)
    (k15 : PySem.W.keepIn K (.ref f15) = true)
    (a16 : PySem.W.nsIn K mainGlobals "set_fields" = some (some (.ref f16)))
    (l16 : K.lookup f16 = some ⟨oc16, od16, .func (PySem.W.fnOf "set_fields" "set_fields" (defArgs sSetFields) (defBody sSetFields) (defScope sSetFields) .none kV16 dc16 pm16 an16 cd16 ct16), sl16⟩)
    (c16 : PySem.W.codeIn K cd16 "set_fields" = true)
    (k16 : PySem.W.keepIn K (.ref f16) = true)
    (a17 : PySem.W.nsIn K mainGlobals "set_rule" = some (some (.ref f17)))
    (l17 : K.lookup f17 = some ⟨oc17, od17, .func (PySem.W.fnOf "set_rule" "set_rule" (defArgs sSetRule) (defBody sSetRule) (defScope sSetRule) .none kV17 dc17 pm17 an17 cd17 ct17), sl17⟩)
    (c17 : PySem.W.codeIn K cd17 "set_rule" = true)
    (k17 : PySem.W.keepIn K (.ref f17) = true)
    (a18 : PySem.W.nsIn K mainGlobals "set_trust" = some (some (.ref f18)))
    (l18 : K.lookup f18 = some ⟨oc18, od18, .func (PySem.W.fnOf "set_trust" "set_trust" (defArgs sSetTrust) (defBody sSetTrust) (defScope sSetTrust) .none kV18 dc18 pm18 an18 cd18 ct18), sl18⟩)
    (c18 : PySem.W.codeIn K cd18 "set_trust" = true)
    (k18 : PySem.W.keepIn K (.ref f18) = true)
    (a19 : PySem.W.nsIn K mainGlobals "fits_desk" = some (some (.ref f19)))
    (l19 : K.lookup f19 = some ⟨oc19, od19, .func (PySem.W.fnOf "fits_desk" "fits_desk" (defArgs sFits) (defBody sFits) (defScope sFits) .none kV19 dc19 pm19 an19 cd19 ct19), sl19⟩)
    (c19 : PySem.W.codeIn K cd19 "fits_desk" = true)
    (k19 : PySem.W.keepIn K (.ref f19) = true)
    (a20 : PySem.W.nsIn K mainGlobals "add_record" = some (some (.ref f20)))
    (l20 : K.lookup f20 = some ⟨oc20, od20, .func (PySem.W.fnOf "add_record" "add_record" (defArgs sAdd) (defBody sAdd) (defScope sAdd) .none kV20 dc20 pm20 an20 cd20 ct20), sl20⟩)
    (c20 : PySem.W.codeIn K cd20 "add_record" = true)
    (k20 : PySem.W.keepIn K (.ref f20) = true)
    (a21 : PySem.W.nsIn K mainGlobals "remove_record" = some (some (.ref f21)))
    (l21 : K.lookup f21 = some ⟨oc21, od21, .func (PySem.W.fnOf "remove_record" "remove_record" (defArgs sRemove) (defBody sRemove) (defScope sRemove) .none kV21 dc21 pm21 an21 cd21 ct21), sl21⟩)
    (c21 : PySem.W.codeIn K cd21 "remove_record" = true)
    (k21 : PySem.W.keepIn K (.ref f21) = true)
    (a22 : PySem.W.nsIn K mainGlobals "change_value" = some (some (.ref f22)))
    (l22 : K.lookup f22 = some ⟨oc22, od22, .func (PySem.W.fnOf "change_value" "change_value" (defArgs sChange) (defBody sChange) (defScope sChange) .none kV22 dc22 pm22 an22 cd22 ct22), sl22⟩)
    (c22 : PySem.W.codeIn K cd22 "change_value" = true)
    (k22 : PySem.W.keepIn K (.ref f22) = true)
    (a23 : PySem.W.nsIn K mainGlobals "put_record" = some (some (.ref f23)))
    (l23 : K.lookup f23 = some ⟨oc23, od23, .func (PySem.W.fnOf "put_record" "put_record" (defArgs sPut) (defBody sPut) (defScope sPut) .none kV23 dc23 pm23 an23 cd23 ct23), sl23⟩)
    (c23 : PySem.W.codeIn K cd23 "put_record" = true)
    (k23 : PySem.W.keepIn K (.ref f23) = true)
    (a24 : PySem.W.nsIn K mainGlobals "turn_wrong" = some (some (.ref f24)))
    (l24 : K.lookup f24 = some ⟨oc24, od24, .func (PySem.W.fnOf "turn_wrong" "turn_wrong" (defArgs sTurn) (defBody sTurn) (defScope sTurn) .none kV24 dc24 pm24 an24 cd24 ct24), sl24⟩)
    (c24 : PySem.W.codeIn K cd24 "turn_wrong" = true)
    (k24 : PySem.W.keepIn K (.ref f24) = true)
    (a25 : PySem.W.nsIn K mainGlobals "set_pin" = some (some (.ref f25)))
    (l25 : K.lookup f25 = some ⟨oc25, od25, .func (PySem.W.fnOf "set_pin" "set_pin" (defArgs sPin) (defBody sPin) (defScope sPin) .none kV25 dc25 pm25 an25 cd25 ct25), sl25⟩)
    (c25 : PySem.W.codeIn K cd25 "set_pin" = true)
    (k25 : PySem.W.keepIn K (.ref f25) = true)
    (a26 : PySem.W.nsIn K mainGlobals "one_field" = some (some (.ref f26)))
    (l26 : K.lookup f26 = some ⟨oc26, od26, .func (PySem.W.fnOf "one_field" "one_field" (defArgs sOneField) (defBody sOneField) (defScope sOneField) .none kV26 dc26 pm26 an26 cd26 ct26), sl26⟩)
    (c26 : PySem.W.codeIn K cd26 "one_field" = true)
    (k26 : PySem.W.keepIn K (.ref f26) = true)
    (a27 : PySem.W.nsIn K mainGlobals "tell_one" = some (some (.ref f27)))
    (l27 : K.lookup f27 = some ⟨oc27, od27, .func (PySem.W.fnOf "tell_one" "tell_one" (defArgs sTellOne) (defBody sTellOne) (defScope sTellOne) .none kV27 dc27 pm27 an27 cd27 ct27), sl27⟩)
    (c27 : PySem.W.codeIn K cd27 "tell_one" = true)
    (k27 : PySem.W.keepIn K (.ref f27) = true)
    (a28 : PySem.W.nsIn K mainGlobals "tell_why" = some (some (.ref f28)))
    (l28 : K.lookup f28 = some ⟨oc28, od28, .func (PySem.W.fnOf "tell_why" "tell_why" (defArgs sTellWhy) (defBody sTellWhy) (defScope sTellWhy) .none kV28 dc28 pm28 an28 cd28 ct28), sl28⟩)
    (c28 : PySem.W.codeIn K cd28 "tell_why" = true)
    (k28 : PySem.W.keepIn K (.ref f28) = true)
    (a29 : PySem.W.nsIn K mainGlobals "tell_conflicts" = some (some (.ref f29)))
    (l29 : K.lookup f29 = some ⟨oc29, od29, .func (PySem.W.fnOf "tell_conflicts" "tell_conflicts" (defArgs sTellConf) (defBody sTellConf) (defScope sTellConf) .none kV29 dc29 pm29 an29 cd29 ct29), sl29⟩)
    (c29 : PySem.W.codeIn K cd29 "tell_conflicts" = true)
    (k29 : PySem.W.keepIn K (.ref f29) = true)
    (a30 : PySem.W.nsIn K mainGlobals "tell_fewest" = some (some (.ref f30)))
    (l30 : K.lookup f30 = some ⟨oc30, od30, .func (PySem.W.fnOf "tell_fewest" "tell_fewest" (defArgs sTellFew) (defBody sTellFew) (defScope sTellFew) .none kV30 dc30 pm30 an30 cd30 ct30), sl30⟩)
    (c30 : PySem.W.codeIn K cd30 "tell_fewest" = true)
    (k30 : PySem.W.keepIn K (.ref f30) = true)
    (a31 : PySem.W.nsIn K mainGlobals "tell_counts" = some (some (.ref f31)))
    (l31 : K.lookup f31 = some ⟨oc31, od31, .func (PySem.W.fnOf "tell_counts" "tell_counts" (defArgs sTellCnt) (defBody sTellCnt) (defScope sTellCnt) .none kV31 dc31 pm31 an31 cd31 ct31), sl31⟩)
    (c31 : PySem.W.codeIn K cd31 "tell_counts" = true)
    (k31 : PySem.W.keepIn K (.ref f31) = true)
    (a32 : PySem.W.nsIn K mainGlobals "call_end" = some (some (.ref f32)))
    (l32 : K.lookup f32 = some ⟨oc32, od32, .func (PySem.W.fnOf "call_end" "call_end" (defArgs sEnd) (defBody sEnd) (defScope sEnd) .none kV32 dc32 pm32 an32 cd32 ct32), sl32⟩)
    (c32 : PySem.W.codeIn K cd32 "call_end" = true)
    (k32 : PySem.W.keepIn K (.ref f32) = true)
    (a33 : PySem.W.nsIn K mainGlobals "answer" = some (some (.ref f33)))
    (l33 : K.lookup f33 = some ⟨oc33, od33, .func (PySem.W.fnOf "answer" "answer" (defArgs sAnswer) (defBody sAnswer) (defScope sAnswer) .none kV33 dc33 pm33 an33 cd33 ct33), sl33⟩)
    (c33 : PySem.W.codeIn K cd33 "answer" = true)
    (k33 : PySem.W.keepIn K (.ref f33) = true)
    (a34 : PySem.W.nsIn K mainGlobals "answers" = some (some (.ref f34)))
    (l34 : K.lookup f34 = some ⟨oc34, od34, .func (PySem.W.fnOf "answers" "answers" (defArgs sAnswers) (defBody sAnswers) (defScope sAnswers) .none kV34 dc34 pm34 an34 cd34 ct34), sl34⟩)
    (c34 : PySem.W.codeIn K cd34 "answers" = true)
    (k34 : PySem.W.keepIn K (.ref f34) = true)
    (pgCD : PySem.W.plainGet K CD Str.empty = true)
    (hdCD : PySem.W.hasDictIn K CD = true)
    (poCD : PySem.W.plainOver K CD = true)
    (saCD : PySem.W.findIn K (.ref CD) "__setattr__" = some (some (.builtin "object.__setattr__")))
    (mkCD : PySem.W.makesIn K CD = true)
    (kcCD : PySem.W.keepIn K (.ref CD) = true)
    (nCD_rules : PySem.W.findIn K (.ref CD) "rules" = some none)
    (nCD_trusted : PySem.W.findIn K (.ref CD) "trusted" = some none)
    (nCD_records : PySem.W.findIn K (.ref CD) "records" = some none)
    (nCD_last_number : PySem.W.findIn K (.ref CD) "last_number" = some none)
    (nCD_pins : PySem.W.findIn K (.ref CD) "pins" = some none)
    (pgCR : PySem.W.plainGet K CR Str.empty = true)
    (hdCR : PySem.W.hasDictIn K CR = true)
    (poCR : PySem.W.plainOver K CR = true)
    (saCR : PySem.W.findIn K (.ref CR) "__setattr__" = some (some (.builtin "object.__setattr__")))
    (mkCR : PySem.W.makesIn K CR = true)
    (kcCR : PySem.W.keepIn K (.ref CR) = true)
    (nCR_source : PySem.W.findIn K (.ref CR) "source" = some none)
    (nCR_time : PySem.W.findIn K (.ref CR) "time" = some none)
    (nCR_thing : PySem.W.findIn K (.ref CR) "thing" = some none)
    (nCR_field_values : PySem.W.findIn K (.ref CR) "field_values" = some none)
    (nCR_field_wrong : PySem.W.findIn K (.ref CR) "field_wrong" = some none)
    (z_FIELDS_AT_FIRST : PySem.W.nsIn K mainGlobals "FIELDS_AT_FIRST" = some (some (.int (2) t_FIELDS_AT_FIRST)))
    (z_MOST_THING : PySem.W.nsIn K mainGlobals "MOST_THING" = some (some (.int (4) t_MOST_THING)))
    (z_MOST_TRUSTED : PySem.W.nsIn K mainGlobals "MOST_TRUSTED" = some (some (.int (1) t_MOST_TRUSTED)))
    (z_MOST_COMMON : PySem.W.nsIn K mainGlobals "MOST_COMMON" = some (some (.int (2) t_MOST_COMMON)))
    (z_GREATEST : PySem.W.nsIn K mainGlobals "GREATEST" = some (some (.int (3) t_GREATEST)))
    (z_LEAST : PySem.W.nsIn K mainGlobals "LEAST" = some (some (.int (4) t_LEAST)))
    (z_FIELDS : PySem.W.nsIn K mainGlobals "FIELDS" = some (some (.int (0) t_FIELDS)))
    (z_RULE : PySem.W.nsIn K mainGlobals "RULE" = some (some (.int (1) t_RULE)))
    (z_TRUST : PySem.W.nsIn K mainGlobals "TRUST" = some (some (.int (2) t_TRUST)))
    (z_RECORD : PySem.W.nsIn K mainGlobals "RECORD" = some (some (.int (3) t_RECORD)))
    (z_REMOVE : PySem.W.nsIn K mainGlobals "REMOVE" = some (some (.int (4) t_REMOVE)))
    (z_CHANGE : PySem.W.nsIn K mainGlobals "CHANGE" = some (some (.int (5) t_CHANGE)))
    (z_PUT : PySem.W.nsIn K mainGlobals "PUT" = some (some (.int (6) t_PUT)))
    (z_WRONG : PySem.W.nsIn K mainGlobals "WRONG" = some (some (.int (7) t_WRONG)))
    (z_PIN : PySem.W.nsIn K mainGlobals "PIN" = some (some (.int (8) t_PIN)))
    (z_ONE : PySem.W.nsIn K mainGlobals "ONE" = some (some (.int (9) t_ONE)))
    (z_WHY : PySem.W.nsIn K mainGlobals "WHY" = some (some (.int (10) t_WHY)))
    (z_CONFLICTS : PySem.W.nsIn K mainGlobals "CONFLICTS" = some (some (.int (11) t_CONFLICTS)))
    (z_FEWEST : PySem.W.nsIn K mainGlobals "FEWEST" = some (some (.int (12) t_FEWEST)))
    (z_MOST_FIELDS : PySem.W.nsIn K mainGlobals "MOST_FIELDS" = some (some (.int (4) t_MOST_FIELDS)))
    (z_MOST_RULE : PySem.W.nsIn K mainGlobals "MOST_RULE" = some (some (.int (4) t_MOST_RULE)))
    (z_MOST_TIME : PySem.W.nsIn K mainGlobals "MOST_TIME" = some (some (.int (1000000) t_MOST_TIME)))
    (z_MOST_VALUE : PySem.W.nsIn K mainGlobals "MOST_VALUE" = some (some (.int (1000) t_MOST_VALUE)))
    (z_MOST_RECORDS : PySem.W.nsIn K mainGlobals "MOST_RECORDS" = some (some (.int (12) t_MOST_RECORDS)))
    (z_NOT_AS_TOLD : PySem.W.nsIn K mainGlobals "NOT_AS_TOLD" = some (some (.int (-1) t_NOT_AS_TOLD)))
    (z_NONE_SUCH : PySem.W.nsIn K mainGlobals "NONE_SUCH" = some (some (.int (-3) t_NONE_SUCH)))
    (z_NOTHING_SAID : PySem.W.nsIn K mainGlobals "NOTHING_SAID" = some (some (.int (-5) t_NOTHING_SAID)))
    (z_FULL : PySem.W.nsIn K mainGlobals "FULL" = some (some (.int (-6) t_FULL)))
    (z_BY_NOTHING : PySem.W.nsIn K mainGlobals "BY_NOTHING" = some (some (.int (0) t_BY_NOTHING)))
    (z_BY_CHOICE : PySem.W.nsIn K mainGlobals "BY_CHOICE" = some (some (.int (1) t_BY_CHOICE)))
    (z_BY_PIN : PySem.W.nsIn K mainGlobals "BY_PIN" = some (some (.int (2) t_BY_PIN)))
    (z_SOURCES : PySem.W.nsIn K mainGlobals "SOURCES" = some (some (.ref A_SOURCES)))
    (y_SOURCES : K.lookup A_SOURCES = some ⟨.type "tuple", od_SOURCES, .seq #[.int (1) u_SOURCES0, .int (2) u_SOURCES1, .int (3) u_SOURCES2, .int (4) u_SOURCES3] n_SOURCES, sl_SOURCES⟩)
    (z_PLAIN_NUMBERS : PySem.W.nsIn K mainGlobals "PLAIN_NUMBERS" = some (some (.ref A_PLAIN_NUMBERS)))
    (y_PLAIN_NUMBERS : K.lookup A_PLAIN_NUMBERS = some ⟨.type "tuple", od_PLAIN_NUMBERS, .seq #[.int (1) u_PLAIN_NUMBERS0, .int (2) u_PLAIN_NUMBERS1, .int (0) u_PLAIN_NUMBERS2, .int (3) u_PLAIN_NUMBERS3, .int (1) u_PLAIN_NUMBERS4, .int (3) u_PLAIN_NUMBERS5, .int (2) u_PLAIN_NUMBERS6, .int (2) u_PLAIN_NUMBERS7, .int (3) u_PLAIN_NUMBERS8, .int (1) u_PLAIN_NUMBERS9, .int (2) u_PLAIN_NUMBERS10, .int (1) u_PLAIN_NUMBERS11, .int (2) u_PLAIN_NUMBERS12, .int (0) u_PLAIN_NUMBERS13] n_PLAIN_NUMBERS, sl_PLAIN_NUMBERS⟩)
    (b_len : PySem.W.nsIn K mainGlobals "len" = some none)
    (b_list : PySem.W.nsIn K mainGlobals "list" = some none)
    (b_sorted : PySem.W.nsIn K mainGlobals "sorted" = some none)
    (b_all : PySem.W.nsIn K mainGlobals "all" = some none)
    (b_min : PySem.W.nsIn K mainGlobals "min" = some none)
    (b_range : PySem.W.nsIn K mainGlobals "range" = some none)
    (b_set : PySem.W.nsIn K mainGlobals "set" = some none)
    : ∃ fd : FuncData, (∀ (s : Shared) (us : List Value), us.length = (["calls"] : List Str).length → BindsTo s fd ⟨us, []⟩ ((["calls"] : List Str).zip us)) ∧ ∀ base : Heap, K.In base → base.Ns mainGlobals mg → TabB base mg 120 116 → FnOk P w K mg base CX0 11 fa fd ["calls"] (spTop K) := by
  have e := hfa.symm.trans (PySem.W.mg_of X G a34)
  cases e
  have F0 := fun_mk (st := sRInit) l0 c0 k0
  have B0 := F0.binds (ps := ["self", "source", "time", "thing", "field_values"]) fun _ _ _ _ _ _ us hl => match us, hl with | [_, _, _, _, _], _ => rfl
  have F1 := fun_mk (st := sSays) l1 c1 k1
  have B1 := F1.binds (ps := ["self", "field"]) fun _ _ _ _ _ _ us hl => match us, hl with | [_, _], _ => rfl
  have F2 := fun_mk (st := sDInit) l2 c2 k2
  have B2 := F2.binds (ps := ["self"]) fun _ _ _ _ _ _ us hl => match us, hl with | [_], _ => rfl
  have F3 := fun_mk (st := sBegin) l3 c3 k3
  have B3 := F3.binds (ps := ["self", "field_count"]) fun _ _ _ _ _ _ us hl => match us, hl with | [_, _], _ => rfl
  have F4 := fun_mk (st := sHasField) l4 c4 k4
  have B4 := F4.binds (ps := ["self", "field"]) fun _ _ _ _ _ _ us hl => match us, hl with | [_, _], _ => rfl
  have F5 := fun_mk (st := sHasThing) l5 c5 k5
  have B5 := F5.binds (ps := ["self", "thing"]) fun _ _ _ _ _ _ us hl => match us, hl with | [_, _], _ => rfl
  have F6 := fun_mk (st := sHasRecord) l6 c6 k6
  have B6 := F6.binds (ps := ["self", "number"]) fun _ _ _ _ _ _ us hl => match us, hl with | [_, _], _ => rfl
  have F7 := fun_mk (st := sFile) l7 c7 k7
  have B7 := F7.binds (ps := ["self", "record"]) fun _ _ _ _ _ _ us hl => match us, hl with | [_, _], _ => rfl
  have F8 := fun_mk (st := sNumsOf) l8 c8 k8
  have B8 := F8.binds (ps := ["self", "thing"]) fun _ _ _ _ _ _ us hl => match us, hl with | [_, _], _ => rfl
  have F9 := fun_mk (st := sNumsSay) l9 c9 k9
  have B9 := F9.binds (ps := ["self", "thing", "field"]) fun _ _ _ _ _ _ us hl => match us, hl with | [_, _, _], _ => rfl
  have F10 := fun_mk (st := sValsSaid) l10 c10 k10
  have B10 := F10.binds (ps := ["self", "field", "numbers"]) fun _ _ _ _ _ _ us hl => match us, hl with | [_, _, _], _ => rfl
  have F11 := fun_mk (st := sPlace) l11 c11 k11
  have B11 := F11.binds (ps := ["self", "field", "number", "spoken"]) fun _ _ _ _ _ _ us hl => match us, hl with | [_, _, _, _], _ => rfl
  have F12 := fun_mk (st := sLeader) l12 c12 k12
  have B12 := F12.binds (ps := ["self", "field", "numbers"]) fun _ _ _ _ _ _ us hl => match us, hl with | [_, _, _], _ => rfl
  have F13 := fun_mk (st := sChosen) l13 c13 k13
  have B13 := F13.binds (ps := ["self", "field", "numbers"]) fun _ _ _ _ _ _ us hl => match us, hl with | [_, _, _], _ => rfl
  have F14 := fun_mk (st := sToGo) l14 c14 k14
  have B14 := F14.binds (ps := ["self", "field", "numbers", "value"]) fun _ _ _ _ _ _ us hl => match us, hl with | [_, _, _, _], _ => rfl
  have F15 := fun_mk (st := sFewGo) l15 c15 k15
  have B15 := F15.binds (ps := ["self", "field", "numbers"]) fun _ _ _ _ _ _ us hl => match us, hl with | [_, _, _], _ => rfl
  have F16 := fun_mk (st := sSetFields) l16 c16 k16
  have B16 := F16.binds (ps := ["desk", "field_count"]) fun _ _ _ _ _ _ us hl => match us, hl with | [_, _], _ => rfl
  have F17 := fun_mk (st := sSetRule) l17 c17 k17
  have B17 := F17.binds (ps := ["desk", "field", "rule"]) fun _ _ _ _ _ _ us hl => match us, hl with | [_, _, _], _ => rfl
  have F18 := fun_mk (st := sSetTrust) l18 c18 k18
  have B18 := F18.binds (ps := ["desk", "sources"]) fun _ _ _ _ _ _ us hl => match us, hl with | [_, _], _ => rfl
  have F19 := fun_mk (st := sFits) l19 c19 k19
  have B19 := F19.binds (ps := ["desk", "record"]) fun _ _ _ _ _ _ us hl => match us, hl with | [_, _], _ => rfl
  have F20 := fun_mk (st := sAdd) l20 c20 k20
  have B20 := F20.binds (ps := ["desk", "record"]) fun _ _ _ _ _ _ us hl => match us, hl with | [_, _], _ => rfl
  have F21 := fun_mk (st := sRemove) l21 c21 k21
  have B21 := F21.binds (ps := ["desk", "number"]) fun _ _ _ _ _ _ us hl => match us, hl with | [_, _], _ => rfl
  have F22 := fun_mk (st := sChange) l22 c22 k22
  have B22 := F22.binds (ps := ["desk", "number", "field", "value"]) fun _ _ _ _ _ _ us hl => match us, hl with | [_, _, _, _], _ => rfl
  have F23 := fun_mk (st := sPut) l23 c23 k23
  have B23 := F23.binds (ps := ["desk", "number", "thing"]) fun _ _ _ _ _ _ us hl => match us, hl with | [_, _, _], _ => rfl
  have F24 := fun_mk (st := sTurn) l24 c24 k24
  have B24 := F24.binds (ps := ["desk", "number", "field"]) fun _ _ _ _ _ _ us hl => match us, hl with | [_, _, _], _ => rfl
  have F25 := fun_mk (st := sPin) l25 c25 k25
  have B25 := F25.binds (ps := ["desk", "thing", "field", "value"]) fun _ _ _ _ _ _ us hl => match us, hl with | [_, _, _, _], _ => rfl
  have F26 := fun_mk (st := sOneField) l26 c26 k26
  have B26 := F26.binds (ps := ["desk", "thing", "field"]) fun _ _ _ _ _ _ us hl => match us, hl with | [_, _, _], _ => rfl
  have F27 := fun_mk (st := sTellOne) l27 c27 k27
  have B27 := F27.binds (ps := ["desk", "thing"]) fun _ _ _ _ _ _ us hl => match us, hl with | [_, _], _ => rfl
  have F28 := fun_mk (st := sTellWhy) l28 c28 k28
  have B28 := F28.binds (ps := ["desk", "thing", "field"]) fun _ _ _ _ _ _ us hl => match us, hl with | [_, _, _], _ => rfl
  have F29 := fun_mk (st := sTellConf) l29 c29 k29
  have B29 := F29.binds (ps := ["desk", "thing"]) fun _ _ _ _ _ _ us hl => match us, hl with | [_, _], _ => rfl
  have F30 := fun_mk (st := sTellFew) l30 c30 k30
  have B30 := F30.binds (ps := ["desk", "thing", "field"]) fun _ _ _ _ _ _ us hl => match us, hl with | [_, _, _], _ => rfl
  have F31 := fun_mk (st := sTellCnt) l31 c31 k31
  have B31 := F31.binds (ps := ["desk"]) fun _ _ _ _ _ _ us hl => match us, hl with | [_], _ => rfl
  have F32 := fun_mk (st := sEnd) l32 c32 k32
  have B32 := F32.binds (ps := ["calls", "start"]) fun _ _ _ _ _ _ us hl => match us, hl with | [_, _], _ => rfl
  have F33 := fun_mk (st := sAnswer) l33 c33 k33
  have B33 := F33.binds (ps := ["desk", "call"]) fun _ _ _ _ _ _ us hl => match us, hl with | [_, _], _ => rfl
  have F34 := fun_mk (st := sAnswers) l34 c34 k34
  have B34 := F34.binds (ps := ["calls"]) fun _ _ _ _ _ _ us hl => match us, hl with | [_], _ => rfl
  have T : Txt K mg CD CR := ⟨⟨pgCD, hdCD, poCD, saCD⟩, ⟨pgCR, hdCR, poCR, saCR⟩, nCD_rules, nCD_trusted, nCD_records, nCD_last_number, nCD_pins, nCR_source, nCR_time, nCR_thing, nCR_field_values, nCR_field_wrong, PySem.W.mg_of X G gCD, PySem.W.mg_of X G gCR, ⟨_, PySem.W.mg_of X G z_SOURCES, tup_of y_SOURCES (by show 4 ≤ sizeLine; decide) (.cons ⟨_, rfl⟩ (.cons ⟨_, rfl⟩ (.cons ⟨_, rfl⟩ (.cons ⟨_, rfl⟩ (.nil)))))⟩, PySem.W.mg_none_of X G b_len, PySem.W.mg_none_of X G b_list, ⟨_, PySem.W.mg_of X G z_FIELDS_AT_FIRST⟩⟩
  have T2 : Cst K mg := ⟨⟨_, PySem.W.mg_of X G z_MOST_FIELDS⟩, ⟨_, PySem.W.mg_of X G z_MOST_RULE⟩, ⟨_, PySem.W.mg_of X G z_MOST_TIME⟩, ⟨_, PySem.W.mg_of X G z_MOST_THING⟩, ⟨_, PySem.W.mg_of X G z_MOST_VALUE⟩, ⟨_, PySem.W.mg_of X G z_MOST_RECORDS⟩, ⟨_, PySem.W.mg_of X G z_NOT_AS_TOLD⟩, ⟨_, PySem.W.mg_of X G z_NONE_SUCH⟩, ⟨_, PySem.W.mg_of X G z_FULL⟩, PySem.W.mg_none_of X G b_sorted, PySem.W.mg_none_of X G b_all⟩
  have T3 : Cst3 K mg := ⟨⟨_, PySem.W.mg_of X G z_FIELDS⟩, ⟨_, PySem.W.mg_of X G z_RULE⟩, ⟨_, PySem.W.mg_of X G z_TRUST⟩, ⟨_, PySem.W.mg_of X G z_RECORD⟩, ⟨_, PySem.W.mg_of X G z_REMOVE⟩, ⟨_, PySem.W.mg_of X G z_CHANGE⟩, ⟨_, PySem.W.mg_of X G z_PUT⟩, ⟨_, PySem.W.mg_of X G z_WRONG⟩, ⟨_, PySem.W.mg_of X G z_PIN⟩, ⟨_, PySem.W.mg_of X G z_ONE⟩, ⟨_, PySem.W.mg_of X G z_WHY⟩, ⟨_, PySem.W.mg_of X G z_CONFLICTS⟩, ⟨_, PySem.W.mg_of X G z_FEWEST⟩, ⟨_, PySem.W.mg_of X G z_PLAIN_NUMBERS, tup_of y_PLAIN_NUMBERS (by show 14 ≤ sizeLine; decide) (.cons ⟨_, rfl⟩ (.cons ⟨_, rfl⟩ (.cons ⟨_, rfl⟩ (.cons ⟨_, rfl⟩ (.cons ⟨_, rfl⟩ (.cons ⟨_, rfl⟩ (.cons ⟨_, rfl⟩ (.cons ⟨_, rfl⟩ (.cons ⟨_, rfl⟩ (.cons ⟨_, rfl⟩ (.cons ⟨_, rfl⟩ (.cons ⟨_, rfl⟩ (.cons ⟨_, rfl⟩ (.cons ⟨_, rfl⟩ (.nil)))))))))))))))⟩⟩
  have T4 : Cst4 K mg := ⟨⟨_, PySem.W.mg_of X G z_MOST_TRUSTED⟩, ⟨_, PySem.W.mg_of X G z_MOST_COMMON⟩, ⟨_, PySem.W.mg_of X G z_GREATEST⟩, ⟨_, PySem.W.mg_of X G z_LEAST⟩, PySem.W.mg_none_of X G b_min⟩
  have T5 : Cst5 K mg := ⟨⟨_, PySem.W.mg_of X G z_BY_NOTHING⟩, ⟨_, PySem.W.mg_of X G z_BY_CHOICE⟩, ⟨_, PySem.W.mg_of X G z_BY_PIN⟩, ⟨_, PySem.W.mg_of X G z_NOTHING_SAID⟩, PySem.W.mg_none_of X G b_range, PySem.W.mg_none_of X G b_set⟩
  have fin : ∀ base : Heap, TabB base mg 120 116 → FnOk P w K mg base CX0 11 fa _ ["calls"] (spAns0 K 116) := fun base TB => by
    have m_says : MethF P w K mg base CR "says" 1 ["self", "field"] (spSays CR) := ⟨_, _, ok_says F1 T, ⟨a1, i1, k1⟩, B1⟩
    have oBegin := ok_begin (P := P) (w := w) (base := base) F3 T
    have mBegin : Meth K CD "begin" f3 := ⟨a3, i3, k3⟩
    have oField := ok_hasField (P := P) (w := w) (base := base) F4 T
    have mField : Meth K CD "has_field" f4 := ⟨a4, i4, k4⟩
    have m_has_field : MethF P w K mg base CD "has_field" 1 ["self", "field"] (spHasField CD CR) := ⟨_, _, oField, ⟨a4, i4, k4⟩, B4⟩
    have m_has_thing : MethF P w K mg base CD "has_thing" 1 ["self", "thing"] (spHasThing) := ⟨_, _, ok_hasThing F5 T2, ⟨a5, i5, k5⟩, B5⟩
    have m_has_record : MethF P w K mg base CD "has_record" 1 ["self", "number"] (spHasRecord CD CR) := ⟨_, _, ok_hasRecord F6 T, ⟨a6, i6, k6⟩, B6⟩
    have m_file_record : MethF P w K mg base CD "file_record" 1 ["self", "record"] (spFile CD CR) := ⟨_, _, ok_file F7 T, ⟨a7, i7, k7⟩, B7⟩
    have m_numbers_of : MethF P w K mg base CD "numbers_of" 1 ["self", "thing"] (spNumsOf CD CR) := ⟨_, _, ok_numsOf F8 T, ⟨a8, i8, k8⟩, B8⟩
    have m_numbers_saying : MethF P w K mg base CD "numbers_saying" 2 ["self", "thing", "field"] (spNumsSay CD CR) := ⟨_, _, ok_numsSay F9 T m_numbers_of m_says, ⟨a9, i9, k9⟩, B9⟩
    have m_values_said : MethF P w K mg base CD "values_said" 2 ["self", "field", "numbers"] (spValsSaid K CD CR) := ⟨_, _, ok_valsSaid F10 T m_says, ⟨a10, i10, k10⟩, B10⟩
    have m_place : MethF P w K mg base CD "place" 2 ["self", "field", "number", "spoken"] (spPlace K CD CR) := ⟨_, _, ok_place F11 T T4 m_says, ⟨a11, i11, k11⟩, B11⟩
    have m_leader : MethF P w K mg base CD "leader" 5 ["self", "field", "numbers"] (spLeader K CD CR 116) := ⟨_, _, ok_leader F12 hcode TB T T4 m_values_said m_place, ⟨a12, i12, k12⟩, B12⟩
    have m_chosen : MethF P w K mg base CD "chosen" 6 ["self", "field", "numbers"] (spChosen K CD CR 116) := ⟨_, _, ok_chosen F13 T m_leader m_says, ⟨a13, i13, k13⟩, B13⟩
    have m_leaders_to_go : MethF P w K mg base CD "leaders_to_go" 7 ["self", "field", "numbers", "value"] (spToGo K CD CR 116) := ⟨_, _, ok_toGo F14 T m_chosen m_leader, ⟨a14, i14, k14⟩, B14⟩
    have m_fewest_to_go : MethF P w K mg base CD "fewest_to_go" 8 ["self", "field", "numbers"] (spFewGo K CD CR 116) := ⟨_, _, ok_fewGo F15 T m_chosen m_leaders_to_go, ⟨a15, i15, k15⟩, B15⟩
    have g_set_fields : GlobF P w K mg base "set_fields" 2 ["desk", "field_count"] (spOp1 CD CR .fields) := ⟨_, _, ok_setFields F16 T T2 oBegin B3 mBegin, PySem.W.mg_of X G a16, k16, B16⟩
    have g_set_rule : GlobF P w K mg base "set_rule" 2 ["desk", "field", "rule"] (spOp2 CD CR .rule) := ⟨_, _, ok_setRule F17 T T2 oField B4 mField, PySem.W.mg_of X G a17, k17, B17⟩
    have g_set_trust : GlobF P w K mg base "set_trust" 1 ["desk", "sources"] (spTrust K CD CR) := ⟨_, _, ok_setTrust F18 T T2, PySem.W.mg_of X G a18, k18, B18⟩
    have g_fits_desk : GlobF P w K mg base "fits_desk" 1 ["desk", "record"] (spFits CD CR) := ⟨_, _, ok_fits F19 T T2, PySem.W.mg_of X G a19, k19, B19⟩
    have g_add_record : GlobF P w K mg base "add_record" 2 ["desk", "record"] (spAdd CD CR) := ⟨_, _, ok_add F20 T T2 g_fits_desk m_file_record, PySem.W.mg_of X G a20, k20, B20⟩
    have g_remove_record : GlobF P w K mg base "remove_record" 2 ["desk", "number"] (spOp1 CD CR .remove) := ⟨_, _, ok_remove F21 T T2 m_has_record, PySem.W.mg_of X G a21, k21, B21⟩
    have g_change_value : GlobF P w K mg base "change_value" 2 ["desk", "number", "field", "value"] (spOp3 CD CR .change) := ⟨_, _, ok_change F22 T T2 m_has_record m_has_field, PySem.W.mg_of X G a22, k22, B22⟩
    have g_put_record : GlobF P w K mg base "put_record" 2 ["desk", "number", "thing"] (spOp2 CD CR .put) := ⟨_, _, ok_put F23 T T2 m_has_record, PySem.W.mg_of X G a23, k23, B23⟩
    have g_turn_wrong : GlobF P w K mg base "turn_wrong" 2 ["desk", "number", "field"] (spOp2 CD CR .wrong) := ⟨_, _, ok_turn F24 T T2 m_has_record m_has_field, PySem.W.mg_of X G a24, k24, B24⟩
    have g_set_pin : GlobF P w K mg base "set_pin" 2 ["desk", "thing", "field", "value"] (spOp3 CD CR .pin) := ⟨_, _, ok_pin F25 T T2 m_has_thing m_has_field, PySem.W.mg_of X G a25, k25, B25⟩
    have g_one_field : GlobF P w K mg base "one_field" 7 ["desk", "thing", "field"] (spOneField CD CR 116) := ⟨_, _, ok_oneField F26 T T5 m_chosen m_numbers_saying, PySem.W.mg_of X G a26, k26, B26⟩
    have g_tell_one : GlobF P w K mg base "tell_one" 8 ["desk", "thing"] (spTell1 CD CR 116 .one) := ⟨_, _, ok_tellOne F27 T T2 T5 m_has_thing m_numbers_of g_one_field, PySem.W.mg_of X G a27, k27, B27⟩
    have g_tell_why : GlobF P w K mg base "tell_why" 8 ["desk", "thing", "field"] (spTell2 CD CR 116 .why) := ⟨_, _, ok_tellWhy F28 T T2 m_has_thing m_has_field m_numbers_saying m_says g_one_field, PySem.W.mg_of X G a28, k28, B28⟩
    have g_tell_conflicts : GlobF P w K mg base "tell_conflicts" 3 ["desk", "thing"] (spTell1 CD CR 116 .conflicts) := ⟨_, _, ok_tellConf F29 T T2 T5 m_has_thing m_numbers_saying m_values_said, PySem.W.mg_of X G a29, k29, B29⟩
    have g_tell_fewest : GlobF P w K mg base "tell_fewest" 9 ["desk", "thing", "field"] (spTell2 CD CR 116 .fewest) := ⟨_, _, ok_tellFew F30 T T2 T5 m_has_thing m_has_field m_numbers_saying m_fewest_to_go, PySem.W.mg_of X G a30, k30, B30⟩
    have g_tell_counts : GlobF P w K mg base "tell_counts" 1 ["desk"] (spTell0 CD CR 116 .counts) := ⟨_, _, ok_tellCnt F31 T, PySem.W.mg_of X G a31, k31, B31⟩
    have Gs : Funs P w K mg base CD CR 116 := ⟨g_set_fields, g_set_rule, g_set_trust, g_add_record, g_remove_record, g_change_value, g_put_record, g_turn_wrong, g_set_pin, g_tell_one, g_tell_why, g_tell_conflicts, g_tell_fewest, g_tell_counts⟩
    have g_call_end : GlobF P w K mg base "call_end" 1 ["calls", "start"] (spEnd K) := ⟨_, _, ok_end F32 T3, PySem.W.mg_of X G a32, k32, B32⟩
    have g_answer : GlobF P w K mg base "answer" 10 ["desk", "call"] (spAnswer K CD CR 116) := ⟨_, _, ok_answer F33 T T3 Gs ⟨mkCR, a0, i0, kcCR⟩ (ok_rinit F0 T) B0, PySem.W.mg_of X G a33, k33, B33⟩
    exact ok_answers F34 T g_call_end g_answer ⟨mkCD, a2, i2, kcCD⟩ (ok_dinit F2 T oBegin B3 mBegin) B2
  exact ⟨PySem.W.fnOf "answers" "answers" (defArgs sAnswers) (defBody sAnswers) (defScope sAnswers) .none kV34 dc34 pm34 an34 cd34 ct34, fun s us hu => match us, hu with | [_], _ => .of_eq rfl, fun base _ _ TB => (fin base TB).imp top_imp⟩
end Md
open PySem PySem.W PyProof.Rows
local macro_rules | `(tactic| o_headS ($_f $k $a $e)) => `(tactic| o_headS (kmHook $k $a $e [116]))
set_option maxRecDepth 100000 in
set_option maxHeartbeats 0 in
theorem PySem.Challenge.cw_mergedone_s01_answers_holds : PySem.Challenge.rw_mergedone_s01_answers.Holds := by
  w_on; k_headS; (case hw => exact ⟨[.list [.int 13]], by decide +kernel, by decide +kernel⟩)
  k_fillS
  refine Md.walk_specT (r := PySem.Challenge.rw_mergedone_s01_answers) (k := 11) (CX := L2.CX0) (ps := ["calls"]) (sp := Md.spTop) (c := 120) (T := 116) (by decide +kernel) rfl rfl ⟨rfl, by decide, by decide⟩ (fun w h Y => PySem.W.km_in_of Y) (fun w h Y => PySem.W.km_tabs_of Y 116 (List.mem_singleton_self _)) (fun w => by kernel_rfl) (fun w => by kernel_rfl) ?F ?S (fun _ _ _ _ z => z)
  case F =>
    intro w mg fa h Y KX G hmg
    refine' Md.all_mk KX G hmg ?gCD ?gCR ?a0 ?i0 ?l0 ?c0 ?k0 ?a1 ?i1 ?l1 ?c1 ?k1 ?a2 ?i2 ?l2 ?c2 ?k2 ?a3 ?i3 ?l3 ?c3 ?k3 ?a4 ?i4 ?l4 ?c4 ?k4 ?a5 ?i5 ?l5 ?c5 ?k5 ?a6 ?i6 ?l6 ?c6 ?k6 ?a7 ?i7 ?l7 ?c7 ?k7 ?a8 ?i8 ?l8 ?c8 ?k8 ?a9 ?i9 ?l9 ?c9 ?k9 ?a10 ?i10 ?l10 ?c10 ?k10 ?a11 ?i11 ?l11 ?c11 ?k11 ?a12 ?i12 ?l12 ?c12 ?k12 ?hcode ?a13 ?i13 ?l13 ?c13 ?k13 ?a14 ?i14 ?l14 ?c14 ?k14 ?a15 ?i15 ?l15 ?c15 ?k15 ?a16 ?l16 ?c16 ?k16 ?a17 ?l17 ?c17 ?k17 ?a18 ?l18 ?c18 ?k18 ?a19 ?l19 ?c19 ?k19 ?a20 ?l20 ?c20 ?k20 ?a21 ?l21 ?c21 ?k21 ?a22 ?l22 ?c22 ?k22 ?a23 ?l23 ?c23 ?k23 ?a24 ?l24 ?c24 ?k24 ?a25 ?l25 ?c25 ?k25 ?a26 ?l26 ?c26 ?k26 ?a27 ?l27 ?c27 ?k27 ?a28 ?l28 ?c28 ?k28 ?a29 ?l29 ?c29 ?k29 ?a30 ?l30 ?c30 ?k30 ?a31 ?l31 ?c31 ?k31 ?a32 ?l32 ?c32 ?k32 ?a33 ?l33 ?c33 ?k33 ?a34 ?l34 ?c34 ?k34 ?pgCD ?hdCD ?poCD ?saCD ?mkCD ?kcCD ?nCD_rules ?nCD_trusted ?nCD_records ?nCD_last_number ?nCD_pins ?pgCR ?hdCR ?poCR ?saCR ?mkCR ?kcCR ?nCR_source ?nCR_time ?nCR_thing ?nCR_field_values ?nCR_field_wrong ?z_FIELDS_AT_FIRST ?z_MOST_THING ?z_MOST_TRUSTED ?z_MOST_COMMON ?z_GREATEST ?z_LEAST ?z_FIELDS ?z_RULE ?z_TRUST ?z_RECORD ?z_REMOVE ?z_CHANGE ?z_PUT ?z_WRONG ?z_PIN ?z_ONE ?z_WHY ?z_CONFLICTS ?z_FEWEST ?z_MOST_FIELDS ?z_MOST_RULE ?z_MOST_TIME ?z_MOST_VALUE ?z_MOST_RECORDS ?z_NOT_AS_TOLD ?z_NONE_SUCH ?z_NOTHING_SAID ?z_FULL ?z_BY_NOTHING ?z_BY_CHOICE ?z_BY_PIN ?z_SOURCES ?y_SOURCES ?z_PLAIN_NUMBERS ?y_PLAIN_NUMBERS ?b_len ?b_list ?b_sorted ?b_all ?b_min ?b_range ?b_set
    (case gCD => k_is)
    (case gCR => k_is)
    (case a0 => k_is)
    (case i0 => k_is)
    (case l0 => k_is)
    (case c0 => k_is)
    (case k0 => k_is)
    (case a1 => k_is)
    (case i1 => k_is)
    (case l1 => k_is)
    (case c1 => k_is)
    (case k1 => k_is)
    (case a2 => k_is)
    (case i2 => k_is)
    (case l2 => k_is)
    (case c2 => k_is)
    (case k2 => k_is)
    (case a3 => k_is)
    (case i3 => k_is)
    (case l3 => k_is)
    (case c3 => k_is)
    (case k3 => k_is)
    (case a4 => k_is)
    (case i4 => k_is)
    (case l4 => k_is)
    (case c4 => k_is)
    (case k4 => k_is)
    (case a5 => k_is)
    (case i5 => k_is)
    (case l5 => k_is)
    (case c5 => k_is)
    (case k5 => k_is)
    (case a6 => k_is)
    (case i6 => k_is)
    (case l6 => k_is)
    (case c6 => k_is)
    (case k6 => k_is)
    (case a7 => k_is)
    (case i7 => k_is)
    (case l7 => k_is)
    (case c7 => k_is)
    (case k7 => k_is)
    (case a8 => k_is)
    (case i8 => k_is)
    (case l8 => k_is)
    (case c8 => k_is)
    (case k8 => k_is)
    (case a9 => k_is)
    (case i9 => k_is)
    (case l9 => k_is)
    (case c9 => k_is)
    (case k9 => k_is)
    (case a10 => k_is)
    (case i10 => k_is)
    (case l10 => k_is)
    (case c10 => k_is)
    (case k10 => k_is)
    (case a11 => k_is)
    (case i11 => k_is)
    (case l11 => k_is)
    (case c11 => k_is)
    (case k11 => k_is)
    (case a12 => k_is)
    (case i12 => k_is)
    (case l12 => k_is)
    (case c12 => k_is)
    (case k12 => k_is)
    (case hcode => exact rfl)
    (case a13 => k_is)
    (case i13 => k_is)
    (case l13 => k_is)
    (case c13 => k_is)
    (case k13 => k_is)
    (case a14 => k_is)
    (case i14 => k_is)
    (case l14 => k_is)
    (case c14 => k_is)
    (case k14 => k_is)
    (case a15 => k_is)
    (case i15 => k_is)
    (case l15 => k_is)
    (case c15 => k_is)
    (case k15 => k_is)
    (case a16 => k_is)
    (case l16 => k_is)
    (case c16 => k_is)
    (case k16 => k_is)
    (case a17 => k_is)
    (case l17 => k_is)
    (case c17 => k_is)
    (case k17 => k_is)
    (case a18 => k_is)
    (case l18 => k_is)
    (case c18 => k_is)
    (case k18 => k_is)
    (case a19 => k_is)
    (case l19 => k_is)
    (case c19 => k_is)
    (case k19 => k_is)
    (case a20 => k_is)
    (case l20 => k_is)
    (case c20 => k_is)
    (case k20 => k_is)
    (case a21 => k_is)
    (case l21 => k_is)
    (case c21 => k_is)
    (case k21 => k_is)
    (case a22 => k_is)
    (case l22 => k_is)
    (case c22 => k_is)
    (case k22 => k_is)
    (case a23 => k_is)
    (case l23 => k_is)
    (case c23 => k_is)
    (case k23 => k_is)
    (case a24 => k_is)
    (case l24 => k_is)
    (case c24 => k_is)
    (case k24 => k_is)
    (case a25 => k_is)
    (case l25 => k_is)
    (case c25 => k_is)
    (case k25 => k_is)
    (case a26 => k_is)
    (case l26 => k_is)
    (case c26 => k_is)
    (case k26 => k_is)
    (case a27 => k_is)
    (case l27 => k_is)
    (case c27 => k_is)
    (case k27 => k_is)
    (case a28 => k_is)
    (case l28 => k_is)
    (case c28 => k_is)
    (case k28 => k_is)
    (case a29 => k_is)
    (case l29 => k_is)
    (case c29 => k_is)
    (case k29 => k_is)
    (case a30 => k_is)
    (case l30 => k_is)
    (case c30 => k_is)
    (case k30 => k_is)
    (case a31 => k_is)
    (case l31 => k_is)
    (case c31 => k_is)
    (case k31 => k_is)
    (case a32 => k_is)
    (case l32 => k_is)
    (case c32 => k_is)
    (case k32 => k_is)
    (case a33 => k_is)
    (case l33 => k_is)
    (case c33 => k_is)
    (case k33 => k_is)
    (case a34 => k_is)
    (case l34 => k_is)
    (case c34 => k_is)
    (case k34 => k_is)
    (case pgCD => k_is)
    (case hdCD => k_is)
    (case poCD => k_is)
    (case saCD => k_is)
    (case mkCD => k_is)
    (case kcCD => k_is)
    (case nCD_rules => k_is)
    (case nCD_trusted => k_is)
    (case nCD_records => k_is)
    (case nCD_last_number => k_is)
    (case nCD_pins => k_is)
    (case pgCR => k_is)
    (case hdCR => k_is)
    (case poCR => k_is)
    (case saCR => k_is)
    (case mkCR => k_is)
    (case kcCR => k_is)
    (case nCR_source => k_is)
    (case nCR_time => k_is)
    (case nCR_thing => k_is)
    (case nCR_field_values => k_is)
    (case nCR_field_wrong => k_is)
    (case z_FIELDS_AT_FIRST => k_is)
    (case z_MOST_THING => k_is)
    (case z_MOST_TRUSTED => k_is)
    (case z_MOST_COMMON => k_is)
    (case z_GREATEST => k_is)
    (case z_LEAST => k_is)
    (case z_FIELDS => k_is)
    (case z_RULE => k_is)
    (case z_TRUST => k_is)
    (case z_RECORD => k_is)
    (case z_REMOVE => k_is)
    (case z_CHANGE => k_is)
    (case z_PUT => k_is)
    (case z_WRONG => k_is)
    (case z_PIN => k_is)
    (case z_ONE => k_is)
    (case z_WHY => k_is)
    (case z_CONFLICTS => k_is)
    (case z_FEWEST => k_is)
    (case z_MOST_FIELDS => k_is)
    (case z_MOST_RULE => k_is)
    (case z_MOST_TIME => k_is)
    (case z_MOST_VALUE => k_is)
    (case z_MOST_RECORDS => k_is)
    (case z_NOT_AS_TOLD => k_is)
    (case z_NONE_SUCH => k_is)
    (case z_NOTHING_SAID => k_is)
    (case z_FULL => k_is)
    (case z_BY_NOTHING => k_is)
    (case z_BY_CHOICE => k_is)
    (case z_BY_PIN => k_is)
    (case z_SOURCES => k_is)
    (case y_SOURCES => k_is)
    (case z_PLAIN_NUMBERS => k_is)
    (case y_PLAIN_NUMBERS => k_is)
    (case b_len => k_is)
    (case b_list => k_is)
    (case b_sorted => k_is)
    (case b_all => k_is)
    (case b_min => k_is)
    (case b_range => k_is)
    (case b_set => k_is)
  case S =>
    intro K H0 H xs a sm hT hwi hask hx
    cases hx with
    | cons h1 h2 =>
      cases h2
      cases h1 with
      | lst hs ha =>
        have e := L2.ints_dw a.1 _ ha
        subst e
        exact ⟨_, a.1, rfl, sm.seq hs, hask, hT, fun H' p hp => .lst (L2.SqL.of hp) (L2.dw_ints _)⟩
#print axioms PySem.Challenge.cw_mergedone_s01_answers_holds

