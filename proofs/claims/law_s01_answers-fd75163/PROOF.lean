import PyProof.Rows.All
import Wide.All
import OpenK.AllK
import Wide.FinOn
import Open.SpecLaws
import KE.OsGo
import HandS.ForSpec
import HandS.Comp
import HandS.Iter
import HandS.Walk
import HandS.SetFor
import KE.DatumMoreOrd
import PySem.Challenge.RW_cambox_s01_answers
set_option Elab.async false
set_option maxRecDepth 100000
set_option maxHeartbeats 4000000
/-! The calls in one list: what is asked is just a list of calls spelled out, and what is due is the box's steps, told one behind another. -/
namespace CB
open Uw42 (Call Box Ans)
/-- how a call is spelled -/
def enc : Call → List Int
  | .begins n => [0, (n : Int)]
  | .cam l => 1 :: (l.length : Int) :: l.map (fun (n : Nat) => (n : Int))
  | .wish l => 2 :: (l.length : Int) :: l.map (fun (n : Nat) => (n : Int))
  | .sum l => 3 :: (l.length : Int) :: l.map (fun (n : Nat) => (n : Int))
  | .nearest => [4]
  | .evenest => [5]
/-- a row within its bounds -/
def okL (l : List Nat) : Prop := l.length ≤ 12 ∧ ∀ x ∈ l, x < 4294967296
def okC : Call → Prop
  | .begins n => n < 4294967296
  | .cam l => okL l
  | .wish l => okL l
  | .sum l => okL l
  | .nearest => True
  | .evenest => True
def told1 (a : Ans) : List Int := ((a.l.length : Int) + 1) :: a.v :: a.l.map (fun (n : Nat) => (n : Int))
def play : Box → List Call → List Int
  | _, [] => []
  | b, c :: r => told1 (Uw42.step b c).2 ++ play (Uw42.step b c).1 r
def spell (cs : List Call) : List Int := cs.flatMap enc
theorem spell_cons (c : Call) (r : List Call) : spell (c :: r) = enc c ++ spell r := rfl
theorem spell_nil : spell [] = [] := rfl
theorem back {l : List Int} (h : l.all Uw42Neutral.nat = true) : (l.map Int.toNat).map (fun (n : Nat) => (n : Int)) = l := by
  rw [List.map_map]
  conv => rhs; rw [← List.map_id l]
  apply List.map_congr_left
  intro x hx
  have := List.all_eq_true.mp h x hx
  unfold Uw42Neutral.nat at this
  rw [Bool.and_eq_true, decide_eq_true_eq, decide_eq_true_eq] at this
  show ((x.toNat : Nat) : Int) = x
  omega
theorem small {l : List Int} (h : l.all Uw42Neutral.nat = true) : ∀ x ∈ l.map Int.toNat, x < 4294967296 := by
  intro x hx
  obtain ⟨z, hz, rfl⟩ := List.mem_map.mp hx
  have := List.all_eq_true.mp h z hz
  unfold Uw42Neutral.nat at this
  rw [Bool.and_eq_true, decide_eq_true_eq, decide_eq_true_eq] at this
  omega
theorem row_some {l x t : List Int} (h : PyFlat.row l = some (x, t)) : l = (x.length : Int) :: (x ++ t) := by
  cases l with
  | nil => cases h
  | cons n r =>
    unfold PyFlat.row at h
    by_cases c : 0 ≤ n ∧ n.toNat ≤ r.length
    · simp only [if_pos c] at h
      have h' := Option.some.inj h
      have e1 : r.take n.toNat = x := congrArg Prod.fst h'
      have e2 : r.drop n.toNat = t := congrArg Prod.snd h'
      subst e1 e2
      rw [List.take_append_drop, List.length_take, Nat.min_eq_left c.2]
      have : ((n.toNat : Nat) : Int) = n := by omega
      rw [this]
    · simp only [if_neg c] at h
      cases h
theorem rows1 {l : List Int} {xs : List (List Int)} {t : List Int} (h : PyFlat.rows 1 l = some (xs, t)) : ∃ x, xs = [x] ∧ l = (x.length : Int) :: (x ++ t) := by
  unfold PyFlat.rows at h
  cases e : PyFlat.row l with
  | none => rw [e] at h; cases h
  | some p =>
    obtain ⟨x, s⟩ := p
    rw [e] at h
    have h' := Option.some.inj h
    have e1 : [x] = xs := congrArg Prod.fst h'
    have e2 : s = t := congrArg Prod.snd h'
    subst e1 e2
    exact ⟨x, rfl, row_some e⟩
theorem callOf_some {l : List Int} {x : Call} (h : Uw42Neutral.callOf l = some x) : l.all Uw42Neutral.nat = true ∧ Uw42Neutral.callIn (l.map Int.toNat) = some x := by
  unfold Uw42Neutral.callOf at h
  by_cases c : l.all Uw42Neutral.nat = false
  · rw [if_pos c] at h; cases h
  · rw [if_neg c] at h
    exact ⟨by simpa using c, h⟩
theorem callIn_cam {l : List Nat} {x : Call} (h : Uw42Neutral.callIn (1 :: l) = some x) : l.length ≤ 12 ∧ x = .cam l := by
  unfold Uw42Neutral.callIn at h
  by_cases c : l.length ≤ 12
  · simp only [if_pos c] at h
    exact ⟨c, (Option.some.inj h).symm⟩
  · simp only [if_neg c] at h
    cases h
theorem callIn_wish {l : List Nat} {x : Call} (h : Uw42Neutral.callIn (2 :: l) = some x) : l.length ≤ 12 ∧ x = .wish l := by
  unfold Uw42Neutral.callIn at h
  by_cases c : l.length ≤ 12
  · simp only [if_pos c] at h
    exact ⟨c, (Option.some.inj h).symm⟩
  · simp only [if_neg c] at h
    cases h
theorem callIn_sum {l : List Nat} {x : Call} (h : Uw42Neutral.callIn (3 :: l) = some x) : l.length ≤ 12 ∧ x = .sum l := by
  unfold Uw42Neutral.callIn at h
  by_cases c : l.length ≤ 12
  · simp only [if_pos c] at h
    exact ⟨c, (Option.some.inj h).symm⟩
  · simp only [if_neg c] at h
    cases h
/-- one call read is one call spelled -/
theorem call_one {p : Int} {r : List Int} {c : List (List Int)} {t : List Int} {x : Call} (h : PyFlat.call PyUw42.shape (p :: r) = some (c, t)) (hx : Uw42Neutral.callOf ((PyUw42.whole c).headD []) = some x) :
    okC x ∧ p :: r = enc x ++ t := by
  unfold PyFlat.call at h
  by_cases c0 : p = 0
  · subst c0
    have e : PyUw42.shape 0 = some (1, 0) := rfl
    simp only [e] at h
    cases r with
    | nil => simp at h
    | cons x0 r =>
      simp [PyFlat.rows] at h
      obtain ⟨rfl, rfl⟩ := h
      have q : Uw42Neutral.callOf [0, x0] = some x := hx
      obtain ⟨q1, q2⟩ := callOf_some q
      have e2 : Uw42Neutral.callIn ([0, x0].map Int.toNat) = some (.begins x0.toNat) := rfl
      rw [e2] at q2
      have := Option.some.inj q2
      subst this
      have b := back q1
      have s := small q1
      refine ⟨s x0.toNat (by simp), ?_⟩
      have b1 : ((x0.toNat : Nat) : Int) = x0 := by
        have := congrArg (fun l => l.getD 1 0) b
        simpa using this
      show 0 :: x0 :: r = [0, ((x0.toNat : Nat) : Int)] ++ r
      rw [b1]
      rfl
  by_cases c1 : p = 1
  · subst c1
    have e : PyUw42.shape 1 = some (0, 1) := rfl
    simp only [e] at h
    rw [if_neg (by omega), List.drop_zero] at h
    cases e1 : PyFlat.rows 1 r with
    | none => rw [e1] at h; cases h
    | some q =>
      obtain ⟨xs, s⟩ := q
      rw [e1] at h
      obtain ⟨z, rfl, hz⟩ := rows1 e1
      have h' := Option.some.inj h
      have ec : [(1 : Int) :: r.take 0] ++ [z] = c := congrArg Prod.fst h'
      have et : s = t := congrArg Prod.snd h'
      subst ec et
      have q : Uw42Neutral.callOf (1 :: z) = some x := hx
      obtain ⟨q1, q2⟩ := callOf_some q
      have q1z : z.all Uw42Neutral.nat = true := by
        rw [List.all_cons, Bool.and_eq_true] at q1
        exact q1.2
      obtain ⟨ln, rfl⟩ := callIn_cam (l := z.map Int.toNat) q2
      refine ⟨⟨ln, small q1z⟩, ?_⟩
      show 1 :: r = 1 :: (((z.map Int.toNat).length : Nat) : Int) :: (z.map Int.toNat).map (fun (n : Nat) => (n : Int)) ++ s
      rw [back q1z, List.length_map, hz]
      rfl
  by_cases c2 : p = 2
  · subst c2
    have e : PyUw42.shape 2 = some (0, 1) := rfl
    simp only [e] at h
    rw [if_neg (by omega), List.drop_zero] at h
    cases e1 : PyFlat.rows 1 r with
    | none => rw [e1] at h; cases h
    | some q =>
      obtain ⟨xs, s⟩ := q
      rw [e1] at h
      obtain ⟨z, rfl, hz⟩ := rows1 e1
      have h' := Option.some.inj h
      have ec : [(2 : Int) :: r.take 0] ++ [z] = c := congrArg Prod.fst h'
      have et : s = t := congrArg Prod.snd h'
      subst ec et
      have q : Uw42Neutral.callOf (2 :: z) = some x := hx
      obtain ⟨q1, q2⟩ := callOf_some q
      have q1z : z.all Uw42Neutral.nat = true := by
        rw [List.all_cons, Bool.and_eq_true] at q1
        exact q1.2
      obtain ⟨ln, rfl⟩ := callIn_wish (l := z.map Int.toNat) q2
      refine ⟨⟨ln, small q1z⟩, ?_⟩
      show 2 :: r = 2 :: (((z.map Int.toNat).length : Nat) : Int) :: (z.map Int.toNat).map (fun (n : Nat) => (n : Int)) ++ s
      rw [back q1z, List.length_map, hz]
      rfl
  by_cases c3 : p = 3
  · subst c3
    have e : PyUw42.shape 3 = some (0, 1) := rfl
    simp only [e] at h
    rw [if_neg (by omega), List.drop_zero] at h
    cases e1 : PyFlat.rows 1 r with
    | none => rw [e1] at h; cases h
    | some q =>
      obtain ⟨xs, s⟩ := q
      rw [e1] at h
      obtain ⟨z, rfl, hz⟩ := rows1 e1
      have h' := Option.some.inj h
      have ec : [(3 : Int) :: r.take 0] ++ [z] = c := congrArg Prod.fst h'
      have et : s = t := congrArg Prod.snd h'
      subst ec et
      have q : Uw42Neutral.callOf (3 :: z) = some x := hx
      obtain ⟨q1, q2⟩ := callOf_some q
      have q1z : z.all Uw42Neutral.nat = true := by
        rw [List.all_cons, Bool.and_eq_true] at q1
        exact q1.2
      obtain ⟨ln, rfl⟩ := callIn_sum (l := z.map Int.toNat) q2
      refine ⟨⟨ln, small q1z⟩, ?_⟩
      show 3 :: r = 3 :: (((z.map Int.toNat).length : Nat) : Int) :: (z.map Int.toNat).map (fun (n : Nat) => (n : Int)) ++ s
      rw [back q1z, List.length_map, hz]
      rfl
  by_cases c4 : p = 4
  · subst c4
    have e : PyUw42.shape 4 = some (0, 0) := rfl
    simp only [e] at h
    rw [if_neg (by omega), List.drop_zero] at h
    simp [PyFlat.rows] at h
    obtain ⟨rfl, rfl⟩ := h
    have q : some Call.nearest = some x := hx
    have := Option.some.inj q
    subst this
    exact ⟨trivial, rfl⟩
  by_cases c5 : p = 5
  · subst c5
    have e : PyUw42.shape 5 = some (0, 0) := rfl
    simp only [e] at h
    rw [if_neg (by omega), List.drop_zero] at h
    simp [PyFlat.rows] at h
    obtain ⟨rfl, rfl⟩ := h
    have q : some Call.evenest = some x := hx
    have := Option.some.inj q
    subst this
    exact ⟨trivial, rfl⟩
  · have e : PyUw42.shape p = none := by
      unfold PyUw42.shape
      rw [if_neg c0, if_neg c1, if_neg c2, if_neg c3, if_neg c4, if_neg c5]
    simp only [e] at h
    cases h
theorem told1_out (a : Ans) : (((Uw42Neutral.out a).length : Nat) : Int) :: Uw42Neutral.out a = told1 a := by
  unfold Uw42Neutral.out told1
  rw [List.length_cons, List.length_map]
  rfl
theorem calls_all : ∀ (f : Nat) (l : List Int) (raw : List (List (List Int))), PyFlat.calls PyUw42.shape f l = some raw → (∀ c ∈ raw, Uw42Neutral.asked1 ((PyUw42.whole c).headD []) = true) →
    ∃ cs : List Call, l = spell cs ∧ raw.length = cs.length ∧ (∀ c ∈ cs, okC c) ∧ ∀ s : Box, PyFlat.told (PyFlat.played (fun s c => Uw42Neutral.step s (c.headD [])) s (raw.map PyUw42.whole)) = play s cs
  | f, [], raw, h, _ => by
    have e : PyFlat.calls PyUw42.shape f [] = some [] := by cases f <;> rfl
    rw [e] at h
    have := Option.some.inj h
    subst this
    exact ⟨[], rfl, rfl, fun c hc => (by cases hc), fun s => rfl⟩
  | 0, p :: r, raw, h, _ => by
    unfold PyFlat.calls at h
    cases h
  | f + 1, p :: r, raw, h, ha => by
    unfold PyFlat.calls at h
    cases e1 : PyFlat.call PyUw42.shape (p :: r) with
    | none => simp only [e1] at h; cases h
    | some ct =>
      obtain ⟨c, t⟩ := ct
      simp only [e1] at h
      cases e2 : PyFlat.calls PyUw42.shape f t with
      | none => simp only [e2] at h; cases h
      | some cs =>
        simp only [e2] at h
        have := Option.some.inj h
        subst this
        have h1 := ha c (List.mem_cons_self ..)
        unfold Uw42Neutral.asked1 at h1
        obtain ⟨x, hx⟩ := Option.isSome_iff_exists.mp h1
        obtain ⟨ok, es⟩ := call_one e1 hx
        obtain ⟨xs, et, el, oks, ep⟩ := calls_all f t cs e2 fun c hc => ha c (List.mem_cons_of_mem _ hc)
        refine ⟨x :: xs, ?_, ?_, ?_, ?_⟩
        · rw [spell_cons, es, et]
        · rw [List.length_cons, List.length_cons, el]
        · intro y hy
          rcases List.mem_cons.mp hy with rfl | hy
          · exact ok
          · exact oks y hy
        · intro s
          have est : Uw42Neutral.step s ((PyUw42.whole c).headD []) = ((Uw42.step s x).1, Uw42Neutral.out (Uw42.step s x).2) := by
            unfold Uw42Neutral.step
            rw [hx]
          show PyFlat.told ((Uw42Neutral.step s ((PyUw42.whole c).headD [])).2 :: PyFlat.played _ (Uw42Neutral.step s ((PyUw42.whole c).headD [])).1 (cs.map PyUw42.whole)) = told1 (Uw42.step s x).2 ++ play (Uw42.step s x).1 xs
          rw [est, ← ep (Uw42.step s x).1, ← told1_out]
          rfl
/-- WHAT IS ASKED, AND WHAT IS DUE -/
theorem flat {l : List Int} (h : PyUw42.answers_asked l = true) : ∃ cs : List Call, l = spell cs ∧ 1 ≤ cs.length ∧ cs.length ≤ 60 ∧ (∀ c ∈ cs, okC c) ∧ PyUw42.answers l = play Uw42.init cs := by
  unfold PyUw42.answers_asked at h
  cases e : PyFlat.calls PyUw42.shape l.length l with
  | none => rw [e] at h; cases h
  | some raw =>
    simp only [e] at h
    rw [Bool.and_eq_true, Bool.and_eq_true] at h
    obtain ⟨⟨_, _⟩, h3⟩ := h
    unfold Uw42Neutral.asked at h3
    rw [Bool.and_eq_true, Bool.and_eq_true, Bool.and_eq_true] at h3
    obtain ⟨h4, h5, h6, _⟩ := h3
    obtain ⟨cs, el, en, ok, ep⟩ := calls_all l.length l raw e (fun c hc => by
      refine List.all_eq_true.mp h4 _ ?_
      exact List.mem_map.mpr ⟨PyUw42.whole c, List.mem_map.mpr ⟨c, hc, rfl⟩, rfl⟩)
    rw [decide_eq_true_eq, List.length_map, List.length_map] at h5 h6
    refine ⟨cs, el, by omega, by omega, ok, ?_⟩
    unfold PyUw42.answers PyUw42.calls
    rw [e]
    exact ep Uw42.init
end CB
/-! What holds of the box between the calls. -/
namespace CB
open Uw42 (Call Box Ans)
structure Good (b : Box) : Prop where
  lo : 2 ≤ b.places
  hi : b.places ≤ 8
  few : b.cams.length ≤ 4
  cams : ∀ c ∈ b.cams, c.length = b.places ∧ ∀ x ∈ c, x ≤ 100
  wlen : b.wish.length = b.places
  wish : ∀ x ∈ b.wish, x ≤ 400
theorem good_init : Good Uw42.init := ⟨by decide, by decide, by decide, fun c hc => (by cases hc), rfl, by decide⟩
theorem fine_iff {b : Box} {h : Nat} {l : List Nat} : Uw42.fine b h l = true ↔ l.length = b.places ∧ ∀ x ∈ l, x ≤ h := by
  unfold Uw42.fine
  rw [Bool.and_eq_true, List.all_eq_true]
  simp
theorem good_step {b : Box} (g : Good b) (c : Call) : Good (Uw42.step b c).1 := by
  cases c with
  | begins n =>
    unfold Uw42.step
    by_cases h : n < 2 ∨ Uw42.PLACES < n
    · simp only [if_pos h]; exact g
    · simp only [if_neg h]
      have h2 : ¬ (n < 2 ∨ 8 < n) := h
      refine ⟨by show 2 ≤ n; omega, by show n ≤ 8; omega, Nat.zero_le _, fun c hc => (by cases hc), List.length_replicate .., ?_⟩
      intro x hx
      rw [(List.mem_replicate.mp hx).2]
      exact Nat.zero_le _
  | cam l =>
    unfold Uw42.step
    by_cases h : Uw42.fine b Uw42.HIGH l = false
    · simp only [if_pos h]; exact g
    · simp only [if_neg h]
      have hf := fine_iff.mp (by simpa using h : Uw42.fine b Uw42.HIGH l = true)
      by_cases h4 : Uw42.CAMS ≤ b.cams.length
      · simp only [if_pos h4]; exact g
      · simp only [if_neg h4]
        have h5 : ¬ 4 ≤ b.cams.length := h4
        refine ⟨g.lo, g.hi, ?_, ?_, g.wlen, g.wish⟩
        · show (b.cams ++ [l]).length ≤ 4
          rw [List.length_append, List.length_singleton]
          omega
        · intro c hc
          rcases List.mem_append.mp hc with hc | hc
          · exact g.cams c hc
          · rw [List.mem_singleton.mp hc]
            exact hf
  | wish l =>
    unfold Uw42.step
    by_cases h : Uw42.fine b (Uw42.CAMS * Uw42.HIGH) l = false
    · simp only [if_pos h]; exact g
    · simp only [if_neg h]
      have hf := fine_iff.mp (by simpa using h : Uw42.fine b (Uw42.CAMS * Uw42.HIGH) l = true)
      exact ⟨g.lo, g.hi, g.few, g.cams, hf.1, hf.2⟩
  | sum p =>
    unfold Uw42.step
    by_cases h : b.told p = false
    · simp only [if_pos h]; exact g
    · simp only [if_neg h]; exact g
  | nearest => exact g
  | evenest => exact g
/-- what is answered -/
def ansL (a : Ans) : List Int := a.v :: a.l.map (fun (n : Nat) => (n : Int))
theorem ansL_len (a : Ans) : (ansL a).length = a.l.length + 1 := by
  unfold ansL
  rw [List.length_cons, List.length_map]
theorem told1_eq (a : Ans) : told1 a = ((ansL a).length : Int) :: ansL a := by
  rw [ansL_len]
  rfl
end CB
/-! Plans, motions, the best plan. -/
namespace CB
open Uw42 (Call Box Ans Best)
theorem rows_mem : ∀ (k n : Nat) (p : List Nat), p ∈ Uw42.rows k n ↔ p.length = n ∧ ∀ x ∈ p, x ≤ k
  | k, 0, p => by
    unfold Uw42.rows
    rw [List.mem_singleton]
    constructor
    · rintro rfl
      exact ⟨rfl, fun x hx => by cases hx⟩
    · rintro ⟨h, _⟩
      exact List.length_eq_zero_iff.mp h
  | k, n + 1, p => by
    unfold Uw42.rows
    rw [List.mem_flatMap]
    constructor
    · rintro ⟨a, ha, hp⟩
      obtain ⟨l, hl, rfl⟩ := List.mem_map.mp hp
      obtain ⟨h1, h2⟩ := (rows_mem k n l).mp hl
      have ha' := List.mem_range.mp ha
      refine ⟨by rw [List.length_cons, h1], fun x hx => ?_⟩
      rcases List.mem_cons.mp hx with rfl | hx
      · omega
      · exact h2 x hx
    · rintro ⟨h1, h2⟩
      cases p with
      | nil => cases h1
      | cons a l =>
        refine ⟨a, List.mem_range.mpr (by have := h2 a (List.mem_cons_self ..); omega), List.mem_map.mpr ⟨l, (rows_mem k n l).mpr ⟨by simpa using h1, fun x hx => h2 x (List.mem_cons_of_mem _ hx)⟩, rfl⟩⟩
/-- one turn of the search -/
def bstep (b : Box) (f : List Nat → Nat) (m : Option Best) (p : List Nat) : Option Best := match m with
  | none => some ⟨f (b.sum p), Uw42.used b p, 1, p⟩
  | some x => if f (b.sum p) < x.first ∨ (f (b.sum p) = x.first ∧ Uw42.used b p < x.second) then some ⟨f (b.sum p), Uw42.used b p, 1, p⟩ else if f (b.sum p) = x.first ∧ Uw42.used b p = x.second then some { x with many := x.many + 1 } else some x
theorem bestBy_fold (b : Box) (f : List Nat → Nat) : b.bestBy f = b.plans.foldl (bstep b f) none := by
  unfold Box.bestBy
  congr 1
theorem fold_some (b : Box) (f : List Nat → Nat) : ∀ (l : List (List Nat)) (x : Best), ∃ y, l.foldl (bstep b f) (some x) = some y ∧ (y.plan = x.plan ∨ y.plan ∈ l)
  | [], x => ⟨x, rfl, .inl rfl⟩
  | p :: r, x => by
    rw [List.foldl_cons]
    by_cases h1 : f (b.sum p) < x.first ∨ (f (b.sum p) = x.first ∧ Uw42.used b p < x.second)
    · obtain ⟨y, h2, h3⟩ := fold_some b f r ⟨f (b.sum p), Uw42.used b p, 1, p⟩
      refine ⟨y, by rw [← h2]; congr 1; exact if_pos h1, ?_⟩
      rcases h3 with h3 | h3
      · exact .inr (by rw [h3]; exact List.mem_cons_self ..)
      · exact .inr (List.mem_cons_of_mem _ h3)
    · by_cases h4 : f (b.sum p) = x.first ∧ Uw42.used b p = x.second
      · obtain ⟨y, h2, h3⟩ := fold_some b f r { x with many := x.many + 1 }
        refine ⟨y, by rw [← h2]; congr 1; exact (if_neg h1).trans (if_pos h4), ?_⟩
        rcases h3 with h3 | h3
        · exact .inl h3
        · exact .inr (List.mem_cons_of_mem _ h3)
      · obtain ⟨y, h2, h3⟩ := fold_some b f r x
        refine ⟨y, by rw [← h2]; congr 1; exact (if_neg h1).trans (if_neg h4), ?_⟩
        rcases h3 with h3 | h3
        · exact .inl h3
        · exact .inr (List.mem_cons_of_mem _ h3)
theorem bestBy_some (b : Box) (f : List Nat → Nat) : ∃ y, b.bestBy f = some y ∧ y.plan ∈ b.plans := by
  rw [bestBy_fold]
  have hm : List.replicate b.cams.length 0 ∈ b.plans := (rows_mem _ _ _).mpr ⟨List.length_replicate .., fun x hx => by rw [(List.mem_replicate.mp hx).2]; exact Nat.zero_le _⟩
  cases e : b.plans with
  | nil => rw [e] at hm; cases hm
  | cons p r =>
    rw [List.foldl_cons]
    obtain ⟨y, h1, h2⟩ := fold_some b f r ⟨f (b.sum p), Uw42.used b p, 1, p⟩
    refine ⟨y, h1, ?_⟩
    rcases h2 with h2 | h2
    · rw [h2]; exact List.mem_cons_self ..
    · exact List.mem_cons_of_mem _ h2
theorem plan_len {b : Box} {p : List Nat} (h : p ∈ b.plans) : p.length = b.cams.length := ((rows_mem _ _ _).mp h).1
/-! motions -/
def mstep (P : Nat) (a : List Nat) (x : List Nat × Nat) : List Nat := if x.2 = P then a else Uw42.add a (Uw42.turned x.2 x.1)
theorem sum_fold (b : Box) (p : List Nat) : b.sum p = (b.cams.zip p).foldl (mstep b.places) (List.replicate b.places 0) := rfl
theorem turned_len (k : Nat) (l : List Nat) : (Uw42.turned k l).length = l.length := by
  unfold Uw42.turned
  rw [List.length_append, List.length_drop, List.length_take]
  omega
theorem msteps_len {P : Nat} : ∀ (l : List (List Nat × Nat)) (a : List Nat), a.length = P → (∀ x ∈ l, x.1.length = P) → (l.foldl (mstep P) a).length = P
  | [], a, h, _ => h
  | x :: r, a, h, hl => by
    rw [List.foldl_cons]
    refine msteps_len r _ ?_ fun y hy => hl y (List.mem_cons_of_mem _ hy)
    unfold mstep
    by_cases c : x.2 = P
    · rw [if_pos c]; exact h
    · rw [if_neg c]
      unfold Uw42.add
      rw [List.length_zipWith, turned_len, h, hl x (List.mem_cons_self ..), Nat.min_self]
theorem sum_len {b : Box} (g : Good b) (p : List Nat) : (b.sum p).length = b.places := by
  rw [sum_fold]
  refine msteps_len _ _ (List.length_replicate ..) fun x hx => ?_
  exact (g.cams x.1 (List.of_mem_zip hx).1).1
/-- turned by k places, a cam is as high at each place as it was k places further on, gone round -/
theorem turned_get {k j : Nat} {l : List Nat} (hk : k ≤ l.length) (hj : j < l.length) : (Uw42.turned k l)[j]? = l[(j + k) % l.length]? := by
  unfold Uw42.turned
  by_cases h : j + k < l.length
  · rw [Nat.mod_eq_of_lt h, List.getElem?_append_left (by rw [List.length_drop]; omega), List.getElem?_drop, Nat.add_comm]
  · rw [List.getElem?_append_right (by rw [List.length_drop]; omega), List.length_drop]
    have e : (j + k) % l.length = j + k - l.length := by
      rw [Nat.mod_eq_sub_mod (by omega), Nat.mod_eq_of_lt (by omega)]
    rw [e, List.getElem?_take_of_lt (by omega)]
    congr 1
    omega
/-- the motion of the first i cams of a plan, cam by cam -/
def part (b : Box) (p : List Nat) (i : Nat) : List Nat := ((b.cams.zip p).take i).foldl (mstep b.places) (List.replicate b.places 0)
theorem part_zero (b : Box) (p : List Nat) : part b p 0 = List.replicate b.places 0 := rfl
theorem part_succ {b : Box} {p : List Nat} {i k : Nat} {c : List Nat} (hc : b.cams[i]? = some c) (hp : p[i]? = some k) : part b p (i + 1) = mstep b.places (part b p i) (c, k) := by
  have hz : (b.cams.zip p)[i]? = some (c, k) := by
    rw [List.getElem?_zip_eq_some]
    exact ⟨hc, hp⟩
  unfold part
  rw [List.take_add_one, hz, List.foldl_append]
  rfl
theorem part_all {b : Box} {p : List Nat} (h : p.length = b.cams.length) : part b p p.length = b.sum p := by
  unfold part
  rw [List.take_of_length_le (by rw [List.length_zip]; omega), sum_fold]
theorem part_len {b : Box} (g : Good b) (p : List Nat) (i : Nat) : (part b p i).length = b.places := by
  refine msteps_len _ _ (List.length_replicate ..) fun x hx => ?_
  exact (g.cams x.1 (List.of_mem_zip (List.mem_of_mem_take hx)).1).1
/-- no answer is long -/
theorem ans_short (s : Box) (c : Call) (g : Good s) : (ansL (Uw42.step s c).2).length ≤ 12 := by
  rw [ansL_len]
  have best : ∀ f, (Uw42.toldBest (s.bestBy f)).l.length + 1 ≤ 12 := fun f => by
    obtain ⟨y, h1, h2⟩ := bestBy_some s f
    rw [h1]
    show (y.second :: y.many :: y.plan).length + 1 ≤ 12
    have := plan_len h2
    have := g.few
    simp only [List.length_cons]
    omega
  cases c with
  | begins n =>
    unfold Uw42.step
    dsimp only
    split <;> exact Nat.le_of_ble_eq_true rfl
  | cam l =>
    unfold Uw42.step
    dsimp only
    split
    · exact Nat.le_of_ble_eq_true rfl
    · split <;> exact Nat.le_of_ble_eq_true rfl
  | wish l =>
    unfold Uw42.step
    dsimp only
    split <;> exact Nat.le_of_ble_eq_true rfl
  | sum p =>
    unfold Uw42.step
    dsimp only
    split
    · exact Nat.le_of_ble_eq_true rfl
    · show (Uw42.worst s.wish (s.sum p) :: s.sum p).length + 1 ≤ 12
      have := sum_len g p
      have := g.hi
      simp only [List.length_cons]
      omega
  | nearest => exact best _
  | evenest => exact best _
end CB
/-! The plans in their order; the best of them by what it is. -/
namespace CB
open Uw42 (Call Box Ans Best)
theorem flatMap_flatMap' {α β γ : Type} (l : List α) (f : α → List β) (g : β → List γ) : (l.flatMap f).flatMap g = l.flatMap fun a => (f a).flatMap g := by
  induction l with
  | nil => rfl
  | cons a l ih => rw [List.flatMap_cons, List.flatMap_append, ih, List.flatMap_cons]
theorem flatMap_map' {α β γ : Type} (l : List α) (f : α → β) (g : β → List γ) : (l.map f).flatMap g = l.flatMap fun a => g (f a) := by
  induction l with
  | nil => rfl
  | cons a l ih => rw [List.map_cons, List.flatMap_cons, ih, List.flatMap_cons]
theorem map_flatMap' {α β γ : Type} (l : List α) (f : α → List β) (g : β → γ) : (l.flatMap f).map g = l.flatMap fun a => (f a).map g := by
  induction l with
  | nil => rfl
  | cons a l ih => rw [List.flatMap_cons, List.map_append, ih, List.flatMap_cons]
theorem rows_cons (k n : Nat) : Uw42.rows k (n + 1) = (List.range (k + 1)).flatMap fun a => (Uw42.rows k n).map fun l => a :: l := rfl
/-- the same rows, the last number last -/
theorem rows_snoc (k : Nat) : ∀ n : Nat, Uw42.rows k (n + 1) = (Uw42.rows k n).flatMap fun l => (List.range (k + 1)).map fun a => l ++ [a]
  | 0 => by
    rw [rows_cons]
    show (List.range (k + 1)).flatMap (fun a => [[a]]) = _
    unfold Uw42.rows
    rw [List.flatMap_cons, List.flatMap_nil, List.append_nil]
    induction (List.range (k + 1)) with
    | nil => rfl
    | cons a l ih => rw [List.flatMap_cons, List.map_cons, ih]; rfl
  | n + 1 => by
    rw [rows_cons]
    conv => rhs; rw [rows_cons, flatMap_flatMap']
    conv => lhs; rw [rows_snoc k n]
    congr 1
    funext a
    rw [map_flatMap', flatMap_map']
    congr 1
    funext l
    rw [List.map_map]
    rfl
/-- what the best is -/
structure IsBest {P : Type} (key : P → Nat × Nat) (l : List P) (k : Nat × Nat) (m : Nat) (p : P) : Prop where
  least : ∀ q ∈ l, k.1 < (key q).1 ∨ (k.1 = (key q).1 ∧ k.2 ≤ (key q).2)
  many : m = (l.filter fun q => decide (key q = k)).length
  first : l.find? (fun q => decide (key q = k)) = some p
theorem IsBest.key {P : Type} {key : P → Nat × Nat} {l : List P} {k : Nat × Nat} {m : Nat} {p : P} (h : IsBest key l k m p) : key p = k := by
  have := List.find?_some h.first
  simpa using this
theorem IsBest.mem {P : Type} {key : P → Nat × Nat} {l : List P} {k : Nat × Nat} {m : Nat} {p : P} (h : IsBest key l k m p) : p ∈ l := List.mem_of_find?_eq_some h.first
theorem IsBest.only {P : Type} {key : P → Nat × Nat} {l : List P} {k k' : Nat × Nat} {m m' : Nat} {p p' : P} (h : IsBest key l k m p) (h' : IsBest key l k' m' p') : k = k' ∧ m = m' ∧ p = p' := by
  have e : k = k' := by
    have h1 := h.least p' h'.mem
    have h2 := h'.least p h.mem
    rw [h'.key] at h1
    rw [h.key] at h2
    apply Prod.ext <;> omega
  subst e
  exact ⟨rfl, by rw [h.many, h'.many], Option.some.inj (h.first.symm.trans h'.first)⟩
theorem IsBest.one {P : Type} (key : P → Nat × Nat) (p : P) : IsBest key [p] (key p) 1 p := by
  refine ⟨fun q hq => ?_, ?_, ?_⟩
  · rw [List.mem_singleton.mp hq]
    exact .inr ⟨rfl, Nat.le_refl _⟩
  · simp
  · simp
/-- one more, better than all -/
theorem IsBest.better {P : Type} {key : P → Nat × Nat} {l : List P} {k : Nat × Nat} {m : Nat} {p q : P} (h : IsBest key l k m p) (c : (key q).1 < k.1 ∨ ((key q).1 = k.1 ∧ (key q).2 < k.2)) : IsBest key (l ++ [q]) (key q) 1 q := by
  have no : ∀ z ∈ l, ¬ key z = key q := fun z hz e => by
    have := h.least z hz
    rw [e] at this
    omega
  refine ⟨fun z hz => ?_, ?_, ?_⟩
  · rcases List.mem_append.mp hz with hz | hz
    · have := h.least z hz
      omega
    · rw [List.mem_singleton.mp hz]
      exact .inr ⟨rfl, Nat.le_refl _⟩
  · rw [List.filter_append, List.filter_eq_nil_iff.mpr (fun z hz => by simpa using no z hz)]
    simp
  · rw [List.find?_append, List.find?_eq_none.mpr (fun z hz => by simpa using no z hz)]
    simp
theorem IsBest.same {P : Type} {key : P → Nat × Nat} {l : List P} {k : Nat × Nat} {m : Nat} {p q : P} (h : IsBest key l k m p) (c : (key q).1 = k.1 ∧ (key q).2 = k.2) : IsBest key (l ++ [q]) k (m + 1) p := by
  refine ⟨fun z hz => ?_, ?_, ?_⟩
  · rcases List.mem_append.mp hz with hz | hz
    · exact h.least z hz
    · rw [List.mem_singleton.mp hz]
      omega
  · rw [List.filter_append, List.length_append, ← h.many]
    have : key q = k := Prod.ext c.1 c.2
    simp [this]
  · rw [List.find?_append, h.first]
    rfl
theorem IsBest.worse {P : Type} {key : P → Nat × Nat} {l : List P} {k : Nat × Nat} {m : Nat} {p q : P} (h : IsBest key l k m p) (c1 : ¬ ((key q).1 < k.1 ∨ ((key q).1 = k.1 ∧ (key q).2 < k.2))) (c2 : ¬ ((key q).1 = k.1 ∧ (key q).2 = k.2)) : IsBest key (l ++ [q]) k m p := by
  refine ⟨fun z hz => ?_, ?_, ?_⟩
  · rcases List.mem_append.mp hz with hz | hz
    · exact h.least z hz
    · rw [List.mem_singleton.mp hz]
      omega
  · have : ¬ key q = k := fun e => c2 ⟨by rw [e], by rw [e]⟩
    rw [List.filter_append, List.length_append, ← h.many]
    simp [this]
  · rw [List.find?_append, h.first]
    rfl
def keyOf (b : Box) (f : List Nat → Nat) (p : List Nat) : Nat × Nat := (f (b.sum p), Uw42.used b p)
theorem isBest_fold (b : Box) (f : List Nat → Nat) : ∀ (l done : List (List Nat)) (x y : Best), IsBest (keyOf b f) done (x.first, x.second) x.many x.plan → l.foldl (bstep b f) (some x) = some y → IsBest (keyOf b f) (done ++ l) (y.first, y.second) y.many y.plan
  | [], done, x, y, h, e => by
    have := Option.some.inj e
    subst this
    rw [List.append_nil]
    exact h
  | p :: r, done, x, y, h, e => by
    rw [show done ++ p :: r = (done ++ [p]) ++ r from by simp]
    rw [List.foldl_cons] at e
    by_cases c1 : f (b.sum p) < x.first ∨ (f (b.sum p) = x.first ∧ Uw42.used b p < x.second)
    · rw [show bstep b f (some x) p = some ⟨f (b.sum p), Uw42.used b p, 1, p⟩ from if_pos c1] at e
      exact isBest_fold b f r (done ++ [p]) _ y (h.better c1) e
    · by_cases c2 : f (b.sum p) = x.first ∧ Uw42.used b p = x.second
      · rw [show bstep b f (some x) p = some { x with many := x.many + 1 } from (if_neg c1).trans (if_pos c2)] at e
        exact isBest_fold b f r (done ++ [p]) _ y (h.same c2) e
      · rw [show bstep b f (some x) p = some x from (if_neg c1).trans (if_neg c2)] at e
        exact isBest_fold b f r (done ++ [p]) _ y (h.worse c1 c2) e
/-- THE BEST BY WHAT IT IS -/
theorem bestBy_is (b : Box) (f : List Nat → Nat) {k : Nat × Nat} {m : Nat} {p : List Nat} (h : IsBest (keyOf b f) b.plans k m p) : b.bestBy f = some ⟨k.1, k.2, m, p⟩ := by
  obtain ⟨y, e, _⟩ := bestBy_some b f
  have hy : IsBest (keyOf b f) b.plans (y.first, y.second) y.many y.plan := by
    rw [bestBy_fold] at e
    cases ep : b.plans with
    | nil => have := h.mem; rw [ep] at this; cases this
    | cons q r =>
      rw [ep, List.foldl_cons] at e
      exact isBest_fold b f r [q] _ y (IsBest.one (keyOf b f) q) e
  obtain ⟨e1, e2, e3⟩ := h.only hy
  rw [e, e1, e2, e3]
end CB
/-! Motions of the first cams, the gaps to what is wished; the plans with their gaps, one cam more. -/
namespace CB
open Uw42 (Call Box Ans Best)
def natI (l : List Nat) : List Int := l.map fun (n : Nat) => (n : Int)
theorem natI_len (l : List Nat) : (natI l).length = l.length := by unfold natI; rw [List.length_map]
def gap (m w : List Nat) : List Int := m.zipWith (fun (x y : Nat) => (x : Int) - (y : Int)) w
def addI (a b : List Int) : List Int := a.zipWith (fun x y => x + y) b
theorem gap_len {m w : List Nat} {n : Nat} (h : m.length = n) (h2 : w.length = n) : (gap m w).length = n := by unfold gap; rw [List.length_zipWith, h, h2, Nat.min_self]
theorem addI_len {a b : List Int} {n : Nat} (h : a.length = n) (h2 : b.length = n) : (addI a b).length = n := by unfold addI; rw [List.length_zipWith, h, h2, Nat.min_self]
theorem addI_natI : ∀ a b : List Nat, addI (natI a) (natI b) = natI (Uw42.add a b)
  | [], _ => by unfold addI natI Uw42.add; rfl
  | _ :: _, [] => by unfold addI natI Uw42.add; rfl
  | x :: a, y :: b => by
    have ih := addI_natI a b
    unfold addI natI Uw42.add at ih ⊢
    rw [List.map_cons, List.map_cons, List.zipWith_cons_cons, List.zipWith_cons_cons, List.map_cons, ih]
    push_cast
    rfl
theorem gap_add : ∀ a b w : List Nat, gap (Uw42.add a b) w = addI (gap a w) (natI b)
  | [], _, _ => by unfold gap Uw42.add addI; simp
  | _ :: _, [], w => by unfold gap Uw42.add addI natI; simp
  | _ :: _, _ :: _, [] => by unfold gap Uw42.add addI natI; simp
  | x :: a, y :: b, z :: w => by
    have ih := gap_add a b w
    unfold gap Uw42.add addI natI at ih ⊢
    simp only [List.map_cons, List.zipWith_cons_cons]
    rw [ih]
    congr 1
    push_cast
    omega
/-- the motion of the first cams -/
def mo (P : Nat) (cs : List (List Nat)) (p : List Nat) : List Nat := (cs.zip p).foldl (mstep P) (List.replicate P 0)
theorem mo_box (b : Box) (p : List Nat) : mo b.places b.cams p = b.sum p := rfl
theorem mo_len {P : Nat} {cs : List (List Nat)} (h : ∀ c ∈ cs, c.length = P) (p : List Nat) : (mo P cs p).length = P :=
  msteps_len _ _ (List.length_replicate ..) fun x hx => h x.1 (List.of_mem_zip hx).1
theorem mo_snoc {P : Nat} {cs : List (List Nat)} {c p : List Nat} {k : Nat} (h : p.length = cs.length) : mo P (cs ++ [c]) (p ++ [k]) = mstep P (mo P cs p) (c, k) := by
  unfold mo
  rw [List.zip_append h.symm, List.foldl_append]
  rfl
/-- every plan, with its gaps -/
def withGaps (P : Nat) (w : List Nat) (cs : List (List Nat)) : List (List Nat × List Int) := (Uw42.rows P cs.length).map fun p => (p, gap (mo P cs p) w)
/-- .. of one plan, one cam more -/
def longer1 (P : Nat) (c : List Nat) (x : List Nat × List Int) : List (List Nat × List Int) := ((List.range P).map fun k => (x.1 ++ [k], addI x.2 (natI (Uw42.turned k c)))) ++ [(x.1 ++ [P], x.2)]
theorem withGaps_nil (P : Nat) (w : List Nat) : withGaps P w [] = [([], gap (List.replicate P 0) w)] := rfl
theorem flatMap_congr' {α β : Type} {f g : α → List β} : ∀ {l : List α}, (∀ x ∈ l, f x = g x) → l.flatMap f = l.flatMap g
  | [], _ => rfl
  | a :: l, h => by rw [List.flatMap_cons, List.flatMap_cons, h a (List.mem_cons_self ..), flatMap_congr' fun x hx => h x (List.mem_cons_of_mem _ hx)]
theorem withGaps_snoc {P : Nat} {w : List Nat} {cs : List (List Nat)} (c : List Nat) : withGaps P w (cs ++ [c]) = (withGaps P w cs).flatMap (longer1 P c) := by
  unfold withGaps
  rw [List.length_append, List.length_singleton, rows_snoc, map_flatMap', flatMap_map']
  refine flatMap_congr' fun p hp => ?_
  have hl : p.length = cs.length := ((rows_mem _ _ _).mp hp).1
  rw [List.range_succ, List.map_append, List.map_append]
  unfold longer1
  congr 1
  · rw [List.map_map]
    refine List.map_congr_left fun k hk => ?_
    have hk' : ¬ k = P := by have := List.mem_range.mp hk; omega
    show (p ++ [k], gap (mo P (cs ++ [c]) (p ++ [k])) w) = (p ++ [k], addI (gap (mo P cs p) w) (natI (Uw42.turned k c)))
    rw [mo_snoc hl]
    unfold mstep
    rw [if_neg hk', gap_add]
  · show [(p ++ [P], gap (mo P (cs ++ [c]) (p ++ [P])) w)] = [(p ++ [P], gap (mo P cs p) w)]
    rw [mo_snoc hl]
    unfold mstep
    rw [if_pos rfl]
theorem withGaps_lens {P : Nat} {w : List Nat} {cs : List (List Nat)} (hw : w.length = P) (hc : ∀ c ∈ cs, c.length = P) : ∀ x ∈ withGaps P w cs, x.1.length = cs.length ∧ x.2.length = P := by
  intro x hx
  obtain ⟨p, hp, rfl⟩ := List.mem_map.mp hx
  exact ⟨((rows_mem _ _ _).mp hp).1, gap_len (mo_len hc p) hw⟩
theorem rows_len (k : Nat) : ∀ n : Nat, (Uw42.rows k n).length = (k + 1) ^ n
  | 0 => rfl
  | n + 1 => by
    rw [rows_cons, List.length_flatMap]
    simp only [List.length_map]
    rw [rows_len k n, List.map_const', List.length_range, List.sum_replicate_nat, Nat.pow_succ, Nat.mul_comm]
theorem withGaps_len {P : Nat} {w : List Nat} {cs : List (List Nat)} (hP : P ≤ 8) (hn : cs.length ≤ 4) : (withGaps P w cs).length ≤ 6561 := by
  unfold withGaps
  rw [List.length_map, rows_len]
  calc (P + 1) ^ cs.length ≤ 9 ^ cs.length := Nat.pow_le_pow_left (by omega) _
    _ ≤ 9 ^ 4 := Nat.pow_le_pow_right (by decide) hn
    _ = 6561 := by decide
/-! off -/
def absI (z : Int) : Int := if z < 0 then -z else z
theorem absI_apart (x y : Nat) : absI ((x : Int) - (y : Int)) = ((Uw42.apart y x : Nat) : Int) := by
  unfold absI Uw42.apart
  split <;> omega
theorem absI_gap : ∀ m w : List Nat, (gap m w).map absI = natI (w.zipWith Uw42.apart m)
  | [], w => by unfold gap natI; simp
  | _ :: _, [] => by unfold gap natI; simp
  | x :: m, y :: w => by
    have ih := absI_gap m w
    unfold gap natI at ih ⊢
    simp only [List.map_cons, List.zipWith_cons_cons]
    rw [ih, absI_apart]
theorem total_sum (l : List Nat) : (natI l).sum = ((Uw42.total l : Nat) : Int) := by
  have key : ∀ (l : List Nat) (a : Nat), (a : Int) + (natI l).sum = ((l.foldl (fun a c => a + c) a : Nat) : Int) := by
    intro l
    induction l with
    | nil => intro a; unfold natI; simp
    | cons x l ih =>
      intro a
      rw [List.foldl_cons, ← ih (a + x)]
      unfold natI
      rw [List.map_cons, List.sum_cons]
      push_cast
      omega
  have := key l 0
  unfold Uw42.total
  rw [← this]
  omega
theorem off_gap (m w : List Nat) : ((gap m w).map absI).sum = ((Uw42.off w m : Nat) : Int) := by
  rw [absI_gap, total_sum]
  rfl
theorem max_top : ∀ (l : List Nat) (a : Nat), (l.foldl max a = a ∨ l.foldl max a ∈ l) ∧ a ≤ l.foldl max a ∧ ∀ x ∈ l, x ≤ l.foldl max a
  | [], a => ⟨.inl rfl, Nat.le_refl _, fun x hx => by cases hx⟩
  | y :: l, a => by
    obtain ⟨h1, h2, h3⟩ := max_top l (max a y)
    rw [List.foldl_cons]
    refine ⟨?_, by omega, fun x hx => ?_⟩
    · rcases h1 with h1 | h1
      · by_cases c : a ≤ y
        · exact .inr (by rw [h1, Nat.max_eq_right c]; exact List.mem_cons_self ..)
        · exact .inl (by rw [h1, Nat.max_eq_left (by omega)])
      · exact .inr (List.mem_cons_of_mem _ h1)
    · rcases List.mem_cons.mp hx with rfl | hx
      · omega
      · exact h3 x hx
theorem worst_gap {m w : List Nat} {z : Int} (h1 : z ∈ (gap m w).map absI) (h2 : ∀ y ∈ (gap m w).map absI, y ≤ z) : z = ((Uw42.worst w m : Nat) : Int) := by
  rw [absI_gap] at h1 h2
  unfold Uw42.worst
  generalize w.zipWith Uw42.apart m = l at h1 h2 ⊢
  obtain ⟨n, hn, rfl⟩ := List.mem_map.mp h1
  obtain ⟨t1, t2, t3⟩ := max_top l 0
  have a1 := t3 n hn
  have a2 : l.foldl max 0 ≤ n := by
    rcases t1 with t1 | t1
    · omega
    · have := h2 _ (List.mem_map.mpr ⟨_, t1, rfl⟩)
      exact_mod_cast this
  show ((n : Nat) : Int) = _
  omega
theorem used_count (b : Box) (p : List Nat) : ((p.length : Nat) : Int) - ((p.count b.places : Nat) : Int) = ((Uw42.used b p : Nat) : Int) := by
  unfold Uw42.used
  have key : p.length = p.count b.places + (p.filter fun k => k != b.places).length := by
    induction p with
    | nil => rfl
    | cons x p ih =>
      rw [List.count_cons, List.filter_cons, List.length_cons]
      by_cases c : x = b.places
      · subst c; simp; omega
      · have c1 : (x == b.places) = false := by simpa using c
        have c2 : (x != b.places) = true := by simpa using c
        rw [c1, c2]
        simp
        omega
  omega
end CB
/-! Plans rated: the least of them, front first, is the best plan. -/
namespace CB
open Uw42 (Call Box Ans Best)
/-- the first difference decides, else the shorter goes ahead -/
def lx : List Nat → List Nat → Bool
  | [], [] => false
  | [], _ :: _ => true
  | _ :: _, [] => false
  | x :: p, y :: q => if x = y then lx p q else decide (x < y)
abbrev Rt : Type := Nat × Nat × List Nat
def rtLt (s t : Rt) : Bool := if s.1 = t.1 then (if s.2.1 = t.2.1 then lx s.2.2 t.2.2 else decide (s.2.1 < t.2.1)) else decide (s.1 < t.1)
theorem lx_trans : ∀ {p q r : List Nat}, lx p q = true → lx q r = true → lx p r = true
  | [], [], _, h, _ => by cases h
  | [], _ :: _, [], _, h => by cases h
  | [], _ :: _, _ :: _, _, _ => rfl
  | _ :: _, [], _, h, _ => by cases h
  | _ :: _, _ :: _, [], _, h => by cases h
  | x :: p, y :: q, z :: r, h1, h2 => by
    unfold lx at h1 h2 ⊢
    by_cases e1 : x = y
    · rw [if_pos e1] at h1
      subst e1
      by_cases e2 : x = z
      · rw [if_pos e2] at h2 ⊢
        exact lx_trans h1 h2
      · rw [if_neg e2] at h2 ⊢
        exact h2
    · rw [if_neg e1] at h1
      have h1 := of_decide_eq_true h1
      by_cases e2 : y = z
      · subst e2
        rw [if_neg e1]
        exact decide_eq_true h1
      · rw [if_neg e2] at h2
        have h2 := of_decide_eq_true h2
        rw [if_neg (by omega)]
        exact decide_eq_true (by omega)
theorem lx_irrefl : ∀ p : List Nat, lx p p = false
  | [] => rfl
  | x :: p => by unfold lx; rw [if_pos rfl, lx_irrefl p]
theorem rtLt_trans {a b c : Rt} (h1 : rtLt a b = true) (h2 : rtLt b c = true) : rtLt a c = true := by
  unfold rtLt at h1 h2 ⊢
  by_cases e1 : a.1 = b.1
  · rw [if_pos e1] at h1
    by_cases e2 : b.1 = c.1
    · rw [if_pos e2] at h2
      rw [if_pos (e1.trans e2)]
      by_cases f1 : a.2.1 = b.2.1
      · rw [if_pos f1] at h1
        by_cases f2 : b.2.1 = c.2.1
        · rw [if_pos f2] at h2
          rw [if_pos (f1.trans f2)]
          exact lx_trans h1 h2
        · rw [if_neg f2] at h2
          have h2 := of_decide_eq_true h2
          rw [if_neg (by omega)]
          exact decide_eq_true (by omega)
      · rw [if_neg f1] at h1
        have h1 := of_decide_eq_true h1
        by_cases f2 : b.2.1 = c.2.1
        · rw [if_neg (by omega)]
          exact decide_eq_true (by omega)
        · rw [if_neg f2] at h2
          have h2 := of_decide_eq_true h2
          rw [if_neg (by omega)]
          exact decide_eq_true (by omega)
    · rw [if_neg e2] at h2
      have h2 := of_decide_eq_true h2
      rw [if_neg (by omega)]
      exact decide_eq_true (by omega)
  · rw [if_neg e1] at h1
    have h1 := of_decide_eq_true h1
    by_cases e2 : b.1 = c.1
    · rw [if_neg (by omega)]
      exact decide_eq_true (by omega)
    · rw [if_neg e2] at h2
      have h2 := of_decide_eq_true h2
      rw [if_neg (by omega)]
      exact decide_eq_true (by omega)
theorem rtLt_irrefl (t : Rt) : rtLt t t = false := by
  unfold rtLt
  rw [if_pos rfl, if_pos rfl]
  exact lx_irrefl _
theorem lx_tri : ∀ {p q : List Nat}, lx p q = false → lx q p = false → p = q
  | [], [], _, _ => rfl
  | [], _ :: _, h, _ => by cases h
  | _ :: _, [], _, h => by cases h
  | x :: p, y :: q, h1, h2 => by
    unfold lx at h1 h2
    by_cases e : x = y
    · subst e
      rw [if_pos rfl] at h1 h2
      rw [lx_tri h1 h2]
    · rw [if_neg e] at h1
      rw [if_neg fun z => e z.symm] at h2
      have h1 := of_decide_eq_false h1
      have h2 := of_decide_eq_false h2
      omega
theorem rtLt_tri {a b : Rt} (h1 : rtLt a b = false) (h2 : rtLt b a = false) : a = b := by
  obtain ⟨a1, a2, a3⟩ := a
  obtain ⟨b1, b2, b3⟩ := b
  unfold rtLt at h1 h2
  dsimp only at h1 h2
  by_cases e : a1 = b1
  · subst e
    rw [if_pos rfl] at h1 h2
    by_cases f : a2 = b2
    · subst f
      rw [if_pos rfl] at h1 h2
      rw [lx_tri h1 h2]
    · rw [if_neg f] at h1
      rw [if_neg fun z => f z.symm] at h2
      have h1 := of_decide_eq_false h1
      have h2 := of_decide_eq_false h2
      omega
  · rw [if_neg e] at h1
    rw [if_neg fun z => e z.symm] at h2
    have h1 := of_decide_eq_false h1
    have h2 := of_decide_eq_false h2
    omega
/-- going through them and keeping the lesser: one of them, none is less -/
theorem keep_least : ∀ (l : List Rt) (x : Rt), (l.foldl (fun a y => if rtLt y a = true then y else a) x ∈ x :: l) ∧ (∀ y ∈ x :: l, rtLt y (l.foldl (fun a y => if rtLt y a = true then y else a) x) = false)
  | [], x => ⟨List.mem_cons_self .., fun y hy => by rw [List.mem_singleton.mp hy]; exact rtLt_irrefl _⟩
  | z :: l, x => by
    rw [List.foldl_cons]
    by_cases c : rtLt z x = true
    · rw [if_pos c]
      obtain ⟨h1, h2⟩ := keep_least l z
      refine ⟨List.mem_cons_of_mem _ h1, fun y hy => ?_⟩
      rcases List.mem_cons.mp hy with rfl | hy
      · cases e : rtLt y (l.foldl (fun a y => if rtLt y a = true then y else a) z) with
        | false => rfl
        | true =>
          have h3 := h2 z (List.mem_cons_self ..)
          rw [rtLt_trans c e] at h3
          exact h3
      · exact h2 y hy
    · rw [if_neg c]
      obtain ⟨h1, h2⟩ := keep_least l x
      refine ⟨?_, fun y hy => ?_⟩
      · rcases List.mem_cons.mp h1 with h1 | h1
        · rw [h1]; exact List.mem_cons_self ..
        · exact List.mem_cons_of_mem _ (List.mem_cons_of_mem _ h1)
      · rcases List.mem_cons.mp hy with rfl | hy
        · exact h2 y (List.mem_cons_self ..)
        · rcases List.mem_cons.mp hy with rfl | hy
          · cases e : rtLt y (l.foldl (fun a y => if rtLt y a = true then y else a) x) with
            | false => rfl
            | true =>
              -- y is less than what stays, what stays is not above x: y is less than x
              exfalso
              have h3 := h2 x (List.mem_cons_self ..)
              generalize l.foldl (fun a y => if rtLt y a = true then y else a) x = m at e h3
              -- m ≤ x
              have : rtLt y x = true := by
                by_cases q : rtLt m x = true
                · exact rtLt_trans e q
                · have : m = x := by
                    have q : rtLt m x = false := by simpa using q
                    exact rtLt_tri q h3
                  rw [← this]; exact e
              exact c this
          · exact h2 y (List.mem_cons_of_mem _ hy)
theorem rows_sorted (k : Nat) : ∀ n : Nat, (Uw42.rows k n).Pairwise fun p q => lx p q = true
  | 0 => List.pairwise_singleton _ _
  | n + 1 => by
    rw [rows_cons, List.pairwise_flatMap]
    refine ⟨fun a _ => ?_, ?_⟩
    · rw [List.pairwise_map]
      refine (rows_sorted k n).imp fun {p q} h => ?_
      unfold lx
      rw [if_pos rfl]
      exact h
    · refine List.pairwise_lt_range.imp fun {a b} hab p hp q hq => ?_
      obtain ⟨p', _, rfl⟩ := List.mem_map.mp hp
      obtain ⟨q', _, rfl⟩ := List.mem_map.mp hq
      unfold lx
      rw [if_neg (by omega)]
      exact decide_eq_true hab
theorem first_least {P : Type} [DecidableEq P] {lt : P → P → Bool} {good : P → Bool} : ∀ {l : List P} {p : P}, l.Pairwise (fun a b => lt a b = true) → p ∈ l → good p = true → (∀ q ∈ l, good q = true → lt q p = false) → l.find? good = some p
  | [], _, _, h, _, _ => by cases h
  | a :: l, p, s, h, g, hl => by
    obtain ⟨s1, s2⟩ := List.pairwise_cons.mp s
    rcases List.mem_cons.mp h with rfl | h
    · rw [List.find?_cons, g]
    · cases ga : good a with
      | true =>
        have h1 := hl a (List.mem_cons_self ..) ga
        rw [s1 p h] at h1
        cases h1
      | false =>
        rw [List.find?_cons, ga]
        exact first_least s2 h g fun q hq => hl q (List.mem_cons_of_mem _ hq)
/-- each plan rated -/
def rated (b : Box) (f : List Nat → Nat) : List Rt := b.plans.map fun p => (f (b.sum p), Uw42.used b p, p)
/-- THE LEAST OF THE RATED IS THE BEST PLAN -/
theorem bestBy_least (b : Box) (f : List Nat → Nat) {t : Rt} (ht : t ∈ rated b f) (hl : ∀ y ∈ rated b f, rtLt y t = false) :
    b.bestBy f = some ⟨t.1, t.2.1, ((rated b f).filter fun y => decide (y.1 = t.1) && decide (y.2.1 = t.2.1)).length, t.2.2⟩ := by
  obtain ⟨p, hp, rfl⟩ := List.mem_map.mp ht
  refine bestBy_is b f (k := (f (b.sum p), Uw42.used b p)) (p := p) ⟨fun q hq => ?_, ?_, ?_⟩
  · have h1 := hl _ (List.mem_map.mpr ⟨q, hq, rfl⟩)
    unfold rtLt at h1
    show f (b.sum p) < f (b.sum q) ∨ (f (b.sum p) = f (b.sum q) ∧ Uw42.used b p ≤ Uw42.used b q)
    dsimp only at h1
    by_cases e : f (b.sum q) = f (b.sum p)
    · rw [if_pos e] at h1
      by_cases e2 : Uw42.used b q = Uw42.used b p
      · exact .inr ⟨e.symm, by omega⟩
      · rw [if_neg e2] at h1
        have h1 := of_decide_eq_false h1
        exact .inr ⟨e.symm, by omega⟩
    · rw [if_neg e] at h1
      have h1 := of_decide_eq_false h1
      exact .inl (by omega)
  · unfold rated
    rw [List.filter_map, List.length_map]
    congr 2
    funext q
    show (decide (f (b.sum q) = f (b.sum p)) && decide (Uw42.used b q = Uw42.used b p)) = decide (keyOf b f q = (f (b.sum p), Uw42.used b p))
    unfold keyOf
    rw [Bool.eq_iff_iff, Bool.and_eq_true, decide_eq_true_eq, decide_eq_true_eq, decide_eq_true_eq, Prod.mk.injEq]
  · refine first_least (lt := lx) (rows_sorted _ _) hp (by simp [keyOf]) fun q hq gq => ?_
    have h1 := hl _ (List.mem_map.mpr ⟨q, hq, rfl⟩)
    have gq := of_decide_eq_true gq
    unfold keyOf at gq
    rw [Prod.mk.injEq] at gq
    unfold rtLt at h1
    dsimp only at h1
    rw [if_pos gq.1, if_pos gq.2] at h1
    exact h1
end CB
namespace CB
open PySem PySem.Spec PyProof.Rows L2
open PySem.W (Codec)
/-! The text by places. -/
def top (i : Nat) : Stmt := PySem.Challenge.pw_cambox_s01_answers.main.body.getD i (.Pass ⟨0, 0, 0, 0⟩)
abbrev sTurned : Stmt := top 1
abbrev sTogether : Stmt := top 2
abbrev sMotionOf : Stmt := top 3
abbrev sGapsOf : Stmt := top 4
abbrev sOffAll : Stmt := top 5
abbrev sOffWorst : Stmt := top 6
abbrev sCamsOn : Stmt := top 7
abbrev sOneMore : Stmt := top 8
abbrev sPlansGaps : Stmt := top 9
abbrev sBestOf : Stmt := top 10
abbrev sIsMotion : Stmt := top 20
abbrev sBoxInit : Stmt := inClass (top 21) 0
abbrev sBegins : Stmt := inClass (top 21) 1
abbrev sCam : Stmt := inClass (top 21) 2
abbrev sWish : Stmt := inClass (top 21) 3
abbrev sSumOf : Stmt := inClass (top 21) 4
abbrev sNearest : Stmt := inClass (top 21) 5
abbrev sEvenest : Stmt := inClass (top 21) 6
abbrev sRdInit : Stmt := inClass (top 23) 0
abbrev sHasMore : Stmt := inClass (top 23) 1
abbrev sNumber : Stmt := inClass (top 23) 2
abbrev sRow : Stmt := inClass (top 23) 3
abbrev sAnswer : Stmt := top 32
abbrev sAnswers : Stmt := top 33
/-- whole numbers as values -/
def nats (l : List Nat) : List V := l.map fun (n : Nat) => V.int (n : Int)
theorem nats_len (l : List Nat) : (nats l).length = l.length := by unfold nats; rw [List.length_map]
theorem nats_at {l : List Nat} {i : Nat} {x : V} (h : (nats l)[i]? = some x) : ∃ n, l[i]? = some n ∧ x = V.int (n : Int) := by
  unfold nats at h
  rw [List.getElem?_map] at h
  cases e : l[i]? with
  | none => rw [e] at h; cases h
  | some n => rw [e] at h; exact ⟨n, rfl, (Option.some.inj h).symm⟩
theorem take_snoc {α : Type} : ∀ {l : List α} {i : Nat} {x : α}, l[i]? = some x → l.take (i + 1) = l.take i ++ [x]
  | [], i, x, h => by simp at h
  | a :: l, 0, x, h => by
    have e : a = x := Option.some.inj h
    subst e
    rfl
  | a :: l, i + 1, x, h => by
    have ih := take_snoc (l := l) (i := i) (x := x) h
    show a :: l.take (i + 1) = a :: l.take i ++ [x]
    rw [ih]
    rfl
theorem not_eq_int (a b : Nat) : (!decide (V.int (a : Int) = V.int (b : Int))) = decide (a ≠ b) := by
  by_cases c : a = b
  · subst c; simp
  · have : ¬ (V.int (a : Int) = V.int (b : Int)) := by intro h; injection h with h; omega
    simp [this, c]
/-- is_motion -/
def mot (l : List Nat) (P : Nat) (hi : Nat) : Bool := l.length == P && l.all fun n => decide (n ≤ hi)
def spIsMotion (K : PySem.W.Frag) : Sp := fun vs H Q _ => ∃ (a : Addr) (l : List Nat) (P hi : Nat), vs = [.ref a, .int (P : Int), .int (hi : Int)] ∧ SqL K H a (nats l) ∧ Q (.bl (mot l P hi)) H
section
variable {P : Program} {w : World} {K : PySem.W.Frag} {mg : Str → Option Value} {base : Heap}
theorem scIM : FnScope ["numbers", "length", "highest", "number"] ["numbers", "length", "highest"] (defScope sIsMotion) := ⟨rfl, rfl, rfl, by decide +kernel, rfl, by decide +kernel, by decide +kernel⟩
theorem ok_isMotion {f : Addr} {fd : FuncData} (F : Fun K "is_row" "is_row" sIsMotion f fd) (gL : mg "len" = none) : FnOk P w K mg base CX0 1 f fd ["numbers", "length", "highest"] (spIsMotion K) := by
  refine F.ok scIM (fun vs H Q E h => ?_) (fun cdv A outer s H vs Q E hr h => ?_)
  · obtain ⟨a, l, P, hi, rfl, _⟩ := h
    rfl
  · obtain ⟨a, l, P, hi, rfl, hS, k⟩ := h
    refine ⟨_, pss_cons (ps_if (pt_cmpR op_ne (pe_callB call_len_seq (by rfl) gL PySem.boot_len (pa_cons (pv 0) pa_nil)) (pv 1) (nomark _)) (pss_one (ps_ret pe_bl)) pss_nil)
      (pss_cons (ps_for PassesOwn.never rfl (pi_list (pv 0)) (pg_name (i := 3) scIM.nd rfl (Or.inl rfl))
        (pss_one (ps_if (pt_cmpR op_gt (pv 3) (pv 2) (nomark _)) (pss_one (ps_ret pe_bl)) pss_nil)))
      (pss_one (ps_ret pe_bl))), ?_⟩
    refine ⟨_, rfl, a, _, rfl, .inl hS, _, rfl, rfl, _, rfl, ?_⟩
    rw [nats_len, not_eq_int]
    refine ite2 (fun c => ?_) (fun c => ?_)
    · have e : mot l P hi = false := by
        unfold mot
        rw [show (l.length == P) = false from by simpa using c, Bool.false_and]
      rw [e] at k
      exact k
    · have c : l.length = P := by simpa using c
      refine ⟨_, rfl, a, rfl, ⟨_, hS⟩, for_list (K := K) (a := a) (xs := nats l) (fun i σ H' => ∃ v : Option V, σ = [some (.ref a), some (.int (P : Int)), some (.int (hi : Int)), v] ∧ H' = H ∧ (l.take i).all (fun n => decide (n ≤ hi)) = true)
        ⟨none, rfl, rfl, rfl⟩ (fun i σ H' _ ⟨_, _, e, _⟩ => by rw [e]; exact hS) ?_ ?_⟩
      · rintro i x σ H' hx ⟨v, rfl, rfl, hall⟩
        obtain ⟨n, hn, rfl⟩ := nats_at hx
        refine ⟨_, rfl, _, rfl, _, _, rfl, rfl, _, rfl, ?_⟩
        refine ite2 (fun c2 => ?_) (fun c2 => ?_)
        · have e : mot l P hi = false := by
            unfold mot
            rw [Bool.and_eq_false_iff]
            right
            rw [List.all_eq_false]
            refine ⟨n, List.mem_of_getElem? hn, ?_⟩
            simp at c2 ⊢
            omega
          rw [e] at k
          exact k
        · refine ⟨_, rfl, rfl, ?_⟩
          rw [take_snoc hn, List.all_append, hall]
          simp at c2 ⊢
          omega
      · rintro σ H' ⟨v, rfl, rfl, hall⟩
        rw [nats_len, List.take_length] at hall
        have e : mot l P hi = true := by
          unfold mot
          rw [hall, Bool.and_true]
          simpa using c
        rw [e] at k
        exact k
end
end CB
namespace CB
open PySem PySem.Spec PyProof.Rows L2
open PySem.W (Codec)
theorem lk_here {k : Str} {v : V} {r : List (Str × V)} : List.lookup k ((k, v) :: r) = some v := by
  have e : (k == k) = true := beq_self_eq_true k
  simp only [List.lookup, e]
theorem lk_past {k g : Str} {v : V} {r : List (Str × V)} (h : (k == g) = false) : List.lookup k ((g, v) :: r) = List.lookup k r := by
  simp only [List.lookup, h]
theorem put_here {f : Str} {v x : V} {r : List (Str × V)} : putF f v ((f, x) :: r) = (f, v) :: r := if_pos rfl
theorem put_past {f g : Str} {v x : V} {r : List (Str × V)} (h : ¬ g = f) : putF f v ((g, x) :: r) = (g, x) :: putF f v r := if_neg h
/-- all that was tracked but what stands at r is as it was -/
def But (r : Addr) (H H' : Hp) : Prop := ∀ q o, H q = some o → q ≠ r → H' q = some o
theorem But.seq {K : PySem.W.Frag} {H H' : Hp} {r a C dx : Addr} {fs : List (Str × V)} {xs : List V} (k : But r H H') (hr : H r = some (.ins C dx fs)) (h : SqL K H a xs) : SqL K H' a xs := by
  rcases h with (h | ⟨o, h⟩) | h
  · exact .inl (.inl (k _ _ h (by intro e; rw [e, hr] at h; cases h)))
  · exact .inl (.inr ⟨o, k _ _ h (by intro e; rw [e, hr] at h; cases h)⟩)
  · exact .inr h
theorem But.upd {r : Addr} {H : Hp} {o : HO} : But r H (upd H r o) := fun q o' h hq => by rw [upd_ne hq]; exact h
theorem But.trans {r : Addr} {H H1 H2 : Hp} (a : But r H H1) (b : But r H1 H2) : But r H H2 := fun q o h hq => b q o (a q o h hq) hq
/-! The reader. -/
def rF (a : Addr) (i : Nat) : List (Str × V) := [("calls", .ref a), ("at", .int (i : Int))]
def RdAt (C : Addr) (H : Hp) (r a : Addr) (i : Nat) : Prop := ∃ dx, H r = some (.ins C dx (rF a i))
theorem rF_calls (a : Addr) (i : Nat) : (rF a i).lookup ("calls" : Str) = some (.ref a) := lk_here
theorem rF_at (a : Addr) (i : Nat) : (rF a i).lookup ("at" : Str) = some (.int (i : Int)) := (lk_past (by decide +kernel)).trans lk_here
theorem rF_no (a : Addr) (i : Nat) {m : Str} (h1 : (m == ("calls" : Str)) = false) (h2 : (m == ("at" : Str)) = false) : (rF a i).lookup m = none := (lk_past h1).trans ((lk_past h2).trans rfl)
theorem rF_put (a : Addr) (i j : Nat) (z : Int) (h : z = (j : Int)) : putF "at" (.int z) (rF a i) = rF a j := by
  subst h
  exact (put_past (by decide +kernel)).trans (congrArg _ put_here)
theorem rF_new (a : Addr) : putF "at" (.int 0) (putF "calls" (.ref a) []) = rF a 0 := (put_past (by decide +kernel)).trans rfl
structure TxtR (K : PySem.W.Frag) (C : Addr) : Prop where
  cl : Cls K C
  nC : NoAttr K C "calls"
  nA : NoAttr K C "at"
def zs (l : List Int) : List V := l.map V.int
theorem zs_len (l : List Int) : (zs l).length = l.length := by unfold zs; rw [List.length_map]
def spRdInit (C : Addr) : Sp := fun vs H Q _ => ∃ (r dx a : Addr), vs = [.ref r, .ref a] ∧ H r = some (.ins C dx []) ∧ ∀ H' : Hp, RdAt C H' r a 0 → But r H H' → Q .non H'
def spHasMore (K : PySem.W.Frag) (C : Addr) : Sp := fun vs H Q _ => ∃ (r a : Addr) (l : List Int) (i : Nat), vs = [.ref r] ∧ RdAt C H r a i ∧ SqL K H a (zs l) ∧ Q (.bl (decide (i < l.length))) H
def spNumber (K : PySem.W.Frag) (C : Addr) : Sp := fun vs H Q _ => ∃ (r a : Addr) (l : List Int) (i : Nat) (z : Int), vs = [.ref r] ∧ RdAt C H r a i ∧ SqL K H a (zs l) ∧ l[i]? = some z ∧
  ∀ H' : Hp, RdAt C H' r a (i + 1) → But r H H' → Q (.int z) H'
def spRow (K : PySem.W.Frag) (C : Addr) : Sp := fun vs H Q _ => ∃ (r a : Addr) (l : List Int) (i n : Nat), vs = [.ref r] ∧ RdAt C H r a i ∧ SqL K H a (zs l) ∧ l[i]? = some (n : Int) ∧ i + 1 + n ≤ l.length ∧
  ∀ (H' : Hp) (p : Addr), RdAt C H' r a (i + 1 + n) → But r H H' → H p = none → H' p = some (.lst (zs ((l.drop (i + 1)).take n))) → Q (.ref p) H'
section
variable {P : Program} {w : World} {K : PySem.W.Frag} {mg : Str → Option Value} {base : Heap}
theorem scRI : FnScope ["self", "calls"] ["self", "calls"] (defScope sRdInit) := ⟨rfl, rfl, rfl, by decide +kernel, rfl, by decide +kernel, by decide +kernel⟩
theorem ok_rdInit {f C : Addr} {fd : FuncData} (F : Fun K "__init__" "Reader.__init__" sRdInit f fd) (T : TxtR K C) : FnOk P w K mg base CX0 1 f fd ["self", "calls"] (spRdInit C) := by
  refine F.ok scRI (fun vs H Q E h => ?_) (fun cdv A outer s H vs Q E hr h => ?_)
  · obtain ⟨r, dx, a, rfl, _⟩ := h
    rfl
  · obtain ⟨r, dx, a, rfl, hp, k⟩ := h
    refine ⟨_, pss_cons (ps_fld (pv 0) (pv 1) rfl) (pss_one (ps_fld (pv 0) pe_int rfl)), ?_⟩
    refine ⟨_, rfl, _, rfl, r, C, dx, [], rfl, hp, T.cl, T.nC, (by show 0 < 1000; decide), ?_⟩
    refine ⟨_, rfl, r, C, dx, _, rfl, upd_same, T.cl, T.nA, (by show 1 < 1000; decide), ?_⟩
    exact k _ ⟨dx, Eq.trans upd_same (congrArg (fun q => some (HO.ins C dx q)) (rF_new a))⟩ (But.upd.trans But.upd)
theorem scHM : FnScope ["self"] ["self"] (defScope sHasMore) := ⟨rfl, rfl, rfl, by decide +kernel, rfl, by decide +kernel, by decide +kernel⟩
theorem ok_hasMore {f C : Addr} {fd : FuncData} (F : Fun K "has_more" "Reader.has_more" sHasMore f fd) (T : TxtR K C) (gL : mg "len" = none) : FnOk P w K mg base CX0 1 f fd ["self"] (spHasMore K C) := by
  refine F.ok scHM (fun vs H Q E h => ?_) (fun cdv A outer s H vs Q E hr h => ?_)
  · obtain ⟨r, a, l, i, rfl, _⟩ := h
    rfl
  · obtain ⟨r, a, l, i, rfl, ⟨dx, h1⟩, hS, k⟩ := h
    refine ⟨_, pss_one (ps_ret (pe_cmpR op_lt (pe_fld (pv 0) rfl) (pe_callB call_len_seq (by rfl) gL PySem.boot_len (pa_cons (pe_fld (pv 0) rfl) pa_nil)) (nomark _))), ?_⟩
    refine ⟨_, rfl, r, C, dx, _, _, rfl, h1, T.cl, T.nA, rF_at a i, _, rfl, r, C, dx, _, _, rfl, h1, T.cl, T.nC, rF_calls a i, a, _, rfl, .inl hS, _, _, rfl, rfl, ?_⟩
    have e : decide ((i : Int) < ((zs l).length : Nat)) = decide (i < l.length) := by
      rw [zs_len]
      exact decide_eq_decide.mpr (by omega)
    show Q (V.bl (decide ((i : Int) < ((zs l).length : Nat)))) H
    rw [e]
    exact k
theorem scNu : FnScope ["self", "found"] ["self"] (defScope sNumber) := ⟨rfl, rfl, rfl, by decide +kernel, rfl, by decide +kernel, by decide +kernel⟩
theorem ok_number {f C : Addr} {fd : FuncData} (F : Fun K "number" "Reader.number" sNumber f fd) (T : TxtR K C) : FnOk P w K mg base CX0 1 f fd ["self"] (spNumber K C) := by
  refine F.ok scNu (fun vs H Q E h => ?_) (fun cdv A outer s H vs Q E hr h => ?_)
  · obtain ⟨r, a, l, i, z, rfl, _⟩ := h
    rfl
  · obtain ⟨r, a, l, i, z, rfl, ⟨dx, h1⟩, hS, hz, k⟩ := h
    refine ⟨_, pss_cons (ps_set (i := 1) scNu.nd rfl (Or.inl rfl) (pe_ix ix_list (pe_fld (pv 0) rfl) (pe_fld (pv 0) rfl) (fun _ _ => rfl))) (pss_cons (ps_fldaug (pv 0) pe_int in_add) (pss_one (ps_ret (pv 1)))), ?_⟩
    refine ⟨_, rfl, r, C, dx, _, _, rfl, h1, T.cl, T.nC, rF_calls a i, _, rfl, r, C, dx, _, _, rfl, h1, T.cl, T.nA, rF_at a i, a, _, _, V.int z, rfl, rfl, hS, at_of rfl (by unfold zs; rw [List.getElem?_map, hz]; rfl), ?_⟩
    refine ⟨_, rfl, r, C, dx, _, _, rfl, h1, T.cl, T.nA, rF_at a i, _, _, rfl, rfl, dx, _, h1, (by show 2 < 1000; decide), ?_⟩
    refine ⟨_, rfl, k _ ⟨dx, Eq.trans upd_same (congrArg (fun q => some (HO.ins C dx q)) (rF_put a i (i + 1) _ (by omega)))⟩ But.upd⟩
theorem scRo : FnScope ["self", "length", "start"] ["self"] (defScope sRow) := ⟨rfl, rfl, rfl, by decide +kernel, rfl, by decide +kernel, by decide +kernel⟩
theorem cut_zs {l : List Int} {i n : Nat} (h : i + n ≤ l.length) : cutV (zs l) (some (i : Int)) (some ((i + n : Nat) : Int)) = zs ((l.drop i).take n) := by
  unfold cutV
  rw [HT.sIx_nat, HT.sIx_nat, zs_len, Nat.min_eq_left (by omega), Nat.min_eq_left (by omega)]
  unfold zs
  rw [← List.map_drop, ← List.map_take, show i + n - i = n by omega]
theorem ok_row {f fN C : Addr} {fd fdN : FuncData} (F : Fun K "row" "Reader.row" sRow f fd) (T : TxtR K C) (FN : Fun K "number" "Reader.number" sNumber fN fdN) (bN : Binds K fdN ["self"] []) (mN : Meth K C "number" fN) :
    FnOk P w K mg base CX0 2 f fd ["self"] (spRow K C) := by
  have GN : FnOk P w K mg base CX0 1 fN fdN ["self"] (spNumber K C) := ok_number FN T
  refine F.ok scRo (fun vs H Q E h => ?_) (fun cdv A outer s H vs Q E hr h => ?_)
  · obtain ⟨r, a, l, i, n, rfl, _⟩ := h
    rfl
  · obtain ⟨r, a, l, i, n, rfl, ⟨dx, h1⟩, hS, hz, hn, k⟩ := h
    refine ⟨_, pss_cons (ps_set (i := 1) scRo.nd rfl (Or.inl rfl) (pe_meth0 (pv 0) T.cl mN GN hr bN .nil pass0))
      (pss_cons (ps_set (i := 2) scRo.nd rfl (Or.inl rfl) (pe_fld (pv 0) rfl))
      (pss_cons (ps_fldaug (pv 0) (pv 1) in_add)
      (pss_one (ps_ret (pe_slice sl_list (pe_fld (pv 0) rfl) (po_some (pv 2)) (po_some (pe_fld (pv 0) rfl))))))), ?_⟩
    refine ⟨_, rfl, r, dx, _, rfl, h1, rF_no a i (by decide +kernel) (by decide +kernel), r, a, l, i, _, rfl, ⟨dx, h1⟩, hS, hz, fun H1 ⟨dx1, R1⟩ k1 => ?_⟩
    have hS1 : SqL K H1 a (zs l) := k1.seq h1 hS
    refine ⟨_, rfl, r, C, dx1, _, _, rfl, R1, T.cl, T.nA, rF_at a (i + 1), ?_⟩
    refine ⟨_, rfl, r, C, dx1, _, _, rfl, R1, T.cl, T.nA, rF_at a (i + 1), _, rfl, _, _, rfl, rfl, dx1, _, R1, (by show 2 < 1000; decide), ?_⟩
    have e2 : putF "at" (V.int (((i + 1 : Nat) : Int) + (n : Int))) (rF a (i + 1)) = rF a (i + 1 + n) := rF_put a (i + 1) (i + 1 + n) _ (by omega)
    rw [e2]
    have R2 : (upd H1 r (.ins C dx1 (rF a (i + 1 + n)))) r = some (.ins C dx1 (rF a (i + 1 + n))) := upd_same
    have k2 : But r H (upd H1 r (.ins C dx1 (rF a (i + 1 + n)))) := k1.trans But.upd
    refine ⟨_, rfl, r, C, dx1, _, _, rfl, R2, T.cl, T.nC, rF_calls a (i + 1 + n), _, rfl, _, rfl, _, rfl, r, C, dx1, _, _, rfl, R2, T.cl, T.nA, rF_at a (i + 1 + n), _, rfl, a, _, rfl, k2.seq h1 hS, fun p hp => ?_⟩
    have hrp : r ≠ p := ne_of_none R2 hp
    refine k _ p ⟨dx1, ?_⟩ (fun q o hq hne => ?_) ?_ ?_
    · rw [upd_ne hrp]; exact R2
    · have h3 := k2 q o hq hne
      rw [upd_ne (ne_of_none h3 hp)]
      exact h3
    · cases e : H p with
      | none => rfl
      | some o =>
        by_cases c : p = r
        · exact absurd c.symm hrp
        · rw [k2 p o e c] at hp
          cases hp
    · rw [upd_same, cut_zs hn]
end
end CB
namespace CB
open PySem PySem.Spec PyProof.Rows L2
open PySem.W (Codec)
open Uw42 (Box Ans)
/-! The box in the heap. -/
def bF (n : Nat) (lc lw : Addr) : List (Str × V) := [("places", .int (n : Int)), ("cams", .ref lc), ("wished", .ref lw)]
theorem bF_places (n : Nat) (lc lw : Addr) : (bF n lc lw).lookup ("places" : Str) = some (.int (n : Int)) := lk_here
theorem bF_cams (n : Nat) (lc lw : Addr) : (bF n lc lw).lookup ("cams" : Str) = some (.ref lc) := (lk_past (by decide +kernel)).trans lk_here
theorem bF_wished (n : Nat) (lc lw : Addr) : (bF n lc lw).lookup ("wished" : Str) = some (.ref lw) := (lk_past (by decide +kernel)).trans ((lk_past (by decide +kernel)).trans lk_here)
theorem bF_no (n : Nat) (lc lw : Addr) {m : Str} (h1 : (m == ("places" : Str)) = false) (h2 : (m == ("cams" : Str)) = false) (h3 : (m == ("wished" : Str)) = false) : (bF n lc lw).lookup m = none := (lk_past h1).trans ((lk_past h2).trans ((lk_past h3).trans rfl))
theorem bF_putP (n m : Nat) (lc lw : Addr) : putF "places" (.int (m : Int)) (bF n lc lw) = bF m lc lw := put_here
theorem bF_putC (n : Nat) (lc lw x : Addr) : putF "cams" (.ref x) (bF n lc lw) = bF n x lw := (put_past (by decide +kernel)).trans (congrArg _ put_here)
theorem bF_putW (n : Nat) (lc lw x : Addr) : putF "wished" (.ref x) (bF n lc lw) = bF n lc x := (put_past (by decide +kernel)).trans (congrArg _ ((put_past (by decide +kernel)).trans (congrArg _ put_here)))
theorem bF_new (n : Nat) (lc lw : Addr) : putF "wished" (.ref lw) (putF "cams" (.ref lc) (putF "places" (.int (n : Int)) [])) = bF n lc lw := by
  have e1 : putF "cams" (.ref lc) (putF "places" (.int (n : Int)) []) = [(("places" : Str), V.int (n : Int)), (("cams" : Str), V.ref lc)] := (put_past (by decide +kernel)).trans rfl
  rw [e1]
  exact (put_past (by decide +kernel)).trans (congrArg _ ((put_past (by decide +kernel)).trans rfl))
structure BoxAt (C : Addr) (H : Hp) (b : Addr) (s : Box) (lc lw : Addr) (cas : List Addr) : Prop where
  obj : ∃ dx, H b = some (.ins C dx (bF s.places lc lw))
  cl : H lc = some (.lst (cas.map V.ref))
  wl : H lw = some (.lst (nats s.wish))
  len : cas.length = s.cams.length
  cams : ∀ (i : Nat) (ca : Addr), cas[i]? = some ca → ∃ c, s.cams[i]? = some c ∧ H ca = some (.lst (nats c))
  sepw : lc ≠ lw
  sepc : lc ∉ cas
theorem BoxAt.keep {C : Addr} {H H' : Hp} {b : Addr} {s : Box} {lc lw : Addr} {cas : List Addr} (B : BoxAt C H b s lc lw cas) (k : ∀ q o, H q = some o → q = b ∨ q ∈ lc :: lw :: cas → H' q = some o) : BoxAt C H' b s lc lw cas := by
  obtain ⟨dx, hb⟩ := B.obj
  refine ⟨⟨dx, k _ _ hb (.inl rfl)⟩, k _ _ B.cl (.inr (List.mem_cons_self ..)), k _ _ B.wl (.inr (List.mem_cons_of_mem _ (List.mem_cons_self ..))), B.len, fun i ca h => ?_, B.sepw, B.sepc⟩
  obtain ⟨c, h1, h2⟩ := B.cams i ca h
  exact ⟨c, h1, k _ _ h2 (.inr (List.mem_cons_of_mem _ (List.mem_cons_of_mem _ (List.mem_of_getElem? h))))⟩
/-- what a method of the box leaves: a new list of what is answered, the box as it is then; what else was tracked stands; more: what was handed in and may be the box's from now on -/
def BoxPost (C : Addr) (H : Hp) (b lc lw : Addr) (cas more : List Addr) (r : Box × Ans) (Q : VK) : Prop := ∀ (H' : Hp) (p lc' lw' : Addr) (cas' : List Addr), BoxAt C H' b r.1 lc' lw' cas' → H p = none → H' p = some (.lst (zs (ansL r.2))) →
  (∀ q ∈ lc' :: lw' :: cas', q ∈ lc :: lw :: (cas ++ more) ∨ H q = none) → (∀ q o, H q = some o → q ≠ b → q ≠ lc → H' q = some o) → Q (.ref p) H'
def spBoxInit (C : Addr) : Sp := fun vs H Q _ => ∃ (b dx : Addr), vs = [.ref b] ∧ H b = some (.ins C dx []) ∧ ∀ (H' : Hp) (lc lw : Addr), BoxAt C H' b Uw42.init lc lw [] → H lc = none → H lw = none → But b H H' → Q .non H'
def spBegins (C : Addr) : Sp := fun vs H Q _ => ∃ (b lc lw : Addr) (cas : List Addr) (s : Box) (n : Nat), vs = [.ref b, .int (n : Int)] ∧ BoxAt C H b s lc lw cas ∧ BoxPost C H b lc lw cas [] (Uw42.step s (.begins n)) Q
def spCam (C : Addr) : Sp := fun vs H Q _ => ∃ (b h lc lw : Addr) (cas : List Addr) (s : Box) (l : List Nat), vs = [.ref b, .ref h] ∧ BoxAt C H b s lc lw cas ∧ Good s ∧ H h = some (.lst (nats l)) ∧ h ≠ lc ∧ BoxPost C H b lc lw cas [h] (Uw42.step s (.cam l)) Q
def spWish (C : Addr) : Sp := fun vs H Q _ => ∃ (b h lc lw : Addr) (cas : List Addr) (s : Box) (l : List Nat), vs = [.ref b, .ref h] ∧ BoxAt C H b s lc lw cas ∧ Good s ∧ H h = some (.lst (nats l)) ∧ h ≠ lc ∧ BoxPost C H b lc lw cas [h] (Uw42.step s (.wish l)) Q
/-- what the top has written -/
structure TxtB (K : PySem.W.Frag) (mg : Str → Option Value) (C : Addr) : Prop where
  cl : Cls K C
  nP : NoAttr K C "places"
  nC : NoAttr K C "cams"
  nW : NoAttr K C "wished"
  len : mg "len" = none
  gWrong : ∃ t, mg "WRONG" = some (.int (-1) t)
  gFull : ∃ t, mg "FULL" = some (.int (-5) t)
  gFirst : ∃ t, mg "FIRST_PLACES" = some (.int 2 t)
  gFewest : ∃ t, mg "FEWEST_PLACES" = some (.int 2 t)
  gMost : ∃ t, mg "MOST_PLACES" = some (.int 8 t)
  gCams : ∃ t, mg "MOST_CAMS" = some (.int 4 t)
  gHigh : ∃ t, mg "HIGHEST_OF_CAM" = some (.int 100 t)
  gWish : ∃ t, mg "HIGHEST_WISHED" = some (.int 400 t)
theorem rep0 (n : Nat) : (List.replicate ((n : Int)).toNat ([V.int 0] : List V)).flatten = nats (List.replicate n 0) := by
  rw [Int.toNat_natCast]
  unfold nats
  rw [List.map_replicate]
  induction n with
  | zero => rfl
  | succ n ih => rw [List.replicate_succ, List.flatten_cons, ih, List.replicate_succ]; rfl
section
variable {P : Program} {w : World} {K : PySem.W.Frag} {mg : Str → Option Value} {base : Heap}
theorem scBI : FnScope ["self"] ["self"] (defScope sBoxInit) := ⟨rfl, rfl, rfl, by decide +kernel, rfl, by decide +kernel, by decide +kernel⟩
theorem ok_boxInit {f C : Addr} {fd : FuncData} (F : Fun K "__init__" "Box.__init__" sBoxInit f fd) (T : TxtB K mg C) : FnOk P w K mg base CX0 1 f fd ["self"] (spBoxInit C) := by
  refine F.ok scBI (fun vs H Q E h => ?_) (fun cdv A outer s H vs Q E hr h => ?_)
  · obtain ⟨b, dx, rfl, _⟩ := h
    rfl
  · obtain ⟨b, dx, rfl, hp, k⟩ := h
    obtain ⟨t1, g1⟩ := T.gFirst
    refine ⟨_, pss_cons (ps_fld (pv 0) (pe_glob (v := .int 2) rfl g1 ⟨_, rfl⟩) rfl) (pss_cons (ps_fld (pv 0) (pe_lst pa_nil) rfl) (pss_one (ps_fld (pv 0) (pe_op op_rep (pe_lst (pa_cons pe_int pa_nil)) (pe_glob (v := .int 2) rfl g1 ⟨_, rfl⟩)) rfl))), ?_⟩
    refine ⟨_, rfl, b, C, dx, [], rfl, hp, T.cl, T.nP, (by show 0 < 1000; decide), ?_⟩
    refine ⟨Nat.zero_le _, fun lc hlc => ?_⟩
    have hb0 : (upd H b (.ins C dx (putF "places" (.int 2) []))) b = some (.ins C dx (putF "places" (.int 2) [])) := upd_same
    have hb1 : (upd (upd H b (.ins C dx (putF "places" (.int 2) []))) lc (.lst [])) b = some (.ins C dx (putF "places" (.int 2) [])) := by
      rw [upd_ne (ne_of_none hb0 hlc)]; exact hb0
    have nlb : lc ≠ b := fun e => by rw [e, hb0] at hlc; cases hlc
    refine ⟨_, rfl, b, C, dx, _, rfl, hb1, T.cl, T.nC, (by show 1 < 1000; decide), ?_⟩
    refine ⟨(by show 1 ≤ sizeLine; decide), fun l0 hl0 => ⟨l0, _, _, rfl, rfl, upd_same, by decide, by decide, by decide, fun lw hlw => ?_⟩⟩
    generalize hH3 : upd (upd (upd H b (.ins C dx (putF "places" (.int 2) []))) lc (.lst [])) b (.ins C dx (putF "cams" (.ref lc) (putF "places" (.int 2) []))) = H3 at hl0 hlw ⊢
    have hb3 : H3 b = some (.ins C dx (putF "cams" (.ref lc) (putF "places" (.int 2) []))) := by rw [← hH3]; exact upd_same
    have hl3 : H3 lc = some (.lst []) := by rw [← hH3, upd_ne nlb, upd_same]
    have k3 : But b H H3 := fun q o hq hne => by
      rw [← hH3, upd_ne hne, upd_ne, upd_ne hne]
      · exact hq
      · intro e
        rw [e] at hq hne
        rw [upd_ne hne, hq] at hlc
        cases hlc
    generalize hH4 : upd H3 l0 (.lst [V.int 0]) = H4 at hlw ⊢
    have k4 : ∀ q o, H3 q = some o → H4 q = some o := fun q o hq => by rw [← hH4, upd_ne (ne_of_none hq hl0)]; exact hq
    rw [show (List.replicate (Int.toNat 2) ([V.int 0] : List V)).flatten = nats (List.replicate 2 0) from rep0 2]
    generalize hH5 : upd H4 lw (.lst (nats (List.replicate 2 0))) = H5
    have k5 : ∀ q o, H4 q = some o → H5 q = some o := fun q o hq => by rw [← hH5, upd_ne (ne_of_none hq hlw)]; exact hq
    have hb5 := k5 _ _ (k4 _ _ hb3)
    have hl5 := k5 _ _ (k4 _ _ hl3)
    have hw5 : H5 lw = some (.lst (nats (List.replicate 2 0))) := by rw [← hH5]; exact upd_same
    refine ⟨_, rfl, b, C, dx, _, rfl, hb5, T.cl, T.nW, (by show 2 < 1000; decide), ?_⟩
    have ncw : lc ≠ lw := ne_of_none (k4 _ _ hl3) hlw
    have nwb : lw ≠ b := fun e => by rw [e, k4 _ _ hb3] at hlw; cases hlw
    refine k _ lc lw ⟨⟨dx, Eq.trans upd_same (congrArg (fun q => some (HO.ins C dx q)) (bF_new 2 lc lw))⟩, ?_, ?_, rfl, fun i ca h => (by simp at h), ncw, by simp⟩ ?_ ?_ ?_
    · rw [upd_ne nlb]; exact hl5
    · rw [upd_ne nwb]; exact hw5
    · rw [upd_ne nlb] at hlc; exact hlc
    · cases e : H lw with
      | none => rfl
      | some o =>
        rw [k4 _ _ (k3 _ _ e nwb)] at hlw
        cases hlw
    · intro q o hq hne
      rw [upd_ne hne]
      exact k5 _ _ (k4 _ _ (k3 _ _ hq hne))
end
end CB
namespace CB
open PySem PySem.Spec PyProof.Rows L2
open PySem.W (Codec)
open Uw42 (Box Ans)
theorem Same.laid {H : Hp} {p : Addr} {o : HO} (h : H p = none) : Same H (upd H p o) := fun q o' hq => by
  rw [upd_ne (ne_of_none hq h)]
  exact hq
theorem But.free {r : Addr} {H H' : Hp} (k : But r H H') {p : Addr} (h : H' p = none) (hne : p ≠ r) : H p = none := by
  cases e : H p with
  | none => rfl
  | some o =>
    rw [k p o e hne] at h
    cases h
theorem But.same {r : Addr} {H H' H'' : Hp} (k : But r H H') (s : Same H' H'') : But r H H'' := fun q o hq hne => s _ _ (k q o hq hne)
/-- the box is as it was: only a new list is answered -/
theorem post_same {C b lc lw : Addr} {cas more : List Addr} {s : Box} {a : Ans} {H : Hp} {Q : VK} (B : BoxAt C H b s lc lw cas) (k : BoxPost C H b lc lw cas more (s, a) Q) {p : Addr} (hp : H p = none) : Q (.ref p) (upd H p (.lst (zs (ansL a)))) := by
  have e : Same H (upd H p (.lst (zs (ansL a)))) := Same.laid hp
  refine k _ p lc lw cas (B.keep fun q o hq _ => e q o hq) hp upd_same (fun q hq => .inl ?_) fun q o hq _ _ => e q o hq
  simp at hq ⊢
  rcases hq with h | h | h
  · exact .inl h
  · exact .inr (.inl h)
  · exact .inr (.inr (.inl h))
section
variable {P : Program} {w : World} {K : PySem.W.Frag} {mg : Str → Option Value} {base : Heap}
theorem scBe : FnScope ["self", "places"] ["self", "places"] (defScope sBegins) := ⟨rfl, rfl, rfl, by decide +kernel, rfl, by decide +kernel, by decide +kernel⟩
theorem ok_begins {f C : Addr} {fd : FuncData} (F : Fun K "begins" "Box.begins" sBegins f fd) (T : TxtB K mg C) : FnOk P w K mg base CX0 1 f fd ["self", "places"] (spBegins C) := by
  refine F.ok scBe (fun vs H Q E h => ?_) (fun cdv A outer s H vs Q E hr h => ?_)
  · obtain ⟨b, lc, lw, cas, s, n, rfl, _⟩ := h
    rfl
  · obtain ⟨b, lc, lw, cas, s, n, rfl, B, k⟩ := h
    obtain ⟨t1, g1⟩ := T.gFewest
    obtain ⟨t2, g2⟩ := T.gMost
    obtain ⟨t3, g3⟩ := T.gWrong
    refine ⟨_, pss_cons (ps_if (PW.pt (pw_or (pt_cmpR op_lt (pv 1) (pe_glob (v := .int 2) rfl g1 ⟨_, rfl⟩) (nomark _)) (pw_or1 (pt_cmpR op_gt (pv 1) (pe_glob (v := .int 8) rfl g2 ⟨_, rfl⟩) (nomark _)))))
        (pss_one (ps_ret (pe_lst (pa_cons (pe_glob (v := .int (-1)) rfl g3 ⟨_, rfl⟩) pa_nil)))) pss_nil)
      (pss_cons (ps_fld (pv 0) (pv 1) rfl) (pss_cons (ps_fld (pv 0) (pe_lst pa_nil) rfl) (pss_cons (ps_fld (pv 0) (pe_op op_rep (pe_lst (pa_cons pe_int pa_nil)) (pv 1)) rfl)
      (pss_one (ps_ret (pe_lst (pa_cons pe_int pa_nil))))))), ?_⟩
    have wrong : ¬ (2 ≤ n ∧ n ≤ 8) → Uw42.step s (.begins n) = (s, Uw42.ok (-1)) := fun h => by
      unfold Uw42.step
      exact if_pos (show n < 2 ∨ 8 < n by omega)
    refine ⟨_, rfl, _, _, rfl, rfl, _, rfl, ?_⟩
    refine ite2 (fun c => ?_) (fun c => ?_)
    · have c : (n : Int) < 2 := by simpa using c
      refine ⟨by show 1 ≤ sizeLine; decide, fun p hp => ?_⟩
      rw [wrong (by omega)] at k
      exact post_same B k hp
    have c : ¬ (n : Int) < 2 := by simpa using c
    refine ⟨_, rfl, _, _, rfl, rfl, _, rfl, ?_⟩
    refine ite2 (fun c2 => ?_) (fun c2 => ?_)
    · have c2 : (8 : Int) < n := by simpa using c2
      refine ⟨by show 1 ≤ sizeLine; decide, fun p hp => ?_⟩
      rw [wrong (by omega)] at k
      exact post_same B k hp
    have c2 : ¬ (8 : Int) < n := by simpa using c2
    have right : Uw42.step s (.begins n) = (⟨n, [], List.replicate n 0⟩, Uw42.ok 0) := by
      unfold Uw42.step
      exact if_neg (show ¬ (n < 2 ∨ 8 < n) by omega)
    rw [right] at k
    obtain ⟨dx, hb⟩ := B.obj
    refine ⟨_, rfl, _, rfl, b, C, dx, _, rfl, hb, T.cl, T.nP, (by show 3 < 1000; decide), ?_⟩
    rw [bF_putP]
    generalize hH1 : upd H b (.ins C dx (bF n lc lw)) = H1
    have hb1 : H1 b = some (.ins C dx (bF n lc lw)) := by rw [← hH1]; exact upd_same
    have k1 : But b H H1 := by rw [← hH1]; exact But.upd
    refine ⟨Nat.zero_le _, fun lc' hlc => ?_⟩
    have nlb : lc' ≠ b := fun e => by rw [e, hb1] at hlc; cases hlc
    generalize hH2 : upd H1 lc' (.lst []) = H2
    have k2 : Same H1 H2 := by rw [← hH2]; exact Same.laid hlc
    refine ⟨_, rfl, b, C, dx, _, rfl, k2 _ _ hb1, T.cl, T.nC, (by show 3 < 1000; decide), ?_⟩
    rw [bF_putC]
    generalize hH3 : upd H2 b (.ins C dx (bF n lc' lw)) = H3
    have hb3 : H3 b = some (.ins C dx (bF n lc' lw)) := by rw [← hH3]; exact upd_same
    have k3 : But b H2 H3 := by rw [← hH3]; exact But.upd
    have hl3 : H3 lc' = some (.lst []) := k3 _ _ (by rw [← hH2]; exact upd_same) nlb
    refine ⟨(by show 1 ≤ sizeLine; decide), fun l0 hl0 => ⟨_, rfl, l0, _, _, rfl, rfl, upd_same, by omega, by omega, ?_, fun lw' hlw => ?_⟩⟩
    · show 1 * ((n : Int)).toNat ≤ sizeLine
      have : (8 : Nat) ≤ sizeLine := by decide
      omega
    rw [rep0 n]
    generalize hH4 : upd H3 l0 (.lst [V.int 0]) = H4 at hlw ⊢
    have k4 : Same H3 H4 := by rw [← hH4]; exact Same.laid hl0
    generalize hH5 : upd H4 lw' (.lst (nats (List.replicate n 0))) = H5
    have k5 : Same H4 H5 := by rw [← hH5]; exact Same.laid hlw
    have hw5 : H5 lw' = some (.lst (nats (List.replicate n 0))) := by rw [← hH5]; exact upd_same
    have nwb : lw' ≠ b := fun e => by rw [e, k4 _ _ hb3] at hlw; cases hlw
    have nlw : lc' ≠ lw' := ne_of_none (k4 _ _ hl3) hlw
    refine ⟨_, rfl, b, C, dx, _, rfl, k5 _ _ (k4 _ _ hb3), T.cl, T.nW, (by show 3 < 1000; decide), ?_⟩
    rw [bF_putW]
    generalize hH6 : upd H5 b (.ins C dx (bF n lc' lw')) = H6
    have hb6 : H6 b = some (.ins C dx (bF n lc' lw')) := by rw [← hH6]; exact upd_same
    have k6 : But b H5 H6 := by rw [← hH6]; exact But.upd
    refine ⟨by show 1 ≤ sizeLine; decide, fun p hp => ?_⟩
    have kk : But b H H6 := (((k1.same k2).trans k3).same k4).same k5 |>.trans k6
    have npb : p ≠ b := fun e => by rw [e, hb6] at hp; cases hp
    have k7 : Same H6 (upd H6 p (.lst [V.int 0])) := Same.laid hp
    refine k _ p lc' lw' [] ?_ (kk.free hp npb) upd_same (fun q hq => .inr ?_) (fun q o hq hne _ => k7 _ _ (kk q o hq hne))
    · exact ⟨⟨dx, k7 _ _ hb6⟩, k7 _ _ (k6 _ _ (k5 _ _ (k4 _ _ hl3)) nlb), k7 _ _ (k6 _ _ hw5 nwb), rfl, fun i ca h => (by simp at h), nlw, by simp⟩
    · simp at hq
      rcases hq with rfl | rfl
      · exact k1.free hlc nlb
      · exact ((k1.same k2).trans k3 |>.same k4).free hlw nwb
end
end CB
namespace CB
open PySem PySem.Spec PyProof.Rows L2
open PySem.W (Codec)
open Uw42 (Box Ans)
theorem mot_fine (s : Box) (h : Nat) (l : List Nat) : mot l s.places h = Uw42.fine s h l := rfl
theorem len_eq_int (a b : Nat) : decide (V.int (a : Int) = V.int (b : Int)) = decide (a = b) := by
  by_cases c : a = b
  · subst c; simp
  · have : ¬ (V.int (a : Int) = V.int (b : Int)) := by intro h; injection h with h; omega
    simp [this, c]
section
variable {P : Program} {w : World} {K : PySem.W.Frag} {mg : Str → Option Value} {base : Heap}
theorem scCa : FnScope ["self", "heights"] ["self", "heights"] (defScope sCam) := ⟨rfl, rfl, rfl, by decide +kernel, rfl, by decide +kernel, by decide +kernel⟩
theorem ok_cam {f fM C : Addr} {fd fdM : FuncData} (F : Fun K "cam" "Box.cam" sCam f fd) (T : TxtB K mg C) (FM : Fun K "is_row" "is_row" sIsMotion fM fdM) (bM : Binds K fdM ["numbers", "length", "highest"] []) (gM : mg "is_row" = some (.ref fM)) :
    FnOk P w K mg base CX0 2 f fd ["self", "heights"] (spCam C) := by
  have GM : FnOk P w K mg base CX0 1 fM fdM ["numbers", "length", "highest"] (spIsMotion K) := ok_isMotion FM T.len
  refine F.ok scCa (fun vs H Q E h => ?_) (fun cdv A outer s H vs Q E hr h => ?_)
  · obtain ⟨b, ha, lc, lw, cas, s, l, rfl, _⟩ := h
    rfl
  · obtain ⟨b, ha, lc, lw, cas, s, l, rfl, B, G, hh, hne, k⟩ := h
    obtain ⟨t1, g1⟩ := T.gWrong
    obtain ⟨t2, g2⟩ := T.gFull
    obtain ⟨t3, g3⟩ := T.gHigh
    obtain ⟨t4, g4⟩ := T.gCams
    obtain ⟨dx, hb⟩ := B.obj
    refine ⟨_, pss_cons (ps_if (pt_not (pt_val (pe_call GM hr rfl gM FM.kp bM .nil pass0 (pa_cons (pv 1) (pa_cons (pe_fld (pv 0) rfl) (pa_cons (pe_glob (v := .int 100) rfl g3 ⟨_, rfl⟩) pa_nil))))))
        (pss_one (ps_ret (pe_lst (pa_cons (pe_glob (v := .int (-1)) rfl g1 ⟨_, rfl⟩) pa_nil)))) pss_nil)
      (pss_cons (ps_if (pt_cmpR op_eq (pe_callB call_len_seq (by rfl) T.len PySem.boot_len (pa_cons (pe_fld (pv 0) rfl) pa_nil)) (pe_glob (v := .int 4) rfl g4 ⟨_, rfl⟩) (nomark _))
        (pss_one (ps_ret (pe_lst (pa_cons (pe_glob (v := .int (-5)) rfl g2 ⟨_, rfl⟩) pa_nil)))) pss_nil)
      (pss_cons (ps_expr (pe_bm PySem.F.plainAttrs_list PySem.F.slot_list_append PySem.F.type_list_append mt_append (pe_fld (pv 0) rfl) (pa_cons (pv 1) pa_nil)))
      (pss_one (ps_ret (pe_lst (pa_cons (pe_op op_sub (pe_callB call_len_seq (by rfl) T.len PySem.boot_len (pa_cons (pe_fld (pv 0) rfl) pa_nil)) pe_int) pa_nil)))))), ?_⟩
    refine ⟨_, rfl, _, rfl, b, C, dx, _, _, rfl, hb, T.cl, T.nP, bF_places _ _ _, ha, l, s.places, 100, rfl, SqL.of hh, _, rfl, ?_⟩
    rw [mot_fine]
    refine ite2 (fun c => ?_) (fun c => ?_)
    · have c : Uw42.fine s Uw42.HIGH l = false := (by simpa using c : Uw42.fine s 100 l = false)
      have e : Uw42.step s (.cam l) = (s, Uw42.ok (-1)) := by
        unfold Uw42.step
        exact if_pos c
      rw [e] at k
      exact ⟨by show 1 ≤ sizeLine; decide, fun p hp => post_same B k hp⟩
    have c : ¬ Uw42.fine s Uw42.HIGH l = false := (by simpa using c : ¬ Uw42.fine s 100 l = false)
    refine ⟨_, rfl, b, C, dx, _, _, rfl, hb, T.cl, T.nC, bF_cams _ _ _, lc, _, rfl, .inl (SqL.of B.cl), rfl, _, rfl, ?_⟩
    rw [List.length_map, show (V.int 4) = V.int ((4 : Nat) : Int) from rfl, len_eq_int]
    refine ite2 (fun c2 => ?_) (fun c2 => ?_)
    · have c2 : cas.length = 4 := by simpa using c2
      have e : Uw42.step s (.cam l) = (s, Uw42.ok (-5)) := by
        unfold Uw42.step
        exact (if_neg c).trans (if_pos (show 4 ≤ s.cams.length by rw [← B.len]; omega))
      rw [e] at k
      exact ⟨by show 1 ≤ sizeLine; decide, fun p hp => post_same B k hp⟩
    have c2 : ¬ cas.length = 4 := by simpa using c2
    have few := G.few
    rw [← B.len] at few
    have e : Uw42.step s (.cam l) = ({ s with cams := s.cams ++ [l] }, Uw42.ok (s.cams.length : Nat)) := by
      unfold Uw42.step
      exact (if_neg c).trans (if_neg (show ¬ 4 ≤ s.cams.length by rw [← B.len]; omega))
    rw [e] at k
    have nlb : lc ≠ b := ne_of B.cl hb (by intro q; cases q)
    refine ⟨_, rfl, b, C, dx, _, _, rfl, hb, T.cl, T.nC, bF_cams _ _ _, .inl ⟨rfl, _, SqL.of B.cl⟩, _, rfl, lc, _, _, rfl, rfl, B.cl, (by rw [List.length_map]; exact Nat.lt_of_le_of_lt few (by decide)), ?_⟩
    generalize hH1 : upd H lc (.lst (cas.map V.ref ++ [V.ref ha])) = H1
    have hl1 : H1 lc = some (.lst ((cas ++ [ha]).map V.ref)) := by rw [← hH1, upd_same, List.map_append]; rfl
    have k1 : But lc H H1 := by rw [← hH1]; exact But.upd
    have hb1 := k1 _ _ hb (fun q => nlb q.symm)
    refine ⟨_, rfl, b, C, dx, _, _, rfl, hb1, T.cl, T.nC, bF_cams _ _ _, lc, _, rfl, .inl (SqL.of hl1), _, _, rfl, rfl, ?_⟩
    refine ⟨by show 1 ≤ sizeLine; decide, fun p hp => ?_⟩
    have ev : (((((cas ++ [ha]).map V.ref).length : Nat) : Int) - 1) = ((s.cams.length : Nat) : Int) := by
      rw [List.length_map, List.length_append, List.length_singleton, ← B.len]
      omega
    show Q (V.ref p) (upd H1 p (.lst [V.int ((((cas ++ [ha]).map V.ref).length : Nat) - 1 : Int)]))
    rw [ev]
    have k2 : Same H1 (upd H1 p (.lst [V.int ((s.cams.length : Nat) : Int)])) := Same.laid hp
    have npl : p ≠ lc := fun q => by rw [q, hl1] at hp; cases hp
    refine k _ p lc lw (cas ++ [ha]) ?_ (k1.free hp npl) upd_same (fun q hq => .inl hq) (fun q o hq _ hne => k2 _ _ (k1 _ _ hq hne))
    refine ⟨⟨dx, k2 _ _ hb1⟩, k2 _ _ hl1, k2 _ _ (k1 _ _ B.wl B.sepw.symm), ?_, fun i ca hi => ?_, B.sepw, ?_⟩
    · show (cas ++ [ha]).length = (s.cams ++ [l]).length
      rw [List.length_append, List.length_append, B.len]
      rfl
    · rcases Nat.lt_trichotomy i cas.length with hlt | heq | hgt
      · rw [List.getElem?_append_left hlt] at hi
        obtain ⟨c', h1, h2⟩ := B.cams i ca hi
        refine ⟨c', ?_, k2 _ _ (k1 _ _ h2 fun q => B.sepc (by rw [← q]; exact List.mem_of_getElem? hi))⟩
        show (s.cams ++ [l])[i]? = some c'
        rw [List.getElem?_append_left (by rw [← B.len]; exact hlt)]
        exact h1
      · subst heq
        rw [List.getElem?_append_right (Nat.le_refl _), Nat.sub_self] at hi
        have : ha = ca := Option.some.inj hi
        subst this
        refine ⟨l, ?_, k2 _ _ (k1 _ _ hh hne)⟩
        show (s.cams ++ [l])[cas.length]? = some l
        rw [B.len, List.getElem?_append_right (Nat.le_refl _), Nat.sub_self]
        rfl
      · rw [List.getElem?_append_right (by omega)] at hi
        rw [List.getElem?_eq_none (by rw [List.length_singleton]; omega)] at hi
        cases hi
    · intro q
      rcases List.mem_append.mp q with q | q
      · exact B.sepc q
      · exact hne (List.mem_singleton.mp q).symm
theorem scWi : FnScope ["self", "heights"] ["self", "heights"] (defScope sWish) := ⟨rfl, rfl, rfl, by decide +kernel, rfl, by decide +kernel, by decide +kernel⟩
theorem ok_wish {f fM C : Addr} {fd fdM : FuncData} (F : Fun K "wish" "Box.wish" sWish f fd) (T : TxtB K mg C) (FM : Fun K "is_row" "is_row" sIsMotion fM fdM) (bM : Binds K fdM ["numbers", "length", "highest"] []) (gM : mg "is_row" = some (.ref fM)) :
    FnOk P w K mg base CX0 2 f fd ["self", "heights"] (spWish C) := by
  have GM : FnOk P w K mg base CX0 1 fM fdM ["numbers", "length", "highest"] (spIsMotion K) := ok_isMotion FM T.len
  refine F.ok scWi (fun vs H Q E h => ?_) (fun cdv A outer s H vs Q E hr h => ?_)
  · obtain ⟨b, ha, lc, lw, cas, s, l, rfl, _⟩ := h
    rfl
  · obtain ⟨b, ha, lc, lw, cas, s, l, rfl, B, G, hh, hne, k⟩ := h
    obtain ⟨t1, g1⟩ := T.gWrong
    obtain ⟨t3, g3⟩ := T.gWish
    obtain ⟨dx, hb⟩ := B.obj
    refine ⟨_, pss_cons (ps_if (pt_not (pt_val (pe_call GM hr rfl gM FM.kp bM .nil pass0 (pa_cons (pv 1) (pa_cons (pe_fld (pv 0) rfl) (pa_cons (pe_glob (v := .int 400) rfl g3 ⟨_, rfl⟩) pa_nil))))))
        (pss_one (ps_ret (pe_lst (pa_cons (pe_glob (v := .int (-1)) rfl g1 ⟨_, rfl⟩) pa_nil)))) pss_nil)
      (pss_cons (ps_fld (pv 0) (pv 1) rfl)
      (pss_one (ps_ret (pe_lst (pa_cons pe_int pa_nil))))), ?_⟩
    refine ⟨_, rfl, _, rfl, b, C, dx, _, _, rfl, hb, T.cl, T.nP, bF_places _ _ _, ha, l, s.places, 400, rfl, SqL.of hh, _, rfl, ?_⟩
    rw [mot_fine]
    refine ite2 (fun c => ?_) (fun c => ?_)
    · have c : Uw42.fine s (Uw42.CAMS * Uw42.HIGH) l = false := (by simpa using c : Uw42.fine s 400 l = false)
      have e : Uw42.step s (.wish l) = (s, Uw42.ok (-1)) := by
        unfold Uw42.step
        exact if_pos c
      rw [e] at k
      exact ⟨by show 1 ≤ sizeLine; decide, fun p hp => post_same B k hp⟩
    have c : ¬ Uw42.fine s (Uw42.CAMS * Uw42.HIGH) l = false := (by simpa using c : ¬ Uw42.fine s 400 l = false)
    have e : Uw42.step s (.wish l) = ({ s with wish := l }, Uw42.ok 0) := by
      unfold Uw42.step
      exact if_neg c
    rw [e] at k
    refine ⟨_, rfl, _, rfl, b, C, dx, _, rfl, hb, T.cl, T.nW, (by show 3 < 1000; decide), ?_⟩
    rw [bF_putW]
    generalize hH1 : upd H b (.ins C dx (bF s.places lc ha)) = H1
    have hb1 : H1 b = some (.ins C dx (bF s.places lc ha)) := by rw [← hH1]; exact upd_same
    have k1 : But b H H1 := by rw [← hH1]; exact But.upd
    refine ⟨by show 1 ≤ sizeLine; decide, fun p hp => ?_⟩
    have k2 : Same H1 (upd H1 p (.lst [V.int 0])) := Same.laid hp
    have npb : p ≠ b := fun q => by rw [q, hb1] at hp; cases hp
    have nl : ∀ {q : Addr} {xs : List V}, H q = some (.lst xs) → q ≠ b := fun h1 => ne_of h1 hb (by intro q; cases q)
    refine k _ p lc ha cas ?_ (k1.free hp npb) upd_same (fun q hq => .inl ?_) (fun q o hq hne _ => k2 _ _ (k1 _ _ hq hne))
    · refine ⟨⟨dx, k2 _ _ hb1⟩, k2 _ _ (k1 _ _ B.cl (nl B.cl)), k2 _ _ (k1 _ _ hh (nl hh)), B.len, fun i ca hi => ?_, hne.symm, B.sepc⟩
      obtain ⟨c', h1, h2⟩ := B.cams i ca hi
      exact ⟨c', h1, k2 _ _ (k1 _ _ h2 (nl h2))⟩
    · simp at hq ⊢
      rcases hq with h | h | h
      · exact .inl h
      · exact .inr (.inr (.inr h))
      · exact .inr (.inr (.inl h))
end
end CB
namespace CB
open PySem PySem.Spec PyProof.Rows L2
open PySem.W (Codec)
/-! The small defs: turned, together, gaps_of, off_in_all, off_at_worst, cams_on. -/
/-- a new list is answered; what stood stands -/
def NewL (H : Hp) (xs : List V) (Q : VK) : Prop := ∀ (H' : Hp) (p : Addr), Same H H' → H p = none → H' p = some (.lst xs) → Q (.ref p) H'
def spTurned (K : PySem.W.Frag) : Sp := fun vs H Q _ => ∃ (a : Addr) (xs : List V) (n : Nat), vs = [.ref a, .int (n : Int)] ∧ SqL K H a xs ∧ xs.length ≤ 100 ∧ n ≤ xs.length ∧ NewL H (xs.drop n ++ xs.take n) Q
def spTogether (K : PySem.W.Frag) : Sp := fun vs H Q _ => ∃ (a b : Addr) (x y : List Int), vs = [.ref a, .ref b] ∧ SqL K H a (zs x) ∧ SqL K H b (zs y) ∧ x.length ≤ 100 ∧ x.length = y.length ∧ NewL H (zs (addI x y)) Q
def spGapsOf (K : PySem.W.Frag) : Sp := fun vs H Q _ => ∃ (a b : Addr) (x y : List Nat), vs = [.ref a, .ref b] ∧ SqL K H a (nats x) ∧ SqL K H b (nats y) ∧ x.length ≤ 100 ∧ x.length = y.length ∧ NewL H (zs (gap x y)) Q
theorem zs_get {l : List Int} {i : Nat} {x : V} (h : (zs l)[i]? = some x) : ∃ n, l[i]? = some n ∧ x = V.int n := by
  unfold zs at h
  rw [List.getElem?_map] at h
  cases e : l[i]? with
  | none => rw [e] at h; cases h
  | some n => rw [e] at h; exact ⟨n, rfl, (Option.some.inj h).symm⟩
theorem zipW_snoc {α β γ : Type} {f : α → β → γ} {x : List α} {y : List β} {i : Nat} {a : α} {b : β} (h1 : x[i]? = some a) (h2 : y[i]? = some b) : (x.zipWith f y).take (i + 1) = (x.zipWith f y).take i ++ [f a b] := by
  refine take_snoc ?_
  rw [List.getElem?_zipWith, h1, h2]
theorem zs_snoc (l : List Int) (z : Int) : zs (l ++ [z]) = zs l ++ [V.int z] := List.map_append
/-- a store at what was not tracked at the start -/
theorem _root_.L2.Same.trans_upd {H H' : Hp} {D : Addr} {o : HO} (s : Same H H') (hD : H D = none) : Same H (upd H' D o) := fun q o' hq => by
  rw [upd_ne (ne_of_none hq hD)]
  exact s _ _ hq
theorem cut_from {xs : List V} {n : Nat} (h : n ≤ xs.length) : cutV xs (some (n : Int)) none = xs.drop n := by
  unfold cutV
  rw [HT.sIx_nat, HT.sIx_none, Nat.min_eq_left h]
  exact List.take_of_length_le (by rw [List.length_drop]; omega)
theorem cut_to {xs : List V} {n : Nat} (h : n ≤ xs.length) : cutV xs none (some (n : Int)) = xs.take n := by
  unfold cutV
  rw [HT.sIx_nat, HT.sIx_none, Nat.min_eq_left h]
  rfl
theorem yes_then {σ : L2.St} {H : Hp} {A B : Hp → Prop} (h : A H) : tYes σ H fun b H3 => if b = true then A H3 else B H3 := by
  show if true = true then A H else B H
  exact iteT h
section
variable {P : Program} {w : World} {K : PySem.W.Frag} {mg : Str → Option Value} {base : Heap}
theorem scTu : FnScope ["heights", "by"] ["heights", "by"] (defScope sTurned) := ⟨rfl, rfl, rfl, by decide +kernel, rfl, by decide +kernel, by decide +kernel⟩
theorem ok_turned {f : Addr} {fd : FuncData} (F : Fun K "turned" "turned" sTurned f fd) : FnOk P w K mg base CX0 1 f fd ["heights", "by"] (spTurned K) := by
  refine F.ok scTu (fun vs H Q E h => ?_) (fun cdv A outer s H vs Q E hr h => ?_)
  · obtain ⟨a, xs, n, rfl, _⟩ := h
    rfl
  · obtain ⟨a, xs, n, rfl, hS, h12, hn, k⟩ := h
    refine ⟨_, pss_one (ps_ret (pe_op op_cat (pe_slice sl_list (pv 0) (po_some (pv 1)) po_none) (pe_slice sl_list (pv 0) po_none (po_some (pv 1))))), ?_⟩
    refine ⟨_, rfl, _, rfl, _, rfl, a, _, rfl, hS, fun p1 h1 => ?_⟩
    have s1 : Same H (upd H p1 (.lst (cutV xs (some (n : Int)) none))) := Same.laid h1
    refine ⟨_, rfl, _, rfl, _, rfl, a, _, rfl, s1.seq hS, fun p2 h2 => ?_⟩
    have s2 := Same.laid (o := .lst (cutV xs none (some (n : Int)))) h2
    refine ⟨p1, p2, _, _, rfl, rfl, s2 _ _ upd_same, upd_same, ?_, fun p h3 => ?_⟩
    · rw [cut_from hn, cut_to hn, List.length_drop, List.length_take]
      exact Nat.le_trans (by omega) (show (200 : Nat) ≤ sizeLine by decide)
    · exact k _ p ((s1.trans s2).trans (Same.laid h3)) ((s1.trans s2).free h3) (upd_same.trans (by rw [cut_from hn, cut_to hn]))
theorem scTo : FnScope ["heights", "others", "one", "other"] ["heights", "others"] (defScope sTogether) := ⟨rfl, rfl, rfl, by decide +kernel, rfl, by decide +kernel, by decide +kernel⟩
theorem ok_together {f : Addr} {fd : FuncData} (F : Fun K "together" "together" sTogether f fd) (gZ : mg "zip" = none) : FnOk P w K mg base CX0 1 f fd ["heights", "others"] (spTogether K) := by
  refine F.ok scTo (fun vs H Q E h => ?_) (fun cdv A outer s H vs Q E hr h => ?_)
  · obtain ⟨a, b, x, y, rfl, _⟩ := h
    rfl
  · obtain ⟨a, b, x, y, rfl, hA, hB, h12, hl, k⟩ := h
    refine ⟨_, pss_one (ps_ret (pe_lc (own := [("one", 2), ("other", 3)]) (g := gTup K 2 (gCons (gName 2) (gCons (gName 3) gNil))) (tt := tYes) rfl scTo.nd (pi_zip (by rfl) gZ (pa_cons (pv 0) (pa_cons (pv 1) pa_nil)))
      (blkOk_by (N := ["heights", "others", "one", "other"]) (sc := defScope sTogether) (by decide +kernel))
      (fun _ _ _ _ _ => pg_tup rfl (pgs_cons (pg_name (i := 2) scTo.nd rfl (Or.inl rfl)) (pgs_cons (pg_name (i := 3) scTo.nd rfl (Or.inl rfl)) pgs_nil)))
      (fun _ _ _ _ _ => pts_nil) (fun _ _ _ _ _ => pe_op op_add (pv 2) (pv 3)))), ?_⟩
    refine ⟨_, rfl, _, rfl, a, b, _, _, rfl, hA, hB, fun D hD => ?_⟩
    refine lc_it (walk_zip rfl) (fun i H' => Same H H' ∧ H' D = some (.lst (zs ((addI x y).take i)))) ⟨Same.laid hD, upd_same⟩ (fun i H' _ p => ⟨p.1.seq hA, p.1.seq hB⟩) ?_ ?_
    · rintro i v H1 H2 hi ⟨s1, d1⟩ ⟨T, u, v, rfl, hT, rfl, hu, hv⟩
      obtain ⟨z1, e1, rfl⟩ := zs_get hu
      obtain ⟨z2, e2, rfl⟩ := zs_get hv
      refine ⟨T, _, rfl, SqT.of upd_same, rfl, _, _, rfl, _, _, rfl, rfl, rfl, ?_⟩
      refine yes_then ?_
      refine ⟨_, rfl, _, rfl, _, _, rfl, rfl, ?_⟩
      have s2 := Same.laid (o := .tup [V.int z1, V.int z2]) hT
      have hx := (List.getElem?_eq_some_iff.mp e1).1
      refine ⟨_, s2 _ _ d1, ?_, (s1.trans s2).trans_upd hD, ?_⟩
      · rw [zs_len, List.length_take]
        exact Nat.lt_of_le_of_lt (Nat.min_le_left _ _) (Nat.lt_trans (show i < 101 by omega) (by decide))
      · rw [upd_same]
        unfold addI
        rw [zipW_snoc (f := fun x y => x + y) e1 e2, zs_snoc]
    · rintro H' ⟨s1, d1⟩
      rw [List.take_of_length_le (by rw [addI_len rfl hl.symm, zs_len, zs_len]; omega)] at d1
      exact k _ D s1 hD d1
theorem scGa : FnScope ["motion", "wished", "height", "aim"] ["motion", "wished"] (defScope sGapsOf) := ⟨rfl, rfl, rfl, by decide +kernel, rfl, by decide +kernel, by decide +kernel⟩
theorem ok_gapsOf {f : Addr} {fd : FuncData} (F : Fun K "gaps_of" "gaps_of" sGapsOf f fd) (gZ : mg "zip" = none) : FnOk P w K mg base CX0 1 f fd ["motion", "wished"] (spGapsOf K) := by
  refine F.ok scGa (fun vs H Q E h => ?_) (fun cdv A outer s H vs Q E hr h => ?_)
  · obtain ⟨a, b, x, y, rfl, _⟩ := h
    rfl
  · obtain ⟨a, b, x, y, rfl, hA, hB, h12, hl, k⟩ := h
    refine ⟨_, pss_one (ps_ret (pe_lc (own := [("height", 2), ("aim", 3)]) (g := gTup K 2 (gCons (gName 2) (gCons (gName 3) gNil))) (tt := tYes) rfl scGa.nd (pi_zip (by rfl) gZ (pa_cons (pv 0) (pa_cons (pv 1) pa_nil)))
      (blkOk_by (N := ["motion", "wished", "height", "aim"]) (sc := defScope sGapsOf) (by decide +kernel))
      (fun _ _ _ _ _ => pg_tup rfl (pgs_cons (pg_name (i := 2) scGa.nd rfl (Or.inl rfl)) (pgs_cons (pg_name (i := 3) scGa.nd rfl (Or.inl rfl)) pgs_nil)))
      (fun _ _ _ _ _ => pts_nil) (fun _ _ _ _ _ => pe_op op_sub (pv 2) (pv 3)))), ?_⟩
    refine ⟨_, rfl, _, rfl, a, b, _, _, rfl, hA, hB, fun D hD => ?_⟩
    refine lc_it (walk_zip rfl) (fun i H' => Same H H' ∧ H' D = some (.lst (zs ((gap x y).take i)))) ⟨Same.laid hD, upd_same⟩ (fun i H' _ p => ⟨p.1.seq hA, p.1.seq hB⟩) ?_ ?_
    · rintro i v H1 H2 hi ⟨s1, d1⟩ ⟨T, u, v, rfl, hT, rfl, hu, hv⟩
      obtain ⟨z1, e1, rfl⟩ := nats_at hu
      obtain ⟨z2, e2, rfl⟩ := nats_at hv
      refine ⟨T, _, rfl, SqT.of upd_same, rfl, _, _, rfl, _, _, rfl, rfl, rfl, ?_⟩
      refine yes_then ?_
      refine ⟨_, rfl, _, rfl, _, _, rfl, rfl, ?_⟩
      have s2 := Same.laid (o := .tup [V.int z1, V.int z2]) hT
      have hx := (List.getElem?_eq_some_iff.mp e1).1
      refine ⟨_, s2 _ _ d1, ?_, (s1.trans s2).trans_upd hD, ?_⟩
      · rw [zs_len, List.length_take]
        exact Nat.lt_of_le_of_lt (Nat.min_le_left _ _) (Nat.lt_trans (show i < 101 by omega) (by decide))
      · rw [upd_same]
        unfold gap
        rw [zipW_snoc (f := fun (x y : Nat) => (x : Int) - (y : Int)) e1 e2, zs_snoc]
    · rintro H' ⟨s1, d1⟩
      rw [List.take_of_length_le (by rw [gap_len rfl hl.symm, nats_len, nats_len]; omega)] at d1
      exact k _ D s1 hD d1
/-- [abs(gap) for gap in gaps]; then sum, max -/
def spOffAll (K : PySem.W.Frag) : Sp := fun vs H Q _ => ∃ (a : Addr) (x : List Int), vs = [.ref a] ∧ SqL K H a (zs x) ∧ x.length ≤ 100 ∧ ∀ H' : Hp, Same H H' → Q (.int (x.map absI).sum) H'
def spOffWorst (K : PySem.W.Frag) : Sp := fun vs H Q _ => ∃ (a : Addr) (x : List Int), vs = [.ref a] ∧ SqL K H a (zs x) ∧ x.length ≤ 100 ∧ 0 < x.length ∧ ∀ (H' : Hp) (z : Int), Same H H' → z ∈ x.map absI → (∀ y ∈ x.map absI, y ≤ z) → Q (.int z) H'
theorem scOA : FnScope ["gaps", "gap"] ["gaps"] (defScope sOffAll) := ⟨rfl, rfl, rfl, by decide +kernel, rfl, by decide +kernel, by decide +kernel⟩
theorem abs_lc {a D : Addr} {x : List Int} {H : Hp} {σ : L2.St} {vs : List Nat} {te : TE} {Qd : Hp → Prop} (hA : SqL K H a (zs x)) (h12 : x.length ≤ 100) (hD : H D = none)
    (ht : ∀ (z : Int) (H1 : Hp) (R : VK), R (.int (absI z)) H1 → te ((wipe σ vs).set 1 (some (.int z))) H1 R) (hw : ∀ z : Int, wipe ((wipe σ vs).set 1 (some (.int z))) vs = wipe σ vs) (hd : ∀ H', Same H H' → H' D = some (.lst (zs (x.map absI))) → Qd H') :
    ∃ W : Nat → Nat → Hp → Prop, (∃ m, W 0 m (upd H D (.lst []))) ∧ ∀ i m H, W i m H →
      ((Itl K a).stop i H ∧ Qd H) ∨ ((Itl K a).go i H ∧ ∃ Nx : Hp → Prop, (∀ H', Nx H' → ∃ m', m' < m ∧ W (i + 1) m' H') ∧ ∀ v H', (Itl K a).yld i H v H' → gName 1 v (wipe σ vs) H' fun σ2 H2 => wipe σ2 vs = wipe σ vs ∧ tYes σ2 H2 fun b H3 =>
        if b = true then te σ2 H3 fun y H4 => ∃ acc, H4 D = some (.lst acc) ∧ acc.length < sizeLine ∧ Nx (upd H4 D (.lst (acc ++ [y]))) else Nx H3) := by
  refine lc_list (K := K) (a := a) (xs := zs x) (fun i H' => Same H H' ∧ H' D = some (.lst (zs ((x.map absI).take i)))) ⟨Same.laid hD, upd_same⟩ (fun i H' _ p => p.1.seq hA) ?_ ?_
  · rintro i v H1 hx ⟨s1, d1⟩
    obtain ⟨z, e1, rfl⟩ := zs_get hx
    refine ⟨hw z, ?_⟩
    refine yes_then ?_
    refine ht z H1 _ ?_
    have hi := (List.getElem?_eq_some_iff.mp e1).1
    refine ⟨_, d1, ?_, s1.trans_upd hD, ?_⟩
    · rw [zs_len, List.length_take]
      exact Nat.lt_of_le_of_lt (Nat.min_le_left _ _) (Nat.lt_trans (show i < 101 by omega) (by decide))
    · rw [upd_same, take_snoc (x := absI z) (by rw [List.getElem?_map, e1]; rfl), zs_snoc]
  · rintro H' ⟨s1, d1⟩
    rw [List.take_of_length_le (by rw [List.length_map, zs_len]; omega)] at d1
    exact hd _ s1 d1
theorem ok_offAll {f : Addr} {fd : FuncData} (F : Fun K "off_in_all" "off_in_all" sOffAll f fd) (gS : mg "sum" = none) (gA : mg "abs" = none) : FnOk P w K mg base CX0 1 f fd ["gaps"] (spOffAll K) := by
  refine F.ok scOA (fun vs H Q E h => ?_) (fun cdv A outer s H vs Q E hr h => ?_)
  · obtain ⟨a, x, rfl, _⟩ := h
    rfl
  · obtain ⟨a, x, rfl, hA, h12, k⟩ := h
    refine ⟨_, pss_one (ps_ret (pe_callB (cr_sum rfl) (by rfl) gS (by decide +kernel) (pa_cons (pe_lc (own := [("gap", 1)]) (g := gName 1) (tt := tYes) rfl scOA.nd (pi_list (pv 0))
      (blkOk_by (N := ["gaps", "gap"]) (sc := defScope sOffAll) (by decide +kernel))
      (fun _ _ _ _ _ => pg_name (i := 1) scOA.nd rfl (Or.inl rfl))
      (fun _ _ _ _ _ => pts_nil) (fun _ _ _ _ _ => pe_callB call_abs (by rfl) gA (by decide +kernel) (pa_cons (pv 1) pa_nil))) pa_nil))), ?_⟩
    refine ⟨_, rfl, a, rfl, ⟨_, hA⟩, fun D hD => ?_⟩
    refine abs_lc hA h12 hD (fun z H1 R h => ?_) (fun z => rfl) (fun H' s1 d1 => ?_)
    · exact ⟨_, rfl, _, rfl, h⟩
    · exact ⟨D, _, rfl, SqL.of d1, k _ s1⟩
theorem scOW : FnScope ["gaps", "gap"] ["gaps"] (defScope sOffWorst) := ⟨rfl, rfl, rfl, by decide +kernel, rfl, by decide +kernel, by decide +kernel⟩
theorem ok_offWorst {f : Addr} {fd : FuncData} (F : Fun K "off_at_worst" "off_at_worst" sOffWorst f fd) (gM : mg "max" = none) (gA : mg "abs" = none) : FnOk P w K mg base CX0 1 f fd ["gaps"] (spOffWorst K) := by
  refine F.ok scOW (fun vs H Q E h => ?_) (fun cdv A outer s H vs Q E hr h => ?_)
  · obtain ⟨a, x, rfl, _⟩ := h
    rfl
  · obtain ⟨a, x, rfl, hA, h12, h0, k⟩ := h
    refine ⟨_, pss_one (ps_ret (pe_callB (cr_max rfl) (by rfl) gM (by decide +kernel) (pa_cons (pe_lc (own := [("gap", 1)]) (g := gName 1) (tt := tYes) rfl scOW.nd (pi_list (pv 0))
      (blkOk_by (N := ["gaps", "gap"]) (sc := defScope sOffWorst) (by decide +kernel))
      (fun _ _ _ _ _ => pg_name (i := 1) scOW.nd rfl (Or.inl rfl))
      (fun _ _ _ _ _ => pts_nil) (fun _ _ _ _ _ => pe_callB call_abs (by rfl) gA (by decide +kernel) (pa_cons (pv 1) pa_nil))) pa_nil))), ?_⟩
    refine ⟨_, rfl, a, rfl, ⟨_, hA⟩, fun D hD => ?_⟩
    refine abs_lc hA h12 hD (fun z H1 R h => ?_) (fun z => rfl) (fun H' s1 d1 => ?_)
    · exact ⟨_, rfl, _, rfl, h⟩
    · exact ⟨D, _, rfl, SqL.of d1, by rw [List.length_map]; exact h0, fun m hm hle => k _ m s1 hm hle⟩
def spCamsOn (K : PySem.W.Frag) : Sp := fun vs H Q _ => ∃ (a : Addr) (p : List Nat) (n : Nat), vs = [.ref a, .int (n : Int)] ∧ SqL K H a (nats p) ∧ Q (.int ((p.length : Nat) - (p.count n : Nat) : Int)) H
theorem scCO : FnScope ["plan", "places"] ["plan", "places"] (defScope sCamsOn) := ⟨rfl, rfl, rfl, by decide +kernel, rfl, by decide +kernel, by decide +kernel⟩
theorem zs_natI (l : List Nat) : zs (natI l) = nats l := by
  unfold zs nats natI
  rw [List.map_map]
  rfl
theorem count_ints (l : List Nat) (n : Nat) : (natI l).count (n : Int) = l.count n := by
  unfold natI
  induction l with
  | nil => rfl
  | cons x l ih =>
    rw [List.map_cons, List.count_cons, List.count_cons, ih]
    congr 1
    have : (((x : Int)) == (n : Int)) = (x == n) := by
      rw [Bool.eq_iff_iff, beq_iff_eq, beq_iff_eq]
      omega
    rw [this]
theorem ok_camsOn {f : Addr} {fd : FuncData} (F : Fun K "cams_on" "cams_on" sCamsOn f fd) (gL : mg "len" = none) : FnOk P w K mg base CX0 1 f fd ["plan", "places"] (spCamsOn K) := by
  refine F.ok scCO (fun vs H Q E h => ?_) (fun cdv A outer s H vs Q E hr h => ?_)
  · obtain ⟨a, p, n, rfl, _⟩ := h
    rfl
  · obtain ⟨a, p, n, rfl, hA, k⟩ := h
    refine ⟨_, pss_one (ps_ret (pe_op op_sub (pe_callB call_len_seq (by rfl) gL PySem.boot_len (pa_cons (pv 0) pa_nil)) (pe_bm PySem.F.plainAttrs_list PySem.F.slot_list_count PySem.F.type_list_count mt_lcount (pv 0) (pa_cons (pv 1) pa_nil)))), ?_⟩
    refine ⟨_, rfl, a, _, rfl, .inl hA, _, rfl, .inl ⟨rfl, _, hA⟩, _, rfl, a, natI p, (n : Int), rfl, rfl, by (show SqL K H a (zs (natI p))); rw [zs_natI]; exact hA, _, _, rfl, rfl, ?_⟩
    rw [nats_len, count_ints]
    exact k
end
end CB
namespace CB
open PySem PySem.Spec PyProof.Rows L2
open PySem.W (Codec)
/-! motion_of -/
structure CamsAt (H : Hp) (ca : Addr) (cas : List Addr) (cs : List (List Nat)) : Prop where
  cl : H ca = some (.lst (cas.map V.ref))
  len : cas.length = cs.length
  cams : ∀ (i : Nat) (a : Addr), cas[i]? = some a → ∃ c, cs[i]? = some c ∧ H a = some (.lst (nats c))
theorem CamsAt.same {H H' : Hp} {ca : Addr} {cas : List Addr} {cs : List (List Nat)} (C : CamsAt H ca cas cs) (s : Same H H') : CamsAt H' ca cas cs :=
  ⟨s _ _ C.cl, C.len, fun i a h => by
    obtain ⟨c, h1, h2⟩ := C.cams i a h
    exact ⟨c, h1, s _ _ h2⟩⟩
theorem ne_int (a b : Nat) : (!decide (V.int (a : Int) = V.int (b : Int))) = decide (¬ a = b) := not_eq_int a b
theorem nats_turn (c : List Nat) (k : Nat) : (nats c).drop k ++ (nats c).take k = nats (Uw42.turned k c) := by
  unfold nats Uw42.turned
  rw [List.map_append, List.map_drop, List.map_take]
/-- numbers that are not below 0, as whole numbers -/
theorem nats_zsI (l : List Nat) : nats l = zs (natI l) := (zs_natI l).symm
def spMotionOf (K : PySem.W.Frag) : Sp := fun vs H Q _ => ∃ (pa ca : Addr) (p : List Nat) (cas : List Addr) (cs : List (List Nat)) (n : Nat), vs = [.ref pa, .ref ca, .int (n : Int)] ∧ SqL K H pa (nats p) ∧ CamsAt H ca cas cs ∧ (∀ c ∈ cs, c.length = n) ∧ n ≤ 8 ∧
  p.length = cs.length ∧ (∀ k ∈ p, k ≤ n) ∧ NewL H (nats (mo n cs p)) Q
section
variable {P : Program} {w : World} {K : PySem.W.Frag} {mg : Str → Option Value} {base : Heap}
theorem scMo : FnScope ["plan", "cams", "places", "motion", "cam", "by"] ["plan", "cams", "places"] (defScope sMotionOf) := ⟨rfl, rfl, rfl, by decide +kernel, rfl, by decide +kernel, by decide +kernel⟩
theorem ok_motionOf {f fT fU : Addr} {fd dT dU : FuncData} (F : Fun K "motion_of" "motion_of" sMotionOf f fd) (gZ : mg "zip" = none)
    (GT : FnOk P w K mg base CX0 1 fT dT ["heights", "others"] (spTogether K)) (bT : L2.Binds K dT ["heights", "others"] []) (gT : mg "together" = some (.ref fT)) (kT : PySem.W.keepIn K (.ref fT) = true)
    (GU : FnOk P w K mg base CX0 1 fU dU ["heights", "by"] (spTurned K)) (bU : L2.Binds K dU ["heights", "by"] []) (gU : mg "turned" = some (.ref fU)) (kU : PySem.W.keepIn K (.ref fU) = true) :
    FnOk P w K mg base CX0 2 f fd ["plan", "cams", "places"] (spMotionOf K) := by
  refine F.ok scMo (fun vs H Q E h => ?_) (fun cdv A outer s H vs Q E hr h => ?_)
  · obtain ⟨pa, ca, p, cas, cs, n, rfl, _⟩ := h
    rfl
  · obtain ⟨pa, ca, p, cas, cs, n, rfl, hP, C, hc, hn, hl, hk, k⟩ := h
    refine ⟨_, pss_cons (ps_set (i := 3) scMo.nd rfl (Or.inl rfl) (pe_op op_rep (pe_lst (pa_cons pe_int pa_nil)) (pv 2)))
      (pss_cons (ps_for PassesOwn.never rfl (pi_zip (by rfl) gZ (pa_cons (pv 1) (pa_cons (pv 0) pa_nil)))
          (pg_tup rfl (pgs_cons (pg_name (i := 4) scMo.nd rfl (Or.inl rfl)) (pgs_cons (pg_name (i := 5) scMo.nd rfl (Or.inl rfl)) pgs_nil)))
        (pss_one (ps_if (pt_cmpR op_ne (pv 5) (pv 2) (nomark _))
          (pss_one (ps_set (i := 3) scMo.nd rfl (Or.inl rfl) (pe_call GT hr rfl gT kT bT .nil pass0 (pa_cons (pv 3) (pa_cons (pe_call GU hr rfl gU kU bU .nil pass0 (pa_cons (pv 4) (pa_cons (pv 5) pa_nil))) pa_nil))))) pss_nil)))
      (pss_one (ps_ret (pv 3)))), ?_⟩
    refine ⟨(by show 1 ≤ sizeLine; decide), fun l0 h0 => ⟨_, rfl, l0, _, _, rfl, rfl, upd_same, by omega, by omega, ?_, fun m hm => ?_⟩⟩
    · show 1 * ((n : Int)).toNat ≤ sizeLine
      have : (8 : Nat) ≤ sizeLine := by decide
      omega
    rw [rep0 n]
    have s0 : Same H (upd H l0 (.lst [V.int 0])) := Same.laid h0
    have s1 := s0.trans (Same.laid (o := .lst (nats (List.replicate n 0))) hm)
    refine ⟨_, rfl, _, rfl, ca, pa, _, _, rfl, .of (s1 _ _ C.cl), s1.seq hP, ?_⟩
    refine for_it (walk_zip rfl) (fun i σ H' => ∃ (m : Addr) (v4 v5 : Option V), σ = [some (.ref pa), some (.ref ca), some (.int (n : Int)), some (.ref m), v4, v5] ∧ Same H H' ∧ H m = none ∧ H' m = some (.lst (nats (mo n (cs.take i) (p.take i)))))
      ⟨m, none, none, rfl, s1, s0.free hm, upd_same⟩ (fun i σ H' _ ⟨_, _, _, _, s', _⟩ => ⟨.of (s' _ _ C.cl), s'.seq hP⟩) ?_ ?_
    · rintro i v σ H1 H2 hi ⟨m, v4, v5, rfl, s2, nm, hm1⟩ ⟨T, x, y, rfl, hT, rfl, hx, hy⟩
      obtain ⟨by', e2, rfl⟩ := nats_at hy
      obtain ⟨ha, e1, rfl⟩ : ∃ ha, cas[i]? = some ha ∧ x = V.ref ha := by
        have : (cas.map V.ref)[i]? = some x := hx
        rw [List.getElem?_map] at this
        cases e : cas[i]? with
        | none => rw [e] at this; cases this
        | some q => rw [e] at this; exact ⟨q, rfl, (Option.some.inj this).symm⟩
      obtain ⟨c, e3, hc3⟩ := C.cams i ha e1
      have s3 := s2.trans (Same.laid (o := .tup [V.ref ha, V.int (by' : Int)]) hT)
      have hm3 : (upd H1 T (.tup [V.ref ha, V.int (by' : Int)])) m = some (.lst (nats (mo n (cs.take i) (p.take i)))) := Same.laid hT _ _ hm1
      have st : mo n (cs.take (i + 1)) (p.take (i + 1)) = mstep n (mo n (cs.take i) (p.take i)) (c, by') := by
        rw [take_snoc e3, take_snoc e2, mo_snoc (by rw [List.length_take, List.length_take, hl])]
      have lc : c.length = n := hc c (List.mem_of_getElem? e3)
      have lm : (mo n (cs.take i) (p.take i)).length = n := mo_len (fun c h => hc c (List.mem_of_mem_take h)) _
      have hb : by' ≤ n := hk by' (List.mem_of_getElem? e2)
      refine ⟨T, _, rfl, SqT.of upd_same, rfl, _, _, rfl, _, _, rfl, rfl, ?_⟩
      refine ⟨_, rfl, _, rfl, rfl, _, rfl, ?_⟩
      rw [ne_int]
      refine ite2 (fun q => ?_) (fun q => ?_)
      · have q : ¬ by' = n := of_decide_eq_true q
        refine ⟨_, rfl, _, rfl, _, rfl, ha, _, by', rfl, .of (s3 _ _ hc3), by rw [nats_len]; omega, by rw [nats_len]; omega, fun H4 t s4 nt ht => ?_⟩
        rw [nats_turn, nats_zsI] at ht
        refine ⟨m, t, natI (mo n (cs.take i) (p.take i)), _, rfl, ?_, .of ht, by rw [natI_len]; omega, by rw [natI_len, natI_len, lm, turned_len, lc], fun H5 u s5 nu hu => ?_⟩
        · refine .of ((s4 _ _ hm3).trans ?_)
          rw [nats_zsI]
        · rw [addI_natI, zs_natI] at hu
          refine ⟨u, _, _, rfl, (s3.trans s4).trans s5, (s3.trans s4).free nu, ?_⟩
          rw [st]
          unfold mstep
          rw [if_neg q]
          exact hu
      · have q : by' = n := by simpa using q
        refine ⟨m, _, _, rfl, s3, nm, ?_⟩
        rw [st]
        unfold mstep
        rw [if_pos q]
        exact hm3
    · rintro σ H' ⟨m, v4, v5, rfl, s2, nm, hm1⟩
      refine ⟨_, rfl, ?_⟩
      rw [nats_len, List.length_map, C.len, hl, Nat.min_self, List.take_length, ← hl, List.take_length] at hm1
      exact k _ m s2 nm hm1
end
end CB
namespace CB
open PySem PySem.Spec PyProof.Rows L2
open PySem.W (Codec)
/-! with_one_more, plans_with_gaps: a list that is built, its items told where the list itself is left out. -/
def cut (H : Hp) (D : Addr) : Hp := fun q => if q = D then none else H q
theorem cut_ne {H : Hp} {D q : Addr} (h : q ≠ D) : cut H D q = H q := if_neg h
theorem cut_upd {H : Hp} {D : Addr} {o : HO} : cut (upd H D o) D = cut H D := by
  funext q
  unfold cut
  by_cases c : q = D
  · rw [if_pos c, if_pos c]
  · rw [if_neg c, if_neg c, upd_ne c]
theorem cut_same {H H' : Hp} {D : Addr} (s : Same H H') : Same (cut H D) (cut H' D) := fun q o h => by
  unfold cut at h ⊢
  by_cases c : q = D
  · rw [if_pos c] at h; cases h
  · rw [if_neg c] at h ⊢
    exact s q o h
theorem cut_in {H : Hp} {D : Addr} : Same (cut H D) H := fun q o h => by
  unfold cut at h
  by_cases c : q = D
  · rw [if_pos c] at h; cases h
  · rw [if_neg c] at h
    exact h
theorem cut_back {H H' : Hp} {D : Addr} (hD : H D = none) (s : Same H H') : Same H (cut H' D) := fun q o h => by
  rw [cut_ne (ne_of_none h hD)]
  exact s q o h
def Each {α : Type} (R : V → α → Prop) (vs : List V) (l : List α) : Prop := vs.length = l.length ∧ ∀ (i : Nat) (v : V), vs[i]? = some v → ∃ y, l[i]? = some y ∧ R v y
theorem Each.nil {α : Type} {R : V → α → Prop} : Each R [] [] := ⟨rfl, fun i v h => by simp at h⟩
theorem Each.snoc {α : Type} {R : V → α → Prop} {vs : List V} {l : List α} {v : V} {y : α} (h : Each R vs l) (r : R v y) : Each R (vs ++ [v]) (l ++ [y]) := by
  refine ⟨by rw [List.length_append, List.length_append, h.1]; rfl, fun i u hu => ?_⟩
  rcases Nat.lt_trichotomy i vs.length with c | c | c
  · rw [List.getElem?_append_left c] at hu
    obtain ⟨z, h1, h2⟩ := h.2 i u hu
    exact ⟨z, by rw [List.getElem?_append_left (by rw [← h.1]; exact c)]; exact h1, h2⟩
  · subst c
    rw [List.getElem?_append_right (Nat.le_refl _), Nat.sub_self] at hu
    have : v = u := Option.some.inj hu
    subst this
    exact ⟨y, by rw [h.1, List.getElem?_append_right (Nat.le_refl _), Nat.sub_self]; rfl, r⟩
  · rw [List.getElem?_append_right (by omega), List.getElem?_eq_none (by rw [List.length_singleton]; omega)] at hu
    cases hu
theorem Each.mono {α : Type} {R R' : V → α → Prop} {vs : List V} {l : List α} (h : Each R vs l) (m : ∀ v y, R v y → R' v y) : Each R' vs l := ⟨h.1, fun i v hv => by
  obtain ⟨y, h1, h2⟩ := h.2 i v hv
  exact ⟨y, h1, m v y h2⟩⟩
/-- a plan with its gaps: a pair of two lists -/
def PGat (H : Hp) (v : V) (x : List Nat × List Int) : Prop := ∃ t pa ga, v = .ref t ∧ H t = some (.tup [.ref pa, .ref ga]) ∧ H pa = some (.lst (nats x.1)) ∧ H ga = some (.lst (zs x.2))
theorem PGat.same {H H' : Hp} {v : V} {x : List Nat × List Int} (h : PGat H v x) (s : Same H H') : PGat H' v x := by
  obtain ⟨t, pa, ga, rfl, h1, h2, h3⟩ := h
  exact ⟨t, pa, ga, rfl, s _ _ h1, s _ _ h2, s _ _ h3⟩
def PGsAt (H : Hp) (a : Addr) (l : List (List Nat × List Int)) : Prop := ∃ vs, H a = some (.lst vs) ∧ Each (PGat H) vs l
theorem PGsAt.same {H H' : Hp} {a : Addr} {l : List (List Nat × List Int)} (h : PGsAt H a l) (s : Same H H') : PGsAt H' a l := by
  obtain ⟨vs, h1, h2⟩ := h
  exact ⟨vs, s _ _ h1, h2.mono fun v y r => r.same s⟩
def spOneMore : Sp := fun vs H Q _ => ∃ (a ca : Addr) (l : List (List Nat × List Int)) (c : List Nat), vs = [.ref a, .ref ca] ∧ PGsAt H a l ∧ H ca = some (.lst (nats c)) ∧ c.length ≤ 8 ∧ (∀ x ∈ l, x.1.length ≤ 4 ∧ x.2.length = c.length) ∧ l.length ≤ 10000 ∧
  ∀ (H' : Hp) (p : Addr), Same H H' → H p = none → PGsAt H' p (l.flatMap (longer1 c.length c)) → Q (.ref p) H'
theorem take_flat {α β : Type} {l : List α} {f : α → List β} {i : Nat} {x : α} (h : l[i]? = some x) : (l.take (i + 1)).flatMap f = (l.take i).flatMap f ++ f x := by
  rw [take_snoc h, List.flatMap_append, List.flatMap_cons, List.flatMap_nil, List.append_nil]
theorem longer1_len (P : Nat) (c : List Nat) (x : List Nat × List Int) : (longer1 P c x).length = P + 1 := by
  unfold longer1
  rw [List.length_append, List.length_map, List.length_range, List.length_singleton]
theorem flat_len {P : Nat} {c : List Nat} : ∀ l : List (List Nat × List Int), (l.flatMap (longer1 P c)).length = l.length * (P + 1)
  | [] => by simp
  | x :: l => by rw [List.flatMap_cons, List.length_append, flat_len l, longer1_len, List.length_cons, Nat.add_mul, Nat.one_mul, Nat.add_comm]
theorem nats_snoc (l : List Nat) (k : Nat) : nats l ++ [V.int (k : Int)] = nats (l ++ [k]) := by
  unfold nats
  rw [List.map_append]
  rfl
section
variable {P : Program} {w : World} {K : PySem.W.Frag} {mg : Str → Option Value} {base : Heap}
theorem scOM : FnScope ["plans", "cam", "places", "each_turn", "longer", "plan", "gaps", "by", "heights"] ["plans", "cam"] (defScope sOneMore) := ⟨rfl, rfl, rfl, by decide +kernel, rfl, by decide +kernel, by decide +kernel⟩
theorem ok_oneMore {f fT fU : Addr} {fd dT dU : FuncData} (F : Fun K "with_one_more" "with_one_more" sOneMore f fd) (gL : mg "len" = none) (gR : mg "range" = none) (gE : mg "enumerate" = none)
    (GT : FnOk P w K mg base CX0 1 fT dT ["heights", "others"] (spTogether K)) (bT : L2.Binds K dT ["heights", "others"] []) (gT : mg "together" = some (.ref fT)) (kT : PySem.W.keepIn K (.ref fT) = true)
    (GU : FnOk P w K mg base CX0 1 fU dU ["heights", "by"] (spTurned K)) (bU : L2.Binds K dU ["heights", "by"] []) (gU : mg "turned" = some (.ref fU)) (kU : PySem.W.keepIn K (.ref fU) = true) :
    FnOk P w K mg base CX0 2 f fd ["plans", "cam"] spOneMore := by
  refine F.ok scOM (fun vs H Q E h => ?_) (fun cdv A outer s H vs Q E hr h => ?_)
  · obtain ⟨a, ca, l, c, rfl, _⟩ := h
    rfl
  · obtain ⟨a, ca, l, c, rfl, ⟨ts, ha, hts⟩, hc, h8, hl, hn, k⟩ := h
    refine ⟨_, pss_cons (ps_set (i := 2) scOM.nd rfl (Or.inl rfl) (pe_callB call_len_seq (by rfl) gL PySem.boot_len (pa_cons (pv 1) pa_nil)))
      (pss_cons (ps_setLc (i := 3) (own := [("by", 7)]) (g := gName 7) (tt := tYes) rfl scOM.nd rfl rfl (sw_true rfl rfl rfl (by decide +kernel)) (pi_range1 rfl gR (pa_cons (pv 2) pa_nil))
        (blkOk_by (N := ["plans", "cam", "places", "each_turn", "longer", "plan", "gaps", "by", "heights"]) (sc := defScope sOneMore) (by decide +kernel))
        (fun _ _ _ _ _ => pg_name (i := 7) scOM.nd rfl (Or.inl rfl)) (fun _ _ _ _ _ => pts_nil)
        (fun _ _ _ _ _ => pe_call GU hr rfl gU kU bU .nil pass0 (pa_cons (pv 1) (pa_cons (pv 7) pa_nil))))
      (pss_cons (ps_set (i := 4) scOM.nd rfl (Or.inl rfl) (pe_lst pa_nil))
      (pss_cons (ps_for PassesOwn.never rfl (pi_list (pv 0)) (pg_tup rfl (pgs_cons (pg_name (i := 5) scOM.nd rfl (Or.inl rfl)) (pgs_cons (pg_name (i := 6) scOM.nd rfl (Or.inl rfl)) pgs_nil)))
        (pss_cons (ps_for PassesOwn.never rfl (pi_enum (by rfl) gE (pa_cons (pv 3) pa_nil)) (pg_tup rfl (pgs_cons (pg_name (i := 7) scOM.nd rfl (Or.inl rfl)) (pgs_cons (pg_name (i := 8) scOM.nd rfl (Or.inl rfl)) pgs_nil)))
          (pss_one (ps_expr (pe_bm PySem.F.plainAttrs_list PySem.F.slot_list_append PySem.F.type_list_append mt_append (pv 4)
            (pa_cons (pe_tup (pa_cons (pe_op op_cat (pv 5) (pe_lst (pa_cons (pv 7) pa_nil))) (pa_cons (pe_call GT hr rfl gT kT bT .nil pass0 (pa_cons (pv 6) (pa_cons (pv 8) pa_nil))) pa_nil))) pa_nil)))))
        (pss_one (ps_expr (pe_bm PySem.F.plainAttrs_list PySem.F.slot_list_append PySem.F.type_list_append mt_append (pv 4)
            (pa_cons (pe_tup (pa_cons (pe_op op_cat (pv 5) (pe_lst (pa_cons (pv 2) pa_nil))) (pa_cons (pv 6) pa_nil))) pa_nil))))))
      (pss_one (ps_ret (pv 4)))))), ?_⟩
    have big : (200000 : Nat) ≤ sizeLine := by decide
    refine ⟨_, rfl, ca, _, rfl, .inl (SqL.of hc), ?_⟩
    rw [nats_len]
    refine ⟨_, rfl, _, rfl, by omega, by omega, fun E hE => ?_⟩
    -- each_turn
    refine lc_range (lo := 0) (n := (((c.length : Nat) : Int)).toNat) (fun i H' => Same H H' ∧ ∃ vs, H' E = some (.lst vs) ∧ Each (fun v k => ∃ t, v = V.ref t ∧ cut H' E t = some (.lst (nats (Uw42.turned k c)))) vs (List.range i))
      ⟨Same.laid hE, [], upd_same, Each.nil⟩ ?_ ?_
    · rintro i H1 hi ⟨s1, vs, he, hv⟩
      refine ⟨rfl, yes_then ?_⟩
      refine ⟨_, rfl, _, rfl, ca, _, i, by rw [Int.zero_add]; rfl, .of (s1 _ _ hc), by rw [nats_len]; omega, by rw [nats_len]; omega, fun H2 t s2 nt ht => ?_⟩
      rw [nats_turn] at ht
      refine ⟨vs, s2 _ _ he, ?_, (s1.trans s2).trans_upd hE, vs ++ [V.ref t], upd_same, ?_⟩
      · rw [hv.1, List.length_range]
        omega
      · rw [List.range_succ, cut_upd]
        refine (hv.mono fun v k ⟨q, e, hq⟩ => ⟨q, e, cut_same s2 _ _ hq⟩).snoc ⟨t, rfl, ?_⟩
        rw [cut_ne fun e => by rw [e, he] at nt; cases nt]
        exact ht
    rintro H1 ⟨s1, es, he, hes⟩
    rw [Int.toNat_natCast] at hes
    have hes : Each (fun v k => ∃ t, v = V.ref t ∧ H1 t = some (.lst (nats (Uw42.turned k c)))) es (List.range c.length) := hes.mono fun v k ⟨t, e, h⟩ => ⟨t, e, cut_in _ _ h⟩
    -- longer
    refine ⟨Nat.zero_le _, fun D hD => ?_⟩
    have a1 := s1 _ _ ha
    have ht1 : Each (PGat H1) ts l := hts.mono fun v y r => r.same s1
    refine ⟨_, rfl, a, rfl, ⟨_, .of (Same.laid hD _ _ a1)⟩, ?_⟩
    refine for_list (K := K) (a := a) (xs := ts) (fun i σ H' => ∃ (v5 v6 v7 v8 : Option V) (vs : List V), σ = [some (.ref a), some (.ref ca), some (.int ((c.length : Nat) : Int)), some (.ref E), some (.ref D), v5, v6, v7, v8] ∧ Same H1 H' ∧ H' D = some (.lst vs) ∧
        Each (PGat (cut H' D)) vs ((l.take i).flatMap (longer1 c.length c)))
      ⟨none, none, none, none, [], rfl, Same.laid hD, upd_same, Each.nil⟩ (fun i σ H' _ ⟨_, _, _, _, _, _, s', _⟩ => .of (s' _ _ a1)) ?_ ?_
    · rintro i v σ H2 hv ⟨v5, v6, v7, v8, vs, rfl, s2, hd2, hE2⟩
      obtain ⟨x, hx, t, pa, ga, rfl, ht, hpa, hga⟩ := ht1.2 i v hv
      obtain ⟨x4, xP⟩ := hl x (List.mem_of_getElem? hx)
      have li : ((l.take i).flatMap (longer1 c.length c)).length ≤ 90000 := by
        rw [flat_len, List.length_take]
        exact Nat.le_trans (Nat.mul_le_mul (Nat.le_trans (Nat.min_le_right _ _) hn) (show c.length + 1 ≤ 9 by omega)) (by decide)
      refine ⟨t, _, rfl, .of (s2 _ _ ht), rfl, _, _, rfl, _, _, rfl, rfl, ?_⟩
      -- the turns
      refine ⟨_, rfl, E, es, rfl, .of (s2 _ _ he), ?_⟩
      refine for_it walk_enum (fun j σ H' => ∃ (v7 v8 : Option V) (vs : List V), σ = [some (.ref a), some (.ref ca), some (.int ((c.length : Nat) : Int)), some (.ref E), some (.ref D), some (.ref pa), some (.ref ga), v7, v8] ∧ Same H1 H' ∧ H' D = some (.lst vs) ∧
          Each (PGat (cut H' D)) vs ((l.take i).flatMap (longer1 c.length c) ++ ((List.range c.length).map fun k => (x.1 ++ [k], addI x.2 (natI (Uw42.turned k c)))).take j))
        ⟨_, _, vs, rfl, s2, hd2, by rw [List.take_zero, List.append_nil]; exact hE2⟩ (fun j σ H' _ ⟨_, _, _, _, s', _⟩ => .of (s' _ _ he)) ?_ ?_
      · rintro j v σ H3 H4 hj ⟨v7, v8, vs, rfl, s3, hd3, hE3⟩ ⟨T, u, y, rfl, hT, rfl, hu, hy⟩
        have hu : V.int ((j : Nat) : Int) = u := Option.some.inj hu
        subst hu
        obtain ⟨k', hk', th, rfl, hth⟩ := hes.2 j y hy
        have jl : j < c.length := by rw [hes.1, List.length_range] at hj; exact hj
        have ek : k' = j := by
          rw [List.getElem?_range jl] at hk'
          exact (Option.some.inj hk').symm
        subst ek
        refine ⟨T, _, rfl, SqT.of upd_same, rfl, _, _, rfl, _, _, rfl, rfl, ?_⟩
        have sT := Same.laid (o := .tup [V.int ((k' : Nat) : Int), V.ref th]) hT
        have s4 := s3.trans sT
        generalize upd H3 T (.tup [V.int ((k' : Nat) : Int), V.ref th]) = H4 at sT s4 ⊢
        have hd4 := sT _ _ hd3
        have hE4 := hE3.mono fun v y (r : PGat (cut H3 D) v y) => r.same (cut_same sT)
        have lj : vs.length ≤ 90010 := by
          rw [hE3.1, List.length_append, List.length_take, List.length_map, List.length_range]
          have := Nat.min_le_right k' c.length
          omega
        refine ⟨_, rfl, .inl ⟨rfl, _, SqL.of hd4⟩, ?_⟩
        refine ⟨_, rfl, _, rfl, (by show 1 ≤ sizeLine; decide), fun l1 n1 => ?_⟩
        have s5 := Same.laid (o := .lst [V.int ((k' : Nat) : Int)]) n1
        refine ⟨pa, l1, _, _, rfl, rfl, s5 _ _ (s4 _ _ hpa), upd_same, by rw [nats_len, List.length_singleton]; omega, fun l2 n2 => ?_⟩
        rw [nats_snoc]
        generalize upd H4 l1 (.lst [V.int ((k' : Nat) : Int)]) = H5 at s5 n2 ⊢
        have s6 := Same.laid (o := .lst (nats (x.1 ++ [k']))) n2
        have e6 : (upd H5 l2 (.lst (nats (x.1 ++ [k'])))) l2 = some (.lst (nats (x.1 ++ [k']))) := upd_same
        generalize upd H5 l2 (.lst (nats (x.1 ++ [k']))) = H6 at s6 e6 ⊢
        have s46 := s5.trans s6
        refine ⟨_, rfl, _, rfl, ga, th, x.2, natI (Uw42.turned k' c), rfl, .of (s46 _ _ (s4 _ _ hga)), ?_, by omega, by rw [natI_len, turned_len, xP], fun H7 u s7 nu hu => ?_⟩
        · rw [zs_natI]
          exact .of (s46 _ _ (s4 _ _ hth))
        have s47 := s46.trans s7
        refine ⟨(by show 2 ≤ sizeLine; decide), fun t2 nt2 => ?_⟩
        have s8 := Same.laid (o := .tup [V.ref l2, V.ref u]) nt2
        have e8 : (upd H7 t2 (.tup [V.ref l2, V.ref u])) t2 = some (.tup [V.ref l2, V.ref u]) := upd_same
        generalize upd H7 t2 (.tup [V.ref l2, V.ref u]) = H8 at s8 e8 ⊢
        have s48 := s47.trans s8
        refine ⟨D, _, _, rfl, rfl, s48 _ _ hd4, by omega, _, _, _, rfl, (s4.trans s48).trans_upd hD, upd_same, ?_⟩
        rw [take_snoc (x := (x.1 ++ [k'], addI x.2 (natI (Uw42.turned k' c)))) (by rw [List.getElem?_map, List.getElem?_range jl]; rfl), ← List.append_assoc, cut_upd]
        refine (hE4.mono fun v y r => r.same (cut_same s48)).snoc ⟨t2, l2, u, rfl, ?_, ?_, ?_⟩
        · rw [cut_ne fun e => by rw [e, s47 _ _ hd4] at nt2; cases nt2]
          exact e8
        · rw [cut_ne fun e => by rw [e, s5 _ _ hd4] at n2; cases n2]
          exact s8 _ _ (s7 _ _ e6)
        · rw [cut_ne fun e => by rw [e, s46 _ _ hd4] at nu; cases nu]
          exact s8 _ _ hu
      · rintro σ H3 ⟨v7, v8, vs, rfl, s3, hd3, hE3⟩
        rw [List.take_of_length_le (l := (List.range c.length).map fun k => (x.1 ++ [k], addI x.2 (natI (Uw42.turned k c)))) (by rw [List.length_map, List.length_range, hes.1, List.length_range]; exact Nat.le_refl _)] at hE3
        have lj : vs.length ≤ 90010 := by
          rw [hE3.1, List.length_append, List.length_map, List.length_range]
          omega
        refine ⟨_, rfl, .inl ⟨rfl, _, SqL.of hd3⟩, ?_⟩
        refine ⟨_, rfl, _, rfl, (by show 1 ≤ sizeLine; decide), fun l1 n1 => ?_⟩
        have s5 := Same.laid (o := .lst [V.int ((c.length : Nat) : Int)]) n1
        refine ⟨pa, l1, _, _, rfl, rfl, s5 _ _ (s3 _ _ hpa), upd_same, by rw [nats_len, List.length_singleton]; omega, fun l2 n2 => ?_⟩
        rw [nats_snoc]
        generalize upd H3 l1 (.lst [V.int ((c.length : Nat) : Int)]) = H5 at s5 n2 ⊢
        have s6 := Same.laid (o := .lst (nats (x.1 ++ [c.length]))) n2
        have e6 : (upd H5 l2 (.lst (nats (x.1 ++ [c.length])))) l2 = some (.lst (nats (x.1 ++ [c.length]))) := upd_same
        generalize upd H5 l2 (.lst (nats (x.1 ++ [c.length]))) = H6 at s6 e6 ⊢
        have s46 := s5.trans s6
        refine ⟨_, rfl, (by show 2 ≤ sizeLine; decide), fun t2 nt2 => ?_⟩
        have s8 := Same.laid (o := .tup [V.ref l2, V.ref ga]) nt2
        have e8 : (upd H6 t2 (.tup [V.ref l2, V.ref ga])) t2 = some (.tup [V.ref l2, V.ref ga]) := upd_same
        generalize upd H6 t2 (.tup [V.ref l2, V.ref ga]) = H8 at s8 e8 ⊢
        have s48 := s46.trans s8
        refine ⟨D, _, _, rfl, rfl, s48 _ _ hd3, by omega, _, _, _, _, _, rfl, (s3.trans s48).trans_upd hD, upd_same, ?_⟩
        rw [take_flat hx, cut_upd]
        unfold longer1
        rw [← List.append_assoc]
        refine (hE3.mono fun v y r => r.same (cut_same s48)).snoc ⟨t2, l2, ga, rfl, ?_, ?_, ?_⟩
        · rw [cut_ne fun e => by rw [e, s46 _ _ hd3] at nt2; cases nt2]
          exact e8
        · rw [cut_ne fun e => by rw [e, s5 _ _ hd3] at n2; cases n2]
          exact s8 _ _ e6
        · rw [cut_ne (ne_of_none hga hD)]
          exact s48 _ _ (s3 _ _ hga)
    · rintro σ H2 ⟨v5, v6, v7, v8, vs, rfl, s2, hd2, hE2⟩
      refine ⟨_, rfl, k _ D (s1.trans s2) (s1.free hD) ⟨vs, hd2, ?_⟩⟩
      rw [hts.1, List.take_length] at hE2
      exact hE2.mono fun v y r => r.same cut_in
end
end CB
namespace CB
open PySem PySem.Spec PyProof.Rows L2
open PySem.W (Codec)
def spPlansGaps : Sp := fun vs H Q _ => ∃ (ca wa : Addr) (cas : List Addr) (cs : List (List Nat)) (w : List Nat), vs = [.ref ca, .ref wa] ∧ CamsAt H ca cas cs ∧ H wa = some (.lst (nats w)) ∧ (∀ c ∈ cs, c.length = w.length) ∧ w.length ≤ 8 ∧ cs.length ≤ 4 ∧
  ∀ (H' : Hp) (p : Addr), Same H H' → H p = none → PGsAt H' p (withGaps w.length w cs) → Q (.ref p) H'
section
variable {P : Program} {w : World} {K : PySem.W.Frag} {mg : Str → Option Value} {base : Heap}
theorem scPG : FnScope ["cams", "wished", "plans", "cam"] ["cams", "wished"] (defScope sPlansGaps) := ⟨rfl, rfl, rfl, by decide +kernel, rfl, by decide +kernel, by decide +kernel⟩
theorem ok_plansGaps {f fG fO : Addr} {fd dG dO : FuncData} (F : Fun K "plans_with_gaps" "plans_with_gaps" sPlansGaps f fd) (gL : mg "len" = none)
    (GG : FnOk P w K mg base CX0 1 fG dG ["motion", "wished"] (spGapsOf K)) (bG : L2.Binds K dG ["motion", "wished"] []) (gG : mg "gaps_of" = some (.ref fG)) (kG : PySem.W.keepIn K (.ref fG) = true)
    (GO : FnOk P w K mg base CX0 2 fO dO ["plans", "cam"] spOneMore) (bO : L2.Binds K dO ["plans", "cam"] []) (gO : mg "with_one_more" = some (.ref fO)) (kO : PySem.W.keepIn K (.ref fO) = true) :
    FnOk P w K mg base CX0 3 f fd ["cams", "wished"] spPlansGaps := by
  refine F.ok scPG (fun vs H Q E h => ?_) (fun cdv A outer s H vs Q E hr h => ?_)
  · obtain ⟨ca, wa, cas, cs, w, rfl, _⟩ := h
    rfl
  · obtain ⟨ca, wa, cas, cs, w, rfl, C, hw, hc, h8, h4, k⟩ := h
    have hr1 : Room 1 _ := hr.mono (by decide)
    refine ⟨_, pss_cons (ps_set (i := 2) scPG.nd rfl (Or.inl rfl) (pe_lst (pa_cons (pe_tup (pa_cons (pe_lst pa_nil) (pa_cons (pe_call GG hr1 rfl gG kG bG .nil pass0
          (pa_cons (pe_op op_rep (pe_lst (pa_cons pe_int pa_nil)) (pe_callB call_len_seq (by rfl) gL PySem.boot_len (pa_cons (pv 1) pa_nil))) (pa_cons (pv 1) pa_nil))) pa_nil))) pa_nil)))
      (pss_cons (ps_for PassesOwn.never rfl (pi_list (pv 0)) (pg_name (i := 3) scPG.nd rfl (Or.inl rfl))
        (pss_one (ps_set (i := 2) scPG.nd rfl (Or.inl rfl) (pe_call GO hr rfl gO kO bO .nil pass0 (pa_cons (pv 2) (pa_cons (pv 3) pa_nil))))))
      (pss_one (ps_ret (pv 2)))), ?_⟩
    have big : (200000 : Nat) ≤ sizeLine := by decide
    refine ⟨Nat.zero_le _, fun l0 n0 => ?_⟩
    have s0 := Same.laid (o := .lst []) n0
    have e0 : (upd H l0 (.lst [])) l0 = some (.lst []) := upd_same
    generalize upd H l0 (.lst []) = H0 at s0 e0 ⊢
    refine ⟨(by show 1 ≤ sizeLine; decide), fun l1 n1 => ?_⟩
    have s1 := Same.laid (o := .lst [V.int 0]) n1
    refine ⟨_, rfl, wa, _, rfl, .inl (.of (s1 _ _ (s0 _ _ hw))), ?_⟩
    rw [nats_len]
    refine ⟨l1, _, _, rfl, rfl, upd_same, by omega, by omega, ?_, fun l2 n2 => ?_⟩
    · show 1 * ((w.length : Int)).toNat ≤ sizeLine
      omega
    rw [rep0]
    generalize upd H0 l1 (.lst [V.int 0]) = H1 at s1 n2 ⊢
    have s2 := Same.laid (o := .lst (nats (List.replicate w.length 0))) n2
    have e2 : (upd H1 l2 (.lst (nats (List.replicate w.length 0)))) l2 = some (.lst (nats (List.replicate w.length 0))) := upd_same
    generalize upd H1 l2 (.lst (nats (List.replicate w.length 0))) = H2 at s2 e2 ⊢
    have s02 := s1.trans s2
    refine ⟨_, rfl, l2, wa, _, w, rfl, .of e2, .of (s02 _ _ (s0 _ _ hw)), by rw [List.length_replicate]; omega, List.length_replicate, fun H3 g s3 ng hg => ?_⟩
    have s03 := s02.trans s3
    refine ⟨(by show 2 ≤ sizeLine; decide), fun t nt => ?_⟩
    have s4 := Same.laid (o := .tup [V.ref l0, V.ref g]) nt
    have e4 : (upd H3 t (.tup [V.ref l0, V.ref g])) t = some (.tup [V.ref l0, V.ref g]) := upd_same
    generalize upd H3 t (.tup [V.ref l0, V.ref g]) = H4 at s4 e4 ⊢
    have s04 := s03.trans s4
    refine ⟨(by show 1 ≤ sizeLine; decide), fun pl np => ?_⟩
    have s5 := Same.laid (o := .lst [V.ref t]) np
    have e5 : (upd H4 pl (.lst [V.ref t])) pl = some (.lst [V.ref t]) := upd_same
    generalize upd H4 pl (.lst [V.ref t]) = H5 at s5 e5 ⊢
    have s05 := s0.trans (s04.trans s5)
    have start : PGsAt H5 pl (withGaps w.length w (cs.take 0)) := by
      rw [List.take_zero, withGaps_nil]
      exact ⟨_, e5, Each.nil.snoc ⟨t, l0, g, rfl, s5 _ _ e4, s5 _ _ (s04 _ _ e0), s5 _ _ (s4 _ _ hg)⟩⟩
    refine ⟨_, rfl, ca, rfl, ⟨_, .of (s05 _ _ C.cl)⟩, ?_⟩
    refine for_list (K := K) (a := ca) (xs := cas.map V.ref) (fun i σ H' => ∃ (m : Addr) (v3 : Option V), σ = [some (.ref ca), some (.ref wa), some (.ref m), v3] ∧ Same H H' ∧ H m = none ∧ PGsAt H' m (withGaps w.length w (cs.take i)))
      ⟨pl, none, rfl, s05, (s0.trans s04).free np, start⟩ (fun i σ H' _ ⟨_, _, _, s', _⟩ => .of (s' _ _ C.cl)) ?_ ?_
    · rintro i v σ H6 hv ⟨m, v3, rfl, s6, nm, hm⟩
      obtain ⟨ha, e1, rfl⟩ : ∃ ha, cas[i]? = some ha ∧ v = V.ref ha := by
        rw [List.getElem?_map] at hv
        cases e : cas[i]? with
        | none => rw [e] at hv; cases hv
        | some q => rw [e] at hv; exact ⟨q, rfl, (Option.some.inj hv).symm⟩
      obtain ⟨c, e3, hc3⟩ := C.cams i ha e1
      have lc := hc c (List.mem_of_getElem? e3)
      have hcs : ∀ c ∈ cs.take i, c.length = w.length := fun c h => hc c (List.mem_of_mem_take h)
      have lt : (cs.take i).length ≤ 4 := by rw [List.length_take]; omega
      refine ⟨_, rfl, _, rfl, m, ha, _, c, rfl, hm, s6 _ _ hc3, by omega, fun x hx => ?_, Nat.le_trans (withGaps_len h8 lt) (by decide), fun H7 p s7 np hp => ?_⟩
      · obtain ⟨h1, h2⟩ := withGaps_lens rfl hcs x hx
        exact ⟨by omega, by omega⟩
      · rw [lc, ← withGaps_snoc, ← take_snoc e3] at hp
        exact ⟨p, _, rfl, s6.trans s7, s6.free np, hp⟩
    · rintro σ H6 ⟨m, v3, rfl, s6, nm, hm⟩
      rw [List.length_map, C.len, List.take_length] at hm
      exact ⟨_, rfl, k _ m s6 nm hm⟩
end
end CB
namespace CB
open PySem PySem.Spec PyProof.Rows L2
open PySem.W (Codec)
/-! min over a list of (number, number, list of numbers) -/
abbrev Tri : Type := PySem.W.T3 Int Int (List Int)
def toT (r : Rt) : Tri := ⟨(r.1 : Int), (r.2.1 : Int), natI r.2.2⟩
theorem natI_inj {p q : List Nat} (h : natI p = natI q) : p = q := by
  have e : ∀ l : List Nat, (natI l).map Int.toNat = l := fun l => by
    unfold natI
    rw [List.map_map]
    conv => rhs; rw [← List.map_id l]
    exact List.map_congr_left fun x _ => by simp
  rw [← e p, ← e q, h]
theorem toT_inj {a b : Rt} (h : toT a = toT b) : a = b := by
  obtain ⟨a1, a2, a3⟩ := a
  obtain ⟨b1, b2, b3⟩ := b
  unfold toT at h
  injection h with h1 h2 h3
  dsimp only at h1 h2 h3
  rw [natI_inj h3, show a1 = b1 by omega, show a2 = b2 by omega]
theorem listLt_lx : ∀ p q : List Nat, PySem.W.listLt (natI p) (natI q) = lx p q
  | [], [] => rfl
  | [], _ :: _ => rfl
  | _ :: _, [] => rfl
  | x :: p, y :: q => by
    have ih := listLt_lx p q
    unfold natI at ih ⊢
    rw [List.map_cons, List.map_cons]
    unfold PySem.W.listLt lx
    rw [ih]
    by_cases c : x = y
    · rw [if_pos c, if_pos (by omega)]
    · rw [if_neg c, if_neg (by omega)]
      show decide ((x : Int) < (y : Int)) = decide (x < y)
      exact decide_eq_decide.mpr (by omega)
theorem tri_lt (a b : Rt) : PySem.W.DatumOrd.lt (toT a) (toT b) = rtLt a b := by
  show (if (a.1 : Int) = (b.1 : Int) then (if (a.2.1 : Int) = (b.2.1 : Int) then PySem.W.listLt (natI a.2.2) (natI b.2.2) else decide ((a.2.1 : Int) < (b.2.1 : Int))) else decide ((a.1 : Int) < (b.1 : Int))) = rtLt a b
  unfold rtLt
  rw [listLt_lx]
  by_cases c : a.1 = b.1
  · rw [if_pos c, if_pos (by omega)]
    by_cases c2 : a.2.1 = b.2.1
    · rw [if_pos c2, if_pos (by omega)]
    · rw [if_neg c2, if_neg (by omega)]
      exact decide_eq_decide.mpr (by omega)
  · rw [if_neg c, if_neg (by omega)]
    exact decide_eq_decide.mpr (by omega)
theorem minOf_keep (x : Rt) : ∀ l : List Rt, PySem.W.minOf (toT x) (l.map toT) = toT (l.foldl (fun a y => if rtLt y a = true then y else a) x) := fun l => by
  unfold PySem.W.minOf
  induction l generalizing x with
  | nil => rfl
  | cons y l ih =>
    rw [List.map_cons, List.foldl_cons, List.foldl_cons, ← ih, tri_lt]
    by_cases c : rtLt y x = true
    · rw [if_pos c, if_pos c]
    · rw [if_neg c, if_neg c]
theorem toD_inj {a b : Tri} (h : PySem.W.Datum.toD a = PySem.W.Datum.toD b) : a = b := by
  have h1 := PySem.W.Datum.eqv a b
  have h2 := PySem.W.Datum.eqv a a
  rw [h] at h1 h2
  have h3 := PySem.W.Datum.eqv b b
  rw [h3] at h1
  have : decide (a = b) = true := by rw [← h1]; exact decide_eq_true rfl
  exact of_decide_eq_true this
/-- a rated plan: a triple of two numbers and a list -/
def RtAt (H : Hp) (v : V) (r : Rt) : Prop := ∃ t pa, v = .ref t ∧ H t = some (.tup [.int (r.1 : Int), .int (r.2.1 : Int), .ref pa]) ∧ H pa = some (.lst (nats r.2.2))
theorem RtAt.same {H H' : Hp} {v : V} {r : Rt} (h : RtAt H v r) (s : Same H H') : RtAt H' v r := by
  obtain ⟨t, pa, rfl, h1, h2⟩ := h
  exact ⟨t, pa, rfl, s _ _ h1, s _ _ h2⟩
theorem dp_ints {K : PySem.W.Frag} {H : Hp} : ∀ l : List Int, DpAll K H (zs l) (l.map PyData.int)
  | [] => .nil
  | x :: l => .cons (.int x) (dp_ints l)
theorem dp_nats {K : PySem.W.Frag} {H : Hp} {a : Addr} {l : List Nat} (h : H a = some (.lst (nats l))) : Dp K H (.ref a) (PySem.W.Datum.toD (natI l)) := by
  rw [nats_zsI] at h
  exact .lst (.of h) (dp_ints (natI l))
theorem RtAt.dp {K : PySem.W.Frag} {H : Hp} {v : V} {r : Rt} (h : RtAt H v r) : Dp K H v (PySem.W.Datum.toD (toT r)) := by
  obtain ⟨t, pa, rfl, h1, h2⟩ := h
  exact .tup (.of h1) (.cons (.int _) (.cons (.int _) (.cons (dp_nats h2) .nil)))
theorem Each.cons_inv {α : Type} {R : V → α → Prop} {v : V} {vs : List V} {l : List α} (h : Each R (v :: vs) l) : ∃ y r, l = y :: r ∧ R v y ∧ Each R vs r := by
  cases l with
  | nil => exact absurd h.1 (by simp)
  | cons y r =>
    obtain ⟨z, h1, h2⟩ := h.2 0 v rfl
    have : y = z := Option.some.inj h1
    subst this
    refine ⟨y, r, rfl, h2, by simpa using h.1, fun i u hu => ?_⟩
    obtain ⟨z, h3, h4⟩ := h.2 (i + 1) u (by simpa using hu)
    exact ⟨z, by simpa using h3, h4⟩
theorem Each.dp {K : PySem.W.Frag} {H : Hp} : ∀ {vs : List V} {l : List Rt}, Each (RtAt H) vs l → DpAll K H vs ((l.map toT).map PySem.W.Datum.toD)
  | [], l, h => by
    have : l = [] := List.length_eq_zero_iff.mp h.1.symm
    subst this
    exact .nil
  | v :: vs, l, h => by
    obtain ⟨y, r, rfl, h1, h2⟩ := h.cons_inv
    exact .cons h1.dp (Each.dp h2)
def rMinR (K : PySem.W.Frag) : List V → Hp → VK → Prop := fun vs H Q => ∃ (a : Addr) (ys : List V) (l : List Rt), vs = [V.ref a] ∧ SqL K H a ys ∧ l ≠ [] ∧ Each (RtAt H) ys l ∧
  ∀ (v : V) (t : Rt), v ∈ ys → t ∈ l → RtAt H v t → (∀ y ∈ l, rtLt y t = false) → Q v H
theorem call_minR {X : Cx} (hc : X.calm = true) (hu : X.A.units + 64 < cLine) : CallR X (.builtin "min") (rMinR X.K) := by
  intro pins s σ H vs us Q I r h
  obtain ⟨a, ys, l, rfl, hs, hne, he, q⟩ := h
  obtain ⟨its, rv, hl, _⟩ := I.list hs
  rw [Vals.ref1 r]
  cases l with
  | nil => exact absurd rfl hne
  | cons x l =>
    obtain ⟨as, rd⟩ := Dp.readsAll I _ _ _ (Each.dp (K := X.K) he) rv
    refine PySem.W.min_list_datum (α := Tri) (x := toT x) (xs := l.map toT) (I.ok.hd hc) hl.isList ⟨as, rd⟩ (Nat.lt_of_le_of_lt (show X.A.units + 1 + PySem.W.Datum.depth Tri ≤ X.A.units + 64 from ?_) hu) fun i v h' tk hi hold hk => ?_
    · show X.A.units + 1 + (max (max 0 0) (0 + 1) + 1) ≤ X.A.units + 64
      have : max (max 0 0) (0 + 1) = 1 := rfl
      omega
    · obtain ⟨bs, hold⟩ := hold
      have hi' : its[i]? = some v := by simpa using hi
      have li : i < its.length := (List.getElem?_eq_some_iff.mp hi').1
      have ly : i < ys.length := by rw [rv.length]; exact li
      have ey : ys[i]? = some ys[i] := List.getElem?_eq_getElem ly
      obtain ⟨w, ew, rw'⟩ := rv.get ey
      have wv : w = v := by rw [hi'] at ew; exact (Option.some.inj ew).symm
      subst wv
      obtain ⟨t, et, ht⟩ := he.2 i _ ey
      obtain ⟨cs, r1, _, _, _⟩ := PySem.W.readsAll_atA (vs := its.toArray) rd i w hi
      have e1 : (((x :: l).map toT).map PySem.W.Datum.toD).getD i PyData.none = PySem.W.Datum.toD (toT t) := by
        rw [List.getD_eq_getElem?_getD, List.getElem?_map, List.getElem?_map, et]
        rfl
      rw [e1] at r1
      have e2 := (Reads.unique (PySem.W.reads_keeps hk r1) _ _ hold).1
      rw [minOf_keep] at e2
      have e3 := toT_inj (toD_inj e2)
      obtain ⟨m1, m2⟩ := keep_least l x
      rw [← e3] at m2
      exact ⟨ys[i], H, I.kept hk, rw', q _ t (List.getElem_mem ly) (List.mem_of_getElem? et) ht m2⟩
end CB
namespace CB
open PySem PySem.Spec PyProof.Rows L2
open PySem.W (Codec)
/-! best_of -/
def asGood (t : Rt) (y : Rt) : Bool := decide (y.1 = t.1) && decide (y.2.1 = t.2.1)
def spBestOf : Sp := fun vs H Q _ => ∃ (a : Addr) (ys : List V) (l : List Rt), vs = [.ref a] ∧ H a = some (.lst ys) ∧ Each (RtAt H) ys l ∧ l ≠ [] ∧ l.length ≤ 10000 ∧ (∀ r ∈ l, r.2.2.length ≤ 4) ∧
  ∀ (H' : Hp) (p : Addr) (t : Rt), Same H H' → H p = none → t ∈ l → (∀ y ∈ l, rtLt y t = false) → H' p = some (.lst (nats (t.1 :: t.2.1 :: (l.filter (asGood t)).length :: t.2.2))) → Q (.ref p) H'
theorem pair_eqv (a b c d : Nat) : PyData.eqv (.tuple [.int (a : Int), .int (b : Int)]) (.tuple [.int (c : Int), .int (d : Int)]) = (decide (a = c) && decide (b = d)) := by
  refine (PySem.W.Datum.eqv ((a : Int), (b : Int)) ((c : Int), (d : Int))).trans ?_
  rw [Bool.eq_iff_iff, Bool.and_eq_true, decide_eq_true_eq, decide_eq_true_eq, decide_eq_true_eq, Prod.mk.injEq]
  omega
section
variable {P : Program} {w : World} {K : PySem.W.Frag} {mg : Str → Option Value} {base : Heap}
theorem scBO : FnScope ["rated", "best", "as_good", "each"] ["rated"] (defScope sBestOf) := ⟨rfl, rfl, rfl, by decide +kernel, rfl, by decide +kernel, by decide +kernel⟩
theorem ok_bestOf {f : Addr} {fd : FuncData} (F : Fun K "best_of" "best_of" sBestOf f fd) (gM : mg "min" = none) (gL : mg "len" = none) : FnOk P w K mg base CX0 1 f fd ["rated"] spBestOf := by
  refine F.ok scBO (fun vs H Q E h => ?_) (fun cdv A outer s H vs Q E hr h => ?_)
  · obtain ⟨a, ys, l, rfl, _⟩ := h
    rfl
  · obtain ⟨a, ys, l, rfl, ha, he, hne, hn, h4, k⟩ := h
    refine ⟨_, pss_cons (ps_set (i := 1) scBO.nd rfl (Or.inr rfl) (pe_callB (call_minR rfl hr.units) (by rfl) gM (by decide +kernel) (pa_cons (pv 0) pa_nil)))
      (pss_cons (ps_setLc (i := 2) (own := [("each", 3)]) (g := gName 3) (tt := tTest (tOp (rEqD K) (tSl (rSlT K) (tVar 3) tNoPart (tPart (tC (.int 2)))) (tSl (rSlT K) (tVar 1) tNoPart (tPart (tC (.int 2)))))) rfl scBO.nd rfl rfl (sw_true rfl rfl rfl (by decide +kernel)) (pi_list (pv 0))
        (blkOk_by (N := ["rated", "best", "as_good", "each"]) (sc := defScope sBestOf) (by decide +kernel))
        (fun _ _ _ _ _ => pg_name (i := 3) scBO.nd rfl (Or.inl rfl))
        (fun _ _ _ _ _ => pts_one (pt_cmpR (op_eqD hr.units) (pe_slice sl_tup (pv 3) po_none (po_some pe_int)) (pe_slice sl_tup (pv 1) po_none (po_some pe_int)) (nomark _)))
        (fun _ _ _ _ _ => pv 3))
      (pss_one (ps_ret (pe_op op_cat (pe_lst (pa_cons (pe_ix ix_tup (pv 1) pe_int (fun _ _ => rfl)) (pa_cons (pe_ix ix_tup (pv 1) pe_int (fun _ _ => rfl))
        (pa_cons (pe_callB call_len_seq (by rfl) gL PySem.boot_len (pa_cons (pv 2) pa_nil)) pa_nil)))) (pe_ix ix_tup (pv 1) pe_int (fun _ _ => rfl)))))), ?_⟩
    have big : (200000 : Nat) ≤ sizeLine := by decide
    refine ⟨_, rfl, a, ys, l, rfl, .of ha, hne, he, fun v t hv ht rt hl => ?_⟩
    obtain ⟨tb, pb, rfl, htb, hpb⟩ := rt
    refine ⟨_, rfl, a, rfl, ⟨_, .of ha⟩, fun D hD => ?_⟩
    refine lc_list (K := K) (a := a) (xs := ys) (fun i H' => Same H H' ∧ ∃ acc, H' D = some (.lst acc) ∧ acc.length = ((l.take i).filter (asGood t)).length)
      ⟨Same.laid hD, [], upd_same, rfl⟩ (fun i H' _ p => .of (p.1 _ _ ha)) ?_ ?_
    · rintro i v H1 hx ⟨s1, acc, hd, hlen⟩
      obtain ⟨r, hr', te, pe, rfl, hte, hpe⟩ := he.2 i v hx
      have flt : (l.take (i + 1)).filter (asGood t) = (l.take i).filter (asGood t) ++ (if asGood t r = true then [r] else []) := by
        rw [take_snoc hr', List.filter_append]
        congr 1
        by_cases c : asGood t r = true
        · rw [if_pos c, List.filter_cons_of_pos c]; rfl
        · rw [if_neg c, List.filter_cons_of_neg c]; rfl
      refine ⟨rfl, ?_⟩
      refine ⟨_, rfl, _, rfl, te, _, rfl, .of (s1 _ _ hte), (fun q => absurd q.2 (show ¬ (2 : Nat) = 3 by decide)), fun p1 n1 => ?_⟩
      have s2 := Same.laid (o := .tup (cutV [V.int (r.1 : Int), V.int (r.2.1 : Int), V.ref pe] none (some 2))) n1
      have e2 : (upd H1 p1 (.tup (cutV [V.int (r.1 : Int), V.int (r.2.1 : Int), V.ref pe] none (some 2)))) p1 = some (.tup [V.int (r.1 : Int), V.int (r.2.1 : Int)]) := upd_same
      generalize upd H1 p1 (.tup (cutV [V.int (r.1 : Int), V.int (r.2.1 : Int), V.ref pe] none (some 2))) = H2 at s2 e2 ⊢
      refine ⟨_, rfl, _, rfl, tb, _, rfl, .of (s2 _ _ (s1 _ _ htb)), (fun q => absurd q.2 (show ¬ (2 : Nat) = 3 by decide)), fun p2 n2 => ?_⟩
      have s3 := Same.laid (o := .tup (cutV [V.int (t.1 : Int), V.int (t.2.1 : Int), V.ref pb] none (some 2))) n2
      have e3 : (upd H2 p2 (.tup (cutV [V.int (t.1 : Int), V.int (t.2.1 : Int), V.ref pb] none (some 2)))) p2 = some (.tup [V.int (t.1 : Int), V.int (t.2.1 : Int)]) := upd_same
      generalize upd H2 p2 (.tup (cutV [V.int (t.1 : Int), V.int (t.2.1 : Int), V.ref pb] none (some 2))) = H3 at s3 e3 ⊢
      have s13 := s1.trans (s2.trans s3)
      refine ⟨.tuple [.int (r.1 : Int), .int (r.2.1 : Int)], .tuple [.int (t.1 : Int), .int (t.2.1 : Int)], .tup (.of (s3 _ _ e2)) (.cons (.int _) (.cons (.int _) .nil)), .tup (.of e3) (.cons (.int _) (.cons (.int _) .nil)), rfl, rfl, _, rfl, ?_⟩
      rw [pair_eqv]
      have hd3 := s3 _ _ (s2 _ _ hd)
      by_cases c : asGood t r = true
      · rw [show (decide (r.1 = t.1) && decide (r.2.1 = t.2.1)) = true from c]
        refine iteT ?_
        refine ⟨_, rfl, acc, hd3, ?_, s13.trans_upd hD, _, upd_same, ?_⟩
        · rw [hlen]
          have := List.length_filter_le (asGood t) (l.take i)
          rw [List.length_take] at this
          omega
        · rw [flt, if_pos c, List.length_append, List.length_append, hlen]
          rfl
      · rw [show (decide (r.1 = t.1) && decide (r.2.1 = t.2.1)) = false from by simpa [asGood] using c]
        refine iteF ?_
        refine ⟨s13, acc, hd3, ?_⟩
        rw [flt, if_neg c, List.append_nil, hlen]
    · rintro H1 ⟨s1, acc, hd, hlen⟩
      rw [he.1, List.take_length] at hlen
      have htb1 := s1 _ _ htb
      have hpb1 := s1 _ _ hpb
      refine ⟨_, rfl, tb, _, 0, _, rfl, rfl, .of htb1, atI_nat (j := 0) rfl, ?_⟩
      refine ⟨_, rfl, tb, _, 1, _, rfl, rfl, .of htb1, atI_nat (j := 1) rfl, ?_⟩
      refine ⟨_, rfl, D, _, rfl, .inl (.of hd), ?_⟩
      refine ⟨(by show 3 ≤ sizeLine; decide), fun l1 n1 => ?_⟩
      have s2 := Same.laid (o := .lst [V.int (t.1 : Int), V.int (t.2.1 : Int), V.int ((acc.length : Nat) : Int)]) n1
      refine ⟨_, rfl, tb, _, 2, _, rfl, rfl, .of (s2 _ _ htb1), atI_nat (j := 2) rfl, ?_⟩
      refine ⟨l1, pb, _, _, rfl, rfl, upd_same, s2 _ _ hpb1, ?_, fun p np => ?_⟩
      · have := h4 t ht
        rw [nats_len]
        show 3 + t.2.2.length ≤ sizeLine
        omega
      · refine k _ p t (s1.trans (s2.trans (Same.laid np))) ((s1.trans s2).free np) ht hl (upd_same.trans ?_)
        rw [hlen]
        rfl
end
end CB
namespace CB
open PySem PySem.Spec PyProof.Rows L2
open PySem.W (Codec)
open Uw42 (Box Ans)
/-! sum_of, nearest, evenest: the box stays as it is. -/
theorem post_new {C b lc lw : Addr} {cas more : List Addr} {s : Box} {a : Ans} {H H' : Hp} {Q : VK} (B : BoxAt C H b s lc lw cas) (k : BoxPost C H b lc lw cas more (s, a) Q) {p : Addr} (e : Same H H') (hp : H p = none) (hp' : H' p = some (.lst (zs (ansL a)))) : Q (.ref p) H' := by
  refine k _ p lc lw cas (B.keep fun q o hq _ => e q o hq) hp hp' (fun q hq => .inl ?_) fun q o hq _ _ => e q o hq
  simp at hq ⊢
  rcases hq with h | h | h
  · exact .inl h
  · exact .inr (.inl h)
  · exact .inr (.inr (.inl h))
theorem told_mot (s : Box) (p : List Nat) : mot p s.cams.length s.places = s.told p := rfl
theorem zs_ans (n : Nat) (l : List Nat) : zs (ansL ⟨(n : Int), l⟩) = nats (n :: l) := by
  unfold ansL zs nats
  rw [List.map_cons, List.map_cons, List.map_map]
  rfl
def spSumOf (C : Addr) : Sp := fun vs H Q _ => ∃ (b h lc lw : Addr) (cas : List Addr) (s : Box) (l : List Nat), vs = [.ref b, .ref h] ∧ BoxAt C H b s lc lw cas ∧ Good s ∧ H h = some (.lst (nats l)) ∧ BoxPost C H b lc lw cas [] (Uw42.step s (.sum l)) Q
def spBest (C : Addr) (c : Uw42.Call) : Sp := fun vs H Q _ => ∃ (b lc lw : Addr) (cas : List Addr) (s : Box), vs = [.ref b] ∧ BoxAt C H b s lc lw cas ∧ Good s ∧ BoxPost C H b lc lw cas [] (Uw42.step s c) Q
section
variable {P : Program} {w : World} {K : PySem.W.Frag} {mg : Str → Option Value} {base : Heap}
theorem scSu : FnScope ["self", "plan", "motion", "gaps"] ["self", "plan"] (defScope sSumOf) := ⟨rfl, rfl, rfl, by decide +kernel, rfl, by decide +kernel, by decide +kernel⟩
theorem ok_sumOf {f fM fO fG fA fW C : Addr} {fd dM dO dG dA dW : FuncData} (F : Fun K "sum_of" "Box.sum_of" sSumOf f fd) (T : TxtB K mg C)
    (GM : FnOk P w K mg base CX0 1 fM dM ["numbers", "length", "highest"] (spIsMotion K)) (bM : L2.Binds K dM ["numbers", "length", "highest"] []) (gM : mg "is_row" = some (.ref fM)) (kM : PySem.W.keepIn K (.ref fM) = true)
    (GO : FnOk P w K mg base CX0 2 fO dO ["plan", "cams", "places"] (spMotionOf K)) (bO : L2.Binds K dO ["plan", "cams", "places"] []) (gO : mg "motion_of" = some (.ref fO)) (kO : PySem.W.keepIn K (.ref fO) = true)
    (GG : FnOk P w K mg base CX0 1 fG dG ["motion", "wished"] (spGapsOf K)) (bG : L2.Binds K dG ["motion", "wished"] []) (gG : mg "gaps_of" = some (.ref fG)) (kG : PySem.W.keepIn K (.ref fG) = true)
    (GA : FnOk P w K mg base CX0 1 fA dA ["gaps"] (spOffAll K)) (bA : L2.Binds K dA ["gaps"] []) (gA : mg "off_in_all" = some (.ref fA)) (kA : PySem.W.keepIn K (.ref fA) = true)
    (GW : FnOk P w K mg base CX0 1 fW dW ["gaps"] (spOffWorst K)) (bW : L2.Binds K dW ["gaps"] []) (gW : mg "off_at_worst" = some (.ref fW)) (kW : PySem.W.keepIn K (.ref fW) = true) :
    FnOk P w K mg base CX0 3 f fd ["self", "plan"] (spSumOf C) := by
  refine F.ok scSu (fun vs H Q E h => ?_) (fun cdv A outer s H vs Q E hr h => ?_)
  · obtain ⟨b, ha, lc, lw, cas, s, l, rfl, _⟩ := h
    rfl
  · obtain ⟨b, ha, lc, lw, cas, s, l, rfl, B, G, hh, k⟩ := h
    have hr1 : Room 1 _ := hr.mono (by decide)
    obtain ⟨t1, g1⟩ := T.gWrong
    obtain ⟨dx, hb⟩ := B.obj
    refine ⟨_, pss_cons (ps_if (pt_not (pt_val (pe_call GM hr1 rfl gM kM bM .nil pass0 (pa_cons (pv 1) (pa_cons (pe_callB call_len_seq (by rfl) T.len PySem.boot_len (pa_cons (pe_fld (pv 0) rfl) pa_nil)) (pa_cons (pe_fld (pv 0) rfl) pa_nil))))))
        (pss_one (ps_ret (pe_lst (pa_cons (pe_glob (v := .int (-1)) rfl g1 ⟨_, rfl⟩) pa_nil)))) pss_nil)
      (pss_cons (ps_set (i := 2) scSu.nd rfl (Or.inl rfl) (pe_call GO hr rfl gO kO bO .nil pass0 (pa_cons (pv 1) (pa_cons (pe_fld (pv 0) rfl) (pa_cons (pe_fld (pv 0) rfl) pa_nil)))))
      (pss_cons (ps_set (i := 3) scSu.nd rfl (Or.inl rfl) (pe_call GG hr1 rfl gG kG bG .nil pass0 (pa_cons (pv 2) (pa_cons (pe_fld (pv 0) rfl) pa_nil))))
      (pss_one (ps_ret (pe_op op_cat (pe_lst (pa_cons (pe_call GA hr1 rfl gA kA bA .nil pass0 (pa_cons (pv 3) pa_nil)) (pa_cons (pe_call GW hr1 rfl gW kW bW .nil pass0 (pa_cons (pv 3) pa_nil)) pa_nil))) (pv 2)))))), ?_⟩
    refine ⟨_, rfl, _, rfl, b, C, dx, _, _, rfl, hb, T.cl, T.nC, bF_cams _ _ _, lc, _, rfl, .inl (SqL.of B.cl), _, rfl, b, C, dx, _, _, rfl, hb, T.cl, T.nP, bF_places _ _ _, ha, l, _, s.places, rfl, SqL.of hh, _, rfl, ?_⟩
    rw [List.length_map, B.len, told_mot]
    refine ite2 (fun c => ?_) (fun c => ?_)
    · have c : s.told l = false := by simpa using c
      have e : Uw42.step s (.sum l) = (s, Uw42.ok (-1)) := by
        unfold Uw42.step
        exact if_pos c
      rw [e] at k
      exact ⟨by show 1 ≤ sizeLine; decide, fun p hp => post_same B k hp⟩
    have c : s.told l = true := by simpa using c
    have e : Uw42.step s (.sum l) = (s, ⟨((Uw42.off s.wish (s.sum l) : Nat) : Int), Uw42.worst s.wish (s.sum l) :: s.sum l⟩) := by
      unfold Uw42.step
      exact if_neg (by rw [c]; decide)
    rw [e] at k
    have c2 := c
    unfold Box.told at c2
    rw [Bool.and_eq_true, List.all_eq_true] at c2
    have hl : l.length = s.cams.length := by simpa using c2.1
    have hk : ∀ k ∈ l, k ≤ s.places := fun k h => of_decide_eq_true (c2.2 k h)
    have hi := G.hi
    have lo := G.lo
    have lm : (s.sum l).length = s.places := sum_len G l
    have lg : (gap (s.sum l) s.wish).length = s.places := gap_len lm G.wlen
    refine ⟨_, rfl, _, rfl, b, C, dx, _, _, rfl, hb, T.cl, T.nC, bF_cams _ _ _, _, rfl, b, C, dx, _, _, rfl, hb, T.cl, T.nP, bF_places _ _ _, ha, lc, l, cas, s.cams, s.places, rfl, .of hh, ⟨B.cl, B.len, B.cams⟩, fun c h => (G.cams c h).1, G.hi, hl, hk, fun H1 m s1 nm hm => ?_⟩
    rw [mo_box] at hm
    refine ⟨_, rfl, _, rfl, b, C, dx, _, _, rfl, s1 _ _ hb, T.cl, T.nW, bF_wished _ _ _, m, lw, s.sum l, s.wish, rfl, .of hm, .of (s1 _ _ B.wl), by omega, by rw [lm, G.wlen], fun H2 g s2 ng hg => ?_⟩
    refine ⟨_, rfl, g, _, rfl, .of hg, by omega, fun H3 s3 => ?_⟩
    rw [off_gap]
    refine ⟨_, rfl, g, _, rfl, .of (s3 _ _ hg), by omega, by omega, fun H4 z s4 hz hle => ?_⟩
    have ez := worst_gap hz hle
    subst ez
    refine ⟨(by show 2 ≤ sizeLine; decide), fun l1 n1 => ?_⟩
    have s14 := (s2.trans s3).trans s4
    have s5 := Same.laid (o := .lst [V.int ((Uw42.off s.wish (s.sum l) : Nat) : Int), V.int ((Uw42.worst s.wish (s.sum l) : Nat) : Int)]) n1
    refine ⟨_, rfl, l1, m, _, _, rfl, rfl, upd_same, s5 _ _ (s14 _ _ hm), ?_, fun p np => ?_⟩
    · rw [nats_len, lm]
      exact Nat.le_trans (show 2 + s.places ≤ 10 by omega) (by decide)
    · refine post_new B k ((s1.trans s14).trans (s5.trans (Same.laid np))) (((s1.trans s14).trans s5).free np) (upd_same.trans ?_)
      rw [zs_ans]
      rfl
/-- what both have of the rated -/
theorem rated_len (s : Box) (g : Good s) (f : List Nat → Nat) : (rated s f).length ≤ 6561 := by
  have h := withGaps_len (P := s.places) (w := s.wish) (cs := s.cams) g.hi g.few
  unfold withGaps at h
  unfold rated Box.plans
  rw [List.length_map] at h ⊢
  exact h
theorem rated_ne (s : Box) (f : List Nat → Nat) : rated s f ≠ [] := by
  have hm : List.replicate s.cams.length 0 ∈ s.plans := (rows_mem _ _ _).mpr ⟨List.length_replicate .., fun x hx => by rw [(List.mem_replicate.mp hx).2]; exact Nat.zero_le _⟩
  intro h
  unfold rated at h
  rw [List.map_eq_nil_iff.mp h] at hm
  cases hm
theorem rated_few (s : Box) (g : Good s) (f : List Nat → Nat) : ∀ r ∈ rated s f, r.2.2.length ≤ 4 := by
  intro r hr
  obtain ⟨p, hp, rfl⟩ := List.mem_map.mp hr
  have := plan_len hp
  have := g.few
  show p.length ≤ 4
  omega
theorem gaps_at {s : Box} {i : Nat} {x : List Nat × List Int} (h : (withGaps s.places s.wish s.cams)[i]? = some x) : ∃ p, s.plans[i]? = some p ∧ x = (p, gap (s.sum p) s.wish) := by
  unfold withGaps at h
  rw [List.getElem?_map] at h
  cases e : (Uw42.rows s.places s.cams.length)[i]? with
  | none => rw [e] at h; cases h
  | some p => rw [e] at h; exact ⟨p, e, (Option.some.inj h).symm⟩
end
end CB
namespace CB
open PySem PySem.Spec PyProof.Rows L2
open PySem.W (Codec)
open Uw42 (Box Ans)
section
variable {P : Program} {w : World} {K : PySem.W.Frag} {mg : Str → Option Value} {base : Heap}
theorem scNe : FnScope ["self", "plans", "plan", "gaps"] ["self"] (defScope sNearest) := ⟨rfl, rfl, rfl, by decide +kernel, rfl, by decide +kernel, by decide +kernel⟩
theorem ok_nearest {f fP fO fC fB C : Addr} {fd dP dO dC dB : FuncData} (F : Fun K "nearest" "Box.nearest" sNearest f fd) (T : TxtB K mg C)
    (GP : FnOk P w K mg base CX0 3 fP dP ["cams", "wished"] spPlansGaps) (bP : L2.Binds K dP ["cams", "wished"] []) (gP : mg "plans_with_gaps" = some (.ref fP)) (kP : PySem.W.keepIn K (.ref fP) = true)
    (GO : FnOk P w K mg base CX0 1 fO dO ["gaps"] (spOffAll K)) (bO : L2.Binds K dO ["gaps"] []) (gO : mg "off_in_all" = some (.ref fO)) (kO : PySem.W.keepIn K (.ref fO) = true)
    (GC : FnOk P w K mg base CX0 1 fC dC ["plan", "places"] (spCamsOn K)) (bC : L2.Binds K dC ["plan", "places"] []) (gC : mg "cams_on" = some (.ref fC)) (kC : PySem.W.keepIn K (.ref fC) = true)
    (GB : FnOk P w K mg base CX0 1 fB dB ["rated"] spBestOf) (bB : L2.Binds K dB ["rated"] []) (gB : mg "best_of" = some (.ref fB)) (kB : PySem.W.keepIn K (.ref fB) = true) :
    FnOk P w K mg base CX0 4 f fd ["self"] (spBest C .nearest) := by
  refine F.ok scNe (fun vs H Q E h => ?_) (fun cdv A outer s H vs Q E hr h => ?_)
  · obtain ⟨b, lc, lw, cas, s, rfl, _⟩ := h
    rfl
  · obtain ⟨b, lc, lw, cas, s, rfl, B, G, k⟩ := h
    have hr1 : Room 1 _ := hr.mono (by decide)
    obtain ⟨dx, hb⟩ := B.obj
    refine ⟨_, pss_cons (ps_set (i := 1) scNe.nd rfl (Or.inl rfl) (pe_call GP hr rfl gP kP bP .nil pass0 (pa_cons (pe_fld (pv 0) rfl) (pa_cons (pe_fld (pv 0) rfl) pa_nil))))
      (pss_one (ps_ret (pe_call GB hr1 rfl gB kB bB .nil pass0 (pa_cons (pe_lc (own := [("plan", 2), ("gaps", 3)]) (g := gTup K 2 (gCons (gName 2) (gCons (gName 3) gNil))) (tt := tYes) (te := tTup (tCons (tCall (spOffAll K) [] E0 (tCons (tVar 3) tNil)) (tCons (tCall (spCamsOn K) [] E0 (tCons (tVar 2) (tCons (tFld K (tVar 0) "places") tNil))) (tCons (tVar 2) tNil)))) rfl scNe.nd (pi_list (pv 1))
        (blkOk_by (N := ["self", "plans", "plan", "gaps"]) (sc := defScope sNearest) (by decide +kernel))
        (fun _ _ _ _ _ => pg_tup rfl (pgs_cons (pg_name (i := 2) scNe.nd rfl (Or.inl rfl)) (pgs_cons (pg_name (i := 3) scNe.nd rfl (Or.inl rfl)) pgs_nil)))
        (fun _ _ _ _ _ => pts_nil)
        (fun _ _ _ _ _ => pe_tup (pa_cons (pe_call GO hr1 rfl gO kO bO .nil pass0 (pa_cons (pv 3) pa_nil)) (pa_cons (pe_call GC hr1 rfl gC kC bC .nil pass0 (pa_cons (pv 2) (pa_cons (pe_fld (pv 0) rfl) pa_nil))) (pa_cons (pv 2) pa_nil))))) pa_nil)))), ?_⟩
    have lo := G.lo
    have hi := G.hi
    have wl := G.wlen
    have big : (200000 : Nat) ≤ sizeLine := by decide
    refine ⟨_, rfl, b, C, dx, _, _, rfl, hb, T.cl, T.nC, bF_cams _ _ _, _, rfl, b, C, dx, _, _, rfl, hb, T.cl, T.nW, bF_wished _ _ _, lc, lw, cas, s.cams, s.wish, rfl, ⟨B.cl, B.len, B.cams⟩, B.wl, fun c h => by rw [(G.cams c h).1, wl], by omega, G.few, fun H1 pl s1 np hpg => ?_⟩
    rw [wl] at hpg
    obtain ⟨vs, hpl, hvs⟩ := hpg
    refine ⟨_, rfl, pl, rfl, ⟨_, .of hpl⟩, fun D hD => ?_⟩
    refine lc_list (K := K) (a := pl) (xs := vs) (fun i H' => Same H1 H' ∧ ∃ acc, H' D = some (.lst acc) ∧ Each (RtAt (cut H' D)) acc ((rated s (Uw42.off s.wish)).take i))
      ⟨Same.laid hD, [], upd_same, Each.nil⟩ (fun i H' _ p => .of (p.1 _ _ hpl)) ?_ ?_
    · rintro i v H2 hv ⟨s2, acc, hd, hacc⟩
      obtain ⟨x, hx, t, pa, ga, rfl, ht, hpa, hga⟩ := hvs.2 i v hv
      obtain ⟨p, hp, rfl⟩ := gaps_at hx
      have lg : (gap (s.sum p) s.wish).length = s.places := gap_len (sum_len G p) wl
      have er : (rated s (Uw42.off s.wish))[i]? = some (Uw42.off s.wish (s.sum p), Uw42.used s p, p) := by
        unfold rated
        rw [List.getElem?_map, hp]
        rfl
      refine ⟨t, _, rfl, .of (s2 _ _ ht), rfl, _, _, rfl, _, _, rfl, rfl, rfl, ?_⟩
      refine yes_then ?_
      refine ⟨_, rfl, ga, gap (s.sum p) s.wish, rfl, .of (s2 _ _ hga), by omega, fun H3 s3 => ?_⟩
      rw [off_gap]
      have s4 := s2.trans s3
      refine ⟨_, rfl, _, rfl, b, C, dx, _, _, rfl, s4 _ _ (s1 _ _ hb), T.cl, T.nP, bF_places _ _ _, pa, p, s.places, rfl, .of (s4 _ _ hpa), ?_⟩
      rw [used_count]
      refine ⟨_, rfl, (by show 3 ≤ sizeLine; decide), fun T2 nT => ?_⟩
      have s5 := Same.laid (o := .tup [V.int ((Uw42.off s.wish (s.sum p) : Nat) : Int), V.int ((Uw42.used s p : Nat) : Int), V.ref pa]) nT
      have e5 : (upd H3 T2 (.tup [V.int ((Uw42.off s.wish (s.sum p) : Nat) : Int), V.int ((Uw42.used s p : Nat) : Int), V.ref pa])) T2 = some (.tup [V.int ((Uw42.off s.wish (s.sum p) : Nat) : Int), V.int ((Uw42.used s p : Nat) : Int), V.ref pa]) := upd_same
      generalize upd H3 T2 (.tup [V.int ((Uw42.off s.wish (s.sum p) : Nat) : Int), V.int ((Uw42.used s p : Nat) : Int), V.ref pa]) = H5 at s5 e5 ⊢
      have hd3 := s3 _ _ hd
      refine ⟨acc, s5 _ _ hd3, ?_, (s4.trans s5).trans_upd hD, _, upd_same, ?_⟩
      · rw [hacc.1, List.length_take]
        have := rated_len s G (Uw42.off s.wish)
        omega
      · rw [take_snoc er, cut_upd]
        refine (hacc.mono fun v y r => r.same (cut_same (s3.trans s5))).snoc ⟨T2, pa, rfl, ?_, ?_⟩
        · rw [cut_ne fun e => by rw [e, hd3] at nT; cases nT]
          exact e5
        · rw [cut_ne (ne_of_none hpa hD)]
          exact s5 _ _ (s4 _ _ hpa)
    · rintro H2 ⟨s2, acc, hd, hacc⟩
      have el : vs.length = (rated s (Uw42.off s.wish)).length := by
        rw [hvs.1]
        unfold withGaps rated Box.plans
        rw [List.length_map, List.length_map]
      rw [el, List.take_length] at hacc
      refine ⟨D, acc, rated s (Uw42.off s.wish), rfl, hd, hacc.mono fun v y r => r.same cut_in, rated_ne _ _, Nat.le_trans (rated_len s G _) (by decide), rated_few s G _, fun H3 p t s3 npp ht hl hp => ?_⟩
      have e : Uw42.step s .nearest = (s, ⟨((t.1 : Nat) : Int), t.2.1 :: ((rated s (Uw42.off s.wish)).filter (asGood t)).length :: t.2.2⟩) := by
        show (s, Uw42.toldBest (s.bestBy (Uw42.off s.wish))) = _
        rw [bestBy_least s (Uw42.off s.wish) ht hl]
        rfl
      rw [e] at k
      refine post_new B k ((s1.trans s2).trans s3) ((s1.trans s2).free npp) (hp.trans ?_)
      rw [zs_ans]
theorem scEv : FnScope ["self", "plans", "plan", "gaps"] ["self"] (defScope sEvenest) := ⟨rfl, rfl, rfl, by decide +kernel, rfl, by decide +kernel, by decide +kernel⟩
theorem ok_evenest {f fP fO fC fB C : Addr} {fd dP dO dC dB : FuncData} (F : Fun K "evenest" "Box.evenest" sEvenest f fd) (T : TxtB K mg C)
    (GP : FnOk P w K mg base CX0 3 fP dP ["cams", "wished"] spPlansGaps) (bP : L2.Binds K dP ["cams", "wished"] []) (gP : mg "plans_with_gaps" = some (.ref fP)) (kP : PySem.W.keepIn K (.ref fP) = true)
    (GO : FnOk P w K mg base CX0 1 fO dO ["gaps"] (spOffWorst K)) (bO : L2.Binds K dO ["gaps"] []) (gO : mg "off_at_worst" = some (.ref fO)) (kO : PySem.W.keepIn K (.ref fO) = true)
    (GC : FnOk P w K mg base CX0 1 fC dC ["plan", "places"] (spCamsOn K)) (bC : L2.Binds K dC ["plan", "places"] []) (gC : mg "cams_on" = some (.ref fC)) (kC : PySem.W.keepIn K (.ref fC) = true)
    (GB : FnOk P w K mg base CX0 1 fB dB ["rated"] spBestOf) (bB : L2.Binds K dB ["rated"] []) (gB : mg "best_of" = some (.ref fB)) (kB : PySem.W.keepIn K (.ref fB) = true) :
    FnOk P w K mg base CX0 4 f fd ["self"] (spBest C .evenest) := by
  refine F.ok scEv (fun vs H Q E h => ?_) (fun cdv A outer s H vs Q E hr h => ?_)
  · obtain ⟨b, lc, lw, cas, s, rfl, _⟩ := h
    rfl
  · obtain ⟨b, lc, lw, cas, s, rfl, B, G, k⟩ := h
    have hr1 : Room 1 _ := hr.mono (by decide)
    obtain ⟨dx, hb⟩ := B.obj
    refine ⟨_, pss_cons (ps_set (i := 1) scEv.nd rfl (Or.inl rfl) (pe_call GP hr rfl gP kP bP .nil pass0 (pa_cons (pe_fld (pv 0) rfl) (pa_cons (pe_fld (pv 0) rfl) pa_nil))))
      (pss_one (ps_ret (pe_call GB hr1 rfl gB kB bB .nil pass0 (pa_cons (pe_lc (own := [("plan", 2), ("gaps", 3)]) (g := gTup K 2 (gCons (gName 2) (gCons (gName 3) gNil))) (tt := tYes) (te := tTup (tCons (tCall (spOffWorst K) [] E0 (tCons (tVar 3) tNil)) (tCons (tCall (spCamsOn K) [] E0 (tCons (tVar 2) (tCons (tFld K (tVar 0) "places") tNil))) (tCons (tVar 2) tNil)))) rfl scEv.nd (pi_list (pv 1))
        (blkOk_by (N := ["self", "plans", "plan", "gaps"]) (sc := defScope sEvenest) (by decide +kernel))
        (fun _ _ _ _ _ => pg_tup rfl (pgs_cons (pg_name (i := 2) scEv.nd rfl (Or.inl rfl)) (pgs_cons (pg_name (i := 3) scEv.nd rfl (Or.inl rfl)) pgs_nil)))
        (fun _ _ _ _ _ => pts_nil)
        (fun _ _ _ _ _ => pe_tup (pa_cons (pe_call GO hr1 rfl gO kO bO .nil pass0 (pa_cons (pv 3) pa_nil)) (pa_cons (pe_call GC hr1 rfl gC kC bC .nil pass0 (pa_cons (pv 2) (pa_cons (pe_fld (pv 0) rfl) pa_nil))) (pa_cons (pv 2) pa_nil))))) pa_nil)))), ?_⟩
    have lo := G.lo
    have hi := G.hi
    have wl := G.wlen
    have big : (200000 : Nat) ≤ sizeLine := by decide
    refine ⟨_, rfl, b, C, dx, _, _, rfl, hb, T.cl, T.nC, bF_cams _ _ _, _, rfl, b, C, dx, _, _, rfl, hb, T.cl, T.nW, bF_wished _ _ _, lc, lw, cas, s.cams, s.wish, rfl, ⟨B.cl, B.len, B.cams⟩, B.wl, fun c h => by rw [(G.cams c h).1, wl], by omega, G.few, fun H1 pl s1 np hpg => ?_⟩
    rw [wl] at hpg
    obtain ⟨vs, hpl, hvs⟩ := hpg
    refine ⟨_, rfl, pl, rfl, ⟨_, .of hpl⟩, fun D hD => ?_⟩
    refine lc_list (K := K) (a := pl) (xs := vs) (fun i H' => Same H1 H' ∧ ∃ acc, H' D = some (.lst acc) ∧ Each (RtAt (cut H' D)) acc ((rated s (Uw42.worst s.wish)).take i))
      ⟨Same.laid hD, [], upd_same, Each.nil⟩ (fun i H' _ p => .of (p.1 _ _ hpl)) ?_ ?_
    · rintro i v H2 hv ⟨s2, acc, hd, hacc⟩
      obtain ⟨x, hx, t, pa, ga, rfl, ht, hpa, hga⟩ := hvs.2 i v hv
      obtain ⟨p, hp, rfl⟩ := gaps_at hx
      have lg : (gap (s.sum p) s.wish).length = s.places := gap_len (sum_len G p) wl
      have er : (rated s (Uw42.worst s.wish))[i]? = some (Uw42.worst s.wish (s.sum p), Uw42.used s p, p) := by
        unfold rated
        rw [List.getElem?_map, hp]
        rfl
      refine ⟨t, _, rfl, .of (s2 _ _ ht), rfl, _, _, rfl, _, _, rfl, rfl, rfl, ?_⟩
      refine yes_then ?_
      refine ⟨_, rfl, ga, gap (s.sum p) s.wish, rfl, .of (s2 _ _ hga), by omega, by omega, fun H3 z s3 hz hle => ?_⟩
      have ez := worst_gap hz hle
      subst ez
      have s4 := s2.trans s3
      refine ⟨_, rfl, _, rfl, b, C, dx, _, _, rfl, s4 _ _ (s1 _ _ hb), T.cl, T.nP, bF_places _ _ _, pa, p, s.places, rfl, .of (s4 _ _ hpa), ?_⟩
      rw [used_count]
      refine ⟨_, rfl, (by show 3 ≤ sizeLine; decide), fun T2 nT => ?_⟩
      have s5 := Same.laid (o := .tup [V.int ((Uw42.worst s.wish (s.sum p) : Nat) : Int), V.int ((Uw42.used s p : Nat) : Int), V.ref pa]) nT
      have e5 : (upd H3 T2 (.tup [V.int ((Uw42.worst s.wish (s.sum p) : Nat) : Int), V.int ((Uw42.used s p : Nat) : Int), V.ref pa])) T2 = some (.tup [V.int ((Uw42.worst s.wish (s.sum p) : Nat) : Int), V.int ((Uw42.used s p : Nat) : Int), V.ref pa]) := upd_same
      generalize upd H3 T2 (.tup [V.int ((Uw42.worst s.wish (s.sum p) : Nat) : Int), V.int ((Uw42.used s p : Nat) : Int), V.ref pa]) = H5 at s5 e5 ⊢
      have hd3 := s3 _ _ hd
      refine ⟨acc, s5 _ _ hd3, ?_, (s4.trans s5).trans_upd hD, _, upd_same, ?_⟩
      · rw [hacc.1, List.length_take]
        have := rated_len s G (Uw42.worst s.wish)
        omega
      · rw [take_snoc er, cut_upd]
        refine (hacc.mono fun v y r => r.same (cut_same (s3.trans s5))).snoc ⟨T2, pa, rfl, ?_, ?_⟩
        · rw [cut_ne fun e => by rw [e, hd3] at nT; cases nT]
          exact e5
        · rw [cut_ne (ne_of_none hpa hD)]
          exact s5 _ _ (s4 _ _ hpa)
    · rintro H2 ⟨s2, acc, hd, hacc⟩
      have el : vs.length = (rated s (Uw42.worst s.wish)).length := by
        rw [hvs.1]
        unfold withGaps rated Box.plans
        rw [List.length_map, List.length_map]
      rw [el, List.take_length] at hacc
      refine ⟨D, acc, rated s (Uw42.worst s.wish), rfl, hd, hacc.mono fun v y r => r.same cut_in, rated_ne _ _, Nat.le_trans (rated_len s G _) (by decide), rated_few s G _, fun H3 p t s3 npp ht hl hp => ?_⟩
      have e : Uw42.step s .evenest = (s, ⟨((t.1 : Nat) : Int), t.2.1 :: ((rated s (Uw42.worst s.wish)).filter (asGood t)).length :: t.2.2⟩) := by
        show (s, Uw42.toldBest (s.bestBy (Uw42.worst s.wish))) = _
        rw [bestBy_least s (Uw42.worst s.wish) ht hl]
        rfl
      rw [e] at k
      refine post_new B k ((s1.trans s2).trans s3) ((s1.trans s2).free npp) (hp.trans ?_)
      rw [zs_ans]
end
end CB
namespace CB
open PySem PySem.Spec PyProof.Rows L2
open PySem.W (Codec)
open Uw42 (Box Ans Call)
theorem nats_zs (l : List Nat) : zs (l.map (fun (n : Nat) => (n : Int))) = nats l := by
  unfold zs nats
  rw [List.map_map]
  rfl
def AnsPost (CB CR : Addr) (H : Hp) (b lc lw : Addr) (cas : List Addr) (r a : Addr) (j : Nat) (res : Box × Ans) (Q : VK) : Prop := ∀ (H' : Hp) (p lc' lw' : Addr) (cas' : List Addr), BoxAt CB H' b res.1 lc' lw' cas' → RdAt CR H' r a j →
  H p = none → H' p = some (.lst (zs (ansL res.2))) → (∀ q ∈ lc' :: lw' :: cas', q ∈ lc :: lw :: cas ∨ H q = none) → (∀ q o, H q = some o → q ≠ b → q ≠ lc → q ≠ r → H' q = some o) → Q (.ref p) H'
def spAnswer (K : PySem.W.Frag) (CB CR : Addr) (ok : Call → Prop) : Sp := fun vs H Q _ => ∃ (b lc lw : Addr) (cas : List Addr) (s : Box) (r a : Addr) (l pre : List Int) (c : Call) (rest : List Int), vs = [.ref b, .ref r] ∧ BoxAt CB H b s lc lw cas ∧ Good s ∧
  RdAt CR H r a pre.length ∧ SqL K H a (zs l) ∧ l = pre ++ (enc c ++ rest) ∧ okC c ∧ ok c ∧ AnsPost CB CR H b lc lw cas r a (pre.length + (enc c).length) (Uw42.step s c) Q
structure TxtA (mg : Str → Option Value) : Prop where
  gBegins : ∃ t, mg "BEGINS" = some (.int 0 t)
  gCam : ∃ t, mg "CAM" = some (.int 1 t)
  gWish : ∃ t, mg "WISH" = some (.int 2 t)
  gSum : ∃ t, mg "SUM" = some (.int 3 t)
  gNearest : ∃ t, mg "NEAREST" = some (.int 4 t)
  gEvenest : ∃ t, mg "EVENEST" = some (.int 5 t)
theorem rd_ne_box {CB CR : Addr} {H : Hp} {b r a lc lw : Addr} {i : Nat} {s : Box} {cas : List Addr} (B : BoxAt CB H b s lc lw cas) (R : RdAt CR H r a i) : r ≠ b := by
  intro e
  obtain ⟨dx, h1⟩ := B.obj
  obtain ⟨dr, h2⟩ := R
  rw [e, h1] at h2
  have h3 := Option.some.inj h2
  injection h3 with _ _ h4
  have := congrArg List.length h4
  simp [bF, rF] at this
theorem rd_ne_lst {CR : Addr} {H : Hp} {r a p : Addr} {i : Nat} {xs : List V} (R : RdAt CR H r a i) (h : H p = some (.lst xs)) : r ≠ p := by
  obtain ⟨dr, h2⟩ := R
  exact ne_of h2 h (by intro q; cases q)
theorem But.box {CB CR : Addr} {H H' : Hp} {b r a lc lw : Addr} {i : Nat} {s : Box} {cas : List Addr} (B : BoxAt CB H b s lc lw cas) (R : RdAt CR H r a i) (k : But r H H') : BoxAt CB H' b s lc lw cas := by
  refine B.keep fun q o hq hm => k q o hq fun e => ?_
  rcases hm with rfl | hm
  · exact rd_ne_box B R e.symm
  · obtain ⟨dr, h2⟩ := R
    rcases List.mem_cons.mp hm with rfl | hm
    · exact rd_ne_lst ⟨dr, h2⟩ B.cl e.symm
    rcases List.mem_cons.mp hm with rfl | hm
    · exact rd_ne_lst ⟨dr, h2⟩ B.wl e.symm
    · obtain ⟨i, hi⟩ := List.mem_iff_getElem?.mp hm
      obtain ⟨c, _, h3⟩ := B.cams i q hi
      exact rd_ne_lst ⟨dr, h2⟩ h3 e.symm
/-- what the box's method leaves behind the reader's step -/
theorem post_glue {CB CR : Addr} {H H1 : Hp} {b lc lw : Addr} {cas more : List Addr} {s : Box} {r a : Addr} {i j : Nat} {res : Box × Ans} {Q : VK} (B : BoxAt CB H b s lc lw cas) (R : RdAt CR H r a i) (R1 : RdAt CR H1 r a j) (k1 : But r H H1)
    (hm : ∀ q ∈ more, H q = none) (k : AnsPost CB CR H b lc lw cas r a j res Q) : BoxPost CB H1 b lc lw cas more res Q := by
  have B1 := k1.box B R
  intro H' p lc' lw' cas' B' hp hp' hf hk
  have npr : p ≠ r := fun e => by
    obtain ⟨dr, h2⟩ := R1
    rw [e, h2] at hp
    cases hp
  refine k H' p lc' lw' cas' B' ?_ (k1.free hp npr) hp' (fun q hq => ?_) (fun q o hq h1 h2 h3 => hk q o (k1 q o hq h3) h1 h2)
  · obtain ⟨dr, h2⟩ := R1
    exact ⟨dr, hk _ _ h2 (rd_ne_box B1 ⟨dr, h2⟩) (rd_ne_lst ⟨dr, h2⟩ B1.cl)⟩
  · rcases hf q hq with h | h
    · rcases List.mem_cons.mp h with rfl | h
      · exact .inl (List.mem_cons_self ..)
      rcases List.mem_cons.mp h with rfl | h
      · exact .inl (List.mem_cons_of_mem _ (List.mem_cons_self ..))
      rcases List.mem_append.mp h with h | h
      · exact .inl (List.mem_cons_of_mem _ (List.mem_cons_of_mem _ h))
      · exact .inr (hm q h)
    · refine .inr (k1.free h fun e => ?_)
      obtain ⟨dr, h2⟩ := R1
      rw [e, h2] at h
      cases h
section
variable {P : Program} {w : World} {K : PySem.W.Frag} {mg : Str → Option Value} {base : Heap}
/-- what the def asks of the defs that it calls -/
structure Callees (P : Program) (w : World) (K : PySem.W.Frag) (mg : Str → Option Value) (base : Heap) (CB CR : Addr) where
  (fB fC fW fN fR fS fE fV : Addr)
  (dB dC dW dN dR dS dE dV : FuncData)
  GB : FnOk P w K mg base CX0 1 fB dB ["self", "places"] (spBegins CB)
  GC : FnOk P w K mg base CX0 2 fC dC ["self", "heights"] (spCam CB)
  GW : FnOk P w K mg base CX0 2 fW dW ["self", "heights"] (spWish CB)
  GN : FnOk P w K mg base CX0 1 fN dN ["self"] (spNumber K CR)
  GR : FnOk P w K mg base CX0 2 fR dR ["self"] (spRow K CR)
  GS : FnOk P w K mg base CX0 3 fS dS ["self", "plan"] (spSumOf CB)
  GE : FnOk P w K mg base CX0 4 fE dE ["self"] (spBest CB .nearest)
  GV : FnOk P w K mg base CX0 4 fV dV ["self"] (spBest CB .evenest)
  bB : L2.Binds K dB ["self", "places"] []
  bC : L2.Binds K dC ["self", "heights"] []
  bW : L2.Binds K dW ["self", "heights"] []
  bN : L2.Binds K dN ["self"] []
  bR : L2.Binds K dR ["self"] []
  bS : L2.Binds K dS ["self", "plan"] []
  bE : L2.Binds K dE ["self"] []
  bV : L2.Binds K dV ["self"] []
  mS : Meth K CB "sum_of" fS
  mE : Meth K CB "nearest" fE
  mV : Meth K CB "evenest" fV
  mB : Meth K CB "begins" fB
  mC : Meth K CB "cam" fC
  mW : Meth K CB "wish" fW
  mN : Meth K CR "number" fN
  mR : Meth K CR "row" fR
theorem zs_at {l pre : List Int} {x : Int} {r : List Int} (e : l = pre ++ (x :: r)) : l[pre.length]? = some x := by
  rw [e, List.getElem?_append_right (Nat.le_refl _), Nat.sub_self]
  rfl
theorem scAn : FnScope ["box", "reader", "call"] ["box", "reader"] (defScope sAnswer) := ⟨rfl, rfl, rfl, by decide +kernel, rfl, by decide +kernel, by decide +kernel⟩
theorem ok_answer {f CBa CR : Addr} {fd : FuncData} (F : Fun K "answer" "answer" sAnswer f fd) (TB : TxtB K mg CBa) (TR : TxtR K CR) (TA : TxtA mg) (L : Callees P w K mg base CBa CR) :
    FnOk P w K mg base CX0 5 f fd ["box", "reader"] (spAnswer K CBa CR fun _ => True) := by
  refine F.ok scAn (fun vs H Q E h => ?_) (fun cdv A outer s H vs Q E hr h => ?_)
  · obtain ⟨b, lc, lw, cas, s, r, a, l, pre, c, rest, rfl, _⟩ := h
    rfl
  · obtain ⟨b, lc, lw, cas, s, r, a, l, pre, c, rest, rfl, B, G, R, hS, hl, hok, hearly, k⟩ := h
    obtain ⟨t1, g1⟩ := TA.gBegins
    obtain ⟨t2, g2⟩ := TA.gCam
    obtain ⟨t3, g3⟩ := TA.gWish
    obtain ⟨t4, g4⟩ := TA.gSum
    obtain ⟨t5, g5⟩ := TA.gNearest
    obtain ⟨t6, g6⟩ := TA.gEvenest
    have hr1 : Room 1 _ := hr.mono (by decide)
    have hr2 : Room 2 _ := hr.mono (by decide)
    have hr3 : Room 3 _ := hr.mono (by decide)
    refine ⟨_, pss_cons (ps_set (i := 2) scAn.nd rfl (Or.inl rfl) (pe_meth0 (pv 1) TR.cl L.mN L.GN hr1 L.bN .nil pass0))
      (pss_cons (ps_if (pt_cmpR op_eq (pv 2) (pe_glob (v := .int 0) rfl g1 ⟨_, rfl⟩) (nomark _))
        (pss_one (ps_ret (pe_meth (pv 0) TB.cl L.mB L.GB hr1 L.bB .nil pass0 (pa_cons (pe_meth0 (pv 1) TR.cl L.mN L.GN hr1 L.bN .nil pass0) pa_nil)))) pss_nil)
      (pss_cons (ps_if (pt_cmpR op_eq (pv 2) (pe_glob (v := .int 1) rfl g2 ⟨_, rfl⟩) (nomark _))
        (pss_one (ps_ret (pe_meth (pv 0) TB.cl L.mC L.GC hr2 L.bC .nil pass0 (pa_cons (pe_meth0 (pv 1) TR.cl L.mR L.GR hr2 L.bR .nil pass0) pa_nil)))) pss_nil)
      (pss_cons (ps_if (pt_cmpR op_eq (pv 2) (pe_glob (v := .int 2) rfl g3 ⟨_, rfl⟩) (nomark _))
        (pss_one (ps_ret (pe_meth (pv 0) TB.cl L.mW L.GW hr2 L.bW .nil pass0 (pa_cons (pe_meth0 (pv 1) TR.cl L.mR L.GR hr2 L.bR .nil pass0) pa_nil)))) pss_nil)
      (pss_cons (ps_if (pt_cmpR op_eq (pv 2) (pe_glob (v := .int 3) rfl g4 ⟨_, rfl⟩) (nomark _))
        (pss_one (ps_ret (pe_meth (pv 0) TB.cl L.mS L.GS hr3 L.bS .nil pass0 (pa_cons (pe_meth0 (pv 1) TR.cl L.mR L.GR hr2 L.bR .nil pass0) pa_nil)))) pss_nil)
      (pss_cons (ps_if (pt_cmpR op_eq (pv 2) (pe_glob (v := .int 4) rfl g5 ⟨_, rfl⟩) (nomark _))
        (pss_one (ps_ret (pe_meth0 (pv 0) TB.cl L.mE L.GE hr L.bE .nil pass0))) pss_nil)
      (pss_cons (ps_if (pt_cmpR op_eq (pv 2) (pe_glob (v := .int 5) rfl g6 ⟨_, rfl⟩) (nomark _))
        (pss_one (ps_ret (pe_meth0 (pv 0) TB.cl L.mV L.GV hr L.bV .nil pass0))) pss_nil)
      (pss_one ps_never))))))), ?_⟩
    obtain ⟨dr, hr0⟩ := R
    obtain ⟨z, tl, hz⟩ : ∃ z tl, enc c = z :: tl := by cases c <;> exact ⟨_, _, rfl⟩
    have hz0 : l[pre.length]? = some z := zs_at (r := tl ++ rest) (by rw [hl, hz]; rfl)
    refine ⟨_, rfl, r, dr, _, rfl, hr0, rF_no _ _ (by decide +kernel) (by decide +kernel), r, a, l, pre.length, z, rfl, ⟨dr, hr0⟩, hS, hz0, fun H1 R1 k1 => ?_⟩
    have B1 := k1.box B ⟨dr, hr0⟩
    have hS1 := k1.seq hr0 hS
    obtain ⟨dr1, hr1'⟩ := R1
    obtain ⟨dxb, hb1⟩ := B1.obj
    refine ⟨_, rfl, rfl, _, rfl, ?_⟩
    cases c with
    | begins n =>
      have hz1 : z = 0 := by injection hz with h1 _; exact h1.symm
      subst hz1
      refine iteT ?_
      refine ⟨_, rfl, b, dxb, _, rfl, hb1, bF_no _ _ _ (by decide +kernel) (by decide +kernel) (by decide +kernel), ?_⟩
      refine ⟨_, rfl, r, dr1, _, rfl, hr1', rF_no _ _ (by decide +kernel) (by decide +kernel), r, a, l, pre.length + 1, (n : Int), rfl, ⟨dr1, hr1'⟩, hS1, ?_, fun H2 R2 k2 => ?_⟩
      · have := zs_at (l := l) (pre := pre ++ [0]) (x := (n : Int)) (r := rest) (by rw [hl]; simp [enc])
        rwa [List.length_append] at this
      · exact ⟨b, lc, lw, cas, s, n, rfl, k2.box B1 ⟨dr1, hr1'⟩, post_glue B ⟨dr, hr0⟩ R2 (k1.trans k2) (fun q hq => by cases hq) k⟩
    | cam row =>
      have hz1 : z = 1 := by injection hz with h1 _; exact h1.symm
      subst hz1
      refine iteF ?_
      refine ⟨_, rfl, rfl, _, rfl, iteT ?_⟩
      refine ⟨_, rfl, b, dxb, _, rfl, hb1, bF_no _ _ _ (by decide +kernel) (by decide +kernel) (by decide +kernel), ?_⟩
      refine ⟨_, rfl, r, dr1, _, rfl, hr1', rF_no _ _ (by decide +kernel) (by decide +kernel), r, a, l, pre.length + 1, row.length, rfl, ⟨dr1, hr1'⟩, hS1, ?_, ?_, fun H2 h R2 k2 hh0 hh => ?_⟩
      · have := zs_at (l := l) (pre := pre ++ [1]) (x := (row.length : Int)) (r := row.map (fun (n : Nat) => (n : Int)) ++ rest) (by rw [hl]; simp [enc])
        rwa [List.length_append] at this
      · rw [hl]
        simp [enc]
        omega
      · have ed : ((l.drop (pre.length + 1 + 1)).take row.length) = row.map (fun (n : Nat) => (n : Int)) := by
          rw [hl, List.drop_append, List.drop_eq_nil_of_le (by omega), List.nil_append, show pre.length + 1 + 1 - pre.length = 2 by omega]
          show ((row.map (fun (n : Nat) => (n : Int)) ++ rest)).take row.length = _
          exact List.take_left' (by rw [List.length_map])
        rw [ed, nats_zs] at hh
        have en : pre.length + 1 + 1 + row.length = pre.length + (enc (.cam row)).length := by simp [enc]; omega
        rw [en] at R2
        have nhr : h ≠ r := fun e => by rw [e, hr1'] at hh0; cases hh0
        refine ⟨b, h, lc, lw, cas, s, row, rfl, k2.box B1 ⟨dr1, hr1'⟩, G, hh, fun e => ?_, post_glue B ⟨dr, hr0⟩ R2 (k1.trans k2) (fun q hq => ?_) k⟩
        · rw [e, B1.cl] at hh0
          cases hh0
        · rw [List.mem_singleton.mp hq]
          exact k1.free hh0 nhr
    | wish row =>
      have hz1 : z = 2 := by injection hz with h1 _; exact h1.symm
      subst hz1
      refine iteF ?_
      refine ⟨_, rfl, rfl, _, rfl, iteF ?_⟩
      refine ⟨_, rfl, rfl, _, rfl, iteT ?_⟩
      refine ⟨_, rfl, b, dxb, _, rfl, hb1, bF_no _ _ _ (by decide +kernel) (by decide +kernel) (by decide +kernel), ?_⟩
      refine ⟨_, rfl, r, dr1, _, rfl, hr1', rF_no _ _ (by decide +kernel) (by decide +kernel), r, a, l, pre.length + 1, row.length, rfl, ⟨dr1, hr1'⟩, hS1, ?_, ?_, fun H2 h R2 k2 hh0 hh => ?_⟩
      · have := zs_at (l := l) (pre := pre ++ [2]) (x := (row.length : Int)) (r := row.map (fun (n : Nat) => (n : Int)) ++ rest) (by rw [hl]; simp [enc])
        rwa [List.length_append] at this
      · rw [hl]
        simp [enc]
        omega
      · have ed : ((l.drop (pre.length + 1 + 1)).take row.length) = row.map (fun (n : Nat) => (n : Int)) := by
          rw [hl, List.drop_append, List.drop_eq_nil_of_le (by omega), List.nil_append, show pre.length + 1 + 1 - pre.length = 2 by omega]
          show ((row.map (fun (n : Nat) => (n : Int)) ++ rest)).take row.length = _
          exact List.take_left' (by rw [List.length_map])
        rw [ed, nats_zs] at hh
        have en : pre.length + 1 + 1 + row.length = pre.length + (enc (.wish row)).length := by simp [enc]; omega
        rw [en] at R2
        have nhr : h ≠ r := fun e => by rw [e, hr1'] at hh0; cases hh0
        refine ⟨b, h, lc, lw, cas, s, row, rfl, k2.box B1 ⟨dr1, hr1'⟩, G, hh, fun e => ?_, post_glue B ⟨dr, hr0⟩ R2 (k1.trans k2) (fun q hq => ?_) k⟩
        · rw [e, B1.cl] at hh0
          cases hh0
        · rw [List.mem_singleton.mp hq]
          exact k1.free hh0 nhr
    | sum row =>
      have hz1 : z = 3 := by injection hz with h1 _; exact h1.symm
      subst hz1
      refine iteF ?_
      refine ⟨_, rfl, rfl, _, rfl, iteF ?_⟩
      refine ⟨_, rfl, rfl, _, rfl, iteF ?_⟩
      refine ⟨_, rfl, rfl, _, rfl, iteT ?_⟩
      refine ⟨_, rfl, b, dxb, _, rfl, hb1, bF_no _ _ _ (by decide +kernel) (by decide +kernel) (by decide +kernel), ?_⟩
      refine ⟨_, rfl, r, dr1, _, rfl, hr1', rF_no _ _ (by decide +kernel) (by decide +kernel), r, a, l, pre.length + 1, row.length, rfl, ⟨dr1, hr1'⟩, hS1, ?_, ?_, fun H2 h R2 k2 hh0 hh => ?_⟩
      · have := zs_at (l := l) (pre := pre ++ [3]) (x := (row.length : Int)) (r := row.map (fun (n : Nat) => (n : Int)) ++ rest) (by rw [hl]; simp [enc])
        rwa [List.length_append] at this
      · rw [hl]
        simp [enc]
        omega
      · have ed : ((l.drop (pre.length + 1 + 1)).take row.length) = row.map (fun (n : Nat) => (n : Int)) := by
          rw [hl, List.drop_append, List.drop_eq_nil_of_le (by omega), List.nil_append, show pre.length + 1 + 1 - pre.length = 2 by omega]
          show ((row.map (fun (n : Nat) => (n : Int)) ++ rest)).take row.length = _
          exact List.take_left' (by rw [List.length_map])
        rw [ed, nats_zs] at hh
        have en : pre.length + 1 + 1 + row.length = pre.length + (enc (.sum row)).length := by simp [enc]; omega
        rw [en] at R2
        have nhr : h ≠ r := fun e => by rw [e, hr1'] at hh0; cases hh0
        exact ⟨b, h, lc, lw, cas, s, row, rfl, k2.box B1 ⟨dr1, hr1'⟩, G, hh, post_glue B ⟨dr, hr0⟩ R2 (k1.trans k2) (fun q hq => by cases hq) k⟩
    | nearest =>
      have hz1 : z = 4 := by injection hz with h1 _; exact h1.symm
      subst hz1
      refine iteF ?_
      refine ⟨_, rfl, rfl, _, rfl, iteF ?_⟩
      refine ⟨_, rfl, rfl, _, rfl, iteF ?_⟩
      refine ⟨_, rfl, rfl, _, rfl, iteF ?_⟩
      refine ⟨_, rfl, rfl, _, rfl, iteT ?_⟩
      refine ⟨_, rfl, b, dxb, _, rfl, hb1, bF_no _ _ _ (by decide +kernel) (by decide +kernel) (by decide +kernel), ?_⟩
      exact ⟨b, lc, lw, cas, s, rfl, B1, G, post_glue B ⟨dr, hr0⟩ ⟨dr1, hr1'⟩ k1 (fun q hq => by cases hq) k⟩
    | evenest =>
      have hz1 : z = 5 := by injection hz with h1 _; exact h1.symm
      subst hz1
      refine iteF ?_
      refine ⟨_, rfl, rfl, _, rfl, iteF ?_⟩
      refine ⟨_, rfl, rfl, _, rfl, iteF ?_⟩
      refine ⟨_, rfl, rfl, _, rfl, iteF ?_⟩
      refine ⟨_, rfl, rfl, _, rfl, iteF ?_⟩
      refine ⟨_, rfl, rfl, _, rfl, iteT ?_⟩
      refine ⟨_, rfl, b, dxb, _, rfl, hb1, bF_no _ _ _ (by decide +kernel) (by decide +kernel) (by decide +kernel), ?_⟩
      exact ⟨b, lc, lw, cas, s, rfl, B1, G, post_glue B ⟨dr, hr0⟩ ⟨dr1, hr1'⟩ k1 (fun q hq => by cases hq) k⟩
end
end CB
namespace CB
open PySem PySem.Spec PyProof.Rows L2
open PySem.W (Codec)
open Uw42 (Box Ans Call)
def spAnswers (K : PySem.W.Frag) (ok : Call → Prop) : Sp := fun vs H Q _ => ∃ (a : Addr) (cs : List Call), vs = [.ref a] ∧ SqL K H a (zs (spell cs)) ∧ cs.length ≤ 60 ∧ (∀ c ∈ cs, okC c ∧ ok c) ∧
  ∀ (H' : Hp) (p : Addr), H' p = some (.lst (zs (play Uw42.init cs))) → Q (.ref p) H'
/-- behind some of the calls: THE INVARIANT -/
structure Mid (CB CR : Addr) (ok : Call → Prop) (H0 : Hp) (a b r g : Addr) (all cs : List Call) (σ : L2.St) (H : Hp) (pre : List Int) (s : Box) (out : List Int) (lc lw : Addr) (cas : List Addr) : Prop where
  slots : ∃ v : Option V, σ = [some (.ref a), some (.ref b), some (.ref r), some (.ref g), v]
  text : spell all = pre ++ spell cs
  oks : ∀ c ∈ cs, okC c ∧ ok c
  good : Good s
  box : BoxAt CB H b s lc lw cas
  rd : RdAt CR H r a pre.length
  given : H g = some (.lst (zs out))
  told : out ++ play s cs = play Uw42.init all
  size : out.length + 20 * cs.length ≤ 1200
  same : Same H0 H
  fb : H0 b = none
  fr : H0 r = none
  fg : H0 g = none
  ff : ∀ q ∈ lc :: lw :: cas, H0 q = none
  apart : g ∉ lc :: lw :: cas
theorem Same.all_seq {K : PySem.W.Frag} {H H' : Hp} {a : Addr} {xs : List V} (e : Same H H') (h : SqL K H a xs) : SqL K H' a xs := e.seq h
section
variable {P : Program} {w : World} {K : PySem.W.Frag} {mg : Str → Option Value} {base : Heap}
theorem scAs : FnScope ["calls", "box", "reader", "given", "answered"] ["calls"] (defScope sAnswers) := ⟨rfl, rfl, rfl, by decide +kernel, rfl, by decide +kernel, by decide +kernel⟩
theorem zs_append (x y : List Int) : zs (x ++ y) = zs x ++ zs y := List.map_append
theorem spell_pos {c : Call} {cs : List Call} {pre : List Int} : pre.length < (pre ++ spell (c :: cs)).length := by
  rw [List.length_append, spell_cons, List.length_append]
  cases c <;> (simp [enc]; try omega)
theorem ok_answers {f CBa CR fBI fRI fHM fA : Addr} {fd dBI dRI dHM dA : FuncData} {ok : Call → Prop} (F : Fun K "answers" "answers" sAnswers f fd) (len : mg "len" = none) (TRcl : Cls K CR)
    (MB : Mk K CBa fBI) (MR : Mk K CR fRI) (GBI : FnOk P w K mg base CX0 1 fBI dBI ["self"] (spBoxInit CBa)) (GRI : FnOk P w K mg base CX0 1 fRI dRI ["self", "calls"] (spRdInit CR)) (GHM : FnOk P w K mg base CX0 1 fHM dHM ["self"] (spHasMore K CR))
    (GA : FnOk P w K mg base CX0 5 fA dA ["box", "reader"] (spAnswer K CBa CR ok)) (bBI : L2.Binds K dBI ["self"] []) (bRI : L2.Binds K dRI ["self", "calls"] []) (bHM : L2.Binds K dHM ["self"] []) (bA : L2.Binds K dA ["box", "reader"] [])
    (gB : mg "Box" = some (.ref CBa)) (gR : mg "Reader" = some (.ref CR)) (gA : mg "answer" = some (.ref fA)) (kA : PySem.W.keepIn K (.ref fA) = true) (mHM : Meth K CR "has_more" fHM)
    (short : ∀ (s : Box) (c : Call), Good s → ok c → (ansL (Uw42.step s c).2).length ≤ 12) :
    FnOk P w K mg base CX0 6 f fd ["calls"] (spAnswers K ok) := by
  refine F.ok scAs (fun vs H Q E h => ?_) (fun cdv A outer s H vs Q E hr h => ?_)
  · obtain ⟨a, cs, rfl, _⟩ := h
    rfl
  · obtain ⟨a, all, rfl, hS, hlen, hoks, k⟩ := h
    have hr1 : Room 1 _ := hr.mono (by decide)
    have hr2 : Room 2 _ := hr.mono (by decide)
    refine ⟨_, pss_cons (ps_set (i := 1) scAs.nd rfl (Or.inl rfl) (pe_make0 MB GBI hr2 rfl gB bBI .nil pass0))
      (pss_cons (ps_set (i := 2) scAs.nd rfl (Or.inl rfl) (pe_make MR GRI hr2 rfl gR bRI .nil pass0 (pa_cons (pv 0) pa_nil)))
      (pss_cons (ps_set (i := 3) scAs.nd rfl (Or.inl rfl) (pe_lst pa_nil))
      (pss_cons (ps_while PassesOwn.never (pt_val (pe_meth0 (pv 2) TRcl mHM GHM hr1 bHM .nil pass0))
        (pss_cons (ps_set (i := 4) scAs.nd rfl (Or.inl rfl) (pe_call GA hr rfl gA kA bA .nil pass0 (pa_cons (pv 1) (pa_cons (pv 2) pa_nil))))
        (pss_cons (ps_expr (pe_bm PySem.F.plainAttrs_list PySem.F.slot_list_append PySem.F.type_list_append mt_append (pv 3) (pa_cons (pe_callB call_len_seq (by rfl) len PySem.boot_len (pa_cons (pv 4) pa_nil)) pa_nil)))
        (pss_one (ps_expr (pe_bm PySem.F.plainAttrs_list PySem.F.slot_list_extend PySem.F.type_list_extend mt_extend (pv 3) (pa_cons (pv 4) pa_nil)))))))
      (pss_one (ps_ret (pv 3)))))), ?_⟩
    -- box = Box()
    intro b db nb ndb _
    refine ⟨b, db, rfl, upd_same, fun H1 lc lw B1 nlc nlw k1 => ⟨rfl, ?_⟩⟩
    have s1 : Same H H1 := Same.made nb ndb k1
    have flc : H lc = none := by
      cases e : H lc with
      | none => rfl
      | some o =>
        rw [upd_ne (ne_of_none e nb), upd_ne (ne_of_none e ndb), e] at nlc
        cases nlc
    have flw : H lw = none := by
      cases e : H lw with
      | none => rfl
      | some o =>
        rw [upd_ne (ne_of_none e nb), upd_ne (ne_of_none e ndb), e] at nlw
        cases nlw
    -- reader = Reader(calls)
    refine ⟨_, rfl, ?_⟩
    intro r dr nr ndr _
    refine ⟨r, dr, a, rfl, upd_same, fun H2 R2 k2 => ⟨rfl, ?_⟩⟩
    have s2 : Same H1 H2 := Same.made nr ndr k2
    -- given = []
    refine ⟨Nat.zero_le _, fun g ng => ?_⟩
    have s3 : Same H2 (upd H2 g (.lst [])) := Same.laid ng
    generalize hH3 : upd H2 g (.lst []) = H3 at s3
    have hg3 : H3 g = some (.lst (zs [])) := by rw [← hH3]; exact upd_same
    -- the loop
    obtain ⟨dr2, R2⟩ := R2
    refine ⟨fun m σ H' => ∃ (cs : List Call) (pre : List Int) (s : Box) (out : List Int) (lc lw : Addr) (cas : List Addr), m = cs.length ∧ Mid CBa CR ok H a b r g all cs σ H' pre s out lc lw cas,
      ⟨all.length, all, [], Uw42.init, [], lc, lw, [], rfl, ⟨⟨none, rfl⟩, rfl, hoks, good_init, B1.keep (fun q o hq _ => s3 _ _ (s2 _ _ hq)), ⟨dr2, s3 _ _ R2⟩, hg3, rfl, (by simp; omega), (s1.trans s2).trans s3, nb, s1.free nr, (s1.trans s2).free ng, ?_, ?_⟩⟩, ?_⟩
    · intro q hq
      simp at hq
      rcases hq with rfl | rfl
      · exact flc
      · exact flw
    · intro hq
      simp at hq
      rcases hq with e | e
      · rw [e, s2 _ _ B1.cl] at ng; cases ng
      · rw [e, s2 _ _ B1.wl] at ng; cases ng
    rintro m σ H' ⟨cs, pre, s, out, lc, lw, cas, rfl, M⟩
    obtain ⟨v, rfl⟩ := M.slots
    obtain ⟨dr', hr'⟩ := M.rd
    have hS' := M.same.seq hS
    refine ⟨_, rfl, r, dr', _, rfl, hr', rF_no _ _ (by decide +kernel) (by decide +kernel), r, a, spell all, pre.length, rfl, ⟨dr', hr'⟩, hS', _, rfl, ?_⟩
    cases cs with
    | nil =>
      have e : decide (pre.length < (spell all).length) = false := by
        rw [M.text, spell_nil, List.append_nil]
        simp
      rw [e]
      refine iteF ?_
      refine ⟨_, rfl, k _ g ?_⟩
      have := M.told
      rw [show play s [] = [] from rfl, List.append_nil] at this
      rw [← this]
      exact M.given
    | cons c cs =>
      have e : decide (pre.length < (spell all).length) = true := by
        rw [M.text]
        exact decide_eq_true spell_pos
      rw [e]
      refine iteT ⟨fun σ H' => ∃ (pre : List Int) (s : Box) (out : List Int) (lc lw : Addr) (cas : List Addr), Mid CBa CR ok H a b r g all cs σ H' pre s out lc lw cas, fun σ' H'' ⟨pre, s, out, lc, lw, cas, M⟩ => ⟨cs.length, Nat.lt_succ_self _, cs, pre, s, out, lc, lw, cas, rfl, M⟩, ?_⟩
      have hc := M.oks c (List.mem_cons_self ..)
      refine ⟨_, rfl, _, rfl, b, lc, lw, cas, s, r, a, spell all, pre, c, spell cs, rfl, M.box, M.good, ⟨dr', hr'⟩, hS', M.text, hc.1, hc.2, ?_⟩
      intro H4 p lc' lw' cas' B4 R4 np hp hf hk
      have hgp : g ≠ p := ne_of_none M.given np
      have nz : ∀ {q : Addr}, H' q = none → g ≠ q := fun h => ne_of_none M.given h
      obtain ⟨dxb, hb⟩ := M.box.obj
      have hg4 : H4 g = some (.lst (zs out)) := by
        refine hk _ _ M.given ?_ ?_ ?_
        · exact ne_of M.given hb (by intro q; cases q)
        · intro e; exact M.apart (by rw [e]; exact List.mem_cons_self ..)
        · exact ne_of M.given hr' (by intro q; cases q)
      have sz : (ansL (Uw42.step s c).2).length ≤ 12 := short s c M.good hc.2
      have szo : out.length ≤ 1200 := by have := M.size; omega
      have big : (1300 : Nat) ≤ sizeLine := by decide
      refine ⟨_, rfl, .inl ⟨rfl, _, SqL.of hg4⟩, _, rfl, p, _, rfl, .inl (SqL.of hp), g, _, _, rfl, rfl, hg4, (by rw [zs_len]; omega), ?_⟩
      generalize hH5 : upd H4 g (.lst (zs out ++ [V.int ((zs (ansL (Uw42.step s c).2)).length : Nat)])) = H5
      have hg5 : H5 g = some (.lst (zs out ++ [V.int ((zs (ansL (Uw42.step s c).2)).length : Nat)])) := by rw [← hH5]; exact upd_same
      have k5 : But g H4 H5 := by rw [← hH5]; exact But.upd
      have hp5 : H5 p = some (.lst (zs (ansL (Uw42.step s c).2))) := k5 _ _ hp hgp.symm
      refine ⟨_, rfl, .inl ⟨rfl, _, SqL.of hg5⟩, _, rfl, g, p, _, _, rfl, rfl, hg5, hp5, (by rw [List.length_append, zs_len, zs_len, List.length_singleton]; omega), ?_⟩
      generalize hH6 : upd H5 g (.lst (zs out ++ [V.int ((zs (ansL (Uw42.step s c).2)).length : Nat)] ++ zs (ansL (Uw42.step s c).2))) = H6
      have hg6 : H6 g = some (.lst (zs (out ++ told1 (Uw42.step s c).2))) := by
        rw [← hH6, upd_same, told1_eq, zs_append, zs_len, List.append_assoc]
        rfl
      have k6 : But g H4 H6 := by rw [← hH6]; exact k5.trans But.upd
      have ap : g ∉ lc' :: lw' :: cas' := fun hq => by
        rcases hf g hq with h | h
        · exact M.apart h
        · rw [M.given] at h; cases h
      obtain ⟨dr4, hr4⟩ := R4
      obtain ⟨dx4, hb4⟩ := B4.obj
      refine ⟨pre ++ enc c, (Uw42.step s c).1, out ++ told1 (Uw42.step s c).2, lc', lw', cas', ⟨_, rfl⟩, ?_, fun c' hc' => M.oks c' (List.mem_cons_of_mem _ hc'), good_step M.good c, ?_, ?_, hg6, ?_, ?_, ?_, M.fb, M.fr, M.fg, ?_, ap⟩
      · rw [M.text, spell_cons, List.append_assoc]
      · refine B4.keep fun q o hq hm => k6 q o hq fun e => ?_
        rcases hm with rfl | hm
        · rw [e, hg4] at hb4; cases hb4
        · exact ap (by rw [← e]; exact hm)
      · rw [List.length_append]
        exact ⟨dr4, k6 _ _ hr4 (ne_of hr4 hg4 (by intro q; cases q))⟩
      · rw [List.append_assoc]
        exact M.told
      · have := M.size
        rw [List.length_cons] at this
        rw [List.length_append, told1_eq, List.length_cons]
        omega
      · intro q o hq
        have h1 := M.same q o hq
        have n : ∀ {z : Addr}, H z = none → q ≠ z := fun h => ne_of_none hq h
        exact k6 _ _ (hk q o h1 (n M.fb) (n (M.ff lc (List.mem_cons_self ..))) (n M.fr)) (n M.fg)
      · intro q hq
        rcases hf q hq with h | h
        · exact M.ff q h
        · exact M.same.free h
end
end CB
namespace CB
open PySem PySem.Spec PyProof.Rows L2
open PySem.W (Codec)
open Uw42 (Box Ans Call)
theorem all_mk {P : Program} {w : World} {K : PySem.W.Frag} {h : Heap} {mg : Str → Option Value} {fa CBa CR fTu fTo fMo fGa fOA fOW fCO fOM fPG fBO fM fBI fBe fCa fWi fSu fNe fEv fRI fHM fNu fRo fAn fAs : Addr} (X : K.In h) (G : h.Ns mainGlobals mg) (hfa : mg "answers" = some (.ref fa))
    {odfTu anfTu : Option Addr} {slfTu : Array (Option Value)} {ocfTu kVfTu dcfTu pmfTu cdfTu ctfTu : Value} {odfTo anfTo : Option Addr} {slfTo : Array (Option Value)} {ocfTo kVfTo dcfTo pmfTo cdfTo ctfTo : Value} {odfMo anfMo : Option Addr} {slfMo : Array (Option Value)} {ocfMo kVfMo dcfMo pmfMo cdfMo ctfMo : Value} {odfGa anfGa : Option Addr} {slfGa : Array (Option Value)} {ocfGa kVfGa dcfGa pmfGa cdfGa ctfGa : Value} {odfOA anfOA : Option Addr} {slfOA : Array (Option Value)} {ocfOA kVfOA dcfOA pmfOA cdfOA ctfOA : Value} {odfOW anfOW : Option Addr} {slfOW : Array (Option Value)} {ocfOW kVfOW dcfOW pmfOW cdfOW ctfOW : Value} {odfCO anfCO : Option Addr} {slfCO : Array (Option Value)} {ocfCO kVfCO dcfCO pmfCO cdfCO ctfCO : Value} {odfOM anfOM : Option Addr} {slfOM : Array (Option Value)} {ocfOM kVfOM dcfOM pmfOM cdfOM ctfOM : Value} {odfPG anfPG : Option Addr} {slfPG : Array (Option Value)} {ocfPG kVfPG dcfPG pmfPG cdfPG ctfPG : Value} {odfBO anfBO : Option Addr} {slfBO : Array (Option Value)} {ocfBO kVfBO dcfBO pmfBO cdfBO ctfBO : Value} {odfM anfM : Option Addr} {slfM : Array (Option Value)} {ocfM kVfM dcfM pmfM cdfM ctfM : Value} {odfBI anfBI : Option Addr} {slfBI : Array (Option Value)} {ocfBI kVfBI dcfBI pmfBI cdfBI ctfBI : Value} {odfBe anfBe : Option Addr} {slfBe : Array (Option Value)} {ocfBe kVfBe dcfBe pmfBe cdfBe ctfBe : Value} {odfCa anfCa : Option Addr} {slfCa : Array (Option Value)} {ocfCa kVfCa dcfCa pmfCa cdfCa ctfCa : Value} {odfWi anfWi : Option Addr} {slfWi : Array (Option Value)} {ocfWi kVfWi dcfWi pmfWi cdfWi ctfWi : Value} {odfSu anfSu : Option Addr} {slfSu : Array (Option Value)} {ocfSu kVfSu dcfSu pmfSu cdfSu ctfSu : Value} {odfNe anfNe : Option Addr} {slfNe : Array (Option Value)} {ocfNe kVfNe dcfNe pmfNe cdfNe ctfNe : Value} {odfEv anfEv : Option Addr} {slfEv : Array (Option Value)} {ocfEv kVfEv dcfEv pmfEv cdfEv ctfEv : Value} {odfRI anfRI : Option Addr} {slfRI : Array (Option Value)} {ocfRI kVfRI dcfRI pmfRI cdfRI ctfRI : Value} {odfHM anfHM : Option Addr} {slfHM : Array (Option Value)} {ocfHM kVfHM dcfHM pmfHM cdfHM ctfHM : Value} {odfNu anfNu : Option Addr} {slfNu : Array (Option Value)} {ocfNu kVfNu dcfNu pmfNu cdfNu ctfNu : Value} {odfRo anfRo : Option Addr} {slfRo : Array (Option Value)} {ocfRo kVfRo dcfRo pmfRo cdfRo ctfRo : Value} {odfAn anfAn : Option Addr} {slfAn : Array (Option Value)} {ocfAn kVfAn dcfAn pmfAn cdfAn ctfAn : Value} {odfAs anfAs : Option Addr} {slfAs : Array (Option Value)} {ocfAs kVfAs dcfAs pmfAs cdfAs ctfAs : Value} {tWRONG : Tok} {tFULL : Tok} {tFIRST_PLACES : Tok} {tFEWEST_PLACES : Tok} {tMOST_PLACES : Tok} {tMOST_CAMS : Tok} {tHIGHEST_OF_CAM : Tok} {tHIGHEST_WISHED : Tok} {tBEGINS : Tok} {tCAM : Tok} {tWISH : Tok} {tSUM : Tok} {tNEAREST : Tok} {tEVENEST : Tok}
    (aCBa : PySem.W.nsIn K mainGlobals "Box" = some (some (.ref CBa)))
    (pgCBa : PySem.W.plainGet K CBa Str.empty = true)
    (hdCBa : PySem.W.hasDictIn K CBa = true)
    (poCBa : PySem.W.plainOver K CBa = true)
    (saCBa : PySem.W.findIn K (.ref CBa) "__setattr__" = some (some (.builtin "object.__setattr__")))
    (mkCBa : PySem.W.makesIn K CBa = true)
    (kcCBa : PySem.W.keepIn K (.ref CBa) = true)
    (nCBa_places : PySem.W.findIn K (.ref CBa) "places" = some none)
    (nCBa_cams : PySem.W.findIn K (.ref CBa) "cams" = some none)
    (nCBa_wished : PySem.W.findIn K (.ref CBa) "wished" = some none)
    (aCR : PySem.W.nsIn K mainGlobals "Reader" = some (some (.ref CR)))
    (pgCR : PySem.W.plainGet K CR Str.empty = true)
    (hdCR : PySem.W.hasDictIn K CR = true)
    (poCR : PySem.W.plainOver K CR = true)
    (saCR : PySem.W.findIn K (.ref CR) "__setattr__" = some (some (.builtin "object.__setattr__")))
    (mkCR : PySem.W.makesIn K CR = true)
    (kcCR : PySem.W.keepIn K (.ref CR) = true)
    (nCR_calls : PySem.W.findIn K (.ref CR) "calls" = some none)
    (nCR_at : PySem.W.findIn K (.ref CR) "at" = some none)
    (afTu : PySem.W.nsIn K mainGlobals "turned" = some (some (.ref fTu)))
    (lfTu : K.lookup fTu = some ⟨ocfTu, odfTu, .func (PySem.W.fnOf "turned" "turned" (defArgs sTurned) (defBody sTurned) (defScope sTurned) .none kVfTu dcfTu pmfTu anfTu cdfTu ctfTu), slfTu⟩)
    (cfTu : PySem.W.codeIn K cdfTu "turned" = true)
    (kfTu : PySem.W.keepIn K (.ref fTu) = true)
    (afTo : PySem.W.nsIn K mainGlobals "together" = some (some (.ref fTo)))
    (lfTo : K.lookup fTo = some ⟨ocfTo, odfTo, .func (PySem.W.fnOf "together" "together" (defArgs sTogether) (defBody sTogether) (defScope sTogether) .none kVfTo dcfTo pmfTo anfTo cdfTo ctfTo), slfTo⟩)
    (cfTo : PySem.W.codeIn K cdfTo "together" = true)
    (kfTo : PySem.W.keepIn K (.ref fTo) = true)
    (afMo : PySem.W.nsIn K mainGlobals "motion_of" = some (some (.ref fMo)))
    (lfMo : K.lookup fMo = some ⟨ocfMo, odfMo, .func (PySem.W.fnOf "motion_of" "motion_of" (defArgs sMotionOf) (defBody sMotionOf) (defScope sMotionOf) .none kVfMo dcfMo pmfMo anfMo cdfMo ctfMo), slfMo⟩)
    (cfMo : PySem.W.codeIn K cdfMo "motion_of" = true)
    (kfMo : PySem.W.keepIn K (.ref fMo) = true)
    (afGa : PySem.W.nsIn K mainGlobals "gaps_of" = some (some (.ref fGa)))
    (lfGa : K.lookup fGa = some ⟨ocfGa, odfGa, .func (PySem.W.fnOf "gaps_of" "gaps_of" (defArgs sGapsOf) (defBody sGapsOf) (defScope sGapsOf) .none kVfGa dcfGa pmfGa anfGa cdfGa ctfGa), slfGa⟩)
    (cfGa : PySem.W.codeIn K cdfGa "gaps_of" = true)
    (kfGa : PySem.W.keepIn K (.ref fGa) = true)
    (afOA : PySem.W.nsIn K mainGlobals "off_in_all" = some (some (.ref fOA)))
    (lfOA : K.lookup fOA = some ⟨ocfOA, odfOA, .func (PySem.W.fnOf "off_in_all" "off_in_all" (defArgs sOffAll) (defBody sOffAll) (defScope sOffAll) .none kVfOA dcfOA pmfOA anfOA cdfOA ctfOA), slfOA⟩)
    (cfOA : PySem.W.codeIn K cdfOA "off_in_all" = true)
    (kfOA : PySem.W.keepIn K (.ref fOA) = true)
    (afOW : PySem.W.nsIn K mainGlobals "off_at_worst" = some (some (.ref fOW)))
    (lfOW : K.lookup fOW = some ⟨ocfOW, odfOW, .func (PySem.W.fnOf "off_at_worst" "off_at_worst" (defArgs sOffWorst) (defBody sOffWorst) (defScope sOffWorst) .none kVfOW dcfOW pmfOW anfOW cdfOW ctfOW), slfOW⟩)
    (cfOW : PySem.W.codeIn K cdfOW "off_at_worst" = true)
    (kfOW : PySem.W.keepIn K (.ref fOW) = true)
    (afCO : PySem.W.nsIn K mainGlobals "cams_on" = some (some (.ref fCO)))
    (lfCO : K.lookup fCO = some ⟨ocfCO, odfCO, .func (PySem.W.fnOf "cams_on" "cams_on" (defArgs sCamsOn) (defBody sCamsOn) (defScope sCamsOn) .none kVfCO dcfCO pmfCO anfCO cdfCO ctfCO), slfCO⟩)
    (cfCO : PySem.W.codeIn K cdfCO "cams_on" = true)
    (kfCO : PySem.W.keepIn K (.ref fCO) = true)
    (afOM : PySem.W.nsIn K mainGlobals "with_one_more" = some (some (.ref fOM)))
    (lfOM : K.lookup fOM = some ⟨ocfOM, odfOM, .func (PySem.W.fnOf "with_one_more" "with_one_more" (defArgs sOneMore) (defBody sOneMore) (defScope sOneMore) .none kVfOM dcfOM pmfOM anfOM cdfOM ctfOM), slfOM⟩)
    (cfOM : PySem.W.codeIn K cdfOM "with_one_more" = true)
    (kfOM : PySem.W.keepIn K (.ref fOM) = true)
    (afPG : PySem.W.nsIn K mainGlobals "plans_with_gaps" = some (some (.ref fPG)))
    (lfPG : K.lookup fPG = some ⟨ocfPG, odfPG, .func (PySem.W.fnOf "plans_with_gaps" "plans_with_gaps" (defArgs sPlansGaps) (defBody sPlansGaps) (defScope sPlansGaps) .none kVfPG dcfPG pmfPG anfPG cdfPG ctfPG), slfPG⟩)
    (cfPG : PySem.W.codeIn K cdfPG "plans_with_gaps" = true)
    (kfPG : PySem.W.keepIn K (.ref fPG) = true)
    (afBO : PySem.W.nsIn K mainGlobals "best_of" = some (some (.ref fBO)))
    (lfBO : K.lookup fBO = some ⟨ocfBO, odfBO, .func (PySem.W.fnOf "best_of" "best_of" (defArgs sBestOf) (defBody sBestOf) (defScope sBestOf) .none kVfBO dcfBO pmfBO anfBO cdfBO ctfBO), slfBO⟩)
    (cfBO : PySem.W.codeIn K cdfBO "best_of" = true)
    (kfBO : PySem.W.keepIn K (.ref fBO) = true)
    (afM : PySem.W.nsIn K mainGlobals "is_row" = some (some (.ref fM)))
    (lfM : K.lookup fM = some ⟨ocfM, odfM, .func (PySem.W.fnOf "is_row" "is_row" (defArgs sIsMotion) (defBody sIsMotion) (defScope sIsMotion) .none kVfM dcfM pmfM anfM cdfM ctfM), slfM⟩)
    (cfM : PySem.W.codeIn K cdfM "is_row" = true)
    (kfM : PySem.W.keepIn K (.ref fM) = true)
    (afBI : PySem.W.findIn K (.ref CBa) "__init__" = some (some (.ref fBI)))
    (ifBI : PySem.W.isFn K (.ref fBI) = true)
    (lfBI : K.lookup fBI = some ⟨ocfBI, odfBI, .func (PySem.W.fnOf "__init__" "Box.__init__" (defArgs sBoxInit) (defBody sBoxInit) (defScope sBoxInit) .none kVfBI dcfBI pmfBI anfBI cdfBI ctfBI), slfBI⟩)
    (cfBI : PySem.W.codeIn K cdfBI "Box.__init__" = true)
    (kfBI : PySem.W.keepIn K (.ref fBI) = true)
    (afBe : PySem.W.findIn K (.ref CBa) "begins" = some (some (.ref fBe)))
    (ifBe : PySem.W.isFn K (.ref fBe) = true)
    (lfBe : K.lookup fBe = some ⟨ocfBe, odfBe, .func (PySem.W.fnOf "begins" "Box.begins" (defArgs sBegins) (defBody sBegins) (defScope sBegins) .none kVfBe dcfBe pmfBe anfBe cdfBe ctfBe), slfBe⟩)
    (cfBe : PySem.W.codeIn K cdfBe "Box.begins" = true)
    (kfBe : PySem.W.keepIn K (.ref fBe) = true)
    (afCa : PySem.W.findIn K (.ref CBa) "cam" = some (some (.ref fCa)))
    (ifCa : PySem.W.isFn K (.ref fCa) = true)
    (lfCa : K.lookup fCa = some ⟨ocfCa, odfCa, .func (PySem.W.fnOf "cam" "Box.cam" (defArgs sCam) (defBody sCam) (defScope sCam) .none kVfCa dcfCa pmfCa anfCa cdfCa ctfCa), slfCa⟩)
    (cfCa : PySem.W.codeIn K cdfCa "Box.cam" = true)
    (kfCa : PySem.W.keepIn K (.ref fCa) = true)
    (afWi : PySem.W.findIn K (.ref CBa) "wish" = some (some (.ref fWi)))
    (ifWi : PySem.W.isFn K (.ref fWi) = true)
    (lfWi : K.lookup fWi = some ⟨ocfWi, odfWi, .func (PySem.W.fnOf "wish" "Box.wish" (defArgs sWish) (defBody sWish) (defScope sWish) .none kVfWi dcfWi pmfWi anfWi cdfWi ctfWi), slfWi⟩)
    (cfWi : PySem.W.codeIn K cdfWi "Box.wish" = true)
    (kfWi : PySem.W.keepIn K (.ref fWi) = true)
    (afSu : PySem.W.findIn K (.ref CBa) "sum_of" = some (some (.ref fSu)))
    (ifSu : PySem.W.isFn K (.ref fSu) = true)
    (lfSu : K.lookup fSu = some ⟨ocfSu, odfSu, .func (PySem.W.fnOf "sum_of" "Box.sum_of" (defArgs sSumOf) (defBody sSumOf) (defScope sSumOf) .none kVfSu dcfSu pmfSu anfSu cdfSu ctfSu), slfSu⟩)
    (cfSu : PySem.W.codeIn K cdfSu "Box.sum_of" = true)
    (kfSu : PySem.W.keepIn K (.ref fSu) = true)
    (afNe : PySem.W.findIn K (.ref CBa) "nearest" = some (some (.ref fNe)))
    (ifNe : PySem.W.isFn K (.ref fNe) = true)
    (lfNe : K.lookup fNe = some ⟨ocfNe, odfNe, .func (PySem.W.fnOf "nearest" "Box.nearest" (defArgs sNearest) (defBody sNearest) (defScope sNearest) .none kVfNe dcfNe pmfNe anfNe cdfNe ctfNe), slfNe⟩)
    (cfNe : PySem.W.codeIn K cdfNe "Box.nearest" = true)
    (kfNe : PySem.W.keepIn K (.ref fNe) = true)
    (afEv : PySem.W.findIn K (.ref CBa) "evenest" = some (some (.ref fEv)))
    (ifEv : PySem.W.isFn K (.ref fEv) = true)
    (lfEv : K.lookup fEv = some ⟨ocfEv, odfEv, .func (PySem.W.fnOf "evenest" "Box.evenest" (defArgs sEvenest) (defBody sEvenest) (defScope sEvenest) .none kVfEv dcfEv pmfEv anfEv cdfEv ctfEv), slfEv⟩)
    (cfEv : PySem.W.codeIn K cdfEv "Box.evenest" = true)
    (kfEv : PySem.W.keepIn K (.ref fEv) = true)
    (afRI : PySem.W.findIn K (.ref CR) "__init__" = some (some (.ref fRI)))
    (ifRI : PySem.W.isFn K (.ref fRI) = true)
    (lfRI : K.lookup fRI = some ⟨ocfRI, odfRI, .func (PySem.W.fnOf "__init__" "Reader.__init__" (defArgs sRdInit) (defBody sRdInit) (defScope sRdInit) .none kVfRI dcfRI pmfRI anfRI cdfRI ctfRI), slfRI⟩)
    (cfRI : PySem.W.codeIn K cdfRI "Reader.__init__" = true)
    (kfRI : PySem.W.keepIn K (.ref fRI) = true)
    (afHM : PySem.W.findIn K (.ref CR) "has_more" = some (some (.ref fHM)))
    (ifHM : PySem.W.isFn K (.ref fHM) = true)
    (lfHM : K.lookup fHM = some ⟨ocfHM, odfHM, .func (PySem.W.fnOf "has_more" "Reader.has_more" (defArgs sHasMore) (defBody sHasMore) (defScope sHasMore) .none kVfHM dcfHM pmfHM anfHM cdfHM ctfHM), slfHM⟩)
    (cfHM : PySem.W.codeIn K cdfHM "Reader.has_more" = true)
    (kfHM : PySem.W.keepIn K (.ref fHM) = true)
    (afNu : PySem.W.findIn K (.ref CR) "number" = some (some (.ref fNu)))
    (ifNu : PySem.W.isFn K (.ref fNu) = true)
    (lfNu : K.lookup fNu = some ⟨ocfNu, odfNu, .func (PySem.W.fnOf "number" "Reader.number" (defArgs sNumber) (defBody sNumber) (defScope sNumber) .none kVfNu dcfNu pmfNu anfNu cdfNu ctfNu), slfNu⟩)
    (cfNu : PySem.W.codeIn K cdfNu "Reader.number" = true)
    (kfNu : PySem.W.keepIn K (.ref fNu) = true)
    (afRo : PySem.W.findIn K (.ref CR) "row" = some (some (.ref fRo)))
    (ifRo : PySem.W.isFn K (.ref fRo) = true)
    (lfRo : K.lookup fRo = some ⟨ocfRo, odfRo, .func (PySem.W.fnOf "row" "Reader.row" (defArgs sRow) (defBody sRow) (defScope sRow) .none kVfRo dcfRo pmfRo anfRo cdfRo ctfRo), slfRo⟩)
    (cfRo : PySem.W.codeIn K cdfRo "Reader.row" = true)
    (kfRo : PySem.W.keepIn K (.ref fRo) = true)
    (afAn : PySem.W.nsIn K mainGlobals "answer" = some (some (.ref fAn)))
    (lfAn : K.lookup fAn = some ⟨ocfAn, odfAn, .func (PySem.W.fnOf "answer" "answer" (defArgs sAnswer) (defBody sAnswer) (defScope sAnswer) .none kVfAn dcfAn pmfAn anfAn cdfAn ctfAn), slfAn⟩)
    (cfAn : PySem.W.codeIn K cdfAn "answer" = true)
    (kfAn : PySem.W.keepIn K (.ref fAn) = true)
    (afAs : PySem.W.nsIn K mainGlobals "answers" = some (some (.ref fAs)))
    (lfAs : K.lookup fAs = some ⟨ocfAs, odfAs, .func (PySem.W.fnOf "answers" "answers" (defArgs sAnswers) (defBody sAnswers) (defScope sAnswers) .none kVfAs dcfAs pmfAs anfAs cdfAs ctfAs), slfAs⟩)
    (cfAs : PySem.W.codeIn K cdfAs "answers" = true)
    (kfAs : PySem.W.keepIn K (.ref fAs) = true)
    (gWRONG : PySem.W.nsIn K mainGlobals "WRONG" = some (some (.int (-1) tWRONG)))
    (gFULL : PySem.W.nsIn K mainGlobals "FULL" = some (some (.int (-5) tFULL)))
    (gFIRST_PLACES : PySem.W.nsIn K mainGlobals "FIRST_PLACES" = some (some (.int (2) tFIRST_PLACES)))
    (gFEWEST_PLACES : PySem.W.nsIn K mainGlobals "FEWEST_PLACES" = some (some (.int (2) tFEWEST_PLACES)))
    (gMOST_PLACES : PySem.W.nsIn K mainGlobals "MOST_PLACES" = some (some (.int (8) tMOST_PLACES)))
    (gMOST_CAMS : PySem.W.nsIn K mainGlobals "MOST_CAMS" = some (some (.int (4) tMOST_CAMS)))
    (gHIGHEST_OF_CAM : PySem.W.nsIn K mainGlobals "HIGHEST_OF_CAM" = some (some (.int (100) tHIGHEST_OF_CAM)))
    (gHIGHEST_WISHED : PySem.W.nsIn K mainGlobals "HIGHEST_WISHED" = some (some (.int (400) tHIGHEST_WISHED)))
    (gBEGINS : PySem.W.nsIn K mainGlobals "BEGINS" = some (some (.int (0) tBEGINS)))
    (gCAM : PySem.W.nsIn K mainGlobals "CAM" = some (some (.int (1) tCAM)))
    (gWISH : PySem.W.nsIn K mainGlobals "WISH" = some (some (.int (2) tWISH)))
    (gSUM : PySem.W.nsIn K mainGlobals "SUM" = some (some (.int (3) tSUM)))
    (gNEAREST : PySem.W.nsIn K mainGlobals "NEAREST" = some (some (.int (4) tNEAREST)))
    (gEVENEST : PySem.W.nsIn K mainGlobals "EVENEST" = some (some (.int (5) tEVENEST)))
    (zlen : PySem.W.nsIn K mainGlobals "len" = some none)
    (zzip : PySem.W.nsIn K mainGlobals "zip" = some none)
    (zsum : PySem.W.nsIn K mainGlobals "sum" = some none)
    (zabs : PySem.W.nsIn K mainGlobals "abs" = some none)
    (zmax : PySem.W.nsIn K mainGlobals "max" = some none)
    (zmin : PySem.W.nsIn K mainGlobals "min" = some none)
    (zrange : PySem.W.nsIn K mainGlobals "range" = some none)
    (zenumerate : PySem.W.nsIn K mainGlobals "enumerate" = some none)
    : ∃ fd : FuncData, (∀ (s : Shared) (us : List Value), us.length = (["calls"] : List Str).length → BindsTo s fd ⟨us, []⟩ ((["calls"] : List Str).zip us)) ∧ ∀ base : Heap, K.In base → base.Ns mainGlobals mg → FnOk P w K mg base CX0 6 fa fd ["calls"] (spAnswers K fun _ => True) := by
  have e := hfa.symm.trans (PySem.W.mg_of X G afAs)
  cases e
  have FfTu := fun_mk (st := sTurned) lfTu cfTu kfTu
  have bfTu := FfTu.binds (ps := ["heights", "by"]) fun _ _ _ _ _ _ us hl => match us, hl with | [_, _], _ => rfl
  have FfTo := fun_mk (st := sTogether) lfTo cfTo kfTo
  have bfTo := FfTo.binds (ps := ["heights", "others"]) fun _ _ _ _ _ _ us hl => match us, hl with | [_, _], _ => rfl
  have FfMo := fun_mk (st := sMotionOf) lfMo cfMo kfMo
  have bfMo := FfMo.binds (ps := ["plan", "cams", "places"]) fun _ _ _ _ _ _ us hl => match us, hl with | [_, _, _], _ => rfl
  have FfGa := fun_mk (st := sGapsOf) lfGa cfGa kfGa
  have bfGa := FfGa.binds (ps := ["motion", "wished"]) fun _ _ _ _ _ _ us hl => match us, hl with | [_, _], _ => rfl
  have FfOA := fun_mk (st := sOffAll) lfOA cfOA kfOA
  have bfOA := FfOA.binds (ps := ["gaps"]) fun _ _ _ _ _ _ us hl => match us, hl with | [_], _ => rfl
  have FfOW := fun_mk (st := sOffWorst) lfOW cfOW kfOW
  have bfOW := FfOW.binds (ps := ["gaps"]) fun _ _ _ _ _ _ us hl => match us, hl with | [_], _ => rfl
  have FfCO := fun_mk (st := sCamsOn) lfCO cfCO kfCO
  have bfCO := FfCO.binds (ps := ["plan", "places"]) fun _ _ _ _ _ _ us hl => match us, hl with | [_, _], _ => rfl
  have FfOM := fun_mk (st := sOneMore) lfOM cfOM kfOM
  have bfOM := FfOM.binds (ps := ["plans", "cam"]) fun _ _ _ _ _ _ us hl => match us, hl with | [_, _], _ => rfl
  have FfPG := fun_mk (st := sPlansGaps) lfPG cfPG kfPG
  have bfPG := FfPG.binds (ps := ["cams", "wished"]) fun _ _ _ _ _ _ us hl => match us, hl with | [_, _], _ => rfl
  have FfBO := fun_mk (st := sBestOf) lfBO cfBO kfBO
  have bfBO := FfBO.binds (ps := ["rated"]) fun _ _ _ _ _ _ us hl => match us, hl with | [_], _ => rfl
  have FfM := fun_mk (st := sIsMotion) lfM cfM kfM
  have bfM := FfM.binds (ps := ["numbers", "length", "highest"]) fun _ _ _ _ _ _ us hl => match us, hl with | [_, _, _], _ => rfl
  have FfBI := fun_mk (st := sBoxInit) lfBI cfBI kfBI
  have bfBI := FfBI.binds (ps := ["self"]) fun _ _ _ _ _ _ us hl => match us, hl with | [_], _ => rfl
  have FfBe := fun_mk (st := sBegins) lfBe cfBe kfBe
  have bfBe := FfBe.binds (ps := ["self", "places"]) fun _ _ _ _ _ _ us hl => match us, hl with | [_, _], _ => rfl
  have FfCa := fun_mk (st := sCam) lfCa cfCa kfCa
  have bfCa := FfCa.binds (ps := ["self", "heights"]) fun _ _ _ _ _ _ us hl => match us, hl with | [_, _], _ => rfl
  have FfWi := fun_mk (st := sWish) lfWi cfWi kfWi
  have bfWi := FfWi.binds (ps := ["self", "heights"]) fun _ _ _ _ _ _ us hl => match us, hl with | [_, _], _ => rfl
  have FfSu := fun_mk (st := sSumOf) lfSu cfSu kfSu
  have bfSu := FfSu.binds (ps := ["self", "plan"]) fun _ _ _ _ _ _ us hl => match us, hl with | [_, _], _ => rfl
  have FfNe := fun_mk (st := sNearest) lfNe cfNe kfNe
  have bfNe := FfNe.binds (ps := ["self"]) fun _ _ _ _ _ _ us hl => match us, hl with | [_], _ => rfl
  have FfEv := fun_mk (st := sEvenest) lfEv cfEv kfEv
  have bfEv := FfEv.binds (ps := ["self"]) fun _ _ _ _ _ _ us hl => match us, hl with | [_], _ => rfl
  have FfRI := fun_mk (st := sRdInit) lfRI cfRI kfRI
  have bfRI := FfRI.binds (ps := ["self", "calls"]) fun _ _ _ _ _ _ us hl => match us, hl with | [_, _], _ => rfl
  have FfHM := fun_mk (st := sHasMore) lfHM cfHM kfHM
  have bfHM := FfHM.binds (ps := ["self"]) fun _ _ _ _ _ _ us hl => match us, hl with | [_], _ => rfl
  have FfNu := fun_mk (st := sNumber) lfNu cfNu kfNu
  have bfNu := FfNu.binds (ps := ["self"]) fun _ _ _ _ _ _ us hl => match us, hl with | [_], _ => rfl
  have FfRo := fun_mk (st := sRow) lfRo cfRo kfRo
  have bfRo := FfRo.binds (ps := ["self"]) fun _ _ _ _ _ _ us hl => match us, hl with | [_], _ => rfl
  have FfAn := fun_mk (st := sAnswer) lfAn cfAn kfAn
  have bfAn := FfAn.binds (ps := ["box", "reader"]) fun _ _ _ _ _ _ us hl => match us, hl with | [_, _], _ => rfl
  have FfAs := fun_mk (st := sAnswers) lfAs cfAs kfAs
  have bfAs := FfAs.binds (ps := ["calls"]) fun _ _ _ _ _ _ us hl => match us, hl with | [_], _ => rfl
  have TB : TxtB K mg CBa := ⟨⟨pgCBa, hdCBa, poCBa, saCBa⟩, nCBa_places, nCBa_cams, nCBa_wished, PySem.W.mg_none_of X G zlen, ⟨_, PySem.W.mg_of X G gWRONG⟩, ⟨_, PySem.W.mg_of X G gFULL⟩, ⟨_, PySem.W.mg_of X G gFIRST_PLACES⟩, ⟨_, PySem.W.mg_of X G gFEWEST_PLACES⟩, ⟨_, PySem.W.mg_of X G gMOST_PLACES⟩, ⟨_, PySem.W.mg_of X G gMOST_CAMS⟩, ⟨_, PySem.W.mg_of X G gHIGHEST_OF_CAM⟩, ⟨_, PySem.W.mg_of X G gHIGHEST_WISHED⟩⟩
  have TR : TxtR K CR := ⟨⟨pgCR, hdCR, poCR, saCR⟩, nCR_calls, nCR_at⟩
  have TA : TxtA mg := ⟨⟨_, PySem.W.mg_of X G gBEGINS⟩, ⟨_, PySem.W.mg_of X G gCAM⟩, ⟨_, PySem.W.mg_of X G gWISH⟩, ⟨_, PySem.W.mg_of X G gSUM⟩, ⟨_, PySem.W.mg_of X G gNEAREST⟩, ⟨_, PySem.W.mg_of X G gEVENEST⟩⟩
  have gM := PySem.W.mg_of X G afM
  have mTu := PySem.W.mg_of X G afTu
  have mTo := PySem.W.mg_of X G afTo
  have mMo := PySem.W.mg_of X G afMo
  have mGa := PySem.W.mg_of X G afGa
  have mOA := PySem.W.mg_of X G afOA
  have mOW := PySem.W.mg_of X G afOW
  have mCO := PySem.W.mg_of X G afCO
  have mOM := PySem.W.mg_of X G afOM
  have mPG := PySem.W.mg_of X G afPG
  have mBO := PySem.W.mg_of X G afBO
  have z_zip := PySem.W.mg_none_of X G zzip
  have z_sum := PySem.W.mg_none_of X G zsum
  have z_abs := PySem.W.mg_none_of X G zabs
  have z_max := PySem.W.mg_none_of X G zmax
  have z_min := PySem.W.mg_none_of X G zmin
  have z_range := PySem.W.mg_none_of X G zrange
  have z_enumerate := PySem.W.mg_none_of X G zenumerate
  exact ⟨PySem.W.fnOf "answers" "answers" (defArgs sAnswers) (defBody sAnswers) (defScope sAnswers) .none kVfAs dcfAs pmfAs anfAs cdfAs ctfAs, fun s us hu => match us, hu with | [_], _ => .of_eq rfl, fun base _ _ => (by
    have GTu : FnOk P w K mg base CX0 1 fTu _ ["heights", "by"] (spTurned K) := ok_turned FfTu
    have GTo : FnOk P w K mg base CX0 1 fTo _ ["heights", "others"] (spTogether K) := ok_together FfTo z_zip
    have GMo : FnOk P w K mg base CX0 2 fMo _ ["plan", "cams", "places"] (spMotionOf K) := ok_motionOf FfMo z_zip GTo bfTo mTo kfTo GTu bfTu mTu kfTu
    have GGa : FnOk P w K mg base CX0 1 fGa _ ["motion", "wished"] (spGapsOf K) := ok_gapsOf FfGa z_zip
    have GOA : FnOk P w K mg base CX0 1 fOA _ ["gaps"] (spOffAll K) := ok_offAll FfOA z_sum z_abs
    have GOW : FnOk P w K mg base CX0 1 fOW _ ["gaps"] (spOffWorst K) := ok_offWorst FfOW z_max z_abs
    have GCO : FnOk P w K mg base CX0 1 fCO _ ["plan", "places"] (spCamsOn K) := ok_camsOn FfCO TB.len
    have GOM : FnOk P w K mg base CX0 2 fOM _ ["plans", "cam"] spOneMore := ok_oneMore FfOM TB.len z_range z_enumerate GTo bfTo mTo kfTo GTu bfTu mTu kfTu
    have GPG : FnOk P w K mg base CX0 3 fPG _ ["cams", "wished"] spPlansGaps := ok_plansGaps FfPG TB.len GGa bfGa mGa kfGa GOM bfOM mOM kfOM
    have GBO : FnOk P w K mg base CX0 1 fBO _ ["rated"] spBestOf := ok_bestOf FfBO z_min TB.len
    have GM : FnOk P w K mg base CX0 1 fM _ ["numbers", "length", "highest"] (spIsMotion K) := ok_isMotion FfM TB.len
    have GSu : FnOk P w K mg base CX0 3 fSu _ ["self", "plan"] (spSumOf CBa) := ok_sumOf FfSu TB GM bfM gM kfM GMo bfMo mMo kfMo GGa bfGa mGa kfGa GOA bfOA mOA kfOA GOW bfOW mOW kfOW
    have GNe : FnOk P w K mg base CX0 4 fNe _ ["self"] (spBest CBa .nearest) := ok_nearest FfNe TB GPG bfPG mPG kfPG GOA bfOA mOA kfOA GCO bfCO mCO kfCO GBO bfBO mBO kfBO
    have GEv : FnOk P w K mg base CX0 4 fEv _ ["self"] (spBest CBa .evenest) := ok_evenest FfEv TB GPG bfPG mPG kfPG GOW bfOW mOW kfOW GCO bfCO mCO kfCO GBO bfBO mBO kfBO
    have L : Callees P w K mg base CBa CR := ⟨fBe, fCa, fWi, fNu, fRo, fSu, fNe, fEv, _, _, _, _, _, _, _, _,
      ok_begins FfBe TB, ok_cam FfCa TB FfM bfM gM, ok_wish FfWi TB FfM bfM gM, ok_number FfNu TR, ok_row FfRo TR FfNu bfNu ⟨afNu, ifNu, kfNu⟩, GSu, GNe, GEv,
      bfBe, bfCa, bfWi, bfNu, bfRo, bfSu, bfNe, bfEv, ⟨afSu, ifSu, kfSu⟩, ⟨afNe, ifNe, kfNe⟩, ⟨afEv, ifEv, kfEv⟩,
      ⟨afBe, ifBe, kfBe⟩, ⟨afCa, ifCa, kfCa⟩, ⟨afWi, ifWi, kfWi⟩, ⟨afNu, ifNu, kfNu⟩, ⟨afRo, ifRo, kfRo⟩⟩
    exact ok_answers FfAs TB.len TR.cl ⟨mkCBa, afBI, ifBI, kcCBa⟩ ⟨mkCR, afRI, ifRI, kcCR⟩ (ok_boxInit FfBI TB) (ok_rdInit FfRI TR) (ok_hasMore FfHM TR TB.len)
      (ok_answer FfAn TB TR TA L) bfBI bfRI bfHM bfAn (PySem.W.mg_of X G aCBa) (PySem.W.mg_of X G aCR) (PySem.W.mg_of X G afAn) kfAn ⟨afHM, ifHM, kfHM⟩ (fun s c g _ => ans_short s c g))⟩
end CB
open PySem PySem.W PyProof.Rows
set_option maxRecDepth 100000 in
set_option maxHeartbeats 0 in
theorem PySem.Challenge.cw_cambox_s01_answers_holds : PySem.Challenge.rw_cambox_s01_answers.Holds := by
  w_on; k_headS; (case hw => exact ⟨[.list [.int 0, .int 2]], by decide +kernel, by decide +kernel⟩)
  k_fillS
  refine L2.walk_specK (r := PySem.Challenge.rw_cambox_s01_answers) (k := 6) (CX := L2.CX0) (ps := ["calls"]) (sp := fun K => CB.spAnswers K fun _ => True) (by decide +kernel) rfl rfl ⟨rfl, by decide, by decide⟩ (fun w h Y => PySem.W.kIn_of Y) ?F ?S (fun _ _ _ _ z => z)
  case F =>
    intro w mg fa h Y KX G hmg
    refine' CB.all_mk KX G hmg ?aCBa ?pgCBa ?hdCBa ?poCBa ?saCBa ?mkCBa ?kcCBa ?nCBa_places ?nCBa_cams ?nCBa_wished ?aCR ?pgCR ?hdCR ?poCR ?saCR ?mkCR ?kcCR ?nCR_calls ?nCR_at ?afTu ?lfTu ?cfTu ?kfTu ?afTo ?lfTo ?cfTo ?kfTo ?afMo ?lfMo ?cfMo ?kfMo ?afGa ?lfGa ?cfGa ?kfGa ?afOA ?lfOA ?cfOA ?kfOA ?afOW ?lfOW ?cfOW ?kfOW ?afCO ?lfCO ?cfCO ?kfCO ?afOM ?lfOM ?cfOM ?kfOM ?afPG ?lfPG ?cfPG ?kfPG ?afBO ?lfBO ?cfBO ?kfBO ?afM ?lfM ?cfM ?kfM ?afBI ?ifBI ?lfBI ?cfBI ?kfBI ?afBe ?ifBe ?lfBe ?cfBe ?kfBe ?afCa ?ifCa ?lfCa ?cfCa ?kfCa ?afWi ?ifWi ?lfWi ?cfWi ?kfWi ?afSu ?ifSu ?lfSu ?cfSu ?kfSu ?afNe ?ifNe ?lfNe ?cfNe ?kfNe ?afEv ?ifEv ?lfEv ?cfEv ?kfEv ?afRI ?ifRI ?lfRI ?cfRI ?kfRI ?afHM ?ifHM ?lfHM ?cfHM ?kfHM ?afNu ?ifNu ?lfNu ?cfNu ?kfNu ?afRo ?ifRo ?lfRo ?cfRo ?kfRo ?afAn ?lfAn ?cfAn ?kfAn ?afAs ?lfAs ?cfAs ?kfAs ?gWRONG ?gFULL ?gFIRST_PLACES ?gFEWEST_PLACES ?gMOST_PLACES ?gMOST_CAMS ?gHIGHEST_OF_CAM ?gHIGHEST_WISHED ?gBEGINS ?gCAM ?gWISH ?gSUM ?gNEAREST ?gEVENEST ?zlen ?zzip ?zsum ?zabs ?zmax ?zmin ?zrange ?zenumerate
    (case aCBa => k_is)
    (case pgCBa => k_is)
    (case hdCBa => k_is)
    (case poCBa => k_is)
    (case saCBa => k_is)
    (case mkCBa => k_is)
    (case kcCBa => k_is)
    (case nCBa_places => k_is)
    (case nCBa_cams => k_is)
    (case nCBa_wished => k_is)
    (case aCR => k_is)
    (case pgCR => k_is)
    (case hdCR => k_is)
    (case poCR => k_is)
    (case saCR => k_is)
    (case mkCR => k_is)
    (case kcCR => k_is)
    (case nCR_calls => k_is)
    (case nCR_at => k_is)
    (case afTu => k_is)
    (case lfTu => k_is)
    (case cfTu => k_is)
    (case kfTu => k_is)
    (case afTo => k_is)
    (case lfTo => k_is)
    (case cfTo => k_is)
    (case kfTo => k_is)
    (case afMo => k_is)
    (case lfMo => k_is)
    (case cfMo => k_is)
    (case kfMo => k_is)
    (case afGa => k_is)
    (case lfGa => k_is)
    (case cfGa => k_is)
    (case kfGa => k_is)
    (case afOA => k_is)
    (case lfOA => k_is)
    (case cfOA => k_is)
    (case kfOA => k_is)
    (case afOW => k_is)
    (case lfOW => k_is)
    (case cfOW => k_is)
    (case kfOW => k_is)
    (case afCO => k_is)
    (case lfCO => k_is)
    (case cfCO => k_is)
    (case kfCO => k_is)
    (case afOM => k_is)
    (case lfOM => k_is)
    (case cfOM => k_is)
    (case kfOM => k_is)
    (case afPG => k_is)
    (case lfPG => k_is)
    (case cfPG => k_is)
    (case kfPG => k_is)
    (case afBO => k_is)
    (case lfBO => k_is)
    (case cfBO => k_is)
    (case kfBO => k_is)
    (case afM => k_is)
    (case lfM => k_is)
    (case cfM => k_is)
    (case kfM => k_is)
    (case afBI => k_is)
    (case ifBI => k_is)
    (case lfBI => k_is)
    (case cfBI => k_is)
    (case kfBI => k_is)
    (case afBe => k_is)
    (case ifBe => k_is)
    (case lfBe => k_is)
    (case cfBe => k_is)
    (case kfBe => k_is)
    (case afCa => k_is)
    (case ifCa => k_is)
    (case lfCa => k_is)
    (case cfCa => k_is)
    (case kfCa => k_is)
    (case afWi => k_is)
    (case ifWi => k_is)
    (case lfWi => k_is)
    (case cfWi => k_is)
    (case kfWi => k_is)
    (case afSu => k_is)
    (case ifSu => k_is)
    (case lfSu => k_is)
    (case cfSu => k_is)
    (case kfSu => k_is)
    (case afNe => k_is)
    (case ifNe => k_is)
    (case lfNe => k_is)
    (case cfNe => k_is)
    (case kfNe => k_is)
    (case afEv => k_is)
    (case ifEv => k_is)
    (case lfEv => k_is)
    (case cfEv => k_is)
    (case kfEv => k_is)
    (case afRI => k_is)
    (case ifRI => k_is)
    (case lfRI => k_is)
    (case cfRI => k_is)
    (case kfRI => k_is)
    (case afHM => k_is)
    (case ifHM => k_is)
    (case lfHM => k_is)
    (case cfHM => k_is)
    (case kfHM => k_is)
    (case afNu => k_is)
    (case ifNu => k_is)
    (case lfNu => k_is)
    (case cfNu => k_is)
    (case kfNu => k_is)
    (case afRo => k_is)
    (case ifRo => k_is)
    (case lfRo => k_is)
    (case cfRo => k_is)
    (case kfRo => k_is)
    (case afAn => k_is)
    (case lfAn => k_is)
    (case cfAn => k_is)
    (case kfAn => k_is)
    (case afAs => k_is)
    (case lfAs => k_is)
    (case cfAs => k_is)
    (case kfAs => k_is)
    (case gWRONG => k_is)
    (case gFULL => k_is)
    (case gFIRST_PLACES => k_is)
    (case gFEWEST_PLACES => k_is)
    (case gMOST_PLACES => k_is)
    (case gMOST_CAMS => k_is)
    (case gHIGHEST_OF_CAM => k_is)
    (case gHIGHEST_WISHED => k_is)
    (case gBEGINS => k_is)
    (case gCAM => k_is)
    (case gWISH => k_is)
    (case gSUM => k_is)
    (case gNEAREST => k_is)
    (case gEVENEST => k_is)
    (case zlen => k_is)
    (case zzip => k_is)
    (case zsum => k_is)
    (case zabs => k_is)
    (case zmax => k_is)
    (case zmin => k_is)
    (case zrange => k_is)
    (case zenumerate => k_is)
  case S =>
    intro K H xs a hO hwi hask hx
    cases hx with
    | cons h1 h2 =>
      cases h2
      cases h1 with
      | lst hs ha =>
        have e := L2.ints_dw a.1 _ ha
        subst e
        obtain ⟨cs, el, h1, h60, hok, ep⟩ := CB.flat (l := a.1) hask
        have hs' := hs
        rw [el] at hs'
        refine ⟨_, cs, rfl, hs', h60, fun c hc => ⟨hok c hc, trivial⟩, fun H' p hp => ?_⟩
        have ea : (Codec.app (PySem.Challenge.rw_cambox_s01_answers).args (PySem.Challenge.rw_cambox_s01_answers).f a) = CB.play Uw42.init cs := ep
        rw [ea]
        exact .lst (L2.SqL.of hp) (L2.dw_ints _)
#print axioms PySem.Challenge.cw_cambox_s01_answers_holds
