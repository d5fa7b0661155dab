import PyProof.Rows.All
import Wide.All
import OpenK.AllK
import Wide.FinOn
import Open.SpecLaws
import KE.OsGo
import KE.DatumOrd
import KE.GoesEnum
import HandS.ForSpec
import HandS.ForMost
import HandS.Zip
import HandS.Walk
import HandS.Deep
import HandS.SortKw
import HandS.WideBits
import HandS.TupAny
import PySem.Challenge.RW_dutydays_s01_answers
set_option Elab.async false
set_option linter.all false
set_option maxRecDepth 100000
set_option maxHeartbeats 2000000
namespace Duty
open Co09

/-! ### deals with one constructor for the three duties -/
def du (w p a k : Nat) (c d : Deal) : Deal := if w = 2 then .must p a k c d else if w = 3 then .mustnt p a k c d else .may p a k c d

theorem w3 {w : Nat} (h1 : 2 ≤ w) (h2 : w ≤ 4) : w = 2 ∨ w = 3 ∨ w = 4 := by omega

theorem cases3 {P : Deal → Prop} (h0 : P .over) (h1 : ∀ p, P (.breach p)) (h2 : ∀ w p a k c d, 2 ≤ w → w ≤ 4 → P c → P d → P (du w p a k c d)) (h5 : ∀ c d, P c → P d → P (.both c d)) : ∀ d, P d
  | .over => h0
  | .breach p => h1 p
  | .must p a k c d => h2 2 p a k c d (by decide) (by decide) (cases3 h0 h1 h2 h5 c) (cases3 h0 h1 h2 h5 d)
  | .mustnt p a k c d => h2 3 p a k c d (by decide) (by decide) (cases3 h0 h1 h2 h5 c) (cases3 h0 h1 h2 h5 d)
  | .may p a k c d => h2 4 p a k c d (by decide) (by decide) (cases3 h0 h1 h2 h5 c) (cases3 h0 h1 h2 h5 d)
  | .both c d => h5 c d (cases3 h0 h1 h2 h5 c) (cases3 h0 h1 h2 h5 d)

theorem step_du (l : Acts) {w p a k : Nat} {c d : Deal} (h1 : 2 ≤ w) (h2 : w ≤ 4) : step l (du w p a k c d) = if l.contains (p, a) = true then c else if k = 0 then d else du w p a (k - 1) c d := by
  rcases w3 h1 h2 with rfl | rfl | rfl <;> rfl
theorem blamed_du {q w p a k : Nat} {c d : Deal} (h1 : 2 ≤ w) (h2 : w ≤ 4) : blamed q (du w p a k c d) = false := by
  rcases w3 h1 h2 with rfl | rfl | rfl <;> rfl
theorem settled_du {w p a k : Nat} {c d : Deal} (h1 : 2 ≤ w) (h2 : w ≤ 4) : settled (du w p a k c d) = false := by
  rcases w3 h1 h2 with rfl | rfl | rfl <;> rfl
theorem days_du {w p a k : Nat} {c d : Deal} (h1 : 2 ≤ w) (h2 : w ≤ 4) : days (du w p a k c d) = k + 1 + max (days c) (days d) := by
  rcases w3 h1 h2 with rfl | rfl | rfl <;> rfl
theorem stands_du {w p a k : Nat} {c d : Deal} (h1 : 2 ≤ w) (h2 : w ≤ 4) : stands (du w p a k c d) = [[w - 2, p, a, k]] := by
  rcases w3 h1 h2 with rfl | rfl | rfl <;> rfl
theorem told_du {w p a k : Nat} {c d : Deal} (h1 : 2 ≤ w) (h2 : w ≤ 4) : toldFrom (du w p a k c d) = [w, p, a, k] ++ toldFrom c ++ toldFrom d := by
  rcases w3 h1 h2 with rfl | rfl | rfl <;> rfl
theorem tidy_du {w p a k : Nat} {c d : Deal} (h1 : 2 ≤ w) (h2 : w ≤ 4) : tidy (du w p a k c d) = du w p a k (tidy c) (tidy d) := by
  rcases w3 h1 h2 with rfl | rfl | rfl <;> rfl
theorem du_ne_over {w p a k : Nat} {c d : Deal} (h1 : 2 ≤ w) (h2 : w ≤ 4) : du w p a k c d ≠ .over := by
  rcases w3 h1 h2 with rfl | rfl | rfl <;> (intro h; cases h)

/-! ### well-formed, and how many numbers -/
def wf : Deal → Prop
  | .over => True
  | .breach p => p < 2
  | .must p a k c d => (p < 2 ∧ a < 2 ∧ k ≤ 9) ∧ wf c ∧ wf d
  | .mustnt p a k c d => (p < 2 ∧ a < 2 ∧ k ≤ 9) ∧ wf c ∧ wf d
  | .may p a k c d => (p < 2 ∧ a < 2 ∧ k ≤ 9) ∧ wf c ∧ wf d
  | .both c d => wf c ∧ wf d
theorem wf_du {w p a k : Nat} {c d : Deal} (h1 : 2 ≤ w) (h2 : w ≤ 4) : wf (du w p a k c d) ↔ ((p < 2 ∧ a < 2 ∧ k ≤ 9) ∧ wf c ∧ wf d) := by
  rcases w3 h1 h2 with rfl | rfl | rfl <;> exact Iff.rfl
theorem wf_both {c d : Deal} : wf (.both c d) ↔ wf c ∧ wf d := Iff.rfl
def size (d : Deal) : Nat := (toldFrom d).length
theorem size_over : size .over = 1 := rfl
theorem size_breach {p : Nat} : size (.breach p) = 2 := rfl
theorem size_both {c d : Deal} : size (.both c d) = 1 + size c + size d := by
  simp only [size, toldFrom, List.length_append, List.length_cons]; omega
theorem size_du {w p a k : Nat} {c d : Deal} (h1 : 2 ≤ w) (h2 : w ≤ 4) : size (du w p a k c d) = 4 + size c + size d := by
  simp only [size, told_du h1 h2, List.length_append, List.length_cons, List.length_nil]
theorem size_pos : ∀ d, 1 ≤ size d := by
  refine cases3 ?_ ?_ ?_ ?_
  · exact Nat.le_refl _
  · intro p; rw [size_breach]; omega
  · intro w p a k c d h1 h2 _ _; rw [size_du h1 h2]; omega
  · intro c d _ _; rw [size_both]; omega
theorem size_pair (c d : Deal) : size (pair c d) ≤ 1 + size c + size d := by
  unfold pair
  split
  · omega
  · split
    · omega
    · rw [size_both]; omega
theorem wf_pair {c d : Deal} (h1 : wf c) (h2 : wf d) : wf (pair c d) := by
  unfold pair
  split
  · exact h2
  · split
    · exact h1
    · exact ⟨h1, h2⟩
theorem blamed_pair (p : Nat) (c d : Deal) : blamed p (pair c d) = (blamed p c || blamed p d) := by
  unfold pair
  split
  · next h => subst h; simp [blamed]
  · split
    · next h => subst h; simp [blamed]
    · simp [blamed]
theorem days_pair (c d : Deal) : days (pair c d) = max (days c) (days d) := by
  unfold pair
  split
  · next h => subst h; simp [days]
  · split
    · next h => subst h; simp [days]
    · simp [days]
theorem settled_pair (c d : Deal) : settled (pair c d) = (settled c && settled d) := by
  unfold pair
  split
  · next h => subst h; simp [settled]
  · split
    · next h => subst h; simp [settled]
    · simp [settled]
theorem step_wf (l : Acts) : ∀ d, wf d → wf (step l d) := by
  refine cases3 ?_ ?_ ?_ ?_
  · exact fun h => h
  · exact fun p h => h
  · intro w p a k c d h1 h2 _ _ h
    rw [step_du l h1 h2]
    have h' := (wf_du h1 h2).mp h
    split
    · exact h'.2.1
    · split
      · exact h'.2.2
      · exact (wf_du h1 h2).mpr ⟨⟨h'.1.1, h'.1.2.1, by omega⟩, h'.2⟩
  · intro c d hc hd h
    exact wf_pair (hc h.1) (hd h.2)
theorem step_size (l : Acts) : ∀ d, size (step l d) ≤ size d := by
  refine cases3 ?_ ?_ ?_ ?_
  · exact Nat.le_refl _
  · exact fun p => Nat.le_refl _
  · intro w p a k c d h1 h2 _ _
    rw [step_du l h1 h2, size_du h1 h2]
    split
    · omega
    · split
      · omega
      · rw [size_du h1 h2]; omega
  · intro c d hc hd
    rw [size_both]
    exact Nat.le_trans (size_pair _ _) (by omega)
theorem tidy_size : ∀ d, size (tidy d) ≤ size d := by
  refine cases3 ?_ ?_ ?_ ?_
  · exact Nat.le_refl _
  · exact fun p => Nat.le_refl _
  · intro w p a k c d h1 h2 hc hd
    rw [tidy_du h1 h2, size_du h1 h2, size_du h1 h2]
    omega
  · intro c d hc hd
    rw [size_both]
    exact Nat.le_trans (size_pair _ _) (by omega)
theorem tidy_wf : ∀ d, wf d → wf (tidy d) := by
  refine cases3 ?_ ?_ ?_ ?_
  · exact fun h => h
  · exact fun p h => h
  · intro w p a k c d h1 h2 hc hd h
    rw [tidy_du h1 h2]
    have h' := (wf_du h1 h2).mp h
    exact (wf_du h1 h2).mpr ⟨h'.1, hc h'.2.1, hd h'.2.2⟩
  · intro c d hc hd h
    exact wf_pair (hc h.1) (hd h.2)

/-! ### pieces -/
inductive Piece where
  | whole (d : Deal)
  | hd (w p a k : Nat)
  | bo
def Piece.arity : Piece → Nat
  | .whole _ => 0
  | _ => 2
def put1 : Piece → List Deal → Option (List Deal)
  | .whole d, st => some (d :: st)
  | .bo, c :: d :: r => some (pair c d :: r)
  | .hd w p a k, c :: d :: r => some (du w p a k c d :: r)
  | _, _ => none
def put : List Piece → List Deal → Option (List Deal)
  | [], st => some st
  | pc :: r, st => (put r st).bind (put1 pc)
theorem put_append : ∀ (xs ys : List Piece) (st : List Deal), put (xs ++ ys) st = (put ys st).bind (put xs)
  | [], ys, st => by
    simp only [List.nil_append]
    cases put ys st <;> rfl
  | x :: xs, ys, st => by
    simp only [List.cons_append, put, put_append xs ys st]
    cases put ys st <;> rfl
def flat : Deal → List Piece
  | .both c d => .bo :: (flat c ++ flat d)
  | d => [.whole d]
theorem flat_over : flat .over = [.whole .over] := rfl
theorem flat_breach {p : Nat} : flat (.breach p) = [.whole (.breach p)] := rfl
theorem flat_du {w p a k : Nat} {c d : Deal} (h1 : 2 ≤ w) (h2 : w ≤ 4) : flat (du w p a k c d) = [.whole (du w p a k c d)] := by
  rcases w3 h1 h2 with rfl | rfl | rfl <;> rfl
def after (l : Acts) : Piece → Piece
  | .whole d => .whole (step l d)
  | x => x
theorem put_after (l : Acts) : ∀ (d : Deal) (st : List Deal), put ((flat d).map (after l)) st = some (step l d :: st) := by
  refine cases3 ?_ ?_ ?_ ?_
  · exact fun st => rfl
  · exact fun p st => rfl
  · intro w p a k c d h1 h2 _ _ st
    rw [flat_du h1 h2]
    rfl
  · intro c d hc hd st
    show put (.bo :: ((flat c ++ flat d).map (after l))) st = _
    rw [List.map_append]
    simp only [put, put_append, hd st, Option.bind_some, hc]
    rfl

/-! ### reading -/
def headAt : List Nat → Option (Piece × List Nat)
  | 0 :: r => some (.whole .over, r)
  | 1 :: p :: r => if p < 2 then some (.whole (.breach p), r) else none
  | 5 :: r => some (.bo, r)
  | w :: p :: a :: k :: r => if 2 ≤ w ∧ w ≤ 4 ∧ p < 2 ∧ a < 2 ∧ k ≤ 9 then some (.hd w p a k, r) else none
  | _ => none
def go : Nat → List Nat → Nat → Option (List Piece × List Nat)
  | _, l, 0 => some ([], l)
  | 0, _, _ + 1 => none
  | f + 1, l, n + 1 => match headAt l with
    | none => none
    | some (pc, r) => (go f r (n + pc.arity)).map fun x => (pc :: x.1, x.2)
theorem go_zero (f : Nat) (l : List Nat) : go f l 0 = some ([], l) := by
  cases f <;> rfl
theorem headAt_len {l r : List Nat} {pc : Piece} (h : headAt l = some (pc, r)) : r.length < l.length := by
  unfold headAt at h
  split at h
  · cases h; simp
  · split at h
    · cases h; simp; omega
    · cases h
  · cases h; simp
  · split at h
    · cases h; simp; omega
    · cases h
  · cases h
theorem read_d (n w p a k : Nat) (r : List Nat) (h1 : 2 ≤ w) (h2 : w ≤ 4) : Co09.read (n + 1) (w :: p :: a :: k :: r) = match headAt (w :: p :: a :: k :: r) with
    | none => none
    | some (.whole d, r) => some (d, r)
    | some (.bo, r) => (Co09.read n r).bind fun x => (Co09.read n x.2).map fun y => (.both x.1 y.1, y.2)
    | some (.hd w p a k, r) => (Co09.read n r).bind fun x => (Co09.read n x.2).map fun y => (du w p a k x.1 y.1, y.2) := by
  have e1 : headAt (w :: p :: a :: k :: r) = if 2 ≤ w ∧ w ≤ 4 ∧ p < 2 ∧ a < 2 ∧ k ≤ 9 then some (.hd w p a k, r) else none := by
    rcases w3 h1 h2 with rfl | rfl | rfl <;> rfl
  have e2 : Co09.read (n + 1) (w :: p :: a :: k :: r) = if 2 ≤ w ∧ w ≤ 4 ∧ p < 2 ∧ a < 2 ∧ k ≤ 9 then (Co09.read n r).bind fun x => (Co09.read n x.2).map fun y => (du w p a k x.1 y.1, y.2) else none := by
    rcases w3 h1 h2 with rfl | rfl | rfl <;> rfl
  rw [e1, e2]
  by_cases h : 2 ≤ w ∧ w ≤ 4 ∧ p < 2 ∧ a < 2 ∧ k ≤ 9
  · rw [if_pos h, if_pos h]
  · rw [if_neg h, if_neg h]
theorem read_1 (n p : Nat) (r : List Nat) : Co09.read (n + 1) (1 :: p :: r) = match headAt (1 :: p :: r) with
    | none => none
    | some (.whole d, r) => some (d, r)
    | some (.bo, r) => (Co09.read n r).bind fun x => (Co09.read n x.2).map fun y => (.both x.1 y.1, y.2)
    | some (.hd w p a k, r) => (Co09.read n r).bind fun x => (Co09.read n x.2).map fun y => (du w p a k x.1 y.1, y.2) := by
  have e1 : headAt (1 :: p :: r) = if p < 2 then some (.whole (.breach p), r) else none := rfl
  have e2 : Co09.read (n + 1) (1 :: p :: r) = if p < 2 then some (.breach p, r) else none := rfl
  rw [e1, e2]
  by_cases h : p < 2
  · rw [if_pos h, if_pos h]
  · rw [if_neg h, if_neg h]
theorem read_6 (n w p a k : Nat) (r : List Nat) : Co09.read (n + 1) ((w + 6) :: p :: a :: k :: r) = match headAt ((w + 6) :: p :: a :: k :: r) with
    | none => none
    | some (.whole d, r) => some (d, r)
    | some (.bo, r) => (Co09.read n r).bind fun x => (Co09.read n x.2).map fun y => (.both x.1 y.1, y.2)
    | some (.hd w p a k, r) => (Co09.read n r).bind fun x => (Co09.read n x.2).map fun y => (du w p a k x.1 y.1, y.2) := by
  have h1 : ¬ (2 ≤ w + 6 ∧ w + 6 ≤ 4 ∧ p < 2 ∧ a < 2 ∧ k ≤ 9) := by omega
  have e1 : headAt ((w + 6) :: p :: a :: k :: r) = none := if_neg (t := some (.hd (w + 6) p a k, r)) h1
  have e2 : Co09.read (n + 1) ((w + 6) :: p :: a :: k :: r) = none := if_neg (t := (Co09.read n r).bind fun x => (Co09.read n x.2).map fun y => (if w + 6 = 2 then .must p a k x.1 y.1 else if w + 6 = 3 then .mustnt p a k x.1 y.1 else .may p a k x.1 y.1, y.2)) h1
  rw [e1, e2]
theorem read_step (n : Nat) : ∀ (l : List Nat), Co09.read (n + 1) l = match headAt l with
    | none => none
    | some (.whole d, r) => some (d, r)
    | some (.bo, r) => (Co09.read n r).bind fun x => (Co09.read n x.2).map fun y => (.both x.1 y.1, y.2)
    | some (.hd w p a k, r) => (Co09.read n r).bind fun x => (Co09.read n x.2).map fun y => (du w p a k x.1 y.1, y.2)
  | [] => rfl
  | 0 :: r => rfl
  | 1 :: [] => rfl
  | 1 :: p :: r => read_1 n p r
  | 5 :: r => rfl
  | 2 :: [] => rfl
  | 2 :: _ :: [] => rfl
  | 2 :: _ :: _ :: [] => rfl
  | 2 :: p :: a :: k :: r => read_d n 2 p a k r (by decide) (by decide)
  | 3 :: [] => rfl
  | 3 :: _ :: [] => rfl
  | 3 :: _ :: _ :: [] => rfl
  | 3 :: p :: a :: k :: r => read_d n 3 p a k r (by decide) (by decide)
  | 4 :: [] => rfl
  | 4 :: _ :: [] => rfl
  | 4 :: _ :: _ :: [] => rfl
  | 4 :: p :: a :: k :: r => read_d n 4 p a k r (by decide) (by decide)
  | (w + 6) :: [] => rfl
  | (w + 6) :: _ :: [] => rfl
  | (w + 6) :: _ :: _ :: [] => rfl
  | (w + 6) :: p :: a :: k :: r => read_6 n w p a k r
theorem headAt_hd {l r : List Nat} {w p a k : Nat} (h : headAt l = some (.hd w p a k, r)) : 2 ≤ w ∧ w ≤ 4 ∧ p < 2 ∧ a < 2 ∧ k ≤ 9 ∧ l = w :: p :: a :: k :: r := by
  unfold headAt at h
  split at h
  · cases h
  · split at h <;> cases h
  · cases h
  · split at h
    · next hc => cases h; exact ⟨hc.1, hc.2.1, hc.2.2.1, hc.2.2.2.1, hc.2.2.2.2, rfl⟩
    · cases h
  · cases h
theorem headAt_bo {l r : List Nat} (h : headAt l = some (.bo, r)) : l = 5 :: r := by
  unfold headAt at h
  split at h
  · cases h
  · split at h <;> cases h
  · cases h; rfl
  · split at h <;> cases h
  · cases h
theorem headAt_whole {l r : List Nat} {d : Deal} (h : headAt l = some (.whole d, r)) : (d = .over ∧ l = 0 :: r) ∨ ∃ p, p < 2 ∧ d = .breach p ∧ l = 1 :: p :: r := by
  unfold headAt at h
  split at h
  · cases h; exact .inl ⟨rfl, rfl⟩
  · split at h
    · next hc => cases h; exact .inr ⟨_, hc, rfl, rfl⟩
    · cases h
  · cases h
  · split at h <;> cases h
  · cases h
theorem read_told : ∀ (n : Nat) (l r : List Nat) (c : Deal), read n l = some (c, r) → l = toldFrom c ++ r ∧ wf c
  | 0, l, r, c, h => by simp [Co09.read] at h
  | n + 1, l, r, c, h => by
    rw [read_step] at h
    split at h
    · cases h
    · next d r' e =>
      cases h
      rcases headAt_whole e with ⟨rfl, rfl⟩ | ⟨p, hp, rfl, rfl⟩
      · exact ⟨rfl, trivial⟩
      · exact ⟨rfl, hp⟩
    · next r' e =>
      have e' := headAt_bo e
      subst e'
      cases h1 : read n r' with
      | none => rw [h1] at h; cases h
      | some x =>
        rw [h1] at h
        simp only [Option.bind_some] at h
        cases h2 : read n x.2 with
        | none => rw [h2] at h; cases h
        | some y =>
          rw [h2] at h
          cases h
          have a1 := read_told n _ _ _ (show read n r' = some (x.1, x.2) from h1)
          have a2 := read_told n _ _ _ (show read n x.2 = some (y.1, y.2) from h2)
          refine ⟨?_, a1.2, a2.2⟩
          rw [a1.1, a2.1]
          simp [toldFrom, List.append_assoc]
    · next w p a k r' e =>
      obtain ⟨g1, g2, g3, g4, g5, e'⟩ := headAt_hd e
      subst e'
      cases h1 : read n r' with
      | none => rw [h1] at h; cases h
      | some x =>
        rw [h1] at h
        simp only [Option.bind_some] at h
        cases h2 : read n x.2 with
        | none => rw [h2] at h; cases h
        | some y =>
          rw [h2] at h
          cases h
          have a1 := read_told n _ _ _ (show read n r' = some (x.1, x.2) from h1)
          have a2 := read_told n _ _ _ (show read n x.2 = some (y.1, y.2) from h2)
          refine ⟨?_, (wf_du g1 g2).mpr ⟨⟨g3, g4, g5⟩, a1.2, a2.2⟩⟩
          rw [told_du g1 g2, a1.1, a2.1]
          simp [List.append_assoc]
theorem read_go : ∀ (n : Nat) (l r : List Nat) (c : Deal), read n l = some (c, r) →
    ∃ hs : List Piece, (∀ st, put hs st = some (tidy c :: st)) ∧ hs.length + r.length ≤ l.length ∧ ∀ f k, go (hs.length + f) l (k + 1) = (go f r k).map fun x => (hs ++ x.1, x.2)
  | 0, l, r, c, h => by simp [Co09.read] at h
  | n + 1, l, r, c, h => by
    rw [read_step] at h
    split at h
    · cases h
    · next d r' e =>
      cases h
      refine ⟨[.whole c], ?_, ?_, ?_⟩
      · intro st
        rcases headAt_whole e with ⟨rfl, rfl⟩ | ⟨p, hp, rfl, rfl⟩ <;> rfl
      · have := headAt_len e
        simp only [List.length_singleton]
        omega
      · intro f k
        rw [show [Piece.whole c].length + f = f + 1 by simp [Nat.add_comm]]
        simp only [go, e, Piece.arity, Nat.add_zero]
        rfl
    · next r' e =>
      cases h1 : read n r' with
      | none => rw [h1] at h; cases h
      | some x =>
        rw [h1] at h
        simp only [Option.bind_some] at h
        cases h2 : read n x.2 with
        | none => rw [h2] at h; cases h
        | some y =>
          rw [h2] at h
          cases h
          obtain ⟨hs1, p1, l1, g1⟩ := read_go n _ _ _ (show read n r' = some (x.1, x.2) from h1)
          obtain ⟨hs2, p2, l2, g2⟩ := read_go n _ _ _ (show read n x.2 = some (y.1, y.2) from h2)
          refine ⟨.bo :: (hs1 ++ hs2), ?_, ?_, ?_⟩
          · intro st
            simp only [put, put_append, p2 st, Option.bind_some, p1]
            rfl
          · have := headAt_len e
            simp only [List.length_cons, List.length_append]
            omega
          · intro f k
            rw [show (Piece.bo :: (hs1 ++ hs2)).length + f = (hs1.length + (hs2.length + f)) + 1 by simp only [List.length_cons, List.length_append]; omega]
            simp only [go, e, Piece.arity]
            rw [g1 (hs2.length + f) (k + 1), g2 f k]
            cases go f y.2 k <;> simp
    · next w p a k' r' e =>
      cases h1 : read n r' with
      | none => rw [h1] at h; cases h
      | some x =>
        rw [h1] at h
        simp only [Option.bind_some] at h
        cases h2 : read n x.2 with
        | none => rw [h2] at h; cases h
        | some y =>
          rw [h2] at h
          cases h
          obtain ⟨q1, q2, _⟩ := headAt_hd e
          obtain ⟨hs1, p1, l1, g1⟩ := read_go n _ _ _ (show read n r' = some (x.1, x.2) from h1)
          obtain ⟨hs2, p2, l2, g2⟩ := read_go n _ _ _ (show read n x.2 = some (y.1, y.2) from h2)
          refine ⟨.hd w p a k' :: (hs1 ++ hs2), ?_, ?_, ?_⟩
          · intro st
            simp only [put, put_append, p2 st, Option.bind_some, p1, tidy_du q1 q2]
            rfl
          · have := headAt_len e
            simp only [List.length_cons, List.length_append]
            omega
          · intro f k
            rw [show (Piece.hd w p a k' :: (hs1 ++ hs2)).length + f = (hs1.length + (hs2.length + f)) + 1 by simp only [List.length_cons, List.length_append]; omega]
            simp only [go, e, Piece.arity]
            rw [g1 (hs2.length + f) (k + 1), g2 f k]
            cases go f y.2 k <;> simp
theorem read_none : ∀ (n : Nat) (l : List Nat), read n l = none → l.length < n → ∀ f k, go f l (k + 1) = none
  | 0, _, _, h, _, _ => by omega
  | n + 1, l, h, hl, f, k => by
    cases f with
    | zero => rfl
    | succ f =>
      rw [read_step] at h
      split at h
      · next e => simp only [go, e]
      · cases h
      · next r' e =>
        have hlen := headAt_len e
        simp only [go, e, Piece.arity]
        cases h1 : read n r' with
        | none => rw [read_none n r' h1 (by omega) f (k + 1)]; rfl
        | some x =>
          rw [h1] at h
          simp only [Option.bind_some] at h
          cases h2 : read n x.2 with
          | some y => rw [h2] at h; cases h
          | none =>
            obtain ⟨hs1, p1, l1, g1⟩ := read_go n _ _ _ (show read n r' = some (x.1, x.2) from h1)
            have hx : x.2.length < n := by omega
            cases hf : go f r' (k + 1 + 1) with
            | none => rfl
            | some z =>
              exfalso
              by_cases hle : hs1.length ≤ f
              · obtain ⟨f', rfl⟩ := Nat.le.dest hle
                rw [g1 f' (k + 1), read_none n x.2 h2 hx f' k] at hf
                cases hf
              · exact absurd hf (by
                  have mono : ∀ (f1 : Nat) (l : List Nat) (k : Nat) (z : List Piece × List Nat) (j : Nat), go f1 l k = some z → go (f1 + j) l k = some z := by
                    intro f1
                    induction f1 with
                    | zero =>
                      intro l k z j h
                      cases k with
                      | zero => rw [go_zero] at h ⊢; exact h
                      | succ k => cases h
                    | succ f1 ih =>
                      intro l k z j h
                      cases k with
                      | zero => rw [go_zero] at h ⊢; exact h
                      | succ k =>
                        rw [show f1 + 1 + j = (f1 + j) + 1 by omega]
                        simp only [go] at h ⊢
                        split at h
                        · cases h
                        · next pc r e =>
                          cases hg : go f1 r (k + pc.arity) with
                          | none => rw [hg] at h; cases h
                          | some q =>
                            rw [hg] at h
                            rw [ih _ _ _ j hg]
                            exact h
                  intro hf
                  have h3 := mono f r' (k + 1 + 1) z (hs1.length - f) hf
                  rw [show f + (hs1.length - f) = hs1.length + 0 by omega, g1 0 (k + 1)] at h3
                  cases h3)
      · next w p a k' r' e =>
        have hlen := headAt_len e
        simp only [go, e, Piece.arity]
        cases h1 : read n r' with
        | none => rw [read_none n r' h1 (by omega) f (k + 1)]; rfl
        | some x =>
          rw [h1] at h
          simp only [Option.bind_some] at h
          cases h2 : read n x.2 with
          | some y => rw [h2] at h; cases h
          | none =>
            obtain ⟨hs1, p1, l1, g1⟩ := read_go n _ _ _ (show read n r' = some (x.1, x.2) from h1)
            have hx : x.2.length < n := by omega
            cases hf : go f r' (k + 1 + 1) with
            | none => rfl
            | some z =>
              exfalso
              by_cases hle : hs1.length ≤ f
              · obtain ⟨f', rfl⟩ := Nat.le.dest hle
                rw [g1 f' (k + 1), read_none n x.2 h2 hx f' k] at hf
                cases hf
              · exact absurd hf (by
                  have mono : ∀ (f1 : Nat) (l : List Nat) (k : Nat) (z : List Piece × List Nat) (j : Nat), go f1 l k = some z → go (f1 + j) l k = some z := by
                    intro f1
                    induction f1 with
                    | zero =>
                      intro l k z j h
                      cases k with
                      | zero => rw [go_zero] at h ⊢; exact h
                      | succ k => cases h
                    | succ f1 ih =>
                      intro l k z j h
                      cases k with
                      | zero => rw [go_zero] at h ⊢; exact h
                      | succ k =>
                        rw [show f1 + 1 + j = (f1 + j) + 1 by omega]
                        simp only [go] at h ⊢
                        split at h
                        · cases h
                        · next pc r e =>
                          cases hg : go f1 r (k + pc.arity) with
                          | none => rw [hg] at h; cases h
                          | some q =>
                            rw [hg] at h
                            rw [ih _ _ _ j hg]
                            exact h
                  intro hf
                  have h3 := mono f r' (k + 1 + 1) z (hs1.length - f) hf
                  rw [show f + (hs1.length - f) = hs1.length + 0 by omega, g1 0 (k + 1)] at h3
                  cases h3)
/-- **what the numbers tell, by their heads** -/
theorem deal_go (l : List Nat) : (∃ c hs, deal? l = some c ∧ go (l.length + 1) l 1 = some (hs, []) ∧ put hs [] = some [c] ∧ wf c ∧ size c ≤ l.length ∧ hs.length ≤ l.length) ∨
    (deal? l = none ∧ (go (l.length + 1) l 1 = none ∨ ∃ hs x r, go (l.length + 1) l 1 = some (hs, x :: r))) := by
  cases h : read (l.length + 1) l with
  | none =>
    right
    refine ⟨by unfold deal?; rw [h], .inl (read_none _ _ h (by omega) _ 0)⟩
  | some z =>
    obtain ⟨c, r⟩ := z
    obtain ⟨hs, p, hl, g⟩ := read_go _ _ _ _ h
    have t := read_told _ _ _ _ h
    have g' : go (l.length + 1) l 1 = some (hs, r) := by
      have := g (l.length + 1 - hs.length) 0
      rw [show hs.length + (l.length + 1 - hs.length) = l.length + 1 by omega, go_zero] at this
      simpa using this
    cases r with
    | nil =>
      left
      refine ⟨tidy c, hs, by unfold deal?; rw [h], g', p [], tidy_wf c t.2, ?_, by simpa using hl⟩
      refine Nat.le_trans (tidy_size c) ?_
      rw [t.1]
      simp [size]
    | cons x r =>
      right
      exact ⟨by unfold deal?; rw [h], .inr ⟨hs, x, r, g'⟩⟩
end Duty

namespace Duty
open Co09

/-! ### a day's acts -/
def acts (p m o : Nat) : Acts := doing p m ++ doing (1 - p) o
def bit (m a : Nat) : Bool := m / 2 ^ a % 2 == 1
theorem doing_has (p m q a : Nat) (ha : a < 2) : (doing p m).contains (q, a) = (decide (q = p) && bit m a) := by
  have e : doing p m = ((if m % 2 == 1 then [(p, 0)] else []) ++ (if m / 2 % 2 == 1 then [(p, 1)] else [])) := by
    unfold doing ACTS
    show List.map _ (List.filter _ [0, 1]) = _
    simp only [List.filter]
    simp only [Nat.pow_zero, Nat.div_one, Nat.pow_one]
    cases (m % 2 == 1) <;> cases (m / 2 % 2 == 1) <;> rfl
  rw [e]
  have a01 : a = 0 ∨ a = 1 := by omega
  unfold bit
  rcases a01 with rfl | rfl
  · simp only [Nat.pow_zero, Nat.div_one]
    cases (m % 2 == 1) <;> cases (m / 2 % 2 == 1) <;> by_cases h : q = p <;> simp [h]
  · simp only [Nat.pow_one]
    cases (m % 2 == 1) <;> cases (m / 2 % 2 == 1) <;> by_cases h : q = p <;> simp [h]
theorem acts_has {p q : Nat} (m o a : Nat) (hp : p < 2) (hq : q < 2) (ha : a < 2) : (acts p m o).contains (q, a) = if q = p then bit m a else bit o a := by
  unfold acts
  rw [List.contains_append, doing_has p m q a ha, doing_has (1 - p) o q a ha]
  by_cases h : q = p
  · have h2 : ¬ q = 1 - p := by omega
    rw [if_pos h, decide_eq_true h, decide_eq_false h2, Bool.true_and, Bool.false_and, Bool.or_false]
  · have h2 : q = 1 - p := by omega
    rw [if_neg h, decide_eq_true h2, decide_eq_false h, Bool.true_and, Bool.false_and, Bool.false_or]

/-! ### breach stays, what is settled stays -/
theorem blamed_step (p : Nat) (l : Acts) : ∀ d, blamed p d = true → blamed p (step l d) = true := by
  refine cases3 ?_ ?_ ?_ ?_
  · exact fun h => h
  · exact fun p h => h
  · intro w q a k c d h1 h2 _ _ h
    rw [blamed_du h1 h2] at h
    cases h
  · intro c d hc hd h
    show blamed p (pair (step l c) (step l d)) = true
    rw [blamed_pair, Bool.or_eq_true]
    have h' : (blamed p c || blamed p d) = true := h
    rw [Bool.or_eq_true] at h'
    exact h'.imp hc hd
theorem settled_step (p : Nat) (l : Acts) : ∀ d, settled d = true → settled (step l d) = true ∧ blamed p (step l d) = blamed p d := by
  refine cases3 ?_ ?_ ?_ ?_
  · exact fun _ => ⟨rfl, rfl⟩
  · exact fun p _ => ⟨rfl, rfl⟩
  · intro w q a k c d h1 h2 _ _ h
    rw [settled_du h1 h2] at h
    cases h
  · intro c d hc hd h
    have h' : (settled c && settled d) = true := h
    rw [Bool.and_eq_true] at h'
    have a1 := hc h'.1
    have a2 := hd h'.2
    show settled (pair (step l c) (step l d)) = true ∧ blamed p (pair (step l c) (step l d)) = (blamed p c || blamed p d)
    rw [settled_pair, blamed_pair, a1.1, a2.1, a1.2, a2.2]
    exact ⟨rfl, rfl⟩
theorem days_step (l : Acts) : ∀ d, days (step l d) ≤ days d - 1 := by
  refine cases3 ?_ ?_ ?_ ?_
  · exact Nat.le_refl _
  · exact fun p => Nat.le_refl _
  · intro w q a k c d h1 h2 _ _
    rw [step_du l h1 h2, days_du h1 h2]
    split
    · omega
    · split
      · omega
      · rw [days_du h1 h2]; omega
  · intro c d hc hd
    show days (pair (step l c) (step l d)) ≤ max (days c) (days d) - 1
    rw [days_pair]
    omega
theorem days_zero : ∀ d, days d = 0 → settled d = true := by
  refine cases3 ?_ ?_ ?_ ?_
  · exact fun _ => rfl
  · exact fun p _ => rfl
  · intro w q a k c d h1 h2 _ _ h
    rw [days_du h1 h2] at h
    omega
  · intro c d hc hd h
    have h' : max (days c) (days d) = 0 := h
    show (settled c && settled d) = true
    rw [hc (by omega), hd (by omega)]
    rfl

/-! ### keeping out of breach, without the shortcuts -/
def win (p : Nat) : Nat → Deal → Bool
  | 0, d => !blamed p d
  | n + 1, d => sets.any fun m => sets.all fun o => win p n (step (acts p m o) d)
theorem sets_eq : sets = [0, 1, 2, 3] := rfl
theorem win_blamed (p : Nat) : ∀ (n : Nat) (d : Deal), blamed p d = true → win p n d = false
  | 0, d, h => by simp [win, h]
  | n + 1, d, h => by
    have ih := fun m o => win_blamed p n (step (acts p m o) d) (blamed_step p _ d h)
    simp [win, sets_eq, ih]
theorem win_settled (p : Nat) : ∀ (n : Nat) (d : Deal), settled d = true → win p n d = !blamed p d
  | 0, d, h => rfl
  | n + 1, d, h => by
    have ih := fun m o => win_settled p n (step (acts p m o) d) (settled_step p _ d h).1
    have ib := fun m o => (settled_step p (acts p m o) d h).2
    simp [win, sets_eq, ih, ib]
theorem safe_win (p : Nat) : ∀ (n : Nat) (d : Deal), safe p n d = win p n d
  | 0, d => rfl
  | n + 1, d => by
    cases hb : blamed p d with
    | true => simp [safe, hb, win_blamed p (n + 1) d hb]
    | false =>
      cases hs : settled d with
      | true => simp [safe, hb, hs, win_settled p (n + 1) d hs]
      | false =>
        have ih : ∀ m o, safe p n (step (doing p m ++ doing (1 - p) o) d) = win p n (step (acts p m o) d) := fun m o => safe_win p n _
        simp only [safe, hb, hs, win, ih, Bool.not_false, Bool.true_and, Bool.false_or]
theorem win_more (p : Nat) : ∀ (n : Nat) (d : Deal), days d ≤ n → win p (n + 1) d = win p n d
  | 0, d, h => by
    have hs := days_zero d (by omega)
    rw [win_settled p _ d hs, win_settled p _ d hs]
  | n + 1, d, h => by
    have ih : ∀ m o, win p (n + 1) (step (acts p m o) d) = win p n (step (acts p m o) d) := fun m o => win_more p n _ (by have := days_step (acts p m o) d; omega)
    have e1 : win p (n + 1 + 1) d = sets.any fun m => sets.all fun o => win p (n + 1) (step (acts p m o) d) := rfl
    have e2 : win p (n + 1) d = sets.any fun m => sets.all fun o => win p n (step (acts p m o) d) := rfl
    rw [e1, e2]
    simp only [ih]
theorem win_from (p : Nat) (d : Deal) {n : Nat} (h : days d ≤ n) : ∀ m, win p (n + m) d = win p n d
  | 0 => rfl
  | m + 1 => by
    rw [← Nat.add_assoc, win_more p (n + m) d (by omega), win_from p d h m]
theorem win_alike (p : Nat) (d : Deal) {n m : Nat} (h1 : days d ≤ n) (h2 : days d ≤ m) : win p n d = win p m d := by
  rcases Nat.le_total n m with h | h
  · obtain ⟨j, rfl⟩ := Nat.le.dest h
    exact (win_from p d h1 j).symm
  · obtain ⟨j, rfl⟩ := Nat.le.dest h
    exact win_from p d h2 j
def ahead (d : Deal) : Nat := max 1 (days d)
/-- by this choice of today the party can keep out of breach -/
def keeps (p : Nat) (d : Deal) (m : Nat) : Bool := sets.all fun o => win p (ahead d - 1) (step (acts p m o) d)
theorem keeps_days (p : Nat) (d : Deal) (m : Nat) : keeps p d m = sets.all fun o => safe p (days d) (step (doing p m ++ doing (1 - p) o) d) := by
  unfold keeps
  congr 1
  funext o
  rw [safe_win]
  have := days_step (acts p m o) d
  exact win_alike p _ (by unfold ahead; omega) (by show days (step (acts p m o) d) ≤ days d; omega)
theorem keeps_blamed (p : Nat) (d : Deal) (m : Nat) (h : blamed p d = true) : keeps p d m = false := by
  have ih := fun o => win_blamed p (ahead d - 1) (step (acts p m o) d) (blamed_step p _ d h)
  simp [keeps, sets_eq, ih]
theorem safe_keeps (p : Nat) (d : Deal) : safe p (days d) d = sets.any (keeps p d) := by
  rw [safe_win]
  have e : win p (ahead d) d = sets.any (keeps p d) := by
    obtain ⟨n, hn⟩ : ∃ n, ahead d = n + 1 := ⟨ahead d - 1, by unfold ahead; omega⟩
    have : (keeps p d) = fun m => sets.all fun o => win p n (step (acts p m o) d) := by
      funext m
      unfold keeps
      rw [show ahead d - 1 = n by omega]
    rw [hn, this]
    rfl
  rw [← e]
  exact win_alike p d (Nat.le_refl _) (by unfold ahead; omega)
theorem advice_keeps (p : Nat) (d : Deal) : advice p d = sets.find? (keeps p d) := by
  unfold advice
  split
  · next h =>
    have := fun m => keeps_blamed p d m h
    simp [sets_eq, this]
  · congr 1
    funext m
    exact (keeps_days p d m).symm

/-! ### runs -/
/-- what is agreed behind n days: own run r, the other's o, in base 4, the last day's choice last -/
def aft (p : Nat) : Nat → Nat → Nat → Deal → Deal
  | 0, _, _, d => d
  | n + 1, r, o, d => step (acts p (r % 4) (o % 4)) (aft p n (r / 4) (o / 4) d)
theorem mod_pow_div (r n : Nat) : r % 4 ^ (n + 1) / 4 = r / 4 % 4 ^ n := by
  rw [Nat.pow_succ, Nat.mul_comm, Nat.mod_mul_right_div_self]
theorem mod_pow_mod (r n : Nat) : r % 4 ^ (n + 1) % 4 = r % 4 := Nat.mod_mod_of_dvd _ ⟨4 ^ n, by rw [Nat.pow_succ, Nat.mul_comm]⟩
theorem aft_first (p : Nat) : ∀ (n r o : Nat) (d : Deal), aft p (n + 1) r o d = aft p n (r % 4 ^ n) (o % 4 ^ n) (step (acts p (r / 4 ^ n % 4) (o / 4 ^ n % 4)) d)
  | 0, r, o, d => by simp [aft]
  | n + 1, r, o, d => by
    have ih := aft_first p n (r / 4) (o / 4) d
    have e1 : aft p (n + 1 + 1) r o d = step (acts p (r % 4) (o % 4)) (aft p (n + 1) (r / 4) (o / 4) d) := rfl
    have e2 : ∀ x, aft p (n + 1) (r % 4 ^ (n + 1)) (o % 4 ^ (n + 1)) x = step (acts p (r % 4 ^ (n + 1) % 4) (o % 4 ^ (n + 1) % 4)) (aft p n (r % 4 ^ (n + 1) / 4) (o % 4 ^ (n + 1) / 4) x) := fun x => rfl
    rw [e1, ih, e2, mod_pow_mod, mod_pow_mod, mod_pow_div, mod_pow_div, Nat.div_div_eq_div_mul, Nat.div_div_eq_div_mul, Nat.pow_succ, Nat.mul_comm 4 (4 ^ n)]
theorem aft_both (p q : Nat) : ∀ (n r o : Nat) (c d : Deal), blamed q (aft p n r o (.both c d)) = (blamed q (aft p n r o c) || blamed q (aft p n r o d)) := by
  have h : ∀ (n r o : Nat) (c d : Deal), aft p n r o (.both c d) = pair (aft p n r o c) (aft p n r o d) ∨ aft p n r o (.both c d) = .both (aft p n r o c) (aft p n r o d) := by
    intro n
    induction n with
    | zero => intro r o c d; exact .inr rfl
    | succ n ih =>
      intro r o c d
      left
      show step _ (aft p n (r / 4) (o / 4) (.both c d)) = pair (step _ (aft p n (r / 4) (o / 4) c)) (step _ (aft p n (r / 4) (o / 4) d))
      rcases ih (r / 4) (o / 4) c d with e | e
      · rw [e]
        unfold pair
        by_cases h1 : aft p n (r / 4) (o / 4) c = .over
        · rw [if_pos h1, h1, if_pos (show step _ Deal.over = .over from rfl)]
        · rw [if_neg h1]
          by_cases h2 : aft p n (r / 4) (o / 4) d = .over
          · rw [if_pos h2, h2]
            generalize acts p (r % 4) (o % 4) = l
            generalize aft p n (r / 4) (o / 4) c = x
            have e0 : step l Deal.over = Deal.over := rfl
            rw [e0, if_pos rfl]
            by_cases h3 : step l x = Deal.over
            · rw [if_pos h3]; exact h3
            · rw [if_neg h3]
          · rw [if_neg h2]
            rfl
      · rw [e]; rfl
  intro n r o c d
  rcases h n r o c d with e | e
  · rw [e, blamed_pair]
  · rw [e]; rfl
/-- in breach in the end -/
def bad (p n : Nat) (d : Deal) (o r : Nat) : Bool := blamed p (aft p n r o d)
theorem bad_zero (p : Nat) (d : Deal) (o r : Nat) : bad p 0 d o r = blamed p d := rfl
theorem bad_succ (p n : Nat) (d : Deal) (o r : Nat) : bad p (n + 1) d o r = bad p n (step (acts p (r / 4 ^ n % 4) (o / 4 ^ n % 4)) d) (o % 4 ^ n) (r % 4 ^ n) := by
  unfold bad
  rw [aft_first]
theorem bad_blamed (p : Nat) (d : Deal) (h : blamed p d = true) : ∀ (n o r : Nat), bad p n d o r = true := by
  intro n
  unfold bad
  induction n with
  | zero => intro o r; exact h
  | succ n ih => intro o r; exact blamed_step p _ _ (ih (o / 4) (r / 4))
theorem bad_settled (p : Nat) (d : Deal) (h : settled d = true) : ∀ (n o r : Nat), bad p n d o r = blamed p d := by
  intro n
  unfold bad
  have : ∀ o r, settled (aft p n r o d) = true ∧ blamed p (aft p n r o d) = blamed p d := by
    induction n with
    | zero => intro o r; exact ⟨h, rfl⟩
    | succ n ih =>
      intro o r
      have a1 := ih (o / 4) (r / 4)
      have a2 := settled_step p (acts p (r % 4) (o % 4)) _ a1.1
      exact ⟨a2.1, a2.2.trans a1.2⟩
  exact fun o r => (this o r).2
/-- in breach in the end by one of these -/
def badL (p n : Nat) (ds : List Deal) (o r : Nat) : Bool := ds.any fun d => bad p n d o r
/-- the parts of what's agreed: no both among them -/
def parts : Deal → List Deal
  | .both c d => parts c ++ parts d
  | d => [d]
theorem parts_du {w p a k : Nat} {c d : Deal} (h1 : 2 ≤ w) (h2 : w ≤ 4) : parts (du w p a k c d) = [du w p a k c d] := by
  rcases w3 h1 h2 with rfl | rfl | rfl <;> rfl
theorem bad_parts (p n o r : Nat) : ∀ d, bad p n d o r = badL p n (parts d) o r := by
  refine cases3 ?_ ?_ ?_ ?_
  · simp [badL, parts]
  · intro q; simp [badL, parts]
  · intro w q a k c d h1 h2 _ _; simp [badL, parts_du h1 h2]
  · intro c d hc hd
    have : bad p n (.both c d) o r = (bad p n c o r || bad p n d o r) := aft_both p p n r o c d
    rw [this, hc, hd]
    simp [badL, parts, List.any_append]

/-! ### tables -/
structure Tab (n : Nat) (f : Nat → Nat → Bool) (t : List Nat) : Prop where
  len : t.length = 4 ^ n
  small : ∀ o, o < 4 ^ n → t.getD o 0 < 2 ^ (4 ^ n)
  bits : ∀ o, o < 4 ^ n → ∀ r, r < 4 ^ n → (t.getD o 0).testBit r = f o r
theorem getD_lt {l : List Nat} {o : Nat} (h : o < l.length) : l.getD o 0 = l[o] := by
  rw [List.getD_eq_getElem?_getD, List.getElem?_eq_getElem h]; rfl
theorem Tab.congr {n : Nat} {f g : Nat → Nat → Bool} {t : List Nat} (T : Tab n f t) (h : ∀ o r, o < 4 ^ n → r < 4 ^ n → f o r = g o r) : Tab n g t :=
  ⟨T.len, T.small, fun o ho r hr => (T.bits o ho r hr).trans (h o r ho hr)⟩
theorem tab_const (n x : Nat) (b : Bool) (h1 : x < 2 ^ (4 ^ n)) (h2 : ∀ r, r < 4 ^ n → x.testBit r = b) : Tab n (fun _ _ => b) (List.replicate (4 ^ n) x) := by
  have e : ∀ o, o < 4 ^ n → (List.replicate (4 ^ n) x).getD o 0 = x := fun o ho => by
    rw [List.getD_eq_getElem?_getD, List.getElem?_replicate, if_pos ho]; rfl
  exact ⟨List.length_replicate, fun o ho => by rw [e o ho]; exact h1, fun o ho r hr => by rw [e o ho]; exact h2 r hr⟩
theorem tab_ones (n : Nat) : Tab n (fun _ _ => true) (List.replicate (4 ^ n) (2 ^ 4 ^ n - 1)) :=
  tab_const n _ true (Nat.sub_lt (Nat.two_pow_pos _) (by decide)) fun r hr => by rw [Nat.testBit_two_pow_sub_one]; exact decide_eq_true hr
theorem tab_zeros (n : Nat) : Tab n (fun _ _ => false) (List.replicate (4 ^ n) 0) :=
  tab_const n _ false (Nat.two_pow_pos _) fun r hr => Nat.zero_testBit r
theorem tab_or {n : Nat} {f g : Nat → Nat → Bool} {t u : List Nat} (T : Tab n f t) (U : Tab n g u) : Tab n (fun o r => f o r || g o r) ((t.zip u).map fun x => x.1 ||| x.2) := by
  have e : ∀ o, o < 4 ^ n → ((t.zip u).map fun x => x.1 ||| x.2).getD o 0 = t.getD o 0 ||| u.getD o 0 := fun o ho => by
    have h1 : o < t.length := by rw [T.len]; exact ho
    have h2 : o < u.length := by rw [U.len]; exact ho
    have h3 : o < ((t.zip u).map fun x => x.1 ||| x.2).length := by
      rw [List.length_map, List.length_zip]; omega
    rw [getD_lt h1, getD_lt h2, getD_lt h3]
    simp
  refine ⟨by rw [List.length_map, List.length_zip, T.len, U.len, Nat.min_self], fun o ho => ?_, fun o ho r hr => ?_⟩
  · rw [e o ho]
    exact Nat.or_lt_two_pow (T.small o ho) (U.small o ho)
  · rw [e o ho, Nat.testBit_or, T.bits o ho r hr, U.bits o ho r hr]
/-- four rows beside each other -/
def join4 (w a b c d : Nat) : Nat := (((0 ||| a <<< (0 * w)) ||| b <<< (1 * w)) ||| c <<< (2 * w)) ||| d <<< (3 * w)
theorem join4_small {w a b c d : Nat} (ha : a < 2 ^ w) (hb : b < 2 ^ w) (hc : c < 2 ^ w) (hd : d < 2 ^ w) : join4 w a b c d < 2 ^ (4 * w) := by
  have e : ∀ x i, x < 2 ^ w → i ≤ 3 → x <<< (i * w) < 2 ^ (4 * w) := fun x i hx hi => by
    rw [Nat.shiftLeft_eq]
    have h1 : x * 2 ^ (i * w) < 2 ^ w * 2 ^ (i * w) := Nat.mul_lt_mul_of_pos_right hx (Nat.two_pow_pos _)
    rw [← Nat.pow_add] at h1
    refine Nat.lt_of_lt_of_le h1 (Nat.pow_le_pow_right (by decide) ?_)
    have : i * w ≤ 3 * w := Nat.mul_le_mul_right w hi
    omega
  unfold join4
  refine Nat.or_lt_two_pow (Nat.or_lt_two_pow (Nat.or_lt_two_pow (Nat.or_lt_two_pow (Nat.two_pow_pos _) ?_) ?_) ?_) ?_
  · exact e a 0 ha (by decide)
  · exact e b 1 hb (by decide)
  · exact e c 2 hc (by decide)
  · exact e d 3 hd (by decide)
theorem join4_bits {w a b c d : Nat} (ha : a < 2 ^ w) (hb : b < 2 ^ w) (hc : c < 2 ^ w) (hd : d < 2 ^ w) {i r : Nat} (hi : i < 4) (hr : r < w) :
    (join4 w a b c d).testBit (i * w + r) = (if i = 0 then a else if i = 1 then b else if i = 2 then c else d).testBit r := by
  have off : ∀ x j, x < 2 ^ w → j ≠ i → j < 4 → (x <<< (j * w)).testBit (i * w + r) = false := fun x j hx hj h4 => by
    rw [Nat.testBit_shiftLeft]
    by_cases h : j < i
    · have h1 : (j + 1) * w ≤ i * w := Nat.mul_le_mul_right w h
      have h2 : w ≤ i * w + r - j * w := by
        rw [Nat.add_mul] at h1; omega
      rw [Nat.testBit_lt_two_pow (Nat.lt_of_lt_of_le hx (Nat.pow_le_pow_right (by decide) h2)), Bool.and_false]
    · have h0 : i < j := by omega
      have h1 : (i + 1) * w ≤ j * w := Nat.mul_le_mul_right w h0
      have h2 : ¬ (i * w + r ≥ j * w) := by
        rw [Nat.add_mul] at h1; omega
      rw [decide_eq_false h2, Bool.false_and]
  have on : ∀ x, (x <<< (i * w)).testBit (i * w + r) = x.testBit r := fun x => by
    rw [Nat.testBit_shiftLeft, decide_eq_true (by omega), Bool.true_and, Nat.add_sub_cancel_left]
  unfold join4
  simp only [Nat.testBit_or, Nat.zero_testBit, Bool.false_or]
  match i, hi, off, on with
  | 0, _, off, on => rw [on a, off b 1 hb (by decide) (by decide), off c 2 hc (by decide) (by decide), off d 3 hd (by decide) (by decide)]; simp
  | 1, _, off, on => rw [on b, off a 0 ha (by decide) (by decide), off c 2 hc (by decide) (by decide), off d 3 hd (by decide) (by decide)]; simp
  | 2, _, off, on => rw [on c, off b 1 hb (by decide) (by decide), off a 0 ha (by decide) (by decide), off d 3 hd (by decide) (by decide)]; simp
  | 3, _, off, on => rw [on d, off b 1 hb (by decide) (by decide), off c 2 hc (by decide) (by decide), off a 0 ha (by decide) (by decide)]; simp
end Duty

namespace Duty
open Co09

/-! ### four lists behind one another -/
theorem getD_append_left {l m : List Nat} {o : Nat} (h : o < l.length) : (l ++ m).getD o 0 = l.getD o 0 := by
  rw [List.getD_eq_getElem?_getD, List.getD_eq_getElem?_getD, List.getElem?_append_left h]
theorem getD_append_right {l m : List Nat} {o : Nat} (h : l.length ≤ o) : (l ++ m).getD o 0 = m.getD (o - l.length) 0 := by
  rw [List.getD_eq_getElem?_getD, List.getD_eq_getElem?_getD, List.getElem?_append_right h]
def four (a b c d : List Nat) : List Nat := a ++ (b ++ (c ++ d))
theorem four_get {a b c d : List Nat} {L i j : Nat} (ha : a.length = L) (hb : b.length = L) (hc : c.length = L) (_hd : d.length = L) (hi : i < 4) (hj : j < L) :
    (four a b c d).getD (i * L + j) 0 = (if i = 0 then a else if i = 1 then b else if i = 2 then c else d).getD j 0 := by
  unfold four
  match i, hi with
  | 0, _ => rw [getD_append_left (by omega)]; simp
  | 1, _ =>
    rw [getD_append_right (by omega), getD_append_left (by omega)]
    simp [ha]
  | 2, _ =>
    rw [getD_append_right (by omega), getD_append_right (by omega), getD_append_left (by omega)]
    rw [show 2 * L + j - a.length - b.length = j by omega]
    simp
  | 3, _ =>
    rw [getD_append_right (by omega), getD_append_right (by omega), getD_append_right (by omega)]
    rw [show 3 * L + j - a.length - b.length - c.length = j by omega]
    simp
theorem four_len {a b c d : List Nat} {L : Nat} (ha : a.length = L) (hb : b.length = L) (hc : c.length = L) (hd : d.length = L) : (four a b c d).length = 4 * L := by
  unfold four
  simp only [List.length_append]
  omega
theorem split4 {n x : Nat} (h : x < 4 ^ (n + 1)) : x / 4 ^ n < 4 ∧ x % 4 ^ n < 4 ^ n ∧ x = x / 4 ^ n * 4 ^ n + x % 4 ^ n := by
  refine ⟨?_, Nat.mod_lt _ (Nat.pow_pos (by decide)), (Nat.div_add_mod' x (4 ^ n)).symm⟩
  rw [Nat.div_lt_iff_lt_mul (Nat.pow_pos (by decide)), Nat.mul_comm, ← Nat.pow_succ]
  exact h
theorem pow_succ4 (n : Nat) : 4 ^ (n + 1) = 4 * 4 ^ n := by rw [Nat.pow_succ, Nat.mul_comm]

/-! ### a table a day longer -/
def pick (a : Nat) (x : Nat × Nat) (c : Nat) : Nat := if bit c a = true then x.1 else x.2
def ownRow (a w : Nat) (x : Nat × Nat) : Nat := join4 w (pick a x 0) (pick a x 1) (pick a x 2) (pick a x 3)
def ownRows (a w : Nat) (t u : List Nat) : List Nat := (t.zip u).map (ownRow a w)
def ownTab (a w : Nat) (t u : List Nat) : List Nat := four (ownRows a w t u) (ownRows a w t u) (ownRows a w t u) (ownRows a w t u)
theorem pick4 (a : Nat) (x : Nat × Nat) (i : Nat) (hi : i < 4) : (if i = 0 then pick a x 0 else if i = 1 then pick a x 1 else if i = 2 then pick a x 2 else pick a x 3) = pick a x i := by
  match i, hi with
  | 0, _ => rfl
  | 1, _ => rfl
  | 2, _ => rfl
  | 3, _ => rfl
theorem tab_own {n a : Nat} {f g : Nat → Nat → Bool} {t u : List Nat} (T : Tab n f t) (U : Tab n g u) :
    Tab (n + 1) (fun o r => if bit (r / 4 ^ n) a = true then f (o % 4 ^ n) (r % 4 ^ n) else g (o % 4 ^ n) (r % 4 ^ n)) (ownTab a (4 ^ n) t u) := by
  have hl : (ownRows a (4 ^ n) t u).length = 4 ^ n := by
    unfold ownRows
    rw [List.length_map, List.length_zip, T.len, U.len, Nat.min_self]
  have hrow : ∀ o, o < 4 ^ (n + 1) → (ownTab a (4 ^ n) t u).getD o 0 = ownRow a (4 ^ n) (t.getD (o % 4 ^ n) 0, u.getD (o % 4 ^ n) 0) := fun o ho => by
    obtain ⟨h1, h2, h3⟩ := split4 ho
    have e : (ownTab a (4 ^ n) t u).getD (o / 4 ^ n * 4 ^ n + o % 4 ^ n) 0 = _ := four_get hl hl hl hl h1 h2
    rw [← h3] at e
    rw [e]
    simp only [ite_self]
    rw [getD_lt (by rw [hl]; exact h2), getD_lt (by rw [T.len]; exact h2), getD_lt (by rw [U.len]; exact h2)]
    simp [ownRows]
  have hpick : ∀ o, o < 4 ^ (n + 1) → ∀ c, pick a (t.getD (o % 4 ^ n) 0, u.getD (o % 4 ^ n) 0) c < 2 ^ 4 ^ n := fun o ho c => by
    obtain ⟨h1, h2, h3⟩ := split4 ho
    unfold pick
    split
    · exact T.small _ h2
    · exact U.small _ h2
  refine ⟨by rw [pow_succ4]; exact four_len hl hl hl hl, fun o ho => ?_, fun o ho r hr => ?_⟩
  · rw [hrow o ho, pow_succ4]
    exact join4_small (hpick o ho 0) (hpick o ho 1) (hpick o ho 2) (hpick o ho 3)
  · obtain ⟨h1, h2, h3⟩ := split4 hr
    obtain ⟨g1, g2, g3⟩ := split4 ho
    have e := join4_bits (hpick o ho 0) (hpick o ho 1) (hpick o ho 2) (hpick o ho 3) h1 h2
    rw [← h3, pick4 a _ _ h1] at e
    rw [hrow o ho]
    refine Eq.trans e ?_
    unfold pick
    split
    · exact T.bits _ g2 _ h2
    · exact U.bits _ g2 _ h2
def othRows (w : Nat) (t : List Nat) : List Nat := t.map fun x => join4 w x x x x
def othSel (a w : Nat) (t u : List Nat) (c : Nat) : List Nat := othRows w (if bit c a = true then t else u)
def othTab (a w : Nat) (t u : List Nat) : List Nat := four (othSel a w t u 0) (othSel a w t u 1) (othSel a w t u 2) (othSel a w t u 3)
theorem tab_oth {n a : Nat} {f g : Nat → Nat → Bool} {t u : List Nat} (T : Tab n f t) (U : Tab n g u) :
    Tab (n + 1) (fun o r => if bit (o / 4 ^ n) a = true then f (o % 4 ^ n) (r % 4 ^ n) else g (o % 4 ^ n) (r % 4 ^ n)) (othTab a (4 ^ n) t u) := by
  have hl : ∀ c, (othSel a (4 ^ n) t u c).length = 4 ^ n := fun c => by
    unfold othSel othRows
    rw [List.length_map]
    split
    · exact T.len
    · exact U.len
  have hsel : ∀ i, i < 4 → (if i = 0 then othSel a (4 ^ n) t u 0 else if i = 1 then othSel a (4 ^ n) t u 1 else if i = 2 then othSel a (4 ^ n) t u 2 else othSel a (4 ^ n) t u 3) = othSel a (4 ^ n) t u i := fun i hi => by
    match i, hi with
    | 0, _ => rfl
    | 1, _ => rfl
    | 2, _ => rfl
    | 3, _ => rfl
  have hrow : ∀ o, o < 4 ^ (n + 1) → ∃ x, x < 2 ^ 4 ^ n ∧ x = (if bit (o / 4 ^ n) a = true then t else u).getD (o % 4 ^ n) 0 ∧ (othTab a (4 ^ n) t u).getD o 0 = join4 (4 ^ n) x x x x := fun o ho => by
    obtain ⟨h1, h2, h3⟩ := split4 ho
    have e : (othTab a (4 ^ n) t u).getD (o / 4 ^ n * 4 ^ n + o % 4 ^ n) 0 = _ := four_get (hl 0) (hl 1) (hl 2) (hl 3) h1 h2
    rw [← h3, hsel _ h1] at e
    refine ⟨_, ?_, rfl, ?_⟩
    · split
      · exact T.small _ h2
      · exact U.small _ h2
    · rw [e, getD_lt (by rw [hl]; exact h2)]
      have hlen : (if bit (o / 4 ^ n) a = true then t else u).length = 4 ^ n := by
        split
        · exact T.len
        · exact U.len
      rw [getD_lt (by rw [hlen]; exact h2)]
      simp only [othSel, othRows, List.getElem_map]
  refine ⟨by rw [pow_succ4]; exact four_len (hl 0) (hl 1) (hl 2) (hl 3), fun o ho => ?_, fun o ho r hr => ?_⟩
  · obtain ⟨x, hx, _, e⟩ := hrow o ho
    rw [e, pow_succ4]
    exact join4_small hx hx hx hx
  · obtain ⟨h1, h2, h3⟩ := split4 hr
    obtain ⟨g1, g2, g3⟩ := split4 ho
    obtain ⟨x, hx, ex, e⟩ := hrow o ho
    have e' := join4_bits hx hx hx hx h1 h2
    rw [← h3] at e'
    rw [e, e']
    simp only [ite_self]
    rw [ex]
    split
    · exact T.bits _ g2 _ h2
    · exact U.bits _ g2 _ h2

/-! ### groups of duties -/
def isDuty : Deal → Bool
  | .must .. => true
  | .mustnt .. => true
  | .may .. => true
  | _ => false
theorem isDuty_du {w p a k : Nat} {c d : Deal} (h1 : 2 ≤ w) (h2 : w ≤ 4) : isDuty (du w p a k c d) = true := by
  rcases w3 h1 h2 with rfl | rfl | rfl <;> rfl
theorem isDuty_get {d : Deal} (h : isDuty d = true) : ∃ w p a k c e, 2 ≤ w ∧ w ≤ 4 ∧ d = du w p a k c e := by
  cases d with
  | over => cases h
  | breach => cases h
  | both => cases h
  | must p a k c e => exact ⟨2, p, a, k, c, e, by decide, by decide, rfl⟩
  | mustnt p a k c e => exact ⟨3, p, a, k, c, e, by decide, by decide, rfl⟩
  | may p a k c e => exact ⟨4, p, a, k, c, e, by decide, by decide, rfl⟩
def whoAct : Deal → Nat × Nat
  | .must p a .. => (p, a)
  | .mustnt p a .. => (p, a)
  | .may p a .. => (p, a)
  | _ => (2, 2)
theorem whoAct_du {w p a k : Nat} {c d : Deal} (h1 : 2 ≤ w) (h2 : w ≤ 4) : whoAct (du w p a k c d) = (p, a) := by
  rcases w3 h1 h2 with rfl | rfl | rfl <;> rfl
theorem step_by (l : Acts) {d : Deal} (h : isDuty d = true) {q a : Nat} (hw : whoAct d = (q, a)) (hq : q < 2) (ha : a < 2) :
    step l d = if l.contains (q, a) = true then step (acts 0 3 3) d else step (acts 0 0 0) d := by
  obtain ⟨w, p, b, k, c, e, h1, h2, rfl⟩ := isDuty_get h
  rw [whoAct_du h1 h2] at hw
  cases hw
  have e1 : (acts 0 3 3).contains (q, a) = true := by
    rw [acts_has 3 3 a (by decide) hq ha]
    have : a = 0 ∨ a = 1 := by omega
    rcases this with rfl | rfl <;> simp [bit]
  have e2 : (acts 0 0 0).contains (q, a) = false := by
    rw [acts_has 0 0 a (by decide) hq ha]
    simp [bit]
  rw [step_du l h1 h2, step_du _ h1 h2, step_du _ h1 h2, e1, e2]
  split <;> simp
theorem badL_group {p n q a : Nat} (ds : List Deal) (hp : p < 2) (hq : q < 2) (ha : a < 2) (hd : ∀ d ∈ ds, isDuty d = true ∧ whoAct d = (q, a)) {o r : Nat} (ho : o < 4 ^ (n + 1)) (hr : r < 4 ^ (n + 1)) :
    badL p (n + 1) ds o r = if (if q = p then bit (r / 4 ^ n) a else bit (o / 4 ^ n) a) = true then badL p n (ds.map (step (acts 0 3 3))) (o % 4 ^ n) (r % 4 ^ n) else badL p n (ds.map (step (acts 0 0 0))) (o % 4 ^ n) (r % 4 ^ n) := by
  have e1 : r / 4 ^ n % 4 = r / 4 ^ n := Nat.mod_eq_of_lt (split4 hr).1
  have e2 : o / 4 ^ n % 4 = o / 4 ^ n := Nat.mod_eq_of_lt (split4 ho).1
  have e : ∀ d ∈ ds, bad p (n + 1) d o r = if (if q = p then bit (r / 4 ^ n) a else bit (o / 4 ^ n) a) = true then bad p n (step (acts 0 3 3) d) (o % 4 ^ n) (r % 4 ^ n) else bad p n (step (acts 0 0 0) d) (o % 4 ^ n) (r % 4 ^ n) := fun d hm => by
    rw [bad_succ, e1, e2, step_by _ (hd d hm).1 (hd d hm).2 hq ha, acts_has _ _ a hp hq ha]
    generalize (if q = p then bit (r / 4 ^ n) a else bit (o / 4 ^ n) a) = b
    cases b <;> rfl
  unfold badL
  rw [List.any_map, List.any_map]
  generalize (if q = p then bit (r / 4 ^ n) a else bit (o / 4 ^ n) a) = b at e ⊢
  cases b with
  | true =>
    simp only [if_true] at e ⊢
    clear hd
    induction ds with
    | nil => rfl
    | cons d ds ih =>
      rw [List.any_cons, List.any_cons, e d (List.mem_cons_self ..), ih fun x hx => e x (List.mem_cons_of_mem _ hx)]
      rfl
  | false =>
    simp only [Bool.false_eq_true, if_false] at e ⊢
    clear hd
    induction ds with
    | nil => rfl
    | cons d ds ih =>
      rw [List.any_cons, List.any_cons, e d (List.mem_cons_self ..), ih fun x hx => e x (List.mem_cons_of_mem _ hx)]
      rfl
theorem badL_flatMap (p n o r : Nat) (l : Acts) : ∀ ds : List Deal, badL p n (ds.map (step l)) o r = badL p n (ds.flatMap fun d => parts (step l d)) o r
  | [] => rfl
  | d :: ds => by
    have ih := badL_flatMap p n o r l ds
    have e := bad_parts p n o r (step l d)
    unfold badL at ih e ⊢
    rw [List.map_cons, List.any_cons, ih, List.flatMap_cons, List.any_append, e]
/-- no both among them -/
def noBoth : Deal → Bool
  | .both .. => false
  | _ => true
theorem parts_noBoth : ∀ d, ∀ x ∈ parts d, noBoth x = true := by
  refine cases3 ?_ ?_ ?_ ?_
  · intro x h; simp [parts] at h; subst h; rfl
  · intro q x h; simp [parts] at h; subst h; rfl
  · intro w q a k c d h1 h2 _ _ x h
    rw [parts_du h1 h2] at h
    simp at h; subst h
    rcases w3 h1 h2 with rfl | rfl | rfl <;> rfl
  · intro c d hc hd x h
    rw [parts, List.mem_append] at h
    exact h.elim (hc x) (hd x)
theorem parts_days : ∀ d, ∀ x ∈ parts d, days x ≤ days d := by
  refine cases3 ?_ ?_ ?_ ?_
  · intro x h; simp [parts] at h; subst h; exact Nat.le_refl _
  · intro q x h; simp [parts] at h; subst h; exact Nat.le_refl _
  · intro w q a k c d h1 h2 _ _ x h
    rw [parts_du h1 h2] at h
    simp at h; subst h
    exact Nat.le_refl _
  · intro c d hc hd x h
    rw [parts, List.mem_append] at h
    show days x ≤ max (days c) (days d)
    rcases h with h | h
    · have := hc x h; omega
    · have := hd x h; omega
theorem parts_wf : ∀ d, wf d → ∀ x ∈ parts d, wf x := by
  refine cases3 ?_ ?_ ?_ ?_
  · intro _ x h; simp [parts] at h; subst h; trivial
  · intro q hq x h; simp [parts] at h; subst h; exact hq
  · intro w q a k c d h1 h2 _ _ hw x h
    rw [parts_du h1 h2] at h
    simp at h; subst h
    exact hw
  · intro c d hc hd hw x h
    rw [parts, List.mem_append] at h
    exact h.elim (hc hw.1 x) (hd hw.2 x)
theorem whoAct_cases {d : Deal} (h : isDuty d = true) (hw : wf d) : whoAct d = (0, 0) ∨ whoAct d = (0, 1) ∨ whoAct d = (1, 0) ∨ whoAct d = (1, 1) := by
  obtain ⟨w, p, b, k, c, e, h1, h2, rfl⟩ := isDuty_get h
  have := ((wf_du h1 h2).mp hw).1
  rw [whoAct_du h1 h2]
  have h3 : p = 0 ∨ p = 1 := by omega
  have h4 : b = 0 ∨ b = 1 := by omega
  rcases h3 with rfl | rfl <;> rcases h4 with rfl | rfl <;> simp
def sel (q a : Nat) (ds : List Deal) : List Deal := ds.filter fun d => decide (whoAct d = (q, a))
theorem badL_groups {p n o r : Nat} : ∀ (ds : List Deal), (∀ d ∈ ds, isDuty d = true ∧ wf d) → badL p n ds o r = (((badL p n (sel 0 0 ds) o r || badL p n (sel 0 1 ds) o r) || badL p n (sel 1 0 ds) o r) || badL p n (sel 1 1 ds) o r)
  | [], _ => rfl
  | d :: ds, h => by
    have ih := badL_groups (p := p) (n := n) (o := o) (r := r) ds fun x hx => h x (List.mem_cons_of_mem _ hx)
    have hd := h d (List.mem_cons_self ..)
    unfold badL sel at ih ⊢
    rw [List.any_cons, ih]
    rcases whoAct_cases hd.1 hd.2 with e | e | e | e <;> simp [e] <;> cases bad p n d o r <;> simp
theorem badL_duties {p n o r : Nat} : ∀ (ds : List Deal), (∀ d ∈ ds, noBoth d = true ∧ blamed p d = false) → badL p n ds o r = badL p n (ds.filter isDuty) o r
  | [], _ => rfl
  | d :: ds, h => by
    have ih := badL_duties (p := p) (n := n) (o := o) (r := r) ds fun x hx => h x (List.mem_cons_of_mem _ hx)
    have hd := h d (List.mem_cons_self ..)
    unfold badL at ih ⊢
    rw [List.any_cons, ih, List.filter_cons]
    cases e : isDuty d with
    | true => simp
    | false =>
      have hs : settled d = true := by
        cases d with
        | over => rfl
        | breach => rfl
        | both => cases hd.1
        | must => cases e
        | mustnt => cases e
        | may => cases e
      rw [bad_settled p d hs, hd.2]
      simp

/-! ### the tables of keeping -/
def any4 (f : Nat → Bool) : Bool := f 0 || f 1 || f 2 || f 3
def all4 (f : Nat → Bool) : Bool := f 0 && f 1 && f 2 && f 3
theorem any4_congr {f g : Nat → Bool} (h : ∀ x, x < 4 → f x = g x) : any4 f = any4 g := by
  unfold any4
  rw [h 0 (by decide), h 1 (by decide), h 2 (by decide), h 3 (by decide)]
theorem all4_congr {f g : Nat → Bool} (h : ∀ x, x < 4 → f x = g x) : all4 f = all4 g := by
  unfold all4
  rw [h 0 (by decide), h 1 (by decide), h 2 (by decide), h 3 (by decide)]
def lev (f : Nat → Nat → Bool) : Nat → Nat → Nat → Bool
  | 0, o, r => any4 fun x => f (4 * o + x) r
  | j + 1, o, r => any4 fun x => all4 fun y => lev f j (4 * o + x) (4 * r + y)
def or4 (t : List Nat) : List Nat := (List.range (t.length / 4)).map fun i => t.getD (4 * i) 0 ||| t.getD (4 * i + 1) 0 ||| t.getD (4 * i + 2) 0 ||| t.getD (4 * i + 3) 0
def best (s row : Nat) : Nat := row &&& row >>> s &&& row >>> (2 * s) &&& row >>> (3 * s)
structure LTab (i j : Nat) (f : Nat → Nat → Bool) (t : List Nat) : Prop where
  len : t.length = 4 ^ i
  bits : ∀ o, o < 4 ^ i → ∀ r, r < 4 ^ (i + 1) → (t.getD o 0).testBit (r * 4 ^ j) = lev f j o r
theorem or4_len {t : List Nat} {i : Nat} (h : t.length = 4 ^ (i + 1)) : (or4 t).length = 4 ^ i := by
  unfold or4
  rw [List.length_map, List.length_range, h, pow_succ4, Nat.mul_div_cancel_left _ (by decide)]
theorem or4_get {t : List Nat} {i o : Nat} (h : t.length = 4 ^ (i + 1)) (ho : o < 4 ^ i) : (or4 t).getD o 0 = t.getD (4 * o) 0 ||| t.getD (4 * o + 1) 0 ||| t.getD (4 * o + 2) 0 ||| t.getD (4 * o + 3) 0 := by
  rw [getD_lt (by rw [or4_len h]; exact ho)]
  simp [or4]
theorem ltab_start {i : Nat} {f : Nat → Nat → Bool} {t : List Nat} (T : Tab (i + 1) f t) : LTab i 0 f (or4 t) := by
  refine ⟨or4_len T.len, fun o ho r hr => ?_⟩
  rw [or4_get T.len ho, Nat.pow_zero, Nat.mul_one]
  have hp := pow_succ4 i
  simp only [Nat.testBit_or]
  rw [T.bits _ (by omega) r hr, T.bits _ (by omega) r hr, T.bits _ (by omega) r hr, T.bits _ (by omega) r hr]
  rfl
theorem ltab_next {i j : Nat} {f : Nat → Nat → Bool} {t : List Nat} (T : LTab (i + 1) j f t) : LTab i (j + 1) f (or4 (t.map (best (4 ^ j)))) := by
  have hl : (t.map (best (4 ^ j))).length = 4 ^ (i + 1) := by rw [List.length_map]; exact T.len
  refine ⟨or4_len hl, fun o ho r hr => ?_⟩
  have hp := pow_succ4 i
  have hp2 := pow_succ4 (i + 1)
  have hg : ∀ x, x < 4 ^ (i + 1) → (t.map (best (4 ^ j))).getD x 0 = best (4 ^ j) (t.getD x 0) := fun x hx => by
    rw [getD_lt (by rw [hl]; exact hx), getD_lt (by rw [T.len]; exact hx)]
    simp
  have hb : ∀ x, x < 4 → (best (4 ^ j) (t.getD (4 * o + x) 0)).testBit (r * 4 ^ (j + 1)) = all4 fun y => lev f j (4 * o + x) (4 * r + y) := fun x hx => by
    have hb1 : ∀ y, y < 4 → (t.getD (4 * o + x) 0).testBit (y * 4 ^ j + r * 4 ^ (j + 1)) = lev f j (4 * o + x) (4 * r + y) := fun y hy => by
      rw [← T.bits (4 * o + x) (by omega) (4 * r + y) (by omega)]
      congr 1
      rw [pow_succ4, Nat.add_mul, Nat.add_comm, ← Nat.mul_assoc, Nat.mul_comm r 4]
    unfold best
    simp only [Nat.testBit_and, Nat.testBit_shiftRight]
    have b0 := hb1 0 (by decide)
    have b1 := hb1 1 (by decide)
    rw [Nat.zero_mul, Nat.zero_add] at b0
    rw [Nat.one_mul] at b1
    rw [b0, b1, hb1 2 (by decide), hb1 3 (by decide)]
    rfl
  rw [or4_get hl ho, hg _ (by omega), hg _ (by omega), hg _ (by omega), hg _ (by omega)]
  simp only [Nat.testBit_or]
  have h0 := hb 0 (by decide)
  rw [Nat.add_zero] at h0
  rw [h0, hb 1 (by decide), hb 2 (by decide), hb 3 (by decide)]
  rfl
theorem any_sets (f : Nat → Bool) : sets.any f = any4 f := by
  simp [sets_eq, any4, Bool.or_assoc]
theorem all_sets (f : Nat → Bool) : sets.all f = all4 f := by
  simp [sets_eq, all4, Bool.and_assoc]
theorem not_any4 (f : Nat → Bool) : (!any4 f) = all4 fun x => !f x := by
  simp [any4, all4, Bool.not_or]
theorem not_all4 (f : Nat → Bool) : (!all4 f) = any4 fun x => !f x := by
  simp [any4, all4, Bool.not_and]
theorem lev_win (p : Nat) (d : Deal) : ∀ (j i : Nat) (o r : Nat), lev (bad p (i + j + 1) d) j o r = any4 fun x => !win p j (aft p (i + 1) r (4 * o + x) d)
  | 0, i, o, r => by
    show (any4 fun x => bad p (i + 0 + 1) d (4 * o + x) r) = _
    congr 1
    funext x
    show blamed p (aft p (i + 1) r (4 * o + x) d) = !(!blamed p (aft p (i + 1) r (4 * o + x) d))
    rw [Bool.not_not]
  | j + 1, i, o, r => by
    show (any4 fun x => all4 fun y => lev (bad p (i + (j + 1) + 1) d) j (4 * o + x) (4 * r + y)) = _
    congr 1
    funext x
    have e : ∀ y, y < 4 → lev (bad p (i + (j + 1) + 1) d) j (4 * o + x) (4 * r + y) = any4 fun z => !win p j (step (acts p y z) (aft p (i + 1) r (4 * o + x) d)) := fun y hy => by
      have ih := lev_win p d j (i + 1) (4 * o + x) (4 * r + y)
      rw [show i + 1 + j + 1 = i + (j + 1) + 1 by omega] at ih
      rw [ih]
      have s : ∀ z, z < 4 → aft p (i + 1 + 1) (4 * r + y) (4 * (4 * o + x) + z) d = step (acts p y z) (aft p (i + 1) r (4 * o + x) d) := fun z hz => by
        show step (acts p ((4 * r + y) % 4) ((4 * (4 * o + x) + z) % 4)) (aft p (i + 1) ((4 * r + y) / 4) ((4 * (4 * o + x) + z) / 4) d) = _
        rw [show (4 * r + y) % 4 = y by omega, show (4 * (4 * o + x) + z) % 4 = z by omega, show (4 * r + y) / 4 = r by omega, show (4 * (4 * o + x) + z) / 4 = 4 * o + x by omega]
      exact any4_congr fun z hz => by rw [s z hz]
    have e2 : (all4 fun y => lev (bad p (i + (j + 1) + 1) d) j (4 * o + x) (4 * r + y)) = all4 fun y => any4 fun z => !win p j (step (acts p y z) (aft p (i + 1) r (4 * o + x) d)) := all4_congr e
    rw [e2]
    have e3 : win p (j + 1) (aft p (i + 1) r (4 * o + x) d) = any4 fun m => all4 fun z => win p j (step (acts p m z) (aft p (i + 1) r (4 * o + x) d)) := by
      show (sets.any fun m => sets.all fun o' => win p j (step (acts p m o') _)) = _
      rw [any_sets]
      congr 1
      funext m
      rw [all_sets]
    rw [e3, not_any4]
    congr 1
    funext y
    rw [not_all4]
theorem lev_keeps (p : Nat) (d : Deal) {n m : Nat} (hn : ahead d = n + 1) (hm : m < 4) : lev (bad p (n + 1) d) n 0 m = !keeps p d m := by
  have h := lev_win p d n 0 0 m
  rw [show 0 + n + 1 = n + 1 by omega] at h
  rw [h]
  unfold keeps
  rw [all_sets, not_all4, hn]
  have s : ∀ x, x < 4 → aft p (0 + 1) m (4 * 0 + x) d = step (acts p m x) d := fun x hx => by
    show step (acts p (m % 4) ((4 * 0 + x) % 4)) d = _
    rw [show m % 4 = m by omega, show (4 * 0 + x) % 4 = x by omega]
  exact any4_congr fun x hx => by rw [s x hx]; rfl
/-- the choices that are left, off the last table's one row -/
theorem keep_last {p n row : Nat} {d : Deal} (hn : ahead d = n + 1) (T : LTab 0 n (bad p (n + 1) d) [row]) : (sets.filter fun c => !row.testBit (c * 4 ^ n)) = sets.filter (keeps p d) := by
  have e : ∀ c, c < 4 → (!row.testBit (c * 4 ^ n)) = keeps p d c := fun c hc => by
    have h := T.bits 0 (by simp) c (by simpa using hc)
    have h' : row.testBit (c * 4 ^ n) = lev (bad p (n + 1) d) n 0 c := h
    rw [h', lev_keeps p d hn hc, Bool.not_not]
  rw [sets_eq]
  simp only [List.filter_cons, List.filter_nil]
  rw [e 0 (by decide), e 1 (by decide), e 2 (by decide), e 3 (by decide)]
end Duty

namespace Duty
open Co09 (Deal)
/-- a call by its own numbers -/
inductive Dec : List Nat → Co09.Call → Prop
  | agree (n : Nat) (l : List Nat) : l.length ≤ 100 → Dec (0 :: n :: l) (.agree l)
  | add (n : Nat) (l : List Nat) : l.length ≤ 100 → Dec (1 :: n :: l) (.add l)
  | day (a b : Nat) : Dec [2, a, b] (.day a b)
  | stands : Dec [3] .stands
  | who : Dec [4] .who
  | safe (p : Nat) : Dec [5, p] (.safe p)
  | today (p : Nat) : Dec [6, p] (.today p)
  | left : Dec [7] .left
def clen : List Nat → Nat
  | [] => 0
  | w :: r => if w = 0 ∨ w = 1 then 2 + r.headD 0 else if w = 2 then 3 else if w = 5 ∨ w = 6 then 2 else 1
/-! ### the state stays well -/
def first2 (s : Co09.St) : Prop := s.first.length = 2
theorem noted_len (s : Co09.St) (c : Deal) (n : Nat) : (Co09.noted s c n).length = 2 := rfl
theorem deal_facts {ns : List Nat} {c : Deal} (h : Co09.deal? ns = some c) : wf c ∧ size c ≤ ns.length := by
  rcases deal_go ns with ⟨c', hs', e1, _, _, e4, e5, _⟩ | ⟨e1, _⟩
  · rw [h] at e1; cases e1; exact ⟨e4, e5⟩
  · rw [h] at e1; cases e1
theorem step_ok {cs : List Nat} {c : Co09.Call} (h : Dec cs c) (s : Co09.St) (h1 : wf s.deal) (h2 : s.first.length = 2) : wf (Co09.stepCall s c).1.deal ∧ (Co09.stepCall s c).1.first.length = 2 ∧ size (Co09.stepCall s c).1.deal ≤ size s.deal + 101 := by
  cases h with
  | agree n l hl =>
    unfold Co09.stepCall
    cases e : Co09.deal? l with
    | none => simp only [e]; exact ⟨h1, h2, Nat.le_add_right _ _⟩
    | some c =>
      have := deal_facts e
      simp only [e]
      refine ⟨this.1, rfl, ?_⟩
      show size c ≤ _
      omega
  | add n l hl =>
    unfold Co09.stepCall
    cases e : Co09.deal? l with
    | none => simp only [e]; exact ⟨h1, h2, Nat.le_add_right _ _⟩
    | some c =>
      have := deal_facts e
      simp only [e]
      refine ⟨wf_pair h1 this.1, rfl, ?_⟩
      have := size_pair s.deal c
      show size (Co09.pair s.deal c) ≤ _
      omega
  | day a b =>
    by_cases hab : 2 ^ Co09.ACTS ≤ a ∨ 2 ^ Co09.ACTS ≤ b
    · rw [show Co09.stepCall s (.day a b) = (s, [-1]) from if_pos hab]
      exact ⟨h1, h2, Nat.le_add_right _ _⟩
    · rw [show Co09.stepCall s (.day a b) = _ from if_neg hab]
      refine ⟨step_wf _ _ h1, rfl, ?_⟩
      have := step_size (Co09.doing 0 a ++ Co09.doing 1 b) s.deal
      show size (Co09.step _ s.deal) ≤ _
      omega
  | stands => exact ⟨h1, h2, Nat.le_add_right _ _⟩
  | who => exact ⟨h1, h2, Nat.le_add_right _ _⟩
  | safe p => exact ⟨h1, h2, Nat.le_add_right _ _⟩
  | today p => exact ⟨h1, h2, Nat.le_add_right _ _⟩
  | left => exact ⟨h1, h2, Nat.le_add_right _ _⟩
/-! ### one call off the list -/
def nats (l : List Int) : List Nat := l.map Int.toNat
def flatC (c : List (List Int)) : List Int := (PyCo09.whole c).headD []
theorem all_number {l : List Int} (h : ∀ z ∈ l, 0 ≤ z ∧ z ≤ 1000) : l.all Co09Neutral.number = true := by
  rw [List.all_eq_true]
  intro z hz
  have := h z hz
  unfold Co09Neutral.number
  rw [decide_eq_true this.1, decide_eq_true this.2]
  rfl
theorem step_of {fl : List Int} {x : Co09.Call} (h : ∀ z ∈ fl, 0 ≤ z ∧ z ≤ 1000) (e : Co09Neutral.callIn fl = some x) (s : Co09.St) : Co09Neutral.step s fl = Co09.stepCall s x := by
  have : Co09Neutral.callOf fl = some x := by
    unfold Co09Neutral.callOf
    rw [if_pos (all_number h), e]
  unfold Co09Neutral.step
  rw [this]
theorem one_call {p : Int} {r : List Int} {c : List (List Int)} {t : List Int} (h : PyFlat.call PyCo09.shape (p :: r) = some (c, t)) (hz : ∀ z ∈ p :: r, 0 ≤ z ∧ z ≤ 1000) (ha : Co09Neutral.asked1 (flatC c) = true) :
    ∃ (x : Co09.Call), t = (p :: r).drop (clen (nats (p :: r))) ∧ clen (nats (p :: r)) ≤ (p :: r).length ∧ 1 ≤ clen (nats (p :: r)) ∧ Dec ((nats (p :: r)).take (clen (nats (p :: r)))) x ∧ (p.toNat ≤ 1 → r ≠ []) ∧ ∀ s, Co09Neutral.step s (flatC c) = Co09.stepCall s x := by
  have hp := hz p (List.mem_cons_self ..)
  have hr : ∀ z ∈ r, 0 ≤ z ∧ z ≤ 1000 := fun z hm => hz z (List.mem_cons_of_mem _ hm)
  unfold PyFlat.call at h
  -- the shapes
  by_cases p0 : p = 0
  · subst p0
    simp only [show PyCo09.shape 0 = some (0, 1) from rfl] at h
    rw [if_neg (by omega), List.drop_zero] at h
    cases r with
    | nil => simp [PyFlat.rows, PyFlat.row] at h
    | cons m r' =>
      have hm := hr m (List.mem_cons_self ..)
      simp only [PyFlat.rows, PyFlat.row] at h
      by_cases hl : 0 ≤ m ∧ m.toNat ≤ r'.length
      · rw [if_pos hl] at h
        simp only [List.take_zero] at h
        cases h
        have e1 : flatC [[0], r'.take m.toNat] = 0 :: r'.take m.toNat := rfl
        rw [e1] at ha ⊢
        have hfz : ∀ z ∈ (0 : Int) :: r'.take m.toNat, 0 ≤ z ∧ z ≤ 1000 := fun z hq => by
          rcases List.mem_cons.mp hq with rfl | hq
          · exact ⟨by decide, by decide⟩
          · exact hr z (List.mem_cons_of_mem _ (List.mem_of_mem_take hq))
        have h100 : (r'.take m.toNat).length ≤ 100 := by
          unfold Co09Neutral.asked1 Co09Neutral.callOf at ha
          rw [if_pos (all_number hfz)] at ha
          unfold Co09Neutral.callIn at ha
          simp only at ha
          by_cases z : (r'.take m.toNat).length ≤ 100
          · exact z
          · rw [if_neg z] at ha; cases ha
        have ec : clen (nats (0 :: m :: r')) = 2 + m.toNat := rfl
        refine ⟨.agree ((r'.take m.toNat).map Int.toNat), ?_, ?_, ?_, ?_, ?_, fun s => step_of hfz ?_ s⟩
        · rw [ec, Nat.add_comm]; rfl
        · rw [ec]; simp only [List.length_cons]; omega
        · rw [ec]; omega
        · rw [ec, Nat.add_comm]
          show Dec (0 :: m.toNat :: ((r'.map Int.toNat).take m.toNat)) _
          rw [← List.map_take]
          exact .agree _ _ (by rw [List.length_map]; exact h100)
        · intro _ q; cases q
        · exact if_pos h100
      · rw [if_neg hl] at h; cases h
  by_cases p1 : p = 1
  · subst p1
    simp only [show PyCo09.shape 1 = some (0, 1) from rfl] at h
    rw [if_neg (by omega), List.drop_zero] at h
    cases r with
    | nil => simp [PyFlat.rows, PyFlat.row] at h
    | cons m r' =>
      have hm := hr m (List.mem_cons_self ..)
      simp only [PyFlat.rows, PyFlat.row] at h
      by_cases hl : 0 ≤ m ∧ m.toNat ≤ r'.length
      · rw [if_pos hl] at h
        simp only [List.take_zero] at h
        cases h
        have e1 : flatC [[1], r'.take m.toNat] = 1 :: r'.take m.toNat := rfl
        rw [e1] at ha ⊢
        have hfz : ∀ z ∈ (1 : Int) :: r'.take m.toNat, 0 ≤ z ∧ z ≤ 1000 := fun z hq => by
          rcases List.mem_cons.mp hq with rfl | hq
          · exact ⟨by decide, by decide⟩
          · exact hr z (List.mem_cons_of_mem _ (List.mem_of_mem_take hq))
        have h100 : (r'.take m.toNat).length ≤ 100 := by
          unfold Co09Neutral.asked1 Co09Neutral.callOf at ha
          rw [if_pos (all_number hfz)] at ha
          unfold Co09Neutral.callIn at ha
          simp only at ha
          by_cases z : (r'.take m.toNat).length ≤ 100
          · exact z
          · rw [if_neg z] at ha; cases ha
        have ec : clen (nats (1 :: m :: r')) = 2 + m.toNat := rfl
        refine ⟨.add ((r'.take m.toNat).map Int.toNat), ?_, ?_, ?_, ?_, ?_, fun s => step_of hfz ?_ s⟩
        · rw [ec, Nat.add_comm]; rfl
        · rw [ec]; simp only [List.length_cons]; omega
        · rw [ec]; omega
        · rw [ec, Nat.add_comm]
          show Dec (1 :: m.toNat :: ((r'.map Int.toNat).take m.toNat)) _
          rw [← List.map_take]
          exact .add _ _ (by rw [List.length_map]; exact h100)
        · intro _ q; cases q
        · exact if_pos h100
      · rw [if_neg hl] at h; cases h
  by_cases p2 : p = 2
  · subst p2
    simp only [show PyCo09.shape 2 = some (2, 0) from rfl] at h
    by_cases hl : r.length < 2
    · rw [if_pos hl] at h; cases h
    · rw [if_neg hl] at h
      match r, hl, hz, hr, h with
      | a :: b :: r', _, hz, hr, h =>
        simp only [PyFlat.rows] at h
        cases h
        refine ⟨.day a.toNat b.toNat, rfl, by show 3 ≤ _; simp, by show 1 ≤ 3; decide, .day _ _, fun q => absurd q (by decide), fun s => step_of (fl := [2, a, b]) (fun z hq => ?_) rfl s⟩
        simp at hq
        rcases hq with rfl | rfl | rfl
        · exact ⟨by decide, by decide⟩
        · exact hr _ (List.mem_cons_self ..)
        · exact hr _ (List.mem_cons_of_mem _ (List.mem_cons_self ..))
      | [_], hl, _, _, _ => exact absurd (by simp) hl
      | [], hl, _, _, _ => exact absurd (by simp) hl
  by_cases p3 : p = 3
  · subst p3
    simp only [show PyCo09.shape 3 = some (0, 0) from rfl] at h
    rw [if_neg (by omega), List.drop_zero] at h
    simp only [PyFlat.rows, List.take_zero] at h
    cases h
    exact ⟨.stands, rfl, by show 1 ≤ _; simp, by show 1 ≤ 1; decide, .stands, fun q => absurd q (by decide), fun s => step_of (fl := [3]) (fun z hq => by simp at hq; subst hq; exact ⟨by decide, by decide⟩) rfl s⟩
  by_cases p4 : p = 4
  · subst p4
    simp only [show PyCo09.shape 4 = some (0, 0) from rfl] at h
    rw [if_neg (by omega), List.drop_zero] at h
    simp only [PyFlat.rows, List.take_zero] at h
    cases h
    exact ⟨.who, rfl, by show 1 ≤ _; simp, by show 1 ≤ 1; decide, .who, fun q => absurd q (by decide), fun s => step_of (fl := [4]) (fun z hq => by simp at hq; subst hq; exact ⟨by decide, by decide⟩) rfl s⟩
  by_cases p5 : p = 5
  · subst p5
    simp only [show PyCo09.shape 5 = some (1, 0) from rfl] at h
    cases r with
    | nil => simp at h
    | cons a r' =>
      rw [if_neg (by simp)] at h
      simp only [PyFlat.rows] at h
      cases h
      refine ⟨.safe a.toNat, rfl, by show 2 ≤ _; simp, by show 1 ≤ 2; decide, .safe _, fun q => absurd q (by decide), fun s => step_of (fl := [5, a]) (fun z hq => ?_) rfl s⟩
      simp at hq
      rcases hq with rfl | rfl
      · exact ⟨by decide, by decide⟩
      · exact hr _ (List.mem_cons_self ..)
  by_cases p6 : p = 6
  · subst p6
    simp only [show PyCo09.shape 6 = some (1, 0) from rfl] at h
    cases r with
    | nil => simp at h
    | cons a r' =>
      rw [if_neg (by simp)] at h
      simp only [PyFlat.rows] at h
      cases h
      refine ⟨.today a.toNat, rfl, by show 2 ≤ _; simp, by show 1 ≤ 2; decide, .today _, fun q => absurd q (by decide), fun s => step_of (fl := [6, a]) (fun z hq => ?_) rfl s⟩
      simp at hq
      rcases hq with rfl | rfl
      · exact ⟨by decide, by decide⟩
      · exact hr _ (List.mem_cons_self ..)
  by_cases p7 : p = 7
  · subst p7
    simp only [show PyCo09.shape 7 = some (0, 0) from rfl] at h
    rw [if_neg (by omega), List.drop_zero] at h
    simp only [PyFlat.rows, List.take_zero] at h
    cases h
    exact ⟨.left, rfl, by show 1 ≤ _; simp, by show 1 ≤ 1; decide, .left, fun q => absurd q (by decide), fun s => step_of (fl := [7]) (fun z hq => by simp at hq; subst hq; exact ⟨by decide, by decide⟩) rfl s⟩
  · have : PyCo09.shape p = none := by
      unfold PyCo09.shape
      rw [if_neg p0, if_neg p1, if_neg p2, if_neg p3, if_neg p4, if_neg p5, if_neg p6, if_neg p7]
    simp only [this] at h
    cases h
/-! ### the whole line -/
def play (s : Co09.St) (R : List (List (List Int))) : List Int := PyFlat.told (PyFlat.played (fun s c => Co09Neutral.step s (c.headD [])) s (R.map PyCo09.whole))
theorem play_nil (s : Co09.St) : play s [] = [] := rfl
theorem play_cons (s : Co09.St) (c : List (List Int)) (R : List (List (List Int))) : play s (c :: R) = ((Co09Neutral.step s (flatC c)).2.length : Int) :: ((Co09Neutral.step s (flatC c)).2 ++ play (Co09Neutral.step s (flatC c)).1 R) := by
  unfold play PyFlat.told
  rw [List.map_cons, PyFlat.played, List.flatMap_cons]
  rfl
/-- what is asked, in the pieces that the loop needs -/
theorem asked_facts {l : List Int} (h : PyCo09.answers_asked l = true) : ∃ R, PyFlat.calls PyCo09.shape l.length l = some R ∧ R.length ≤ 60 ∧ (∀ c ∈ R, Co09Neutral.asked1 (flatC c) = true) ∧ PyCo09.answers l = play Co09.init R ∧ (PyCo09.answers l).length ≤ 10000000 := by
  unfold PyCo09.answers_asked at h
  cases e : PyFlat.calls PyCo09.shape l.length l with
  | none => rw [e] at h; cases h
  | some R =>
    rw [e] at h
    simp only [Bool.and_eq_true] at h
    obtain ⟨⟨⟨⟨_, h60⟩, _⟩, hask⟩, hsh⟩ := h
    refine ⟨R, rfl, of_decide_eq_true h60, fun c hc => ?_, ?_, of_decide_eq_true hsh⟩
    · unfold Co09Neutral.asked at hask
      simp only [Bool.and_eq_true] at hask
      obtain ⟨_, _, h1, _⟩ := hask
      rw [List.all_eq_true] at h1
      exact h1 _ (List.mem_map.mpr ⟨_, List.mem_map.mpr ⟨c, hc, rfl⟩, rfl⟩)
    · unfold PyCo09.answers PyCo09.calls
      rw [e]
      rfl
theorem calls_cons {f : Nat} {p : Int} {r : List Int} {R : List (List (List Int))} (h : PyFlat.calls PyCo09.shape f (p :: r) = some R) : ∃ f' c t R', f = f' + 1 ∧ R = c :: R' ∧ PyFlat.call PyCo09.shape (p :: r) = some (c, t) ∧ PyFlat.calls PyCo09.shape f' t = some R' := by
  cases f with
  | zero => cases h
  | succ f =>
    unfold PyFlat.calls at h
    cases e : PyFlat.call PyCo09.shape (p :: r) with
    | none => rw [e] at h; cases h
    | some z =>
      obtain ⟨c, t⟩ := z
      rw [e] at h
      simp only at h
      cases e2 : PyFlat.calls PyCo09.shape f t with
      | none => rw [e2] at h; cases h
      | some R' =>
        rw [e2] at h
        cases h
        exact ⟨f, c, t, R', rfl, rfl, rfl, e2⟩
theorem calls_nil {f : Nat} {R : List (List (List Int))} (h : PyFlat.calls PyCo09.shape f [] = some R) : R = [] := by
  cases f <;> (unfold PyFlat.calls at h; cases h; rfl)
end Duty

/-! rules of my own: == and in over deep tuples where one side is shallow; list.extend(tuple); min(list, default=..); enumerate(tuple); zip(tuple, list) -/
namespace DRul
open PySem PySem.Spec PyProof.Rows L2
open AutoSeq1 (wpAny_loadPart')
/-- list.extend of a list by a tuple, whatever else the tuple's object has -/
theorem meetsExtT (l : Addr) (ia : Array Value) (n : Nat) (b : Addr) (ib : Array Value) (nb : Nat) (dct : Option Addr) (sl : Array (Option Value)) (hs0 : ¬(!ia.isEmpty && Builtin.List.listTooLong (ia.size + ib.size)) = true) (hs1 : ia.size ≤ sizeLine) (hs2 : ia.size + ib.size ≤ sizeLine + 1) :
    Meets (Builtin.«list.extend» ⟨[.ref l, .ref b], []⟩) (fun _ R s => s.heap.get? l = some { cls := .type "list", dict := none, data := .seq ia n, slots := #[] } ∧ s.heap.get? b = some { cls := .type "tuple", dict := dct, data := .seq ib nb, slots := sl } ∧ R (.ok (.ret Value.none)) { s with heap := s.heap.update l (Obj.mapSeq fun x => x ++ ib), toks := s.toks }) :=
  .of_wp fun prog w A R s h => by
    obtain ⟨hp, g, d, tk, os⟩ := s
    obtain ⟨hl, hb, h⟩ := h
    have f1 := AutoSeq1.idx_int
    have f2 := AutoSeq1.sub_tuple_tuple
    have f3 := AutoSeq1.sub_list_list
    have f4 := AutoSeq1.sub_tuple_list
    have f5 := AutoSeq1.sub_list_tuple
    have hz' : (ia ++ ib).size ≤ sizeLine + 1 := by rw [Array.size_append]; exact hs2
    wp_walk using (wpAny_updateSeq hl rfl (hz := hs1) (_hz' := hz')), wpAny_loadPart' hl, wpAny_loadPart' hb
    exact ⟨_, rfl, h⟩
section
variable {X : Cx}
/-- x == y where one of them is shallow -/
def rEqS (K : PySem.W.Frag) : R2 := fun x y H Q => ∃ d e, Dp K H x d ∧ Dp K H y e ∧ d.canLay0 = true ∧ e.canLay0 = true ∧ min d.depth e.depth ≤ 3 ∧ Q (.bl (PyData.eqv d e)) H
theorem op_eqS (hu : X.A.units + 64 < cLine) : OpR X (compareOp .Eq) (rEqS X.K) := by
  intro pins s σ H x y v u Q I rx ry h
  obtain ⟨d, e, hd, he, sd, se, hm, q⟩ := h
  obtain ⟨as, r1⟩ := Dp.reads I d x v hd rx
  obtain ⟨bs, r2⟩ := Dp.reads I e y u he ry
  exact SeqAt.compareEq_reads r1 r2 sd se (by omega) ⟨.bl _, H, I, rfl, q⟩
/-- x in l where x is shallow -/
def rInS (K : PySem.W.Frag) : R2 := fun x y H Q => ∃ d ds, Dp K H x d ∧ Dp K H y (.list ds) ∧ d.canLay0 = true ∧ PyData.canLayAll0 ds = true ∧ d.depth ≤ 3 ∧ Q (.bl (ds.any fun z => PyData.eqv z d)) H
theorem op_inS (hu : X.A.units + 64 < cLine) : OpR X (compareOp .In) (rInS X.K) := by
  intro pins s σ H x y v u Q I rx ry h
  obtain ⟨d, ds, hd, he, sd, se, hm, q⟩ := h
  obtain ⟨as, r1⟩ := Dp.reads I d x v hd rx
  obtain ⟨bs, r2⟩ := Dp.reads I (.list ds) y u he ry
  exact SeqAt.in_list_reads r2 r1 se sd (by omega) ⟨.bl _, H, I, rfl, q⟩
/-- xs.extend(t), t a tuple -/
def rExtT (K : PySem.W.Frag) : V → List V → Hp → VK → Prop := fun x vs H Q => ∃ l b xs zs, x = .ref l ∧ vs = [.ref b] ∧ H l = some (.lst xs) ∧ SqT K H b zs ∧ xs.length + zs.length ≤ sizeLine ∧ Q .non (upd H l (.lst (xs ++ zs)))
theorem mt_extT : MtM X "list.extend" (rExtT X.K) := by
  intro pins s σ H x vs v us Q I rx rv h
  obtain ⟨l, b, xs, zs, rfl, rfl, hH, hB, hz, q⟩ := h
  cases rx
  obtain ⟨u, rfl, ru⟩ := rv.one
  cases ru
  obtain ⟨z, its, n, r, hl, e⟩ := I.lstM hH
  obtain ⟨itb, rb, ⟨⟨cb, db, tb, sb⟩, eb, hcb, nb, hdb⟩, zb⟩ := I.tuple hB
  simp only at hcb hdb
  subst hcb hdb
  have hlb := rb.length
  have hsz : its.toArray.size + itb.toArray.size ≤ sizeLine := by
    simp only [List.size_toArray]
    omega
  have hno : ¬ (!its.toArray.isEmpty && Builtin.List.listTooLong (its.toArray.size + itb.toArray.size)) = true := by
    simp only [notLongL hsz, Bool.and_false]
    exact Bool.false_ne_true
  refine call_meets F.slot_list_extend ⟨_, e, rfl⟩ F.entry_list_extend (F.args_list_extend_2 _ _) (meetsExtT l its.toArray n b itb.toArray nb db sb hno (by simp only [List.size_toArray]; omega) (by omega)) ⟨e, eb, ?_⟩
  refine ⟨.non, _, I.lset (its' := its ++ itb) hH e (by simp) (r.append rb) ?_, rfl, q⟩
  simp only [List.length_append]
  omega
/-- min(l, default=d): whole numbers -/
def rMinD (K : PySem.W.Frag) : List V → List V → Hp → VK → Prop := fun vs zs H Q => ∃ (a : Addr) (ns : List Int) (d : Int), vs = [V.ref a] ∧ zs = [V.int d] ∧ SqL K H a (ns.map V.int) ∧
  (ns = [] → Q (.int d) H) ∧ (∀ y ys, ns = y :: ys → Q (.int (PySem.W.minOf y ys)) H)
theorem holdInts {h : Heap} : ∀ (ns : List Int) (its : List Value), Vals (ns.map V.int) its → PySem.W.HoldAll h its ns
  | [], _, .nil => PySem.W.HoldAll.nil
  | n :: ns, _, .cons ⟨t, e⟩ r => by
    subst e
    exact PySem.W.HoldAll.cons (PySem.W.holds_int n t) (holdInts ns _ r)
theorem cr_minD (hc : X.calm = true) (hu : X.A.units + 64 < cLine) : CallRK X (.builtin "min") ["default"] (rMinD X.K) := by
  intro pins s σ H xs zs us ws Q I r rz h
  obtain ⟨a, ns, d, rfl, rfl, hs, q0, q1⟩ := h
  obtain ⟨its, rv, hl, _⟩ := I.list hs
  rw [Vals.ref1 r]
  obtain ⟨wd, rfl, td, rfl⟩ := rz.one
  refine PySem.W.min_list_datum_default (α := Int) (xs := ns) (I.ok.hd hc) hl.isList (holdInts ns its rv) (show X.A.units + 1 + 0 < cLine by omega) (fun e h' tk hk => ?_) (fun y ys i v h' tk e hv hh hk => ?_)
  · exact ⟨.int d, H, I.kept hk, ⟨td, rfl⟩, q0 e⟩
  · obtain ⟨as, rd⟩ := hh
    have rd' : Reads h' v (.int (PySem.W.minOf y ys)) as := rd
    cases rd' with
    | int i t => exact ⟨.int _, H, I.kept hk, ⟨t, rfl⟩, q1 y ys e⟩
end
/-! ### enumerate(tuple) -/
/-- enumerate begins over anything whose iterator is a new object -/
theorem meetsEnum1 {v : Value} {o : Obj} {HB : Heap → Prop} (B : Begins v o HB) :
    Meets (Builtin.«enumerate.__new__» ⟨[.type "enumerate", v], []⟩) (fun _ R s => HB s.heap ∧
      R (.ok (.ret (.ref (s.heap.push o).objs.size))) { s with heap := (s.heap.push o).push { cls := .type "enumerate", data := .fields #[.none, .bool false, .ref s.heap.objs.size, rawInt 0, .none, .none] } }) :=
  .of_wp fun prog w A R s h => by
    obtain ⟨hp, gs, dr, tk, os⟩ := s
    obtain ⟨hb, h⟩ := h
    have hsub := sub_enumerate
    have qi : ∀ {A' : Around} {E : Value → Shared → Prop} {Q : Value → Shared → Prop}, Q (.ref hp.objs.size) ⟨hp.push o, gs, dr, tk, os⟩ → wpAny (model prog w) A' (pyIter v) Q E ⟨hp, gs, dr, tk, os⟩ :=
      fun q => B.iter prog w _ _ ⟨hp, gs, dr, tk, os⟩ _ hb q
    wp_walk using qi
    refine wpAny_stack_any fun st => wpAny_pure ?_
    split
    · rename_i cc _ _ _ _ _
      cases (cc == Value.type "enumerate") <;> (wp_walk using qi; exact ⟨_, rfl, h⟩)
    · wp_walk using qi
      exact ⟨_, rfl, h⟩
theorem enum1_begins {prog : Program} {w : World} {A : Around} {E : Value → Shared → Prop} {s : Shared} {v : Value} {o : Obj} {HB : Heap → Prop} {Q : Value → Shared → Prop} (B : Begins v o HB) (hb : HB s.heap)
    (h : ∀ h', IsEnum h' (s.heap.objs.size + 1) s.heap.objs.size 0 .none → h'.get? s.heap.objs.size = some o → (∀ b u, s.heap.get? b = some u → h'.get? b = some u) → Q (.ref (s.heap.objs.size + 1)) { s with heap := h' }) :
    wpAny (model prog w) A (call (.type "enumerate") [v]) Q E s := by
  refine callType_new F.called_enumerate (by decide) (F.typeCall_enumerate_1 _) (F.newCall_enumerate_1 _) (fun ob => F.args_object_init_2 ob _) F.entry_enumerate_new (meetsEnum1 B) ⟨hb, ?_⟩
  have hz : (s.heap.push o).objs.size = s.heap.objs.size + 1 := Heap.size_push ..
  show _ ∧ _
  rw [hz]
  have hE : IsEnum ((s.heap.push o).push { cls := .type "enumerate", data := .fields #[.none, .bool false, .ref s.heap.objs.size, rawInt 0, .none, .none] }) (s.heap.objs.size + 1) s.heap.objs.size 0 .none := by
    have q := Heap.get?_push_size (s.heap.push o) (o := { cls := .type "enumerate", data := .fields #[.none, .bool false, .ref s.heap.objs.size, rawInt 0, .none, .none] }) rfl
    rw [hz] at q
    exact q
  exact ⟨⟨_, hE, rfl⟩, h _ hE (Heap.get?_push_of_some _ (Heap.get?_push_size _ B.free)) fun b u x => Heap.get?_push_of_some _ (Heap.get?_push_of_some _ x)⟩
/-- the tuple at a, item by item, each in a new pair behind its place -/
def IteT (K : PySem.W.Frag) (a : Addr) : It :=
  ⟨fun i H => ∃ (xs : List V) (x : V), SqT K H a xs ∧ xs[i]? = some x, fun i H v H' => ∃ T x, v = .ref T ∧ H T = none ∧ H' = upd H T (.tup [.int (i : Nat), x]) ∧ ∀ xs, SqT K H a xs → xs[i]? = some x, fun i H => ∃ xs : List V, SqT K H a xs ∧ xs.length = i⟩
theorem turn_enumT {P : Program} {w : World} {K : PySem.W.Frag} {elts : List Expr} {kk : Nat} {tpos : Pos} (a e it : Addr) (hea : e ≠ a) (hai : a ≠ it) :
    Turn P w K (.Tuple elts kk tpos) (IteT K a) [e, it] e (fun i h => (∃ old, IsEnum h e it ((i : Nat) : Int) old) ∧ h.IsTupleIter it a i ∧ e ≠ it) where
  mem := by simp
  obj := fun i h st b hb => by
    obtain ⟨⟨old, he⟩, ⟨oi, hoi, _, hdi⟩, _⟩ := st
    rcases (show b = e ∨ b = it by simpa using hb) with rfl | rfl
    · exact ⟨_, he, fun v q => nomatch q⟩
    · exact ⟨oi, hoi, fun v q => by rw [hdi] at q; cases q⟩
  keep := fun i h h' st k => ⟨⟨st.1.choose, k e (by simp) _ st.1.choose_spec⟩, st.2.1.at fun u q => k it (by simp) u q, st.2.2⟩
  item := by
    intro X hP hw hK hc i pins s σ H E I hf st hg
    subst hP hw hK
    obtain ⟨⟨old, he⟩, hit, hne⟩ := st
    obtain ⟨xs, x, hq, hx⟩ := hg
    obtain ⟨its, rv, p, _⟩ := I.tuple hq
    obtain ⟨u, hu, ru⟩ := rv.get hx
    have hil : i < its.toArray.size := by simpa using (List.getElem?_eq_some_iff.mp hu).1
    have hel : e < s.heap.objs.size := Heap.lt_size he
    have hitl : it < s.heap.objs.size := by obtain ⟨_, q, _⟩ := hit; exact Heap.lt_size q
    refine wpAny_pyNext_enum_itemD (Draws.tuple (show X.A.in1.handled = none from I.ok.hd hc) it a hai its.toArray) he ⟨hit, p⟩ hil hne (by simp [hne, hea]) fun y h' tk hy ho hst' hT hsz hk => ?_
    have ey : y = u := Option.some.inj ((show some y = its[i]? by simpa using hy.symm).trans hu)
    subst ey
    refine ⟨_, rfl, wpAny_letOwnedTupleGo_enum (s := { s with heap := h', toks := tk + 1 }) ho fun h2 he2 sb => ?_⟩
    have hT2 : h2.get? s.heap.objs.size = some { cls := .type "tuple", data := .seq #[.int i tk, y] } := (sb.2 _ (Nat.ne_of_gt hel)).trans hT
    have new : ObjOk X.prog X.w (upd H s.heap.objs.size (.tup [.int (i : Nat), x])) h2 s.heap.objs.size (.tup [.int (i : Nat), x]) :=
      ⟨by show 2 ≤ sizeLine; decide, [.int i tk, y], .cons ⟨_, rfl⟩ (.cons ru .nil), ⟨_, hT2, rfl, _, rfl⟩⟩
    have I1 : Inv X pins σ (upd H s.heap.objs.size (.tup [.int (i : Nat), x])) { s with heap := h2, toks := tk + 1 } :=
      I.turnedNew (ch := [e, it]) (fun b ob hb q => (sb.2 b (fun z => hb (by simp [z]))).trans (hk b ob (fun z => hb (by simp [z])) (fun z => hb (by simp [z])) q)) hf (Nat.le_refl _) new
    refine ⟨.ref s.heap.objs.size, _, I1, rfl, ⟨_, x, rfl, I.hok.fresh (Nat.le_refl _), rfl, fun ys hy => by rw [I.tuple_inj hy hq]; exact hx⟩, ⟨⟨y, ?_⟩, hst'.1.at fun u q => (sb.2 it (Ne.symm hne)).trans q, hne⟩, fun b hb => ?_⟩
    · rw [show ((i + 1 : Nat) : Int) = (i : Int) + 1 by omega]
      exact he2
    · have hb' : b < s.heap.objs.size := by
        rcases (show b = e ∨ b = it by simpa using hb) with rfl | rfl <;> assumption
      rw [upd_ne (Nat.ne_of_lt hb')]
      exact (hf b hb).1
  done := by
    intro X hP hw hK hc i pins s σ H E I hf st hg
    subst hP hw hK
    obtain ⟨⟨old, he⟩, hit, hne⟩ := st
    obtain ⟨xs, hq, hx⟩ := hg
    obtain ⟨its, rv, p, _⟩ := I.tuple hq
    obtain ⟨f0, f1, f2, f3, f4, f5⟩ := hf it (by simp)
    have hsz : its.toArray.size = i := by
      have := rv.length
      simp only [List.size_toArray]
      omega
    refine wpAny_pyNext_enum_endD (Draws.tuple (show X.A.in1.handled = none from I.ok.hd hc) it a hai its.toArray) he (by rw [hsz]; exact ⟨hit, p⟩) fun h' eb => ⟨rfl, I.turned (t' := s.toks) (fun b u hb q => eb b u hb q) f0 f1 f3 f4 f5⟩
  self := fun A i s Q E st h => wpAny_pyIter_enum st.1.choose_spec h
def iEnumT (K : PySem.W.Frag) (ta : TA) : TI := fun σ H R => ta σ H fun vs H1 => ∃ a xs, vs = [.ref a] ∧ SqT K H1 a xs ∧ R (IteT K a) H1
theorem pi_enumT {X : Cx} {e : Expr} {ta : TA} {p pos tpos : Pos} {elts : List Expr} {kk : Nat} (hg : Gl X "enumerate") (hm : X.mg "enumerate" = none) (ha : PA X [e] ta) (hs : starEach [e] X.env = [(false, eval e X.env)] := by rfl) :
    PI X (.Tuple elts kk tpos) (.Call (.Name "enumerate" p) [e] [] pos) (iEnumT X.K ta) := by
  refine ⟨fun pins s σ H R I h => ?_⟩
  refine Call_ (ld_blt I hg hm boot_enumerate (PyProof.Rows.callWith_type1 (thn (ha.run pos pins s σ H _ I h) fun us s1 ⟨vs, H1, I1, r1, q1⟩ => ?_) hs rfl))
  obtain ⟨a, xs, rfl, hq, q⟩ := q1
  rw [Vals.ref1 r1]
  obtain ⟨its, rv, p', _⟩ := I1.tuple hq
  have hal : a < s1.heap.objs.size := p'.lt
  refine enum1_begins (begins_tuple a its.toArray) p' fun h' he hit hk => wpAny_pyIter_enum he ?_
  have I2 : Inv X pins σ H1 { s1 with heap := h' } := I1.kept (t' := s1.toks) hk
  refine ⟨s1.heap.objs.size + 1, [s1.heap.objs.size + 1, s1.heap.objs.size], _, _, H1, rfl, I2, turn_enumT a (s1.heap.objs.size + 1) s1.heap.objs.size (Nat.ne_of_gt (Nat.lt_succ_of_lt hal)) (Nat.ne_of_lt hal), ⟨⟨.none, he⟩, ⟨_, hit, rfl, rfl⟩, Nat.succ_ne_self _⟩, fun b hb => ?_, q⟩
  have hle : s1.heap.objs.size ≤ b := by
    rcases (show b = s1.heap.objs.size + 1 ∨ b = s1.heap.objs.size by simpa using hb) with rfl | rfl <;> omega
  exact I1.fpOk hle (I1.hok.fresh hle)
theorem walk_enumT {K : PySem.W.Frag} {a : Addr} {xs : List V} : Walk (IteT K a) xs.length (fun H => SqT K H a xs) (YPair (fun i => some (.int (i : Nat))) (fun i => xs[i]?)) := by
  refine ⟨fun i _ hi q => ⟨xs, xs[i], q, by simp [hi]⟩, fun _ q => ⟨xs, q, rfl⟩, fun i H v H' _ q y => ?_⟩
  obtain ⟨T, x, h1, h2, h3, h4⟩ := y
  exact ⟨T, .int (i : Nat), x, h1, h2, h3, rfl, h4 xs q⟩
/-! ### zip(tuple, list) -/
def ItzM (K : PySem.W.Frag) (a b : Addr) : It :=
  ⟨fun i H => ∃ (xs ys : List V) (x y : V), SqT K H a xs ∧ SqL K H b ys ∧ xs[i]? = some x ∧ ys[i]? = some y,
    fun i H v H' => ∃ T x y, v = .ref T ∧ H T = none ∧ H' = upd H T (.tup [x, y]) ∧ (∀ xs, SqT K H a xs → xs[i]? = some x) ∧ ∀ ys, SqL K H b ys → ys[i]? = some y,
    fun i H => ∃ xs ys : List V, SqT K H a xs ∧ SqL K H b ys ∧ i ≤ xs.length ∧ i ≤ ys.length ∧ (i = xs.length ∨ i = ys.length)⟩
theorem turn_zipM {P : Program} {w : World} {K : PySem.W.Frag} {elts : List Expr} {kk : Nat} {tpos : Pos} {a b z TI TO i1 i2 : Addr} (S : ZipSep2 z TI TO i1 i2 [i1, a] [i2, b]) :
    Turn P w K (.Tuple elts kk tpos) (ItzM K a b) [z, TI, TO, i1, i2] z (fun i h => IsZip h z TI TO .none ∧ IsTupOf2 h TI (.ref i1) (.ref i2) ∧ (∃ x y, IsTupOf2 h TO x y) ∧ h.IsTupleIter i1 a i ∧ h.IsListIter i2 b i) where
  mem := by simp
  obj := fun i h st c hc => by
    obtain ⟨hz, hTI, ⟨x, y, hTO⟩, ⟨o1, e1, _, d1⟩, ⟨o2, e2, _, d2⟩⟩ := st
    rcases (show c = z ∨ c = TI ∨ c = TO ∨ c = i1 ∨ c = i2 by simpa using hc) with rfl | rfl | rfl | rfl | rfl
    · exact ⟨_, hz, fun v q => nomatch q⟩
    · exact ⟨_, hTI, fun v q => nomatch q⟩
    · exact ⟨_, hTO, fun v q => nomatch q⟩
    · exact ⟨o1, e1, fun v q => by rw [d1] at q; cases q⟩
    · exact ⟨o2, e2, fun v q => by rw [d2] at q; cases q⟩
  keep := fun i h h' st k => by
    obtain ⟨hz, hTI, ⟨x, y, hTO⟩, j1, j2⟩ := st
    exact ⟨k z (by simp) _ hz, k TI (by simp) _ hTI, ⟨x, y, k TO (by simp) _ hTO⟩, j1.at fun u q => k i1 (by simp) u q, j2.at fun u q => k i2 (by simp) u q⟩
  item := by
    intro X hP hw hK hc i pins s σ H E I hf st hg
    subst hP hw hK
    obtain ⟨hz, hTI, ⟨x0, y0, hTO⟩, j1, j2⟩ := st
    obtain ⟨xs, ys, x, y, hqx, hqy, hx, hy⟩ := hg
    obtain ⟨its, rv, p, _⟩ := I.tuple hqx
    obtain ⟨its2, rv2, p2, _⟩ := I.list hqy
    obtain ⟨u, hu, ru⟩ := rv.get hx
    obtain ⟨u2, hu2, ru2⟩ := rv2.get hy
    have hzl : z < s.heap.objs.size := Heap.lt_size hz
    have l1 : i < its.toArray.size := by simpa using (List.getElem?_eq_some_iff.mp hu).1
    have l2 : i < its2.toArray.size := by simpa using (List.getElem?_eq_some_iff.mp hu2).1
    have hai : a ≠ i1 := fun q => by
      obtain ⟨oa, ha, hca, _⟩ := p
      obtain ⟨ob, hb, hcb, _⟩ := j1
      rw [q, hb] at ha
      cases ha
      rw [hcb] at hca
      simp at hca
    have hbi : b ≠ i2 := fun q => by
      obtain ⟨oa, na, ha, hca, _⟩ := p2
      obtain ⟨ob, hb, hcb, _⟩ := j2
      rw [q, hb] at ha
      cases ha
      rw [hcb] at hca
      simp at hca
    refine wpAny_pyNext_zipD2_item S (Draws.tuple (show X.A.in1.handled = none from I.ok.hd hc) i1 a hai its.toArray) (Draws.list (show X.A.in1.handled = none from I.ok.hd hc) i2 b hbi its2.toArray) hz hTI hTO ⟨j1, p⟩ ⟨j2, p2.isList⟩ l1 l2 fun v1 v2 h' tk hv1 hv2 z' TO' st1' st2' hT hsz hk => ?_
    have e1 : v1 = u := Option.some.inj ((show some v1 = its[i]? by simpa using hv1.symm).trans hu)
    have e2 : v2 = u2 := Option.some.inj ((show some v2 = its2[i]? by simpa using hv2.symm).trans hu2)
    subst e1 e2
    refine ⟨_, rfl, wpAny_letOwnedTupleGo_zip (s := { s with heap := h', toks := tk }) z' fun h2 z2 sb => ?_⟩
    have hT2 : h2.get? s.heap.objs.size = some { cls := .type "tuple", data := .seq #[v1, v2] } := (sb.2 _ (Nat.ne_of_gt hzl)).trans hT
    have new : ObjOk X.prog X.w (upd H s.heap.objs.size (.tup [x, y])) h2 s.heap.objs.size (.tup [x, y]) :=
      ⟨by show 2 ≤ sizeLine; decide, [v1, v2], .cons ru (.cons ru2 .nil), ⟨_, hT2, rfl, _, rfl⟩⟩
    have I1 : Inv X pins σ (upd H s.heap.objs.size (.tup [x, y])) { s with heap := h2, toks := tk } :=
      I.turnedNew (ch := [z, TI, TO, i1, i2]) (fun c u hb q => (sb.2 c (fun q' => hb (by simp [q']))).trans (hk c u (fun q' => hb (by simp [q'])) (fun q' => hb (by simp [q'])) (fun q' => hb (by simp [q'])) (fun q' => hb (by simp [q'])) q)) hf (Nat.le_refl _) new
    refine ⟨.ref s.heap.objs.size, _, I1, rfl, ⟨_, x, y, rfl, I.hok.fresh (Nat.le_refl _), rfl, fun l hl => by rw [I.tuple_inj hl hqx]; exact hx, fun l hl => by rw [I.list_inj hl hqy]; exact hy⟩, ⟨z2, ?_, ⟨v1, v2, ?_⟩, ?_, ?_⟩, fun c hcm => ?_⟩
    · exact (sb.2 _ S.TIz).trans (hk _ _ S.TIz S.TITO S.TIi1 S.TIi2 hTI)
    · exact (sb.2 _ S.TOz).trans TO'
    · exact st1'.1.at fun u q => (sb.2 _ S.zi1.symm).trans q
    · exact st2'.1.at fun u q => (sb.2 _ S.zi2.symm).trans q
    · have hlt : c < s.heap.objs.size := by
        rcases (show c = z ∨ c = TI ∨ c = TO ∨ c = i1 ∨ c = i2 by simpa using hcm) with rfl | rfl | rfl | rfl | rfl
        · exact hzl
        · exact Heap.lt_size hTI
        · exact Heap.lt_size hTO
        · obtain ⟨_, q, _⟩ := j1; exact Heap.lt_size q
        · obtain ⟨_, q, _⟩ := j2; exact Heap.lt_size q
      rw [upd_ne (Nat.ne_of_lt hlt)]
      exact (hf c hcm).1
  done := by
    intro X hP hw hK hc i pins s σ H E I hf st hg
    subst hP hw hK
    obtain ⟨hz, hTI, ⟨x0, y0, hTO⟩, j1, j2⟩ := st
    obtain ⟨xs, ys, hqx, hqy, n1, n2, hend⟩ := hg
    obtain ⟨its, rv, p, _⟩ := I.tuple hqx
    obtain ⟨its2, rv2, p2, _⟩ := I.list hqy
    have l1 := rv.length
    have l2 := rv2.length
    have hai : a ≠ i1 := fun q => by
      obtain ⟨oa, ha, hca, _⟩ := p
      obtain ⟨ob, hb, hcb, _⟩ := j1
      rw [q, hb] at ha
      cases ha
      rw [hcb] at hca
      simp at hca
    have hbi : b ≠ i2 := fun q => by
      obtain ⟨oa, na, ha, hca, _⟩ := p2
      obtain ⟨ob, hb, hcb, _⟩ := j2
      rw [q, hb] at ha
      cases ha
      rw [hcb] at hca
      simp at hca
    exact wpAny_pyNext_zipD2_end S (Draws.tuple (show X.A.in1.handled = none from I.ok.hd hc) i1 a hai its.toArray) (Draws.list (show X.A.in1.handled = none from I.ok.hd hc) i2 b hbi its2.toArray) hz hTI hTO ⟨j1, p⟩ ⟨j2, p2.isList⟩ (by simp only [List.size_toArray]; omega) (by simp only [List.size_toArray]; omega) (by simp only [List.size_toArray]; omega)
      fun h' tk hk => ⟨rfl, I.turnedL (t' := tk) (ch := [z, TI, TO, i1, i2]) (fun c u hb q => hk c u (fun q' => hb (by simp [q'])) (fun q' => hb (by simp [q'])) (fun q' => hb (by simp [q'])) (fun q' => hb (by simp [q'])) q) hf⟩
  self := fun A i s Q E st h => wpAny_pyIter_zip st.1 h
def iZipM (K : PySem.W.Frag) (ta : TA) : TI := fun σ H R => ta σ H fun vs H1 => ∃ a b xs ys, vs = [.ref a, .ref b] ∧ SqT K H1 a xs ∧ SqL K H1 b ys ∧ R (ItzM K a b) H1
theorem pi_zipM {X : Cx} {e e2 : Expr} {ta : TA} {p pos tpos : Pos} {elts : List Expr} {kk : Nat} (hg : Gl X "zip") (hm : X.mg "zip" = none) (ha : PA X [e, e2] ta)
    (hs : starEach [e, e2] X.env = (false, eval e X.env) :: starEach [e2] X.env := by rfl) (hpl : (backTo pos (starEach [e2] X.env)).any (·.1) = false := by rfl) :
    PI X (.Tuple elts kk tpos) (.Call (.Name "zip" p) [e, e2] [] pos) (iZipM X.K ta) := by
  refine ⟨fun pins s σ H R I h => ?_⟩
  refine Call_ (ld_blt I hg hm PyProof.Rows.boot_zip (PyProof.Rows.callWith_type1 (thn (ha.run pos pins s σ H _ I h) fun us s1 ⟨vs, H1, I1, r1, q1⟩ => ?_) hs hpl))
  obtain ⟨a, b, xs, ys, rfl, hqx, hqy, q⟩ := q1
  obtain ⟨ua, ub, rfl, ra, rb⟩ := r1.two
  cases ra
  cases rb
  obtain ⟨its, rv, p1, _⟩ := I1.tuple hqx
  obtain ⟨its2, rv2, p2, _⟩ := I1.list hqy
  have hal : a < s1.heap.objs.size := p1.lt
  have hbl : b < s1.heap.objs.size := by obtain ⟨_, _, z, _⟩ := p2; exact Heap.lt_size z
  refine zip_begins2 (begins_tuple a its.toArray) (begins_list b its2.toArray) p1 p2.isList fun h' hz hTI hTO g1 g2 hsz hk => wpAny_pyIter_zip hz ?_
  have I2 : Inv X pins σ H1 { s1 with heap := h' } := I1.kept (t' := s1.toks) hk
  refine ⟨s1.heap.objs.size + 4, [s1.heap.objs.size + 4, s1.heap.objs.size + 2, s1.heap.objs.size + 3, s1.heap.objs.size, s1.heap.objs.size + 1], _, _, H1, rfl, I2,
    turn_zipM (zip_sep2 (fp1 := [a]) (fp2 := [b]) (by simpa using hal) (by simpa using hbl)), ⟨hz, hTI, ⟨_, _, hTO⟩, ⟨_, g1, rfl, rfl⟩, ⟨_, g2, rfl, rfl⟩⟩, fun c hcm => ?_, q⟩
  have hle : s1.heap.objs.size ≤ c := by
    rcases (show c = s1.heap.objs.size + 4 ∨ c = s1.heap.objs.size + 2 ∨ c = s1.heap.objs.size + 3 ∨ c = s1.heap.objs.size ∨ c = s1.heap.objs.size + 1 by simpa using hcm) with rfl | rfl | rfl | rfl | rfl <;> omega
  exact I1.fpOk hle (I1.hok.fresh hle)
theorem walk_zipM {K : PySem.W.Frag} {a b : Addr} {xs ys : List V} {n : Nat} (h1 : xs.length = n) (h2 : ys.length = n) : Walk (ItzM K a b) n (fun H => SqT K H a xs ∧ SqL K H b ys) (YPair (fun i => xs[i]?) (fun i => ys[i]?)) := by
  refine ⟨fun i _ hi q => ?_, fun _ q => ⟨xs, ys, q.1, q.2, by omega, by omega, by omega⟩, fun i H v H' _ q y => ?_⟩
  · have g1 : i < xs.length := by omega
    have g2 : i < ys.length := by omega
    exact ⟨xs, ys, xs[i], ys[i], q.1, q.2, by simp [g1], by simp [g2]⟩
  · obtain ⟨T, x, y', k1, k2, k3, k4, k5⟩ := y
    exact ⟨T, x, y', k1, k2, k3, k4 xs q.1, k5 ys q.2⟩
end DRul

/-! the heap: how deals and pieces lie in it -/
namespace Duty
open PySem PySem.Spec PyProof.Rows L2 DRul
open Co09 (Deal)
def ni (n : Nat) : V := .int (n : Int)
def nl (ns : List Nat) : List V := ns.map ni
/-- tuples stay -/
def TK (H H' : Hp) : Prop := ∀ a xs, Rd H a (.tup xs) → Rd H' a (.tup xs)
theorem TK.refl (H : Hp) : TK H H := fun _ _ h => h
theorem TK.trans {H H1 H2 : Hp} (a : TK H H1) (b : TK H1 H2) : TK H H2 := fun c o h => b c o (a c o h)
theorem TK.same {H H' : Hp} (s : Same H H') : TK H H' := fun a xs h => by
  rcases h with h | ⟨o, h⟩
  · exact .inl (s _ _ h)
  · exact .inr ⟨o, s _ _ h⟩
theorem TK.new {H : Hp} {p : Addr} {o : HO} (h : H p = none) : TK H (upd H p o) := TK.same fun b x e => by
  rw [upd_ne (ne_of_none e h)]
  exact e
theorem TK.lst {H : Hp} {p : Addr} {o : HO} {xs : List V} (h : H p = some (.lst xs)) : TK H (upd H p o) := fun a ys q => by
  have e : a ≠ p := fun z => by
    rcases q with q | ⟨_, q⟩ <;> (rw [z, h] at q; cases q)
  rcases q with q | ⟨ob, q⟩
  · exact .inl (by rw [upd_ne e]; exact q)
  · exact .inr ⟨ob, by rw [upd_ne e]; exact q⟩
theorem TK.ins {H : Hp} {p C dx : Addr} {o : HO} {fs : List (Str × V)} (h : H p = some (.ins C dx fs)) : TK H (upd H p o) := fun a ys q => by
  have e : a ≠ p := fun z => by
    rcases q with q | ⟨_, q⟩ <;> (rw [z, h] at q; cases q)
  rcases q with q | ⟨ob, q⟩
  · exact .inl (by rw [upd_ne e]; exact q)
  · exact .inr ⟨ob, by rw [upd_ne e]; exact q⟩
theorem TK.sq {K : PySem.W.Frag} {H H' : Hp} {a : Addr} {xs : List V} (t : TK H H') (h : SqT K H a xs) : SqT K H' a xs := by
  rcases h with h | h
  · exact .inl (t _ _ h)
  · exact .inr h
theorem same_new {H : Hp} {p : Addr} {o : HO} (h : H p = none) : Same H (upd H p o) := fun b x e => by
  rw [upd_ne (ne_of_none e h)]
  exact e
/-- what is new may change -/
theorem same_upd {H H1 : Hp} {p : Addr} {o : HO} (s : Same H H1) (h : H p = none) : Same H (upd H1 p o) := fun b x e => by
  rw [upd_ne (ne_of_none e h)]
  exact s b x e
def DAt (K : PySem.W.Frag) (H : Hp) : Deal → V → Prop
  | .over, v => ∃ x, v = .ref x ∧ SqT K H x [ni 0]
  | .breach p, v => ∃ x, v = .ref x ∧ SqT K H x [ni 1, ni p]
  | .must p a k c d, v => ∃ x y z, v = .ref x ∧ SqT K H x [ni 2, ni p, ni a, ni k, y, z] ∧ DAt K H c y ∧ DAt K H d z
  | .mustnt p a k c d, v => ∃ x y z, v = .ref x ∧ SqT K H x [ni 3, ni p, ni a, ni k, y, z] ∧ DAt K H c y ∧ DAt K H d z
  | .may p a k c d, v => ∃ x y z, v = .ref x ∧ SqT K H x [ni 4, ni p, ni a, ni k, y, z] ∧ DAt K H c y ∧ DAt K H d z
  | .both c d, v => ∃ x y z, v = .ref x ∧ SqT K H x [ni 5, y, z] ∧ DAt K H c y ∧ DAt K H d z
theorem dat_du {K : PySem.W.Frag} {H : Hp} {w p a k : Nat} {c d : Deal} {v : V} (h1 : 2 ≤ w) (h2 : w ≤ 4) :
    DAt K H (du w p a k c d) v ↔ ∃ x y z, v = .ref x ∧ SqT K H x [ni w, ni p, ni a, ni k, y, z] ∧ DAt K H c y ∧ DAt K H d z := by
  rcases w3 h1 h2 with rfl | rfl | rfl <;> exact Iff.rfl
theorem DAt.keep {K : PySem.W.Frag} {H H' : Hp} (t : TK H H') : ∀ (d : Deal) (v : V), DAt K H d v → DAt K H' d v := by
  refine cases3 ?_ ?_ ?_ ?_
  · rintro v ⟨x, rfl, h⟩; exact ⟨x, rfl, t.sq h⟩
  · rintro p v ⟨x, rfl, h⟩; exact ⟨x, rfl, t.sq h⟩
  · intro w p a k c d h1 h2 hc hd v h
    obtain ⟨x, y, z, rfl, hs, q1, q2⟩ := (dat_du h1 h2).mp h
    exact (dat_du h1 h2).mpr ⟨x, y, z, rfl, t.sq hs, hc y q1, hd z q2⟩
  · rintro c d hc hd v ⟨x, y, z, rfl, hs, q1, q2⟩
    exact ⟨x, y, z, rfl, t.sq hs, hc y q1, hd z q2⟩
def PAt (K : PySem.W.Frag) (H : Hp) : Piece → V → Prop
  | .whole d, v => DAt K H d v
  | .hd w p a k, v => (2 ≤ w ∧ w ≤ 4) ∧ ∃ x, v = .ref x ∧ SqT K H x [ni w, ni p, ni a, ni k]
  | .bo, v => ∃ x, v = .ref x ∧ SqT K H x [ni 5]
theorem PAt.keep {K : PySem.W.Frag} {H H' : Hp} (t : TK H H') : ∀ (p : Piece) (v : V), PAt K H p v → PAt K H' p v
  | .whole d, v, h => DAt.keep t d v h
  | .hd .., v, ⟨hw, x, e, h⟩ => ⟨hw, x, e, t.sq h⟩
  | .bo, v, ⟨x, e, h⟩ => ⟨x, e, t.sq h⟩
/-- one by one -/
inductive AllAt {α : Type} (R : α → V → Prop) : List α → List V → Prop
  | nil : AllAt R [] []
  | cons {a : α} {v : V} {as : List α} {vs : List V} : R a v → AllAt R as vs → AllAt R (a :: as) (v :: vs)
section
variable {α : Type} {R R' : α → V → Prop}
theorem AllAt.mono (h : ∀ a v, R a v → R' a v) : ∀ {as : List α} {vs : List V}, AllAt R as vs → AllAt R' as vs
  | _, _, .nil => .nil
  | _, _, .cons r t => .cons (h _ _ r) (AllAt.mono h t)
theorem AllAt.len : ∀ {as : List α} {vs : List V}, AllAt R as vs → vs.length = as.length
  | _, _, .nil => rfl
  | _, _, .cons _ t => congrArg (· + 1) (AllAt.len t)
theorem AllAt.append : ∀ {as bs : List α} {vs ws : List V}, AllAt R as vs → AllAt R bs ws → AllAt R (as ++ bs) (vs ++ ws)
  | _, _, _, _, .nil, s => s
  | _, _, _, _, .cons r t, s => .cons r (AllAt.append t s)
theorem AllAt.snoc {as : List α} {vs : List V} {a : α} {v : V} (h : AllAt R as vs) (r : R a v) : AllAt R (as ++ [a]) (vs ++ [v]) := h.append (.cons r .nil)
theorem AllAt.get : ∀ {as : List α} {vs : List V} {i : Nat} {v : V}, AllAt R as vs → vs[i]? = some v → ∃ a, as[i]? = some a ∧ R a v
  | _, _, i, _, .nil, h => by simp at h
  | _, _, 0, _, .cons r _, h => by simp at h; subst h; exact ⟨_, rfl, r⟩
  | _, _, i + 1, v, .cons _ t, h => by
    obtain ⟨a, h1, h2⟩ := AllAt.get (i := i) (v := v) t (by simpa using h)
    exact ⟨a, by simpa using h1, h2⟩
theorem AllAt.map {β : Type} {S : β → V → Prop} {f : β → α} (h : ∀ b v, S b v → R (f b) v) : ∀ {bs : List β} {vs : List V}, AllAt S bs vs → AllAt R (bs.map f) vs
  | _, _, .nil => .nil
  | _, _, .cons r t => .cons (h _ _ r) (AllAt.map h t)
end
abbrev DsAt (K : PySem.W.Frag) (H : Hp) : List Deal → List V → Prop := AllAt (DAt K H)
abbrev PsAt (K : PySem.W.Frag) (H : Hp) : List Piece → List V → Prop := AllAt (PAt K H)
theorem DsAt.keep {K : PySem.W.Frag} {H H' : Hp} (t : TK H H') {ds : List Deal} {vs : List V} (h : DsAt K H ds vs) : DsAt K H' ds vs := h.mono fun d v => DAt.keep t d v
theorem PsAt.keep {K : PySem.W.Frag} {H H' : Hp} (t : TK H H') {ds : List Piece} {vs : List V} (h : PsAt K H ds vs) : PsAt K H' ds vs := h.mono fun d v => PAt.keep t d v
/-! ### lists that are stacks -/
theorem last_snoc (xs : List V) (v : V) : (xs ++ [v])[(xs ++ [v]).length - 1]? = some v := by
  simp
theorem drop_snoc (xs : List V) (v : V) : (xs ++ [v]).dropLast = xs := by simp
theorem take_more {α : Type} {l : List α} {i : Nat} {x : α} (h : l[i]? = some x) : l.take (i + 1) = l.take i ++ [x] := by
  rw [List.take_add_one, h]; rfl
theorem small6 {n : Nat} (h : n ≤ 1000000) : n < sizeLine := Nat.lt_of_le_of_lt h (by decide)
/-! ### the text -/
def top (i : Nat) : Stmt := PySem.Challenge.pw_dutydays_s01_answers.main.body.getD i (.Pass ⟨0, 0, 0, 0⟩)
end Duty

namespace Duty
open PySem PySem.Spec PyProof.Rows L2 DRul
open Co09 (Deal)
abbrev sHeadAt : Stmt := top 14
abbrev sHeadsOf : Stmt := top 15
abbrev sBoth : Stmt := top 16
abbrev sLacks : Stmt := top 17
abbrev sPut : Stmt := top 18
abbrev sAgrOf : Stmt := top 19
abbrev sApart : Stmt := top 20
abbrev sNums : Stmt := top 21
abbrev sInBreach : Stmt := top 22
abbrev sIsDuty : Stmt := top 23
abbrev sDuties : Stmt := top 24
abbrev sSettled : Stmt := top 25
abbrev sLong : Stmt := top 26
abbrev sDoes : Stmt := top 27
abbrev sPieceAfter : Stmt := top 28
abbrev sAfterDay : Stmt := top 29
/-- what the top has written: numbers and tuples -/
def GI (mg : Str → Option Value) (x : Str) (n : Int) : Prop := ∃ t, mg x = some (.int n t)
def GT (K : PySem.W.Frag) (mg : Str → Option Value) (x : Str) (xs : List V) : Prop := ∃ a, mg x = some (.ref a) ∧ ∀ H, SqT K H a xs
structure Gs (K : PySem.W.Frag) (mg : Str → Option Value) : Prop where
  breach : GI mg "BREACH" 1
  must : GI mg "MUST" 2
  may : GI mg "MAY" 4
  both : GI mg "BOTH" 5
  over : GT K mg "OVER" [ni 0]
  hlen : GT K mg "HEAD_LENGTHS" (nl [1, 2, 4, 4, 4, 1])
  pcnt : GT K mg "PART_COUNTS" (nl [0, 0, 2, 2, 2, 2])
  high : GT K mg "HIGHEST" (nl [5, 1, 1, 9])
  who : GI mg "WHO" 1
  act : GI mg "ACT" 2
  days : GI mg "DAYS" 3
  done : GI mg "DONE" 4
  undone : GI mg "UNDONE" 5
  len : mg "len" = none
  tuple : mg "tuple" = none
  any : mg "any" = none
  enumerate : mg "enumerate" = none
  reversed : mg "reversed" = none
  max : mg "max" = none
section
variable {X : Cx} {x : Str} {n : Int} {t : Tok} {a : Addr} {pos : Pos}
theorem pgi (hm : X.mg x = some (.int n t)) (hg : Gl X x := by rfl) (hd : (x == ("__debug__" : Str)) = false := by decide) : PE X (.Name x pos) (tC (.int n)) := pe_glob hg hm ⟨_, rfl⟩ hd
theorem pgr (hm : X.mg x = some (.ref a)) (hg : Gl X x := by rfl) (hd : (x == ("__debug__" : Str)) = false := by decide) : PE X (.Name x pos) (tC (.ref a)) := pe_glob hg hm rfl hd
end
abbrev rGtI : R2 := rI0 fun i j => .bl (decide (j < i))
abbrev rLtI : R2 := rI0 fun i j => .bl (decide (i < j))
abbrev rLeI : R2 := rI0 fun i j => .bl (decide (i ≤ j))
abbrev rAddI : R2 := rI0 fun i j => .int (i + j)
abbrev rSubI : R2 := rI0 fun i j => .int (i - j)
abbrev gPair (K : PySem.W.Frag) (i j : Nat) : TG := gTup K 2 (gCons (gName i) (gCons (gName j) gNil))
/-! ### head_at -/
def hnums : Piece → List Nat
  | .whole .over => [0]
  | .whole (.breach p) => [1, p]
  | .whole _ => []
  | .hd w p a k => [w, p, a, k]
  | .bo => [5]
def wantedOf (w : Nat) : Nat := [1, 2, 4, 4, 4, 1].getD w 0
def tooHigh (h : List Nat) : List Bool := (h.zip [5, 1, 1, 9]).map fun x => decide (x.2 < x.1)
theorem headAt_big {w : Nat} {r : List Nat} (h : 5 < w) : headAt (w :: r) = none := by
  obtain ⟨v, rfl⟩ : ∃ v, w = v + 6 := ⟨w - 6, by omega⟩
  match r with
  | [] => rfl
  | [_] => rfl
  | [_, _] => rfl
  | p :: a :: k :: r => exact if_neg (c := 2 ≤ v + 6 ∧ v + 6 ≤ 4 ∧ p < 2 ∧ a < 2 ∧ k ≤ 9) (t := some (Piece.hd (v + 6) p a k, r)) (by omega)
theorem headAt_py {w : Nat} {r : List Nat} (h : w ≤ 5) :
    (((w :: r).take (wantedOf w)).length < wantedOf w → headAt (w :: r) = none) ∧
    (wantedOf w ≤ ((w :: r).take (wantedOf w)).length → (tooHigh ((w :: r).take (wantedOf w))).any id = true → headAt (w :: r) = none) ∧
    (wantedOf w ≤ ((w :: r).take (wantedOf w)).length → (tooHigh ((w :: r).take (wantedOf w))).any id = false → ∃ pc, headAt (w :: r) = some (pc, (w :: r).drop (wantedOf w)) ∧ hnums pc = (w :: r).take (wantedOf w)) := by
  have hw : w = 0 ∨ w = 1 ∨ w = 2 ∨ w = 3 ∨ w = 4 ∨ w = 5 := by omega
  rcases hw with rfl | rfl | rfl | rfl | rfl | rfl
  · exact ⟨fun q => by simp [wantedOf] at q, fun _ q => by simp [wantedOf, tooHigh] at q, fun _ _ => ⟨_, rfl, rfl⟩⟩
  · cases r with
    | nil => exact ⟨fun _ => rfl, fun q => by simp [wantedOf] at q, fun q => by simp [wantedOf] at q⟩
    | cons p r =>
      have e : headAt (1 :: p :: r) = if p < 2 then some (.whole (.breach p), r) else none := rfl
      refine ⟨fun q => by simp [wantedOf] at q, fun _ q => ?_, fun _ q => ?_⟩
      · simp [wantedOf, tooHigh] at q
        rw [e, if_neg (by omega)]
      · simp [wantedOf, tooHigh] at q
        rw [e, if_pos (by omega)]
        exact ⟨_, rfl, rfl⟩
  · exact headAt_py4 2 r (by decide) (by decide) rfl
  · exact headAt_py4 3 r (by decide) (by decide) rfl
  · exact headAt_py4 4 r (by decide) (by decide) rfl
  · exact ⟨fun q => by simp [wantedOf] at q, fun _ q => by simp [wantedOf, tooHigh] at q, fun _ _ => ⟨_, rfl, rfl⟩⟩
where
  headAt_py4 (w : Nat) (r : List Nat) (h1 : 2 ≤ w) (h2 : w ≤ 4) (hw : wantedOf w = 4) :
    (((w :: r).take (wantedOf w)).length < wantedOf w → headAt (w :: r) = none) ∧
    (wantedOf w ≤ ((w :: r).take (wantedOf w)).length → (tooHigh ((w :: r).take (wantedOf w))).any id = true → headAt (w :: r) = none) ∧
    (wantedOf w ≤ ((w :: r).take (wantedOf w)).length → (tooHigh ((w :: r).take (wantedOf w))).any id = false → ∃ pc, headAt (w :: r) = some (pc, (w :: r).drop (wantedOf w)) ∧ hnums pc = (w :: r).take (wantedOf w)) := by
    rw [hw]
    match r with
    | [] => exact ⟨fun _ => by rcases w3 h1 h2 with rfl | rfl | rfl <;> rfl, fun q => by simp at q, fun q => by simp at q⟩
    | [_] => exact ⟨fun _ => by rcases w3 h1 h2 with rfl | rfl | rfl <;> rfl, fun q => by simp at q, fun q => by simp at q⟩
    | [_, _] => exact ⟨fun _ => by rcases w3 h1 h2 with rfl | rfl | rfl <;> rfl, fun q => by simp at q, fun q => by simp at q⟩
    | p :: a :: k :: r =>
      have e : headAt (w :: p :: a :: k :: r) = if 2 ≤ w ∧ w ≤ 4 ∧ p < 2 ∧ a < 2 ∧ k ≤ 9 then some (.hd w p a k, r) else none := by
        rcases w3 h1 h2 with rfl | rfl | rfl <;> rfl
      refine ⟨fun q => by simp at q, fun _ q => ?_, fun _ q => ?_⟩
      · simp [tooHigh] at q
        rw [e, if_neg (by omega)]
      · simp [tooHigh] at q
        rw [e, if_pos (by omega)]
        exact ⟨_, rfl, rfl⟩
def spHeadAt (K : PySem.W.Frag) : Sp := fun vs H Q _ => ∃ (a : Addr) (ns : List Nat) (i : Nat), vs = [.ref a, ni i] ∧ SqL K H a (nl ns) ∧ ns.length ≤ 100 ∧
  (headAt (ns.drop i) = none → ∀ H', Same H H' → Q .non H') ∧
  (∀ pc r, headAt (ns.drop i) = some (pc, r) → ns.drop i = hnums pc ++ r → ∀ H' x, Same H H' → H x = none → H' x = some (.tup (nl (hnums pc))) → Q (.ref x) H')
theorem nl_get {ns : List Nat} {i n : Nat} (h : ns[i]? = some n) : (nl ns)[i]? = some (ni n) := by
  unfold nl
  rw [List.getElem?_map, h]; rfl
theorem nl_inv {ns : List Nat} {i : Nat} {v : V} (h : (nl ns)[i]? = some v) : ∃ n, ns[i]? = some n ∧ v = ni n := by
  unfold nl at h
  rw [List.getElem?_map] at h
  cases q : ns[i]? with
  | none => rw [q] at h; cases h
  | some n => rw [q] at h; exact ⟨n, rfl, (Option.some.inj h).symm⟩
theorem nl_len {ns : List Nat} : (nl ns).length = ns.length := List.length_map _
theorem cut_nl (ns : List Nat) (i j : Nat) : cutV (nl ns) (some (i : Int)) (some (j : Int)) = nl ((ns.drop i).take (j - i)) := by
  unfold cutV nl
  rw [show HT.sIx (ns.map ni).length 0 (some (i : Int)) = min i (ns.map ni).length from HT.sIx_nat _ 0 i, show HT.sIx (ns.map ni).length (ns.map ni).length (some (j : Int)) = min j (ns.map ni).length from HT.sIx_nat _ _ j, List.map_take, List.map_drop]
  generalize ns.map ni = l
  apply List.ext_getElem?
  intro k
  simp only [List.getElem?_take, List.getElem?_drop]
  by_cases h : min i l.length + k < l.length
  · by_cases h2 : k < j - i
    · rw [if_pos h2, if_pos (by omega)]
      rw [show min i l.length = i by omega]
    · rw [if_neg h2, if_neg (by omega)]
  · rw [List.getElem?_eq_none (show l.length ≤ min i l.length + k by omega), List.getElem?_eq_none (show l.length ≤ i + k by omega)]
    split <;> split <;> rfl
section
variable {P : Program} {w : World} {K : PySem.W.Frag} {mg : Str → Option Value} {base : Heap}
theorem scHeadAt : FnScope ["numbers", "at", "wanted", "head", "place", "number"] ["numbers", "at"] (defScope sHeadAt) := ⟨rfl, rfl, rfl, by decide +kernel, rfl, by decide +kernel, by decide +kernel⟩
theorem ok_headAt {f : Addr} {fd : FuncData} (F : Fun K "head_at" "head_at" sHeadAt f fd) (G : Gs K mg) : FnOk P w K mg base CX0 1 f fd ["numbers", "at"] (spHeadAt K) := by
  obtain ⟨tB, gB⟩ := G.both
  obtain ⟨aHL, gHL, sHL⟩ := G.hlen
  obtain ⟨aHi, gHi, sHi⟩ := G.high
  refine F.ok scHeadAt (fun vs H Q E h => ?_) (fun cdv A outer s H vs Q E hr h => ?_)
  · obtain ⟨a, ns, i, rfl, _⟩ := h
    rfl
  obtain ⟨a, ns, i, rfl, hS, hlen, qN, qS⟩ := h
  refine ⟨_, pss_cons (ps_if (PW.pt (pw_or (pt_cmpR op_ge (pv 1) (pe_callB call_len_seq rfl G.len PySem.boot_len (pa_cons (pv 0) pa_nil)) (nomark _))
        (pw_or1 (pt_cmpR op_gt (pe_ix ix_list (pv 0) (pv 1) (fun _ _ => rfl)) (pgi gB) (nomark _))))) (pss_one (ps_ret pe_non)) pss_nil)
    (pss_cons (ps_set (i := 2) scHeadAt.nd rfl (.inl rfl) (pe_ix ix_tup (pgr gHL) (pe_ix ix_list (pv 0) (pv 1) (fun _ _ => rfl)) (fun _ _ => rfl)))
    (pss_cons (ps_set (i := 3) scHeadAt.nd rfl (.inl rfl) (pe_callTy call_tuple_of rfl G.tuple (by decide +kernel) (pa_cons (pe_slice sl_list (pv 0) (po_some (pv 1)) (po_some (pe_op op_add (pv 1) (pv 2)))) pa_nil)))
    (pss_cons (ps_if (pt_cmpR op_lt (pe_callB call_len_seq rfl G.len PySem.boot_len (pa_cons (pv 3) pa_nil)) (pv 2) (nomark _)) (pss_one (ps_ret pe_non)) pss_nil)
    (pss_cons (ps_if (pt_val (pe_callB (cr_any rfl) rfl G.any (by decide +kernel) (pa_cons
        (pe_lc (own := [("place", 4), ("number", 5)]) (g := gPair K 4 5) (tt := tYes) (te := tOp rGtI (tVar 5) (tOp (rIxT K) (tC (.ref aHi)) (tVar 4))) rfl scHeadAt.nd (pi_enumT rfl G.enumerate (pa_cons (pv 3) pa_nil)) (blkOk_by (N := ["numbers", "at", "wanted", "head", "place", "number"]) (sc := defScope sHeadAt) (by decide +kernel))
          (fun _ _ _ _ _ => pg_tup rfl (pgs_cons (pg_name (i := 4) scHeadAt.nd rfl (.inl rfl)) (pgs_cons (pg_name (i := 5) scHeadAt.nd rfl (.inl rfl)) pgs_nil)))
          (fun _ _ _ _ _ => pts_nil)
          (fun _ _ _ _ _ => pe_cmpR op_gt (pv 5) (pe_ix ix_tup (pgr gHi) (pv 4) (fun _ _ => rfl)) (nomark _))) pa_nil))) (pss_one (ps_ret pe_non)) pss_nil)
    (pss_one (ps_ret (pv 3))))))), ?_⟩
  refine ⟨_, rfl, _, rfl, a, nl ns, rfl, .inl hS, (i : Int), _, rfl, rfl, _, rfl, ite2 (fun c => ?_) (fun c => ?_)⟩
  · have c' : ns.length ≤ i := by
      have := of_decide_eq_true c
      rw [nl_len] at this
      omega
    exact iteT (qN (by rw [List.drop_eq_nil_of_le c']; rfl) H (Same.refl H))
  have c' : i < ns.length := by
    have := of_decide_eq_false (Bool.eq_false_iff.mpr c)
    rw [nl_len] at this
    omega
  obtain ⟨n, hn⟩ : ∃ n, ns[i]? = some n := ⟨_, List.getElem?_eq_getElem c'⟩
  have hd : ns.drop i = n :: ns.drop (i + 1) := by
    obtain ⟨h1, h2⟩ := List.getElem?_eq_some_iff.mp hn
    rw [List.drop_eq_getElem_cons h1, h2]
  have hat : atI (nl ns) (i : Int) = some (ni n) := atI_nat (nl_get hn)
  refine ⟨_, rfl, _, rfl, a, nl ns, (i : Int), _, rfl, rfl, hS, hat, (n : Int), 5, rfl, rfl, _, rfl, ite2 (fun c => ?_) (fun c => ?_)⟩
  · have c5 : 5 < n := by
      have := of_decide_eq_true c
      omega
    exact qN (by rw [hd]; exact headAt_big c5) H (Same.refl H)
  have c5 : n ≤ 5 := by
    have := of_decide_eq_false (Bool.eq_false_iff.mpr c)
    omega
  have hwl : wantedOf n ≤ 4 := by
    have hw : n = 0 ∨ n = 1 ∨ n = 2 ∨ n = 3 ∨ n = 4 ∨ n = 5 := by omega
    rcases hw with rfl | rfl | rfl | rfl | rfl | rfl <;> decide
  have hwt : atI (nl [1, 2, 4, 4, 4, 1]) (n : Int) = some (ni (wantedOf n)) := by
    have hw : n = 0 ∨ n = 1 ∨ n = 2 ∨ n = 3 ∨ n = 4 ∨ n = 5 := by omega
    rcases hw with rfl | rfl | rfl | rfl | rfl | rfl <;> rfl
  obtain ⟨p1, p2, p3⟩ := headAt_py (w := n) (r := ns.drop (i + 1)) c5
  rw [← hd] at p1 p2 p3
  -- wanted = HEAD_LENGTHS[numbers[at]]
  refine ⟨_, rfl, _, rfl, a, nl ns, (i : Int), _, rfl, rfl, hS, hat, aHL, _, (n : Int), _, rfl, rfl, sHL H, hwt, ?_⟩
  -- head = tuple(numbers[at:at + wanted])
  refine ⟨_, rfl, _, rfl, (i : Int), rfl, _, rfl, _, rfl, (i : Int), (wantedOf n : Int), rfl, rfl, _, rfl, a, nl ns, rfl, hS, fun q hq => ?_⟩
  have ecut : cutV (nl ns) (some (i : Int)) (some ((i : Int) + (wantedOf n : Int))) = nl ((ns.drop i).take (wantedOf n)) := by
    rw [show (i : Int) + (wantedOf n : Int) = ((i + wantedOf n : Nat) : Int) by omega, cut_nl, Nat.add_sub_cancel_left]
  rw [ecut]
  refine ⟨q, _, rfl, .inl ⟨SqL.of upd_same, fun h hh => ?_⟩⟩
  have s1 : Same H (upd H q (.lst (nl ((ns.drop i).take (wantedOf n))))) := same_new hq
  have s2 : Same H (upd (upd H q (.lst (nl ((ns.drop i).take (wantedOf n))))) h (.tup (nl ((ns.drop i).take (wantedOf n))))) := s1.trans (same_new hh)
  have nh : H h = none := s1.free hh
  -- if len(head) < wanted
  refine ⟨_, rfl, h, _, rfl, .inr (SqT.of upd_same), _, rfl, _, _, rfl, rfl, _, rfl, ite2 (fun c => ?_) (fun c => ?_)⟩
  · have c4 : ((ns.drop i).take (wantedOf n)).length < wantedOf n := by
      have := of_decide_eq_true c
      rw [nl_len] at this
      omega
    exact qN (p1 c4) _ s2
  have c4 : wantedOf n ≤ ((ns.drop i).take (wantedOf n)).length := by
    have := of_decide_eq_false (Bool.eq_false_iff.mpr c)
    rw [nl_len] at this
    omega
  have c4' : ((ns.drop i).take (wantedOf n)).length ≤ 4 := by
    rw [List.length_take]
    omega
  generalize eh : (ns.drop i).take (wantedOf n) = hs at *
  -- any([number > HIGHEST[place] for place, number in enumerate(head)])
  have hbl : (tooHigh hs).length = hs.length := by
    unfold tooHigh
    rw [List.length_map, List.length_zip]
    show min hs.length 4 = hs.length
    omega
  refine ⟨_, rfl, h, nl hs, rfl, SqT.of upd_same, fun D hD => lc_it (walk_enumT (xs := nl hs))
    (fun j H' => Same H H' ∧ H' h = some (.tup (nl hs)) ∧ H' D = some (.lst (((tooHigh hs).take j).map V.bl)))
    ⟨s2.trans (same_new hD), by rw [upd_ne (ne_of_none (upd_same) hD)]; exact upd_same, upd_same⟩ (fun j H' _ g => SqT.of g.2.1) ?_ ?_⟩
  · rintro j x H3 H4 hj ⟨g1, g2, g3⟩ ⟨T, x1, x2, rfl, nT, rfl, e1, e2⟩
    have nhT : h ≠ T := ne_of_none g2 nT
    have nDT : D ≠ T := ne_of_none g3 nT
    have hD0 : H D = none := s2.free hD
    cases e1
    obtain ⟨y, hy, ey⟩ := nl_inv (show (nl hs)[j]? = some x2 from e2)
    subst ey
    have hj4 : j < 4 := by
      rw [nl_len] at hj
      omega
    obtain ⟨z, hz⟩ : ∃ z, ([5, 1, 1, 9] : List Nat)[j]? = some z := ⟨_, List.getElem?_eq_getElem (by simpa using hj4)⟩
    refine ⟨T, _, rfl, SqT.of upd_same, rfl, _, _, rfl, _, _, rfl, rfl, rfl, ?_⟩
    refine ⟨_, rfl, _, rfl, aHi, _, (j : Int), _, rfl, rfl, sHi _, atI_nat (nl_get hz), (y : Int), (z : Int), rfl, rfl, ((tooHigh hs).take j).map V.bl, ?_, ?_, ?_⟩
    · rw [upd_ne nDT]; exact g3
    · rw [List.length_map, List.length_take]
      exact small6 (by omega)
    · have hth : (tooHigh hs)[j]? = some (decide (z < y)) := by
        unfold tooHigh
        rw [List.getElem?_map, List.getElem?_zip_eq_some.mpr (show hs[j]? = some (y, z).1 ∧ ([5, 1, 1, 9] : List Nat)[j]? = some (y, z).2 from ⟨hy, hz⟩)]
        rfl
      refine ⟨same_upd (g1.trans (same_new nT)) hD0, ?_, ?_⟩
      · rw [upd_ne (ne_of g2 g3 (by intro q; cases q)), upd_ne nhT]; exact g2
      · rw [upd_same, take_more hth, List.map_append]
        have : decide ((z : Int) < (y : Int)) = decide (z < y) := decide_eq_decide.mpr (by omega)
        rw [← this]
        rfl
  · rintro H3 ⟨g1, g2, g3⟩
    have ej : (tooHigh hs).take (nl hs).length = tooHigh hs := List.take_of_length_le (by rw [hbl, nl_len]; exact Nat.le_refl _)
    rw [ej] at g3
    refine ⟨D, tooHigh hs, rfl, SqL.of g3, _, rfl, ite2 (fun c => ?_) (fun c => ?_)⟩
    · exact qN (p2 c4 c) _ g1
    · obtain ⟨pc, e1, e2⟩ := p3 c4 (Bool.eq_false_iff.mpr c)
      refine ⟨_, rfl, qS pc _ e1 ?_ H3 h g1 nh (by rw [e2]; exact g2)⟩
      rw [e2, ← eh, List.take_append_drop]
end
end Duty

namespace Duty
open PySem PySem.Spec PyProof.Rows L2 DRul
open Co09 (Deal)
/-- a def that keeps its promise stands at this name -/
def Cal (P : Program) (w : World) (K : PySem.W.Frag) (mg : Str → Option Value) (base : Heap) (k : Nat) (x : Str) (ps : List Str) (sp : Sp) : Prop :=
  ∃ (f : Addr) (fd : FuncData), mg x = some (.ref f) ∧ PySem.W.keepIn K (.ref f) = true ∧ Binds K fd ps [] ∧ FnOk P w K mg base CX0 k f fd ps sp
/-! ### the mathematics of put -/
theorem put_len : ∀ (ps : List Piece) (st z : List Deal), put ps st = some z → z.length ≤ ps.length + st.length
  | [], st, z, h => by cases h; simp
  | pc :: r, st, z, h => by
    cases e : put r st with
    | none => simp only [put, e] at h; cases h
    | some y =>
      have ih := put_len r st y e
      simp only [put, e, Option.bind_some] at h
      have : z.length ≤ y.length + 1 := by
        unfold put1 at h
        split at h
        · cases h; simp
        · cases h; simp
        · cases h; simp
        · cases h
      simp only [List.length_cons]
      omega
theorem put_suffix {xs ys : List Piece} {st z : List Deal} (h : put (xs ++ ys) st = some z) : ∃ y, put ys st = some y ∧ put xs y = some z := by
  rw [put_append] at h
  cases e : put ys st with
  | none => rw [e] at h; cases h
  | some y => rw [e] at h; exact ⟨y, rfl, h⟩
theorem put_at {ps : List Piece} {st z : List Deal} {j : Nat} {pc : Piece} (h : put ps st = some z) (hj : ps[j]? = some pc) : ∃ y y', put (ps.drop (j + 1)) st = some y ∧ put1 pc y = some y' ∧ put (ps.drop j) st = some y' := by
  obtain ⟨h1, h2⟩ := List.getElem?_eq_some_iff.mp hj
  have e : ps.drop j = pc :: ps.drop (j + 1) := by rw [List.drop_eq_getElem_cons h1, h2]
  rw [← List.take_append_drop j ps] at h
  obtain ⟨y', a1, a2⟩ := put_suffix h
  have a3 := a1
  rw [e] at a3
  simp only [put] at a3
  cases q : put (ps.drop (j + 1)) st with
  | none => rw [q] at a3; cases a3
  | some y => rw [q] at a3; exact ⟨y, y', rfl, a3, a1⟩
/-! ### a piece's tuple -/
def kindD : Deal → Nat
  | .over => 0
  | .breach _ => 1
  | .must .. => 2
  | .mustnt .. => 3
  | .may .. => 4
  | .both .. => 5
def lenD : Deal → Nat
  | .over => 1
  | .breach _ => 2
  | .both .. => 3
  | _ => 6
def kindP : Piece → Nat
  | .whole d => kindD d
  | .hd w _ _ _ => w
  | .bo => 5
def lenP : Piece → Nat
  | .whole d => lenD d
  | .hd .. => 4
  | .bo => 1
theorem kindD_du {w p a k : Nat} {c d : Deal} (h1 : 2 ≤ w) (h2 : w ≤ 4) : kindD (du w p a k c d) = w := by
  rcases w3 h1 h2 with rfl | rfl | rfl <;> rfl
theorem lenD_du {w p a k : Nat} {c d : Deal} (h1 : 2 ≤ w) (h2 : w ≤ 4) : lenD (du w p a k c d) = 6 := by
  rcases w3 h1 h2 with rfl | rfl | rfl <;> rfl
theorem dat_tup {K : PySem.W.Frag} {H : Hp} : ∀ (d : Deal) (v : V), DAt K H d v → ∃ x xs, v = .ref x ∧ SqT K H x xs ∧ xs[0]? = some (ni (kindD d)) ∧ xs.length = lenD d ∧ kindD d < 6
  | .over, v, ⟨x, e, h⟩ => ⟨x, _, e, h, rfl, rfl, by decide⟩
  | .breach p, v, ⟨x, e, h⟩ => ⟨x, _, e, h, rfl, rfl, (by decide : 1 < 6)⟩
  | .must .., v, ⟨x, y, z, e, h, _⟩ => ⟨x, _, e, h, rfl, rfl, (by decide : 2 < 6)⟩
  | .mustnt .., v, ⟨x, y, z, e, h, _⟩ => ⟨x, _, e, h, rfl, rfl, (by decide : 3 < 6)⟩
  | .may .., v, ⟨x, y, z, e, h, _⟩ => ⟨x, _, e, h, rfl, rfl, (by decide : 4 < 6)⟩
  | .both .., v, ⟨x, y, z, e, h, _⟩ => ⟨x, _, e, h, rfl, rfl, (by decide : 5 < 6)⟩
theorem pat_tup {K : PySem.W.Frag} {H : Hp} : ∀ (p : Piece) (v : V), PAt K H p v → ∃ x xs, v = .ref x ∧ SqT K H x xs ∧ xs[0]? = some (ni (kindP p)) ∧ xs.length = lenP p ∧ kindP p < 6
  | .whole d, v, h => dat_tup d v h
  | .hd w p a k, v, ⟨hw, x, e, h⟩ => ⟨x, _, e, h, rfl, rfl, by show w < 6; omega⟩
  | .bo, v, ⟨x, e, h⟩ => ⟨x, _, e, h, rfl, rfl, by decide⟩
/-- whether C and D are lacking -/
theorem lacks_is {K : PySem.W.Frag} {H : Hp} : ∀ (p : Piece) (v : V), PAt K H p v → (decide (0 < [0, 0, 2, 2, 2, 2].getD (kindP p) 0) && decide (lenP p = [1, 2, 4, 4, 4, 1].getD (kindP p) 0)) = decide (p.arity = 2)
  | .whole .over, _, _ => rfl
  | .whole (.breach _), _, _ => rfl
  | .whole (.must ..), _, _ => rfl
  | .whole (.mustnt ..), _, _ => rfl
  | .whole (.may ..), _, _ => rfl
  | .whole (.both ..), _, _ => rfl
  | .hd w p a k, _, ⟨hw, _⟩ => by
    rcases w3 hw.1 hw.2 with rfl | rfl | rfl <;> rfl
  | .bo, _, _ => rfl
theorem pat_head {K : PySem.W.Frag} {H : Hp} {l r : List Nat} {pc : Piece} {x : Addr} (h : headAt l = some (pc, r)) (hx : H x = some (.tup (nl (hnums pc)))) : PAt K H pc (.ref x) := by
  cases pc with
  | whole d =>
    rcases headAt_whole h with ⟨rfl, rfl⟩ | ⟨p, hp, rfl, rfl⟩
    · exact ⟨x, rfl, SqT.of hx⟩
    · exact ⟨x, rfl, SqT.of hx⟩
  | hd w p a k =>
    obtain ⟨h1, h2, _⟩ := headAt_hd h
    exact ⟨⟨h1, h2⟩, x, rfl, SqT.of hx⟩
  | bo => exact ⟨x, rfl, SqT.of hx⟩
theorem head_kind {l r : List Nat} {pc : Piece} (h : headAt l = some (pc, r)) : (hnums pc)[0]? = some (kindP pc) ∧ kindP pc < 6 ∧ [0, 0, 2, 2, 2, 2].getD (kindP pc) 0 = pc.arity ∧ 1 ≤ (hnums pc).length := by
  cases pc with
  | whole d =>
    rcases headAt_whole h with ⟨rfl, rfl⟩ | ⟨p, hp, rfl, rfl⟩
    · exact ⟨rfl, by decide, rfl, by decide⟩
    · exact ⟨rfl, (by decide : 1 < 6), rfl, (by decide : 1 ≤ 2)⟩
  | hd w p a k =>
    obtain ⟨h1, h2, _⟩ := headAt_hd h
    refine ⟨rfl, by show w < 6; omega, ?_, by show 1 ≤ 4; decide⟩
    rcases w3 h1 h2 with rfl | rfl | rfl <;> rfl
  | bo => exact ⟨rfl, by decide, rfl, by decide⟩
theorem nl6 {k : Nat} (h : k < 6) (l : List Nat) (hl : l.length = 6) : atI (nl l) (k : Int) = some (ni (l.getD k 0)) := by
  refine atI_nat (nl_get ?_)
  rw [List.getElem?_eq_getElem (by omega), List.getD_eq_getElem?_getD, List.getElem?_eq_getElem (by omega)]
  rfl
/-! ### promises -/
def spHeadsOf (K : PySem.W.Frag) : Sp := fun vs H Q _ => ∃ (a : Addr) (ns : List Nat), vs = [.ref a] ∧ SqL K H a (nl ns) ∧ ns.length ≤ 100 ∧
  (∀ hs, go (ns.length + 1) ns 1 = some (hs, []) → ∀ H' x ws, Same H H' → H' x = some (.lst ws) → PsAt K H' hs ws → Q (.ref x) H') ∧
  ((go (ns.length + 1) ns 1 = none ∨ ∃ hs y r, go (ns.length + 1) ns 1 = some (hs, y :: r)) → ∀ H', Same H H' → Q .non H')
def spBoth (K : PySem.W.Frag) : Sp := fun vs H Q _ => ∃ (v1 v2 : V) (c d : Deal), vs = [v1, v2] ∧ DAt K H c v1 ∧ DAt K H d v2 ∧ ∀ H' v, Same H H' → DAt K H' (Co09.pair c d) v → Q v H'
def spLacks (K : PySem.W.Frag) : Sp := fun vs H Q _ => ∃ (v : V) (p : Piece), vs = [v] ∧ PAt K H p v ∧ Q (.bl (decide (p.arity = 2))) H
def spPut (K : PySem.W.Frag) : Sp := fun vs H Q _ => ∃ (a : Addr) (ws : List V) (ps : List Piece) (d : Deal), vs = [.ref a] ∧ SqL K H a ws ∧ PsAt K H ps ws ∧ ws.length ≤ 100000 ∧ put ps [] = some [d] ∧
  ∀ H' v, Same H H' → DAt K H' d v → Q v H'
def spAgrOf (K : PySem.W.Frag) : Sp := fun vs H Q _ => ∃ (a : Addr) (ns : List Nat), vs = [.ref a] ∧ SqL K H a (nl ns) ∧ ns.length ≤ 100 ∧
  (∀ c, Co09.deal? ns = some c → ∀ H' v, Same H H' → DAt K H' c v → Q v H') ∧ (Co09.deal? ns = none → ∀ H', Same H H' → Q .non H')
section
variable {P : Program} {w : World} {K : PySem.W.Frag} {mg : Str → Option Value} {base : Heap}
/-! ### heads_of -/
def invHeads (K : PySem.W.Frag) (H : Hp) (a hx : Addr) (ns : List Nat) (m : Nat) (σ : L2.St) (H' : Hp) : Prop :=
  ∃ (i aw f : Nat) (hs : List Piece) (ws : List V) (y : Option V), m = ns.length - i ∧ σ = [some (.ref a), some (.ref hx), some (ni i), some (ni aw), y] ∧ Same H H' ∧ H' hx = some (.lst ws) ∧ PsAt K H' hs ws ∧ i ≤ ns.length ∧
    f + hs.length = ns.length + 1 ∧ hs.length ≤ i ∧ go (ns.length + 1) ns 1 = (go f (ns.drop i) aw).map fun x => (hs ++ x.1, x.2)
theorem scHeadsOf : FnScope ["numbers", "heads", "at", "awaited", "head"] ["numbers"] (defScope sHeadsOf) := ⟨rfl, rfl, rfl, by decide +kernel, rfl, by decide +kernel, by decide +kernel⟩
theorem ok_headsOf {f : Addr} {fd : FuncData} (F : Fun K "heads_of" "heads_of" sHeadsOf f fd) (G : Gs K mg) (C1 : Cal P w K mg base 1 "head_at" ["numbers", "at"] (spHeadAt K)) : FnOk P w K mg base CX0 2 f fd ["numbers"] (spHeadsOf K) := by
  obtain ⟨f1, fd1, g1, k1, b1, F1⟩ := C1
  obtain ⟨aPC, gPC, sPC⟩ := G.pcnt
  refine F.ok scHeadsOf (fun vs H Q E h => ?_) (fun cdv A outer s H vs Q E hr h => ?_)
  · obtain ⟨a, ns, rfl, _⟩ := h
    rfl
  obtain ⟨a, ns, rfl, hS, hlen, qS, qN⟩ := h
  refine ⟨_, pss_cons (ps_set (i := 1) scHeadsOf.nd rfl (.inl rfl) (pe_lst pa_nil))
    (pss_cons (ps_set (i := 2) scHeadsOf.nd rfl (.inl rfl) pe_int)
    (pss_cons (ps_set (i := 3) scHeadsOf.nd rfl (.inl rfl) pe_int)
    (pss_cons (ps_while PassesOwn.never (pt_cmpR op_gt (pv 3) pe_int (nomark _))
      (pss_cons (ps_set (i := 4) scHeadsOf.nd rfl (.inl rfl) (pe_call F1 hr rfl g1 k1 b1 .nil pass0 (pa_cons (pv 0) (pa_cons (pv 2) pa_nil))))
      (pss_cons (ps_if (pt_cmpR op_isN (pv 4) pe_non (nomark _)) (pss_one (ps_ret pe_non)) pss_nil)
      (pss_cons (ps_expr (pe_bm PySem.F.plainAttrs_list PySem.F.slot_list_append PySem.F.type_list_append mt_append (pv 1) (pa_cons (pv 4) pa_nil)))
      (pss_cons (ps_aug (i := 2) scHeadsOf.nd rfl (.inl rfl) (pe_callB call_len_seq rfl G.len PySem.boot_len (pa_cons (pv 4) pa_nil)) ip_add)
      (pss_one (ps_aug (i := 3) scHeadsOf.nd rfl (.inl rfl) (pe_op op_sub (pe_ix ix_tup (pgr gPC) (pe_ix ix_tup (pv 4) pe_int (fun _ _ => rfl)) (fun _ _ => rfl)) pe_int) ip_add)))))))
    (pss_one (ps_ret (pe_ifExp (pt_cmpR op_eq (pv 2) (pe_callB call_len_seq rfl G.len PySem.boot_len (pa_cons (pv 0) pa_nil)) (nomark _)) (pv 1) pe_non)))))), ?_⟩
  refine ⟨Nat.zero_le _, fun hx nx => ?_⟩
  have s1 : Same H (upd H hx (.lst [])) := same_new nx
  refine ⟨invHeads K H a hx ns, ⟨ns.length - 0, 0, 1, ns.length + 1, [], [], none, rfl, rfl, s1, upd_same, .nil, Nat.zero_le _, rfl, Nat.zero_le _, ?_⟩, fun m σ H1 hW => ?_⟩
  · simp
  obtain ⟨i, aw, f', hs, ws, y, rfl, rfl, sm, hws, hps, hi, hf, hhi, hgo⟩ := hW
  refine ⟨_, rfl, (aw : Int), 0, rfl, rfl, _, rfl, ite2 (fun c => ?_) (fun c => ?_)⟩
  · have c0 : 0 < aw := by
      have := of_decide_eq_true c
      omega
    obtain ⟨n, rfl⟩ : ∃ n, aw = n + 1 := ⟨aw - 1, by omega⟩
    obtain ⟨g, rfl⟩ : ∃ g, f' = g + 1 := ⟨f' - 1, by omega⟩
    refine ⟨fun σ' H' => ∃ m', m' < ns.length - i ∧ invHeads K H a hx ns m' σ' H', fun _ _ q => q, ?_⟩
    refine ⟨_, rfl, _, rfl, a, ns, i, rfl, sm.seq hS, hlen, fun e H2 s2 => ?_, fun pc r e esp H2 x s2 nx2 hx2 => ?_⟩
    · -- no head
      refine ⟨_, rfl, rfl, _, rfl, ite2 (fun _ => ?_) (fun c => absurd (decide_eq_true rfl) c)⟩
      exact qN (.inl (by rw [hgo]; simp only [go, e]; rfl)) H2 (sm.trans s2)
    · refine ⟨_, rfl, rfl, _, rfl, ite2 (fun c => absurd (of_decide_eq_true c) (by intro q; cases q)) (fun _ => ?_)⟩
      have hw2 := s2 _ _ hws
      refine ⟨_, rfl, .inl ⟨rfl, _, SqL.of hw2⟩, _, rfl, hx, _, _, rfl, rfl, hw2, ?_, ?_⟩
      · rw [hps.len]
        exact small6 (by omega)
      obtain ⟨hk1, hk2, hk3, hk4⟩ := head_kind e
      have hxne : x ≠ hx := ne_of hx2 hw2 (by intro q; cases q)
      have hx3 : (upd H2 hx (.lst (ws ++ [.ref x]))) x = some (.tup (nl (hnums pc))) := by rw [upd_ne hxne]; exact hx2
      refine ⟨_, rfl, _, rfl, x, _, rfl, .inr (SqT.of hx3), (i : Int), _, rfl, rfl, ?_⟩
      refine ⟨_, rfl, _, rfl, x, _, 0, _, rfl, rfl, SqT.of hx3, atI_nat (j := 0) (nl_get hk1), aPC, _, (kindP pc : Int), _, rfl, rfl, sPC _, nl6 hk2 _ rfl, (([0, 0, 2, 2, 2, 2] : List Nat).getD (kindP pc) 0 : Int), 1, rfl, rfl, ((n + 1 : Nat) : Int), _, rfl, rfl, ?_⟩
      have hlen2 : (ns.drop i).length = (hnums pc).length + r.length := by rw [esp, List.length_append]
      rw [List.length_drop] at hlen2
      have hr' : r = ns.drop (i + (hnums pc).length) := by
        rw [← List.drop_drop, esp, List.drop_left']
        rfl
      refine ⟨ns.length - (i + (hnums pc).length), by omega, i + (hnums pc).length, n + pc.arity, g, hs ++ [pc], ws ++ [.ref x], some (.ref x), rfl, ?_, same_upd (sm.trans s2) nx, upd_same, ?_, by omega, ?_, ?_, ?_⟩
      · have e1 : (i : Int) + ((nl (hnums pc)).length : Int) = ((i + (hnums pc).length : Nat) : Int) := by rw [nl_len]; omega
        have e2 : ((n + 1 : Nat) : Int) + (((([0, 0, 2, 2, 2, 2] : List Nat).getD (kindP pc) 0 : Nat) : Int) - 1) = ((n + pc.arity : Nat) : Int) := by rw [hk3]; omega
        show [some (V.ref a), some (V.ref hx), some (V.int ((i : Int) + ((nl (hnums pc)).length : Int))), some (V.int (((n + 1 : Nat) : Int) + (((([0, 0, 2, 2, 2, 2] : List Nat).getD (kindP pc) 0 : Nat) : Int) - 1))), some (V.ref x)] = _
        rw [e1, e2]
        rfl
      · exact AllAt.snoc (hps.keep ((TK.same s2).trans (TK.lst hw2))) (pat_head e hx3)
      · rw [List.length_append, List.length_singleton]
        omega
      · rw [List.length_append, List.length_singleton]
        omega
      · rw [hgo]
        simp only [go, e]
        rw [← hr']
        cases go g r (n + pc.arity) <;> simp
  · have c0 : aw = 0 := by
      have := of_decide_eq_false (Bool.eq_false_iff.mpr c)
      omega
    subst c0
    rw [go_zero] at hgo
    simp only [Option.map_some, List.append_nil] at hgo
    refine ⟨_, rfl, _, rfl, a, nl ns, rfl, .inl (sm.seq hS), rfl, _, rfl, ite2 (fun c => ?_) (fun c => ?_)⟩
    · have ei : i = ns.length := by
        have := V.int.inj (of_decide_eq_true c)
        rw [nl_len] at this
        omega
      rw [ei, List.drop_length] at hgo
      exact ⟨_, rfl, qS hs hgo H1 hx ws sm hws hps⟩
    · have ei : i ≠ ns.length := fun q => by
        refine c (decide_eq_true ?_)
        rw [nl_len, q]
        rfl
      have : ∃ y r, ns.drop i = y :: r := by
        cases q : ns.drop i with
        | nil =>
          have := List.drop_eq_nil_iff.mp q
          omega
        | cons y r => exact ⟨y, r, rfl⟩
      obtain ⟨y, r, e⟩ := this
      rw [e] at hgo
      exact qN (.inr ⟨hs, y, r, hgo⟩) H1 sm
end
end Duty

namespace Duty
open PySem PySem.Spec PyProof.Rows L2 DRul
open Co09 (Deal)
/-! ### a deal as plain data -/
def pd : Deal → PyData
  | .over => .tuple [.int 0]
  | .breach p => .tuple [.int 1, .int p]
  | .must p a k c d => .tuple [.int 2, .int p, .int a, .int k, pd c, pd d]
  | .mustnt p a k c d => .tuple [.int 3, .int p, .int a, .int k, pd c, pd d]
  | .may p a k c d => .tuple [.int 4, .int p, .int a, .int k, pd c, pd d]
  | .both c d => .tuple [.int 5, pd c, pd d]
theorem pd_lay : ∀ d, (pd d).canLay0 = true
  | .over => by simp [pd, PyData.canLay0, PyData.canLayAll0]
  | .breach p => by simp [pd, PyData.canLay0, PyData.canLayAll0]
  | .must p a k c d => by simp [pd, PyData.canLay0, PyData.canLayAll0, pd_lay c, pd_lay d]
  | .mustnt p a k c d => by simp [pd, PyData.canLay0, PyData.canLayAll0, pd_lay c, pd_lay d]
  | .may p a k c d => by simp [pd, PyData.canLay0, PyData.canLayAll0, pd_lay c, pd_lay d]
  | .both c d => by simp [pd, PyData.canLay0, PyData.canLayAll0, pd_lay c, pd_lay d]
theorem dp_of {K : PySem.W.Frag} {H : Hp} : ∀ (d : Deal) (v : V), DAt K H d v → Dp K H v (pd d)
  | .over, v, ⟨x, e, h⟩ => by subst e; exact .tup h (.cons (.int _) .nil)
  | .breach p, v, ⟨x, e, h⟩ => by subst e; exact .tup h (.cons (.int _) (.cons (.int _) .nil))
  | .must p a k c d, v, ⟨x, y, z, e, h, q1, q2⟩ => by subst e; exact .tup h (.cons (.int _) (.cons (.int _) (.cons (.int _) (.cons (.int _) (.cons (dp_of c y q1) (.cons (dp_of d z q2) .nil))))))
  | .mustnt p a k c d, v, ⟨x, y, z, e, h, q1, q2⟩ => by subst e; exact .tup h (.cons (.int _) (.cons (.int _) (.cons (.int _) (.cons (.int _) (.cons (dp_of c y q1) (.cons (dp_of d z q2) .nil))))))
  | .may p a k c d, v, ⟨x, y, z, e, h, q1, q2⟩ => by subst e; exact .tup h (.cons (.int _) (.cons (.int _) (.cons (.int _) (.cons (.int _) (.cons (dp_of c y q1) (.cons (dp_of d z q2) .nil))))))
  | .both c d, v, ⟨x, y, z, e, h, q1, q2⟩ => by subst e; exact .tup h (.cons (.int _) (.cons (dp_of c y q1) (.cons (dp_of d z q2) .nil)))
theorem eqv_over (d : Deal) : PyData.eqv (pd d) (.tuple [.int 0]) = decide (d = .over) := by
  cases d <;> simp [pd, PyData.eqv, PyData.eqvAll]
section
variable {P : Program} {w : World} {K : PySem.W.Frag} {mg : Str → Option Value} {base : Heap}
/-! ### both -/
theorem scBoth : FnScope ["first", "second"] ["first", "second"] (defScope sBoth) := ⟨rfl, rfl, rfl, by decide +kernel, rfl, by decide +kernel, by decide +kernel⟩
theorem ok_both {f : Addr} {fd : FuncData} (F : Fun K "both" "both" sBoth f fd) (G : Gs K mg) : FnOk P w K mg base CX0 1 f fd ["first", "second"] (spBoth K) := by
  obtain ⟨aO, gO, sO⟩ := G.over
  obtain ⟨tB, gB⟩ := G.both
  refine F.ok scBoth (fun vs H Q E h => ?_) (fun cdv A outer s H vs Q E hr h => ?_)
  · obtain ⟨v1, v2, c, d, rfl, _⟩ := h
    rfl
  obtain ⟨v1, v2, c, d, rfl, h1, h2, q⟩ := h
  refine ⟨_, pss_cons (ps_if (pt_cmpR (op_eqS hr.units) (pv 0) (pgr gO) (nomark _)) (pss_one (ps_ret (pv 1))) pss_nil)
    (pss_cons (ps_if (pt_cmpR (op_eqS hr.units) (pv 1) (pgr gO) (nomark _)) (pss_one (ps_ret (pv 0))) pss_nil)
    (pss_one (ps_ret (pe_tup (pa_cons (pgi gB) (pa_cons (pv 0) (pa_cons (pv 1) pa_nil))))))), ?_⟩
  have hO : ∀ H, Dp K H (.ref aO) (.tuple [.int 0]) := fun H => .tup (sO H) (.cons (.int _) .nil)
  have lO : (PyData.tuple [.int 0]).canLay0 = true := by simp [PyData.canLay0, PyData.canLayAll0]
  have mO : ∀ d, min (pd d).depth (PyData.tuple [.int 0]).depth ≤ 3 := fun d => by
    simp only [PyData.depth, PyData.depthAll]
    omega
  refine ⟨_, rfl, pd c, _, dp_of c v1 h1, hO H, pd_lay c, lO, mO c, _, rfl, ite2 (fun e => ?_) (fun e => ?_)⟩
  · rw [eqv_over] at e
    have e' := of_decide_eq_true e
    refine ⟨_, rfl, q H v2 (Same.refl H) ?_⟩
    unfold Co09.pair
    rw [if_pos e']
    exact h2
  rw [eqv_over] at e
  have e' : c ≠ .over := fun z => e (decide_eq_true z)
  refine ⟨_, rfl, pd d, _, dp_of d v2 h2, hO H, pd_lay d, lO, mO d, _, rfl, ite2 (fun e2 => ?_) (fun e2 => ?_)⟩
  · rw [eqv_over] at e2
    have e2' := of_decide_eq_true e2
    refine ⟨_, rfl, q H v1 (Same.refl H) ?_⟩
    unfold Co09.pair
    rw [if_neg e', if_pos e2']
    exact h1
  rw [eqv_over] at e2
  have e2' : d ≠ .over := fun z => e2 (decide_eq_true z)
  refine ⟨_, rfl, _, rfl, (by show 3 ≤ sizeLine; decide), fun p hp => q _ _ (same_new hp) ?_⟩
  unfold Co09.pair
  rw [if_neg e', if_neg e2']
  exact ⟨p, v1, v2, rfl, SqT.of upd_same, DAt.keep (TK.new hp) c v1 h1, DAt.keep (TK.new hp) d v2 h2⟩
/-! ### lacks_parts -/
theorem scLacks : FnScope ["piece"] ["piece"] (defScope sLacks) := ⟨rfl, rfl, rfl, by decide +kernel, rfl, by decide +kernel, by decide +kernel⟩
theorem ok_lacks {f : Addr} {fd : FuncData} (F : Fun K "lacks_parts" "lacks_parts" sLacks f fd) (G : Gs K mg) : FnOk P w K mg base CX0 1 f fd ["piece"] (spLacks K) := by
  obtain ⟨aPC, gPC, sPC⟩ := G.pcnt
  obtain ⟨aHL, gHL, sHL⟩ := G.hlen
  refine F.ok scLacks (fun vs H Q E h => ?_) (fun cdv A outer s H vs Q E hr h => ?_)
  · obtain ⟨v, p, rfl, _⟩ := h
    rfl
  obtain ⟨v, p, rfl, hp, q⟩ := h
  refine ⟨_, pss_one (ps_ret (pe_and (pe_cmpR op_gt (pe_ix ix_tup (pgr gPC) (pe_ix ix_tup (pv 0) pe_int (fun _ _ => rfl)) (fun _ _ => rfl)) pe_int (nomark _))
    (pe_one (pe_cmpR op_eq (pe_callB call_len_seq rfl G.len PySem.boot_len (pa_cons (pv 0) pa_nil)) (pe_ix ix_tup (pgr gHL) (pe_ix ix_tup (pv 0) pe_int (fun _ _ => rfl)) (fun _ _ => rfl)) (nomark _))))), ?_⟩
  obtain ⟨x, xs, rfl, hx, h0, hl, h6⟩ := pat_tup p v hp
  have hL := lacks_is p (.ref x) hp
  have a0 : atI xs 0 = some (ni (kindP p)) := atI_nat (j := 0) h0
  have e0 : decide ((0 : Int) < (([0, 0, 2, 2, 2, 2] : List Nat).getD (kindP p) 0 : Nat)) = decide (0 < ([0, 0, 2, 2, 2, 2] : List Nat).getD (kindP p) 0) := decide_eq_decide.mpr (by omega)
  refine ⟨_, rfl, x, xs, 0, _, rfl, rfl, hx, a0, aPC, _, (kindP p : Int), _, rfl, rfl, sPC _, nl6 h6 _ rfl, (([0, 0, 2, 2, 2, 2] : List Nat).getD (kindP p) 0 : Nat), 0, rfl, rfl, _, rfl, ite2 (fun c => ?_) (fun c => ?_)⟩
  · rw [e0] at c
    rw [c, Bool.true_and] at hL
    refine ⟨_, rfl, x, xs, rfl, .inr hx, _, rfl, x, xs, 0, _, rfl, rfl, hx, a0, aHL, _, (kindP p : Int), _, rfl, rfl, sHL _, nl6 h6 _ rfl, rfl, ?_⟩
    have e1 : decide (V.int (xs.length : Int) = ni (([1, 2, 4, 4, 4, 1] : List Nat).getD (kindP p) 0)) = decide (p.arity = 2) := by
      rw [← hL, hl]
      refine decide_eq_decide.mpr ⟨fun z => ?_, fun z => ?_⟩
      · have := V.int.inj z
        omega
      · rw [z]; rfl
    have : Q (.bl (decide (V.int (xs.length : Int) = ni (([1, 2, 4, 4, 4, 1] : List Nat).getD (kindP p) 0)))) H := by
      rw [e1]
      exact q
    exact this
  · rw [e0, Bool.not_eq_true] at c
    rw [c, Bool.false_and] at hL
    rw [← hL] at q
    exact q
/-! ### put_together -/
theorem scPut : FnScope ["pieces", "whole", "piece", "first", "second"] ["pieces"] (defScope sPut) := ⟨rfl, rfl, rfl, by decide +kernel, rfl, by decide +kernel, by decide +kernel⟩
theorem ok_put {f : Addr} {fd : FuncData} (F : Fun K "put_together" "put_together" sPut f fd) (G : Gs K mg) (C1 : Cal P w K mg base 1 "lacks_parts" ["piece"] (spLacks K)) (C2 : Cal P w K mg base 1 "both" ["first", "second"] (spBoth K)) :
    FnOk P w K mg base CX0 2 f fd ["pieces"] (spPut K) := by
  obtain ⟨f1, fd1, g1, k1, b1, F1⟩ := C1
  obtain ⟨f2, fd2, g2, k2, b2, F2⟩ := C2
  obtain ⟨tB, gB⟩ := G.both
  refine F.ok scPut (fun vs H Q E h => ?_) (fun cdv A outer s H vs Q E hr h => ?_)
  · obtain ⟨a, ws, ps, d, rfl, _⟩ := h
    rfl
  obtain ⟨a, ws, ps, d, rfl, hS, hps, hlen, hput, q⟩ := h
  refine ⟨_, pss_cons (ps_set (i := 1) scPut.nd rfl (.inl rfl) (pe_lst pa_nil))
    (pss_cons (ps_for PassesOwn.never rfl (pi_reversed rfl G.reversed (pa_cons (pv 0) pa_nil)) (pg_name (i := 2) scPut.nd rfl (.inl rfl))
      (pss_cons (ps_if (pt_not (pt_val (pe_call F1 hr rfl g1 k1 b1 .nil pass0 (pa_cons (pv 2) pa_nil))))
        (pss_cons (ps_expr (pe_bm PySem.F.plainAttrs_list PySem.F.slot_list_append PySem.F.type_list_append mt_append (pv 1) (pa_cons (pv 2) pa_nil))) (pss_one ps_continue)) pss_nil)
      (pss_cons (ps_set (i := 3) scPut.nd rfl (.inl rfl) (pe_bm0 PySem.F.plainAttrs_list PySem.F.slot_list_pop PySem.F.type_list_pop mt_pop (pv 1)))
      (pss_cons (ps_set (i := 4) scPut.nd rfl (.inl rfl) (pe_bm0 PySem.F.plainAttrs_list PySem.F.slot_list_pop PySem.F.type_list_pop mt_pop (pv 1)))
      (pss_one (ps_if (pt_cmpR op_eq (pe_ix ix_tup (pv 2) pe_int (fun _ _ => rfl)) (pgi gB) (nomark _))
        (pss_one (ps_expr (pe_bm PySem.F.plainAttrs_list PySem.F.slot_list_append PySem.F.type_list_append mt_append (pv 1) (pa_cons (pe_call F2 hr rfl g2 k2 b2 .nil pass0 (pa_cons (pv 3) (pa_cons (pv 4) pa_nil))) pa_nil))))
        (pss_one (ps_expr (pe_bm PySem.F.plainAttrs_list PySem.F.slot_list_append PySem.F.type_list_append mt_append (pv 1) (pa_cons (pe_op op_catT (pv 2) (pe_tup (pa_cons (pv 3) (pa_cons (pv 4) pa_nil)))) pa_nil))))))))))
    (pss_one (ps_ret (pe_ix ix_list (pv 1) pe_int (fun _ _ => rfl))))), ?_⟩
  refine ⟨Nat.zero_le _, fun wl nw => ?_⟩
  have s1 : Same H (upd H wl (.lst [])) := same_new nw
  have hpl : ps.length = ws.length := hps.len.symm
  refine ⟨_, rfl, a, ws, rfl, s1.seq hS, for_it walk_rev
    (fun i σ H' => ∃ (y2 y3 y4 : Option V) (st : List Deal) (us : List V), σ = [some (.ref a), some (.ref wl), y2, y3, y4] ∧ Same H H' ∧ put (ps.drop (ws.length - i)) [] = some st ∧ DsAt K H' st us ∧ H' wl = some (.lst us.reverse))
    ⟨none, none, none, [], [], rfl, s1, by rw [← hpl, Nat.sub_zero, List.drop_length]; rfl, .nil, upd_same⟩ (fun i σ H' _ ⟨_, _, _, _, _, _, sm, _⟩ => sm.seq hS) ?_ ?_⟩
  · rintro i v σ H0 H1 hi ⟨y2, y3, y4, st, us, rfl, sm, hst, hds, hwl⟩ ⟨rfl, hv⟩
    obtain ⟨pc, hpc, hpat⟩ := hps.get hv
    have hpat := PAt.keep (TK.same sm) pc v hpat
    obtain ⟨st0, st', e1, e2, e3⟩ := put_at hput hpc
    rw [show ws.length - 1 - i + 1 = ws.length - i by omega, hst] at e1
    cases e1
    rw [show ws.length - 1 - i = ws.length - (i + 1) by omega] at e3
    have hstl : st.length ≤ ws.length := by
      have := put_len _ _ _ hst
      rw [List.length_drop] at this
      simp only [List.length_nil] at this
      omega
    have hul : us.length ≤ 100000 := by
      rw [hds.len]
      omega
    refine ⟨_, rfl, v, pc, rfl, hpat, _, rfl, ite2 (fun c => ?_) (fun c => ?_)⟩
    · -- a whole one
      have c2 : ¬ pc.arity = 2 := fun z => by
        rw [decide_eq_true z] at c
        cases c
      cases pc with
      | hd w p a k => exact absurd rfl c2
      | bo => exact absurd rfl c2
      | whole d0 =>
        cases e2
        refine ⟨_, rfl, .inl ⟨rfl, _, SqL.of hwl⟩, _, rfl, wl, _, _, rfl, rfl, hwl, ?_, ?_⟩
        · rw [List.length_reverse]
          exact small6 (by omega)
        · refine ⟨some v, y3, y4, d0 :: st, v :: us, rfl, same_upd sm nw, e3, .cons (DAt.keep (TK.lst hwl) d0 v hpat) (DsAt.keep (TK.lst hwl) hds), ?_⟩
          rw [upd_same, List.reverse_cons]
    · have c2 : pc.arity = 2 := by
        by_cases z : pc.arity = 2
        · exact z
        · exact absurd (by rw [decide_eq_false z]; rfl) c
      obtain ⟨c0, d0, st2, rfl⟩ : ∃ c0 d0 st2, st = c0 :: d0 :: st2 := by
        cases pc with
        | whole d0 => cases c2
        | hd w p a k =>
          match st, e2 with
          | [], e2 => cases e2
          | [_], e2 => cases e2
          | c0 :: d0 :: st2, _ => exact ⟨c0, d0, st2, rfl⟩
        | bo =>
          match st, e2 with
          | [], e2 => cases e2
          | [_], e2 => cases e2
          | c0 :: d0 :: st2, _ => exact ⟨c0, d0, st2, rfl⟩
      cases hds with
      | @cons _ vc _ _ hc hds =>
        cases hds with
        | @cons _ vd _ us hd hds =>
          rw [List.reverse_cons] at hwl
          refine ⟨_, rfl, .inl ⟨rfl, _, SqL.of hwl⟩, wl, _, vc, rfl, rfl, hwl, last_snoc _ _, ?_⟩
          rw [drop_snoc, List.reverse_cons]
          have t1 : TK H1 (upd H1 wl (.lst (us.reverse ++ [vd]))) := TK.lst hwl
          refine ⟨_, rfl, .inl ⟨rfl, _, SqL.of upd_same⟩, wl, _, vd, rfl, rfl, upd_same, last_snoc _ _, ?_⟩
          rw [drop_snoc, upd_upd]
          have t2 : TK H1 (upd H1 wl (.lst us.reverse)) := TK.lst hwl
          have s2 : Same H (upd H1 wl (.lst us.reverse)) := same_upd sm nw
          have hw2 : (upd H1 wl (.lst us.reverse)) wl = some (.lst us.reverse) := upd_same
          generalize upd H1 wl (.lst us.reverse) = H2 at t2 s2 hw2 ⊢
          have hc2 := DAt.keep t2 _ _ hc
          have hd2 := DAt.keep t2 _ _ hd
          have hds2 := DsAt.keep t2 hds
          have hpat2 := PAt.keep t2 _ _ hpat
          obtain ⟨x, xs, rfl, hx, h0, hl, h6⟩ := pat_tup pc v hpat2
          have hul2 : us.reverse.length < sizeLine := by
            rw [List.length_reverse]
            simp only [List.length_cons] at hul
            exact small6 (by omega)
          refine ⟨_, rfl, x, xs, 0, _, rfl, rfl, hx, atI_nat (j := 0) h0, rfl, _, rfl, ite2 (fun c => ?_) (fun c => ?_)⟩
          · have c5 : kindP pc = 5 := by
              have := V.int.inj (of_decide_eq_true c)
              omega
            cases pc with
            | whole d0 => cases c2
            | hd w p a k =>
              obtain ⟨hw, _⟩ := hpat2
              have : w = 5 := c5
              omega
            | bo =>
              cases e2
              refine ⟨_, rfl, .inl ⟨rfl, _, SqL.of hw2⟩, _, rfl, _, rfl, vc, vd, c0, d0, rfl, hc2, hd2, fun H3 v3 s3 h3 => ?_⟩
              have hw3 := s3 _ _ hw2
              refine ⟨wl, _, _, rfl, rfl, hw3, hul2, ?_⟩
              refine ⟨some (.ref x), some vc, some vd, _, v3 :: us, rfl, same_upd (s2.trans s3) nw, e3, .cons (DAt.keep (TK.lst hw3) _ _ h3) (DsAt.keep ((TK.same s3).trans (TK.lst hw3)) hds2), ?_⟩
              rw [upd_same, List.reverse_cons]
          · cases pc with
            | whole d0 => cases c2
            | bo => exact absurd (decide_eq_true rfl) c
            | hd w p a k =>
              cases e2
              obtain ⟨hw, x', ex, hx'⟩ := hpat2
              cases ex
              refine ⟨_, rfl, .inl ⟨rfl, _, SqL.of hw2⟩, _, rfl, _, rfl, _, rfl, (by show 2 ≤ sizeLine; decide), fun t nt => ?_⟩
              have s3 : Same H2 (upd H2 t (.tup [vc, vd])) := same_new nt
              refine ⟨x, t, _, _, rfl, rfl, (TK.same s3).sq hx', SqT.of upd_same, (by intro z; cases z), (by show 6 ≤ sizeLine; decide), (fun z => by cases z), fun _ u nu => ?_⟩
              have s4 : Same H2 (upd (upd H2 t (.tup [vc, vd])) u (.tup ([ni w, ni p, ni a, ni k] ++ [vc, vd]))) := s3.trans (same_new nu)
              have hw4 := s4 _ _ hw2
              refine ⟨wl, _, _, rfl, rfl, hw4, hul2, ?_⟩
              have t5 := (TK.same s4).trans (TK.lst (o := .lst (us.reverse ++ [.ref u])) hw4)
              have hu : (upd (upd (upd H2 t (.tup [vc, vd])) u (.tup ([ni w, ni p, ni a, ni k] ++ [vc, vd]))) wl (.lst (us.reverse ++ [.ref u]))) u = some (.tup [ni w, ni p, ni a, ni k, vc, vd]) := by
                rw [upd_ne (ne_of upd_same hw4 (by intro z; cases z)), upd_same]
                rfl
              refine ⟨some (.ref x), some vc, some vd, _, .ref u :: us, rfl, same_upd (s2.trans s4) nw, e3, .cons ((dat_du hw.1 hw.2).mpr ⟨u, vc, vd, rfl, SqT.of hu, DAt.keep t5 _ _ hc2, DAt.keep t5 _ _ hd2⟩) (DsAt.keep t5 hds2), ?_⟩
              rw [upd_same, List.reverse_cons]
  · rintro σ H1 ⟨y2, y3, y4, st, us, rfl, sm, hst, hds, hwl⟩
    rw [Nat.sub_self, List.drop_zero, hput] at hst
    cases hst
    cases hds with
    | @cons _ v _ _ hd hn =>
      cases hn
      exact ⟨_, rfl, wl, _, 0, v, rfl, rfl, SqL.of hwl, atI_nat (j := 0) rfl, q H1 v sm hd⟩
/-! ### agreement_of -/
theorem scAgrOf : FnScope ["numbers", "heads"] ["numbers"] (defScope sAgrOf) := ⟨rfl, rfl, rfl, by decide +kernel, rfl, by decide +kernel, by decide +kernel⟩
theorem ok_agrOf {f : Addr} {fd : FuncData} (F : Fun K "agreement_of" "agreement_of" sAgrOf f fd) (C1 : Cal P w K mg base 2 "heads_of" ["numbers"] (spHeadsOf K)) (C2 : Cal P w K mg base 2 "put_together" ["pieces"] (spPut K)) :
    FnOk P w K mg base CX0 3 f fd ["numbers"] (spAgrOf K) := by
  obtain ⟨f1, fd1, g1, k1, b1, F1⟩ := C1
  obtain ⟨f2, fd2, g2, k2, b2, F2⟩ := C2
  refine F.ok scAgrOf (fun vs H Q E h => ?_) (fun cdv A outer s H vs Q E hr h => ?_)
  · obtain ⟨a, ns, rfl, _⟩ := h
    rfl
  obtain ⟨a, ns, rfl, hS, hlen, qS, qN⟩ := h
  refine ⟨_, pss_cons (ps_set (i := 1) scAgrOf.nd rfl (.inl rfl) (pe_call F1 hr rfl g1 k1 b1 .nil pass0 (pa_cons (pv 0) pa_nil)))
    (pss_cons (ps_if (pt_cmpR op_isN (pv 1) pe_non (nomark _)) (pss_one (ps_ret pe_non)) pss_nil)
    (pss_one (ps_ret (pe_call F2 hr rfl g2 k2 b2 .nil pass0 (pa_cons (pv 1) pa_nil))))), ?_⟩
  refine ⟨_, rfl, a, ns, rfl, hS, hlen, fun hs e H1 x ws s1 hx hps => ?_, fun e H1 s1 => ?_⟩
  · refine ⟨_, rfl, rfl, _, rfl, ite2 (fun c => absurd (of_decide_eq_true c) (by intro q; cases q)) (fun _ => ?_)⟩
    rcases deal_go ns with ⟨c, hs', e1, e2, e3, _, _, e6⟩ | ⟨e1, e2⟩
    · rw [e] at e2
      cases e2
      refine ⟨_, rfl, x, ws, hs, c, rfl, SqL.of hx, hps, ?_, e3, fun H2 v s2 hv => qS c e1 H2 v (s1.trans s2) hv⟩
      rw [hps.len]
      omega
    · exfalso
      rcases e2 with e2 | ⟨hs', y, r, e2⟩
      · rw [e] at e2; cases e2
      · rw [e] at e2; cases e2
  · refine ⟨_, rfl, rfl, _, rfl, ite2 (fun _ => ?_) (fun c => absurd (decide_eq_true rfl) c)⟩
    rcases deal_go ns with ⟨c, hs', e1, e2, _⟩ | ⟨e1, _⟩
    · exfalso
      rcases e with e | ⟨hs, y, r, e⟩
      · rw [e2] at e; cases e
      · rw [e2] at e; cases e
    · exact qN e1 H1 s1
end
end Duty

namespace Duty
open PySem PySem.Spec PyProof.Rows L2 DRul
open Co09 (Deal)
/-! ### the mathematics of stacks -/
def stSize (st : List Deal) : Nat := (st.map size).sum
theorem stSize_cons (d : Deal) (st : List Deal) : stSize (d :: st) = size d + stSize st := rfl
theorem stSize_len : ∀ st, st.length ≤ stSize st
  | [] => Nat.le_refl _
  | d :: st => by
    have := stSize_len st
    have := size_pos d
    rw [stSize_cons, List.length_cons]
    omega
theorem flat_len : ∀ d, (flat d).length ≤ size d := by
  refine cases3 ?_ ?_ ?_ ?_
  · exact Nat.le_refl _
  · intro p; rw [flat_breach, size_breach]; exact Nat.le_succ _
  · intro w p a k c d h1 h2 _ _
    rw [flat_du h1 h2, size_du h1 h2]
    show 1 ≤ _
    omega
  · intro c d hc hd
    rw [flat, size_both, List.length_cons, List.length_append]
    omega
theorem flat_leaf {d : Deal} (h : kindD d ≠ 5) : flat d = [.whole d] := by
  cases d <;> first | rfl | exact absurd rfl h
/-! ### promises -/
def spApart (K : PySem.W.Frag) : Sp := fun vs H Q _ => ∃ (v : V) (d : Deal), vs = [v] ∧ DAt K H d v ∧ size d ≤ 10000 ∧
  ∀ H' x ws, Same H H' → H x = none → H' x = some (.lst ws) → PsAt K H' (flat d) ws → Q (.ref x) H'
def spNums (K : PySem.W.Frag) : Sp := fun vs H Q _ => ∃ (v : V) (d : Deal), vs = [v] ∧ DAt K H d v ∧ size d ≤ 10000 ∧
  ∀ H' x, Same H H' → H x = none → H' x = some (.lst (nl (Co09.toldFrom d))) → Q (.ref x) H'
def spIsDuty (K : PySem.W.Frag) : Sp := fun vs H Q _ => ∃ (x : Addr) (xs : List V) (k : Nat), vs = [.ref x] ∧ SqT K H x xs ∧ xs[0]? = some (ni k) ∧ Q (.bl (decide (2 ≤ k) && decide (k ≤ 4))) H
def spInBreach (K : PySem.W.Frag) : Sp := fun vs H Q _ => ∃ (v : V) (d : Deal) (p : Nat), vs = [v, ni p] ∧ DAt K H d v ∧ size d ≤ 10000 ∧ ∀ H', Same H H' → Q (.bl (Co09.blamed p d)) H'
def pieceDuty : Piece → Option Deal
  | .whole d => if isDuty d = true then some d else none
  | _ => none
def dutiesP (ps : List Piece) : List Deal := ps.filterMap pieceDuty
def spDuties (K : PySem.W.Frag) : Sp := fun vs H Q _ => ∃ (v : V) (d : Deal), vs = [v] ∧ DAt K H d v ∧ size d ≤ 10000 ∧
  ∀ H' x ws, Same H H' → H x = none → H' x = some (.lst ws) → DsAt K H' (dutiesP (flat d)) ws → Q (.ref x) H'
def spSettled (K : PySem.W.Frag) : Sp := fun vs H Q _ => ∃ (v : V) (d : Deal), vs = [v] ∧ DAt K H d v ∧ size d ≤ 10000 ∧ ∀ H', Same H H' → Q (.bl (Co09.settled d)) H'
/-! ### pieces of a deal: no head among them -/
def okP : Piece → Bool
  | .whole d => noBoth d
  | .bo => true
  | .hd .. => false
theorem flat_ok : ∀ d, ∀ p ∈ flat d, okP p = true := by
  refine cases3 ?_ ?_ ?_ ?_
  · intro p h; rw [flat_over, List.mem_singleton] at h; subst h; rfl
  · intro q p h; rw [flat_breach, List.mem_singleton] at h; subst h; rfl
  · intro w q a k c d h1 h2 _ _ p h
    rw [flat_du h1 h2, List.mem_singleton] at h
    subst h
    rcases w3 h1 h2 with rfl | rfl | rfl <;> rfl
  · intro c d hc hd p h
    rw [flat, List.mem_cons, List.mem_append] at h
    rcases h with rfl | h | h
    · rfl
    · exact hc p h
    · exact hd p h
theorem kind_duty {p : Piece} (h : okP p = true) : (decide (2 ≤ kindP p) && decide (kindP p ≤ 4)) = (pieceDuty p).isSome := by
  cases p with
  | hd => cases h
  | bo => rfl
  | whole d => cases d <;> first | rfl | cases h
theorem dutiesP_flat : ∀ d, dutiesP (flat d) = (parts d).filter isDuty := by
  refine cases3 ?_ ?_ ?_ ?_
  · rfl
  · intro p; rfl
  · intro w p a k c d h1 h2 _ _
    rw [flat_du h1 h2, parts_du h1 h2]
    rcases w3 h1 h2 with rfl | rfl | rfl <;> rfl
  · intro c d hc hd
    unfold dutiesP at hc hd ⊢
    rw [flat, parts, List.filterMap_cons, List.filterMap_append, hc, hd, List.filter_append]
    rfl
theorem settled_duties : ∀ d, Co09.settled d = ((parts d).filter isDuty).isEmpty := by
  refine cases3 ?_ ?_ ?_ ?_
  · rfl
  · intro p; rfl
  · intro w p a k c d h1 h2 _ _
    rw [settled_du h1 h2, parts_du h1 h2, List.filter_cons, isDuty_du h1 h2]
    rfl
  · intro c d hc hd
    show (Co09.settled c && Co09.settled d) = _
    rw [parts, List.filter_append, hc, hd]
    cases (parts c).filter isDuty <;> simp
theorem stands_duties : ∀ d, Co09.stands d = ((parts d).filter isDuty).flatMap fun x => Co09.stands x := by
  refine cases3 ?_ ?_ ?_ ?_
  · rfl
  · intro p; rfl
  · intro w p a k c d h1 h2 _ _
    rw [parts_du h1 h2, List.filter_cons, isDuty_du h1 h2]
    simp
  · intro c d hc hd
    show Co09.stands c ++ Co09.stands d = _
    rw [parts, List.filter_append, List.flatMap_append, ← hc, ← hd]
def pdP : Piece → PyData
  | .whole d => pd d
  | .hd w p a k => .tuple [.int w, .int p, .int a, .int k]
  | .bo => .tuple [.int 5]
theorem pdP_lay : ∀ p, (pdP p).canLay0 = true
  | .whole d => pd_lay d
  | .hd .. => by simp [pdP, PyData.canLay0, PyData.canLayAll0]
  | .bo => by simp [pdP, PyData.canLay0, PyData.canLayAll0]
theorem pdPs_lay : ∀ ps : List Piece, PyData.canLayAll0 (ps.map pdP) = true
  | [] => by simp [PyData.canLayAll0]
  | p :: ps => by simp [PyData.canLayAll0, pdP_lay p, pdPs_lay ps]
theorem dpP_of {K : PySem.W.Frag} {H : Hp} : ∀ (p : Piece) (v : V), PAt K H p v → Dp K H v (pdP p)
  | .whole d, v, h => dp_of d v h
  | .hd w p a k, v, ⟨_, x, e, h⟩ => by subst e; exact .tup h (.cons (.int _) (.cons (.int _) (.cons (.int _) (.cons (.int _) .nil))))
  | .bo, v, ⟨x, e, h⟩ => by subst e; exact .tup h (.cons (.int _) .nil)
theorem dpPs_of {K : PySem.W.Frag} {H : Hp} : ∀ {ps : List Piece} {ws : List V}, PsAt K H ps ws → DpAll K H ws (ps.map pdP)
  | _, _, .nil => .nil
  | _, _, .cons r t => .cons (dpP_of _ _ r) (dpPs_of t)
theorem eqv_breach (p : Nat) : ∀ (x : Deal), noBoth x = true → PyData.eqv (pd x) (.tuple [.int 1, .int p]) = Co09.blamed p x := by
  intro x h
  cases x <;> first | (simp [pd, PyData.eqv, PyData.eqvAll, Co09.blamed]; done) | (cases h; done) | skip
  · rename_i q
    simp only [pd, PyData.eqv, PyData.eqvAll, Co09.blamed, Bool.and_true]
    by_cases e : q = p
    · subst e; simp
    · have e' : ¬ ((q : Int) = (p : Int)) := by omega
      rw [beq_eq_false_iff_ne.mpr e, beq_eq_false_iff_ne.mpr e']
      simp
theorem any_breach (p : Nat) : ∀ d, ((flat d).map pdP).any (fun z => PyData.eqv z (.tuple [.int 1, .int p])) = Co09.blamed p d := by
  refine cases3 ?_ ?_ ?_ ?_
  · rw [flat_over]; simp only [List.map_cons, List.map_nil, List.any_cons, List.any_nil, Bool.or_false]; exact eqv_breach p .over rfl
  · intro q; rw [flat_breach]; simp only [List.map_cons, List.map_nil, List.any_cons, List.any_nil, Bool.or_false]; exact eqv_breach p (.breach q) rfl
  · intro w q a k c d h1 h2 _ _
    rw [flat_du h1 h2]
    simp only [List.map_cons, List.map_nil, List.any_cons, List.any_nil, Bool.or_false]
    refine eqv_breach p _ ?_
    rcases w3 h1 h2 with rfl | rfl | rfl <;> rfl
  · intro c d hc hd
    rw [flat, List.map_cons, List.map_append, List.any_cons, List.any_append, hc, hd]
    show (PyData.eqv (.tuple [.int 5]) (.tuple [.int 1, .int p]) || (Co09.blamed p c || Co09.blamed p d)) = (Co09.blamed p c || Co09.blamed p d)
    simp [PyData.eqv, PyData.eqvAll]
section
variable {P : Program} {w : World} {K : PySem.W.Frag} {mg : Str → Option Value} {base : Heap}
/-! ### taken_apart -/
def invApart (K : PySem.W.Frag) (H : Hp) (v : V) (pl al : Addr) (d : Deal) (m : Nat) (σ : L2.St) (H' : Hp) : Prop :=
  ∃ (ps : List Piece) (st : List Deal) (ws us : List V) (y : Option V), m = stSize st ∧ σ = [some v, some (.ref pl), some (.ref al), y] ∧ Same H H' ∧ H' pl = some (.lst ws) ∧ H' al = some (.lst us.reverse) ∧ PsAt K H' ps ws ∧ DsAt K H' st us ∧
    ps ++ st.flatMap flat = flat d ∧ ps.length + stSize st ≤ size d
theorem scApart : FnScope ["agreement", "pieces", "ahead", "part"] ["agreement"] (defScope sApart) := ⟨rfl, rfl, rfl, by decide +kernel, rfl, by decide +kernel, by decide +kernel⟩
theorem ok_apart {f : Addr} {fd : FuncData} (F : Fun K "taken_apart" "taken_apart" sApart f fd) (G : Gs K mg) : FnOk P w K mg base CX0 1 f fd ["agreement"] (spApart K) := by
  obtain ⟨tB, gB⟩ := G.both
  refine F.ok scApart (fun vs H Q E h => ?_) (fun cdv A outer s H vs Q E hr h => ?_)
  · obtain ⟨v, d, rfl, _⟩ := h
    rfl
  obtain ⟨v, d, rfl, hd, hsz, q⟩ := h
  refine ⟨_, pss_cons (ps_set (i := 1) scApart.nd rfl (.inl rfl) (pe_lst pa_nil))
    (pss_cons (ps_set (i := 2) scApart.nd rfl (.inl rfl) (pe_lst (pa_cons (pv 0) pa_nil)))
    (pss_cons (ps_while PassesOwn.never (pt_cmpR op_gt (pe_callB call_len_seq rfl G.len PySem.boot_len (pa_cons (pv 2) pa_nil)) pe_int (nomark _))
      (pss_cons (ps_set (i := 3) scApart.nd rfl (.inl rfl) (pe_bm0 PySem.F.plainAttrs_list PySem.F.slot_list_pop PySem.F.type_list_pop mt_pop (pv 2)))
      (pss_one (ps_if (pt_cmpR op_eq (pe_ix ix_tup (pv 3) pe_int (fun _ _ => rfl)) (pgi gB) (nomark _))
        (pss_cons (ps_expr (pe_bm PySem.F.plainAttrs_list PySem.F.slot_list_append PySem.F.type_list_append mt_append (pv 1) (pa_cons (pe_slice sl_tup (pv 3) po_none (po_some pe_int)) pa_nil)))
        (pss_cons (ps_expr (pe_bm PySem.F.plainAttrs_list PySem.F.slot_list_append PySem.F.type_list_append mt_append (pv 2) (pa_cons (pe_ix ix_tup (pv 3) pe_int (fun _ _ => rfl)) pa_nil)))
        (pss_one (ps_expr (pe_bm PySem.F.plainAttrs_list PySem.F.slot_list_append PySem.F.type_list_append mt_append (pv 2) (pa_cons (pe_ix ix_tup (pv 3) pe_int (fun _ _ => rfl)) pa_nil))))))
        (pss_one (ps_expr (pe_bm PySem.F.plainAttrs_list PySem.F.slot_list_append PySem.F.type_list_append mt_append (pv 1) (pa_cons (pv 3) pa_nil))))))))
    (pss_one (ps_ret (pv 1))))), ?_⟩
  refine ⟨Nat.zero_le _, fun pl np => ?_⟩
  have s1 : Same H (upd H pl (.lst [])) := same_new np
  refine ⟨_, rfl, (by show 1 ≤ sizeLine; decide), fun al na => ?_⟩
  have s2 : Same H (upd (upd H pl (.lst [])) al (.lst [v])) := s1.trans (same_new na)
  have na0 : H al = none := s1.free na
  have npa : pl ≠ al := fun e => by rw [← e, upd_same] at na; cases na
  refine ⟨invApart K H v pl al d, ⟨_, [], [d], [], [v], none, rfl, rfl, s2, by rw [upd_ne npa]; exact upd_same, upd_same, .nil, .cons (DAt.keep (TK.same s2) d v hd) .nil, by simp, by simp [stSize]⟩, fun m σ H1 hW => ?_⟩
  obtain ⟨ps, st, ws, us, y, rfl, rfl, sm, hpl, hal, hps, hds, hfl, hsum⟩ := hW
  refine ⟨_, rfl, al, _, rfl, .inl (SqL.of hal), _, 0, rfl, rfl, _, rfl, ite2 (fun c => ?_) (fun c => ?_)⟩
  · cases hds with
    | nil => exact absurd (of_decide_eq_true c) (by simp)
    | @cons e ve st us he hds =>
      refine ⟨fun σ' H' => ∃ m', m' < stSize (e :: st) ∧ invApart K H v pl al d m' σ' H', fun _ _ q => q, ?_⟩
      rw [List.reverse_cons] at hal
      rw [stSize_cons] at hsum ⊢
      have hep := size_pos e
      have hsl := stSize_len st
      refine ⟨_, rfl, .inl ⟨rfl, _, SqL.of hal⟩, al, _, ve, rfl, rfl, hal, last_snoc _ _, ?_⟩
      rw [drop_snoc]
      have t2 : TK H1 (upd H1 al (.lst us.reverse)) := TK.lst hal
      have s3 : Same H (upd H1 al (.lst us.reverse)) := same_upd sm na0
      have hal2 : (upd H1 al (.lst us.reverse)) al = some (.lst us.reverse) := upd_same
      have hpl2 : (upd H1 al (.lst us.reverse)) pl = some (.lst ws) := by rw [upd_ne npa]; exact hpl
      generalize upd H1 al (.lst us.reverse) = H2 at t2 s3 hal2 hpl2 ⊢
      have he2 := DAt.keep t2 _ _ he
      have hds2 := DsAt.keep t2 hds
      have hps2 := PsAt.keep t2 hps
      have hul : us.reverse.length = st.length := by rw [List.length_reverse, hds.len]
      have hwl : ws.length = ps.length := hps.len
      obtain ⟨x, xs, rfl, hx, h0, hl, h6⟩ := dat_tup e ve he2
      refine ⟨_, rfl, x, xs, 0, _, rfl, rfl, hx, atI_nat (j := 0) h0, rfl, _, rfl, ite2 (fun c => ?_) (fun c => ?_)⟩
      · have c5 : kindD e = 5 := by
          have := V.int.inj (of_decide_eq_true c)
          omega
        cases e with
        | both e1 e2 =>
          obtain ⟨x', y1, y2, ex, hx', d1, d2⟩ := he2
          cases ex
          rw [size_both] at hsum ⊢
          -- pieces.append(part[:1])
          refine ⟨_, rfl, .inl ⟨rfl, _, SqL.of hpl2⟩, _, rfl, 1, rfl, x, _, rfl, hx', (by rintro ⟨_, z⟩; exact absurd (show (1 : Nat) = 3 from z) (by decide)), fun t nt => ?_⟩
          rw [show cutV [ni 5, y1, y2] none (some 1) = [ni 5] from rfl]
          have s4 : Same H2 (upd H2 t (.tup [ni 5])) := same_new nt
          have hpl3 := s4 _ _ hpl2
          refine ⟨pl, _, _, rfl, rfl, hpl3, (by rw [hwl]; exact small6 (by omega)), ?_⟩
          have npt : t ≠ pl := (ne_of_none hpl2 nt).symm
          have t5 : TK H2 (upd (upd H2 t (.tup [ni 5])) pl (.lst (ws ++ [.ref t]))) := (TK.same s4).trans (TK.lst hpl3)
          have s5 : Same H (upd (upd H2 t (.tup [ni 5])) pl (.lst (ws ++ [.ref t]))) := same_upd (s3.trans s4) np
          have hal5 : (upd (upd H2 t (.tup [ni 5])) pl (.lst (ws ++ [.ref t]))) al = some (.lst us.reverse) := by rw [upd_ne npa.symm]; exact s4 _ _ hal2
          have hpl5 : (upd (upd H2 t (.tup [ni 5])) pl (.lst (ws ++ [.ref t]))) pl = some (.lst (ws ++ [.ref t])) := upd_same
          have ht5 : (upd (upd H2 t (.tup [ni 5])) pl (.lst (ws ++ [.ref t]))) t = some (.tup [ni 5]) := by rw [upd_ne npt]; exact upd_same
          generalize upd (upd H2 t (.tup [ni 5])) pl (.lst (ws ++ [.ref t])) = H5 at t5 s5 hal5 hpl5 ht5 ⊢
          refine ⟨_, rfl, .inl ⟨rfl, _, SqL.of hal5⟩, _, rfl, x, _, 2, y2, rfl, rfl, t5.sq hx', atI_nat (j := 2) rfl, al, _, _, rfl, rfl, hal5, (by rw [hul]; exact small6 (by omega)), ?_⟩
          have t6 : TK H5 (upd H5 al (.lst (us.reverse ++ [y2]))) := TK.lst hal5
          refine ⟨_, rfl, .inl ⟨rfl, _, SqL.of upd_same⟩, _, rfl, x, _, 1, y1, rfl, rfl, t6.sq (t5.sq hx'), atI_nat (j := 1) rfl, al, _, _, rfl, rfl, upd_same, (by rw [List.length_append, hul]; exact small6 (by simp; omega)), ?_⟩
          rw [upd_upd]
          have t7 : TK H5 (upd H5 al (.lst (us.reverse ++ [y2] ++ [y1]))) := TK.lst hal5
          refine ⟨stSize (e1 :: e2 :: st), ?_, ps ++ [.bo], e1 :: e2 :: st, ws ++ [.ref t], y1 :: y2 :: us, some (.ref x), rfl, rfl, same_upd s5 na0, by rw [upd_ne npa]; exact hpl5, ?_, ?_, ?_, ?_, ?_⟩
          · rw [stSize_cons, stSize_cons]; omega
          · rw [upd_same, List.reverse_cons, List.reverse_cons]
          · exact AllAt.snoc (PsAt.keep (t5.trans t7) hps2) (PAt.keep t7 .bo (.ref t) ⟨t, rfl, SqT.of ht5⟩)
          · exact .cons (DAt.keep (t5.trans t7) _ _ d1) (.cons (DAt.keep (t5.trans t7) _ _ d2) (DsAt.keep (t5.trans t7) hds2))
          · rw [← hfl]
            simp [List.flatMap_cons, flat, List.append_assoc]
          · rw [stSize_cons, stSize_cons, List.length_append, List.length_singleton]
            omega
        | over => cases c5
        | breach => cases c5
        | must => cases c5
        | mustnt => cases c5
        | may => cases c5
      · have c5 : kindD e ≠ 5 := fun z => c (decide_eq_true (by rw [z]; rfl))
        refine ⟨_, rfl, .inl ⟨rfl, _, SqL.of hpl2⟩, _, rfl, pl, _, _, rfl, rfl, hpl2, (by rw [hwl]; exact small6 (by omega)), ?_⟩
        have t7 : TK H2 (upd H2 pl (.lst (ws ++ [.ref x]))) := TK.lst hpl2
        refine ⟨stSize st, by omega, ps ++ [.whole e], st, ws ++ [.ref x], us, some (.ref x), rfl, rfl, same_upd s3 np, upd_same, by rw [upd_ne npa.symm]; exact hal2, AllAt.snoc (PsAt.keep t7 hps2) (PAt.keep t7 (.whole e) (.ref x) he2), DsAt.keep t7 hds2, ?_, ?_⟩
        · rw [← hfl, List.flatMap_cons, flat_leaf c5, List.append_assoc]
        · rw [List.length_append, List.length_singleton]
          omega
  · have : us = [] := by
      cases us with
      | nil => rfl
      | cons u us => exact absurd (decide_eq_true (by simp)) c
    subst this
    cases hds
    refine ⟨_, rfl, q H1 pl ws sm np hpl ?_⟩
    rw [← hfl]
    simpa using hps
end
end Duty

namespace Duty
open PySem PySem.Spec PyProof.Rows L2 DRul
open Co09 (Deal)
section
variable {P : Program} {w : World} {K : PySem.W.Frag} {mg : Str → Option Value} {base : Heap}
/-! ### numbers_of -/
/-- by kind: C and D are the last two, or there are none -/
theorem dat_two {K : PySem.W.Frag} {H : Hp} (d : Deal) (v : V) (h : DAt K H d v) :
    (∃ x ns, v = .ref x ∧ SqT K H x (nl ns) ∧ ([0, 0, 2, 2, 2, 2] : List Nat).getD (kindD d) 0 = 0 ∧ Co09.toldFrom d = ns ∧ kindD d < 2 ∧ Co09.days d = 0) ∨
    (∃ x ns y z c e, v = .ref x ∧ SqT K H x (nl ns ++ [y, z]) ∧ ns ≠ [] ∧ ns.length ≤ 4 ∧ ns[0]? = some (kindD d) ∧ ([0, 0, 2, 2, 2, 2] : List Nat).getD (kindD d) 0 = 2 ∧ Co09.toldFrom d = ns ++ (Co09.toldFrom c ++ Co09.toldFrom e) ∧ DAt K H c y ∧ DAt K H e z ∧ size c + size e + 1 ≤ size d ∧
      ((kindD d = 5 ∧ Co09.days d = max (Co09.days c) (Co09.days e)) ∨ (2 ≤ kindD d ∧ kindD d ≤ 4 ∧ ∃ k, ns[3]? = some k ∧ Co09.days d = k + 1 + max (Co09.days c) (Co09.days e)))) := by
  cases d with
  | over => obtain ⟨x, rfl, hx⟩ := h; exact .inl ⟨x, [0], rfl, hx, rfl, rfl, by decide, rfl⟩
  | breach p => obtain ⟨x, rfl, hx⟩ := h; exact .inl ⟨x, [1, p], rfl, hx, rfl, rfl, (by decide : 1 < 2), rfl⟩
  | must p a k c e =>
    obtain ⟨x, y, z, rfl, hx, q1, q2⟩ := h
    exact .inr ⟨x, [2, p, a, k], y, z, c, e, rfl, hx, by simp, by simp, rfl, rfl, by simp [Co09.toldFrom], q1, q2, by rw [show Deal.must p a k c e = du 2 p a k c e from rfl, size_du (by decide) (by decide)]; omega, .inr ⟨(by decide : 2 ≤ 2), (by decide : 2 ≤ 4), k, rfl, rfl⟩⟩
  | mustnt p a k c e =>
    obtain ⟨x, y, z, rfl, hx, q1, q2⟩ := h
    exact .inr ⟨x, [3, p, a, k], y, z, c, e, rfl, hx, by simp, by simp, rfl, rfl, by simp [Co09.toldFrom], q1, q2, by rw [show Deal.mustnt p a k c e = du 3 p a k c e from rfl, size_du (by decide) (by decide)]; omega, .inr ⟨(by decide : 2 ≤ 3), (by decide : 3 ≤ 4), k, rfl, rfl⟩⟩
  | may p a k c e =>
    obtain ⟨x, y, z, rfl, hx, q1, q2⟩ := h
    exact .inr ⟨x, [4, p, a, k], y, z, c, e, rfl, hx, by simp, by simp, rfl, rfl, by simp [Co09.toldFrom], q1, q2, by rw [show Deal.may p a k c e = du 4 p a k c e from rfl, size_du (by decide) (by decide)]; omega, .inr ⟨(by decide : 2 ≤ 4), (by decide : 4 ≤ 4), k, rfl, rfl⟩⟩
  | both c e =>
    obtain ⟨x, y, z, rfl, hx, q1, q2⟩ := h
    exact .inr ⟨x, [5], y, z, c, e, rfl, hx, by simp, by simp, rfl, rfl, by simp [Co09.toldFrom], q1, q2, by rw [size_both]; omega, .inl ⟨rfl, rfl⟩⟩
theorem sIx_m2 (n d : Nat) : HT.sIx n d (some (-2)) = ((-2 : Int) + (n : Int)).toNat := by
  show (if (-2 : Int) < 0 then ((-2 : Int) + (n : Int)).toNat else min (-2 : Int).toNat n) = _
  rw [if_pos (by decide)]
theorem cut_two (xs : List V) (y z : V) : cutV (xs ++ [y, z]) none (some (-2)) = xs := by
  unfold cutV
  rw [HT.sIx_none, show HT.sIx (xs ++ [y, z]).length (xs ++ [y, z]).length (some (-2)) = xs.length by
    rw [sIx_m2, List.length_append]
    simp only [List.length_cons, List.length_nil]
    omega]
  simp
theorem not_whole_two (xs : List V) (y z : V) : ¬ (HT.sIx (xs ++ [y, z]).length 0 none = 0 ∧ HT.sIx (xs ++ [y, z]).length (xs ++ [y, z]).length (some (-2)) = (xs ++ [y, z]).length) := by
  rintro ⟨_, h⟩
  have e : HT.sIx (xs ++ [y, z]).length (xs ++ [y, z]).length (some (-2)) = xs.length := by
    rw [sIx_m2, List.length_append]
    simp only [List.length_cons, List.length_nil]
    omega
  rw [e, List.length_append] at h
  simp only [List.length_cons, List.length_nil] at h
  omega
theorem at_m1 (xs : List V) (y z : V) : atI (xs ++ [y, z]) (-1) = some z := by
  rw [show xs ++ [y, z] = (xs ++ [y]) ++ [z] by simp]
  exact atI_last _ _
theorem at_m2 (xs : List V) (y z : V) : atI (xs ++ [y, z]) (-2) = some y := by
  unfold atI ixN
  rw [if_neg (by decide), if_pos (by simp; omega)]
  show (xs ++ [y, z])[((-2 : Int) + ((xs ++ [y, z]).length : Int)).toNat]? = some y
  rw [show ((-2 : Int) + ((xs ++ [y, z]).length : Int)).toNat = xs.length by
    rw [List.length_append]
    simp only [List.length_cons, List.length_nil]
    omega]
  simp
theorem two_first {xs : List V} {ns : List Nat} {k : Nat} {y z : V} (h : ns[0]? = some k) : (nl ns ++ [y, z])[0]? = some (ni k) := by
  cases ns with
  | nil => cases h
  | cons n r => cases h; rfl
def invNums (K : PySem.W.Frag) (H : Hp) (v : V) (pl al : Addr) (d : Deal) (m : Nat) (σ : L2.St) (H' : Hp) : Prop :=
  ∃ (ns : List Nat) (st : List Deal) (us : List V) (y : Option V), m = stSize st ∧ σ = [some v, some (.ref pl), some (.ref al), y] ∧ Same H H' ∧ H' pl = some (.lst (nl ns)) ∧ H' al = some (.lst us.reverse) ∧ DsAt K H' st us ∧
    ns ++ st.flatMap Co09.toldFrom = Co09.toldFrom d ∧ stSize st ≤ size d
theorem scNums : FnScope ["agreement", "numbers", "ahead", "part"] ["agreement"] (defScope sNums) := ⟨rfl, rfl, rfl, by decide +kernel, rfl, by decide +kernel, by decide +kernel⟩
theorem ok_nums {f : Addr} {fd : FuncData} (F : Fun K "numbers_of" "numbers_of" sNums f fd) (G : Gs K mg) : FnOk P w K mg base CX0 1 f fd ["agreement"] (spNums K) := by
  obtain ⟨aPC, gPC, sPC⟩ := G.pcnt
  refine F.ok scNums (fun vs H Q E h => ?_) (fun cdv A outer s H vs Q E hr h => ?_)
  · obtain ⟨v, d, rfl, _⟩ := h
    rfl
  obtain ⟨v, d, rfl, hd, hsz, q⟩ := h
  refine ⟨_, pss_cons (ps_set (i := 1) scNums.nd rfl (.inl rfl) (pe_lst pa_nil))
    (pss_cons (ps_set (i := 2) scNums.nd rfl (.inl rfl) (pe_lst (pa_cons (pv 0) pa_nil)))
    (pss_cons (ps_while PassesOwn.never (pt_cmpR op_gt (pe_callB call_len_seq rfl G.len PySem.boot_len (pa_cons (pv 2) pa_nil)) pe_int (nomark _))
      (pss_cons (ps_set (i := 3) scNums.nd rfl (.inl rfl) (pe_bm0 PySem.F.plainAttrs_list PySem.F.slot_list_pop PySem.F.type_list_pop mt_pop (pv 2)))
      (pss_one (ps_if (pt_cmpR op_eq (pe_ix ix_tup (pgr gPC) (pe_ix ix_tup (pv 3) pe_int (fun _ _ => rfl)) (fun _ _ => rfl)) pe_int (nomark _))
        (pss_one (ps_expr (pe_bm PySem.F.plainAttrs_list PySem.F.slot_list_extend PySem.F.type_list_extend mt_extT (pv 1) (pa_cons (pv 3) pa_nil))))
        (pss_cons (ps_expr (pe_bm PySem.F.plainAttrs_list PySem.F.slot_list_extend PySem.F.type_list_extend mt_extT (pv 1) (pa_cons (pe_slice sl_tup (pv 3) po_none (po_some (pe_un un_neg pe_int))) pa_nil)))
        (pss_cons (ps_expr (pe_bm PySem.F.plainAttrs_list PySem.F.slot_list_append PySem.F.type_list_append mt_append (pv 2) (pa_cons (pe_ix ix_tup (pv 3) (pe_un un_neg pe_int) (fun _ _ => rfl)) pa_nil)))
        (pss_one (ps_expr (pe_bm PySem.F.plainAttrs_list PySem.F.slot_list_append PySem.F.type_list_append mt_append (pv 2) (pa_cons (pe_ix ix_tup (pv 3) (pe_un un_neg pe_int) (fun _ _ => rfl)) pa_nil))))))))))
    (pss_one (ps_ret (pv 1))))), ?_⟩
  refine ⟨Nat.zero_le _, fun pl np => ?_⟩
  have s1 : Same H (upd H pl (.lst [])) := same_new np
  refine ⟨_, rfl, (by show 1 ≤ sizeLine; decide), fun al na => ?_⟩
  have s2 : Same H (upd (upd H pl (.lst [])) al (.lst [v])) := s1.trans (same_new na)
  have na0 : H al = none := s1.free na
  have npa : pl ≠ al := fun e => by rw [← e, upd_same] at na; cases na
  refine ⟨invNums K H v pl al d, ⟨_, [], [d], [v], none, rfl, rfl, s2, by rw [upd_ne npa]; exact upd_same, upd_same, .cons (DAt.keep (TK.same s2) d v hd) .nil, by simp, by simp [stSize]⟩, fun m σ H1 hW => ?_⟩
  obtain ⟨ns, st, us, y, rfl, rfl, sm, hpl, hal, hds, hfl, hsum⟩ := hW
  have hnl : ns.length ≤ size d := by
    have := congrArg List.length hfl
    rw [List.length_append] at this
    show _ ≤ (Co09.toldFrom d).length
    omega
  refine ⟨_, rfl, al, _, rfl, .inl (SqL.of hal), _, 0, rfl, rfl, _, rfl, ite2 (fun c => ?_) (fun c => ?_)⟩
  · cases hds with
    | nil => exact absurd (of_decide_eq_true c) (by simp)
    | @cons e ve st us he hds =>
      refine ⟨fun σ' H' => ∃ m', m' < stSize (e :: st) ∧ invNums K H v pl al d m' σ' H', fun _ _ q => q, ?_⟩
      rw [List.reverse_cons] at hal
      rw [stSize_cons] at hsum ⊢
      have hep := size_pos e
      have hsl := stSize_len st
      refine ⟨_, rfl, .inl ⟨rfl, _, SqL.of hal⟩, al, _, ve, rfl, rfl, hal, last_snoc _ _, ?_⟩
      rw [drop_snoc]
      have t2 : TK H1 (upd H1 al (.lst us.reverse)) := TK.lst hal
      have s3 : Same H (upd H1 al (.lst us.reverse)) := same_upd sm na0
      have hal2 : (upd H1 al (.lst us.reverse)) al = some (.lst us.reverse) := upd_same
      have hpl2 : (upd H1 al (.lst us.reverse)) pl = some (.lst (nl ns)) := by rw [upd_ne npa]; exact hpl
      generalize upd H1 al (.lst us.reverse) = H2 at t2 s3 hal2 hpl2 ⊢
      have he2 := DAt.keep t2 _ _ he
      have hds2 := DsAt.keep t2 hds
      have hul : us.reverse.length = st.length := by rw [List.length_reverse, hds.len]
      have htl : (Co09.toldFrom e).length = size e := rfl
      rcases dat_two e ve he2 with ⟨x, ms, rfl, hx, hk, htold, hk2, _⟩ | ⟨x, ms, y1, y2, c1, c2, rfl, hx, hne, hm4, hm0, hk, htold, d1, d2, hszs, _⟩
      · obtain ⟨x', xs, ex, hx', h0, hl, h6⟩ := dat_tup e _ he2
        cases ex
        refine ⟨_, rfl, x, xs, 0, _, rfl, rfl, hx', atI_nat (j := 0) h0, aPC, _, (kindD e : Int), _, rfl, rfl, sPC _, nl6 h6 _ rfl, rfl, _, rfl, ite2 (fun _ => ?_) (fun c => absurd (decide_eq_true (by rw [hk]; rfl)) c)⟩
        refine ⟨_, rfl, .inl ⟨rfl, _, SqL.of hpl2⟩, _, rfl, pl, x, _, _, rfl, rfl, hpl2, hx, ?_, ?_⟩
        · rw [nl_len, nl_len, ← htold, htl]
          exact Nat.le_of_lt (small6 (by omega))
        · have t7 : TK H2 (upd H2 pl (.lst (nl ns ++ nl ms))) := TK.lst hpl2
          refine ⟨stSize st, by omega, ns ++ ms, st, us, some (.ref x), rfl, rfl, same_upd s3 np, ?_, by rw [upd_ne npa.symm]; exact hal2, DsAt.keep t7 hds2, ?_, by omega⟩
          · rw [upd_same]
            unfold nl
            rw [List.map_append]
          · rw [← hfl, List.flatMap_cons, htold, List.append_assoc]
      · refine ⟨_, rfl, x, _, 0, _, rfl, rfl, hx, atI_nat (j := 0) (two_first (xs := []) hm0), aPC, _, (kindD e : Int), _, rfl, rfl, sPC _, nl6 (by obtain ⟨_, _, _, _, _, _, h6⟩ := dat_tup e _ he2; exact h6) _ rfl, rfl, _, rfl, ite2 (fun c => ?_) (fun _ => ?_)⟩
        · have := of_decide_eq_true c
          rw [hk] at this
          exact absurd (V.int.inj this) (by decide)
        -- numbers.extend(part[:-2])
        refine ⟨_, rfl, .inl ⟨rfl, _, SqL.of hpl2⟩, _, rfl, 2, rfl, -2, rfl, x, _, rfl, hx, not_whole_two _ _ _, fun t nt => ?_⟩
        rw [cut_two]
        have s4 : Same H2 (upd H2 t (.tup (nl ms))) := same_new nt
        have hpl3 := s4 _ _ hpl2
        refine ⟨pl, t, _, _, rfl, rfl, hpl3, SqT.of upd_same, ?_, ?_⟩
        · rw [nl_len, nl_len]
          exact Nat.le_of_lt (small6 (by omega))
        have t5 : TK H2 (upd (upd H2 t (.tup (nl ms))) pl (.lst (nl ns ++ nl ms))) := (TK.same s4).trans (TK.lst hpl3)
        have s5 : Same H (upd (upd H2 t (.tup (nl ms))) pl (.lst (nl ns ++ nl ms))) := same_upd (s3.trans s4) np
        have hal5 : (upd (upd H2 t (.tup (nl ms))) pl (.lst (nl ns ++ nl ms))) al = some (.lst us.reverse) := by rw [upd_ne npa.symm]; exact s4 _ _ hal2
        have hpl5 : (upd (upd H2 t (.tup (nl ms))) pl (.lst (nl ns ++ nl ms))) pl = some (.lst (nl (ns ++ ms))) := by
          rw [upd_same]
          unfold nl
          rw [List.map_append]
        generalize upd (upd H2 t (.tup (nl ms))) pl (.lst (nl ns ++ nl ms)) = H5 at t5 s5 hal5 hpl5 ⊢
        refine ⟨_, rfl, .inl ⟨rfl, _, SqL.of hal5⟩, _, rfl, 1, rfl, x, _, -1, y2, rfl, rfl, t5.sq hx, at_m1 _ _ _, al, _, _, rfl, rfl, hal5, (by rw [hul]; exact small6 (by omega)), ?_⟩
        have t6 : TK H5 (upd H5 al (.lst (us.reverse ++ [y2]))) := TK.lst hal5
        refine ⟨_, rfl, .inl ⟨rfl, _, SqL.of upd_same⟩, _, rfl, 2, rfl, x, _, -2, y1, rfl, rfl, t6.sq (t5.sq hx), at_m2 _ _ _, al, _, _, rfl, rfl, upd_same, (by rw [List.length_append, hul]; exact small6 (by simp; omega)), ?_⟩
        rw [upd_upd]
        have t7 : TK H5 (upd H5 al (.lst (us.reverse ++ [y2] ++ [y1]))) := TK.lst hal5
        refine ⟨stSize (c1 :: c2 :: st), ?_, ns ++ ms, c1 :: c2 :: st, y1 :: y2 :: us, some (.ref x), rfl, rfl, same_upd s5 na0, by rw [upd_ne npa]; exact hpl5, ?_, ?_, ?_, ?_⟩
        · rw [stSize_cons, stSize_cons]; omega
        · rw [upd_same, List.reverse_cons, List.reverse_cons]
        · exact .cons (DAt.keep (t5.trans t7) _ _ d1) (.cons (DAt.keep (t5.trans t7) _ _ d2) (DsAt.keep (t5.trans t7) hds2))
        · rw [← hfl, List.flatMap_cons, List.flatMap_cons, List.flatMap_cons, htold]
          simp [List.append_assoc]
        · rw [stSize_cons, stSize_cons]
          omega
  · have : us = [] := by
      cases us with
      | nil => rfl
      | cons u us => exact absurd (decide_eq_true (by simp)) c
    subst this
    cases hds
    refine ⟨_, rfl, q H1 pl sm np ?_⟩
    rw [← hfl]
    simpa using hpl
/-! ### is_duty -/
theorem scIsDuty : FnScope ["part"] ["part"] (defScope sIsDuty) := ⟨rfl, rfl, rfl, by decide +kernel, rfl, by decide +kernel, by decide +kernel⟩
theorem ok_isDuty {f : Addr} {fd : FuncData} (F : Fun K "is_duty" "is_duty" sIsDuty f fd) (G : Gs K mg) : FnOk P w K mg base CX0 1 f fd ["part"] (spIsDuty K) := by
  obtain ⟨tM, gM⟩ := G.must
  obtain ⟨tY, gY⟩ := G.may
  refine F.ok scIsDuty (fun vs H Q E h => ?_) (fun cdv A outer s H vs Q E hr h => ?_)
  · obtain ⟨x, xs, k, rfl, _⟩ := h
    rfl
  obtain ⟨x, xs, k, rfl, hx, h0, q⟩ := h
  refine ⟨_, pss_one (ps_ret (pe_chain op_le op_le (pgi gM) (pe_ix ix_tup (pv 0) pe_int (fun _ _ => rfl)) (pgi gY))), ?_⟩
  refine ⟨_, rfl, x, xs, 0, _, rfl, rfl, hx, atI_nat (j := 0) h0, 2, (k : Int), rfl, rfl, _, rfl, ite2 (fun c => ?_) (fun c => ?_)⟩
  · refine ⟨(k : Int), 4, rfl, rfl, ?_⟩
    have c2 : 2 ≤ k := by have := of_decide_eq_true c; omega
    have e : decide ((k : Int) ≤ 4) = (decide (2 ≤ k) && decide (k ≤ 4)) := by
      rw [decide_eq_true c2, Bool.true_and]
      exact decide_eq_decide.mpr (by omega)
    show Q (.bl (decide ((k : Int) ≤ 4))) H
    rw [e]
    exact q
  · have c2 : ¬ 2 ≤ k := fun z => c (decide_eq_true (by omega))
    rw [decide_eq_false c2, Bool.false_and] at q
    exact q
/-! ### is_in_breach -/
theorem scInBreach : FnScope ["agreement", "party"] ["agreement", "party"] (defScope sInBreach) := ⟨rfl, rfl, rfl, by decide +kernel, rfl, by decide +kernel, by decide +kernel⟩
theorem ok_inBreach {f : Addr} {fd : FuncData} (F : Fun K "is_in_breach" "is_in_breach" sInBreach f fd) (G : Gs K mg) (C1 : Cal P w K mg base 1 "taken_apart" ["agreement"] (spApart K)) : FnOk P w K mg base CX0 2 f fd ["agreement", "party"] (spInBreach K) := by
  obtain ⟨f1, fd1, g1, k1, b1, F1⟩ := C1
  obtain ⟨tB, gB⟩ := G.breach
  refine F.ok scInBreach (fun vs H Q E h => ?_) (fun cdv A outer s H vs Q E hr h => ?_)
  · obtain ⟨v, d, p, rfl, _⟩ := h
    rfl
  obtain ⟨v, d, p, rfl, hd, hsz, q⟩ := h
  refine ⟨_, pss_one (ps_ret (pe_cmpR (op_inS hr.units) (pe_tup (pa_cons (pgi gB) (pa_cons (pv 1) pa_nil))) (pe_call F1 hr rfl g1 k1 b1 .nil pass0 (pa_cons (pv 0) pa_nil)) (by rfl))), ?_⟩
  refine ⟨_, rfl, (by show 2 ≤ sizeLine; decide), fun t nt => ?_⟩
  have s1 : Same H (upd H t (.tup [.int 1, ni p])) := same_new nt
  refine ⟨_, rfl, v, d, rfl, DAt.keep (TK.same s1) d v hd, hsz, fun H2 x ws s2 nx hx hps => ?_⟩
  have ht := s2 _ _ (show (upd H t (.tup [.int 1, ni p])) t = some (.tup [.int 1, ni p]) from upd_same)
  refine ⟨.tuple [.int 1, .int p], (flat d).map pdP, .tup (SqT.of ht) (.cons (.int _) (.cons (.int _) .nil)), .lst (SqL.of hx) (dpPs_of hps), by simp [PyData.canLay0, PyData.canLayAll0], pdPs_lay _, by simp [PyData.depth, PyData.depthAll], ?_⟩
  rw [any_breach]
  exact q H2 (s1.trans s2)
/-! ### duties_of -/
abbrev tDutyTest (K : PySem.W.Frag) (i : Nat) : TT := tB (tCall (spIsDuty K) [] E0 (tCons (tVar i) tNil))
theorem dutiesP_snoc (ps : List Piece) (i : Nat) (p : Piece) (h : ps[i]? = some p) : dutiesP (ps.take (i + 1)) = dutiesP (ps.take i) ++ (pieceDuty p).toList := by
  unfold dutiesP
  rw [take_more h, List.filterMap_append]
  cases e : pieceDuty p <;> simp [e]
theorem dutiesP_len (ps : List Piece) : (dutiesP ps).length ≤ ps.length := List.length_filterMap_le _ _
theorem pieceDuty_some {p : Piece} {d : Deal} (h : pieceDuty p = some d) : p = .whole d ∧ isDuty d = true := by
  cases p with
  | hd => cases h
  | bo => cases h
  | whole e =>
    have h' : (if isDuty e = true then some e else none) = some d := h
    by_cases q : isDuty e = true
    · rw [if_pos q] at h'
      cases h'
      exact ⟨rfl, q⟩
    · rw [if_neg q] at h'
      cases h'
theorem scDuties : FnScope ["agreement", "part"] ["agreement"] (defScope sDuties) := ⟨rfl, rfl, rfl, by decide +kernel, rfl, by decide +kernel, by decide +kernel⟩
theorem ok_duties {f : Addr} {fd : FuncData} (F : Fun K "duties_of" "duties_of" sDuties f fd) (C1 : Cal P w K mg base 1 "taken_apart" ["agreement"] (spApart K)) (C2 : Cal P w K mg base 1 "is_duty" ["part"] (spIsDuty K)) :
    FnOk P w K mg base CX0 2 f fd ["agreement"] (spDuties K) := by
  obtain ⟨f1, fd1, g1, k1, b1, F1⟩ := C1
  obtain ⟨f2, fd2, g2, k2, b2, F2⟩ := C2
  refine F.ok scDuties (fun vs H Q E h => ?_) (fun cdv A outer s H vs Q E hr h => ?_)
  · obtain ⟨v, d, rfl, _⟩ := h
    rfl
  obtain ⟨v, d, rfl, hd, hsz, q⟩ := h
  refine ⟨_, pss_one (ps_ret (pe_lc (own := [("part", 1)]) (g := gName 1) (tt := tDutyTest K 1) (te := tVar 1) rfl scDuties.nd (pi_list (pe_call F1 hr rfl g1 k1 b1 .nil pass0 (pa_cons (pv 0) pa_nil)))
      (blkOk_by (N := ["agreement", "part"]) (sc := defScope sDuties) (by decide +kernel))
      (fun _ _ _ _ _ => pg_name (i := 1) scDuties.nd rfl (.inl rfl))
      (fun _ _ _ _ _ => pts_one (pt_val (pe_call F2 hr rfl g2 k2 b2 .nil pass0 (pa_cons (pv 1) pa_nil))))
      (fun _ _ _ _ _ => pv 1))), ?_⟩
  refine ⟨_, rfl, v, d, rfl, hd, hsz, fun H1 x ws s1 nx hx hps => ?_⟩
  have hfl := flat_len d
  refine ⟨x, rfl, ⟨_, SqL.of hx⟩, fun D nD => lc_list (K := K) (a := x) (xs := ws)
    (fun i H' => Same H1 H' ∧ ∃ us, H' D = some (.lst us) ∧ DsAt K H' (dutiesP ((flat d).take i)) us) ⟨same_new nD, [], upd_same, .nil⟩ (fun i H' _ g => SqL.of (g.1 _ _ hx)) ?_ ?_⟩
  · rintro i u H2 hu ⟨s2, us, hD, hus⟩
    obtain ⟨p, hp, hpat⟩ := hps.get hu
    have hpat := PAt.keep (TK.same s2) p u hpat
    obtain ⟨y, ys, rfl, hy, h0, hl, h6⟩ := pat_tup p u hpat
    have hok : okP p = true := flat_ok d p (List.mem_of_getElem? hp)
    have hul : us.length ≤ 10000 := by
      rw [hus.len]
      refine Nat.le_trans (dutiesP_len _) ?_
      rw [List.length_take]
      omega
    refine ⟨rfl, _, rfl, y, ys, kindP p, rfl, hy, h0, _, rfl, ?_⟩
    rw [kind_duty hok]
    cases e : pieceDuty p with
    | none =>
      refine ⟨s2, us, hD, ?_⟩
      rw [dutiesP_snoc _ _ _ hp, e]
      simpa using hus
    | some d0 =>
      obtain ⟨rfl, _⟩ := pieceDuty_some e
      have t3 : TK H2 (upd H2 D (.lst (us ++ [.ref y]))) := TK.lst hD
      refine ⟨_, rfl, us, hD, small6 (by omega), same_upd s2 nD, us ++ [.ref y], upd_same, ?_⟩
      rw [dutiesP_snoc _ _ _ hp, e]
      exact AllAt.snoc (DsAt.keep t3 hus) (DAt.keep t3 d0 (.ref y) hpat)
  · rintro H2 ⟨s2, us, hD, hus⟩
    rw [hps.len, List.take_length] at hus
    exact q H2 D us (s1.trans s2) (s1.free nD) hD hus
/-! ### is_settled -/
theorem scSettled : FnScope ["agreement"] ["agreement"] (defScope sSettled) := ⟨rfl, rfl, rfl, by decide +kernel, rfl, by decide +kernel, by decide +kernel⟩
theorem ok_settled {f : Addr} {fd : FuncData} (F : Fun K "is_settled" "is_settled" sSettled f fd) (G : Gs K mg) (C1 : Cal P w K mg base 2 "duties_of" ["agreement"] (spDuties K)) : FnOk P w K mg base CX0 3 f fd ["agreement"] (spSettled K) := by
  obtain ⟨f1, fd1, g1, k1, b1, F1⟩ := C1
  refine F.ok scSettled (fun vs H Q E h => ?_) (fun cdv A outer s H vs Q E hr h => ?_)
  · obtain ⟨v, d, rfl, _⟩ := h
    rfl
  obtain ⟨v, d, rfl, hd, hsz, q⟩ := h
  refine ⟨_, pss_one (ps_ret (pe_cmpR op_eq (pe_callB call_len_seq rfl G.len PySem.boot_len (pa_cons (pe_call F1 hr rfl g1 k1 b1 .nil pass0 (pa_cons (pv 0) pa_nil)) pa_nil)) pe_int (nomark _))), ?_⟩
  refine ⟨_, rfl, v, d, rfl, hd, hsz, fun H1 x ws s1 nx hx hds => ⟨x, ws, rfl, .inl (SqL.of hx), rfl, ?_⟩⟩
  have e : decide (V.int (ws.length : Int) = V.int 0) = Co09.settled d := by
    rw [settled_duties, ← dutiesP_flat]
    generalize dutiesP (flat d) = ds at hds ⊢
    cases hds with
    | nil => rfl
    | cons r t =>
      refine decide_eq_false fun z => ?_
      have := V.int.inj z
      rw [List.length_cons] at this
      omega
  have g : Q (.bl (decide (V.int (ws.length : Int) = V.int 0))) H1 := by
    rw [e]
    exact q H1 s1
  exact g
end
end Duty

namespace Duty
open PySem PySem.Spec PyProof.Rows L2 DRul
open Co09 (Deal)
/-! ### promises -/
def spLong (K : PySem.W.Frag) : Sp := fun vs H Q _ => ∃ (v : V) (d : Deal), vs = [v] ∧ DAt K H d v ∧ size d ≤ 10000 ∧ ∀ H', Same H H' → Q (ni (Co09.days d)) H'
def spDoes : Sp := fun vs H Q _ => ∃ c a : Nat, vs = [ni c, ni a] ∧ Q (.bl (bit c a)) H
def spPieceAfter (K : PySem.W.Frag) : Sp := fun vs H Q _ => ∃ (v : V) (ch : Addr) (p : Piece) (x y : Nat), vs = [v, .ref ch] ∧ PAt K H p v ∧ okP p = true ∧ (∀ d, p = .whole d → wf d) ∧ SqT K H ch [ni x, ni y] ∧
  ∀ H' v', Same H H' → PAt K H' (after (acts 0 x y) p) v' → Q v' H'
def spAfterDay (K : PySem.W.Frag) : Sp := fun vs H Q _ => ∃ (v : V) (ch : Addr) (d : Deal) (x y : Nat), vs = [v, .ref ch] ∧ DAt K H d v ∧ wf d ∧ size d ≤ 10000 ∧ SqT K H ch [ni x, ni y] ∧
  ∀ H' v', Same H H' → DAt K H' (Co09.step (acts 0 x y) d) v' → Q v' H'
/-! ### how_long -/
def EAt (K : PySem.W.Frag) (H : Hp) : Deal × Nat → V → Prop := fun e v => ∃ t u, v = .ref t ∧ SqT K H t [u, ni e.2] ∧ DAt K H e.1 u
theorem EAt.keep {K : PySem.W.Frag} {H H' : Hp} (t : TK H H') : ∀ (e : Deal × Nat) (v : V), EAt K H e v → EAt K H' e v := fun e v ⟨a, u, ev, h1, h2⟩ => ⟨a, u, ev, t.sq h1, DAt.keep t _ _ h2⟩
def lg : List (Deal × Nat) → Nat
  | [] => 0
  | e :: r => max (e.2 + Co09.days e.1) (lg r)
def esSize (es : List (Deal × Nat)) : Nat := (es.map fun e => size e.1).sum
theorem esSize_cons (e : Deal × Nat) (es : List (Deal × Nat)) : esSize (e :: es) = size e.1 + esSize es := rfl
theorem esSize_len : ∀ es, es.length ≤ esSize es
  | [] => Nat.le_refl _
  | e :: es => by
    have := esSize_len es
    have := size_pos e.1
    rw [esSize_cons, List.length_cons]
    omega
theorem days_size : ∀ d, wf d → Co09.days d ≤ 10 * size d := by
  refine cases3 ?_ ?_ ?_ ?_
  · intro _; decide
  · intro p _; show 0 ≤ _; omega
  · intro w p a k c d h1 h2 hc hd h
    have h' := (wf_du h1 h2).mp h
    have := hc h'.2.1
    have := hd h'.2.2
    rw [days_du h1 h2, size_du h1 h2]
    omega
  · intro c d hc hd h
    have := hc h.1
    have := hd h.2
    rw [size_both]
    show max (Co09.days c) (Co09.days d) ≤ _
    omega
def invLong (K : PySem.W.Frag) (H : Hp) (v : V) (al : Addr) (d : Deal) (m : Nat) (σ : L2.St) (H' : Hp) : Prop :=
  ∃ (lo : Nat) (es : List (Deal × Nat)) (us : List V) (y1 y2 y3 : Option V), m = esSize es ∧ σ = [some v, some (ni lo), some (.ref al), y1, y2, y3] ∧ Same H H' ∧ H' al = some (.lst us.reverse) ∧ AllAt (EAt K H') es us ∧ max lo (lg es) = Co09.days d ∧ esSize es ≤ size d
theorem max_int (a b : Nat) : (if (b : Int) > (a : Int) then (b : Int) else (a : Int)) = ((max a b : Nat) : Int) := by
  by_cases h : (b : Int) > (a : Int)
  · rw [if_pos h]; omega
  · rw [if_neg h]; omega
section
variable {P : Program} {w : World} {K : PySem.W.Frag} {mg : Str → Option Value} {base : Heap}
theorem scLong : FnScope ["agreement", "longest", "ahead", "entry", "part", "days"] ["agreement"] (defScope sLong) := ⟨rfl, rfl, rfl, by decide +kernel, rfl, by decide +kernel, by decide +kernel⟩
theorem ok_long {f : Addr} {fd : FuncData} (F : Fun K "how_long" "how_long" sLong f fd) (G : Gs K mg) (C1 : Cal P w K mg base 1 "is_duty" ["part"] (spIsDuty K)) : FnOk P w K mg base CX0 2 f fd ["agreement"] (spLong K) := by
  obtain ⟨f1, fd1, g1, k1, b1, F1⟩ := C1
  obtain ⟨aPC, gPC, sPC⟩ := G.pcnt
  obtain ⟨tD, gD⟩ := G.days
  refine F.ok scLong (fun vs H Q E h => ?_) (fun cdv A outer s H vs Q E hr h => ?_)
  · obtain ⟨v, d, rfl, _⟩ := h
    rfl
  obtain ⟨v, d, rfl, hd, hsz, q⟩ := h
  refine ⟨_, pss_cons (ps_set (i := 1) scLong.nd rfl (.inl rfl) pe_int)
    (pss_cons (ps_set (i := 2) scLong.nd rfl (.inl rfl) (pe_lst (pa_cons (pe_tup (pa_cons (pv 0) (pa_cons pe_int pa_nil))) pa_nil)))
    (pss_cons (ps_while PassesOwn.never (pt_cmpR op_gt (pe_callB call_len_seq rfl G.len PySem.boot_len (pa_cons (pv 2) pa_nil)) pe_int (nomark _))
      (pss_cons (ps_set (i := 3) scLong.nd rfl (.inl rfl) (pe_bm0 PySem.F.plainAttrs_list PySem.F.slot_list_pop PySem.F.type_list_pop mt_pop (pv 2)))
      (pss_cons (ps_set (i := 4) scLong.nd rfl (.inl rfl) (pe_ix ix_tup (pv 3) pe_int (fun _ _ => rfl)))
      (pss_cons (ps_set (i := 5) scLong.nd rfl (.inl rfl) (pe_ix ix_tup (pv 3) pe_int (fun _ _ => rfl)))
      (pss_cons (ps_if (pt_val (pe_call F1 hr rfl g1 k1 b1 .nil pass0 (pa_cons (pv 4) pa_nil))) (pss_one (ps_aug (i := 5) scLong.nd rfl (.inl rfl) (pe_op op_add (pe_ix ix_tup (pv 4) (pgi gD) (fun _ _ => rfl)) pe_int) ip_add)) pss_nil)
      (pss_cons (ps_set (i := 1) scLong.nd rfl (.inl rfl) (pe_callB (call_max2 rfl) rfl G.max (by decide +kernel) (pa_cons (pv 1) (pa_cons (pv 5) pa_nil))))
      (pss_one (ps_if (pt_cmpR op_gt (pe_ix ix_tup (pgr gPC) (pe_ix ix_tup (pv 4) pe_int (fun _ _ => rfl)) (fun _ _ => rfl)) pe_int (nomark _))
        (pss_cons (ps_expr (pe_bm PySem.F.plainAttrs_list PySem.F.slot_list_append PySem.F.type_list_append mt_append (pv 2) (pa_cons (pe_tup (pa_cons (pe_ix ix_tup (pv 4) (pe_un un_neg pe_int) (fun _ _ => rfl)) (pa_cons (pv 5) pa_nil))) pa_nil)))
        (pss_one (ps_expr (pe_bm PySem.F.plainAttrs_list PySem.F.slot_list_append PySem.F.type_list_append mt_append (pv 2) (pa_cons (pe_tup (pa_cons (pe_ix ix_tup (pv 4) (pe_un un_neg pe_int) (fun _ _ => rfl)) (pa_cons (pv 5) pa_nil))) pa_nil))))) pss_nil))))))))
    (pss_one (ps_ret (pv 1))))), ?_⟩
  refine ⟨_, rfl, (by show 2 ≤ sizeLine; decide), fun t0 n0 => ⟨(by show 1 ≤ sizeLine; decide), fun al na => ?_⟩⟩
  have s1 : Same H (upd H t0 (.tup [v, .int 0])) := same_new n0
  have s2 : Same H (upd (upd H t0 (.tup [v, .int 0])) al (.lst [.ref t0])) := s1.trans (same_new na)
  have na0 : H al = none := s1.free na
  have ht0 : (upd (upd H t0 (.tup [v, .int 0])) al (.lst [.ref t0])) t0 = some (.tup [v, ni 0]) := by
    rw [upd_ne (ne_of_none upd_same na)]
    exact upd_same
  refine ⟨invLong K H v al d, ⟨_, 0, [(d, 0)], [.ref t0], none, none, none, rfl, rfl, s2, upd_same, .cons ⟨t0, v, rfl, SqT.of ht0, DAt.keep (TK.same s2) d v hd⟩ .nil, by simp [lg], by simp [esSize]⟩, fun m σ H1 hW => ?_⟩
  obtain ⟨lo, es, us, y1, y2, y3, rfl, rfl, sm, hal, hes, hlg, hsum⟩ := hW
  refine ⟨_, rfl, al, _, rfl, .inl (SqL.of hal), _, 0, rfl, rfl, _, rfl, ite2 (fun c => ?_) (fun c => ?_)⟩
  · cases hes with
    | nil => exact absurd (of_decide_eq_true c) (by simp)
    | @cons e ve es us he hes =>
      refine ⟨fun σ' H' => ∃ m', m' < esSize (e :: es) ∧ invLong K H v al d m' σ' H', fun _ _ q => q, ?_⟩
      obtain ⟨e, n⟩ := e
      rw [List.reverse_cons] at hal
      rw [esSize_cons] at hsum ⊢
      have hep := size_pos e
      have hsl := esSize_len es
      refine ⟨_, rfl, .inl ⟨rfl, _, SqL.of hal⟩, al, _, ve, rfl, rfl, hal, last_snoc _ _, ?_⟩
      rw [drop_snoc]
      have t2 : TK H1 (upd H1 al (.lst us.reverse)) := TK.lst hal
      have s3 : Same H (upd H1 al (.lst us.reverse)) := same_upd sm na0
      have hal2 : (upd H1 al (.lst us.reverse)) al = some (.lst us.reverse) := upd_same
      generalize upd H1 al (.lst us.reverse) = H2 at t2 s3 hal2 ⊢
      obtain ⟨te, u, rfl, hte, hu⟩ := EAt.keep t2 _ _ he
      have hes2 : AllAt (EAt K H2) es us := hes.mono fun e v => EAt.keep t2 e v
      have hul : us.reverse.length = es.length := by rw [List.length_reverse, hes.len]
      have hu' : DAt K H2 e u := hu
      have hte' : SqT K H2 te [u, ni n] := hte
      -- part = entry[0]; days = entry[1]
      refine ⟨_, rfl, te, _, 0, u, rfl, rfl, hte', atI_nat (j := 0) rfl, ?_⟩
      refine ⟨_, rfl, te, _, 1, ni n, rfl, rfl, hte', atI_nat (j := 1) rfl, ?_⟩
      obtain ⟨x0, xs0, ex0, hx0, h00, hl0, h60⟩ := dat_tup e u hu'
      subst ex0
      refine ⟨_, rfl, x0, xs0, kindD e, rfl, hx0, h00, _, rfl, ?_⟩
      rcases dat_two e (.ref x0) hu' with ⟨x, ms, ex, hx, hk, htold, hk2, hdays⟩ | ⟨x, ms, w1, w2, c1, c2, ex, hx, hne, hm4, hm0, hk, htold, d1, d2, hszs, hdays⟩
      · -- over, breach
        cases ex
        have hnd : (decide (2 ≤ kindD e) && decide (kindD e ≤ 4)) = false := by
          rw [decide_eq_false (by omega), Bool.false_and]
        rw [hnd]
        refine iteF ?_
        refine ⟨_, rfl, _, rfl, (lo : Int), (n : Int), rfl, ?_⟩
        rw [max_int]
        refine ⟨_, rfl, x0, xs0, 0, _, rfl, rfl, hx0, atI_nat (j := 0) h00, aPC, _, (kindD e : Int), _, rfl, rfl, sPC _, nl6 h60 _ rfl, (([0, 0, 2, 2, 2, 2] : List Nat).getD (kindD e) 0 : Nat), 0, rfl, rfl, _, rfl, ite2 (fun c => ?_) (fun _ => ?_)⟩
        · have := of_decide_eq_true c
          rw [hk] at this
          exact absurd this (by decide)
        refine ⟨esSize es, by show _ < size e + _; omega, max lo n, es, us, some (.ref te), some (.ref x0), some (ni n), rfl, rfl, s3, hal2, hes2, ?_, by show _; omega⟩
        rw [← hlg]
        show _ = max lo (max (n + Co09.days e) (lg es))
        rw [hdays]
        omega
      · cases ex
        rcases hdays with ⟨h5, hdays⟩ | ⟨hk2, hk4, k, hmk, hdays⟩
        · have hnd : (decide (2 ≤ kindD e) && decide (kindD e ≤ 4)) = false := by
            rw [decide_eq_false (p := kindD e ≤ 4) (by omega), Bool.and_false]
          rw [hnd]
          refine iteF ?_
          refine ⟨_, rfl, _, rfl, (lo : Int), (n : Int), rfl, ?_⟩
          rw [max_int]
          refine ⟨_, rfl, x0, _, 0, _, rfl, rfl, hx, atI_nat (j := 0) (two_first (xs := []) hm0), aPC, _, (kindD e : Int), _, rfl, rfl, sPC _, nl6 h60 _ rfl, (([0, 0, 2, 2, 2, 2] : List Nat).getD (kindD e) 0 : Nat), 0, rfl, rfl, _, rfl, ite2 (fun _ => ?_) (fun c => absurd (decide_eq_true (by rw [hk]; decide)) c)⟩
          refine ⟨_, rfl, .inl ⟨rfl, _, SqL.of hal2⟩, _, rfl, 1, rfl, x0, _, -1, w2, rfl, rfl, hx, at_m1 _ _ _, _, rfl, (by show 2 ≤ sizeLine; decide), fun t1 nt1 => ?_⟩
          have s4 : Same H2 (upd H2 t1 (.tup [w2, (ni n)])) := same_new nt1
          have hal4 := s4 _ _ hal2
          refine ⟨al, _, _, rfl, rfl, hal4, (by rw [hul]; exact small6 (by omega)), ?_⟩
          have t5 : TK H2 (upd (upd H2 t1 (.tup [w2, (ni n)])) al (.lst (us.reverse ++ [.ref t1]))) := (TK.same s4).trans (TK.lst hal4)
          have s5 : Same H (upd (upd H2 t1 (.tup [w2, (ni n)])) al (.lst (us.reverse ++ [.ref t1]))) := same_upd (s3.trans s4) na0
          have hal5 : (upd (upd H2 t1 (.tup [w2, (ni n)])) al (.lst (us.reverse ++ [.ref t1]))) al = some (.lst (us.reverse ++ [.ref t1])) := upd_same
          have ht1 : (upd (upd H2 t1 (.tup [w2, (ni n)])) al (.lst (us.reverse ++ [.ref t1]))) t1 = some (.tup [w2, (ni n)]) := by
            rw [upd_ne (ne_of_none hal2 nt1).symm]
            exact upd_same
          generalize upd (upd H2 t1 (.tup [w2, (ni n)])) al (.lst (us.reverse ++ [.ref t1])) = H5 at t5 s5 hal5 ht1 ⊢
          refine ⟨_, rfl, .inl ⟨rfl, _, SqL.of hal5⟩, _, rfl, 2, rfl, x0, _, -2, w1, rfl, rfl, t5.sq hx, at_m2 _ _ _, _, rfl, (by show 2 ≤ sizeLine; decide), fun t2' nt2 => ?_⟩
          have s6 : Same H5 (upd H5 t2' (.tup [w1, (ni n)])) := same_new nt2
          have hal6 := s6 _ _ hal5
          refine ⟨al, _, _, rfl, rfl, hal6, (by rw [List.length_append, hul]; exact small6 (by simp; omega)), ?_⟩
          have t7 : TK H5 (upd (upd H5 t2' (.tup [w1, (ni n)])) al (.lst (us.reverse ++ [.ref t1] ++ [.ref t2']))) := (TK.same s6).trans (TK.lst hal6)
          have ht2 : (upd (upd H5 t2' (.tup [w1, (ni n)])) al (.lst (us.reverse ++ [.ref t1] ++ [.ref t2']))) t2' = some (.tup [w1, (ni n)]) := by
            rw [upd_ne (ne_of_none hal5 nt2).symm]
            exact upd_same
          have t57 := t5.trans t7
          refine ⟨esSize ((c1, n) :: (c2, n) :: es), ?_, max lo n, (c1, n) :: (c2, n) :: es, .ref t2' :: .ref t1 :: us, some (.ref te), some (.ref x0), some (ni n), rfl, rfl, same_upd (s5.trans s6) na0, ?_, ?_, ?_, ?_⟩
          · show size c1 + (size c2 + esSize es) < size e + esSize es
            omega
          · rw [upd_same, List.reverse_cons, List.reverse_cons]
          · exact .cons ⟨t2', w1, rfl, SqT.of ht2, DAt.keep t57 _ _ d1⟩ (.cons ⟨t1, w2, rfl, t7.sq (SqT.of ht1), DAt.keep t57 _ _ d2⟩ (hes2.mono fun e v => EAt.keep t57 e v))
          · rw [← hlg]
            show max (max lo n) (max (n + Co09.days c1) (max (n + Co09.days c2) (lg es))) = max lo (max (n + Co09.days e) (lg es))
            omega
          · show size c1 + (size c2 + esSize es) ≤ size d
            have : size e + esSize es ≤ size d := hsum
            omega
        · have hnd : (decide (2 ≤ kindD e) && decide (kindD e ≤ 4)) = true := by
            rw [decide_eq_true hk2, decide_eq_true hk4]
            rfl
          rw [hnd]
          have hm3 : atI (nl ms ++ [w1, w2]) 3 = some (ni k) := by
            refine atI_nat (j := 3) ?_
            have h3 := (List.getElem?_eq_some_iff.mp hmk).1
            rw [List.getElem?_append_left (by rw [nl_len]; exact h3)]
            exact nl_get hmk
          refine iteT ?_
          refine ⟨_, rfl, _, rfl, x0, _, 3, _, rfl, rfl, hx, hm3, (k : Int), 1, rfl, rfl, (n : Int), _, rfl, rfl, ?_⟩
          have eN : (ni (n + (k + 1))) = .int ((n : Int) + ((k : Int) + 1)) := by
            show V.int ((n + (k + 1) : Nat) : Int) = _
            rw [show ((n + (k + 1) : Nat) : Int) = (n : Int) + ((k : Int) + 1) by omega]
          refine ⟨_, rfl, _, rfl, (lo : Int), ((n : Int) + ((k : Int) + 1)), rfl, ?_⟩
          rw [show (n : Int) + ((k : Int) + 1) = ((n + (k + 1) : Nat) : Int) by omega, max_int]
          refine ⟨_, rfl, x0, _, 0, _, rfl, rfl, hx, atI_nat (j := 0) (two_first (xs := []) hm0), aPC, _, (kindD e : Int), _, rfl, rfl, sPC _, nl6 h60 _ rfl, (([0, 0, 2, 2, 2, 2] : List Nat).getD (kindD e) 0 : Nat), 0, rfl, rfl, _, rfl, ite2 (fun _ => ?_) (fun c => absurd (decide_eq_true (by rw [hk]; decide)) c)⟩
          refine ⟨_, rfl, .inl ⟨rfl, _, SqL.of hal2⟩, _, rfl, 1, rfl, x0, _, -1, w2, rfl, rfl, hx, at_m1 _ _ _, _, rfl, (by show 2 ≤ sizeLine; decide), fun t1 nt1 => ?_⟩
          have s4 : Same H2 (upd H2 t1 (.tup [w2, (.int ((n : Int) + ((k : Int) + 1)))])) := same_new nt1
          have hal4 := s4 _ _ hal2
          refine ⟨al, _, _, rfl, rfl, hal4, (by rw [hul]; exact small6 (by omega)), ?_⟩
          have t5 : TK H2 (upd (upd H2 t1 (.tup [w2, (.int ((n : Int) + ((k : Int) + 1)))])) al (.lst (us.reverse ++ [.ref t1]))) := (TK.same s4).trans (TK.lst hal4)
          have s5 : Same H (upd (upd H2 t1 (.tup [w2, (.int ((n : Int) + ((k : Int) + 1)))])) al (.lst (us.reverse ++ [.ref t1]))) := same_upd (s3.trans s4) na0
          have hal5 : (upd (upd H2 t1 (.tup [w2, (.int ((n : Int) + ((k : Int) + 1)))])) al (.lst (us.reverse ++ [.ref t1]))) al = some (.lst (us.reverse ++ [.ref t1])) := upd_same
          have ht1 : (upd (upd H2 t1 (.tup [w2, (.int ((n : Int) + ((k : Int) + 1)))])) al (.lst (us.reverse ++ [.ref t1]))) t1 = some (.tup [w2, (.int ((n : Int) + ((k : Int) + 1)))]) := by
            rw [upd_ne (ne_of_none hal2 nt1).symm]
            exact upd_same
          generalize upd (upd H2 t1 (.tup [w2, (.int ((n : Int) + ((k : Int) + 1)))])) al (.lst (us.reverse ++ [.ref t1])) = H5 at t5 s5 hal5 ht1 ⊢
          refine ⟨_, rfl, .inl ⟨rfl, _, SqL.of hal5⟩, _, rfl, 2, rfl, x0, _, -2, w1, rfl, rfl, t5.sq hx, at_m2 _ _ _, _, rfl, (by show 2 ≤ sizeLine; decide), fun t2' nt2 => ?_⟩
          have s6 : Same H5 (upd H5 t2' (.tup [w1, (.int ((n : Int) + ((k : Int) + 1)))])) := same_new nt2
          have hal6 := s6 _ _ hal5
          refine ⟨al, _, _, rfl, rfl, hal6, (by rw [List.length_append, hul]; exact small6 (by simp; omega)), ?_⟩
          have t7 : TK H5 (upd (upd H5 t2' (.tup [w1, (.int ((n : Int) + ((k : Int) + 1)))])) al (.lst (us.reverse ++ [.ref t1] ++ [.ref t2']))) := (TK.same s6).trans (TK.lst hal6)
          have ht2 : (upd (upd H5 t2' (.tup [w1, (.int ((n : Int) + ((k : Int) + 1)))])) al (.lst (us.reverse ++ [.ref t1] ++ [.ref t2']))) t2' = some (.tup [w1, (.int ((n : Int) + ((k : Int) + 1)))]) := by
            rw [upd_ne (ne_of_none hal5 nt2).symm]
            exact upd_same
          have t57 := t5.trans t7
          refine ⟨esSize ((c1, (n + (k + 1))) :: (c2, (n + (k + 1))) :: es), ?_, max lo (n + (k + 1)), (c1, (n + (k + 1))) :: (c2, (n + (k + 1))) :: es, .ref t2' :: .ref t1 :: us, some (.ref te), some (.ref x0), some (.int ((n : Int) + ((k : Int) + 1))), rfl, rfl, same_upd (s5.trans s6) na0, ?_, ?_, ?_, ?_⟩
          · show size c1 + (size c2 + esSize es) < size e + esSize es
            omega
          · rw [upd_same, List.reverse_cons, List.reverse_cons]
          · exact .cons ⟨t2', w1, rfl, SqT.of ht2, DAt.keep t57 _ _ d1⟩ (.cons ⟨t1, w2, rfl, t7.sq (SqT.of ht1), DAt.keep t57 _ _ d2⟩ (hes2.mono fun e v => EAt.keep t57 e v))
          · rw [← hlg]
            show max (max lo (n + (k + 1))) (max ((n + (k + 1)) + Co09.days c1) (max ((n + (k + 1)) + Co09.days c2) (lg es))) = max lo (max (n + Co09.days e) (lg es))
            omega
          · show size c1 + (size c2 + esSize es) ≤ size d
            have : size e + esSize es ≤ size d := hsum
            omega
  · have : us = [] := by
      cases us with
      | nil => rfl
      | cons u us => exact absurd (decide_eq_true (by simp)) c
    subst this
    cases hes
    have e : lo = Co09.days d := by
      rw [← hlg]
      show lo = max lo 0
      omega
    subst e
    exact ⟨_, rfl, q H1 sm⟩
end
end Duty

namespace Duty
open PySem PySem.Spec PyProof.Rows L2 DRul
open Co09 (Deal)
section
variable {P : Program} {w : World} {K : PySem.W.Frag} {mg : Str → Option Value} {base : Heap}
/-! ### does -/
theorem scDoes : FnScope ["choice", "act"] ["choice", "act"] (defScope sDoes) := ⟨rfl, rfl, rfl, by decide +kernel, rfl, by decide +kernel, by decide +kernel⟩
theorem ok_does {f : Addr} {fd : FuncData} (F : Fun K "does" "does" sDoes f fd) : FnOk P w K mg base CX0 1 f fd ["choice", "act"] spDoes := by
  refine F.ok scDoes (fun vs H Q E h => ?_) (fun cdv A outer s H vs Q E hr h => ?_)
  · obtain ⟨c, a, rfl, _⟩ := h
    rfl
  obtain ⟨c, a, rfl, q⟩ := h
  refine ⟨_, pss_one (ps_ret (pe_cmpR op_eq (pe_op op_odd (pe_op op_shrN (pv 0) (pv 1)) pe_int) pe_int (nomark _))), ?_⟩
  have e1 : (c : Int) / 2 ^ a = ((c / 2 ^ a : Nat) : Int) := by
    rw [Int.natCast_ediv, Int.natCast_pow]
    rfl
  refine ⟨_, rfl, _, rfl, (c : Int), a, rfl, rfl, c / 2 ^ a, congrArg V.int e1, rfl, rfl, ?_⟩
  have e2 : decide (V.int ((c / 2 ^ a % 2 : Nat) : Int) = V.int 1) = bit c a := by
    unfold bit
    rcases (show c / 2 ^ a % 2 = 0 ∨ c / 2 ^ a % 2 = 1 by omega) with z | z <;> rw [z] <;> rfl
  have g : Q (.bl (decide (V.int ((c / 2 ^ a % 2 : Nat) : Int) = V.int 1))) H := by
    rw [e2]
    exact q
  exact g
/-! ### piece_after -/
theorem scPieceAfter : FnScope ["piece", "choices"] ["piece", "choices"] (defScope sPieceAfter) := ⟨rfl, rfl, rfl, by decide +kernel, rfl, by decide +kernel, by decide +kernel⟩
theorem bit_acts {x y p a : Nat} (hp : p < 2) (ha : a < 2) : bit ([x, y].getD p 0) a = (acts 0 x y).contains (p, a) := by
  rw [acts_has x y a (by decide) hp ha]
  rcases (show p = 0 ∨ p = 1 by omega) with rfl | rfl <;> rfl
theorem okP_after (l : Co09.Acts) {p : Piece} (h : okP p = true) (hd : pieceDuty p = none) : after l p = p := by
  cases p with
  | bo => rfl
  | hd => rfl
  | whole d =>
    cases d with
    | over => rfl
    | breach => rfl
    | both => cases h
    | must => cases hd
    | mustnt => cases hd
    | may => cases hd
theorem ok_pieceAfter {f : Addr} {fd : FuncData} (F : Fun K "piece_after" "piece_after" sPieceAfter f fd) (G : Gs K mg) (C1 : Cal P w K mg base 1 "is_duty" ["part"] (spIsDuty K)) (C2 : Cal P w K mg base 1 "does" ["choice", "act"] spDoes) :
    FnOk P w K mg base CX0 2 f fd ["piece", "choices"] (spPieceAfter K) := by
  obtain ⟨f1, fd1, g1, k1, b1, F1⟩ := C1
  obtain ⟨f2, fd2, g2, k2, b2, F2⟩ := C2
  obtain ⟨tW, gW⟩ := G.who
  obtain ⟨tA, gA⟩ := G.act
  obtain ⟨tD, gD⟩ := G.days
  obtain ⟨tO, gO⟩ := G.done
  obtain ⟨tU, gU⟩ := G.undone
  refine F.ok scPieceAfter (fun vs H Q E h => ?_) (fun cdv A outer s H vs Q E hr h => ?_)
  · obtain ⟨v, ch, p, x, y, rfl, _⟩ := h
    rfl
  obtain ⟨v, ch, p, x, y, rfl, hp, hok, hwf, hch, q⟩ := h
  refine ⟨_, pss_cons (ps_if (pt_not (pt_val (pe_call F1 hr rfl g1 k1 b1 .nil pass0 (pa_cons (pv 0) pa_nil)))) (pss_one (ps_ret (pv 0))) pss_nil)
    (pss_cons (ps_if (pt_val (pe_call F2 hr rfl g2 k2 b2 .nil pass0 (pa_cons (pe_ix ix_tup (pv 1) (pe_ix ix_tup (pv 0) (pgi gW) (fun _ _ => rfl)) (fun _ _ => rfl)) (pa_cons (pe_ix ix_tup (pv 0) (pgi gA) (fun _ _ => rfl)) pa_nil)))) (pss_one (ps_ret (pe_ix ix_tup (pv 0) (pgi gO) (fun _ _ => rfl)))) pss_nil)
    (pss_cons (ps_if (pt_cmpR op_eq (pe_ix ix_tup (pv 0) (pgi gD) (fun _ _ => rfl)) pe_int (nomark _)) (pss_one (ps_ret (pe_ix ix_tup (pv 0) (pgi gU) (fun _ _ => rfl)))) pss_nil)
    (pss_one (ps_ret (pe_op op_catT (pe_op op_catT (pe_slice sl_tup (pv 0) po_none (po_some (pgi gD))) (pe_tup (pa_cons (pe_op op_sub (pe_ix ix_tup (pv 0) (pgi gD) (fun _ _ => rfl)) pe_int) pa_nil))) (pe_slice sl_tup (pv 0) (po_some (pgi gO)) po_none)))))), ?_⟩
  obtain ⟨x0, xs0, rfl, hx0, h00, hl0, h60⟩ := pat_tup p v hp
  refine ⟨_, rfl, x0, xs0, kindP p, rfl, hx0, h00, _, rfl, ?_⟩
  rw [kind_duty hok]
  cases e : pieceDuty p with
  | none => exact iteT ⟨_, rfl, q H _ (Same.refl H) (by rw [okP_after _ hok e]; exact hp)⟩
  | some d =>
    obtain ⟨rfl, hdu⟩ := pieceDuty_some e
    obtain ⟨w, p, a, k, c, e', h1, h2, rfl⟩ := isDuty_get hdu
    obtain ⟨x1, y1, z1, ex, hx, q1, q2⟩ := (dat_du h1 h2).mp hp
    cases ex
    have hw := ((wf_du h1 h2).mp (hwf _ rfl)).1
    have hsel : atI [ni x, ni y] (p : Int) = some (ni ([x, y].getD p 0)) := by
      rcases (show p = 0 ∨ p = 1 by omega) with rfl | rfl <;> rfl
    have hstep : Co09.step (acts 0 x y) (du w p a k c e') = _ := step_du (acts 0 x y) h1 h2
    refine iteF ?_
    refine ⟨_, rfl, _, rfl, x0, _, 1, _, rfl, rfl, hx, atI_nat (j := 1) rfl, ch, _, (p : Int), _, rfl, rfl, hch, hsel, _, rfl, x0, _, 2, _, rfl, rfl, hx, atI_nat (j := 2) rfl, [x, y].getD p 0, a, rfl, _, rfl, ?_⟩
    rw [bit_acts (by omega) (by omega)]
    refine ite2 (fun c1 => ?_) (fun c1 => ?_)
    · refine ⟨_, rfl, x0, _, 4, y1, rfl, rfl, hx, atI_nat (j := 4) rfl, q H y1 (Same.refl H) ?_⟩
      show DAt K H (Co09.step (acts 0 x y) (du w p a k c e')) y1
      rw [hstep, if_pos c1]
      exact q1
    refine ⟨_, rfl, x0, _, 3, _, rfl, rfl, hx, atI_nat (j := 3) rfl, rfl, _, rfl, ite2 (fun c2 => ?_) (fun c2 => ?_)⟩
    · have k0 : k = 0 := by
        have := V.int.inj (of_decide_eq_true c2)
        omega
      refine ⟨_, rfl, x0, _, 5, z1, rfl, rfl, hx, atI_nat (j := 5) rfl, q H z1 (Same.refl H) ?_⟩
      show DAt K H (Co09.step (acts 0 x y) (du w p a k c e')) z1
      rw [hstep, if_neg c1, if_pos k0]
      exact q2
    have k0 : ¬ k = 0 := fun z => c2 (decide_eq_true (by rw [z]; rfl))
    -- piece[:DAYS] + (piece[DAYS] - 1,) + piece[DONE:]
    refine ⟨_, rfl, 3, rfl, x0, _, rfl, hx, (by rintro ⟨_, z⟩; exact absurd (show (3 : Nat) = 6 from z) (by decide)), fun t1 n1 => ?_⟩
    rw [show cutV [ni w, ni p, ni a, ni k, y1, z1] none (some 3) = [ni w, ni p, ni a] from rfl]
    have s1 : Same H (upd H t1 (.tup [ni w, ni p, ni a])) := same_new n1
    have ht1 : (upd H t1 (.tup [ni w, ni p, ni a])) t1 = some (.tup [ni w, ni p, ni a]) := upd_same
    generalize upd H t1 (.tup [ni w, ni p, ni a]) = H1 at s1 ht1 ⊢
    have tk1 := TK.same s1
    refine ⟨_, rfl, x0, _, 3, _, rfl, rfl, tk1.sq hx, atI_nat (j := 3) rfl, (k : Int), 1, rfl, rfl, (by show 1 ≤ sizeLine; decide), fun t2 n2 => ?_⟩
    have s2 : Same H1 (upd H1 t2 (.tup [.int ((k : Int) - 1)])) := same_new n2
    have ht2 : (upd H1 t2 (.tup [.int ((k : Int) - 1)])) t2 = some (.tup [.int ((k : Int) - 1)]) := upd_same
    show rCatT K _ _ (upd H1 t2 (.tup [.int ((k : Int) - 1)])) _
    generalize upd H1 t2 (.tup [.int ((k : Int) - 1)]) = H2 at s2 ht2 ⊢
    refine ⟨t1, t2, _, _, rfl, rfl, SqT.of (s2 _ _ ht1), SqT.of ht2, (by intro z; cases z), (by show 4 ≤ sizeLine; decide), (fun z => by cases z), fun _ t3 n3 => ?_⟩
    have s3 : Same H2 (upd H2 t3 (.tup ([ni w, ni p, ni a] ++ [.int ((k : Int) - 1)]))) := same_new n3
    have ht3 : (upd H2 t3 (.tup ([ni w, ni p, ni a] ++ [.int ((k : Int) - 1)]))) t3 = some (.tup [ni w, ni p, ni a, .int ((k : Int) - 1)]) := upd_same
    generalize upd H2 t3 (.tup ([ni w, ni p, ni a] ++ [.int ((k : Int) - 1)])) = H3 at s3 ht3 ⊢
    have s03 := (s1.trans s2).trans s3
    refine ⟨_, rfl, 4, rfl, x0, _, rfl, (TK.same s03).sq hx, (by rintro ⟨z, _⟩; exact absurd (show (4 : Nat) = 0 from z) (by decide)), fun t4 n4 => ?_⟩
    rw [show cutV [ni w, ni p, ni a, ni k, y1, z1] (some 4) none = [y1, z1] from rfl]
    have s4 : Same H3 (upd H3 t4 (.tup [y1, z1])) := same_new n4
    have ht4 : (upd H3 t4 (.tup [y1, z1])) t4 = some (.tup [y1, z1]) := upd_same
    generalize upd H3 t4 (.tup [y1, z1]) = H4 at s4 ht4 ⊢
    refine ⟨t3, t4, _, _, rfl, rfl, SqT.of (s4 _ _ ht3), SqT.of ht4, (by intro z; cases z), (by show 6 ≤ sizeLine; decide), (fun z => by cases z), fun _ t5 n5 => ?_⟩
    have s5 : Same H4 (upd H4 t5 (.tup ([ni w, ni p, ni a, .int ((k : Int) - 1)] ++ [y1, z1]))) := same_new n5
    have s05 := (s03.trans s4).trans s5
    refine q _ _ s05 ?_
    show DAt K _ (Co09.step (acts 0 x y) (du w p a k c e')) _
    rw [hstep, if_neg c1, if_neg k0]
    refine (dat_du h1 h2).mpr ⟨t5, y1, z1, rfl, ?_, DAt.keep (TK.same s05) _ _ q1, DAt.keep (TK.same s05) _ _ q2⟩
    have ek : ni (k - 1) = .int ((k : Int) - 1) := congrArg V.int (by omega)
    rw [ek]
    exact SqT.of upd_same
/-! ### after_day -/
theorem scAfterDay : FnScope ["agreement", "choices", "piece"] ["agreement", "choices"] (defScope sAfterDay) := ⟨rfl, rfl, rfl, by decide +kernel, rfl, by decide +kernel, by decide +kernel⟩
theorem flat_wf : ∀ d, wf d → ∀ x, .whole x ∈ flat d → wf x := by
  refine cases3 ?_ ?_ ?_ ?_
  · intro _ x h; rw [flat_over, List.mem_singleton] at h; cases h; trivial
  · intro q hq x h; rw [flat_breach, List.mem_singleton] at h; cases h; exact hq
  · intro w q a k c d h1 h2 _ _ hw x h
    rw [flat_du h1 h2, List.mem_singleton] at h
    cases h
    exact hw
  · intro c d hc hd hw x h
    rw [flat, List.mem_cons, List.mem_append] at h
    rcases h with h | h | h
    · cases h
    · exact hc hw.1 x h
    · exact hd hw.2 x h
theorem ok_afterDay {f : Addr} {fd : FuncData} (F : Fun K "after_day" "after_day" sAfterDay f fd) (C1 : Cal P w K mg base 2 "put_together" ["pieces"] (spPut K)) (C2 : Cal P w K mg base 1 "taken_apart" ["agreement"] (spApart K)) (C3 : Cal P w K mg base 2 "piece_after" ["piece", "choices"] (spPieceAfter K)) :
    FnOk P w K mg base CX0 3 f fd ["agreement", "choices"] (spAfterDay K) := by
  obtain ⟨f1, fd1, g1, k1, b1, F1⟩ := C1
  obtain ⟨f2, fd2, g2, k2, b2, F2⟩ := C2
  obtain ⟨f3, fd3, g3, k3, b3, F3⟩ := C3
  refine F.ok scAfterDay (fun vs H Q E h => ?_) (fun cdv A outer s H vs Q E hr h => ?_)
  · obtain ⟨v, ch, d, x, y, rfl, _⟩ := h
    rfl
  obtain ⟨v, ch, d, x, y, rfl, hd, hwf, hsz, hch, q⟩ := h
  have hr1 : Room 1 _ := hr.mono (by decide)
  refine ⟨_, pss_one (ps_ret (pe_call F1 hr rfl g1 k1 b1 .nil pass0 (pa_cons (pe_lc (own := [("piece", 2)]) (g := gName 2) (tt := tYes) (te := tCall (spPieceAfter K) [] E0 (tCons (tVar 2) (tCons (tVar 1) tNil))) rfl scAfterDay.nd
      (pi_list (pe_call F2 hr1 rfl g2 k2 b2 .nil pass0 (pa_cons (pv 0) pa_nil)))
      (blkOk_by (N := ["agreement", "choices", "piece"]) (sc := defScope sAfterDay) (by decide +kernel))
      (fun _ _ _ _ _ => pg_name (i := 2) scAfterDay.nd rfl (.inl rfl))
      (fun _ _ _ _ _ => pts_nil)
      (fun _ _ _ _ _ => pe_call F3 hr rfl g3 k3 b3 .nil pass0 (pa_cons (pv 2) (pa_cons (pv 1) pa_nil)))) pa_nil))), ?_⟩
  refine ⟨_, rfl, v, d, rfl, hd, hsz, fun H1 l ws s1 nl0 hl hps => ?_⟩
  have hfl := flat_len d
  refine ⟨l, rfl, ⟨_, SqL.of hl⟩, fun D nD => lc_list (K := K) (a := l) (xs := ws)
    (fun i H' => Same H1 H' ∧ ∃ us, H' D = some (.lst us) ∧ PsAt K H' (((flat d).take i).map (after (acts 0 x y))) us) ⟨same_new nD, [], upd_same, .nil⟩ (fun i H' _ g => SqL.of (g.1 _ _ hl)) ?_ ?_⟩
  · rintro i u H2 hu ⟨s2, us, hD, hus⟩
    obtain ⟨p, hp, hpat⟩ := hps.get hu
    have hpat := PAt.keep (TK.same s2) p u hpat
    have hm := List.mem_of_getElem? hp
    have hul : us.length ≤ 10000 := by
      rw [hus.len, List.length_map, List.length_take]
      omega
    refine ⟨rfl, ?_⟩
    refine ⟨_, rfl, _, rfl, u, ch, p, x, y, rfl, hpat, flat_ok d p hm, fun e he => flat_wf d hwf e (by rw [← he]; exact hm), (TK.same (s1.trans s2)).sq hch, fun H3 v3 s3 h3 => ?_⟩
    have hD3 := s3 _ _ hD
    have t4 : TK H3 (upd H3 D (.lst (us ++ [v3]))) := TK.lst hD3
    refine ⟨us, hD3, small6 (by omega), same_upd (s2.trans s3) nD, us ++ [v3], upd_same, ?_⟩
    rw [take_more hp, List.map_append]
    exact AllAt.snoc (PsAt.keep ((TK.same s3).trans t4) hus) (PAt.keep t4 _ _ h3)
  · rintro H2 ⟨s2, us, hD, hus⟩
    rw [hps.len, List.take_length] at hus
    refine ⟨D, us, _, Co09.step (acts 0 x y) d, rfl, SqL.of hD, hus, ?_, put_after _ d [], fun H3 v3 s3 h3 => q H3 v3 ((s1.trans s2).trans s3) h3⟩
    rw [hus.len, List.length_map]
    omega
end
end Duty

namespace Duty
open PySem PySem.Spec PyProof.Rows L2 DRul
open Co09 (Deal)
abbrev sJoined : Stmt := top 37
abbrev sOwn : Stmt := top 38
abbrev sOthers : Stmt := top 39
abbrev sPartsAfter : Stmt := top 40
abbrev sByDuties : Stmt := top 41
abbrev sBreaches : Stmt := top 42
abbrev sWhatever : Stmt := top 43
abbrev sBest : Stmt := top 44
abbrev sKeeping : Stmt := top 45
structure Gk (K : PySem.W.Frag) (mg : Str → Option Value) : Prop where
  longest : GI mg "LONGEST" 5
  runs : GT K mg "RUNS" (nl [1, 4, 16, 64, 256, 1024])
  choices : GT K mg "CHOICES" (nl [0, 1, 2, 3])
  whoact : ∃ a t0 t1 t2 t3, mg "WHO_AND_ACT" = some (.ref a) ∧ ∀ H, SqT K H a [.ref t0, .ref t1, .ref t2, .ref t3] ∧ SqT K H t0 [ni 0, ni 0] ∧ SqT K H t1 [ni 0, ni 1] ∧ SqT K H t2 [ni 1, ni 0] ∧ SqT K H t3 [ni 1, ni 1]
  every : GT K mg "EVERY_ACT" [ni 3, ni 3]
  noact : GT K mg "NO_ACT" [ni 0, ni 0]
  zip : mg "zip" = none
  range : mg "range" = none
/-! ### bits of numbers that are not negative -/
def rOrN : R2 := fun x y H Q => ∃ n m : Nat, x = ni n ∧ y = ni m ∧ Q (ni (n ||| m)) H
def rAndN : R2 := fun x y H Q => ∃ n m : Nat, x = ni n ∧ y = ni m ∧ Q (ni (n &&& m)) H
def rShrN : R2 := fun x y H Q => ∃ n m : Nat, x = ni n ∧ y = ni m ∧ Q (ni (n >>> m)) H
def rShlN : R2 := fun x y H Q => ∃ n m : Nat, x = ni n ∧ y = ni m ∧ n < 2 ^ 2000 ∧ m ≤ 2000 ∧ Q (ni (n <<< m)) H
def rMulN : R2 := fun x y H Q => ∃ n m : Nat, x = ni n ∧ y = ni m ∧ n ≤ 2000 ∧ Q (ni (n * m)) H
section
variable {X : Cx}
theorem op_orN : OpR X (binaryOp .BitOr) rOrN := fun pins s σ H x y v u Q I rx ry ⟨n, m, e1, e2, q⟩ =>
  op_or pins s σ H x y v u Q I rx ry ⟨n, m, e1, e2, by
    have e : Builtin.bitOr (n : Int) (m : Int) = ((n ||| m : Nat) : Int) := bitOr_nn (Int.natCast_nonneg _) (Int.natCast_nonneg _)
    show Q (.int (Builtin.bitOr (n : Int) (m : Int))) H
    rw [e]
    exact q⟩
theorem iop_orN : PIp X .BitOr rOrN := fun pins s σ H x y v u Q I rx ry ⟨n, m, e1, e2, q⟩ =>
  iop_or pins s σ H x y v u Q I rx ry ⟨n, m, e1, e2, by
    have e : Builtin.bitOr (n : Int) (m : Int) = ((n ||| m : Nat) : Int) := bitOr_nn (Int.natCast_nonneg _) (Int.natCast_nonneg _)
    show Q (.int (Builtin.bitOr (n : Int) (m : Int))) H
    rw [e]
    exact q⟩
theorem bitAnd_nat (n m : Nat) : Builtin.bitAnd (n : Int) (m : Int) = ((n &&& m : Nat) : Int) := by
  unfold Builtin.bitAnd
  rw [decide_eq_true (Int.natCast_nonneg n), decide_eq_true (Int.natCast_nonneg m)]
  rfl
theorem op_andN : OpR X (binaryOp .BitAnd) rAndN := fun pins s σ H x y v u Q I rx ry ⟨n, m, e1, e2, q⟩ =>
  op_and pins s σ H x y v u Q I rx ry ⟨n, m, e1, e2, by
    show Q (.int (Builtin.bitAnd (n : Int) (m : Int))) H
    rw [bitAnd_nat]
    exact q⟩
theorem op_shrNN : OpR X (binaryOp .RShift) rShrN := fun pins s σ H x y v u Q I rx ry ⟨n, m, e1, e2, q⟩ =>
  op_shrN pins s σ H x y v u Q I rx ry ⟨n, m, e1, e2, by
    have e : (n : Int) / 2 ^ m = ((n >>> m : Nat) : Int) := by
      rw [Nat.shiftRight_eq_div_pow, Int.natCast_ediv, Int.natCast_pow]
      rfl
    show Q (.int ((n : Int) / 2 ^ m)) H
    rw [e]
    exact q⟩
theorem op_shlNN : OpR X (binaryOp .LShift) rShlN := fun pins s σ H x y v u Q I rx ry ⟨n, m, e1, e2, hn, hm, q⟩ =>
  op_shlN pins s σ H x y v u Q I rx ry ⟨n, m, e1, e2, shl_ok (n := 2000) (by simpa using hn) (by omega), by
    have e : (n : Int) * 2 ^ m = ((n <<< m : Nat) : Int) := by
      rw [Nat.shiftLeft_eq, Int.natCast_mul, Int.natCast_pow]
      rfl
    show Q (.int ((n : Int) * 2 ^ m)) H
    rw [e]
    exact q⟩
theorem op_mulNN : OpR X (binaryOp .Mult) rMulN := fun pins s σ H x y v u Q I rx ry ⟨n, m, e1, e2, hn, q⟩ =>
  op_mul pins s σ H x y v u Q I rx ry ⟨n, m, e1, e2, .inl ⟨by omega, by omega⟩, by
    show Q (.int ((n : Int) * (m : Int))) H
    rw [← Int.natCast_mul]
    exact q⟩
end
abbrev rLenS (K : PySem.W.Frag) : List V → Hp → VK → Prop := fun xs H Q => ∃ p ys, xs = [V.ref p] ∧ (SqL K H p ys ∨ SqT K H p ys) ∧ Q (.int ys.length) H
/-! ### promises -/
def spJoined (K : PySem.W.Frag) : Sp := fun vs H Q _ => ∃ (l : Addr) (w a b c d : Nat), vs = [.ref l, ni w] ∧ SqL K H l (nl [a, b, c, d]) ∧ w ≤ 256 ∧ a < 2 ^ w ∧ b < 2 ^ w ∧ c < 2 ^ w ∧ d < 2 ^ w ∧ ∀ H', Same H H' → Q (ni (join4 w a b c d)) H'
def spOwn (K : PySem.W.Frag) (tab : Nat → Nat → List Nat → List Nat → List Nat) : Sp := fun vs H Q _ => ∃ (a n : Nat) (l1 l2 : Addr) (t u : List Nat), vs = [ni a, .ref l1, .ref l2] ∧ SqL K H l1 (nl t) ∧ SqL K H l2 (nl u) ∧ n ≤ 4 ∧ t.length = 4 ^ n ∧ u.length = 4 ^ n ∧
  (∀ x ∈ t, x < 2 ^ 4 ^ n) ∧ (∀ x ∈ u, x < 2 ^ 4 ^ n) ∧ ∀ H' x, Same H H' → H x = none → H' x = some (.lst (nl (tab a (4 ^ n) t u))) → Q (.ref x) H'
def spPartsAfter (K : PySem.W.Frag) : Sp := fun vs H Q _ => ∃ (l ch : Addr) (ws : List V) (ds : List Deal) (x y : Nat), vs = [.ref l, .ref ch] ∧ SqL K H l ws ∧ DsAt K H ds ws ∧ (∀ d ∈ ds, isDuty d = true ∧ wf d) ∧ stSize ds ≤ 10000 ∧ SqT K H ch [ni x, ni y] ∧
  ∀ H' p us, Same H H' → H p = none → H' p = some (.lst us) → PsAt K H' (ds.flatMap fun d => flat (Co09.step (acts 0 x y) d)) us → Q (.ref p) H'
theorem pow4_le {n : Nat} (h : n ≤ 4) : 4 ^ n ≤ 256 := by
  have : n = 0 ∨ n = 1 ∨ n = 2 ∨ n = 3 ∨ n = 4 := by omega
  rcases this with rfl | rfl | rfl | rfl | rfl <;> decide
section
variable {P : Program} {w : World} {K : PySem.W.Frag} {mg : Str → Option Value} {base : Heap}
/-! ### joined -/
def jn (w : Nat) (rows : List Nat) : Nat → Nat
  | 0 => 0
  | i + 1 => jn w rows i ||| rows.getD i 0 <<< (i * w)
theorem scJoined : FnScope ["rows", "width", "row", "choice", "behind"] ["rows", "width"] (defScope sJoined) := ⟨rfl, rfl, rfl, by decide +kernel, rfl, by decide +kernel, by decide +kernel⟩
theorem ok_joined {f : Addr} {fd : FuncData} (F : Fun K "joined" "joined" sJoined f fd) (G : Gk K mg) : FnOk P w K mg base CX0 1 f fd ["rows", "width"] (spJoined K) := by
  obtain ⟨aC, gC, sC⟩ := G.choices
  refine F.ok scJoined (fun vs H Q E h => ?_) (fun cdv A outer s H vs Q E hr h => ?_)
  · obtain ⟨l, w, a, b, c, d, rfl, _⟩ := h
    rfl
  obtain ⟨l, w, a, b, c, d, rfl, hS, hw, ha, hb, hc, hd, q⟩ := h
  refine ⟨_, pss_cons (ps_set (i := 2) scJoined.nd rfl (.inl rfl) pe_int)
    (pss_cons (ps_for PassesOwn.never rfl (pi_zipM rfl G.zip (pa_cons (pgr gC) (pa_cons (pv 0) pa_nil))) (pg_tup rfl (pgs_cons (pg_name (i := 3) scJoined.nd rfl (.inl rfl)) (pgs_cons (pg_name (i := 4) scJoined.nd rfl (.inl rfl)) pgs_nil)))
      (pss_one (ps_aug (i := 2) scJoined.nd rfl (.inl rfl) (pe_op op_shlNN (pv 4) (pe_op op_mulNN (pv 3) (pv 1))) iop_orN)))
    (pss_one (ps_ret (pv 2)))), ?_⟩
  refine ⟨_, rfl, aC, l, _, _, rfl, sC _, hS, for_it (walk_zipM (n := 4) (xs := nl [0, 1, 2, 3]) (ys := nl [a, b, c, d]) rfl rfl)
    (fun i σ H' => ∃ y3 y4, σ = [some (.ref l), some (ni w), some (ni (jn w [a, b, c, d] i)), y3, y4] ∧ Same H H') ⟨none, none, rfl, Same.refl H⟩ (fun i σ H' _ ⟨_, _, _, sm⟩ => ⟨sC _, sm.seq hS⟩) ?_ ?_⟩
  · rintro i v σ H1 H2 hi ⟨y3, y4, rfl, sm⟩ ⟨T, x, y, rfl, nT, rfl, hx, hy⟩
    obtain ⟨xn, hxn, rfl⟩ := nl_inv (show (nl [0, 1, 2, 3])[i]? = some x from hx)
    obtain ⟨yn, hyn, rfl⟩ := nl_inv (show (nl [a, b, c, d])[i]? = some y from hy)
    have exi : xn = i := by
      have : i = 0 ∨ i = 1 ∨ i = 2 ∨ i = 3 := by omega
      rcases this with rfl | rfl | rfl | rfl <;> (cases hxn; rfl)
    subst exi
    have hyw : yn < 2 ^ w := by
      have : xn = 0 ∨ xn = 1 ∨ xn = 2 ∨ xn = 3 := by omega
      rcases this with rfl | rfl | rfl | rfl <;> (cases hyn; assumption)
    have hyl : yn < 2 ^ 2000 := Nat.lt_of_lt_of_le hyw (Nat.pow_le_pow_right (by decide) (by omega))
    have hmw : xn * w ≤ 2000 := by
      have := Nat.mul_le_mul (show xn ≤ 3 by omega) hw
      omega
    refine ⟨T, _, rfl, SqT.of upd_same, rfl, _, _, rfl, _, _, rfl, rfl, _, rfl, _, rfl, _, rfl, _, rfl, xn, w, rfl, rfl, by omega, yn, xn * w, rfl, rfl, hyl, hmw, jn w [a, b, c, d] xn, yn <<< (xn * w), rfl, rfl, some (ni xn), some (ni yn), ?_, sm.trans (same_new nT)⟩
    have eg : ([a, b, c, d] : List Nat).getD xn 0 = yn := by
      rw [List.getD_eq_getElem?_getD, hyn]; rfl
    show _ = [_, _, some (ni (jn w [a, b, c, d] xn ||| ([a, b, c, d] : List Nat).getD xn 0 <<< (xn * w))), _, _]
    rw [eg]
    rfl
  · rintro σ H1 ⟨y3, y4, rfl, sm⟩
    exact ⟨_, rfl, q H1 sm⟩
/-! ### by_own_act -/
theorem four_rep (l : List Nat) : (List.replicate 4 (nl l)).flatten = nl (four l l l l) := by
  show nl l ++ (nl l ++ (nl l ++ (nl l ++ []))) = nl (l ++ (l ++ (l ++ l)))
  unfold nl
  simp
theorem scOwn : FnScope ["act", "done", "undone", "rows", "row_done", "row_undone", "behind", "choice"] ["act", "done", "undone"] (defScope sOwn) := ⟨rfl, rfl, rfl, by decide +kernel, rfl, by decide +kernel, by decide +kernel⟩
abbrev tDoes (i j : Nat) : TT := tB (tCall spDoes [] E0 (tCons (tVar i) (tCons (tVar j) tNil)))
theorem ok_own {f : Addr} {fd : FuncData} (F : Fun K "by_own_act" "by_own_act" sOwn f fd) (G0 : Gs K mg) (G : Gk K mg) (C1 : Cal P w K mg base 1 "does" ["choice", "act"] spDoes) (C2 : Cal P w K mg base 1 "joined" ["rows", "width"] (spJoined K)) :
    FnOk P w K mg base CX0 2 f fd ["act", "done", "undone"] (spOwn K ownTab) := by
  obtain ⟨f1, fd1, g1, k1, b1, F1⟩ := C1
  obtain ⟨f2, fd2, g2, k2, b2, F2⟩ := C2
  obtain ⟨aC, gC, sC⟩ := G.choices
  refine F.ok scOwn (fun vs H Q E h => ?_) (fun cdv A outer s H vs Q E hr h => ?_)
  · obtain ⟨a, n, l1, l2, t, u, rfl, _⟩ := h
    rfl
  obtain ⟨a, n, l1, l2, t, u, rfl, h1, h2, hn, ht, hu, ht2, hu2, q⟩ := h
  refine ⟨_, pss_cons (ps_set (i := 3) scOwn.nd rfl (.inl rfl) (pe_lst pa_nil))
    (pss_cons (ps_for PassesOwn.never rfl (pi_zip rfl G.zip (pa_cons (pv 1) (pa_cons (pv 2) pa_nil))) (pg_tup rfl (pgs_cons (pg_name (i := 4) scOwn.nd rfl (.inr rfl)) (pgs_cons (pg_name (i := 5) scOwn.nd rfl (.inr rfl)) pgs_nil)))
      (pss_cons (ps_setLc (i := 6) (own := [("choice", 7)]) (g := gName 7) (tt := tYes) (te := tIf (tDoes 7 0) (tVar 4) (tVar 5)) rfl scOwn.nd rfl rfl (sw_true rfl rfl rfl (by decide +kernel)) (pi_tup (pgr gC))
        (blkOk_by (N := ["act", "done", "undone", "rows", "row_done", "row_undone", "behind", "choice"]) (sc := defScope sOwn) (by decide +kernel))
        (fun _ _ _ _ _ => pg_name (i := 7) scOwn.nd rfl (.inl rfl)) (fun _ _ _ _ _ => pts_nil)
        (fun _ _ _ _ _ => pe_ifExp (pt_val (pe_call F1 hr rfl g1 k1 b1 .nil pass0 (pa_cons (pv 7) (pa_cons (pv 0) pa_nil)))) (pv 4) (pv 5)))
      (pss_one (ps_expr (pe_bm PySem.F.plainAttrs_list PySem.F.slot_list_append PySem.F.type_list_append mt_append (pv 3) (pa_cons (pe_call F2 hr rfl g2 k2 b2 .nil pass0 (pa_cons (pv 6) (pa_cons (pe_callB call_len_seq rfl G0.len PySem.boot_len (pa_cons (pv 1) pa_nil)) pa_nil))) pa_nil))))))
    (pss_one (ps_ret (pe_op op_rep (pv 3) (pe_callB call_len_seq rfl G0.len PySem.boot_len (pa_cons (pgr gC) pa_nil)))))), ?_⟩
  have hw := pow4_le hn
  have hrl : (ownRows a (4 ^ n) t u).length = 4 ^ n := by
    unfold ownRows
    rw [List.length_map, List.length_zip, ht, hu, Nat.min_self]
  refine ⟨Nat.zero_le _, fun r nr => ?_⟩
  have s1 : Same H (upd H r (.lst [])) := same_new nr
  refine ⟨_, rfl, _, rfl, l1, l2, _, _, rfl, s1.seq h1, s1.seq h2, for_it (walk_zip (n := 4 ^ n) (xs := nl t) (ys := nl u) (by rw [nl_len, nl_len, ht, hu, Nat.min_self]))
    (fun i σ H' => ∃ y4 y5 y6 y7, σ = [some (ni a), some (.ref l1), some (.ref l2), some (.ref r), y4, y5, y6, y7] ∧ Same H H' ∧ H' r = some (.lst (nl ((ownRows a (4 ^ n) t u).take i)))) ⟨none, none, none, none, rfl, s1, upd_same⟩
    (fun i σ H' _ ⟨_, _, _, _, _, sm, _⟩ => ⟨sm.seq h1, sm.seq h2⟩) ?_ ?_⟩
  · rintro i v σ H1 H2 hi ⟨y4, y5, y6, y7, rfl, sm, hr1⟩ ⟨T, x, y, rfl, nT, rfl, hx, hy⟩
    obtain ⟨xn, hxn, rfl⟩ := nl_inv (show (nl t)[i]? = some x from hx)
    obtain ⟨yn, hyn, rfl⟩ := nl_inv (show (nl u)[i]? = some y from hy)
    have hxw := ht2 xn (List.mem_of_getElem? hxn)
    have hyw := hu2 yn (List.mem_of_getElem? hyn)
    have s2 : Same H1 (upd H1 T (.tup [ni xn, ni yn])) := same_new nT
    have hT : (upd H1 T (.tup [ni xn, ni yn])) T = some (.tup [ni xn, ni yn]) := upd_same
    have hr2 := s2 _ _ hr1
    have sm2 := sm.trans s2
    refine ⟨T, _, rfl, SqT.of hT, rfl, _, _, rfl, _, _, rfl, rfl, ?_⟩
    generalize upd H1 T (.tup [ni xn, ni yn]) = H2 at s2 hT hr2 sm2 ⊢
    refine ⟨aC, rfl, ⟨_, sC _⟩, fun D nD => lc_tup (K := K) (a := aC) (xs := nl [0, 1, 2, 3])
      (fun j H' => Same H2 H' ∧ H' D = some (.lst (nl (([0, 1, 2, 3] : List Nat).take j |>.map (pick a (xn, yn)))))) ⟨same_new nD, upd_same⟩ (fun j H' _ _ => sC _) ?_ ?_⟩
    · rintro j z H3 hz ⟨s3, hD⟩
      obtain ⟨zn, hzn, rfl⟩ := nl_inv hz
      refine ⟨rfl, ?_⟩
      have hlen : (nl (([0, 1, 2, 3] : List Nat).take j |>.map (pick a (xn, yn)))).length ≤ 4 := by
        rw [nl_len, List.length_map, List.length_take]
        show min j 4 ≤ 4
        omega
      have fin : ∀ g : Nat, g = pick a (xn, yn) zn → ∃ acc, H3 D = some (.lst acc) ∧ acc.length < sizeLine ∧ Same H2 (upd H3 D (.lst (acc ++ [ni g]))) ∧ (upd H3 D (.lst (acc ++ [ni g]))) D = some (.lst (nl (([0, 1, 2, 3] : List Nat).take (j + 1) |>.map (pick a (xn, yn))))) := fun g eg => by
        refine ⟨_, hD, small6 (by omega), same_upd s3 nD, ?_⟩
        rw [upd_same, take_more hzn, List.map_append, eg]
        unfold nl
        rw [List.map_append]
        rfl
      refine ⟨_, rfl, _, rfl, zn, a, rfl, _, rfl, ite2 (fun c => ?_) (fun c => ?_)⟩
      · exact ⟨_, rfl, fin xn (by unfold pick; rw [if_pos c])⟩
      · exact ⟨_, rfl, fin yn (by unfold pick; rw [if_neg c])⟩
    · rintro H3 ⟨s3, hD⟩
      have hr3 := s3 _ _ hr2
      have pk : ∀ c, pick a (xn, yn) c < 2 ^ 4 ^ n := fun c => by
        unfold pick
        split
        · exact hxw
        · exact hyw
      refine ⟨_, rfl, .inl ⟨rfl, _, SqL.of hr3⟩, _, rfl, _, rfl, l1, nl t, rfl, .inl ((sm2.trans s3).seq h1), D, 4 ^ n, pick a (xn, yn) 0, pick a (xn, yn) 1, pick a (xn, yn) 2, pick a (xn, yn) 3, ?_, SqL.of hD, hw, pk 0, pk 1, pk 2, pk 3, fun H4 s4 => ?_⟩
      · rw [nl_len, ht]
        rfl
      · have hr4 := s4 _ _ hr3
        have hrow : (ownRows a (4 ^ n) t u)[i]? = some (ownRow a (4 ^ n) (xn, yn)) := by
          unfold ownRows
          rw [List.getElem?_map, List.getElem?_zip_eq_some.mpr (show t[i]? = some (xn, yn).1 ∧ u[i]? = some (xn, yn).2 from ⟨hxn, hyn⟩)]
          rfl
        refine ⟨r, _, _, rfl, rfl, hr4, ?_, some (ni xn), some (ni yn), some (.ref D), _, rfl, same_upd ((sm2.trans s3).trans s4) nr, ?_⟩
        · rw [nl_len, List.length_take, hrl]
          exact small6 (by omega)
        · rw [upd_same, take_more hrow]
          unfold nl
          rw [List.map_append]
          rfl
  · rintro σ H1 ⟨y4, y5, y6, y7, rfl, sm, hr1⟩
    rw [List.take_of_length_le (by rw [hrl]; exact Nat.le_refl _)] at hr1
    refine ⟨_, rfl, aC, _, rfl, .inr (sC _), r, 4, _, rfl, rfl, hr1, by decide, by decide, ?_, fun p np => ?_⟩
    · rw [nl_len, hrl]
      exact Nat.le_of_lt (small6 (by show 4 ^ n * 4 ≤ _; omega))
    · refine q _ p (sm.trans (same_new np)) (sm.free np) ?_
      rw [upd_same]
      exact congrArg (fun l => some (HO.lst l)) (four_rep _)
end
end Duty

namespace Duty
open PySem PySem.Spec PyProof.Rows L2 DRul
open Co09 (Deal)
section
variable {P : Program} {w : World} {K : PySem.W.Frag} {mg : Str → Option Value} {base : Heap}
/-! ### by_others_act -/
theorem scOthers : FnScope ["act", "done", "undone", "rows", "choice", "behind", "row"] ["act", "done", "undone"] (defScope sOthers) := ⟨rfl, rfl, rfl, by decide +kernel, rfl, by decide +kernel, by decide +kernel⟩
def othUpTo (a w : Nat) (t u : List Nat) : Nat → List Nat
  | 0 => []
  | i + 1 => othUpTo a w t u i ++ othSel a w t u i
theorem othUpTo_four (a w : Nat) (t u : List Nat) : othUpTo a w t u 4 = othTab a w t u := by
  unfold othTab four
  simp [othUpTo]
abbrev tJoin4 (K : PySem.W.Frag) (aC : Addr) : TE := tCall (spJoined K) [] E0 (tCons (tOp rRep (tLst (tCons (tVar 6) tNil)) (tCB (rLenS K) (tCons (tC (.ref aC)) tNil))) (tCons (tCB (rLenS K) (tCons (tVar 1) tNil)) tNil))
theorem ok_others {f : Addr} {fd : FuncData} (F : Fun K "by_others_act" "by_others_act" sOthers f fd) (G0 : Gs K mg) (G : Gk K mg) (C1 : Cal P w K mg base 1 "does" ["choice", "act"] spDoes) (C2 : Cal P w K mg base 1 "joined" ["rows", "width"] (spJoined K)) :
    FnOk P w K mg base CX0 2 f fd ["act", "done", "undone"] (spOwn K othTab) := by
  obtain ⟨f1, fd1, g1, k1, b1, F1⟩ := C1
  obtain ⟨f2, fd2, g2, k2, b2, F2⟩ := C2
  obtain ⟨aC, gC, sC⟩ := G.choices
  refine F.ok scOthers (fun vs H Q E h => ?_) (fun cdv A outer s H vs Q E hr h => ?_)
  · obtain ⟨a, n, l1, l2, t, u, rfl, _⟩ := h
    rfl
  obtain ⟨a, n, l1, l2, t, u, rfl, h1, h2, hn, ht, hu, ht2, hu2, q⟩ := h
  refine ⟨_, pss_cons (ps_set (i := 3) scOthers.nd rfl (.inl rfl) (pe_lst pa_nil))
    (pss_cons (ps_for PassesOwn.never rfl (pi_tup (pgr gC)) (pg_name (i := 4) scOthers.nd rfl (.inl rfl))
      (pss_cons (ps_set (i := 5) scOthers.nd rfl (.inl rfl) (pe_ifExp (pt_val (pe_call F1 hr rfl g1 k1 b1 .nil pass0 (pa_cons (pv 4) (pa_cons (pv 0) pa_nil)))) (pv 1) (pv 2)))
      (pss_one (ps_expr (pe_bm PySem.F.plainAttrs_list PySem.F.slot_list_extend PySem.F.type_list_extend mt_extend (pv 3) (pa_cons
        (pe_lc (own := [("row", 6)]) (g := gName 6) (tt := tYes) (te := tJoin4 K aC) rfl scOthers.nd (pi_list (pv 5))
          (blkOk_by (N := ["act", "done", "undone", "rows", "choice", "behind", "row"]) (sc := defScope sOthers) (by decide +kernel))
          (fun _ _ _ _ _ => pg_name (i := 6) scOthers.nd rfl (.inl rfl)) (fun _ _ _ _ _ => pts_nil)
          (fun _ _ _ _ _ => pe_call F2 hr rfl g2 k2 b2 .nil pass0 (pa_cons (pe_op op_rep (pe_lst (pa_cons (pv 6) pa_nil)) (pe_callB call_len_seq rfl G0.len PySem.boot_len (pa_cons (pgr gC) pa_nil))) (pa_cons (pe_callB call_len_seq rfl G0.len PySem.boot_len (pa_cons (pv 1) pa_nil)) pa_nil)))) pa_nil))))))
    (pss_one (ps_ret (pv 3)))), ?_⟩
  have hw := pow4_le hn
  have hsl : ∀ c, (othSel a (4 ^ n) t u c).length = 4 ^ n := fun c => by
    unfold othSel othRows
    rw [List.length_map]
    split
    · exact ht
    · exact hu
  have hul : ∀ i, (othUpTo a (4 ^ n) t u i).length = i * 4 ^ n := fun i => by
    induction i with
    | zero => simp [othUpTo]
    | succ i ih => rw [othUpTo, List.length_append, ih, hsl, Nat.add_mul, Nat.one_mul]
  refine ⟨Nat.zero_le _, fun r nr => ?_⟩
  have s1 : Same H (upd H r (.lst [])) := same_new nr
  refine ⟨aC, rfl, ⟨_, sC _⟩, for_tup (K := K) (a := aC) (xs := nl [0, 1, 2, 3])
    (fun i σ H' => i ≤ 4 ∧ ∃ y4 y5 y6, σ = [some (ni a), some (.ref l1), some (.ref l2), some (.ref r), y4, y5, y6] ∧ Same H H' ∧ H' r = some (.lst (nl (othUpTo a (4 ^ n) t u i)))) ⟨by decide, none, none, none, rfl, s1, upd_same⟩ (fun i σ H' _ _ => sC _) ?_ ?_⟩
  · rintro i z σ H1 hz ⟨hi, y4, y5, y6, rfl, sm, hr1⟩
    obtain ⟨zn, hzn, rfl⟩ := nl_inv hz
    have hi4 : i < 4 := by
      have := (List.getElem?_eq_some_iff.mp hzn).1
      simpa using this
    have ezi : zn = i := by
      have : i = 0 ∨ i = 1 ∨ i = 2 ∨ i = 3 := by omega
      rcases this with rfl | rfl | rfl | rfl <;> (cases hzn; rfl)
    subst ezi
    -- behind = done if does(choice, act) else undone
    obtain ⟨lb, b, hb, eb, hbw, hbl, hsel⟩ : ∃ (lb : Addr) (b : List Nat), SqL K H lb (nl b) ∧ b = (if bit zn a = true then t else u) ∧ (∀ x ∈ b, x < 2 ^ 4 ^ n) ∧ b.length = 4 ^ n ∧ lb = (if bit zn a = true then l1 else l2) := by
      cases hbit : bit zn a with
      | true => exact ⟨l1, t, h1, rfl, ht2, ht, rfl⟩
      | false => exact ⟨l2, u, h2, rfl, hu2, hu, rfl⟩
    have e5 : ∀ (R : V → Hp → Prop), R (.ref lb) H1 → (if bit zn a = true then (∃ v, [some (ni a), some (V.ref l1), some (V.ref l2), some (V.ref r), some (ni zn), y5, y6][1]? = some (some v) ∧ R v H1) else (∃ v, [some (ni a), some (V.ref l1), some (V.ref l2), some (V.ref r), some (ni zn), y5, y6][2]? = some (some v) ∧ R v H1)) := fun R hR => by
      rw [hsel] at hR
      cases hbit : bit zn a with
      | true => rw [hbit] at hR; exact ⟨_, rfl, hR⟩
      | false => rw [hbit] at hR; exact ⟨_, rfl, hR⟩
    refine ⟨_, rfl, _, rfl, zn, a, rfl, _, rfl, e5 _ ?_⟩
    refine ⟨_, rfl, .inl ⟨rfl, _, SqL.of hr1⟩, _, rfl, lb, rfl, ⟨_, sm.seq hb⟩, fun D nD => lc_list (K := K) (a := lb) (xs := nl b)
      (fun j H' => Same H1 H' ∧ H' D = some (.lst (nl ((othRows (4 ^ n) b).take j)))) ⟨same_new nD, upd_same⟩ (fun j H' _ g => (sm.trans g.1).seq hb) ?_ ?_⟩
    · rintro j x H2 hx ⟨s2, hD⟩
      obtain ⟨xn, hxn, rfl⟩ := nl_inv hx
      have hxw := hbw xn (List.mem_of_getElem? hxn)
      refine ⟨rfl, ?_⟩
      refine ⟨_, rfl, (by show 1 ≤ sizeLine; decide), fun p np => ⟨aC, _, rfl, .inr (sC _), p, 4, _, rfl, rfl, upd_same, by decide, by decide, (by show 1 * 4 ≤ sizeLine; decide), fun p2 np2 => ?_⟩⟩
      have s3 : Same H2 (upd (upd H2 p (.lst [ni xn])) p2 (.lst (List.replicate 4 [ni xn]).flatten)) := (same_new np).trans (same_new np2)
      have hp2 : (upd (upd H2 p (.lst [ni xn])) p2 (.lst (List.replicate 4 [ni xn]).flatten)) p2 = some (.lst (nl [xn, xn, xn, xn])) := upd_same
      show tCons _ _ _ (upd (upd H2 p (.lst [ni xn])) p2 (.lst (List.replicate 4 [ni xn]).flatten)) _
      generalize upd (upd H2 p (.lst [ni xn])) p2 (.lst (List.replicate 4 [ni xn]).flatten) = H3 at s3 hp2 ⊢
      refine ⟨_, rfl, l1, nl t, rfl, .inl (((sm.trans s2).trans s3).seq h1), p2, 4 ^ n, xn, xn, xn, xn, ?_, SqL.of hp2, hw, hxw, hxw, hxw, hxw, fun H4 s4 => ?_⟩
      · rw [nl_len, ht]
        rfl
      · have hD4 := s4 _ _ (s3 _ _ hD)
        have hrow : (othRows (4 ^ n) b)[j]? = some (join4 (4 ^ n) xn xn xn xn) := by
          unfold othRows
          rw [List.getElem?_map, hxn]
          rfl
        refine ⟨_, hD4, ?_, same_upd ((s2.trans s3).trans s4) nD, ?_⟩
        · rw [nl_len, List.length_take]
          unfold othRows
          rw [List.length_map]
          exact small6 (by omega)
        · rw [upd_same, take_more hrow]
          unfold nl
          rw [List.map_append]
          rfl
    · rintro H2 ⟨s2, hD⟩
      have hol : (othRows (4 ^ n) b).length = 4 ^ n := by
        unfold othRows
        rw [List.length_map, hbl]
      rw [List.take_of_length_le (by rw [hol, nl_len, hbl]; exact Nat.le_refl _)] at hD
      have hr2 := s2 _ _ hr1
      refine ⟨r, D, _, _, rfl, rfl, hr2, hD, ?_, by omega, some (ni zn), some (.ref lb), y6, rfl, same_upd (sm.trans s2) nr, ?_⟩
      · rw [nl_len, nl_len, hul, hol]
        have := Nat.mul_le_mul (show zn ≤ 4 by omega) hw
        exact Nat.le_of_lt (small6 (by omega))
      · rw [upd_same]
        have : othSel a (4 ^ n) t u zn = othRows (4 ^ n) b := by
          unfold othSel
          rw [eb]
        rw [othUpTo, this]
        unfold nl
        rw [List.map_append]
  · rintro σ H1 ⟨hi, y4, y5, y6, rfl, sm, hr1⟩
    refine ⟨_, rfl, q H1 r sm nr ?_⟩
    rw [hr1]
    show some (HO.lst (nl (othUpTo a (4 ^ n) t u 4))) = _
    rw [othUpTo_four]
/-! ### parts_after -/
theorem scPartsAfter : FnScope ["duties", "choices", "parts", "duty"] ["duties", "choices"] (defScope sPartsAfter) := ⟨rfl, rfl, rfl, by decide +kernel, rfl, by decide +kernel, by decide +kernel⟩
theorem stSize_append (a b : List Deal) : stSize (a ++ b) = stSize a + stSize b := by
  unfold stSize
  rw [List.map_append, List.sum_append]
theorem flatMap_len (l : Co09.Acts) : ∀ ds : List Deal, (ds.flatMap fun d => flat (Co09.step l d)).length ≤ stSize ds
  | [] => Nat.le_refl _
  | d :: ds => by
    have := flatMap_len l ds
    have h1 := flat_len (Co09.step l d)
    have h2 := step_size l d
    rw [List.flatMap_cons, List.length_append, stSize_cons]
    omega
theorem stSize_take (ds : List Deal) (i : Nat) : stSize (ds.take i) ≤ stSize ds := by
  have := stSize_append (ds.take i) (ds.drop i)
  rw [List.take_append_drop] at this
  omega
theorem stSize_mem {ds : List Deal} {d : Deal} (h : d ∈ ds) : size d ≤ stSize ds := by
  induction ds with
  | nil => cases h
  | cons e ds ih =>
    rw [stSize_cons]
    rcases List.mem_cons.mp h with rfl | h
    · omega
    · have := ih h; omega
theorem duty_noBoth {d : Deal} (h : isDuty d = true) : noBoth d = true := by
  cases d <;> first | rfl | cases h
theorem ok_partsAfter {f : Addr} {fd : FuncData} (F : Fun K "parts_after" "parts_after" sPartsAfter f fd) (C1 : Cal P w K mg base 1 "taken_apart" ["agreement"] (spApart K)) (C2 : Cal P w K mg base 2 "piece_after" ["piece", "choices"] (spPieceAfter K)) :
    FnOk P w K mg base CX0 3 f fd ["duties", "choices"] (spPartsAfter K) := by
  obtain ⟨f1, fd1, g1, k1, b1, F1⟩ := C1
  obtain ⟨f2, fd2, g2, k2, b2, F2⟩ := C2
  refine F.ok scPartsAfter (fun vs H Q E h => ?_) (fun cdv A outer s H vs Q E hr h => ?_)
  · obtain ⟨l, ch, ws, ds, x, y, rfl, _⟩ := h
    rfl
  obtain ⟨l, ch, ws, ds, x, y, rfl, hS, hds, hdu, hsz, hch, q⟩ := h
  have hr1 : Room 1 _ := hr.mono (by decide)
  refine ⟨_, pss_cons (ps_set (i := 2) scPartsAfter.nd rfl (.inl rfl) (pe_lst pa_nil))
    (pss_cons (ps_for PassesOwn.never rfl (pi_list (pv 0)) (pg_name (i := 3) scPartsAfter.nd rfl (.inl rfl))
      (pss_one (ps_expr (pe_bm PySem.F.plainAttrs_list PySem.F.slot_list_extend PySem.F.type_list_extend mt_extend (pv 2) (pa_cons (pe_call F1 hr1 rfl g1 k1 b1 .nil pass0 (pa_cons (pe_call F2 hr rfl g2 k2 b2 .nil pass0 (pa_cons (pv 3) (pa_cons (pv 1) pa_nil))) pa_nil)) pa_nil)))))
    (pss_one (ps_ret (pv 2)))), ?_⟩
  refine ⟨Nat.zero_le _, fun p np => ?_⟩
  have s1 : Same H (upd H p (.lst [])) := same_new np
  refine ⟨_, rfl, l, rfl, ⟨_, s1.seq hS⟩, for_list (K := K) (a := l) (xs := ws)
    (fun i σ H' => ∃ y3 us, σ = [some (.ref l), some (.ref ch), some (.ref p), y3] ∧ Same H H' ∧ H' p = some (.lst us) ∧ PsAt K H' ((ds.take i).flatMap fun d => flat (Co09.step (acts 0 x y) d)) us)
    ⟨none, [], rfl, s1, upd_same, .nil⟩ (fun i σ H' _ ⟨_, _, _, sm, _⟩ => sm.seq hS) ?_ ?_⟩
  · rintro i v σ H1 hv ⟨y3, us, rfl, sm, hp, hus⟩
    obtain ⟨d, hd, hdat⟩ := hds.get hv
    have hm := List.mem_of_getElem? hd
    have hdat := DAt.keep (TK.same sm) d v hdat
    refine ⟨_, rfl, .inl ⟨rfl, _, SqL.of hp⟩, _, rfl, _, rfl, v, ch, .whole d, x, y, rfl, hdat, duty_noBoth (hdu d hm).1, (fun e he => by cases he; exact (hdu d hm).2), (TK.same sm).sq hch, fun H2 v2 s2 h2 => ?_⟩
    have h2' : DAt K H2 (Co09.step (acts 0 x y) d) v2 := h2
    have hsz2 : size (Co09.step (acts 0 x y) d) ≤ 10000 := Nat.le_trans (step_size _ d) (Nat.le_trans (stSize_mem hm) hsz)
    refine ⟨v2, _, rfl, h2', hsz2, fun H3 b bs s3 nb hb hbs => ?_⟩
    have hp3 := s3 _ _ (s2 _ _ hp)
    have hlen : us.length + bs.length ≤ 10000 := by
      have e := flatMap_len (acts 0 x y) (ds.take (i + 1))
      have e2 := stSize_take ds (i + 1)
      rw [take_more hd, List.flatMap_append, List.length_append, List.flatMap_singleton] at e
      rw [take_more hd] at e2
      rw [hus.len, hbs.len]
      omega
    refine ⟨p, b, _, _, rfl, rfl, hp3, hb, Nat.le_of_lt (small6 (by omega)), some v, us ++ bs, rfl, same_upd ((sm.trans s2).trans s3) np, upd_same, ?_⟩
    have t4 : TK H3 (upd H3 p (.lst (us ++ bs))) := TK.lst hp3
    rw [take_more hd, List.flatMap_append, List.flatMap_singleton]
    exact (PsAt.keep (((TK.same s2).trans (TK.same s3)).trans t4) hus).append (PsAt.keep t4 hbs)
  · rintro σ H1 ⟨y3, us, rfl, sm, hp, hus⟩
    rw [hds.len, List.take_length] at hus
    exact ⟨_, rfl, q H1 p us sm np hp hus⟩
end
end Duty

namespace Duty
open PySem PySem.Spec PyProof.Rows L2 DRul
open Co09 (Deal)
/-! ### deals among pieces -/
def pieceDeal : Piece → Option Deal
  | .whole d => some d
  | _ => none
def deals (ps : List Piece) : List Deal := ps.filterMap pieceDeal
theorem deals_flat : ∀ d, deals (flat d) = parts d := by
  refine cases3 ?_ ?_ ?_ ?_
  · rfl
  · intro p; rfl
  · intro w p a k c d h1 h2 _ _
    rw [flat_du h1 h2, parts_du h1 h2]
    rfl
  · intro c d hc hd
    unfold deals at hc hd ⊢
    rw [flat, parts, List.filterMap_cons, List.filterMap_append, hc, hd]
    rfl
theorem deals_append (a b : List Piece) : deals (a ++ b) = deals a ++ deals b := List.filterMap_append ..
theorem deals_flatMap (l : Co09.Acts) : ∀ ds : List Deal, deals (ds.flatMap fun d => flat (Co09.step l d)) = ds.flatMap fun d => parts (Co09.step l d)
  | [] => rfl
  | d :: ds => by rw [List.flatMap_cons, List.flatMap_cons, deals_append, deals_flat, deals_flatMap l ds]
theorem mem_deals {ps : List Piece} {d : Deal} : d ∈ deals ps ↔ .whole d ∈ ps := by
  unfold deals
  rw [List.mem_filterMap]
  constructor
  · rintro ⟨p, hp, e⟩
    cases p with
    | whole x => cases e; exact hp
    | hd => cases e
    | bo => cases e
  · intro h
    exact ⟨_, h, rfl⟩
theorem dutiesP_deals : ∀ ps : List Piece, dutiesP ps = (deals ps).filter isDuty
  | [] => rfl
  | p :: ps => by
    have ih := dutiesP_deals ps
    unfold dutiesP deals at ih ⊢
    rw [List.filterMap_cons, List.filterMap_cons, ih]
    cases p with
    | hd => rfl
    | bo => rfl
    | whole d =>
      have e1 : pieceDuty (.whole d) = if isDuty d = true then some d else none := rfl
      have e2 : pieceDeal (.whole d) = some d := rfl
      rw [e1, e2]
      by_cases h : isDuty d = true
      · rw [if_pos h]
        show _ = List.filter isDuty (d :: List.filterMap pieceDeal ps)
        rw [List.filter_cons, if_pos h]
      · rw [if_neg h]
        show _ = List.filter isDuty (d :: List.filterMap pieceDeal ps)
        rw [List.filter_cons, if_neg h]
theorem any_pieces (p : Nat) : ∀ ps : List Piece, (∀ x ∈ ps, okP x = true) → (ps.map pdP).any (fun z => PyData.eqv z (.tuple [.int 1, .int p])) = (deals ps).any (Co09.blamed p)
  | [], _ => rfl
  | x :: ps, h => by
    have ih := any_pieces p ps fun y hy => h y (List.mem_cons_of_mem _ hy)
    have hx := h x (List.mem_cons_self ..)
    rw [List.map_cons, List.any_cons, ih]
    cases x with
    | hd => cases hx
    | bo =>
      show (PyData.eqv (.tuple [.int 5]) (.tuple [.int 1, .int p]) || _) = (deals ps).any (Co09.blamed p)
      simp [PyData.eqv, PyData.eqvAll]
    | whole d =>
      show (PyData.eqv (pd d) (.tuple [.int 1, .int p]) || _) = (Co09.blamed p d || (deals ps).any (Co09.blamed p))
      rw [eqv_breach p d hx]
/-! ### promises -/
def spBreaches (K : PySem.W.Frag) (n : Nat) : Sp := fun vs H Q _ => ∃ (l : Addr) (p : Nat) (ws : List V) (ps : List Piece), vs = [.ref l, ni p, ni n] ∧ SqL K H l ws ∧ PsAt K H ps ws ∧ p < 2 ∧ n ≤ 5 ∧ (∀ x ∈ ps, okP x = true) ∧ (∀ d ∈ deals ps, wf d ∧ Co09.days d ≤ n) ∧
  stSize (deals ps) ≤ 10000 ∧ ps.length ≤ 10000 ∧ ∀ H' x t, Same H H' → H x = none → H' x = some (.lst (nl t)) → Tab n (badL p n (deals ps)) t → Q (.ref x) H'
def spByD (K : PySem.W.Frag) (n : Nat) : Sp := fun vs H Q _ => ∃ (l : Addr) (p q a m : Nat) (ws : List V) (ds : List Deal), vs = [.ref l, ni p, ni n] ∧ SqL K H l ws ∧ DsAt K H ds ws ∧ n = m + 1 ∧ ds ≠ [] ∧ p < 2 ∧ q < 2 ∧ a < 2 ∧ n ≤ 5 ∧
  (∀ d ∈ ds, isDuty d = true ∧ whoAct d = (q, a) ∧ wf d ∧ Co09.days d ≤ n) ∧ stSize ds ≤ 10000 ∧ ∀ H' x t, Same H H' → H x = none → H' x = some (.lst (nl t)) → Tab n (badL p n ds) t → Q (.ref x) H'
theorem parts_size : ∀ d, stSize (parts d) ≤ size d := by
  refine cases3 ?_ ?_ ?_ ?_
  · exact Nat.le_refl _
  · intro p; exact Nat.le_refl _
  · intro w p a k c d h1 h2 _ _
    rw [parts_du h1 h2]
    exact Nat.le_refl _
  · intro c d hc hd
    rw [parts, stSize_append, size_both]
    omega
theorem flatMap_size (l : Co09.Acts) : ∀ ds : List Deal, stSize (ds.flatMap fun d => parts (Co09.step l d)) ≤ stSize ds
  | [] => Nat.le_refl _
  | d :: ds => by
    have := flatMap_size l ds
    have h1 := parts_size (Co09.step l d)
    have h2 := step_size l d
    rw [List.flatMap_cons, stSize_append, stSize_cons]
    omega
theorem Tab.mem {n : Nat} {f : Nat → Nat → Bool} {t : List Nat} (T : Tab n f t) : ∀ x ∈ t, x < 2 ^ 4 ^ n := fun x hx => by
  obtain ⟨i, hi, e⟩ := List.getElem_of_mem hx
  have := T.small i (by rw [← T.len]; exact hi)
  rw [getD_lt hi, e] at this
  exact this
section
variable {P : Program} {w : World} {K : PySem.W.Frag} {mg : Str → Option Value} {base : Heap}
/-! ### breaches_by_duties -/
theorem scByD : FnScope ["duties", "party", "days", "done", "undone"] ["duties", "party", "days"] (defScope sByDuties) := ⟨rfl, rfl, rfl, by decide +kernel, rfl, by decide +kernel, by decide +kernel⟩
theorem ok_byD {f : Addr} {fd : FuncData} {n : Nat} (F : Fun K "breaches_by_duties" "breaches_by_duties" sByDuties f fd) (G0 : Gs K mg) (G : Gk K mg) (C1 : Cal P w K mg base (2 * n + 4) "breaches" ["parts", "party", "days"] (spBreaches K n))
    (C2 : Cal P w K mg base 3 "parts_after" ["duties", "choices"] (spPartsAfter K)) (C3 : Cal P w K mg base 2 "by_own_act" ["act", "done", "undone"] (spOwn K ownTab)) (C4 : Cal P w K mg base 2 "by_others_act" ["act", "done", "undone"] (spOwn K othTab)) :
    FnOk P w K mg base CX0 (2 * n + 5) f fd ["duties", "party", "days"] (spByD K (n + 1)) := by
  obtain ⟨f1, fd1, g1, k1, b1, F1⟩ := C1
  obtain ⟨f2, fd2, g2, k2, b2, F2⟩ := C2
  obtain ⟨f3, fd3, g3, k3, b3, F3⟩ := C3
  obtain ⟨f4, fd4, g4, k4, b4, F4⟩ := C4
  obtain ⟨tW, gW⟩ := G0.who
  obtain ⟨tA, gA⟩ := G0.act
  obtain ⟨aE, gE, sE⟩ := G.every
  obtain ⟨aN, gN, sN⟩ := G.noact
  refine F.ok scByD (fun vs H Q E h => ?_) (fun cdv A outer s H vs Q E hr h => ?_)
  · obtain ⟨l, p, q, a, m, ws, ds, rfl, _⟩ := h
    rfl
  obtain ⟨l, p, q, a, m, ws, ds, rfl, hS, hds, hm, hne, hp, hq, ha, hn5, hdu, hsz, k⟩ := h
  have hr3 : Room 3 _ := hr.mono (by omega)
  have hr2 : Room 2 _ := hr.mono (by omega)
  refine ⟨_, pss_cons (ps_set (i := 3) scByD.nd rfl (.inl rfl) (pe_call F1 hr rfl g1 k1 b1 .nil pass0 (pa_cons (pe_call F2 hr3 rfl g2 k2 b2 .nil pass0 (pa_cons (pv 0) (pa_cons (pgr gE) pa_nil))) (pa_cons (pv 1) (pa_cons (pe_op op_sub (pv 2) pe_int) pa_nil)))))
    (pss_cons (ps_set (i := 4) scByD.nd rfl (.inl rfl) (pe_call F1 hr rfl g1 k1 b1 .nil pass0 (pa_cons (pe_call F2 hr3 rfl g2 k2 b2 .nil pass0 (pa_cons (pv 0) (pa_cons (pgr gN) pa_nil))) (pa_cons (pv 1) (pa_cons (pe_op op_sub (pv 2) pe_int) pa_nil)))))
    (pss_cons (ps_if (pt_cmpR op_eq (pe_ix ix_tup (pe_ix ix_list (pv 0) pe_int (fun _ _ => rfl)) (pgi gW) (fun _ _ => rfl)) (pv 1) (nomark _))
      (pss_one (ps_ret (pe_call F3 hr2 rfl g3 k3 b3 .nil pass0 (pa_cons (pe_ix ix_tup (pe_ix ix_list (pv 0) pe_int (fun _ _ => rfl)) (pgi gA) (fun _ _ => rfl)) (pa_cons (pv 3) (pa_cons (pv 4) pa_nil)))))) pss_nil)
    (pss_one (ps_ret (pe_call F4 hr2 rfl g4 k4 b4 .nil pass0 (pa_cons (pe_ix ix_tup (pe_ix ix_list (pv 0) pe_int (fun _ _ => rfl)) (pgi gA) (fun _ _ => rfl)) (pa_cons (pv 3) (pa_cons (pv 4) pa_nil)))))))), ?_⟩
  have hdw : ∀ d ∈ ds, isDuty d = true ∧ wf d := fun d hd => ⟨(hdu d hd).1, (hdu d hd).2.2.1⟩
  have hsub : V.int (((n + 1 : Nat) : Int) - 1) = ni n := congrArg V.int (by omega)
  have facts : ∀ l' : Co09.Acts, (∀ x ∈ ds.flatMap (fun d => flat (Co09.step l' d)), okP x = true) ∧ (∀ d ∈ deals (ds.flatMap fun d => flat (Co09.step l' d)), wf d ∧ Co09.days d ≤ n) ∧ stSize (deals (ds.flatMap fun d => flat (Co09.step l' d))) ≤ 10000 ∧ (ds.flatMap fun d => flat (Co09.step l' d)).length ≤ 10000 := fun l' => by
    refine ⟨fun x hx => ?_, fun e he => ?_, ?_, Nat.le_trans (flatMap_len l' ds) hsz⟩
    · obtain ⟨d, hd, hx⟩ := List.mem_flatMap.mp hx
      exact flat_ok _ x hx
    · rw [deals_flatMap] at he
      obtain ⟨d, hd, he⟩ := List.mem_flatMap.mp he
      refine ⟨parts_wf _ (step_wf l' d (hdu d hd).2.2.1) e he, ?_⟩
      have e1 := parts_days _ e he
      have e2 := days_step l' d
      have e3 := (hdu d hd).2.2.2
      omega
    · rw [deals_flatMap]
      exact Nat.le_trans (flatMap_size l' ds) hsz
  -- done
  refine ⟨_, rfl, l, aE, ws, ds, 3, 3, rfl, hS, hds, hdw, hsz, sE _, fun H1 p1 us1 s1 n1 hp1 hus1 => ?_⟩
  obtain ⟨fa, fb, fc, fe⟩ := facts (acts 0 3 3)
  refine ⟨_, rfl, _, rfl, ((n + 1 : Nat) : Int), 1, rfl, rfl, p1, p, us1, _, congrArg (fun z => [V.ref p1, ni p, z]) hsub, SqL.of hp1, hus1, hp, by omega, fa, fb, fc, fe, fun H2 x2 t2 s2 n2 hx2 T2 => ?_⟩
  -- undone
  have s02 := s1.trans s2
  refine ⟨_, rfl, l, aN, ws, ds, 0, 0, rfl, s02.seq hS, DsAt.keep (TK.same s02) hds, hdw, hsz, sN _, fun H3 p3 us3 s3 n3 hp3 hus3 => ?_⟩
  obtain ⟨fa', fb', fc', fe'⟩ := facts (acts 0 0 0)
  refine ⟨_, rfl, _, rfl, ((n + 1 : Nat) : Int), 1, rfl, rfl, p3, p, us3, _, congrArg (fun z => [V.ref p3, ni p, z]) hsub, SqL.of hp3, hus3, hp, by omega, fa', fb', fc', fe', fun H4 x4 t4 s4 n4 hx4 T4 => ?_⟩
  have s04 := (s02.trans s3).trans s4
  have hx2' := s4 _ _ (s3 _ _ hx2)
  -- the first duty
  obtain ⟨d0, ds', rfl⟩ : ∃ d0 ds', ds = d0 :: ds' := by
    cases ds with
    | nil => exact absurd rfl hne
    | cons d0 ds' => exact ⟨d0, ds', rfl⟩
  obtain ⟨hdu0, hwa0, _⟩ := hdu d0 (List.mem_cons_self ..)
  cases hds with
  | @cons _ v0 _ ws' hd0 hds' =>
  obtain ⟨w0, p0, a0, k0, c0, e0, q1, q2, rfl⟩ := isDuty_get hdu0
  rw [whoAct_du q1 q2] at hwa0
  cases hwa0
  obtain ⟨x0, y0, z0, rfl, hx0, _, _⟩ := (dat_du q1 q2).mp hd0
  have hx0' := (TK.same s04).sq hx0
  have hS' : SqL K H4 l (.ref x0 :: ws') := s04.seq hS
  have T2' : Tab n (badL p n ((du w0 q a k0 c0 e0 :: ds').map (Co09.step (acts 0 3 3)))) t2 := T2.congr fun o r _ _ => by rw [deals_flatMap, badL_flatMap]
  have T4' : Tab n (badL p n ((du w0 q a k0 c0 e0 :: ds').map (Co09.step (acts 0 0 0)))) t4 := T4.congr fun o r _ _ => by rw [deals_flatMap, badL_flatMap]
  have hgrp : ∀ d ∈ (du w0 q a k0 c0 e0 :: ds'), isDuty d = true ∧ whoAct d = (q, a) := fun d hd => ⟨(hdu d hd).1, (hdu d hd).2.1⟩
  refine ⟨_, rfl, l, _, 0, _, rfl, rfl, hS', atI_nat (j := 0) rfl, x0, _, 1, _, rfl, rfl, hx0', atI_nat (j := 1) rfl, _, rfl, rfl, _, rfl, ite2 (fun c => ?_) (fun c => ?_)⟩
  · have hqp : q = p := by
      have := V.int.inj (of_decide_eq_true c)
      omega
    refine ⟨_, rfl, l, _, 0, _, rfl, rfl, hS', atI_nat (j := 0) rfl, x0, _, 2, _, rfl, rfl, hx0', atI_nat (j := 2) rfl, _, rfl, _, rfl, a, n, x2, x4, t2, t4, rfl, SqL.of hx2', SqL.of hx4, by omega, T2.len, T4.len, T2.mem, T4.mem, fun H5 x5 s5 n5 hx5 => ?_⟩
    refine k H5 x5 _ (s04.trans s5) (s04.free n5) hx5 ?_
    refine (tab_own (a := a) T2' T4').congr fun o r ho hr => ?_
    rw [badL_group _ hp hq ha hgrp ho hr, if_pos hqp]
  · have hqp : ¬ q = p := fun z => c (decide_eq_true (by rw [z]))
    refine ⟨_, rfl, l, _, 0, _, rfl, rfl, hS', atI_nat (j := 0) rfl, x0, _, 2, _, rfl, rfl, hx0', atI_nat (j := 2) rfl, _, rfl, _, rfl, a, n, x2, x4, t2, t4, rfl, SqL.of hx2', SqL.of hx4, by omega, T2.len, T4.len, T2.mem, T4.mem, fun H5 x5 s5 n5 hx5 => ?_⟩
    refine k H5 x5 _ (s04.trans s5) (s04.free n5) hx5 ?_
    refine (tab_oth (a := a) T2' T4').congr fun o r ho hr => ?_
    rw [badL_group _ hp hq ha hgrp ho hr, if_neg hqp]
end
end Duty

namespace Duty
open PySem PySem.Spec PyProof.Rows L2 DRul
open Co09 (Deal)
def waAt (i : Nat) : Nat × Nat := [(0, 0), (0, 1), (1, 0), (1, 1)].getD i (0, 0)
def badUp (p n : Nat) (ds : List Deal) : Nat → Nat → Nat → Bool
  | 0, _, _ => false
  | i + 1, o, r => badUp p n ds i o r || badL p n (sel (waAt i).1 (waAt i).2 ds) o r
theorem badUp_four (p n : Nat) (ds : List Deal) (h : ∀ d ∈ ds, isDuty d = true ∧ wf d) (o r : Nat) : badUp p n ds 4 o r = badL p n ds o r := by
  rw [badL_groups ds h]
  simp [badUp, waAt]
theorem eqv_wa {d : Deal} (h : isDuty d = true) (p q a b : Nat) (e : whoAct d = (p, a)) : PyData.eqv (.tuple [.int p, .int a]) (.tuple [.int q, .int b]) = decide (whoAct d = (q, b)) := by
  rw [e]
  simp only [PyData.eqv, PyData.eqvAll, Bool.and_true]
  by_cases h1 : p = q
  · by_cases h2 : a = b
    · subst h1 h2; simp
    · have : ¬ ((a : Int) = (b : Int)) := by omega
      rw [beq_eq_false_iff_ne.mpr this, Bool.and_false, decide_eq_false (by intro z; exact h2 (Prod.mk.inj z).2)]
  · have : ¬ ((p : Int) = (q : Int)) := by omega
    rw [beq_eq_false_iff_ne.mpr this, Bool.false_and, decide_eq_false (by intro z; exact h1 (Prod.mk.inj z).1)]
theorem runs_at {n : Nat} (h : n ≤ 5) : atI (nl [1, 4, 16, 64, 256, 1024]) (n : Int) = some (ni (4 ^ n)) := by
  have : n = 0 ∨ n = 1 ∨ n = 2 ∨ n = 3 ∨ n = 4 ∨ n = 5 := by omega
  rcases this with rfl | rfl | rfl | rfl | rfl | rfl <;> rfl
theorem pow4_le5 {n : Nat} (h : n ≤ 5) : 4 ^ n ≤ 1024 := by
  have : n = 0 ∨ n = 1 ∨ n = 2 ∨ n = 3 ∨ n = 4 ∨ n = 5 := by omega
  rcases this with rfl | rfl | rfl | rfl | rfl | rfl <;> decide
theorem rep_one (m x : Nat) : (List.replicate m [ni x]).flatten = nl (List.replicate m x) := by
  induction m with
  | zero => rfl
  | succ m ih =>
    rw [List.replicate_succ, List.flatten_cons, ih]
    rfl
theorem sel_len (q a : Nat) (ds : List Deal) : (sel q a ds).length ≤ ds.length := List.length_filter_le _ _
theorem sel_size (q a : Nat) : ∀ ds : List Deal, stSize (sel q a ds) ≤ stSize ds
  | [] => Nat.le_refl _
  | d :: ds => by
    have ih := sel_size q a ds
    unfold sel at ih ⊢
    rw [List.filter_cons, stSize_cons]
    split
    · rw [stSize_cons]; omega
    · omega
theorem duties_size : ∀ ds : List Deal, stSize (ds.filter isDuty) ≤ stSize ds
  | [] => Nat.le_refl _
  | d :: ds => by
    have ih := duties_size ds
    rw [List.filter_cons, stSize_cons]
    split
    · rw [stSize_cons]; omega
    · omega
theorem sel_snoc (q a : Nat) (ds : List Deal) (i : Nat) (d : Deal) (h : ds[i]? = some d) : sel q a (ds.take (i + 1)) = sel q a (ds.take i) ++ (if whoAct d = (q, a) then [d] else []) := by
  unfold sel
  rw [take_more h, List.filter_append]
  congr 1
  rw [List.filter_cons, List.filter_nil]
  by_cases e : whoAct d = (q, a)
  · rw [if_pos (decide_eq_true e), if_pos e]
  · rw [if_neg (by rw [decide_eq_false e]; exact Bool.false_ne_true), if_neg e]
section
variable {P : Program} {w : World} {K : PySem.W.Frag} {mg : Str → Option Value} {base : Heap}
abbrev nBr : List Str := ["parts", "party", "days", "duties", "table", "asked", "alike", "more", "part", "duty", "row", "added"]
theorem scBr : FnScope nBr ["parts", "party", "days"] (defScope sBreaches) := ⟨rfl, rfl, rfl, by decide +kernel, rfl, by decide +kernel, by decide +kernel⟩
abbrev tAsked (K : PySem.W.Frag) : TT := tTest (tOp (rEqS K) (tTup (tCons (tOp (rIxT K) (tVar 9) (tC (.int 1))) (tCons (tOp (rIxT K) (tVar 9) (tC (.int 2))) tNil))) (tVar 5))
theorem ok_breaches {f : Addr} {fd : FuncData} {n : Nat} (F : Fun K "breaches" "breaches" sBreaches f fd) (G0 : Gs K mg) (G : Gk K mg) (C1 : Cal P w K mg base (2 * n + 3) "breaches_by_duties" ["duties", "party", "days"] (spByD K n))
    (C2 : Cal P w K mg base 1 "is_duty" ["part"] (spIsDuty K)) : FnOk P w K mg base CX0 (2 * n + 4) f fd ["parts", "party", "days"] (spBreaches K n) := by
  obtain ⟨f1, fd1, g1, k1, b1, F1⟩ := C1
  obtain ⟨f2, fd2, g2, k2, b2, F2⟩ := C2
  obtain ⟨tB, gB⟩ := G0.breach
  obtain ⟨tW, gW⟩ := G0.who
  obtain ⟨tA, gA⟩ := G0.act
  obtain ⟨aR, gR, sR⟩ := G.runs
  obtain ⟨aWA, t0, t1, t2, t3, gWA, sWA⟩ := G.whoact
  refine F.ok scBr (fun vs H Q E h => ?_) (fun cdv A outer s H vs Q E hr h => ?_)
  · obtain ⟨l, p, ws, ps, rfl, _⟩ := h
    rfl
  obtain ⟨l, p, ws, ps, rfl, hS, hps, hp, hn, hok, hdd, hsz, hpl, k⟩ := h
  have hr1 : Room 1 _ := hr.mono (by omega)
  refine ⟨_, pss_cons (ps_if (pt_cmpR (op_inS hr.units) (pe_tup (pa_cons (pgi gB) (pa_cons (pv 1) pa_nil))) (pv 0) (by rfl))
      (pss_one (ps_ret (pe_op op_rep (pe_lst (pa_cons (pe_op op_subN (pe_op op_shlNN pe_int (pe_ix ix_tup (pgr gR) (pv 2) (fun _ _ => rfl))) pe_int) pa_nil)) (pe_ix ix_tup (pgr gR) (pv 2) (fun _ _ => rfl))))) pss_nil)
    (pss_cons (ps_setLc (i := 3) (own := [("part", 8)]) (g := gName 8) (tt := tDutyTest K 8) (te := tVar 8) rfl scBr.nd rfl rfl (sw_true rfl rfl rfl (by decide +kernel)) (pi_list (pv 0))
      (blkOk_by (N := nBr) (sc := defScope sBreaches) (by decide +kernel)) (fun _ _ _ _ _ => pg_name (i := 8) scBr.nd rfl (.inl rfl))
      (fun _ _ _ _ _ => pts_one (pt_val (pe_call F2 hr1 rfl g2 k2 b2 .nil pass0 (pa_cons (pv 8) pa_nil)))) (fun _ _ _ _ _ => pv 8))
    (pss_cons (ps_set (i := 4) scBr.nd rfl (.inl rfl) (pe_op op_rep (pe_lst (pa_cons pe_int pa_nil)) (pe_ix ix_tup (pgr gR) (pv 2) (fun _ _ => rfl))))
    (pss_cons (ps_for PassesOwn.never rfl (pi_tup (pgr gWA)) (pg_name (i := 5) scBr.nd rfl (.inr rfl))
      (pss_cons (ps_setLc (i := 6) (own := [("duty", 9)]) (g := gName 9) (tt := tAsked K) (te := tVar 9) rfl scBr.nd rfl rfl (sw_true rfl rfl rfl (by decide +kernel)) (pi_list (pv 3))
        (blkOk_by (N := nBr) (sc := defScope sBreaches) (by decide +kernel)) (fun _ _ _ _ _ => pg_name (i := 9) scBr.nd rfl (.inl rfl))
        (fun _ _ _ _ _ => pts_one (pt_cmpR (op_eqS hr.units) (pe_tup (pa_cons (pe_ix ix_tup (pv 9) (pgi gW) (fun _ _ => rfl)) (pa_cons (pe_ix ix_tup (pv 9) (pgi gA) (fun _ _ => rfl)) pa_nil))) (pv 5) (nomark _))) (fun _ _ _ _ _ => pv 9))
      (pss_one (ps_if (pt_cmpR op_gt (pe_callB call_len_seq rfl G0.len PySem.boot_len (pa_cons (pv 6) pa_nil)) pe_int (nomark _))
        (pss_cons (ps_set (i := 7) scBr.nd rfl (.inl rfl) (pe_call F1 hr rfl g1 k1 b1 .nil pass0 (pa_cons (pv 6) (pa_cons (pv 1) (pa_cons (pv 2) pa_nil)))))
        (pss_one (ps_setLc (i := 4) (own := [("row", 10), ("added", 11)]) (g := gPair K 10 11) (tt := tYes) (te := tOp rOrN (tVar 10) (tVar 11)) rfl scBr.nd rfl rfl (sw_true rfl rfl rfl (by decide +kernel)) (pi_zip rfl G.zip (pa_cons (pv 4) (pa_cons (pv 7) pa_nil)))
          (blkOk_by (N := nBr) (sc := defScope sBreaches) (by decide +kernel)) (fun _ _ _ _ _ => pg_tup rfl (pgs_cons (pg_name (i := 10) scBr.nd rfl (.inl rfl)) (pgs_cons (pg_name (i := 11) scBr.nd rfl (.inl rfl)) pgs_nil)))
          (fun _ _ _ _ _ => pts_nil) (fun _ _ _ _ _ => pe_op op_orN (pv 10) (pv 11))))) pss_nil))))
    (pss_one (ps_ret (pv 4)))))), ?_⟩
  have h4n := pow4_le5 hn
  have hrn := runs_at hn
  -- if (BREACH, party) in parts
  refine ⟨_, rfl, (by show 2 ≤ sizeLine; decide), fun t nt => ?_⟩
  have s1 : Same H (upd H t (.tup [.int 1, ni p])) := same_new nt
  have ht : (upd H t (.tup [.int 1, ni p])) t = some (.tup [.int 1, ni p]) := upd_same
  show tVar 0 _ (upd H t (.tup [.int 1, ni p])) _
  generalize upd H t (.tup [.int 1, ni p]) = H1 at s1 ht ⊢
  have hS1 := s1.seq hS
  have hps1 := PsAt.keep (TK.same s1) hps
  refine ⟨_, rfl, .tuple [.int 1, .int p], ps.map pdP, .tup (SqT.of ht) (.cons (.int _) (.cons (.int _) .nil)), .lst hS1 (dpPs_of hps1), by simp [PyData.canLay0, PyData.canLayAll0], pdPs_lay _, by simp [PyData.depth, PyData.depthAll], _, rfl, ?_⟩
  rw [any_pieces p ps hok]
  refine ite2 (fun c => ?_) (fun c => ?_)
  · -- all ones
    refine ⟨_, rfl, aR, _, (n : Int), _, rfl, rfl, sR _, hrn, 1, 4 ^ n, rfl, rfl, Nat.one_lt_two_pow (by decide), by omega, 1 <<< 4 ^ n, 1, rfl, rfl, ?_, (by show 1 ≤ sizeLine; decide), fun p1 np1 => ?_⟩
    · rw [Nat.one_shiftLeft]
      exact Nat.one_le_two_pow
    have s2 : Same H1 (upd H1 p1 (.lst [ni (1 <<< 4 ^ n - 1)])) := same_new np1
    have hp1 : (upd H1 p1 (.lst [ni (1 <<< 4 ^ n - 1)])) p1 = some (.lst [ni (1 <<< 4 ^ n - 1)]) := upd_same
    show tOp _ _ _ _ (upd H1 p1 (.lst [ni (1 <<< 4 ^ n - 1)])) _
    generalize upd H1 p1 (.lst [ni (1 <<< 4 ^ n - 1)]) = H2 at s2 hp1 ⊢
    refine ⟨_, rfl, aR, _, (n : Int), _, rfl, rfl, sR _, hrn, p1, ((4 ^ n : Nat) : Int), _, rfl, rfl, hp1, Int.le_trans (by decide) (Int.natCast_nonneg _), Int.lt_of_le_of_lt (Int.ofNat_le.mpr h4n) (by decide), ?_, fun p2 np2 => ?_⟩
    · rw [Int.toNat_natCast]
      exact Nat.le_of_lt (small6 (by show 1 * 4 ^ n ≤ _; omega))
    · rw [Int.toNat_natCast, rep_one, Nat.one_shiftLeft]
      refine k _ p2 _ ((s1.trans s2).trans (same_new np2)) ((s1.trans s2).free np2) upd_same ((tab_ones n).congr fun o r _ _ => ?_)
      obtain ⟨d, hd, hb⟩ := List.any_eq_true.mp c
      exact (List.any_eq_true.mpr ⟨d, hd, bad_blamed p d hb n o r⟩).symm
  have hnb : ∀ d ∈ deals ps, noBoth d = true ∧ Co09.blamed p d = false := fun d hd => by
    refine ⟨hok _ (mem_deals.mp hd), ?_⟩
    cases hb : Co09.blamed p d with
    | false => rfl
    | true => exact absurd (List.any_eq_true.mpr ⟨d, hd, hb⟩) c
  -- duties
  refine ⟨_, rfl, l, rfl, ⟨_, hS1⟩, fun D nD => lc_list (K := K) (a := l) (xs := ws)
    (fun i H' => Same H1 H' ∧ ∃ us, H' D = some (.lst us) ∧ DsAt K H' (dutiesP (ps.take i)) us) ⟨same_new nD, [], upd_same, .nil⟩ (fun i H' _ g => g.1.seq hS1) ?_ ?_⟩
  · rintro i u H2 hu ⟨s2, us, hD, hus⟩
    obtain ⟨pc, hpc, hpat⟩ := hps1.get hu
    have hpat := PAt.keep (TK.same s2) pc u hpat
    obtain ⟨y, ys, rfl, hy, h0, hl, h6⟩ := pat_tup pc u hpat
    have hul : us.length ≤ 10000 := by
      rw [hus.len]
      refine Nat.le_trans (dutiesP_len _) ?_
      rw [List.length_take]
      omega
    refine ⟨rfl, _, rfl, y, ys, kindP pc, rfl, hy, h0, _, rfl, ?_⟩
    rw [kind_duty (hok pc (List.mem_of_getElem? hpc))]
    cases e : pieceDuty pc with
    | none =>
      refine ⟨s2, us, hD, ?_⟩
      rw [dutiesP_snoc _ _ _ hpc, e]
      simpa using hus
    | some d0 =>
      obtain ⟨rfl, _⟩ := pieceDuty_some e
      have t3 : TK H2 (upd H2 D (.lst (us ++ [.ref y]))) := TK.lst hD
      refine ⟨_, rfl, us, hD, small6 (by omega), same_upd s2 nD, us ++ [.ref y], upd_same, ?_⟩
      rw [dutiesP_snoc _ _ _ hpc, e]
      exact AllAt.snoc (DsAt.keep t3 hus) (DAt.keep t3 d0 (.ref y) hpat)
  rintro H2 ⟨s2, us, hD, hus⟩
  rw [hps.len, List.take_length] at hus
  have hdl : us.length ≤ 10000 := by
    rw [hus.len]
    exact Nat.le_trans (dutiesP_len _) hpl
  have s02 := s1.trans s2
  have nD0 : H D = none := s1.free nD
  have edu : dutiesP ps = (deals ps).filter isDuty := dutiesP_deals ps
  have hdu : ∀ d ∈ dutiesP ps, (isDuty d = true ∧ wf d) ∧ Co09.days d ≤ n := fun d hd => by
    rw [edu, List.mem_filter] at hd
    exact ⟨⟨hd.2, (hdd d hd.1).1⟩, (hdd d hd.1).2⟩
  have hdsz : stSize (dutiesP ps) ≤ 10000 := by
    rw [edu]
    exact Nat.le_trans (duties_size _) hsz
  have hbad : ∀ o r, badL p n (deals ps) o r = badL p n (dutiesP ps) o r := fun o r => by rw [edu]; exact badL_duties _ hnb
  generalize dutiesP ps = ds at hus hdu hdsz hbad
  -- table = [0] * RUNS[days]
  refine ⟨(by show 1 ≤ sizeLine; decide), fun p1 np1 => ⟨_, rfl, aR, _, (n : Int), _, rfl, rfl, sR _, hrn, p1, ((4 ^ n : Nat) : Int), _, rfl, rfl, upd_same, Int.le_trans (by decide) (Int.natCast_nonneg _), Int.lt_of_le_of_lt (Int.ofNat_le.mpr h4n) (by decide), ?_, fun tb ntb => ?_⟩⟩
  · rw [Int.toNat_natCast]
    exact Nat.le_of_lt (small6 (by show 1 * 4 ^ n ≤ _; omega))
  rw [Int.toNat_natCast, show ([V.int 0] : List V) = [ni 0] from rfl, rep_one]
  have s3 : Same H2 (upd (upd H2 p1 (.lst [ni 0])) tb (.lst (nl (List.replicate (4 ^ n) 0)))) := (same_new np1).trans (same_new ntb)
  have htb : (upd (upd H2 p1 (.lst [ni 0])) tb (.lst (nl (List.replicate (4 ^ n) 0)))) tb = some (.lst (nl (List.replicate (4 ^ n) 0))) := upd_same
  generalize upd (upd H2 p1 (.lst [ni 0])) tb (.lst (nl (List.replicate (4 ^ n) 0))) = H3 at s3 htb ⊢
  have s03 := s02.trans s3
  have ntb0 : H tb = none := s02.free (by
    have := (same_new (H := H2) (o := .lst [ni 0]) np1).free ntb
    exact this)
  -- for asked in WHO_AND_ACT
  refine ⟨aWA, rfl, ⟨_, (sWA _).1⟩, for_tup (K := K) (a := aWA) (xs := [.ref t0, .ref t1, .ref t2, .ref t3])
    (fun i σ H' => ∃ y5 y6 y7 tb t, σ = [some (.ref l), some (ni p), some (ni n), some (.ref D), some (.ref tb), y5, y6, y7, none, none, none, none] ∧ Same H H' ∧ H' D = some (.lst us) ∧ DsAt K H' ds us ∧ H tb = none ∧ H' tb = some (.lst (nl t)) ∧ Tab n (badUp p n ds i) t)
    ⟨none, none, none, tb, _, rfl, s03, s3 _ _ hD, DsAt.keep (TK.same s3) hus, ntb0, htb, tab_zeros n⟩ (fun i σ H' _ _ => (sWA _).1) ?_ ?_⟩
  · rintro i v σ H4 hv ⟨y5, y6, y7, tb, t, rfl, s4, hD4, hus4, ntb, htb, hT⟩
    have hi4 : i < 4 := by
      have := (List.getElem?_eq_some_iff.mp hv).1
      simpa using this
    obtain ⟨ta, rfl, hta, hq2, ha2⟩ : ∃ ta, v = .ref ta ∧ (∀ H', SqT K H' ta [ni (waAt i).1, ni (waAt i).2]) ∧ (waAt i).1 < 2 ∧ (waAt i).2 < 2 := by
      have : i = 0 ∨ i = 1 ∨ i = 2 ∨ i = 3 := by omega
      rcases this with rfl | rfl | rfl | rfl
      · cases hv; exact ⟨t0, rfl, fun H' => (sWA H').2.1, by decide, by decide⟩
      · cases hv; exact ⟨t1, rfl, fun H' => (sWA H').2.2.1, by decide, by decide⟩
      · cases hv; exact ⟨t2, rfl, fun H' => (sWA H').2.2.2.1, by decide, by decide⟩
      · cases hv; exact ⟨t3, rfl, fun H' => (sWA H').2.2.2.2, by decide, by decide⟩
    generalize hq : (waAt i).1 = q at hta hq2
    generalize ha : (waAt i).2 = a at hta ha2
    -- alike
    refine ⟨_, rfl, D, rfl, ⟨_, SqL.of hD4⟩, fun B nB => lc_list (K := K) (a := D) (xs := us)
      (fun j H' => Same H4 H' ∧ ∃ bs, H' B = some (.lst bs) ∧ DsAt K H' (sel q a (ds.take j)) bs) ⟨same_new nB, [], upd_same, .nil⟩ (fun j H' _ g => SqL.of (g.1 _ _ hD4)) ?_ ?_⟩
    · rintro j u H5 hu ⟨s5, bs, hB, hbs⟩
      obtain ⟨d, hd, hdat⟩ := hus4.get hu
      have hdat := DAt.keep (TK.same s5) d u hdat
      have hm := List.mem_of_getElem? hd
      have hdu1 := (hdu d hm).1.1
      have hbl : bs.length ≤ 10000 := by
        rw [hbs.len]
        refine Nat.le_trans (sel_len _ _ _) ?_
        rw [List.length_take]
        have := hus.len
        omega
      obtain ⟨w0, p0, a0, k0, c0, e0, q1, q2, rfl⟩ := isDuty_get hdu1
      obtain ⟨x0, y0, z0, rfl, hx0, _, _⟩ := (dat_du q1 q2).mp hdat
      refine ⟨rfl, ?_⟩
      refine ⟨_, rfl, x0, _, 1, _, rfl, rfl, hx0, atI_nat (j := 1) rfl, _, rfl, x0, _, 2, _, rfl, rfl, hx0, atI_nat (j := 2) rfl, (by show 2 ≤ sizeLine; decide), fun tt ntt => ?_⟩
      have s6 : Same H5 (upd H5 tt (.tup [ni p0, ni a0])) := same_new ntt
      have htt : (upd H5 tt (.tup [ni p0, ni a0])) tt = some (.tup [ni p0, ni a0]) := upd_same
      generalize upd H5 tt (.tup [ni p0, ni a0]) = H6 at s6 htt ⊢
      have hB6 := s6 _ _ hB
      refine ⟨_, rfl, .tuple [.int p0, .int a0], .tuple [.int q, .int a], .tup (SqT.of htt) (.cons (.int _) (.cons (.int _) .nil)), .tup (hta _) (.cons (.int _) (.cons (.int _) .nil)), by simp [PyData.canLay0, PyData.canLayAll0], by simp [PyData.canLay0, PyData.canLayAll0], by simp [PyData.depth, PyData.depthAll], _, rfl, ?_⟩
      rw [eqv_wa hdu1 p0 q a0 a (whoAct_du q1 q2)]
      refine ite2 (fun c => ?_) (fun c => ?_)
      · have c' := of_decide_eq_true c
        have t7 : TK H6 (upd H6 B (.lst (bs ++ [.ref x0]))) := TK.lst hB6
        refine ⟨_, rfl, bs, hB6, small6 (by omega), same_upd (s5.trans s6) nB, bs ++ [.ref x0], upd_same, ?_⟩
        rw [sel_snoc _ _ _ _ _ hd, if_pos c']
        exact AllAt.snoc (DsAt.keep ((TK.same s6).trans t7) hbs) (DAt.keep ((TK.same s6).trans t7) _ _ hdat)
      · have c' : ¬ whoAct (du w0 p0 a0 k0 c0 e0) = (q, a) := fun z => c (decide_eq_true z)
        refine ⟨s5.trans s6, bs, hB6, ?_⟩
        rw [sel_snoc _ _ _ _ _ hd, if_neg c', List.append_nil]
        exact DsAt.keep (TK.same s6) hbs
    rintro H5 ⟨s5, bs, hB, hbs⟩
    rw [hus4.len, List.take_length] at hbs
    have s05 := s4.trans s5
    have hD5 := s5 _ _ hD4
    have hus5 := DsAt.keep (TK.same s5) hus4
    have htb5 := s5 _ _ htb
    refine ⟨_, rfl, B, _, rfl, .inl (SqL.of hB), _, 0, rfl, rfl, _, rfl, ite2 (fun c => ?_) (fun c => ?_)⟩
    · have hne : sel q a ds ≠ [] := fun z => by
        rw [z] at hbs
        cases hbs
        exact absurd (of_decide_eq_true c) (by decide)
      have hsel : ∀ d ∈ sel q a ds, isDuty d = true ∧ whoAct d = (q, a) ∧ wf d ∧ Co09.days d ≤ n := fun d hd => by
        obtain ⟨h1, h2⟩ := List.mem_filter.mp hd
        exact ⟨(hdu d h1).1.1, of_decide_eq_true h2, (hdu d h1).1.2, (hdu d h1).2⟩
      obtain ⟨m, hm⟩ : ∃ m, n = m + 1 := by
        obtain ⟨d, hd⟩ : ∃ d, d ∈ sel q a ds := by
          cases e : sel q a ds with
          | nil => exact absurd e hne
          | cons d r => exact ⟨d, List.mem_cons_self ..⟩
        obtain ⟨h1, _, _, h2⟩ := hsel d hd
        obtain ⟨w0, p0, a0, k0, c0, e0, q1, q2, rfl⟩ := isDuty_get h1
        rw [days_du q1 q2] at h2
        exact ⟨n - 1, by omega⟩
      refine ⟨_, rfl, _, rfl, _, rfl, B, p, q, a, m, bs, sel q a ds, rfl, SqL.of hB, hbs, hm, hne, hp, hq2, ha2, hn, hsel, Nat.le_trans (sel_size _ _ _) hdsz, fun H6 x6 t6 s6 n6 hx6 T6 => ?_⟩
      have htb6 := s6 _ _ htb5
      have hor := tab_or hT T6
      -- table = [row | added for row, added in zip(table, more)]
      have hzl : ((t.zip t6).map fun x => x.1 ||| x.2).length = 4 ^ n := hor.len
      refine ⟨_, rfl, _, rfl, tb, x6, _, _, rfl, SqL.of htb6, SqL.of hx6, fun Z nZ => lc_it (walk_zip (n := 4 ^ n) (xs := nl t) (ys := nl t6) (by rw [nl_len, nl_len, hT.len, T6.len, Nat.min_self]))
        (fun j H' => Same H6 H' ∧ H' Z = some (.lst (nl (((t.zip t6).map fun x => x.1 ||| x.2).take j)))) ⟨same_new nZ, upd_same⟩ (fun j H' _ g => ⟨SqL.of (g.1 _ _ htb6), SqL.of (g.1 _ _ hx6)⟩) ?_ ?_⟩
      · rintro j v H7 H8 hj ⟨s7, hZ⟩ ⟨T, x, y, rfl, nT, rfl, hx, hy⟩
        obtain ⟨xn, hxn, rfl⟩ := nl_inv (show (nl t)[j]? = some x from hx)
        obtain ⟨yn, hyn, rfl⟩ := nl_inv (show (nl t6)[j]? = some y from hy)
        have s8 : Same H7 (upd H7 T (.tup [ni xn, ni yn])) := same_new nT
        have hT8 : (upd H7 T (.tup [ni xn, ni yn])) T = some (.tup [ni xn, ni yn]) := upd_same
        generalize upd H7 T (.tup [ni xn, ni yn]) = H8 at s8 hT8 ⊢
        have hrow : ((t.zip t6).map fun x => x.1 ||| x.2)[j]? = some (xn ||| yn) := by
          rw [List.getElem?_map, List.getElem?_zip_eq_some.mpr (show t[j]? = some (xn, yn).1 ∧ t6[j]? = some (xn, yn).2 from ⟨hxn, hyn⟩)]
          rfl
        refine ⟨T, _, rfl, SqT.of hT8, rfl, _, _, rfl, _, _, rfl, rfl, rfl, ?_⟩
        refine ⟨_, rfl, _, rfl, xn, yn, rfl, rfl, _, s8 _ _ hZ, ?_, same_upd (s7.trans s8) nZ, ?_⟩
        · rw [nl_len, List.length_take]
          exact small6 (by omega)
        · rw [upd_same, take_more hrow]
          unfold nl
          rw [List.map_append]
          rfl
      · rintro H7 ⟨s7, hZ⟩
        rw [List.take_of_length_le (by rw [hzl]; exact Nat.le_refl _)] at hZ
        have s67 := s6.trans s7
        refine ⟨some (.ref ta), some (.ref B), some (.ref x6), Z, _, rfl, s05.trans s67, s67 _ _ hD5, DsAt.keep (TK.same s67) hus5, (s05.trans s6).free nZ, hZ, hor.congr fun o r _ _ => ?_⟩
        show _ = (badUp p n ds i o r || badL p n (sel (waAt i).1 (waAt i).2 ds) o r)
        rw [hq, ha]
    · have hse : sel q a ds = [] := by
        cases e : sel q a ds with
        | nil => rfl
        | cons d r =>
          rw [e] at hbs
          cases hbs
          exact absurd (decide_eq_true (by simp)) c
      refine ⟨some (.ref ta), some (.ref B), y7, tb, t, rfl, s05, hD5, hus5, ntb, htb5, hT.congr fun o r _ _ => ?_⟩
      show _ = (badUp p n ds i o r || badL p n (sel (waAt i).1 (waAt i).2 ds) o r)
      rw [hq, ha, hse]
      show _ = (badUp p n ds i o r || false)
      rw [Bool.or_false]
  · rintro σ H4 ⟨y5, y6, y7, tb, t, rfl, s4, hD4, hus4, ntb, htb, hT⟩
    refine ⟨_, rfl, k H4 tb t s4 ntb htb (hT.congr fun o r _ _ => ?_)⟩
    rw [hbad]
    exact badUp_four p n ds (fun d hd => (hdu d hd).1) o r
/-! ### both by one induction -/
theorem byD_none {f : Addr} {fd : FuncData} : FnOk P w K mg base CX0 (2 * 0 + 3) f fd ["duties", "party", "days"] (spByD K 0) := by
  have no : ∀ vs H Q E, ¬ spByD K 0 vs H Q E := fun vs H Q E h => by
    obtain ⟨l, p, q, a, m, ws, ds, _, _, _, hm, _⟩ := h
    omega
  exact ⟨fun vs H Q E h => absurd h (no vs H Q E), fun A outer s H args us vs Q E _ _ _ _ h => absurd h (no vs H Q E)⟩
theorem cal_breaches {f1 f2 : Addr} {fd1 fd2 : FuncData} (FB : Fun K "breaches" "breaches" sBreaches f1 fd1) (bB : Binds K fd1 ["parts", "party", "days"] []) (mB : mg "breaches" = some (.ref f1)) (FD : Fun K "breaches_by_duties" "breaches_by_duties" sByDuties f2 fd2) (bD : Binds K fd2 ["duties", "party", "days"] []) (mD : mg "breaches_by_duties" = some (.ref f2))
    (G0 : Gs K mg) (G : Gk K mg) (C1 : Cal P w K mg base 1 "is_duty" ["part"] (spIsDuty K)) (C2 : Cal P w K mg base 3 "parts_after" ["duties", "choices"] (spPartsAfter K)) (C3 : Cal P w K mg base 2 "by_own_act" ["act", "done", "undone"] (spOwn K ownTab)) (C4 : Cal P w K mg base 2 "by_others_act" ["act", "done", "undone"] (spOwn K othTab)) :
    ∀ n : Nat, Cal P w K mg base (2 * n + 4) "breaches" ["parts", "party", "days"] (spBreaches K n)
  | 0 => ⟨f1, fd1, mB, FB.kp, bB, ok_breaches FB G0 G ⟨f2, fd2, mD, FD.kp, bD, byD_none⟩ C1⟩
  | n + 1 => by
    have ih := cal_breaches FB bB mB FD bD mD G0 G C1 C2 C3 C4 n
    exact ⟨f1, fd1, mB, FB.kp, bB, ok_breaches FB G0 G ⟨f2, fd2, mD, FD.kp, bD, ok_byD FD G0 G ih C2 C3 C4⟩ C1⟩
end
end Duty

namespace Duty
open PySem PySem.Spec PyProof.Rows L2 DRul
open Co09 (Deal)
section
variable {X : Cx}
theorem iop_mulNN : PIp X .Mult rMulN := fun pins s σ H x y v u Q I rx ry ⟨n, m, e1, e2, hn, q⟩ =>
  iop_mul pins s σ H x y v u Q I rx ry ⟨n, m, e1, e2, .inl ⟨by omega, by omega⟩, by
    show Q (.int ((n : Int) * (m : Int))) H
    rw [← Int.natCast_mul]
    exact q⟩
end
/-! ### promises -/
def spWhat (K : PySem.W.Frag) : Sp := fun vs H Q _ => ∃ (l : Addr) (i : Nat) (t : List Nat), vs = [.ref l] ∧ SqL K H l (nl t) ∧ t.length = 4 ^ (i + 1) ∧ i ≤ 4 ∧ ∀ H' x, Same H H' → H x = none → H' x = some (.lst (nl (or4 t))) → Q (.ref x) H'
def spBest : Sp := fun vs H Q _ => ∃ r s : Nat, vs = [ni r, ni s] ∧ Q (ni (best s r)) H
def spKeep (K : PySem.W.Frag) : Sp := fun vs H Q _ => ∃ (v : V) (d : Deal) (p : Nat), vs = [v, ni p] ∧ DAt K H d v ∧ wf d ∧ p < 2 ∧ Co09.days d ≤ 5 ∧ size d ≤ 10000 ∧
  ∀ H' x, Same H H' → H x = none → H' x = some (.lst (nl (Co09.sets.filter (keeps p d)))) → Q (.ref x) H'
theorem rg4 {i : Nat} (h : i ≤ 4) : RgC 0 ((4 ^ (i + 1) : Nat) : Int) 4 (4 ^ i) := by
  have : i = 0 ∨ i = 1 ∨ i = 2 ∨ i = 3 ∨ i = 4 := by omega
  rcases this with rfl | rfl | rfl | rfl | rfl <;> exact ⟨by decide, by decide, by decide, by decide⟩
section
variable {P : Program} {w : World} {K : PySem.W.Frag} {mg : Str → Option Value} {base : Heap}
/-! ### whatever_the_other_does -/
theorem scWhat : FnScope ["table", "at"] ["table"] (defScope sWhatever) := ⟨rfl, rfl, rfl, by decide +kernel, rfl, by decide +kernel, by decide +kernel⟩
abbrev tIt (K : PySem.W.Frag) (k : Int) : TE := tOp (rIxL K) (tVar 0) (tOp rAddI (tVar 1) (tC (.int k)))
theorem ok_what {f : Addr} {fd : FuncData} (F : Fun K "whatever_the_other_does" "whatever_the_other_does" sWhatever f fd) (G0 : Gs K mg) (G : Gk K mg) : FnOk P w K mg base CX0 1 f fd ["table"] (spWhat K) := by
  refine F.ok scWhat (fun vs H Q E h => ?_) (fun cdv A outer s H vs Q E hr h => ?_)
  · obtain ⟨l, i, t, rfl, _⟩ := h
    rfl
  obtain ⟨l, i, t, rfl, hS, hl, hi, q⟩ := h
  refine ⟨_, pss_one (ps_ret (pe_lc (own := [("at", 1)]) (g := gName 1) (tt := tYes) (te := tOp rOrN (tOp rOrN (tOp rOrN (tOp (rIxL K) (tVar 0) (tVar 1)) (tIt K 1)) (tIt K 2)) (tIt K 3)) rfl scWhat.nd
      (pi_range3 rfl G.range (pa_cons pe_int (pa_cons (pe_callB call_len_seq rfl G0.len PySem.boot_len (pa_cons (pv 0) pa_nil)) (pa_cons pe_int pa_nil))))
      (blkOk_by (N := ["table", "at"]) (sc := defScope sWhatever) (by decide +kernel)) (fun _ _ _ _ _ => pg_name (i := 1) scWhat.nd rfl (.inl rfl)) (fun _ _ _ _ _ => pts_nil)
      (fun _ _ _ _ _ => pe_op op_orN (pe_op op_orN (pe_op op_orN (pe_ix ix_list (pv 0) (pv 1) (fun _ _ => rfl)) (pe_ix ix_list (pv 0) (pe_op op_add (pv 1) pe_int) (fun _ _ => rfl))) (pe_ix ix_list (pv 0) (pe_op op_add (pv 1) pe_int) (fun _ _ => rfl))) (pe_ix ix_list (pv 0) (pe_op op_add (pv 1) pe_int) (fun _ _ => rfl))))), ?_⟩
  have hol := or4_len hl
  have h4 := pow4_le hi
  have hp := pow_succ4 i
  refine ⟨_, rfl, l, nl t, rfl, .inl hS, 0, ((nl t).length : Int), 4, 4 ^ i, rfl, (by rw [nl_len, hl]; exact rg4 hi), fun D nD => lc_it walk_rangeC
    (fun j H' => Same H H' ∧ H' D = some (.lst (nl ((or4 t).take j)))) ⟨same_new nD, upd_same⟩ (fun j H' _ _ => trivial) ?_ ?_⟩
  · rintro j v H1 H2 hj ⟨s1, hD⟩ ⟨rfl, rfl⟩
    have at_ : ∀ k, k < 4 → ∃ x, t[4 * j + k]? = some x ∧ t.getD (4 * j + k) 0 = x := fun k hk => by
      have hlt : 4 * j + k < t.length := by omega
      exact ⟨t[4 * j + k], List.getElem?_eq_getElem hlt, getD_lt hlt⟩
    obtain ⟨x0, a0, e0⟩ := at_ 0 (by decide)
    obtain ⟨x1, a1, e1⟩ := at_ 1 (by decide)
    obtain ⟨x2, a2, e2⟩ := at_ 2 (by decide)
    obtain ⟨x3, a3, e3⟩ := at_ 3 (by decide)
    rw [Nat.add_zero] at a0 e0
    have hS1 : SqL K H2 l (nl t) := s1.seq hS
    have i0 : atI (nl t) (0 + (j : Int) * 4) = some (ni x0) := by
      rw [show (0 + (j : Int) * 4) = ((4 * j : Nat) : Int) by omega]
      exact atI_nat (nl_get a0)
    have ik : ∀ (k : Nat) (x : Nat), t[4 * j + k]? = some x → atI (nl t) (0 + (j : Int) * 4 + (k : Int)) = some (ni x) := fun k x hx => by
      rw [show (0 + (j : Int) * 4 + (k : Int)) = ((4 * j + k : Nat) : Int) by omega]
      exact atI_nat (nl_get hx)
    have hrow : (or4 t)[j]? = some (x0 ||| x1 ||| x2 ||| x3) := by
      have hjl : j < (or4 t).length := by rw [hol]; exact hj
      rw [List.getElem?_eq_getElem hjl, ← getD_lt hjl, or4_get hl hj, e0, e1, e2, e3]
    refine ⟨rfl, ?_⟩
    refine ⟨_, rfl, _, rfl, l, _, _, _, rfl, rfl, hS1, i0, _, rfl, _, rfl, 0 + (j : Int) * 4, 1, rfl, rfl, l, _, _, _, rfl, rfl, hS1, ik 1 x1 a1, x0, x1, rfl, rfl,
      _, rfl, _, rfl, 0 + (j : Int) * 4, 2, rfl, rfl, l, _, _, _, rfl, rfl, hS1, ik 2 x2 a2, x0 ||| x1, x2, rfl, rfl,
      _, rfl, _, rfl, 0 + (j : Int) * 4, 3, rfl, rfl, l, _, _, _, rfl, rfl, hS1, ik 3 x3 a3, x0 ||| x1 ||| x2, x3, rfl, rfl, _, hD, ?_, same_upd s1 nD, ?_⟩
    · rw [nl_len, List.length_take]
      exact small6 (by omega)
    · rw [upd_same, take_more hrow]
      unfold nl
      rw [List.map_append]
      rfl
  · rintro H1 ⟨s1, hD⟩
    rw [List.take_of_length_le (by rw [hol]; exact Nat.le_refl _)] at hD
    exact q H1 D s1 nD hD
/-! ### by_the_best_choice -/
theorem scBest : FnScope ["row", "step"] ["row", "step"] (defScope sBest) := ⟨rfl, rfl, rfl, by decide +kernel, rfl, by decide +kernel, by decide +kernel⟩
theorem ok_best {f : Addr} {fd : FuncData} (F : Fun K "by_the_best_choice" "by_the_best_choice" sBest f fd) : FnOk P w K mg base CX0 1 f fd ["row", "step"] spBest := by
  refine F.ok scBest (fun vs H Q E h => ?_) (fun cdv A outer s H vs Q E hr h => ?_)
  · obtain ⟨r, s, rfl, _⟩ := h
    rfl
  obtain ⟨r, s, rfl, q⟩ := h
  refine ⟨_, pss_one (ps_ret (pe_op op_andN (pe_op op_andN (pe_op op_andN (pv 0) (pe_op op_shrNN (pv 0) (pv 1))) (pe_op op_shrNN (pv 0) (pe_op op_mulNN pe_int (pv 1)))) (pe_op op_shrNN (pv 0) (pe_op op_mulNN pe_int (pv 1))))), ?_⟩
  exact ⟨_, rfl, _, rfl, _, rfl, r, s, rfl, rfl, r, r >>> s, rfl, rfl, _, rfl, _, rfl, 2, s, rfl, rfl, by decide, r, 2 * s, rfl, rfl, r &&& r >>> s, r >>> (2 * s), rfl, rfl, _, rfl, _, rfl, 3, s, rfl, rfl, by decide, r, 3 * s, rfl, rfl, r &&& r >>> s &&& r >>> (2 * s), r >>> (3 * s), rfl, rfl, q⟩
/-! ### keeping_choices -/
abbrev nKp : List Str := ["agreement", "party", "days", "table", "step", "row", "choice"]
theorem scKp : FnScope nKp ["agreement", "party"] (defScope sKeeping) := ⟨rfl, rfl, rfl, by decide +kernel, rfl, by decide +kernel, by decide +kernel⟩
def invKeep (K : PySem.W.Frag) (H : Hp) (v : V) (p n0 : Nat) (d : Deal) (m : Nat) (σ : L2.St) (H' : Hp) : Prop :=
  ∃ (i j : Nat) (tb : Addr) (t : List Nat), i = m ∧ i + j = n0 ∧ σ = [some v, some (ni p), some (ni (n0 + 1)), some (.ref tb), some (ni (4 ^ j)), none, none] ∧ Same H H' ∧ H' tb = some (.lst (nl t)) ∧ LTab i j (bad p (n0 + 1) d) t
theorem bit_zero (row k : Nat) : decide (ni (row >>> k &&& 1) = V.int 0) = !row.testBit k := by
  unfold Nat.testBit
  rw [Nat.and_comm]
  by_cases h : 1 &&& row >>> k = 0
  · rw [h]; rfl
  · rw [decide_eq_false fun z => h (by have := V.int.inj z; omega)]
    have : (1 &&& row >>> k != 0) = true := by simpa using h
    rw [this]
    rfl
theorem ok_keep {f : Addr} {fd : FuncData} (F : Fun K "keeping_choices" "keeping_choices" sKeeping f fd) (G0 : Gs K mg) (G : Gk K mg) (C1 : Cal P w K mg base 2 "how_long" ["agreement"] (spLong K)) (C2 : Cal P w K mg base 1 "whatever_the_other_does" ["table"] (spWhat K))
    (C3 : ∀ n, Cal P w K mg base (2 * n + 4) "breaches" ["parts", "party", "days"] (spBreaches K n)) (C4 : Cal P w K mg base 1 "taken_apart" ["agreement"] (spApart K)) (C5 : Cal P w K mg base 1 "by_the_best_choice" ["row", "step"] spBest) :
    FnOk P w K mg base CX0 15 f fd ["agreement", "party"] (spKeep K) := by
  obtain ⟨f1, fd1, g1, k1, b1, F1⟩ := C1
  obtain ⟨f2, fd2, g2, k2, b2, F2⟩ := C2
  obtain ⟨f4, fd4, g4, k4, b4, F4⟩ := C4
  obtain ⟨f5, fd5, g5, k5, b5, F5⟩ := C5
  obtain ⟨aC, gC, sC⟩ := G.choices
  refine F.ok scKp (fun vs H Q E h => ?_) (fun cdv A outer s H vs Q E hr h => ?_)
  · obtain ⟨v, d, p, rfl, _⟩ := h
    rfl
  obtain ⟨v, d, p, rfl, hd, hwf, hp, hd5, hsz, q⟩ := h
  obtain ⟨n0, hn0⟩ : ∃ n0, ahead d = n0 + 1 := ⟨ahead d - 1, by unfold ahead; omega⟩
  have hn5 : n0 + 1 ≤ 5 := by rw [← hn0]; unfold ahead; omega
  obtain ⟨f3, fd3, g3, k3, b3, F3⟩ := C3 (n0 + 1)
  have hr1 : Room 1 _ := hr.mono (by decide)
  have hr2 : Room 2 _ := hr.mono (by decide)
  have hr3 : Room (2 * (n0 + 1) + 4) _ := hr.mono (by omega)
  refine ⟨_, pss_cons (ps_set (i := 2) scKp.nd rfl (.inl rfl) (pe_callB (call_max2 rfl) rfl G0.max (by decide +kernel) (pa_cons pe_int (pa_cons (pe_call F1 hr2 rfl g1 k1 b1 .nil pass0 (pa_cons (pv 0) pa_nil)) pa_nil))))
    (pss_cons (ps_set (i := 3) scKp.nd rfl (.inr rfl) (pe_call F2 hr1 rfl g2 k2 b2 .nil pass0 (pa_cons (pe_call F3 hr3 rfl g3 k3 b3 .nil pass0 (pa_cons (pe_call F4 hr1 rfl g4 k4 b4 .nil pass0 (pa_cons (pv 0) pa_nil)) (pa_cons (pv 1) (pa_cons (pv 2) pa_nil)))) pa_nil)))
    (pss_cons (ps_set (i := 4) scKp.nd rfl (.inr rfl) pe_int)
    (pss_cons (ps_while PassesOwn.never (pt_cmpR op_gt (pe_callB call_len_seq rfl G0.len PySem.boot_len (pa_cons (pv 3) pa_nil)) pe_int (nomark _))
      (pss_cons (ps_set (i := 3) scKp.nd rfl (.inr rfl) (pe_call F2 hr1 rfl g2 k2 b2 .nil pass0 (pa_cons
        (pe_lc (own := [("row", 5)]) (g := gName 5) (tt := tYes) (te := tCall spBest [] E0 (tCons (tVar 5) (tCons (tVar 4) tNil))) rfl scKp.nd (pi_list (pv 3))
          (blkOk_by (N := nKp) (sc := defScope sKeeping) (by decide +kernel)) (fun _ _ _ _ _ => pg_name (i := 5) scKp.nd rfl (.inl rfl)) (fun _ _ _ _ _ => pts_nil)
          (fun _ _ _ _ _ => pe_call F5 hr1 rfl g5 k5 b5 .nil pass0 (pa_cons (pv 5) (pa_cons (pv 4) pa_nil)))) pa_nil)))
      (pss_one (ps_aug (i := 4) scKp.nd rfl (.inr rfl) (pe_callB call_len_seq rfl G0.len PySem.boot_len (pa_cons (pgr gC) pa_nil)) iop_mulNN))))
    (pss_one (ps_ret (pe_lc (own := [("choice", 6)]) (g := gName 6) (tt := tTest (tOp rEq (tOp rAndN (tOp rShrN (tOp (rIxL K) (tVar 3) (tC (.int 0))) (tOp rMulN (tVar 6) (tVar 4))) (tC (.int 1))) (tC (.int 0)))) (te := tVar 6) rfl scKp.nd (pi_tup (pgr gC))
        (blkOk_by (N := nKp) (sc := defScope sKeeping) (by decide +kernel)) (fun _ _ _ _ _ => pg_name (i := 6) scKp.nd rfl (.inl rfl))
        (fun _ _ _ _ _ => pts_one (pt_cmpR op_eq (pe_op op_andN (pe_op op_shrNN (pe_ix ix_list (pv 3) pe_int (fun _ _ => rfl)) (pe_op op_mulNN (pv 6) (pv 4))) pe_int) pe_int (nomark _))) (fun _ _ _ _ _ => pv 6))))))), ?_⟩
  -- days
  refine ⟨_, rfl, v, d, rfl, hd, hsz, fun H1 s1 => ⟨1, (Co09.days d : Int), rfl, ?_⟩⟩
  have emax : (if (Co09.days d : Int) > 1 then (Co09.days d : Int) else 1) = ((n0 + 1 : Nat) : Int) := by
    have := max_int 1 (Co09.days d)
    rw [← hn0]
    exact this
  rw [emax]
  have hd1 := DAt.keep (TK.same s1) d v hd
  -- table
  refine ⟨_, rfl, v, d, rfl, hd1, hsz, fun H2 x2 ws s2 n2 hx2 hps => ?_⟩
  have hfl := flat_len d
  refine ⟨_, rfl, _, rfl, x2, p, ws, flat d, rfl, SqL.of hx2, hps, hp, hn5, flat_ok d, fun e he => ?_, ?_, by omega, fun H3 x3 t3 s3 n3 hx3 T3 => ?_⟩
  · rw [deals_flat] at he
    refine ⟨parts_wf d hwf e he, ?_⟩
    have := parts_days d e he
    have : Co09.days d ≤ n0 + 1 := by rw [← hn0]; unfold ahead; omega
    omega
  · rw [deals_flat]
    exact Nat.le_trans (parts_size d) hsz
  have T3' : Tab (n0 + 1) (bad p (n0 + 1) d) t3 := T3.congr fun o r _ _ => by rw [deals_flat]; exact (bad_parts p (n0 + 1) o r d).symm
  refine ⟨x3, n0, t3, rfl, SqL.of hx3, T3.len, by omega, fun H4 x4 s4 n4 hx4 => ?_⟩
  have s04 := ((s1.trans s2).trans s3).trans s4
  -- the loop
  refine ⟨invKeep K H v p n0 d, ⟨n0, n0, 0, x4, _, rfl, rfl, rfl, s04, hx4, ltab_start T3'⟩, fun m σ H5 hW => ?_⟩
  obtain ⟨i, j, tb, t, rfl, hij, rfl, s5, htb, hT⟩ := hW
  refine ⟨_, rfl, tb, _, rfl, .inl (SqL.of htb), _, 1, rfl, rfl, _, rfl, ite2 (fun c => ?_) (fun c => ?_)⟩
  · have hi : i ≠ 0 := fun z => by
      have := of_decide_eq_true c
      rw [nl_len, hT.len, z] at this
      exact absurd this (by decide)
    obtain ⟨i, rfl⟩ : ∃ i', i = i' + 1 := ⟨i - 1, by omega⟩
    refine ⟨fun σ' H' => ∃ m', m' < i + 1 ∧ invKeep K H v p n0 d m' σ' H', fun _ _ q => q, ?_⟩
    have htl : t.length ≤ 1024 := by
      rw [hT.len]
      exact pow4_le5 (by omega)
    refine ⟨_, rfl, tb, rfl, ⟨_, SqL.of htb⟩, fun D nD => lc_list (K := K) (a := tb) (xs := nl t)
      (fun k H' => Same H5 H' ∧ H' D = some (.lst (nl ((t.map (best (4 ^ j))).take k)))) ⟨same_new nD, upd_same⟩ (fun k H' _ g => SqL.of (g.1 _ _ htb)) ?_ ?_⟩
    · rintro k u H6 hu ⟨s6, hD⟩
      obtain ⟨un, hun, rfl⟩ := nl_inv hu
      have hrow : (t.map (best (4 ^ j)))[k]? = some (best (4 ^ j) un) := by
        rw [List.getElem?_map, hun]
        rfl
      refine ⟨rfl, ?_⟩
      refine ⟨_, rfl, _, rfl, un, 4 ^ j, rfl, _, hD, ?_, same_upd s6 nD, ?_⟩
      · rw [nl_len, List.length_take, List.length_map]
        exact small6 (by omega)
      · rw [upd_same, take_more hrow]
        unfold nl
        rw [List.map_append]
        rfl
    · rintro H6 ⟨s6, hD⟩
      rw [List.take_of_length_le (by rw [List.length_map, nl_len]; exact Nat.le_refl _)] at hD
      refine ⟨D, i, _, rfl, SqL.of hD, by rw [List.length_map]; exact hT.len, by omega, fun H7 x7 s7 n7 hx7 => ?_⟩
      refine ⟨_, rfl, aC, _, rfl, .inr (sC _), 4 ^ j, 4, rfl, rfl, ?_, i, by omega, i, j + 1, x7, _, rfl, by omega, rfl, (s5.trans s6).trans s7, hx7, ltab_next hT⟩
      have : 4 ^ j ≤ 1024 := pow4_le5 (by omega)
      omega
  · have hi : i = 0 := by
      cases i with
      | zero => rfl
      | succ i =>
        refine absurd (decide_eq_true ?_) c
        rw [nl_len, hT.len, pow_succ4]
        have : 0 < 4 ^ i := Nat.pow_pos (by decide)
        omega
    subst hi
    obtain ⟨row, rfl⟩ : ∃ row, t = [row] := by
      have := hT.len
      match t, this with
      | [row], _ => exact ⟨row, rfl⟩
    have hj : j = n0 := by omega
    subst hj
    have hkeep := keep_last hn0 hT
    refine ⟨aC, rfl, ⟨_, sC _⟩, fun D nD => lc_tup (K := K) (a := aC) (xs := nl [0, 1, 2, 3])
      (fun k H' => Same H5 H' ∧ H' D = some (.lst (nl ((([0, 1, 2, 3] : List Nat).take k).filter fun c => !row.testBit (c * 4 ^ j))))) ⟨same_new nD, upd_same⟩ (fun k H' _ _ => sC _) ?_ ?_⟩
    · rintro k u H6 hu ⟨s6, hD⟩
      obtain ⟨un, hun, rfl⟩ := nl_inv hu
      have hu3 : un ≤ 3 := by
        have : k < 4 := by
          have := (List.getElem?_eq_some_iff.mp hun).1
          simpa using this
        have : k = 0 ∨ k = 1 ∨ k = 2 ∨ k = 3 := by omega
        rcases this with rfl | rfl | rfl | rfl <;> (cases hun; decide)
      refine ⟨rfl, ?_⟩
      refine ⟨_, rfl, tb, _, 0, _, rfl, rfl, SqL.of (s6 _ _ htb), atI_nat (j := 0) rfl, _, rfl, _, rfl, un, 4 ^ j, rfl, rfl, by omega, row, un * 4 ^ j, rfl, rfl, row >>> (un * 4 ^ j), 1, rfl, rfl, rfl, _, rfl, ?_⟩
      rw [bit_zero]
      have hsn : ((([0, 1, 2, 3] : List Nat).take (k + 1)).filter fun c => !row.testBit (c * 4 ^ j)) = ((([0, 1, 2, 3] : List Nat).take k).filter fun c => !row.testBit (c * 4 ^ j)) ++ (if (!row.testBit (un * 4 ^ j)) = true then [un] else []) := by
        rw [take_more hun, List.filter_append, List.filter_cons, List.filter_nil]
      refine ite2 (fun c => ?_) (fun c => ?_)
      · refine ⟨_, rfl, _, hD, ?_, same_upd s6 nD, ?_⟩
        · rw [nl_len]
          refine small6 (Nat.le_trans (List.length_filter_le _ _) ?_)
          rw [List.length_take]
          show min k 4 ≤ _
          omega
        · rw [upd_same, hsn, if_pos c]
          unfold nl
          rw [List.map_append]
          rfl
      · refine ⟨s6, ?_⟩
        rw [hsn, if_neg c, List.append_nil]
        exact hD
    · rintro H6 ⟨s6, hD⟩
      refine q H6 D (s5.trans s6) (s5.free nD) ?_
      rw [hD]
      have e : (([0, 1, 2, 3] : List Nat).take (nl [0, 1, 2, 3]).length) = Co09.sets := rfl
      rw [e, hkeep]
end
end Duty

namespace Duty
open PySem PySem.Spec PyProof.Rows L2 DRul
open Co09 (Deal)
abbrev sMeth (j : Nat) : Stmt := inClass (top 64) j
abbrev sCallLen : Stmt := top 65
abbrev sAnswerTo : Stmt := top 66
abbrev sAnswers : Stmt := top 67
structure Ga (K : PySem.W.Frag) (mg : Str → Option Value) : Prop where
  agree : GI mg "AGREE" 0
  add : GI mg "ADD" 1
  day : GI mg "DAY" 2
  stands : GI mg "STANDS" 3
  who : GI mg "WHO_IS_IN_BREACH" 4
  safe : GI mg "SAFE" 5
  today : GI mg "TODAY" 6
  left : GI mg "LEFT" 7
  notAgr : GI mg "NOT_AN_AGREEMENT" (-1)
  notCh : GI mg "NOT_A_CHOICE" (-1)
  notPa : GI mg "NOT_A_PARTY" (-2)
  tooLong : GI mg "TOO_LONG" (-5)
  noSuch : GI mg "NO_SUCH_CHOICE" (-6)
  highest : GI mg "HIGHEST_CHOICE" 3
  parties : GT K mg "PARTIES" (nl [0, 1])
  notIn : GI mg "NOT_IN_BREACH" (-1)
  min : mg "min" = none
  list : mg "list" = none
structure Tx (K : PySem.W.Frag) (mg : Str → Option Value) (C : Addr) : Prop where
  cl : Cls K C
  nA : NoAttr K C "agreement"
  nD : NoAttr K C "date"
  nS : NoAttr K C "since"
  gC : mg "Agreed" = some (.ref C)
/-- a method that keeps its promise -/
def MCal (P : Program) (w : World) (K : PySem.W.Frag) (mg : Str → Option Value) (base : Heap) (C : Addr) (k : Nat) (x : Str) (ps : List Str) (sp : Sp) : Prop :=
  ∃ (f : Addr) (fd : FuncData), Meth K C x f ∧ Binds K fd ps [] ∧ FnOk P w K mg base CX0 k f fd ps sp
/-! ### the object -/
def lF (v : V) (n : Nat) (sl : Addr) : List (Str × V) := [("agreement", v), ("date", ni n), ("since", .ref sl)]
theorem lk_here {k : Str} {v : V} {r : List (Str × V)} : List.lookup k ((k, v) :: r) = some v := by
  simp only [List.lookup, beq_self_eq_true k]
theorem lk_past {k g : Str} {v : V} {r : List (Str × V)} (h : (k == g) = false) : List.lookup k ((g, v) :: r) = List.lookup k r := by
  simp only [List.lookup, h]
theorem lF_agr (v : V) (n : Nat) (sl : Addr) : (lF v n sl).lookup ("agreement" : Str) = some v := lk_here
theorem lF_date (v : V) (n : Nat) (sl : Addr) : (lF v n sl).lookup ("date" : Str) = some (ni n) := (lk_past (by decide +kernel)).trans lk_here
theorem lF_since (v : V) (n : Nat) (sl : Addr) : (lF v n sl).lookup ("since" : Str) = some (.ref sl) := (lk_past (by decide +kernel)).trans ((lk_past (by decide +kernel)).trans lk_here)
theorem lF_none {m : Str} (v : V) (n : Nat) (sl : Addr) (h1 : (m == ("agreement" : Str)) = false) (h2 : (m == ("date" : Str)) = false) (h3 : (m == ("since" : Str)) = false) : (lF v n sl).lookup m = none :=
  (lk_past h1).trans ((lk_past h2).trans ((lk_past h3).trans rfl))
theorem pf_here {f : Str} {v x : V} {r : List (Str × V)} : putF f v ((f, x) :: r) = (f, v) :: r := if_pos rfl
theorem pf_past {f g : Str} {v x : V} {r : List (Str × V)} (h : ¬ g = f) : putF f v ((g, x) :: r) = (g, x) :: putF f v r := if_neg h
theorem lF_putA (v v' : V) (n : Nat) (sl : Addr) : putF "agreement" v' (lF v n sl) = lF v' n sl := pf_here
theorem lF_putD (v : V) (n n' : Nat) (sl : Addr) : putF "date" (ni n') (lF v n sl) = lF v n' sl := (pf_past (by decide +kernel)).trans (congrArg _ pf_here)
theorem lF_putS (v : V) (n : Nat) (sl sl' : Addr) : putF "since" (.ref sl') (lF v n sl) = lF v n sl' := (pf_past (by decide +kernel)).trans (congrArg _ ((pf_past (by decide +kernel)).trans (congrArg _ pf_here)))
theorem lF_new (v : V) (n : Nat) (sl : Addr) : putF "since" (.ref sl) (putF "date" (ni n) (putF "agreement" v [])) = lF v n sl := by
  have e1 : putF "agreement" v [] = [(("agreement" : Str), v)] := rfl
  rw [e1, pf_past (by decide +kernel)]
  have e2 : putF "date" (ni n) [] = [(("date" : Str), ni n)] := rfl
  rw [e2, pf_past (by decide +kernel), pf_past (by decide +kernel)]
  rfl
theorem lF_all (v0 v : V) (n0 n : Nat) (sl0 sl : Addr) : putF "since" (.ref sl) (putF "date" (ni n) (putF "agreement" v (lF v0 n0 sl0))) = lF v n sl := by
  rw [lF_putA, lF_putD, lF_putS]
def vO : Option Nat → V
  | some k => ni k
  | none => .int (-1)
/-- the line's object at x, its list of days at sl -/
def LineAt (K : PySem.W.Frag) (C : Addr) (H : Hp) (x sl : Addr) (d : Deal) (n : Nat) (fs : List (Option Nat)) : Prop :=
  ∃ dx v, H x = some (.ins C dx (lF v n sl)) ∧ DAt K H d v ∧ H sl = some (.lst (fs.map vO))
def note1 (f : Option Nat) (b : Bool) (n : Nat) : Option Nat := match f with
  | some k => some k
  | none => if b = true then some n else none
def noteAll (fs : List (Option Nat)) (d : Deal) (n : Nat) : List (Option Nat) := [note1 (fs.getD 0 none) (Co09.blamed 0 d) n, note1 (fs.getD 1 none) (Co09.blamed 1 d) n]
theorem noted_eq (s : Co09.St) (c : Deal) (n : Nat) : Co09.noted s c n = noteAll s.first c n := rfl
/-- all but these two stands as it was -/
def Kept (H H' : Hp) (x sl : Addr) : Prop := ∀ b o, H b = some o → b ≠ x → b ≠ sl → H' b = some o
/-! ### promises -/
def spNote (K : PySem.W.Frag) (C : Addr) : Sp := fun vs H Q _ => ∃ (x sl : Addr) (d : Deal) (n : Nat) (fs : List (Option Nat)), vs = [.ref x] ∧ LineAt K C H x sl d n fs ∧ fs.length = 2 ∧ size d ≤ 10000 ∧
  ∀ H', LineAt K C H' x sl d n (noteAll fs d n) → (∀ b o, H b = some o → b ≠ sl → H' b = some o) → Q .non H'
def spBegin (K : PySem.W.Frag) (C : Addr) : Sp := fun vs H Q _ => ∃ (x dx : Addr) (v : V) (fs : List (Str × V)) (d : Deal), vs = [.ref x, v] ∧ H x = some (.ins C dx fs) ∧ (fs = [] ∨ ∃ v0 n0 sl0, fs = lF v0 n0 sl0) ∧ DAt K H d v ∧ size d ≤ 10000 ∧
  ∀ H' sl, H sl = none → LineAt K C H' x sl d 0 (noteAll [none, none] d 0) → (∀ b o, H b = some o → b ≠ x → H' b = some o) → Q .non H'
def spGoOn (K : PySem.W.Frag) (C : Addr) : Sp := fun vs H Q _ => ∃ (x sl : Addr) (v : V) (d0 d : Deal) (n : Nat) (fs : List (Option Nat)), vs = [.ref x, v] ∧ LineAt K C H x sl d0 n fs ∧ fs.length = 2 ∧ DAt K H d v ∧ size d ≤ 10000 ∧
  ∀ H', LineAt K C H' x sl d n (noteAll fs d n) → Kept H H' x sl → Q .non H'
def spInit (K : PySem.W.Frag) (C : Addr) : Sp := fun vs H Q _ => ∃ (x dx : Addr), vs = [.ref x] ∧ H x = some (.ins C dx []) ∧
  ∀ H' sl, H sl = none → LineAt K C H' x sl .over 0 [none, none] → (∀ b o, H b = some o → b ≠ x → H' b = some o) → Q .non H'
section
variable {P : Program} {w : World} {K : PySem.W.Frag} {mg : Str → Option Value} {base : Heap} {C : Addr}
/-! ### note_breaches -/
theorem scNote : FnScope ["self", "party"] ["self"] (defScope (sMeth 3)) := ⟨rfl, rfl, rfl, by decide +kernel, rfl, by decide +kernel, by decide +kernel⟩
theorem vO_none {f : Option Nat} : decide (vO f = V.int (-1)) = f.isNone := by
  cases f with
  | none => rfl
  | some k =>
    refine decide_eq_false fun z => ?_
    have := V.int.inj z
    omega
theorem set_same {α : Type} {l : List α} {p : Nat} {a : α} (h : l[p]? = some a) : l.set p a = l := by
  obtain ⟨h1, h2⟩ := List.getElem?_eq_some_iff.mp h
  subst h2
  exact List.set_getElem_self h1
theorem ok_note {f : Addr} {fd : FuncData} (F : Fun K "note_breaches" "Agreed.note_breaches" (sMeth 3) f fd) (T : Tx K mg C) (G : Ga K mg) (C1 : Cal P w K mg base 2 "is_in_breach" ["agreement", "party"] (spInBreach K)) : FnOk P w K mg base CX0 3 f fd ["self"] (spNote K C) := by
  obtain ⟨f1, fd1, g1, k1, b1, F1⟩ := C1
  obtain ⟨aP, gP, sP⟩ := G.parties
  obtain ⟨tN, gN⟩ := G.notIn
  refine F.ok scNote (fun vs H Q E h => ?_) (fun cdv A outer s H vs Q E hr h => ?_)
  · obtain ⟨x, sl, d, n, fs, rfl, _⟩ := h
    rfl
  obtain ⟨x, sl, d, n, fs, rfl, ⟨dx, v, hx, hd, hsl⟩, hfs, hsz, q⟩ := h
  refine ⟨_, pss_one (ps_for PassesOwn.never rfl (pi_tup (pgr gP)) (pg_name (i := 1) scNote.nd rfl (.inl rfl))
    (pss_one (ps_if (PW.pt (pw_and (pt_cmpR op_eq (pe_ix ix_list (pe_fld (pv 0) rfl) (pv 1) (fun _ _ => rfl)) (pgi gN) (nomark _)) (pw_and1 (pt_val (pe_call F1 hr rfl g1 k1 b1 .nil pass0 (pa_cons (pe_fld (pv 0) rfl) (pa_cons (pv 1) pa_nil)))))))
      (pss_one (ps_asg (pe_fld (pv 0) rfl) (pg_sub (pe_fld (pv 0) rfl) (pv 1) set_list))) pss_nil))), ?_⟩
  obtain ⟨f0, f1', rfl⟩ : ∃ a b, fs = [a, b] := by
    match fs, hfs with
    | [a, b], _ => exact ⟨a, b, rfl⟩
  have nxs : x ≠ sl := ne_of hx hsl (by intro z; cases z)
  let cur : Nat → List (Option Nat) := fun i => if i = 0 then [f0, f1'] else if i = 1 then [note1 f0 (Co09.blamed 0 d) n, f1'] else [note1 f0 (Co09.blamed 0 d) n, note1 f1' (Co09.blamed 1 d) n]
  refine ⟨aP, rfl, ⟨_, sP _⟩, for_tup (K := K) (a := aP) (xs := nl [0, 1])
    (fun i σ H' => ∃ y1, σ = [some (.ref x), y1] ∧ (∀ b o, H b = some o → b ≠ sl → H' b = some o) ∧ H' sl = some (.lst ((cur i).map vO))) ⟨none, rfl, fun b o h _ => h, hsl⟩ (fun i σ H' _ _ => sP _) ?_ ?_⟩
  · rintro i u σ H1 hu ⟨y1, rfl, hk, hs1⟩
    obtain ⟨p, hp, rfl⟩ := nl_inv hu
    have hx1 := hk _ _ hx nxs
    have t1 : TK H H1 := fun a xs h => by
      have na : a ≠ sl := fun z => by
        rcases h with h | ⟨_, h⟩ <;> (rw [z, hsl] at h; cases h)
      rcases h with h | ⟨o, h⟩
      · exact .inl (hk _ _ h na)
      · exact .inr ⟨o, hk _ _ h na⟩
    have hd1 := DAt.keep t1 d v hd
    obtain ⟨fp, hfp, hp2, hnext⟩ : ∃ fp, (cur i)[p]? = some fp ∧ p < 2 ∧ cur (i + 1) = (cur i).set p (note1 fp (Co09.blamed p d) n) := by
      have hi : i < 2 := by
        have := (List.getElem?_eq_some_iff.mp hp).1
        simpa using this
      rcases (show i = 0 ∨ i = 1 by omega) with rfl | rfl
      · cases hp; exact ⟨f0, rfl, by decide, rfl⟩
      · cases hp; exact ⟨f1', rfl, by decide, rfl⟩
    have hat : atI ((cur i).map vO) (p : Int) = some (vO fp) := atI_nat (by rw [List.getElem?_map, hfp]; rfl)
    have hplt : p < (cur i).length := (List.getElem?_eq_some_iff.mp hfp).1
    refine ⟨_, rfl, x, C, dx, _, _, rfl, hx1, T.cl, T.nS, lF_since _ _ _, _, rfl, sl, _, (p : Int), _, rfl, rfl, SqL.of hs1, hat, ?_, ?_⟩
    · cases fp <;> rfl
    refine ⟨_, rfl, ?_⟩
    rw [vO_none]
    cases fp with
    | some k =>
      refine ⟨_, rfl, hk, ?_⟩
      rw [hs1, hnext]
      show some (HO.lst _) = some (HO.lst (((cur i).set p (some k)).map vO))
      rw [set_same hfp]
    | none =>
      refine ⟨_, rfl, x, C, dx, _, _, rfl, hx1, T.cl, T.nA, lF_agr _ _ _, _, rfl, v, d, p, rfl, hd1, hsz, fun H2 s2 => ?_⟩
      have hx2 := s2 _ _ hx1
      have hs2 := s2 _ _ hs1
      refine ⟨_, rfl, ite2 (fun c => ?_) (fun c => ?_)⟩
      · refine ⟨_, rfl, x, C, dx, _, _, rfl, hx2, T.cl, T.nD, lF_date _ _ _, _, rfl, x, C, dx, _, _, rfl, hx2, T.cl, T.nS, lF_since _ _ _, _, rfl, sl, _, (p : Int), p, rfl, rfl, hs2, ?_, _, rfl, fun b o h hb => ?_, ?_⟩
        · unfold ixN
          rw [if_pos (by omega), if_pos (by rw [List.length_map]; omega)]
          rfl
        · rw [upd_ne hb]
          exact s2 _ _ (hk _ _ h hb)
        · rw [upd_same, hnext]
          show some (HO.lst _) = some (HO.lst (((cur i).set p (if Co09.blamed p d = true then some n else none)).map vO))
          rw [if_pos c, List.map_set]
          rfl
      · refine ⟨_, rfl, fun b o h hb => s2 _ _ (hk _ _ h hb), ?_⟩
        rw [hs2, hnext]
        show some (HO.lst _) = some (HO.lst (((cur i).set p (if Co09.blamed p d = true then some n else none)).map vO))
        rw [if_neg c, set_same hfp]
  · rintro σ H1 ⟨y1, rfl, hk, hs1⟩
    have t1 : TK H H1 := fun a xs h => by
      have na : a ≠ sl := fun z => by
        rcases h with h | ⟨_, h⟩ <;> (rw [z, hsl] at h; cases h)
      rcases h with h | ⟨o, h⟩
      · exact .inl (hk _ _ h na)
      · exact .inr ⟨o, hk _ _ h na⟩
    exact q H1 ⟨dx, v, hk _ _ hx nxs, DAt.keep t1 d v hd, hs1⟩ hk
end
end Duty

namespace Duty
open PySem PySem.Spec PyProof.Rows L2 DRul
open Co09 (Deal)
theorem TK.kept {H H' : Hp} {x sl C dx : Addr} {fs : List (Str × V)} {xs : List V} (hx : H x = some (.ins C dx fs)) (hs : H sl = some (.lst xs)) (k : Kept H H' x sl) : TK H H' := fun a ys h => by
  have n1 : a ≠ x := fun z => by
    rcases h with h | ⟨_, h⟩ <;> (rw [z, hx] at h; cases h)
  have n2 : a ≠ sl := fun z => by
    rcases h with h | ⟨_, h⟩ <;> (rw [z, hs] at h; cases h)
  rcases h with h | ⟨o, h⟩
  · exact .inl (k _ _ h n1 n2)
  · exact .inr ⟨o, k _ _ h n1 n2⟩
theorem LineAt.same {K : PySem.W.Frag} {C x sl : Addr} {H H' : Hp} {d : Deal} {n : Nat} {fs : List (Option Nat)} (s : Same H H') (h : LineAt K C H x sl d n fs) : LineAt K C H' x sl d n fs := by
  obtain ⟨dx, v, h1, h2, h3⟩ := h
  exact ⟨dx, v, s _ _ h1, DAt.keep (TK.same s) _ _ h2, s _ _ h3⟩
/-- the line is well: what every call asks -/
structure LineOk (K : PySem.W.Frag) (C : Addr) (H : Hp) (x sl : Addr) (s : Co09.St) : Prop where
  at_ : LineAt K C H x sl s.deal s.day s.first
  two : s.first.length = 2
  wf_ : wf s.deal
  sz : size s.deal ≤ 9000
/-- how a call ends -/
def Done (K : PySem.W.Frag) (C : Addr) (H : Hp) (x sl : Addr) (r : Co09.St × List Int) (Q : VK) : Prop :=
  ∀ H' sl' p, LineAt K C H' x sl' r.1.deal r.1.day r.1.first → (sl' = sl ∨ H sl' = none) → Kept H H' x sl → H p = none → H' p = some (.lst (r.2.map V.int)) → Q (.ref p) H'
theorem Done.still {K : PySem.W.Frag} {C : Addr} {H H' : Hp} {x sl p : Addr} {s : Co09.St} {ans : List Int} {Q : VK} (h : Done K C H x sl (s, ans) Q) (L : LineAt K C H x sl s.deal s.day s.first) (sm : Same H H') (np : H p = none) (hp : H' p = some (.lst (ans.map V.int))) : Q (.ref p) H' :=
  h H' sl p (L.same sm) (.inl rfl) (fun b o e _ _ => sm b o e) np hp
/-! ### promises -/
def spAgree (K : PySem.W.Frag) (C : Addr) (mk : List Nat → Co09.Call) : Sp := fun vs H Q _ => ∃ (x sl a : Addr) (s : Co09.St) (ns : List Nat), vs = [.ref x, .ref a] ∧ LineOk K C H x sl s ∧ SqL K H a (nl ns) ∧ ns.length ≤ 100 ∧ Done K C H x sl (Co09.stepCall s (mk ns)) Q
def spDay (K : PySem.W.Frag) (C : Addr) : Sp := fun vs H Q _ => ∃ (x sl : Addr) (s : Co09.St) (a b : Nat), vs = [.ref x, ni a, ni b] ∧ LineOk K C H x sl s ∧ Done K C H x sl (Co09.stepCall s (.day a b)) Q
def spPlain (K : PySem.W.Frag) (C : Addr) (c : Co09.Call) : Sp := fun vs H Q _ => ∃ (x sl : Addr) (s : Co09.St), vs = [.ref x] ∧ LineOk K C H x sl s ∧ Done K C H x sl (Co09.stepCall s c) Q
def spAhead (K : PySem.W.Frag) (C : Addr) (mk : Nat → Co09.Call) : Sp := fun vs H Q _ => ∃ (x sl : Addr) (s : Co09.St) (p : Nat), vs = [.ref x, ni p] ∧ LineOk K C H x sl s ∧ Done K C H x sl (Co09.stepCall s (mk p)) Q
def spRefusal (K : PySem.W.Frag) (C : Addr) : Sp := fun vs H Q _ => ∃ (x sl : Addr) (s : Co09.St) (p : Nat), vs = [.ref x, ni p] ∧ LineOk K C H x sl s ∧
  ∀ H', Same H H' → Q (if 2 ≤ p then .int (-2) else if 5 < Co09.days s.deal then .int (-5) else .non) H'
section
variable {P : Program} {w : World} {K : PySem.W.Frag} {mg : Str → Option Value} {base : Heap} {C : Addr}
/-! ### begin -/
theorem scBegin : FnScope ["self", "agreement"] ["self", "agreement"] (defScope (sMeth 1)) := ⟨rfl, rfl, rfl, by decide +kernel, rfl, by decide +kernel, by decide +kernel⟩
theorem ok_begin {f : Addr} {fd : FuncData} (F : Fun K "begin" "Agreed.begin" (sMeth 1) f fd) (T : Tx K mg C) (G : Ga K mg) (C1 : MCal P w K mg base C 3 "note_breaches" ["self"] (spNote K C)) : FnOk P w K mg base CX0 4 f fd ["self", "agreement"] (spBegin K C) := by
  obtain ⟨f1, fd1, m1, b1, F1⟩ := C1
  obtain ⟨tN, gN⟩ := G.notIn
  refine F.ok scBegin (fun vs H Q E h => ?_) (fun cdv A outer s H vs Q E hr h => ?_)
  · obtain ⟨x, dx, v, fs, d, rfl, _⟩ := h
    rfl
  obtain ⟨x, dx, v, fs, d, rfl, hx, hfs, hd, hsz, q⟩ := h
  refine ⟨_, pss_cons (ps_fld (pv 0) (pv 1) rfl)
    (pss_cons (ps_fld (pv 0) pe_int rfl)
    (pss_cons (ps_fld (pv 0) (pe_lst (pa_cons (pgi gN) (pa_cons (pgi gN) pa_nil))) rfl)
    (pss_one (ps_expr (pe_meth0 (pv 0) T.cl m1 F1 hr b1 .nil pass0))))), ?_⟩
  have hfl : fs.length ≤ 3 := by
    rcases hfs with rfl | ⟨v0, n0, sl0, rfl⟩
    · exact Nat.zero_le _
    · exact Nat.le_refl _
  have l1 : (putF "agreement" v fs).length < 1000 := by
    rcases hfs with rfl | ⟨v0, n0, sl0, rfl⟩
    · show 1 < 1000; decide
    · rw [lF_putA]; show 3 < 1000; decide
  have l2 : (putF "date" (.int 0) (putF "agreement" v fs)).length < 1000 := by
    rcases hfs with rfl | ⟨v0, n0, sl0, rfl⟩
    · rw [show putF "agreement" v [] = [(("agreement" : Str), v)] from rfl, pf_past (by decide +kernel)]
      show 2 < 1000; decide
    · rw [lF_putA, show V.int 0 = ni 0 from rfl, lF_putD]; show 3 < 1000; decide
  refine ⟨_, rfl, _, rfl, x, C, dx, fs, rfl, hx, T.cl, T.nA, (by omega), ?_⟩
  refine ⟨_, rfl, x, C, dx, _, rfl, upd_same, T.cl, T.nD, l1, ?_⟩
  rw [upd_upd]
  refine ⟨(by show 2 ≤ sizeLine; decide), fun sl nsl => ?_⟩
  have nxs : x ≠ sl := fun z => by rw [← z, upd_same] at nsl; cases nsl
  refine ⟨_, rfl, x, C, dx, _, rfl, by rw [upd_ne nxs]; exact upd_same, T.cl, T.nS, l2, ?_⟩
  have nsl0 : H sl = none := by rw [upd_ne nxs.symm] at nsl; exact nsl
  have efs : putF "since" (.ref sl) (putF "date" (.int 0) (putF "agreement" v fs)) = lF v 0 sl := by
    rcases hfs with rfl | ⟨v0, n0, sl0, rfl⟩
    · exact lF_new v 0 sl
    · exact lF_all v0 v n0 0 sl0 sl
  rw [efs]
  have k2 : ∀ b o, H b = some o → b ≠ x → (upd (upd (upd H x (.ins C dx (putF "date" (.int 0) (putF "agreement" v fs)))) sl (.lst [.int (-1), .int (-1)])) x (.ins C dx (lF v 0 sl))) b = some o := fun b o h hb => by
    rw [upd_ne hb, upd_ne (ne_of_none h nsl0), upd_ne hb]
    exact h
  have hx2 : (upd (upd (upd H x (.ins C dx (putF "date" (.int 0) (putF "agreement" v fs)))) sl (.lst [.int (-1), .int (-1)])) x (.ins C dx (lF v 0 sl))) x = some (.ins C dx (lF v 0 sl)) := upd_same
  have hs2 : (upd (upd (upd H x (.ins C dx (putF "date" (.int 0) (putF "agreement" v fs)))) sl (.lst [.int (-1), .int (-1)])) x (.ins C dx (lF v 0 sl))) sl = some (.lst (([none, none] : List (Option Nat)).map vO)) := by
    rw [upd_ne nxs.symm]
    exact upd_same
  generalize upd (upd (upd H x (.ins C dx (putF "date" (.int 0) (putF "agreement" v fs)))) sl (.lst [.int (-1), .int (-1)])) x (.ins C dx (lF v 0 sl)) = H2 at k2 hx2 hs2 ⊢
  have t2 : TK H H2 := fun a ys h => by
    have n1 : a ≠ x := fun z => by
      rcases h with h | ⟨_, h⟩ <;> (rw [z, hx] at h; cases h)
    rcases h with h | ⟨o, h⟩
    · exact .inl (k2 _ _ h n1)
    · exact .inr ⟨o, k2 _ _ h n1⟩
  refine ⟨_, rfl, x, dx, _, rfl, hx2, lF_none _ _ _ (by decide +kernel) (by decide +kernel) (by decide +kernel), x, sl, d, 0, [none, none], rfl, ⟨dx, v, hx2, DAt.keep t2 d v hd, hs2⟩, rfl, hsz, fun H3 L3 k3 => ?_⟩
  exact q H3 sl nsl0 L3 fun b o h hb => k3 _ _ (k2 _ _ h hb) (ne_of_none h nsl0)
/-! ### go_on -/
theorem scGoOn : FnScope ["self", "agreement"] ["self", "agreement"] (defScope (sMeth 2)) := ⟨rfl, rfl, rfl, by decide +kernel, rfl, by decide +kernel, by decide +kernel⟩
theorem ok_goOn {f : Addr} {fd : FuncData} (F : Fun K "go_on" "Agreed.go_on" (sMeth 2) f fd) (T : Tx K mg C) (C1 : MCal P w K mg base C 3 "note_breaches" ["self"] (spNote K C)) : FnOk P w K mg base CX0 4 f fd ["self", "agreement"] (spGoOn K C) := by
  obtain ⟨f1, fd1, m1, b1, F1⟩ := C1
  refine F.ok scGoOn (fun vs H Q E h => ?_) (fun cdv A outer s H vs Q E hr h => ?_)
  · obtain ⟨x, sl, v, d0, d, n, fs, rfl, _⟩ := h
    rfl
  obtain ⟨x, sl, v, d0, d, n, fs, rfl, ⟨dx, v0, hx, hd0, hsl⟩, hfs, hd, hsz, q⟩ := h
  refine ⟨_, pss_cons (ps_fld (pv 0) (pv 1) rfl) (pss_one (ps_expr (pe_meth0 (pv 0) T.cl m1 F1 hr b1 .nil pass0))), ?_⟩
  have nxs : x ≠ sl := ne_of hx hsl (by intro z; cases z)
  refine ⟨_, rfl, _, rfl, x, C, dx, _, rfl, hx, T.cl, T.nA, (by show 3 < 1000; decide), ?_⟩
  rw [lF_putA]
  have t2 : TK H (upd H x (.ins C dx (lF v n sl))) := TK.ins hx
  have hx2 : (upd H x (.ins C dx (lF v n sl))) x = some (.ins C dx (lF v n sl)) := upd_same
  refine ⟨_, rfl, x, dx, _, rfl, hx2, lF_none _ _ _ (by decide +kernel) (by decide +kernel) (by decide +kernel), x, sl, d, n, fs, rfl, ⟨dx, v, hx2, DAt.keep t2 d v hd, by rw [upd_ne nxs.symm]; exact hsl⟩, hfs, hsz, fun H3 L3 k3 => ?_⟩
  exact q H3 L3 fun b o h hb hb2 => k3 _ _ (by rw [upd_ne hb]; exact h) hb2
/-! ### __init__ -/
theorem scInit : FnScope ["self"] ["self"] (defScope (sMeth 0)) := ⟨rfl, rfl, rfl, by decide +kernel, rfl, by decide +kernel, by decide +kernel⟩
theorem ok_init {f : Addr} {fd : FuncData} (F : Fun K "__init__" "Agreed.__init__" (sMeth 0) f fd) (T : Tx K mg C) (G0 : Gs K mg) (C1 : MCal P w K mg base C 4 "begin" ["self", "agreement"] (spBegin K C)) : FnOk P w K mg base CX0 5 f fd ["self"] (spInit K C) := by
  obtain ⟨f1, fd1, m1, b1, F1⟩ := C1
  obtain ⟨aO, gO, sO⟩ := G0.over
  refine F.ok scInit (fun vs H Q E h => ?_) (fun cdv A outer s H vs Q E hr h => ?_)
  · obtain ⟨x, dx, rfl, _⟩ := h
    rfl
  obtain ⟨x, dx, rfl, hx, q⟩ := h
  refine ⟨_, pss_one (ps_expr (pe_meth (pv 0) T.cl m1 F1 hr b1 .nil pass0 (pa_cons (pgr gO) pa_nil))), ?_⟩
  exact ⟨_, rfl, x, dx, [], rfl, hx, rfl, x, dx, .ref aO, [], .over, rfl, hx, .inl rfl, ⟨aO, rfl, sO H⟩, by decide, fun H' sl nsl L k => q H' sl nsl L k⟩
/-! ### agree -/
theorem dat_ref {K : PySem.W.Frag} {H : Hp} {d : Deal} {v : V} (h : DAt K H d v) : decide (v = .non) = false := by
  obtain ⟨x, xs, rfl, _⟩ := dat_tup d v h
  rfl
theorem scAgree : FnScope ["self", "numbers", "told"] ["self", "numbers"] (defScope (sMeth 4)) := ⟨rfl, rfl, rfl, by decide +kernel, rfl, by decide +kernel, by decide +kernel⟩
theorem ok_agree {f : Addr} {fd : FuncData} (F : Fun K "agree" "Agreed.agree" (sMeth 4) f fd) (T : Tx K mg C) (G : Ga K mg) (C1 : Cal P w K mg base 3 "agreement_of" ["numbers"] (spAgrOf K)) (C2 : MCal P w K mg base C 4 "begin" ["self", "agreement"] (spBegin K C)) (C3 : Cal P w K mg base 2 "how_long" ["agreement"] (spLong K)) :
    FnOk P w K mg base CX0 5 f fd ["self", "numbers"] (spAgree K C .agree) := by
  obtain ⟨f1, fd1, g1, k1, b1, F1⟩ := C1
  obtain ⟨f2, fd2, m2, b2, F2⟩ := C2
  obtain ⟨f3, fd3, g3, k3, b3, F3⟩ := C3
  obtain ⟨tN, gN⟩ := G.notAgr
  refine F.ok scAgree (fun vs H Q E h => ?_) (fun cdv A outer s H vs Q E hr h => ?_)
  · obtain ⟨x, sl, a, st, ns, rfl, _⟩ := h
    rfl
  obtain ⟨x, sl, a, st, ns, rfl, ok, hS, hlen, q⟩ := h
  have hr3 : Room 3 _ := hr.mono (by decide)
  have hr2 : Room 2 _ := hr.mono (by decide)
  refine ⟨_, pss_cons (ps_set (i := 2) scAgree.nd rfl (.inl rfl) (pe_call F1 hr3 rfl g1 k1 b1 .nil pass0 (pa_cons (pv 1) pa_nil)))
    (pss_cons (ps_if (pt_cmpR op_isN (pv 2) pe_non (nomark _)) (pss_one (ps_ret (pe_lst (pa_cons (pgi gN) pa_nil)))) pss_nil)
    (pss_cons (ps_expr (pe_meth (pv 0) T.cl m2 F2 hr b2 .nil pass0 (pa_cons (pv 2) pa_nil)))
    (pss_one (ps_ret (pe_lst (pa_cons (pe_call F3 hr2 rfl g3 k3 b3 .nil pass0 (pa_cons (pe_fld (pv 0) rfl) pa_nil)) pa_nil)))))), ?_⟩
  refine ⟨_, rfl, a, ns, rfl, hS, hlen, fun c ec H1 v s1 hv => ?_, fun ec H1 s1 => ?_⟩
  · have es : Co09.stepCall st (.agree ns) = ({ Co09.init with deal := c, first := Co09.noted Co09.init c 0 }, [(Co09.days c : Int)]) := by
      show (match Co09.deal? ns with | none => _ | some c => _) = _
      rw [ec]
    rw [es] at q
    have hc : size c ≤ 100 := by
      rcases deal_go ns with ⟨c', hs', e1, e2, e3, _, e5, _⟩ | ⟨e1, _⟩
      · rw [ec] at e1; cases e1; omega
      · rw [ec] at e1; cases e1
    refine ⟨_, rfl, rfl, _, rfl, ?_⟩
    rw [dat_ref hv]
    refine iteF ?_
    obtain ⟨dx, v0, hx, hd0, hsl⟩ := ok.at_
    have hx1 := s1 _ _ hx
    refine ⟨_, rfl, x, dx, _, rfl, hx1, lF_none _ _ _ (by decide +kernel) (by decide +kernel) (by decide +kernel), _, rfl, x, dx, v, _, c, rfl, hx1, .inr ⟨v0, st.day, sl, rfl⟩, hv, by omega, fun H2 sl' nsl' L2' k2 => ?_⟩
    have L2s := L2'
    obtain ⟨dx2, v2, hx2, hd2, hsl2⟩ := L2'
    refine ⟨_, rfl, x, C, dx2, _, _, rfl, hx2, T.cl, T.nA, lF_agr _ _ _, v2, c, rfl, hd2, by omega, fun H3 s3 => ⟨(by show 1 ≤ sizeLine; decide), fun p np => ?_⟩⟩
    have s4 : Same H2 (upd H3 p (.lst [ni (Co09.days c)])) := s3.trans (same_new np)
    refine q _ sl' p (L2s.same s4) (.inr (s1.free nsl')) (fun b o h hb _ => s4 _ _ (k2 _ _ (s1 _ _ h) hb)) ?_ upd_same
    by_cases e : p = x
    · exfalso
      rw [e, s3 _ _ hx2] at np
      cases np
    · cases hp0 : H p with
      | none => rfl
      | some o =>
        rw [s3 _ _ (k2 _ _ (s1 _ _ hp0) e)] at np
        cases np
  · have es : Co09.stepCall st (.agree ns) = (st, [-1]) := by
      show (match Co09.deal? ns with | none => _ | some c => _) = _
      rw [ec]
    rw [es] at q
    refine ⟨_, rfl, rfl, _, rfl, iteT ⟨(by show 1 ≤ sizeLine; decide), fun p np => ?_⟩⟩
    exact q.still ok.at_ (s1.trans (same_new np)) (s1.free np) upd_same
end
end Duty

namespace Duty
open PySem PySem.Spec PyProof.Rows L2 DRul
open Co09 (Deal)
theorem Kept.free {H H' : Hp} {x sl p : Addr} (k : Kept H H' x sl) (h1 : p ≠ x) (h2 : p ≠ sl) (h : H' p = none) : H p = none := by
  cases e : H p with
  | none => rfl
  | some o =>
    rw [k _ _ e h1 h2] at h
    cases h
section
variable {P : Program} {w : World} {K : PySem.W.Frag} {mg : Str → Option Value} {base : Heap} {C : Addr}
/-! ### add -/
theorem scAdd : FnScope ["self", "numbers", "told"] ["self", "numbers"] (defScope (sMeth 5)) := ⟨rfl, rfl, rfl, by decide +kernel, rfl, by decide +kernel, by decide +kernel⟩
theorem ok_add {f : Addr} {fd : FuncData} (F : Fun K "add" "Agreed.add" (sMeth 5) f fd) (T : Tx K mg C) (G : Ga K mg) (C1 : Cal P w K mg base 3 "agreement_of" ["numbers"] (spAgrOf K)) (C2 : MCal P w K mg base C 4 "go_on" ["self", "agreement"] (spGoOn K C)) (C3 : Cal P w K mg base 2 "how_long" ["agreement"] (spLong K))
    (C4 : Cal P w K mg base 1 "both" ["first", "second"] (spBoth K)) : FnOk P w K mg base CX0 5 f fd ["self", "numbers"] (spAgree K C .add) := by
  obtain ⟨f1, fd1, g1, k1, b1, F1⟩ := C1
  obtain ⟨f2, fd2, m2, b2, F2⟩ := C2
  obtain ⟨f3, fd3, g3, k3, b3, F3⟩ := C3
  obtain ⟨f4, fd4, g4, k4, b4, F4⟩ := C4
  obtain ⟨tN, gN⟩ := G.notAgr
  refine F.ok scAdd (fun vs H Q E h => ?_) (fun cdv A outer s H vs Q E hr h => ?_)
  · obtain ⟨x, sl, a, st, ns, rfl, _⟩ := h
    rfl
  obtain ⟨x, sl, a, st, ns, rfl, ok, hS, hlen, q⟩ := h
  have hr3 : Room 3 _ := hr.mono (by decide)
  have hr2 : Room 2 _ := hr.mono (by decide)
  have hr1 : Room 1 _ := hr.mono (by decide)
  refine ⟨_, pss_cons (ps_set (i := 2) scAdd.nd rfl (.inl rfl) (pe_call F1 hr3 rfl g1 k1 b1 .nil pass0 (pa_cons (pv 1) pa_nil)))
    (pss_cons (ps_if (pt_cmpR op_isN (pv 2) pe_non (nomark _)) (pss_one (ps_ret (pe_lst (pa_cons (pgi gN) pa_nil)))) pss_nil)
    (pss_cons (ps_expr (pe_meth (pv 0) T.cl m2 F2 hr b2 .nil pass0 (pa_cons (pe_call F4 hr1 rfl g4 k4 b4 .nil pass0 (pa_cons (pe_fld (pv 0) rfl) (pa_cons (pv 2) pa_nil))) pa_nil)))
    (pss_one (ps_ret (pe_lst (pa_cons (pe_call F3 hr2 rfl g3 k3 b3 .nil pass0 (pa_cons (pe_fld (pv 0) rfl) pa_nil)) pa_nil)))))), ?_⟩
  refine ⟨_, rfl, a, ns, rfl, hS, hlen, fun c ec H1 v s1 hv => ?_, fun ec H1 s1 => ?_⟩
  · have es : Co09.stepCall st (.add ns) = ({ st with deal := Co09.pair st.deal c, first := Co09.noted st (Co09.pair st.deal c) st.day }, [(Co09.days (Co09.pair st.deal c) : Int)]) := by
      show (match Co09.deal? ns with | none => _ | some c => _) = _
      rw [ec]
    rw [es] at q
    have hc : size c ≤ 100 := by
      rcases deal_go ns with ⟨c', hs', e1, e2, e3, _, e5, _⟩ | ⟨e1, _⟩
      · rw [ec] at e1; cases e1; omega
      · rw [ec] at e1; cases e1
    have hps : size (Co09.pair st.deal c) ≤ 10000 := by
      have := size_pair st.deal c
      have := ok.sz
      omega
    refine ⟨_, rfl, rfl, _, rfl, ?_⟩
    rw [dat_ref hv]
    refine iteF ?_
    obtain ⟨dx, v0, hx, hd0, hsl⟩ := ok.at_
    have hx1 := s1 _ _ hx
    have hd1 := DAt.keep (TK.same s1) _ _ hd0
    refine ⟨_, rfl, x, dx, _, rfl, hx1, lF_none _ _ _ (by decide +kernel) (by decide +kernel) (by decide +kernel), _, rfl, x, C, dx, _, _, rfl, hx1, T.cl, T.nA, lF_agr _ _ _, _, rfl, v0, v, st.deal, c, rfl, hd1, hv, fun H2 v2 s2 hv2 => ?_⟩
    have s02 := s1.trans s2
    refine ⟨x, sl, v2, st.deal, _, st.day, st.first, rfl, ok.at_.same s02, ok.two, hv2, hps, fun H3 L3 k3' => ?_⟩
    have L3s := L3
    obtain ⟨dx3, v3, hx3, hd3, hsl3⟩ := L3
    refine ⟨_, rfl, x, C, dx3, _, _, rfl, hx3, T.cl, T.nA, lF_agr _ _ _, v3, _, rfl, hd3, hps, fun H4 s4 => ⟨(by show 1 ≤ sizeLine; decide), fun p np => ?_⟩⟩
    have s5 : Same H3 (upd H4 p (.lst [ni (Co09.days (Co09.pair st.deal c))])) := s4.trans (same_new np)
    have n1 : p ≠ x := (ne_of_none (s4 _ _ hx3) np).symm
    have n2 : p ≠ sl := (ne_of_none (s4 _ _ hsl3) np).symm
    refine q _ sl p (L3s.same s5) (.inl rfl) (fun b o h hb hb2 => s5 _ _ (k3' _ _ (s02 _ _ h) hb hb2)) ?_ upd_same
    exact s02.free (k3'.free n1 n2 (s4.free np))
  · have es : Co09.stepCall st (.add ns) = (st, [-1]) := by
      show (match Co09.deal? ns with | none => _ | some c => _) = _
      rw [ec]
    rw [es] at q
    refine ⟨_, rfl, rfl, _, rfl, iteT ⟨(by show 1 ≤ sizeLine; decide), fun p np => ?_⟩⟩
    exact q.still ok.at_ (s1.trans (same_new np)) (s1.free np) upd_same
/-! ### day -/
theorem scDay : FnScope ["self", "a", "b"] ["self", "a", "b"] (defScope (sMeth 6)) := ⟨rfl, rfl, rfl, by decide +kernel, rfl, by decide +kernel, by decide +kernel⟩
theorem ok_day {f : Addr} {fd : FuncData} (F : Fun K "day" "Agreed.day" (sMeth 6) f fd) (T : Tx K mg C) (G : Ga K mg) (C1 : Cal P w K mg base 3 "after_day" ["agreement", "choices"] (spAfterDay K)) (C2 : MCal P w K mg base C 4 "go_on" ["self", "agreement"] (spGoOn K C)) (C3 : Cal P w K mg base 3 "is_settled" ["agreement"] (spSettled K)) :
    FnOk P w K mg base CX0 5 f fd ["self", "a", "b"] (spDay K C) := by
  obtain ⟨f1, fd1, g1, k1, b1, F1⟩ := C1
  obtain ⟨f2, fd2, m2, b2, F2⟩ := C2
  obtain ⟨f3, fd3, g3, k3, b3, F3⟩ := C3
  obtain ⟨tN, gN⟩ := G.notCh
  obtain ⟨tH, gH⟩ := G.highest
  refine F.ok scDay (fun vs H Q E h => ?_) (fun cdv A outer s H vs Q E hr h => ?_)
  · obtain ⟨x, sl, st, a, b, rfl, _⟩ := h
    rfl
  obtain ⟨x, sl, st, a, b, rfl, ok, q⟩ := h
  have hr3 : Room 3 _ := hr.mono (by decide)
  refine ⟨_, pss_cons (ps_if (PW.pt (pw_or (pt_cmpR op_gt (pv 1) (pgi gH) (nomark _)) (pw_or1 (pt_cmpR op_gt (pv 2) (pgi gH) (nomark _))))) (pss_one (ps_ret (pe_lst (pa_cons (pgi gN) pa_nil)))) pss_nil)
    (pss_cons (ps_fldaug (pv 0) pe_int in_add)
    (pss_cons (ps_expr (pe_meth (pv 0) T.cl m2 F2 hr b2 .nil pass0 (pa_cons (pe_call F1 hr3 rfl g1 k1 b1 .nil pass0 (pa_cons (pe_fld (pv 0) rfl) (pa_cons (pe_tup (pa_cons (pv 1) (pa_cons (pv 2) pa_nil))) pa_nil))) pa_nil)))
    (pss_one (ps_ret (pe_lst (pa_cons (pe_fld (pv 0) rfl) (pa_cons (pe_ifExp (pt_val (pe_call F3 hr3 rfl g3 k3 b3 .nil pass0 (pa_cons (pe_fld (pv 0) rfl) pa_nil))) pe_int pe_int) pa_nil))))))), ?_⟩
  by_cases hab : 4 ≤ a ∨ 4 ≤ b
  · have es : Co09.stepCall st (.day a b) = (st, [-1]) := if_pos hab
    rw [es] at q
    have fin : (tRet (tLst (tCons (tC (.int (-1))) tNil))) { nx := fun _ H' => Q .non H', rt := Q } (L2.start ["self", "a", "b"] [.ref x, ni a, ni b]) H := by
      refine ⟨(by show 1 ≤ sizeLine; decide), fun p np => ?_⟩
      exact q.still ok.at_ (same_new np) np upd_same
    refine ⟨_, rfl, (a : Int), 3, rfl, rfl, _, rfl, ite2 (fun c => ?_) (fun c => ?_)⟩
    · exact iteT fin
    · have ha : ¬ 4 ≤ a := fun z => c (decide_eq_true (by omega))
      refine ⟨_, rfl, (b : Int), 3, rfl, rfl, _, rfl, ite2 (fun c => ?_) (fun c => ?_)⟩
      · exact fin
      · exact absurd (decide_eq_true (by omega)) c
  have ha : ¬ 4 ≤ a := fun z => hab (.inl z)
  have hb : ¬ 4 ≤ b := fun z => hab (.inr z)
  have es : Co09.stepCall st (.day a b) = ({ st with deal := Co09.step (acts 0 a b) st.deal, day := st.day + 1, first := Co09.noted st (Co09.step (acts 0 a b) st.deal) (st.day + 1) }, [((st.day + 1 : Nat) : Int), if Co09.settled (Co09.step (acts 0 a b) st.deal) = true then 1 else 0]) := if_neg hab
  rw [es] at q
  refine ⟨_, rfl, (a : Int), 3, rfl, rfl, _, rfl, ite2 (fun c => absurd (of_decide_eq_true c) (by omega)) (fun _ => ?_)⟩
  refine ⟨_, rfl, (b : Int), 3, rfl, rfl, _, rfl, ite2 (fun c => absurd (of_decide_eq_true c) (by omega)) (fun _ => ?_)⟩
  obtain ⟨dx, v0, hx, hd0, hsl⟩ := ok.at_
  have nxs : x ≠ sl := ne_of hx hsl (by intro z; cases z)
  -- self.date += 1
  refine ⟨_, rfl, x, C, dx, _, _, rfl, hx, T.cl, T.nD, lF_date _ _ _, (st.day : Int), 1, rfl, rfl, dx, _, hx, (by show 3 < 1000; decide), ?_⟩
  have ed : V.int ((st.day : Int) + 1) = ni (st.day + 1) := rfl
  rw [ed, lF_putD]
  have t1 : TK H (upd H x (.ins C dx (lF v0 (st.day + 1) sl))) := TK.ins hx
  have hx1 : (upd H x (.ins C dx (lF v0 (st.day + 1) sl))) x = some (.ins C dx (lF v0 (st.day + 1) sl)) := upd_same
  have hs1 : (upd H x (.ins C dx (lF v0 (st.day + 1) sl))) sl = some (.lst (st.first.map vO)) := by rw [upd_ne nxs.symm]; exact hsl
  have kk : Kept H (upd H x (.ins C dx (lF v0 (st.day + 1) sl))) x sl := fun b o h hb _ => by rw [upd_ne hb]; exact h
  generalize upd H x (.ins C dx (lF v0 (st.day + 1) sl)) = H1 at t1 hx1 hs1 kk ⊢
  have hd1 := DAt.keep t1 _ _ hd0
  have hsz := ok.sz
  -- self.go_on(after_day(self.agreement, (a, b)))
  refine ⟨_, rfl, x, dx, _, rfl, hx1, lF_none _ _ _ (by decide +kernel) (by decide +kernel) (by decide +kernel), _, rfl, x, C, dx, _, _, rfl, hx1, T.cl, T.nA, lF_agr _ _ _, _, rfl, _, rfl, (by show 2 ≤ sizeLine; decide), fun t nt => ?_⟩
  have s2 : Same H1 (upd H1 t (.tup [ni a, ni b])) := same_new nt
  have ht : (upd H1 t (.tup [ni a, ni b])) t = some (.tup [ni a, ni b]) := upd_same
  refine ⟨v0, t, st.deal, a, b, rfl, DAt.keep (TK.same s2) _ _ hd1, ok.wf_, by omega, SqT.of ht, fun H3 v3 s3 hv3 => ?_⟩
  have s13 := s2.trans s3
  have hps : size (Co09.step (acts 0 a b) st.deal) ≤ 10000 := by
    have := step_size (acts 0 a b) st.deal
    omega
  refine ⟨x, sl, v3, st.deal, _, st.day + 1, st.first, rfl, ⟨dx, v0, s13 _ _ hx1, DAt.keep (TK.same s13) _ _ hd1, s13 _ _ hs1⟩, ok.two, hv3, hps, fun H4 L4 k4 => ?_⟩
  have L4s := L4
  obtain ⟨dx4, v4, hx4, hd4, hsl4⟩ := L4
  -- return
  refine ⟨_, rfl, x, C, dx4, _, _, rfl, hx4, T.cl, T.nD, lF_date _ _ _, _, rfl, x, C, dx4, _, _, rfl, hx4, T.cl, T.nA, lF_agr _ _ _, v4, _, rfl, hd4, hps, fun H5 s5 => ?_⟩
  have fin : ∀ z : Int, z = (if Co09.settled (Co09.step (acts 0 a b) st.deal) = true then 1 else 0) → ([ni (st.day + 1), V.int z].length ≤ sizeLine ∧ ∀ p, H5 p = none → Q (.ref p) (upd H5 p (.lst [ni (st.day + 1), .int z]))) := fun z ez => by
    refine ⟨(by show 2 ≤ sizeLine; decide), fun p np => ?_⟩
    have s6 : Same H4 (upd H5 p (.lst [ni (st.day + 1), .int z])) := s5.trans (same_new np)
    have n1 : p ≠ x := (ne_of_none (s5 _ _ hx4) np).symm
    have n2 : p ≠ sl := (ne_of_none (s5 _ _ hsl4) np).symm
    refine q _ sl p (L4s.same s6) (.inl rfl) (fun b o h hb hb2 => s6 _ _ (k4 _ _ (s13 _ _ (kk _ _ h hb hb2)) hb hb2)) ?_ ?_
    · exact kk.free n1 n2 (s13.free (k4.free n1 n2 (s5.free np)))
    · rw [upd_same, ez]
      rfl
  refine ⟨_, rfl, ite2 (fun c => ?_) (fun c => ?_)⟩
  · exact fin 1 (by rw [if_pos c])
  · exact fin 0 (by rw [if_neg c])
/-! ### stands -/
def rowOf (d : Deal) : List Nat := (Co09.stands d).flatten
theorem stands_flat : ∀ ds : List Deal, (ds.flatMap fun x => Co09.stands x).flatten = ds.flatMap rowOf
  | [] => rfl
  | d :: ds => by
    rw [List.flatMap_cons, List.flatMap_cons, List.flatten_append, stands_flat ds]
    rfl
theorem stands_len : ∀ ds : List Deal, (∀ d ∈ ds, isDuty d = true) → (ds.flatMap fun x => Co09.stands x).length = ds.length
  | [], _ => rfl
  | d :: ds, h => by
    have ih := stands_len ds fun x hx => h x (List.mem_cons_of_mem _ hx)
    obtain ⟨w, p, a, k, c, e, h1, h2, rfl⟩ := isDuty_get (h d (List.mem_cons_self ..))
    rw [List.flatMap_cons, List.length_append, ih, stands_du h1 h2, List.length_cons]
    simp
    omega
theorem row_len {d : Deal} (h : isDuty d = true) : (rowOf d).length = 4 := by
  obtain ⟨w, p, a, k, c, e, h1, h2, rfl⟩ := isDuty_get h
  unfold rowOf
  rw [stands_du h1 h2]
  rfl
theorem rows_len : ∀ ds : List Deal, (∀ d ∈ ds, isDuty d = true) → (ds.flatMap rowOf).length = 4 * ds.length
  | [], _ => rfl
  | d :: ds, h => by
    rw [List.flatMap_cons, List.length_append, rows_len ds fun x hx => h x (List.mem_cons_of_mem _ hx), row_len (h d (List.mem_cons_self ..)), List.length_cons]
    omega
theorem scStands : FnScope ["self", "duties", "answer", "duty"] ["self"] (defScope (sMeth 7)) := ⟨rfl, rfl, rfl, by decide +kernel, rfl, by decide +kernel, by decide +kernel⟩
theorem ok_stands {f : Addr} {fd : FuncData} (F : Fun K "stands" "Agreed.stands" (sMeth 7) f fd) (T : Tx K mg C) (G0 : Gs K mg) (C1 : Cal P w K mg base 2 "duties_of" ["agreement"] (spDuties K)) : FnOk P w K mg base CX0 3 f fd ["self"] (spPlain K C .stands) := by
  obtain ⟨f1, fd1, g1, k1, b1, F1⟩ := C1
  obtain ⟨tM, gM⟩ := G0.must
  obtain ⟨tW, gW⟩ := G0.who
  obtain ⟨tA, gA⟩ := G0.act
  obtain ⟨tD, gD⟩ := G0.days
  refine F.ok scStands (fun vs H Q E h => ?_) (fun cdv A outer s H vs Q E hr h => ?_)
  · obtain ⟨x, sl, st, rfl, _⟩ := h
    rfl
  obtain ⟨x, sl, st, rfl, ok, q⟩ := h
  refine ⟨_, pss_cons (ps_set (i := 1) scStands.nd rfl (.inl rfl) (pe_call F1 hr rfl g1 k1 b1 .nil pass0 (pa_cons (pe_fld (pv 0) rfl) pa_nil)))
    (pss_cons (ps_set (i := 2) scStands.nd rfl (.inl rfl) (pe_lst (pa_cons (pe_callB call_len_seq rfl G0.len PySem.boot_len (pa_cons (pv 1) pa_nil)) pa_nil)))
    (pss_cons (ps_for PassesOwn.never rfl (pi_list (pv 1)) (pg_name (i := 3) scStands.nd rfl (.inl rfl))
      (pss_one (ps_expr (pe_bm PySem.F.plainAttrs_list PySem.F.slot_list_extend PySem.F.type_list_extend mt_extend (pv 2) (pa_cons (pe_lst (pa_cons (pe_op op_sub (pe_ix ix_tup (pv 3) pe_int (fun _ _ => rfl)) (pgi gM)) (pa_cons (pe_ix ix_tup (pv 3) (pgi gW) (fun _ _ => rfl)) (pa_cons (pe_ix ix_tup (pv 3) (pgi gA) (fun _ _ => rfl)) (pa_cons (pe_ix ix_tup (pv 3) (pgi gD) (fun _ _ => rfl)) pa_nil))))) pa_nil)))))
    (pss_one (ps_ret (pv 2))))), ?_⟩
  obtain ⟨dx, v0, hx, hd0, hsl⟩ := ok.at_
  have hsz := ok.sz
  refine ⟨_, rfl, x, C, dx, _, _, rfl, hx, T.cl, T.nA, lF_agr _ _ _, v0, st.deal, rfl, hd0, by omega, fun H1 l ws s1 nl1 hl hds => ?_⟩
  rw [dutiesP_flat] at hds
  have hdu : ∀ d ∈ (parts st.deal).filter isDuty, isDuty d = true := fun d hd => (List.mem_filter.mp hd).2
  have hdl : ((parts st.deal).filter isDuty).length ≤ 10000 := by
    have h1 := stSize_len ((parts st.deal).filter isDuty)
    have h2 := duties_size (parts st.deal)
    have h3 := parts_size st.deal
    omega
  have eans : (Co09.stepCall st .stands) = (st, ((((parts st.deal).filter isDuty).length : Nat) : Int) :: Co09.ints (((parts st.deal).filter isDuty).flatMap rowOf)) := by
    show (st, ((Co09.stands st.deal).length : Int) :: Co09.ints (Co09.stands st.deal).flatten) = _
    rw [stands_duties, stands_flat, stands_len _ hdu]
  rw [eans] at q
  generalize (parts st.deal).filter isDuty = ds at hds hdu hdl q
  refine ⟨_, rfl, l, ws, rfl, .inl (SqL.of hl), (by show 1 ≤ sizeLine; decide), fun r nr => ?_⟩
  have s2 : Same H1 (upd H1 r (.lst [.int (ws.length : Int)])) := same_new nr
  have nr0 : H r = none := s1.free nr
  have hwl : ws.length = ds.length := hds.len
  refine ⟨_, rfl, l, rfl, ⟨_, SqL.of (s2 _ _ hl)⟩, for_list (K := K) (a := l) (xs := ws)
    (fun i σ H' => ∃ y3, σ = [some (.ref x), some (.ref l), some (.ref r), y3] ∧ (∀ b o, H1 b = some o → H' b = some o) ∧ H' r = some (.lst (ni ds.length :: nl ((ds.take i).flatMap rowOf)))) ⟨none, rfl, s2, by rw [upd_same, hwl]; rfl⟩ (fun i σ H' _ ⟨_, _, k, _⟩ => SqL.of (k _ _ hl)) ?_ ?_⟩
  · rintro i v σ H2 hv ⟨y3, rfl, k2, hr2⟩
    obtain ⟨d, hd, hdat⟩ := hds.get hv
    have hdat := DAt.keep (TK.same k2) d v hdat
    have hdu1 := hdu d (List.mem_of_getElem? hd)
    obtain ⟨w0, p0, a0, k0, c0, e0, q1, q2, rfl⟩ := isDuty_get hdu1
    obtain ⟨x0, y0, z0, rfl, hx0, _, _⟩ := (dat_du q1 q2).mp hdat
    refine ⟨_, rfl, .inl ⟨rfl, _, SqL.of hr2⟩, _, rfl, x0, _, 0, _, rfl, rfl, hx0, atI_nat (j := 0) rfl, (w0 : Int), 2, rfl, rfl, _, rfl, x0, _, 1, _, rfl, rfl, hx0, atI_nat (j := 1) rfl, _, rfl, x0, _, 2, _, rfl, rfl, hx0, atI_nat (j := 2) rfl, _, rfl, x0, _, 3, _, rfl, rfl, hx0, atI_nat (j := 3) rfl, (by show 4 ≤ sizeLine; decide), fun b nb => ?_⟩
    have ew : V.int ((w0 : Int) - 2) = ni (w0 - 2) := congrArg V.int (by omega)
    have s3 : Same H2 (upd H2 b (.lst [V.int ((w0 : Int) - 2), ni p0, ni a0, ni k0])) := same_new nb
    have hr3 := s3 _ _ hr2
    have hlt : ((ds.take i).flatMap rowOf).length ≤ 40000 := by
      rw [rows_len _ fun d hd => hdu d (List.mem_of_mem_take hd), List.length_take]
      omega
    refine ⟨r, b, _, [V.int ((w0 : Int) - 2), ni p0, ni a0, ni k0], rfl, rfl, hr3, upd_same, ?_, some (.ref x0), rfl, fun c o h => ?_, ?_⟩
    · rw [List.length_cons, nl_len]
      exact Nat.le_of_lt (small6 (by simp only [List.length_cons, List.length_nil]; omega))
    · rw [upd_ne (ne_of_none h nr)]
      exact s3 _ _ (k2 _ _ h)
    · rw [upd_same, take_more hd, List.flatMap_append, List.flatMap_singleton]
      unfold nl
      rw [List.map_append]
      have : rowOf (du w0 p0 a0 k0 c0 e0) = [w0 - 2, p0, a0, k0] := by
        unfold rowOf
        rw [stands_du q1 q2]
        rfl
      rw [this, ew]
      rfl
  · rintro σ H2 ⟨y3, rfl, k2, hr2⟩
    rw [hwl, List.take_length] at hr2
    refine ⟨_, rfl, q.still ok.at_ (s1.trans k2) nr0 ?_⟩
    rw [hr2]
    show some (HO.lst (ni ds.length :: nl (ds.flatMap rowOf))) = some (HO.lst (V.int (ds.length : Int) :: (Co09.ints (ds.flatMap rowOf)).map V.int))
    unfold Co09.ints nl
    rw [List.map_map]
    rfl
end
end Duty

namespace Duty
open PySem PySem.Spec PyProof.Rows L2 DRul
open Co09 (Deal)
section
variable {P : Program} {w : World} {K : PySem.W.Frag} {mg : Str → Option Value} {base : Heap} {C : Addr}
/-! ### who -/
theorem scWho : FnScope ["self"] ["self"] (defScope (sMeth 8)) := ⟨rfl, rfl, rfl, by decide +kernel, rfl, by decide +kernel, by decide +kernel⟩
theorem who_ans (fs : List (Option Nat)) : fs.map vO = (fs.map fun (x : Option Nat) => match x with | some k => (k : Int) | none => -1).map V.int := by
  rw [List.map_map]
  refine List.map_congr_left fun x _ => ?_
  cases x <;> rfl
theorem ok_who {f : Addr} {fd : FuncData} (F : Fun K "who" "Agreed.who" (sMeth 8) f fd) (T : Tx K mg C) (G : Ga K mg) : FnOk P w K mg base CX0 1 f fd ["self"] (spPlain K C .who) := by
  refine F.ok scWho (fun vs H Q E h => ?_) (fun cdv A outer s H vs Q E hr h => ?_)
  · obtain ⟨x, sl, st, rfl, _⟩ := h
    rfl
  obtain ⟨x, sl, st, rfl, ok, q⟩ := h
  refine ⟨_, pss_one (ps_ret (pe_callTy call_list_of rfl G.list (by decide +kernel) (pa_cons (pe_fld (pv 0) rfl) pa_nil))), ?_⟩
  obtain ⟨dx, v0, hx, hd0, hsl⟩ := ok.at_
  refine ⟨_, rfl, x, C, dx, _, _, rfl, hx, T.cl, T.nS, lF_since _ _ _, sl, _, rfl, .inl (SqL.of hsl), fun p np => ?_⟩
  refine Done.still (s := st) q ok.at_ (same_new np) np ?_
  rw [upd_same, who_ans]
  rfl
/-! ### refusal_to_look_ahead -/
theorem scRefusal : FnScope ["self", "party"] ["self", "party"] (defScope (sMeth 9)) := ⟨rfl, rfl, rfl, by decide +kernel, rfl, by decide +kernel, by decide +kernel⟩
theorem in_parties (p : Nat) : inV (ni p) (nl [0, 1]) = decide (p < 2) := by
  show (((0 : Int) == (p : Int)) || (((1 : Int) == (p : Int)) || false)) = decide (p < 2)
  rcases (show p = 0 ∨ p = 1 ∨ 2 ≤ p by omega) with rfl | rfl | h
  · rfl
  · rfl
  · rw [decide_eq_false (by omega), beq_eq_false_iff_ne.mpr (show (0 : Int) ≠ (p : Int) by omega), beq_eq_false_iff_ne.mpr (show (1 : Int) ≠ (p : Int) by omega)]
    rfl
theorem ok_refusal {f : Addr} {fd : FuncData} (F : Fun K "refusal_to_look_ahead" "Agreed.refusal_to_look_ahead" (sMeth 9) f fd) (T : Tx K mg C) (G : Ga K mg) (Gk' : Gk K mg) (C1 : Cal P w K mg base 2 "how_long" ["agreement"] (spLong K)) : FnOk P w K mg base CX0 3 f fd ["self", "party"] (spRefusal K C) := by
  obtain ⟨f1, fd1, g1, k1, b1, F1⟩ := C1
  obtain ⟨aP, gP, sP⟩ := G.parties
  obtain ⟨tN, gN⟩ := G.notPa
  obtain ⟨tL, gL⟩ := G.tooLong
  obtain ⟨tO, gO⟩ := Gk'.longest
  refine F.ok scRefusal (fun vs H Q E h => ?_) (fun cdv A outer s H vs Q E hr h => ?_)
  · obtain ⟨x, sl, st, p, rfl, _⟩ := h
    rfl
  obtain ⟨x, sl, st, p, rfl, ok, q⟩ := h
  refine ⟨_, pss_cons (ps_if (pt_cmpR op_notIn_seq (pv 1) (pgr gP) (by rfl)) (pss_one (ps_ret (pgi gN))) pss_nil)
    (pss_cons (ps_if (pt_cmpR op_gt (pe_call F1 hr rfl g1 k1 b1 .nil pass0 (pa_cons (pe_fld (pv 0) rfl) pa_nil)) (pgi gO) (nomark _)) (pss_one (ps_ret (pgi gL))) pss_nil)
    (pss_one (ps_ret pe_non))), ?_⟩
  have hsz := ok.sz
  refine ⟨_, rfl, aP, _, rfl, .inr (sP _), rfl, rfl, _, rfl, ?_⟩
  show if (!inV (ni p) (nl [0, 1])) = true then _ else _
  rw [in_parties]
  by_cases hp : p < 2
  · rw [decide_eq_true hp]
    refine iteF ?_
    obtain ⟨dx, v0, hx, hd0, hsl⟩ := ok.at_
    refine ⟨_, rfl, x, C, dx, _, _, rfl, hx, T.cl, T.nA, lF_agr _ _ _, v0, st.deal, rfl, hd0, by omega, fun H1 s1 => ?_⟩
    have q1 := q H1 s1
    rw [if_neg (show ¬ 2 ≤ p by omega)] at q1
    refine ⟨(Co09.days st.deal : Int), 5, rfl, rfl, _, rfl, ite2 (fun c => ?_) (fun c => ?_)⟩
    · rw [if_pos (by have := of_decide_eq_true c; omega)] at q1
      exact q1
    · rw [if_neg (fun z => c (decide_eq_true (by omega)))] at q1
      exact q1
  · have q1 := q H (Same.refl H)
    rw [if_pos (by omega)] at q1
    rw [decide_eq_false hp]
    exact iteT q1
/-! ### safe -/
theorem scSafe : FnScope ["self", "party", "refusal"] ["self", "party"] (defScope (sMeth 10)) := ⟨rfl, rfl, rfl, by decide +kernel, rfl, by decide +kernel, by decide +kernel⟩
theorem any_filter (f : Nat → Bool) : decide (0 < (Co09.sets.filter f).length) = Co09.sets.any f := by
  rw [sets_eq]
  cases h0 : f 0 <;> cases h1 : f 1 <;> cases h2 : f 2 <;> cases h3 : f 3 <;> simp [h0, h1, h2, h3]
theorem ok_safe {f : Addr} {fd : FuncData} (F : Fun K "safe" "Agreed.safe" (sMeth 10) f fd) (T : Tx K mg C) (G0 : Gs K mg) (C1 : MCal P w K mg base C 3 "refusal_to_look_ahead" ["self", "party"] (spRefusal K C)) (C2 : Cal P w K mg base 15 "keeping_choices" ["agreement", "party"] (spKeep K)) :
    FnOk P w K mg base CX0 16 f fd ["self", "party"] (spAhead K C .safe) := by
  obtain ⟨f1, fd1, m1, b1, F1⟩ := C1
  obtain ⟨f2, fd2, g2, k2, b2, F2⟩ := C2
  refine F.ok scSafe (fun vs H Q E h => ?_) (fun cdv A outer s H vs Q E hr h => ?_)
  · obtain ⟨x, sl, st, p, rfl, _⟩ := h
    rfl
  obtain ⟨x, sl, st, p, rfl, ok, q⟩ := h
  have hr3 : Room 3 _ := hr.mono (by decide)
  refine ⟨_, pss_cons (ps_set (i := 2) scSafe.nd rfl (.inl rfl) (pe_meth (pv 0) T.cl m1 F1 hr3 b1 .nil pass0 (pa_cons (pv 1) pa_nil)))
    (pss_cons (ps_if (pt_cmpR op_notN (pv 2) pe_non (nomark _)) (pss_one (ps_ret (pe_lst (pa_cons (pv 2) pa_nil)))) pss_nil)
    (pss_one (ps_ret (pe_lst (pa_cons (pe_ifExp (pt_cmpR op_gt (pe_callB call_len_seq rfl G0.len PySem.boot_len (pa_cons (pe_call F2 hr rfl g2 k2 b2 .nil pass0 (pa_cons (pe_fld (pv 0) rfl) (pa_cons (pv 1) pa_nil))) pa_nil)) pe_int (nomark _)) pe_int pe_int) pa_nil))))), ?_⟩
  have hsz := ok.sz
  obtain ⟨dx, v0, hx, hd0, hsl⟩ := ok.at_
  have es : Co09.stepCall st (.safe p) = (st, if 2 ≤ p then [-2] else if 5 < Co09.days st.deal then [-5] else [if Co09.safe p (Co09.days st.deal) st.deal = true then 1 else 0]) := rfl
  rw [es] at q
  refine ⟨_, rfl, x, dx, _, rfl, hx, lF_none _ _ _ (by decide +kernel) (by decide +kernel) (by decide +kernel), _, rfl, x, sl, st, p, rfl, ok, fun H1 s1 => ?_⟩
  by_cases hp : 2 ≤ p
  · rw [if_pos hp] at q ⊢
    refine ⟨_, rfl, rfl, _, rfl, iteT ⟨_, rfl, (by show 1 ≤ sizeLine; decide), fun r nr => ?_⟩⟩
    exact q.still ok.at_ (s1.trans (same_new nr)) (s1.free nr) upd_same
  rw [if_neg hp] at q ⊢
  by_cases hd : 5 < Co09.days st.deal
  · rw [if_pos hd] at q ⊢
    refine ⟨_, rfl, rfl, _, rfl, iteT ⟨_, rfl, (by show 1 ≤ sizeLine; decide), fun r nr => ?_⟩⟩
    exact q.still ok.at_ (s1.trans (same_new nr)) (s1.free nr) upd_same
  rw [if_neg hd] at q ⊢
  refine ⟨_, rfl, rfl, _, rfl, iteF ?_⟩
  have hx1 := s1 _ _ hx
  refine ⟨_, rfl, x, C, dx, _, _, rfl, hx1, T.cl, T.nA, lF_agr _ _ _, _, rfl, v0, st.deal, p, rfl, DAt.keep (TK.same s1) _ _ hd0, ok.wf_, by omega, by omega, by omega, fun H2 y s2 ny hy => ?_⟩
  refine ⟨y, _, rfl, .inl (SqL.of hy), _, 0, rfl, rfl, _, rfl, ?_⟩
  have e : decide ((0 : Int) < ((nl (Co09.sets.filter (keeps p st.deal))).length : Int)) = Co09.safe p (Co09.days st.deal) st.deal := by
    rw [safe_keeps, ← any_filter, nl_len]
    exact decide_eq_decide.mpr (by omega)
  rw [e]
  have s02 := s1.trans s2
  refine ite2 (fun c => ?_) (fun c => ?_)
  · rw [if_pos c] at q
    refine ⟨(by show 1 ≤ sizeLine; decide), fun r nr => ?_⟩
    exact q.still ok.at_ (s02.trans (same_new nr)) (s02.free nr) upd_same
  · rw [if_neg c] at q
    refine ⟨(by show 1 ≤ sizeLine; decide), fun r nr => ?_⟩
    exact q.still ok.at_ (s02.trans (same_new nr)) (s02.free nr) upd_same
/-! ### today -/
theorem scToday : FnScope ["self", "party", "refusal"] ["self", "party"] (defScope (sMeth 11)) := ⟨rfl, rfl, rfl, by decide +kernel, rfl, by decide +kernel, by decide +kernel⟩
theorem min_filter (f : Nat → Bool) (y : Int) (ys : List Int) (h : (Co09.sets.filter f).map (fun n : Nat => (n : Int)) = y :: ys) : ∃ m : Nat, Co09.sets.find? f = some m ∧ PySem.W.minOf y ys = (m : Int) := by
  rw [sets_eq] at h ⊢
  cases h0 : f 0 <;> cases h1 : f 1 <;> cases h2 : f 2 <;> cases h3 : f 3 <;> simp [h0, h1, h2, h3] at h ⊢ <;> (obtain ⟨rfl, rfl⟩ := h; rfl)
theorem none_filter (f : Nat → Bool) (h : (Co09.sets.filter f).map (fun n : Nat => (n : Int)) = []) : Co09.sets.find? f = none := by
  rw [sets_eq] at h ⊢
  cases h0 : f 0 <;> cases h1 : f 1 <;> cases h2 : f 2 <;> cases h3 : f 3 <;> simp [h0, h1, h2, h3] at h ⊢
theorem ok_today {f : Addr} {fd : FuncData} (F : Fun K "today" "Agreed.today" (sMeth 11) f fd) (T : Tx K mg C) (G : Ga K mg) (C1 : MCal P w K mg base C 3 "refusal_to_look_ahead" ["self", "party"] (spRefusal K C)) (C2 : Cal P w K mg base 15 "keeping_choices" ["agreement", "party"] (spKeep K)) :
    FnOk P w K mg base CX0 16 f fd ["self", "party"] (spAhead K C .today) := by
  obtain ⟨f1, fd1, m1, b1, F1⟩ := C1
  obtain ⟨f2, fd2, g2, k2, b2, F2⟩ := C2
  obtain ⟨tN, gN⟩ := G.noSuch
  refine F.ok scToday (fun vs H Q E h => ?_) (fun cdv A outer s H vs Q E hr h => ?_)
  · obtain ⟨x, sl, st, p, rfl, _⟩ := h
    rfl
  obtain ⟨x, sl, st, p, rfl, ok, q⟩ := h
  have hr3 : Room 3 _ := hr.mono (by decide)
  refine ⟨_, pss_cons (ps_set (i := 2) scToday.nd rfl (.inl rfl) (pe_meth (pv 0) T.cl m1 F1 hr3 b1 .nil pass0 (pa_cons (pv 1) pa_nil)))
    (pss_cons (ps_if (pt_cmpR op_notN (pv 2) pe_non (nomark _)) (pss_one (ps_ret (pe_lst (pa_cons (pv 2) pa_nil)))) pss_nil)
    (pss_one (ps_ret (pe_lst (pa_cons (pe_callBK (cr_minD rfl hr.units) rfl G.min (by decide +kernel) (pa_cons (pe_call F2 hr rfl g2 k2 b2 .nil pass0 (pa_cons (pe_fld (pv 0) rfl) (pa_cons (pv 1) pa_nil))) pa_nil) (pk_cons (pgi gN) pk_nil)) pa_nil))))), ?_⟩
  have hsz := ok.sz
  obtain ⟨dx, v0, hx, hd0, hsl⟩ := ok.at_
  have es : Co09.stepCall st (.today p) = (st, if 2 ≤ p then [-2] else if 5 < Co09.days st.deal then [-5] else match Co09.advice p st.deal with | some m => [(m : Int)] | none => [-6]) := rfl
  rw [es] at q
  refine ⟨_, rfl, x, dx, _, rfl, hx, lF_none _ _ _ (by decide +kernel) (by decide +kernel) (by decide +kernel), _, rfl, x, sl, st, p, rfl, ok, fun H1 s1 => ?_⟩
  by_cases hp : 2 ≤ p
  · rw [if_pos hp] at q ⊢
    refine ⟨_, rfl, rfl, _, rfl, iteT ⟨_, rfl, (by show 1 ≤ sizeLine; decide), fun r nr => ?_⟩⟩
    exact q.still ok.at_ (s1.trans (same_new nr)) (s1.free nr) upd_same
  rw [if_neg hp] at q ⊢
  by_cases hd : 5 < Co09.days st.deal
  · rw [if_pos hd] at q ⊢
    refine ⟨_, rfl, rfl, _, rfl, iteT ⟨_, rfl, (by show 1 ≤ sizeLine; decide), fun r nr => ?_⟩⟩
    exact q.still ok.at_ (s1.trans (same_new nr)) (s1.free nr) upd_same
  rw [if_neg hd] at q ⊢
  refine ⟨_, rfl, rfl, _, rfl, iteF ?_⟩
  have hx1 := s1 _ _ hx
  refine ⟨_, rfl, x, C, dx, _, _, rfl, hx1, T.cl, T.nA, lF_agr _ _ _, _, rfl, v0, st.deal, p, rfl, DAt.keep (TK.same s1) _ _ hd0, ok.wf_, by omega, by omega, by omega, fun H2 y s2 ny hy => ?_⟩
  have s02 := s1.trans s2
  have hint : nl (Co09.sets.filter (keeps p st.deal)) = ((Co09.sets.filter (keeps p st.deal)).map (fun n : Nat => (n : Int))).map V.int := by
    unfold nl
    rw [List.map_map]
    rfl
  rw [hint] at hy
  rw [advice_keeps] at q
  refine ⟨y, _, -6, rfl, rfl, SqL.of hy, fun e => ?_, fun y0 ys e => ?_⟩
  · rw [none_filter _ e] at q
    refine ⟨(by show 1 ≤ sizeLine; decide), fun r nr => ?_⟩
    exact q.still ok.at_ (s02.trans (same_new nr)) (s02.free nr) upd_same
  · obtain ⟨m, e1, e2⟩ := min_filter _ _ _ e
    rw [e1] at q
    rw [e2]
    refine ⟨(by show 1 ≤ sizeLine; decide), fun r nr => ?_⟩
    exact q.still ok.at_ (s02.trans (same_new nr)) (s02.free nr) upd_same
/-! ### left -/
theorem scLeft : FnScope ["self", "numbers"] ["self"] (defScope (sMeth 12)) := ⟨rfl, rfl, rfl, by decide +kernel, rfl, by decide +kernel, by decide +kernel⟩
theorem ok_left {f : Addr} {fd : FuncData} (F : Fun K "left" "Agreed.left" (sMeth 12) f fd) (T : Tx K mg C) (G0 : Gs K mg) (C1 : Cal P w K mg base 1 "numbers_of" ["agreement"] (spNums K)) : FnOk P w K mg base CX0 2 f fd ["self"] (spPlain K C .left) := by
  obtain ⟨f1, fd1, g1, k1, b1, F1⟩ := C1
  refine F.ok scLeft (fun vs H Q E h => ?_) (fun cdv A outer s H vs Q E hr h => ?_)
  · obtain ⟨x, sl, st, rfl, _⟩ := h
    rfl
  obtain ⟨x, sl, st, rfl, ok, q⟩ := h
  refine ⟨_, pss_cons (ps_set (i := 1) scLeft.nd rfl (.inl rfl) (pe_call F1 hr rfl g1 k1 b1 .nil pass0 (pa_cons (pe_fld (pv 0) rfl) pa_nil)))
    (pss_one (ps_ret (pe_op op_cat (pe_lst (pa_cons (pe_callB call_len_seq rfl G0.len PySem.boot_len (pa_cons (pv 1) pa_nil)) pa_nil)) (pv 1)))), ?_⟩
  have hsz := ok.sz
  obtain ⟨dx, v0, hx, hd0, hsl⟩ := ok.at_
  refine ⟨_, rfl, x, C, dx, _, _, rfl, hx, T.cl, T.nA, lF_agr _ _ _, v0, st.deal, rfl, hd0, by omega, fun H1 y s1 ny hy => ?_⟩
  refine ⟨_, rfl, y, _, rfl, .inl (SqL.of hy), (by show 1 ≤ sizeLine; decide), fun t nt => ?_⟩
  have s2 : Same H1 (upd H1 t (.lst [.int ((nl (Co09.toldFrom st.deal)).length : Int)])) := same_new nt
  have s02 := s1.trans s2
  have hl : (Co09.toldFrom st.deal).length ≤ 9000 := ok.sz
  refine ⟨_, rfl, t, y, _, _, rfl, rfl, upd_same, s2 _ _ hy, ?_, fun r nr => ?_⟩
  · rw [nl_len]
    exact Nat.le_of_lt (small6 (by simp only [List.length_cons, List.length_nil]; omega))
  · refine Done.still (s := st) q ok.at_ (s02.trans (same_new nr)) (s02.free nr) ?_
    rw [upd_same, nl_len]
    show some (HO.lst (V.int ((Co09.toldFrom st.deal).length : Int) :: nl (Co09.toldFrom st.deal))) = some (HO.lst (V.int ((Co09.toldFrom st.deal).length : Int) :: (Co09.ints (Co09.toldFrom st.deal)).map V.int))
    unfold Co09.ints nl
    rw [List.map_map]
    rfl
end
end Duty

namespace Duty
open PySem PySem.Spec PyProof.Rows L2 DRul
open Co09 (Deal)
/-! ### promises -/
def spCallLen (K : PySem.W.Frag) : Sp := fun vs H Q _ => ∃ (a : Addr) (ns : List Nat) (i : Nat), vs = [.ref a, ni i] ∧ SqL K H a (nl ns) ∧ i < ns.length ∧ (∀ w, ns[i]? = some w → w ≤ 1 → i + 1 < ns.length) ∧ ∀ H', Same H H' → Q (ni (clen (ns.drop i))) H'
def spAnswerTo (K : PySem.W.Frag) (C : Addr) : Sp := fun vs H Q _ => ∃ (x sl a : Addr) (s : Co09.St) (cs : List Nat) (c : Co09.Call), vs = [.ref x, .ref a] ∧ LineOk K C H x sl s ∧ SqL K H a (nl cs) ∧ Dec cs c ∧ Done K C H x sl (Co09.stepCall s c) Q
def spAnswers (K : PySem.W.Frag) : Sp := fun vs H Q _ => ∃ (a : Addr) (l : List Int), vs = [.ref a] ∧ SqL K H a (l.map V.int) ∧ (∀ z ∈ l, 0 ≤ z ∧ z ≤ 1000) ∧ PyCo09.answers_asked l = true ∧
  ∀ (H' : Hp) (p : Addr), H' p = some (.lst ((PyCo09.answers l).map V.int)) → Q (.ref p) H'
theorem in_two (w p q : Nat) : inV (ni w) [ni p, ni q] = decide (w = p ∨ w = q) := by
  show (((p : Int) == (w : Int)) || (((q : Int) == (w : Int)) || false)) = decide (w = p ∨ w = q)
  rw [Bool.or_false]
  by_cases h1 : w = p
  · subst h1
    rw [decide_eq_true (.inl rfl), beq_self_eq_true]
    rfl
  · rw [beq_eq_false_iff_ne.mpr (show (p : Int) ≠ (w : Int) by omega), Bool.false_or]
    by_cases h2 : w = q
    · subst h2
      rw [decide_eq_true (.inr rfl), beq_self_eq_true]
    · rw [decide_eq_false (by omega), beq_eq_false_iff_ne.mpr (show (q : Int) ≠ (w : Int) by omega)]
theorem cut_from (ns : List Nat) (i : Nat) : cutV (nl ns) (some (i : Int)) none = nl (ns.drop i) := by
  unfold cutV nl
  rw [show HT.sIx (ns.map ni).length 0 (some (i : Int)) = min i (ns.map ni).length from HT.sIx_nat _ 0 i, HT.sIx_none, List.map_drop]
  generalize ns.map ni = l
  rcases Nat.le_total i l.length with h | h
  · rw [Nat.min_eq_left h]
    exact List.take_of_length_le (by rw [List.length_drop]; exact Nat.le_refl _)
  · rw [Nat.min_eq_right h, List.drop_eq_nil_of_le h, List.drop_length]
    exact List.take_nil
section
variable {P : Program} {w : World} {K : PySem.W.Frag} {mg : Str → Option Value} {base : Heap} {C : Addr}
/-! ### call_length -/
theorem scCallLen : FnScope ["calls", "at"] ["calls", "at"] (defScope sCallLen) := ⟨rfl, rfl, rfl, by decide +kernel, rfl, by decide +kernel, by decide +kernel⟩
theorem ok_callLen {f : Addr} {fd : FuncData} (F : Fun K "call_length" "call_length" sCallLen f fd) (G : Ga K mg) : FnOk P w K mg base CX0 1 f fd ["calls", "at"] (spCallLen K) := by
  obtain ⟨t0, g0⟩ := G.agree
  obtain ⟨t1, g1⟩ := G.add
  obtain ⟨t2, g2⟩ := G.day
  obtain ⟨t5, g5⟩ := G.safe
  obtain ⟨t6, g6⟩ := G.today
  refine F.ok scCallLen (fun vs H Q E h => ?_) (fun cdv A outer s H vs Q E hr h => ?_)
  · obtain ⟨a, ns, i, rfl, _⟩ := h
    rfl
  obtain ⟨a, ns, i, rfl, hS, hi, hnx, q⟩ := h
  refine ⟨_, pss_cons (ps_if (pt_cmpR op_in_seq (pe_ix ix_list (pv 0) (pv 1) (fun _ _ => rfl)) (pe_tup (pa_cons (pgi g0) (pa_cons (pgi g1) pa_nil))) (by rfl)) (pss_one (ps_ret (pe_op op_add pe_int (pe_ix ix_list (pv 0) (pe_op op_add (pv 1) pe_int) (fun _ _ => rfl))))) pss_nil)
    (pss_cons (ps_if (pt_cmpR op_eq (pe_ix ix_list (pv 0) (pv 1) (fun _ _ => rfl)) (pgi g2) (nomark _)) (pss_one (ps_ret pe_int)) pss_nil)
    (pss_cons (ps_if (pt_cmpR op_in_seq (pe_ix ix_list (pv 0) (pv 1) (fun _ _ => rfl)) (pe_tup (pa_cons (pgi g5) (pa_cons (pgi g6) pa_nil))) (by rfl)) (pss_one (ps_ret pe_int)) pss_nil)
    (pss_one (ps_ret pe_int)))), ?_⟩
  obtain ⟨n, hn⟩ : ∃ n, ns[i]? = some n := ⟨_, List.getElem?_eq_getElem hi⟩
  have hat : atI (nl ns) (i : Int) = some (ni n) := atI_nat (nl_get hn)
  have hdrop : ns.drop i = n :: ns.drop (i + 1) := by
    obtain ⟨h1, h2⟩ := List.getElem?_eq_some_iff.mp hn
    rw [List.drop_eq_getElem_cons h1, h2]
  have ecl : clen (ns.drop i) = if n = 0 ∨ n = 1 then 2 + (ns.drop (i + 1)).headD 0 else if n = 2 then 3 else if n = 5 ∨ n = 6 then 2 else 1 := by rw [hdrop]; rfl
  rw [ecl] at q
  refine ⟨_, rfl, _, rfl, a, _, (i : Int), _, rfl, rfl, hS, hat, (by show 2 ≤ sizeLine; decide), fun t nt => ?_⟩
  have s1 : Same H (upd H t (.tup [.int 0, .int 1])) := same_new nt
  refine ⟨t, _, rfl, .inr (SqT.of upd_same), rfl, rfl, _, rfl, ?_⟩
  show if inV (ni n) [ni 0, ni 1] = true then _ else _
  rw [in_two]
  generalize upd H t (.tup [.int 0, .int 1]) = H1 at s1 ⊢
  refine ite2 (fun c => ?_) (fun c => ?_)
  · have c' := of_decide_eq_true c
    rw [if_pos c'] at q
    have h1 := hnx n hn (by omega)
    obtain ⟨m, hm⟩ : ∃ m, ns[i + 1]? = some m := ⟨_, List.getElem?_eq_getElem h1⟩
    have hat1 : atI (nl ns) ((i : Int) + 1) = some (ni m) := by
      rw [show (i : Int) + 1 = ((i + 1 : Nat) : Int) by omega]
      exact atI_nat (nl_get hm)
    have hhd : (ns.drop (i + 1)).headD 0 = m := by
      obtain ⟨h1, h2⟩ := List.getElem?_eq_some_iff.mp hm
      rw [List.drop_eq_getElem_cons h1, h2]
      rfl
    rw [hhd] at q
    refine ⟨_, rfl, _, rfl, (i : Int), 1, rfl, rfl, a, _, _, _, rfl, rfl, s1.seq hS, hat1, 2, (m : Int), rfl, rfl, ?_⟩
    have e : V.int (2 + (m : Int)) = ni (2 + m) := congrArg V.int (by omega)
    have := q H1 s1
    rw [← e] at this
    exact this
  have c' : ¬ (n = 0 ∨ n = 1) := fun z => c (decide_eq_true z)
  rw [if_neg c'] at q
  refine ⟨_, rfl, _, rfl, a, _, (i : Int), _, rfl, rfl, s1.seq hS, hat, rfl, _, rfl, ite2 (fun c => ?_) (fun c => ?_)⟩
  · have c2 : n = 2 := by
      have := V.int.inj (of_decide_eq_true c)
      omega
    rw [if_pos c2] at q
    exact q H1 s1
  have c2 : ¬ n = 2 := fun z => c (decide_eq_true (by rw [z]; rfl))
  rw [if_neg c2] at q
  refine ⟨_, rfl, _, rfl, a, _, (i : Int), _, rfl, rfl, s1.seq hS, hat, (by show 2 ≤ sizeLine; decide), fun t' nt' => ?_⟩
  have s2 : Same H1 (upd H1 t' (.tup [.int 5, .int 6])) := same_new nt'
  refine ⟨t', _, rfl, .inr (SqT.of upd_same), rfl, rfl, _, rfl, ?_⟩
  show if inV (ni n) [ni 5, ni 6] = true then _ else _
  rw [in_two]
  refine ite2 (fun c => ?_) (fun c => ?_)
  · rw [if_pos (of_decide_eq_true c)] at q
    exact q _ (s1.trans s2)
  · rw [if_neg (fun z => c (decide_eq_true z))] at q
    exact q _ (s1.trans s2)
/-! ### answer_to -/
theorem scAnswerTo : FnScope ["line", "call"] ["line", "call"] (defScope sAnswerTo) := ⟨rfl, rfl, rfl, by decide +kernel, rfl, by decide +kernel, by decide +kernel⟩
structure Meths (P : Program) (w : World) (K : PySem.W.Frag) (mg : Str → Option Value) (base : Heap) (C : Addr) : Prop where
  agree : MCal P w K mg base C 5 "agree" ["self", "numbers"] (spAgree K C .agree)
  add : MCal P w K mg base C 5 "add" ["self", "numbers"] (spAgree K C .add)
  day : MCal P w K mg base C 5 "day" ["self", "a", "b"] (spDay K C)
  stands : MCal P w K mg base C 3 "stands" ["self"] (spPlain K C .stands)
  who : MCal P w K mg base C 1 "who" ["self"] (spPlain K C .who)
  safe : MCal P w K mg base C 16 "safe" ["self", "party"] (spAhead K C .safe)
  today : MCal P w K mg base C 16 "today" ["self", "party"] (spAhead K C .today)
  left : MCal P w K mg base C 2 "left" ["self"] (spPlain K C .left)
theorem Done.sub {K : PySem.W.Frag} {C : Addr} {H H1 : Hp} {x sl : Addr} {r : Co09.St × List Int} {Q : VK} (h : Done K C H x sl r Q) (s : Same H H1) : Done K C H1 x sl r Q := fun H' sl' p L e k np hp =>
  h H' sl' p L (e.imp id s.free) (fun b o q h1 h2 => k b o (s b o q) h1 h2) (s.free np) hp
theorem LineOk.same {K : PySem.W.Frag} {C x sl : Addr} {H H' : Hp} {s : Co09.St} (e : Same H H') (h : LineOk K C H x sl s) : LineOk K C H' x sl s := ⟨h.at_.same e, h.two, h.wf_, h.sz⟩
theorem ok_answerTo {f : Addr} {fd : FuncData} (F : Fun K "answer_to" "answer_to" sAnswerTo f fd) (T : Tx K mg C) (G : Ga K mg) (M : Meths P w K mg base C) : FnOk P w K mg base CX0 17 f fd ["line", "call"] (spAnswerTo K C) := by
  obtain ⟨t0, g0⟩ := G.agree
  obtain ⟨t1, g1⟩ := G.add
  obtain ⟨t2, g2⟩ := G.day
  obtain ⟨t3, g3⟩ := G.stands
  obtain ⟨t4, g4⟩ := G.who
  obtain ⟨t5, g5⟩ := G.safe
  obtain ⟨t6, g6⟩ := G.today
  obtain ⟨t7, g7⟩ := G.left
  obtain ⟨f0, fd0, m0, b0, F0⟩ := M.agree
  obtain ⟨f1, fd1, m1, b1, F1⟩ := M.add
  obtain ⟨f2, fd2, m2, b2, F2⟩ := M.day
  obtain ⟨f3, fd3, m3, b3, F3⟩ := M.stands
  obtain ⟨f4, fd4, m4, b4, F4⟩ := M.who
  obtain ⟨f5, fd5, m5, b5, F5⟩ := M.safe
  obtain ⟨f6, fd6, m6, b6, F6⟩ := M.today
  obtain ⟨f7, fd7, m7, b7, F7⟩ := M.left
  refine F.ok scAnswerTo (fun vs H Q E h => ?_) (fun cdv A outer s H vs Q E hr h => ?_)
  · obtain ⟨x, sl, a, st, cs, c, rfl, _⟩ := h
    rfl
  obtain ⟨x, sl, a, st, cs, c, rfl, ok, hS, hdec, q⟩ := h
  have hr5 : Room 5 _ := hr.mono (by decide)
  have hr3 : Room 3 _ := hr.mono (by decide)
  have hr2 : Room 2 _ := hr.mono (by decide)
  have hr1 : Room 1 _ := hr.mono (by decide)
  refine ⟨_, pss_cons (ps_if (pt_cmpR op_eq (pe_ix ix_list (pv 1) pe_int (fun _ _ => rfl)) (pgi g0) (nomark _)) (pss_one (ps_ret (pe_meth (pv 0) T.cl m0 F0 hr5 b0 .nil pass0 (pa_cons (pe_slice sl_list (pv 1) (po_some pe_int) po_none) pa_nil)))) pss_nil)
    (pss_cons (ps_if (pt_cmpR op_eq (pe_ix ix_list (pv 1) pe_int (fun _ _ => rfl)) (pgi g1) (nomark _)) (pss_one (ps_ret (pe_meth (pv 0) T.cl m1 F1 hr5 b1 .nil pass0 (pa_cons (pe_slice sl_list (pv 1) (po_some pe_int) po_none) pa_nil)))) pss_nil)
    (pss_cons (ps_if (pt_cmpR op_eq (pe_ix ix_list (pv 1) pe_int (fun _ _ => rfl)) (pgi g2) (nomark _)) (pss_one (ps_ret (pe_meth (pv 0) T.cl m2 F2 hr5 b2 .nil pass0 (pa_cons (pe_ix ix_list (pv 1) pe_int (fun _ _ => rfl)) (pa_cons (pe_ix ix_list (pv 1) pe_int (fun _ _ => rfl)) pa_nil))))) pss_nil)
    (pss_cons (ps_if (pt_cmpR op_eq (pe_ix ix_list (pv 1) pe_int (fun _ _ => rfl)) (pgi g3) (nomark _)) (pss_one (ps_ret (pe_meth0 (pv 0) T.cl m3 F3 hr3 b3 .nil pass0))) pss_nil)
    (pss_cons (ps_if (pt_cmpR op_eq (pe_ix ix_list (pv 1) pe_int (fun _ _ => rfl)) (pgi g4) (nomark _)) (pss_one (ps_ret (pe_meth0 (pv 0) T.cl m4 F4 hr1 b4 .nil pass0))) pss_nil)
    (pss_cons (ps_if (pt_cmpR op_eq (pe_ix ix_list (pv 1) pe_int (fun _ _ => rfl)) (pgi g5) (nomark _)) (pss_one (ps_ret (pe_meth (pv 0) T.cl m5 F5 hr b5 .nil pass0 (pa_cons (pe_ix ix_list (pv 1) pe_int (fun _ _ => rfl)) pa_nil)))) pss_nil)
    (pss_cons (ps_if (pt_cmpR op_eq (pe_ix ix_list (pv 1) pe_int (fun _ _ => rfl)) (pgi g6) (nomark _)) (pss_one (ps_ret (pe_meth (pv 0) T.cl m6 F6 hr b6 .nil pass0 (pa_cons (pe_ix ix_list (pv 1) pe_int (fun _ _ => rfl)) pa_nil)))) pss_nil)
    (pss_cons (ps_if (pt_cmpR op_eq (pe_ix ix_list (pv 1) pe_int (fun _ _ => rfl)) (pgi g7) (nomark _)) (pss_one (ps_ret (pe_meth0 (pv 0) T.cl m7 F7 hr2 b7 .nil pass0))) pss_nil)
    (pss_one ps_never)))))))), ?_⟩
  obtain ⟨dx, v0, hx, hd0, hsl⟩ := ok.at_
  have no : ∀ m : Str, (m == ("agreement" : Str)) = false → (m == ("date" : Str)) = false → (m == ("since" : Str)) = false → (lF v0 st.day sl).lookup m = none := fun m h1 h2 h3 => lF_none _ _ _ h1 h2 h3
  cases hdec with
  | agree n l hl =>
    refine ⟨_, rfl, a, _, 0, _, rfl, rfl, hS, atI_nat (j := 0) rfl, rfl, _, rfl, iteT ?_⟩
    refine ⟨_, rfl, x, dx, _, rfl, hx, no _ (by decide +kernel) (by decide +kernel) (by decide +kernel), _, rfl, 2, rfl, a, _, rfl, hS, fun b nb => ?_⟩
    rw [show cutV (nl (0 :: n :: l)) (some 2) none = nl l from cut_from (0 :: n :: l) 2]
    exact ⟨x, sl, b, st, l, rfl, ok.same (same_new nb), SqL.of upd_same, hl, q.sub (same_new nb)⟩
  | add n l hl =>
    refine ⟨_, rfl, a, _, 0, _, rfl, rfl, hS, atI_nat (j := 0) rfl, rfl, _, rfl, iteF ?_⟩
    refine ⟨_, rfl, a, _, 0, _, rfl, rfl, hS, atI_nat (j := 0) rfl, rfl, _, rfl, iteT ?_⟩
    refine ⟨_, rfl, x, dx, _, rfl, hx, no _ (by decide +kernel) (by decide +kernel) (by decide +kernel), _, rfl, 2, rfl, a, _, rfl, hS, fun b nb => ?_⟩
    rw [show cutV (nl (1 :: n :: l)) (some 2) none = nl l from cut_from (1 :: n :: l) 2]
    exact ⟨x, sl, b, st, l, rfl, ok.same (same_new nb), SqL.of upd_same, hl, q.sub (same_new nb)⟩
  | day da db =>
    refine ⟨_, rfl, a, _, 0, _, rfl, rfl, hS, atI_nat (j := 0) rfl, rfl, _, rfl, iteF ?_⟩
    refine ⟨_, rfl, a, _, 0, _, rfl, rfl, hS, atI_nat (j := 0) rfl, rfl, _, rfl, iteF ?_⟩
    refine ⟨_, rfl, a, _, 0, _, rfl, rfl, hS, atI_nat (j := 0) rfl, rfl, _, rfl, iteT ?_⟩
    exact ⟨_, rfl, x, dx, _, rfl, hx, no _ (by decide +kernel) (by decide +kernel) (by decide +kernel), _, rfl, a, _, 1, _, rfl, rfl, hS, atI_nat (j := 1) rfl, _, rfl, a, _, 2, _, rfl, rfl, hS, atI_nat (j := 2) rfl, x, sl, st, da, db, rfl, ok, q⟩
  | stands =>
    refine ⟨_, rfl, a, _, 0, _, rfl, rfl, hS, atI_nat (j := 0) rfl, rfl, _, rfl, iteF ?_⟩
    refine ⟨_, rfl, a, _, 0, _, rfl, rfl, hS, atI_nat (j := 0) rfl, rfl, _, rfl, iteF ?_⟩
    refine ⟨_, rfl, a, _, 0, _, rfl, rfl, hS, atI_nat (j := 0) rfl, rfl, _, rfl, iteF ?_⟩
    refine ⟨_, rfl, a, _, 0, _, rfl, rfl, hS, atI_nat (j := 0) rfl, rfl, _, rfl, iteT ?_⟩
    exact ⟨_, rfl, x, dx, _, rfl, hx, no _ (by decide +kernel) (by decide +kernel) (by decide +kernel), x, sl, st, rfl, ok, q⟩
  | who =>
    refine ⟨_, rfl, a, _, 0, _, rfl, rfl, hS, atI_nat (j := 0) rfl, rfl, _, rfl, iteF ?_⟩
    refine ⟨_, rfl, a, _, 0, _, rfl, rfl, hS, atI_nat (j := 0) rfl, rfl, _, rfl, iteF ?_⟩
    refine ⟨_, rfl, a, _, 0, _, rfl, rfl, hS, atI_nat (j := 0) rfl, rfl, _, rfl, iteF ?_⟩
    refine ⟨_, rfl, a, _, 0, _, rfl, rfl, hS, atI_nat (j := 0) rfl, rfl, _, rfl, iteF ?_⟩
    refine ⟨_, rfl, a, _, 0, _, rfl, rfl, hS, atI_nat (j := 0) rfl, rfl, _, rfl, iteT ?_⟩
    exact ⟨_, rfl, x, dx, _, rfl, hx, no _ (by decide +kernel) (by decide +kernel) (by decide +kernel), x, sl, st, rfl, ok, q⟩
  | safe p =>
    refine ⟨_, rfl, a, _, 0, _, rfl, rfl, hS, atI_nat (j := 0) rfl, rfl, _, rfl, iteF ?_⟩
    refine ⟨_, rfl, a, _, 0, _, rfl, rfl, hS, atI_nat (j := 0) rfl, rfl, _, rfl, iteF ?_⟩
    refine ⟨_, rfl, a, _, 0, _, rfl, rfl, hS, atI_nat (j := 0) rfl, rfl, _, rfl, iteF ?_⟩
    refine ⟨_, rfl, a, _, 0, _, rfl, rfl, hS, atI_nat (j := 0) rfl, rfl, _, rfl, iteF ?_⟩
    refine ⟨_, rfl, a, _, 0, _, rfl, rfl, hS, atI_nat (j := 0) rfl, rfl, _, rfl, iteF ?_⟩
    refine ⟨_, rfl, a, _, 0, _, rfl, rfl, hS, atI_nat (j := 0) rfl, rfl, _, rfl, iteT ?_⟩
    exact ⟨_, rfl, x, dx, _, rfl, hx, no _ (by decide +kernel) (by decide +kernel) (by decide +kernel), _, rfl, a, _, 1, _, rfl, rfl, hS, atI_nat (j := 1) rfl, x, sl, st, p, rfl, ok, q⟩
  | today p =>
    refine ⟨_, rfl, a, _, 0, _, rfl, rfl, hS, atI_nat (j := 0) rfl, rfl, _, rfl, iteF ?_⟩
    refine ⟨_, rfl, a, _, 0, _, rfl, rfl, hS, atI_nat (j := 0) rfl, rfl, _, rfl, iteF ?_⟩
    refine ⟨_, rfl, a, _, 0, _, rfl, rfl, hS, atI_nat (j := 0) rfl, rfl, _, rfl, iteF ?_⟩
    refine ⟨_, rfl, a, _, 0, _, rfl, rfl, hS, atI_nat (j := 0) rfl, rfl, _, rfl, iteF ?_⟩
    refine ⟨_, rfl, a, _, 0, _, rfl, rfl, hS, atI_nat (j := 0) rfl, rfl, _, rfl, iteF ?_⟩
    refine ⟨_, rfl, a, _, 0, _, rfl, rfl, hS, atI_nat (j := 0) rfl, rfl, _, rfl, iteF ?_⟩
    refine ⟨_, rfl, a, _, 0, _, rfl, rfl, hS, atI_nat (j := 0) rfl, rfl, _, rfl, iteT ?_⟩
    exact ⟨_, rfl, x, dx, _, rfl, hx, no _ (by decide +kernel) (by decide +kernel) (by decide +kernel), _, rfl, a, _, 1, _, rfl, rfl, hS, atI_nat (j := 1) rfl, x, sl, st, p, rfl, ok, q⟩
  | left =>
    refine ⟨_, rfl, a, _, 0, _, rfl, rfl, hS, atI_nat (j := 0) rfl, rfl, _, rfl, iteF ?_⟩
    refine ⟨_, rfl, a, _, 0, _, rfl, rfl, hS, atI_nat (j := 0) rfl, rfl, _, rfl, iteF ?_⟩
    refine ⟨_, rfl, a, _, 0, _, rfl, rfl, hS, atI_nat (j := 0) rfl, rfl, _, rfl, iteF ?_⟩
    refine ⟨_, rfl, a, _, 0, _, rfl, rfl, hS, atI_nat (j := 0) rfl, rfl, _, rfl, iteF ?_⟩
    refine ⟨_, rfl, a, _, 0, _, rfl, rfl, hS, atI_nat (j := 0) rfl, rfl, _, rfl, iteF ?_⟩
    refine ⟨_, rfl, a, _, 0, _, rfl, rfl, hS, atI_nat (j := 0) rfl, rfl, _, rfl, iteF ?_⟩
    refine ⟨_, rfl, a, _, 0, _, rfl, rfl, hS, atI_nat (j := 0) rfl, rfl, _, rfl, iteF ?_⟩
    refine ⟨_, rfl, a, _, 0, _, rfl, rfl, hS, atI_nat (j := 0) rfl, rfl, _, rfl, iteT ?_⟩
    exact ⟨_, rfl, x, dx, _, rfl, hx, no _ (by decide +kernel) (by decide +kernel) (by decide +kernel), x, sl, st, rfl, ok, q⟩
/-! ### answers -/
theorem scAnswers : FnScope ["calls", "line", "given", "at", "call", "answer"] ["calls"] (defScope sAnswers) := ⟨rfl, rfl, rfl, by decide +kernel, rfl, by decide +kernel, by decide +kernel⟩
theorem small7 {n : Nat} (h : n ≤ 10000000) : n < sizeLine := Nat.lt_of_le_of_lt h (by decide)
theorem nl_nats {l : List Int} (h : ∀ z ∈ l, 0 ≤ z ∧ z ≤ 1000) : nl (nats l) = l.map V.int := by
  unfold nl nats
  rw [List.map_map]
  refine List.map_congr_left fun z hz => ?_
  have := (h z hz).1
  exact congrArg V.int (by show ((z.toNat : Nat) : Int) = z; omega)
theorem LineAt.upd {K : PySem.W.Frag} {C x sl g : Addr} {H : Hp} {d : Deal} {n : Nat} {fs : List (Option Nat)} {xs ys : List V} (h : LineAt K C H x sl d n fs) (hg : H g = some (.lst xs)) (ng : g ≠ sl) : LineAt K C (L2.upd H g (.lst ys)) x sl d n fs := by
  obtain ⟨dx, v, h1, h2, h3⟩ := h
  have nx : x ≠ g := ne_of h1 hg (by intro z; cases z)
  exact ⟨dx, v, by rw [upd_ne nx]; exact h1, DAt.keep (TK.lst hg) _ _ h2, by rw [upd_ne ng.symm]; exact h3⟩
def invAns (K : PySem.W.Frag) (C : Addr) (H : Hp) (a x g : Addr) (l : List Int) (m : Nat) (σ : L2.St) (H' : Hp) : Prop :=
  ∃ (i : Nat) (sl : Addr) (s : Co09.St) (f : Nat) (R : List (List (List Int))) (out : List Int) (y4 y5 : Option V), m = l.length - i ∧ σ = [some (.ref a), some (.ref x), some (.ref g), some (ni i), y4, y5] ∧ i ≤ l.length ∧ Same H H' ∧ LineOk K C H' x sl s ∧ sl ≠ g ∧ H x = none ∧ H sl = none ∧ H g = none ∧
    H' g = some (.lst (out.map V.int)) ∧ PyFlat.calls PyCo09.shape f (l.drop i) = some R ∧ (∀ c ∈ R, Co09Neutral.asked1 (flatC c) = true) ∧ PyCo09.answers l = out ++ play s R ∧ size s.deal + 101 * R.length ≤ 6061
theorem ok_answers {f : Addr} {fd : FuncData} {fI : Addr} {fdI : FuncData} (F : Fun K "answers" "answers" sAnswers f fd) (T : Tx K mg C) (G0 : Gs K mg) (M : Mk K C fI) (bI : Binds K fdI ["self"] []) (FI : FnOk P w K mg base CX0 5 fI fdI ["self"] (spInit K C))
    (C1 : Cal P w K mg base 1 "call_length" ["calls", "at"] (spCallLen K)) (C2 : Cal P w K mg base 17 "answer_to" ["line", "call"] (spAnswerTo K C)) : FnOk P w K mg base CX0 18 f fd ["calls"] (spAnswers K) := by
  obtain ⟨f1, fd1, g1, k1, b1, F1⟩ := C1
  obtain ⟨f2, fd2, g2, k2, b2, F2⟩ := C2
  refine F.ok scAnswers (fun vs H Q E h => ?_) (fun cdv A outer s H vs Q E hr h => ?_)
  · obtain ⟨a, l, rfl, _⟩ := h
    rfl
  obtain ⟨a, l, rfl, hS, hz, hask, q⟩ := h
  have hr6 : Room 6 _ := hr.mono (by decide)
  have hr1 : Room 1 _ := hr.mono (by decide)
  obtain ⟨R0, hR0, h60, hA0, hans, hbig⟩ := asked_facts hask
  rw [← nl_nats hz] at hS
  have hnlen : (nats l).length = l.length := List.length_map _
  refine ⟨_, pss_cons (ps_set (i := 1) scAnswers.nd rfl (.inl rfl) (pe_make0 M FI hr6 rfl T.gC bI .nil pass0))
    (pss_cons (ps_set (i := 2) scAnswers.nd rfl (.inl rfl) (pe_lst pa_nil))
    (pss_cons (ps_set (i := 3) scAnswers.nd rfl (.inl rfl) pe_int)
    (pss_cons (ps_while PassesOwn.never (pt_cmpR op_lt (pv 3) (pe_callB call_len_seq rfl G0.len PySem.boot_len (pa_cons (pv 0) pa_nil)) (nomark _))
      (pss_cons (ps_set (i := 4) scAnswers.nd rfl (.inl rfl) (pe_slice sl_list (pv 0) (po_some (pv 3)) (po_some (pe_op op_add (pv 3) (pe_call F1 hr1 rfl g1 k1 b1 .nil pass0 (pa_cons (pv 0) (pa_cons (pv 3) pa_nil)))))))
      (pss_cons (ps_set (i := 5) scAnswers.nd rfl (.inl rfl) (pe_call F2 hr rfl g2 k2 b2 .nil pass0 (pa_cons (pv 1) (pa_cons (pv 4) pa_nil))))
      (pss_cons (ps_expr (pe_bm PySem.F.plainAttrs_list PySem.F.slot_list_append PySem.F.type_list_append mt_append (pv 2) (pa_cons (pe_callB call_len_seq rfl G0.len PySem.boot_len (pa_cons (pv 5) pa_nil)) pa_nil)))
      (pss_cons (ps_expr (pe_bm PySem.F.plainAttrs_list PySem.F.slot_list_extend PySem.F.type_list_extend mt_extend (pv 2) (pa_cons (pv 5) pa_nil)))
      (pss_one (ps_aug (i := 3) scAnswers.nd rfl (.inl rfl) (pe_callB call_len_seq rfl G0.len PySem.boot_len (pa_cons (pv 4) pa_nil)) ip_add)))))))
    (pss_one (ps_ret (pv 2)))))), ?_⟩
  -- line = Agreed()
  intro x dx nx ndx nex
  refine ⟨x, dx, rfl, upd_same, fun H1 sl nsl L1 kp1 => ⟨rfl, ?_⟩⟩
  have s1 : Same H H1 := Same.made nx ndx kp1
  have nsl0 : H sl = none := by
    cases e : H sl with
    | none => rfl
    | some o =>
      rw [upd_ne (ne_of_none e nx), upd_ne (ne_of_none e ndx), e] at nsl
      cases nsl
  -- given = []
  refine ⟨Nat.zero_le _, fun g ng => ?_⟩
  have s2 : Same H1 (L2.upd H1 g (.lst [])) := same_new ng
  have L2' := L1.same s2
  have nsg : sl ≠ g := by
    obtain ⟨_, _, _, _, h3⟩ := L1
    exact ne_of_none h3 ng
  have ng0 : H g = none := s1.free ng
  refine ⟨invAns K C H a x g l, ⟨_, 0, sl, Co09.init, l.length, R0, [], none, none, rfl, rfl, Nat.zero_le _, s1.trans s2, ⟨L2', rfl, trivial, by decide⟩, nsg, nx, nsl0, ng0, upd_same, hR0, hA0, by rw [hans]; rfl, by show 1 + 101 * R0.length ≤ 6061; omega⟩, fun m σ H3 hW => ?_⟩
  obtain ⟨i, sl, st, fu, R, out, y4, y5, rfl, rfl, hi, sm, ok, nsg, nx, nsl, ng, hg, hR, hA, hout, hsz⟩ := hW
  refine ⟨_, rfl, _, rfl, a, _, rfl, .inl (sm.seq hS), (i : Int), _, rfl, rfl, _, rfl, ite2 (fun c => ?_) (fun c => ?_)⟩
  · have hil : i < l.length := by
      have := of_decide_eq_true c
      rw [nl_len, hnlen] at this
      omega
    refine ⟨fun σ' H' => ∃ m', m' < l.length - i ∧ invAns K C H a x g l m' σ' H', fun _ _ q => q, ?_⟩
    obtain ⟨p, hp⟩ : ∃ p, l[i]? = some p := ⟨_, List.getElem?_eq_getElem hil⟩
    have hdrop : l.drop i = p :: l.drop (i + 1) := by
      obtain ⟨h1, h2⟩ := List.getElem?_eq_some_iff.mp hp
      rw [List.drop_eq_getElem_cons h1, h2]
    rw [hdrop] at hR
    obtain ⟨fu', c, t, R', rfl, rfl, hcall, hR'⟩ := calls_cons hR
    have hzd : ∀ z ∈ p :: l.drop (i + 1), 0 ≤ z ∧ z ≤ 1000 := fun z hm => hz z (by rw [← hdrop] at hm; exact List.mem_of_mem_drop hm)
    obtain ⟨cl, ht, hlen, hlen1, hdec, hnx, hstep⟩ := one_call hcall hzd (hA c (List.mem_cons_self ..))
    have hnd : nats (p :: l.drop (i + 1)) = (nats l).drop i := by
      rw [← hdrop]
      unfold nats
      rw [List.map_drop]
    rw [hnd, ← hdrop] at ht hlen
    rw [hnd] at hlen1 hdec
    generalize hk : clen ((nats l).drop i) = k at ht hlen hlen1 hdec
    rw [List.length_drop] at hlen
    -- call = calls[at:at + call_length(calls, at)]
    refine ⟨_, rfl, _, rfl, (i : Int), rfl, _, rfl, _, rfl, _, rfl, a, nats l, i, rfl, sm.seq hS, by rw [hnlen]; exact hil, fun w hw hw1 => ?_, fun H4 s4 => ?_⟩
    · have hwp : w = p.toNat := by
        unfold nats at hw
        rw [List.getElem?_map, hp] at hw
        exact (Option.some.inj hw).symm
      have hr := hnx (by omega)
      rw [hnlen]
      have := List.length_pos_iff.mpr hr
      rw [List.length_drop] at this
      omega
    rw [hk]
    refine ⟨(i : Int), (k : Int), rfl, rfl, _, rfl, a, _, rfl, (sm.trans s4).seq hS, fun cA ncA => ?_⟩
    have ecut : cutV (nl (nats l)) (some (i : Int)) (some ((i : Int) + (k : Int))) = nl (((nats l).drop i).take k) := by
      rw [show (i : Int) + (k : Int) = ((i + k : Nat) : Int) by omega, cut_nl, Nat.add_sub_cancel_left]
    rw [ecut]
    have s5 : Same H3 (L2.upd H4 cA (.lst (nl (((nats l).drop i).take k)))) := s4.trans (same_new ncA)
    have hcA : (L2.upd H4 cA (.lst (nl (((nats l).drop i).take k)))) cA = some (.lst (nl (((nats l).drop i).take k))) := upd_same
    have ncA3 : H3 cA = none := s4.free ncA
    generalize L2.upd H4 cA (.lst (nl (((nats l).drop i).take k))) = H5 at s5 hcA ⊢
    have ok5 := ok.same s5
    have hg5 := s5 _ _ hg
    have hcl : (((nats l).drop i).take k).length = k := by
      rw [List.length_take, List.length_drop, hnlen]
      omega
    -- answer = answer_to(line, call)
    refine ⟨_, rfl, _, rfl, x, sl, cA, st, _, cl, rfl, ok5, SqL.of hcA, hdec, fun H6 sl' r L6 esl k6 nr hr6' => ?_⟩
    have hx5 : ∃ o, H5 x = some o := by obtain ⟨_, _, h1, _⟩ := ok5.at_; exact ⟨_, h1⟩
    have hsl5 : ∃ o, H5 sl = some o := by obtain ⟨_, _, _, _, h3⟩ := ok5.at_; exact ⟨_, h3⟩
    have ngx : g ≠ x := by
      obtain ⟨_, _, h1, _⟩ := ok5.at_
      exact ne_of hg5 h1 (by intro z; cases z)
    have hg6 := k6 _ _ hg5 ngx nsg.symm
    have ncx : cA ≠ x := fun z => by
      obtain ⟨_, _, h1, _⟩ := ok.at_
      rw [z, h1] at ncA3; cases ncA3
    have ncs : cA ≠ sl := fun z => by
      obtain ⟨_, _, _, _, h3⟩ := ok.at_
      rw [z, h3] at ncA3; cases ncA3
    have ncg : cA ≠ g := fun z => by rw [z, hg] at ncA3; cases ncA3
    have hcA6 := k6 _ _ hcA ncx ncs
    have nrg : r ≠ g := fun z => by rw [z, hg5] at nr; cases nr
    have nsg' : sl' ≠ g := by
      rcases esl with z | z
      · rw [z]; exact nsg
      · exact fun e => by rw [e, hg5] at z; cases z
    have nsl' : H sl' = none := by
      rcases esl with z | z
      · rw [z]; exact nsl
      · exact (sm.trans s5).free z
    have sm6 : Same H H6 := fun b o hb => k6 _ _ (s5 _ _ (sm _ _ hb)) (ne_of_none hb nx) (ne_of_none hb nsl)
    rw [play_cons, hstep] at hout
    generalize hst' : Co09.stepCall st cl = res at L6 hr6' hout
    have hlo : out.length + 1 + res.2.length ≤ 10000000 := by
      have := hbig
      rw [hout] at this
      simp only [List.length_append, List.length_cons] at this
      omega
    -- given.append(len(answer))
    refine ⟨_, rfl, .inl ⟨rfl, _, SqL.of hg6⟩, _, rfl, r, _, rfl, .inl (SqL.of hr6'), g, _, _, rfl, rfl, hg6, (by rw [List.length_map]; exact small7 (by omega)), ?_⟩
    have L7 := L6.upd (ys := out.map V.int ++ [.int ((res.2.map V.int).length : Int)]) hg6 nsg'.symm
    have hr7 : (L2.upd H6 g (.lst (out.map V.int ++ [.int ((res.2.map V.int).length : Int)]))) r = some (.lst (res.2.map V.int)) := by rw [upd_ne nrg]; exact hr6'
    have hcA7 : (L2.upd H6 g (.lst (out.map V.int ++ [.int ((res.2.map V.int).length : Int)]))) cA = some (.lst (nl (((nats l).drop i).take k))) := by rw [upd_ne ncg]; exact hcA6
    have hg7 : (L2.upd H6 g (.lst (out.map V.int ++ [.int ((res.2.map V.int).length : Int)]))) g = some (.lst (out.map V.int ++ [.int ((res.2.map V.int).length : Int)])) := upd_same
    have sm7 : Same H (L2.upd H6 g (.lst (out.map V.int ++ [.int ((res.2.map V.int).length : Int)]))) := same_upd sm6 ng
    generalize L2.upd H6 g (.lst (out.map V.int ++ [.int ((res.2.map V.int).length : Int)])) = H7 at L7 hr7 hcA7 hg7 sm7 ⊢
    -- given.extend(answer)
    refine ⟨_, rfl, .inl ⟨rfl, _, SqL.of hg7⟩, _, rfl, g, r, _, _, rfl, rfl, hg7, hr7, ?_, ?_⟩
    · simp only [List.length_append, List.length_map, List.length_cons, List.length_nil]
      exact Nat.le_of_lt (small7 (by omega))
    have hcA8 : (L2.upd H7 g (.lst (out.map V.int ++ [.int ((res.2.map V.int).length : Int)] ++ res.2.map V.int))) cA = some (.lst (nl (((nats l).drop i).take k))) := by rw [upd_ne ncg]; exact hcA7
    -- at += len(call)
    refine ⟨_, rfl, _, rfl, cA, _, rfl, .inl (SqL.of hcA8), (i : Int), _, rfl, rfl, ?_⟩
    obtain ⟨w1, w2, w3⟩ := step_ok hdec st ok.wf_ ok.two
    rw [hst'] at w1 w2 w3
    have hRl : (c :: R').length = R'.length + 1 := rfl
    rw [hRl] at hsz
    refine ⟨l.length - (i + k), by omega, i + k, sl', res.1, fu', R', out ++ (res.2.length : Int) :: res.2, some (.ref cA), some (.ref r), rfl, ?_, by omega, same_upd sm7 ng, ⟨L7.upd hg7 nsg'.symm, w2, w1, by omega⟩, nsg', nx, nsl', ng, ?_, ?_, fun c' hc' => hA c' (List.mem_cons_of_mem _ hc'), ?_, by omega⟩
    · have e : V.int ((i : Int) + ((nl (((nats l).drop i).take k)).length : Int)) = ni (i + k) := by
        rw [nl_len, hcl]
        exact congrArg V.int (by omega)
      show [_, _, _, some (V.int ((i : Int) + ((nl (((nats l).drop i).take k)).length : Int))), _, _] = _
      rw [e]
    · rw [upd_same]
      simp [List.map_append, List.append_assoc]
    · rw [← List.drop_drop, ← ht]
      exact hR'
    · rw [hout]
      simp [List.append_assoc]
  · have hil : i = l.length := by
      have := of_decide_eq_false (Bool.eq_false_iff.mpr c)
      rw [nl_len, hnlen] at this
      omega
    rw [hil, List.drop_length] at hR
    have := calls_nil hR
    subst this
    rw [play_nil, List.append_nil] at hout
    exact ⟨_, rfl, q H3 g (by rw [hout]; exact hg)⟩
end
end Duty

namespace Duty
open PySem PySem.Spec PyProof.Rows L2 DRul
open PySem.W (Codec)
/-! ### what the top has written -/
def IntAt (K : PySem.W.Frag) (x : Str) (n : Int) : Prop := ∃ t, PySem.W.nsIn K mainGlobals x = some (some (.int n t))
def TupAt (K : PySem.W.Frag) (x : Str) (xs : List V) : Prop := ∃ (a : Addr) (od : Option Addr) (its : Array Value) (n : Nat) (sl : Array (Option Value)), PySem.W.nsIn K mainGlobals x = some (some (.ref a)) ∧ K.lookup a = some ⟨.type "tuple", od, .seq its n, sl⟩ ∧ its.size ≤ sizeLine ∧ Vals xs its.toList
def FreeAt (K : PySem.W.Frag) (x : Str) : Prop := PySem.W.nsIn K mainGlobals x = some none
def PairAt (K : PySem.W.Frag) (t : Addr) (p q : Nat) : Prop := ∃ (od : Option Addr) (its : Array Value) (n : Nat) (sl : Array (Option Value)), K.lookup t = some ⟨.type "tuple", od, .seq its n, sl⟩ ∧ its.size ≤ sizeLine ∧ Vals [ni p, ni q] its.toList
def FnAt (K : PySem.W.Frag) (x : Str) (st : Stmt) : Prop := ∃ (f : Addr) (oc : Value) (od : Option Addr) (kV dc pm : Value) (an : Option Addr) (cd ct : Value) (sl : Array (Option Value)), PySem.W.nsIn K mainGlobals x = some (some (.ref f)) ∧
  K.lookup f = some ⟨oc, od, .func (PySem.W.fnOf x x (defArgs st) (defBody st) (defScope st) .none kV dc pm an cd ct), sl⟩ ∧ PySem.W.codeIn K cd x = true ∧ PySem.W.keepIn K (.ref f) = true
def MtAt (K : PySem.W.Frag) (C : Addr) (x qual : Str) (st : Stmt) : Prop := ∃ (f : Addr) (oc : Value) (od : Option Addr) (kV dc pm : Value) (an : Option Addr) (cd ct : Value) (sl : Array (Option Value)), PySem.W.findIn K (.ref C) x = some (some (.ref f)) ∧ PySem.W.isFn K (.ref f) = true ∧
  K.lookup f = some ⟨oc, od, .func (PySem.W.fnOf x qual (defArgs st) (defBody st) (defScope st) .none kV dc pm an cd ct), sl⟩ ∧ PySem.W.codeIn K cd qual = true ∧ PySem.W.keepIn K (.ref f) = true
def WaAt (K : PySem.W.Frag) : Prop := ∃ (a t0 t1 t2 t3 : Addr) (od : Option Addr) (n : Nat) (sl : Array (Option Value)), PySem.W.nsIn K mainGlobals "WHO_AND_ACT" = some (some (.ref a)) ∧ K.lookup a = some ⟨.type "tuple", od, .seq #[.ref t0, .ref t1, .ref t2, .ref t3] n, sl⟩ ∧ PairAt K t0 0 0 ∧ PairAt K t1 0 1 ∧ PairAt K t2 1 0 ∧ PairAt K t3 1 1
structure DClsAt (K : PySem.W.Frag) (C : Addr) : Prop where
  aC : PySem.W.nsIn K mainGlobals "Agreed" = some (some (.ref C))
  pg : PySem.W.plainGet K C Str.empty = true
  hd : PySem.W.hasDictIn K C = true
  po : PySem.W.plainOver K C = true
  sa : PySem.W.findIn K (.ref C) "__setattr__" = some (some (.builtin "object.__setattr__"))
  mks : PySem.W.makesIn K C = true
  kc : PySem.W.keepIn K (.ref C) = true
  nA : PySem.W.findIn K (.ref C) "agreement" = some none
  nD : PySem.W.findIn K (.ref C) "date" = some none
  nS : PySem.W.findIn K (.ref C) "since" = some none
structure Facts (K : PySem.W.Frag) (C : Addr) : Prop where
  cls : DClsAt K C
  i_BREACH : IntAt K "BREACH" 1
  i_MUST : IntAt K "MUST" 2
  i_MAY : IntAt K "MAY" 4
  i_BOTH : IntAt K "BOTH" 5
  i_WHO : IntAt K "WHO" 1
  i_ACT : IntAt K "ACT" 2
  i_DAYS : IntAt K "DAYS" 3
  i_DONE : IntAt K "DONE" 4
  i_UNDONE : IntAt K "UNDONE" 5
  i_LONGEST : IntAt K "LONGEST" 5
  i_AGREE : IntAt K "AGREE" 0
  i_ADD : IntAt K "ADD" 1
  i_DAY : IntAt K "DAY" 2
  i_STANDS : IntAt K "STANDS" 3
  i_WHO_IS_IN_BREACH : IntAt K "WHO_IS_IN_BREACH" 4
  i_SAFE : IntAt K "SAFE" 5
  i_TODAY : IntAt K "TODAY" 6
  i_LEFT : IntAt K "LEFT" 7
  i_NOT_AN_AGREEMENT : IntAt K "NOT_AN_AGREEMENT" (-1)
  i_NOT_A_CHOICE : IntAt K "NOT_A_CHOICE" (-1)
  i_NOT_A_PARTY : IntAt K "NOT_A_PARTY" (-2)
  i_TOO_LONG : IntAt K "TOO_LONG" (-5)
  i_NO_SUCH_CHOICE : IntAt K "NO_SUCH_CHOICE" (-6)
  i_HIGHEST_CHOICE : IntAt K "HIGHEST_CHOICE" 3
  i_NOT_IN_BREACH : IntAt K "NOT_IN_BREACH" (-1)
  t_OVER : TupAt K "OVER" (nl [0])
  t_HEAD_LENGTHS : TupAt K "HEAD_LENGTHS" (nl [1, 2, 4, 4, 4, 1])
  t_PART_COUNTS : TupAt K "PART_COUNTS" (nl [0, 0, 2, 2, 2, 2])
  t_HIGHEST : TupAt K "HIGHEST" (nl [5, 1, 1, 9])
  t_RUNS : TupAt K "RUNS" (nl [1, 4, 16, 64, 256, 1024])
  t_CHOICES : TupAt K "CHOICES" (nl [0, 1, 2, 3])
  t_EVERY_ACT : TupAt K "EVERY_ACT" (nl [3, 3])
  t_NO_ACT : TupAt K "NO_ACT" (nl [0, 0])
  t_PARTIES : TupAt K "PARTIES" (nl [0, 1])
  wa : WaAt K
  z_len : FreeAt K "len"
  z_tuple : FreeAt K "tuple"
  z_any : FreeAt K "any"
  z_enumerate : FreeAt K "enumerate"
  z_reversed : FreeAt K "reversed"
  z_max : FreeAt K "max"
  z_zip : FreeAt K "zip"
  z_range : FreeAt K "range"
  z_min : FreeAt K "min"
  z_list : FreeAt K "list"
  f_head_at : FnAt K "head_at" sHeadAt
  f_heads_of : FnAt K "heads_of" sHeadsOf
  f_both : FnAt K "both" sBoth
  f_lacks_parts : FnAt K "lacks_parts" sLacks
  f_put_together : FnAt K "put_together" sPut
  f_agreement_of : FnAt K "agreement_of" sAgrOf
  f_taken_apart : FnAt K "taken_apart" sApart
  f_numbers_of : FnAt K "numbers_of" sNums
  f_is_in_breach : FnAt K "is_in_breach" sInBreach
  f_is_duty : FnAt K "is_duty" sIsDuty
  f_duties_of : FnAt K "duties_of" sDuties
  f_is_settled : FnAt K "is_settled" sSettled
  f_how_long : FnAt K "how_long" sLong
  f_does : FnAt K "does" sDoes
  f_piece_after : FnAt K "piece_after" sPieceAfter
  f_after_day : FnAt K "after_day" sAfterDay
  f_joined : FnAt K "joined" sJoined
  f_by_own_act : FnAt K "by_own_act" sOwn
  f_by_others_act : FnAt K "by_others_act" sOthers
  f_parts_after : FnAt K "parts_after" sPartsAfter
  f_breaches_by_duties : FnAt K "breaches_by_duties" sByDuties
  f_breaches : FnAt K "breaches" sBreaches
  f_whatever_the_other_does : FnAt K "whatever_the_other_does" sWhatever
  f_by_the_best_choice : FnAt K "by_the_best_choice" sBest
  f_keeping_choices : FnAt K "keeping_choices" sKeeping
  f_call_length : FnAt K "call_length" sCallLen
  f_answer_to : FnAt K "answer_to" sAnswerTo
  f_answers : FnAt K "answers" sAnswers
  m_init : MtAt K C "__init__" "Agreed.__init__" (sMeth 0)
  m_begin : MtAt K C "begin" "Agreed.begin" (sMeth 1)
  m_go_on : MtAt K C "go_on" "Agreed.go_on" (sMeth 2)
  m_note_breaches : MtAt K C "note_breaches" "Agreed.note_breaches" (sMeth 3)
  m_agree : MtAt K C "agree" "Agreed.agree" (sMeth 4)
  m_add : MtAt K C "add" "Agreed.add" (sMeth 5)
  m_day : MtAt K C "day" "Agreed.day" (sMeth 6)
  m_stands : MtAt K C "stands" "Agreed.stands" (sMeth 7)
  m_who : MtAt K C "who" "Agreed.who" (sMeth 8)
  m_refusal_to_look_ahead : MtAt K C "refusal_to_look_ahead" "Agreed.refusal_to_look_ahead" (sMeth 9)
  m_safe : MtAt K C "safe" "Agreed.safe" (sMeth 10)
  m_today : MtAt K C "today" "Agreed.today" (sMeth 11)
  m_left : MtAt K C "left" "Agreed.left" (sMeth 12)
section
variable {K : PySem.W.Frag} {h : Heap} {mg : Str → Option Value}
theorem gi_of {x : Str} {n : Int} (X : K.In h) (G : h.Ns mainGlobals mg) (a : IntAt K x n) : GI mg x n := by
  obtain ⟨t, a⟩ := a
  exact ⟨t, PySem.W.mg_of X G a⟩
theorem gt_of {x : Str} {xs : List V} (X : K.In h) (G : h.Ns mainGlobals mg) (a : TupAt K x xs) : GT K mg x xs := by
  obtain ⟨r, od, its, n, sl, a, l, z, v⟩ := a
  exact ⟨r, PySem.W.mg_of X G a, fun H => .inr ⟨_, its, n, l, rfl, rfl, z, v⟩⟩
theorem pair_of {t : Addr} {p q : Nat} (a : PairAt K t p q) (H : Hp) : SqT K H t [ni p, ni q] := by
  obtain ⟨od, its, n, sl, l, z, v⟩ := a
  exact .inr ⟨_, its, n, l, rfl, rfl, z, v⟩
end
theorem intAt_of {K : PySem.W.Frag} {x : Str} {n : Int} {t : Tok} (a : PySem.W.nsIn K mainGlobals x = some (some (.int n t))) : IntAt K x n := ⟨t, a⟩
theorem freeAt_of {K : PySem.W.Frag} {x : Str} (a : PySem.W.nsIn K mainGlobals x = some none) : FreeAt K x := a
theorem tupAt_of {K : PySem.W.Frag} {x : Str} {xs : List V} {a : Addr} {od : Option Addr} {its : Array Value} {n : Nat} {sl : Array (Option Value)} (h1 : PySem.W.nsIn K mainGlobals x = some (some (.ref a))) (h2 : K.lookup a = some ⟨.type "tuple", od, .seq its n, sl⟩) (h3 : its.size ≤ sizeLine) (h4 : Vals xs its.toList) : TupAt K x xs := ⟨a, od, its, n, sl, h1, h2, h3, h4⟩
theorem pairAt_of {K : PySem.W.Frag} {t : Addr} {p q : Nat} {od : Option Addr} {its : Array Value} {n : Nat} {sl : Array (Option Value)} (h2 : K.lookup t = some ⟨.type "tuple", od, .seq its n, sl⟩) (h3 : its.size ≤ sizeLine) (h4 : Vals [ni p, ni q] its.toList) : PairAt K t p q := ⟨od, its, n, sl, h2, h3, h4⟩
theorem waAt_of {K : PySem.W.Frag} {a t0 t1 t2 t3 : Addr} {od : Option Addr} {n : Nat} {sl : Array (Option Value)} (h1 : PySem.W.nsIn K mainGlobals "WHO_AND_ACT" = some (some (.ref a))) (h2 : K.lookup a = some ⟨.type "tuple", od, .seq #[.ref t0, .ref t1, .ref t2, .ref t3] n, sl⟩) (p0 : PairAt K t0 0 0) (p1 : PairAt K t1 0 1) (p2 : PairAt K t2 1 0) (p3 : PairAt K t3 1 1) : WaAt K := ⟨a, t0, t1, t2, t3, od, n, sl, h1, h2, p0, p1, p2, p3⟩
theorem fnAt_of {K : PySem.W.Frag} {x : Str} {st : Stmt} {f : Addr} {oc : Value} {od : Option Addr} {kV dc pm : Value} {an : Option Addr} {cd ct : Value} {sl : Array (Option Value)} (h1 : PySem.W.nsIn K mainGlobals x = some (some (.ref f)))
    (h2 : K.lookup f = some ⟨oc, od, .func (PySem.W.fnOf x x (defArgs st) (defBody st) (defScope st) .none kV dc pm an cd ct), sl⟩) (h3 : PySem.W.codeIn K cd x = true) (h4 : PySem.W.keepIn K (.ref f) = true) : FnAt K x st := ⟨f, oc, od, kV, dc, pm, an, cd, ct, sl, h1, h2, h3, h4⟩
theorem mtAt_of {K : PySem.W.Frag} {C : Addr} {x qual : Str} {st : Stmt} {f : Addr} {oc : Value} {od : Option Addr} {kV dc pm : Value} {an : Option Addr} {cd ct : Value} {sl : Array (Option Value)} (h1 : PySem.W.findIn K (.ref C) x = some (some (.ref f))) (h0 : PySem.W.isFn K (.ref f) = true)
    (h2 : K.lookup f = some ⟨oc, od, .func (PySem.W.fnOf x qual (defArgs st) (defBody st) (defScope st) .none kV dc pm an cd ct), sl⟩) (h3 : PySem.W.codeIn K cd qual = true) (h4 : PySem.W.keepIn K (.ref f) = true) : MtAt K C x qual st := ⟨f, oc, od, kV, dc, pm, an, cd, ct, sl, h1, h0, h2, h3, h4⟩
theorem calOf {P : Program} {w : World} {K : PySem.W.Frag} {mg : Str → Option Value} {base : Heap} {k : Nat} {x : Str} {ps : List Str} {sp : Sp} {f : Addr} {fd : FuncData} (h1 : mg x = some (.ref f)) (h2 : PySem.W.keepIn K (.ref f) = true) (h3 : Binds K fd ps []) (h4 : FnOk P w K mg base CX0 k f fd ps sp) : Cal P w K mg base k x ps sp := ⟨f, fd, h1, h2, h3, h4⟩
theorem mcalOf {P : Program} {w : World} {K : PySem.W.Frag} {mg : Str → Option Value} {base : Heap} {C : Addr} {k : Nat} {x : Str} {ps : List Str} {sp : Sp} {f : Addr} {fd : FuncData} (h1 : Meth K C x f) (h3 : Binds K fd ps []) (h4 : FnOk P w K mg base CX0 k f fd ps sp) : MCal P w K mg base C k x ps sp := ⟨f, fd, h1, h3, h4⟩
theorem all_mk {P : Program} {w : World} {K : PySem.W.Frag} {h : Heap} {mg : Str → Option Value} {fa C : Addr} (X : K.In h) (G : h.Ns mainGlobals mg) (hfa : mg "answers" = some (.ref fa)) (T : Facts K C) :
    ∃ fd : FuncData, (∀ (s : Shared) (us : List Value), us.length = (["calls"] : List Str).length → BindsTo s fd ⟨us, []⟩ ((["calls"] : List Str).zip us)) ∧ ∀ base : Heap, K.In base → base.Ns mainGlobals mg → FnOk P w K mg base CX0 18 fa fd ["calls"] (spAnswers K) := by
  have g0 : Gs K mg := ⟨gi_of X G T.i_BREACH, gi_of X G T.i_MUST, gi_of X G T.i_MAY, gi_of X G T.i_BOTH, gt_of X G T.t_OVER, gt_of X G T.t_HEAD_LENGTHS, gt_of X G T.t_PART_COUNTS, gt_of X G T.t_HIGHEST, gi_of X G T.i_WHO, gi_of X G T.i_ACT, gi_of X G T.i_DAYS, gi_of X G T.i_DONE, gi_of X G T.i_UNDONE, PySem.W.mg_none_of X G T.z_len, PySem.W.mg_none_of X G T.z_tuple, PySem.W.mg_none_of X G T.z_any, PySem.W.mg_none_of X G T.z_enumerate, PySem.W.mg_none_of X G T.z_reversed, PySem.W.mg_none_of X G T.z_max⟩
  have gk : Gk K mg := by
    refine ⟨gi_of X G T.i_LONGEST, gt_of X G T.t_RUNS, gt_of X G T.t_CHOICES, ?_, gt_of X G T.t_EVERY_ACT, gt_of X G T.t_NO_ACT, PySem.W.mg_none_of X G T.z_zip, PySem.W.mg_none_of X G T.z_range⟩
    obtain ⟨a, t0, t1, t2, t3, od, n, sl, e1, e2, p0, p1, p2, p3⟩ := T.wa
    exact ⟨a, t0, t1, t2, t3, PySem.W.mg_of X G e1, fun H => ⟨.inr ⟨_, _, _, e2, rfl, rfl, (by show 4 ≤ sizeLine; decide), .cons rfl (.cons rfl (.cons rfl (.cons rfl .nil)))⟩, pair_of p0 H, pair_of p1 H, pair_of p2 H, pair_of p3 H⟩⟩
  have ga : Ga K mg := ⟨gi_of X G T.i_AGREE, gi_of X G T.i_ADD, gi_of X G T.i_DAY, gi_of X G T.i_STANDS, gi_of X G T.i_WHO_IS_IN_BREACH, gi_of X G T.i_SAFE, gi_of X G T.i_TODAY, gi_of X G T.i_LEFT, gi_of X G T.i_NOT_AN_AGREEMENT, gi_of X G T.i_NOT_A_CHOICE, gi_of X G T.i_NOT_A_PARTY, gi_of X G T.i_TOO_LONG, gi_of X G T.i_NO_SUCH_CHOICE, gi_of X G T.i_HIGHEST_CHOICE, gt_of X G T.t_PARTIES, gi_of X G T.i_NOT_IN_BREACH, PySem.W.mg_none_of X G T.z_min, PySem.W.mg_none_of X G T.z_list⟩
  have tx : Tx K mg C := ⟨⟨T.cls.pg, T.cls.hd, T.cls.po, T.cls.sa⟩, T.cls.nA, T.cls.nD, T.cls.nS, PySem.W.mg_of X G T.cls.aC⟩
  obtain ⟨f0, _, _, kV0, dc0, pm0, an0, cd0, ct0, _, a0, l0, c0, k0⟩ := T.f_head_at
  have F0 := fun_mk (st := sHeadAt) l0 c0 k0
  have b0 := F0.binds (ps := ["numbers", "at"]) fun _ _ _ _ _ _ us hl => match us, hl with | [_, _], _ => rfl
  obtain ⟨f1, _, _, kV1, dc1, pm1, an1, cd1, ct1, _, a1, l1, c1, k1⟩ := T.f_heads_of
  have F1 := fun_mk (st := sHeadsOf) l1 c1 k1
  have b1 := F1.binds (ps := ["numbers"]) fun _ _ _ _ _ _ us hl => match us, hl with | [_], _ => rfl
  obtain ⟨f2, _, _, kV2, dc2, pm2, an2, cd2, ct2, _, a2, l2, c2, k2⟩ := T.f_both
  have F2 := fun_mk (st := sBoth) l2 c2 k2
  have b2 := F2.binds (ps := ["first", "second"]) fun _ _ _ _ _ _ us hl => match us, hl with | [_, _], _ => rfl
  obtain ⟨f3, _, _, kV3, dc3, pm3, an3, cd3, ct3, _, a3, l3, c3, k3⟩ := T.f_lacks_parts
  have F3 := fun_mk (st := sLacks) l3 c3 k3
  have b3 := F3.binds (ps := ["piece"]) fun _ _ _ _ _ _ us hl => match us, hl with | [_], _ => rfl
  obtain ⟨f4, _, _, kV4, dc4, pm4, an4, cd4, ct4, _, a4, l4, c4, k4⟩ := T.f_put_together
  have F4 := fun_mk (st := sPut) l4 c4 k4
  have b4 := F4.binds (ps := ["pieces"]) fun _ _ _ _ _ _ us hl => match us, hl with | [_], _ => rfl
  obtain ⟨f5, _, _, kV5, dc5, pm5, an5, cd5, ct5, _, a5, l5, c5, k5⟩ := T.f_agreement_of
  have F5 := fun_mk (st := sAgrOf) l5 c5 k5
  have b5 := F5.binds (ps := ["numbers"]) fun _ _ _ _ _ _ us hl => match us, hl with | [_], _ => rfl
  obtain ⟨f6, _, _, kV6, dc6, pm6, an6, cd6, ct6, _, a6, l6, c6, k6⟩ := T.f_taken_apart
  have F6 := fun_mk (st := sApart) l6 c6 k6
  have b6 := F6.binds (ps := ["agreement"]) fun _ _ _ _ _ _ us hl => match us, hl with | [_], _ => rfl
  obtain ⟨f7, _, _, kV7, dc7, pm7, an7, cd7, ct7, _, a7, l7, c7, k7⟩ := T.f_numbers_of
  have F7 := fun_mk (st := sNums) l7 c7 k7
  have b7 := F7.binds (ps := ["agreement"]) fun _ _ _ _ _ _ us hl => match us, hl with | [_], _ => rfl
  obtain ⟨f8, _, _, kV8, dc8, pm8, an8, cd8, ct8, _, a8, l8, c8, k8⟩ := T.f_is_in_breach
  have F8 := fun_mk (st := sInBreach) l8 c8 k8
  have b8 := F8.binds (ps := ["agreement", "party"]) fun _ _ _ _ _ _ us hl => match us, hl with | [_, _], _ => rfl
  obtain ⟨f9, _, _, kV9, dc9, pm9, an9, cd9, ct9, _, a9, l9, c9, k9⟩ := T.f_is_duty
  have F9 := fun_mk (st := sIsDuty) l9 c9 k9
  have b9 := F9.binds (ps := ["part"]) fun _ _ _ _ _ _ us hl => match us, hl with | [_], _ => rfl
  obtain ⟨f10, _, _, kV10, dc10, pm10, an10, cd10, ct10, _, a10, l10, c10, k10⟩ := T.f_duties_of
  have F10 := fun_mk (st := sDuties) l10 c10 k10
  have b10 := F10.binds (ps := ["agreement"]) fun _ _ _ _ _ _ us hl => match us, hl with | [_], _ => rfl
  obtain ⟨f11, _, _, kV11, dc11, pm11, an11, cd11, ct11, _, a11, l11, c11, k11⟩ := T.f_is_settled
  have F11 := fun_mk (st := sSettled) l11 c11 k11
  have b11 := F11.binds (ps := ["agreement"]) fun _ _ _ _ _ _ us hl => match us, hl with | [_], _ => rfl
  obtain ⟨f12, _, _, kV12, dc12, pm12, an12, cd12, ct12, _, a12, l12, c12, k12⟩ := T.f_how_long
  have F12 := fun_mk (st := sLong) l12 c12 k12
  have b12 := F12.binds (ps := ["agreement"]) fun _ _ _ _ _ _ us hl => match us, hl with | [_], _ => rfl
  obtain ⟨f13, _, _, kV13, dc13, pm13, an13, cd13, ct13, _, a13, l13, c13, k13⟩ := T.f_does
  have F13 := fun_mk (st := sDoes) l13 c13 k13
  have b13 := F13.binds (ps := ["choice", "act"]) fun _ _ _ _ _ _ us hl => match us, hl with | [_, _], _ => rfl
  obtain ⟨f14, _, _, kV14, dc14, pm14, an14, cd14, ct14, _, a14, l14, c14, k14⟩ := T.f_piece_after
  have F14 := fun_mk (st := sPieceAfter) l14 c14 k14
  have b14 := F14.binds (ps := ["piece", "choices"]) fun _ _ _ _ _ _ us hl => match us, hl with | [_, _], _ => rfl
  obtain ⟨f15, _, _, kV15, dc15, pm15, an15, cd15, ct15, _, a15, l15, c15, k15⟩ := T.f_after_day
  have F15 := fun_mk (st := sAfterDay) l15 c15 k15
  have b15 := F15.binds (ps := ["agreement", "choices"]) fun _ _ _ _ _ _ us hl => match us, hl with | [_, _], _ => rfl
  obtain ⟨f16, _, _, kV16, dc16, pm16, an16, cd16, ct16, _, a16, l16, c16, k16⟩ := T.f_joined
  have F16 := fun_mk (st := sJoined) l16 c16 k16
  have b16 := F16.binds (ps := ["rows", "width"]) fun _ _ _ _ _ _ us hl => match us, hl with | [_, _], _ => rfl
  obtain ⟨f17, _, _, kV17, dc17, pm17, an17, cd17, ct17, _, a17, l17, c17, k17⟩ := T.f_by_own_act
  have F17 := fun_mk (st := sOwn) l17 c17 k17
  have b17 := F17.binds (ps := ["act", "done", "undone"]) fun _ _ _ _ _ _ us hl => match us, hl with | [_, _, _], _ => rfl
  obtain ⟨f18, _, _, kV18, dc18, pm18, an18, cd18, ct18, _, a18, l18, c18, k18⟩ := T.f_by_others_act
  have F18 := fun_mk (st := sOthers) l18 c18 k18
  have b18 := F18.binds (ps := ["act", "done", "undone"]) fun _ _ _ _ _ _ us hl => match us, hl with | [_, _, _], _ => rfl
  obtain ⟨f19, _, _, kV19, dc19, pm19, an19, cd19, ct19, _, a19, l19, c19, k19⟩ := T.f_parts_after
  have F19 := fun_mk (st := sPartsAfter) l19 c19 k19
  have b19 := F19.binds (ps := ["duties", "choices"]) fun _ _ _ _ _ _ us hl => match us, hl with | [_, _], _ => rfl
  obtain ⟨f20, _, _, kV20, dc20, pm20, an20, cd20, ct20, _, a20, l20, c20, k20⟩ := T.f_breaches_by_duties
  have F20 := fun_mk (st := sByDuties) l20 c20 k20
  have b20 := F20.binds (ps := ["duties", "party", "days"]) fun _ _ _ _ _ _ us hl => match us, hl with | [_, _, _], _ => rfl
  obtain ⟨f21, _, _, kV21, dc21, pm21, an21, cd21, ct21, _, a21, l21, c21, k21⟩ := T.f_breaches
  have F21 := fun_mk (st := sBreaches) l21 c21 k21
  have b21 := F21.binds (ps := ["parts", "party", "days"]) fun _ _ _ _ _ _ us hl => match us, hl with | [_, _, _], _ => rfl
  obtain ⟨f22, _, _, kV22, dc22, pm22, an22, cd22, ct22, _, a22, l22, c22, k22⟩ := T.f_whatever_the_other_does
  have F22 := fun_mk (st := sWhatever) l22 c22 k22
  have b22 := F22.binds (ps := ["table"]) fun _ _ _ _ _ _ us hl => match us, hl with | [_], _ => rfl
  obtain ⟨f23, _, _, kV23, dc23, pm23, an23, cd23, ct23, _, a23, l23, c23, k23⟩ := T.f_by_the_best_choice
  have F23 := fun_mk (st := sBest) l23 c23 k23
  have b23 := F23.binds (ps := ["row", "step"]) fun _ _ _ _ _ _ us hl => match us, hl with | [_, _], _ => rfl
  obtain ⟨f24, _, _, kV24, dc24, pm24, an24, cd24, ct24, _, a24, l24, c24, k24⟩ := T.f_keeping_choices
  have F24 := fun_mk (st := sKeeping) l24 c24 k24
  have b24 := F24.binds (ps := ["agreement", "party"]) fun _ _ _ _ _ _ us hl => match us, hl with | [_, _], _ => rfl
  obtain ⟨f25, _, _, kV25, dc25, pm25, an25, cd25, ct25, _, a25, l25, c25, k25⟩ := T.f_call_length
  have F25 := fun_mk (st := sCallLen) l25 c25 k25
  have b25 := F25.binds (ps := ["calls", "at"]) fun _ _ _ _ _ _ us hl => match us, hl with | [_, _], _ => rfl
  obtain ⟨f26, _, _, kV26, dc26, pm26, an26, cd26, ct26, _, a26, l26, c26, k26⟩ := T.f_answer_to
  have F26 := fun_mk (st := sAnswerTo) l26 c26 k26
  have b26 := F26.binds (ps := ["line", "call"]) fun _ _ _ _ _ _ us hl => match us, hl with | [_, _], _ => rfl
  obtain ⟨f27, _, _, kV27, dc27, pm27, an27, cd27, ct27, _, a27, l27, c27, k27⟩ := T.f_answers
  have F27 := fun_mk (st := sAnswers) l27 c27 k27
  have b27 := F27.binds (ps := ["calls"]) fun _ _ _ _ _ _ us hl => match us, hl with | [_], _ => rfl
  obtain ⟨mf0, _, _, _, _, _, _, _, _, _, ma0, mi0, ml0, mc0, mk0⟩ := T.m_init
  have M0 := fun_mk (st := sMeth 0) ml0 mc0 mk0
  have mb0 := M0.binds (ps := ["self"]) fun _ _ _ _ _ _ us hl => match us, hl with | [_], _ => rfl
  obtain ⟨mf1, _, _, _, _, _, _, _, _, _, ma1, mi1, ml1, mc1, mk1⟩ := T.m_begin
  have M1 := fun_mk (st := sMeth 1) ml1 mc1 mk1
  have mb1 := M1.binds (ps := ["self", "agreement"]) fun _ _ _ _ _ _ us hl => match us, hl with | [_, _], _ => rfl
  obtain ⟨mf2, _, _, _, _, _, _, _, _, _, ma2, mi2, ml2, mc2, mk2⟩ := T.m_go_on
  have M2 := fun_mk (st := sMeth 2) ml2 mc2 mk2
  have mb2 := M2.binds (ps := ["self", "agreement"]) fun _ _ _ _ _ _ us hl => match us, hl with | [_, _], _ => rfl
  obtain ⟨mf3, _, _, _, _, _, _, _, _, _, ma3, mi3, ml3, mc3, mk3⟩ := T.m_note_breaches
  have M3 := fun_mk (st := sMeth 3) ml3 mc3 mk3
  have mb3 := M3.binds (ps := ["self"]) fun _ _ _ _ _ _ us hl => match us, hl with | [_], _ => rfl
  obtain ⟨mf4, _, _, _, _, _, _, _, _, _, ma4, mi4, ml4, mc4, mk4⟩ := T.m_agree
  have M4 := fun_mk (st := sMeth 4) ml4 mc4 mk4
  have mb4 := M4.binds (ps := ["self", "numbers"]) fun _ _ _ _ _ _ us hl => match us, hl with | [_, _], _ => rfl
  obtain ⟨mf5, _, _, _, _, _, _, _, _, _, ma5, mi5, ml5, mc5, mk5⟩ := T.m_add
  have M5 := fun_mk (st := sMeth 5) ml5 mc5 mk5
  have mb5 := M5.binds (ps := ["self", "numbers"]) fun _ _ _ _ _ _ us hl => match us, hl with | [_, _], _ => rfl
  obtain ⟨mf6, _, _, _, _, _, _, _, _, _, ma6, mi6, ml6, mc6, mk6⟩ := T.m_day
  have M6 := fun_mk (st := sMeth 6) ml6 mc6 mk6
  have mb6 := M6.binds (ps := ["self", "a", "b"]) fun _ _ _ _ _ _ us hl => match us, hl with | [_, _, _], _ => rfl
  obtain ⟨mf7, _, _, _, _, _, _, _, _, _, ma7, mi7, ml7, mc7, mk7⟩ := T.m_stands
  have M7 := fun_mk (st := sMeth 7) ml7 mc7 mk7
  have mb7 := M7.binds (ps := ["self"]) fun _ _ _ _ _ _ us hl => match us, hl with | [_], _ => rfl
  obtain ⟨mf8, _, _, _, _, _, _, _, _, _, ma8, mi8, ml8, mc8, mk8⟩ := T.m_who
  have M8 := fun_mk (st := sMeth 8) ml8 mc8 mk8
  have mb8 := M8.binds (ps := ["self"]) fun _ _ _ _ _ _ us hl => match us, hl with | [_], _ => rfl
  obtain ⟨mf9, _, _, _, _, _, _, _, _, _, ma9, mi9, ml9, mc9, mk9⟩ := T.m_refusal_to_look_ahead
  have M9 := fun_mk (st := sMeth 9) ml9 mc9 mk9
  have mb9 := M9.binds (ps := ["self", "party"]) fun _ _ _ _ _ _ us hl => match us, hl with | [_, _], _ => rfl
  obtain ⟨mf10, _, _, _, _, _, _, _, _, _, ma10, mi10, ml10, mc10, mk10⟩ := T.m_safe
  have M10 := fun_mk (st := sMeth 10) ml10 mc10 mk10
  have mb10 := M10.binds (ps := ["self", "party"]) fun _ _ _ _ _ _ us hl => match us, hl with | [_, _], _ => rfl
  obtain ⟨mf11, _, _, _, _, _, _, _, _, _, ma11, mi11, ml11, mc11, mk11⟩ := T.m_today
  have M11 := fun_mk (st := sMeth 11) ml11 mc11 mk11
  have mb11 := M11.binds (ps := ["self", "party"]) fun _ _ _ _ _ _ us hl => match us, hl with | [_, _], _ => rfl
  obtain ⟨mf12, _, _, _, _, _, _, _, _, _, ma12, mi12, ml12, mc12, mk12⟩ := T.m_left
  have M12 := fun_mk (st := sMeth 12) ml12 mc12 mk12
  have mb12 := M12.binds (ps := ["self"]) fun _ _ _ _ _ _ us hl => match us, hl with | [_], _ => rfl
  have e := hfa.symm.trans (PySem.W.mg_of X G a27)
  cases e
  refine ⟨PySem.W.fnOf "answers" "answers" (defArgs sAnswers) (defBody sAnswers) (defScope sAnswers) .none kV27 dc27 pm27 an27 cd27 ct27, fun s us hu => match us, hu with | [_], _ => .of_eq rfl, fun base _ _ => ?_⟩
  have C_head_at := calOf (P := P) (w := w) (base := base) (PySem.W.mg_of X G a0) k0 b0 (ok_headAt F0 g0)
  have C_heads_of := calOf (P := P) (w := w) (base := base) (PySem.W.mg_of X G a1) k1 b1 (ok_headsOf F1 g0 C_head_at)
  have C_both := calOf (P := P) (w := w) (base := base) (PySem.W.mg_of X G a2) k2 b2 (ok_both F2 g0)
  have C_lacks_parts := calOf (P := P) (w := w) (base := base) (PySem.W.mg_of X G a3) k3 b3 (ok_lacks F3 g0)
  have C_put_together := calOf (P := P) (w := w) (base := base) (PySem.W.mg_of X G a4) k4 b4 (ok_put F4 g0 C_lacks_parts C_both)
  have C_agreement_of := calOf (P := P) (w := w) (base := base) (PySem.W.mg_of X G a5) k5 b5 (ok_agrOf F5 C_heads_of C_put_together)
  have C_taken_apart := calOf (P := P) (w := w) (base := base) (PySem.W.mg_of X G a6) k6 b6 (ok_apart F6 g0)
  have C_numbers_of := calOf (P := P) (w := w) (base := base) (PySem.W.mg_of X G a7) k7 b7 (ok_nums F7 g0)
  have C_is_in_breach := calOf (P := P) (w := w) (base := base) (PySem.W.mg_of X G a8) k8 b8 (ok_inBreach F8 g0 C_taken_apart)
  have C_is_duty := calOf (P := P) (w := w) (base := base) (PySem.W.mg_of X G a9) k9 b9 (ok_isDuty F9 g0)
  have C_duties_of := calOf (P := P) (w := w) (base := base) (PySem.W.mg_of X G a10) k10 b10 (ok_duties F10 C_taken_apart C_is_duty)
  have C_is_settled := calOf (P := P) (w := w) (base := base) (PySem.W.mg_of X G a11) k11 b11 (ok_settled F11 g0 C_duties_of)
  have C_how_long := calOf (P := P) (w := w) (base := base) (PySem.W.mg_of X G a12) k12 b12 (ok_long F12 g0 C_is_duty)
  have C_does := calOf (P := P) (w := w) (base := base) (PySem.W.mg_of X G a13) k13 b13 (ok_does F13)
  have C_piece_after := calOf (P := P) (w := w) (base := base) (PySem.W.mg_of X G a14) k14 b14 (ok_pieceAfter F14 g0 C_is_duty C_does)
  have C_after_day := calOf (P := P) (w := w) (base := base) (PySem.W.mg_of X G a15) k15 b15 (ok_afterDay F15 C_put_together C_taken_apart C_piece_after)
  have C_joined := calOf (P := P) (w := w) (base := base) (PySem.W.mg_of X G a16) k16 b16 (ok_joined F16 gk)
  have C_by_own_act := calOf (P := P) (w := w) (base := base) (PySem.W.mg_of X G a17) k17 b17 (ok_own F17 g0 gk C_does C_joined)
  have C_by_others_act := calOf (P := P) (w := w) (base := base) (PySem.W.mg_of X G a18) k18 b18 (ok_others F18 g0 gk C_does C_joined)
  have C_parts_after := calOf (P := P) (w := w) (base := base) (PySem.W.mg_of X G a19) k19 b19 (ok_partsAfter F19 C_taken_apart C_piece_after)
  have C_breaches := cal_breaches (P := P) (w := w) (base := base) F21 b21 (PySem.W.mg_of X G a21) F20 b20 (PySem.W.mg_of X G a20) g0 gk C_is_duty C_parts_after C_by_own_act C_by_others_act
  have C_whatever_the_other_does := calOf (P := P) (w := w) (base := base) (PySem.W.mg_of X G a22) k22 b22 (ok_what F22 g0 gk)
  have C_by_the_best_choice := calOf (P := P) (w := w) (base := base) (PySem.W.mg_of X G a23) k23 b23 (ok_best F23)
  have C_keeping_choices := calOf (P := P) (w := w) (base := base) (PySem.W.mg_of X G a24) k24 b24 (ok_keep F24 g0 gk C_how_long C_whatever_the_other_does C_breaches C_taken_apart C_by_the_best_choice)
  have D_note_breaches := mcalOf (P := P) (w := w) (mg := mg) (base := base) (Meth.mk ma3 mi3 mk3) mb3 (ok_note M3 tx ga C_is_in_breach)
  have D_begin := mcalOf (P := P) (w := w) (mg := mg) (base := base) (Meth.mk ma1 mi1 mk1) mb1 (ok_begin M1 tx ga D_note_breaches)
  have D_go_on := mcalOf (P := P) (w := w) (mg := mg) (base := base) (Meth.mk ma2 mi2 mk2) mb2 (ok_goOn M2 tx D_note_breaches)
  have D_agree := mcalOf (P := P) (w := w) (mg := mg) (base := base) (Meth.mk ma4 mi4 mk4) mb4 (ok_agree M4 tx ga C_agreement_of D_begin C_how_long)
  have D_add := mcalOf (P := P) (w := w) (mg := mg) (base := base) (Meth.mk ma5 mi5 mk5) mb5 (ok_add M5 tx ga C_agreement_of D_go_on C_how_long C_both)
  have D_day := mcalOf (P := P) (w := w) (mg := mg) (base := base) (Meth.mk ma6 mi6 mk6) mb6 (ok_day M6 tx ga C_after_day D_go_on C_is_settled)
  have D_stands := mcalOf (P := P) (w := w) (mg := mg) (base := base) (Meth.mk ma7 mi7 mk7) mb7 (ok_stands M7 tx g0 C_duties_of)
  have D_who := mcalOf (P := P) (w := w) (mg := mg) (base := base) (Meth.mk ma8 mi8 mk8) mb8 (ok_who M8 tx ga)
  have D_refusal_to_look_ahead := mcalOf (P := P) (w := w) (mg := mg) (base := base) (Meth.mk ma9 mi9 mk9) mb9 (ok_refusal M9 tx ga gk C_how_long)
  have D_safe := mcalOf (P := P) (w := w) (mg := mg) (base := base) (Meth.mk ma10 mi10 mk10) mb10 (ok_safe M10 tx g0 D_refusal_to_look_ahead C_keeping_choices)
  have D_today := mcalOf (P := P) (w := w) (mg := mg) (base := base) (Meth.mk ma11 mi11 mk11) mb11 (ok_today M11 tx ga D_refusal_to_look_ahead C_keeping_choices)
  have D_left := mcalOf (P := P) (w := w) (mg := mg) (base := base) (Meth.mk ma12 mi12 mk12) mb12 (ok_left M12 tx g0 C_numbers_of)
  have C_call_length := calOf (P := P) (w := w) (base := base) (PySem.W.mg_of X G a25) k25 b25 (ok_callLen F25 ga)
  have C_answer_to := calOf (P := P) (w := w) (base := base) (PySem.W.mg_of X G a26) k26 b26 (ok_answerTo F26 tx ga ⟨D_agree, D_add, D_day, D_stands, D_who, D_safe, D_today, D_left⟩)
  have FI := ok_init (P := P) (w := w) (base := base) M0 tx g0 D_begin
  exact ok_answers F27 tx g0 ⟨T.cls.mks, ma0, mi0, T.cls.kc⟩ mb0 FI C_call_length C_answer_to
end Duty

open PySem PySem.W PyProof.Rows
set_option maxRecDepth 100000 in
set_option maxHeartbeats 0 in
theorem PySem.Challenge.cw_dutydays_s01_answers_holds : PySem.Challenge.rw_dutydays_s01_answers.Holds := by
  w_on; k_headS; (case hw => exact ⟨[.list [.int 3]], by decide +kernel, by decide +kernel⟩)
  k_fillS
  refine L2.walk_specK (r := PySem.Challenge.rw_dutydays_s01_answers) (k := 18) (CX := L2.CX0) (ps := ["calls"]) (sp := Duty.spAnswers) (by decide +kernel) rfl rfl ⟨rfl, by decide, by decide⟩ (fun w h Y => PySem.W.kIn_of Y) ?F ?S (fun _ _ _ _ z => z)
  case F =>
    intro w mg fa h Y KX G hmg
    refine' Duty.all_mk KX G hmg ⟨?cls, ?i_BREACH, ?i_MUST, ?i_MAY, ?i_BOTH, ?i_WHO, ?i_ACT, ?i_DAYS, ?i_DONE, ?i_UNDONE, ?i_LONGEST, ?i_AGREE, ?i_ADD, ?i_DAY, ?i_STANDS, ?i_WHO_IS_IN_BREACH, ?i_SAFE, ?i_TODAY, ?i_LEFT, ?i_NOT_AN_AGREEMENT, ?i_NOT_A_CHOICE, ?i_NOT_A_PARTY, ?i_TOO_LONG, ?i_NO_SUCH_CHOICE, ?i_HIGHEST_CHOICE, ?i_NOT_IN_BREACH, ?t_OVER, ?t_HEAD_LENGTHS, ?t_PART_COUNTS, ?t_HIGHEST, ?t_RUNS, ?t_CHOICES, ?t_EVERY_ACT, ?t_NO_ACT, ?t_PARTIES, ?wa, ?z_len, ?z_tuple, ?z_any, ?z_enumerate, ?z_reversed, ?z_max, ?z_zip, ?z_range, ?z_min, ?z_list, ?f_head_at, ?f_heads_of, ?f_both, ?f_lacks_parts, ?f_put_together, ?f_agreement_of, ?f_taken_apart, ?f_numbers_of, ?f_is_in_breach, ?f_is_duty, ?f_duties_of, ?f_is_settled, ?f_how_long, ?f_does, ?f_piece_after, ?f_after_day, ?f_joined, ?f_by_own_act, ?f_by_others_act, ?f_parts_after, ?f_breaches_by_duties, ?f_breaches, ?f_whatever_the_other_does, ?f_by_the_best_choice, ?f_keeping_choices, ?f_call_length, ?f_answer_to, ?f_answers, ?m_init, ?m_begin, ?m_go_on, ?m_note_breaches, ?m_agree, ?m_add, ?m_day, ?m_stands, ?m_who, ?m_refusal_to_look_ahead, ?m_safe, ?m_today, ?m_left⟩
    (case cls => refine' ⟨?aC, ?pg, ?hd, ?po, ?sa, ?mk, ?kc, ?nA, ?nD, ?nS⟩; (case aC => k_is); (case pg => k_is); (case hd => k_is); (case po => k_is); (case sa => k_is); (case mk => k_is); (case kc => k_is); (case nA => k_is); (case nD => k_is); (case nS => k_is))
    (case i_BREACH => refine' Duty.intAt_of ?a; (case a => k_is))
    (case i_MUST => refine' Duty.intAt_of ?a; (case a => k_is))
    (case i_MAY => refine' Duty.intAt_of ?a; (case a => k_is))
    (case i_BOTH => refine' Duty.intAt_of ?a; (case a => k_is))
    (case i_WHO => refine' Duty.intAt_of ?a; (case a => k_is))
    (case i_ACT => refine' Duty.intAt_of ?a; (case a => k_is))
    (case i_DAYS => refine' Duty.intAt_of ?a; (case a => k_is))
    (case i_DONE => refine' Duty.intAt_of ?a; (case a => k_is))
    (case i_UNDONE => refine' Duty.intAt_of ?a; (case a => k_is))
    (case i_LONGEST => refine' Duty.intAt_of ?a; (case a => k_is))
    (case i_AGREE => refine' Duty.intAt_of ?a; (case a => k_is))
    (case i_ADD => refine' Duty.intAt_of ?a; (case a => k_is))
    (case i_DAY => refine' Duty.intAt_of ?a; (case a => k_is))
    (case i_STANDS => refine' Duty.intAt_of ?a; (case a => k_is))
    (case i_WHO_IS_IN_BREACH => refine' Duty.intAt_of ?a; (case a => k_is))
    (case i_SAFE => refine' Duty.intAt_of ?a; (case a => k_is))
    (case i_TODAY => refine' Duty.intAt_of ?a; (case a => k_is))
    (case i_LEFT => refine' Duty.intAt_of ?a; (case a => k_is))
    (case i_NOT_AN_AGREEMENT => refine' Duty.intAt_of ?a; (case a => k_is))
    (case i_NOT_A_CHOICE => refine' Duty.intAt_of ?a; (case a => k_is))
    (case i_NOT_A_PARTY => refine' Duty.intAt_of ?a; (case a => k_is))
    (case i_TOO_LONG => refine' Duty.intAt_of ?a; (case a => k_is))
    (case i_NO_SUCH_CHOICE => refine' Duty.intAt_of ?a; (case a => k_is))
    (case i_HIGHEST_CHOICE => refine' Duty.intAt_of ?a; (case a => k_is))
    (case i_NOT_IN_BREACH => refine' Duty.intAt_of ?a; (case a => k_is))
    (case t_OVER => refine' Duty.tupAt_of ?a ?l ?z ?v; (case a => k_is); (case l => k_is); (case z => exact (by decide)); (case v => exact .cons ⟨_, rfl⟩ (.nil)))
    (case t_HEAD_LENGTHS => refine' Duty.tupAt_of ?a ?l ?z ?v; (case a => k_is); (case l => k_is); (case z => exact (by decide)); (case v => exact .cons ⟨_, rfl⟩ (.cons ⟨_, rfl⟩ (.cons ⟨_, rfl⟩ (.cons ⟨_, rfl⟩ (.cons ⟨_, rfl⟩ (.cons ⟨_, rfl⟩ (.nil))))))))
    (case t_PART_COUNTS => refine' Duty.tupAt_of ?a ?l ?z ?v; (case a => k_is); (case l => k_is); (case z => exact (by decide)); (case v => exact .cons ⟨_, rfl⟩ (.cons ⟨_, rfl⟩ (.cons ⟨_, rfl⟩ (.cons ⟨_, rfl⟩ (.cons ⟨_, rfl⟩ (.cons ⟨_, rfl⟩ (.nil))))))))
    (case t_HIGHEST => refine' Duty.tupAt_of ?a ?l ?z ?v; (case a => k_is); (case l => k_is); (case z => exact (by decide)); (case v => exact .cons ⟨_, rfl⟩ (.cons ⟨_, rfl⟩ (.cons ⟨_, rfl⟩ (.cons ⟨_, rfl⟩ (.nil))))))
    (case t_RUNS => refine' Duty.tupAt_of ?a ?l ?z ?v; (case a => k_is); (case l => k_is); (case z => exact (by decide)); (case v => exact .cons ⟨_, rfl⟩ (.cons ⟨_, rfl⟩ (.cons ⟨_, rfl⟩ (.cons ⟨_, rfl⟩ (.cons ⟨_, rfl⟩ (.cons ⟨_, rfl⟩ (.nil))))))))
    (case t_CHOICES => refine' Duty.tupAt_of ?a ?l ?z ?v; (case a => k_is); (case l => k_is); (case z => exact (by decide)); (case v => exact .cons ⟨_, rfl⟩ (.cons ⟨_, rfl⟩ (.cons ⟨_, rfl⟩ (.cons ⟨_, rfl⟩ (.nil))))))
    (case t_EVERY_ACT => refine' Duty.tupAt_of ?a ?l ?z ?v; (case a => k_is); (case l => k_is); (case z => exact (by decide)); (case v => exact .cons ⟨_, rfl⟩ (.cons ⟨_, rfl⟩ (.nil))))
    (case t_NO_ACT => refine' Duty.tupAt_of ?a ?l ?z ?v; (case a => k_is); (case l => k_is); (case z => exact (by decide)); (case v => exact .cons ⟨_, rfl⟩ (.cons ⟨_, rfl⟩ (.nil))))
    (case t_PARTIES => refine' Duty.tupAt_of ?a ?l ?z ?v; (case a => k_is); (case l => k_is); (case z => exact (by decide)); (case v => exact .cons ⟨_, rfl⟩ (.cons ⟨_, rfl⟩ (.nil))))
    (case wa => refine' Duty.waAt_of ?a ?l ?p0 ?p1 ?p2 ?p3; (case a => k_is); (case l => k_is); (case p0 => refine' Duty.pairAt_of ?l ?z ?v; (case l => k_is); (case z => exact (by decide)); (case v => exact .cons ⟨_, rfl⟩ (.cons ⟨_, rfl⟩ .nil))); (case p1 => refine' Duty.pairAt_of ?l ?z ?v; (case l => k_is); (case z => exact (by decide)); (case v => exact .cons ⟨_, rfl⟩ (.cons ⟨_, rfl⟩ .nil))); (case p2 => refine' Duty.pairAt_of ?l ?z ?v; (case l => k_is); (case z => exact (by decide)); (case v => exact .cons ⟨_, rfl⟩ (.cons ⟨_, rfl⟩ .nil))); (case p3 => refine' Duty.pairAt_of ?l ?z ?v; (case l => k_is); (case z => exact (by decide)); (case v => exact .cons ⟨_, rfl⟩ (.cons ⟨_, rfl⟩ .nil))))
    (case z_len => refine' Duty.freeAt_of ?a; (case a => k_is))
    (case z_tuple => refine' Duty.freeAt_of ?a; (case a => k_is))
    (case z_any => refine' Duty.freeAt_of ?a; (case a => k_is))
    (case z_enumerate => refine' Duty.freeAt_of ?a; (case a => k_is))
    (case z_reversed => refine' Duty.freeAt_of ?a; (case a => k_is))
    (case z_max => refine' Duty.freeAt_of ?a; (case a => k_is))
    (case z_zip => refine' Duty.freeAt_of ?a; (case a => k_is))
    (case z_range => refine' Duty.freeAt_of ?a; (case a => k_is))
    (case z_min => refine' Duty.freeAt_of ?a; (case a => k_is))
    (case z_list => refine' Duty.freeAt_of ?a; (case a => k_is))
    (case f_head_at => refine' Duty.fnAt_of ?a ?l ?c ?k; (case a => k_is); (case l => k_is); (case c => k_is); (case k => k_is))
    (case f_heads_of => refine' Duty.fnAt_of ?a ?l ?c ?k; (case a => k_is); (case l => k_is); (case c => k_is); (case k => k_is))
    (case f_both => refine' Duty.fnAt_of ?a ?l ?c ?k; (case a => k_is); (case l => k_is); (case c => k_is); (case k => k_is))
    (case f_lacks_parts => refine' Duty.fnAt_of ?a ?l ?c ?k; (case a => k_is); (case l => k_is); (case c => k_is); (case k => k_is))
    (case f_put_together => refine' Duty.fnAt_of ?a ?l ?c ?k; (case a => k_is); (case l => k_is); (case c => k_is); (case k => k_is))
    (case f_agreement_of => refine' Duty.fnAt_of ?a ?l ?c ?k; (case a => k_is); (case l => k_is); (case c => k_is); (case k => k_is))
    (case f_taken_apart => refine' Duty.fnAt_of ?a ?l ?c ?k; (case a => k_is); (case l => k_is); (case c => k_is); (case k => k_is))
    (case f_numbers_of => refine' Duty.fnAt_of ?a ?l ?c ?k; (case a => k_is); (case l => k_is); (case c => k_is); (case k => k_is))
    (case f_is_in_breach => refine' Duty.fnAt_of ?a ?l ?c ?k; (case a => k_is); (case l => k_is); (case c => k_is); (case k => k_is))
    (case f_is_duty => refine' Duty.fnAt_of ?a ?l ?c ?k; (case a => k_is); (case l => k_is); (case c => k_is); (case k => k_is))
    (case f_duties_of => refine' Duty.fnAt_of ?a ?l ?c ?k; (case a => k_is); (case l => k_is); (case c => k_is); (case k => k_is))
    (case f_is_settled => refine' Duty.fnAt_of ?a ?l ?c ?k; (case a => k_is); (case l => k_is); (case c => k_is); (case k => k_is))
    (case f_how_long => refine' Duty.fnAt_of ?a ?l ?c ?k; (case a => k_is); (case l => k_is); (case c => k_is); (case k => k_is))
    (case f_does => refine' Duty.fnAt_of ?a ?l ?c ?k; (case a => k_is); (case l => k_is); (case c => k_is); (case k => k_is))
    (case f_piece_after => refine' Duty.fnAt_of ?a ?l ?c ?k; (case a => k_is); (case l => k_is); (case c => k_is); (case k => k_is))
    (case f_after_day => refine' Duty.fnAt_of ?a ?l ?c ?k; (case a => k_is); (case l => k_is); (case c => k_is); (case k => k_is))
    (case f_joined => refine' Duty.fnAt_of ?a ?l ?c ?k; (case a => k_is); (case l => k_is); (case c => k_is); (case k => k_is))
    (case f_by_own_act => refine' Duty.fnAt_of ?a ?l ?c ?k; (case a => k_is); (case l => k_is); (case c => k_is); (case k => k_is))
    (case f_by_others_act => refine' Duty.fnAt_of ?a ?l ?c ?k; (case a => k_is); (case l => k_is); (case c => k_is); (case k => k_is))
    (case f_parts_after => refine' Duty.fnAt_of ?a ?l ?c ?k; (case a => k_is); (case l => k_is); (case c => k_is); (case k => k_is))
    (case f_breaches_by_duties => refine' Duty.fnAt_of ?a ?l ?c ?k; (case a => k_is); (case l => k_is); (case c => k_is); (case k => k_is))
    (case f_breaches => refine' Duty.fnAt_of ?a ?l ?c ?k; (case a => k_is); (case l => k_is); (case c => k_is); (case k => k_is))
    (case f_whatever_the_other_does => refine' Duty.fnAt_of ?a ?l ?c ?k; (case a => k_is); (case l => k_is); (case c => k_is); (case k => k_is))
    (case f_by_the_best_choice => refine' Duty.fnAt_of ?a ?l ?c ?k; (case a => k_is); (case l => k_is); (case c => k_is); (case k => k_is))
    (case f_keeping_choices => refine' Duty.fnAt_of ?a ?l ?c ?k; (case a => k_is); (case l => k_is); (case c => k_is); (case k => k_is))
    (case f_call_length => refine' Duty.fnAt_of ?a ?l ?c ?k; (case a => k_is); (case l => k_is); (case c => k_is); (case k => k_is))
    (case f_answer_to => refine' Duty.fnAt_of ?a ?l ?c ?k; (case a => k_is); (case l => k_is); (case c => k_is); (case k => k_is))
    (case f_answers => refine' Duty.fnAt_of ?a ?l ?c ?k; (case a => k_is); (case l => k_is); (case c => k_is); (case k => k_is))
    (case m_init => refine' Duty.mtAt_of ?a ?i ?l ?c ?k; (case a => k_is); (case i => k_is); (case l => k_is); (case c => k_is); (case k => k_is))
    (case m_begin => refine' Duty.mtAt_of ?a ?i ?l ?c ?k; (case a => k_is); (case i => k_is); (case l => k_is); (case c => k_is); (case k => k_is))
    (case m_go_on => refine' Duty.mtAt_of ?a ?i ?l ?c ?k; (case a => k_is); (case i => k_is); (case l => k_is); (case c => k_is); (case k => k_is))
    (case m_note_breaches => refine' Duty.mtAt_of ?a ?i ?l ?c ?k; (case a => k_is); (case i => k_is); (case l => k_is); (case c => k_is); (case k => k_is))
    (case m_agree => refine' Duty.mtAt_of ?a ?i ?l ?c ?k; (case a => k_is); (case i => k_is); (case l => k_is); (case c => k_is); (case k => k_is))
    (case m_add => refine' Duty.mtAt_of ?a ?i ?l ?c ?k; (case a => k_is); (case i => k_is); (case l => k_is); (case c => k_is); (case k => k_is))
    (case m_day => refine' Duty.mtAt_of ?a ?i ?l ?c ?k; (case a => k_is); (case i => k_is); (case l => k_is); (case c => k_is); (case k => k_is))
    (case m_stands => refine' Duty.mtAt_of ?a ?i ?l ?c ?k; (case a => k_is); (case i => k_is); (case l => k_is); (case c => k_is); (case k => k_is))
    (case m_who => refine' Duty.mtAt_of ?a ?i ?l ?c ?k; (case a => k_is); (case i => k_is); (case l => k_is); (case c => k_is); (case k => k_is))
    (case m_refusal_to_look_ahead => refine' Duty.mtAt_of ?a ?i ?l ?c ?k; (case a => k_is); (case i => k_is); (case l => k_is); (case c => k_is); (case k => k_is))
    (case m_safe => refine' Duty.mtAt_of ?a ?i ?l ?c ?k; (case a => k_is); (case i => k_is); (case l => k_is); (case c => k_is); (case k => k_is))
    (case m_today => refine' Duty.mtAt_of ?a ?i ?l ?c ?k; (case a => k_is); (case i => k_is); (case l => k_is); (case c => k_is); (case k => k_is))
    (case m_left => refine' Duty.mtAt_of ?a ?i ?l ?c ?k; (case a => k_is); (case i => k_is); (case l => k_is); (case c => k_is); (case k => k_is))
  case S =>
    intro K H xs a hO hwi hask hx
    cases hx with
    | cons h1 h2 =>
      cases h2
      cases h1 with
      | lst hs ha =>
        have e := L2.ints_dw a.1 _ ha
        subst e
        have q : ((Codec.inLen 0 6120 a.1 && a.1.all (Codec.inInt 0 1000)) && true) = true := hwi
        rw [Bool.and_eq_true, Bool.and_eq_true] at q
        have hz : ∀ z ∈ a.1, 0 ≤ z ∧ z ≤ 1000 := fun z hm => by
          have := List.all_eq_true.mp q.1.2 z hm
          simpa [Codec.inInt] using this
        exact ⟨_, a.1, rfl, hs, hz, hask, fun H' p hp => .lst (L2.SqL.of hp) (L2.dw_ints _)⟩
#print axioms PySem.Challenge.cw_dutydays_s01_answers_holds
