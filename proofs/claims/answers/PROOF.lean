import PyProof.Rows.All
import Wide.All
import OpenK.AllK
import Wide.FinOn
import PyProof.EqAt
import PyProof.EqKinds
import PyProof.TupleCall
import KE.KLam
import KE.DataMinKey
import KE.DataMinMax
import KE.DataFind
import KE.SortKeyHeap
import HandS.ForMost
import HandS.ForSpec
import HandS.Lambda
import HandS.SortKw
import HandS.Deep
import HandS.More
import KE.KNestM
import HandS.Rev
import HandS.Walk
import Open.SpecLaws
import KE.OsHead
import KE.OsGo
import PySem.Challenge.RW_jumpcontest_s01_answers
set_option Elab.async false
/-! The mirror of the program: its state, its defs as total functions; that it answers as the specification does. -/
namespace Jc
open Kg63

/-- a jump-off: who's in it still, its bar, the turn, who cleared in the round so far, how many rounds each has come through -/
structure JO where
  off : List Nat
  bar : Nat
  turn : Nat
  clears : List Bool
  come : Nat → Nat
structure MS where
  heights : List Nat
  rise : Nat
  turn : Nat
  ath : List Kg63.Athlete
  bar : Nat
  jo : Option JO
  decl : Bool
def noone : Kg63.Athlete := ⟨[], true, none⟩
def MS.A (m : MS) (i : Nat) : Kg63.Athlete := m.ath.getD i noone
def MS.n (m : MS) : Nat := m.ath.length
def MS.notOut (m : MS) : List Nat := (List.range m.ath.length).filter fun i => !(m.A i).out
def MS.due (m : MS) : List Nat := (List.range m.ath.length).filter fun i => (m.A i).due m.bar
def MS.rounds (m : MS) (i : Nat) : Nat := match m.jo with
  | none => 0
  | some j => j.come i
/-- less for who's ahead -/
def MS.stand (m : MS) (i : Nat) : List Int := [-((m.A i).best : Int), (failsAt (m.A i) (m.A i).best : Int), (failsTo (m.A i) (m.A i).best : Int), -(m.rounds i : Int)]
def MS.ranked (m : MS) : List Nat := (List.range m.ath.length).filter fun i => decide (0 < (m.A i).best)
/-- into a list in order, behind those that are alike -/
def ins (lt : Nat → Nat → Bool) (x : Nat) : List Nat → List Nat
  | [] => [x]
  | y :: l => if lt x y = true then x :: y :: l else y :: ins lt x l
def insAll (lt : Nat → Nat → Bool) (l : List Nat) : List Nat := l.foldl (fun l i => ins lt i l) []
def MS.ahead (m : MS) (i j : Nat) : Bool := less (m.stand i) (m.stand j)
def MS.order (m : MS) : List Nat := insAll m.ahead m.ranked
def MS.place (m : MS) (i : Nat) : Nat := (m.ranked.filter fun j => m.ahead j i).length + 1
def MS.firsts (m : MS) : List Nat := m.order.filter fun i => m.place i == 1
def MS.phase (m : MS) : Nat :=
  if m.notOut ≠ [] then 0
  else match m.jo with
    | some j => if j.off.length = 1 then 3 else 2
    | none => if m.decl = true ∨ m.firsts.length < 2 then 3 else 1
def MS.barNow (m : MS) : Nat := match m.jo with
  | some j => if m.phase = 2 then j.bar else m.bar
  | none => m.bar
def MS.whoIn (m : MS) : List Nat := match m.jo with
  | some j => if m.phase = 2 then j.off else m.notOut
  | none => m.notOut
def lstep (f : Nat → Nat) (b : Option Nat) (i : Nat) : Option Nat := match b with
  | none => some i
  | some j => if f i < f j then some i else some j
/-- the first of those for whom f is least -/
def least (f : Nat → Nat) (l : List Nat) : Option Nat := l.foldl (lstep f) none
def MS.up (m : MS) : Option Nat := match m.jo with
  | some j => if m.phase = 2 then j.off[j.clears.length]? else least (fun i => failsAt (m.A i) m.bar) m.due
  | none => least (fun i => failsAt (m.A i) m.bar) m.due
def MS.which (m : MS) (i : Nat) : Nat := if m.phase = 2 then 1 else failsAt (m.A i) m.bar + 1
def behind (heights : List Nat) (rise h : Nat) : Nat := ((heights.filter fun x => decide (h < x)).min?).getD (h + rise)
def MS.after (m : MS) (h : Nat) : Nat := behind m.heights m.rise h
def MS.raise (m : MS) : MS := if m.due = [] ∧ m.notOut ≠ [] then { m with bar := m.after m.bar } else m
def MS.add (m : MS) (i how : Nat) : MS := { m with ath := m.ath.modify i fun a => { a with jumps := a.jumps ++ [⟨m.bar, how⟩] } }
def MS.gone (m : MS) (i : Nat) : MS := { m with ath := m.ath.modify i fun a => { a with left := true } }
def MS.tried (m : MS) : Nat := (m.ath.map fun a => (a.jumps.map Jump.height).foldl max 0).foldl max 0
def bump (l : List Nat) (f : Nat → Nat) : Nat → Nat := fun i => if i ∈ l then f i + 1 else f i
/-- those who cleared -/
def cleared (l : List Nat) (c : List Bool) : List Nat := ((l.zip c).filter fun x => x.2).map fun x => x.1
def JO.endRound (j : JO) : JO :=
  let good := cleared j.off j.clears
  if good = [] then { j with clears := [], bar := j.bar - j.turn, come := bump j.off j.come }
  else { j with clears := [], off := good, bar := j.bar + j.turn, come := bump good j.come }
def JO.take (j : JO) (c : Bool) : JO :=
  let k : JO := { j with clears := j.clears ++ [c] }
  if k.clears.length = k.off.length then k.endRound else k
def MS.jump (m : MS) (i how : Nat) : MS := match m.jo with
  | some j => if m.phase = 2 then { m with jo := some (j.take (how == 1)) } else (m.add i how).raise
  | none => (m.add i how).raise
def MS.start (m : MS) : MS := { m with jo := some { off := m.firsts, bar := m.after (((m.firsts.head?).map fun i => (m.A i).best).getD 0), turn := m.turn, clears := [], come := fun _ => 0 } }
def MS.new (n rise turn : Nat) (l : List Nat) : MS := { heights := l, rise := rise, turn := turn, ath := List.replicate n ⟨[], false, none⟩, bar := l.headD 0, jo := none, decl := false }
def MS.init : MS := MS.new 0 1 1 [0]
def MS.state (m : MS) (first : Int) : List Int := [first, (m.phase : Int), (m.barNow : Int)]
def okBegin (n rise turn : Int) (l : List Int) : Bool := within n 1 20 && (within rise 1 20 && (within turn 1 10 && (l.all (fun z => within z 50 700) && (rising l && (decide (1 ≤ l.length) && decide (l.length ≤ 30))))))
/-- a call: the contest then, what is answered -/
def MS.step (m : MS) : Kg63.Call → MS × List Int
  | .begin_ n rise turn l => if okBegin n rise turn l = false then (m, [-1]) else (MS.new n.toNat rise.toNat turn.toNat (l.map Int.toNat), [0])
  | .up => (m, match m.up with
    | none => [-4]
    | some i => [(i : Int), (m.barNow : Int), (m.which i : Int)])
  | .jump how => if within how 0 2 = false then (m, [-1]) else match m.up with
    | none => (m, [-4])
    | some i => if how = 2 ∧ (m.phase = 2 ∨ 950 ≤ m.barNow) then (m, [-5]) else ((m.jump i how.toNat), (m.jump i how.toNat).state i)
  | .leave i => if (decide (0 ≤ i) && decide (i < (m.ath.length : Int))) = false then (m, [-1]) else if m.phase ≠ 0 then (m, [-4]) else if (m.A i.toNat).out = true then (m, [-5]) else ((m.gone i.toNat).raise, ((m.gone i.toNat).raise).state 0)
  | .height h => if within h 50 999 = false then (m, [-1]) else if m.notOut.length ≠ 1 then (m, [-4]) else if h ≤ (m.tried : Int) then (m, [-5]) else ({ m with bar := h.toNat }, ({ m with bar := h.toNat } : MS).state ((m.notOut.headD 0 : Nat) : Int))
  | .off yes => if within yes 0 1 = false then (m, [-1]) else if m.phase ≠ 1 then (m, [-4]) else if yes = 0 then ({ m with decl := true }, [(m.firsts.length : Int)]) else (m.start, [(m.firsts.length : Int), (m.start.barNow : Int)])
  | .card i => (m, if (decide (0 ≤ i) && decide (i < (m.ath.length : Int))) = false then [-1] else
      ((m.A i.toNat).best : Int) :: (inRow (m.A i.toNat).jumps : Int) :: (if (m.A i.toNat).out = true then 1 else 0) :: ((m.A i.toNat).jumps.flatMap fun j => [(j.height : Int), (j.how : Int)]))
  | .order => (m, (m.order.length : Int) :: m.order.flatMap fun (i : Nat) => [(i : Int), (m.place i : Int), ((m.A i).best : Int)])
  | .now => (m, (m.phase : Int) :: (m.barNow : Int) :: m.whoIn.map fun (i : Nat) => (i : Int))
end Jc

namespace Jc
open Kg63
/-! ### order: two ways of saying it -/
theorem less_append : ∀ (a b : List Int) (x y : Int), a.length = b.length → less (a ++ [x]) (b ++ [y]) = (less a b || (a == b && decide (x < y)))
  | [], [], x, y, _ => by
    show (decide (x < y) || (x == y && less [] [])) = (false || (true && decide (x < y)))
    simp [less]
  | a :: as, b :: bs, x, y, h => by
    have ih := less_append as bs x y (by simpa using h)
    show (decide (a < b) || (a == b && less (as ++ [x]) (bs ++ [y]))) = ((decide (a < b) || (a == b && less as bs)) || ((a :: as) == (b :: bs) && decide (x < y)))
    rw [ih]
    have e : ((a :: as) == (b :: bs)) = (a == b && as == bs) := rfl
    rw [e]
    cases decide (a < b) <;> cases (a == b) <;> simp
theorem less_irrefl : ∀ a : List Int, less a a = false
  | [] => rfl
  | x :: a => by
    show (decide (x < x) || (x == x && less a a)) = false
    simp [less_irrefl a]
theorem less_asymm : ∀ a b : List Int, less a b = true → less b a = false
  | [], [], h => by cases h
  | [], _ :: _, h => by cases h
  | _ :: _, [], h => by cases h
  | x :: a, y :: b, h => by
    have ih := less_asymm a b
    simp only [less, Bool.or_eq_true, decide_eq_true_eq, Bool.and_eq_true, beq_iff_eq] at h
    simp only [less, Bool.or_eq_false_iff, decide_eq_false_iff_not, Bool.and_eq_false_iff]
    rcases h with h | ⟨rfl, h⟩
    · exact ⟨by omega, .inl (by simp; omega)⟩
    · exact ⟨by omega, .inr (ih h)⟩
theorem less_trans : ∀ a b c : List Int, less a b = true → less b c = true → less a c = true
  | [], _, _, h, _ => by cases h
  | _ :: _, [], _, h, _ => by cases h
  | _ :: _, _ :: _, [], _, h => by cases h
  | x :: a, y :: b, z :: c, h, h' => by
    have ih := less_trans a b c
    simp only [less, Bool.or_eq_true, decide_eq_true_eq, Bool.and_eq_true, beq_iff_eq] at h h' ⊢
    rcases h with h | ⟨rfl, h⟩
    · rcases h' with h' | ⟨rfl, h'⟩
      · exact .inl (by omega)
      · exact .inl h
    · rcases h' with h' | ⟨rfl, h'⟩
      · exact .inl h'
      · exact .inr ⟨rfl, ih h h'⟩
theorem less_total : ∀ a b : List Int, a.length = b.length → less a b = false → less b a = false → a = b
  | [], [], _, _, _ => rfl
  | x :: a, y :: b, hl, h, h' => by
    simp only [less, Bool.or_eq_false_iff, decide_eq_false_iff_not, Bool.and_eq_false_iff] at h h'
    have e : x = y := by omega
    subst e
    have ih := less_total a b (by simpa using hl) (by simpa using h.2) (by simpa using h'.2)
    rw [ih]
theorem stand_len (m : MS) (i : Nat) : (m.stand i).length = 4 := rfl
theorem stand_is (m : MS) (i : Nat) : m.stand i = key (m.A i) ++ [-(m.rounds i : Int)] := rfl
theorem ahead_is (m : MS) (i j : Nat) : m.ahead i j = (less (key (m.A i)) (key (m.A j)) || (key (m.A i) == key (m.A j) && decide (m.rounds j < m.rounds i))) := by
  unfold MS.ahead
  rw [stand_is, stand_is, less_append (key (m.A i)) (key (m.A j)) _ _ rfl]
  congr 2
  exact decide_eq_decide.mpr (by omega)
/-! ### inserting -/
theorem ins_congr {f g : Nat → Nat → Bool} {x : Nat} : ∀ {l : List Nat}, (∀ y ∈ l, f x y = g x y) → ins f x l = ins g x l
  | [], _ => rfl
  | y :: l, h => by
    unfold ins
    rw [h y List.mem_cons_self, ins_congr fun z hz => h z (List.mem_cons_of_mem _ hz)]
theorem ins_perm {f : Nat → Nat → Bool} {x : Nat} : ∀ {l : List Nat}, (ins f x l).Perm (x :: l)
  | [] => List.Perm.refl _
  | y :: l => by
    unfold ins
    split
    · exact List.Perm.refl _
    · exact (List.Perm.cons y ins_perm).trans (List.Perm.swap x y l)
theorem foldl_ins_perm {f : Nat → Nat → Bool} : ∀ (l acc : List Nat), (l.foldl (fun l i => ins f i l) acc).Perm (acc ++ l)
  | [], acc => by simp
  | x :: l, acc => by
    have h := foldl_ins_perm (f := f) l (ins f x acc)
    refine h.trans ?_
    have h2 : (ins f x acc ++ l).Perm ((x :: acc) ++ l) := ins_perm.append_right l
    refine h2.trans ?_
    simp only [List.cons_append]
    exact List.perm_middle.symm
theorem insAll_perm (f : Nat → Nat → Bool) (l : List Nat) : (insAll f l).Perm l := by
  have h := foldl_ins_perm (f := f) l []
  simpa [insAll] using h
theorem insAll_mem {f : Nat → Nat → Bool} {l : List Nat} {x : Nat} : x ∈ insAll f l ↔ x ∈ l := (insAll_perm f l).mem_iff
theorem foldl_ins_congr {f g : Nat → Nat → Bool} {P : Nat → Prop} (hP : ∀ x y, P x → P y → f x y = g x y) : ∀ (l acc : List Nat), (∀ x ∈ l, P x) → (∀ x ∈ acc, P x) → l.foldl (fun l i => ins f i l) acc = l.foldl (fun l i => ins g i l) acc
  | [], _, _, _ => rfl
  | x :: l, acc, hl, ha => by
    have hx := hl x List.mem_cons_self
    have e : ins f x acc = ins g x acc := ins_congr fun y hy => hP x y hx (ha y hy)
    simp only [List.foldl_cons]
    rw [e]
    exact foldl_ins_congr hP l _ (fun y hy => hl y (List.mem_cons_of_mem _ hy)) fun y hy => by
      rcases List.mem_cons.mp (ins_perm.mem_iff.mp hy) with rfl | hy
      · exact hx
      · exact ha y hy
theorem insAll_congr {f g : Nat → Nat → Bool} {l : List Nat} (h : ∀ x ∈ l, ∀ y ∈ l, f x y = g x y) : insAll f l = insAll g l :=
  foldl_ins_congr (P := fun x => x ∈ l) (fun x y hx hy => h x hx y hy) l [] (fun _ h => h) (fun _ h => by cases h)
/-- f is a strict weak order on l -/
structure Swk (f : Nat → Nat → Bool) : Prop where
  asymm : ∀ x y, f x y = true → f y x = false
  neg : ∀ x y z, f y x = false → f z y = false → f z x = false
/-- in order, alike ones by their numbers -/
def Ord (f : Nat → Nat → Bool) (l : List Nat) : Prop := l.Pairwise fun x y => f x y = true ∨ (f y x = false ∧ x < y)
theorem Ord.le {f : Nat → Nat → Bool} (S : Swk f) {l : List Nat} (h : Ord f l) : l.Pairwise fun x y => f y x = false :=
  h.imp fun {x y} h => h.elim (S.asymm x y) And.left
theorem ins_ord {f : Nat → Nat → Bool} (S : Swk f) {x : Nat} : ∀ {l : List Nat}, Ord f l → (∀ y ∈ l, y < x) → Ord f (ins f x l)
  | [], _, _ => List.pairwise_singleton _ _
  | y :: l, h, hx => by
    have h' := List.pairwise_cons.mp h
    unfold ins
    split
    · rename_i c
      refine List.pairwise_cons.mpr ⟨fun z hz => ?_, h⟩
      rcases List.mem_cons.mp hz with rfl | hz
      · exact .inl c
      · refine .inl ?_
        have hle : f z y = false := ((Ord.le S h) |> List.pairwise_cons.mp).1 z hz
        cases e : f x z with
        | true => rfl
        | false =>
          have q : f x y = false := S.neg y z x hle e
          rw [c] at q
          cases q
    · rename_i c
      have c : f x y = false := by simpa using c
      refine List.pairwise_cons.mpr ⟨fun z hz => ?_, ins_ord S h'.2 fun z hz => hx z (List.mem_cons_of_mem _ hz)⟩
      rcases List.mem_cons.mp (ins_perm.mem_iff.mp hz) with rfl | hz
      · exact .inr ⟨c, hx y List.mem_cons_self⟩
      · exact h'.1 z hz
theorem foldl_ins_ord {f : Nat → Nat → Bool} (S : Swk f) : ∀ (l acc : List Nat), l.Pairwise (· < ·) → (∀ x ∈ acc, ∀ y ∈ l, x < y) → Ord f acc → Ord f (l.foldl (fun l i => ins f i l) acc)
  | [], _, _, _, h => h
  | x :: l, acc, hl, hal, h => by
    have hl' := List.pairwise_cons.mp hl
    simp only [List.foldl_cons]
    refine foldl_ins_ord S l _ hl'.2 (fun y hy z hz => ?_) (ins_ord S h fun y hy => hal y hy x List.mem_cons_self)
    rcases List.mem_cons.mp (ins_perm.mem_iff.mp hy) with rfl | hy
    · exact hl'.1 z hz
    · exact hal y hy z (List.mem_cons_of_mem _ hz)
theorem insAll_ord {f : Nat → Nat → Bool} (S : Swk f) {l : List Nat} (h : l.Pairwise (· < ·)) : Ord f (insAll f l) := foldl_ins_ord S l [] h (fun _ h => by cases h) List.Pairwise.nil
/-- two lists in order of the same items are one -/
theorem ord_unique {f : Nat → Nat → Bool} (S : Swk f) : ∀ {l l' : List Nat}, Ord f l → Ord f l' → l.Perm l' → l = l'
  | [], l', _, _, p => by
    have := p.length_eq
    cases l' with
    | nil => rfl
    | cons => simp at this
  | x :: l, [], _, _, p => by simpa using p.length_eq
  | x :: l, y :: l', h, h', p => by
    have a := List.pairwise_cons.mp h
    have b := List.pairwise_cons.mp h'
    have e : x = y := by
      rcases List.mem_cons.mp (p.mem_iff.mp (List.mem_cons_self (a := x) (l := l))) with e | hx
      · exact e
      · rcases List.mem_cons.mp (p.mem_iff.mpr (List.mem_cons_self (a := y) (l := l'))) with e | hy
        · exact e.symm
        · have h1 := a.1 y hy
          have h2 := b.1 x hx
          rcases h1 with h1 | ⟨h1, h1'⟩
          · rcases h2 with h2 | ⟨h2, _⟩
            · rw [S.asymm _ _ h1] at h2; cases h2
            · rw [h1] at h2; cases h2
          · rcases h2 with h2 | ⟨_, h2'⟩
            · rw [h1] at h2; cases h2
            · omega
    subst e
    rw [ord_unique S a.2 b.2 (List.Perm.cons_inv p)]
theorem ahead_swk (m : MS) : Swk m.ahead where
  asymm := fun x y h => less_asymm _ _ h
  neg := fun x y z h h' => by
    -- ¬ y < x, ¬ z < y → ¬ z < x
    unfold MS.ahead at *
    cases e : less (m.stand z) (m.stand x) with
    | false => rfl
    | true =>
      cases e2 : less (m.stand x) (m.stand y) with
      | true =>
        have := less_trans _ _ _ e e2
        rw [h'] at this; cases this
      | false =>
        have := less_total (m.stand x) (m.stand y) rfl e2 h
        rw [this] at e
        rw [h'] at e; cases e
theorem ranked_lt (m : MS) : m.ranked.Pairwise (· < ·) := List.Pairwise.filter _ List.pairwise_lt_range
theorem order_ord (m : MS) : Ord m.ahead m.order := insAll_ord (ahead_swk m) (ranked_lt m)
theorem order_perm (m : MS) : m.order.Perm m.ranked := insAll_perm _ _
theorem order_mem (m : MS) {i : Nat} : i ∈ m.order ↔ i ∈ m.ranked := insAll_mem
end Jc

namespace Jc
open Kg63
def strip (a : Kg63.Athlete) : Kg63.Athlete := { a with offOut := none }
theorem strip_noone : strip noone = noone := rfl
theorem A_map {m : MS} {s : State} (h : m.ath = s.athletes.map strip) (i : Nat) : m.A i = strip (s.athlete i) := by
  unfold MS.A State.athlete
  rw [h, List.getD_eq_getElem?_getD, List.getD_eq_getElem?_getD, List.getElem?_map]
  cases s.athletes[i]? <;> rfl
theorem len_map {m : MS} {s : State} (h : m.ath = s.athletes.map strip) : m.ath.length = s.athletes.length := by rw [h, List.length_map]
theorem notOut_is {m : MS} {s : State} (h : m.ath = s.athletes.map strip) : m.notOut = s.inIt := by
  unfold MS.notOut State.inIt
  rw [len_map h]
  refine List.filter_congr fun i hi => ?_
  have hi := List.mem_range.mp hi
  rw [A_map h, State.athlete, List.getD_eq_getElem?_getD, List.getElem?_eq_getElem hi]
  rfl
theorem due_is {m : MS} {s : State} (h : m.ath = s.athletes.map strip) (b : m.bar = s.bar) : m.due = (List.range s.athletes.length).filter fun i => (s.athlete i).due s.bar := by
  unfold MS.due
  rw [len_map h]
  refine List.filter_congr fun i _ => ?_
  rw [A_map h, b]
  rfl
theorem due_out {a : Kg63.Athlete} {b : Nat} (h : a.due b = true) : a.out = false ∧ failsAt a b = (a.at_ b).length := by
  unfold Athlete.due at h
  rw [Bool.and_eq_true] at h
  refine ⟨by simpa using h.1, ?_⟩
  unfold failsAt
  rw [List.filter_eq_self.mpr fun j hj => List.all_eq_true.mp h.2 j hj]
theorem least_congr {f g : Nat → Nat} {P : Nat → Prop} (h : ∀ i, P i → f i = g i) : ∀ (l : List Nat) (b : Option Nat), (∀ i ∈ l, P i) → (∀ i, b = some i → P i) → l.foldl (lstep f) b = l.foldl (lstep g) b
  | [], _, _, _ => rfl
  | x :: l, b, hl, hb => by
    have hx := hl x List.mem_cons_self
    simp only [List.foldl_cons]
    have e : lstep f b x = lstep g b x := by
      cases b with
      | none => rfl
      | some j =>
        show (if f x < f j then some x else some j) = if g x < g j then some x else some j
        rw [h x hx, h j (hb j rfl)]
    rw [e]
    refine least_congr h l _ (fun i hi => hl i (List.mem_cons_of_mem _ hi)) fun i hi => ?_
    cases b with
    | none => cases hi; exact hx
    | some j =>
      have hi : (if g x < g j then some x else some j) = some i := hi
      split at hi
      · cases hi; exact hx
      · exact hb i hi
theorem foldl_lstep_mem {f : Nat → Nat} : ∀ (l : List Nat) (b : Option Nat) (i : Nat), l.foldl (lstep f) b = some i → i ∈ l ∨ b = some i
  | [], _, _, h => .inr h
  | x :: l, b, i, h => by
    rcases foldl_lstep_mem l _ i h with h | h
    · exact .inl (List.mem_cons_of_mem _ h)
    · cases b with
      | none => cases h; exact .inl List.mem_cons_self
      | some j =>
        have h : (if f x < f j then some x else some j) = some i := h
        split at h
        · cases h; exact .inl List.mem_cons_self
        · exact .inr h
theorem least_mem {f : Nat → Nat} {l : List Nat} {i : Nat} (h : least f l = some i) : i ∈ l := by
  rcases foldl_lstep_mem l none i h with h | h
  · exact h
  · cases h
theorem foldl_lstep_some {f : Nat → Nat} : ∀ (l : List Nat) (j : Nat), l.foldl (lstep f) (some j) ≠ none
  | [], _, h => by cases h
  | x :: l, j, h => by
    have h : l.foldl (lstep f) (if f x < f j then some x else some j) = none := h
    split at h
    · exact foldl_lstep_some l _ h
    · exact foldl_lstep_some l _ h
theorem least_none {f : Nat → Nat} {l : List Nat} : least f l = none ↔ l = [] := by
  cases l with
  | nil => exact ⟨fun _ => rfl, fun _ => rfl⟩
  | cons x l => exact ⟨fun h => absurd h (foldl_lstep_some l x), fun h => by cases h⟩
theorem upMain_is {m : MS} {s : State} (h : m.ath = s.athletes.map strip) (b : m.bar = s.bar) : least (fun i => failsAt (m.A i) m.bar) m.due = s.upMain := by
  have e : s.upMain = ((List.range s.athletes.length).filter fun i => (s.athlete i).due s.bar).foldl (lstep fun i => ((s.athlete i).at_ s.bar).length) none := rfl
  rw [e]
  unfold least
  rw [due_is h b]
  refine least_congr (P := fun i => (s.athlete i).due s.bar = true) (fun i hi => ?_) _ none (fun i hi => (List.mem_filter.mp hi).2) (fun _ h => by cases h)
  have := (due_out hi).2
  rw [A_map h, b]
  exact this
theorem notOut_of_due {m : MS} (h : m.due ≠ []) : m.notOut ≠ [] := by
  intro e
  obtain ⟨x, hx⟩ := List.exists_mem_of_ne_nil _ h
  have hx := List.mem_filter.mp hx
  have : x ∈ m.notOut := List.mem_filter.mpr ⟨hx.1, by rw [(due_out hx.2).1]; rfl⟩
  rw [e] at this
  cases this
/-! ### the height behind -/
theorem foldl_min_sorted : ∀ (l : List Nat) (x : Nat), (∀ y ∈ l, x < y) → l.foldl min x = x
  | [], _, _ => rfl
  | y :: l, x, h => by
    simp only [List.foldl_cons]
    have : min x y = x := Nat.min_eq_left (Nat.le_of_lt (h y List.mem_cons_self))
    rw [this]
    exact foldl_min_sorted l x fun z hz => h z (List.mem_cons_of_mem _ hz)
theorem behind_is (rise h : Nat) : ∀ {l : List Nat}, l.Pairwise (· < ·) → behind l rise h = (l.find? fun x => decide (h < x)).getD (h + rise) := by
  intro l hl
  unfold behind
  have key : ∀ {l : List Nat}, l.Pairwise (· < ·) → (l.filter fun x => decide (h < x)).min? = l.find? fun x => decide (h < x) := by
    intro l
    induction l with
    | nil => intro _; rfl
    | cons x l ih =>
      intro hl
      have hl := List.pairwise_cons.mp hl
      by_cases c : h < x
      · rw [List.filter_cons_of_pos (by simpa using c), List.find?_cons_of_pos (by simpa using c)]
        show some (List.foldl min x _) = some x
        rw [foldl_min_sorted _ _ fun y hy => hl.1 y (List.mem_filter.mp hy).1]
      · rw [List.filter_cons_of_neg (by simpa using c), List.find?_cons_of_neg (by simpa using c)]
        exact ih hl.2
  rw [key hl]
/-! ### the first ones -/
theorem place_one {m : MS} {i : Nat} : m.place i = 1 ↔ ∀ j ∈ m.ranked, m.ahead j i = false := by
  unfold MS.place
  constructor
  · intro h j hj
    have : (m.ranked.filter fun j => m.ahead j i) = [] := List.length_eq_zero_iff.mp (by omega)
    have := (List.filter_eq_nil_iff.mp this) j hj
    simpa using this
  · intro h
    have : (m.ranked.filter fun j => m.ahead j i) = [] := List.filter_eq_nil_iff.mpr fun j hj => by rw [h j hj]; simp
    rw [this]; rfl
theorem ahead_key {m : MS} (h : m.jo = none) (i j : Nat) : m.ahead i j = less (key (m.A i)) (key (m.A j)) := by
  rw [ahead_is]
  have e : ∀ i, m.rounds i = 0 := fun i => by unfold MS.rounds; rw [h]
  rw [e, e]
  simp
def MS.firsts0 (m : MS) : List Nat := m.ranked.filter fun i => m.ranked.all fun j => !less (key (m.A j)) (key (m.A i))
theorem firsts0_lt (m : MS) : m.firsts0.Pairwise (· < ·) := List.Pairwise.filter _ (ranked_lt m)
theorem firsts_is {m : MS} (h : m.jo = none) : m.firsts = m.firsts0 := by
  have e : m.firsts0 = m.ranked.filter fun i => m.place i == 1 := by
    refine List.filter_congr fun i _ => ?_
    apply Bool.eq_iff_iff.mpr
    rw [beq_iff_eq, place_one, List.all_eq_true]
    refine forall_congr' fun j => forall_congr' fun _ => ?_
    rw [ahead_key h]
    simp
  rw [e]
  refine ord_unique (ahead_swk m) (List.Pairwise.filter _ (order_ord m)) ?_ ((order_perm m).filter _)
  refine List.Pairwise.imp_of_mem (R := (· < ·)) (fun {a b} ha hb hab => .inr ⟨?_, hab⟩) (List.Pairwise.filter _ (ranked_lt m))
  have ha := List.mem_filter.mp ha
  have hb := List.mem_filter.mp hb
  exact place_one.mp (by simpa using ha.2) b hb.1
theorem ranked_is {m : MS} {s : State} (h : m.ath = s.athletes.map strip) : m.ranked = s.ranked := by
  unfold MS.ranked State.ranked
  rw [len_map h]
  refine List.filter_congr fun i _ => ?_
  rw [A_map h]
  rfl
theorem key_strip (a : Kg63.Athlete) : key (strip a) = key a := rfl
theorem firsts0_is {m : MS} {s : State} (h : m.ath = s.athletes.map strip) : m.firsts0 = s.firsts := by
  unfold MS.firsts0 State.firsts
  rw [ranked_is h]
  refine List.filter_congr fun i _ => ?_
  congr 1
  funext j
  rw [A_map h, A_map h, key_strip, key_strip]
/-- whether one is first hangs on the key alone -/
theorem firsts_key {s : State} {i j : Nat} (hi : i ∈ s.ranked) (hj : j ∈ s.ranked) (e : key (s.athlete i) = key (s.athlete j)) : i ∈ s.firsts ↔ j ∈ s.firsts := by
  unfold State.firsts
  rw [List.mem_filter, List.mem_filter, e]
  exact ⟨fun h => ⟨hj, h.2⟩, fun h => ⟨hi, h.2⟩⟩
/-! ### athletes changed -/
theorem zipIdx_map_getElem? {α β : Type} (l : List α) (g : α × Nat → β) (i : Nat) : (l.zipIdx.map g)[i]? = (l[i]?).map fun a => g (a, i) := by
  rw [List.getElem?_map, List.getElem?_zipIdx]
  cases l[i]? <;> simp
theorem put_map {m : MS} {s : State} (h : m.ath = s.athletes.map strip) (i : Nat) (f : Kg63.Athlete → Kg63.Athlete) (hf : ∀ a, strip (f a) = f (strip a)) : m.ath.modify i f = (s.put i f).athletes.map strip := by
  apply List.ext_getElem?
  intro k
  show (m.ath.modify i f)[k]? = (((s.athletes.zipIdx.map fun x => if x.2 = i then f x.1 else x.1)).map strip)[k]?
  rw [List.getElem?_modify, h, List.getElem?_map, List.getElem?_map, zipIdx_map_getElem?]
  cases s.athletes[k]? with
  | none => rfl
  | some a =>
    simp only [Option.map_some]
    by_cases e : k = i
    · subst e
      simp [hf]
    · simp [e, Ne.symm e]
theorem put_off {s : State} {i : Nat} {f : Kg63.Athlete → Kg63.Athlete} (hf : ∀ a, (f a).offOut = a.offOut) (k : Nat) : ((s.put i f).athlete k).offOut = (s.athlete k).offOut := by
  unfold State.athlete
  show (List.getD (s.athletes.zipIdx.map fun x => if x.2 = i then f x.1 else x.1) k noone).offOut = (s.athletes.getD k noone).offOut
  rw [List.getD_eq_getElem?_getD, List.getD_eq_getElem?_getD, zipIdx_map_getElem?]
  cases s.athletes[k]? with
  | none => rfl
  | some a =>
    simp only [Option.map_some, Option.getD_some]
    split
    · exact hf a
    · rfl
theorem foldl_max_app : ∀ (l : List Nat) (a : Nat), l.foldl max a = max a (l.foldl max 0)
  | [], a => by simp
  | x :: l, a => by
    simp only [List.foldl_cons]
    rw [foldl_max_app l (max a x), foldl_max_app l (max 0 x)]
    omega
theorem tried_is {m : MS} {s : State} (h : m.ath = s.athletes.map strip) : m.tried = (s.athletes.flatMap fun a => a.jumps.map Jump.height).foldl max 0 := by
  unfold MS.tried
  rw [h]
  generalize s.athletes = l
  induction l with
  | nil => rfl
  | cons a l ih =>
    simp only [List.map_cons, List.foldl_cons, List.flatMap_cons, List.foldl_append]
    rw [foldl_max_app _ (max 0 _), foldl_max_app _ (List.foldl max 0 _), ih]
    congr 1
end Jc

namespace Jc
open Kg63
/-! ### the jump-off -/
theorem find_next : ∀ (off : List Nat) (c : List Bool), off.Nodup → off.find? (fun i => !(off.zip c).any fun x => x.1 == i) = off[c.length]?
  | [], c, _ => by cases c <;> rfl
  | x :: r, [], _ => by
    rw [List.find?_cons_of_pos (by rfl)]
    rfl
  | x :: r, c :: cs, h => by
    have h := List.nodup_cons.mp h
    have e : ((x :: r).zip (c :: cs)).any (fun y => y.1 == x) = true := by
      show ((x == x) || _) = true
      simp
    rw [List.find?_cons_of_neg (by rw [e]; decide)]
    have ih := find_next r cs h.2
    rw [List.length_cons, List.getElem?_cons_succ, ← ih]
    have key : ∀ l : List Nat, (∀ i ∈ l, i ≠ x) → l.find? (fun i => !((x :: r).zip (c :: cs)).any fun y => y.1 == i) = l.find? (fun i => !(r.zip cs).any fun y => y.1 == i) := by
      intro l
      induction l with
      | nil => intro _; rfl
      | cons a l ihl =>
        intro hl
        have ha : (x == a) = false := beq_eq_false_iff_ne.mpr fun e => hl a List.mem_cons_self e.symm
        have e2 : ((x :: r).zip (c :: cs)).any (fun y => y.1 == a) = (r.zip cs).any fun y => y.1 == a := by
          show ((x == a) || _) = _
          rw [ha, Bool.false_or]
          rfl
        rw [List.find?_cons, List.find?_cons, e2, ihl fun i hi => hl i (List.mem_cons_of_mem _ hi)]
    exact key r fun i hi e => h.1 (e ▸ hi)
theorem zip_snoc : ∀ (off : List Nat) (c : List Bool) (i : Nat) (b : Bool), off[c.length]? = some i → off.zip (c ++ [b]) = off.zip c ++ [(i, b)]
  | [], c, i, b, h => by simp at h
  | x :: r, [], i, b, h => by
    have : x = i := by simpa using h
    subst this
    simp
  | x :: r, c :: cs, i, b, h => by
    have ih := zip_snoc r cs i b (by simpa using h)
    simp [ih]
theorem all_done (off : List Nat) (c : List Bool) (hn : off.Nodup) (h : c.length ≤ off.length) : off.all (fun i => (off.zip c).any fun x => x.1 == i) = decide (c.length = off.length) := by
  by_cases e : c.length = off.length
  · rw [decide_eq_true e, List.all_eq_true]
    intro i hi
    rw [List.any_eq_true]
    obtain ⟨k, hk, rfl⟩ := List.mem_iff_getElem.mp hi
    exact ⟨(off[k], c[k]'(by omega)), List.mem_iff_getElem.mpr ⟨k, by simp; omega, by simp⟩, by simp⟩
  · rw [decide_eq_false e]
    have hn2 := find_next off c hn
    rw [List.getElem?_eq_getElem (by omega)] at hn2
    have h1 := List.find?_some hn2
    have h2 := List.mem_of_find?_eq_some hn2
    cases q : off.all (fun i => (off.zip c).any fun x => x.1 == i) with
    | false => rfl
    | true =>
      have := (List.all_eq_true.mp q) _ h2
      simp only [this] at h1
      cases h1
theorem cleared_sub : ∀ (off : List Nat) (c : List Bool), (cleared off c).Sublist off
  | [], c => by cases c <;> exact List.Sublist.slnil
  | x :: r, [] => List.nil_sublist _
  | x :: r, c :: cs => by
    have ih := cleared_sub r cs
    unfold cleared at ih ⊢
    cases c with
    | true => simpa using ih
    | false => simpa using ih.cons x
theorem filter_sub : ∀ {a l : List Nat}, a.Sublist l → l.Nodup → (l.filter fun i => a.contains i) = a := by
  intro a l h
  induction h with
  | slnil => intro _; rfl
  | @cons a l x h ih =>
    intro hn
    have hn := List.nodup_cons.mp hn
    rw [List.filter_cons_of_neg (by simpa using fun e => hn.1 (h.subset e))]
    exact ih hn.2
  | @cons_cons a l x h ih =>
    intro hn
    have hn := List.nodup_cons.mp hn
    rw [List.filter_cons_of_pos (by simp)]
    congr 1
    rw [← ih hn.2]
    refine List.filter_congr fun i hi => ?_
    rw [ih hn.2]
    have : i ≠ x := fun e => hn.1 (e ▸ hi)
    simp [this]
structure JoR (m : MS) (s : State) (j : JO) : Prop where
  notOut : m.notOut = []
  off : s.off = j.off
  turn : j.turn = s.turn
  nd : j.off.Nodup
  sub : ∀ i ∈ j.off, i ∈ s.firsts
  ne : j.off ≠ []
  on : j.off.length ≠ 1 → s.done = j.off.zip j.clears ∧ j.clears.length < j.off.length ∧ s.offBar = j.bar
  come : ∃ c, (j.off.length ≠ 1 → c = s.round) ∧ (∀ i ∈ j.off, (s.athlete i).offOut = none ∧ j.come i = c) ∧ (∀ i ∈ s.firsts, i ∉ j.off → ∃ r, (s.athlete i).offOut = some r ∧ j.come i = r ∧ r < c) ∧ ∀ i, i ∉ s.firsts → (s.athlete i).offOut = none ∧ j.come i = 0
structure R (m : MS) (s : State) : Prop where
  ath : m.ath = s.athletes.map strip
  bar : m.bar = s.bar
  phase : s.phase = m.phase
  params : m.ath ≠ [] → m.heights = s.heights ∧ m.rise = s.rise ∧ m.turn = s.turn ∧ s.heights.Pairwise (· < ·)
  decl : m.decl = true → m.notOut = [] ∧ m.jo = none
  none_ : m.jo = none → ∀ i, (s.athlete i).offOut = none
  some_ : ∀ j, m.jo = some j → JoR m s j
theorem R.inIt {m : MS} {s : State} (r : R m s) : s.inIt = m.notOut := (notOut_is r.ath).symm
theorem R.firsts {m : MS} {s : State} (r : R m s) (h : m.jo = none) : m.firsts = s.firsts := (firsts_is h).trans (firsts0_is r.ath)
theorem phase_zero {m : MS} : m.phase = 0 ↔ m.notOut ≠ [] := by
  unfold MS.phase
  by_cases h : m.notOut ≠ []
  · rw [if_pos h]; exact ⟨fun _ => h, fun _ => rfl⟩
  · rw [if_neg h]
    refine ⟨fun e => ?_, fun e => absurd e h⟩
    split at e
    · split at e <;> cases e
    · split at e <;> cases e
theorem phase_two {m : MS} : m.phase = 2 ↔ m.notOut = [] ∧ ∃ j, m.jo = some j ∧ j.off.length ≠ 1 := by
  unfold MS.phase
  by_cases h : m.notOut = []
  · rw [if_neg (by simpa using h)]
    cases e : m.jo with
    | none =>
      refine ⟨fun q => ?_, fun ⟨_, j, q, _⟩ => by cases q⟩
      have q : (if m.decl = true ∨ m.firsts.length < 2 then 3 else 1) = 2 := q
      split at q <;> cases q
    | some j =>
      show (if j.off.length = 1 then 3 else 2) = 2 ↔ _
      by_cases c : j.off.length = 1
      · rw [if_pos c]
        exact ⟨fun q => (by cases q), fun ⟨_, k, q, z⟩ => (by cases q; exact absurd c z)⟩
      · rw [if_neg c]
        exact ⟨fun _ => ⟨h, j, rfl, c⟩, fun _ => rfl⟩
  · rw [if_pos h]
    exact ⟨fun q => (by cases q), fun q => absurd q.1 h⟩
theorem phase_one {m : MS} (h : m.phase = 1) : m.notOut = [] ∧ m.jo = none ∧ m.decl = false ∧ 2 ≤ m.firsts.length := by
  unfold MS.phase at h
  split at h
  · cases h
  · rename_i h1
    split at h
    · split at h <;> cases h
    · rename_i e
      split at h
      · cases h
      · rename_i c
        refine ⟨by simpa using h1, e, ?_, by omega⟩
        cases q : m.decl with
        | false => rfl
        | true => exact absurd (.inl q) c
theorem R.barNow {m : MS} {s : State} (r : R m s) : s.barNow = m.barNow := by
  unfold State.barNow MS.barNow
  rw [r.phase]
  cases e : m.jo with
  | none =>
    rw [if_neg, r.bar]
    intro q
    obtain ⟨_, j, z, _⟩ := phase_two.mp q
    rw [e] at z; cases z
  | some j =>
    by_cases q : m.phase = 2
    · rw [if_pos q]
      show _ = if m.phase = 2 then j.bar else m.bar
      rw [if_pos q]
      obtain ⟨_, k, z, c⟩ := phase_two.mp q
      rw [e] at z; cases z
      exact ((r.some_ j e).on c).2.2
    · rw [if_neg q]
      show _ = if m.phase = 2 then j.bar else m.bar
      rw [if_neg q, r.bar]
theorem R.told {m : MS} {s : State} (r : R m s) (first : Int) : first :: Kg63.told s = m.state first := by
  unfold Kg63.told MS.state whole
  rw [r.phase, r.barNow]
  rfl
theorem R.up {m : MS} {s : State} (r : R m s) : s.up = m.up := by
  unfold State.up MS.up
  rw [r.phase]
  by_cases h0 : m.phase = 0
  · have e : m.phase ≠ 2 := by omega
    rw [if_pos h0]
    cases m.jo with
    | none => exact (upMain_is r.ath r.bar).symm
    | some j =>
      show _ = if m.phase = 2 then _ else _
      rw [if_neg e]
      exact (upMain_is r.ath r.bar).symm
  · rw [if_neg h0]
    have hn : m.notOut = [] := by
      cases q : m.notOut with
      | nil => rfl
      | cons a b => exact absurd (phase_zero.mpr (by rw [q]; simp)) h0
    have hd : m.due = [] := by
      cases q : m.due with
      | nil => rfl
      | cons a b => exact absurd hn (notOut_of_due (by rw [q]; simp))
    by_cases h2 : m.phase = 2
    · rw [if_pos h2]
      obtain ⟨_, j, e, c⟩ := phase_two.mp h2
      have J := r.some_ j e
      rw [e]
      show _ = if m.phase = 2 then j.off[j.clears.length]? else _
      rw [if_pos h2, (J.on c).1, J.off]
      exact find_next _ _ J.nd
    · rw [if_neg h2]
      cases m.jo with
      | none => rw [hd]; rfl
      | some j =>
        show _ = if m.phase = 2 then _ else _
        rw [if_neg h2, hd]; rfl
/-! ### the order -/
theorem R.ahead {m : MS} {s : State} (r : R m s) {i j : Nat} (hi : i ∈ s.ranked) (hj : j ∈ s.ranked) : s.ahead i j = m.ahead i j := by
  rw [ahead_is]
  unfold State.ahead
  rw [A_map r.ath, A_map r.ath, key_strip, key_strip]
  simp only []
  congr 1
  cases e : (key (s.athlete i) == key (s.athlete j)) with
  | false => rfl
  | true =>
    rw [Bool.true_and, Bool.true_and]
    have e : key (s.athlete i) = key (s.athlete j) := by simpa using e
    have hf := firsts_key hi hj e
    cases q : m.jo with
    | none =>
      rw [r.none_ q, r.none_ q]
      unfold MS.rounds
      rw [q]
      rfl
    | some jo =>
      have J := r.some_ jo q
      obtain ⟨c, _, h1, h2, h3⟩ := J.come
      have er : ∀ k, m.rounds k = jo.come k := fun k => by unfold MS.rounds; rw [q]
      rw [er, er]
      by_cases fi : i ∈ s.firsts
      · have fj := hf.mp fi
        by_cases oi : i ∈ jo.off
        · obtain ⟨a1, a2⟩ := h1 i oi
          by_cases oj : j ∈ jo.off
          · obtain ⟨b1, b2⟩ := h1 j oj
            rw [a1, b1, a2, b2]
            simp
          · obtain ⟨y, b1, b2, b3⟩ := h2 j fj oj
            rw [a1, b1, a2, b2]
            simp only [decide_eq_true b3]
            simpa using fi
        · obtain ⟨x, a1, a2, a3⟩ := h2 i fi oi
          by_cases oj : j ∈ jo.off
          · obtain ⟨b1, b2⟩ := h1 j oj
            rw [a1, b1, a2, b2]
            simp
            omega
          · obtain ⟨y, b1, b2, b3⟩ := h2 j fj oj
            rw [a1, b1, a2, b2]
      · have fj : j ∉ s.firsts := fun z => fi (hf.mpr z)
        obtain ⟨a1, a2⟩ := h3 i fi
        obtain ⟨b1, b2⟩ := h3 j fj
        rw [a1, b1, a2, b2]
        simp
theorem put_is (s : State) (x : Nat) : ∀ l, put_ s x l = ins s.ahead x l
  | [] => rfl
  | y :: l => by
    unfold put_ ins
    rw [put_is s x l]
theorem R.order {m : MS} {s : State} (r : R m s) : s.order = m.order := by
  unfold State.order MS.order
  have e : (fun l i => put_ s i l) = fun l i => ins s.ahead i l := by
    funext l i
    exact put_is s i l
  rw [e, ranked_is r.ath]
  exact insAll_congr fun x hx y hy => r.ahead hx hy
theorem R.place {m : MS} {s : State} (r : R m s) {i : Nat} (hi : i ∈ s.ranked) : s.place i = m.place i := by
  unfold State.place MS.place
  rw [ranked_is r.ath, Nat.add_comm]
  congr 2
  exact List.filter_congr fun j hj => r.ahead hj hi
end Jc

namespace Jc
open Kg63
theorem phase_pres {m m' : MS} (h1 : m'.notOut = m.notOut) (h2 : m'.jo = m.jo) (h3 : m'.decl = m.decl) (h4 : m'.firsts = m.firsts) : m'.phase = m.phase := by
  unfold MS.phase
  rw [h1, h2, h3, h4]
theorem firsts_ath {m m' : MS} (h : m'.ath = m.ath) (j : m.jo = none) (j' : m'.jo = none) : m'.firsts = m.firsts := by
  rw [firsts_is j, firsts_is j']
  unfold MS.firsts0 MS.ranked MS.A
  rw [h]
theorem notOut_ath {m m' : MS} (h : m'.ath = m.ath) : m'.notOut = m.notOut := by
  unfold MS.notOut MS.A
  rw [h]
theorem phase_on {m : MS} (h : m.notOut ≠ []) : m.phase = 0 := phase_zero.mpr h
/-- what settle does, where the contest is on and its athletes have been changed -/
theorem settle_R {m : MS} {s : State} (hath : m.ath = s.athletes.map strip) (hbar : m.bar = s.bar) (hp : s.phase = 0) (hjo : m.jo = none) (hd : m.decl = false)
    (hpar : m.ath ≠ [] → m.heights = s.heights ∧ m.rise = s.rise ∧ m.turn = s.turn ∧ s.heights.Pairwise (· < ·)) (hoff : ∀ i, (s.athlete i).offOut = none) : R m.raise s.settle := by
  have hup := upMain_is hath hbar
  have hin := notOut_is hath
  have hf : m.firsts = s.firsts := (firsts_is hjo).trans (firsts0_is hath)
  have hdue : s.upMain = none ↔ m.due = [] := by rw [← hup]; exact least_none
  by_cases c : s.upMain = none
  · by_cases e : s.inIt = []
    · have e1 : m.raise = m := if_neg (by rw [hin, e]; simp)
      have e2 : s.settle = { s with phase := if 2 ≤ s.firsts.length then 1 else 3 } := by
        unfold State.settle
        rw [if_pos ⟨hp, c⟩, if_pos e]
      rw [e1, e2]
      have ep : m.phase = if 2 ≤ s.firsts.length then 1 else 3 := by
        unfold MS.phase
        rw [if_neg (by rw [hin, e]; simp), hjo]
        show (if m.decl = true ∨ m.firsts.length < 2 then 3 else 1) = _
        rw [hd, hf]
        by_cases q : 2 ≤ s.firsts.length
        · rw [if_pos q, if_neg (by simp; omega)]
        · rw [if_neg q, if_pos (.inr (by omega))]
      exact ⟨hath, hbar, ep.symm, hpar, fun z => by (rw [hd] at z; cases z), fun _ => hoff, fun j z => by (rw [hjo] at z; cases z)⟩
    · have e1 : m.raise = { m with bar := m.after m.bar } := if_pos ⟨hdue.mp c, by rw [hin]; exact e⟩
      have e2 : s.settle = { s with bar := s.after s.bar } := by
        unfold State.settle
        rw [if_pos ⟨hp, c⟩, if_neg e]
      rw [e1, e2]
      have hne : m.ath ≠ [] := by
        intro z
        apply e
        rw [← hin]
        unfold MS.notOut
        rw [z]; rfl
      obtain ⟨p1, p2, p3, p4⟩ := hpar hne
      have eb : m.after m.bar = s.after s.bar := by
        unfold MS.after State.after
        rw [p1, p2, hbar]
        exact behind_is _ _ p4
      refine ⟨hath, eb, ?_, hpar, fun z => by (have z : m.decl = true := z; rw [hd] at z; cases z), fun _ => hoff, fun j z => by (have z : m.jo = some j := z; rw [hjo] at z; cases z)⟩
      show s.phase = _
      rw [hp]
      exact (phase_on (m := { m with bar := m.after m.bar }) (by show m.notOut ≠ []; rw [hin]; exact e)).symm
  · have e1 : m.raise = m := if_neg fun z => c (hdue.mpr z.1)
    have e2 : s.settle = s := by
      unfold State.settle
      rw [if_neg (fun z => c z.2)]
    rw [e1, e2]
    have hno : m.notOut ≠ [] := notOut_of_due fun z => c (hdue.mpr z)
    exact ⟨hath, hbar, by rw [hp, phase_on hno], hpar, fun z => by (rw [hd] at z; cases z), fun _ => hoff, fun j z => by (rw [hjo] at z; cases z)⟩
theorem R.on {m : MS} {s : State} (r : R m s) (h : m.notOut ≠ []) : m.jo = none ∧ m.decl = false ∧ s.phase = 0 := by
  refine ⟨?_, ?_, by rw [r.phase, phase_on h]⟩
  · cases e : m.jo with
    | none => rfl
    | some j => exact absurd (r.some_ j e).notOut h
  · cases e : m.decl with
    | false => rfl
    | true => exact absurd (r.decl e).1 h
theorem ath_len_ne {m : MS} {i : Nat} {f : Kg63.Athlete → Kg63.Athlete} (h : m.ath.modify i f ≠ []) : m.ath ≠ [] := by
  intro z
  rw [z] at h
  exact h (by cases i <;> rfl)
theorem R.add {m : MS} {s : State} (r : R m s) (h : m.notOut ≠ []) (i how : Nat) : R ((m.add i how).raise) (s.jumped i how) := by
  obtain ⟨h1, h2, h3⟩ := r.on h
  unfold State.jumped
  have hb : s.bar = m.bar := r.bar.symm
  rw [hb]
  refine settle_R (put_map (m := m) r.ath i (fun a => { a with jumps := a.jumps ++ [⟨m.bar, how⟩] }) fun a => rfl) r.bar h3 h1 h2 (fun z => r.params (ath_len_ne z)) fun k => ?_
  rw [put_off]
  · exact r.none_ h1 k
  · intro a; rfl
theorem R.gone {m : MS} {s : State} (r : R m s) (h : m.notOut ≠ []) (i : Nat) : R ((m.gone i).raise) ((s.put i fun a => { a with left := true }).settle) := by
  obtain ⟨h1, h2, h3⟩ := r.on h
  refine settle_R (put_map r.ath i _ fun a => rfl) r.bar h3 h1 h2 (fun z => r.params (ath_len_ne z)) fun k => ?_
  rw [put_off]
  · exact r.none_ h1 k
  · intro a; rfl
/-- a jump in a jump-off -/
def offState (s : State) (i : Nat) (c : Bool) : State := ({ s with done := s.done ++ [(i, c)] } : State).settleOff
theorem athlete_off {s : State} {p : Nat → Bool} (r : Nat) (i : Nat) (hp : ∀ i, p i = true → i < s.athletes.length) :
    (List.getD (s.athletes.zipIdx.map fun (x : Kg63.Athlete × Nat) => if p x.2 = true then { x.1 with offOut := some r } else x.1) i noone) = if p i = true then { s.athlete i with offOut := some r } else s.athlete i := by
  rw [List.getD_eq_getElem?_getD, zipIdx_map_getElem?]
  unfold State.athlete
  rw [List.getD_eq_getElem?_getD]
  cases e : s.athletes[i]? with
  | none =>
    have : ¬ p i = true := fun z => by
      have := hp i z
      rw [List.getElem?_eq_none_iff] at e
      omega
    rw [if_neg this]; rfl
  | some a => rfl
theorem ranked_range {s : State} {i : Nat} (h : i ∈ s.ranked) : i < s.athletes.length := List.mem_range.mp (List.mem_filter.mp h).1
theorem firsts_ranked {s : State} {i : Nat} (h : i ∈ s.firsts) : i ∈ s.ranked := (List.mem_filter.mp h).1
theorem firsts_strip {s t : State} (h : t.athletes.map strip = s.athletes.map strip) : t.firsts = s.firsts := by
  let m : MS := { heights := [], rise := 0, turn := 0, ath := s.athletes.map strip, bar := 0, jo := none, decl := false }
  have e1 : m.firsts0 = s.firsts := firsts0_is rfl
  have e2 : m.firsts0 = t.firsts := firsts0_is h.symm
  exact e2.symm.trans e1
theorem strip_off {s : State} {p : Nat → Bool} (r : Nat) : (s.athletes.zipIdx.map fun (x : Kg63.Athlete × Nat) => if p x.2 = true then { x.1 with offOut := some r } else x.1).map strip = s.athletes.map strip := by
  apply List.ext_getElem?
  intro k
  rw [List.getElem?_map, zipIdx_map_getElem?, List.getElem?_map]
  cases s.athletes[k]? with
  | none => rfl
  | some a =>
    simp only [Option.map_some]
    split <;> rfl
theorem phase_off {m : MS} {j : JO} (h : m.notOut = []) (e : m.jo = some j) : m.phase = if j.off.length = 1 then 3 else 2 := by
  unfold MS.phase
  rw [if_neg (by simpa using h), e]
theorem R.off {m : MS} {s : State} {j : JO} {i : Nat} (r : R m s) (h : m.phase = 2) (e : m.jo = some j) (hi : j.off[j.clears.length]? = some i) (c : Bool) : R { m with jo := some (j.take c) } (offState s i c) := by
  have J := r.some_ j e
  obtain ⟨hn, k, e', h1⟩ := phase_two.mp h
  rw [e] at e'; cases e'
  obtain ⟨o1, o2, o3⟩ := J.on h1
  obtain ⟨rc, c0, c1, c2, c3⟩ := J.come
  have c0 := c0 h1
  subst c0
  have hd : m.decl = true → False := fun z => by
    have := (r.decl z).2
    rw [e] at this; cases this
  have ed : s.done ++ [(i, c)] = j.off.zip (j.clears ++ [c]) := by rw [zip_snoc _ _ _ _ hi, o1]
  have hl : (j.clears ++ [c]).length ≤ j.off.length := by simp; omega
  generalize hcl : j.clears ++ [c] = cl at *
  have e2 : offState s i c = if cl.length = j.off.length then
      (if cleared j.off cl = [] then { s with done := [], round := s.round + 1, offBar := s.offBar - s.turn }
      else
        let t := { s with athletes := s.athletes.zipIdx.map fun (x : Kg63.Athlete × Nat) => if (j.off.contains x.2 && !(cleared j.off cl).contains x.2) = true then { x.1 with offOut := some s.round } else x.1 }
        if (cleared j.off cl).length = 1 then { t with phase := 3, done := [], off := cleared j.off cl } else { t with off := j.off.filter fun i => (cleared j.off cl).contains i, done := [], round := s.round + 1, offBar := s.offBar + s.turn })
      else { s with done := j.off.zip cl } := by
    unfold offState State.settleOff
    show (if (s.off.all fun i_1 => (s.done ++ [(i, c)]).any fun x => x.1 == i_1) = false then ({ s with done := s.done ++ [(i, c)] } : State) else _) = _
    have ea := all_done j.off cl J.nd hl
    rw [ed, J.off, ea]
    by_cases q : cl.length = j.off.length
    · rw [decide_eq_true q, if_pos q, if_neg (by simp)]
      rfl
    · rw [decide_eq_false q, if_neg q, if_pos rfl]
  have e1 : j.take c = if cl.length = j.off.length then ({ j with clears := cl } : JO).endRound else ({ j with clears := cl } : JO) := by
    unfold JO.take
    rw [hcl]
  rw [e1, e2]
  by_cases q : cl.length = j.off.length
  · rw [if_pos q, if_pos q]
    have hsub := cleared_sub j.off cl
    unfold JO.endRound
    simp only []
    generalize hg : cleared j.off cl = good at *
    by_cases g0 : good = []
    · rw [if_pos g0, if_pos g0]
      refine ⟨r.ath, r.bar, ?_, r.params, fun z => (hd z).elim, fun z => (by cases z), fun k z => ?_⟩
      · show s.phase = _
        rw [phase_off (m := { m with jo := _ }) (by exact hn) rfl, if_neg h1, r.phase, h]
      · cases z
        refine ⟨hn, J.off, J.turn, J.nd, J.sub, J.ne, fun _ => ⟨?_, ?_, ?_⟩, s.round + 1, fun _ => rfl, fun i hi => ?_, fun i hi ho => ?_, fun i hi => ?_⟩
        · show [] = j.off.zip []
          simp
        · show 0 < j.off.length
          have := List.length_pos_iff.mpr J.ne
          exact this
        · show s.offBar - s.turn = j.bar - j.turn
          rw [o3, J.turn]
        · refine ⟨(c1 i hi).1, ?_⟩
          show bump j.off j.come i = _
          unfold bump
          rw [if_pos hi, (c1 i hi).2]
        · obtain ⟨x, a1, a2, a3⟩ := c2 i hi ho
          refine ⟨x, a1, ?_, by omega⟩
          show bump j.off j.come i = _
          unfold bump
          rw [if_neg ho, a2]
        · have ho : i ∉ j.off := fun z => hi (J.sub i z)
          refine ⟨(c3 i hi).1, ?_⟩
          show bump j.off j.come i = _
          unfold bump
          rw [if_neg ho, (c3 i hi).2]
    · rw [if_neg g0, if_neg g0]
      -- somebody cleared
      have hp : ∀ i, (j.off.contains i && !good.contains i) = true → i < s.athletes.length := fun i hi => by
        rw [Bool.and_eq_true] at hi
        exact ranked_range (firsts_ranked (J.sub i (by simpa using hi.1)))
      have hA : ∀ t : State, t.athletes = (s.athletes.zipIdx.map fun (x : Kg63.Athlete × Nat) => if (j.off.contains x.2 && !good.contains x.2) = true then { x.1 with offOut := some s.round } else x.1) →
          ∀ i, (t.athlete i) = if (j.off.contains i && !good.contains i) = true then { s.athlete i with offOut := some s.round } else s.athlete i := fun t ht i => by
        have := athlete_off (s := s) (p := fun i => j.off.contains i && !good.contains i) s.round i hp
        rw [← this, ← ht]; rfl
      have hF : ∀ t : State, t.athletes = (s.athletes.zipIdx.map fun (x : Kg63.Athlete × Nat) => if (j.off.contains x.2 && !good.contains x.2) = true then { x.1 with offOut := some s.round } else x.1) → t.firsts = s.firsts ∧ t.athletes.map strip = s.athletes.map strip := fun t ht => by
        have z : t.athletes.map strip = s.athletes.map strip := by
          rw [ht]; exact strip_off (p := fun i => j.off.contains i && !good.contains i) s.round
        exact ⟨firsts_strip z, z⟩
      have hcome : ∀ t : State, t.athletes = (s.athletes.zipIdx.map fun (x : Kg63.Athlete × Nat) => if (j.off.contains x.2 && !good.contains x.2) = true then { x.1 with offOut := some s.round } else x.1) →
          (∀ i ∈ good, (t.athlete i).offOut = none ∧ bump good j.come i = s.round + 1) ∧ (∀ i ∈ t.firsts, i ∉ good → ∃ r, (t.athlete i).offOut = some r ∧ bump good j.come i = r ∧ r < s.round + 1) ∧ ∀ i, i ∉ t.firsts → (t.athlete i).offOut = none ∧ bump good j.come i = 0 := fun t ht => by
        refine ⟨fun i hi => ?_, fun i hi hng => ?_, fun i hi => ?_⟩
        · have ho := hsub.subset hi
          have : (j.off.contains i && !good.contains i) = false := by simp [hi]
          rw [hA t ht, this]
          refine ⟨(c1 i ho).1, ?_⟩
          unfold bump
          rw [if_pos hi, (c1 i ho).2]
        · rw [(hF t ht).1] at hi
          unfold bump
          rw [if_neg hng, hA t ht]
          by_cases ho : i ∈ j.off
          · have : (j.off.contains i && !good.contains i) = true := by simp [ho, hng]
            rw [this]
            exact ⟨s.round, rfl, (c1 i ho).2, by omega⟩
          · have : (j.off.contains i && !good.contains i) = false := by simp [ho]
            rw [this]
            obtain ⟨x, a1, a2, a3⟩ := c2 i hi ho
            exact ⟨x, a1, a2, by omega⟩
        · rw [(hF t ht).1] at hi
          have ho : i ∉ j.off := fun z => hi (J.sub i z)
          have hng : i ∉ good := fun z => ho (hsub.subset z)
          have : (j.off.contains i && !good.contains i) = false := by simp [ho]
          unfold bump
          rw [if_neg hng, hA t ht, this]
          exact c3 i hi
      have hnd : good.Nodup := J.nd.sublist hsub
      by_cases g1 : good.length = 1
      · rw [if_pos g1]
        refine ⟨?_, r.bar, ?_, fun z => ?_, fun z => (hd z).elim, fun z => (by cases z), fun k z => ?_⟩
        · exact r.ath.trans (hF _ rfl).2.symm
        · rw [phase_off (m := { m with jo := _ }) (by exact hn) rfl, if_pos g1]
        · exact r.params z
        · cases z
          refine ⟨hn, rfl, J.turn, hnd, fun i hi => ?_, g0, fun z => absurd g1 z, s.round + 1, fun z => absurd g1 z, ?_⟩
          · have := J.sub i (hsub.subset hi)
            rw [(hF _ rfl).1]; exact this
          · exact hcome _ rfl
      · rw [if_neg g1]
        refine ⟨?_, r.bar, ?_, fun z => ?_, fun z => (hd z).elim, fun z => (by cases z), fun k z => ?_⟩
        · exact r.ath.trans (hF _ rfl).2.symm
        · rw [phase_off (m := { m with jo := _ }) (by exact hn) rfl, if_neg g1]
          show s.phase = 2
          rw [r.phase, h]
        · exact r.params z
        · cases z
          refine ⟨hn, filter_sub hsub J.nd, J.turn, hnd, fun i hi => ?_, g0, fun _ => ⟨?_, ?_, ?_⟩, s.round + 1, fun _ => rfl, ?_⟩
          · have := J.sub i (hsub.subset hi)
            rw [(hF _ rfl).1]; exact this
          · show [] = good.zip []
            simp
          · exact List.length_pos_iff.mpr g0
          · show s.offBar + s.turn = j.bar + j.turn
            rw [o3, J.turn]
          · exact hcome _ rfl
  · rw [if_neg q, if_neg q]
    refine ⟨r.ath, r.bar, ?_, r.params, fun z => (hd z).elim, fun z => (by cases z), fun k z => ?_⟩
    · show s.phase = _
      rw [phase_off (m := { m with jo := _ }) (by exact hn) rfl, if_neg h1, r.phase, h]
    · cases z
      exact ⟨hn, J.off, J.turn, J.nd, J.sub, J.ne, fun _ => ⟨rfl, by show cl.length < j.off.length; omega, o3⟩, s.round, fun _ => rfl, c1, c2, c3⟩
end Jc

namespace Jc
open Kg63
theorem rising_pairwise : ∀ l : List Int, rising l = true → l.Pairwise (· < ·)
  | [], _ => List.Pairwise.nil
  | [x], _ => List.pairwise_singleton _ _
  | x :: y :: l, h => by
    have h : (decide (x < y) && rising (y :: l)) = true := h
    rw [Bool.and_eq_true, decide_eq_true_eq] at h
    have ih := rising_pairwise (y :: l) h.2
    refine List.pairwise_cons.mpr ⟨fun z hz => ?_, ih⟩
    rcases List.mem_cons.mp hz with rfl | hz
    · exact h.1
    · have := (List.pairwise_cons.mp ih).1 z hz
      omega
theorem R.new {n rise turn : Int} {l : List Int} (h : okBegin n rise turn l = true) : R (MS.new n.toNat rise.toNat turn.toNat (l.map Int.toNat)) ⟨l.map Int.toNat, rise.toNat, turn.toNat, List.replicate n.toNat ⟨[], false, none⟩, ((l.headD 0).toNat), 0, [], 0, [], 0⟩ := by
  unfold okBegin at h
  simp only [Bool.and_eq_true, decide_eq_true_eq] at h
  obtain ⟨h1, h2, h3, h4, h5, h6, h7⟩ := h
  have hn : 1 ≤ n := by unfold within at h1; simp only [Bool.and_eq_true, decide_eq_true_eq] at h1; exact h1.1
  have hno : (MS.new n.toNat rise.toNat turn.toNat (l.map Int.toNat)).notOut ≠ [] := by
    have : 0 ∈ (MS.new n.toNat rise.toNat turn.toNat (l.map Int.toNat)).notOut := by
      unfold MS.notOut MS.A MS.new
      refine List.mem_filter.mpr ⟨List.mem_range.mpr (by simp; omega), ?_⟩
      have : (List.replicate n.toNat (⟨[], false, none⟩ : Kg63.Athlete)).getD 0 noone = ⟨[], false, none⟩ := by
        rw [List.getD_eq_getElem?_getD, List.getElem?_replicate, if_pos (by omega)]; rfl
      rw [this]
      rfl
    intro e
    rw [e] at this
    cases this
  have hA : ∀ i, (List.getD (List.replicate n.toNat (⟨[], false, none⟩ : Kg63.Athlete)) i noone).offOut = none := fun i => by
    rw [List.getD_eq_getElem?_getD, List.getElem?_replicate]
    split <;> rfl
  refine ⟨?_, ?_, (phase_on hno).symm, fun _ => ⟨rfl, rfl, rfl, ?_⟩, fun z => (by cases z), fun _ i => hA i, fun j z => (by cases z)⟩
  · show List.replicate _ _ = (List.replicate _ _).map strip
    rw [List.map_replicate]; rfl
  · show (l.map Int.toNat).headD 0 = (l.headD 0).toNat
    cases l <;> rfl
  · show (l.map Int.toNat).Pairwise (· < ·)
    rw [List.pairwise_map]
    refine List.Pairwise.imp_of_mem (fun {a b} ha hb hab => ?_) (rising_pairwise l h5)
    have h4a := List.all_eq_true.mp h4 a ha
    have h4b := List.all_eq_true.mp h4 b hb
    unfold within at h4a h4b
    simp only [Bool.and_eq_true, decide_eq_true_eq] at h4a h4b
    omega
theorem R.init : R MS.init Kg63.init := by
  refine ⟨rfl, rfl, ?_, fun z => absurd rfl z, fun z => (by cases z), fun _ i => ?_, fun j z => (by cases z)⟩
  · rfl
  · show (List.getD [] i noone).offOut = none
    rfl
theorem R.start {m : MS} {s : State} (r : R m s) (h : m.phase = 1) : R m.start { s with phase := 2, off := s.firsts, round := 0, done := [], offBar := s.after (((s.firsts.head?).map fun i => (s.athlete i).best).getD 0) } := by
  obtain ⟨h1, h2, h3, h4⟩ := phase_one h
  have hf := r.firsts h2
  have hne : m.ath ≠ [] := by
    intro z
    have : m.firsts = [] := by
      rw [firsts_is h2]
      unfold MS.firsts0 MS.ranked
      rw [z]; rfl
    rw [this] at h4
    simp at h4
  obtain ⟨p1, p2, p3, p4⟩ := r.params hne
  have hlen : m.firsts.length ≠ 1 := by omega
  refine ⟨r.ath, r.bar, ?_, r.params, fun z => ?_, fun z => (by cases z), fun j z => ?_⟩
  · rw [phase_off (m := m.start) (by exact h1) rfl]
    exact (if_neg hlen).symm
  · have z : m.decl = true := z
    rw [h3] at z; cases z
  · cases z
    refine ⟨h1, hf.symm, p3, ?_, fun i hi => ?_, ?_, fun _ => ⟨?_, ?_, ?_⟩, 0, fun _ => rfl, fun i _ => ⟨r.none_ h2 i, rfl⟩, fun i hi ho => absurd ?_ ho, fun i _ => ⟨r.none_ h2 i, rfl⟩⟩
    · show m.firsts.Nodup
      rw [firsts_is h2]
      exact (firsts0_lt m).imp fun {a b} h => Nat.ne_of_lt h
    · have hi : i ∈ m.firsts := hi
      rw [hf] at hi
      exact hi
    · show m.firsts ≠ []
      intro z
      rw [z] at h4
      simp at h4
    · show [] = m.firsts.zip []
      simp
    · show 0 < m.firsts.length
      omega
    · show s.after _ = m.after _
      unfold State.after MS.after
      rw [p1, p2, behind_is _ _ p4, hf]
      have eb : (s.firsts.head?.map fun i => (s.athlete i).best) = s.firsts.head?.map fun i => (m.A i).best := by
        congr 1
        funext i
        rw [A_map r.ath]; rfl
      rw [eb]
    · show i ∈ m.firsts
      rw [hf]; exact hi
theorem R.height {m : MS} {s : State} (r : R m s) (b : Nat) (h : m.notOut ≠ []) : R { m with bar := b } { s with bar := b } := by
  obtain ⟨h1, h2, h3⟩ := r.on h
  refine ⟨r.ath, rfl, ?_, r.params, fun z => ?_, fun _ => r.none_ h1, fun j z => ?_⟩
  · show s.phase = _
    rw [h3]
    exact (phase_on (m := { m with bar := b }) (by exact h)).symm
  · have z : m.decl = true := z
    rw [h2] at z; cases z
  · have z : m.jo = some j := z
    rw [h1] at z; cases z
theorem R.declined {m : MS} {s : State} (r : R m s) (h : m.phase = 1) : R { m with decl := true } { s with phase := 3 } := by
  obtain ⟨h1, h2, h3, h4⟩ := phase_one h
  refine ⟨r.ath, r.bar, ?_, r.params, fun _ => ⟨h1, h2⟩, fun _ => r.none_ h2, fun j z => ?_⟩
  · show 3 = MS.phase { m with decl := true }
    unfold MS.phase
    rw [if_neg (by show ¬ m.notOut ≠ []; simpa using h1)]
    show 3 = match m.jo with
      | some j => if j.off.length = 1 then 3 else 2
      | none => if true = true ∨ _ then 3 else 1
    rw [h2]
    exact (if_pos (.inl rfl)).symm
  · have z : m.jo = some j := z
    rw [h2] at z; cases z
theorem step_is {m : MS} {s : State} (r : R m s) (c : Kg63.Call) : R (m.step c).1 (spec s c).1 ∧ (m.step c).2 = (spec s c).2.value :: (spec s c).2.out := by
  cases c with
  | begin_ n rise turn l =>
    show R (if okBegin n rise turn l = false then (m, [-1]) else _).1 (if okBegin n rise turn l = false then (s, num (-1)) else _).1 ∧ (if okBegin n rise turn l = false then (m, [-1]) else _).2 = (if okBegin n rise turn l = false then (s, num (-1)) else _).2.value :: (if okBegin n rise turn l = false then (s, num (-1)) else _).2.out
    cases e : okBegin n rise turn l with
    | false => exact ⟨r, rfl⟩
    | true => exact ⟨R.new e, rfl⟩
  | up =>
    refine ⟨r, ?_⟩
    show (match m.up with | none => [-4] | some i => [(i : Int), (m.barNow : Int), (m.which i : Int)]) = (called s).value :: (called s).out
    unfold called
    rw [r.up]
    cases e : m.up with
    | none => rfl
    | some i =>
      show [(i : Int), (m.barNow : Int), (m.which i : Int)] = (i : Int) :: whole [s.barNow, if s.phase = 2 then 1 else ((s.athlete i).at_ s.bar).length + 1]
      rw [r.barNow, r.phase]
      unfold MS.which whole
      by_cases h : m.phase = 2
      · rw [if_pos h, if_pos h]; rfl
      · rw [if_neg h, if_neg h]
        have hd : i ∈ m.due := by
          unfold MS.up at e
          cases q : m.jo with
          | none => rw [q] at e; exact least_mem e
          | some j =>
            rw [q] at e
            have e : (if m.phase = 2 then j.off[j.clears.length]? else least (fun i => failsAt (m.A i) m.bar) m.due) = some i := e
            rw [if_neg h] at e
            exact least_mem e
        have hd := (due_out (List.mem_filter.mp hd).2).2
        rw [hd, A_map r.ath, r.bar]
        rfl
  | jump how =>
    show R (if within how 0 2 = false then (m, [-1]) else _).1 (if within how 0 2 = false then (s, num (-1)) else _).1 ∧ (if within how 0 2 = false then (m, [-1]) else _).2 = (if within how 0 2 = false then (s, num (-1)) else _).2.value :: (if within how 0 2 = false then (s, num (-1)) else _).2.out
    cases ew : within how 0 2 with
    | false => exact ⟨r, rfl⟩
    | true =>
      simp only [Bool.true_eq_false, if_false]
      have ew : 0 ≤ how ∧ how ≤ 2 := by
        unfold within at ew
        simpa using ew
      rw [r.up]
      cases e : m.up with
      | none => exact ⟨r, rfl⟩
      | some i =>
        simp only []
        by_cases h2 : m.phase = 2
        · rw [if_pos (show s.phase = 2 from r.phase.trans h2)]
          obtain ⟨hn, j, ej, h1⟩ := phase_two.mp h2
          have hi : j.off[j.clears.length]? = some i := by
            unfold MS.up at e
            rw [ej] at e
            have e : (if m.phase = 2 then j.off[j.clears.length]? else _) = some i := e
            rw [if_pos h2] at e
            exact e
          by_cases h : how = 2
          · rw [if_pos ⟨h, .inl h2⟩, if_pos h]
            exact ⟨r, rfl⟩
          · rw [if_neg (fun z => h z.1), if_neg h]
            have ej2 : m.jump i how.toNat = { m with jo := some (j.take (how == 1)) } := by
              unfold MS.jump
              rw [ej]
              show (if m.phase = 2 then _ else _) = _
              rw [if_pos h2]
              have : (how.toNat == 1) = (how == 1) := by
                apply Bool.eq_iff_iff.mpr
                rw [beq_iff_eq, beq_iff_eq]
                omega
              rw [this]
            have r' := r.off h2 ej hi (how == 1)
            rw [ej2]
            exact ⟨r', (r'.told _).symm⟩
        · rw [if_neg (show ¬ s.phase = 2 from fun z => h2 (r.phase.symm.trans z))]
          have hb : m.barNow = m.bar := by
            unfold MS.barNow
            cases m.jo with
            | none => rfl
            | some j => exact if_neg h2
          have hno : m.notOut ≠ [] := by
            intro z
            have hd : m.due ≠ [] := by
              intro zd
              unfold MS.up at e
              cases q : m.jo with
              | none => rw [q, zd] at e; cases e
              | some j =>
                rw [q] at e
                have e : (if m.phase = 2 then j.off[j.clears.length]? else least (fun i => failsAt (m.A i) m.bar) m.due) = some i := e
                rw [if_neg h2, zd] at e; cases e
            exact notOut_of_due hd z
          rw [hb]
          by_cases h : 950 ≤ m.bar ∧ how = 2
          · rw [if_pos ⟨h.2, .inr h.1⟩, if_pos ⟨by rw [← r.bar]; exact h.1, h.2⟩]
            exact ⟨r, rfl⟩
          · rw [if_neg (fun z => z.2.elim h2 fun y => h ⟨y, z.1⟩), if_neg (fun z => h ⟨by rw [r.bar]; exact z.1, z.2⟩)]
            have ej2 : m.jump i how.toNat = (m.add i how.toNat).raise := by
              unfold MS.jump
              cases m.jo with
              | none => rfl
              | some j => exact if_neg h2
            have r' := r.add hno i how.toNat
            rw [ej2]
            exact ⟨r', (r'.told _).symm⟩
  | leave i =>
    have el : (s.athletes.length : Int) = m.ath.length := by rw [len_map r.ath]
    unfold MS.step spec
    simp only []
    rw [el]
    by_cases c : (decide (0 ≤ i) && decide (i < (m.ath.length : Int))) = false
    · rw [if_pos c, if_pos c]
      exact ⟨r, rfl⟩
    · rw [if_neg c, if_neg c, r.phase]
      by_cases h : m.phase ≠ 0
      · rw [if_pos h, if_pos h]
        exact ⟨r, rfl⟩
      · rw [if_neg h, if_neg h]
        have ho : (m.A i.toNat).out = (s.athlete i.toNat).out := by rw [A_map r.ath]; rfl
        rw [ho]
        by_cases q : (s.athlete i.toNat).out = true
        · rw [if_pos q, if_pos q]
          exact ⟨r, rfl⟩
        · rw [if_neg q, if_neg q]
          have r' := r.gone (phase_zero.mp (by simpa using h)) i.toNat
          exact ⟨r', (r'.told _).symm⟩
  | height h =>
    unfold MS.step spec
    simp only []
    by_cases c : within h 50 999 = false
    · rw [if_pos c, if_pos c]
      exact ⟨r, rfl⟩
    · rw [if_neg c, if_neg c, r.inIt, ← tried_is r.ath]
      by_cases hp : m.phase ≠ 0
      · have : m.notOut = [] := by
          cases e : m.notOut with
          | nil => rfl
          | cons a b => exact absurd (phase_zero.mpr (by rw [e]; simp)) hp
        rw [if_pos (show s.phase ≠ 0 from fun z => hp (r.phase.symm.trans z)), this]
        exact ⟨r, rfl⟩
      · rw [if_neg (show ¬ s.phase ≠ 0 from fun z => z (r.phase.trans (by simpa using hp)))]
        have hno := phase_zero.mp (by simpa using hp)
        match e : m.notOut with
        | [] => exact absurd e hno
        | [i] =>
          simp only []
          rw [if_neg (by simp)]
          by_cases ht : h ≤ (m.tried : Int)
          · rw [if_pos ht, if_pos ht]
            exact ⟨r, rfl⟩
          · rw [if_neg ht, if_neg ht]
            have r' := r.height h.toNat hno
            exact ⟨r', (r'.told _).symm⟩
        | i :: k :: l =>
          rw [if_pos (by simp)]
          exact ⟨r, rfl⟩
  | off yes =>
    unfold MS.step spec
    simp only []
    by_cases c : within yes 0 1 = false
    · rw [if_pos c, if_pos c]
      exact ⟨r, rfl⟩
    · rw [if_neg c, if_neg c, r.phase]
      by_cases h : m.phase ≠ 1
      · rw [if_pos h, if_pos h]
        exact ⟨r, rfl⟩
      · rw [if_neg h, if_neg h]
        have h : m.phase = 1 := by simpa using h
        have hf := r.firsts (phase_one h).2.1
        by_cases y : yes = 0
        · rw [if_pos y, if_pos y]
          refine ⟨r.declined h, ?_⟩
          show [(m.firsts.length : Int)] = [(s.firsts.length : Int)]
          rw [hf]
        · rw [if_neg y, if_neg y]
          have r' := r.start h
          refine ⟨r', ?_⟩
          have hb := r'.barNow
          show [(m.firsts.length : Int), (m.start.barNow : Int)] = [(s.firsts.length : Int), _]
          rw [hf, ← hb]
          rfl
  | card i =>
    have el : (s.athletes.length : Int) = m.ath.length := by rw [len_map r.ath]
    unfold MS.step spec
    simp only []
    rw [el]
    by_cases c : (decide (0 ≤ i) && decide (i < (m.ath.length : Int))) = false
    · rw [if_pos c, if_pos c]
      exact ⟨r, rfl⟩
    · rw [if_neg c, if_neg c]
      refine ⟨r, ?_⟩
      have ea := A_map r.ath i.toNat
      rw [ea]
      show _ = ((s.athlete i.toNat).best : Int) :: whole ([inRow (s.athlete i.toNat).jumps, if (s.athlete i.toNat).out = true then 1 else 0] ++ (s.athlete i.toNat).jumps.flatMap fun j => [j.height, j.how])
      have e1 : (strip (s.athlete i.toNat)).best = (s.athlete i.toNat).best := rfl
      have e2 : (strip (s.athlete i.toNat)).jumps = (s.athlete i.toNat).jumps := rfl
      have e3 : (strip (s.athlete i.toNat)).out = (s.athlete i.toNat).out := rfl
      rw [e1, e2, e3]
      unfold whole
      rw [List.map_append, List.map_flatMap]
      cases (s.athlete i.toNat).out <;> rfl
  | order =>
    refine ⟨r, ?_⟩
    show (m.order.length : Int) :: m.order.flatMap (fun (i : Nat) => [(i : Int), (m.place i : Int), ((m.A i).best : Int)]) = (s.order.length : Int) :: whole (s.order.flatMap fun i => [i, s.place i, (s.athlete i).best])
    rw [r.order]
    congr 1
    unfold whole
    rw [List.map_flatMap]
    have key : ∀ l : List Nat, (∀ i ∈ l, i ∈ s.ranked) → l.flatMap (fun (i : Nat) => [(i : Int), (m.place i : Int), ((m.A i).best : Int)]) = l.flatMap fun i => [i, s.place i, (s.athlete i).best].map fun (n : Nat) => (n : Int) := by
      intro l
      induction l with
      | nil => intro _; rfl
      | cons x l ih =>
        intro hl
        rw [List.flatMap_cons, List.flatMap_cons, ih fun i hi => hl i (List.mem_cons_of_mem _ hi), r.place (hl x List.mem_cons_self), A_map r.ath]
        rfl
    refine key _ fun i hi => ?_
    rw [order_mem, ranked_is r.ath] at hi
    exact hi
  | now =>
    refine ⟨r, ?_⟩
    show (m.phase : Int) :: (m.barNow : Int) :: m.whoIn.map (fun (i : Nat) => (i : Int)) = (s.phase : Int) :: whole (s.barNow :: (if s.phase = 2 then s.off else s.inIt))
    rw [r.barNow, r.phase, r.inIt]
    unfold whole MS.whoIn
    cases e : m.jo with
    | none =>
      have : ¬ m.phase = 2 := fun z => by
        obtain ⟨_, j, q, _⟩ := phase_two.mp z
        rw [e] at q; cases q
      rw [if_neg this]; rfl
    | some j =>
      show (m.phase : Int) :: (m.barNow : Int) :: (if m.phase = 2 then j.off else m.notOut).map _ = _
      rw [(r.some_ j e).off]; rfl
/-! ### a whole line -/
theorem rowsInt (c : Kg63Neutral.Call) (k : Kg63.Call) (h : Kg63Neutral.callOf c = some k) {m : MS} {s : State} (r : R m s) : R (m.step k).1 (Kg63Neutral.step s c).1 ∧ (m.step k).2 = (Kg63Neutral.step s c).2 := by
  have e : Kg63Neutral.step s c = ((spec s k).1, (spec s k).2.value :: (spec s k).2.out) := by
    unfold Kg63Neutral.step
    rw [h]
  rw [e]
  exact step_is r k
end Jc

set_option Elab.async false
set_option maxRecDepth 100000
set_option maxHeartbeats 4000000
/-! Rules that the layer lacks: a lambda of one parameter as a value, and its call. -/
namespace Jl
open PySem PySem.Spec PyProof.Rows L2 LamX
/-- an object that stands as it is -/
def ObO (f : Addr) (ob : Obj) : HO := .ext fun h => h.get? f = some ob
theorem obO_ok {P : Program} {w : World} {H : Hp} {h : Heap} {f : Addr} {ob : Obj} (e : h.get? f = some ob) : ObjOk P w H h f (ObO f ob) := ⟨e, ⟨ob, e⟩, fun _ _ a b => b _ a⟩
theorem obO_at {P : Program} {w : World} {H : Hp} {h : Heap} {f : Addr} {ob : Obj} (x : HOk P w H h) (e : H f = some (ObO f ob)) : h.get? f = some ob := (x f _ e).1
/-- all but the tables stays; tables stay tables -/
def ExtT (H H' : Hp) : Prop := ExtN H H' ∧ ∀ b ps, H b = some (.tbl ps) → ∃ ps', H' b = some (.tbl ps')
theorem ExtT.refl (H : Hp) : ExtT H H := ⟨ExtN.refl H, fun _ ps e => ⟨ps, e⟩⟩
theorem ExtT.trans {H H1 H2 : Hp} (a : ExtT H H1) (b : ExtT H1 H2) : ExtT H H2 := ⟨a.1.trans b.1, fun c ps e => by
  obtain ⟨ps', e'⟩ := a.2 c ps e
  exact b.2 c ps' e'⟩
theorem ExtT.of {H H' : Hp} (e : ∀ b o, H b = some o → H' b = some o) : ExtT H H' := ⟨ExtN.of e, fun b ps h => ⟨ps, e _ _ h⟩⟩
theorem ExtT.free {H H' : Hp} (e : ExtT H H') {b : Addr} (h : H' b = none) : H b = none := by
  cases q : H b with
  | none => rfl
  | some o =>
    by_cases t : ∃ ps, o = .tbl ps
    · obtain ⟨ps, rfl⟩ := t
      obtain ⟨ps', z⟩ := e.2 b ps q
      rw [h] at z; cases z
    · have z := e.1 b o q fun ps w => t ⟨ps, w⟩
      rw [h] at z; cases z
abbrev lamObj (X : Cx) (params : Arguments) (body : Expr) (scope : Scope) (pm ctv : Value) (c' : Addr) : Obj :=
  PySem.W.kla_obj "<lambda>" (X.env.qual ++ "<lambda>") params body scope (cloFrom X.env.cells scope.names []) pm c' ctv
section
variable {X : Cx} {pins : List (Addr × Obj)} {σ : L2.St} {H : Hp} {s : Shared}
/-- the lambda is made and tracked -/
theorem lam_make3 {T : List (Addr × Str)} {c P : Addr} {params : Arguments} {body : Expr} {scope : Scope} {pos : Pos} {E : Value → Shared → Prop} {Q : Value → Shared → Prop} (I : Inv X pins σ H s) (TB : TabB X.base X.mg c P) (hcode : X.env.code = .ref c)
    (hm : (P, X.env.qual ++ "<lambda>") ∈ T) (hu : ∀ p ∈ T, p.1 = P → p.2 = X.env.qual ++ "<lambda>") (hT : Tabs T H) (hdef : defaultsOf params X.env = ([], [])) (hfree : ∀ y ∈ scope.names, y.2 = .free → ∃ c, X.env.cells.lookup y.1 = some c)
    (h : ∀ (f c' : Addr) (pm ctv : Value) (H1 : Hp) (s' : Shared), Inv X pins σ H1 s' → ExtT H H1 → Tabs T H1 → H f = none → H1 f = some (ObO f (lamObj X params body scope pm ctv c')) → H1 c' = some (CodeO c' (X.env.qual ++ "<lambda>")) → Q (.ref f) s') :
    wpAny (model X.prog X.w) X.A (eval (.Lambda params body scope pos) X.env) Q E s := by
  obtain ⟨ps, hP, ht, ha⟩ := hT _ hm
  refine PySem.W.kla_eval hdef ?_
  have bP : s.heap.BuiltinsAt X.mg P := TB.bm.keeps I.bk
  have hP' : s.heap.get? P = some { cls := .none, data := .fields ps } := I.hok P _ hP
  -- a new object behind what stands: tracked
  have fin : ∀ (H1 : Hp) (h' : Heap) (tk : Nat) (c' : Addr) (ctv : Value), s.heap.objs.size ≤ h'.objs.size → Inv X pins σ H1 { s with heap := h', toks := tk } → ExtT H H1 → Tabs T H1 → H1 c' = some (CodeO c' (X.env.qual ++ "<lambda>")) →
      Q (.ref h'.objs.size) { s with heap := h'.push (lamObj X params body scope ((X.mg "__name__").getD .none) ctv c'), toks := tk } := by
    intro H1 h' tk c' ctv hsz I1 eN T1 hc
    have nf : H1 h'.objs.size = none := I1.hok.fresh (Nat.le_refl _)
    have I2 : Inv X pins σ (upd H1 h'.objs.size (ObO h'.objs.size (lamObj X params body scope ((X.mg "__name__").getD .none) ctv c'))) { s with heap := h'.push (lamObj X params body scope ((X.mg "__name__").getD .none) ctv c'), toks := tk } :=
      I1.laid (t' := tk) (fun b o e => Heap.get?_push_of_some _ e) (Nat.le_refl _) (obO_ok (Heap.get?_push_size _ rfl))
    have ne : ∀ b o, H1 b = some o → b ≠ h'.objs.size := fun b o e => ne_of_none e nf
    refine h _ c' _ ctv _ _ I2 (eN.trans (.of fun b o e => by rw [upd_ne (ne b o e)]; exact e)) (T1.ext fun b o e => by rw [upd_ne (ne b o e)]; exact e) (I.hok.fresh hsz) upd_same (by rw [upd_ne (ne _ _ hc)]; exact hc)
  cases hc : codeAmong pos ps.toList with
  | none =>
    refine PySem.W.kla_makeFunction (mg := X.mg) (c := c) (P := P) (ps := ps) (closure_ok hfree) I.ok.glob (I.mod.glob.keeps I.bk) hcode (TB.code.keeps I.bk) hP' ht hc TB.gP bP fun c' ctv h' tk hx hge hlt hrec htb => ?_
    obtain ⟨c2, oc, vs, t, e2, hoc, hd, hv⟩ := hrec
    cases e2
    have hsz : s.heap.objs.size ≤ h'.objs.size := Nat.le_trans hge (Nat.le_of_lt hlt)
    have nC : H c' = none := I.hok.fresh hge
    have I1 := inv_table (t' := tk) (more := #[rawInt pos.line, rawInt pos.col, .ref c']) (h' := h') I hP (fun b o hb e => hx b o hb e) htb hge ⟨oc, vs, t, hoc, hd, hv⟩
    have hE : ExtN H (upd (upd H P (.tbl (ps ++ #[rawInt pos.line, rawInt pos.col, .ref c']))) c' (CodeO c' (X.env.qual ++ "<lambda>"))) := fun b o e n => by
      rw [upd_ne (ne_of_none e nC), upd_ne (fun z => n ps (Option.some.inj (e.symm.trans (by rw [z]; exact hP))))]
      exact e
    have eL : (ps ++ #[rawInt pos.line, rawInt pos.col, .ref c']).toList = ps.toList ++ [rawInt pos.line, rawInt pos.col, .ref c'] := by simp
    refine fin _ h' tk c' ctv hsz I1 ⟨hE, fun b qs e => ?_⟩ (fun p hp => ?_) upd_same
    · by_cases hb : b = P
      · rw [hb]
        exact ⟨_, by rw [upd_ne (ne_of_none hP nC), upd_same]⟩
      · exact ⟨qs, by rw [upd_ne (ne_of_none e nC), upd_ne hb]; exact e⟩
    by_cases hb : p.1 = P
    · rw [hu p hp hb, hb]
      refine ⟨_, by rw [upd_ne (ne_of_none hP nC), upd_same], by rw [eL]; exact PySem.TriplesOk_snoc _ _ _ _ ht, fun p' cv hcv => ?_⟩
      rw [eL] at hcv
      rcases among_app _ ht hcv with z | z
      · obtain ⟨c0, e1, e2⟩ := ha p' cv z
        exact ⟨c0, e1, hE _ _ e2 codeO_ne⟩
      · exact ⟨c', z, upd_same⟩
    · obtain ⟨ps', a1, a2, a3⟩ := hT p hp
      refine ⟨ps', by rw [upd_ne (ne_of_none a1 nC), upd_ne hb]; exact a1, a2, fun p' cv hcv => ?_⟩
      obtain ⟨c0, e1, e2⟩ := a3 p' cv hcv
      exact ⟨c0, e1, hE _ _ e2 codeO_ne⟩
  | some cv =>
    obtain ⟨c', e, hco⟩ := ha pos cv hc
    subst e
    refine PySem.W.kla_makeFunctionHit (mg := X.mg) (c := c) (P := P) (ps := ps) (closure_ok hfree) I.ok.glob (I.mod.glob.keeps I.bk) hcode (TB.code.keeps I.bk) hP' ht hc bP fun ctv h' tk hx hsz => ?_
    exact fin H h' tk c' ctv hsz (I.kept fun b o e => hx b o e) (ExtT.refl H) hT hco
end
/-- one parameter p; captured names and globals besides -/
structure LamP (sc scope : Scope) (p : Str) : Prop where
  kind : scope.kind = .function
  co : scope.isCoroutine = false
  gen : scope.isGenerator = false
  own : ∀ y ∈ scope.names, y.2 ≠ .cell ∧ (y.2 = .local → y.1 = p)
  par : scope.names.lookup p = some .local
  free : ∀ y ∈ scope.names, y.2 = .free → sc.names.lookup y.1 = some .cell ∨ sc.names.lookup y.1 = some .free
theorem LamP.has {X : Cx} {scope : Scope} {p : Str} (L : LamP X.env.scope scope p) (ok : X.Ok) : ∀ y ∈ scope.names, y.2 = .free → ∃ c, X.env.cells.lookup y.1 = some c := fun y hy e => by
  rcases L.free y hy e with k | k
  · exact ok.has _ (.inl k)
  · exact ok.has _ (.inr k)
def lamPB (sc scope : Scope) (p : Str) : Bool :=
  decide (scope.kind = .function) && !scope.isCoroutine && !scope.isGenerator && decide (scope.names.lookup p = some .local) && scope.names.all fun y => !decide (y.2 = .cell) && (!decide (y.2 = .local) || decide (y.1 = p)) && (!decide (y.2 = .free) || decide (sc.names.lookup y.1 = some .cell) || decide (sc.names.lookup y.1 = some .free))
theorem lamP_by {sc scope : Scope} {p : Str} (h : lamPB sc scope p = true) : LamP sc scope p := by
  unfold lamPB at h
  simp only [Bool.and_eq_true, Bool.or_eq_true, Bool.not_eq_true', decide_eq_true_eq, decide_eq_false_iff_not, List.all_eq_true] at h
  obtain ⟨⟨⟨⟨h1, h2⟩, h3⟩, h4⟩, h5⟩ := h
  refine ⟨h1, h2, h3, fun y hy => ⟨(h5 y hy).1.1, fun e => ?_⟩, h4, fun y hy e => ?_⟩
  · rcases (h5 y hy).1.2 with z | z
    · exact absurd e z
    · exact z
  · rcases (h5 y hy).2 with (z | z) | z
    · exact absurd e z
    · exact .inl z
    · exact .inr z
/-- the context of its body, entered at s from the frames outer -/
def lamCxP (X : Cx) (A : Around) (outer : List Env) (s : Shared) (H : Hp) (scope : Scope) (f c' : Addr) (p : Str) : Cx where
  prog := X.prog
  w := X.w
  K := X.K
  mg := X.mg
  base := X.base
  A := A.deeper (lamEnv X scope s.heap.objs.size f c')
  N := X.N ++ [p]
  s_0 := s
  H_0 := H
  env := lamEnv X scope s.heap.objs.size f c'
  outer := outer
  stack := lamEnv X scope s.heap.objs.size f c' :: outer
  ex := []
  fn := fun _ => false
  calm := true
  pn := []
  xe := fun _ _ => False
section
variable {X : Cx} {pins : List (Addr × Obj)} {σ : L2.St} {H : Hp} {s : Shared}
theorem lam_startP {A : Around} {outer : List Env} {scope : Scope} {f c' : Addr} {h₁ : Heap} {tk : Nat} {p : Str} {v : V} {u : Value} (I : Inv X pins σ H s) (L : LamP X.env.scope scope p) (hp : p ∉ X.N) (r : RelV v u) (e0 : Env0 X.prog X.w X.K X.mg X.base A outer s H) (hd : A.handled = none)
    (hns : h₁.Ns s.heap.objs.size fun y => ([(p, u)] : List (Str × Value)).reverse.lookup y) (kp : ∀ b o, s.heap.get? b = some o → h₁.get? b = some o) :
    Inv (lamCxP X A outer s H scope f c' p) [] (σ ++ [some v]) H { s with heap := h₁, toks := tk } := by
  have hfree := L.has I.ok
  have cm : ∀ {y c}, (cloFrom X.env.cells scope.names []).lookup y = some c → X.env.cells.lookup y = some c := fun {y c} e => by
    rcases cloFrom_mem (PySem.mem_of_lookup e) with hm | ⟨h1, h2⟩
    · cases hm
    · obtain ⟨c1, hc⟩ := hfree _ h1 rfl
      have hc : X.env.cells.lookup y = some c1 := hc
      have e2 : c = c1 := by
        rw [h2, hc] <;> rfl
      rw [e2]
      exact hc
  have look : ∀ {y}, scope.names.lookup y = some .free → ∃ c, (cloFrom X.env.cells scope.names []).lookup y = some c := fun {y} hl => by
    have hy : (y, NameKind.free) ∈ scope.names := PySem.mem_of_lookup hl
    exact mem_lookup (cloFrom_has (cells := X.env.cells) (acc := []) hy)
  have cellK : ∀ {c : Addr} {v : Option Value}, s.heap.IsCell c v → h₁.IsCell c v := fun {c v} ⟨o, ho, hd⟩ => ⟨o, kp _ _ ho, hd⟩
  have noA : ∀ b : Addr, b ∉ (lamCxP X A outer s H scope f c' p).ex := fun b z => absurd (show b ∈ ([] : List Addr) from z) (by simp)
  refine ⟨⟨e0.mod, L.kind, rfl, rfl, Nat.le_refl _, fun y z c e1 e2 => I.ok.inj y z c (cm e1) (cm e2), fun y hy => ?_, fun y c z _ => ?_, fun _ => hd, Around.frames_deeper e0.frames, .inr ⟨rfl, rfl⟩, fun b z => absurd z (noA b), e0.bs, e0.bsz, fun b _ _ => noA b,
      fun b z => absurd z (noA b), e0.funs, e0.frf⟩,
    rfl, e0.bare, Un.kept kp, ⟨_, hns, fun i y v' e1 e2 e3 => ?_⟩, fun y c e => ?_, e0.hok.fresh (Nat.le_refl _), fun y c e => ?_, fun q hq => absurd (show q ∈ ([] : List (Addr × Obj)) ++ [] from hq) (by simp), e0.hok.kept kp, ?_⟩
  · have hy : scope.names.lookup y = some .cell ∨ scope.names.lookup y = some .free := hy
    rcases hy with hy | hy
    · exact absurd rfl (L.own _ (PySem.mem_of_lookup hy)).1
    · exact look hy
  · have z : false = true := z
    cases z
  · have e3 : Vis scope y := e3
    have e1 : (X.N ++ [p])[i]? = some y := e1
    by_cases hi : i < X.N.length
    · rw [List.getElem?_append_left hi] at e1
      rw [List.getElem?_append_left (by rw [I.len]; exact hi)] at e2
      have hyN : y ∈ X.N := List.mem_of_getElem? e1
      rcases e3 with k | k | k
      · have := (L.own _ (PySem.mem_of_lookup k)).2 rfl
        have this : y = p := this
        exact absurd (this ▸ hyN) hp
      · exact absurd rfl (L.own _ (PySem.mem_of_lookup k)).1
      · obtain ⟨m, hn, hl⟩ := I.loc
        have hvis : Vis X.env.scope y := (L.free _ (PySem.mem_of_lookup k) rfl).elim (fun k => .inr (.inl k)) (fun k => .inr (.inr k))
        obtain ⟨w', r, q⟩ := hl i y v' e1 e2 hvis
        obtain ⟨c2, h2⟩ := look k
        refine ⟨w', r, .inr ⟨.inr k, c2, h2, ?_⟩⟩
        have c1 := cm h2
        rcases q with ⟨k', _⟩ | ⟨_, c3, e', z⟩
        · have k' : X.env.scope.names.lookup y = some .local := k'
          rcases L.free _ (PySem.mem_of_lookup k) rfl with k2 | k2 <;> rw [show X.env.scope.names.lookup y = _ from k2] at k' <;> cases k'
        · rw [c1] at e'
          cases e'
          exact cellK z
    · have hi2 : i = X.N.length := by
        have := (List.getElem?_eq_some_iff.mp e1).1
        simp at this
        omega
      subst hi2
      rw [List.getElem?_append_right (Nat.le_refl _), Nat.sub_self] at e1
      rw [List.getElem?_append_right (by rw [I.len]; exact Nat.le_refl _), I.len, Nat.sub_self] at e2
      cases e1
      cases e2
      refine ⟨u, r, .inl ⟨L.par, ?_⟩⟩
      show ([(p, u)] : List (Str × Value)).lookup p = some u
      rw [List.lookup_cons, beq_self_eq_true]
  · obtain ⟨w', z⟩ := I.cell y c (cm e)
    exact ⟨w', cellK z⟩
  · exact I.freeC y c (cm e)
  · show (σ ++ [some v]).length = (X.N ++ [p]).length
    rw [List.length_append, List.length_append, I.len]; rfl
/-- behind the lambda's call: what is not tracked stands -/
def LP (X : Cx) (pins : List (Addr × Obj)) (σ : L2.St) (H : Hp) (s : Shared) (Q : VK) (u : Value) (s' : Shared) : Prop :=
  ∃ v H', Inv X pins σ H' s' ∧ RelV v u ∧ Q v H' ∧ ∀ b o, s.heap.get? b = some o → H b = none → b ∉ frs X.stack → s'.heap.get? b = some o ∧ H' b = none
/-- the lambda's call, from a built-in that X's code has called -/
theorem lam_run {k : Nat} {params : Arguments} {body : Expr} {scope : Scope} {f c' : Addr} {pm ctv : Value} {p : Str} {v : V} {u : Value} {tb : TE} {Q : VK} {E : Value → Shared → Prop} (I : Inv X pins σ H s) (L : LamP X.env.scope scope p) (hp : p ∉ X.N)
    (hf : H f = some (ObO f (lamObj X params body scope pm ctv c'))) (hc : H c' = some (CodeO c' (X.env.qual ++ "<lambda>")))
    (hbind : ∀ (q : Str) (cl : List (Str × Addr)) (pm cv ctv u : Value), bindArgs (PySem.W.kla_fn "<lambda>" q params body scope cl pm cv ctv) ⟨[u], []⟩ = pure [(p, u)]) (hr : Room (k + 1) X.A.in1) (r : RelV v u)
    (hbody : ∀ (A : Around) (outer : List Env) (s : Shared) (H : Hp), Room k (A.deeper (lamEnv X scope s.heap.objs.size f c')) → PE (lamCxP X A outer s H scope f c' p) body tb)
    (h : tb (σ ++ [some v]) H Q) : wpAny (model X.prog X.w) X.A.in1 (call (.ref f) [u]) (LP X pins σ H s Q) E s := by
  have of1 := obO_at I.hok hf
  obtain ⟨⟨oc, vs, t, hoc, hdc, hvc⟩, _, _⟩ := I.hok c' _ hc
  have e0 := I.env0.in1
  have rc : codeAny (model X.prog X.w) X.A.in1 (.call (.ref f) ⟨[u], []⟩) (fun r s' => match r with | .ok (.ret v) => CE X.stack X.prog X.w H s Q v s' | _ => False) s := by
    refine PySem.W.kla_callFunE hr.depth of1 rfl L.co L.gen rfl ⟨c', oc, vs, t, rfl, hoc, hdc, hvc⟩ ?_
    rw [hbind]
    refine wpAny_pure (wpAny_newFunctionEnv (fun y hy => (L.own y hy).1) (fun y hy => ?_) (fun h₁ hns hsb => ⟨I.nolimit.fresh _ hsb, ?_⟩) L.kind)
    · rw [List.mem_singleton.mp hy]
      exact L.par
    show codeAny _ _ (.expr body (lamEnv X scope s.heap.objs.size f c')) _ _
    have kp : ∀ b o, s.heap.get? b = some o → h₁.get? b = some o := fun b o e => hsb.extBut b o (Nat.ne_of_lt (Heap.lt_size e)) (Heap.get?_push_of_some _ e)
    have J : Inv (lamCxP X X.A.in1 X.stack s H scope f c' p) [] (σ ++ [some v]) H { s with heap := h₁, toks := s.toks + ([(p, u)] : List (Str × Value)).length } :=
      lam_startP I L hp r e0 hr.hd hns kp
    refine PySem.W.kla_codeExpr (wpAny_mono ((hbody _ _ s H (hr.deeper _)).run [] _ _ H Q J h) (fun v s' hq => ?_) fun e s' hq => (show False from hq).elim)
    obtain ⟨w', H', J', rv, q⟩ := hq
    exact ⟨w', H', J'.os, J'.bare, J'.base, J'.hok, rv, q⟩
  refine wpAny_call (codeAny_mono rc fun r s' hq => ?_)
  cases r with
  | error e => exact (show False from hq).elim
  | ok fl =>
    cases fl with
    | ret u =>
      obtain ⟨v', H', os, bare, un, hok, r', q⟩ := hq
      have fr : ∀ b o, s.heap.get? b = some o → H b = none → b ∉ frs X.stack → s'.heap.get? b = some o ∧ H' b = none := fun b o e n nf => ⟨un.keep b o e n nf (by simp), un.free b o e n (by simp)⟩
      obtain ⟨hh, g, d, t, os'⟩ := s'
      obtain rfl : os' = s.os := os
      exact ⟨v', H', I.call (h' := hh) (g' := g) (d' := d) (t' := t) (ch := []) un hok bare (fun b z => absurd z (by simp)), r', q, fr⟩
    | next => exact (show False from hq).elim
    | brk => exact (show False from hq).elim
    | cont => exact (show False from hq).elim
end
end Jl

set_option Elab.async false
set_option maxRecDepth 100000
set_option maxHeartbeats 4000000
/-! A lambda as a value; built-ins with keywords whose key= is such a lambda; min, max with default=; count, in of pairs. -/
namespace Jl
open PySem PySem.Spec PyProof.Rows L2 LamX
section
variable {X : Cx}
def tLamV (X : Cx) (T : List (Addr × Str)) (params : Arguments) (body : Expr) (scope : Scope) : TE := fun _ H Q => Tabs T H ∧ ∀ (H1 : Hp) (f c' : Addr) (pm ctv : Value), ExtT H H1 → Tabs T H1 → H f = none →
  H1 f = some (ObO f (lamObj X params body scope pm ctv c')) → H1 c' = some (CodeO c' (X.env.qual ++ "<lambda>")) → Q (.ref f) H1
theorem pe_lamv {T : List (Addr × Str)} {c P : Addr} {params : Arguments} {body : Expr} {scope : Scope} {pos : Pos} {p : Str} (TB : TabB X.base X.mg c P) (hcode : X.env.code = .ref c)
    (hm : (P, X.env.qual ++ "<lambda>") ∈ T) (hu : ∀ p ∈ T, p.1 = P → p.2 = X.env.qual ++ "<lambda>") (hdef : defaultsOf params X.env = ([], [])) (L : LamP X.env.scope scope p) : PE X (.Lambda params body scope pos) (tLamV X T params body scope) := by
  refine ⟨fun pins s σ H Q I h => ?_⟩
  obtain ⟨hT, h⟩ := h
  exact lam_make3 I TB hcode hm hu hT hdef (L.has I.ok) fun f c' pm ctv H1 s' I1 eN T1 hf hf1 hc => ⟨.ref f, H1, I1, rfl, h H1 f c' pm ctv eN T1 hf hf1 hc⟩
/-! ### a built-in function called with keywords, what is asked leaning on the slots -/
def CallRKS (X : Cx) (f : Value) (ks : List Str) (r : L2.St → List V → List V → Hp → VK → Prop) : Prop :=
  ∀ (pins : List (Addr × Obj)) (s : Shared) (σ : L2.St) (H : Hp) (xs zs : List V) (us ws : List Value) (Q : VK), Inv X pins σ H s → Vals xs us → Vals zs ws → r σ xs zs H Q → wpAny (model X.prog X.w) X.A (call f us (ks.zip ws)) (EP X pins σ Q) X.xe s
def tCKwS (r : L2.St → List V → List V → Hp → VK → Prop) (t tk : TA) : TE := fun σ H Q => t σ H fun vs H1 => tk σ H1 fun zs H2 => r σ vs zs H2 Q
theorem pe_callBKS {x : Str} {p pos : Pos} {e : Expr} {es : List Expr} {kws : List Keyword} {t tk : TA} {id : String} {ks : List Str} {r : L2.St → List V → List V → Hp → VK → Prop} (hc : CallRKS X (.builtin id) ks r) (hg : Gl X x) (hm : X.mg x = none) (hv : bootBuiltins x = some (.builtin id)) (ha : PA X (e :: es) t) (hk : PK X kws tk) (hn : x ≠ "__name__" := by decide) (hdb : (x == ("__debug__" : Str)) = false := by decide)
    (he : backTo pos (starEach (e :: es) X.env) = (false, eval e X.env) :: backTo pos (starEach es X.env) := by rfl) (hpl : (backTo pos (starEach (e :: es) X.env)).any (·.1) = false := by rfl)
    (hall : (backToKw pos (keywordEach kws X.env)).all (·.1.isSome) = true := by rfl) (hnone : (backToKw pos (keywordEach kws X.env)).any (·.1.isNone) = false := by rfl) (hks : (backToKw pos (keywordEach kws X.env)).filterMap (·.1) = ks := by rfl) :
    PE X (.Call (.Name x p) (e :: es) kws pos) (tCKwS r t tk) := by
  refine ⟨fun pins s σ H Q I h => ?_⟩
  refine wpAny_Call_Name_kw (ld_blt I hg hm hv ?_ hn hdb)
  refine PyProof.Rows.callWith_kw (thn (ha.run pos pins s σ H _ I h) fun us s1 ⟨vs, H1, I1, r1, q1⟩ => thn (hk.run pos pins s1 σ H1 _ I1 q1) fun ws s2 ⟨zs, H2, I2, r2, q2⟩ => ?_) he hpl hall hnone
  rw [hks]
  exact hc pins s2 σ H2 vs zs us ws Q I2 r1 r2 q2
/-! ### max, min of a list of ints with default= -/
/-- the default of an empty list, else what pick takes -/
def dflt (d : V) (pick : Int → List Int → Int) : List Int → V
  | [] => d
  | n :: r => .int (pick n r)
def rMxD (K : PySem.W.Frag) (pick : Int → List Int → Int) : List V → List V → Hp → VK → Prop := fun vs zs H Q => ∃ (a : Addr) (ns : List Int) (d : V), vs = [V.ref a] ∧ zs = [d] ∧ SqL K H a (ns.map V.int) ∧
  Q (dflt d pick ns) H
theorem depth_ints : ∀ ns : List Int, PyData.depthAll (ns.map PyData.int) = 0
  | [] => by simp [PyData.depthAll]
  | n :: r => by
    have ih := depth_ints r
    simp only [List.map_cons, PyData.depthAll, PyData.depth, ih]
    rfl
theorem alike_ints (ns : List Int) : PySem.W.AlikeAll (ns.map PyData.int) := by
  refine ⟨fun x hx y hy => ?_, fun x hx => ?_⟩
  · obtain ⟨a, _, rfl⟩ := List.mem_map.mp hx
    obtain ⟨b, _, rfl⟩ := List.mem_map.mp hy
    simp [PySem.W.alike]
  · obtain ⟨a, _, rfl⟩ := List.mem_map.mp hx
    exact fun z => by cases z
theorem reads_ints {h : Heap} : ∀ {vs : List Value} {ns : List Int}, IntsAre vs ns → ∃ as, ReadsAll h vs (ns.map PyData.int) as := by
  intro vs ns hi
  have rv := vals_ints hi
  clear hi
  induction ns generalizing vs with
  | nil => cases rv; exact ⟨_, .nil⟩
  | cons n r ih =>
    cases rv with
    | cons r1 r2 =>
      obtain ⟨t, rfl⟩ := r1
      obtain ⟨as, h1⟩ := ih r2
      exact ⟨_, .cons (.int n t) h1⟩
theorem cr_maxD (hr : X.A.units + 2 < cLine) (hh : X.A.handled = none) : CallRK X (.builtin "max") [Str.ofString "default"] (rMxD X.K fun n r => r.foldl max n) := by
  intro pins s σ H vs zs us ws Q I r rz h
  obtain ⟨a, ns, d, rfl, rfl, hs, q⟩ := h
  obtain rfl := Vals.ref1 r
  obtain ⟨w1, rfl, e1⟩ := vals1 rz
  obtain ⟨its, rv, hl, hz⟩ := I.list hs
  have hi := rv.ints
  obtain ⟨as, hread⟩ := reads_ints (h := s.heap) hi
  refine PySem.W.max_list_default (vs := its.toArray) hh hl.isList (by simpa using hread) (alike_ints ns) (by rw [depth_ints]; omega) (fun e h' tk kp => ?_) fun y ys i v h' tk bs e hv rd kp => ?_
  · have e : ns = [] := by simpa using e
    subst e
    exact ⟨d, H, I.kept kp, e1, q⟩
  · cases ns with
    | nil => cases e
    | cons n r =>
      obtain ⟨rfl, rfl⟩ : PyData.int n = y ∧ r.map PyData.int = ys := by
        injection e with e1 e2
        exact ⟨e1, e2⟩
      rw [PySem.W.maxD_ints] at rd
      cases rd with
      | int i t => exact ⟨.int _, H, I.kept kp, ⟨t, rfl⟩, q⟩
theorem cr_minD (hr : X.A.units + 2 < cLine) (hh : X.A.handled = none) : CallRK X (.builtin "min") [Str.ofString "default"] (rMxD X.K fun n r => r.foldl min n) := by
  intro pins s σ H vs zs us ws Q I r rz h
  obtain ⟨a, ns, d, rfl, rfl, hs, q⟩ := h
  obtain rfl := Vals.ref1 r
  obtain ⟨w1, rfl, e1⟩ := vals1 rz
  obtain ⟨its, rv, hl, hz⟩ := I.list hs
  have hi := rv.ints
  obtain ⟨as, hread⟩ := reads_ints (h := s.heap) hi
  refine PySem.W.min_list_default (vs := its.toArray) hh hl.isList (by simpa using hread) (alike_ints ns) (by rw [depth_ints]; omega) (fun e h' tk kp => ?_) fun y ys i v h' tk bs e hv rd kp => ?_
  · have e : ns = [] := by simpa using e
    subst e
    exact ⟨d, H, I.kept kp, e1, q⟩
  · cases ns with
    | nil => cases e
    | cons n r =>
      obtain ⟨rfl, rfl⟩ : PyData.int n = y ∧ r.map PyData.int = ys := by
        injection e with e1 e2
        exact ⟨e1, e2⟩
      rw [PySem.W.minD_ints] at rd
      cases rd with
      | int i t => exact ⟨.int _, H, I.kept kp, ⟨t, rfl⟩, q⟩
/-! ### pairs of ints in a list: count, not in -/
def pD (z : Int × Int) : PyData := .tuple [.int z.1, .int z.2]
theorem pD_eqv (z w : Int × Int) : PyData.eqv (pD z) (pD w) = decide (z = w) := by
  obtain ⟨a, b⟩ := z
  obtain ⟨a', b'⟩ := w
  have e : PyData.eqv (pD (a, b)) (pD (a', b')) = ((a == a') && ((b == b') && true)) := by simp only [pD, PyData.eqv, PyData.eqvAll]
  rw [e]
  by_cases h : ((a, b) : Int × Int) = (a', b')
  · cases h; simp
  · rw [decide_eq_false h]
    by_cases h1 : a = a'
    · have q : (b == b') = false := beq_eq_false_iff_ne.mpr fun z => h (by rw [h1, z])
      rw [q, Bool.false_and, Bool.and_false]
    · have q : (a == a') = false := beq_eq_false_iff_ne.mpr h1
      rw [q, Bool.false_and]
theorem pD_lay (z : Int × Int) : (pD z).canLay0 = true := by simp [pD, PyData.canLay0, PyData.canLayAll0]
theorem pD_depth (z : Int × Int) : (pD z).depth = 1 := by simp [pD, PyData.depth, PyData.depthAll]
theorem pDs_lay : ∀ zs : List (Int × Int), PyData.canLayAll0 (zs.map pD) = true
  | [] => by simp [PyData.canLayAll0]
  | z :: zs => by simp [PyData.canLayAll0, pD_lay z, pDs_lay zs]
theorem pDs_depth : ∀ zs : List (Int × Int), PyData.depthAll (zs.map pD) ≤ 1
  | [] => by simp [PyData.depthAll]
  | z :: zs => by
    have h1 := pDs_depth zs
    have h2 := pD_depth z
    simp only [List.map_cons, PyData.depthAll]
    omega
theorem pD_shaped (z : Int × Int) : SeqAt.shaped (pD z) = true := by
  have h := pD_depth z
  show ((pD z).canLay0 && decide ((pD z).depth ≤ 64)) = true
  rw [Bool.and_eq_true]
  exact ⟨pD_lay z, decide_eq_true (by omega)⟩
theorem pDs_shaped (zs : List (Int × Int)) : SeqAt.shaped (.list (zs.map pD)) = true := by
  have h1 := pDs_depth zs
  have h2 : PyData.depth (.list (zs.map pD)) ≤ 64 := by
    simp only [PyData.depth]
    omega
  show (PyData.canLay0 (.list (zs.map pD)) && decide (PyData.depth (.list (zs.map pD)) ≤ 64)) = true
  rw [Bool.and_eq_true]
  exact ⟨by simp only [PyData.canLay0]; exact pDs_lay zs, decide_eq_true h2⟩
def rCntD (K : PySem.W.Frag) : V → List V → Hp → VK → Prop := fun x xs H Q => ∃ (p q : Addr) (zs : List (Int × Int)) (z : Int × Int), x = .ref p ∧ xs = [.ref q] ∧ Dp K H (.ref p) (.list (zs.map pD)) ∧ Dp K H (.ref q) (pD z) ∧ Q (.int (zs.count z : Nat)) H
theorem countP_pD (zs : List (Int × Int)) (z : Int × Int) : ((zs.map pD).countP fun y => PyData.eqv y (pD z)) = zs.count z := by
  rw [List.countP_map]
  unfold List.count
  congr 1
  funext y
  show PyData.eqv (pD y) (pD z) = (y == z)
  rw [pD_eqv]
  exact (Bool.beq_eq_decide_eq _ _).symm
theorem pD_plain (z : Int × Int) : (pD z).plain = true := by simp [pD, PyData.plain, PyData.plainAll]
theorem pDs_plain : ∀ zs : List (Int × Int), PyData.plainAll (zs.map pD) = true
  | [] => by simp [PyData.plainAll]
  | z :: zs => by simp [PyData.plainAll, pD_plain z, pDs_plain zs]
theorem mt_countD (hu : X.A.units + 65 < cLine) : MtR X "list.count" (rCntD X.K) := by
  intro pins s σ H x xs v us Q I rx rxs h
  obtain ⟨p, q, zs, z, rfl, rfl, hl, hz, qq⟩ := h
  cases rx
  obtain ⟨u, rfl, ru⟩ := rxs.one
  cases ru
  obtain ⟨bs, r1⟩ := Dp.reads I _ _ _ hz (show RelV (.ref q) (.ref q) from rfl)
  cases hl with
  | lst hs ha =>
    obtain ⟨its, rv, hp, hlen⟩ := I.list hs
    obtain ⟨as, h4⟩ := Dp.readsAll I _ _ its ha rv
    refine PySem.SeqAt.count_list_data hp.isList (by simpa using h4) r1 (pDs_plain zs) (pD_plain z) ?_ ?_
    · have := pD_depth z
      omega
    · rw [countP_pD]
      exact ⟨.int (zs.count z : Nat), H, I.tok _, ⟨_, rfl⟩, qq⟩
end
end Jl

set_option Elab.async false
set_option maxRecDepth 100000
set_option maxHeartbeats 4000000
/-! min(l, key=lambda, default=d) of a list of ints. -/
namespace Jl
open PySem PySem.Spec PyProof.Rows L2 LamX
/-- the walk of a list of ints whose tokens may be others from turn to turn -/
theorem walks_ints {prog : Program} {w : World} {A : Around} (hh : A.handled = none) (I ax : Addr) (hne : ax ≠ I) (ns : List Int) :
    WalksS prog w A I [I, ax] [I] (fun a b => b = a) ns.length (fun i v => ∃ n t, ns[i]? = some n ∧ v = .int n t) (fun i s => s.heap.IsListIter I ax i ∧ ∃ its : List Value, IntsAre its ns ∧ s.heap.IsList ax its.toArray) where
  sub := fun b hb => by simp at hb; simp [hb]
  grefl := fun _ => rfl
  gtrans := fun _ _ _ h1 h2 => h2.trans h1
  frame := fun i s h' tk ⟨h1, its, h2, h3⟩ _ hk => ⟨h1.at fun o e => hk I (by simp) o e, its, h2, h3.at fun o e => hk ax (by simp) o e⟩
  item := fun i s Q E hi ⟨h1, its, h2, h3⟩ hQ => by
    have hl := h2.length
    refine (Walks.list (prog := prog) (w := w) (A := A) hh I ax hne its.toArray).toS.item i s Q E (by simp; omega) ⟨h1, h3⟩ fun v s' hP hst' hm => ?_
    refine hQ v s' ?_ ⟨hst'.1, its, h2, hst'.2⟩ hm
    have rv := vals_ints h2
    have hn : (ns.map V.int)[i]? = some (.int ns[i]) := by rw [List.getElem?_map, List.getElem?_eq_getElem hi]; rfl
    obtain ⟨u, e1, e2⟩ := rv.get hn
    have hP : its.toArray[i]? = some v := hP
    have e3 : its[i]? = some v := by simpa using hP
    rw [e1] at e3
    cases e3
    obtain ⟨t, rfl⟩ := e2
    exact ⟨ns[i], t, List.getElem?_eq_getElem hi, rfl⟩
  done := fun s Q E ⟨h1, its, h2, h3⟩ hQ => by
    have hl := h2.length
    refine (Walks.list (prog := prog) (w := w) (A := A) hh I ax hne its.toArray).toS.done s Q E ?_ hQ
    refine ⟨?_, h3⟩
    have e : its.toArray.size = ns.length := by simp; omega
    rw [e]; exact h1
  self := fun i s Q E ⟨h1, its, h2, h3⟩ hQ => (Walks.list (prog := prog) (w := w) (A := A) hh I ax hne its.toArray).toS.self i s Q E ⟨h1, h3⟩ hQ
section
variable {X : Cx}
def rMinKD (X : Cx) (params : Arguments) (body : Expr) (scope : Scope) (tb : TE) : L2.St → List V → List V → Hp → VK → Prop := fun σ vs zs H Q =>
  ∃ (a f c' : Addr) (ns : List Int) (dv : V) (pm ctv : Value) (Pv : Hp → Prop) (kf : Nat → Int), vs = [.ref a] ∧ zs = [.ref f, dv] ∧ Pv H ∧
    (∀ H', Pv H' → SqL X.K H' a (ns.map V.int) ∧ H' f = some (ObO f (lamObj X params body scope pm ctv c')) ∧ H' c' = some (CodeO c' (X.env.qual ++ "<lambda>"))) ∧
    (∀ i n H', ns[i]? = some n → Pv H' → tb (σ ++ [some (.int n)]) H' fun v H'' => v = .int (kf i) ∧ Pv H'') ∧
    (ns = [] → ∀ H', Pv H' → Q dv H') ∧ (∀ n, 0 < ns.length → ns[argBest (fun i j => decide (kf i < kf j)) (ns.length - 1)]? = some n → ∀ H', Pv H' → Q (.int n) H')
theorem cr_minKD {k : Nat} {params : Arguments} {body : Expr} {scope : Scope} {p : Str} {tb : TE} (L : LamP X.env.scope scope p) (hp : p ∉ X.N)
    (hbind : ∀ (q : Str) (cl : List (Str × Addr)) (pm cv ctv u : Value), bindArgs (PySem.W.kla_fn "<lambda>" q params body scope cl pm cv ctv) ⟨[u], []⟩ = pure [(p, u)]) (hr : Room (k + 1) X.A.in1)
    (hbody : ∀ (A : Around) (outer : List Env) (s : Shared) (H : Hp) (f c' : Addr), Room k (A.deeper (lamEnv X scope s.heap.objs.size f c')) → PE (lamCxP X A outer s H scope f c' p) body tb) :
    CallRKS X (.builtin "min") [Str.ofString "key", Str.ofString "default"] (rMinKD X params body scope tb) := by
  intro pins s σ H vs zs us ws Q I r rz h
  obtain ⟨a, f, c', ns, dv, pm, ctv, Pv, kf, rfl, rfl, hP, hSt, hTurn, h0, h1⟩ := h
  obtain rfl := Vals.ref1 r
  obtain ⟨w1, w2, rfl, e1, e2⟩ := vals2 rz
  obtain rfl : w1 = Value.ref f := e1
  have hh : X.A.in1.handled = none := hr.hd
  show wpAny (model X.prog X.w) X.A (call (.builtin "min") [.ref a] [(Str.ofString "key", .ref f), (Str.ofString "default", w2)]) _ _ s
  obtain ⟨its, rv, hl, hz⟩ := I.list (hSt H hP).1
  have haS : @LT.lt Nat _ a s.heap.objs.size := by obtain ⟨_, e, _⟩ := hl.isList; exact Heap.lt_size e
  refine PySem.call_min_walkKD (A := X.A) (PySem.W.iter_listW (A := X.A.in1) hh hl.isList fun s₂ es _ hst hfp _ hk => ?_)
  have hI2 : s₂.heap.objs.size = s.heap.objs.size + 1 := by rw [es]; exact Heap.size_push ..
  -- what stands through the loop
  have hltN : @LT.lt Nat _ X.env.locals s.heap.objs.size := I.lt
  have cne : ∀ b : Nat, (s.heap.objs.size) ≤ b → (b ∈ X.ex ∨ X.s_0.heap.objs.size ≤ b) ∧ b ≠ X.env.locals ∧ (∀ x c, X.env.cells.lookup x = some c → c ≠ b) ∧ ∀ p ∈ X.pn ++ pins, p.1 ≠ b := fun b hb => by
    refine ⟨.inr (Nat.le_trans I.sz (by omega)), fun z => ?_, fun x c e z => ?_, fun p hp z => ?_⟩
    · have z : @Eq Nat b X.env.locals := z
      omega
    · obtain ⟨v, o, ho, _⟩ := I.cell x c e
      have h1 : @LT.lt Nat _ c s.heap.objs.size := Heap.lt_size ho
      have z : @Eq Nat c b := z
      omega
    · have h1 : @LT.lt Nat _ p.1 s.heap.objs.size := Heap.lt_size (I.pin p hp).1
      have z : @Eq Nat p.1 b := z
      omega
  have nofr : ∀ b : Nat, (s.heap.objs.size) ≤ b → b ∉ frs X.stack := fun b hb z => by
    rcases List.mem_cons.mp (I.stkSub _ z) with e | e
    · have e : @Eq Nat b X.env.locals := e
      omega
    · exact I.nofs hb e
  refine ⟨(s.heap.objs.size), [(s.heap.objs.size), a], [(s.heap.objs.size)], (fun a b => b = a), ns.length, _, _, (fun s' => ∃ H', Inv X pins σ H' s' ∧ Pv H' ∧ H' (s.heap.objs.size) = none ∧ H' ((s.heap.objs.size) + 1) = none), (fun i k s' => ∃ t, k = .int (kf i) t), (fun i j => decide (kf i < kf j)), rfl,
    walks_ints hh (s.heap.objs.size) a (Nat.ne_of_lt haS) ns, ⟨hst.1, its, rv.ints, hst.2⟩, hfp, ⟨?keep, ?keepV, ?turn, ?cmp⟩, ?J0, ?d0, ?dn⟩
  case keepV => exact fun i k s s' h _ => h
  case cmp =>
    rintro i j ki kj s' Q' E' _ ⟨t, rfl⟩ ⟨t', rfl⟩ h
    exact wpAny_lt_int h
  case J0 =>
    refine ⟨H, ?_, hP, I.hok.fresh (Nat.le_refl _), I.hok.fresh (Nat.le_succ _)⟩
    rw [es]
    exact I.kept fun b o e => Heap.get?_push_of_some _ e
  case d0 =>
    rintro hn s' ⟨H', I', P', _, _⟩
    exact ⟨dv, H', I', e2, h0 (List.length_eq_zero_iff.mp hn) H' P'⟩
  case dn =>
    rintro hn v s' ⟨n, t, e, rfl⟩ ⟨H', I', P', _, _⟩
    exact ⟨.int n, H', I', ⟨t, rfl⟩, h1 n hn e H' P'⟩
  case keep =>
    rintro s' s'' ⟨H', I', P', n1, n2⟩ m
    rw [hI2] at m
    have hb : ∀ b, b ∉ [(s.heap.objs.size) + 1, (s.heap.objs.size)] → b ≠ (s.heap.objs.size) + 1 ∧ b ≠ (s.heap.objs.size) := fun b hb => ⟨fun z => hb (by simp [z]), fun z => hb (by simp [z])⟩
    have tr : ∀ b u, H' b = some u → b ∉ [(s.heap.objs.size) + 1, (s.heap.objs.size)] := fun b u e z => by
      rcases List.mem_cons.mp z with z | z
      · rw [z, n2] at e; cases e
      · rw [List.mem_singleton.mp z, n1] at e; cases e
    refine ⟨H', ?_, P', n1, n2⟩
    refine I'.call' (ch := [(s.heap.objs.size) + 1, (s.heap.objs.size)]) m.os ⟨fun b o e _ _ hx => m.heap b o hx e, fun b o e _ _ hx => ⟨o.slots, m.heap b o hx e⟩, fun b o e n _ => n, fun b o e hx => ⟨o, m.heap b o hx e⟩, fun b xs e => e, fun b o u e => e, fun b ps e => ⟨#[], by rw [e]; simp⟩⟩ (fun b u e => ?_) ?_ fun b hb => ?_
    · refine (I'.hok b u e).stay (fun d v hd q => m.heap d v ?_ q) (fun _ q => q) fun _ _ q => q
      rcases hd with z | z
      · rw [z]; exact tr b u e
      · exact tr d _ z
    · have := m.gens
      rw [this]; exact I'.bare
    · rcases List.mem_cons.mp hb with z | z
      · rw [z]; exact cne _ (Nat.le_succ _)
      · rw [List.mem_singleton.mp z]; exact cne _ (Nat.le_refl _)
  case turn =>
    rintro i v s' o Q' E' hi ⟨n, t, en, rfl⟩ ⟨H', I', P', n1, n2⟩ ⟨hit, its', hi', hl'⟩ hS h
    rw [hI2] at hS h
    obtain ⟨_, hf, hc⟩ := hSt H' P'
    refine wpAny_mono (lam_run (E := fun _ _ => False) (v := .int n) I' L hp hf hc hbind hr ⟨t, rfl⟩ (fun A outer s H => hbody A outer s H f c') (hTurn i n H' en P')) (fun u s'' hq => ?_) fun _ _ x => x.elim
    obtain ⟨v', H'', I'', rv', ⟨rfl, P''⟩, fr⟩ := hq
    obtain ⟨t', rfl⟩ := rv'
    obtain ⟨oI, hoI, hoI2⟩ := id hit
    obtain ⟨f1, f2⟩ := fr (s.heap.objs.size) oI hoI n1 (nofr _ (Nat.le_refl _))
    obtain ⟨g1, g2⟩ := fr ((s.heap.objs.size) + 1) o hS n2 (nofr _ (Nat.le_succ _))
    refine h _ s'' ⟨H'', I'', P'', f2, g2⟩ ⟨⟨oI, f1, hoI2⟩, ?_⟩ g1 ⟨t', rfl⟩ fun j k' q => q
    obtain ⟨its2, rv2, hl2, _⟩ := I''.list (hSt H'' P'').1
    exact ⟨its2, rv2.ints, hl2.isList⟩
end
end Jl

set_option Elab.async false
set_option maxRecDepth 100000
set_option maxHeartbeats 4000000
/-! sorted(d, key=lambda p: (d[p], p)) of a dict of tuples of ints by ints. -/
namespace Jl
open PySem PySem.Spec PyProof.Rows L2 LamX
/-- an entry: its number, where its tuple stands, the tuple's ints -/
structure Ent where
  n : Int
  a : Addr
  k : List Int
def Ent.key (x : Ent) : PyData := .tuple [.tuple (x.k.map PyData.int), .int x.n]
theorem alikeAll_ints : ∀ (a b : List Int), a.length = b.length → PySem.W.alikeAll (a.map PyData.int) (b.map PyData.int) = true
  | [], [], _ => by simp [PySem.W.alikeAll]
  | x :: a, y :: b, h => by
    have ih := alikeAll_ints a b (by simpa using h)
    simp [PySem.W.alikeAll, PySem.W.alike, ih]
theorem reads_intsT {h : Heap} : ∀ {vs : List Value} {ns : List Int}, IntsAre vs ns → ReadsAll h vs (ns.map PyData.int) [] := by
  intro vs ns hi
  have rv := vals_ints hi
  clear hi
  induction ns generalizing vs with
  | nil => cases rv; exact .nil
  | cons n r ih =>
    cases rv with
    | cons r1 r2 =>
      obtain ⟨t, rfl⟩ := r1
      exact .cons (as := []) (bs := []) (.int n t) (ih r2)
theorem each_ints : ∀ {us : List Value} {xs : List Ent}, IntsAre us (xs.map Ent.n) → PySem.W.EachIs (fun v (x : Ent) => ∃ t, v = .int x.n t) us xs := by
  intro us xs hi
  have rv := vals_ints hi
  clear hi
  induction xs generalizing us with
  | nil => cases rv; exact .nil
  | cons x r ih =>
    cases rv with
    | cons r1 r2 => exact .cons r1 (ih r2)
theorem vals_each {us : List Value} {xs : List Ent} (e : PySem.W.EachIs (fun v (x : Ent) => ∃ t, v = .int x.n t) us xs) : Vals (xs.map fun x => V.int x.n) us := by
  induction e with
  | nil => exact .nil
  | cons h _ ih => exact .cons h ih
section
variable {X : Cx}
/-- the lambda lambda p: (d[p], p), called from a built-in: nothing but new objects -/
theorem lam_pair {k i : Nat} {params : Arguments} {scope : Scope} {f c' : Addr} {pm ctv : Value} {x p : Str} {n : Int} {t : Tok} {d e : Addr} {ks : List Int} {kvs : List (Key × V)} {p1 p2 p3 p4 p5 : Pos} {xf : Nat} {A : Around} {pins : List (Addr × Obj)} {σ : L2.St} {H : Hp} {s : Shared} {E : Value → Shared → Prop}
    (I : Inv X pins σ H s) (L : LamP X.env.scope scope p) (hfree : scope.names.lookup x = some .free) (hN : X.N[i]? = some x) (hσ : σ[i]? = some (some (.ref d)))
    (hf : H f = some (ObO f (lamObj X params (.Tuple [.Subscript (.Name x p1) (.Name p p2) p3, .Name p p4] xf p5) scope pm ctv c'))) (hc : H c' = some (CodeO c' (X.env.qual ++ "<lambda>")))
    (hbind : ∀ (q : Str) (cl : List (Str × Addr)) (pm cv ctv u : Value), bindArgs (PySem.W.kla_fn "<lambda>" q params (.Tuple [.Subscript (.Name x p1) (.Name p p2) p3, .Name p p4] xf p5) scope cl pm cv ctv) ⟨[u], []⟩ = pure [(p, u)]) (hr : Room (k + 1) A)
    (hd : H d = some (.dK kvs)) (hv : valV kvs (Sum.inl n) = some (.ref e)) (he : H e = some (.tup (ks.map V.int)))
    (hx1 : (x == ("__debug__" : Str)) = false := by decide) (hx2 : (x == ("__classdict__" : Str)) = false := by decide) (hp1 : (p == ("__debug__" : Str)) = false := by decide) :
    wpAny (model X.prog X.w) A (call (.ref f) [.int n t]) (PySem.W.KeyPure (.tuple [.tuple (ks.map PyData.int), .int n]) s) E s := by
  have of1 := obO_at I.hok hf
  obtain ⟨⟨oc, vs, tq, hoc, hdc, hvc⟩, _, _⟩ := I.hok c' _ hc
  have rc : codeAny (model X.prog X.w) A (.call (.ref f) ⟨[.int n t], []⟩) (fun r s' => match r with | .ok (.ret v) => PySem.W.KeyPure (.tuple [.tuple (ks.map PyData.int), .int n]) s v s' | _ => False) s := by
    refine PySem.W.kla_callFunE hr.depth of1 rfl L.co L.gen rfl ⟨c', oc, vs, tq, rfl, hoc, hdc, hvc⟩ ?_
    rw [hbind]
    refine wpAny_pure (wpAny_newFunctionEnv (fun y hy => (L.own y hy).1) (fun y hy => ?_) (fun h₁ hns hsb => ⟨I.nolimit.fresh _ hsb, ?_⟩) L.kind)
    · rw [List.mem_singleton.mp hy]
      exact L.par
    show codeAny _ _ (.expr _ (lamEnv X scope s.heap.objs.size f c')) _ _
    have kp : ∀ b o, s.heap.get? b = some o → h₁.get? b = some o := fun b o e => hsb.extBut b o (Nat.ne_of_lt (Heap.lt_size e)) (Heap.get?_push_of_some _ e)
    -- the cell of x
    have hy : (x, NameKind.free) ∈ scope.names := PySem.mem_of_lookup hfree
    have hvis : Vis X.env.scope x := (L.free _ hy rfl).elim (fun k => .inr (.inl k)) (fun k => .inr (.inr k))
    obtain ⟨m, hn, hl⟩ := I.loc
    obtain ⟨w', rw', q⟩ := hl i x (.ref d) hN hσ hvis
    obtain rfl : w' = Value.ref d := rw'
    obtain ⟨cx, hcx, hcell⟩ : ∃ cx, X.env.cells.lookup x = some cx ∧ s.heap.IsCell cx (some (.ref d)) := by
      rcases q with ⟨k', _⟩ | ⟨_, c3, e', z⟩
      · have k' : X.env.scope.names.lookup x = some .local := k'
        rcases L.free _ hy rfl with k2 | k2 <;> rw [show X.env.scope.names.lookup x = _ from k2] at k' <;> cases k'
      · exact ⟨c3, e', z⟩
    obtain ⟨c2, h2⟩ := mem_lookup (cloFrom_has (cells := X.env.cells) (acc := []) hy)
    have hc2 : c2 = cx := by
      rcases cloFrom_mem (PySem.mem_of_lookup h2) with hm | ⟨_, e2⟩
      · cases hm
      · rw [e2, hcx]; rfl
    subst hc2
    obtain ⟨oX, hoX, hoX2⟩ := hcell
    have hcell1 : h₁.IsCell c2 (some (.ref d)) := ⟨oX, kp _ _ hoX, hoX2⟩
    -- the dict, the tuple
    obtain ⟨z, lo, vs', rel, dd⟩ := dk_of I.hok hd
    obtain ⟨wv, hw, rwv⟩ := RelO.some_of (v := .ref e) (o := valueAt vs' (Sum.inl n)) (by rw [← hv]; exact rel.val _)
    obtain rfl : wv = Value.ref e := rwv
    obtain ⟨_, its, rv, ht⟩ := I.hok e _ he
    have hi := rv.ints
    have dd1 : h₁.DictOf (mixKind X.prog X.w) d vs' := by
      obtain ⟨o, es, ep, e1, r⟩ := dd
      exact ⟨o, es, ep, kp _ _ e1, r⟩
    refine PySem.W.kla_codeExpr ?_
    have hkx : (lamEnv X scope s.heap.objs.size f c').kindOf x = some .free := hfree
    have hkp : (lamEnv X scope s.heap.objs.size f c').kindOf p = some .local := L.par
    have hlp : ([(p, Value.int n t)] : List (Str × Value)).reverse.lookup p = some (Value.int n t) := by
      show ([(p, Value.int n t)] : List (Str × Value)).lookup p = _
      rw [List.lookup_cons, beq_self_eq_true]
    refine wpAny_Tuple_spliced ?_
    show wpAny _ _ (spliced ((false, eval (.Subscript (.Name x p1) (.Name p p2) p3) _) :: backTo p5 (starEach [.Name p p4] _))) _ _ _
    refine Calls.spliced_cons ?_
    refine subD_of (T := "dict") PySem.F.slot_dict_getitem.lookup (fun _ _ => rfl) ?_
    refine wpAny_Name (wpAny_loadName_free (c := c2) (v := .ref d) L.kind hkx h2 hcell1 ?_ hx2) hx1
    refine wpAny_Name (wpAny_loadName_local L.kind hkp hns hlp ?_) hp1
    refine ⟨dd1.typeIs, wpAny_getItem_of (mixKind_int X.prog X.w n t) dd1.mapOf hw ?_⟩
    show wpAny _ _ (spliced ((false, eval (.Name p p4) _) :: backTo p5 (starEach [] _))) _ _ _
    refine Calls.spliced_cons ?_
    refine wpAny_Name (wpAny_loadName_local L.kind hkp hns hlp ?_) hp1
    refine Calls.spliced_nil ⟨by show 2 ≤ _; decide, ?_⟩
    refine ⟨_, _, rfl, fun b o e => Heap.get?_push_of_some _ (kp b o e), ?_⟩
    obtain ⟨ot, e1, e2, nt, e3⟩ := ht
    refine .tuple (as := []) (Heap.get?_push_size _ rfl) rfl rfl (.cons (as := []) (bs := []) (.tuple (Heap.get?_push_of_some _ (kp _ _ e1)) e2 e3 (by simpa using reads_intsT hi)) (.cons (as := []) (bs := []) (.int n t) .nil))
  refine wpAny_call (codeAny_mono rc fun r s' hq => ?_)
  cases r with
  | error e => exact (show False from hq).elim
  | ok fl =>
    cases fl with
    | ret u => exact hq
    | next => exact (show False from hq).elim
    | brk => exact (show False from hq).elim
    | cont => exact (show False from hq).elim
def rSortD (X : Cx) (params : Arguments) (body : Expr) (scope : Scope) (i len : Nat) : L2.St → List V → List V → Hp → VK → Prop := fun σ vs zs H Q =>
  ∃ (d f c' : Addr) (xs : List Ent) (pm ctv : Value), vs = [.ref d] ∧ zs = [.ref f] ∧ σ[i]? = some (some (.ref d)) ∧ H d = some (.dK (xs.map fun x => (Sum.inl x.n, V.ref x.a))) ∧ (∀ x ∈ xs, H x.a = some (.tup (x.k.map V.int)) ∧ x.k.length = len) ∧ (xs.map Ent.n).Nodup ∧
    H f = some (ObO f (lamObj X params body scope pm ctv c')) ∧ H c' = some (CodeO c' (X.env.qual ++ "<lambda>")) ∧
    ∀ q, H q = none → Q (.ref q) (upd H q (.lst ((xs.mergeSort (PySem.W.dataLe false Ent.key)).map fun x => V.int x.n)))
theorem valV_nodup : ∀ {xs : List Ent} {x : Ent}, (xs.map Ent.n).Nodup → x ∈ xs → valV (xs.map fun x => ((Sum.inl x.n : Key), V.ref x.a)) (Sum.inl x.n) = some (.ref x.a)
  | y :: ys, x, hn, hx => by
    have hn := List.nodup_cons.mp hn
    rcases List.mem_cons.mp hx with rfl | hx
    · rw [List.map_cons, valV_pos rfl]
    · rw [List.map_cons, valV_neg]
      · exact valV_nodup hn.2 hx
      · intro e
        have e : y.n = x.n := Sum.inl.inj e
        exact hn.1 (e ▸ List.mem_map_of_mem hx)
theorem cr_sortD {k i len : Nat} {params : Arguments} {scope : Scope} {x p : Str} {p1 p2 p3 p4 p5 : Pos} {xf : Nat} (L : LamP X.env.scope scope p) (hfree : scope.names.lookup x = some .free) (hN : X.N[i]? = some x)
    (hbind : ∀ (q : Str) (cl : List (Str × Addr)) (pm cv ctv u : Value), bindArgs (PySem.W.kla_fn "<lambda>" q params (.Tuple [.Subscript (.Name x p1) (.Name p p2) p3, .Name p p4] xf p5) scope cl pm cv ctv) ⟨[u], []⟩ = pure [(p, u)]) (hr : Room (k + 1) X.A.in1.in1.in1)
    (hx1 : (x == ("__debug__" : Str)) = false := by decide) (hx2 : (x == ("__classdict__" : Str)) = false := by decide) (hp1 : (p == ("__debug__" : Str)) = false := by decide) :
    CallRKS X (.builtin "sorted") [Str.ofString "key"] (rSortD X params (.Tuple [.Subscript (.Name x p1) (.Name p p2) p3, .Name p p4] xf p5) scope i len) := by
  intro pins s σ H vs zs us ws Q I r rz h
  obtain ⟨d, f, c', xs, pm, ctv, rfl, rfl, hσ, hd, htup, hnd, hf, hc, hQ⟩ := h
  obtain rfl := Vals.ref1 r
  obtain ⟨w1, rfl, e1⟩ := vals1 rz
  obtain rfl : w1 = Value.ref f := e1
  have hr2 : Room (k + 1) X.A.in1.in1 := ⟨hr.hd, hr.dp, by have := hr.un; have e : X.A.in1.in1.in1.units = X.A.in1.in1.units + 1 := rfl; omega⟩
  have hh : X.A.in1.handled = none := hr.hd
  obtain ⟨z, lo, vs', rel, dd⟩ := dk_rd I.hok (.inl hd)
  obtain ⟨ep, hat⟩ := dd.dictAt
  have hkeys : vs'.map (·.1) = (xs.map Ent.n).map Sum.inl := by rw [← rel.keys, List.map_map, List.map_map]; rfl
  have hl : vs'.length = xs.length := by
    have e := congrArg List.length hkeys
    simpa using e
  have h16 : xs.length ≤ sizeLine := by rw [List.length_map] at z; exact z
  show wpAny (model X.prog X.w) X.A (call (.builtin "sorted") [.ref d] [(Str.ofString "key", .ref f)]) _ _ s
  refine PyProof.Rows.call_function_entry_kw PyProof.Rows.kind_sorted PyProof.Rows.plain_sorted PyProof.Rows.entry_sorted (PyProof.Rows.ksk_s1 _ _) ?_
  unfold Builtin.«sorted»
  refine wpAny_bind (m := checkCount "sorted" 1 1 _) (wpAny_pure ?_)
  refine wpAny_bind (PySem.W.kdu_collect (A := X.A.in1) (PySem.W.kdl_dict (knd := mixKind X.prog X.w) (kvs := vs') (ep := ep) lo) hh hat (by omega) fun h' tk acc hk hacc => ?_)
  have hal : acc.toList.length = xs.length := by rw [Array.length_toList, hacc.1, hl]
  have hS : IntsAre acc.toList (xs.map Ent.n) := ints_each (by rw [hal, List.length_map]) fun j v e => by
    obtain ⟨k, x, e1, e2⟩ := hacc.2 j v (by rw [← Array.getElem?_toList]; exact e)
    have e3 : (vs'.map (·.1))[j]? = some k := by rw [List.getElem?_map, e1]; rfl
    rw [hkeys, List.getElem?_map] at e3
    cases e4 : (xs.map Ent.n)[j]? with
    | none => rw [e4] at e3; cases e3
    | some y =>
      rw [e4] at e3
      have e5 : Sum.inl y = k := Option.some.inj e3
      subst e5
      rcases keyIs_shape (show keyIs (Sum.inl y) v = true from e2) with ⟨i, t, ek, ev⟩ | ⟨z, t, ek, ev⟩
      · cases ek
        exact ⟨y, t, rfl, ev⟩
      · cases ek
  have hE := each_ints hS
  refine wpAny_bind (wpAny_newList ?_ (by rw [hal]; exact h16))
  have hoL : (h'.push (seqObj "list" acc.toList.toArray 0)).get? h'.objs.size = some (seqObj "list" acc.toList.toArray 0) := Heap.get?_push_size _ rfl
  show wpAny _ _ _ _ _ { s with heap := h'.push (seqObj "list" acc.toList.toArray 0), toks := tk }
  have up : ∀ {g : Heap}, PySem.W.KeepsBut h'.objs.size (h'.push (seqObj "list" acc.toList.toArray 0)) g → ∀ b o, s.heap.get? b = some o → g.get? b = some o := fun {g} kp b o q =>
    kp b o (Nat.ne_of_lt (Heap.lt_size (hk b o q))) (Heap.get?_push_of_some _ (hk b o q))
  have I1 : Inv X pins σ H { s with heap := h', toks := tk } := I.kept hk
  refine wpAny_bind (wpAny_holding (wpAny_call_entry_kw PyProof.Rows.slot_list_sort ⟨_, hoL, rfl⟩ PyProof.Rows.entry_list_sort ?body (PyProof.Rows.ksk_l1 _ _)))
  case body =>
    show wpAny (model X.prog X.w) X.A.in1.in1 (Builtin.«list.sort» ⟨[.ref h'.objs.size], [(Str.ofString "key", .ref f)]⟩) _ _ _
    rw [PyProof.Rows.ksk_t1]
    refine PySem.W.keyH_tree (kz := xs.map Ent.key) (s := { s with heap := h'.push (seqObj "list" acc.toList.toArray 0), toks := tk }) hoL (by rw [List.length_map]; exact hal.symm) (by rw [hal]; exact h16) ?_ (PySem.W.Sortable.tuples fun x => ⟨_, _, rfl⟩) ?_
      (PySem.W.keyH_turns (s := { s with heap := h'.push (seqObj "list" acc.toList.toArray 0), toks := tk }) hE fun v y hR hy h2 tk2 kp => ?_) fun h2 tk2 out c kp hD ko => ⟨_, rfl, ?_⟩
    · intro a ha b hb
      obtain ⟨y, hy, rfl⟩ := List.mem_map.mp ha
      obtain ⟨y', hy', rfl⟩ := List.mem_map.mp hb
      have hlen : y.k.length = y'.k.length := by rw [(htup y hy).2, (htup y' hy').2]
      show PySem.W.alike (.tuple [.tuple (y.k.map PyData.int), .int y.n]) (.tuple [.tuple (y'.k.map PyData.int), .int y'.n]) = true
      simp [PySem.W.alike, PySem.W.alikeAll, alikeAll_ints _ _ hlen]
    · intro a ha
      obtain ⟨y, _, rfl⟩ := List.mem_map.mp ha
      have hdp : (Ent.key y).depth ≤ 2 := by
        unfold Ent.key
        simp only [PyData.depth, PyData.depthAll, depth_ints]
        omega
      have := hr2.un
      omega
    · obtain ⟨t, rfl⟩ := hR
      have kp2 := up kp
      have I2 : Inv X pins σ H { s with heap := h2, toks := tk2 } := I.kept kp2
      exact lam_pair (E := fun _ _ => False) I2 L hfree hN hσ hf hc hbind hr2 hd (valV_nodup hnd hy) (htup y hy).1 hx1 hx2 hp1
    · refine wpAny_pure ⟨_, rfl, ?_⟩
      have hE2 := PySem.W.keyedOut_each Ent.key ko hE
      have rvO := vals_each hE2
      have hlen : ((xs.mergeSort (PySem.W.dataLe false Ent.key)).map fun x => V.int x.n).length ≤ sizeLine := by rw [List.length_map, List.length_mergeSort]; exact h16
      exact ⟨.ref h'.objs.size, upd H h'.objs.size (.lst ((xs.mergeSort (PySem.W.dataLe false Ent.key)).map fun x => V.int x.n)), I1.laid (t' := tk2) (fun b o q => kp b o (Nat.ne_of_lt (Heap.lt_size q)) (Heap.get?_push_of_some _ q)) (Nat.le_refl _) ⟨hlen, out, c, rvO, hD⟩, rfl, hQ _ (I1.hok.fresh (Nat.le_refl _))⟩
end
end Jl

set_option Elab.async false
set_option maxRecDepth 100000
set_option maxHeartbeats 4000000
/-! A dict of ints at the program's top; the end of a Spec row whose program makes lambdas (tables of code objects). -/
namespace Jl
open PySem PySem.Spec PyProof.Rows L2 LamX
open PySem.W (WData Codec OpenSpec Well WellAll ReadsW ReadsAllW)
/-! ### a dict of ints by ints at the top -/
def intEnt (e : DictEntry) : Bool := match e.key with
  | .int x _ => decide (e.hash = hashInt x)
  | _ => false
def KGet (K : PySem.W.Frag) (D : Addr) (n v : Int) : Prop := ∃ es m t, K.lookup D = some ⟨.type "dict", none, .dict es m, #[]⟩ ∧ es.toList.all intEnt = true ∧ findBy Value.isInt es n = some (.int v t)
def tKGet (K : PySem.W.Frag) (to ti : TE) : TE := fun σ H Q => to σ H fun x H1 => ti σ H1 fun y H2 => ∃ D n v, x = .ref D ∧ y = .int n ∧ KGet K D n v ∧ Q (.int v) H2
section
variable {X : Cx} {o i : Expr} {pos : Pos} {to ti : TE}
theorem pe_kget (ho : PE X o to) (hi : PE X i ti) (hs : NoSl i) : PE X (.Subscript o i pos) (tKGet X.K to ti) := by
  refine ⟨fun pins s σ H Q I h => ?_⟩
  refine subD_of (T := "dict") PySem.F.slot_dict_getitem.lookup hs (thn (ho.run pins s σ H _ I h) fun u s1 ⟨x, H1, I1, rx, q1⟩ => thn (hi.run pins s1 σ H1 _ I1 q1) fun iv s2 ⟨y, H2, I2, ry, D, n, v, ex, ey, ⟨es, m, t, hl, he, hf⟩, q2⟩ => ?_)
  subst ex
  subst ey
  obtain rfl : u = Value.ref D := rx
  obtain ⟨t', rfl⟩ := (show ∃ t, iv = Value.int n t from ry)
  have hko : ∀ e ∈ es, ∃ x : Int, Value.isInt x e.key = true ∧ e.hash = hashInt x := fun e hm => by
    have this := List.all_eq_true.mp he e (Array.mem_toList_iff.mpr hm)
    unfold intEnt at this
    cases hk : e.key with
    | int x t =>
      rw [hk] at this
      have e2 : e.hash = hashInt x := by simpa using this
      exact ⟨x, by simp [Value.isInt], e2⟩
    | _ =>
      rw [hk] at this
      cases this
  have hm : s2.heap.MapOf (intKind X.prog X.w) D (fun k => findBy Value.isInt es k) := ⟨_, es, m, I2.kIn _ _ hl, ⟨rfl, rfl, rfl⟩, rfl, hko, fun _ => rfl⟩
  refine ⟨hm.typeIs, wpAny_getItem_of (k := n) ?_ hm hf ⟨.int v, H2, I2.tok _, ⟨t, rfl⟩, q2⟩⟩
  show Value.isInt n (.int n t') = true
  simp [Value.isInt]
end
/-! ### the end -/
theorem spec_callT {P : Program} {w : World} {K : PySem.W.Frag} {mg mb : Str → Option Value} {CX : CXT} {k : Nat} {fa : Addr} {cs : List (Addr × Addr)} {fd : FuncData} {ps : List Str} {sp : Sp} {s₁ : Shared} {vals : List Value} {ds : List WData} {R : PySem.W.WRecords} {cl : Str → Option Addr} {d0 : WData}
    (KX : K.In s₁.heap) (hns : s₁.heap.Ns mainGlobals mg) (hb : s₁.heap.Ns builtinsNs mb) (hbb : ∀ x : Str, x ≠ "__name__" → mb x = bootBuiltins x) (hlim : s₁.heap.NoLimit) (hg : s₁.gens = #[])
    (hT : ∀ p ∈ cs, s₁.heap.get? p.2 = some { cls := .none, data := .fields #[] }) (nT : ∀ p ∈ cs, K.lookup p.2 = none) (C : ∀ p ∈ cs, PySem.W.CodeHd s₁.heap p.1 p.2)
    (hbm : ∃ (bm : Addr) (ob : Obj), mg "__builtins__" = some (.ref bm) ∧ bm ≠ builtinsNs ∧ s₁.heap.get? bm = some ob ∧ ob.cls = .type "module" ∧ ob.dict = some builtinsNs ∧ ob.data = .plain)
    (hwl : WellAll w.params s₁.heap vals ds) (hpl : plWs ds = true) (hwt : ∀ d ∈ ds, d.weight ≤ 1048576) (hr : Room k callerA)
    (F : ∀ base : Heap, K.In base → base.Ns mainGlobals mg → (∀ p ∈ cs, TabB base mg p.1 p.2) → FnOk P w K mg base CX k fa fd ps sp) (hbind : ∀ (s : Shared) (us : List Value), us.length = ps.length → BindsTo s fd ⟨us, []⟩ (ps.zip us)) (hlen : ds.length = ps.length)
    (hsp : ∀ (H0 H : Hp) (xs : List V), (∀ b o, H0 b = some o → H b = some o) → (∀ p ∈ cs, H p.2 = some (.tbl #[])) → DwAll K H0 xs ds → sp xs H (fun v H' => Dw K H' v d0) fun _ _ _ => False)
    (hCX : ∀ H e s', CX [] H s₁ (fun _ _ _ => False) e s' → False) :
    codeAny (model P w) callerA (.call (.ref fa) ⟨vals, []⟩) (fun r s' => ∃ u as, r = .ok (.ret u) ∧ ReadsW R cl s'.heap u d0 as ∧ OldK s₁.heap s'.heap ∧ s'.os = s₁.os ∧ AllBare s'.gens) s₁ := by
  obtain ⟨A, ho, ar⟩ := area_all ds vals hwl hpl hwt
  have hS := dw_all KX ar ds vals hwl hpl ho
  have hV := vals_toV ho
  have isT : ∀ b : Addr, b ∈ cs.map (·.2) → s₁.heap.get? b = some { cls := .none, data := .fields #[] } := fun b hb => by
    obtain ⟨p, hp, e⟩ := List.mem_map.mp hb
    rw [← e]
    exact hT p hp
  have memT : ∀ p ∈ cs, p.2 ∈ cs.map (·.2) := fun p hp => List.mem_map.mpr ⟨p, hp, rfl⟩
  have argD : ∀ b u, argH K s₁.heap A b = some u → b ∉ cs.map (·.2) ∧ K.lookup b = none := fun b u q => by
    obtain ⟨hk, vs, _, _, h⟩ := argH_is ar q
    refine ⟨fun z => ?_, hk⟩
    have e := isT b z
    rcases h with ⟨e2, _⟩ | ⟨e2, _⟩
    · rw [e2] at e
      have z' : Data.seq vs.toArray _ = Data.fields #[] := congrArg Obj.data (Option.some.inj e)
      cases z'
    · rw [e2] at e
      have z' : Data.seq vs.toArray _ = Data.fields #[] := congrArg Obj.data (Option.some.inj e)
      cases z'
  have hok0 : HOk P w (argH K s₁.heap A) s₁.heap := argH_ok ar
  let H : Hp := fun b => if b ∈ cs.map (·.2) then some (.tbl #[]) else argH K s₁.heap A b
  have H0H : ∀ b o, argH K s₁.heap A b = some o → H b = some o := fun b o e => (if_neg (argD b o e).1).trans e
  have HT : ∀ b, b ∈ cs.map (·.2) → H b = some (.tbl #[]) := fun b hb => if_pos hb
  have HN : ∀ b, b ∉ cs.map (·.2) → H b = argH K s₁.heap A b := fun b hb => if_neg hb
  have hH : ∀ p ∈ cs, H p.2 = some (.tbl #[]) := fun p hp => HT _ (memT p hp)
  have hK : ∀ b u, H b = some u → K.lookup b = none := fun b u q => by
    by_cases hb : b ∈ cs.map (·.2)
    · obtain ⟨p, hp, ep⟩ := List.mem_map.mp hb
      rw [← ep]; exact nT p hp
    · rw [HN b hb] at q
      exact (argD b u q).2
  have hok : HOk P w H s₁.heap := fun b u q => by
    by_cases hb : b ∈ cs.map (·.2)
    · rw [HT b hb] at q
      cases q
      exact isT b hb
    · rw [HN b hb] at q
      refine (hok0 b u q).stay (fun _ _ _ z => z) (fun b' z => H0H _ _ z) fun b' xs z => H0H _ _ z
  have noD : ∀ {b : Addr} {o : Obj}, s₁.heap.get? b = some o → (∀ vs n, o.data ≠ .seq vs n) → o.data ≠ .fields #[] → H b = none := fun {b o} e h1 h2 => by
    by_cases hb : b ∈ cs.map (·.2)
    · rw [isT b hb] at e
      cases e
      exact (h2 rfl).elim
    · rw [HN b hb]
      cases q : argH K s₁.heap A b with
      | none => rfl
      | some u =>
        obtain ⟨_, vs, _, _, ⟨e2, _⟩ | ⟨e2, _⟩⟩ := argH_is ar q
        · rw [e2] at e
          cases e
          exact (h1 _ _ rfl).elim
        · rw [e2] at e
          cases e
          exact (h1 _ _ rfl).elim
  have noA : ∀ {b : Addr} {o : Obj} {es : Array DictEntry} {ep : Nat}, s₁.heap.get? b = some o → o.data = .dict es ep → H b = none := fun {b o es ep} e d => by
    refine noD e (fun vs n z => ?_) fun z => ?_
    · rw [d] at z
      cases z
    · rw [d] at z
      cases z
  have key0 : ∀ b, H b = none ∨ b ∈ cs.map (·.2) ∨ ∃ o u, H b = some (.frz o u) := fun b => by
    by_cases hb : b ∈ cs.map (·.2)
    · exact .inr (.inl hb)
    · rw [HN b hb]
      rcases argH_only ar b with e | e
      · exact .inl e
      · exact .inr (.inr e)
  clear_value H
  have base_of : ∀ {b : Addr} {o : Obj}, s₁.heap.get? b = some o → H b = none → (hidT s₁.heap H).get? b = some o := fun e n => hidT_get e n
  have nsK : ∀ {b : Addr} {m : Str → Option Value}, s₁.heap.Ns b m → (hidT s₁.heap H).Ns b m := fun {b m} ⟨o, es, ep, e, d, r⟩ => ⟨o, es, ep, base_of e (noA e d), d, r⟩
  have nK : ∀ b o, K.lookup b = some o → H b = none := fun b o e => by
    cases q : H b with
    | none => rfl
    | some u =>
      rw [hK b u q] at e
      cases e
  have hKb : K.In (hidT s₁.heap H) := fun b o e => base_of (KX b o e) (nK b o e)
  have hM : L2.Mod K mg (hidT s₁.heap H) := ⟨hKb, nsK hns, ⟨mb, nsK hb, hbb⟩, let ⟨mc, h1, h2⟩ := hlim; ⟨mc, nsK h1, h2⟩⟩
  have TB : ∀ p ∈ cs, TabB (hidT s₁.heap H) mg p.1 p.2 := fun p hp => by
    have hTp := hT p hp
    refine ⟨?_, ?_, fun z => ?_⟩
    · obtain ⟨o, us, file, tf, flags, tg, inF, text, tt, e1, r1, r2, r3, r4, r5, r6, r7, r8, hne⟩ := C p hp
      refine ⟨o, us, file, tf, flags, tg, inF, text, tt, base_of e1 (noD e1 (fun vs n z => ?_) fun z => ?_), r1, r2, r3, r4, r5, r6, r7, r8, hne⟩
      · rw [r2] at z
        cases z
      · rw [r2] at z
        cases z
        simp at r3
    · obtain ⟨bm, ob, b1, b2, b3, b4, b5, b6⟩ := hbm
      have nG : bm ≠ mainGlobals := fun q => by
        obtain ⟨o, es, ep, e, hd, _⟩ := hns
        rw [q, e] at b3
        cases b3
        rw [hd] at b6
        cases b6
      have nP : bm ≠ p.2 := fun q => by
        rw [q, hTp] at b3
        cases b3
        cases b6
      refine ⟨bm, ob, b1, b2, nG, nP, base_of b3 (noD b3 (fun vs n z => ?_) fun z => ?_), b4, b5, b6⟩
      · rw [b6] at z
        cases z
      · rw [b6] at z
        cases z
    · obtain ⟨o, es, ep, e, hd, _⟩ := hns
      rw [z, hTp] at e
      cases e
      cases hd
  have e0 : Env0 P w K mg (hidT s₁.heap H) callerA [] s₁ H := ⟨rfl, hM, fun b o e => of_hidT e, Nat.le_of_eq (hidT_size _ _), trivial, fun b hb => absurd (show b ∈ ([] : List Addr) from hb) (by simp), hok, .of_eq hg⟩
  have hl : vals.length = ps.length := by rw [wellAll_len hwl]; exact hlen
  refine codeAny_mono ((F _ hKb (nsK hns) TB).run callerA [] s₁ H ⟨vals, []⟩ vals (vals.map toV) _ _ hr e0 (hbind s₁ vals hl) hV (hsp _ H _ H0H hH hS)) fun r s' x => ?_
  cases r with
  | error e => exact (hCX H e s' x).elim
  | ok fl =>
    cases fl with
    | next => exact False.elim x
    | brk => exact False.elim x
    | cont => exact False.elim x
    | ret u =>
      obtain ⟨v, H', os, bare, un, hok', r', q⟩ := x
      have kept : ∀ b o, b ∉ cs.map (·.2) → s₁.heap.get? b = some o → s'.heap.get? b = some o := fun b o nb e => by
        cases q2 : H b with
        | none => exact un.keep b o e q2 (by intro z; exact absurd (show b ∈ ([] : List Addr) from z) (by simp)) (by simp)
        | some u2 =>
          rcases key0 b with z | z | ⟨ob, u3, z⟩
          · rw [q2] at z
            cases z
          · exact absurd z nb
          · have z2 := un.frzs b ob _ z
            obtain ⟨e1, _⟩ := hok b _ z
            obtain ⟨e2, _⟩ := hok' b _ z2
            rw [e] at e1
            cases e1
            exact e2
      have grown : ∀ p ∈ cs, ∃ more : Array Value, s'.heap.get? p.2 = some { cls := .none, data := .fields more } := fun p hp => by
        obtain ⟨more, z⟩ := un.tbls p.2 #[] (hH p hp)
        exact ⟨_, hok' p.2 _ z⟩
      have KX' : K.In s'.heap := fun b o e => kept b o (fun z => by
        obtain ⟨p, hp, ep⟩ := List.mem_map.mp z
        rw [← ep, nT p hp] at e
        cases e) (KX b o e)
      obtain ⟨as, hrd⟩ := Dw.reads (R := R) (cl := cl) hok' KX' d0 v u q r'
      refine ⟨u, as, rfl, hrd, ⟨fun b o e => ?_, fun b o e => ?_⟩, os, bare⟩
      · by_cases hb : b ∈ cs.map (·.2)
        · obtain ⟨p, hp, ep⟩ := List.mem_map.mp hb
          obtain ⟨more, hm⟩ := grown p hp
          rw [← ep] at e ⊢
          rw [hT p hp] at e
          cases e
          exact .inr (.inl ⟨((C p hp).tab (hT p hp)).isCodeTable, rfl, #[], more, rfl, by rw [Array.empty_append]; exact hm⟩)
        · exact .inl (kept b o hb e)
      · by_cases hb : b ∈ cs.map (·.2)
        · obtain ⟨p, hp, ep⟩ := List.mem_map.mp hb
          obtain ⟨more, hm⟩ := grown p hp
          rw [← ep]
          exact ⟨_, hm⟩
        · exact ⟨o, kept b o hb e⟩
/-- what is known of the row's def at the head's heap h -/
def SpecAtT (r : OpenSpec) (w : World) (K : PySem.W.Frag) (CX : CXT) (k : Nat) (ps : List Str) (mg : Str → Option Value) (fa : Addr) (h : Heap) : Prop :=
  ∃ (fd : FuncData) (cs : List (Addr × Addr)) (sp : Sp), (∀ p ∈ cs, h.get? p.2 = some { cls := .none, data := .fields #[] }) ∧ (∀ p ∈ cs, K.lookup p.2 = none) ∧ (∀ p ∈ cs, PySem.W.CodeHd h p.1 p.2) ∧
    (∀ (s : Shared) (us : List Value), us.length = ps.length → BindsTo s fd ⟨us, []⟩ (ps.zip us)) ∧
    (∀ (H0 H : Hp) (xs : List V) (a : Codec.denoteAll r.args), (∀ b o, H0 b = some o → H b = some o) → (∀ p ∈ cs, H p.2 = some (.tbl #[])) → Codec.withinAll r.args a = true → Codec.app r.args r.asked a = true → DwAll K H0 xs (Codec.encAll r.args a) →
      sp xs H (fun v H' => Dw K H' v (r.ret.enc (Codec.app r.args r.f a))) fun _ _ _ => False) ∧
    ∀ base : Heap, K.In base → base.Ns mainGlobals mg → (∀ p ∈ cs, TabB base mg p.1 p.2) → FnOk r.prog w K mg base CX k fa fd ps sp
theorem walk_specT {r : OpenSpec} {k : Nat} {q : Program} {loose : List Str} {XP : (Str → Option Value) → Heap → Prop} {YP : World → Heap → Prop} {d : DefRec} {K : Params → PySem.W.Frag} {CX : CXT} {ps : List Str}
    (hwell : r.wellSaid = true) (hdf : d.params.defaults = []) (hlen : r.args.length = ps.length) (hr : Room k callerA)
    (hY : ∀ (w : World) (h : Heap), YP w h → (K w.params).In h)
    (F : ∀ (w : World) (mg : Str → Option Value) (fa : Addr) (h : Heap), YP w h → (K w.params).In h → h.Ns mainGlobals mg → mg d.name = some (.ref fa) → SpecAtT r w (K w.params) CX k ps mg fa h)
    (hCX : ∀ (H : Hp) (s : Shared) (e : Value) (s' : Shared), CX [] H s (fun _ _ _ => False) e s' → False) :
    PySem.W.WalkOS q loose XP YP r d [] (fun f vs => PySem.call f vs) := by
  intro w s₀ s₁ mg mb G Y fa o pm cd doc dV kV ho hd hcd hD hmg hg args vals as hpre hlay hrd hwl hlo
  obtain ⟨a, e1, e2⟩ := PySem.W.os_pre_some hpre
  obtain ⟨e3, hwi⟩ := Codec.encAll_of_decAll r.args args a e1
  subst e3
  have KX := hY w _ Y
  obtain ⟨fd, cs, sp, hT, nT, C, hb, hsp, hF⟩ := F w mg fa _ Y KX G.T.g hmg
  refine PySem.W.enter_call (codeAny_mono (spec_callT (R := []) (cl := classAt s₀.heap) (d0 := r.ret.enc (Codec.app r.args r.f a)) KX G.T.g G.T.b G.T.builtins G.T.nolimit hg hT nT C G.T.bmain hwl (pl_encAll _ _) (layable_weight hlay) hr hF hb (by rw [encAll_len]; exact hlen)
    (fun H0 H xs h1 h2 hS => hsp H0 H xs a h1 h2 hwi e2 hS) fun H e s' => hCX H s₁ e s') fun r' s' hq => ?_)
  obtain ⟨u, as', rfl, h1, h2, h3, h4⟩ := hq
  exact ⟨.inl ⟨u, _, as', rfl, fun _ => rfl, h1, (OpenSpec.post_iff hwell hwi _ _).mpr rfl, fun z => Bool.noConfusion (show false = true from z)⟩, h2, h3, h4⟩
end Jl

set_option Elab.async false
set_option maxRecDepth 100000
set_option maxHeartbeats 4000000
/-! sorted(d, key=lambda ..), min(l, key=lambda .., default=d) as expressions. -/
namespace Jl
open PySem PySem.Spec PyProof.Rows L2 LamX
theorem boot_sorted1 : bootBuiltins "sorted" = some (.builtin "sorted") := by decide +kernel
theorem boot_min1 : bootBuiltins "min" = some (.builtin "min") := by decide +kernel
section
variable {X : Cx}
theorem pe_sortD {k i len : Nat} {T : List (Addr × Str)} {c P : Addr} {params : Arguments} {scope : Scope} {x p : Str} {p1 p2 p3 p4 p5 p0 lpos kpos cpos : Pos} {xf : Nat} {e : Expr} {ta : TA} (TB : TabB X.base X.mg c P) (hcode : X.env.code = .ref c)
    (hm : (P, X.env.qual ++ "<lambda>") ∈ T) (hu : ∀ p ∈ T, p.1 = P → p.2 = X.env.qual ++ "<lambda>") (hr : Room (k + 1) X.A.in1.in1.in1) (hmg : X.mg "sorted" = none) (ha : PA X [e] ta) (hN : X.N[i]? = some x)
    (hg : Gl X "sorted" := by rfl) (hdef : defaultsOf params X.env = ([], []) := by rfl) (L : lamPB X.env.scope scope p = true := by decide +kernel) (hfree : scope.names.lookup x = some .free := by decide +kernel)
    (hbind : ∀ (q : Str) (cl : List (Str × Addr)) (pm cv ctv u : Value), bindArgs (PySem.W.kla_fn "<lambda>" q params (.Tuple [.Subscript (.Name x p1) (.Name p p2) p3, .Name p p4] xf p5) scope cl pm cv ctv) ⟨[u], []⟩ = pure [(p, u)] := by intros; rfl)
    (hx1 : (x == ("__debug__" : Str)) = false := by decide) (hx2 : (x == ("__classdict__" : Str)) = false := by decide) (hp1 : (p == ("__debug__" : Str)) = false := by decide)
    (he : backTo cpos (starEach [e] X.env) = (false, eval e X.env) :: backTo cpos (starEach [] X.env) := by rfl) (hpl : (backTo cpos (starEach [e] X.env)).any (·.1) = false := by rfl) :
    PE X (.Call (.Name "sorted" p0) [e] [⟨some "key", .Lambda params (.Tuple [.Subscript (.Name x p1) (.Name p p2) p3, .Name p p4] xf p5) scope lpos, kpos⟩] cpos)
      (tCKwS (rSortD X params (.Tuple [.Subscript (.Name x p1) (.Name p p2) p3, .Name p p4] xf p5) scope i len) ta (tCons (tLamV X T params (.Tuple [.Subscript (.Name x p1) (.Name p p2) p3, .Name p p4] xf p5) scope) tNil)) :=
  pe_callBKS (cr_sortD (lamP_by L) hfree hN hbind hr hx1 hx2 hp1) hg hmg boot_sorted1 ha (pk_cons (pe_lamv TB hcode hm hu hdef (lamP_by L)) pk_nil) (by decide) (by decide) he hpl rfl rfl rfl
theorem pe_minKD {k : Nat} {T : List (Addr × Str)} {c P : Addr} {params : Arguments} {body : Expr} {scope : Scope} {p : Str} {p0 lpos kpos kpos2 cpos : Pos} {e d : Expr} {ta : TA} {tb td : TE} (TB : TabB X.base X.mg c P) (hcode : X.env.code = .ref c)
    (hm : (P, X.env.qual ++ "<lambda>") ∈ T) (hu : ∀ p ∈ T, p.1 = P → p.2 = X.env.qual ++ "<lambda>") (hr : Room (k + 1) X.A.in1) (hmg : X.mg "min" = none) (ha : PA X [e] ta) (hd : PE X d td)
    (hbody : ∀ (A : Around) (outer : List Env) (s : Shared) (H : Hp) (f c' : Addr), Room k (A.deeper (lamEnv X scope s.heap.objs.size f c')) → PE (lamCxP X A outer s H scope f c' p) body tb) (hp : p ∉ X.N)
    (hg : Gl X "min" := by rfl) (hdef : defaultsOf params X.env = ([], []) := by rfl) (L : lamPB X.env.scope scope p = true := by decide +kernel)
    (hbind : ∀ (q : Str) (cl : List (Str × Addr)) (pm cv ctv u : Value), bindArgs (PySem.W.kla_fn "<lambda>" q params body scope cl pm cv ctv) ⟨[u], []⟩ = pure [(p, u)] := by intros; rfl)
    (he : backTo cpos (starEach [e] X.env) = (false, eval e X.env) :: backTo cpos (starEach [] X.env) := by rfl) (hpl : (backTo cpos (starEach [e] X.env)).any (·.1) = false := by rfl) :
    PE X (.Call (.Name "min" p0) [e] [⟨some "key", .Lambda params body scope lpos, kpos⟩, ⟨some "default", d, kpos2⟩] cpos)
      (tCKwS (rMinKD X params body scope tb) ta (tCons (tLamV X T params body scope) (tCons td tNil))) :=
  pe_callBKS (cr_minKD (lamP_by L) hp hbind hr hbody) hg hmg boot_min1 ha (pk_cons (pe_lamv TB hcode hm hu hdef (lamP_by L)) (pk_cons hd pk_nil)) (by decide) (by decide) he hpl rfl rfl rfl
end
end Jl

set_option Elab.async false
set_option maxRecDepth 100000
set_option maxHeartbeats 4000000
/-! l.extend(t), t a tuple. -/
namespace Jl
open PySem PySem.Spec PyProof.Rows L2 LamX
theorem extend_tuple (l : Addr) (items : Array Value) (n : Nat) (b : Addr) (items2 : Array Value) (n2 : Nat) (o : Obj) (hs0 : ¬(!items.isEmpty && Builtin.List.listTooLong (items.size + items2.size)) = true) (hs1 : items.size ≤ sizeLine) (hs2 : items.size + items2.size ≤ sizeLine + 1) (hc : o.cls = .type "tuple") (hd : o.data = .seq items2 n2) :
    Meets (Builtin.«list.extend» ⟨[.ref l, .ref b], []⟩) (fun _ R s => s.heap.get? l = some { cls := .type "list", dict := none, data := .seq items n, slots := #[] } ∧ s.heap.get? b = some o ∧ R (.ok (.ret Value.none)) { s with heap := s.heap.update l (Obj.mapSeq fun x => x ++ items2), toks := s.toks }) := by
  intro prog w A R s h
  obtain ⟨hl, hb, h⟩ := h
  show wpAny _ A.in1 (Builtin.List.listExtendWith (.ref l) (.ref b) .none) _ _ s
  unfold Builtin.List.listExtendWith
  refine wpAny_bind (wpAny_typeOf ⟨o, hb, hc⟩ ?_)
  have h1 : (Builtin.List.listSameRef (.ref l) (.ref b) || Value.type "tuple" == Value.type "list" || Value.type "tuple" == Value.type "tuple") = true := by simp
  simp only [h1, if_true]
  refine wpAny_bind ?_
  unfold Builtin.List.listItems
  refine wpAny_bind (wpAny_seqItems hb hd (wpAny_pure ?_))
  refine wpAny_bind ?_
  refine wpAny_bind (wpAny_seqItems hl rfl (wpAny_pure ?_))
  rw [if_neg hs0]
  show wpAny _ A.in1 (updateSeq l (· ++ items2) >>= fun _ => ret .none) _ _ s
  refine wpAny_bind (wpAny_updateSeq hl rfl ?_ hs1 (by rw [Array.size_append]; exact hs2))
  exact wpAny_pure h
section
variable {X : Cx}
def rExtendT (K : PySem.W.Frag) : V → List V → Hp → VK → Prop := fun x vs H Q => ∃ l b xs zs, x = .ref l ∧ vs = [.ref b] ∧ H l = some (.lst xs) ∧ SqT K H b zs ∧ xs.length + zs.length ≤ sizeLine ∧ Q .non (upd H l (.lst (xs ++ zs)))
theorem mt_extendT : MtM X "list.extend" (rExtendT X.K) := by
  intro pins s σ H x vs v us Q I rx rv h
  obtain ⟨l, b, xs, zs, rfl, rfl, hH, hB, hz, q⟩ := h
  cases rx
  obtain ⟨u, rfl, ru⟩ := rv.one
  cases ru
  obtain ⟨z, its, n, r, hl, e⟩ := I.lstM hH
  obtain ⟨its2, r2, ⟨o, e2, hc, n2, hd⟩, hz2⟩ := I.tuple hB
  have hl2 := r2.length
  have hsz : its.toArray.size + its2.toArray.size ≤ sizeLine := by rw [List.size_toArray, List.size_toArray]; omega
  have hlong : ¬ (!its.toArray.isEmpty && Builtin.List.listTooLong (its.toArray.size + its2.toArray.size)) = true := by
    rw [notLongL hsz, Bool.and_false]
    exact Bool.false_ne_true
  refine call_meets F.slot_list_extend ⟨_, e, rfl⟩ F.entry_list_extend (F.args_list_extend_2 _ _)
    (extend_tuple l its.toArray n b its2.toArray n2 o hlong (by rw [List.size_toArray]; omega) (by omega) hc hd) ⟨e, e2, ?_⟩
  refine ⟨.non, _, I.lset (its' := its ++ its2) hH e (by simp) (r.append r2) ?_, rfl, q⟩
  rw [List.length_append]
  omega
end
end Jl

set_option Elab.async false
set_option maxRecDepth 100000
set_option maxHeartbeats 4000000
/-! The program's text; how the contest lies in the heap. -/
namespace Jp
open PySem PySem.Spec PyProof.Rows L2 LamX Jl
def top (i : Nat) : Stmt := PySem.Challenge.pw_jumpcontest_s01_answers.main.body.getD i (.Pass ⟨0, 0, 0, 0⟩)
/-! ### frames -/
/-- all that stood stands, but the tables of code objects, which stay tables -/
def Go (T : List (Addr × Str)) (H H' : Hp) : Prop := ExtT H H' ∧ (Tabs T H → Tabs T H')
/-- the same but at the addresses F -/
def GoB (T : List (Addr × Str)) (F : Addr → Prop) (H H' : Hp) : Prop := (∀ b o, H b = some o → (∀ ps, o ≠ .tbl ps) → ¬ F b → H' b = some o) ∧ (Tabs T H → Tabs T H') ∧ (∀ b, H' b = none → H b = none ∨ F b)
section
variable {T : List (Addr × Str)} {H H1 H2 H' : Hp} {F F' : Addr → Prop}
theorem Go.refl : Go T H H := ⟨ExtT.refl H, fun t => t⟩
theorem Go.trans (a : Go T H H1) (b : Go T H1 H2) : Go T H H2 := ⟨a.1.trans b.1, fun t => b.2 (a.2 t)⟩
theorem Go.of (e : ∀ b o, H b = some o → H' b = some o) : Go T H H' := ⟨ExtT.of e, fun t => t.ext e⟩
/-- a new object -/
theorem Go.new {p : Addr} {o : HO} (g : Go T H H1) (n : H1 p = none) : Go T H (upd H1 p o) := g.trans (.of fun b u e => by rw [upd_ne (ne_of_none e n)]; exact e)
theorem Go.at {b : Addr} {o : HO} (g : Go T H H') (e : H b = some o) (n : ∀ ps, o ≠ .tbl ps := by intro ps z; cases z) : H' b = some o := g.1.1 b o e n
theorem Go.free {b : Addr} (g : Go T H H') (e : H' b = none) : H b = none := g.1.free e
theorem GoB.at {b : Addr} {o : HO} (g : GoB T F H H') (e : H b = some o) (nF : ¬ F b) (n : ∀ ps, o ≠ .tbl ps := by intro ps z; cases z) : H' b = some o := g.1 b o e n nF
theorem GoB.of (g : Go T H H') : GoB T F H H' := ⟨fun b o e n _ => g.1.1 b o e n, g.2, fun _ e => .inl (g.free e)⟩
theorem GoB.mono (g : GoB T F H H') (h : ∀ b, F b → F' b) : GoB T F' H H' := ⟨fun b o e n nF => g.1 b o e n fun z => nF (h b z), g.2.1, fun b e => (g.2.2 b e).imp id (h b)⟩
theorem GoB.trans (a : GoB T F H H1) (b : GoB T F H1 H2) : GoB T F H H2 := ⟨fun c o e n nF => b.1 c o (a.1 c o e n nF) n nF, fun t => b.2.1 (a.2.1 t), fun c e => (b.2.2 c e).elim (fun z => a.2.2 c z) .inr⟩
theorem GoB.free {b : Addr} (g : GoB T F H H') (e : H' b = none) : H b = none ∨ F b := g.2.2 b e
/-- a store at a tracked object that is no table -/
theorem GoB.put {x : Addr} {o : HO} (g : GoB T F H H1) (hx : F x) (nt : ∀ ps, H1 x ≠ some (.tbl ps)) (nc : ∀ c q, H1 x ≠ some (CodeO c q)) (hs : H1 x ≠ none) : GoB T F H (upd H1 x o) := by
  refine ⟨fun b u e n nF => ?_, fun t => ?_, fun b e => ?_⟩
  · rw [upd_ne (fun z => nF (by rw [z]; exact hx))]
    exact g.1 b u e n nF
  · have t := g.2.1 t
    refine fun p hp => ?_
    obtain ⟨ps, h1, h2, h3⟩ := t p hp
    refine ⟨ps, by rw [upd_ne (fun z => nt ps (by rw [← z]; exact h1))]; exact h1, h2, fun pos cv hc => ?_⟩
    obtain ⟨c, e1, e2⟩ := h3 pos cv hc
    exact ⟨c, e1, by rw [upd_ne (fun z => nc _ _ (by rw [← z]; exact e2))]; exact e2⟩
  · by_cases hb : b = x
    · rw [hb, upd_same] at e; cases e
    · rw [upd_ne hb] at e
      exact g.2.2 b e
end
theorem codeO_ext (c : Addr) (q : Str) : ∃ φ, CodeO c q = .ext φ := ⟨_, rfl⟩
theorem ncode {H : Hp} {x : Addr} {o : HO} (e : H x = some o) (n : ∀ φ, o ≠ .ext φ) : ∀ c q, H x ≠ some (CodeO c q) := fun c q z => by
  obtain ⟨φ, h⟩ := codeO_ext c q
  rw [e, h] at z
  exact n φ (Option.some.inj z)
theorem ntab {H : Hp} {x : Addr} {o : HO} (e : H x = some o) (n : ∀ ps, o ≠ .tbl ps) : ∀ ps, H x ≠ some (.tbl ps) := fun ps z => by
  rw [e] at z
  exact n ps (Option.some.inj z)
/-- a store at an object that is new since H -/
theorem Go.put {T : List (Addr × Str)} {H H1 : Hp} {p : Addr} {o o' : HO} (g : Go T H H1) (n : H p = none) (e : H1 p = some o') (nt : ∀ ps, o' ≠ .tbl ps := by intro ps z; cases z) (nc : ∀ φ, o' ≠ .ext φ := by intro φ z; cases z) : Go T H (upd H1 p o) := by
  refine ⟨⟨fun b u eb nb => ?_, fun b ps eb => ?_⟩, fun t => ?_⟩
  · rw [upd_ne (ne_of_none eb n)]
    exact g.1.1 b u eb nb
  · rw [upd_ne (ne_of_none eb n)]
    exact g.1.2 b ps eb
  · have t := g.2 t
    refine fun q hq => ?_
    obtain ⟨ps, h1, h2, h3⟩ := t q hq
    refine ⟨ps, by rw [upd_ne (fun z => ntab e nt ps (by rw [← z]; exact h1))]; exact h1, h2, fun pos cv hc => ?_⟩
    obtain ⟨c, e1, e2⟩ := h3 pos cv hc
    exact ⟨c, e1, by rw [upd_ne (fun z => ncode e nc _ _ (by rw [← z]; exact e2))]; exact e2⟩
/-! ### an athlete -/
def TupAt (H : Hp) (p : Addr) (j : Kg63.Jump) : Prop := H p = some (.tup [.int (j.height : Int), .int (j.how : Int)])
abbrev Tups (H : Hp) : List Addr → List Kg63.Jump → Prop := Paired (TupAt H)
def JumpsAt (H : Hp) (l : Addr) (js : List Kg63.Jump) : Prop := ∃ ps, H l = some (.lst (ps.map V.ref)) ∧ Tups H ps js
def fA (l : Addr) (b : Bool) : List (Str × V) := [("jumps", .ref l), ("has_left", .bl b)]
structure AthAt (N : Nat) (cA : Addr) (H : Hp) (a l : Addr) (x : Kg63.Athlete) : Prop where
  obj : ∃ dx, H a = some (.ins cA dx (fA l x.left))
  js : JumpsAt H l x.jumps
  how : ∀ j ∈ x.jumps, j.how ≤ 2
  len : x.jumps.length ≤ N
  big : N ≤ 1000
theorem paired_get {α β : Type} {R : α → β → Prop} : ∀ {l : List α} {r : List β} {i : Nat} {b : β}, Paired R l r → r[i]? = some b → ∃ a, l[i]? = some a ∧ R a b
  | _, _, _, _, .nil, e => by simp at e
  | _, _, 0, _, .cons h _, e => by simp at e; subst e; exact ⟨_, rfl, h⟩
  | _, _, i + 1, b, .cons _ t, e => by
    obtain ⟨a, h1, h2⟩ := paired_get (i := i) (b := b) t (by simpa using e)
    exact ⟨a, by simpa using h1, h2⟩
theorem paired_getL {α β : Type} {R : α → β → Prop} : ∀ {l : List α} {r : List β} {i : Nat} {a : α}, Paired R l r → l[i]? = some a → ∃ b, r[i]? = some b ∧ R a b
  | _, _, _, _, .nil, e => by simp at e
  | _, _, 0, _, .cons h _, e => by simp at e; subst e; exact ⟨_, rfl, h⟩
  | _, _, i + 1, b, .cons _ t, e => by
    obtain ⟨a, h1, h2⟩ := paired_getL (i := i) t (by simpa using e)
    exact ⟨a, by simpa using h1, h2⟩
theorem paired_snoc {α β : Type} {R : α → β → Prop} {a : α} {b : β} (h : R a b) : ∀ {l : List α} {r : List β}, Paired R l r → Paired R (l ++ [a]) (r ++ [b])
  | _, _, .nil => .cons h .nil
  | _, _, .cons h' t => .cons h' (paired_snoc h t)
theorem Tups.go {T : List (Addr × Str)} {H H' : Hp} {ps : List Addr} {js : List Kg63.Jump} (t : Tups H ps js) (g : Go T H H') : Tups H' ps js := Paired.mapP t fun p j e => by
  have e : H p = some _ := e
  exact g.at e
theorem JumpsAt.go {T : List (Addr × Str)} {H H' : Hp} {l : Addr} {js : List Kg63.Jump} (t : JumpsAt H l js) (g : Go T H H') : JumpsAt H' l js := by
  obtain ⟨ps, h1, h2⟩ := t
  exact ⟨ps, g.at h1, h2.go g⟩
theorem AthAt.go {T : List (Addr × Str)} {N : Nat} {cA : Addr} {H H' : Hp} {a l : Addr} {x : Kg63.Athlete} (t : AthAt N cA H a l x) (g : Go T H H') : AthAt N cA H' a l x := by
  obtain ⟨⟨dx, h1⟩, h2, h3, h4, h5⟩ := t
  exact ⟨⟨dx, g.at h1⟩, h2.go g, h3, h4, h5⟩
theorem fA_jumps (l : Addr) (b : Bool) : (fA l b).lookup ("jumps" : Str) = some (.ref l) := by
  have e : (("jumps" : Str) == "jumps") = true := beq_self_eq_true _
  simp only [fA, List.lookup, e]
theorem fA_left (l : Addr) (b : Bool) : (fA l b).lookup ("has_left" : Str) = some (.bl b) := by
  have e : (("has_left" : Str) == "jumps") = false := by decide +kernel
  have e2 : (("has_left" : Str) == "has_left") = true := beq_self_eq_true _
  simp only [fA, List.lookup, e, e2]
/-! ### what the top has written -/
def Ic (mg : Str → Option Value) (x : Str) (n : Int) : Prop := ∃ t, mg x = some (.int n t)
theorem pe_ic {X : Cx} {x : Str} {n : Int} {pos : Pos} (hg : Gl X x) (h : Ic X.mg x n) (hd : (x == ("__debug__" : Str)) = false := by decide) : PE X (.Name x pos) (tC (.int n)) := by
  obtain ⟨t, e⟩ := h
  exact pe_glob hg e ⟨t, rfl⟩ hd
abbrev sA (j : Nat) : Stmt := inClass (top 5) j
abbrev sJ (j : Nat) : Stmt := inClass (top 7) j
abbrev sC (j : Nat) : Stmt := inClass (top 16) j
abbrev sL (j : Nat) : Stmt := inClass (top 43) j
/-- a method of a class; a def of the top; a class's __init__ -/
def Mth (K : PySem.W.Frag) (C : Addr) (name qual : Str) (st : Stmt) (ps : List Str) : Prop := ∃ f fd, Fun K name qual st f fd ∧ Binds K fd ps [] ∧ Meth K C name f
def Dfn (K : PySem.W.Frag) (mg : Str → Option Value) (name : Str) (st : Stmt) (ps : List Str) : Prop := ∃ f fd, Fun K name name st f fd ∧ Binds K fd ps [] ∧ mg name = some (.ref f) ∧ PySem.W.keepIn K (.ref f) = true
def Mkr (K : PySem.W.Frag) (C : Addr) (qual : Str) (st : Stmt) (ps : List Str) : Prop := ∃ f fd, Fun K "__init__" qual st f fd ∧ Binds K fd ps [] ∧ Mk K C f
structure Txt (K : PySem.W.Frag) (mg : Str → Option Value) (cA cJ cC cL : Addr) : Prop where
  clA : Cls K cA
  aJumps : NoAttr K cA "jumps"
  aLeft : NoAttr K cA "has_left"
  gA : mg "Athlete" = some (.ref cA)
  gJ : mg "JumpOff" = some (.ref cJ)
  gC : mg "Competition" = some (.ref cC)
  gL : mg "Line" = some (.ref cL)
  clJ : Cls K cJ
  jIn : NoAttr K cJ "still_in"
  jBar : NoAttr K cJ "bar"
  jTurn : NoAttr K cJ "turn"
  jClears : NoAttr K cJ "round_clears"
  jCome : NoAttr K cJ "come_through"
  clC : Cls K cC
  cAth : NoAttr K cC "athletes"
  cRise : NoAttr K cC "rise"
  cTurn : NoAttr K cC "turn"
  cHeights : NoAttr K cC "heights"
  cBar : NoAttr K cC "bar"
  cOff : NoAttr K cC "jump_off"
  cDecl : NoAttr K cC "is_declined"
  clL : Cls K cL
  lCon : NoAttr K cL "contest"
  FAILED : Ic mg "FAILED" 0
  CLEARED : Ic mg "CLEARED" 1
  PASSED : Ic mg "PASSED" 2
  TOBEOUT : Ic mg "FAILURES_TO_BE_OUT" 3
  ON : Ic mg "ON" 0
  MAY : Ic mg "MAY_JUMP_OFF" 1
  INOFF : Ic mg "IN_JUMP_OFF" 2
  OVER : Ic mg "OVER" 3
  BEGIN : Ic mg "BEGIN" 1
  UP : Ic mg "UP" 2
  JUMP : Ic mg "JUMP" 3
  LEAVE : Ic mg "LEAVE" 4
  HEIGHT : Ic mg "HEIGHT" 5
  OFF : Ic mg "OFF" 6
  CARD : Ic mg "CARD" 7
  ORDER : Ic mg "ORDER" 8
  WRONG : Ic mg "WRONG_NUMBER" (-1)
  NOTNOW : Ic mg "NOT_NOW" (-4)
  NOTALLOWED : Ic mg "NOT_ALLOWED" (-5)
  MATH : Ic mg "MOST_ATHLETES" 20
  MRISE : Ic mg "MOST_RISE" 20
  MTURN : Ic mg "MOST_TURN" 10
  MHEIGHTS : Ic mg "MOST_HEIGHTS" 30
  LHEIGHT : Ic mg "LEAST_HEIGHT" 50
  MTOLD : Ic mg "MOST_TOLD_HEIGHT" 700
  MPUT : Ic mg "MOST_PUT_HEIGHT" 999
  NOPASS : Ic mg "NO_PASS_FROM" 950
  NOTWANTED : Ic mg "NOT_WANTED" 0
  WANTED : Ic mg "WANTED" 1
  len : mg "len" = none
  range : mg "range" = none
  reversed : mg "reversed" = none
  max : mg "max" = none
  min : mg "min" = none
  list : mg "list" = none
  zip : mg "zip" = none
  sorted : mg "sorted" = none
  enumerate : mg "enumerate" = none
  A0 : Mkr K cA "Athlete.__init__" (sA 0) ["self"]
  A1 : Mth K cA "add_jump" "Athlete.add_jump" (sA 1) ["self", "height", "how"]
  A2 : Mth K cA "failures_in_a_row" "Athlete.failures_in_a_row" (sA 2) ["self"]
  A3 : Mth K cA "is_out" "Athlete.is_out" (sA 3) ["self"]
  A4 : Mth K cA "is_due_at" "Athlete.is_due_at" (sA 4) ["self", "bar"]
  A5 : Mth K cA "failures_at" "Athlete.failures_at" (sA 5) ["self", "height"]
  A6 : Mth K cA "failures_up_to" "Athlete.failures_up_to" (sA 6) ["self", "height"]
  A7 : Mth K cA "greatest_cleared" "Athlete.greatest_cleared" (sA 7) ["self"]
  A8 : Mth K cA "greatest_tried" "Athlete.greatest_tried" (sA 8) ["self"]
  J0 : Mkr K cJ "JumpOff.__init__" (sJ 0) ["self", "numbers", "bar", "turn"]
  J1 : Mth K cJ "is_over" "JumpOff.is_over" (sJ 1) ["self"]
  J2 : Mth K cJ "who_is_up" "JumpOff.who_is_up" (sJ 2) ["self"]
  J3 : Mth K cJ "take_jump" "JumpOff.take_jump" (sJ 3) ["self", "is_cleared"]
  J4 : Mth K cJ "end_round" "JumpOff.end_round" (sJ 4) ["self"]
  J5 : Mth K cJ "rounds_of" "JumpOff.rounds_of" (sJ 5) ["self", "number"]
  C0 : Mkr K cC "Competition.__init__" (sC 0) ["self", "how_many", "rise", "turn", "heights"]
  C1 : Mth K cC "phase" "Competition.phase" (sC 1) ["self"]
  C2 : Mth K cC "bar_now" "Competition.bar_now" (sC 2) ["self"]
  C3 : Mth K cC "has_athlete" "Competition.has_athlete" (sC 3) ["self", "number"]
  C4 : Mth K cC "is_out" "Competition.is_out" (sC 4) ["self", "number"]
  C5 : Mth K cC "not_out" "Competition.not_out" (sC 5) ["self"]
  C6 : Mth K cC "who_is_in" "Competition.who_is_in" (sC 6) ["self"]
  C7 : Mth K cC "due" "Competition.due" (sC 7) ["self"]
  C9 : Mth K cC "which_jump" "Competition.which_jump" (sC 9) ["self"]
  C10 : Mth K cC "take_jump" "Competition.take_jump" (sC 10) ["self", "how"]
  C11 : Mth K cC "leave" "Competition.leave" (sC 11) ["self", "number"]
  C12 : Mth K cC "put_bar" "Competition.put_bar" (sC 12) ["self", "height"]
  C13 : Mth K cC "greatest_tried" "Competition.greatest_tried" (sC 13) ["self"]
  C14 : Mth K cC "height_behind" "Competition.height_behind" (sC 14) ["self", "height"]
  C15 : Mth K cC "raise_bar_if_done" "Competition.raise_bar_if_done" (sC 15) ["self"]
  C16 : Mth K cC "order" "Competition.order" (sC 16) ["self"]
  C17 : Mth K cC "first_ones" "Competition.first_ones" (sC 17) ["self"]
  C18 : Mth K cC "start_jump_off" "Competition.start_jump_off" (sC 18) ["self"]
  C19 : Mth K cC "decline_jump_off" "Competition.decline_jump_off" (sC 19) ["self"]
  L0 : Mkr K cL "Line.__init__" (sL 0) ["self"]
  L1 : Mth K cL "answer" "Line.answer" (sL 1) ["self", "call", "numbers", "row"]
  L2 : Mth K cL "begin" "Line.begin" (sL 2) ["self", "how_many", "rise", "turn", "heights"]
  L3 : Mth K cL "up" "Line.up" (sL 3) ["self"]
  L4 : Mth K cL "jump" "Line.jump" (sL 4) ["self", "how"]
  L5 : Mth K cL "leave" "Line.leave" (sL 5) ["self", "number"]
  L6 : Mth K cL "height" "Line.height" (sL 6) ["self", "bar"]
  L7 : Mth K cL "off" "Line.off" (sL 7) ["self", "wanted"]
  L8 : Mth K cL "card" "Line.card" (sL 8) ["self", "number"]
  L9 : Mth K cL "order" "Line.order" (sL 9) ["self"]
  L10 : Mth K cL "now" "Line.now" (sL 10) ["self"]
  L11 : Mth K cL "may_pass" "Line.may_pass" (sL 11) ["self"]
  L12 : Mth K cL "with_state" "Line.with_state" (sL 12) ["self", "first"]
  d_standing : Dfn K mg "standing" (top 9) ["athlete", "rounds"]
  d_read_calls : Dfn K mg "read_calls" (top 27) ["calls"]
  d_are_heights : Dfn K mg "are_heights" (top 42) ["heights"]
  plain : ∃ D, mg "PLAIN_NUMBERS" = some (.ref D) ∧ KGet K D 1 3 ∧ KGet K D 2 0 ∧ KGet K D 3 1 ∧ KGet K D 4 1 ∧ KGet K D 5 1 ∧ KGet K D 6 1 ∧ KGet K D 7 1 ∧ KGet K D 8 0 ∧ KGet K D 9 0
/-! ### small words -/
theorem iteT {c : Bool} {A B : Prop} (hc : c = true) (h : A) : if c = true then A else B := by rw [if_pos hc]; exact h
theorem iteF {c : Bool} {A B : Prop} (hc : c = false) (h : B) : if c = true then A else B := by rw [hc, if_neg Bool.false_ne_true]; exact h
end Jp

set_option Elab.async false
set_option maxRecDepth 100000
set_option maxHeartbeats 4000000
/-! The class Athlete. -/
namespace Jp
open PySem PySem.Spec PyProof.Rows L2 LamX Jl
/-! ### the mathematics -/
theorem inRow_rev (js pre rest : List Kg63.Jump) (e : js.reverse = pre ++ rest) (h2 : ∀ j ∈ js, j.how ≤ 2) (h1 : ∀ j ∈ pre, j.how ≠ 1) (hr : rest = [] ∨ ∃ j r, rest = j :: r ∧ j.how = 1) : Kg63.inRow js = (pre.filter fun j => j.how == 0).length := by
  unfold Kg63.inRow
  rw [← List.filter_reverse, e, List.filter_append]
  have hp : (pre.filter fun j => j.how != 2) = pre.filter fun j => j.how == 0 := by
    refine List.filter_congr fun j hj => ?_
    have a := h1 j hj
    have b := h2 j (List.mem_reverse.mp (by rw [e]; exact List.mem_append_left _ hj))
    have : j.how = 0 ∨ j.how = 2 := by omega
    rcases this with z | z <;> simp [z]
  rw [hp]
  have ht : (rest.filter fun j => j.how != 2).takeWhile (fun j => j.how == 0) = [] := by
    rcases hr with rfl | ⟨j, r, rfl, z⟩
    · rfl
    · rw [List.filter_cons_of_pos (p := fun j : Kg63.Jump => j.how != 2) (by simp [z]), List.takeWhile_cons_of_neg (p := fun j : Kg63.Jump => j.how == 0) (by simp [z])]
  rw [List.takeWhile_append]
  have hall : (pre.filter fun j => j.how == 0).takeWhile (fun j => j.how == 0) = pre.filter fun j => j.how == 0 := by
    have key : ∀ l : List Kg63.Jump, (∀ j ∈ l, (j.how == 0) = true) → l.takeWhile (fun j => j.how == 0) = l := by
      intro l
      induction l with
      | nil => intro _; rfl
      | cons x l ih =>
        intro h
        rw [List.takeWhile_cons_of_pos (p := fun j : Kg63.Jump => j.how == 0) (h x List.mem_cons_self), ih fun y hy => h y (List.mem_cons_of_mem _ hy)]
    exact key _ fun j hj => (List.mem_filter.mp hj).2
  rw [hall, if_pos rfl, ht, List.append_nil]
theorem fold_max (l : List Nat) (a : Nat) : ((l.map fun (n : Nat) => (n : Int)).foldl max (a : Int)) = ((l.foldl max a : Nat) : Int) := by
  induction l generalizing a with
  | nil => rfl
  | cons x l ih =>
    simp only [List.map_cons, List.foldl_cons]
    rw [← ih]
    congr 1
    omega
/-- max(l, default=0) of heights -/
theorem max_dflt (l : List Nat) : dflt (.int 0) (fun n r => r.foldl max n) (l.map fun (n : Nat) => (n : Int)) = V.int ((l.foldl max 0 : Nat) : Int) := by
  cases l with
  | nil => rfl
  | cons x l =>
    show V.int ((l.map fun (n : Nat) => (n : Int)).foldl max (x : Int)) = _
    rw [fold_max]
    simp
/-! ### promises -/
def spA (T : List (Addr × Str)) (cA : Addr) (res : Kg63.Athlete → V) : Sp := fun vs H Q _ => ∃ N a l x, vs = [.ref a] ∧ AthAt N cA H a l x ∧ ∀ H', Go T H H' → Q (res x) H'
def spA1 (T : List (Addr × Str)) (cA : Addr) (res : Kg63.Athlete → Nat → V) : Sp := fun vs H Q _ => ∃ N a l x h, vs = [.ref a, .int ((h : Nat) : Int)] ∧ AthAt N cA H a l x ∧ ∀ H', Go T H H' → Q (res x h) H'
def spAInit (cA : Addr) : Sp := fun vs H Q _ => ∃ p dx, vs = [.ref p] ∧ H p = some (.ins cA dx []) ∧ ∀ H' l, H l = none → H' l = some (.lst []) → H' p = some (.ins cA dx (fA l false)) → (∀ b o, H b = some o → b ≠ p → H' b = some o) → Q .non H'
def spAdd (cA : Addr) : Sp := fun vs H Q _ => ∃ N a l x h w, vs = [.ref a, .int ((h : Nat) : Int), .int ((w : Nat) : Int)] ∧ AthAt N cA H a l x ∧ w ≤ 2 ∧ N < 1000 ∧
  ∀ H', AthAt (N + 1) cA H' a l { x with jumps := x.jumps ++ [⟨h, w⟩] } → (∀ b o, H b = some o → b ≠ l → H' b = some o) → Q .non H'
section
variable {P : Program} {w : World} {K : PySem.W.Frag} {mg : Str → Option Value} {base : Heap} {cA cJ cC cL : Addr} {TT : List (Addr × Str)}
theorem fld_jumps {N : Nat} {a l : Addr} {x : Kg63.Athlete} {σ : L2.St} {H : Hp} {Q : VK} {i : Nat} (T : Txt K mg cA cJ cC cL) (h : AthAt N cA H a l x) (hs : σ[i]? = some (some (.ref a))) (q : Q (.ref l) H) : tFld K (tVar i) "jumps" σ H Q := by
  obtain ⟨dx, h1⟩ := h.obj
  exact ⟨_, hs, a, cA, dx, _, _, rfl, h1, T.clA, T.aJumps, fA_jumps _ _, q⟩
theorem scA0 : FnScope ["self"] ["self"] (defScope (sA 0)) := ⟨rfl, rfl, rfl, by decide +kernel, rfl, by decide +kernel, by decide +kernel⟩
theorem ok_A0 {f : Addr} {fd : FuncData} (F : Fun K "__init__" "Athlete.__init__" (sA 0) f fd) (T : Txt K mg cA cJ cC cL) : FnOk P w K mg base CX0 1 f fd ["self"] (spAInit cA) := by
  refine F.ok scA0 (fun vs H Q E h => ?_) (fun cdv A outer s H vs Q E hr h => ?_)
  · obtain ⟨p, dx, rfl, _⟩ := h
    rfl
  · obtain ⟨p, dx, rfl, hp, k⟩ := h
    refine ⟨_, pss_cons (ps_fld (pv 0) (pe_lst pa_nil) rfl) (pss_one (ps_fld (pv 0) pe_bl rfl)), ?_⟩
    refine ⟨Nat.zero_le _, fun l hl => ?_⟩
    have ne : p ≠ l := ne_of_none hp hl
    refine ⟨_, rfl, p, cA, dx, [], rfl, by rw [upd_ne ne]; exact hp, T.clA, T.aJumps, by decide, ?_⟩
    refine ⟨_, rfl, p, cA, dx, _, rfl, upd_same, T.clA, T.aLeft, by show 1 < 1000; decide, ?_⟩
    refine k _ l hl (by rw [upd_ne ne.symm, upd_ne ne.symm, upd_same]) (Eq.trans upd_same rfl) fun b o e hb => ?_
    rw [upd_ne hb, upd_ne hb, upd_ne (ne_of_none e hl)]
    exact e
theorem scA1 : FnScope ["self", "height", "how"] ["self", "height", "how"] (defScope (sA 1)) := ⟨rfl, rfl, rfl, by decide +kernel, rfl, by decide +kernel, by decide +kernel⟩
theorem ok_A1 {f : Addr} {fd : FuncData} (F : Fun K "add_jump" "Athlete.add_jump" (sA 1) f fd) (T : Txt K mg cA cJ cC cL) : FnOk P w K mg base CX0 1 f fd ["self", "height", "how"] (spAdd cA) := by
  refine F.ok scA1 (fun vs H Q E h => ?_) (fun cdv A outer s H vs Q E hr h => ?_)
  · obtain ⟨N, a, l, x, hh, ww, rfl, _⟩ := h
    rfl
  · obtain ⟨N, a, l, x, hh, ww, rfl, ha, hw, hN, k⟩ := h
    refine ⟨_, pss_one (ps_expr (pe_bm PySem.F.plainAttrs_list PySem.F.slot_list_append PySem.F.type_list_append mt_append (pe_fld (pv 0) rfl) (pa_cons (pe_tup (pa_cons (pv 1) (pa_cons (pv 2) pa_nil))) pa_nil))), ?_⟩
    obtain ⟨ps, hl, ht⟩ := ha.js
    have hlen : ps.length = x.jumps.length := Paired.length ht
    obtain ⟨dx, ho⟩ := ha.obj
    refine ⟨_, rfl, a, cA, dx, _, _, rfl, ho, T.clA, T.aJumps, fA_jumps _ _, .inl ⟨rfl, _, SqL.of hl⟩, ?_⟩
    refine ⟨_, rfl, _, rfl, by show 2 ≤ sizeLine; decide, fun t ht' => ?_⟩
    have hl2 : (upd H t (.tup [.int (hh : Int), .int (ww : Int)])) l = some (.lst (ps.map V.ref)) := by rw [upd_ne (ne_of_none hl ht')]; exact hl
    refine ⟨l, _, _, rfl, rfl, hl2, ?_, ?_⟩
    · rw [List.length_map, hlen]
      have := ha.len
      have := ha.big
      show _ < 16777216
      omega
    · have nal : a ≠ l := ne_of ho hl (by intro z; cases z)
      have ntl : t ≠ l := (ne_of_none hl ht').symm
      refine k _ ⟨⟨dx, by rw [upd_ne nal, upd_ne (ne_of_none ho ht')]; exact ho⟩, ⟨ps ++ [t], by rw [upd_same, List.map_append]; rfl, ?_⟩, fun j hj => ?_, ?_, by omega⟩ fun b o e hb => ?_
      · refine paired_snoc ?_ (Paired.mapP ht fun p j e => ?_)
        · show upd _ l _ t = some (.tup [.int (hh : Int), .int (ww : Int)])
          rw [upd_ne ntl, upd_same]
        · have e : H p = some (.tup [.int (j.height : Int), .int (j.how : Int)]) := e
          show upd _ l _ p = _
          rw [upd_ne (ne_of e hl (by intro z; cases z)), upd_ne (ne_of_none e ht')]
          exact e
      · rcases List.mem_append.mp hj with hj | hj
        · exact ha.how j hj
        · rw [List.mem_singleton.mp hj]; exact hw
      · have := ha.len
        rw [List.length_append]
        show _ + 1 ≤ _
        omega
      · rw [upd_ne hb, upd_ne (ne_of_none e ht')]
        exact e
theorem scA2 : FnScope ["self", "failures", "jump"] ["self"] (defScope (sA 2)) := ⟨rfl, rfl, rfl, by decide +kernel, rfl, by decide +kernel, by decide +kernel⟩
theorem ok_A2 {f : Addr} {fd : FuncData} (F : Fun K "failures_in_a_row" "Athlete.failures_in_a_row" (sA 2) f fd) (T : Txt K mg cA cJ cC cL) : FnOk P w K mg base CX0 1 f fd ["self"] (spA TT cA fun x => .int (Kg63.inRow x.jumps : Int)) := by
  refine F.ok scA2 (fun vs H Q E h => ?_) (fun cdv A outer s H vs Q E hr h => ?_)
  · obtain ⟨N, a, l, x, rfl, _⟩ := h
    rfl
  · obtain ⟨N, a, l, x, rfl, ha, k⟩ := h
    refine ⟨_, pss_cons (ps_set (i := 1) scA2.nd rfl (.inl rfl) pe_int) (pss_cons (ps_for PassesOwn.never rfl (pi_reversed (by rfl) T.reversed (pa_cons (pe_fld (pv 0) rfl) pa_nil)) (pg_name (i := 2) scA2.nd rfl (.inl rfl))
      (pss_cons (ps_if (pt_cmpR op_eq (pe_ix ix_tup (pv 2) pe_int (fun _ _ => rfl)) (pe_ic rfl T.CLEARED) (nomark _)) (pss_one ps_break) pss_nil)
      (pss_one (ps_if (pt_cmpR op_eq (pe_ix ix_tup (pv 2) pe_int (fun _ _ => rfl)) (pe_ic rfl T.FAILED) (nomark _)) (pss_one (ps_set (i := 1) scA2.nd rfl (.inl rfl) (pe_op op_add (pv 1) pe_int))) pss_nil))))
      (pss_one (ps_ret (pv 1)))), ?_⟩
    obtain ⟨ps, hl, ht⟩ := ha.js
    have hlen : ps.length = x.jumps.length := Paired.length ht
    refine fld_jumps (i := 0) T ha rfl ⟨l, _, rfl, SqL.of hl, ?_⟩
    refine RT.for_Itv (K := K) (a := l) (xs := ps.map V.ref) (fun i σ H' => H' = H ∧ (∀ j ∈ x.jumps.reverse.take i, j.how ≠ 1) ∧ ∃ v, σ = [some (.ref a), some (.int (((x.jumps.reverse.take i).filter fun j => j.how == 0).length : Int)), v])
      ⟨rfl, by simp, none, rfl⟩ (fun i σ H' ⟨e, _⟩ => by rw [e]; exact SqL.of hl) ?_ ?_
    · rintro i v σ H' hi hv ⟨rfl, hno, v2, rfl⟩
      rw [List.length_map] at hi hv
      obtain ⟨p, hp, rfl⟩ : ∃ p, ps[ps.length - 1 - i]? = some p ∧ v = V.ref p := by
        rw [List.getElem?_map] at hv
        cases e : ps[ps.length - 1 - i]? with
        | none => rw [e] at hv; cases hv
        | some p => rw [e] at hv; exact ⟨p, rfl, (Option.some.inj hv).symm⟩
      obtain ⟨j, hj, htj⟩ := paired_getL ht hp
      have htj : H' p = some (.tup [.int (j.height : Int), .int (j.how : Int)]) := htj
      have hjr : x.jumps.reverse[i]? = some j := by
        rw [List.getElem?_reverse (by omega), ← hlen]
        exact hj
      have htk : x.jumps.reverse.take (i + 1) = x.jumps.reverse.take i ++ [j] := by rw [List.take_add_one, hjr]; rfl
      refine ⟨_, rfl, _, _, _, _, rfl, rfl, SqT.of htj, atI_nat (j := 1) rfl, rfl, _, rfl, ?_⟩
      by_cases c : (j.how : Int) = 1
      · refine iteT (decide_eq_true (congrArg V.int c)) ?_
        -- break
        refine ⟨_, rfl, ?_⟩
        have e := inRow_rev x.jumps (x.jumps.reverse.take i) (x.jumps.reverse.drop i) (List.take_append_drop _ _).symm ha.how hno (.inr ⟨j, x.jumps.reverse.drop (i + 1), ?_, by omega⟩)
        · rw [← e]
          exact k _ Go.refl
        · have hil : i < x.jumps.reverse.length := by rw [List.length_reverse]; omega
          rw [List.drop_eq_getElem_cons hil]
          congr 1
          rw [List.getElem?_eq_getElem hil] at hjr
          exact Option.some.inj hjr
      · refine iteF (decide_eq_false fun z => c (V.int.inj z)) ?_
        refine ⟨_, rfl, _, _, _, _, rfl, rfl, SqT.of htj, atI_nat (j := 1) rfl, rfl, _, rfl, ?_⟩
        have hno' : ∀ j' ∈ x.jumps.reverse.take (i + 1), j'.how ≠ 1 := fun j' hj' => by
          rw [htk] at hj'
          rcases List.mem_append.mp hj' with z | z
          · exact hno j' z
          · rw [List.mem_singleton.mp z]
            omega
        by_cases c0 : (j.how : Int) = 0
        · refine iteT (decide_eq_true (congrArg V.int c0)) ?_
          refine ⟨_, rfl, _, _, rfl, rfl, rfl, hno', some (.ref p), ?_⟩
          rw [htk, List.filter_append, List.length_append]
          have : (List.filter (fun j => j.how == 0) [j]).length = 1 := by
            have : j.how = 0 := by omega
            simp [this]
          rw [this]
          rfl
        · refine iteF (decide_eq_false fun z => c0 (V.int.inj z)) ?_
          refine ⟨rfl, hno', some (.ref p), ?_⟩
          rw [htk, List.filter_append, List.length_append]
          have : (List.filter (fun j => j.how == 0) [j]).length = 0 := by
            have : j.how ≠ 0 := by omega
            simp [this]
          rw [this]
          rfl
    · rintro σ H' ⟨rfl, hno, v2, rfl⟩
      refine ⟨_, rfl, ?_⟩
      have e := inRow_rev x.jumps (x.jumps.reverse.take (ps.map V.ref).length) (x.jumps.reverse.drop (ps.map V.ref).length) (List.take_append_drop _ _).symm ha.how hno (.inl ?_)
      · rw [← e]
        exact k _ Go.refl
      · rw [List.length_map, hlen]
        exact List.drop_of_length_le (by simp)
theorem scA3 : FnScope ["self"] ["self"] (defScope (sA 3)) := ⟨rfl, rfl, rfl, by decide +kernel, rfl, by decide +kernel, by decide +kernel⟩
theorem ok_A3 {f : Addr} {fd : FuncData} (F : Fun K "is_out" "Athlete.is_out" (sA 3) f fd) (T : Txt K mg cA cJ cC cL) : FnOk P w K mg base CX0 2 f fd ["self"] (spA TT cA fun x => .bl x.out) := by
  obtain ⟨f2, fd2, F2, b2, m2⟩ := T.A2
  have G2 : FnOk P w K mg base CX0 1 f2 fd2 ["self"] (spA TT cA fun x => .int (Kg63.inRow x.jumps : Int)) := ok_A2 F2 T
  refine F.ok scA3 (fun vs H Q E h => ?_) (fun cdv A outer s H vs Q E hr h => ?_)
  · obtain ⟨N, a, l, x, rfl, _⟩ := h
    rfl
  · obtain ⟨N, a, l, x, rfl, ha, k⟩ := h
    refine ⟨_, pss_one (ps_ret (pe_or (pe_fld (pv 0) rfl) (pe_one (pe_cmpR op_ge (pe_meth0 (pv 0) T.clA m2 G2 hr b2 .nil pass0) (pe_ic rfl T.TOBEOUT) (nomark _))))), ?_⟩
    obtain ⟨dx, ho⟩ := ha.obj
    refine ⟨_, rfl, a, cA, dx, _, _, rfl, ho, T.clA, T.aLeft, fA_left _ _, x.left, rfl, ?_⟩
    have k : ∀ H', Go TT H H' → Q (.bl (x.left || decide (3 ≤ Kg63.inRow x.jumps))) H' := k
    cases e : x.left with
    | true =>
      rw [e] at k
      exact k _ Go.refl
    | false =>
      rw [e] at k
      refine ⟨_, rfl, a, dx, _, rfl, ho, rfl, N, a, l, x, rfl, ha, fun H' g => ?_⟩
      refine ⟨_, _, rfl, rfl, ?_⟩
      have e2 : decide ((3 : Int) ≤ (Kg63.inRow x.jumps : Int)) = decide (3 ≤ Kg63.inRow x.jumps) := decide_eq_decide.mpr (by omega)
      have k2 := k H' g
      rw [Bool.false_or, ← e2] at k2
      exact k2
theorem dp_tup {H : Hp} {p : Addr} {j : Kg63.Jump} (h : TupAt H p j) : Dp K H (.ref p) (pD ((j.height : Int), (j.how : Int))) := .tup (SqT.of h) (.cons (.int _) (.cons (.int _) .nil))
theorem dp_jumps {H : Hp} {l : Addr} {js : List Kg63.Jump} (h : JumpsAt H l js) : Dp K H (.ref l) (.list ((js.map fun j => ((j.height : Int), (j.how : Int))).map pD)) := by
  obtain ⟨ps, h1, h2⟩ := h
  refine .lst (SqL.of h1) ?_
  clear h1
  induction h2 with
  | nil => exact .nil
  | cons a _ ih => exact .cons (dp_tup a) ih
theorem any_pD (js : List Kg63.Jump) (h w : Nat) : ((js.map fun j => ((j.height : Int), (j.how : Int))).map pD).any (fun z => PyData.eqv z (pD ((h : Int), (w : Int)))) = js.any fun j => j.height == h && j.how == w := by
  rw [List.any_map, List.any_map]
  congr 1
  funext j
  show PyData.eqv (pD ((j.height : Int), (j.how : Int))) (pD ((h : Int), (w : Int))) = _
  rw [pD_eqv]
  apply Bool.eq_iff_iff.mpr
  simp
  omega
theorem due_pD {x : Kg63.Athlete} (hw : ∀ j ∈ x.jumps, j.how ≤ 2) (b : Nat) (ho : x.out = false) : x.due b = (!(x.jumps.any fun j => j.height == b && j.how == 1) && !(x.jumps.any fun j => j.height == b && j.how == 2)) := by
  unfold Kg63.Athlete.due Kg63.Athlete.at_
  rw [ho]
  apply Bool.eq_iff_iff.mpr
  simp only [Bool.not_false, Bool.true_and, List.all_eq_true, List.mem_filter, beq_iff_eq, Bool.and_eq_true, Bool.not_eq_true', List.any_eq_false]
  constructor
  · intro h
    exact ⟨fun j hj z => by have := h j ⟨hj, z.1⟩; omega, fun j hj z => by have := h j ⟨hj, z.1⟩; omega⟩
  · rintro ⟨h1, h2⟩ j ⟨hj, hb⟩
    have a := h1 j hj
    have b := h2 j hj
    have c := hw j hj
    omega
theorem scA4 : FnScope ["self", "bar"] ["self", "bar"] (defScope (sA 4)) := ⟨rfl, rfl, rfl, by decide +kernel, rfl, by decide +kernel, by decide +kernel⟩
theorem ok_A4 {f : Addr} {fd : FuncData} (F : Fun K "is_due_at" "Athlete.is_due_at" (sA 4) f fd) (T : Txt K mg cA cJ cC cL) : FnOk P w K mg base CX0 3 f fd ["self", "bar"] (spA1 TT cA fun x h => .bl (x.due h)) := by
  obtain ⟨f2, fd2, F2, b2, m2⟩ := T.A3
  have G2 : FnOk P w K mg base CX0 2 f2 fd2 ["self"] (spA TT cA fun x => .bl x.out) := ok_A3 F2 T
  refine F.ok scA4 (fun vs H Q E h => ?_) (fun cdv A outer s H vs Q E hr h => ?_)
  · obtain ⟨N, a, l, x, b, rfl, _⟩ := h
    rfl
  · obtain ⟨N, a, l, x, b, rfl, ha, k⟩ := h
    have hu : (A.deeper (envOfC "Athlete.is_due_at" (defScope (sA 4)) s.heap.objs.size f cdv)).units + 65 < cLine := by have := hr.un; omega
    refine ⟨_, pss_cons (ps_if (pt_val (pe_meth0 (pv 0) T.clA m2 G2 hr b2 .nil pass0)) (pss_one (ps_ret pe_bl)) pss_nil)
      (pss_one (ps_ret (pe_and (pe_cmpR (op_notInD hu) (pe_tup (pa_cons (pv 1) (pa_cons (pe_ic rfl T.CLEARED) pa_nil))) (pe_fld (pv 0) rfl) rfl)
        (pe_one (pe_cmpR (op_notInD hu) (pe_tup (pa_cons (pv 1) (pa_cons (pe_ic rfl T.PASSED) pa_nil))) (pe_fld (pv 0) rfl) rfl))))), ?_⟩
    have k : ∀ H', Go TT H H' → Q (.bl (x.due b)) H' := k
    obtain ⟨dx, ho⟩ := ha.obj
    refine ⟨_, rfl, a, dx, _, rfl, ho, rfl, N, a, l, x, rfl, ha, fun H1 g => ⟨_, rfl, ?_⟩⟩
    cases e : x.out with
    | true =>
      refine iteT rfl ?_
      have e2 : x.due b = false := by unfold Kg63.Athlete.due; rw [e]; rfl
      have k2 := k H1 g
      rw [e2] at k2
      exact k2
    | false =>
      refine iteF rfl ?_
      have hd := due_pD ha.how b e
      have ha1 := ha.go g
      obtain ⟨dx1, ho1⟩ := ha1.obj
      refine ⟨_, rfl, by show 2 ≤ sizeLine; decide, fun t ht => ?_⟩
      have g2 : Go TT H (upd H1 t (.tup [.int (b : Int), .int 1])) := g.new ht
      have ha2 := ha.go g2
      obtain ⟨dx2, ho2⟩ := ha2.obj
      refine ⟨_, rfl, a, cA, dx2, _, _, rfl, ho2, T.clA, T.aJumps, fA_jumps _ _, _, _, dp_tup (j := ⟨b, 1⟩) upd_same, dp_jumps ha2.js, pD_shaped _, pDs_shaped _, _, rfl, ?_⟩
      have a1 := any_pD x.jumps b 1
      have a1 : (((x.jumps.map fun j => ((j.height : Int), (j.how : Int))).map pD).any fun z => PyData.eqv z (pD ((b : Int), ((1 : Nat) : Int)))) = x.jumps.any fun j => j.height == b && j.how == 1 := a1
      show if (!(((x.jumps.map fun j => ((j.height : Int), (j.how : Int))).map pD).any fun z => PyData.eqv z (pD ((b : Int), ((1 : Nat) : Int))))) = true then _ else _
      rw [a1]
      cases c1 : (x.jumps.any fun j => j.height == b && j.how == 1) with
      | true =>
        rw [c1] at hd
        have hd : x.due b = false := hd
        have k2 := k _ g2
        rw [hd] at k2
        exact k2
      | false =>
        rw [c1] at hd
        refine iteT rfl ?_
        refine ⟨_, rfl, by show 2 ≤ sizeLine; decide, fun t2 ht2 => ?_⟩
        have g3 : Go TT H (upd (upd H1 t (.tup [.int (b : Int), .int 1])) t2 (.tup [.int (b : Int), .int 2])) := g2.new ht2
        have ha3 := ha.go g3
        obtain ⟨dx3, ho3⟩ := ha3.obj
        refine ⟨_, rfl, a, cA, dx3, _, _, rfl, ho3, T.clA, T.aJumps, fA_jumps _ _, _, _, dp_tup (j := ⟨b, 2⟩) upd_same, dp_jumps ha3.js, pD_shaped _, pDs_shaped _, ?_⟩
        have a2 := any_pD x.jumps b 2
        have k2 := k _ g3
        rw [hd] at k2
        have k3 : Q (.bl (!(x.jumps.any fun j => j.height == b && j.how == 2))) (upd (upd H1 t (.tup [.int (b : Int), .int 1])) t2 (.tup [.int (b : Int), .int 2])) := k2
        rw [← a2] at k3
        exact k3
theorem failsAt_count (x : Kg63.Athlete) (h : Nat) : (x.jumps.map fun j => ((j.height : Int), (j.how : Int))).count ((h : Int), (0 : Int)) = Kg63.failsAt x h := by
  unfold Kg63.failsAt Kg63.Athlete.at_
  rw [List.filter_filter, ← List.countP_eq_length_filter]
  unfold List.count
  rw [List.countP_map]
  congr 1
  funext j
  apply Bool.eq_iff_iff.mpr
  simp
  omega
theorem scA5 : FnScope ["self", "height"] ["self", "height"] (defScope (sA 5)) := ⟨rfl, rfl, rfl, by decide +kernel, rfl, by decide +kernel, by decide +kernel⟩
theorem ok_A5 {f : Addr} {fd : FuncData} (F : Fun K "failures_at" "Athlete.failures_at" (sA 5) f fd) (T : Txt K mg cA cJ cC cL) : FnOk P w K mg base CX0 1 f fd ["self", "height"] (spA1 TT cA fun x h => .int (Kg63.failsAt x h : Int)) := by
  refine F.ok scA5 (fun vs H Q E h => ?_) (fun cdv A outer s H vs Q E hr h => ?_)
  · obtain ⟨N, a, l, x, b, rfl, _⟩ := h
    rfl
  · obtain ⟨N, a, l, x, b, rfl, ha, k⟩ := h
    have k : ∀ H', Go TT H H' → Q (.int (Kg63.failsAt x b : Int)) H' := k
    have hu : (A.deeper (envOfC "Athlete.failures_at" (defScope (sA 5)) s.heap.objs.size f cdv)).units + 65 < cLine := by have := hr.un; omega
    refine ⟨_, pss_one (ps_ret (pe_bm PySem.F.plainAttrs_list PySem.F.slot_list_count PySem.F.type_list_count (mt_countD hu) (pe_fld (pv 0) rfl) (pa_cons (pe_tup (pa_cons (pv 1) (pa_cons (pe_ic rfl T.FAILED) pa_nil))) pa_nil))), ?_⟩
    obtain ⟨dx, ho⟩ := ha.obj
    obtain ⟨ps, hl, _⟩ := ha.js
    refine ⟨_, rfl, a, cA, dx, _, _, rfl, ho, T.clA, T.aJumps, fA_jumps _ _, .inl ⟨rfl, _, SqL.of hl⟩, ?_⟩
    refine ⟨_, rfl, by show 2 ≤ sizeLine; decide, fun t ht => ?_⟩
    have g : Go TT H (upd H t (.tup [.int (b : Int), .int 0])) := Go.refl.new ht
    refine ⟨l, t, _, _, rfl, rfl, dp_jumps (ha.go g).js, dp_tup (j := ⟨b, 0⟩) upd_same, ?_⟩
    have e := failsAt_count x b
    have k2 := k _ g
    rw [← e] at k2
    exact k2
end
end Jp

set_option Elab.async false
set_option maxRecDepth 100000
set_option maxHeartbeats 4000000
/-! The class Athlete: what goes through its jumps. -/
namespace Jp
open PySem PySem.Spec PyProof.Rows L2 LamX Jl
section
variable {P : Program} {w : World} {K : PySem.W.Frag} {mg : Str → Option Value} {base : Heap} {cA cJ cC cL : Addr} {TT : List (Addr × Str)}
theorem map_get {α : Type} {f : α → V} {l : List α} {i : Nat} {v : V} (h : (l.map f)[i]? = some v) : ∃ a, l[i]? = some a ∧ v = f a := by
  rw [List.getElem?_map] at h
  cases e : l[i]? with
  | none => rw [e] at h; cases h
  | some p => rw [e] at h; exact ⟨p, rfl, (Option.some.inj h).symm⟩
theorem take_filter_yes {α : Type} {p : α → Bool} {l : List α} {i : Nat} {a : α} (h : l[i]? = some a) (hp : p a = true) : (l.take (i + 1)).filter p = (l.take i).filter p ++ [a] := by
  rw [List.take_add_one, h, List.filter_append]
  simp [hp]
theorem take_filter_no {α : Type} {p : α → Bool} {l : List α} {i : Nat} {a : α} (h : l[i]? = some a) (hp : p a = false) : (l.take (i + 1)).filter p = (l.take i).filter p := by
  rw [List.take_add_one, h, List.filter_append]
  simp [hp]
theorem small_of {n N : Nat} (h : n ≤ N) (hN : N ≤ 1000) : n < sizeLine := by
  show n < 16777216
  omega
theorem scA6 : FnScope ["self", "height", "jump"] ["self", "height"] (defScope (sA 6)) := ⟨rfl, rfl, rfl, by decide +kernel, rfl, by decide +kernel, by decide +kernel⟩
theorem ok_A6 {f : Addr} {fd : FuncData} (F : Fun K "failures_up_to" "Athlete.failures_up_to" (sA 6) f fd) (T : Txt K mg cA cJ cC cL) : FnOk P w K mg base CX0 1 f fd ["self", "height"] (spA1 TT cA fun x h => .int (Kg63.failsTo x h : Int)) := by
  refine F.ok scA6 (fun vs H Q E h => ?_) (fun cdv A outer s H vs Q E hr h => ?_)
  · obtain ⟨N, a, l, x, b, rfl, _⟩ := h
    rfl
  · obtain ⟨N, a, l, x, b, rfl, ha, k⟩ := h
    have k : ∀ H', Go TT H H' → Q (.int (Kg63.failsTo x b : Int)) H' := k
    refine ⟨_, pss_one (ps_ret (pe_callB call_len_seq (by rfl) T.len PySem.boot_len (pa_cons
      (pe_lc (own := [("jump", 2)]) (g := gName 2) (by rfl) scA6.nd (pi_list (pe_fld (pv 0) rfl)) (blkOk_by (own := [("jump", 2)]) (N := ["self", "height", "jump"]) (sc := defScope (sA 6)) (by decide +kernel))
        (fun _ _ _ _ _ => pg_name (i := 2) scA6.nd rfl (Or.inl rfl))
        (fun _ _ _ _ _ => pts_one (PW.pt (pw_and (pt_cmpR op_le (pe_ix (r := rIxT K) ix_tup (pv 2) pe_int (fun _ _ => rfl)) (pv 1) (nomark _)) (pw_and1 (pt_cmpR op_eq (pe_ix (r := rIxT K) ix_tup (pv 2) pe_int (fun _ _ => rfl)) (pe_ic rfl T.FAILED) (nomark _))))))
        (fun _ _ _ _ _ => pv 2)) pa_nil))), ?_⟩
    obtain ⟨dx, ho⟩ := ha.obj
    obtain ⟨ps, hl, ht⟩ := ha.js
    have hlen : ps.length = x.jumps.length := Paired.length ht
    refine ⟨_, rfl, a, cA, dx, _, _, rfl, ho, T.clA, T.aJumps, fA_jumps _ _, l, rfl, ⟨_, SqL.of hl⟩, fun D hD => ?_⟩
    refine lc_list (K := K) (a := l) (xs := ps.map V.ref) (fun i H' => Go TT H H' ∧ ∃ acc, H' D = some (.lst acc) ∧ acc.length = ((x.jumps.take i).filter fun j => j.how == 0 && decide (j.height ≤ b)).length)
      ⟨Go.refl.new hD, [], upd_same, by simp⟩ (fun i H' _ ⟨g, _⟩ => SqL.of (g.at hl)) ?_ ?_
    · rintro i v H' hv ⟨g, acc, hacc, hal⟩
      obtain ⟨p, hp, rfl⟩ := map_get hv
      obtain ⟨j, hj, htj⟩ := paired_getL ht hp
      have htj : H' p = some (.tup [.int (j.height : Int), .int (j.how : Int)]) := g.at htj
      refine ⟨rfl, ?_⟩
      refine ⟨_, rfl, _, _, _, _, rfl, rfl, SqT.of htj, atI_nat (j := 0) rfl, _, rfl, _, _, rfl, rfl, _, rfl, ?_⟩
      have no : (j.how == 0 && decide (j.height ≤ b)) = false → Go TT H H' ∧ ∃ acc, H' D = some (.lst acc) ∧ acc.length = ((x.jumps.take (i + 1)).filter fun j => j.how == 0 && decide (j.height ≤ b)).length := fun c => by
        rw [take_filter_no hj c]
        exact ⟨g, acc, hacc, hal⟩
      by_cases c1 : (j.height : Int) ≤ (b : Int)
      · refine iteT (decide_eq_true c1) ?_
        refine ⟨_, rfl, _, _, _, _, rfl, rfl, SqT.of htj, atI_nat (j := 1) rfl, rfl, _, rfl, ?_⟩
        by_cases c2 : (j.how : Int) = 0
        · refine iteT (decide_eq_true (congrArg V.int c2)) ?_
          refine ⟨_, rfl, acc, hacc, ?_, ?_⟩
          · rw [hal]
            have h1 := List.length_filter_le (fun j : Kg63.Jump => j.how == 0 && decide (j.height ≤ b)) (x.jumps.take i)
            rw [List.length_take] at h1
            exact small_of (N := N) (by have := ha.len; omega) ha.big
          · refine ⟨g.put hD hacc, _, upd_same, ?_⟩
            rw [take_filter_yes (p := fun j : Kg63.Jump => j.how == 0 && decide (j.height ≤ b)) hj (by simp; omega), List.length_append, List.length_append, hal]
            rfl
        · refine iteF (decide_eq_false fun z => c2 (V.int.inj z)) ?_
          exact no (by simp; omega)
      · refine iteF (decide_eq_false c1) ?_
        refine iteF rfl ?_
        exact no (by simp; omega)
    · rintro H' ⟨g, acc, hacc, hal⟩
      rw [List.length_map, hlen, List.take_length] at hal
      refine ⟨D, acc, rfl, .inl (SqL.of hacc), ?_⟩
      have k2 := k H' g
      unfold Kg63.failsTo at k2
      rw [← hal] at k2
      exact k2
theorem room2 {k : Nat} {A : Around} (hr : Room k A) : A.units + 2 < cLine := by
  have := hr.un
  omega
theorem max_jumps (js : List Kg63.Jump) : dflt (.int 0) (fun n r => r.foldl max n) (js.map fun j => ((j.height : Nat) : Int)) = V.int (((js.map Kg63.Jump.height).foldl max 0 : Nat) : Int) := by
  have e := max_dflt (js.map Kg63.Jump.height)
  rw [List.map_map] at e
  exact e
theorem boot_max1 : bootBuiltins "max" = some (.builtin "max") := by decide +kernel
theorem scA7 : FnScope ["self", "jump"] ["self"] (defScope (sA 7)) := ⟨rfl, rfl, rfl, by decide +kernel, rfl, by decide +kernel, by decide +kernel⟩
theorem ok_A7 {f : Addr} {fd : FuncData} (F : Fun K "greatest_cleared" "Athlete.greatest_cleared" (sA 7) f fd) (T : Txt K mg cA cJ cC cL) : FnOk P w K mg base CX0 1 f fd ["self"] (spA TT cA fun x => .int (x.best : Int)) := by
  refine F.ok scA7 (fun vs H Q E h => ?_) (fun cdv A outer s H vs Q E hr h => ?_)
  · obtain ⟨N, a, l, x, rfl, _⟩ := h
    rfl
  · obtain ⟨N, a, l, x, rfl, ha, k⟩ := h
    have k : ∀ H', Go TT H H' → Q (.int (x.best : Int)) H' := k
    refine ⟨_, pss_one (ps_ret (pe_callBK (cr_maxD (room2 hr) hr.hd) (by rfl) T.max boot_max1 (pa_cons
      (pe_lc (own := [("jump", 1)]) (g := gName 1) (by rfl) scA7.nd (pi_list (pe_fld (pv 0) rfl)) (blkOk_by (own := [("jump", 1)]) (N := ["self", "jump"]) (sc := defScope (sA 7)) (by decide +kernel))
        (fun _ _ _ _ _ => pg_name (i := 1) scA7.nd rfl (Or.inl rfl))
        (fun _ _ _ _ _ => pts_one (pt_cmpR op_eq (pe_ix (r := rIxT K) ix_tup (pv 1) pe_int (fun _ _ => rfl)) (pe_ic rfl T.CLEARED) (nomark _)))
        (fun _ _ _ _ _ => pe_ix (r := rIxT K) ix_tup (pv 1) pe_int (fun _ _ => rfl))) pa_nil) (pk_cons pe_int pk_nil))), ?_⟩
    obtain ⟨dx, ho⟩ := ha.obj
    obtain ⟨ps, hl, ht⟩ := ha.js
    have hlen : ps.length = x.jumps.length := Paired.length ht
    refine ⟨_, rfl, a, cA, dx, _, _, rfl, ho, T.clA, T.aJumps, fA_jumps _ _, l, rfl, ⟨_, SqL.of hl⟩, fun D hD => ?_⟩
    refine lc_list (K := K) (a := l) (xs := ps.map V.ref) (fun i H' => Go TT H H' ∧ H' D = some (.lst (((x.jumps.take i).filter fun j => j.how == 1).map fun j => V.int (j.height : Int))))
      ⟨Go.refl.new hD, upd_same⟩ (fun i H' _ ⟨g, _⟩ => SqL.of (g.at hl)) ?_ ?_
    · rintro i v H' hv ⟨g, hacc⟩
      obtain ⟨p, hp, rfl⟩ := map_get hv
      obtain ⟨j, hj, htj⟩ := paired_getL ht hp
      have htj : H' p = some (.tup [.int (j.height : Int), .int (j.how : Int)]) := g.at htj
      refine ⟨rfl, ?_⟩
      refine ⟨_, rfl, _, _, _, _, rfl, rfl, SqT.of htj, atI_nat (j := 1) rfl, rfl, _, rfl, ?_⟩
      by_cases c2 : (j.how : Int) = 1
      · refine iteT (decide_eq_true (congrArg V.int c2)) ?_
        refine ⟨_, rfl, _, _, _, _, rfl, rfl, SqT.of htj, atI_nat (j := 0) rfl, _, hacc, ?_, ?_⟩
        · have h1 := List.length_filter_le (fun j : Kg63.Jump => j.how == 1) (x.jumps.take i)
          rw [List.length_take] at h1
          rw [List.length_map]
          exact small_of (N := N) (by have := ha.len; omega) ha.big
        · refine ⟨g.put hD hacc, ?_⟩
          rw [upd_same, take_filter_yes (p := fun j : Kg63.Jump => j.how == 1) hj (by simp; omega), List.map_append]
          rfl
      · refine iteF (decide_eq_false fun z => c2 (V.int.inj z)) ?_
        show Go TT H H' ∧ _
        rw [take_filter_no (p := fun j : Kg63.Jump => j.how == 1) hj (by simp; omega)]
        exact ⟨g, hacc⟩
    · rintro H' ⟨g, hacc⟩
      rw [List.length_map, hlen, List.take_length] at hacc
      refine ⟨D, (x.jumps.filter fun j => j.how == 1).map fun j => ((j.height : Nat) : Int), .int 0, rfl, rfl, SqL.of (by rw [hacc, List.map_map]; rfl), ?_⟩
      exact (max_jumps _).symm ▸ k H' g
theorem scA8 : FnScope ["self", "jump"] ["self"] (defScope (sA 8)) := ⟨rfl, rfl, rfl, by decide +kernel, rfl, by decide +kernel, by decide +kernel⟩
theorem ok_A8 {f : Addr} {fd : FuncData} (F : Fun K "greatest_tried" "Athlete.greatest_tried" (sA 8) f fd) (T : Txt K mg cA cJ cC cL) : FnOk P w K mg base CX0 1 f fd ["self"] (spA TT cA fun x => .int (((x.jumps.map Kg63.Jump.height).foldl max 0 : Nat) : Int)) := by
  refine F.ok scA8 (fun vs H Q E h => ?_) (fun cdv A outer s H vs Q E hr h => ?_)
  · obtain ⟨N, a, l, x, rfl, _⟩ := h
    rfl
  · obtain ⟨N, a, l, x, rfl, ha, k⟩ := h
    have k : ∀ H', Go TT H H' → Q (.int (((x.jumps.map Kg63.Jump.height).foldl max 0 : Nat) : Int)) H' := k
    refine ⟨_, pss_one (ps_ret (pe_callBK (cr_maxD (room2 hr) hr.hd) (by rfl) T.max boot_max1 (pa_cons
      (pe_lc (own := [("jump", 1)]) (g := gName 1) (by rfl) scA8.nd (pi_list (pe_fld (pv 0) rfl)) (blkOk_by (own := [("jump", 1)]) (N := ["self", "jump"]) (sc := defScope (sA 8)) (by decide +kernel))
        (fun _ _ _ _ _ => pg_name (i := 1) scA8.nd rfl (Or.inl rfl))
        (fun _ _ _ _ _ => pts_nil)
        (fun _ _ _ _ _ => pe_ix (r := rIxT K) ix_tup (pv 1) pe_int (fun _ _ => rfl))) pa_nil) (pk_cons pe_int pk_nil))), ?_⟩
    obtain ⟨dx, ho⟩ := ha.obj
    obtain ⟨ps, hl, ht⟩ := ha.js
    have hlen : ps.length = x.jumps.length := Paired.length ht
    refine ⟨_, rfl, a, cA, dx, _, _, rfl, ho, T.clA, T.aJumps, fA_jumps _ _, l, rfl, ⟨_, SqL.of hl⟩, fun D hD => ?_⟩
    refine lc_list (K := K) (a := l) (xs := ps.map V.ref) (fun i H' => Go TT H H' ∧ H' D = some (.lst ((x.jumps.take i).map fun j => V.int (j.height : Int))))
      ⟨Go.refl.new hD, upd_same⟩ (fun i H' _ ⟨g, _⟩ => SqL.of (g.at hl)) ?_ ?_
    · rintro i v H' hv ⟨g, hacc⟩
      obtain ⟨p, hp, rfl⟩ := map_get hv
      obtain ⟨j, hj, htj⟩ := paired_getL ht hp
      have htj : H' p = some (.tup [.int (j.height : Int), .int (j.how : Int)]) := g.at htj
      refine ⟨rfl, ?_⟩
      dsimp only [tYes]
      rw [if_pos rfl]
      refine ⟨_, rfl, _, _, _, _, rfl, rfl, SqT.of htj, atI_nat (j := 0) rfl, _, hacc, ?_, ?_⟩
      · rw [List.length_map, List.length_take]
        exact small_of (N := N) (by have := ha.len; omega) ha.big
      · refine ⟨g.put hD hacc, ?_⟩
        rw [upd_same, List.take_add_one, hj, List.map_append]
        rfl
    · rintro H' ⟨g, hacc⟩
      rw [List.length_map, hlen, List.take_length] at hacc
      refine ⟨D, x.jumps.map fun j => ((j.height : Nat) : Int), .int 0, rfl, rfl, SqL.of (by rw [hacc, List.map_map]; rfl), ?_⟩
      exact (max_jumps _).symm ▸ k H' g
end
end Jp

set_option Elab.async false
set_option maxRecDepth 100000
set_option maxHeartbeats 4000000
/-! The class JumpOff. -/
namespace Jp
open PySem PySem.Spec PyProof.Rows L2 LamX Jl
open Jc (JO bump cleared)
abbrev nV (i : Nat) : V := .int (i : Int)
def fJ (ol : Addr) (bar turn : Nat) (cl dl : Addr) : List (Str × V) := [("still_in", .ref ol), ("bar", nV bar), ("turn", nV turn), ("round_clears", .ref cl), ("come_through", .ref dl)]
def ComeIs (kvs : List (Key × V)) (f : Nat → Nat) : Prop := (∀ i : Nat, (valV kvs (Sum.inl (i : Int))).getD (.int 0) = nV (f i)) ∧ ∃ ks : List Nat, kvs.map (·.1) = ks.map (fun (n : Nat) => (Sum.inl (n : Int) : Key)) ∧ ks.Nodup ∧ ∀ i ∈ ks, i < 20
structure JoAt (cJ : Addr) (H : Hp) (ja ol cl dl : Addr) (j : JO) : Prop where
  obj : ∃ dx, H ja = some (.ins cJ dx (fJ ol j.bar j.turn cl dl))
  off : H ol = some (.lst (j.off.map nV))
  clr : H cl = some (.lst (j.clears.map V.bl))
  come : ∃ kvs, H dl = some (.dK kvs) ∧ ComeIs kvs j.come
  nd : j.off.Nodup
  small : ∀ i ∈ j.off, i < 20
  ne : ol ≠ cl
  len : j.clears.length ≤ j.off.length
theorem nodup_len : ∀ (n : Nat) (l : List Nat), l.Nodup → (∀ i ∈ l, i < n) → l.length ≤ n
  | 0, l, _, h => by
    cases l with
    | nil => exact Nat.le_refl _
    | cons x r => exact absurd (h x List.mem_cons_self) (Nat.not_lt_zero _)
  | n + 1, l, hn, h => by
    by_cases hm : n ∈ l
    · have h1 := nodup_len n (l.erase n) (hn.erase n) fun i hi => by
        have := (List.Nodup.mem_erase_iff hn).mp hi
        have := h i this.2
        omega
      rw [List.length_erase_of_mem hm] at h1
      omega
    · have h1 := nodup_len n l hn fun i hi => by
        have := h i hi
        have : i ≠ n := fun e => hm (e ▸ hi)
        omega
      omega
theorem ComeIs.len {kvs : List (Key × V)} {f : Nat → Nat} (h : ComeIs kvs f) : kvs.length ≤ 20 := by
  obtain ⟨_, ks, e, hn, hs⟩ := h
  have e2 := congrArg List.length e
  rw [List.length_map, List.length_map] at e2
  rw [e2]
  exact nodup_len 20 ks hn hs
theorem ComeIs.nil : ComeIs [] fun _ => 0 := ⟨fun _ => rfl, [], rfl, List.nodup_nil, fun _ h => by cases h⟩
theorem ComeIs.put {kvs : List (Key × V)} {f : Nat → Nat} (h : ComeIs kvs f) {i v : Nat} (hi : i < 20) : ComeIs (putK kvs (Sum.inl (i : Int)) (nV v)) (fun k => if k = i then v else f k) := by
  obtain ⟨h1, ks, e, hn, hs⟩ := h
  refine ⟨fun k => ?_, ?_⟩
  · rw [valV_put]
    show _ = nV (if k = i then v else f k)
    by_cases c : k = i
    · subst c
      rw [if_pos rfl, if_pos rfl]; rfl
    · rw [if_neg (fun z => c (by have := Sum.inl.inj z; omega)), if_neg c]
      exact h1 k
  · cases hv : valV kvs (Sum.inl (i : Int)) with
    | none =>
      refine ⟨ks ++ [i], ?_, ?_, fun k hk => ?_⟩
      · rw [putK_new _ hv, List.map_append, e, List.map_append]; rfl
      · refine List.nodup_append.mpr ⟨hn, by simp, fun a ha b hb => ?_⟩
        rw [List.mem_singleton.mp hb]
        intro z
        subst z
        have hm : (Sum.inl (a : Int) : Key) ∈ kvs.map (·.1) := by rw [e]; exact List.mem_map_of_mem (f := fun n : Nat => (Sum.inl (n : Int) : Key)) ha
        obtain ⟨kv, hkv, e3⟩ := List.mem_map.mp hm
        have := valV_any (Sum.inl (a : Int) : Key) kvs
        rw [hv] at this
        have h2 : (kvs.any fun kv => decide (kv.1 = Sum.inl (a : Int))) = true := List.any_eq_true.mpr ⟨kv, hkv, by rw [e3]; simp⟩
        rw [h2] at this
        cases this
      · rcases List.mem_append.mp hk with z | z
        · exact hs k z
        · rw [List.mem_singleton.mp z]; exact hi
    | some u =>
      refine ⟨ks, ?_, hn, hs⟩
      rw [← e]
      unfold putK
      have h2 : (kvs.any fun kv => decide (kv.1 = Sum.inl (i : Int))) = true := by rw [valV_any, hv]; rfl
      rw [if_pos h2, List.map_map]
      refine List.map_congr_left fun kv _ => ?_
      show (if kv.1 = Sum.inl (i : Int) then (kv.1, nV v) else kv).1 = kv.1
      split <;> rfl
theorem lkf {k g : Str} {v : V} {r : List (Str × V)} (h : (k == g) = false) : List.lookup k ((g, v) :: r) = List.lookup k r := by
  simp only [List.lookup, h]
theorem lkh {k : Str} {v : V} {r : List (Str × V)} : List.lookup k ((k, v) :: r) = some v := by
  have e : (k == k) = true := beq_self_eq_true k
  simp only [List.lookup, e]
section
variable {ol cl dl : Addr} {b t : Nat}
theorem fJ_in : (fJ ol b t cl dl).lookup ("still_in" : Str) = some (.ref ol) := lkh
theorem fJ_bar : (fJ ol b t cl dl).lookup ("bar" : Str) = some (nV b) := (lkf (by decide +kernel)).trans lkh
theorem fJ_turn : (fJ ol b t cl dl).lookup ("turn" : Str) = some (nV t) := (lkf (by decide +kernel)).trans ((lkf (by decide +kernel)).trans lkh)
theorem fJ_clr : (fJ ol b t cl dl).lookup ("round_clears" : Str) = some (.ref cl) := (lkf (by decide +kernel)).trans ((lkf (by decide +kernel)).trans ((lkf (by decide +kernel)).trans lkh))
theorem fJ_come : (fJ ol b t cl dl).lookup ("come_through" : Str) = some (.ref dl) := (lkf (by decide +kernel)).trans ((lkf (by decide +kernel)).trans ((lkf (by decide +kernel)).trans ((lkf (by decide +kernel)).trans lkh)))
theorem puth {f : Str} {v x : V} {r : List (Str × V)} : putF f v ((f, x) :: r) = (f, v) :: r := if_pos rfl
theorem putp {f g : Str} {v x : V} {r : List (Str × V)} (h : ¬ g = f) : putF f v ((g, x) :: r) = (g, x) :: putF f v r := if_neg h
theorem fJ_putClr (x : Addr) : putF "round_clears" (.ref x) (fJ ol b t cl dl) = fJ ol b t x dl := (putp (by decide +kernel)).trans (congrArg _ ((putp (by decide +kernel)).trans (congrArg _ ((putp (by decide +kernel)).trans (congrArg _ puth)))))
theorem fJ_putBar (x : Nat) : putF "bar" (nV x) (fJ ol b t cl dl) = fJ ol x t cl dl := (putp (by decide +kernel)).trans (congrArg _ puth)
theorem fJ_putIn (x : Addr) : putF "still_in" (.ref x) (fJ ol b t cl dl) = fJ x b t cl dl := puth
end
/-! ### promises -/
def spJInit (cJ : Addr) : Sp := fun vs H Q _ => ∃ p dx nl off bar turn, vs = [.ref p, .ref nl, nV bar, nV turn] ∧ H p = some (.ins cJ dx []) ∧ H nl = some (.lst (off.map nV)) ∧ off.Nodup ∧ (∀ i ∈ off, i < 20) ∧ off.length ≤ 20 ∧
  ∀ H' ol cl dl, JoAt cJ H' p ol cl dl ⟨off, bar, turn, [], fun _ => 0⟩ → H ol = none → H cl = none → H dl = none → (∀ b o, H b = some o → b ≠ p → H' b = some o) → Q .non H'
/-- of what a jump-off tells without a change -/
def spJ (cJ : Addr) (pre : JO → Prop) (res : JO → V) : Sp := fun vs H Q _ => ∃ ja ol cl dl j, vs = [.ref ja] ∧ JoAt cJ H ja ol cl dl j ∧ pre j ∧ Q (res j) H
def spJRounds (cJ : Addr) : Sp := fun vs H Q _ => ∃ ja ol cl dl j i, vs = [.ref ja, nV i] ∧ JoAt cJ H ja ol cl dl j ∧ Q (nV (j.come i)) H
def JFrame (ja cl dl : Addr) (H H' : Hp) : Prop := ∀ b o, H b = some o → b ≠ ja → b ≠ cl → b ≠ dl → H' b = some o
def spJEnd (cJ : Addr) : Sp := fun vs H Q _ => ∃ ja ol cl dl j, vs = [.ref ja] ∧ JoAt cJ H ja ol cl dl j ∧ j.clears.length = j.off.length ∧
  ∀ H' ol' cl', JoAt cJ H' ja ol' cl' dl j.endRound → (ol' = ol ∨ H ol' = none) → H cl' = none → JFrame ja cl dl H H' → Q .non H'
def spJTake (cJ : Addr) : Sp := fun vs H Q _ => ∃ ja ol cl dl j c, vs = [.ref ja, .bl c] ∧ JoAt cJ H ja ol cl dl j ∧ j.clears.length < j.off.length ∧
  ∀ H' ol' cl', JoAt cJ H' ja ol' cl' dl (j.take c) → (ol' = ol ∨ H ol' = none) → (cl' = cl ∨ H cl' = none) → JFrame ja cl dl H H' → Q .non H'
section
variable {P : Program} {w : World} {K : PySem.W.Frag} {mg : Str → Option Value} {base : Heap} {cA cJ cC cL : Addr}
theorem scJ0 : FnScope ["self", "numbers", "bar", "turn"] ["self", "numbers", "bar", "turn"] (defScope (sJ 0)) := ⟨rfl, rfl, rfl, by decide +kernel, rfl, by decide +kernel, by decide +kernel⟩
theorem ok_J0 {f : Addr} {fd : FuncData} (F : Fun K "__init__" "JumpOff.__init__" (sJ 0) f fd) (T : Txt K mg cA cJ cC cL) : FnOk P w K mg base CX0 1 f fd ["self", "numbers", "bar", "turn"] (spJInit cJ) := by
  refine F.ok scJ0 (fun vs H Q E h => ?_) (fun cdv A outer s H vs Q E hr h => ?_)
  · obtain ⟨p, dx, nl, off, bar, turn, rfl, _⟩ := h
    rfl
  · obtain ⟨p, dx, nl, off, bar, turn, rfl, hp, hn, hnd, hsm, hlen, k⟩ := h
    refine ⟨_, pss_cons (ps_fld (pv 0) (pe_callTy call_list_of (by rfl) T.list (by decide +kernel) (pa_cons (pv 1) pa_nil)) rfl) (pss_cons (ps_fld (pv 0) (pv 2) rfl) (pss_cons (ps_fld (pv 0) (pv 3) rfl)
      (pss_cons (ps_fld (pv 0) (pe_lst pa_nil) rfl) (pss_one (ps_fld (pv 0) pe_dnewK rfl))))), ?_⟩
    refine ⟨_, rfl, nl, _, rfl, .inl (SqL.of hn), fun ol hol => ?_⟩
    have n1 : p ≠ ol := ne_of_none hp hol
    refine ⟨_, rfl, p, cJ, dx, [], rfl, by rw [upd_ne n1]; exact hp, T.clJ, T.jIn, by decide, ?_⟩
    refine ⟨_, rfl, _, rfl, p, cJ, dx, _, rfl, upd_same, T.clJ, T.jBar, by show 1 < 1000; decide, ?_⟩
    refine ⟨_, rfl, _, rfl, p, cJ, dx, _, rfl, upd_same, T.clJ, T.jTurn, by show 2 < 1000; decide, ?_⟩
    rw [upd_upd, upd_upd]
    refine ⟨Nat.zero_le _, fun cl hcl => ?_⟩
    have n2 : cl ≠ p := fun z => by rw [z, upd_same] at hcl; cases hcl
    rw [upd_ne n2] at hcl
    have n3 : cl ≠ ol := fun z => by rw [z, upd_same] at hcl; cases hcl
    rw [upd_ne n3] at hcl
    refine ⟨_, rfl, p, cJ, dx, _, rfl, by rw [upd_ne n2.symm, upd_same], T.clJ, T.jClears, by show 3 < 1000; decide, ?_⟩
    refine fun dl hdl => ?_
    have m2 : dl ≠ p := fun z => by rw [z, upd_same] at hdl; cases hdl
    rw [upd_ne m2] at hdl
    have m3 : dl ≠ cl := fun z => by rw [z, upd_same] at hdl; cases hdl
    rw [upd_ne m3, upd_ne m2] at hdl
    have m4 : dl ≠ ol := fun z => by rw [z, upd_same] at hdl; cases hdl
    rw [upd_ne m4] at hdl
    refine ⟨_, rfl, p, cJ, dx, _, rfl, by rw [upd_ne m2.symm, upd_same], T.clJ, T.jCome, by show 4 < 1000; decide, ?_⟩
    refine k _ ol cl dl ⟨⟨dx, Eq.trans upd_same rfl⟩, ?_, ?_, ⟨[], ?_, ComeIs.nil⟩, hnd, hsm, n3.symm, Nat.zero_le _⟩ hol hcl hdl fun b o e hb => ?_
    · rw [upd_ne n1.symm, upd_ne m4.symm, upd_ne n1.symm, upd_ne n3.symm, upd_ne n1.symm, upd_same]
    · rw [upd_ne n2, upd_ne m3.symm, upd_ne n2, upd_same]
      rfl
    · rw [upd_ne m2, upd_same]
    · rw [upd_ne hb, upd_ne (ne_of_none e hdl), upd_ne hb, upd_ne (ne_of_none e hcl), upd_ne hb, upd_ne (ne_of_none e hol)]
      exact e
theorem scJ1 : FnScope ["self"] ["self"] (defScope (sJ 1)) := ⟨rfl, rfl, rfl, by decide +kernel, rfl, by decide +kernel, by decide +kernel⟩
theorem ok_J1 {f : Addr} {fd : FuncData} (F : Fun K "is_over" "JumpOff.is_over" (sJ 1) f fd) (T : Txt K mg cA cJ cC cL) : FnOk P w K mg base CX0 1 f fd ["self"] (spJ cJ (fun _ => True) fun j => .bl (decide (j.off.length = 1))) := by
  refine F.ok scJ1 (fun vs H Q E h => ?_) (fun cdv A outer s H vs Q E hr h => ?_)
  · obtain ⟨ja, ol, cl, dl, j, rfl, _⟩ := h
    rfl
  · obtain ⟨ja, ol, cl, dl, j, rfl, hj, _, k⟩ := h
    refine ⟨_, pss_one (ps_ret (pe_cmpR op_eq (pe_callB call_len_seq (by rfl) T.len PySem.boot_len (pa_cons (pe_fld (pv 0) rfl) pa_nil)) pe_int (nomark _))), ?_⟩
    obtain ⟨dx, ho⟩ := hj.obj
    refine ⟨_, rfl, ja, cJ, dx, _, _, rfl, ho, T.clJ, T.jIn, fJ_in, ol, _, rfl, .inl (SqL.of hj.off), rfl, ?_⟩
    have e : decide (V.int ((j.off.map nV).length : Nat) = V.int 1) = decide (j.off.length = 1) := by
      rw [List.length_map]
      refine decide_eq_decide.mpr ⟨fun z => ?_, fun z => by rw [z]; rfl⟩
      have := V.int.inj z
      omega
    exact e ▸ k
theorem scJ2 : FnScope ["self"] ["self"] (defScope (sJ 2)) := ⟨rfl, rfl, rfl, by decide +kernel, rfl, by decide +kernel, by decide +kernel⟩
theorem ok_J2 {f : Addr} {fd : FuncData} (F : Fun K "who_is_up" "JumpOff.who_is_up" (sJ 2) f fd) (T : Txt K mg cA cJ cC cL) : FnOk P w K mg base CX0 1 f fd ["self"] (spJ cJ (fun j => j.clears.length < j.off.length) fun j => nV (j.off.getD j.clears.length 0)) := by
  refine F.ok scJ2 (fun vs H Q E h => ?_) (fun cdv A outer s H vs Q E hr h => ?_)
  · obtain ⟨ja, ol, cl, dl, j, rfl, _⟩ := h
    rfl
  · obtain ⟨ja, ol, cl, dl, j, rfl, hj, hlt, k⟩ := h
    refine ⟨_, pss_one (ps_ret (pe_ix ix_list (pe_fld (pv 0) rfl) (pe_callB call_len_seq (by rfl) T.len PySem.boot_len (pa_cons (pe_fld (pv 0) rfl) pa_nil)) (fun _ _ => rfl))), ?_⟩
    obtain ⟨dx, ho⟩ := hj.obj
    refine ⟨_, rfl, ja, cJ, dx, _, _, rfl, ho, T.clJ, T.jIn, fJ_in, _, rfl, ja, cJ, dx, _, _, rfl, ho, T.clJ, T.jClears, fJ_clr, cl, _, rfl, .inl (SqL.of hj.clr), ?_⟩
    refine ⟨ol, _, _, nV (j.off.getD j.clears.length 0), rfl, rfl, SqL.of hj.off, at_of (j := j.clears.length) (by rw [List.length_map]) ?_, k⟩
    rw [List.getElem?_map, List.getD_eq_getElem?_getD, List.getElem?_eq_getElem hlt]
    rfl
theorem scJ5 : FnScope ["self", "number"] ["self", "number"] (defScope (sJ 5)) := ⟨rfl, rfl, rfl, by decide +kernel, rfl, by decide +kernel, by decide +kernel⟩
theorem ok_J5 {f : Addr} {fd : FuncData} (F : Fun K "rounds_of" "JumpOff.rounds_of" (sJ 5) f fd) (T : Txt K mg cA cJ cC cL) : FnOk P w K mg base CX0 1 f fd ["self", "number"] (spJRounds cJ) := by
  refine F.ok scJ5 (fun vs H Q E h => ?_) (fun cdv A outer s H vs Q E hr h => ?_)
  · obtain ⟨ja, ol, cl, dl, j, i, rfl, _⟩ := h
    rfl
  · obtain ⟨ja, ol, cl, dl, j, i, rfl, hj, k⟩ := h
    refine ⟨_, pss_one (ps_ret (pe_dget2 (hu_of hr) (pe_fld (pv 0) rfl) (pv 1) pe_int ⟨rfl, rfl, rfl, rfl⟩)), ?_⟩
    obtain ⟨dx, ho⟩ := hj.obj
    obtain ⟨kvs, hd, hc⟩ := hj.come
    refine ⟨_, rfl, ja, cJ, dx, _, _, rfl, ho, T.clJ, T.jCome, fJ_come, dl, rfl, .inl ⟨kvs, .inl hd⟩, _, rfl, _, DGet.k (k := Sum.inl (i : Int)) hd, ?_⟩
    have e := hc.1 i
    exact e.symm ▸ k
end
end Jp

set_option Elab.async false
set_option maxRecDepth 100000
set_option maxHeartbeats 4000000
/-! The class JumpOff: a round's end, a jump. -/
namespace Jp
open PySem PySem.Spec PyProof.Rows L2 LamX Jl
open Jc (JO cleared)
abbrev bump := Jc.bump
section
variable {P : Program} {w : World} {K : PySem.W.Frag} {mg : Str → Option Value} {base : Heap} {cA cJ cC cL : Addr}
theorem JoAt.come_to {H : Hp} {ja ol cl dl : Addr} {j : JO} {f : Nat → Nat} {kvs : List (Key × V)} (h : JoAt cJ H ja ol cl dl j) (hc : ComeIs kvs f) (nd : dl ≠ ja) (n2 : dl ≠ ol) (n3 : dl ≠ cl) : JoAt cJ (upd H dl (.dK kvs)) ja ol cl dl { j with come := f } := by
  obtain ⟨dx, ho⟩ := h.obj
  exact ⟨⟨dx, by rw [upd_ne nd.symm]; exact ho⟩, by rw [upd_ne n2.symm]; exact h.off, by rw [upd_ne n3.symm]; exact h.clr, ⟨kvs, upd_same, hc⟩, h.nd, h.small, h.ne, h.len⟩
theorem bump_snoc {l : List Nat} {f : Nat → Nat} {i : Nat} (h : i ∉ l) : (fun k => if k = i then bump l f i + 1 else bump l f k) = bump (l ++ [i]) f := by
  funext k
  unfold bump Jc.bump
  by_cases c : k = i
  · subst c
    rw [if_pos rfl, if_neg h, if_pos (by simp)]
  · rw [if_neg c]
    by_cases d : k ∈ l
    · rw [if_pos d, if_pos (List.mem_append_left _ d)]
    · rw [if_neg d, if_neg (by simp [d, c])]
theorem bump_nil {f : Nat → Nat} : bump [] f = f := by
  funext k
  unfold bump Jc.bump
  rw [if_neg (by simp)]
theorem cleared_take {l : List Nat} {c : List Bool} {i a : Nat} {b : Bool} (h1 : l[i]? = some a) (h2 : c[i]? = some b) : cleared (l.take (i + 1)) (c.take (i + 1)) = cleared (l.take i) (c.take i) ++ (if b = true then [a] else []) := by
  unfold cleared
  have e1 : l.take (i + 1) = l.take i ++ [a] := by rw [List.take_add_one, h1]; rfl
  have e2 : c.take (i + 1) = c.take i ++ [b] := by rw [List.take_add_one, h2]; rfl
  have hl : (l.take i).length = (c.take i).length := by
    have := (List.getElem?_eq_some_iff.mp h1).1
    have := (List.getElem?_eq_some_iff.mp h2).1
    rw [List.length_take, List.length_take]
    omega
  rw [e1, e2, List.zip_append hl, List.filter_append, List.map_append]
  cases b <;> rfl
theorem cleared_len (l : List Nat) (c : List Bool) : (cleared l c).length ≤ l.length := (Jc.cleared_sub l c).length_le
def rAddI : R2 := rI0 fun i j => .int (i + j)
/-- for number in self.still_in: self.come_through[number] = self.rounds_of(number) + 1 -/
theorem loop_come {H2 : Hp} {ja ol cl dl : Addr} {j : JO} {Dn : Ends} {v1 v2 v3 : Option V} (T : Txt K mg cA cJ cC cL) (hj : JoAt cJ H2 ja ol cl dl j)
    (hd : ∀ H' v1', JoAt cJ H' ja ol cl dl { j with come := bump j.off j.come } → (∀ x o, H2 x = some o → x ≠ dl → H' x = some o) → Dn.nx [some (.ref ja), v1', v2, v3] H') :
    tFor (iList K (tFld K (tVar 0) "still_in")) (gName 1) (sDPut (tFld K (tVar 0) "come_through") (tVar 1) (tOp rAddI (tMeth cJ "rounds_of" (spJRounds cJ) [] E0 (tVar 0) (tCons (tVar 1) tNil)) (tC (.int 1)))) Dn [some (.ref ja), v1, v2, v3] H2 := by
  obtain ⟨dx, ho⟩ := hj.obj
  obtain ⟨kvs0, hk0, _⟩ := hj.come
  have n1 : dl ≠ ja := ne_of hk0 ho (by intro z; cases z)
  have n2 : dl ≠ ol := ne_of hk0 hj.off (by intro z; cases z)
  have n3 : dl ≠ cl := ne_of hk0 hj.clr (by intro z; cases z)
  refine ⟨_, rfl, ja, cJ, dx, _, _, rfl, ho, T.clJ, T.jIn, fJ_in, ol, rfl, ⟨_, SqL.of hj.off⟩, ?_⟩
  refine for_list (K := K) (a := ol) (xs := j.off.map nV) (fun i σ H' => JoAt cJ H' ja ol cl dl { j with come := bump (j.off.take i) j.come } ∧ (∀ x o, H2 x = some o → x ≠ dl → H' x = some o) ∧ ∃ v, σ = [some (.ref ja), v, v2, v3])
    ⟨by rw [List.take_zero, bump_nil]; exact hj, fun x o e _ => e, v1, rfl⟩ (fun i σ H' _ ⟨a, _⟩ => SqL.of a.off) ?_ ?_
  · rintro i y σ H' hi ⟨hji, fr, v, rfl⟩
    obtain ⟨n, hn, rfl⟩ := map_get hi
    obtain ⟨dx', ho'⟩ := hji.obj
    obtain ⟨kvs, hk, hc⟩ := hji.come
    have hnew : n ∉ j.off.take i := fun hm => by
      obtain ⟨q, hq, e⟩ := List.mem_iff_getElem.mp hm
      have hq2 : q < i := by rw [List.length_take] at hq; omega
      have e2 : j.off[q]? = some n := by
        rw [List.getElem_take] at e
        rw [← e]
        exact List.getElem?_eq_getElem _
      have := nd_ix hj.nd e2 hn
      omega
    have hsm : n < 20 := hj.small n (List.mem_of_getElem? hn)
    refine ⟨_, rfl, ja, dx', _, rfl, ho', rfl, _, rfl, ja, ol, cl, dl, _, n, rfl, hji, ?_⟩
    refine ⟨_, _, rfl, rfl, ?_⟩
    refine ⟨_, rfl, ja, cJ, dx', _, _, rfl, ho', T.clJ, T.jCome, fJ_come, _, rfl, dl, _, rfl, DPut.k (k := Sum.inl (n : Int)) hk (by have := hc.len; show _ < 16777216; omega), ?_⟩
    have hc2 := hc.put (v := bump (j.off.take i) j.come n + 1) hsm
    rw [bump_snoc hnew] at hc2
    have et : j.off.take (i + 1) = j.off.take i ++ [n] := by rw [List.take_add_one, hn]; rfl
    rw [← et] at hc2
    refine ⟨hji.come_to hc2 n1 n2 n3, fun x o e hx => ?_, _, rfl⟩
    rw [upd_ne hx]
    exact fr x o e hx
  · rintro σ H' ⟨hji, fr, v, rfl⟩
    rw [List.length_map, List.take_length] at hji
    exact hd H' v hji fr
theorem scJ4 : FnScope ["self", "number", "cleared", "clears"] ["self"] (defScope (sJ 4)) := ⟨rfl, rfl, rfl, by decide +kernel, rfl, by decide +kernel, by decide +kernel⟩
theorem ok_J4 {f : Addr} {fd : FuncData} (F : Fun K "end_round" "JumpOff.end_round" (sJ 4) f fd) (T : Txt K mg cA cJ cC cL) : FnOk P w K mg base CX0 2 f fd ["self"] (spJEnd cJ) := by
  obtain ⟨f5, fd5, F5, b5, m5⟩ := T.J5
  have G5 : FnOk P w K mg base CX0 1 f5 fd5 ["self", "number"] (spJRounds cJ) := ok_J5 F5 T
  refine F.ok scJ4 (fun vs H Q E h => ?_) (fun cdv A outer s H vs Q E hr h => ?_)
  · obtain ⟨ja, ol, cl, dl, j, rfl, _⟩ := h
    rfl
  · obtain ⟨ja, ol, cl, dl, j, rfl, hj, hfull, k⟩ := h
    refine ⟨_, pss_cons (ps_setLc (i := 2) (own := [("number", 1), ("clears", 3)]) (g := gTup K 2 (gCons (gName 1) (gCons (gName 3) gNil))) (by rfl) scJ4.nd rfl rfl (sw_true rfl rfl rfl (by decide +kernel)) (pi_zip (by rfl) T.zip (pa_cons (pe_fld (pv 0) rfl) (pa_cons (pe_fld (pv 0) rfl) pa_nil))) (blkOk_by (own := [("number", 1), ("clears", 3)]) (N := ["self", "number", "cleared", "clears"]) (sc := defScope (sJ 4)) (by decide +kernel))
        (fun _ _ _ _ _ => pg_tup rfl (pgs_cons (pg_name (i := 1) scJ4.nd rfl (Or.inl rfl)) (pgs_cons (pg_name (i := 3) scJ4.nd rfl (Or.inl rfl)) pgs_nil)))
        (fun _ _ _ _ _ => pts_one (pt_val (pv 3)))
        (fun _ _ _ _ _ => pv 1))
      (pss_cons (ps_fld (pv 0) (pe_lst pa_nil) rfl)
      (pss_cons (ps_if (pt_cmpR op_eq (pe_callB call_len_seq (by rfl) T.len PySem.boot_len (pa_cons (pv 2) pa_nil)) pe_int (nomark _))
        (pss_one (ps_fld (pv 0) (pe_callB (call_max2 rfl) (by rfl) T.max boot_max1 (pa_cons pe_int (pa_cons (pe_op op_sub (pe_fld (pv 0) rfl) (pe_fld (pv 0) rfl)) pa_nil))) rfl))
        (pss_cons (ps_fld (pv 0) (pv 2) rfl) (pss_one (ps_fld (pv 0) (pe_op op_add (pe_fld (pv 0) rfl) (pe_fld (pv 0) rfl)) rfl))))
      (pss_one (ps_for PassesOwn.never rfl (pi_list (pe_fld (pv 0) rfl)) (pg_name (i := 1) scJ4.nd rfl (Or.inl rfl))
        (pss_one (ps_dput (hu_of hr) (pe_fld (pv 0) rfl) (pv 1) (pe_op op_add (pe_meth (pv 0) T.clJ m5 G5 hr b5 .nil pass0 (pa_cons (pv 1) pa_nil)) pe_int) rfl)))))), ?_⟩
    obtain ⟨dx, ho⟩ := hj.obj
    obtain ⟨kvs, hk, hc⟩ := hj.come
    have hlen20 : j.off.length ≤ 20 := nodup_len 20 _ hj.nd hj.small
    refine ⟨_, rfl, ja, cJ, dx, _, _, rfl, ho, T.clJ, T.jIn, fJ_in, _, rfl, ja, cJ, dx, _, _, rfl, ho, T.clJ, T.jClears, fJ_clr, ol, cl, _, _, rfl, SqL.of hj.off, SqL.of hj.clr, fun D hD => ?_⟩
    refine lc_it (walk_zip (K := K) (a := ol) (b := cl) (xs := j.off.map nV) (ys := j.clears.map V.bl) (n := j.off.length) (by rw [List.length_map, List.length_map]; omega)) (fun i H' => (∀ b o, H b = some o → H' b = some o) ∧ H' D = some (.lst ((cleared (j.off.take i) (j.clears.take i)).map nV)))
      ⟨fun b o e => by rw [upd_ne (ne_of_none e hD)]; exact e, upd_same⟩ (fun i H' _ ⟨s, _⟩ => ⟨SqL.of (s _ _ hj.off), SqL.of (s _ _ hj.clr)⟩) ?_ ?_
    · rintro i v H1 H2 hi ⟨sm, hD1⟩ ⟨t, x, y, rfl, ht, rfl, hx, hy⟩
      obtain ⟨n, hn, rfl⟩ := map_get hx
      obtain ⟨b, hb, rfl⟩ := map_get hy
      refine ⟨t, _, rfl, SqT.of upd_same, rfl, _, _, rfl, _, _, rfl, rfl, rfl, ?_⟩
      refine ⟨_, rfl, b, rfl, ?_⟩
      have hDt : D ≠ t := ne_of_none hD1 ht
      have hcl := cleared_take hn hb
      cases b with
      | true =>
        refine iteT rfl ?_
        refine ⟨_, rfl, _, by rw [upd_ne hDt]; exact hD1, ?_, fun c o e => ?_, ?_⟩
        · rw [List.length_map]
          have := cleared_len (j.off.take i) (j.clears.take i)
          rw [List.length_take] at this
          show _ < 16777216
          omega
        · rw [upd_ne (ne_of_none e hD), upd_ne (ne_of_none (sm c o e) ht)]
          exact sm c o e
        · rw [upd_same, hcl, List.map_append]
          rfl
      | false =>
        refine iteF rfl ?_
        refine ⟨fun c o e => ?_, ?_⟩
        · rw [upd_ne (ne_of_none (sm c o e) ht)]
          exact sm c o e
        · rw [upd_ne hDt, hcl]
          simpa using hD1
    · rintro H1 ⟨sm, hD1⟩
      rw [List.take_length, List.take_of_length_le (by omega)] at hD1
      -- self.round_clears = []
      refine ⟨Nat.zero_le _, fun c2 hc2 => ?_⟩
      have nc2 : ∀ b o, H1 b = some o → b ≠ c2 := fun b o e => ne_of_none e hc2
      have ho1 := sm _ _ ho
      refine ⟨_, rfl, ja, cJ, dx, _, rfl, by rw [upd_ne (nc2 _ _ ho1)]; exact ho1, T.clJ, T.jClears, by show 5 < 1000; decide, ?_⟩
      rw [fJ_putClr]
      have n1 : dl ≠ ja := ne_of hk ho (by intro z; cases z)
      have n4 : D ≠ ja := ne_of hD1 ho1 (by intro z; cases z)
      have n5 : D ≠ dl := ne_of hD1 (sm _ _ hk) (by intro z; cases z)
      have n6 : ol ≠ ja := ne_of hj.off ho (by intro z; cases z)
      -- what stands from here on but at ja
      have st : ∀ b o, H1 b = some o → b ≠ ja → ∀ u, (upd (upd (upd H1 c2 (.lst [])) ja (.ins cJ dx (fJ ol j.bar j.turn c2 dl))) ja u) b = some o := fun b o e hb u => by
        rw [upd_ne hb, upd_ne hb, upd_ne (nc2 _ _ e)]; exact e
      have hc2n : H c2 = none := by
        cases e : H c2 with
        | none => rfl
        | some o => rw [sm _ _ e] at hc2; cases hc2
      have jac2 : c2 ≠ ja := (nc2 _ _ ho1).symm
      have fin : ∀ (o : HO) (H' : Hp), (∀ x u, (upd (upd (upd H1 c2 (.lst [])) ja (.ins cJ dx (fJ ol j.bar j.turn c2 dl))) ja o) x = some u → x ≠ dl → H' x = some u) → JFrame ja cl dl H H' := fun o H' fr b u e b1 b2 b3 => fr b u (st b u (sm b u e) b1 o) b3
      refine ⟨_, rfl, D, _, rfl, .inl (SqL.of (by rw [upd_ne n4, upd_ne (nc2 _ _ hD1)]; exact hD1)), rfl, _, rfl, ?_⟩
      by_cases hg : cleared j.off j.clears = []
      · refine iteT (decide_eq_true (by rw [hg]; rfl)) ?_
        refine ⟨_, rfl, ja, cJ, dx, _, _, rfl, upd_same, T.clJ, T.jBar, fJ_bar, _, rfl, ja, cJ, dx, _, _, rfl, upd_same, T.clJ, T.jTurn, fJ_turn, _, _, rfl, rfl, _, _, rfl, ?_⟩
        refine ⟨_, rfl, ja, cJ, dx, _, rfl, upd_same, T.clJ, T.jBar, by show 5 < 1000; decide, ?_⟩
        have eb : (V.int (if (j.bar : Int) - (j.turn : Int) > 0 then (j.bar : Int) - (j.turn : Int) else 0)) = nV (j.bar - j.turn) := by
          congr 1
          split <;> omega
        rw [eb, fJ_putBar]
        have hj2 : JoAt cJ (upd (upd (upd H1 c2 (.lst [])) ja (.ins cJ dx (fJ ol j.bar j.turn c2 dl))) ja (.ins cJ dx (fJ ol (j.bar - j.turn) j.turn c2 dl))) ja ol c2 dl { j with clears := [], bar := j.bar - j.turn } :=
          ⟨⟨dx, upd_same⟩, st _ _ (sm _ _ hj.off) n6 _, by rw [upd_ne jac2, upd_ne jac2, upd_same]; rfl, ⟨kvs, st _ _ (sm _ _ hk) n1 _, hc⟩, hj.nd, hj.small, nc2 _ _ (sm _ _ hj.off), Nat.zero_le _⟩
        refine loop_come T hj2 fun H' v1' hj3 fr => ?_
        refine k H' ol c2 ?_ (.inl rfl) hc2n (fin _ H' fr)
        have ee : j.endRound = { j with clears := [], bar := j.bar - j.turn, come := bump j.off j.come } := by
          unfold JO.endRound
          simp only []
          rw [if_pos hg]
        rw [ee]
        exact hj3
      · refine iteF (decide_eq_false fun z => hg ?_) ?_
        · have z := V.int.inj z
          rw [List.length_map] at z
          exact List.length_eq_zero_iff.mp (by omega)
        refine ⟨_, rfl, _, rfl, ja, cJ, dx, _, rfl, upd_same, T.clJ, T.jIn, by show 5 < 1000; decide, ?_⟩
        rw [fJ_putIn]
        refine ⟨_, rfl, ja, cJ, dx, _, _, rfl, upd_same, T.clJ, T.jBar, fJ_bar, _, rfl, ja, cJ, dx, _, _, rfl, upd_same, T.clJ, T.jTurn, fJ_turn, _, _, rfl, rfl, ?_⟩
        refine ⟨_, rfl, ja, cJ, dx, _, rfl, upd_same, T.clJ, T.jBar, by show 5 < 1000; decide, ?_⟩
        have eb : (V.int ((j.bar : Int) + (j.turn : Int))) = nV (j.bar + j.turn) := rfl
        dsimp only
        rw [eb, fJ_putBar, upd_upd]
        have hsub := Jc.cleared_sub j.off j.clears
        have hj2 : JoAt cJ (upd (upd (upd H1 c2 (.lst [])) ja (.ins cJ dx (fJ ol j.bar j.turn c2 dl))) ja (.ins cJ dx (fJ D (j.bar + j.turn) j.turn c2 dl))) ja D c2 dl { j with off := cleared j.off j.clears, clears := [], bar := j.bar + j.turn } :=
          ⟨⟨dx, upd_same⟩, st _ _ hD1 n4 _, by rw [upd_ne jac2, upd_ne jac2, upd_same]; rfl, ⟨kvs, st _ _ (sm _ _ hk) n1 _, hc⟩, hj.nd.sublist hsub, fun i hi => hj.small i (hsub.subset hi), nc2 _ _ hD1, Nat.zero_le _⟩
        refine loop_come T hj2 fun H' v1' hj3 fr => ?_
        refine k H' D c2 ?_ (.inr hD) hc2n (fin _ H' fr)
        have ee : j.endRound = { j with off := cleared j.off j.clears, clears := [], bar := j.bar + j.turn, come := bump (cleared j.off j.clears) j.come } := by
          unfold JO.endRound
          simp only []
          rw [if_neg hg]
        rw [ee]
        exact hj3
end
end Jp

set_option Elab.async false
set_option maxRecDepth 100000
set_option maxHeartbeats 4000000
/-! The class JumpOff: a jump. The ranking. -/
namespace Jp
open PySem PySem.Spec PyProof.Rows L2 LamX Jl
open Jc (JO cleared)
/-! ### a def whose code object is known -/
def FunC (K : PySem.W.Frag) (x qual : Str) (st : Stmt) (f : Addr) (fd : FuncData) (c : Addr) : Prop :=
  ∃ (oc : Value) (od : Option Addr) (kV doc pm : Value) (an : Option Addr) (ct : Value) (osl : Array (Option Value)),
    fd = PySem.W.fnOf x qual (defArgs st) (defBody st) (defScope st) .none kV doc pm an (.ref c) ct ∧ K.lookup f = some ⟨oc, od, .func fd, osl⟩ ∧ PySem.W.codeIn K (.ref c) qual = true
def q1 : Str := (("placed" : Str) ++ (".<locals>." : Str)) ++ ("<lambda>" : Str)
def q2 : Str := (("Competition.who_is_up" : Str) ++ (".<locals>." : Str)) ++ ("<lambda>" : Str)
abbrev TTof (P1 P2 : Addr) : List (Addr × Str) := [(P1, q1), (P2, q2)]
structure Lam (K : PySem.W.Frag) (mg : Str → Option Value) (base : Heap) (cC P1 P2 : Addr) : Prop where
  ne : P1 ≠ P2
  pl : ∃ c f fd, FunC K "placed" "placed" (top 10) f fd c ∧ Binds K fd ["standings"] [] ∧ mg "placed" = some (.ref f) ∧ PySem.W.keepIn K (.ref f) = true ∧ TabB base mg c P1
  up : ∃ c f fd, FunC K "who_is_up" "Competition.who_is_up" (sC 8) f fd c ∧ Binds K fd ["self"] [] ∧ Meth K cC "who_is_up" f ∧ TabB base mg c P2
section
variable {P : Program} {w : World} {K : PySem.W.Frag} {mg : Str → Option Value} {base : Heap} {cA cJ cC cL P1 P2 : Addr} {TT : List (Addr × Str)}
theorem FunC.ok {x qual : Str} {st : Stmt} {f c : Addr} {fd : FuncData} {N ps : List Str} {k : Nat} {sp : Sp} (F : FunC K x qual st f fd c) (S : FnScope N ps (defScope st)) (len : ∀ vs H Q E, sp vs H Q E → vs.length = ps.length)
    (hbody : ∀ (A : Around) (outer : List Env) (s : Shared) (H : Hp) (vs : List V) (Q : VK) (E : XK), Room k (A.deeper (envOfC qual (defScope st) s.heap.objs.size f (.ref c))) → sp vs H Q E →
      ∃ t, PSs (cxOf CX0 P w K mg base N qual (defScope st) f (.ref c) A outer s H E).nox (defBody st) t ∧ t { nx := fun _ H' => Q .non H', rt := Q } (L2.start N vs) H) : FnOk P w K mg base CX0 (k + 1) f fd ps sp := by
  obtain ⟨oc, od, kV, doc, pm, an, ct, osl, rfl, lk, hcd⟩ := F
  refine fn_of lk hcd S len fun A outer s H vs Q E hr hsp => ?_
  obtain ⟨t, h, q⟩ := hbody A outer s H vs Q E hr hsp
  exact ⟨t, h.nox, q⟩
theorem FunC.binds {x qual : Str} {st : Stmt} {f c : Addr} {fd : FuncData} {ps : List Str} (F : FunC K x qual st f fd c)
    (h : ∀ (kV doc pm : Value) (an : Option Addr) (cdv ct : Value) (us : List Value), us.length = ps.length → bindArgs (PySem.W.fnOf x qual (defArgs st) (defBody st) (defScope st) .none kV doc pm an cdv ct) ⟨us, []⟩ = pure (ps.zip us)) : L2.Binds K fd ps [] := by
  obtain ⟨oc, od, kV, doc, pm, an, ct, osl, rfl, lk, hcd⟩ := F
  exact .all (h kV doc pm an (.ref c) ct)
theorem scJ3 : FnScope ["self", "is_cleared"] ["self", "is_cleared"] (defScope (sJ 3)) := ⟨rfl, rfl, rfl, by decide +kernel, rfl, by decide +kernel, by decide +kernel⟩
theorem ok_J3 {f : Addr} {fd : FuncData} (F : Fun K "take_jump" "JumpOff.take_jump" (sJ 3) f fd) (T : Txt K mg cA cJ cC cL) : FnOk P w K mg base CX0 3 f fd ["self", "is_cleared"] (spJTake cJ) := by
  obtain ⟨f4, fd4, F4, b4, m4⟩ := T.J4
  have G4 : FnOk P w K mg base CX0 2 f4 fd4 ["self"] (spJEnd cJ) := ok_J4 F4 T
  refine F.ok scJ3 (fun vs H Q E h => ?_) (fun cdv A outer s H vs Q E hr h => ?_)
  · obtain ⟨ja, ol, cl, dl, j, c, rfl, _⟩ := h
    rfl
  · obtain ⟨ja, ol, cl, dl, j, c, rfl, hj, hlt, k⟩ := h
    refine ⟨_, pss_cons (ps_expr (pe_bm PySem.F.plainAttrs_list PySem.F.slot_list_append PySem.F.type_list_append mt_append (pe_fld (pv 0) rfl) (pa_cons (pv 1) pa_nil)))
      (pss_one (ps_if (pt_cmpR op_eq (pe_callB call_len_seq (by rfl) T.len PySem.boot_len (pa_cons (pe_fld (pv 0) rfl) pa_nil)) (pe_callB call_len_seq (by rfl) T.len PySem.boot_len (pa_cons (pe_fld (pv 0) rfl) pa_nil)) (nomark _))
        (pss_one (ps_expr (pe_meth0 (pv 0) T.clJ m4 G4 hr b4 .nil pass0))) pss_nil)), ?_⟩
    obtain ⟨dx, ho⟩ := hj.obj
    obtain ⟨kvs, hk, hc⟩ := hj.come
    have hlen20 : j.off.length ≤ 20 := nodup_len 20 _ hj.nd hj.small
    have n1 : ja ≠ cl := ne_of ho hj.clr (by intro z; cases z)
    have n2 : dl ≠ cl := ne_of hk hj.clr (by intro z; cases z)
    refine ⟨_, rfl, ja, cJ, dx, _, _, rfl, ho, T.clJ, T.jClears, fJ_clr, .inl ⟨rfl, _, SqL.of hj.clr⟩, _, rfl, cl, _, _, rfl, rfl, hj.clr, ?_, ?_⟩
    · rw [List.length_map]
      show _ < 16777216
      omega
    have hj1 : JoAt cJ (upd H cl (.lst (j.clears.map V.bl ++ [.bl c]))) ja ol cl dl { j with clears := j.clears ++ [c] } :=
      ⟨⟨dx, by rw [upd_ne n1]; exact ho⟩, by rw [upd_ne hj.ne]; exact hj.off, by rw [upd_same, List.map_append]; rfl, ⟨kvs, by rw [upd_ne n2]; exact hk, hc⟩, hj.nd, hj.small, hj.ne, by show (j.clears ++ [c]).length ≤ j.off.length; rw [List.length_append]; exact hlt⟩
    obtain ⟨dx1, ho1⟩ := hj1.obj
    have fr1 : JFrame ja cl dl H (upd H cl (.lst (j.clears.map V.bl ++ [.bl c]))) := fun b o e _ hb _ => by rw [upd_ne hb]; exact e
    refine ⟨_, rfl, ja, cJ, dx1, _, _, rfl, ho1, T.clJ, T.jClears, fJ_clr, cl, _, rfl, .inl (SqL.of hj1.clr), ?_⟩
    refine ⟨_, rfl, ja, cJ, dx1, _, _, rfl, ho1, T.clJ, T.jIn, fJ_in, ol, _, rfl, .inl (SqL.of hj1.off), rfl, _, rfl, ?_⟩
    have hl1 : ((j.clears ++ [c]).map V.bl).length = (j.clears ++ [c]).length := List.length_map ..
    have hl2 : (j.off.map nV).length = j.off.length := List.length_map ..
    by_cases q : (j.clears ++ [c]).length = j.off.length
    · refine iteT (decide_eq_true (congrArg V.int ?_)) ?_
      · show (((j.clears ++ [c]).map V.bl).length : Int) = ((j.off.map nV).length : Int)
        rw [hl1, hl2, q]
      refine ⟨_, rfl, ja, dx1, _, rfl, ho1, rfl, ja, ol, cl, dl, _, rfl, hj1, q, fun H' ol' cl' hj' h1 h2 fr => ?_⟩
      have e : j.take c = ({ j with clears := j.clears ++ [c] } : JO).endRound := by
        unfold JO.take
        simp only []
        rw [if_pos q]
      have hn : ∀ b, (upd H cl (.lst (j.clears.map V.bl ++ [.bl c]))) b = none → H b = none := fun b z => by
        by_cases hb : b = cl
        · rw [hb, upd_same] at z; cases z
        · rw [upd_ne hb] at z; exact z
      refine k H' ol' cl' (by rw [e]; exact hj') (h1.elim .inl fun z => .inr (hn _ z)) (.inr (hn _ h2)) fun b o e1 b1 b2 b3 => fr b o (fr1 b o e1 b1 b2 b3) b1 b2 b3
    · refine iteF (decide_eq_false fun z => q ?_) ?_
      · have z := V.int.inj z
        have z : (((j.clears ++ [c]).map V.bl).length : Int) = ((j.off.map nV).length : Int) := z
        rw [hl1, hl2] at z
        omega
      have e : j.take c = { j with clears := j.clears ++ [c] } := by
        unfold JO.take
        simp only []
        rw [if_neg q]
      exact k _ ol cl (by rw [e]; exact hj1) (.inl rfl) (.inl rfl) fr1
/-! ### who's ahead -/
def standL (x : Kg63.Athlete) (r : Nat) : List Int := [-(x.best : Int), (Kg63.failsAt x x.best : Int), (Kg63.failsTo x x.best : Int), -(r : Int)]
def spStanding (T : List (Addr × Str)) (cA : Addr) : Sp := fun vs H Q _ => ∃ N a l x r, vs = [.ref a, nV r] ∧ AthAt N cA H a l x ∧ ∀ H' t, Go T H H' → H t = none → H' t = some (.tup ((standL x r).map V.int)) → Q (.ref t) H'
theorem scStanding : FnScope ["athlete", "rounds", "best"] ["athlete", "rounds"] (defScope (top 9)) := ⟨rfl, rfl, rfl, by decide +kernel, rfl, by decide +kernel, by decide +kernel⟩
theorem ok_standing {f : Addr} {fd : FuncData} (F : Fun K "standing" "standing" (top 9) f fd) (T : Txt K mg cA cJ cC cL) : FnOk P w K mg base CX0 2 f fd ["athlete", "rounds"] (spStanding TT cA) := by
  obtain ⟨f7, fd7, F7, b7, m7⟩ := T.A7
  obtain ⟨f5, fd5, F5, b5, m5⟩ := T.A5
  obtain ⟨f6, fd6, F6, b6, m6⟩ := T.A6
  have G7 : FnOk P w K mg base CX0 1 f7 fd7 ["self"] (spA TT cA fun x => .int (x.best : Int)) := ok_A7 F7 T
  have G5 : FnOk P w K mg base CX0 1 f5 fd5 ["self", "height"] (spA1 TT cA fun x h => .int (Kg63.failsAt x h : Int)) := ok_A5 F5 T
  have G6 : FnOk P w K mg base CX0 1 f6 fd6 ["self", "height"] (spA1 TT cA fun x h => .int (Kg63.failsTo x h : Int)) := ok_A6 F6 T
  refine F.ok scStanding (fun vs H Q E h => ?_) (fun cdv A outer s H vs Q E hr h => ?_)
  · obtain ⟨N, a, l, x, r, rfl, _⟩ := h
    rfl
  · obtain ⟨N, a, l, x, r, rfl, ha, k⟩ := h
    refine ⟨_, pss_cons (ps_set (i := 2) scStanding.nd rfl (.inl rfl) (pe_meth0 (pv 0) T.clA m7 G7 hr b7 .nil pass0))
      (pss_one (ps_ret (pe_tup (pa_cons (pe_un un_neg (pv 2)) (pa_cons (pe_meth (pv 0) T.clA m5 G5 hr b5 .nil pass0 (pa_cons (pv 2) pa_nil)) (pa_cons (pe_meth (pv 0) T.clA m6 G6 hr b6 .nil pass0 (pa_cons (pv 2) pa_nil)) (pa_cons (pe_un un_neg (pv 1)) pa_nil))))))), ?_⟩
    obtain ⟨dx, ho⟩ := ha.obj
    refine ⟨_, rfl, a, dx, _, rfl, ho, rfl, N, a, l, x, rfl, ha, fun H1 g1 => ?_⟩
    have ha1 := ha.go g1
    obtain ⟨dx1, ho1⟩ := ha1.obj
    refine ⟨_, rfl, _, rfl, _, rfl, a, dx1, _, rfl, ho1, rfl, _, rfl, N, a, l, x, x.best, rfl, ha1, fun H2 g2 => ?_⟩
    have ha2 := ha1.go g2
    obtain ⟨dx2, ho2⟩ := ha2.obj
    refine ⟨_, rfl, a, dx2, _, rfl, ho2, rfl, _, rfl, N, a, l, x, x.best, rfl, ha2, fun H3 g3 => ?_⟩
    refine ⟨_, rfl, _, rfl, by show 4 ≤ sizeLine; decide, fun t ht => ?_⟩
    have g := (g1.trans g2).trans g3
    exact k _ t (g.new ht) (g.free ht) upd_same
end
end Jp

set_option Elab.async false
set_option maxRecDepth 100000
set_option maxHeartbeats 4000000
/-! placed: in order, with the places. -/
namespace Jp
open PySem PySem.Spec PyProof.Rows L2 LamX Jl
def pairL (q : Int × Nat) : List V := [.int q.1, nV q.2]
def PairAt (H : Hp) (p : Addr) (q : Int × Nat) : Prop := H p = some (.tup (pairL q))
def placedL (xs : List Ent) : List (Int × Nat) := (xs.mergeSort (PySem.W.dataLe false Ent.key)).map fun x => (x.n, (xs.filter fun y => HT.lexLt y.k x.k).length + 1)
def spPlaced (T : List (Addr × Str)) : Sp := fun vs H Q _ => ∃ d xs, vs = [.ref d] ∧ H d = some (.dK (xs.map fun x => (Sum.inl x.n, V.ref x.a))) ∧ (∀ x ∈ xs, H x.a = some (.tup (x.k.map V.int)) ∧ x.k.length = 4) ∧ (xs.map Ent.n).Nodup ∧ xs.length ≤ 20 ∧ Tabs T H ∧
  ∀ H' l ps, Go T H H' → H l = none → H' l = some (.lst (ps.map V.ref)) → Paired (PairAt H') ps (placedL xs) → Q (.ref l) H'
section
variable {P : Program} {w : World} {K : PySem.W.Frag} {mg : Str → Option Value} {base : Heap} {cA cJ cC cL P1 P2 : Addr}
theorem scPlaced : FnScope ["standings", "told", "number", "ahead", "other"] ["standings"] (defScope (top 10)) := ⟨rfl, rfl, rfl, by decide +kernel, rfl, by decide +kernel, by decide +kernel⟩
theorem room3 {k : Nat} {A : Around} (hr : Room (k + 2) A) : A.in1.in1.in1.units + 16 * (0 + 1) + 200 < cLine := by
  have h := hr.un
  have e : A.in1.in1.in1.units = A.units + 3 := rfl
  omega
theorem vmem {kvs : List (Key × V)} {xs : List Ent} {x : Ent} (hn : (xs.map Ent.n).Nodup) (hx : x ∈ xs) (e : kvs = xs.map fun x => ((Sum.inl x.n : Key), V.ref x.a)) : valV kvs (Sum.inl x.n) = some (.ref x.a) := by
  rw [e]
  exact valV_nodup hn hx
theorem ok_placed {f c : Addr} {fd : FuncData} (F : FunC K "placed" "placed" (top 10) f fd c) (T : Txt K mg cA cJ cC cL) (TB : TabB base mg c P1) (hne : P1 ≠ P2) : FnOk P w K mg base CX0 3 f fd ["standings"] (spPlaced (TTof P1 P2)) := by
  refine F.ok scPlaced (fun vs H Q E h => ?_) (fun A outer s H vs Q E hr h => ?_)
  · obtain ⟨d, xs, rfl, _⟩ := h
    rfl
  · obtain ⟨d, xs, rfl, hd, htup, hnd, hlen, htab, k⟩ := h
    have hu2 : ∀ p ∈ TTof P1 P2, p.1 = P1 → p.2 = q1 := fun p hp e => by
      rcases List.mem_cons.mp hp with z | z
      · rw [z]
      · rw [List.mem_singleton.mp z] at e
        exact absurd e.symm hne
    have hrr : Room (0 + 1) (A.deeper (envOfC "placed" (defScope (top 10)) s.heap.objs.size f (.ref c))).in1.in1.in1 := ⟨hr.hd, (hr.mono (by decide : 0 + 1 ≤ 2)).dp, room3 hr⟩
    refine ⟨_, pss_cons (ps_set (i := 1) scPlaced.nd rfl (.inl rfl) (pe_lst pa_nil))
      (pss_cons (ps_for PassesOwn.never rfl (pi_list (pe_sortD (i := 0) (len := 4) (p := "ranked") (T := TTof P1 P2) TB rfl (List.mem_cons_self ..) hu2 hrr T.sorted (pa_cons (pv 0) pa_nil) rfl (L := show lamPB (defScope (top 10)) _ _ = true by decide +kernel))) (pg_name (i := 2) scPlaced.nd rfl (Or.inr rfl))
        (pss_cons (ps_lock (ps_setLc (i := 3) (own := [("other", 4)]) (g := gName 4) (by rfl) scPlaced.nd rfl rfl (sw_true rfl rfl rfl (by decide +kernel)) (pi_keys (pv 0)) (blkOk_by (own := [("other", 4)]) (N := ["standings", "told", "number", "ahead", "other"]) (sc := defScope (top 10)) (by decide +kernel))
          (fun _ _ _ _ _ => pg_name (i := 4) scPlaced.nd rfl (Or.inl rfl))
          (fun _ _ _ _ _ => pts_one (pt_cmpR (op_ltT hr.units0 : OpR _ _ (rLtT K)) (pe_dget (hu_of hr) (pv 0) (pv 4) (fun _ _ => rfl)) (pe_dget (hu_of hr) (pv 0) (pv 2) (fun _ _ => rfl)) (nomark _)))
          (fun _ _ _ _ _ => pv 4)))
        (pss_one (ps_expr (pe_bm PySem.F.plainAttrs_list PySem.F.slot_list_append PySem.F.type_list_append mt_append (pv 1) (pa_cons (pe_tup (pa_cons (pv 2) (pa_cons (pe_op op_add (pe_callB call_len_seq (by rfl) T.len PySem.boot_len (pa_cons (pv 3) pa_nil)) pe_int) pa_nil))) pa_nil))))))
      (pss_one (ps_ret (pv 1)))), ?_⟩
    -- told = []
    refine ⟨Nat.zero_le _, fun tl htl => ?_⟩
    have ntl : ∀ b o, H b = some o → b ≠ tl := fun b o e => ne_of_none e htl
    have g0 : Go (TTof P1 P2) H (upd H tl (.lst [])) := Go.refl.new htl
    refine ⟨_, rfl, g0.2 htab, fun H1 ff c' pm ctv e1 t1 hff hf1 hc1 => ?_⟩
    have g1 : Go (TTof P1 P2) H H1 := ⟨g0.1.trans e1, fun _ => t1⟩
    have htl1 : H1 tl = some (.lst []) := e1.1 _ _ upd_same (by intro ps z; cases z)
    refine ⟨d, ff, c', xs, pm, ctv, rfl, rfl, rfl, g1.at hd, fun x hx => ⟨g1.at (htup x hx).1, (htup x hx).2⟩, hnd, hf1, hc1, fun q hq => ?_⟩
    -- the loop
    have g2 : Go (TTof P1 P2) H (upd H1 q (.lst ((xs.mergeSort (PySem.W.dataLe false Ent.key)).map fun x => V.int x.n))) := g1.new hq
    have htlq : tl ≠ q := ne_of_none htl1 hq
    refine ⟨q, rfl, ⟨_, SqL.of upd_same⟩, ?_⟩
    refine for_list (K := K) (a := q) (xs := (xs.mergeSort (PySem.W.dataLe false Ent.key)).map fun x => V.int x.n) (fun i σ H' => Go (TTof P1 P2) H H' ∧ H' q = some (.lst ((xs.mergeSort (PySem.W.dataLe false Ent.key)).map fun x => V.int x.n)) ∧ q ≠ tl ∧ (∃ ps, H' tl = some (.lst (ps.map V.ref)) ∧ Paired (PairAt H') ps ((placedL xs).take i)) ∧
        ∃ v2 v3, σ = [some (.ref d), some (.ref tl), v2, v3, none])
      ⟨g2, upd_same, htlq.symm, ⟨[], by rw [upd_ne htlq, htl1]; rfl, by rw [List.take_zero]; exact .nil⟩, none, none, rfl⟩ (fun i σ H' _ ⟨_, a, _⟩ => SqL.of a) ?_ ?_
    · rintro i y σ H' hi ⟨g, hq', nq, ⟨ps, hps, hpp⟩, v2, v3, rfl⟩
      obtain ⟨x, hx, rfl⟩ := map_get hi
      have hxm : x ∈ xs := (List.mergeSort_perm xs _).mem_iff.mp (List.mem_of_getElem? hx)
      have hd' := g.at hd
      have hpl : (placedL xs)[i]? = some (x.n, (xs.filter fun y => HT.lexLt y.k x.k).length + 1) := by
        unfold placedL
        rw [List.getElem?_map, hx]; rfl
      have hpsl : ps.length ≤ 20 := by
        have h1 : ps.length = ((placedL xs).take i).length := Paired.length hpp
        have h2 : (placedL xs).length = xs.length := by unfold placedL; rw [List.length_map, List.length_mergeSort]
        rw [List.length_take] at h1
        omega
      -- ahead
      refine ⟨d, _, hd', trivial, fun od => ?_⟩
      refine ⟨_, rfl, d, od, rfl, .inl ⟨_, upd_same, fun D hD => ?_⟩⟩
      have hDd : D ≠ d := fun z => by rw [z, upd_same] at hD; cases hD
      have hD' : H' D = none := by rw [upd_ne hDd] at hD; exact hD
      refine lc_it (walk_keys (d := d) (o := od) (kvs := xs.map fun x => ((Sum.inl x.n : Key), V.ref x.a))) (fun j H2 => H2 d = some (.frz od (.dK (xs.map fun x => (Sum.inl x.n, V.ref x.a)))) ∧ (∀ b o, H' b = some o → b ≠ d → H2 b = some o) ∧ ∃ acc, H2 D = some (.lst acc) ∧ acc.length = ((xs.take j).filter fun y => HT.lexLt y.k x.k).length)
        ⟨by rw [upd_ne hDd.symm, upd_same], fun b o e hb => by rw [upd_ne (ne_of_none e hD'), upd_ne hb]; exact e, [], upd_same, by simp⟩ (fun j H2 _ ⟨a, _⟩ => a) ?_ ?_
      · rintro j v H2 H3 hj ⟨hd2, fr, acc, hacc, hal⟩ ⟨rfl, kk, vv, hkv, rfl⟩
        obtain ⟨y, hy, e⟩ : ∃ y, xs[j]? = some y ∧ ((Sum.inl y.n : Key), V.ref y.a) = (kk, vv) := by
          rw [List.getElem?_map] at hkv
          cases e : xs[j]? with
          | none => rw [e] at hkv; cases hkv
          | some p => rw [e] at hkv; exact ⟨p, rfl, Option.some.inj hkv⟩
        injection e with e1 e2
        subst e1 e2
        have hym : y ∈ xs := List.mem_of_getElem? hy
        have tupAt : ∀ z ∈ xs, H3 z.a = some (.tup (z.k.map V.int)) := fun z hz => fr _ _ (g.at (htup z hz).1) (ne_of (g.at (htup z hz).1) hd' (by intro w; cases w))
        refine ⟨rfl, ?_⟩
        refine ⟨_, rfl, _, rfl, d, _, rfl, .inl ⟨_, Sum.inl y.n, .inr ⟨od, hd2⟩, rfl, (valV_nodup hnd hym).symm⟩, ?_⟩
        refine ⟨_, rfl, _, rfl, d, _, rfl, .inl ⟨_, Sum.inl x.n, .inr ⟨od, hd2⟩, rfl, (valV_nodup hnd hxm).symm⟩, ?_⟩
        refine ⟨y.a, x.a, y.k, x.k, rfl, rfl, SqT.of (tupAt y hym), SqT.of (tupAt x hxm), _, rfl, ?_⟩
        cases hlt : HT.lexLt y.k x.k with
        | true =>
          refine iteT rfl ?_
          refine ⟨_, rfl, acc, hacc, ?_, by rw [upd_ne hDd.symm]; exact hd2, fun b o e hb => ?_, _, upd_same, ?_⟩
          · rw [hal]
            have h1 := List.length_filter_le (fun y : Ent => HT.lexLt y.k x.k) (xs.take j)
            rw [List.length_take] at h1
            show _ < 16777216
            omega
          · rw [upd_ne (ne_of_none e hD')]
            exact fr b o e hb
          · rw [take_filter_yes (p := fun y : Ent => HT.lexLt y.k x.k) hy hlt, List.length_append, List.length_append, hal]
            rfl
        | false =>
          refine iteF rfl ?_
          refine ⟨hd2, fr, acc, hacc, ?_⟩
          rw [take_filter_no (p := fun y : Ent => HT.lexLt y.k x.k) hy hlt]
          exact hal
      · rintro H2 ⟨hd2, fr, acc, hacc, hal⟩
        rw [List.length_map, List.take_length] at hal
        refine ⟨hd2, ?_⟩
        -- told.append((number, len(ahead) + 1))
        have all : ∀ b o, H' b = some o → (upd H2 d (.dK (xs.map fun x => (Sum.inl x.n, V.ref x.a)))) b = some o := fun b o e => by
          by_cases hb : b = d
          · subst hb
            rw [upd_same, ← e, hd']
          · rw [upd_ne hb]; exact fr b o e hb
        have gg : Go (TTof P1 P2) H (upd H2 d (.dK (xs.map fun x => (Sum.inl x.n, V.ref x.a)))) := g.trans (.of all)
        have hacc2 : (upd H2 d (.dK (xs.map fun x => (Sum.inl x.n, V.ref x.a)))) D = some (.lst acc) := by rw [upd_ne hDd]; exact hacc
        refine ⟨_, rfl, .inl ⟨rfl, _, SqL.of (all _ _ hps)⟩, _, rfl, _, rfl, D, acc, rfl, .inl (SqL.of hacc2), _, _, rfl, rfl, by show 2 ≤ sizeLine; decide, fun t ht => ?_⟩
        have ht2 : ∀ b o, H' b = some o → b ≠ t := fun b o e => ne_of_none (all b o e) ht
        refine ⟨tl, _, _, rfl, rfl, by rw [upd_ne (ht2 _ _ hps)]; exact all _ _ hps, ?_, ?_⟩
        · rw [List.length_map]
          show _ < 16777216
          omega
        have gt := gg.new (o := .tup [.int x.n, .int ((acc.length : Nat) + 1 : Int)]) ht
        have gf : Go (TTof P1 P2) H (upd (upd (upd H2 d (.dK (xs.map fun x => (Sum.inl x.n, V.ref x.a)))) t (.tup [.int x.n, .int ((acc.length : Nat) + 1 : Int)])) tl (.lst (ps.map V.ref ++ [.ref t]))) := gt.put htl (by rw [upd_ne (ht2 _ _ hps)]; exact all _ _ hps)
        refine ⟨gf, by rw [upd_ne nq, upd_ne (ht2 _ _ hq')]; exact all _ _ hq', nq, ⟨ps ++ [t], by rw [upd_same, List.map_append]; rfl, ?_⟩, _, _, rfl⟩
        rw [List.take_add_one, hpl]
        have ntt : t ≠ tl := (ht2 _ _ hps).symm
        refine paired_snoc ?_ (Paired.mapP hpp fun p z e => ?_)
        · show upd _ tl _ t = some (.tup [.int x.n, .int (((xs.filter fun y => HT.lexLt y.k x.k).length + 1 : Nat) : Int)])
          rw [upd_ne ntt, upd_same, hal]
          rfl
        · have e : H' p = some (.tup (pairL z)) := e
          show upd _ tl _ p = _
          rw [upd_ne (ne_of e hps (by intro w; cases w)), upd_ne (ht2 _ _ e)]
          exact all _ _ e
    · rintro σ H' ⟨g, hq', nq, ⟨ps, hps, hpp⟩, v2, v3, rfl⟩
      refine ⟨_, rfl, ?_⟩
      have e : ((xs.mergeSort (PySem.W.dataLe false Ent.key)).map fun x => V.int x.n).length = (placedL xs).length := by unfold placedL; rw [List.length_map, List.length_map]
      rw [e, List.take_length] at hpp
      exact k H' tl ps g htl hps hpp
end
end Jp

set_option Elab.async false
set_option maxRecDepth 100000
set_option maxHeartbeats 4000000
/-! How the contest lies in the heap. -/
namespace Jp
open PySem PySem.Spec PyProof.Rows L2 LamX Jl
open Jc (MS JO)
def fC (al : Addr) (rise turn : Nat) (hl : Addr) (bar : Nat) (jv : V) (decl : Bool) : List (Str × V) :=
  [("athletes", .ref al), ("rise", nV rise), ("turn", nV turn), ("heights", .ref hl), ("bar", nV bar), ("jump_off", jv), ("is_declined", .bl decl)]
section
variable {al hl : Addr} {r t b : Nat} {jv : V} {d : Bool}
theorem fC_ath : (fC al r t hl b jv d).lookup ("athletes" : Str) = some (.ref al) := lkh
theorem fC_rise : (fC al r t hl b jv d).lookup ("rise" : Str) = some (nV r) := (lkf (by decide +kernel)).trans lkh
theorem fC_turn : (fC al r t hl b jv d).lookup ("turn" : Str) = some (nV t) := (lkf (by decide +kernel)).trans ((lkf (by decide +kernel)).trans lkh)
theorem fC_hts : (fC al r t hl b jv d).lookup ("heights" : Str) = some (.ref hl) := (lkf (by decide +kernel)).trans ((lkf (by decide +kernel)).trans ((lkf (by decide +kernel)).trans lkh))
theorem fC_bar : (fC al r t hl b jv d).lookup ("bar" : Str) = some (nV b) := (lkf (by decide +kernel)).trans ((lkf (by decide +kernel)).trans ((lkf (by decide +kernel)).trans ((lkf (by decide +kernel)).trans lkh)))
theorem fC_jo : (fC al r t hl b jv d).lookup ("jump_off" : Str) = some jv := (lkf (by decide +kernel)).trans ((lkf (by decide +kernel)).trans ((lkf (by decide +kernel)).trans ((lkf (by decide +kernel)).trans ((lkf (by decide +kernel)).trans lkh))))
theorem fC_decl : (fC al r t hl b jv d).lookup ("is_declined" : Str) = some (.bl d) := (lkf (by decide +kernel)).trans ((lkf (by decide +kernel)).trans ((lkf (by decide +kernel)).trans ((lkf (by decide +kernel)).trans ((lkf (by decide +kernel)).trans ((lkf (by decide +kernel)).trans lkh)))))
theorem fC_putBar (x : Nat) : putF "bar" (nV x) (fC al r t hl b jv d) = fC al r t hl x jv d := (putp (by decide +kernel)).trans (congrArg _ ((putp (by decide +kernel)).trans (congrArg _ ((putp (by decide +kernel)).trans (congrArg _ ((putp (by decide +kernel)).trans (congrArg _ puth)))))))
theorem fC_putJo (x : V) : putF "jump_off" x (fC al r t hl b jv d) = fC al r t hl b x d := (putp (by decide +kernel)).trans (congrArg _ ((putp (by decide +kernel)).trans (congrArg _ ((putp (by decide +kernel)).trans (congrArg _ ((putp (by decide +kernel)).trans (congrArg _ ((putp (by decide +kernel)).trans (congrArg _ puth)))))))))
theorem fC_putDecl (x : Bool) : putF "is_declined" (.bl x) (fC al r t hl b jv d) = fC al r t hl b jv x := (putp (by decide +kernel)).trans (congrArg _ ((putp (by decide +kernel)).trans (congrArg _ ((putp (by decide +kernel)).trans (congrArg _ ((putp (by decide +kernel)).trans (congrArg _ ((putp (by decide +kernel)).trans (congrArg _ ((putp (by decide +kernel)).trans (congrArg _ puth)))))))))))
end
/-- where the contest's parts stand -/
structure CAd where
  c : Addr
  al : Addr
  hl : Addr
  as : List Addr
  ls : List Addr
  jo : Option (Addr × Addr × Addr × Addr)
def CAd.jfoot (A : CAd) : List Addr := match A.jo with
  | none => []
  | some (ja, _, cl, dl) => [ja, cl, dl]
/-- what may be changed -/
def CAd.foot (A : CAd) : List Addr := A.c :: (A.as ++ (A.ls ++ A.jfoot))
def CAd.jv (A : CAd) : V := match A.jo with
  | none => .non
  | some (ja, _, _, _) => .ref ja
structure CompAt (T : List (Addr × Str)) (cA cJ cC : Addr) (N : Nat) (H : Hp) (A : CAd) (m : MS) : Prop where
  obj : ∃ dx, H A.c = some (.ins cC dx (fC A.al m.rise m.turn A.hl m.bar A.jv m.decl))
  lst : H A.al = some (.lst (A.as.map V.ref))
  hts : H A.hl = some (.lst (m.heights.map nV))
  alen : A.as.length = m.ath.length
  llen : A.ls.length = m.ath.length
  at_ : ∀ i a l, A.as[i]? = some a → A.ls[i]? = some l → AthAt N cA H a l (m.A i)
  nda : A.as.Nodup
  ndl : (A.al :: A.hl :: A.ls).Nodup
  small : m.ath.length ≤ 20
  hlen : m.heights.length ≤ 40
  jnone : m.jo = none → A.jo = none
  jsome : ∀ j, m.jo = some j → ∃ ja ol cl dl, A.jo = some (ja, ol, cl, dl) ∧ JoAt cJ H ja ol cl dl j ∧ ol ∉ A.al :: A.hl :: A.ls ∧ cl ∉ A.al :: A.hl :: A.ls
  tabs : Tabs T H
section
variable {P : Program} {w : World} {K : PySem.W.Frag} {mg : Str → Option Value} {base : Heap} {cA cJ cC cL P1 P2 : Addr} {TT : List (Addr × Str)}
theorem JoAt.go {H H' : Hp} {ja ol cl dl : Addr} {j : JO} (h : JoAt cJ H ja ol cl dl j) (g : Go TT H H') : JoAt cJ H' ja ol cl dl j := by
  obtain ⟨dx, ho⟩ := h.obj
  obtain ⟨kvs, hk, hc⟩ := h.come
  exact ⟨⟨dx, g.at ho⟩, g.at h.off, g.at h.clr, ⟨kvs, g.at hk, hc⟩, h.nd, h.small, h.ne, h.len⟩
theorem CompAt.go {N : Nat} {H H' : Hp} {A : CAd} {m : MS} (h : CompAt TT cA cJ cC N H A m) (g : Go TT H H') : CompAt TT cA cJ cC N H' A m := by
  obtain ⟨dx, ho⟩ := h.obj
  refine ⟨⟨dx, g.at ho⟩, g.at h.lst, g.at h.hts, h.alen, h.llen, fun i a l ha hl => (h.at_ i a l ha hl).go g, h.nda, h.ndl, h.small, h.hlen, h.jnone, fun j e => ?_, g.2 h.tabs⟩
  obtain ⟨ja, ol, cl, dl, e1, e2, e3, e4⟩ := h.jsome j e
  exact ⟨ja, ol, cl, dl, e1, e2.go g, e3, e4⟩
/-- the athlete of a number -/
theorem CompAt.ath {N : Nat} {H : Hp} {A : CAd} {m : MS} (h : CompAt TT cA cJ cC N H A m) {i : Nat} (hi : i < m.ath.length) : ∃ a l, A.as[i]? = some a ∧ A.ls[i]? = some l ∧ AthAt N cA H a l (m.A i) := by
  have h1 : A.as[i]? = some (A.as[i]'(by rw [h.alen]; exact hi)) := List.getElem?_eq_getElem (by rw [h.alen]; exact hi)
  have h2 : A.ls[i]? = some (A.ls[i]'(by rw [h.llen]; exact hi)) := List.getElem?_eq_getElem (by rw [h.llen]; exact hi)
  exact ⟨_, _, h1, h2, h.at_ i _ _ h1 h2⟩
/-! ### promises -/
/-- of what a contest tells without a change -/
def spC (T : List (Addr × Str)) (cA cJ cC : Addr) (pre : MS → Prop) (res : MS → V) : Sp := fun vs H Q _ => ∃ N A m, vs = [.ref A.c] ∧ CompAt T cA cJ cC N H A m ∧ pre m ∧ ∀ H', Go T H H' → Q (res m) H'
def spC1 (T : List (Addr × Str)) (cA cJ cC : Addr) (pre : MS → Nat → Prop) (res : MS → Nat → V) : Sp := fun vs H Q _ => ∃ N A m i, vs = [.ref A.c, nV i] ∧ CompAt T cA cJ cC N H A m ∧ pre m i ∧ ∀ H', Go T H H' → Q (res m i) H'
/-- .. a new list of numbers -/
def spCL (T : List (Addr × Str)) (cA cJ cC : Addr) (res : MS → List Nat) : Sp := fun vs H Q _ => ∃ N A m, vs = [.ref A.c] ∧ CompAt T cA cJ cC N H A m ∧ ∀ H' l, Go T H H' → H l = none → H' l = some (.lst ((res m).map nV)) → Q (.ref l) H'
theorem scC3 : FnScope ["self", "number"] ["self", "number"] (defScope (sC 3)) := ⟨rfl, rfl, rfl, by decide +kernel, rfl, by decide +kernel, by decide +kernel⟩
def spHas (T : List (Addr × Str)) (cA cJ cC : Addr) : Sp := fun vs H Q _ => ∃ N A m i, vs = [.ref A.c, .int i] ∧ CompAt T cA cJ cC N H A m ∧ Q (.bl (decide (0 ≤ i) && decide (i < (m.ath.length : Int)))) H
theorem ok_C3 {f : Addr} {fd : FuncData} (F : Fun K "has_athlete" "Competition.has_athlete" (sC 3) f fd) (T : Txt K mg cA cJ cC cL) : FnOk P w K mg base CX0 1 f fd ["self", "number"] (spHas TT cA cJ cC) := by
  refine F.ok scC3 (fun vs H Q E h => ?_) (fun cdv A outer s H vs Q E hr h => ?_)
  · obtain ⟨N, A, m, i, rfl, _⟩ := h
    rfl
  · obtain ⟨N, A, m, i, rfl, hc, k⟩ := h
    refine ⟨_, pss_one (ps_ret (pe_chain op_le op_lt pe_int (pv 1) (pe_callB call_len_seq (by rfl) T.len PySem.boot_len (pa_cons (pe_fld (pv 0) rfl) pa_nil)))), ?_⟩
    obtain ⟨dx, ho⟩ := hc.obj
    refine ⟨_, rfl, _, _, rfl, rfl, _, rfl, ?_⟩
    by_cases c : (0 : Int) ≤ i
    · refine iteT (decide_eq_true c) ?_
      refine ⟨_, rfl, A.c, cC, dx, _, _, rfl, ho, T.clC, T.cAth, fC_ath, A.al, _, rfl, .inl (SqL.of hc.lst), _, _, rfl, rfl, ?_⟩
      have e : (decide (0 ≤ i) && decide (i < (m.ath.length : Int))) = decide (i < ((A.as.map V.ref).length : Int)) := by
        rw [decide_eq_true c, Bool.true_and, List.length_map, hc.alen]
      rw [e] at k
      exact k
    · refine iteF (decide_eq_false c) ?_
      have e : (decide (0 ≤ i) && decide (i < (m.ath.length : Int))) = false := by rw [decide_eq_false c, Bool.false_and]
      rw [e] at k
      exact k
theorem scC4 : FnScope ["self", "number"] ["self", "number"] (defScope (sC 4)) := ⟨rfl, rfl, rfl, by decide +kernel, rfl, by decide +kernel, by decide +kernel⟩
theorem ok_C4 {f : Addr} {fd : FuncData} (F : Fun K "is_out" "Competition.is_out" (sC 4) f fd) (T : Txt K mg cA cJ cC cL) : FnOk P w K mg base CX0 3 f fd ["self", "number"] (spC1 TT cA cJ cC (fun m i => i < m.ath.length) fun m i => .bl (m.A i).out) := by
  obtain ⟨f2, fd2, F2, b2, m2⟩ := T.A3
  have G2 : FnOk P w K mg base CX0 2 f2 fd2 ["self"] (spA TT cA fun x => .bl x.out) := ok_A3 F2 T
  refine F.ok scC4 (fun vs H Q E h => ?_) (fun cdv A outer s H vs Q E hr h => ?_)
  · obtain ⟨N, A, m, i, rfl, _⟩ := h
    rfl
  · obtain ⟨N, A, m, i, rfl, hc, hi, k⟩ := h
    refine ⟨_, pss_one (ps_ret (pe_meth0 (pe_ix ix_list (pe_fld (pv 0) rfl) (pv 1) (fun _ _ => rfl)) T.clA m2 G2 hr b2 .nil pass0)), ?_⟩
    obtain ⟨dx, ho⟩ := hc.obj
    obtain ⟨a, l, ha, hl, hat⟩ := hc.ath hi
    obtain ⟨da, hoa⟩ := hat.obj
    refine ⟨_, rfl, A.c, cC, dx, _, _, rfl, ho, T.clC, T.cAth, fC_ath, _, rfl, A.al, _, _, .ref a, rfl, rfl, SqL.of hc.lst, atI_nat (by rw [List.getElem?_map, ha]; rfl), a, da, _, rfl, hoa, rfl, N, a, l, _, rfl, hat, fun H' g => ?_⟩
    exact k H' g
theorem range_snoc (n : Nat) (p : Nat → Bool) (i : Nat) : (List.range (i + 1)).filter p = (List.range i).filter p ++ (if p i = true then [i] else []) := by
  rw [List.range_succ, List.filter_append]
  congr 1
  cases h : p i <;> simp [h]
theorem range_len (p : Nat → Bool) (i : Nat) : ((List.range i).filter p).length ≤ i := by
  have := List.length_filter_le p (List.range i)
  rw [List.length_range] at this
  exact this
theorem scC5 : FnScope ["self", "number"] ["self"] (defScope (sC 5)) := ⟨rfl, rfl, rfl, by decide +kernel, rfl, by decide +kernel, by decide +kernel⟩
theorem ok_C5 {f : Addr} {fd : FuncData} (F : Fun K "not_out" "Competition.not_out" (sC 5) f fd) (T : Txt K mg cA cJ cC cL) : FnOk P w K mg base CX0 4 f fd ["self"] (spCL TT cA cJ cC MS.notOut) := by
  obtain ⟨f2, fd2, F2, b2, m2⟩ := T.C4
  have G2 : FnOk P w K mg base CX0 3 f2 fd2 ["self", "number"] (spC1 TT cA cJ cC (fun m i => i < m.ath.length) fun m i => .bl (m.A i).out) := ok_C4 F2 T
  refine F.ok scC5 (fun vs H Q E h => ?_) (fun cdv A outer s H vs Q E hr h => ?_)
  · obtain ⟨N, A, m, rfl, _⟩ := h
    rfl
  · obtain ⟨N, A, m, rfl, hc, k⟩ := h
    refine ⟨_, pss_one (ps_ret (pe_lc (own := [("number", 1)]) (g := gName 1) (tt := tNot (tB (tMeth cC "is_out" (spC1 TT cA cJ cC (fun m i => i < m.ath.length) fun m i => .bl (m.A i).out) [] E0 (tVar 0) (tCons (tVar 1) tNil)))) (by rfl) scC5.nd (pi_range1 (by rfl) T.range (pa_cons (pe_callB call_len_seq (by rfl) T.len PySem.boot_len (pa_cons (pe_fld (pv 0) rfl) pa_nil)) pa_nil)) (blkOk_by (own := [("number", 1)]) (N := ["self", "number"]) (sc := defScope (sC 5)) (by decide +kernel))
        (fun _ _ _ _ _ => pg_name (i := 1) scC5.nd rfl (Or.inl rfl))
        (fun _ _ _ _ _ => pts_one (pt_not (pt_val (pe_meth (pv 0) T.clC m2 G2 hr b2 .nil pass0 (pa_cons (pv 1) pa_nil)))))
        (fun _ _ _ _ _ => pv 1))), ?_⟩
    obtain ⟨dx, ho⟩ := hc.obj
    have hn : ((A.as.map V.ref).length : Int) = m.ath.length := by rw [List.length_map, hc.alen]
    have hs := hc.small
    refine ⟨_, rfl, A.c, cC, dx, _, _, rfl, ho, T.clC, T.cAth, fC_ath, A.al, _, rfl, .inl (SqL.of hc.lst), _, rfl, by rw [hn]; omega, by rw [hn]; omega, fun D hD => ?_⟩
    refine lc_range (lo := 0) (n := (A.as.map V.ref).length) (fun i H' => Go TT H H' ∧ H' D = some (.lst (((List.range i).filter fun i => !(m.A i).out).map nV)))
      ⟨Go.refl.new hD, upd_same⟩ ?_ ?_
    · rintro i H' hi ⟨g, hacc⟩
      have hi : i < m.ath.length := by rw [List.length_map, hc.alen] at hi; exact hi
      have hc' := hc.go g
      obtain ⟨dx', ho'⟩ := hc'.obj
      have ei : (V.int (0 + (i : Int))) = nV i := by rw [Int.zero_add]
      rw [ei]
      refine ⟨rfl, ?_⟩
      refine ⟨_, rfl, A.c, dx', _, rfl, ho', rfl, _, rfl, N, A, m, i, rfl, hc', hi, fun H2 g2 => ⟨_, rfl, ?_⟩⟩
      have g3 := g.trans g2
      have hr3 := range_snoc m.ath.length (fun i => !(m.A i).out) i
      have hacc2 := g2.at hacc
      cases e : (m.A i).out with
      | false =>
        rw [e] at hr3
        refine iteT rfl ?_
        refine ⟨_, rfl, _, hacc2, ?_, g3.put hD hacc2, ?_⟩
        · rw [List.length_map]
          have := range_len (fun i => !(m.A i).out) i
          show _ < 16777216
          omega
        · rw [upd_same, hr3, List.map_append]
          rfl
      | true =>
        rw [e] at hr3
        refine iteF rfl ?_
        refine ⟨g3, ?_⟩
        rw [hr3]
        simpa using hacc2
    · rintro H' ⟨g, hacc⟩
      rw [List.length_map, hc.alen] at hacc
      exact k H' D g hD hacc
end
end Jp

set_option Elab.async false
set_option maxRecDepth 100000
set_option maxHeartbeats 4000000
/-! Who's due; the order. -/
namespace Jp
open PySem PySem.Spec PyProof.Rows L2 LamX Jl
open Jc (MS JO)
/-! ### in order: as the mirror has it -/
theorem less_lexLt : ∀ a b : List Int, a.length = b.length → HT.lexLt a b = Kg63.less a b
  | [], [], _ => rfl
  | x :: a, y :: b, h => by
    rw [HT.lexLt_cons, less_lexLt a b (by simpa using h)]
    show _ = (decide (x < y) || (x == y && Kg63.less a b))
    by_cases c : x = y
    · subst c
      rw [if_pos rfl]
      simp
    · rw [if_neg c]
      have e : (x == y) = false := beq_eq_false_iff_ne.mpr c
      rw [e, Bool.false_and, Bool.or_false]
theorem less_lt : ∀ a b : List Int, a.length = b.length → decide (a < b) = Kg63.less a b
  | [], [], _ => by simp [Kg63.less]
  | x :: a, y :: b, h => by
    have ih := less_lt a b (by simpa using h)
    show _ = (decide (x < y) || (x == y && Kg63.less a b))
    rw [← ih]
    by_cases c : x = y
    · subst c; simp [List.cons_lt_cons_iff]
    · simp [c, List.cons_lt_cons_iff]
theorem key_lt {x y : Ent} (h : x.k.length = y.k.length) : PySem.W.dataLt x.key y.key = if x.k = y.k then decide (x.n < y.n) else Kg63.less x.k y.k := by
  have al : PySem.W.alike (.tuple (x.k.map PyData.int)) (.tuple (y.k.map PyData.int)) = true := by
    simp only [PySem.W.alike]
    exact alikeAll_ints _ _ h
  unfold Ent.key
  rw [PySem.W.dataLt_pair al (by simp [PySem.W.alike]), PySem.W.dataLt_int, PySem.W.dataLt_tuple]
  have e1 : PyData.eqv (.tuple (x.k.map PyData.int)) (.tuple (y.k.map PyData.int)) = decide (x.k = y.k) := by
    simp only [PyData.eqv]
    exact PySem.W.ked_eqvAll _ _
  have e2 : PyProof.Rows.lexLt itemOrd (PySem.W.keyToksAll (x.k.map PyData.int)) (PySem.W.keyToksAll (y.k.map PyData.int)) = decide (x.k < y.k) := PySem.W.dataLt_ints _ _
  rw [e1, e2, less_lt _ _ h]
  simp only [PyData.eqv, beq_iff_eq, decide_eq_true_eq]
  by_cases c : x.k = y.k
  · rw [if_pos c, if_pos c]
    by_cases d : x.n = y.n
    · simp [d]
    · rw [if_neg d]
  · rw [if_neg c, if_neg c]
theorem data_sorted (xs : List Ent) : (xs.mergeSort (PySem.W.dataLe false Ent.key)).Pairwise fun a b => PySem.W.dataLt b.key a.key = false := by
  have h := List.pairwise_mergeSort (le := PySem.W.dataLe false Ent.key) (fun a b c h1 h2 => ?_) (fun a b => ?_) xs
  · refine h.imp fun {a b} e => ?_
    have e : (!PySem.W.dataLt b.key a.key) = true := e
    simpa using e
  · have h1 : (!PySem.W.dataLt b.key a.key) = true := h1
    have h2 : (!PySem.W.dataLt c.key b.key) = true := h2
    show (!PySem.W.dataLt c.key a.key) = true
    rw [Bool.not_eq_true'] at h1 h2 ⊢
    cases e : PySem.W.dataLt c.key a.key with
    | false => rfl
    | true =>
      rcases lex_negTrans (O := itemOrd) _ (PySem.W.keyToks b.key) _ e with q | q
      · rw [show PySem.W.dataLt c.key b.key = true from q] at h2; cases h2
      · rw [show PySem.W.dataLt b.key a.key = true from q] at h1; cases h1
  · show ((!PySem.W.dataLt b.key a.key) || (!PySem.W.dataLt a.key b.key)) = true
    cases e1 : PySem.W.dataLt b.key a.key with
    | false => rfl
    | true =>
      cases e2 : PySem.W.dataLt a.key b.key with
      | false => rfl
      | true =>
        have z := lex_trans (O := itemOrd) _ _ _ e1 e2
        rw [lex_irrefl] at z
        cases z
theorem placed_is {m : MS} {xs : List Ent} (h1 : xs.map Ent.n = m.ranked.map fun i : Nat => (i : Int)) (h2 : ∀ x ∈ xs, x.k = m.stand x.n.toNat) : placedL xs = m.order.map fun i : Nat => ((i : Int), m.place i) := by
  have hnat : ∀ x ∈ xs, ((x.n.toNat : Nat) : Int) = x.n := fun x hx => by
    have : x.n ∈ xs.map Ent.n := List.mem_map_of_mem hx
    rw [h1] at this
    obtain ⟨i, _, e⟩ := List.mem_map.mp this
    omega
  have hrank : xs.map (fun x => x.n.toNat) = m.ranked := by
    have e : xs.map (fun x => x.n.toNat) = (xs.map Ent.n).map Int.toNat := by rw [List.map_map]; rfl
    rw [e, h1, List.map_map]
    have : (Int.toNat ∘ fun i : Nat => (i : Int)) = id := by funext i; rfl
    rw [this, List.map_id]
  have hnd : (xs.map fun x => x.n.toNat).Nodup := by
    rw [hrank]
    exact (Jc.ranked_lt m).imp fun {a b} h => Nat.ne_of_lt h
  have hperm := List.mergeSort_perm xs (PySem.W.dataLe false Ent.key)
  have hmem : ∀ x ∈ xs.mergeSort (PySem.W.dataLe false Ent.key), x ∈ xs := fun x hx => hperm.mem_iff.mp hx
  have hord : (xs.mergeSort (PySem.W.dataLe false Ent.key)).map (fun x => x.n.toNat) = m.order := by
    refine Jc.ord_unique (Jc.ahead_swk m) ?_ (Jc.order_ord m) ?_
    · unfold Jc.Ord
      rw [List.pairwise_map]
      have p2 : (xs.mergeSort (PySem.W.dataLe false Ent.key)).Pairwise fun a b => a.n.toNat ≠ b.n.toNat := by
        have := (hperm.map (fun x : Ent => x.n.toNat)).nodup_iff.mpr hnd
        exact List.pairwise_map.mp this
      refine ((data_sorted xs).and p2).imp_of_mem fun {a b} ha hb ⟨q1, q2⟩ => ?_
      have ka := h2 a (hmem a ha)
      have kb := h2 b (hmem b hb)
      have na := hnat a (hmem a ha)
      have nb := hnat b (hmem b hb)
      have hl : b.k.length = a.k.length := by rw [ka, kb]; rfl
      rw [key_lt hl] at q1
      show Kg63.less (m.stand a.n.toNat) (m.stand b.n.toNat) = true ∨ (Kg63.less (m.stand b.n.toNat) (m.stand a.n.toNat) = false ∧ a.n.toNat < b.n.toNat)
      rw [← ka, ← kb]
      by_cases c : b.k = a.k
      · rw [if_pos c] at q1
        refine .inr ⟨by rw [c]; exact Jc.less_irrefl _, ?_⟩
        have := of_decide_eq_false q1
        omega
      · rw [if_neg c] at q1
        refine .inl ?_
        cases e : Kg63.less a.k b.k with
        | true => rfl
        | false => exact absurd (Jc.less_total _ _ hl q1 e) c
    · refine (hperm.map _).trans ?_
      rw [hrank]
      exact (Jc.order_perm m).symm
  unfold placedL
  rw [← hord, List.map_map]
  refine List.map_congr_left fun x hx => ?_
  have hx' := hmem x hx
  show (x.n, _) = ((((x.n.toNat : Nat)) : Int), m.place x.n.toNat)
  rw [hnat x hx']
  congr 1
  unfold Jc.MS.place
  rw [← hrank, List.filter_map, List.length_map]
  congr 2
  refine List.filter_congr fun y hy => ?_
  show HT.lexLt y.k x.k = Kg63.less (m.stand y.n.toNat) (m.stand x.n.toNat)
  rw [← h2 y hy, ← h2 x hx']
  exact less_lexLt _ _ (by rw [h2 y hy, h2 x hx']; rfl)
section
variable {P : Program} {w : World} {K : PySem.W.Frag} {mg : Str → Option Value} {base : Heap} {cA cJ cC cL P1 P2 : Addr} {TT : List (Addr × Str)}
theorem scC7 : FnScope ["self", "number"] ["self"] (defScope (sC 7)) := ⟨rfl, rfl, rfl, by decide +kernel, rfl, by decide +kernel, by decide +kernel⟩
theorem ok_C7 {f : Addr} {fd : FuncData} (F : Fun K "due" "Competition.due" (sC 7) f fd) (T : Txt K mg cA cJ cC cL) : FnOk P w K mg base CX0 4 f fd ["self"] (spCL TT cA cJ cC MS.due) := by
  obtain ⟨f2, fd2, F2, b2, m2⟩ := T.A4
  have G2 : FnOk P w K mg base CX0 3 f2 fd2 ["self", "bar"] (spA1 TT cA fun x h => .bl (x.due h)) := ok_A4 F2 T
  refine F.ok scC7 (fun vs H Q E h => ?_) (fun cdv A outer s H vs Q E hr h => ?_)
  · obtain ⟨N, A, m, rfl, _⟩ := h
    rfl
  · obtain ⟨N, A, m, rfl, hc, k⟩ := h
    refine ⟨_, pss_one (ps_ret (pe_lc (own := [("number", 1)]) (g := gName 1) (tt := tB (tMeth cA "is_due_at" (spA1 TT cA fun x h => .bl (x.due h)) [] E0 (tOp (rIxL K) (tFld K (tVar 0) "athletes") (tVar 1)) (tCons (tFld K (tVar 0) "bar") tNil))) (by rfl) scC7.nd (pi_range1 (by rfl) T.range (pa_cons (pe_callB call_len_seq (by rfl) T.len PySem.boot_len (pa_cons (pe_fld (pv 0) rfl) pa_nil)) pa_nil)) (blkOk_by (own := [("number", 1)]) (N := ["self", "number"]) (sc := defScope (sC 7)) (by decide +kernel))
        (fun _ _ _ _ _ => pg_name (i := 1) scC7.nd rfl (Or.inl rfl))
        (fun _ _ _ _ _ => pts_one (pt_val (pe_meth (pe_ix ix_list (pe_fld (pv 0) rfl) (pv 1) (fun _ _ => rfl)) T.clA m2 G2 hr b2 .nil pass0 (pa_cons (pe_fld (pv 0) rfl) pa_nil))))
        (fun _ _ _ _ _ => pv 1))), ?_⟩
    obtain ⟨dx, ho⟩ := hc.obj
    have hn : ((A.as.map V.ref).length : Int) = m.ath.length := by rw [List.length_map, hc.alen]
    have hs := hc.small
    refine ⟨_, rfl, A.c, cC, dx, _, _, rfl, ho, T.clC, T.cAth, fC_ath, A.al, _, rfl, .inl (SqL.of hc.lst), _, rfl, by rw [hn]; omega, by rw [hn]; omega, fun D hD => ?_⟩
    refine lc_range (lo := 0) (n := (A.as.map V.ref).length) (fun i H' => Go TT H H' ∧ H' D = some (.lst (((List.range i).filter fun i => (m.A i).due m.bar).map nV)))
      ⟨Go.refl.new hD, upd_same⟩ ?_ ?_
    · rintro i H' hi ⟨g, hacc⟩
      have hi : i < m.ath.length := by rw [List.length_map, hc.alen] at hi; exact hi
      have hc' := hc.go g
      obtain ⟨dx', ho'⟩ := hc'.obj
      obtain ⟨a, l, ha, hl, hat⟩ := hc'.ath hi
      obtain ⟨da, hoa⟩ := hat.obj
      have ei : (V.int (0 + (i : Int))) = nV i := by rw [Int.zero_add]
      rw [ei]
      refine ⟨rfl, ?_⟩
      refine ⟨_, rfl, A.c, cC, dx', _, _, rfl, ho', T.clC, T.cAth, fC_ath, _, rfl, A.al, _, _, .ref a, rfl, rfl, SqL.of hc'.lst, atI_nat (by rw [List.getElem?_map, ha]; rfl), a, da, _, rfl, hoa, rfl, _, rfl, A.c, cC, dx', _, _, rfl, ho', T.clC, T.cBar, fC_bar, N, a, l, _, m.bar, rfl, hat, fun H2 g2 => ⟨_, rfl, ?_⟩⟩
      have g3 := g.trans g2
      have hr3 := range_snoc m.ath.length (fun i => (m.A i).due m.bar) i
      have hacc2 := g2.at hacc
      cases e : (m.A i).due m.bar with
      | true =>
        rw [e] at hr3
        refine iteT rfl ?_
        refine ⟨_, rfl, _, hacc2, ?_, g3.put hD hacc2, ?_⟩
        · rw [List.length_map]
          have := range_len (fun i => (m.A i).due m.bar) i
          show _ < 16777216
          omega
        · rw [upd_same, hr3, List.map_append]
          rfl
      | false =>
        rw [e] at hr3
        refine iteF rfl ?_
        refine ⟨g3, ?_⟩
        rw [hr3]
        simpa using hacc2
    · rintro H' ⟨g, hacc⟩
      rw [List.length_map, hc.alen] at hacc
      exact k H' D g hD hacc
end
end Jp

set_option Elab.async false
set_option maxRecDepth 100000
set_option maxHeartbeats 4000000
/-! The order. -/
namespace Jp
open PySem PySem.Spec PyProof.Rows L2 LamX Jl
open Jc (MS JO)
def ordL (m : MS) : List (Int × Nat) := m.order.map fun i : Nat => ((i : Int), m.place i)
def spOrder (T : List (Addr × Str)) (cA cJ cC : Addr) : Sp := fun vs H Q _ => ∃ N A m, vs = [.ref A.c] ∧ CompAt T cA cJ cC N H A m ∧ ∀ H' l ps, Go T H H' → H l = none → H' l = some (.lst (ps.map V.ref)) → Paired (PairAt H') ps (ordL m) → Q (.ref l) H'
/-- entries of the first i that have cleared -/
structure EntsAt (m : MS) (H H' : Hp) (i : Nat) (xs : List Ent) : Prop where
  tup : ∀ x ∈ xs, H' x.a = some (.tup (x.k.map V.int)) ∧ x.k.length = 4
  k : ∀ x ∈ xs, x.k = m.stand x.n.toNat
  n : xs.map Ent.n = ((List.range i).filter fun i => decide (0 < (m.A i).best)).map fun i : Nat => (i : Int)
theorem EntsAt.len {m : MS} {H H' : Hp} {i : Nat} {xs : List Ent} (h : EntsAt m H H' i xs) : xs.length ≤ i := by
  have e := congrArg List.length h.n
  rw [List.length_map, List.length_map] at e
  have := range_len (fun i => decide (0 < (m.A i).best)) i
  omega
theorem EntsAt.nd {m : MS} {H H' : Hp} {i : Nat} {xs : List Ent} (h : EntsAt m H H' i xs) : (xs.map Ent.n).Nodup := by
  rw [h.n]
  refine List.Pairwise.map _ (fun a b (e : a ≠ b) (z : (a : Int) = (b : Int)) => e (by omega)) (List.Pairwise.filter _ List.nodup_range)
theorem EntsAt.put {m : MS} {H H' : Hp} {i : Nat} {xs : List Ent} (h : EntsAt m H H' i xs) (v : V) : putK (xs.map fun x => ((Sum.inl x.n : Key), V.ref x.a)) (Sum.inl (i : Int)) v = (xs.map fun x => ((Sum.inl x.n : Key), V.ref x.a)) ++ [(Sum.inl (i : Int), v)] := by
  unfold putK
  rw [if_neg]
  intro q
  obtain ⟨p, hp, e⟩ := List.any_eq_true.mp q
  obtain ⟨x, hx, rfl⟩ := List.mem_map.mp hp
  have e : (Sum.inl x.n : Key) = Sum.inl (i : Int) := of_decide_eq_true e
  have e := Sum.inl.inj e
  have hm : x.n ∈ xs.map Ent.n := List.mem_map_of_mem hx
  rw [h.n] at hm
  obtain ⟨j, hj, e2⟩ := List.mem_map.mp hm
  have := List.mem_range.mp (List.mem_filter.mp hj).1
  omega
section
variable {P : Program} {w : World} {K : PySem.W.Frag} {mg : Str → Option Value} {base : Heap} {cA cJ cC cL P1 P2 : Addr}
theorem scC16 : FnScope ["self", "standings", "number", "athlete", "rounds"] ["self"] (defScope (sC 16)) := ⟨rfl, rfl, rfl, by decide +kernel, rfl, by decide +kernel, by decide +kernel⟩
theorem CompAt.jv_none {T : List (Addr × Str)} {N : Nat} {H : Hp} {A : CAd} {m : MS} (h : CompAt T cA cJ cC N H A m) (e : m.jo = none) : A.jv = .non := by
  unfold CAd.jv
  rw [h.jnone e]
theorem CompAt.jv_some {T : List (Addr × Str)} {N : Nat} {H : Hp} {A : CAd} {m : MS} {j : JO} (h : CompAt T cA cJ cC N H A m) (e : m.jo = some j) : ∃ ja ol cl dl, A.jo = some (ja, ol, cl, dl) ∧ A.jv = .ref ja ∧ JoAt cJ H ja ol cl dl j := by
  obtain ⟨ja, ol, cl, dl, e1, e2, _⟩ := h.jsome j e
  exact ⟨ja, ol, cl, dl, e1, by unfold CAd.jv; rw [e1], e2⟩
theorem ok_C16 {f : Addr} {fd : FuncData} (F : Fun K "order" "Competition.order" (sC 16) f fd) (T : Txt K mg cA cJ cC cL) (La : Lam K mg base cC P1 P2) : FnOk P w K mg base CX0 4 f fd ["self"] (spOrder (TTof P1 P2) cA cJ cC) := by
  obtain ⟨f7, fd7, F7, b7, m7⟩ := T.A7
  have G7 : FnOk P w K mg base CX0 1 f7 fd7 ["self"] (spA (TTof P1 P2) cA fun x => .int (x.best : Int)) := ok_A7 F7 T
  obtain ⟨f5, fd5, F5, b5, m5⟩ := T.J5
  have G5 : FnOk P w K mg base CX0 1 f5 fd5 ["self", "number"] (spJRounds cJ) := ok_J5 F5 T
  obtain ⟨fs, fds, Fs, bs, gs, ks⟩ := T.d_standing
  have Gs : FnOk P w K mg base CX0 2 fs fds ["athlete", "rounds"] (spStanding (TTof P1 P2) cA) := ok_standing Fs T
  obtain ⟨cp, fp, fdp, Fp, bp, gp, kp, tp⟩ := La.pl
  have Gp : FnOk P w K mg base CX0 3 fp fdp ["standings"] (spPlaced (TTof P1 P2)) := ok_placed Fp T tp La.ne
  refine F.ok scC16 (fun vs H Q E h => ?_) (fun cdv A outer s H vs Q E hr h => ?_)
  · obtain ⟨N, A, m, rfl, _⟩ := h
    rfl
  · obtain ⟨N, A, m, rfl, hc, k⟩ := h
    refine ⟨_, pss_cons (ps_set (i := 1) scC16.nd rfl (.inl rfl) pe_dnewK)
      (pss_cons (ps_for PassesOwn.never rfl (pi_enum (by rfl) T.enumerate (pa_cons (pe_fld (pv 0) rfl) pa_nil)) (pg_tup rfl (pgs_cons (pg_name (i := 2) scC16.nd rfl (Or.inl rfl)) (pgs_cons (pg_name (i := 3) scC16.nd rfl (Or.inl rfl)) pgs_nil)))
        (pss_one (ps_if (pt_cmpR op_gt (pe_meth0 (pv 3) T.clA m7 G7 (hr.mono (by decide : 1 ≤ 3)) b7 .nil pass0) pe_int (nomark _))
          (pss_cons (ps_set (i := 4) scC16.nd rfl (.inl rfl) (pe_ifExp (pt_cmpR op_isN (pe_fld (pv 0) rfl) pe_non (nomark _)) pe_int (pe_meth (pe_fld (pv 0) rfl) T.clJ m5 G5 (hr.mono (by decide : 1 ≤ 3)) b5 .nil pass0 (pa_cons (pv 2) pa_nil))))
          (pss_one (ps_dput (hu_of hr) (pv 1) (pv 2) (pe_call Gs (hr.mono (by decide : 2 ≤ 3)) (by rfl) gs ks bs .nil pass0 (pa_cons (pv 3) (pa_cons (pv 4) pa_nil))) rfl)))
          pss_nil)))
      (pss_one (ps_ret (pe_call Gp hr (by rfl) gp kp bp .nil pass0 (pa_cons (pv 1) pa_nil))))), ?_⟩
    obtain ⟨dx, ho⟩ := hc.obj
    have hs := hc.small
    refine fun sd hsd => ?_
    have g0 : Go (TTof P1 P2) H (upd H sd (.dK [])) := Go.refl.new hsd
    have hc0 := hc.go g0
    obtain ⟨dx0, ho0⟩ := hc0.obj
    refine ⟨_, rfl, A.c, cC, dx0, _, _, rfl, ho0, T.clC, T.cAth, fC_ath, A.al, _, rfl, SqL.of hc0.lst, ?_⟩
    refine for_it (walk_enum (K := K) (a := A.al) (xs := A.as.map V.ref)) (fun i σ H' => Go (TTof P1 P2) H H' ∧ (∃ xs, H' sd = some (.dK (xs.map fun x => (Sum.inl x.n, V.ref x.a))) ∧ EntsAt m H H' i xs) ∧ ∃ v2 v3 v4, σ = [some (.ref A.c), some (.ref sd), v2, v3, v4])
      ⟨g0, ⟨[], upd_same, ⟨by simp, by simp, rfl⟩⟩, none, none, none, rfl⟩ (fun i σ H' _ ⟨g, _⟩ => SqL.of (hc.go g).lst) ?_ ?_
    · rintro i v σ H1 H2 hi ⟨g, ⟨xs, hsx, hE⟩, v2, v3, v4, rfl⟩ ⟨t, x, y, rfl, ht, rfl, hx, hy⟩
      have hi : i < m.ath.length := by rw [List.length_map, hc.alen] at hi; exact hi
      obtain ⟨a, haa, rfl⟩ := map_get hy
      obtain rfl : V.int (i : Int) = x := Option.some.inj hx
      have g2 := g.new (o := .tup [.int (i : Int), .ref a]) ht
      have hc2 := hc.go g2
      have tsd : sd ≠ t := ne_of_none hsx ht
      obtain ⟨a', l, ha, hl, hat⟩ := hc2.ath hi
      obtain rfl : a = a' := by rw [haa] at ha; exact Option.some.inj ha
      obtain ⟨da, hoa⟩ := hat.obj
      refine ⟨t, _, rfl, SqT.of upd_same, rfl, _, _, rfl, _, _, rfl, rfl, ?_⟩
      refine ⟨_, rfl, a, da, _, rfl, hoa, rfl, N, a, l, _, rfl, hat, fun H3 g3' => ⟨_, _, rfl, rfl, _, rfl, ?_⟩⟩
      have g3 := g2.trans g3'
      have hc3 := hc.go g3
      have hsx3 := g3'.at (b := sd) (by rw [upd_ne tsd]; exact hsx)
      have fr3 : ∀ b o, H1 b = some o → (∀ ps, o ≠ .tbl ps) → H3 b = some o := fun b o e n => g3'.at (by rw [upd_ne (ne_of_none e ht)]; exact e) n
      have hr3 := range_snoc m.ath.length (fun i => decide (0 < (m.A i).best)) i
      by_cases c : (0 : Int) < ((m.A i).best : Int)
      · refine iteT (decide_eq_true c) ?_
        have cb : decide (0 < (m.A i).best) = true := decide_eq_true (by omega)
        rw [cb] at hr3
        obtain ⟨dx3, ho3⟩ := hc3.obj
        obtain ⟨a', l, ha', hl, hat3⟩ := hc3.ath hi
        obtain rfl : a = a' := by rw [ha] at ha'; exact Option.some.inj ha'
        have hjo : m.jo = none ∨ ∃ j, m.jo = some j := by
          cases m.jo with
          | none => exact .inl rfl
          | some j => exact .inr ⟨j, rfl⟩
        refine hjo.elim (fun e => ?p1) fun ⟨j, e⟩ => ?p2
        case' p1 =>
          refine ⟨_, rfl, A.c, cC, dx3, _, _, rfl, ho3, T.clC, T.cOff, fC_jo, rfl, _, rfl, iteT (decide_eq_true (hc3.jv_none e)) ?_⟩
          have er : V.int 0 = nV (m.rounds i) := by unfold Jc.MS.rounds; rw [e]; rfl
          rw [er]
        case' p2 =>
          obtain ⟨ja, ol, cl, dl, _, ej, hj⟩ := hc3.jv_some e
          obtain ⟨dj, hoj⟩ := hj.obj
          refine ⟨_, rfl, A.c, cC, dx3, _, _, rfl, ho3, T.clC, T.cOff, fC_jo, rfl, _, rfl, iteF (decide_eq_false (by rw [ej]; intro z; cases z)) ?_⟩
          refine ⟨_, rfl, A.c, cC, dx3, _, _, rfl, ho3, T.clC, T.cOff, fC_jo, ja, dj, _, ej, hoj, rfl, _, rfl, ja, ol, cl, dl, j, i, by rw [ej]; rfl, hj, ?_⟩
          have er : nV (j.come i) = nV (m.rounds i) := by unfold Jc.MS.rounds; rw [e]
          rw [er]
        all_goals
          refine ⟨_, rfl, _, rfl, N, a, l, _, _, rfl, hat3, fun H4 t4 g4 ht4 ht4' => ?_⟩
          have hsx4 := g4.at hsx3
          refine ⟨_, rfl, _, rfl, sd, _, rfl, DPut.k (k := Sum.inl (i : Int)) hsx4 (by rw [List.length_map]; have := hE.len; show _ < 16777216; omega), ?_⟩
          rw [hE.put]
          refine ⟨(g3.trans g4).put hsd hsx4, ⟨xs ++ [⟨(i : Int), t4, m.stand i⟩], by rw [upd_same, List.map_append]; rfl, ?_, ?_, ?_⟩, _, _, _, rfl⟩
          · intro x hx
            rcases List.mem_append.mp hx with q | q
            · have q1 := (hE.tup x q).1
              refine ⟨?_, (hE.tup x q).2⟩
              rw [upd_ne (ne_of q1 hsx (by intro w; cases w))]
              exact g4.at (fr3 _ _ q1 (by intro ps z; cases z))
            · rw [List.mem_singleton.mp q]
              refine ⟨?_, rfl⟩
              show upd _ sd _ t4 = _
              rw [upd_ne (ne_of_none hsx3 ht4).symm]
              exact ht4'
          · intro x hx
            rcases List.mem_append.mp hx with q | q
            · exact hE.k x q
            · rw [List.mem_singleton.mp q]
              rfl
          · rw [List.map_append, hr3, List.map_append, hE.n]
            rfl
      · refine iteF (decide_eq_false c) ?_
        have cb : decide (0 < (m.A i).best) = false := decide_eq_false (by omega)
        rw [cb] at hr3
        refine ⟨g3, ⟨xs, hsx3, fun x hx => ⟨fr3 _ _ (hE.tup x hx).1 (by intro ps z; cases z), (hE.tup x hx).2⟩, hE.k, ?_⟩, _, _, _, rfl⟩
        rw [hr3, hE.n]
        simp
    · rintro σ H' ⟨g, ⟨xs, hsx, hE⟩, v2, v3, v4, rfl⟩
      have hl : (A.as.map V.ref).length = m.ath.length := by rw [List.length_map, hc.alen]
      rw [hl] at hE
      have hlen := hE.len
      refine ⟨_, rfl, sd, xs, rfl, hsx, hE.tup, hE.nd, by omega, g.2 hc.tabs, fun H5 l5 ps g5 hl5 hl5' hp => ?_⟩
      have hpl : placedL xs = ordL m := placed_is hE.n hE.k
      rw [hpl] at hp
      exact k H5 l5 ps (g.trans g5) (g.free hl5) hl5' hp
end
end Jp

set_option Elab.async false
set_option maxRecDepth 100000
set_option maxHeartbeats 4000000
/-! First ones, the phase, the bar; what is told of heights. -/
namespace Jp
open PySem PySem.Spec PyProof.Rows L2 LamX Jl
open Jc (MS JO)
section
variable {P : Program} {w : World} {K : PySem.W.Frag} {mg : Str → Option Value} {base : Heap} {cA cJ cC cL P1 P2 : Addr} {TT : List (Addr × Str)}
theorem order_len {T : List (Addr × Str)} {N : Nat} {H : Hp} {A : CAd} {m : MS} (h : CompAt T cA cJ cC N H A m) : m.order.length ≤ 20 := by
  have h1 := (Jc.order_perm m).length_eq
  have h2 : m.ranked.length ≤ m.ath.length := range_len _ _
  have := h.small
  omega
theorem scC17 : FnScope ["self", "number", "place"] ["self"] (defScope (sC 17)) := ⟨rfl, rfl, rfl, by decide +kernel, rfl, by decide +kernel, by decide +kernel⟩
theorem ok_C17 {f : Addr} {fd : FuncData} (F : Fun K "first_ones" "Competition.first_ones" (sC 17) f fd) (T : Txt K mg cA cJ cC cL) (La : Lam K mg base cC P1 P2) : FnOk P w K mg base CX0 5 f fd ["self"] (spCL (TTof P1 P2) cA cJ cC MS.firsts) := by
  obtain ⟨f2, fd2, F2, b2, m2⟩ := T.C16
  have G2 : FnOk P w K mg base CX0 4 f2 fd2 ["self"] (spOrder (TTof P1 P2) cA cJ cC) := ok_C16 F2 T La
  refine F.ok scC17 (fun vs H Q E h => ?_) (fun cdv A outer s H vs Q E hr h => ?_)
  · obtain ⟨N, A, m, rfl, _⟩ := h
    rfl
  · obtain ⟨N, A, m, rfl, hc, k⟩ := h
    refine ⟨_, pss_one (ps_ret (pe_lc (own := [("number", 1), ("place", 2)]) (g := gTup K 2 (gCons (gName 1) (gCons (gName 2) gNil))) (by rfl) scC17.nd (pi_list (pe_meth0 (pv 0) T.clC m2 G2 hr b2 .nil pass0)) (blkOk_by (own := [("number", 1), ("place", 2)]) (N := ["self", "number", "place"]) (sc := defScope (sC 17)) (by decide +kernel))
        (fun _ _ _ _ _ => pg_tup rfl (pgs_cons (pg_name (i := 1) scC17.nd rfl (Or.inl rfl)) (pgs_cons (pg_name (i := 2) scC17.nd rfl (Or.inl rfl)) pgs_nil)))
        (fun _ _ _ _ _ => pts_one (pt_cmpR op_eq (pv 2) pe_int (nomark _)))
        (fun _ _ _ _ _ => pv 1))), ?_⟩
    obtain ⟨dx, ho⟩ := hc.obj
    have hol := order_len hc
    refine ⟨_, rfl, A.c, dx, _, rfl, ho, rfl, N, A, m, rfl, hc, fun H1 l ps g1 hl hl' hp => ?_⟩
    have hpl : ps.length = (ordL m).length := Paired.length hp
    have hpo : (ordL m).length = m.order.length := List.length_map ..
    refine ⟨l, rfl, ⟨_, SqL.of hl'⟩, fun D hD => ?_⟩
    have g2 := g1.new (o := .lst []) hD
    refine lc_list (K := K) (a := l) (xs := ps.map V.ref) (fun i H' => Go (TTof P1 P2) H1 H' ∧ H' D = some (.lst (((m.order.take i).filter fun i => m.place i == 1).map nV)))
      ⟨Go.refl.new hD, upd_same⟩ (fun i H' _ ⟨g, _⟩ => SqL.of (g.at hl')) ?_ ?_
    · rintro i v H' hv ⟨g, hacc⟩
      obtain ⟨p, hp1, rfl⟩ := map_get hv
      obtain ⟨q, hq, hpq⟩ := paired_getL hp hp1
      obtain ⟨n, hn, rfl⟩ : ∃ n, m.order[i]? = some n ∧ q = ((n : Int), m.place n) := by
        unfold ordL at hq
        rw [List.getElem?_map] at hq
        cases e : m.order[i]? with
        | none => rw [e] at hq; cases hq
        | some n => rw [e] at hq; exact ⟨n, rfl, (Option.some.inj hq).symm⟩
      have hpq : H' p = some (.tup [nV n, nV (m.place n)]) := g.at hpq
      refine ⟨p, _, rfl, SqT.of hpq, rfl, _, _, rfl, _, _, rfl, rfl, rfl, ?_⟩
      refine ⟨_, rfl, rfl, _, rfl, ?_⟩
      by_cases c : m.place n = 1
      · refine iteT (decide_eq_true (by show V.int _ = V.int 1; rw [c]; rfl)) ?_
        refine ⟨_, rfl, _, hacc, ?_, g.put hD hacc, ?_⟩
        · rw [List.length_map]
          have h1 := List.length_filter_le (fun i => m.place i == 1) (m.order.take i)
          rw [List.length_take] at h1
          show _ < 16777216
          omega
        · rw [upd_same, take_filter_yes (p := fun i => m.place i == 1) hn (by simp [c]), List.map_append]
          rfl
      · refine iteF (decide_eq_false (fun z => c ?_)) ?_
        · have z := V.int.inj z
          omega
        refine ⟨g, ?_⟩
        rw [take_filter_no (p := fun i => m.place i == 1) hn (by simp [c])]
        exact hacc
    · rintro H' ⟨g, hacc⟩
      rw [List.length_map, hpl, hpo, List.take_length] at hacc
      exact k H' D (g1.trans g) (g1.free hD) hacc
theorem scC1 : FnScope ["self"] ["self"] (defScope (sC 1)) := ⟨rfl, rfl, rfl, by decide +kernel, rfl, by decide +kernel, by decide +kernel⟩
theorem ok_C1 {f : Addr} {fd : FuncData} (F : Fun K "phase" "Competition.phase" (sC 1) f fd) (T : Txt K mg cA cJ cC cL) (La : Lam K mg base cC P1 P2) : FnOk P w K mg base CX0 6 f fd ["self"] (spC (TTof P1 P2) cA cJ cC (fun _ => True) fun m => nV m.phase) := by
  obtain ⟨f5, fd5, F5, b5, m5⟩ := T.C5
  have G5 : FnOk P w K mg base CX0 4 f5 fd5 ["self"] (spCL (TTof P1 P2) cA cJ cC MS.notOut) := ok_C5 F5 T
  obtain ⟨f7, fd7, F7, b7, m7⟩ := T.C17
  have G7 : FnOk P w K mg base CX0 5 f7 fd7 ["self"] (spCL (TTof P1 P2) cA cJ cC MS.firsts) := ok_C17 F7 T La
  obtain ⟨f1, fd1, F1, b1, m1⟩ := T.J1
  have G1 : FnOk P w K mg base CX0 1 f1 fd1 ["self"] (spJ cJ (fun _ => True) fun j => .bl (decide (j.off.length = 1))) := ok_J1 F1 T
  refine F.ok scC1 (fun vs H Q E h => ?_) (fun cdv A outer s H vs Q E hr h => ?_)
  · obtain ⟨N, A, m, rfl, _⟩ := h
    rfl
  · obtain ⟨N, A, m, rfl, hc, _, k⟩ := h
    have k : ∀ H', Go (TTof P1 P2) H H' → Q (nV m.phase) H' := k
    refine ⟨_, pss_cons (ps_if (pt_cmpR op_gt (pe_callB call_len_seq (by rfl) T.len PySem.boot_len (pa_cons (pe_meth0 (pv 0) T.clC m5 G5 (hr.mono (by decide : 4 ≤ 5)) b5 .nil pass0) pa_nil)) pe_int (nomark _)) (pss_one (ps_ret (pe_ic rfl T.ON))) pss_nil)
      (pss_cons (ps_if (pt_cmpR op_notN (pe_fld (pv 0) rfl) pe_non (nomark _)) (pss_one (ps_ret (pe_ifExp (pt_val (pe_meth0 (pe_fld (pv 0) rfl) T.clJ m1 G1 (hr.mono (by decide : 1 ≤ 5)) b1 .nil pass0)) (pe_ic rfl T.OVER) (pe_ic rfl T.INOFF)))) pss_nil)
      (pss_cons (ps_if (PW.pt (pw_or (pt_val (pe_fld (pv 0) rfl)) (pw_or1 (pt_cmpR op_lt (pe_callB call_len_seq (by rfl) T.len PySem.boot_len (pa_cons (pe_meth0 (pv 0) T.clC m7 G7 hr b7 .nil pass0) pa_nil)) pe_int (nomark _))))) (pss_one (ps_ret (pe_ic rfl T.OVER))) pss_nil)
      (pss_one (ps_ret (pe_ic rfl T.MAY))))), ?_⟩
    obtain ⟨dx, ho⟩ := hc.obj
    refine ⟨_, rfl, A.c, dx, _, rfl, ho, rfl, N, A, m, rfl, hc, fun H1 l g1 _ hl => ?_⟩
    refine ⟨l, _, rfl, .inl (SqL.of hl), _, _, rfl, rfl, _, rfl, ?_⟩
    rw [List.length_map]
    by_cases c : m.notOut = []
    · refine iteF (decide_eq_false (by rw [c]; show ¬ ((0 : Int) < ((0 : Nat) : Int)); omega)) ?_
      have hc1 := hc.go g1
      obtain ⟨dx1, ho1⟩ := hc1.obj
      have hph : m.phase = match m.jo with
        | some j => if j.off.length = 1 then 3 else 2
        | none => if m.decl = true ∨ m.firsts.length < 2 then 3 else 1 := by
        unfold Jc.MS.phase
        rw [if_neg (by simp [c])]
        all_goals (cases m.jo <;> rfl)
      refine ⟨_, rfl, A.c, cC, dx1, _, _, rfl, ho1, T.clC, T.cOff, fC_jo, rfl, _, rfl, ?_⟩
      cases e : m.jo with
      | some j =>
        rw [e] at hph
        have hph : m.phase = if j.off.length = 1 then 3 else 2 := hph
        obtain ⟨ja, ol, cl, dl, _, ej, hj⟩ := hc1.jv_some e
        obtain ⟨dj, hoj⟩ := hj.obj
        refine iteT (by rw [ej]; rfl) ?_
        refine ⟨_, rfl, A.c, cC, dx1, _, _, rfl, ho1, T.clC, T.cOff, fC_jo, ja, dj, _, ej, hoj, rfl, ja, ol, cl, dl, j, by rw [ej]; rfl, hj, trivial, _, rfl, ?_⟩
        have k2 := k H1 g1
        rw [hph] at k2
        by_cases c2 : j.off.length = 1
        · rw [if_pos c2] at k2
          exact iteT (decide_eq_true c2) k2
        · rw [if_neg c2] at k2
          exact iteF (decide_eq_false c2) k2
      | none =>
        rw [e] at hph
        have hph : m.phase = if m.decl = true ∨ m.firsts.length < 2 then 3 else 1 := hph
        refine iteF (by rw [hc1.jv_none e]; rfl) ?_
        refine ⟨_, rfl, A.c, cC, dx1, _, _, rfl, ho1, T.clC, T.cDecl, fC_decl, m.decl, rfl, ?_⟩
        cases d : m.decl with
        | true =>
          have k2 := k H1 g1
          rw [hph, if_pos (.inl d)] at k2
          exact iteT rfl k2
        | false =>
          refine iteF rfl ?_
          refine ⟨_, rfl, A.c, dx1, _, rfl, ho1, rfl, N, A, m, rfl, hc1, fun H2 l2 g2 _ hl2 => ?_⟩
          refine ⟨l2, _, rfl, .inl (SqL.of hl2), _, _, rfl, rfl, _, rfl, ?_⟩
          rw [List.length_map]
          have k2 := k H2 (g1.trans g2)
          rw [hph] at k2
          by_cases c2 : m.firsts.length < 2
          · rw [if_pos (.inr c2)] at k2
            exact iteT (decide_eq_true (by show ((m.firsts.length : Nat) : Int) < 2; omega)) k2
          · rw [if_neg (by simp [d, c2])] at k2
            exact iteF (decide_eq_false (by show ¬ ((m.firsts.length : Nat) : Int) < 2; omega)) k2
    · have k2 := k H1 g1
      rw [Jc.phase_on c] at k2
      have : m.notOut.length ≠ 0 := fun z => c (List.length_eq_zero_iff.mp z)
      exact iteT (decide_eq_true (by show (0 : Int) < ((m.notOut.length : Nat) : Int); omega)) k2
end
end Jp

set_option Elab.async false
set_option maxRecDepth 100000
set_option maxHeartbeats 4000000
/-! The bar, who's in it; heights told and tried. -/
namespace Jp
open PySem PySem.Spec PyProof.Rows L2 LamX Jl
open Jc (MS JO)
theorem int_ite (p : Prop) [Decidable p] {α : Type} (a b : α) : (if p then a else b) = if decide p = true then a else b := by by_cases h : p <;> simp [h]
theorem nV_eq {a b : Nat} : decide (nV a = nV b) = decide (a = b) := decide_eq_decide.mpr ⟨fun z => by have := V.int.inj z; omega, fun z => by rw [z]⟩
theorem phase_jo {m : MS} (h : m.phase = 2) : ∃ j, m.jo = some j := (Jc.phase_two.mp h).2.elim fun j h => ⟨j, h.1⟩
theorem barNow_two {m : MS} {j : JO} (h : m.phase = 2) (e : m.jo = some j) : m.barNow = j.bar := by
  unfold Jc.MS.barNow
  rw [e]
  exact if_pos h
theorem barNow_not {m : MS} (h : ¬ m.phase = 2) : m.barNow = m.bar := by
  unfold Jc.MS.barNow
  cases m.jo with
  | none => rfl
  | some j => exact if_neg h
theorem whoIn_two {m : MS} {j : JO} (h : m.phase = 2) (e : m.jo = some j) : m.whoIn = j.off := by
  unfold Jc.MS.whoIn
  rw [e]
  exact if_pos h
theorem whoIn_not {m : MS} (h : ¬ m.phase = 2) : m.whoIn = m.notOut := by
  unfold Jc.MS.whoIn
  cases m.jo with
  | none => rfl
  | some j => exact if_neg h
theorem max_ints (l : List Nat) : dflt (.int 0) (fun n r => r.foldl max n) (l.map fun n : Nat => (n : Int)) = nV (l.foldl max 0) := max_dflt l
theorem foldl_min_cast : ∀ (l : List Nat) (x : Nat), (l.map fun n : Nat => (n : Int)).foldl min (x : Int) = ((l.foldl min x : Nat) : Int)
  | [], _ => rfl
  | y :: l, x => by
    show (l.map fun n : Nat => (n : Int)).foldl min (min (x : Int) (y : Int)) = _
    have e : min (x : Int) (y : Int) = ((min x y : Nat) : Int) := by omega
    rw [e, foldl_min_cast l (min x y)]
    rfl
theorem min_dflt (l : List Nat) (d : Nat) : dflt (nV d) (fun n r => r.foldl min n) (l.map fun n : Nat => (n : Int)) = nV ((l.min?).getD d) := by
  cases l with
  | nil => rfl
  | cons x l =>
    show V.int _ = V.int _
    rw [List.min?_cons', Option.getD_some]
    exact congrArg V.int (foldl_min_cast l x)
section
variable {P : Program} {w : World} {K : PySem.W.Frag} {mg : Str → Option Value} {base : Heap} {cA cJ cC cL P1 P2 : Addr} {TT : List (Addr × Str)}
theorem scC2 : FnScope ["self"] ["self"] (defScope (sC 2)) := ⟨rfl, rfl, rfl, by decide +kernel, rfl, by decide +kernel, by decide +kernel⟩
theorem ok_C2 {f : Addr} {fd : FuncData} (F : Fun K "bar_now" "Competition.bar_now" (sC 2) f fd) (T : Txt K mg cA cJ cC cL) (La : Lam K mg base cC P1 P2) : FnOk P w K mg base CX0 7 f fd ["self"] (spC (TTof P1 P2) cA cJ cC (fun _ => True) fun m => nV m.barNow) := by
  obtain ⟨f1, fd1, F1, b1, m1⟩ := T.C1
  have G1 : FnOk P w K mg base CX0 6 f1 fd1 ["self"] (spC (TTof P1 P2) cA cJ cC (fun _ => True) fun m => nV m.phase) := ok_C1 F1 T La
  refine F.ok scC2 (fun vs H Q E h => ?_) (fun cdv A outer s H vs Q E hr h => ?_)
  · obtain ⟨N, A, m, rfl, _⟩ := h
    rfl
  · obtain ⟨N, A, m, rfl, hc, _, k⟩ := h
    have k : ∀ H', Go (TTof P1 P2) H H' → Q (nV m.barNow) H' := k
    refine ⟨_, pss_cons (ps_if (pt_cmpR op_eq (pe_meth0 (pv 0) T.clC m1 G1 hr b1 .nil pass0) (pe_ic rfl T.INOFF) (nomark _)) (pss_one (ps_ret (pe_fld (pe_fld (pv 0) rfl) rfl))) pss_nil)
      (pss_one (ps_ret (pe_fld (pv 0) rfl))), ?_⟩
    obtain ⟨dx, ho⟩ := hc.obj
    refine ⟨_, rfl, A.c, dx, _, rfl, ho, rfl, N, A, m, rfl, hc, trivial, fun H1 g1 => ⟨rfl, _, rfl, ?_⟩⟩
    have hc1 := hc.go g1
    obtain ⟨dx1, ho1⟩ := hc1.obj
    by_cases c : m.phase = 2
    · refine iteT (decide_eq_true (congrArg nV c)) ?_
      obtain ⟨j, e⟩ := phase_jo c
      obtain ⟨ja, ol, cl, dl, _, ej, hj⟩ := hc1.jv_some e
      obtain ⟨dj, hoj⟩ := hj.obj
      refine ⟨_, rfl, A.c, cC, dx1, _, _, rfl, ho1, T.clC, T.cOff, fC_jo, ja, cJ, dj, _, _, ej, hoj, T.clJ, T.jBar, fJ_bar, ?_⟩
      rw [← barNow_two c e]
      exact k H1 g1
    · refine iteF (decide_eq_false fun z => c ?_) ?_
      · have := V.int.inj z
        omega
      refine ⟨_, rfl, A.c, cC, dx1, _, _, rfl, ho1, T.clC, T.cBar, fC_bar, ?_⟩
      rw [← barNow_not c]
      exact k H1 g1
theorem scC6 : FnScope ["self"] ["self"] (defScope (sC 6)) := ⟨rfl, rfl, rfl, by decide +kernel, rfl, by decide +kernel, by decide +kernel⟩
theorem ok_C6 {f : Addr} {fd : FuncData} (F : Fun K "who_is_in" "Competition.who_is_in" (sC 6) f fd) (T : Txt K mg cA cJ cC cL) (La : Lam K mg base cC P1 P2) : FnOk P w K mg base CX0 7 f fd ["self"] (spCL (TTof P1 P2) cA cJ cC MS.whoIn) := by
  obtain ⟨f1, fd1, F1, b1, m1⟩ := T.C1
  have G1 : FnOk P w K mg base CX0 6 f1 fd1 ["self"] (spC (TTof P1 P2) cA cJ cC (fun _ => True) fun m => nV m.phase) := ok_C1 F1 T La
  obtain ⟨f5, fd5, F5, b5, m5⟩ := T.C5
  have G5 : FnOk P w K mg base CX0 4 f5 fd5 ["self"] (spCL (TTof P1 P2) cA cJ cC MS.notOut) := ok_C5 F5 T
  refine F.ok scC6 (fun vs H Q E h => ?_) (fun cdv A outer s H vs Q E hr h => ?_)
  · obtain ⟨N, A, m, rfl, _⟩ := h
    rfl
  · obtain ⟨N, A, m, rfl, hc, k⟩ := h
    refine ⟨_, pss_cons (ps_if (pt_cmpR op_eq (pe_meth0 (pv 0) T.clC m1 G1 hr b1 .nil pass0) (pe_ic rfl T.INOFF) (nomark _)) (pss_one (ps_ret (pe_callTy call_list_of (by rfl) T.list (by decide +kernel) (pa_cons (pe_fld (pe_fld (pv 0) rfl) rfl) pa_nil)))) pss_nil)
      (pss_one (ps_ret (pe_meth0 (pv 0) T.clC m5 G5 (hr.mono (by decide : 4 ≤ 6)) b5 .nil pass0))), ?_⟩
    obtain ⟨dx, ho⟩ := hc.obj
    refine ⟨_, rfl, A.c, dx, _, rfl, ho, rfl, N, A, m, rfl, hc, trivial, fun H1 g1 => ⟨rfl, _, rfl, ?_⟩⟩
    have hc1 := hc.go g1
    obtain ⟨dx1, ho1⟩ := hc1.obj
    by_cases c : m.phase = 2
    · refine iteT (decide_eq_true (congrArg nV c)) ?_
      obtain ⟨j, e⟩ := phase_jo c
      obtain ⟨ja, ol, cl, dl, _, ej, hj⟩ := hc1.jv_some e
      obtain ⟨dj, hoj⟩ := hj.obj
      refine ⟨_, rfl, A.c, cC, dx1, _, _, rfl, ho1, T.clC, T.cOff, fC_jo, ja, cJ, dj, _, _, ej, hoj, T.clJ, T.jIn, fJ_in, ol, _, rfl, .inl (SqL.of hj.off), fun l hl => ?_⟩
      refine k _ l (g1.new hl) (g1.free hl) ?_
      rw [upd_same, whoIn_two c e]
    · refine iteF (decide_eq_false fun z => c ?_) ?_
      · have := V.int.inj z
        omega
      refine ⟨_, rfl, A.c, dx1, _, rfl, ho1, rfl, N, A, m, rfl, hc1, fun H2 l g2 hl hl' => ?_⟩
      refine k _ l (g1.trans g2) (g1.free hl) ?_
      rw [whoIn_not c]
      exact hl'
theorem scC13 : FnScope ["self", "athlete"] ["self"] (defScope (sC 13)) := ⟨rfl, rfl, rfl, by decide +kernel, rfl, by decide +kernel, by decide +kernel⟩
theorem ok_C13 {f : Addr} {fd : FuncData} (F : Fun K "greatest_tried" "Competition.greatest_tried" (sC 13) f fd) (T : Txt K mg cA cJ cC cL) : FnOk P w K mg base CX0 2 f fd ["self"] (spC TT cA cJ cC (fun _ => True) fun m => nV m.tried) := by
  obtain ⟨f8, fd8, F8, b8, m8⟩ := T.A8
  have G8 : FnOk P w K mg base CX0 1 f8 fd8 ["self"] (spA TT cA fun x => .int (((x.jumps.map Kg63.Jump.height).foldl max 0 : Nat) : Int)) := ok_A8 F8 T
  refine F.ok scC13 (fun vs H Q E h => ?_) (fun cdv A outer s H vs Q E hr h => ?_)
  · obtain ⟨N, A, m, rfl, _⟩ := h
    rfl
  · obtain ⟨N, A, m, rfl, hc, _, k⟩ := h
    have k : ∀ H', Go TT H H' → Q (nV m.tried) H' := k
    refine ⟨_, pss_one (ps_ret (pe_callBK (cr_maxD (room2 hr) hr.hd) (by rfl) T.max boot_max1 (pa_cons
      (pe_lc (own := [("athlete", 1)]) (g := gName 1) (by rfl) scC13.nd (pi_list (pe_fld (pv 0) rfl)) (blkOk_by (own := [("athlete", 1)]) (N := ["self", "athlete"]) (sc := defScope (sC 13)) (by decide +kernel))
        (fun _ _ _ _ _ => pg_name (i := 1) scC13.nd rfl (Or.inl rfl))
        (fun _ _ _ _ _ => pts_nil)
        (fun _ _ _ _ _ => pe_meth0 (pv 1) T.clA m8 G8 hr b8 .nil pass0)) pa_nil) (pk_cons pe_int pk_nil))), ?_⟩
    obtain ⟨dx, ho⟩ := hc.obj
    have hs := hc.small
    refine ⟨_, rfl, A.c, cC, dx, _, _, rfl, ho, T.clC, T.cAth, fC_ath, A.al, rfl, ⟨_, SqL.of hc.lst⟩, fun D hD => ?_⟩
    refine lc_list (K := K) (a := A.al) (xs := A.as.map V.ref) (fun i H' => Go TT H H' ∧ H' D = some (.lst (((m.ath.take i).map fun a => (a.jumps.map Kg63.Jump.height).foldl max 0).map nV)))
      ⟨Go.refl.new hD, upd_same⟩ (fun i H' _ ⟨g, _⟩ => SqL.of (hc.go g).lst) ?_ ?_
    · rintro i v H' hv ⟨g, hacc⟩
      obtain ⟨a, ha, rfl⟩ := map_get hv
      have hi : i < m.ath.length := by rw [← hc.alen]; exact (List.getElem?_eq_some_iff.mp ha).1
      have hc' := hc.go g
      obtain ⟨a', l, ha', hl, hat⟩ := hc'.ath hi
      obtain rfl : a = a' := by rw [ha] at ha'; exact Option.some.inj ha'
      obtain ⟨da, hoa⟩ := hat.obj
      refine ⟨rfl, ?_⟩
      dsimp only [tYes]
      rw [if_pos rfl]
      refine ⟨_, rfl, a, da, _, rfl, hoa, rfl, N, a, l, _, rfl, hat, fun H2 g2 => ⟨_, g2.at hacc, ?_, (g.trans g2).put hD (g2.at hacc), ?_⟩⟩
      · rw [List.length_map, List.length_map, List.length_take]
        show _ < 16777216
        omega
      · have e : m.ath[i]? = some (m.A i) := by
          unfold Jc.MS.A
          rw [List.getD_eq_getElem?_getD, List.getElem?_eq_getElem hi]; rfl
        rw [upd_same, List.take_add_one, e, List.map_append, List.map_append]
        rfl
    · rintro H' ⟨g, hacc⟩
      rw [List.length_map, hc.alen, List.take_length] at hacc
      refine ⟨D, (m.ath.map fun a => (a.jumps.map Kg63.Jump.height).foldl max 0).map fun n : Nat => (n : Int), .int 0, rfl, rfl, SqL.of (by rw [hacc, List.map_map, List.map_map, List.map_map]; rfl), ?_⟩
      rw [max_ints]
      exact k H' g
theorem scC14 : FnScope ["self", "height", "told"] ["self", "height"] (defScope (sC 14)) := ⟨rfl, rfl, rfl, by decide +kernel, rfl, by decide +kernel, by decide +kernel⟩
theorem ok_C14 {f : Addr} {fd : FuncData} (F : Fun K "height_behind" "Competition.height_behind" (sC 14) f fd) (T : Txt K mg cA cJ cC cL) : FnOk P w K mg base CX0 1 f fd ["self", "height"] (spC1 TT cA cJ cC (fun _ _ => True) fun m h => nV (m.after h)) := by
  refine F.ok scC14 (fun vs H Q E h => ?_) (fun cdv A outer s H vs Q E hr h => ?_)
  · obtain ⟨N, A, m, i, rfl, _⟩ := h
    rfl
  · obtain ⟨N, A, m, i, rfl, hc, _, k⟩ := h
    have k : ∀ H', Go TT H H' → Q (nV (m.after i)) H' := k
    refine ⟨_, pss_one (ps_ret (pe_callBK (cr_minD (room2 hr) hr.hd) (by rfl) T.min boot_min1 (pa_cons
      (pe_lc (own := [("told", 2)]) (g := gName 2) (by rfl) scC14.nd (pi_list (pe_fld (pv 0) rfl)) (blkOk_by (own := [("told", 2)]) (N := ["self", "height", "told"]) (sc := defScope (sC 14)) (by decide +kernel))
        (fun _ _ _ _ _ => pg_name (i := 2) scC14.nd rfl (Or.inl rfl))
        (fun _ _ _ _ _ => pts_one (pt_cmpR op_gt (pv 2) (pv 1) (nomark _)))
        (fun _ _ _ _ _ => pv 2)) pa_nil) (pk_cons (pe_op op_add (pv 1) (pe_fld (pv 0) rfl)) pk_nil))), ?_⟩
    obtain ⟨dx, ho⟩ := hc.obj
    have hs := hc.hlen
    refine ⟨_, rfl, A.c, cC, dx, _, _, rfl, ho, T.clC, T.cHeights, fC_hts, A.hl, rfl, ⟨_, SqL.of hc.hts⟩, fun D hD => ?_⟩
    refine lc_list (K := K) (a := A.hl) (xs := m.heights.map nV) (fun j H' => Go TT H H' ∧ H' D = some (.lst (((m.heights.take j).filter fun x => decide (i < x)).map nV)))
      ⟨Go.refl.new hD, upd_same⟩ (fun i H' _ ⟨g, _⟩ => SqL.of (hc.go g).hts) ?_ ?_
    · rintro j v H' hv ⟨g, hacc⟩
      obtain ⟨x, hx, rfl⟩ := map_get hv
      refine ⟨rfl, ?_⟩
      refine ⟨_, rfl, _, rfl, _, _, rfl, rfl, _, rfl, ?_⟩
      by_cases c : i < x
      · refine iteT (decide_eq_true (by omega)) ?_
        refine ⟨_, rfl, _, hacc, ?_, g.put hD hacc, ?_⟩
        · rw [List.length_map]
          have h1 := List.length_filter_le (fun x => decide (i < x)) (m.heights.take j)
          rw [List.length_take] at h1
          show _ < 16777216
          omega
        · rw [upd_same, take_filter_yes (p := fun x => decide (i < x)) hx (by simp [c]), List.map_append]
          rfl
      · refine iteF (decide_eq_false (by omega)) ?_
        refine ⟨g, ?_⟩
        rw [take_filter_no (p := fun x => decide (i < x)) hx (by simp [c])]
        exact hacc
    · rintro H' ⟨g, hacc⟩
      rw [List.length_map, List.take_length] at hacc
      have hc' := hc.go g
      obtain ⟨dx', ho'⟩ := hc'.obj
      refine ⟨_, rfl, _, rfl, A.c, cC, dx', _, _, rfl, ho', T.clC, T.cRise, fC_rise, _, _, rfl, rfl, ?_⟩
      refine ⟨D, (m.heights.filter fun x => decide (i < x)).map fun n : Nat => (n : Int), nV (i + m.rise), rfl, rfl, SqL.of (by rw [hacc, List.map_map]; rfl), ?_⟩
      rw [min_dflt]
      exact k H' g
end
end Jp

set_option Elab.async false
set_option maxRecDepth 100000
set_option maxHeartbeats 4000000
/-! Who's up. -/
namespace Jp
open PySem PySem.Spec PyProof.Rows L2 LamX Jl
open Jc (MS JO)
theorem argBest_congr {f g : Nat → Nat → Bool} : ∀ n, (∀ i j, i ≤ n → j ≤ n → f i j = g i j) → argBest f n = argBest g n ∧ argBest f n ≤ n
  | 0, _ => ⟨rfl, Nat.le_refl _⟩
  | n + 1, h => by
    obtain ⟨e, l⟩ := argBest_congr n fun i j hi hj => h i j (by omega) (by omega)
    unfold argBest
    rw [← e, h (n + 1) (argBest f n) (Nat.le_refl _) (by omega)]
    refine ⟨rfl, ?_⟩
    split <;> omega
theorem least_snoc (f : Nat → Nat) (l : List Nat) (x : Nat) : Jc.least f (l ++ [x]) = Jc.lstep f (Jc.least f l) x := by
  unfold Jc.least
  rw [List.foldl_append]
  rfl
theorem argBest_least (f : Nat → Nat) (l : List Nat) : ∀ n, n < l.length → argBest (fun i j => decide (f (l.getD i 0) < f (l.getD j 0))) n < l.length ∧ some (l.getD (argBest (fun i j => decide (f (l.getD i 0) < f (l.getD j 0))) n) 0) = Jc.least f (l.take (n + 1))
  | 0, h => by
    refine ⟨h, ?_⟩
    cases l with
    | nil => simp at h
    | cons x l => rfl
  | n + 1, h => by
    obtain ⟨h1, ih⟩ := argBest_least f l n (by omega)
    have e : l.take (n + 1 + 1) = l.take (n + 1) ++ [l.getD (n + 1) 0] := by
      rw [List.take_add_one, List.getD_eq_getElem?_getD, List.getElem?_eq_getElem h]; rfl
    rw [e, least_snoc, ← ih]
    show _ ∧ _ = (if f (l.getD (n + 1) 0) < f (l.getD (argBest (fun i j => decide (f (l.getD i 0) < f (l.getD j 0))) n) 0) then some (l.getD (n + 1) 0) else some (l.getD (argBest (fun i j => decide (f (l.getD i 0) < f (l.getD j 0))) n) 0))
    rw [argBest]
    by_cases c : f (l.getD (n + 1) 0) < f (l.getD (argBest (fun i j => decide (f (l.getD i 0) < f (l.getD j 0))) n) 0)
    · rw [if_pos (decide_eq_true c), if_pos c]
      exact ⟨h, rfl⟩
    · rw [if_neg (by simpa using c), if_neg c]
      exact ⟨h1, rfl⟩
/-- in a jump-off there's one to come -/
def Ok2 (m : MS) : Prop := ∀ j, m.phase = 2 → m.jo = some j → j.clears.length < j.off.length
def upV (m : MS) : V := m.up.elim .non nV
theorem up_two {m : MS} {j : JO} (h : m.phase = 2) (e : m.jo = some j) : m.up = j.off[j.clears.length]? := by
  unfold Jc.MS.up
  rw [e]
  exact if_pos h
theorem up_not {m : MS} (h : ¬ m.phase = 2) : m.up = Jc.least (fun i => Kg63.failsAt (m.A i) m.bar) m.due := by
  unfold Jc.MS.up
  cases m.jo with
  | none => rfl
  | some j => exact if_neg h
theorem roomI {k : Nat} {A : Around} (hr : Room (k + 3) A) : Room (1 + 1) A.in1 := ⟨hr.hd, (hr.mono (by omega : 1 + 1 ≤ k + 3)).dp, by
  have h := hr.un
  have e : A.in1.units = A.units + 1 := rfl
  omega⟩
section
variable {P : Program} {w : World} {K : PySem.W.Frag} {mg : Str → Option Value} {base : Heap} {cA cJ cC cL P1 P2 : Addr}
theorem scC8 : FnScope ["self"] ["self"] (defScope (sC 8)) := ⟨rfl, rfl, rfl, by decide +kernel, rfl, by decide +kernel, by decide +kernel⟩
theorem ok_C8 {f c : Addr} {fd : FuncData} (F : FunC K "who_is_up" "Competition.who_is_up" (sC 8) f fd c) (T : Txt K mg cA cJ cC cL) (La : Lam K mg base cC P1 P2) (TB : TabB base mg c P2) : FnOk P w K mg base CX0 7 f fd ["self"] (spC (TTof P1 P2) cA cJ cC Ok2 upV) := by
  obtain ⟨f1, fd1, F1, b1, m1⟩ := T.C1
  have G1 : FnOk P w K mg base CX0 6 f1 fd1 ["self"] (spC (TTof P1 P2) cA cJ cC (fun _ => True) fun m => nV m.phase) := ok_C1 F1 T La
  obtain ⟨f7, fd7, F7, b7, m7⟩ := T.C7
  have G7 : FnOk P w K mg base CX0 4 f7 fd7 ["self"] (spCL (TTof P1 P2) cA cJ cC MS.due) := ok_C7 F7 T
  obtain ⟨f2, fd2, F2, b2, m2⟩ := T.J2
  have G2 : FnOk P w K mg base CX0 1 f2 fd2 ["self"] (spJ cJ (fun j => j.clears.length < j.off.length) fun j => nV (j.off.getD j.clears.length 0)) := ok_J2 F2 T
  obtain ⟨f5, fd5, F5, b5, m5⟩ := T.A5
  have G5 : FnOk P w K mg base CX0 1 f5 fd5 ["self", "height"] (spA1 (TTof P1 P2) cA fun x h => .int (Kg63.failsAt x h : Int)) := ok_A5 F5 T
  refine F.ok scC8 (fun vs H Q E h => ?_) (fun A outer s H vs Q E hr h => ?_)
  · obtain ⟨N, A, m, rfl, _⟩ := h
    rfl
  · obtain ⟨N, A, m, rfl, hc, ok2, k⟩ := h
    have k : ∀ H', Go (TTof P1 P2) H H' → Q (upV m) H' := k
    have hu2 : ∀ p ∈ TTof P1 P2, p.1 = P2 → p.2 = q2 := fun p hp e => by
      rcases List.mem_cons.mp hp with z | z
      · rw [z] at e
        exact absurd e La.ne
      · rw [List.mem_singleton.mp z]
    refine ⟨_, pss_cons (ps_if (pt_cmpR op_eq (pe_meth0 (pv 0) T.clC m1 G1 hr b1 .nil pass0) (pe_ic rfl T.INOFF) (nomark _)) (pss_one (ps_ret (pe_meth0 (pe_fld (pv 0) rfl) T.clJ m2 G2 (hr.mono (by decide : 1 ≤ 6)) b2 .nil pass0))) pss_nil)
      (pss_one (ps_ret (pe_minKD (k := 1) (p := "number") (T := TTof P1 P2) (tb := tMeth cA "failures_at" (spA1 (TTof P1 P2) cA fun x h => .int (Kg63.failsAt x h : Int)) [] E0 (tOp (rIxL K) (tFld K (tVar 0) "athletes") (tVar 1)) (tCons (tFld K (tVar 0) "bar") tNil)) TB rfl (List.mem_cons_of_mem _ (List.mem_cons_self ..)) hu2 (roomI hr) T.min (pa_cons (pe_meth0 (pv 0) T.clC m7 G7 (hr.mono (by decide : 4 ≤ 6)) b7 .nil pass0) pa_nil) pe_non
        (fun _ _ _ _ _ _ hr' => pe_meth (pe_ix ix_list (pe_fld (pv 0) rfl) (pv 1) (fun _ _ => rfl)) T.clA m5 G5 hr' b5 .nil pass0 (pa_cons (pe_fld (pv 0) rfl) pa_nil)) (show ("number" : Str) ∉ (["self"] : List Str) by decide)
        (L := show lamPB (defScope (sC 8)) _ _ = true by decide +kernel)))), ?_⟩
    obtain ⟨dx, ho⟩ := hc.obj
    refine ⟨_, rfl, A.c, dx, _, rfl, ho, rfl, N, A, m, rfl, hc, trivial, fun H1 g1 => ⟨rfl, _, rfl, ?_⟩⟩
    have hc1 := hc.go g1
    obtain ⟨dx1, ho1⟩ := hc1.obj
    by_cases c : m.phase = 2
    · refine iteT (decide_eq_true (congrArg nV c)) ?_
      obtain ⟨j, e⟩ := phase_jo c
      obtain ⟨ja, ol, cl, dl, _, ej, hj⟩ := hc1.jv_some e
      obtain ⟨dj, hoj⟩ := hj.obj
      have hlt := ok2 j c e
      refine ⟨_, rfl, A.c, cC, dx1, _, _, rfl, ho1, T.clC, T.cOff, fC_jo, ja, dj, _, ej, hoj, rfl, ja, ol, cl, dl, j, by rw [ej]; rfl, hj, hlt, ?_⟩
      have eu : upV m = nV (j.off.getD j.clears.length 0) := by
        unfold upV
        rw [up_two c e, List.getD_eq_getElem?_getD, List.getElem?_eq_getElem hlt]
        rfl
      have k2 := k H1 g1
      rw [eu] at k2
      exact k2
    · refine iteF (decide_eq_false fun z => c ?_) ?_
      · have := V.int.inj z
        omega
      refine ⟨_, rfl, A.c, dx1, _, rfl, ho1, rfl, N, A, m, rfl, hc1, fun H2 l g2 hl hl' => ?_⟩
      have hc2 := hc1.go g2
      refine ⟨hc2.tabs, fun H3 ff c' pm ctv e1 t1 hff hf1 hc1' => ?_⟩
      have g3 : Go (TTof P1 P2) H2 H3 := ⟨e1, fun _ => t1⟩
      have g03 := (g1.trans g2).trans g3
      have eu := up_not c
      refine ⟨l, ff, c', m.due.map fun n : Nat => (n : Int), .non, pm, ctv, fun H' => Go (TTof P1 P2) H3 H', fun i => (Kg63.failsAt (m.A (m.due.getD i 0)) m.bar : Int), rfl, rfl, Go.refl, fun H' g => ⟨SqL.of ?_, g.at hf1, g.at hc1'⟩, fun i n H' hi g => ?_, fun hn H' g => ?_, fun n hn hi H' g => ?_⟩
      · have := g.at (g3.at hl')
        rw [this, List.map_map]
        rfl
      · rw [List.getElem?_map] at hi
        cases ed : m.due[i]? with
        | none => rw [ed] at hi; cases hi
        | some d =>
          rw [ed] at hi
          obtain rfl : (d : Int) = n := Option.some.inj hi
          have hg : m.due.getD i 0 = d := by rw [List.getD_eq_getElem?_getD, ed]; rfl
          have hd : d < m.ath.length := List.mem_range.mp (List.mem_filter.mp (List.mem_of_getElem? ed)).1
          have hc' := hc.go (g03.trans g)
          obtain ⟨dx', ho'⟩ := hc'.obj
          obtain ⟨a, la, ha, hla, hat⟩ := hc'.ath hd
          obtain ⟨da, hoa⟩ := hat.obj
          refine ⟨_, rfl, A.c, cC, dx', _, _, rfl, ho', T.clC, T.cAth, fC_ath, _, rfl, A.al, _, _, .ref a, rfl, rfl, SqL.of hc'.lst, atI_nat (by rw [List.getElem?_map, ha]; rfl), a, da, _, rfl, hoa, rfl, _, rfl, A.c, cC, dx', _, _, rfl, ho', T.clC, T.cBar, fC_bar, N, a, la, _, m.bar, rfl, hat, fun H4 g4 => ⟨?_, g.trans g4⟩⟩
          dsimp only
          rw [hg]
      · have hn : m.due = [] := List.map_eq_nil_iff.mp hn
        have k2 := k H' (g03.trans g)
        unfold upV at k2
        rw [eu, hn] at k2
        exact k2
      · rw [List.length_map] at hn hi
        obtain ⟨h1, h2⟩ := argBest_least (fun i => Kg63.failsAt (m.A i) m.bar) m.due (m.due.length - 1) (by omega)
        have hcg := (argBest_congr (f := fun i j => decide ((Kg63.failsAt (m.A (m.due.getD i 0)) m.bar : Int) < (Kg63.failsAt (m.A (m.due.getD j 0)) m.bar : Int))) (g := fun i j => decide (Kg63.failsAt (m.A (m.due.getD i 0)) m.bar < Kg63.failsAt (m.A (m.due.getD j 0)) m.bar)) (m.due.length - 1) fun i j _ _ => decide_eq_decide.mpr (by omega)).1
        rw [hcg, List.getElem?_map, List.getElem?_eq_getElem h1] at hi
        rw [List.take_of_length_le (by omega), List.getD_eq_getElem?_getD, List.getElem?_eq_getElem h1] at h2
        have k2 := k H' (g03.trans g)
        unfold upV at k2
        rw [eu, ← h2] at k2
        rw [← Option.some.inj hi]
        exact k2
end
end Jp

set_option Elab.async false
set_option maxRecDepth 100000
set_option maxHeartbeats 4000000
/-! What changes a contest. -/
namespace Jp
open PySem PySem.Spec PyProof.Rows L2 LamX Jl
open Jc (MS JO)
def CAd.lists (A : CAd) : List Addr := A.al :: A.hl :: (match A.jo with
  | none => []
  | some (_, ol, _, _) => [ol])
structure MutFr (T : List (Addr × Str)) (A A' : CAd) (H H' : Hp) : Prop where
  c : A'.c = A.c
  foot : ∀ b ∈ A'.foot, b ∈ A.foot ∨ H b = none
  ls : ∀ b ∈ A'.lists, b ∈ A.lists ∨ b ∈ A.foot ∨ H b = none
  go : GoB T (· ∈ A.foot) H H'
def spMut {α : Type} (T : List (Addr × Str)) (cA cJ cC : Addr) (d : Nat) (enc : α → List V) (pre : Nat → MS → α → Prop) (eff : MS → α → MS) : Sp := fun vs H Q _ => ∃ N A m x, vs = .ref A.c :: enc x ∧ CompAt T cA cJ cC N H A m ∧ pre N m x ∧
  ∀ N' H' A', CompAt T cA cJ cC N' H' A' (eff m x) → N' ≤ N + d → MutFr T A A' H H' → Q .non H'
section
variable {T : List (Addr × Str)} {A A1 A2 : CAd} {H H1 H2 : Hp}
theorem MutFr.of (g : Go T H H1) : MutFr T A A H H1 := ⟨rfl, fun _ h => .inl h, fun _ h => .inl h, .of g⟩
theorem MutFr.trans (a : MutFr T A A1 H H1) (b : MutFr T A1 A2 H1 H2) : MutFr T A A2 H H2 := by
  have hf : ∀ x, H1 x = none → x ∈ A.foot ∨ H x = none := fun x e => (a.go.free e).elim .inr .inl
  refine ⟨b.c.trans a.c, fun x hx => ?_, fun x hx => ?_, ⟨fun x o e n nF => ?_, fun t => b.go.2.1 (a.go.2.1 t), fun x e => ?_⟩⟩
  · rcases b.foot x hx with h | h
    · exact a.foot x h
    · exact hf x h
  · rcases b.ls x hx with h | h | h
    · exact a.ls x h
    · exact .inr (a.foot x h)
    · exact .inr (hf x h)
  · refine b.go.1 x o (a.go.1 x o e n nF) n fun z => ?_
    rcases a.foot x z with h | h
    · exact nF h
    · rw [h] at e; cases e
  · rcases b.go.free e with h | h
    · exact (hf x h).elim .inr .inl
    · exact (a.foot x h).elim .inr .inl
end
theorem Tabs.fr {T : List (Addr × Str)} {H H' : Hp} (t : Tabs T H) (h : ∀ b o, H b = some o → ((∃ ps, o = .tbl ps) ∨ ∃ φ, o = .ext φ) → H' b = some o) : Tabs T H' := fun p hp => by
  obtain ⟨ps, h1, h2, h3⟩ := t p hp
  refine ⟨ps, h _ _ h1 (.inl ⟨ps, rfl⟩), h2, fun pos cv hc => ?_⟩
  obtain ⟨c, e1, e2⟩ := h3 pos cv hc
  obtain ⟨φ, e3⟩ := codeO_ext c p.2
  exact ⟨c, e1, h _ _ e2 (.inr ⟨φ, e3⟩)⟩
section
variable {P : Program} {w : World} {K : PySem.W.Frag} {mg : Str → Option Value} {base : Heap} {cA cJ cC cL P1 P2 : Addr} {TT : List (Addr × Str)}
theorem AthAt.fr {N : Nat} {H H' : Hp} {a l : Addr} {x : Kg63.Athlete} (h : AthAt N cA H a l x) (fr : ∀ b o, H b = some o → (b = a ∨ b = l ∨ ∃ t, o = .tup t) → H' b = some o) : AthAt N cA H' a l x := by
  obtain ⟨⟨dx, h1⟩, ⟨ps, h2, h2'⟩, h3, h4, h5⟩ := h
  exact ⟨⟨dx, fr _ _ h1 (.inl rfl)⟩, ⟨ps, fr _ _ h2 (.inr (.inl rfl)), Paired.mapP h2' fun p j e => fr _ _ e (.inr (.inr ⟨_, rfl⟩))⟩, h3, h4, h5⟩
theorem AthAt.mono {N N' : Nat} {H : Hp} {a l : Addr} {x : Kg63.Athlete} (h : AthAt N cA H a l x) (h1 : N ≤ N') (h2 : N' ≤ 1000) : AthAt N' cA H a l x := ⟨h.obj, h.js, h.how, Nat.le_trans h.len h1, h2⟩
theorem JoAt.fr {H H' : Hp} {ja ol cl dl : Addr} {j : JO} (h : JoAt cJ H ja ol cl dl j) (fr : ∀ b o, H b = some o → (b = ja ∨ b = ol ∨ b = cl ∨ b = dl) → H' b = some o) : JoAt cJ H' ja ol cl dl j := by
  obtain ⟨dx, ho⟩ := h.obj
  obtain ⟨kvs, hk, hc⟩ := h.come
  exact ⟨⟨dx, fr _ _ ho (.inl rfl)⟩, fr _ _ h.off (.inr (.inl rfl)), fr _ _ h.clr (.inr (.inr (.inl rfl))), ⟨kvs, fr _ _ hk (.inr (.inr (.inr rfl))), hc⟩, h.nd, h.small, h.ne, h.len⟩
/-- a store into the contest itself -/
theorem CompAt.put {N : Nat} {H H' : Hp} {A : CAd} {m m' : MS} (h : CompAt TT cA cJ cC N H A m) (fr : ∀ b o, H b = some o → b ≠ A.c → H' b = some o) (hm : m'.ath = m.ath) (hh : m'.heights = m.heights) (hj : m'.jo = m.jo)
    (ho : ∃ dx, H' A.c = some (.ins cC dx (fC A.al m'.rise m'.turn A.hl m'.bar A.jv m'.decl))) : CompAt TT cA cJ cC N H' A m' := by
  obtain ⟨dx, ho1⟩ := h.obj
  have eA : ∀ i, m'.A i = m.A i := fun i => by unfold Jc.MS.A; rw [hm]
  refine ⟨ho, fr _ _ h.lst (ne_of h.lst ho1 (by intro z; cases z)), by rw [hh]; exact fr _ _ h.hts (ne_of h.hts ho1 (by intro z; cases z)), by rw [hm]; exact h.alen, by rw [hm]; exact h.llen, fun i a l ha hl => ?_, h.nda, h.ndl, by rw [hm]; exact h.small, by rw [hh]; exact h.hlen, by rw [hj]; exact h.jnone, fun j e => ?_, Tabs.fr h.tabs fun b o e hb => fr b o e ?_⟩
  · rw [eA]
    have hat := h.at_ i a l ha hl
    obtain ⟨da, hoa⟩ := hat.obj
    obtain ⟨ps, hl1, _⟩ := hat.js
    refine hat.fr fun b o e hb => fr b o e ?_
    rcases hb with rfl | rfl | ⟨t, rfl⟩
    · exact ne_of hoa ho1 (by intro z; injection z with _ _ z; cases z)
    · exact ne_of hl1 ho1 (by intro z; cases z)
    · exact ne_of e ho1 (by intro z; cases z)
  · rw [hj] at e
    obtain ⟨ja, ol, cl, dl, e1, e2, e3, e4⟩ := h.jsome j e
    refine ⟨ja, ol, cl, dl, e1, ?_, e3, e4⟩
    obtain ⟨dj, hoj⟩ := e2.obj
    obtain ⟨kvs, hk, _⟩ := e2.come
    refine e2.fr fun b o e hb => fr b o e ?_
    rcases hb with rfl | rfl | rfl | rfl
    · exact ne_of hoj ho1 (by intro z; injection z with _ _ z; cases z)
    · exact ne_of e2.off ho1 (by intro z; cases z)
    · exact ne_of e2.clr ho1 (by intro z; cases z)
    · exact ne_of hk ho1 (by intro z; cases z)
  · rcases hb with ⟨ps, rfl⟩ | ⟨φ, rfl⟩
    · exact ne_of e ho1 (by intro z; cases z)
    · exact ne_of e ho1 (by intro z; cases z)
/-- .. as a frame -/
theorem mut_put {H H1 : Hp} {A : CAd} {dx : Addr} {fs : List (Str × V)} {o : HO} (g : Go TT H H1) (e : H1 A.c = some (.ins cC dx fs)) : MutFr TT A A H (upd H1 A.c o) :=
  ⟨rfl, fun _ h => .inl h, fun _ h => .inl h, GoB.put (GoB.of g) (List.mem_cons_self ..) (ntab e (by intro ps z; cases z)) (ncode e (by intro φ z; cases z)) (by rw [e]; simp)⟩
theorem scC12 : FnScope ["self", "height"] ["self", "height"] (defScope (sC 12)) := ⟨rfl, rfl, rfl, by decide +kernel, rfl, by decide +kernel, by decide +kernel⟩
theorem ok_C12 {f : Addr} {fd : FuncData} (F : Fun K "put_bar" "Competition.put_bar" (sC 12) f fd) (T : Txt K mg cA cJ cC cL) : FnOk P w K mg base CX0 1 f fd ["self", "height"] (spMut TT cA cJ cC 0 (fun h : Nat => [nV h]) (fun _ _ _ => True) fun m h => { m with bar := h }) := by
  refine F.ok scC12 (fun vs H Q E h => ?_) (fun cdv A outer s H vs Q E hr h => ?_)
  · obtain ⟨N, A, m, i, rfl, _⟩ := h
    rfl
  · obtain ⟨N, A, m, i, rfl, hc, _, k⟩ := h
    refine ⟨_, pss_one (ps_fld (pv 0) (pv 1) rfl), ?_⟩
    obtain ⟨dx, ho⟩ := hc.obj
    refine ⟨_, rfl, _, rfl, A.c, cC, dx, _, rfl, ho, T.clC, T.cBar, by show 7 < 1000; decide, ?_⟩
    rw [fC_putBar]
    exact k N _ A (hc.put (fun b o e hb => by rw [upd_ne hb]; exact e) rfl rfl rfl ⟨dx, upd_same⟩) (by omega) (mut_put Go.refl ho)
theorem scC19 : FnScope ["self"] ["self"] (defScope (sC 19)) := ⟨rfl, rfl, rfl, by decide +kernel, rfl, by decide +kernel, by decide +kernel⟩
theorem ok_C19 {f : Addr} {fd : FuncData} (F : Fun K "decline_jump_off" "Competition.decline_jump_off" (sC 19) f fd) (T : Txt K mg cA cJ cC cL) : FnOk P w K mg base CX0 1 f fd ["self"] (spMut TT cA cJ cC 0 (fun _ : Unit => []) (fun _ _ _ => True) fun m _ => { m with decl := true }) := by
  refine F.ok scC19 (fun vs H Q E h => ?_) (fun cdv A outer s H vs Q E hr h => ?_)
  · obtain ⟨N, A, m, i, rfl, _⟩ := h
    rfl
  · obtain ⟨N, A, m, i, rfl, hc, _, k⟩ := h
    refine ⟨_, pss_one (ps_fld (pv 0) pe_bl rfl), ?_⟩
    obtain ⟨dx, ho⟩ := hc.obj
    refine ⟨_, rfl, A.c, cC, dx, _, rfl, ho, T.clC, T.cDecl, by show 7 < 1000; decide, ?_⟩
    rw [fC_putDecl]
    exact k N _ A (hc.put (fun b o e hb => by rw [upd_ne hb]; exact e) rfl rfl rfl ⟨dx, upd_same⟩) (by omega) (mut_put Go.refl ho)
theorem scC15 : FnScope ["self"] ["self"] (defScope (sC 15)) := ⟨rfl, rfl, rfl, by decide +kernel, rfl, by decide +kernel, by decide +kernel⟩
theorem ok_C15 {f : Addr} {fd : FuncData} (F : Fun K "raise_bar_if_done" "Competition.raise_bar_if_done" (sC 15) f fd) (T : Txt K mg cA cJ cC cL) : FnOk P w K mg base CX0 5 f fd ["self"] (spMut TT cA cJ cC 0 (fun _ : Unit => []) (fun _ _ _ => True) fun m _ => m.raise) := by
  obtain ⟨f5, fd5, F5, b5, m5⟩ := T.C5
  have G5 : FnOk P w K mg base CX0 4 f5 fd5 ["self"] (spCL TT cA cJ cC MS.notOut) := ok_C5 F5 T
  obtain ⟨f7, fd7, F7, b7, m7⟩ := T.C7
  have G7 : FnOk P w K mg base CX0 4 f7 fd7 ["self"] (spCL TT cA cJ cC MS.due) := ok_C7 F7 T
  obtain ⟨f4, fd4, F4, b4, m4⟩ := T.C14
  have G4 : FnOk P w K mg base CX0 1 f4 fd4 ["self", "height"] (spC1 TT cA cJ cC (fun _ _ => True) fun m h => nV (m.after h)) := ok_C14 F4 T
  refine F.ok scC15 (fun vs H Q E h => ?_) (fun cdv A outer s H vs Q E hr h => ?_)
  · obtain ⟨N, A, m, i, rfl, _⟩ := h
    rfl
  · obtain ⟨N, A, m, i, rfl, hc, _, k⟩ := h
    have k : ∀ N' H' A', CompAt TT cA cJ cC N' H' A' m.raise → N' ≤ N + 0 → MutFr TT A A' H H' → Q .non H' := k
    refine ⟨_, pss_one (ps_if (PW.pt (pw_and (pt_cmpR op_eq (pe_callB call_len_seq (by rfl) T.len PySem.boot_len (pa_cons (pe_meth0 (pv 0) T.clC m7 G7 hr b7 .nil pass0) pa_nil)) pe_int (nomark _)) (pw_and1 (pt_cmpR op_gt (pe_callB call_len_seq (by rfl) T.len PySem.boot_len (pa_cons (pe_meth0 (pv 0) T.clC m5 G5 hr b5 .nil pass0) pa_nil)) pe_int (nomark _)))))
      (pss_one (ps_fld (pv 0) (pe_meth (pv 0) T.clC m4 G4 (hr.mono (by decide : 1 ≤ 4)) b4 .nil pass0 (pa_cons (pe_fld (pv 0) rfl) pa_nil)) rfl)) pss_nil), ?_⟩
    obtain ⟨dx, ho⟩ := hc.obj
    refine ⟨_, rfl, A.c, dx, _, rfl, ho, rfl, N, A, m, rfl, hc, fun H1 l1 g1 _ hl1 => ?_⟩
    refine ⟨l1, _, rfl, .inl (SqL.of hl1), rfl, _, rfl, ?_⟩
    rw [List.length_map]
    have hc1 := hc.go g1
    by_cases c : m.due = []
    · refine iteT (decide_eq_true (by rw [c]; rfl)) ?_
      obtain ⟨dx1, ho1⟩ := hc1.obj
      refine ⟨_, rfl, A.c, dx1, _, rfl, ho1, rfl, N, A, m, rfl, hc1, fun H2 l2 g2 _ hl2 => ?_⟩
      refine ⟨l2, _, rfl, .inl (SqL.of hl2), _, _, rfl, rfl, _, rfl, ?_⟩
      rw [List.length_map]
      have hc2 := hc1.go g2
      by_cases c2 : m.notOut = []
      · refine iteF (decide_eq_false (by rw [c2]; show ¬ ((0 : Int) < ((0 : Nat) : Int)); omega)) ?_
        have e : m.raise = m := by unfold Jc.MS.raise; rw [if_neg (by simp [c2])]
        refine k N H2 A ?_ (by omega) (.of (g1.trans g2))
        rw [e]; exact hc2
      · have : m.notOut.length ≠ 0 := fun z => c2 (List.length_eq_zero_iff.mp z)
        refine iteT (decide_eq_true (by show (0 : Int) < ((m.notOut.length : Nat) : Int); omega)) ?_
        have e : m.raise = { m with bar := m.after m.bar } := by unfold Jc.MS.raise; rw [if_pos ⟨c, c2⟩]
        obtain ⟨dx2, ho2⟩ := hc2.obj
        refine ⟨_, rfl, A.c, dx2, _, rfl, ho2, rfl, _, rfl, A.c, cC, dx2, _, _, rfl, ho2, T.clC, T.cBar, fC_bar, N, A, m, m.bar, rfl, hc2, trivial, fun H3 g3 => ?_⟩
        have hc3 := hc2.go g3
        obtain ⟨dx3, ho3⟩ := hc3.obj
        refine ⟨_, rfl, A.c, cC, dx3, _, rfl, ho3, T.clC, T.cBar, by show 7 < 1000; decide, ?_⟩
        rw [fC_putBar]
        refine k N _ A ?_ (by omega) (mut_put ((g1.trans g2).trans g3) ho3)
        rw [e]
        exact hc3.put (fun b o e hb => by rw [upd_ne hb]; exact e) rfl rfl rfl ⟨dx3, upd_same⟩
    · refine iteF (decide_eq_false fun z => c (List.length_eq_zero_iff.mp ?_)) ?_
      · have := V.int.inj z
        omega
      have e : m.raise = m := by unfold Jc.MS.raise; rw [if_neg (by simp [c])]
      refine k N H1 A ?_ (by omega) (.of g1)
      rw [e]; exact hc1
end
end Jp

set_option Elab.async false
set_option maxRecDepth 100000
set_option maxHeartbeats 4000000
/-! A jump, who leaves, a jump-off begun. -/
namespace Jp
open PySem PySem.Spec PyProof.Rows L2 LamX Jl
open Jc (MS JO)
theorem A_modify (m : MS) (i k : Nat) (f : Kg63.Athlete → Kg63.Athlete) (hi : i < m.ath.length) : ({ m with ath := m.ath.modify i f } : MS).A k = if k = i then f (m.A i) else m.A k := by
  unfold Jc.MS.A
  show (m.ath.modify i f).getD k Jc.noone = _
  rw [List.getD_eq_getElem?_getD, List.getElem?_modify]
  by_cases c : k = i
  · subst c
    rw [if_pos rfl, List.getD_eq_getElem?_getD, List.getElem?_eq_getElem hi]
    simp
  · rw [if_neg c, List.getD_eq_getElem?_getD]
    have c' : ¬ i = k := fun z => c z.symm
    simp [c']
theorem nd_get {l : List Addr} {i k : Nat} {a b : Addr} (h : l.Nodup) (h1 : l[i]? = some a) (h2 : l[k]? = some b) (hne : k ≠ i) : b ≠ a := fun z => by
  subst z
  exact hne (nd_ix h h2 h1)
section
variable {P : Program} {w : World} {K : PySem.W.Frag} {mg : Str → Option Value} {base : Heap} {cA cJ cC cL P1 P2 : Addr} {TT : List (Addr × Str)}
/-- one athlete's own list or object is another then -/
theorem CompAt.athSet {N N' : Nat} {H H' : Hp} {A : CAd} {m : MS} {i : Nat} {a l p : Addr} {f : Kg63.Athlete → Kg63.Athlete} (h : CompAt TT cA cJ cC N H A m) (hi : i < m.ath.length) (ha : A.as[i]? = some a) (hl : A.ls[i]? = some l)
    (hp : p = a ∨ p = l) (fr : ∀ b o, H b = some o → b ≠ p → H' b = some o) (hat : AthAt N' cA H' a l (f (m.A i))) (hN : N ≤ N') (hN' : N' ≤ 1000) : CompAt TT cA cJ cC N' H' A { m with ath := m.ath.modify i f } := by
  obtain ⟨dx, ho⟩ := h.obj
  have hat0 := h.at_ i a l ha hl
  obtain ⟨da, hoa⟩ := hat0.obj
  obtain ⟨ps, hol, hps⟩ := hat0.js
  have hnd := List.nodup_cons.mp h.ndl
  have hnd2 := List.nodup_cons.mp hnd.2
  have hlm : l ∈ A.ls := List.mem_of_getElem? hl
  -- what isn't p
  have np : ∀ b o, H b = some o → (∀ x, o ≠ .lst x) → b ≠ a → b ≠ p := fun b o e n1 n2 => by
    rcases hp with rfl | rfl
    · exact n2
    · exact ne_of e hol (n1 _)
  have npl : ∀ b x, H b = some (.lst x) → b ≠ l → b ≠ p := fun b x e n2 => by
    rcases hp with rfl | rfl
    · exact ne_of e hoa (by intro z; cases z)
    · exact n2
  refine ⟨⟨dx, fr _ _ ho (np _ _ ho (by intro x z; cases z) (ne_of ho hoa (by intro z; injection z with _ _ z; cases z)))⟩, fr _ _ h.lst (npl _ _ h.lst fun z => hnd.1 (by rw [z]; exact List.mem_cons_of_mem _ hlm)), fr _ _ h.hts (npl _ _ h.hts fun z => hnd2.1 (by rw [z]; exact hlm)), ?_, ?_, fun k a' l' ha' hl' => ?_, h.nda, h.ndl, ?_, h.hlen, h.jnone, fun j e => ?_, Tabs.fr h.tabs fun b o e hb => fr b o e ?_⟩
  · show A.as.length = (m.ath.modify i f).length
    rw [List.length_modify]; exact h.alen
  · show A.ls.length = (m.ath.modify i f).length
    rw [List.length_modify]; exact h.llen
  · rw [A_modify m i k f hi]
    by_cases c : k = i
    · subst c
      rw [if_pos rfl]
      obtain rfl : a = a' := Option.some.inj (ha.symm.trans ha')
      obtain rfl : l = l' := Option.some.inj (hl.symm.trans hl')
      exact hat
    · rw [if_neg c]
      have hk := h.at_ k a' l' ha' hl'
      obtain ⟨dk, hok⟩ := hk.obj
      obtain ⟨psk, holk, _⟩ := hk.js
      have n1 := nd_get h.nda ha ha' c
      have n2 := nd_get hnd2.2 hl hl' c
      refine (hk.fr fun b o e hb => fr b o e ?_).mono hN hN'
      rcases hb with rfl | rfl | ⟨t, rfl⟩
      · exact np _ _ hok (by intro x z; cases z) n1
      · exact npl _ _ holk n2
      · exact np _ _ e (by intro x z; cases z) (ne_of e hoa (by intro z; cases z))
  · show (m.ath.modify i f).length ≤ 20
    rw [List.length_modify]; exact h.small
  · obtain ⟨ja, ol, cl, dl, e1, e2, e3, e4⟩ := h.jsome j e
    refine ⟨ja, ol, cl, dl, e1, ?_, e3, e4⟩
    obtain ⟨dj, hoj⟩ := e2.obj
    obtain ⟨kvs, hk, _⟩ := e2.come
    refine e2.fr fun b o e hb => fr b o e ?_
    have hm : l ∈ A.al :: A.hl :: A.ls := List.mem_cons_of_mem _ (List.mem_cons_of_mem _ hlm)
    rcases hb with rfl | rfl | rfl | rfl
    · exact np _ _ hoj (by intro x z; cases z) (ne_of hoj hoa (by intro z; injection z with _ _ z; cases z))
    · exact npl _ _ e2.off fun z => e3 (by rw [z]; exact hm)
    · exact npl _ _ e2.clr fun z => e4 (by rw [z]; exact hm)
    · exact np _ _ hk (by intro x z; cases z) (ne_of hk hoa (by intro z; cases z))
  · rcases hb with ⟨ps, rfl⟩ | ⟨φ, rfl⟩
    · exact np _ _ e (by intro x z; cases z) (ne_of e hoa (by intro z; cases z))
    · exact np _ _ e (by intro x z; cases z) (ne_of e hoa (by intro z; cases z))
/-- a frame from what stands but at one of its places -/
theorem mut_at {H H' : Hp} {A : CAd} {p : Addr} {o1 : HO} (hp : p ∈ A.foot) (e : H p = some o1) (n1 : ∀ ps, o1 ≠ .tbl ps) (n2 : ∀ φ, o1 ≠ .ext φ) (fr : ∀ b o, H b = some o → b ≠ p → H' b = some o) : MutFr TT A A H H' := by
  refine ⟨rfl, fun _ h => .inl h, fun _ h => .inl h, fun b o eb _ nF => fr b o eb fun z => nF (by rw [z]; exact hp), fun t => Tabs.fr t fun b o eb hb => fr b o eb ?_, fun b eb => ?_⟩
  · rintro rfl
    rw [e] at eb
    obtain rfl := Option.some.inj eb
    rcases hb with ⟨ps, z⟩ | ⟨φ, z⟩
    · exact n1 _ z
    · exact n2 _ z
  · by_cases c : b = p
    · exact .inr (by rw [c]; exact hp)
    · refine .inl ?_
      cases e2 : H b with
      | none => rfl
      | some o => rw [fr b o e2 c] at eb; cases eb
theorem fA_putLeft (l : Addr) (b b' : Bool) : putF "has_left" (.bl b') (fA l b) = fA l b' := (putp (by decide +kernel)).trans (congrArg _ puth)
theorem as_foot {A : CAd} {i : Nat} {a : Addr} (h : A.as[i]? = some a) : a ∈ A.foot := List.mem_cons_of_mem _ (List.mem_append_left _ (List.mem_of_getElem? h))
theorem ls_foot {A : CAd} {i : Nat} {l : Addr} (h : A.ls[i]? = some l) : l ∈ A.foot := List.mem_cons_of_mem _ (List.mem_append_right _ (List.mem_append_left _ (List.mem_of_getElem? h)))
theorem scC11 : FnScope ["self", "number"] ["self", "number"] (defScope (sC 11)) := ⟨rfl, rfl, rfl, by decide +kernel, rfl, by decide +kernel, by decide +kernel⟩
theorem ok_C11 {f : Addr} {fd : FuncData} (F : Fun K "leave" "Competition.leave" (sC 11) f fd) (T : Txt K mg cA cJ cC cL) : FnOk P w K mg base CX0 6 f fd ["self", "number"] (spMut TT cA cJ cC 0 (fun i : Nat => [nV i]) (fun _ m i => i < m.ath.length) fun m i => (m.gone i).raise) := by
  obtain ⟨f5, fd5, F5, b5, m5⟩ := T.C15
  have G5 : FnOk P w K mg base CX0 5 f5 fd5 ["self"] (spMut TT cA cJ cC 0 (fun _ : Unit => []) (fun _ _ _ => True) fun m _ => m.raise) := ok_C15 F5 T
  refine F.ok scC11 (fun vs H Q E h => ?_) (fun cdv A outer s H vs Q E hr h => ?_)
  · obtain ⟨N, A, m, i, rfl, _⟩ := h
    rfl
  · obtain ⟨N, A, m, i, rfl, hc, hi, k⟩ := h
    refine ⟨_, pss_cons (ps_fld (pe_ix ix_list (pe_fld (pv 0) rfl) (pv 1) (fun _ _ => rfl)) pe_bl rfl) (pss_one (ps_expr (pe_meth0 (pv 0) T.clC m5 G5 hr b5 .nil pass0))), ?_⟩
    obtain ⟨dx, ho⟩ := hc.obj
    obtain ⟨a, l, ha, hl, hat⟩ := hc.ath hi
    obtain ⟨da, hoa⟩ := hat.obj
    refine ⟨_, rfl, A.c, cC, dx, _, _, rfl, ho, T.clC, T.cAth, fC_ath, _, rfl, A.al, _, _, .ref a, rfl, rfl, SqL.of hc.lst, atI_nat (by rw [List.getElem?_map, ha]; rfl), a, cA, da, _, rfl, hoa, T.clA, T.aLeft, by show 2 < 1000; decide, ?_⟩
    rw [fA_putLeft]
    have fr : ∀ b o, H b = some o → b ≠ a → (upd H a (.ins cA da (fA l true))) b = some o := fun b o e hb => by rw [upd_ne hb]; exact e
    have hat1 : AthAt N cA (upd H a (.ins cA da (fA l true))) a l { m.A i with left := true } := by
      obtain ⟨ps, hol, hps⟩ := hat.js
      exact ⟨⟨da, upd_same⟩, ⟨ps, fr _ _ hol (ne_of hol hoa (by intro z; cases z)), Paired.mapP hps fun p j e => fr _ _ e (ne_of e hoa (by intro z; cases z))⟩, hat.how, hat.len, hat.big⟩
    have hc1 : CompAt TT cA cJ cC N (upd H a (.ins cA da (fA l true))) A (m.gone i) := hc.athSet hi ha hl (.inl rfl) fr hat1 (Nat.le_refl _) hat.big
    obtain ⟨dx1, ho1⟩ := hc1.obj
    have mf : MutFr TT A A H (upd H a (.ins cA da (fA l true))) := mut_at (as_foot ha) hoa (by intro ps z; cases z) (by intro ps z; cases z) fr
    refine ⟨_, rfl, A.c, dx1, _, rfl, ho1, rfl, N, A, _, (), rfl, hc1, trivial, fun N' H' A' hc' hN mf' => ?_⟩
    exact k N' H' A' hc' hN (mf.trans mf')
end
end Jp

set_option Elab.async false
set_option maxRecDepth 100000
set_option maxHeartbeats 4000000
/-! A jump; a jump-off begun. -/
namespace Jp
open PySem PySem.Spec PyProof.Rows L2 LamX Jl
open Jc (MS JO)
theorem up_lt {m : MS} (h : ¬ m.phase = 2) {i : Nat} (e : m.up = some i) : i < m.ath.length := by
  rw [up_not h] at e
  exact List.mem_range.mp (List.mem_filter.mp (Jc.least_mem e)).1
theorem which_two {m : MS} (h : m.phase = 2) (i : Nat) : m.which i = 1 := if_pos h
theorem which_not {m : MS} (h : ¬ m.phase = 2) (i : Nat) : m.which i = Kg63.failsAt (m.A i) m.bar + 1 := if_neg h
theorem jump_two {m : MS} {j : JO} (h : m.phase = 2) (e : m.jo = some j) (i how : Nat) : m.jump i how = { m with jo := some (j.take (how == 1)) } := by
  unfold Jc.MS.jump
  rw [e]
  show (if m.phase = 2 then ({ m with jo := some (j.take (how == 1)) } : MS) else (m.add i how).raise) = _
  rw [if_pos h]
theorem jump_not {m : MS} (h : ¬ m.phase = 2) (i how : Nat) : m.jump i how = (m.add i how).raise := by
  unfold Jc.MS.jump
  cases m.jo with
  | none => rfl
  | some j => exact if_neg h
section
variable {P : Program} {w : World} {K : PySem.W.Frag} {mg : Str → Option Value} {base : Heap} {cA cJ cC cL P1 P2 : Addr} {TT : List (Addr × Str)}
theorem scC9 : FnScope ["self"] ["self"] (defScope (sC 9)) := ⟨rfl, rfl, rfl, by decide +kernel, rfl, by decide +kernel, by decide +kernel⟩
theorem ok_C9 {f : Addr} {fd : FuncData} (F : Fun K "which_jump" "Competition.which_jump" (sC 9) f fd) (T : Txt K mg cA cJ cC cL) (La : Lam K mg base cC P1 P2) : FnOk P w K mg base CX0 8 f fd ["self"] (spC (TTof P1 P2) cA cJ cC (fun m => Ok2 m ∧ m.up ≠ none) fun m => nV (m.which (m.up.getD 0))) := by
  obtain ⟨f1, fd1, F1, b1, m1⟩ := T.C1
  have G1 : FnOk P w K mg base CX0 6 f1 fd1 ["self"] (spC (TTof P1 P2) cA cJ cC (fun _ => True) fun m => nV m.phase) := ok_C1 F1 T La
  obtain ⟨c8, f8, fd8, F8, b8, m8, t8⟩ := La.up
  have G8 : FnOk P w K mg base CX0 7 f8 fd8 ["self"] (spC (TTof P1 P2) cA cJ cC Ok2 upV) := ok_C8 F8 T La t8
  obtain ⟨f5, fd5, F5, b5, m5⟩ := T.A5
  have G5 : FnOk P w K mg base CX0 1 f5 fd5 ["self", "height"] (spA1 (TTof P1 P2) cA fun x h => .int (Kg63.failsAt x h : Int)) := ok_A5 F5 T
  refine F.ok scC9 (fun vs H Q E h => ?_) (fun cdv A outer s H vs Q E hr h => ?_)
  · obtain ⟨N, A, m, rfl, _⟩ := h
    rfl
  · obtain ⟨N, A, m, rfl, hc, ⟨ok2, hup⟩, k⟩ := h
    have k : ∀ H', Go (TTof P1 P2) H H' → Q (nV (m.which (m.up.getD 0))) H' := k
    refine ⟨_, pss_cons (ps_if (pt_cmpR op_eq (pe_meth0 (pv 0) T.clC m1 G1 (hr.mono (by decide : 6 ≤ 7)) b1 .nil pass0) (pe_ic rfl T.INOFF) (nomark _)) (pss_one (ps_ret pe_int)) pss_nil)
      (pss_one (ps_ret (pe_op op_add (pe_meth (pe_ix ix_list (pe_fld (pv 0) rfl) (pe_meth0 (pv 0) T.clC m8 G8 hr b8 .nil pass0) (fun _ _ => rfl)) T.clA m5 G5 (hr.mono (by decide : 1 ≤ 7)) b5 .nil pass0 (pa_cons (pe_fld (pv 0) rfl) pa_nil)) pe_int))), ?_⟩
    obtain ⟨dx, ho⟩ := hc.obj
    refine ⟨_, rfl, A.c, dx, _, rfl, ho, rfl, N, A, m, rfl, hc, trivial, fun H1 g1 => ⟨rfl, _, rfl, ?_⟩⟩
    have hc1 := hc.go g1
    obtain ⟨dx1, ho1⟩ := hc1.obj
    have k2 := k H1 g1
    by_cases c : m.phase = 2
    · refine iteT (decide_eq_true (congrArg nV c)) ?_
      rw [which_two c] at k2
      exact k2
    · refine iteF (decide_eq_false fun z => c ?_) ?_
      · have := V.int.inj z
        omega
      obtain ⟨i, eu⟩ := Option.ne_none_iff_exists'.mp hup
      have hi := up_lt c eu
      refine ⟨_, rfl, A.c, cC, dx1, _, _, rfl, ho1, T.clC, T.cAth, fC_ath, _, rfl, A.c, dx1, _, rfl, ho1, rfl, N, A, m, rfl, hc1, ok2, fun H2 g2 => ?_⟩
      have hc2 := hc1.go g2
      obtain ⟨dx2, ho2⟩ := hc2.obj
      obtain ⟨a, l, ha, hl, hat⟩ := hc2.ath hi
      obtain ⟨da, hoa⟩ := hat.obj
      have euv : upV m = nV i := by unfold upV; rw [eu]; rfl
      refine ⟨A.al, _, _, .ref a, rfl, euv, SqL.of hc2.lst, atI_nat (by rw [List.getElem?_map, ha]; rfl), a, da, _, rfl, hoa, rfl, _, rfl, A.c, cC, dx2, _, _, rfl, ho2, T.clC, T.cBar, fC_bar, N, a, l, _, m.bar, rfl, hat, fun H3 g3 => ⟨_, _, rfl, rfl, ?_⟩⟩
      have k3 := k H3 ((g1.trans g2).trans g3)
      rw [which_not c, eu] at k3
      exact k3
/-- another jump-off in it -/
theorem CompAt.joSet {N : Nat} {H H' : Hp} {A : CAd} {m : MS} {j j' : JO} {ja ol cl dl ol' cl' : Addr} (h : CompAt TT cA cJ cC N H A m) (ej : m.jo = some j) (e : A.jo = some (ja, ol, cl, dl)) (hJ : JoAt cJ H ja ol cl dl j) (hJ' : JoAt cJ H' ja ol' cl' dl j') (fr : JFrame ja cl dl H H')
    (h1 : ol' = ol ∨ H ol' = none) (h2 : cl' = cl ∨ H cl' = none) : CompAt TT cA cJ cC N H' { A with jo := some (ja, ol', cl', dl) } { m with jo := some j' } ∧ MutFr TT A { A with jo := some (ja, ol', cl', dl) } H H' := by
  obtain ⟨dx, ho⟩ := h.obj
  obtain ⟨dj, hoj⟩ := hJ.obj
  obtain ⟨kvs, hk, _⟩ := hJ.come
  obtain ⟨ja2, ol2, cl2, dl2, e1, _, e3, e4⟩ := h.jsome j ej
  rw [e] at e1
  obtain ⟨rfl, rfl, rfl, rfl⟩ : ja = ja2 ∧ ol = ol2 ∧ cl = cl2 ∧ dl = dl2 := by
    have e1 := Option.some.inj e1
    simp only [Prod.mk.injEq] at e1
    exact e1
  have ejv : A.jv = .ref ja := by unfold CAd.jv; rw [e]
  -- what isn't a list, not ja, not dl
  have fr2 : ∀ b o, H b = some o → (∀ x, o ≠ .lst x) → (∀ d, o ≠ .ins cJ d (fJ ol j.bar j.turn cl dl)) → (∀ kv, o ≠ .dK kv) → H' b = some o := fun b o eb n1 n2 n3 => fr b o eb (ne_of eb hoj (n2 _)) (ne_of eb hJ.clr (n1 _)) (ne_of eb hk (n3 _))
  have frl : ∀ b x, H b = some (.lst x) → b ≠ cl → H' b = some (.lst x) := fun b x eb n => fr b _ eb (ne_of eb hoj (by intro z; cases z)) n (ne_of eb hk (by intro z; cases z))
  have cmem : ∀ b, b ∈ A.al :: A.hl :: A.ls → b ≠ cl := fun b hb z => e4 (by rw [← z]; exact hb)
  have sm : ∀ b, b ∈ A.al :: A.hl :: A.ls → H b ≠ none := fun b hb => by
    rcases List.mem_cons.mp hb with rfl | hb
    · rw [h.lst]; simp
    · rcases List.mem_cons.mp hb with rfl | hb
      · rw [h.hts]; simp
      · obtain ⟨k, hk'⟩ := List.mem_iff_getElem?.mp hb
        have hlt : k < m.ath.length := by rw [← h.llen]; exact (List.getElem?_eq_some_iff.mp hk').1
        obtain ⟨a, l, ha, hl, hat⟩ := h.ath hlt
        obtain rfl : b = l := Option.some.inj (hk'.symm.trans hl)
        obtain ⟨ps, hol, _⟩ := hat.js
        rw [hol]; simp
  refine ⟨⟨⟨dx, ?_⟩, frl _ _ h.lst (cmem _ (List.mem_cons_self ..)), frl _ _ h.hts (cmem _ (List.mem_cons_of_mem _ (List.mem_cons_self ..))), h.alen, h.llen, fun k a l ha hl => ?_, h.nda, h.ndl, h.small, h.hlen, (by intro z; cases z), fun j2 e2 => ?_, Tabs.fr h.tabs fun b o eb hb => ?_⟩, rfl, fun b hb => ?_, fun b hb => ?_, fun b o eb _ nF => ?_, fun t => Tabs.fr t fun b o eb hb => ?_, fun b eb => ?_⟩
  · show H' A.c = some (.ins cC dx (fC A.al m.rise m.turn A.hl m.bar (.ref ja) m.decl))
    rw [← ejv]
    exact fr2 _ _ ho (by intro x z; cases z) (by intro d z; injection z with _ _ z; cases z) (by intro kv z; cases z)
  · have hat := h.at_ k a l ha hl
    obtain ⟨da, hoa⟩ := hat.obj
    obtain ⟨ps, hol, _⟩ := hat.js
    have hat' : AthAt N cA H' a l (m.A k) := hat.fr fun b o eb hb => by
      rcases hb with rfl | rfl | ⟨t, rfl⟩
      · rw [hoa] at eb
        obtain rfl := Option.some.inj eb
        exact fr2 _ _ hoa (by intro x z; cases z) (by intro d z; injection z with _ _ z; cases z) (by intro kv z; cases z)
      · rw [hol] at eb
        obtain rfl := Option.some.inj eb
        exact frl _ _ hol (cmem _ (List.mem_cons_of_mem _ (List.mem_cons_of_mem _ (List.mem_of_getElem? hl))))
      · exact fr2 _ _ eb (by intro x z; cases z) (by intro d z; cases z) (by intro kv z; cases z)
    exact hat'
  · obtain rfl : j' = j2 := Option.some.inj e2
    refine ⟨ja, ol', cl', dl, rfl, hJ', fun hm => ?_, fun hm => ?_⟩
    · rcases h1 with rfl | h1
      · exact e3 hm
      · exact sm _ hm h1
    · rcases h2 with rfl | h2
      · exact e4 hm
      · exact sm _ hm h2
  · rcases hb with ⟨ps, rfl⟩ | ⟨φ, rfl⟩
    · exact fr2 _ _ eb (by intro x z; cases z) (by intro d z; cases z) (by intro kv z; cases z)
    · exact fr2 _ _ eb (by intro x z; cases z) (by intro d z; cases z) (by intro kv z; cases z)
  · have hj : ∀ x ∈ A.jfoot, x ∈ A.foot := fun x hx => List.mem_cons_of_mem _ (List.mem_append_right _ (List.mem_append_right _ hx))
    have jf : A.jfoot = [ja, cl, dl] := by unfold CAd.jfoot; rw [e]
    rcases List.mem_cons.mp hb with rfl | hb
    · exact .inl (List.mem_cons_self ..)
    · rcases List.mem_append.mp hb with hb | hb
      · exact .inl (List.mem_cons_of_mem _ (List.mem_append_left _ hb))
      · rcases List.mem_append.mp hb with hb | hb
        · exact .inl (List.mem_cons_of_mem _ (List.mem_append_right _ (List.mem_append_left _ hb)))
        · have hb : b ∈ [ja, cl', dl] := hb
          rcases List.mem_cons.mp hb with rfl | hb
          · exact .inl (hj _ (by rw [jf]; simp))
          · rcases List.mem_cons.mp hb with rfl | hb
            · rcases h2 with rfl | h2
              · exact .inl (hj _ (by rw [jf]; simp))
              · exact .inr h2
            · exact .inl (hj _ (by rw [jf, List.mem_singleton.mp hb]; simp))
  · rcases List.mem_cons.mp hb with rfl | hb
    · exact .inl (List.mem_cons_self ..)
    · rcases List.mem_cons.mp hb with rfl | hb
      · exact .inl (List.mem_cons_of_mem _ (List.mem_cons_self ..))
      · have hb : b ∈ [ol'] := hb
        rw [List.mem_singleton.mp hb]
        rcases h1 with rfl | h1
        · exact .inl (by unfold CAd.lists; rw [e]; simp)
        · exact .inr (.inr h1)
  · have jf : A.jfoot = [ja, cl, dl] := by unfold CAd.jfoot; rw [e]
    have hj : ∀ x, x ∈ [ja, cl, dl] → b ≠ x := fun x hx z => nF (List.mem_cons_of_mem _ (List.mem_append_right _ (List.mem_append_right _ (by rw [jf, z]; exact hx))))
    exact fr b o eb (hj _ (by simp)) (hj _ (by simp)) (hj _ (by simp))
  · rcases hb with ⟨ps, rfl⟩ | ⟨φ, rfl⟩
    · exact fr2 _ _ eb (by intro x z; cases z) (by intro d z; cases z) (by intro kv z; cases z)
    · exact fr2 _ _ eb (by intro x z; cases z) (by intro d z; cases z) (by intro kv z; cases z)
  · have jf : A.jfoot = [ja, cl, dl] := by unfold CAd.jfoot; rw [e]
    by_cases hb : b ∈ [ja, cl, dl]
    · exact .inr (List.mem_cons_of_mem _ (List.mem_append_right _ (List.mem_append_right _ (by rw [jf]; exact hb))))
    · refine .inl ?_
      cases e2 : H b with
      | none => rfl
      | some o =>
        rw [fr b o e2 (fun z => hb (by simp [z])) (fun z => hb (by simp [z])) (fun z => hb (by simp [z]))] at eb
        cases eb
end
end Jp

set_option Elab.async false
set_option maxRecDepth 100000
set_option maxHeartbeats 4000000
/-! A jump; a jump-off begun. -/
namespace Jp
open PySem PySem.Spec PyProof.Rows L2 LamX Jl
open Jc (MS JO)
section
variable {P : Program} {w : World} {K : PySem.W.Frag} {mg : Str → Option Value} {base : Heap} {cA cJ cC cL P1 P2 : Addr} {TT : List (Addr × Str)}
theorem scC10 : FnScope ["self", "how"] ["self", "how"] (defScope (sC 10)) := ⟨rfl, rfl, rfl, by decide +kernel, rfl, by decide +kernel, by decide +kernel⟩
theorem ok_C10 {f : Addr} {fd : FuncData} (F : Fun K "take_jump" "Competition.take_jump" (sC 10) f fd) (T : Txt K mg cA cJ cC cL) (La : Lam K mg base cC P1 P2) : FnOk P w K mg base CX0 8 f fd ["self", "how"] (spMut (TTof P1 P2) cA cJ cC 1 (fun h : Nat => [nV h]) (fun N m h => Ok2 m ∧ m.up ≠ none ∧ N < 1000 ∧ h ≤ 2) fun m h => m.jump (m.up.getD 0) h) := by
  obtain ⟨f1, fd1, F1, b1, m1⟩ := T.C1
  have G1 : FnOk P w K mg base CX0 6 f1 fd1 ["self"] (spC (TTof P1 P2) cA cJ cC (fun _ => True) fun m => nV m.phase) := ok_C1 F1 T La
  obtain ⟨c8, f8, fd8, F8, b8, m8, t8⟩ := La.up
  have G8 : FnOk P w K mg base CX0 7 f8 fd8 ["self"] (spC (TTof P1 P2) cA cJ cC Ok2 upV) := ok_C8 F8 T La t8
  obtain ⟨f2, fd2, F2, b2, m2⟩ := T.A1
  have G2 : FnOk P w K mg base CX0 1 f2 fd2 ["self", "height", "how"] (spAdd cA) := ok_A1 F2 T
  obtain ⟨f3, fd3, F3, b3, m3⟩ := T.J3
  have G3 : FnOk P w K mg base CX0 3 f3 fd3 ["self", "is_cleared"] (spJTake cJ) := ok_J3 F3 T
  obtain ⟨f5, fd5, F5, b5, m5⟩ := T.C15
  have G5 : FnOk P w K mg base CX0 5 f5 fd5 ["self"] (spMut (TTof P1 P2) cA cJ cC 0 (fun _ : Unit => []) (fun _ _ _ => True) fun m _ => m.raise) := ok_C15 F5 T
  refine F.ok scC10 (fun vs H Q E h => ?_) (fun cdv A outer s H vs Q E hr h => ?_)
  · obtain ⟨N, A, m, i, rfl, _⟩ := h
    rfl
  · obtain ⟨N, A, m, how, rfl, hc, ⟨ok2, hup, hN, hw⟩, k⟩ := h
    have k : ∀ N' H' A', CompAt (TTof P1 P2) cA cJ cC N' H' A' (m.jump (m.up.getD 0) how) → N' ≤ N + 1 → MutFr (TTof P1 P2) A A' H H' → Q .non H' := k
    refine ⟨_, pss_one (ps_if (pt_cmpR op_eq (pe_meth0 (pv 0) T.clC m1 G1 (hr.mono (by decide : 6 ≤ 7)) b1 .nil pass0) (pe_ic rfl T.INOFF) (nomark _))
      (pss_one (ps_expr (pe_meth (pe_fld (pv 0) rfl) T.clJ m3 G3 (hr.mono (by decide : 3 ≤ 7)) b3 .nil pass0 (pa_cons (pe_cmpR op_eq (pv 1) (pe_ic rfl T.CLEARED) (nomark _)) pa_nil))))
      (pss_cons (ps_expr (pe_meth (pe_ix ix_list (pe_fld (pv 0) rfl) (pe_meth0 (pv 0) T.clC m8 G8 hr b8 .nil pass0) (fun _ _ => rfl)) T.clA m2 G2 (hr.mono (by decide : 1 ≤ 7)) b2 .nil pass0 (pa_cons (pe_fld (pv 0) rfl) (pa_cons (pv 1) pa_nil))))
        (pss_one (ps_expr (pe_meth0 (pv 0) T.clC m5 G5 (hr.mono (by decide : 5 ≤ 7)) b5 .nil pass0))))), ?_⟩
    obtain ⟨dx, ho⟩ := hc.obj
    refine ⟨_, rfl, A.c, dx, _, rfl, ho, rfl, N, A, m, rfl, hc, trivial, fun H1 g1 => ⟨rfl, _, rfl, ?_⟩⟩
    have hc1 := hc.go g1
    obtain ⟨dx1, ho1⟩ := hc1.obj
    by_cases c : m.phase = 2
    · refine iteT (decide_eq_true (congrArg nV c)) ?_
      obtain ⟨j, e⟩ := phase_jo c
      obtain ⟨ja, ol, cl, dl, ea, ej, hj⟩ := hc1.jv_some e
      obtain ⟨dj, hoj⟩ := hj.obj
      have hlt := ok2 j c e
      refine ⟨_, rfl, A.c, cC, dx1, _, _, rfl, ho1, T.clC, T.cOff, fC_jo, ja, dj, _, ej, hoj, rfl, _, rfl, rfl, ja, ol, cl, dl, j, decide (nV how = .int 1), by rw [ej]; rfl, hj, hlt, fun H2 ol' cl' hj' h1 h2 fr => ?_⟩
      have ed : decide (nV how = V.int 1) = (how == 1) := by
        have : decide (nV how = nV 1) = decide (how = 1) := nV_eq
        exact this.trans (by by_cases z : how = 1 <;> simp [z])
      rw [ed] at hj'
      obtain ⟨q1, q2⟩ := hc1.joSet e ea hj hj' fr h1 h2
      refine k N H2 _ ?_ (by omega) ((MutFr.of g1).trans q2)
      rw [jump_two c e]
      exact q1
    · refine iteF (decide_eq_false fun z => c ?_) ?_
      · have := V.int.inj z
        omega
      obtain ⟨i, eu⟩ := Option.ne_none_iff_exists'.mp hup
      have hi := up_lt c eu
      rw [jump_not c, eu, Option.getD_some] at k
      refine ⟨_, rfl, A.c, cC, dx1, _, _, rfl, ho1, T.clC, T.cAth, fC_ath, _, rfl, A.c, dx1, _, rfl, ho1, rfl, N, A, m, rfl, hc1, ok2, fun H2 g2 => ?_⟩
      have hc2 := hc1.go g2
      obtain ⟨dx2, ho2⟩ := hc2.obj
      obtain ⟨a, l, ha, hl, hat⟩ := hc2.ath hi
      obtain ⟨da, hoa⟩ := hat.obj
      obtain ⟨ps, hol, _⟩ := hat.js
      have euv : upV m = nV i := by unfold upV; rw [eu]; rfl
      refine ⟨A.al, _, _, .ref a, rfl, euv, SqL.of hc2.lst, atI_nat (by rw [List.getElem?_map, ha]; rfl), a, da, _, rfl, hoa, rfl, _, rfl, A.c, cC, dx2, _, _, rfl, ho2, T.clC, T.cBar, fC_bar, _, rfl, N, a, l, _, m.bar, how, rfl, hat, hw, hN, fun H3 hat3 fr => ?_⟩
      have hc3 : CompAt (TTof P1 P2) cA cJ cC (N + 1) H3 A (m.add i how) := hc2.athSet hi ha hl (.inr rfl) fr hat3 (by omega) (by omega)
      have mf : MutFr (TTof P1 P2) A A H2 H3 := mut_at (ls_foot hl) hol (by intro ps z; cases z) (by intro ps z; cases z) fr
      obtain ⟨dx3, ho3⟩ := hc3.obj
      have pre3 : True := trivial
      refine ⟨_, rfl, A.c, dx3, _, rfl, ho3, rfl, N + 1, A, _, (), rfl, hc3, pre3, fun N' H' A' hc' hN' mf' => ?_⟩
      exact k N' H' A' hc' (by omega) (((MutFr.of g1).trans (.of g2)).trans (mf.trans mf'))
end
end Jp

set_option Elab.async false
set_option maxRecDepth 100000
set_option maxHeartbeats 4000000
/-! A jump-off begun. -/
namespace Jp
open PySem PySem.Spec PyProof.Rows L2 LamX Jl
open Jc (MS JO)
theorem order_nd (m : MS) : m.order.Nodup := (Jc.order_perm m).nodup_iff.mpr ((Jc.ranked_lt m).imp fun {_ _} h => Nat.ne_of_lt h)
theorem firsts_nd (m : MS) : m.firsts.Nodup := List.Pairwise.filter _ (order_nd m)
theorem firsts_lt {m : MS} {i : Nat} (h : i ∈ m.firsts) : i < m.ath.length := List.mem_range.mp (List.mem_filter.mp ((Jc.order_mem m).mp (List.mem_filter.mp h).1)).1
section
variable {P : Program} {w : World} {K : PySem.W.Frag} {mg : Str → Option Value} {base : Heap} {cA cJ cC cL P1 P2 : Addr} {TT : List (Addr × Str)}
theorem CompAt.putJ {N : Nat} {H H' : Hp} {A : CAd} {m : MS} {j : JO} {ja ol cl dl : Addr} (h : CompAt TT cA cJ cC N H A m) (fr : ∀ b o, H b = some o → b ≠ A.c → H' b = some o)
    (ho : ∃ dx, H' A.c = some (.ins cC dx (fC A.al m.rise m.turn A.hl m.bar (.ref ja) m.decl))) (hJ : JoAt cJ H' ja ol cl dl j) (h1 : ol ∉ A.al :: A.hl :: A.ls) (h2 : cl ∉ A.al :: A.hl :: A.ls) :
    CompAt TT cA cJ cC N H' { A with jo := some (ja, ol, cl, dl) } { m with jo := some j } := by
  obtain ⟨dx, ho1⟩ := h.obj
  refine ⟨ho, fr _ _ h.lst (ne_of h.lst ho1 (by intro z; cases z)), fr _ _ h.hts (ne_of h.hts ho1 (by intro z; cases z)), h.alen, h.llen, fun i a l ha hl => ?_, h.nda, h.ndl, h.small, h.hlen, (by intro z; cases z), fun j2 e => ?_, Tabs.fr h.tabs fun b o e hb => fr b o e ?_⟩
  · have hat := h.at_ i a l ha hl
    obtain ⟨da, hoa⟩ := hat.obj
    obtain ⟨ps, hl1, _⟩ := hat.js
    have hat' : AthAt N cA H' a l (m.A i) := hat.fr fun b o e hb => fr b o e <| by
      rcases hb with rfl | rfl | ⟨t, rfl⟩
      · exact ne_of hoa ho1 (by intro z; injection z with _ _ z; cases z)
      · exact ne_of hl1 ho1 (by intro z; cases z)
      · exact ne_of e ho1 (by intro z; cases z)
    exact hat'
  · obtain rfl : j = j2 := Option.some.inj e
    exact ⟨ja, ol, cl, dl, rfl, hJ, h1, h2⟩
  · rcases hb with ⟨ps, rfl⟩ | ⟨φ, rfl⟩
    · exact ne_of e ho1 (by intro z; cases z)
    · exact ne_of e ho1 (by intro z; cases z)
theorem CompAt.lists {N : Nat} {H : Hp} {A : CAd} {m : MS} (h : CompAt TT cA cJ cC N H A m) {b : Addr} (hb : b ∈ A.al :: A.hl :: A.ls) : H b ≠ none := by
  rcases List.mem_cons.mp hb with rfl | hb
  · rw [h.lst]; simp
  · rcases List.mem_cons.mp hb with rfl | hb
    · rw [h.hts]; simp
    · obtain ⟨k, hk'⟩ := List.mem_iff_getElem?.mp hb
      have hlt : k < m.ath.length := by rw [← h.llen]; exact (List.getElem?_eq_some_iff.mp hk').1
      obtain ⟨a, l, ha, hl, hat⟩ := h.ath hlt
      obtain rfl : b = l := Option.some.inj (hk'.symm.trans hl)
      obtain ⟨ps, hol, _⟩ := hat.js
      rw [hol]; simp
theorem scC18 : FnScope ["self", "numbers", "cleared"] ["self"] (defScope (sC 18)) := ⟨rfl, rfl, rfl, by decide +kernel, rfl, by decide +kernel, by decide +kernel⟩
theorem ok_C18 {f : Addr} {fd : FuncData} (F : Fun K "start_jump_off" "Competition.start_jump_off" (sC 18) f fd) (T : Txt K mg cA cJ cC cL) (La : Lam K mg base cC P1 P2) : FnOk P w K mg base CX0 6 f fd ["self"] (spMut (TTof P1 P2) cA cJ cC 0 (fun _ : Unit => []) (fun _ m _ => m.firsts ≠ []) fun m _ => m.start) := by
  obtain ⟨f1, fd1, F1, b1, m1⟩ := T.C17
  have G1 : FnOk P w K mg base CX0 5 f1 fd1 ["self"] (spCL (TTof P1 P2) cA cJ cC MS.firsts) := ok_C17 F1 T La
  obtain ⟨f7, fd7, F7, b7, m7⟩ := T.A7
  have G7 : FnOk P w K mg base CX0 1 f7 fd7 ["self"] (spA (TTof P1 P2) cA fun x => .int (x.best : Int)) := ok_A7 F7 T
  obtain ⟨f4, fd4, F4, b4, m4⟩ := T.C14
  have G4 : FnOk P w K mg base CX0 1 f4 fd4 ["self", "height"] (spC1 (TTof P1 P2) cA cJ cC (fun _ _ => True) fun m h => nV (m.after h)) := ok_C14 F4 T
  obtain ⟨f0, fd0, F0, b0, m0⟩ := T.J0
  have G0 : FnOk P w K mg base CX0 1 f0 fd0 ["self", "numbers", "bar", "turn"] (spJInit cJ) := ok_J0 F0 T
  refine F.ok scC18 (fun vs H Q E h => ?_) (fun cdv A outer s H vs Q E hr h => ?_)
  · obtain ⟨N, A, m, i, rfl, _⟩ := h
    rfl
  · obtain ⟨N, A, m, _, rfl, hc, hne, k⟩ := h
    have k : ∀ N' H' A', CompAt (TTof P1 P2) cA cJ cC N' H' A' m.start → N' ≤ N + 0 → MutFr (TTof P1 P2) A A' H H' → Q .non H' := k
    refine ⟨_, pss_cons (ps_set (i := 1) scC18.nd rfl (.inl rfl) (pe_meth0 (pv 0) T.clC m1 G1 hr b1 .nil pass0))
      (pss_cons (ps_set (i := 2) scC18.nd rfl (.inl rfl) (pe_meth0 (pe_ix ix_list (pe_fld (pv 0) rfl) (pe_ix (r := rIxL K) ix_list (pv 1) pe_int (fun _ _ => rfl)) (fun _ _ => rfl)) T.clA m7 G7 (hr.mono (by decide : 1 ≤ 5)) b7 .nil pass0))
      (pss_one (ps_fld (pv 0) (pe_make m0 G0 (hr.mono (by decide : 2 ≤ 5)) (by rfl) T.gJ b0 .nil pass0 (pa_cons (pv 1) (pa_cons (pe_meth (pv 0) T.clC m4 G4 (hr.mono (by decide : 1 ≤ 5)) b4 .nil pass0 (pa_cons (pv 2) pa_nil)) (pa_cons (pe_fld (pv 0) rfl) pa_nil)))) rfl))), ?_⟩
    obtain ⟨dx, ho⟩ := hc.obj
    obtain ⟨i0, rest, hf⟩ := List.exists_cons_of_ne_nil hne
    have hi0 : i0 < m.ath.length := firsts_lt (by rw [hf]; exact List.mem_cons_self ..)
    have hs := hc.small
    refine ⟨_, rfl, A.c, dx, _, rfl, ho, rfl, N, A, m, rfl, hc, fun H1 nl g1 _ hnl => ?_⟩
    have hc1 := hc.go g1
    obtain ⟨dx1, ho1⟩ := hc1.obj
    obtain ⟨a, l, ha, hl, hat⟩ := hc1.ath hi0
    obtain ⟨da, hoa⟩ := hat.obj
    refine ⟨_, rfl, A.c, cC, dx1, _, _, rfl, ho1, T.clC, T.cAth, fC_ath, _, rfl, nl, _, _, nV i0, rfl, rfl, SqL.of hnl, atI_nat (j := 0) (by rw [hf]; rfl), A.al, _, _, .ref a, rfl, rfl, SqL.of hc1.lst, atI_nat (by rw [List.getElem?_map, ha]; rfl), a, da, _, rfl, hoa, rfl, N, a, l, _, rfl, hat, fun H2 g2 => ?_⟩
    have hc2 := hc1.go g2
    obtain ⟨dx2, ho2⟩ := hc2.obj
    refine ⟨_, rfl, _, rfl, A.c, dx2, _, rfl, ho2, rfl, _, rfl, N, A, m, (m.A i0).best, rfl, hc2, trivial, fun H3 g3 => ?_⟩
    have hc3 := hc2.go g3
    obtain ⟨dx3, ho3⟩ := hc3.obj
    have hnl3 := g3.at (g2.at hnl)
    refine ⟨_, rfl, A.c, cC, dx3, _, _, rfl, ho3, T.clC, T.cTurn, fC_turn, fun x d2 hx hd2 hdx => ?_⟩
    have fr0 : ∀ b o, H3 b = some o → (upd (upd H3 d2 (.own x)) x (.ins cJ d2 [])) b = some o := fun b o e => by rw [upd_ne (ne_of_none e hx), upd_ne (ne_of_none e hd2)]; exact e
    have lt20 : ∀ i ∈ m.firsts, i < 20 := fun i hi => by have := firsts_lt hi; omega
    refine ⟨x, d2, nl, m.firsts, m.after (m.A i0).best, m.turn, rfl, upd_same, fr0 _ _ hnl3, firsts_nd m, lt20, nodup_len 20 _ (firsts_nd m) lt20, fun H4 ol cl dl hJ h1 h2 h3 fr => ⟨rfl, ?_⟩⟩
    have fr4 : ∀ b o, H3 b = some o → H4 b = some o := fun b o e => fr b o (fr0 b o e) (ne_of_none e hx)
    have g4 : Go (TTof P1 P2) H3 H4 := .of fr4
    have hc4 := hc3.go g4
    obtain ⟨dx4, ho4⟩ := hc4.obj
    have nn : ∀ b, (upd (upd H3 d2 (.own x)) x (.ins cJ d2 [])) b = none → H3 b = none := fun b e => by
      cases e2 : H3 b with
      | none => rfl
      | some o => rw [fr0 b o e2] at e; cases e
    have gA := (g1.trans g2).trans (g3.trans g4)
    have gB := (g1.trans g2).trans g3
    refine ⟨_, rfl, A.c, cC, dx4, _, rfl, ho4, T.clC, T.cOff, by show 7 < 1000; decide, ?_⟩
    rw [fC_putJo]
    obtain ⟨dj, hoj⟩ := hJ.obj
    obtain ⟨kvs, hk, _⟩ := hJ.come
    have hJ' : JoAt cJ (upd H4 A.c (.ins cC dx4 (fC A.al m.rise m.turn A.hl m.bar (.ref x) m.decl))) x ol cl dl ⟨m.firsts, m.after (m.A i0).best, m.turn, [], fun _ => 0⟩ := hJ.fr fun b o e hb => by
      rw [upd_ne ?_]; · exact e
      rcases hb with rfl | rfl | rfl | rfl
      · exact ne_of hoj ho4 (by intro z; injection z with _ _ z; cases z)
      · exact ne_of hJ.off ho4 (by intro z; cases z)
      · exact ne_of hJ.clr ho4 (by intro z; cases z)
      · exact ne_of hk ho4 (by intro z; cases z)
    have hfin := hc4.putJ (fun b o e hb => by rw [upd_ne hb]; exact e) ⟨dx4, upd_same⟩ hJ' (fun hm => hc3.lists hm (nn _ h1)) (fun hm => hc3.lists hm (nn _ h2))
    have est : m.start = { m with jo := some ⟨m.firsts, m.after (m.A i0).best, m.turn, [], fun _ => 0⟩ } := by
      unfold Jc.MS.start
      rw [hf]
      rfl
    refine k N _ { A with jo := some (x, ol, cl, dl) } ?_ (by omega) ⟨rfl, fun b hb => ?_, fun b hb => ?_, (mut_put gA ho4).go⟩
    · rw [est]
      exact hfin
    · rcases List.mem_cons.mp hb with rfl | hb
      · exact .inl (List.mem_cons_self ..)
      · rcases List.mem_append.mp hb with hb | hb
        · exact .inl (List.mem_cons_of_mem _ (List.mem_append_left _ hb))
        · rcases List.mem_append.mp hb with hb | hb
          · exact .inl (List.mem_cons_of_mem _ (List.mem_append_right _ (List.mem_append_left _ hb)))
          · have hb : b ∈ [x, cl, dl] := hb
            refine .inr (gB.free ?_)
            rcases List.mem_cons.mp hb with rfl | hb
            · exact hx
            · rcases List.mem_cons.mp hb with rfl | hb
              · exact nn _ h2
              · rw [List.mem_singleton.mp hb]; exact nn _ h3
    · rcases List.mem_cons.mp hb with rfl | hb
      · exact .inl (List.mem_cons_self ..)
      · rcases List.mem_cons.mp hb with rfl | hb
        · exact .inl (List.mem_cons_of_mem _ (List.mem_cons_self ..))
        · have hb : b ∈ [ol] := hb
          rw [List.mem_singleton.mp hb]
          exact .inr (.inr (gB.free (nn _ h1)))
end
end Jp

set_option Elab.async false
set_option maxRecDepth 100000
set_option maxHeartbeats 4000000
/-! A contest made. -/
namespace Jp
open PySem PySem.Spec PyProof.Rows L2 LamX Jl
open Jc (MS JO)
def spCInit (T : List (Addr × Str)) (cA cJ cC : Addr) : Sp := fun vs H Q _ => ∃ p dx hl n rise turn hs, vs = [.ref p, nV n, nV rise, nV turn, .ref hl] ∧ H p = some (.ins cC dx []) ∧ H hl = some (.lst (hs.map nV)) ∧ hs ≠ [] ∧ n ≤ 20 ∧ hs.length ≤ 40 ∧ Tabs T H ∧
  ∀ H' A, CompAt T cA cJ cC 0 H' A (MS.new n rise turn hs) → A.c = p → (∀ b ∈ A.foot, b = p ∨ H b = none) → (∀ b ∈ A.lists, H b = none) → (∀ b o, H b = some o → b ≠ p → H' b = some o) → Q .non H'
/-- the athletes so far -/
structure Fresh (cA : Addr) (H H' : Hp) (D : Addr) (i : Nat) (as ls : List Addr) : Prop where
  al : as.length = i
  ll : ls.length = i
  lst : H' D = some (.lst (as.map V.ref))
  at_ : ∀ (k : Nat) a l, as[k]? = some a → ls[k]? = some l → AthAt 0 cA H' a l ⟨[], false, none⟩
  nda : as.Nodup
  ndl : ls.Nodup
  na : ∀ b ∈ as, H b = none
  nl : ∀ b ∈ ls, H b = none ∧ b ≠ D
theorem snoc_get {l : List Addr} {k : Nat} {a b : Addr} (h : (l ++ [a])[k]? = some b) : (k < l.length ∧ l[k]? = some b) ∨ (k = l.length ∧ b = a) := by
  by_cases c : k < l.length
  · rw [List.getElem?_append_left c] at h
    exact .inl ⟨c, h⟩
  · rw [List.getElem?_append_right (by omega)] at h
    have hk : k - l.length = 0 := by
      by_cases d : k - l.length = 0
      · exact d
      · rw [List.getElem?_eq_none (by simp; omega)] at h; cases h
    rw [hk] at h
    exact .inr ⟨by omega, (Option.some.inj h).symm⟩
section
variable {P : Program} {w : World} {K : PySem.W.Frag} {mg : Str → Option Value} {base : Heap} {cA cJ cC cL P1 P2 : Addr} {TT : List (Addr × Str)}
theorem Fresh.somes {H H' : Hp} {D : Addr} {i : Nat} {as ls : List Addr} (h : Fresh cA H H' D i as ls) : (∀ b ∈ as, H' b ≠ none) ∧ ∀ b ∈ ls, H' b ≠ none := by
  have key : ∀ k, k < i → ∃ a l, as[k]? = some a ∧ ls[k]? = some l := fun k hk =>
    ⟨_, _, List.getElem?_eq_getElem (by rw [h.al]; exact hk), List.getElem?_eq_getElem (by rw [h.ll]; exact hk)⟩
  refine ⟨fun b hb => ?_, fun b hb => ?_⟩
  · obtain ⟨k, hk⟩ := List.mem_iff_getElem?.mp hb
    obtain ⟨a, l, ha, hl⟩ := key k (by rw [← h.al]; exact (List.getElem?_eq_some_iff.mp hk).1)
    obtain ⟨da, hoa⟩ := (h.at_ k a l ha hl).obj
    obtain rfl : b = a := Option.some.inj (hk.symm.trans ha)
    rw [hoa]; simp
  · obtain ⟨k, hk⟩ := List.mem_iff_getElem?.mp hb
    obtain ⟨a, l, ha, hl⟩ := key k (by rw [← h.ll]; exact (List.getElem?_eq_some_iff.mp hk).1)
    obtain ⟨ps, hol, _⟩ := (h.at_ k a l ha hl).js
    obtain rfl : b = l := Option.some.inj (hk.symm.trans hl)
    rw [hol]; simp
theorem scC0 : FnScope ["self", "how_many", "rise", "turn", "heights", "number"] ["self", "how_many", "rise", "turn", "heights"] (defScope (sC 0)) := ⟨rfl, rfl, rfl, by decide +kernel, rfl, by decide +kernel, by decide +kernel⟩
theorem ok_C0 {f : Addr} {fd : FuncData} (F : Fun K "__init__" "Competition.__init__" (sC 0) f fd) (T : Txt K mg cA cJ cC cL) : FnOk P w K mg base CX0 3 f fd ["self", "how_many", "rise", "turn", "heights"] (spCInit TT cA cJ cC) := by
  obtain ⟨f0, fd0, F0, b0, m0⟩ := T.A0
  have G0 : FnOk P w K mg base CX0 1 f0 fd0 ["self"] (spAInit cA) := ok_A0 F0 T
  refine F.ok scC0 (fun vs H Q E h => ?_) (fun cdv A outer s H vs Q E hr h => ?_)
  · obtain ⟨p, dx, hl, n, rise, turn, hs, rfl, _⟩ := h
    rfl
  · obtain ⟨p, dx, hl, n, rise, turn, hs, rfl, hp, hhl, hne, hn, hlen, htab, k⟩ := h
    refine ⟨_, pss_cons (ps_fld (pv 0) (pe_lc (own := [("number", 5)]) (g := gName 5) (by rfl) scC0.nd (pi_range1 (by rfl) T.range (pa_cons (pv 1) pa_nil)) (blkOk_by (own := [("number", 5)]) (N := ["self", "how_many", "rise", "turn", "heights", "number"]) (sc := defScope (sC 0)) (by decide +kernel))
        (fun _ _ _ _ _ => pg_name (i := 5) scC0.nd rfl (Or.inl rfl))
        (fun _ _ _ _ _ => pts_nil)
        (fun _ _ _ _ _ => pe_make0 m0 G0 hr (by rfl) T.gA b0 .nil pass0)) rfl)
      (pss_cons (ps_fld (pv 0) (pv 2) rfl) (pss_cons (ps_fld (pv 0) (pv 3) rfl)
      (pss_cons (ps_fld (pv 0) (pe_callTy call_list_of (by rfl) T.list (by decide +kernel) (pa_cons (pv 4) pa_nil)) rfl)
      (pss_cons (ps_fld (pv 0) (pe_ix (r := rIxL K) ix_list (pv 4) pe_int (fun _ _ => rfl)) rfl)
      (pss_cons (ps_fld (pv 0) pe_non rfl) (pss_one (ps_fld (pv 0) pe_bl rfl))))))), ?_⟩
    refine ⟨_, rfl, _, rfl, by omega, by omega, fun D hD => ?_⟩
    refine lc_range (lo := 0) (n := n) (fun i H' => (∀ b o, H b = some o → H' b = some o) ∧ ∃ as ls, Fresh cA H H' D i as ls)
      ⟨fun b o e => by rw [upd_ne (ne_of_none e hD)]; exact e, [], [], rfl, rfl, upd_same, fun k a l h => by simp at h, .nil, .nil, fun b h => by simp at h, fun b h => by simp at h⟩ ?_ ?_
    · rintro i H1 hi ⟨sm, as, ls, hF⟩
      refine ⟨rfl, ?_⟩
      dsimp only [tYes]
      rw [if_pos rfl]
      refine fun x dx2 hx hdx2 hne2 => ?_
      have fr0 : ∀ b o, H1 b = some o → (upd (upd H1 dx2 (.own x)) x (.ins cA dx2 [])) b = some o := fun b o e => by rw [upd_ne (ne_of_none e hx), upd_ne (ne_of_none e hdx2)]; exact e
      refine ⟨x, dx2, rfl, upd_same, fun H2 l hl1 hl2 hx2 fr => ⟨rfl, ?_⟩⟩
      have fr2 : ∀ b o, H1 b = some o → H2 b = some o := fun b o e => fr b o (fr0 b o e) (ne_of_none e hx)
      have hD2 := fr2 _ _ hF.lst
      have hl1' : H1 l = none := by
        cases e : H1 l with
        | none => rfl
        | some o => rw [fr0 l o e] at hl1; cases hl1
      have nH : ∀ b, H1 b = none → H b = none := fun b e => by
        cases e2 : H b with
        | none => rfl
        | some o => rw [sm b o e2] at e; cases e
      have nD : ∀ b, H1 b = none → b ≠ D := fun b e z => by rw [z, hF.lst] at e; cases e
      refine ⟨_, hD2, ?_, fun b o e => ?_, as ++ [x], ls ++ [l], ?_, ?_, ?_, fun k' a' l' ha' hl' => ?_, ?_, ?_, fun b hb => ?_, fun b hb => ?_⟩
      · rw [List.length_map, hF.al]
        show _ < 16777216
        omega
      · rw [upd_ne (ne_of_none e hD)]
        exact fr2 _ _ (sm _ _ e)
      · rw [List.length_append, hF.al]; rfl
      · rw [List.length_append, hF.ll]; rfl
      · rw [upd_same, List.map_append]; rfl
      · rcases snoc_get ha' with ⟨q1, q2⟩ | ⟨q1, rfl⟩
        · rcases snoc_get hl' with ⟨r1, r2⟩ | ⟨r1, _⟩
          · have hat := hF.at_ k' a' l' q2 r2
            obtain ⟨da, hoa⟩ := hat.obj
            obtain ⟨ps, hol, _⟩ := hat.js
            refine hat.fr fun b o e hb => ?_
            rw [upd_ne ?_]
            · exact fr2 _ _ e
            rcases hb with rfl | rfl | ⟨t, rfl⟩
            · exact ne_of hoa hF.lst (by intro z; cases z)
            · exact (hF.nl _ (List.mem_of_getElem? r2)).2
            · exact ne_of e hF.lst (by intro z; cases z)
          · rw [hF.ll] at r1
            rw [hF.al] at q1
            omega
        · rcases snoc_get hl' with ⟨r1, r2⟩ | ⟨_, rfl⟩
          · rw [hF.ll] at r1
            rw [hF.al] at q1
            omega
          · refine ⟨⟨dx2, ?_⟩, ⟨[], ?_, .nil⟩, fun j hj => by simp at hj, Nat.le_refl _, by omega⟩
            · rw [upd_ne (nD _ hx)]; exact hx2
            · rw [upd_ne (nD _ hl1')]; exact hl2
      · refine List.nodup_append.mpr ⟨hF.nda, List.pairwise_singleton _ _, fun a ha b hb z => ?_⟩
        rw [List.mem_singleton.mp hb] at z
        exact hF.somes.1 a ha (by rw [z]; exact hx)
      · refine List.nodup_append.mpr ⟨hF.ndl, List.pairwise_singleton _ _, fun a ha b hb z => ?_⟩
        rw [List.mem_singleton.mp hb] at z
        exact hF.somes.2 a ha (by rw [z]; exact hl1')
      · rcases List.mem_append.mp hb with hb | hb
        · exact hF.na b hb
        · rw [List.mem_singleton.mp hb]
          exact nH _ hx
      · rcases List.mem_append.mp hb with hb | hb
        · exact hF.nl b hb
        · rw [List.mem_singleton.mp hb]
          exact ⟨nH _ hl1', nD _ hl1'⟩
    · rintro H1 ⟨sm, as, ls, hF⟩
      have hp1 := sm _ _ hp
      have hh1 := sm _ _ hhl
      have nhp : hl ≠ p := ne_of hhl hp (by intro z; cases z)
      refine ⟨_, rfl, p, cC, dx, _, rfl, hp1, T.clC, T.cAth, by decide, ?_⟩
      refine ⟨_, rfl, _, rfl, p, cC, dx, _, rfl, upd_same, T.clC, T.cRise, by show 1 < 1000; decide, ?_⟩
      refine ⟨_, rfl, _, rfl, p, cC, dx, _, rfl, upd_same, T.clC, T.cTurn, by show 2 < 1000; decide, ?_⟩
      rw [upd_upd, upd_upd]
      refine ⟨_, rfl, hl, _, rfl, .inl (SqL.of (by rw [upd_ne nhp]; exact hh1)), fun h2 hh2 => ?_⟩
      have n2 : h2 ≠ p := fun z => by rw [z, upd_same] at hh2; cases hh2
      rw [upd_ne n2] at hh2
      have nhh : hl ≠ h2 := ne_of_none hh1 hh2
      refine ⟨_, rfl, p, cC, dx, _, rfl, by rw [upd_ne n2.symm, upd_same], T.clC, T.cHeights, by show 3 < 1000; decide, ?_⟩
      obtain ⟨h0, hrest, ehs⟩ := List.exists_cons_of_ne_nil hne
      refine ⟨_, rfl, hl, _, _, nV h0, rfl, rfl, SqL.of (by rw [upd_ne nhp, upd_ne nhh, upd_ne nhp]; exact hh1), atI_nat (j := 0) (by rw [ehs]; rfl), ?_⟩
      refine ⟨_, rfl, p, cC, dx, _, rfl, upd_same, T.clC, T.cBar, by show 4 < 1000; decide, ?_⟩
      refine ⟨_, rfl, p, cC, dx, _, rfl, upd_same, T.clC, T.cOff, by show 5 < 1000; decide, ?_⟩
      refine ⟨_, rfl, p, cC, dx, _, rfl, upd_same, T.clC, T.cDecl, by show 6 < 1000; decide, ?_⟩
      rw [upd_upd, upd_upd, upd_upd]
      -- what stands
      have st : ∀ b o u v, H1 b = some o → b ≠ p → (upd (upd (upd H1 p u) h2 v) p (.ins cC dx (fC D rise turn h2 h0 .non false))) b = some o := fun b o u v e hb => by
        rw [upd_ne hb, upd_ne (ne_of_none e hh2), upd_ne hb]; exact e
      have hDp : D ≠ p := ne_of hF.lst hp1 (by intro z; cases z)
      have nH : ∀ b, H1 b = none → H b = none := fun b e => by
        cases e2 : H b with
        | none => rfl
        | some o => rw [sm b o e2] at e; cases e
      have nls : ∀ b ∈ ls, b ≠ h2 := fun b hb z => hF.somes.2 b hb (by rw [z]; exact hh2)
      have hA : ∀ k, k < n → (MS.new n rise turn hs).A k = ⟨[], false, none⟩ := fun k hk => by
        unfold Jc.MS.A Jc.MS.new
        simp [List.getElem?_replicate, hk]
      refine k _ ⟨p, D, h2, as, ls, none⟩ ⟨⟨dx, ?_⟩, st _ _ _ _ hF.lst hDp, ?_, ?_, ?_, fun k' a l ha hl => ?_, hF.nda, ?_, ?_, hlen, fun _ => rfl, (by intro j z; cases z), ?_⟩ rfl (fun b hb => ?_) (fun b hb => ?_) fun b o e hb => st _ _ _ _ (sm _ _ e) hb
      · have eb : (MS.new n rise turn hs).bar = h0 := by
          unfold Jc.MS.new
          rw [ehs]; rfl
        show upd _ p _ p = some (.ins cC dx (fC D rise turn h2 (MS.new n rise turn hs).bar .non false))
        rw [eb]
        exact upd_same
      · show upd _ p _ h2 = some (.lst (hs.map nV))
        rw [upd_ne n2, upd_same]
      · show as.length = (List.replicate n _).length
        rw [List.length_replicate]; exact hF.al
      · show ls.length = (List.replicate n _).length
        rw [List.length_replicate]; exact hF.ll
      · have hk : k' < n := by
          have := (List.getElem?_eq_some_iff.mp ha).1
          have h3 : as.length = n := hF.al
          have this : k' < as.length := this
          omega
        rw [hA k' hk]
        have hat := hF.at_ k' a l ha hl
        obtain ⟨da, hoa⟩ := hat.obj
        obtain ⟨ps, hol, _⟩ := hat.js
        refine hat.fr fun b o e hb => st _ _ _ _ e ?_
        rcases hb with rfl | rfl | ⟨t, rfl⟩
        · exact ne_of hoa hp1 (by intro z; injection z with _ _ z; cases z)
        · exact ne_of hol hp1 (by intro z; cases z)
        · exact ne_of e hp1 (by intro z; cases z)
      · refine List.nodup_cons.mpr ⟨fun hm => ?_, List.nodup_cons.mpr ⟨fun hm => nls _ hm rfl, hF.ndl⟩⟩
        rcases List.mem_cons.mp hm with z | hm
        · exact ne_of_none hF.lst hh2 z
        · exact (hF.nl _ hm).2 rfl
      · show (List.replicate n _).length ≤ 20
        rw [List.length_replicate]; exact hn
      · refine Tabs.fr htab fun b o e hb => st _ _ _ _ (sm _ _ e) ?_
        rcases hb with ⟨ps, rfl⟩ | ⟨φ, rfl⟩
        · exact ne_of e hp (by intro z; cases z)
        · exact ne_of e hp (by intro z; cases z)
      · rcases List.mem_cons.mp hb with rfl | hb
        · exact .inl rfl
        · refine .inr ?_
          rcases List.mem_append.mp hb with hb | hb
          · exact hF.na b hb
          · rcases List.mem_append.mp hb with hb | hb
            · exact (hF.nl b hb).1
            · cases hb
      · rcases List.mem_cons.mp hb with rfl | hb
        · exact hD
        · rcases List.mem_cons.mp hb with rfl | hb
          · exact nH _ hh2
          · cases hb
end
end Jp

set_option Elab.async false
set_option maxRecDepth 100000
set_option maxHeartbeats 4000000
/-! A line: its state in the heap; who's up, a jump. -/
namespace Jp
open PySem PySem.Spec PyProof.Rows L2 LamX Jl
open Jc (MS JO)
def fL (c : Addr) : List (Str × V) := [("contest", .ref c)]
theorem fL_con (c : Addr) : (fL c).lookup ("contest" : Str) = some (.ref c) := lkh
structure LineAt (T : List (Addr × Str)) (cA cJ cC cL : Addr) (N : Nat) (H : Hp) (lo : Addr) (A : CAd) (m : MS) : Prop where
  obj : ∃ dx, H lo = some (.ins cL dx (fL A.c))
  comp : CompAt T cA cJ cC N H A m
structure LFr (T : List (Addr × Str)) (A A' : CAd) (lo : Addr) (H H' : Hp) : Prop where
  foot : ∀ b ∈ A'.foot, b ∈ A.foot ∨ H b = none
  ls : ∀ b ∈ A'.lists, b ∈ A.lists ∨ b ∈ A.foot ∨ H b = none
  go : GoB T (fun b => b ∈ A.foot ∨ b = lo) H H'
def LK (T : List (Addr × Str)) (cA cJ cC cL : Addr) (N d : Nat) (H : Hp) (lo : Addr) (A : CAd) (r : MS × List Int) (Q : VK) : Prop := ∀ N' H' A' l, LineAt T cA cJ cC cL N' H' lo A' r.1 → N' ≤ N + d → (H l = none ∨ l ∈ A.foot) → H' l = some (.lst (r.2.map V.int)) → LFr T A A' lo H H' → Q (.ref l) H'
def spL {α : Type} (T : List (Addr × Str)) (cA cJ cC cL : Addr) (d : Nat) (args : α → Hp → List V → Prop) (pre : Nat → MS → α → Prop) (res : MS → α → MS × List Int) : Sp := fun vs H Q _ => ∃ lo N A m x ws, vs = .ref lo :: ws ∧ args x H ws ∧ LineAt T cA cJ cC cL N H lo A m ∧ pre N m x ∧ LK T cA cJ cC cL N d H lo A (res m x) Q
section
variable {P : Program} {w : World} {K : PySem.W.Frag} {mg : Str → Option Value} {base : Heap} {cA cJ cC cL P1 P2 : Addr} {TT : List (Addr × Str)}
theorem CompAt.lo {N : Nat} {H : Hp} {A : CAd} {m : MS} {lo c : Addr} {dx : Addr} (h : CompAt TT cA cJ cC N H A m) (e : H lo = some (.ins cL dx (fL c))) : lo ∉ A.foot := fun hb => by
  rcases List.mem_cons.mp hb with rfl | hb
  · obtain ⟨d, ho⟩ := h.obj
    rw [e] at ho
    have z := Option.some.inj ho
    injection z with _ _ z; cases z
  · rcases List.mem_append.mp hb with hb | hb
    · obtain ⟨k, hk⟩ := List.mem_iff_getElem?.mp hb
      obtain ⟨a, l, ha, hl, hat⟩ := h.ath (i := k) (by rw [← h.alen]; exact (List.getElem?_eq_some_iff.mp hk).1)
      obtain rfl : lo = a := Option.some.inj (hk.symm.trans ha)
      obtain ⟨d, ho⟩ := hat.obj
      rw [e] at ho
      have z := Option.some.inj ho
      injection z with _ _ z; cases z
    · rcases List.mem_append.mp hb with hb | hb
      · obtain ⟨k, hk⟩ := List.mem_iff_getElem?.mp hb
        obtain ⟨a, l, ha, hl, hat⟩ := h.ath (i := k) (by rw [← h.llen]; exact (List.getElem?_eq_some_iff.mp hk).1)
        obtain rfl : lo = l := Option.some.inj (hk.symm.trans hl)
        obtain ⟨ps, ho, _⟩ := hat.js
        rw [e] at ho
        cases ho
      · cases ej : m.jo with
        | none =>
          unfold CAd.jfoot at hb
          rw [h.jnone ej] at hb
          cases hb
        | some j =>
          obtain ⟨ja, ol, cl, dl, e1, e2, _⟩ := h.jsome j ej
          unfold CAd.jfoot at hb
          rw [e1] at hb
          have hb : lo ∈ [ja, cl, dl] := hb
          rcases List.mem_cons.mp hb with rfl | hb
          · obtain ⟨d, ho⟩ := e2.obj
            rw [e] at ho
            have z := Option.some.inj ho
            injection z with _ _ z; cases z
          · rcases List.mem_cons.mp hb with rfl | hb
            · have ho := e2.clr
              rw [e] at ho; cases ho
            · rw [List.mem_singleton.mp hb] at e
              obtain ⟨kvs, ho, _⟩ := e2.come
              rw [e] at ho; cases ho
theorem CompAt.foot_some {N : Nat} {H : Hp} {A : CAd} {m : MS} (h : CompAt TT cA cJ cC N H A m) : ∀ b ∈ A.foot, H b ≠ none := fun b hb => by
  rcases List.mem_cons.mp hb with rfl | hb
  · obtain ⟨d, ho⟩ := h.obj
    rw [ho]; simp
  · rcases List.mem_append.mp hb with hb | hb
    · obtain ⟨k, hk⟩ := List.mem_iff_getElem?.mp hb
      obtain ⟨a, l, ha, hl, hat⟩ := h.ath (i := k) (by rw [← h.alen]; exact (List.getElem?_eq_some_iff.mp hk).1)
      obtain rfl : b = a := Option.some.inj (hk.symm.trans ha)
      obtain ⟨d, ho⟩ := hat.obj
      rw [ho]; simp
    · rcases List.mem_append.mp hb with hb | hb
      · exact h.lists (List.mem_cons_of_mem _ (List.mem_cons_of_mem _ hb))
      · cases ej : m.jo with
        | none =>
          unfold CAd.jfoot at hb
          rw [h.jnone ej] at hb
          cases hb
        | some j =>
          obtain ⟨ja, ol, cl, dl, e1, e2, _⟩ := h.jsome j ej
          unfold CAd.jfoot at hb
          rw [e1] at hb
          have hb : b ∈ [ja, cl, dl] := hb
          rcases List.mem_cons.mp hb with rfl | hb
          · obtain ⟨d, ho⟩ := e2.obj
            rw [ho]; simp
          · rcases List.mem_cons.mp hb with rfl | hb
            · rw [e2.clr]; simp
            · rw [List.mem_singleton.mp hb]
              obtain ⟨kvs, ho, _⟩ := e2.come
              rw [ho]; simp
theorem LineAt.go {N : Nat} {H H' : Hp} {lo : Addr} {A : CAd} {m : MS} (h : LineAt TT cA cJ cC cL N H lo A m) (g : Go TT H H') : LineAt TT cA cJ cC cL N H' lo A m := by
  obtain ⟨dx, ho⟩ := h.obj
  exact ⟨⟨dx, g.at ho⟩, h.comp.go g⟩
theorem LineAt.mut {N N' : Nat} {H H' : Hp} {lo : Addr} {A A' : CAd} {m m' : MS} (h : LineAt TT cA cJ cC cL N H lo A m) (hc : CompAt TT cA cJ cC N' H' A' m') (mf : MutFr TT A A' H H') : LineAt TT cA cJ cC cL N' H' lo A' m' := by
  obtain ⟨dx, ho⟩ := h.obj
  exact ⟨⟨dx, by rw [mf.c]; exact mf.go.at ho (h.comp.lo ho)⟩, hc⟩
theorem LK.mut {N N' d : Nat} {H H1 H2 : Hp} {lo l : Addr} {A A' : CAd} {m : MS} {r : MS × List Int} {Q : VK} {xs : List V} (k : LK TT cA cJ cC cL N d H lo A r Q) (h : LineAt TT cA cJ cC cL N H lo A m) (hc : CompAt TT cA cJ cC N' H1 A' r.1) (hN : N' ≤ N + d) (mf : MutFr TT A A' H H1)
    (g : Go TT H1 H2) (hl : H1 l = none) (e : H2 l = some (.lst xs)) (ex : xs = r.2.map V.int) : Q (.ref l) H2 := by
  have mf2 : MutFr TT A A' H H2 := mf.trans (.of g)
  refine k N' H2 A' l (h.mut (hc.go g) mf2) hN ?_ (by rw [e, ex]) ⟨mf2.foot, mf2.ls, mf2.go.mono fun _ h => .inl h⟩
  exact mf.go.free hl
theorem LK.same {N d : Nat} {H H2 : Hp} {lo l : Addr} {A : CAd} {m : MS} {r : MS × List Int} {Q : VK} {xs : List V} (k : LK TT cA cJ cC cL N d H lo A r Q) (h : LineAt TT cA cJ cC cL N H lo A m) (er : r.1 = m)
    (g : Go TT H H2) (hl : H l = none) (e : H2 l = some (.lst xs)) (ex : xs = r.2.map V.int) : Q (.ref l) H2 :=
  k.mut h (H1 := H) (by rw [er]; exact h.comp) (Nat.le_add_right _ _) (.of Go.refl) g hl e ex
/-- a list displayed -/
theorem LK.disp {N d : Nat} {H H2 : Hp} {lo : Addr} {A : CAd} {m : MS} {r : MS × List Int} {Q : VK} {xs : List V} (k : LK TT cA cJ cC cL N d H lo A r Q) (h : LineAt TT cA cJ cC cL N H lo A m) (er : r.1 = m)
    (g : Go TT H H2) (ex : xs = r.2.map V.int) : ∀ l, H2 l = none → Q (.ref l) (upd H2 l (.lst xs)) := fun l hl => k.same h er (g.new hl) (g.free hl) upd_same ex
theorem R_ok2 {m : MS} {s : Kg63.State} (r : Jc.R m s) : Ok2 m := fun j h e => by
  obtain ⟨_, j', e', hj⟩ := Jc.phase_two.mp h
  rw [e] at e'
  obtain rfl := Option.some.inj e'
  exact ((r.some_ j e).on hj).2.1
/-! ### what a line tells of its contest -/
def spWS (T : List (Addr × Str)) (cA cJ cC cL : Addr) : Sp := fun vs H Q _ => ∃ lo N A m i, vs = [.ref lo, .int i] ∧ LineAt T cA cJ cC cL N H lo A m ∧ ∀ H' l, Go T H H' → H l = none → H' l = some (.lst ((m.state i).map V.int)) → Q (.ref l) H'
theorem scL12 : FnScope ["self", "first"] ["self", "first"] (defScope (sL 12)) := ⟨rfl, rfl, rfl, by decide +kernel, rfl, by decide +kernel, by decide +kernel⟩
theorem ok_L12 {f : Addr} {fd : FuncData} (F : Fun K "with_state" "Line.with_state" (sL 12) f fd) (T : Txt K mg cA cJ cC cL) (La : Lam K mg base cC P1 P2) : FnOk P w K mg base CX0 8 f fd ["self", "first"] (spWS (TTof P1 P2) cA cJ cC cL) := by
  obtain ⟨f1, fd1, F1, b1, m1⟩ := T.C1
  have G1 : FnOk P w K mg base CX0 6 f1 fd1 ["self"] (spC (TTof P1 P2) cA cJ cC (fun _ => True) fun m => nV m.phase) := ok_C1 F1 T La
  obtain ⟨f2, fd2, F2, b2, m2⟩ := T.C2
  have G2 : FnOk P w K mg base CX0 7 f2 fd2 ["self"] (spC (TTof P1 P2) cA cJ cC (fun _ => True) fun m => nV m.barNow) := ok_C2 F2 T La
  refine F.ok scL12 (fun vs H Q E h => ?_) (fun cdv A outer s H vs Q E hr h => ?_)
  · obtain ⟨lo, N, A, m, i, rfl, _⟩ := h
    rfl
  · obtain ⟨lo, N, A, m, i, rfl, hL, k⟩ := h
    refine ⟨_, pss_one (ps_ret (pe_lst (pa_cons (pv 1) (pa_cons (pe_meth0 (pe_fld (pv 0) rfl) T.clC m1 G1 (hr.mono (by decide : 6 ≤ 7)) b1 .nil pass0) (pa_cons (pe_meth0 (pe_fld (pv 0) rfl) T.clC m2 G2 hr b2 .nil pass0) pa_nil))))), ?_⟩
    obtain ⟨dx, ho⟩ := hL.obj
    obtain ⟨dc, hco⟩ := hL.comp.obj
    refine ⟨_, rfl, _, rfl, lo, cL, dx, _, _, rfl, ho, T.clL, T.lCon, fL_con _, A.c, dc, _, rfl, hco, rfl, N, A, m, rfl, hL.comp, trivial, fun H1 g1 => ?_⟩
    have hL1 := hL.go g1
    obtain ⟨dx1, ho1⟩ := hL1.obj
    obtain ⟨dc1, hco1⟩ := hL1.comp.obj
    refine ⟨_, rfl, lo, cL, dx1, _, _, rfl, ho1, T.clL, T.lCon, fL_con _, A.c, dc1, _, rfl, hco1, rfl, N, A, m, rfl, hL1.comp, trivial, fun H2 g2 => ?_⟩
    refine ⟨by show 3 ≤ 16777216; decide, fun l hl => ?_⟩
    have g := g1.trans g2
    exact k _ l (g.new hl) (g.free hl) upd_same
def spLB (T : List (Addr × Str)) (cA cJ cC cL : Addr) (res : MS → Bool) : Sp := fun vs H Q _ => ∃ lo N A m, vs = [.ref lo] ∧ LineAt T cA cJ cC cL N H lo A m ∧ ∀ H', Go T H H' → Q (.bl (res m)) H'
def mayPass (m : MS) : Bool := !decide (m.phase = 2) && decide (m.barNow < 950)
theorem scL11 : FnScope ["self"] ["self"] (defScope (sL 11)) := ⟨rfl, rfl, rfl, by decide +kernel, rfl, by decide +kernel, by decide +kernel⟩
theorem ok_L11 {f : Addr} {fd : FuncData} (F : Fun K "may_pass" "Line.may_pass" (sL 11) f fd) (T : Txt K mg cA cJ cC cL) (La : Lam K mg base cC P1 P2) : FnOk P w K mg base CX0 8 f fd ["self"] (spLB (TTof P1 P2) cA cJ cC cL mayPass) := by
  obtain ⟨f1, fd1, F1, b1, m1⟩ := T.C1
  have G1 : FnOk P w K mg base CX0 6 f1 fd1 ["self"] (spC (TTof P1 P2) cA cJ cC (fun _ => True) fun m => nV m.phase) := ok_C1 F1 T La
  obtain ⟨f2, fd2, F2, b2, m2⟩ := T.C2
  have G2 : FnOk P w K mg base CX0 7 f2 fd2 ["self"] (spC (TTof P1 P2) cA cJ cC (fun _ => True) fun m => nV m.barNow) := ok_C2 F2 T La
  refine F.ok scL11 (fun vs H Q E h => ?_) (fun cdv A outer s H vs Q E hr h => ?_)
  · obtain ⟨lo, N, A, m, rfl, _⟩ := h
    rfl
  · obtain ⟨lo, N, A, m, rfl, hL, k⟩ := h
    have k : ∀ H', Go (TTof P1 P2) H H' → Q (.bl (mayPass m)) H' := k
    refine ⟨_, pss_one (ps_ret (pe_and (pe_cmpR op_ne (pe_meth0 (pe_fld (pv 0) rfl) T.clC m1 G1 (hr.mono (by decide : 6 ≤ 7)) b1 .nil pass0) (pe_ic rfl T.INOFF) (nomark _)) (pe_one (pe_cmpR op_lt (pe_meth0 (pe_fld (pv 0) rfl) T.clC m2 G2 hr b2 .nil pass0) (pe_ic rfl T.NOPASS) (nomark _))))), ?_⟩
    obtain ⟨dx, ho⟩ := hL.obj
    obtain ⟨dc, hco⟩ := hL.comp.obj
    refine ⟨_, rfl, lo, cL, dx, _, _, rfl, ho, T.clL, T.lCon, fL_con _, A.c, dc, _, rfl, hco, rfl, N, A, m, rfl, hL.comp, trivial, fun H1 g1 => ?_⟩
    have hL1 := hL.go g1
    obtain ⟨dx1, ho1⟩ := hL1.obj
    obtain ⟨dc1, hco1⟩ := hL1.comp.obj
    refine ⟨rfl, _, rfl, ?_⟩
    have en : decide (nV m.phase = V.int 2) = decide (m.phase = 2) := nV_eq (b := 2)
    by_cases c : m.phase = 2
    · have e1 : (!decide (nV m.phase = V.int 2)) = false := by rw [en, decide_eq_true c]; rfl
      have e2 : mayPass m = false := by unfold mayPass; rw [decide_eq_true c]; rfl
      have k2 := k H1 g1
      rw [e2] at k2
      exact iteF e1 k2
    · have e1 : (!decide (nV m.phase = V.int 2)) = true := by rw [en, decide_eq_false c]; rfl
      refine iteT e1 ?_
      refine ⟨_, rfl, lo, cL, dx1, _, _, rfl, ho1, T.clL, T.lCon, fL_con _, A.c, dc1, _, rfl, hco1, rfl, N, A, m, rfl, hL1.comp, trivial, fun H2 g2 => ⟨_, _, rfl, rfl, ?_⟩⟩
      have e2 : mayPass m = decide ((m.barNow : Int) < 950) := by
        unfold mayPass
        rw [decide_eq_false c, Bool.not_false, Bool.true_and]
        exact decide_eq_decide.mpr (by omega)
      have k2 := k H2 (g1.trans g2)
      rw [e2] at k2
      exact k2
end
end Jp

set_option Elab.async false
set_option maxRecDepth 100000
set_option maxHeartbeats 4000000
/-! Who's up; a jump. -/
namespace Jp
open PySem PySem.Spec PyProof.Rows L2 LamX Jl
open Jc (MS JO)
/-- the lines that are reached -/
def Rch (m : MS) : Prop := ∃ s, Jc.R m s
section
variable {P : Program} {w : World} {K : PySem.W.Frag} {mg : Str → Option Value} {base : Heap} {cA cJ cC cL P1 P2 : Addr} {TT : List (Addr × Str)}
theorem nochange {m : MS} {c : Kg63.Call} {x : List Int} (h : m.step c = (m, x)) : (m.step c).1 = m := by rw [h]
theorem upV_none {m : MS} : upV m = .non ↔ m.up = none := by
  unfold upV
  cases m.up with
  | none => exact ⟨fun _ => rfl, fun _ => rfl⟩
  | some i => exact ⟨fun z => (by cases z), fun z => (by cases z)⟩
theorem scL3 : FnScope ["self", "number"] ["self"] (defScope (sL 3)) := ⟨rfl, rfl, rfl, by decide +kernel, rfl, by decide +kernel, by decide +kernel⟩
theorem ok_L3 {f : Addr} {fd : FuncData} (F : Fun K "up" "Line.up" (sL 3) f fd) (T : Txt K mg cA cJ cC cL) (La : Lam K mg base cC P1 P2) : FnOk P w K mg base CX0 9 f fd ["self"] (spL (TTof P1 P2) cA cJ cC cL 0 (fun (_ : Unit) _ ws => ws = []) (fun _ m _ => Rch m) fun m _ => m.step .up) := by
  obtain ⟨c8, f8, fd8, F8, b8, m8, t8⟩ := La.up
  have G8 : FnOk P w K mg base CX0 7 f8 fd8 ["self"] (spC (TTof P1 P2) cA cJ cC Ok2 upV) := ok_C8 F8 T La t8
  obtain ⟨f2, fd2, F2, b2, m2⟩ := T.C2
  have G2 : FnOk P w K mg base CX0 7 f2 fd2 ["self"] (spC (TTof P1 P2) cA cJ cC (fun _ => True) fun m => nV m.barNow) := ok_C2 F2 T La
  obtain ⟨f9, fd9, F9, b9, m9⟩ := T.C9
  have G9 : FnOk P w K mg base CX0 8 f9 fd9 ["self"] (spC (TTof P1 P2) cA cJ cC (fun m => Ok2 m ∧ m.up ≠ none) fun m => nV (m.which (m.up.getD 0))) := ok_C9 F9 T La
  refine F.ok scL3 (fun vs H Q E h => ?_) (fun cdv A outer s H vs Q E hr h => ?_)
  · obtain ⟨lo, N, A, m, x, ws, rfl, rfl, _⟩ := h
    rfl
  · obtain ⟨lo, N, A, m, x, ws, rfl, rfl, hL, hR, k⟩ := h
    obtain ⟨st, hR⟩ := hR
    have ok2 := R_ok2 hR
    have k : LK (TTof P1 P2) cA cJ cC cL N 0 H lo A (m.step .up) Q := k
    refine ⟨_, pss_cons (ps_set (i := 1) scL3.nd rfl (.inl rfl) (pe_meth0 (pe_fld (pv 0) rfl) T.clC m8 G8 (hr.mono (by decide : 7 ≤ 8)) b8 .nil pass0))
      (pss_cons (ps_if (pt_cmpR op_isN (pv 1) pe_non (nomark _)) (pss_one (ps_ret (pe_lst (pa_cons (pe_ic rfl T.NOTNOW) pa_nil)))) pss_nil)
      (pss_one (ps_ret (pe_lst (pa_cons (pv 1) (pa_cons (pe_meth0 (pe_fld (pv 0) rfl) T.clC m2 G2 (hr.mono (by decide : 7 ≤ 8)) b2 .nil pass0) (pa_cons (pe_meth0 (pe_fld (pv 0) rfl) T.clC m9 G9 hr b9 .nil pass0) pa_nil))))))), ?_⟩
    obtain ⟨dx, ho⟩ := hL.obj
    obtain ⟨dc, hco⟩ := hL.comp.obj
    refine ⟨_, rfl, lo, cL, dx, _, _, rfl, ho, T.clL, T.lCon, fL_con _, A.c, dc, _, rfl, hco, rfl, N, A, m, rfl, hL.comp, ok2, fun H1 g1 => ?_⟩
    have hL1 := hL.go g1
    obtain ⟨dx1, ho1⟩ := hL1.obj
    obtain ⟨dc1, hco1⟩ := hL1.comp.obj
    refine ⟨_, rfl, rfl, _, rfl, ?_⟩
    by_cases c : m.up = none
    · refine iteT (decide_eq_true (upV_none.mpr c)) ?_
      have es : m.step .up = (m, [-4]) := by show (m, _) = _; rw [c]
      refine ⟨by show 1 ≤ 16777216; decide, k.disp hL (nochange es) g1 (by rw [es]; rfl)⟩
    · refine iteF (decide_eq_false fun z => c (upV_none.mp z)) ?_
      obtain ⟨i, eu⟩ := Option.ne_none_iff_exists'.mp c
      have es : m.step .up = (m, [(i : Int), (m.barNow : Int), (m.which i : Int)]) := by show (m, _) = _; rw [eu]
      have euv : upV m = nV i := by unfold upV; rw [eu]; rfl
      refine ⟨_, rfl, _, rfl, lo, cL, dx1, _, _, rfl, ho1, T.clL, T.lCon, fL_con _, A.c, dc1, _, rfl, hco1, rfl, N, A, m, rfl, hL1.comp, trivial, fun H2 g2 => ?_⟩
      have hL2 := hL1.go g2
      obtain ⟨dx2, ho2⟩ := hL2.obj
      obtain ⟨dc2, hco2⟩ := hL2.comp.obj
      refine ⟨_, rfl, lo, cL, dx2, _, _, rfl, ho2, T.clL, T.lCon, fL_con _, A.c, dc2, _, rfl, hco2, rfl, N, A, m, rfl, hL2.comp, ⟨ok2, c⟩, fun H3 g3 => ?_⟩
      refine ⟨by show 3 ≤ 16777216; decide, k.disp hL (nochange es) ((g1.trans g2).trans g3) ?_⟩
      have ew : m.which (m.up.getD 0) = m.which i := by rw [eu]; rfl
      rw [es, euv]
      show [nV i, nV m.barNow, nV (m.which (m.up.getD 0))] = _
      rw [ew]
      rfl
theorem inV3 (z : Int) : inV (.int z) [.int 0, .int 1, .int 2] = Kg63.within z 0 2 := by
  show ((0 : Int) == z || ((1 : Int) == z || ((2 : Int) == z || false))) = (decide (0 ≤ z) && decide (z ≤ 2))
  apply Bool.eq_iff_iff.mpr
  simp only [Bool.or_eq_true, Bool.and_eq_true, beq_iff_eq, decide_eq_true_eq, Bool.false_eq_true, or_false]
  omega
theorem scL4 : FnScope ["self", "how", "number"] ["self", "how"] (defScope (sL 4)) := ⟨rfl, rfl, rfl, by decide +kernel, rfl, by decide +kernel, by decide +kernel⟩
theorem ok_L4 {f : Addr} {fd : FuncData} (F : Fun K "jump" "Line.jump" (sL 4) f fd) (T : Txt K mg cA cJ cC cL) (La : Lam K mg base cC P1 P2) : FnOk P w K mg base CX0 9 f fd ["self", "how"] (spL (TTof P1 P2) cA cJ cC cL 1 (fun (z : Int) _ ws => ws = [.int z]) (fun N m _ => Rch m ∧ N < 1000) fun m z => m.step (.jump z)) := by
  obtain ⟨c8, f8, fd8, F8, b8, m8, t8⟩ := La.up
  have G8 : FnOk P w K mg base CX0 7 f8 fd8 ["self"] (spC (TTof P1 P2) cA cJ cC Ok2 upV) := ok_C8 F8 T La t8
  obtain ⟨f2, fd2, F2, b2, m2⟩ := T.L11
  have G2 : FnOk P w K mg base CX0 8 f2 fd2 ["self"] (spLB (TTof P1 P2) cA cJ cC cL mayPass) := ok_L11 F2 T La
  obtain ⟨f3, fd3, F3, b3, m3⟩ := T.C10
  have G3 : FnOk P w K mg base CX0 8 f3 fd3 ["self", "how"] (spMut (TTof P1 P2) cA cJ cC 1 (fun h : Nat => [nV h]) (fun N m h => Ok2 m ∧ m.up ≠ none ∧ N < 1000 ∧ h ≤ 2) fun m h => m.jump (m.up.getD 0) h) := ok_C10 F3 T La
  obtain ⟨f4, fd4, F4, b4, m4⟩ := T.L12
  have G4 : FnOk P w K mg base CX0 8 f4 fd4 ["self", "first"] (spWS (TTof P1 P2) cA cJ cC cL) := ok_L12 F4 T La
  refine F.ok scL4 (fun vs H Q E h => ?_) (fun cdv A outer s H vs Q E hr h => ?_)
  · obtain ⟨lo, N, A, m, x, ws, rfl, rfl, _⟩ := h
    rfl
  · obtain ⟨lo, N, A, m, z, ws, rfl, rfl, hL, ⟨⟨st, hR⟩, hN⟩, k⟩ := h
    have ok2 := R_ok2 hR
    have k : LK (TTof P1 P2) cA cJ cC cL N 1 H lo A (m.step (.jump z)) Q := k
    refine ⟨_, pss_cons (ps_if (pt_cmpR op_notIn_seq (pv 1) (pe_tup (pa_cons (pe_ic rfl T.FAILED) (pa_cons (pe_ic rfl T.CLEARED) (pa_cons (pe_ic rfl T.PASSED) pa_nil)))) rfl) (pss_one (ps_ret (pe_lst (pa_cons (pe_ic rfl T.WRONG) pa_nil)))) pss_nil)
      (pss_cons (ps_set (i := 2) scL4.nd rfl (.inl rfl) (pe_meth0 (pe_fld (pv 0) rfl) T.clC m8 G8 (hr.mono (by decide : 7 ≤ 8)) b8 .nil pass0))
      (pss_cons (ps_if (pt_cmpR op_isN (pv 2) pe_non (nomark _)) (pss_one (ps_ret (pe_lst (pa_cons (pe_ic rfl T.NOTNOW) pa_nil)))) pss_nil)
      (pss_cons (ps_if (PW.pt (pw_and (pt_cmpR op_eq (pv 1) (pe_ic rfl T.PASSED) (nomark _)) (pw_and1 (pt_not (pt_val (pe_meth0 (pv 0) T.clL m2 G2 hr b2 .nil pass0)))))) (pss_one (ps_ret (pe_lst (pa_cons (pe_ic rfl T.NOTALLOWED) pa_nil)))) pss_nil)
      (pss_cons (ps_expr (pe_meth (pe_fld (pv 0) rfl) T.clC m3 G3 hr b3 .nil pass0 (pa_cons (pv 1) pa_nil)))
      (pss_one (ps_ret (pe_meth (pv 0) T.clL m4 G4 hr b4 .nil pass0 (pa_cons (pv 2) pa_nil)))))))), ?_⟩
    refine ⟨_, rfl, by show 3 ≤ 16777216; decide, fun t ht => ?_⟩
    have g0 : Go (TTof P1 P2) H (upd H t (.tup [.int 0, .int 1, .int 2])) := Go.refl.new ht
    have hL0 := hL.go g0
    obtain ⟨dx, ho⟩ := hL0.obj
    obtain ⟨dc, hco⟩ := hL0.comp.obj
    refine ⟨t, _, rfl, .inr (SqT.of upd_same), rfl, rfl, _, rfl, ?_⟩
    show if (!inV (.int z) [.int 0, .int 1, .int 2]) = true then _ else _
    rw [inV3]
    cases hw : Kg63.within z 0 2 with
    | false =>
      refine iteT rfl ?_
      have es : m.step (.jump z) = (m, [-1]) := by show (if Kg63.within z 0 2 = false then _ else _) = _; rw [if_pos hw]
      exact ⟨by show 1 ≤ 16777216; decide, k.disp hL (nochange es) g0 (by rw [es]; rfl)⟩
    | true =>
      refine iteF rfl ?_
      have hz : 0 ≤ z ∧ z ≤ 2 := by
        have h : (decide (0 ≤ z) && decide (z ≤ 2)) = true := hw
        simpa using h
      obtain ⟨how, rfl⟩ : ∃ n : Nat, z = (n : Int) := ⟨z.toNat, by omega⟩
      have hhow : how ≤ 2 := by omega
      have es0 : m.step (.jump (how : Int)) = (match m.up with
        | none => (m, [-4])
        | some i => if (how : Int) = 2 ∧ (m.phase = 2 ∨ 950 ≤ m.barNow) then (m, [-5]) else ((m.jump i how), (m.jump i how).state i)) := by
        show (if Kg63.within (how : Int) 0 2 = false then _ else _) = _
        rw [if_neg (by rw [hw]; simp)]
        rfl
      refine ⟨_, rfl, lo, cL, dx, _, _, rfl, ho, T.clL, T.lCon, fL_con _, A.c, dc, _, rfl, hco, rfl, N, A, m, rfl, hL0.comp, ok2, fun H1 g1 => ?_⟩
      have hL1 := hL0.go g1
      obtain ⟨dx1, ho1⟩ := hL1.obj
      obtain ⟨dc1, hco1⟩ := hL1.comp.obj
      refine ⟨_, rfl, rfl, _, rfl, ?_⟩
      by_cases c : m.up = none
      · refine iteT (decide_eq_true (upV_none.mpr c)) ?_
        have es : m.step (.jump (how : Int)) = (m, [-4]) := by rw [es0, c]
        exact ⟨by show 1 ≤ 16777216; decide, k.disp hL (nochange es) (g0.trans g1) (by rw [es]; rfl)⟩
      · refine iteF (decide_eq_false fun z => c (upV_none.mp z)) ?_
        obtain ⟨i, eu⟩ := Option.ne_none_iff_exists'.mp c
        rw [eu] at es0
        have es0 : m.step (.jump (how : Int)) = if (how : Int) = 2 ∧ (m.phase = 2 ∨ 950 ≤ m.barNow) then (m, [-5]) else ((m.jump i how), (m.jump i how).state i) := es0
        have euv : upV m = nV i := by unfold upV; rw [eu]; rfl
        -- the jump itself, from any heap that goes on
        have go_on : ∀ H2, Go (TTof P1 P2) H H2 → ¬ ((how : Int) = 2 ∧ (m.phase = 2 ∨ 950 ≤ m.barNow)) → LineAt (TTof P1 P2) cA cJ cC cL N H2 lo A m ∧ ∀ H3 A' N', CompAt (TTof P1 P2) cA cJ cC N' H3 A' (m.jump (m.up.getD 0) how) → N' ≤ N + 1 → MutFr (TTof P1 P2) A A' H2 H3 →
            LineAt (TTof P1 P2) cA cJ cC cL N' H3 lo A' (m.jump i how) ∧ ∀ H4 l, Go (TTof P1 P2) H3 H4 → H3 l = none → H4 l = some (.lst (((m.jump i how).state i).map V.int)) → Q (.ref l) H4 := fun H2 g2 hn => by
          refine ⟨hL.go g2, fun H3 A' N' hc' hN' mf => ?_⟩
          rw [eu, Option.getD_some] at hc'
          refine ⟨(hL.go g2).mut hc' mf, fun H4 l g4 hl e => ?_⟩
          rw [if_neg hn] at es0
          refine k.mut hL (H1 := H3) (by rw [es0]; exact hc') hN' ((MutFr.of g2).trans mf) g4 hl e (by rw [es0])
        have key : ∀ H2, Go (TTof P1 P2) H H2 → ¬ ((how : Int) = 2 ∧ (m.phase = 2 ∨ 950 ≤ m.barNow)) → tMeth cC "take_jump" (spMut (TTof P1 P2) cA cJ cC 1 (fun h : Nat => [nV h]) (fun N m h => Ok2 m ∧ m.up ≠ none ∧ N < 1000 ∧ h ≤ 2) fun m h => m.jump (m.up.getD 0) h) [] E0 (tFld K (tVar 0) "contest") (tCons (tVar 1) tNil) [some (.ref lo), some (nV how), some (upV m)] H2
            fun _ H3 => tMeth cL "with_state" (spWS (TTof P1 P2) cA cJ cC cL) [] E0 (tVar 0) (tCons (tVar 2) tNil) [some (.ref lo), some (nV how), some (upV m)] H3 Q := fun H2 g2 hn => by
          obtain ⟨hL2, nx⟩ := go_on H2 g2 hn
          obtain ⟨dx2, ho2⟩ := hL2.obj
          obtain ⟨dc2, hco2⟩ := hL2.comp.obj
          refine ⟨_, rfl, lo, cL, dx2, _, _, rfl, ho2, T.clL, T.lCon, fL_con _, A.c, dc2, _, rfl, hco2, rfl, _, rfl, N, A, m, how, rfl, hL2.comp, ⟨ok2, c, hN, hhow⟩, fun N' H3 A' hc' hN' mf => ?_⟩
          obtain ⟨hL3, k3⟩ := nx H3 A' N' hc' hN' mf
          obtain ⟨dx3, ho3⟩ := hL3.obj
          refine ⟨_, rfl, lo, dx3, _, rfl, ho3, rfl, _, rfl, lo, N', A', _, (i : Int), by rw [euv]; rfl, hL3, k3⟩
        refine ⟨_, rfl, rfl, _, rfl, ?_⟩
        by_cases c2 : how = 2
        · refine iteT (decide_eq_true (congrArg nV c2)) ?_
          refine ⟨_, rfl, lo, dx1, _, rfl, ho1, rfl, lo, N, A, m, rfl, hL1, fun H2 g2 => ⟨_, rfl, ?_⟩⟩
          cases hm : mayPass m with
          | false =>
            refine iteT rfl ?_
            have hc2 : (how : Int) = 2 ∧ (m.phase = 2 ∨ 950 ≤ m.barNow) := by
              refine ⟨by omega, ?_⟩
              unfold mayPass at hm
              by_cases q : m.phase = 2
              · exact .inl q
              · rw [decide_eq_false q, Bool.not_false, Bool.true_and] at hm
                have := of_decide_eq_false hm
                exact .inr (by omega)
            have es : m.step (.jump (how : Int)) = (m, [-5]) := by rw [es0, if_pos hc2]
            exact ⟨by show 1 ≤ 16777216; decide, k.disp hL (nochange es) ((g0.trans g1).trans g2) (by rw [es]; rfl)⟩
          | true =>
            refine iteF rfl ?_
            refine key H2 ((g0.trans g1).trans g2) fun ⟨_, hq⟩ => ?_
            unfold mayPass at hm
            rw [Bool.and_eq_true] at hm
            obtain ⟨p1, p2⟩ := hm
            have p2 := of_decide_eq_true p2
            rcases hq with hq | hq
            · rw [decide_eq_true hq] at p1; cases p1
            · omega
        · refine iteF (decide_eq_false fun z => c2 ?_) ?_
          · have := V.int.inj z
            omega
          exact key H1 (g0.trans g1) fun ⟨hq, _⟩ => c2 (by omega)
end
end Jp

set_option Elab.async false
set_option maxRecDepth 100000
set_option maxHeartbeats 4000000
/-! Who leaves; the bar put; a jump-off decided. -/
namespace Jp
open PySem PySem.Spec PyProof.Rows L2 LamX Jl
open Jc (MS JO)
section
variable {P : Program} {w : World} {K : PySem.W.Frag} {mg : Str → Option Value} {base : Heap} {cA cJ cC cL P1 P2 : Addr} {TT : List (Addr × Str)}
theorem scL5 : FnScope ["self", "number"] ["self", "number"] (defScope (sL 5)) := ⟨rfl, rfl, rfl, by decide +kernel, rfl, by decide +kernel, by decide +kernel⟩
theorem ok_L5 {f : Addr} {fd : FuncData} (F : Fun K "leave" "Line.leave" (sL 5) f fd) (T : Txt K mg cA cJ cC cL) (La : Lam K mg base cC P1 P2) : FnOk P w K mg base CX0 9 f fd ["self", "number"] (spL (TTof P1 P2) cA cJ cC cL 1 (fun (z : Int) _ ws => ws = [.int z]) (fun _ m _ => Rch m) fun m z => m.step (.leave z)) := by
  obtain ⟨f8, fd8, F8, b8, m8⟩ := T.C3
  have G8 : FnOk P w K mg base CX0 1 f8 fd8 ["self", "number"] (spHas (TTof P1 P2) cA cJ cC) := ok_C3 F8 T
  obtain ⟨f1, fd1, F1, b1, m1⟩ := T.C1
  have G1 : FnOk P w K mg base CX0 6 f1 fd1 ["self"] (spC (TTof P1 P2) cA cJ cC (fun _ => True) fun m => nV m.phase) := ok_C1 F1 T La
  obtain ⟨f2, fd2, F2, b2, m2⟩ := T.C4
  have G2 : FnOk P w K mg base CX0 3 f2 fd2 ["self", "number"] (spC1 (TTof P1 P2) cA cJ cC (fun m i => i < m.ath.length) fun m i => .bl (m.A i).out) := ok_C4 F2 T
  obtain ⟨f3, fd3, F3, b3, m3⟩ := T.C11
  have G3 : FnOk P w K mg base CX0 6 f3 fd3 ["self", "number"] (spMut (TTof P1 P2) cA cJ cC 0 (fun i : Nat => [nV i]) (fun _ m i => i < m.ath.length) fun m i => (m.gone i).raise) := ok_C11 F3 T
  obtain ⟨f4, fd4, F4, b4, m4⟩ := T.L12
  have G4 : FnOk P w K mg base CX0 8 f4 fd4 ["self", "first"] (spWS (TTof P1 P2) cA cJ cC cL) := ok_L12 F4 T La
  refine F.ok scL5 (fun vs H Q E h => ?_) (fun cdv A outer s H vs Q E hr h => ?_)
  · obtain ⟨lo, N, A, m, x, ws, rfl, rfl, _⟩ := h
    rfl
  · obtain ⟨lo, N, A, m, z, ws, rfl, rfl, hL, ⟨st, hR⟩, k⟩ := h
    have k : LK (TTof P1 P2) cA cJ cC cL N 1 H lo A (m.step (.leave z)) Q := k
    refine ⟨_, pss_cons (ps_if (pt_not (pt_val (pe_meth (pe_fld (pv 0) rfl) T.clC m8 G8 (hr.mono (by decide : 1 ≤ 8)) b8 .nil pass0 (pa_cons (pv 1) pa_nil)))) (pss_one (ps_ret (pe_lst (pa_cons (pe_ic rfl T.WRONG) pa_nil)))) pss_nil)
      (pss_cons (ps_if (pt_cmpR op_ne (pe_meth0 (pe_fld (pv 0) rfl) T.clC m1 G1 (hr.mono (by decide : 6 ≤ 8)) b1 .nil pass0) (pe_ic rfl T.ON) (nomark _)) (pss_one (ps_ret (pe_lst (pa_cons (pe_ic rfl T.NOTNOW) pa_nil)))) pss_nil)
      (pss_cons (ps_if (pt_val (pe_meth (pe_fld (pv 0) rfl) T.clC m2 G2 (hr.mono (by decide : 3 ≤ 8)) b2 .nil pass0 (pa_cons (pv 1) pa_nil))) (pss_one (ps_ret (pe_lst (pa_cons (pe_ic rfl T.NOTALLOWED) pa_nil)))) pss_nil)
      (pss_cons (ps_expr (pe_meth (pe_fld (pv 0) rfl) T.clC m3 G3 (hr.mono (by decide : 6 ≤ 8)) b3 .nil pass0 (pa_cons (pv 1) pa_nil)))
      (pss_one (ps_ret (pe_meth (pv 0) T.clL m4 G4 hr b4 .nil pass0 (pa_cons pe_int pa_nil))))))), ?_⟩
    obtain ⟨dx, ho⟩ := hL.obj
    obtain ⟨dc, hco⟩ := hL.comp.obj
    refine ⟨_, rfl, lo, cL, dx, _, _, rfl, ho, T.clL, T.lCon, fL_con _, A.c, dc, _, rfl, hco, rfl, _, rfl, N, A, m, z, rfl, hL.comp, _, rfl, ?_⟩
    have es0 : m.step (.leave z) = if (decide (0 ≤ z) && decide (z < (m.ath.length : Int))) = false then (m, [-1]) else if m.phase ≠ 0 then (m, [-4]) else if (m.A z.toNat).out = true then (m, [-5]) else ((m.gone z.toNat).raise, ((m.gone z.toNat).raise).state 0) := rfl
    cases hh : (decide (0 ≤ z) && decide (z < (m.ath.length : Int))) with
    | false =>
      refine iteT rfl ?_
      have es : m.step (.leave z) = (m, [-1]) := by rw [es0, if_pos hh]
      exact ⟨by show 1 ≤ 16777216; decide, k.disp hL (nochange es) Go.refl (by rw [es]; rfl)⟩
    | true =>
      refine iteF rfl ?_
      rw [if_neg (by rw [hh]; simp)] at es0
      have hz : 0 ≤ z ∧ z < (m.ath.length : Int) := by simpa using hh
      obtain ⟨i, rfl⟩ : ∃ n : Nat, z = (n : Int) := ⟨z.toNat, by omega⟩
      have hi : i < m.ath.length := by omega
      have es0 : m.step (.leave (i : Int)) = if m.phase ≠ 0 then (m, [-4]) else if (m.A i).out = true then (m, [-5]) else ((m.gone i).raise, ((m.gone i).raise).state 0) := es0
      refine ⟨_, rfl, lo, cL, dx, _, _, rfl, ho, T.clL, T.lCon, fL_con _, A.c, dc, _, rfl, hco, rfl, N, A, m, rfl, hL.comp, trivial, fun H1 g1 => ?_⟩
      have hL1 := hL.go g1
      obtain ⟨dx1, ho1⟩ := hL1.obj
      obtain ⟨dc1, hco1⟩ := hL1.comp.obj
      refine ⟨rfl, _, rfl, ?_⟩
      have en : decide (nV m.phase = V.int 0) = decide (m.phase = 0) := nV_eq (b := 0)
      by_cases c : m.phase = 0
      · refine iteF (by show (!decide (nV m.phase = V.int 0)) = false; rw [en, decide_eq_true c]; rfl) ?_
        rw [if_neg (by simp [c])] at es0
        refine ⟨_, rfl, lo, cL, dx1, _, _, rfl, ho1, T.clL, T.lCon, fL_con _, A.c, dc1, _, rfl, hco1, rfl, _, rfl, N, A, m, i, rfl, hL1.comp, hi, fun H2 g2 => ⟨_, rfl, ?_⟩⟩
        have hL2 := hL1.go g2
        obtain ⟨dx2, ho2⟩ := hL2.obj
        obtain ⟨dc2, hco2⟩ := hL2.comp.obj
        cases ho' : (m.A i).out with
        | true =>
          refine iteT rfl ?_
          rw [if_pos ho'] at es0
          exact ⟨by show 1 ≤ 16777216; decide, k.disp hL (nochange es0) (g1.trans g2) (by rw [es0]; rfl)⟩
        | false =>
          refine iteF rfl ?_
          rw [if_neg (by simp [ho'])] at es0
          refine ⟨_, rfl, lo, cL, dx2, _, _, rfl, ho2, T.clL, T.lCon, fL_con _, A.c, dc2, _, rfl, hco2, rfl, _, rfl, N, A, m, i, rfl, hL2.comp, hi, fun N' H3 A' hc' hN' mf => ?_⟩
          have hc' : CompAt (TTof P1 P2) cA cJ cC N' H3 A' ((m.gone i).raise) := hc'
          have hL3 := hL2.mut hc' mf
          obtain ⟨dx3, ho3⟩ := hL3.obj
          refine ⟨_, rfl, lo, dx3, _, rfl, ho3, rfl, lo, N', A', _, 0, rfl, hL3, fun H4 l g4 hl e => ?_⟩
          exact k.mut hL (H1 := H3) (by rw [es0]; exact hc') (by omega) ((MutFr.of (g1.trans g2)).trans mf) g4 hl e (by rw [es0])
      · refine iteT (by show (!decide (nV m.phase = V.int 0)) = true; rw [en, decide_eq_false c]; rfl) ?_
        rw [if_pos c] at es0
        exact ⟨by show 1 ≤ 16777216; decide, k.disp hL (nochange es0) g1 (by rw [es0]; rfl)⟩
theorem scL6 : FnScope ["self", "bar", "not_out"] ["self", "bar"] (defScope (sL 6)) := ⟨rfl, rfl, rfl, by decide +kernel, rfl, by decide +kernel, by decide +kernel⟩
theorem ok_L6 {f : Addr} {fd : FuncData} (F : Fun K "height" "Line.height" (sL 6) f fd) (T : Txt K mg cA cJ cC cL) (La : Lam K mg base cC P1 P2) : FnOk P w K mg base CX0 9 f fd ["self", "bar"] (spL (TTof P1 P2) cA cJ cC cL 1 (fun (z : Int) _ ws => ws = [.int z]) (fun _ m _ => Rch m) fun m z => m.step (.height z)) := by
  obtain ⟨f1, fd1, F1, b1, m1⟩ := T.C5
  have G1 : FnOk P w K mg base CX0 4 f1 fd1 ["self"] (spCL (TTof P1 P2) cA cJ cC MS.notOut) := ok_C5 F1 T
  obtain ⟨f2, fd2, F2, b2, m2⟩ := T.C13
  have G2 : FnOk P w K mg base CX0 2 f2 fd2 ["self"] (spC (TTof P1 P2) cA cJ cC (fun _ => True) fun m => nV m.tried) := ok_C13 F2 T
  obtain ⟨f3, fd3, F3, b3, m3⟩ := T.C12
  have G3 : FnOk P w K mg base CX0 1 f3 fd3 ["self", "height"] (spMut (TTof P1 P2) cA cJ cC 0 (fun h : Nat => [nV h]) (fun _ _ _ => True) fun m h => { m with bar := h }) := ok_C12 F3 T
  obtain ⟨f4, fd4, F4, b4, m4⟩ := T.L12
  have G4 : FnOk P w K mg base CX0 8 f4 fd4 ["self", "first"] (spWS (TTof P1 P2) cA cJ cC cL) := ok_L12 F4 T La
  refine F.ok scL6 (fun vs H Q E h => ?_) (fun cdv A outer s H vs Q E hr h => ?_)
  · obtain ⟨lo, N, A, m, x, ws, rfl, rfl, _⟩ := h
    rfl
  · obtain ⟨lo, N, A, m, z, ws, rfl, rfl, hL, ⟨st, hR⟩, k⟩ := h
    have k : LK (TTof P1 P2) cA cJ cC cL N 1 H lo A (m.step (.height z)) Q := k
    refine ⟨_, pss_cons (ps_if (pt_not (pt_chain op_le op_le (pe_ic rfl T.LHEIGHT) (pv 1) (pe_ic rfl T.MPUT))) (pss_one (ps_ret (pe_lst (pa_cons (pe_ic rfl T.WRONG) pa_nil)))) pss_nil)
      (pss_cons (ps_set (i := 2) scL6.nd rfl (.inl rfl) (pe_meth0 (pe_fld (pv 0) rfl) T.clC m1 G1 (hr.mono (by decide : 4 ≤ 8)) b1 .nil pass0))
      (pss_cons (ps_if (pt_cmpR op_ne (pe_callB call_len_seq (by rfl) T.len PySem.boot_len (pa_cons (pv 2) pa_nil)) pe_int (nomark _)) (pss_one (ps_ret (pe_lst (pa_cons (pe_ic rfl T.NOTNOW) pa_nil)))) pss_nil)
      (pss_cons (ps_if (pt_cmpR op_le (pv 1) (pe_meth0 (pe_fld (pv 0) rfl) T.clC m2 G2 (hr.mono (by decide : 2 ≤ 8)) b2 .nil pass0) (nomark _)) (pss_one (ps_ret (pe_lst (pa_cons (pe_ic rfl T.NOTALLOWED) pa_nil)))) pss_nil)
      (pss_cons (ps_expr (pe_meth (pe_fld (pv 0) rfl) T.clC m3 G3 (hr.mono (by decide : 1 ≤ 8)) b3 .nil pass0 (pa_cons (pv 1) pa_nil)))
      (pss_one (ps_ret (pe_meth (pv 0) T.clL m4 G4 hr b4 .nil pass0 (pa_cons (pe_ix (r := rIxL K) ix_list (pv 2) pe_int (fun _ _ => rfl)) pa_nil)))))))), ?_⟩
    obtain ⟨dx, ho⟩ := hL.obj
    obtain ⟨dc, hco⟩ := hL.comp.obj
    have es0 : m.step (.height z) = if Kg63.within z 50 999 = false then (m, [-1]) else if m.notOut.length ≠ 1 then (m, [-4]) else if z ≤ (m.tried : Int) then (m, [-5]) else ({ m with bar := z.toNat }, ({ m with bar := z.toNat } : MS).state ((m.notOut.headD 0 : Nat) : Int)) := rfl
    have wrong : Kg63.within z 50 999 = false → ∀ l, H l = none → Q (.ref l) (upd H l (.lst [.int (-1)])) := fun hw => by
      have es : m.step (.height z) = (m, [-1]) := by rw [es0, if_pos hw]
      exact k.disp hL (nochange es) Go.refl (by rw [es]; rfl)
    have ew : Kg63.within z 50 999 = (decide ((50 : Int) ≤ z) && decide (z ≤ 999)) := rfl
    refine ⟨_, rfl, _, _, rfl, rfl, _, rfl, ?_⟩
    by_cases c1 : (50 : Int) ≤ z
    · refine iteT (decide_eq_true c1) ?_
      refine ⟨_, _, rfl, rfl, _, rfl, ?_⟩
      by_cases c2 : z ≤ 999
      · refine iteF (by show (!decide (z ≤ 999)) = false; rw [decide_eq_true c2]; rfl) ?_
        rw [if_neg (by rw [ew, decide_eq_true c1, decide_eq_true c2]; simp)] at es0
        refine ⟨_, rfl, lo, cL, dx, _, _, rfl, ho, T.clL, T.lCon, fL_con _, A.c, dc, _, rfl, hco, rfl, N, A, m, rfl, hL.comp, fun H1 l1 g1 hl1n hl1 => ?_⟩
        have hL1 := hL.go g1
        obtain ⟨dx1, ho1⟩ := hL1.obj
        obtain ⟨dc1, hco1⟩ := hL1.comp.obj
        refine ⟨_, rfl, l1, _, rfl, .inl (SqL.of hl1), rfl, _, rfl, ?_⟩
        rw [List.length_map]
        by_cases c3 : m.notOut.length = 1
        · refine iteF (by show (!decide (nV m.notOut.length = V.int 1)) = false; rw [show decide (nV m.notOut.length = V.int 1) = true from decide_eq_true (congrArg nV c3)]; rfl) ?_
          rw [if_neg (by simp [c3])] at es0
          obtain ⟨i0, hi0⟩ := List.length_eq_one_iff.mp c3
          refine ⟨_, rfl, _, rfl, lo, cL, dx1, _, _, rfl, ho1, T.clL, T.lCon, fL_con _, A.c, dc1, _, rfl, hco1, rfl, N, A, m, rfl, hL1.comp, trivial, fun H2 g2 => ?_⟩
          have hL2 := hL1.go g2
          obtain ⟨dx2, ho2⟩ := hL2.obj
          obtain ⟨dc2, hco2⟩ := hL2.comp.obj
          refine ⟨_, _, rfl, rfl, _, rfl, ?_⟩
          by_cases c4 : z ≤ (m.tried : Int)
          · refine iteT (decide_eq_true c4) ?_
            rw [if_pos c4] at es0
            exact ⟨by show 1 ≤ 16777216; decide, k.disp hL (nochange es0) (g1.trans g2) (by rw [es0]; rfl)⟩
          · refine iteF (decide_eq_false c4) ?_
            rw [if_neg c4] at es0
            obtain ⟨b, rfl⟩ : ∃ n : Nat, z = (n : Int) := ⟨z.toNat, by omega⟩
            have es0 : m.step (.height (b : Int)) = ({ m with bar := b }, ({ m with bar := b } : MS).state ((m.notOut.headD 0 : Nat) : Int)) := es0
            refine ⟨_, rfl, lo, cL, dx2, _, _, rfl, ho2, T.clL, T.lCon, fL_con _, A.c, dc2, _, rfl, hco2, rfl, _, rfl, N, A, m, b, rfl, hL2.comp, trivial, fun N' H3 A' hc' hN' mf => ?_⟩
            have hc' : CompAt (TTof P1 P2) cA cJ cC N' H3 A' { m with bar := b } := hc'
            have hL3 := hL2.mut hc' mf
            obtain ⟨dx3, ho3⟩ := hL3.obj
            have hl3 : H3 l1 = some (.lst (m.notOut.map nV)) := mf.go.at (g2.at hl1) fun hf => ?_
            · refine ⟨_, rfl, lo, dx3, _, rfl, ho3, rfl, _, rfl, l1, _, _, nV i0, rfl, rfl, SqL.of hl3, atI_nat (j := 0) (by rw [hi0]; rfl), lo, N', A', _, (i0 : Int), rfl, hL3, fun H4 l g4 hl e => ?_⟩
              refine k.mut hL (H1 := H3) (by rw [es0]; exact hc') (by omega) ((MutFr.of (g1.trans g2)).trans mf) g4 hl e ?_
              rw [es0, hi0]
              rfl
            · exact hL.comp.foot_some l1 hf hl1n
        · refine iteT (by show (!decide (nV m.notOut.length = V.int 1)) = true; rw [show decide (nV m.notOut.length = V.int 1) = decide (m.notOut.length = 1) from nV_eq (b := 1), decide_eq_false c3]; rfl) ?_
          rw [if_pos c3] at es0
          exact ⟨by show 1 ≤ 16777216; decide, k.disp hL (nochange es0) g1 (by rw [es0]; rfl)⟩
      · refine iteT (by show (!decide (z ≤ 999)) = true; rw [decide_eq_false c2]; rfl) ?_
        exact ⟨by show 1 ≤ 16777216; decide, wrong (by rw [ew, decide_eq_false c2, Bool.and_false])⟩
    · refine iteF (decide_eq_false c1) ?_
      refine ⟨_, rfl, ?_⟩
      refine iteT rfl ?_
      exact ⟨by show 1 ≤ 16777216; decide, wrong (by rw [ew, decide_eq_false c1, Bool.false_and])⟩
end
end Jp

set_option Elab.async false
set_option maxRecDepth 100000
set_option maxHeartbeats 4000000
/-! A jump-off decided; what is told of all. -/
namespace Jp
open PySem PySem.Spec PyProof.Rows L2 LamX Jl
open Jc (MS JO)
section
variable {P : Program} {w : World} {K : PySem.W.Frag} {mg : Str → Option Value} {base : Heap} {cA cJ cC cL P1 P2 : Addr} {TT : List (Addr × Str)}
theorem inV2 (z : Int) : inV (.int z) [.int 0, .int 1] = Kg63.within z 0 1 := by
  show ((0 : Int) == z || ((1 : Int) == z || false)) = (decide (0 ≤ z) && decide (z ≤ 1))
  apply Bool.eq_iff_iff.mpr
  simp only [Bool.or_eq_true, Bool.and_eq_true, beq_iff_eq, decide_eq_true_eq, Bool.false_eq_true, or_false]
  omega
theorem scL7 : FnScope ["self", "wanted", "how_many"] ["self", "wanted"] (defScope (sL 7)) := ⟨rfl, rfl, rfl, by decide +kernel, rfl, by decide +kernel, by decide +kernel⟩
theorem ok_L7 {f : Addr} {fd : FuncData} (F : Fun K "off" "Line.off" (sL 7) f fd) (T : Txt K mg cA cJ cC cL) (La : Lam K mg base cC P1 P2) : FnOk P w K mg base CX0 9 f fd ["self", "wanted"] (spL (TTof P1 P2) cA cJ cC cL 1 (fun (z : Int) _ ws => ws = [.int z]) (fun _ m _ => Rch m) fun m z => m.step (.off z)) := by
  obtain ⟨f1, fd1, F1, b1, m1⟩ := T.C1
  have G1 : FnOk P w K mg base CX0 6 f1 fd1 ["self"] (spC (TTof P1 P2) cA cJ cC (fun _ => True) fun m => nV m.phase) := ok_C1 F1 T La
  obtain ⟨f2, fd2, F2, b2, m2⟩ := T.C17
  have G2 : FnOk P w K mg base CX0 5 f2 fd2 ["self"] (spCL (TTof P1 P2) cA cJ cC MS.firsts) := ok_C17 F2 T La
  obtain ⟨f3, fd3, F3, b3, m3⟩ := T.C19
  have G3 : FnOk P w K mg base CX0 1 f3 fd3 ["self"] (spMut (TTof P1 P2) cA cJ cC 0 (fun _ : Unit => []) (fun _ _ _ => True) fun m _ => { m with decl := true }) := ok_C19 F3 T
  obtain ⟨f4, fd4, F4, b4, m4⟩ := T.C18
  have G4 : FnOk P w K mg base CX0 6 f4 fd4 ["self"] (spMut (TTof P1 P2) cA cJ cC 0 (fun _ : Unit => []) (fun _ m _ => m.firsts ≠ []) fun m _ => m.start) := ok_C18 F4 T La
  obtain ⟨f5, fd5, F5, b5, m5⟩ := T.C2
  have G5 : FnOk P w K mg base CX0 7 f5 fd5 ["self"] (spC (TTof P1 P2) cA cJ cC (fun _ => True) fun m => nV m.barNow) := ok_C2 F5 T La
  refine F.ok scL7 (fun vs H Q E h => ?_) (fun cdv A outer s H vs Q E hr h => ?_)
  · obtain ⟨lo, N, A, m, x, ws, rfl, rfl, _⟩ := h
    rfl
  · obtain ⟨lo, N, A, m, z, ws, rfl, rfl, hL, ⟨st, hR⟩, k⟩ := h
    have k : LK (TTof P1 P2) cA cJ cC cL N 1 H lo A (m.step (.off z)) Q := k
    refine ⟨_, pss_cons (ps_if (pt_cmpR op_notIn_seq (pv 1) (pe_tup (pa_cons (pe_ic rfl T.NOTWANTED) (pa_cons (pe_ic rfl T.WANTED) pa_nil))) rfl) (pss_one (ps_ret (pe_lst (pa_cons (pe_ic rfl T.WRONG) pa_nil)))) pss_nil)
      (pss_cons (ps_if (pt_cmpR op_ne (pe_meth0 (pe_fld (pv 0) rfl) T.clC m1 G1 (hr.mono (by decide : 6 ≤ 8)) b1 .nil pass0) (pe_ic rfl T.MAY) (nomark _)) (pss_one (ps_ret (pe_lst (pa_cons (pe_ic rfl T.NOTNOW) pa_nil)))) pss_nil)
      (pss_cons (ps_set (i := 2) scL7.nd rfl (.inl rfl) (pe_callB call_len_seq (by rfl) T.len PySem.boot_len (pa_cons (pe_meth0 (pe_fld (pv 0) rfl) T.clC m2 G2 (hr.mono (by decide : 5 ≤ 8)) b2 .nil pass0) pa_nil)))
      (pss_cons (ps_if (pt_cmpR op_eq (pv 1) (pe_ic rfl T.NOTWANTED) (nomark _)) (pss_cons (ps_expr (pe_meth0 (pe_fld (pv 0) rfl) T.clC m3 G3 (hr.mono (by decide : 1 ≤ 8)) b3 .nil pass0)) (pss_one (ps_ret (pe_lst (pa_cons (pv 2) pa_nil))))) pss_nil)
      (pss_cons (ps_expr (pe_meth0 (pe_fld (pv 0) rfl) T.clC m4 G4 (hr.mono (by decide : 6 ≤ 8)) b4 .nil pass0))
      (pss_one (ps_ret (pe_lst (pa_cons (pv 2) (pa_cons (pe_meth0 (pe_fld (pv 0) rfl) T.clC m5 G5 (hr.mono (by decide : 7 ≤ 8)) b5 .nil pass0) pa_nil))))))))), ?_⟩
    refine ⟨_, rfl, by show 2 ≤ 16777216; decide, fun t ht => ?_⟩
    have g0 : Go (TTof P1 P2) H (upd H t (.tup [.int 0, .int 1])) := Go.refl.new ht
    have hL0 := hL.go g0
    obtain ⟨dx, ho⟩ := hL0.obj
    obtain ⟨dc, hco⟩ := hL0.comp.obj
    refine ⟨t, _, rfl, .inr (SqT.of upd_same), rfl, rfl, _, rfl, ?_⟩
    show if (!inV (.int z) [.int 0, .int 1]) = true then _ else _
    rw [inV2]
    have es0 : m.step (.off z) = if Kg63.within z 0 1 = false then (m, [-1]) else if m.phase ≠ 1 then (m, [-4]) else if z = 0 then ({ m with decl := true }, [(m.firsts.length : Int)]) else (m.start, [(m.firsts.length : Int), (m.start.barNow : Int)]) := rfl
    cases hw : Kg63.within z 0 1 with
    | false =>
      refine iteT rfl ?_
      rw [if_pos hw] at es0
      exact ⟨by show 1 ≤ 16777216; decide, k.disp hL (nochange es0) g0 (by rw [es0]; rfl)⟩
    | true =>
      refine iteF rfl ?_
      rw [if_neg (by rw [hw]; simp)] at es0
      refine ⟨_, rfl, lo, cL, dx, _, _, rfl, ho, T.clL, T.lCon, fL_con _, A.c, dc, _, rfl, hco, rfl, N, A, m, rfl, hL0.comp, trivial, fun H1 g1 => ?_⟩
      have hL1 := hL0.go g1
      obtain ⟨dx1, ho1⟩ := hL1.obj
      obtain ⟨dc1, hco1⟩ := hL1.comp.obj
      refine ⟨rfl, _, rfl, ?_⟩
      have en : decide (nV m.phase = V.int 1) = decide (m.phase = 1) := nV_eq (b := 1)
      by_cases c : m.phase = 1
      · refine iteF (by show (!decide (nV m.phase = V.int 1)) = false; rw [en, decide_eq_true c]; rfl) ?_
        rw [if_neg (by simp [c])] at es0
        have hf2 := (Jc.phase_one c).2.2.2
        have hfn : m.firsts ≠ [] := fun z => by rw [z] at hf2; simp at hf2
        refine ⟨_, rfl, lo, cL, dx1, _, _, rfl, ho1, T.clL, T.lCon, fL_con _, A.c, dc1, _, rfl, hco1, rfl, N, A, m, rfl, hL1.comp, fun H2 l2 g2 _ hl2 => ?_⟩
        have hL2 := hL1.go g2
        obtain ⟨dx2, ho2⟩ := hL2.obj
        obtain ⟨dc2, hco2⟩ := hL2.comp.obj
        have g := (g0.trans g1).trans g2
        refine ⟨l2, _, rfl, .inl (SqL.of hl2), ?_⟩
        rw [List.length_map]
        refine ⟨_, rfl, rfl, _, rfl, ?_⟩
        by_cases c2 : z = 0
        · refine iteT (decide_eq_true (congrArg V.int c2)) ?_
          rw [if_pos c2] at es0
          refine ⟨_, rfl, lo, cL, dx2, _, _, rfl, ho2, T.clL, T.lCon, fL_con _, A.c, dc2, _, rfl, hco2, rfl, N, A, m, (), rfl, hL2.comp, trivial, fun N' H3 A' hc' hN' mf => ?_⟩
          have hc' : CompAt (TTof P1 P2) cA cJ cC N' H3 A' { m with decl := true } := hc'
          refine ⟨_, rfl, by show 1 ≤ 16777216; decide, fun l hl => ?_⟩
          exact k.mut hL (H1 := H3) (by rw [es0]; exact hc') (by omega) ((MutFr.of g).trans mf) (Go.refl.new hl) hl upd_same (by rw [es0]; rfl)
        · refine iteF (decide_eq_false fun q => c2 (V.int.inj q)) ?_
          rw [if_neg c2] at es0
          refine ⟨_, rfl, lo, cL, dx2, _, _, rfl, ho2, T.clL, T.lCon, fL_con _, A.c, dc2, _, rfl, hco2, rfl, N, A, m, (), rfl, hL2.comp, hfn, fun N' H3 A' hc' hN' mf => ?_⟩
          have hc' : CompAt (TTof P1 P2) cA cJ cC N' H3 A' m.start := hc'
          have hL3 := hL2.mut hc' mf
          obtain ⟨dx3, ho3⟩ := hL3.obj
          obtain ⟨dc3, hco3⟩ := hL3.comp.obj
          refine ⟨_, rfl, _, rfl, lo, cL, dx3, _, _, rfl, ho3, T.clL, T.lCon, fL_con _, A'.c, dc3, _, rfl, hco3, rfl, N', A', m.start, rfl, hc', trivial, fun H4 g4 => ?_⟩
          refine ⟨by show 2 ≤ 16777216; decide, fun l hl => ?_⟩
          exact k.mut hL (H1 := H3) (by rw [es0]; exact hc') (by omega) ((MutFr.of g).trans mf) (g4.new hl) (g4.free hl) upd_same (by rw [es0]; rfl)
      · refine iteT (by show (!decide (nV m.phase = V.int 1)) = true; rw [en, decide_eq_false c]; rfl) ?_
        rw [if_pos c] at es0
        exact ⟨by show 1 ≤ 16777216; decide, k.disp hL (nochange es0) (g0.trans g1) (by rw [es0]; rfl)⟩
theorem scL10 : FnScope ["self"] ["self"] (defScope (sL 10)) := ⟨rfl, rfl, rfl, by decide +kernel, rfl, by decide +kernel, by decide +kernel⟩
theorem whoIn_len {T : List (Addr × Str)} {N : Nat} {H : Hp} {A : CAd} {m : MS} (h : CompAt T cA cJ cC N H A m) : m.whoIn.length ≤ 20 := by
  have hs := h.small
  have h1 : m.notOut.length ≤ m.ath.length := range_len _ _
  by_cases c : m.phase = 2
  · obtain ⟨j, e⟩ := phase_jo c
    obtain ⟨ja, ol, cl, dl, _, hj, _⟩ := h.jsome j e
    rw [whoIn_two c e]
    exact nodup_len 20 _ hj.nd hj.small
  · rw [whoIn_not c]
    omega
theorem ok_L10 {f : Addr} {fd : FuncData} (F : Fun K "now" "Line.now" (sL 10) f fd) (T : Txt K mg cA cJ cC cL) (La : Lam K mg base cC P1 P2) : FnOk P w K mg base CX0 8 f fd ["self"] (spL (TTof P1 P2) cA cJ cC cL 0 (fun (_ : Unit) _ ws => ws = []) (fun _ m _ => Rch m) fun m _ => m.step .now) := by
  obtain ⟨f1, fd1, F1, b1, m1⟩ := T.C1
  have G1 : FnOk P w K mg base CX0 6 f1 fd1 ["self"] (spC (TTof P1 P2) cA cJ cC (fun _ => True) fun m => nV m.phase) := ok_C1 F1 T La
  obtain ⟨f2, fd2, F2, b2, m2⟩ := T.C2
  have G2 : FnOk P w K mg base CX0 7 f2 fd2 ["self"] (spC (TTof P1 P2) cA cJ cC (fun _ => True) fun m => nV m.barNow) := ok_C2 F2 T La
  obtain ⟨f3, fd3, F3, b3, m3⟩ := T.C6
  have G3 : FnOk P w K mg base CX0 7 f3 fd3 ["self"] (spCL (TTof P1 P2) cA cJ cC MS.whoIn) := ok_C6 F3 T La
  refine F.ok scL10 (fun vs H Q E h => ?_) (fun cdv A outer s H vs Q E hr h => ?_)
  · obtain ⟨lo, N, A, m, x, ws, rfl, rfl, _⟩ := h
    rfl
  · obtain ⟨lo, N, A, m, x, ws, rfl, rfl, hL, _, k⟩ := h
    have k : LK (TTof P1 P2) cA cJ cC cL N 0 H lo A (m.step .now) Q := k
    refine ⟨_, pss_one (ps_ret (pe_op op_cat (pe_lst (pa_cons (pe_meth0 (pe_fld (pv 0) rfl) T.clC m1 G1 (hr.mono (by decide : 6 ≤ 7)) b1 .nil pass0) (pa_cons (pe_meth0 (pe_fld (pv 0) rfl) T.clC m2 G2 hr b2 .nil pass0) pa_nil))) (pe_meth0 (pe_fld (pv 0) rfl) T.clC m3 G3 hr b3 .nil pass0))), ?_⟩
    obtain ⟨dx, ho⟩ := hL.obj
    obtain ⟨dc, hco⟩ := hL.comp.obj
    refine ⟨_, rfl, lo, cL, dx, _, _, rfl, ho, T.clL, T.lCon, fL_con _, A.c, dc, _, rfl, hco, rfl, N, A, m, rfl, hL.comp, trivial, fun H1 g1 => ?_⟩
    have hL1 := hL.go g1
    obtain ⟨dx1, ho1⟩ := hL1.obj
    obtain ⟨dc1, hco1⟩ := hL1.comp.obj
    refine ⟨_, rfl, lo, cL, dx1, _, _, rfl, ho1, T.clL, T.lCon, fL_con _, A.c, dc1, _, rfl, hco1, rfl, N, A, m, rfl, hL1.comp, trivial, fun H2 g2 => ?_⟩
    have g12 := g1.trans g2
    refine ⟨by show 2 ≤ 16777216; decide, fun p hp => ?_⟩
    have g3 := g12.new (o := .lst [nV m.phase, nV m.barNow]) hp
    have hL3 := hL.go g3
    obtain ⟨dx3, ho3⟩ := hL3.obj
    obtain ⟨dc3, hco3⟩ := hL3.comp.obj
    refine ⟨_, rfl, lo, cL, dx3, _, _, rfl, ho3, T.clL, T.lCon, fL_con _, A.c, dc3, _, rfl, hco3, rfl, N, A, m, rfl, hL3.comp, fun H4 l4 g4 _ hl4 => ?_⟩
    have hp4 := g4.at (b := p) upd_same
    have hwl := whoIn_len hL.comp
    refine ⟨p, l4, _, _, rfl, rfl, hp4, hl4, ?_, fun q hq => ?_⟩
    · rw [List.length_map]
      show 2 + _ ≤ 16777216
      omega
    · have es : m.step .now = (m, (m.phase : Int) :: (m.barNow : Int) :: m.whoIn.map fun (i : Nat) => (i : Int)) := rfl
      refine k.disp hL (nochange es) (g3.trans g4) ?_ q hq
      rw [es]
      show nV m.phase :: nV m.barNow :: m.whoIn.map nV = V.int _ :: V.int _ :: List.map V.int (m.whoIn.map _)
      rw [List.map_map]
      rfl
end
end Jp

set_option Elab.async false
set_option maxRecDepth 100000
set_option maxHeartbeats 4000000
/-! A card; the order told. -/
namespace Jp
open PySem PySem.Spec PyProof.Rows L2 LamX Jl
open Jc (MS JO)
def cardL (js : List Kg63.Jump) : List Int := js.flatMap fun j => [(j.height : Int), (j.how : Int)]
theorem cardL_snoc (js : List Kg63.Jump) (j : Kg63.Jump) : cardL (js ++ [j]) = cardL js ++ [(j.height : Int), (j.how : Int)] := by
  unfold cardL
  rw [List.flatMap_append]
  rfl
theorem cardL_len : ∀ js : List Kg63.Jump, (cardL js).length = 2 * js.length
  | [] => rfl
  | j :: js => by
    show (cardL js).length + 1 + 1 = 2 * (js.length + 1)
    rw [cardL_len js]
    omega
def rowL (m : MS) (is : List Nat) : List Int := is.flatMap fun i : Nat => [(i : Int), (m.place i : Int), ((m.A i).best : Int)]
theorem rowL_snoc (m : MS) (is : List Nat) (i : Nat) : rowL m (is ++ [i]) = rowL m is ++ [(i : Int), (m.place i : Int), ((m.A i).best : Int)] := by
  unfold rowL
  rw [List.flatMap_append]
  rfl
theorem rowL_len (m : MS) : ∀ is : List Nat, (rowL m is).length = 3 * is.length
  | [] => rfl
  | i :: is => by
    show (rowL m is).length + 1 + 1 + 1 = 3 * (is.length + 1)
    rw [rowL_len m is]
    omega
section
variable {P : Program} {w : World} {K : PySem.W.Frag} {mg : Str → Option Value} {base : Heap} {cA cJ cC cL P1 P2 : Addr} {TT : List (Addr × Str)}
theorem loop_card {N : Nat} {H : Hp} {D : Ends} {x : Kg63.Athlete} {a l tl : Addr} {v0 v1 v4 : Option V} {hd : List Int} (T : Txt K mg cA cJ cC cL) (hat : AthAt N cA H a l x) (htl : H tl = some (.lst (hd.map V.int))) (hne : l ≠ tl) (hh : hd.length ≤ 10)
    (hq : ∀ H' v4', H' tl = some (.lst ((hd ++ cardL x.jumps).map V.int)) → (∀ b o, H b = some o → b ≠ tl → H' b = some o) → D.nx [v0, v1, some (.ref a), some (.ref tl), v4'] H') :
    tFor (iList K (tFld K (tVar 2) "jumps")) (gName 4) (tDrop (tBM K "list" (rExtendT K) (tVar 3) (tCons (tVar 4) tNil))) D [v0, v1, some (.ref a), some (.ref tl), v4] H := by
  obtain ⟨da, hoa⟩ := hat.obj
  obtain ⟨ps, hjl, hps⟩ := hat.js
  have hlen : ps.length = x.jumps.length := Paired.length hps
  have hj1 := hat.len
  have hj2 := hat.big
  refine ⟨_, rfl, a, cA, da, _, _, rfl, hoa, T.clA, T.aJumps, fA_jumps _ _, l, rfl, ⟨_, SqL.of hjl⟩, ?_⟩
  refine for_list (K := K) (a := l) (xs := ps.map V.ref) (fun i σ H' => H' tl = some (.lst ((hd ++ cardL (x.jumps.take i)).map V.int)) ∧ (∀ b o, H b = some o → b ≠ tl → H' b = some o) ∧ ∃ v, σ = [v0, v1, some (.ref a), some (.ref tl), v])
    ⟨by rw [htl]; simp [cardL], fun b o e _ => e, v4, rfl⟩ (fun i σ H' _ ⟨_, fr, _⟩ => SqL.of (fr _ _ hjl hne)) ?_ ?_
  · rintro i y σ H' hi ⟨h1, fr, v, rfl⟩
    obtain ⟨p, hp, rfl⟩ := map_get hi
    obtain ⟨j, hj, htj⟩ := paired_getL hps hp
    have htj0 : H p = some (.tup [.int (j.height : Int), .int (j.how : Int)]) := htj
    have htj : H' p = some (.tup [.int (j.height : Int), .int (j.how : Int)]) := fr _ _ htj0 (ne_of htj0 htl (by intro z; cases z))
    have hcl := cardL_len (x.jumps.take i)
    rw [List.length_take] at hcl
    refine ⟨_, rfl, .inl ⟨rfl, _, SqL.of h1⟩, _, rfl, tl, p, _, _, rfl, rfl, h1, SqT.of htj, ?_, ?_, fun b o e hb => ?_, _, rfl⟩
    · rw [List.length_map, List.length_append]
      show _ + 2 ≤ 16777216
      omega
    · rw [upd_same, List.take_add_one, hj]
      show _ = some (HO.lst ((hd ++ cardL (x.jumps.take i ++ [j])).map V.int))
      rw [cardL_snoc, ← List.append_assoc, List.map_append (l₁ := hd ++ cardL (x.jumps.take i))]
      rfl
    · rw [upd_ne hb]
      exact fr b o e hb
  · rintro σ H' ⟨h1, fr, v, rfl⟩
    rw [List.length_map, hlen, List.take_length] at h1
    exact hq H' v h1 fr
theorem scL8 : FnScope ["self", "number", "athlete", "told", "jump"] ["self", "number"] (defScope (sL 8)) := ⟨rfl, rfl, rfl, by decide +kernel, rfl, by decide +kernel, by decide +kernel⟩
theorem ok_L8 {f : Addr} {fd : FuncData} (F : Fun K "card" "Line.card" (sL 8) f fd) (T : Txt K mg cA cJ cC cL) : FnOk P w K mg base CX0 5 f fd ["self", "number"] (spL TT cA cJ cC cL 0 (fun (z : Int) _ ws => ws = [.int z]) (fun _ m _ => Rch m) fun m z => m.step (.card z)) := by
  obtain ⟨f8, fd8, F8, b8, m8⟩ := T.C3
  have G8 : FnOk P w K mg base CX0 1 f8 fd8 ["self", "number"] (spHas TT cA cJ cC) := ok_C3 F8 T
  obtain ⟨f1, fd1, F1, b1, m1⟩ := T.A7
  have G1 : FnOk P w K mg base CX0 1 f1 fd1 ["self"] (spA TT cA fun x => .int (x.best : Int)) := ok_A7 F1 T
  obtain ⟨f2, fd2, F2, b2, m2⟩ := T.A2
  have G2 : FnOk P w K mg base CX0 1 f2 fd2 ["self"] (spA TT cA fun x => .int (Kg63.inRow x.jumps : Int)) := ok_A2 F2 T
  obtain ⟨f3, fd3, F3, b3, m3⟩ := T.A3
  have G3 : FnOk P w K mg base CX0 2 f3 fd3 ["self"] (spA TT cA fun x => .bl x.out) := ok_A3 F3 T
  refine F.ok scL8 (fun vs H Q E h => ?_) (fun cdv A outer s H vs Q E hr h => ?_)
  · obtain ⟨lo, N, A, m, x, ws, rfl, rfl, _⟩ := h
    rfl
  · obtain ⟨lo, N, A, m, z, ws, rfl, rfl, hL, _, k⟩ := h
    have k : LK TT cA cJ cC cL N 0 H lo A (m.step (.card z)) Q := k
    refine ⟨_, pss_cons (ps_if (pt_not (pt_val (pe_meth (pe_fld (pv 0) rfl) T.clC m8 G8 (hr.mono (by decide : 1 ≤ 4)) b8 .nil pass0 (pa_cons (pv 1) pa_nil)))) (pss_one (ps_ret (pe_lst (pa_cons (pe_ic rfl T.WRONG) pa_nil)))) pss_nil)
      (pss_cons (ps_set (i := 2) scL8.nd rfl (.inl rfl) (pe_ix (r := rIxL K) ix_list (pe_fld (pe_fld (pv 0) rfl) rfl) (pv 1) (fun _ _ => rfl)))
      (pss_cons (ps_set (i := 3) scL8.nd rfl (.inl rfl) (pe_lst (pa_cons (pe_meth0 (pv 2) T.clA m1 G1 (hr.mono (by decide : 1 ≤ 4)) b1 .nil pass0) (pa_cons (pe_meth0 (pv 2) T.clA m2 G2 (hr.mono (by decide : 1 ≤ 4)) b2 .nil pass0) (pa_cons (pe_ifExp (pt_val (pe_meth0 (pv 2) T.clA m3 G3 (hr.mono (by decide : 2 ≤ 4)) b3 .nil pass0)) pe_int pe_int) pa_nil)))))
      (pss_cons (ps_for PassesOwn.never rfl (pi_list (pe_fld (pv 2) rfl)) (pg_name (i := 4) scL8.nd rfl (Or.inl rfl))
        (pss_one (ps_expr (pe_bm PySem.F.plainAttrs_list PySem.F.slot_list_extend PySem.F.type_list_extend mt_extendT (pv 3) (pa_cons (pv 4) pa_nil)))))
      (pss_one (ps_ret (pv 3)))))), ?_⟩
    obtain ⟨dx, ho⟩ := hL.obj
    obtain ⟨dc, hco⟩ := hL.comp.obj
    refine ⟨_, rfl, lo, cL, dx, _, _, rfl, ho, T.clL, T.lCon, fL_con _, A.c, dc, _, rfl, hco, rfl, _, rfl, N, A, m, z, rfl, hL.comp, _, rfl, ?_⟩
    have es0 : m.step (.card z) = (m, if (decide (0 ≤ z) && decide (z < (m.ath.length : Int))) = false then [-1] else
      ((m.A z.toNat).best : Int) :: (Kg63.inRow (m.A z.toNat).jumps : Int) :: (if (m.A z.toNat).out = true then 1 else 0) :: ((m.A z.toNat).jumps.flatMap fun j => [(j.height : Int), (j.how : Int)])) := rfl
    cases hh : (decide (0 ≤ z) && decide (z < (m.ath.length : Int))) with
    | false =>
      refine iteT rfl ?_
      rw [if_pos hh] at es0
      exact ⟨by show 1 ≤ 16777216; decide, k.disp hL (nochange es0) Go.refl (by rw [es0]; rfl)⟩
    | true =>
      refine iteF rfl ?_
      rw [if_neg (by rw [hh]; simp)] at es0
      have hz : 0 ≤ z ∧ z < (m.ath.length : Int) := by simpa using hh
      obtain ⟨i, rfl⟩ : ∃ n : Nat, z = (n : Int) := ⟨z.toNat, by omega⟩
      have hi : i < m.ath.length := by omega
      have es0 : m.step (.card (i : Int)) = (m, ((m.A i).best : Int) :: (Kg63.inRow (m.A i).jumps : Int) :: (if (m.A i).out = true then 1 else 0) :: cardL (m.A i).jumps) := es0
      obtain ⟨a, l, ha, hl, hat⟩ := hL.comp.ath hi
      obtain ⟨da, hoa⟩ := hat.obj
      refine ⟨_, rfl, lo, cL, dx, _, _, rfl, ho, T.clL, T.lCon, fL_con _, A.c, cC, dc, _, _, rfl, hco, T.clC, T.cAth, fC_ath, _, rfl, A.al, _, _, .ref a, rfl, rfl, SqL.of hL.comp.lst, atI_nat (by rw [List.getElem?_map, ha]; rfl), ?_⟩
      refine ⟨_, rfl, a, da, _, rfl, hoa, rfl, N, a, l, _, rfl, hat, fun H1 g1 => ?_⟩
      have hat1 := hat.go g1
      obtain ⟨da1, hoa1⟩ := hat1.obj
      refine ⟨_, rfl, a, da1, _, rfl, hoa1, rfl, N, a, l, _, rfl, hat1, fun H2 g2 => ?_⟩
      have hat2 := hat1.go g2
      obtain ⟨da2, hoa2⟩ := hat2.obj
      refine ⟨_, rfl, a, da2, _, rfl, hoa2, rfl, N, a, l, _, rfl, hat2, fun H3 g3 => ⟨_, rfl, ?_⟩⟩
      have g03 := (g1.trans g2).trans g3
      have hat3 := hat.go g03
      obtain ⟨da3, hoa3⟩ := hat3.obj
      obtain ⟨ps, hjl, hps⟩ := hat3.js
      have hlen : ps.length = (m.A i).jumps.length := Paired.length hps
      have hj1 := hat.len
      have hj2 := hat.big
      obtain ⟨o, eo⟩ : ∃ o : Int, o = if (m.A i).out = true then (1 : Int) else 0 := ⟨_, rfl⟩
      rw [← eo] at es0
      have fin : ∀ p, H3 p = none → ∀ H', H' p = some (.lst (([((m.A i).best : Int), (Kg63.inRow (m.A i).jumps : Int), o] ++ cardL (m.A i).jumps).map V.int)) → (∀ b u, H3 b = some u → H' b = some u) → Q (.ref p) H' := fun p hp H' e fr => by
        refine k.same hL (nochange es0) (g03.trans (.of fr)) (g03.free hp) e ?_
        rw [es0]
        rfl
      cases hout : (m.A i).out with
      | true =>
        rw [if_pos hout] at eo
        subst eo
        refine iteT rfl ?_
        refine ⟨by show 3 ≤ 16777216; decide, fun p hp => ?_⟩
        have hat4 := hat3.go (Go.refl.new (T := TT) (o := .lst [V.int ((m.A i).best : Int), V.int (Kg63.inRow (m.A i).jumps : Int), .int 1]) hp)
        refine loop_card (hd := [((m.A i).best : Int), (Kg63.inRow (m.A i).jumps : Int), 1]) T hat4 upd_same (ne_of_none hjl hp) (by show 3 ≤ 10; decide) fun H' v4' h1 fr => ⟨_, rfl, ?_⟩
        exact fin p hp H' h1 fun b u e => fr b u (by rw [upd_ne (ne_of_none e hp)]; exact e) (ne_of_none e hp)
      | false =>
        rw [if_neg (by simp [hout])] at eo
        subst eo
        refine iteF rfl ?_
        refine ⟨by show 3 ≤ 16777216; decide, fun p hp => ?_⟩
        have hat4 := hat3.go (Go.refl.new (T := TT) (o := .lst [V.int ((m.A i).best : Int), V.int (Kg63.inRow (m.A i).jumps : Int), .int 0]) hp)
        refine loop_card (hd := [((m.A i).best : Int), (Kg63.inRow (m.A i).jumps : Int), 0]) T hat4 upd_same (ne_of_none hjl hp) (by show 3 ≤ 10; decide) fun H' v4' h1 fr => ⟨_, rfl, ?_⟩
        exact fin p hp H' h1 fun b u e => fr b u (by rw [upd_ne (ne_of_none e hp)]; exact e) (ne_of_none e hp)
theorem scL9 : FnScope ["self", "ranked", "told", "number", "place"] ["self"] (defScope (sL 9)) := ⟨rfl, rfl, rfl, by decide +kernel, rfl, by decide +kernel, by decide +kernel⟩
theorem ok_L9 {f : Addr} {fd : FuncData} (F : Fun K "order" "Line.order" (sL 9) f fd) (T : Txt K mg cA cJ cC cL) (La : Lam K mg base cC P1 P2) : FnOk P w K mg base CX0 5 f fd ["self"] (spL (TTof P1 P2) cA cJ cC cL 0 (fun (_ : Unit) _ ws => ws = []) (fun _ m _ => Rch m) fun m _ => m.step .order) := by
  obtain ⟨f1, fd1, F1, b1, m1⟩ := T.C16
  have G1 : FnOk P w K mg base CX0 4 f1 fd1 ["self"] (spOrder (TTof P1 P2) cA cJ cC) := ok_C16 F1 T La
  obtain ⟨f7, fd7, F7, b7, m7⟩ := T.A7
  have G7 : FnOk P w K mg base CX0 1 f7 fd7 ["self"] (spA (TTof P1 P2) cA fun x => .int (x.best : Int)) := ok_A7 F7 T
  refine F.ok scL9 (fun vs H Q E h => ?_) (fun cdv A outer s H vs Q E hr h => ?_)
  · obtain ⟨lo, N, A, m, x, ws, rfl, rfl, _⟩ := h
    rfl
  · obtain ⟨lo, N, A, m, x, ws, rfl, rfl, hL, _, k⟩ := h
    have k : LK (TTof P1 P2) cA cJ cC cL N 0 H lo A (m.step .order) Q := k
    refine ⟨_, pss_cons (ps_set (i := 1) scL9.nd rfl (.inl rfl) (pe_meth0 (pe_fld (pv 0) rfl) T.clC m1 G1 hr b1 .nil pass0))
      (pss_cons (ps_set (i := 2) scL9.nd rfl (.inl rfl) (pe_lst (pa_cons (pe_callB call_len_seq (by rfl) T.len PySem.boot_len (pa_cons (pv 1) pa_nil)) pa_nil)))
      (pss_cons (ps_for PassesOwn.never rfl (pi_list (pv 1)) (pg_tup rfl (pgs_cons (pg_name (i := 3) scL9.nd rfl (Or.inl rfl)) (pgs_cons (pg_name (i := 4) scL9.nd rfl (Or.inl rfl)) pgs_nil)))
        (pss_one (ps_expr (pe_bm PySem.F.plainAttrs_list PySem.F.slot_list_extend PySem.F.type_list_extend mt_extend (pv 2) (pa_cons (pe_lst (pa_cons (pv 3) (pa_cons (pv 4) (pa_cons (pe_meth0 (pe_ix (r := rIxL K) ix_list (pe_fld (pe_fld (pv 0) rfl) rfl) (pv 3) (fun _ _ => rfl)) T.clA m7 G7 (hr.mono (by decide : 1 ≤ 4)) b7 .nil pass0) pa_nil)))) pa_nil)))))
      (pss_one (ps_ret (pv 2))))), ?_⟩
    obtain ⟨dx, ho⟩ := hL.obj
    obtain ⟨dc, hco⟩ := hL.comp.obj
    have hol := order_len hL.comp
    have es : m.step .order = (m, (m.order.length : Int) :: rowL m m.order) := rfl
    refine ⟨_, rfl, lo, cL, dx, _, _, rfl, ho, T.clL, T.lCon, fL_con _, A.c, dc, _, rfl, hco, rfl, N, A, m, rfl, hL.comp, fun H1 rl ps g1 hrl hrl' hp => ?_⟩
    have hpl : ps.length = m.order.length := (Paired.length hp).trans (List.length_map ..)
    refine ⟨_, rfl, rl, _, rfl, .inl (SqL.of hrl'), by show 1 ≤ 16777216; decide, fun tl htl => ?_⟩
    rw [List.length_map, hpl]
    have g2 := g1.new (o := .lst [V.int (m.order.length : Int)]) htl
    have nrt : rl ≠ tl := ne_of_none hrl' htl
    refine ⟨_, rfl, rl, rfl, ⟨_, SqL.of (by rw [upd_ne nrt]; exact hrl')⟩, ?_⟩
    refine for_list (K := K) (a := rl) (xs := ps.map V.ref) (fun i σ H' => Go (TTof P1 P2) H1 H' ∧ H' tl = some (.lst (((m.order.length : Int) :: rowL m (m.order.take i)).map V.int)) ∧ ∃ v3 v4, σ = [some (.ref lo), some (.ref rl), some (.ref tl), v3, v4])
      ⟨Go.refl.new htl, upd_same, none, none, rfl⟩ (fun i σ H' _ ⟨g, _⟩ => SqL.of (g.at hrl')) ?_ ?_
    · rintro i y σ H' hi ⟨g, h1, v3, v4, rfl⟩
      obtain ⟨p, hp1, rfl⟩ := map_get hi
      obtain ⟨q, hq, hpq⟩ := paired_getL hp hp1
      obtain ⟨n, hn, rfl⟩ : ∃ n, m.order[i]? = some n ∧ q = ((n : Int), m.place n) := by
        unfold ordL at hq
        rw [List.getElem?_map] at hq
        cases e : m.order[i]? with
        | none => rw [e] at hq; cases hq
        | some n => rw [e] at hq; exact ⟨n, rfl, (Option.some.inj hq).symm⟩
      have hpq : H' p = some (.tup [nV n, nV (m.place n)]) := g.at hpq
      have hn2 : n < m.ath.length := List.mem_range.mp (List.mem_filter.mp ((Jc.order_mem m).mp (List.mem_of_getElem? hn))).1
      have hL' := hL.go (g1.trans g)
      obtain ⟨dx', ho'⟩ := hL'.obj
      obtain ⟨dc', hco'⟩ := hL'.comp.obj
      obtain ⟨a, l, ha, hl, hat⟩ := hL'.comp.ath hn2
      obtain ⟨da, hoa⟩ := hat.obj
      have hcl := rowL_len m (m.order.take i)
      rw [List.length_take] at hcl
      refine ⟨p, _, rfl, SqT.of hpq, rfl, _, _, rfl, _, _, rfl, rfl, ?_⟩
      refine ⟨_, rfl, .inl ⟨rfl, _, SqL.of h1⟩, _, rfl, _, rfl, _, rfl, lo, cL, dx', _, _, rfl, ho', T.clL, T.lCon, fL_con _, A.c, cC, dc', _, _, rfl, hco', T.clC, T.cAth, fC_ath, _, rfl, A.al, _, _, .ref a, rfl, rfl, SqL.of hL'.comp.lst, atI_nat (by rw [List.getElem?_map, ha]; rfl), a, da, _, rfl, hoa, rfl, N, a, l, _, rfl, hat, fun H2 g3 => ?_⟩
      have h2 := g3.at h1
      refine ⟨by show 3 ≤ 16777216; decide, fun e he => ?_⟩
      have net : tl ≠ e := ne_of_none h2 he
      refine ⟨tl, e, _, _, rfl, rfl, by rw [upd_ne net]; exact h2, upd_same, ?_, ?_, ?_, _, _, rfl⟩
      · rw [List.length_map, List.length_cons]
        show _ + 3 ≤ 16777216
        omega
      · exact ((g.trans g3).new he).put htl (by rw [upd_ne net]; exact h2)
      · rw [upd_same, List.take_add_one, hn]
        show _ = some (HO.lst (((m.order.length : Int) :: rowL m (m.order.take i ++ [n])).map V.int))
        rw [rowL_snoc, ← List.cons_append, List.map_append (l₁ := (m.order.length : Int) :: rowL m (m.order.take i))]
        rfl
    · rintro σ H' ⟨g, h1, v3, v4, rfl⟩
      rw [List.length_map, hpl, List.take_length] at h1
      refine ⟨_, rfl, ?_⟩
      exact k.same hL (nochange es) (g1.trans g) (g1.free htl) h1 (by rw [es])
end
end Jp

set_option Elab.async false
set_option maxRecDepth 100000
set_option maxHeartbeats 4000000
/-! A contest begun. -/
namespace Jp
open PySem PySem.Spec PyProof.Rows L2 LamX Jl
open Jc (MS JO)
def okH (l : List Int) : Bool := l.all (fun z => Kg63.within z 50 700) && (Kg63.rising l && (decide (1 ≤ l.length) && decide (l.length ≤ 30)))
theorem rising_iff : ∀ l : List Int, Kg63.rising l = true ↔ ∀ (k : Nat) x y, l[k]? = some x → l[k + 1]? = some y → x < y
  | [] => ⟨fun _ k x y h => by simp at h, fun _ => rfl⟩
  | [a] => ⟨fun _ k x y _ h => by simp at h, fun _ => rfl⟩
  | a :: b :: l => by
    show (decide (a < b) && Kg63.rising (b :: l)) = true ↔ _
    rw [Bool.and_eq_true, rising_iff (b :: l)]
    constructor
    · rintro ⟨h1, h2⟩ k x y hx hy
      cases k with
      | zero =>
        simp at hx hy
        subst hx hy
        exact of_decide_eq_true h1
      | succ k => exact h2 k x y (by simpa using hx) (by simpa using hy)
    · intro h
      exact ⟨decide_eq_true (h 0 a b rfl rfl), fun k x y hx hy => h (k + 1) x y (by simpa using hx) (by simpa using hy)⟩
def rLeI : R2 := rI0 fun i j => .bl (decide (i ≤ j))
theorem chain_ok {σ : L2.St} {H : Hp} {a b z : Int} {i : Nat} {Q : Bool → Hp → Prop} (hσ : σ[i]? = some (some (.int z))) (q : Q (Kg63.within z a b) H) : tTest (tChain rLeI rLeI (tC (.int a)) (tVar i) (tC (.int b))) σ H Q := by
  refine ⟨_, hσ, _, _, rfl, rfl, _, rfl, ?_⟩
  have ew : Kg63.within z a b = (decide (a ≤ z) && decide (z ≤ b)) := rfl
  by_cases c : a ≤ z
  · refine iteT (decide_eq_true c) ?_
    rw [ew, decide_eq_true c, Bool.true_and] at q
    exact ⟨_, _, rfl, rfl, _, rfl, q⟩
  · refine iteF (decide_eq_false c) ?_
    rw [ew, decide_eq_false c, Bool.false_and] at q
    exact ⟨_, rfl, q⟩
def spHts : Sp := fun vs H Q _ => ∃ hl l, vs = [.ref hl] ∧ H hl = some (.lst (l.map V.int)) ∧ l.length ≤ 16777216 ∧ Q (.bl (okH l)) H
section
variable {P : Program} {w : World} {K : PySem.W.Frag} {mg : Str → Option Value} {base : Heap} {cA cJ cC cL P1 P2 : Addr} {TT : List (Addr × Str)}
theorem scHts : FnScope ["heights", "height", "index"] ["heights"] (defScope (top 42)) := ⟨rfl, rfl, rfl, by decide +kernel, rfl, by decide +kernel, by decide +kernel⟩
theorem ok_hts {f : Addr} {fd : FuncData} (F : Fun K "are_heights" "are_heights" (top 42) f fd) (T : Txt K mg cA cJ cC cL) : FnOk P w K mg base CX0 1 f fd ["heights"] spHts := by
  refine F.ok scHts (fun vs H Q E h => ?_) (fun cdv A outer s H vs Q E hr h => ?_)
  · obtain ⟨hl, l, rfl, _⟩ := h
    rfl
  · obtain ⟨hl, l, rfl, hhl, hbig, k⟩ := h
    refine ⟨_, pss_cons (ps_if (pt_not (pt_chain op_le op_le pe_int (pe_callB call_len_seq (by rfl) T.len PySem.boot_len (pa_cons (pv 0) pa_nil)) (pe_ic rfl T.MHEIGHTS))) (pss_one (ps_ret pe_bl)) pss_nil)
      (pss_cons (ps_for PassesOwn.never rfl (pi_list (pv 0)) (pg_name (i := 1) scHts.nd rfl (Or.inl rfl)) (pss_one (ps_if (pt_not (pt_chain op_le op_le (pe_ic rfl T.LHEIGHT) (pv 1) (pe_ic rfl T.MTOLD))) (pss_one (ps_ret pe_bl)) pss_nil)))
      (pss_cons (ps_for PassesOwn.never rfl (pi_range2 (by rfl) T.range (pa_cons pe_int (pa_cons (pe_callB call_len_seq (by rfl) T.len PySem.boot_len (pa_cons (pv 0) pa_nil)) pa_nil))) (pg_name (i := 2) scHts.nd rfl (Or.inl rfl))
        (pss_one (ps_if (pt_cmpR op_le (pe_ix (r := rIxL K) ix_list (pv 0) (pv 2) (fun _ _ => rfl)) (pe_ix (r := rIxL K) ix_list (pv 0) (pe_op op_sub (pv 2) pe_int) (fun _ _ => rfl)) (nomark _)) (pss_one (ps_ret pe_bl)) pss_nil)))
      (pss_one (ps_ret pe_bl)))), ?_⟩
    have hll : (l.map V.int).length = l.length := List.length_map ..
    refine ⟨_, rfl, hl, _, rfl, .inl (SqL.of hhl), _, _, rfl, rfl, _, rfl, ?_⟩
    rw [hll]
    by_cases c1 : (1 : Int) ≤ (l.length : Int)
    · refine iteT (decide_eq_true c1) ?_
      refine ⟨_, _, rfl, rfl, _, rfl, ?_⟩
      by_cases c2 : (l.length : Int) ≤ 30
      · refine iteF (by show (!decide ((l.length : Int) ≤ 30)) = false; rw [decide_eq_true c2]; rfl) ?_
        refine ⟨_, rfl, hl, rfl, ⟨_, SqL.of hhl⟩, ?_⟩
        refine for_list (K := K) (a := hl) (xs := l.map V.int) (fun i σ H' => H' = H ∧ (l.take i).all (fun z => Kg63.within z 50 700) = true ∧ ∃ v, σ = [some (.ref hl), v, none])
          ⟨rfl, by simp, none, rfl⟩ (fun i σ H' _ ⟨e, _⟩ => by rw [e]; exact SqL.of hhl) ?_ ?_
        · rintro i y σ H' hi ⟨rfl, hall, v, rfl⟩
          obtain ⟨z, hz, rfl⟩ := map_get hi
          refine chain_ok rfl ?_
          cases hw : Kg63.within z 50 700 with
          | true =>
            refine iteF rfl ?_
            refine ⟨rfl, ?_, _, rfl⟩
            rw [List.take_add_one, hz, List.all_append, hall]
            show (true && (Kg63.within z 50 700 && true)) = true
            rw [hw]; rfl
          | false =>
            refine iteT rfl ?_
            have e : okH l = false := by
              unfold okH
              have : l.all (fun z => Kg63.within z 50 700) = false := by
                rw [List.all_eq_false]
                exact ⟨z, List.mem_of_getElem? hz, by rw [hw]; simp⟩
              rw [this, Bool.false_and]
            rw [e] at k
            exact k
        · rintro σ H' ⟨rfl, hall, v, rfl⟩
          rw [hll, List.take_length] at hall
          refine ⟨_, rfl, hl, _, rfl, .inl (SqL.of hhl), 1, (l.length : Int), by rw [hll], by omega, ?_⟩
          have hn : ((l.length : Int) - 1).toNat = l.length - 1 := by omega
          rw [hn]
          refine for_range (lo := 1) (n := l.length - 1) (fun i σ H'' => H'' = H' ∧ (∀ (k : Nat) x y, k < i → l[k]? = some x → l[k + 1]? = some y → x < y) ∧ ∃ v u, σ = [some (.ref hl), v, u])
            ⟨rfl, fun k x y h => by omega, v, none, rfl⟩ ?_ ?_
          · rintro i σ H'' hi ⟨rfl, hris, v, u, rfl⟩
            have h1 : l[i + 1]? = some (l[i + 1]'(by omega)) := List.getElem?_eq_getElem _
            have h0 : l[i]? = some (l[i]'(by omega)) := List.getElem?_eq_getElem _
            refine ⟨_, rfl, _, rfl, hl, _, _, .int (l[i + 1]'(by omega)), rfl, rfl, SqL.of hhl, at_of (j := i + 1) (by omega) (by rw [List.getElem?_map, h1]; rfl), _, rfl, _, rfl, _, _, rfl, rfl, hl, _, _, .int (l[i]'(by omega)), rfl, rfl, SqL.of hhl, at_of (j := i) (by omega) (by rw [List.getElem?_map, h0]; rfl), _, _, rfl, rfl, _, rfl, ?_⟩
            by_cases c3 : l[i + 1]'(by omega) ≤ l[i]'(by omega)
            · refine iteT (decide_eq_true c3) ?_
              have e : okH l = false := by
                unfold okH
                have : Kg63.rising l = false := by
                  cases hr' : Kg63.rising l with
                  | false => rfl
                  | true =>
                    have := (rising_iff l).mp hr' i _ _ h0 h1
                    omega
                rw [this, Bool.false_and, Bool.and_false]
              rw [e] at k
              exact k
            · refine iteF (decide_eq_false c3) ?_
              refine ⟨rfl, fun k' x y hk hx hy => ?_, _, _, rfl⟩
              by_cases c4 : k' < i
              · exact hris k' x y c4 hx hy
              · obtain rfl : k' = i := by omega
                rw [h0] at hx
                rw [h1] at hy
                obtain rfl := Option.some.inj hx
                obtain rfl := Option.some.inj hy
                omega
          · rintro σ H'' ⟨rfl, hris, v, u, rfl⟩
            have e : okH l = true := by
              unfold okH
              have : Kg63.rising l = true := (rising_iff l).mpr fun k' x y hx hy => hris k' x y (by have := (List.getElem?_eq_some_iff.mp hy).1; omega) hx hy
              rw [hall, this, decide_eq_true (by omega : 1 ≤ l.length), decide_eq_true (by omega : l.length ≤ 30)]
              rfl
            rw [e] at k
            exact k
      · refine iteT (by show (!decide ((l.length : Int) ≤ 30)) = true; rw [decide_eq_false c2]; rfl) ?_
        have e : okH l = false := by unfold okH; rw [decide_eq_false (by omega : ¬ l.length ≤ 30)]; simp
        rw [e] at k
        exact k
    · refine iteF (decide_eq_false c1) ?_
      refine ⟨_, rfl, ?_⟩
      refine iteT rfl ?_
      have e : okH l = false := by unfold okH; rw [decide_eq_false (by omega : ¬ 1 ≤ l.length)]; simp
      rw [e] at k
      exact k
end
end Jp

set_option Elab.async false
set_option maxRecDepth 100000
set_option maxHeartbeats 4000000
/-! A line made; a contest begun; a call answered. -/
namespace Jp
open PySem PySem.Spec PyProof.Rows L2 LamX Jl
open Jc (MS JO)
theorem okBegin_is (n r t : Int) (l : List Int) : Jc.okBegin n r t l = (Kg63.within n 1 20 && (Kg63.within r 1 20 && (Kg63.within t 1 10 && okH l))) := rfl
def spLInit (T : List (Addr × Str)) (cA cJ cC cL : Addr) : Sp := fun vs H Q _ => ∃ p dx, vs = [.ref p] ∧ H p = some (.ins cL dx []) ∧ Tabs T H ∧ ∀ H' A, LineAt T cA cJ cC cL 0 H' p A MS.init → (∀ b ∈ A.foot, H b = none) → (∀ b ∈ A.lists, H b = none) → (∀ b o, H b = some o → b ≠ p → H' b = some o) → Q .non H'
section
variable {P : Program} {w : World} {K : PySem.W.Frag} {mg : Str → Option Value} {base : Heap} {cA cJ cC cL P1 P2 : Addr} {TT : List (Addr × Str)}
theorem fL_put (c c' : Addr) : putF "contest" (.ref c') (fL c) = fL c' := puth
theorem CompAt.mv {N : Nat} {H H' : Hp} {A : CAd} {m : MS} (h : CompAt TT cA cJ cC N H A m) (fr : ∀ b o, H b = some o → (∃ c d fs, o = .ins c d fs ∧ (b ∈ A.foot)) ∨ (∀ c d fs, o ≠ .ins c d fs) → H' b = some o) : CompAt TT cA cJ cC N H' A m := by
  obtain ⟨dx, ho⟩ := h.obj
  refine ⟨⟨dx, fr _ _ ho (.inl ⟨_, _, _, rfl, List.mem_cons_self ..⟩)⟩, fr _ _ h.lst (.inr (by intro c d fs z; cases z)), fr _ _ h.hts (.inr (by intro c d fs z; cases z)), h.alen, h.llen, fun i a l ha hl => ?_, h.nda, h.ndl, h.small, h.hlen, h.jnone, fun j e => ?_, Tabs.fr h.tabs fun b o e hb => fr b o e (.inr ?_)⟩
  · have hat := h.at_ i a l ha hl
    obtain ⟨da, hoa⟩ := hat.obj
    obtain ⟨ps, hol, _⟩ := hat.js
    refine hat.fr fun b o e hb => fr b o e ?_
    rcases hb with rfl | rfl | ⟨t, rfl⟩
    · rw [hoa] at e
      obtain rfl := Option.some.inj e
      exact .inl ⟨_, _, _, rfl, as_foot ha⟩
    · rw [hol] at e
      obtain rfl := Option.some.inj e
      exact .inr (by intro c d fs z; cases z)
    · exact .inr (by intro c d fs z; cases z)
  · obtain ⟨ja, ol, cl, dl, e1, e2, e3, e4⟩ := h.jsome j e
    refine ⟨ja, ol, cl, dl, e1, ?_, e3, e4⟩
    obtain ⟨dj, hoj⟩ := e2.obj
    obtain ⟨kvs, hk, _⟩ := e2.come
    refine e2.fr fun b o e hb => fr b o e ?_
    rcases hb with rfl | rfl | rfl | rfl
    · rw [hoj] at e
      obtain rfl := Option.some.inj e
      have jf : A.jfoot = [b, cl, dl] := by unfold CAd.jfoot; rw [e1]
      exact .inl ⟨_, _, _, rfl, List.mem_cons_of_mem _ (List.mem_append_right _ (List.mem_append_right _ (by rw [jf]; simp)))⟩
    · rw [e2.off] at e
      obtain rfl := Option.some.inj e
      exact .inr (by intro c d fs z; cases z)
    · rw [e2.clr] at e
      obtain rfl := Option.some.inj e
      exact .inr (by intro c d fs z; cases z)
    · rw [hk] at e
      obtain rfl := Option.some.inj e
      exact .inr (by intro c d fs z; cases z)
  · rcases hb with ⟨ps, rfl⟩ | ⟨φ, rfl⟩ <;> (intro c d fs z; cases z)
/-- a store at the line, which is no part of the contest -/
theorem CompAt.putL {N : Nat} {H : Hp} {A : CAd} {m : MS} {lo c d : Addr} {fs : List (Str × V)} {o : HO} (h : CompAt TT cA cJ cC N H A m) (e : H lo = some (.ins c d fs)) (nf : lo ∉ A.foot) : CompAt TT cA cJ cC N (upd H lo o) A m := by
  refine h.mv fun b u eb hb => ?_
  rw [upd_ne ?_]
  · exact eb
  · rintro rfl
    rw [e] at eb
    obtain rfl := Option.some.inj eb
    rcases hb with ⟨_, _, _, _, hb⟩ | hb
    · exact nf hb
    · exact hb _ _ _ rfl
theorem scL0 : FnScope ["self"] ["self"] (defScope (sL 0)) := ⟨rfl, rfl, rfl, by decide +kernel, rfl, by decide +kernel, by decide +kernel⟩
theorem ok_L0 {f : Addr} {fd : FuncData} (F : Fun K "__init__" "Line.__init__" (sL 0) f fd) (T : Txt K mg cA cJ cC cL) : FnOk P w K mg base CX0 5 f fd ["self"] (spLInit TT cA cJ cC cL) := by
  obtain ⟨f0, fd0, F0, b0, m0⟩ := T.C0
  have G0 : FnOk P w K mg base CX0 3 f0 fd0 ["self", "how_many", "rise", "turn", "heights"] (spCInit TT cA cJ cC) := ok_C0 F0 T
  refine F.ok scL0 (fun vs H Q E h => ?_) (fun cdv A outer s H vs Q E hr h => ?_)
  · obtain ⟨p, dx, rfl, _⟩ := h
    rfl
  · obtain ⟨p, dx, rfl, hp, htab, k⟩ := h
    refine ⟨_, pss_one (ps_fld (pv 0) (pe_make m0 G0 hr (by rfl) T.gC b0 .nil pass0 (pa_cons pe_int (pa_cons pe_int (pa_cons pe_int (pa_cons (pe_lst (pa_cons pe_int pa_nil)) pa_nil))))) rfl), ?_⟩
    refine ⟨by show 1 ≤ 16777216; decide, fun hl hhl x d2 hx hd2 hdx => ?_⟩
    have fr0 : ∀ b o, H b = some o → (upd (upd (upd H hl (.lst [.int 0])) d2 (.own x)) x (.ins cC d2 [])) b = some o := fun b o e => by
      have e1 : (upd H hl (.lst [.int 0])) b = some o := by rw [upd_ne (ne_of_none e hhl)]; exact e
      rw [upd_ne (ne_of_none e1 hx), upd_ne (ne_of_none e1 hd2)]; exact e1
    have nh : hl ≠ x := ne_of_none upd_same hx
    have nh2 : hl ≠ d2 := ne_of_none upd_same hd2
    refine ⟨x, d2, hl, 0, 1, 1, [0], rfl, upd_same, by rw [upd_ne nh, upd_ne nh2, upd_same]; rfl, by simp, by decide, by decide, htab.ext fr0, fun H' A hc hAc hft hls fr => ⟨rfl, ?_⟩⟩
    have nH : ∀ b, (upd (upd (upd H hl (.lst [.int 0])) d2 (.own x)) x (.ins cC d2 [])) b = none → H b = none := fun b e => by
      cases e2 : H b with
      | none => rfl
      | some o => rw [fr0 b o e2] at e; cases e
    have hxn : H x = none := by
      cases e2 : H x with
      | none => rfl
      | some o => rw [upd_ne (ne_of_none e2 hhl)] at hx; rw [hx] at e2; cases e2
    have hft2 : ∀ b ∈ A.foot, H b = none := fun b hb => (hft b hb).elim (fun z => by rw [z]; exact hxn) (nH b)
    have npx : p ≠ x := ne_of_none hp hxn
    have hp' : H' p = some (.ins cL dx []) := fr _ _ (fr0 _ _ hp) npx
    refine ⟨_, rfl, p, cL, dx, [], rfl, hp', T.clL, T.lCon, by decide, ?_⟩
    refine k _ A ⟨⟨dx, ?_⟩, hc.putL hp' fun z => ?_⟩ hft2 (fun b hb => nH b (hls b hb)) fun b o e hb => ?_
    · rw [upd_same, hAc]
      rfl
    · have := hft2 p z
      rw [this] at hp; cases hp
    · rw [upd_ne hb]
      exact fr _ _ (fr0 _ _ e) (ne_of_none e hxn)
def argsB : Int × Int × Int × List Int → Hp → List V → Prop := fun x H ws => ∃ rl, ws = [.int x.1, .int x.2.1, .int x.2.2.1, .ref rl] ∧ H rl = some (.lst (x.2.2.2.map V.int)) ∧ x.2.2.2.length ≤ 16777216
theorem toNat_nV {l : List Int} (h : ∀ z ∈ l, 0 ≤ z) : l.map V.int = (l.map Int.toNat).map nV := by
  rw [List.map_map]
  refine List.map_congr_left fun z hz => ?_
  have := h z hz
  show V.int z = V.int ((z.toNat : Nat) : Int)
  congr 1
  omega
theorem scL2 : FnScope ["self", "how_many", "rise", "turn", "heights"] ["self", "how_many", "rise", "turn", "heights"] (defScope (sL 2)) := ⟨rfl, rfl, rfl, by decide +kernel, rfl, by decide +kernel, by decide +kernel⟩
theorem ok_L2 {f : Addr} {fd : FuncData} (F : Fun K "begin" "Line.begin" (sL 2) f fd) (T : Txt K mg cA cJ cC cL) : FnOk P w K mg base CX0 5 f fd ["self", "how_many", "rise", "turn", "heights"] (spL TT cA cJ cC cL 0 argsB (fun _ _ _ => True) fun m x => m.step (.begin_ x.1 x.2.1 x.2.2.1 x.2.2.2)) := by
  obtain ⟨f0, fd0, F0, b0, m0⟩ := T.C0
  have G0 : FnOk P w K mg base CX0 3 f0 fd0 ["self", "how_many", "rise", "turn", "heights"] (spCInit TT cA cJ cC) := ok_C0 F0 T
  obtain ⟨fh, fdh, Fh, bh, gh, kh⟩ := T.d_are_heights
  have Gh : FnOk P w K mg base CX0 1 fh fdh ["heights"] spHts := ok_hts Fh T
  refine F.ok scL2 (fun vs H Q E h => ?_) (fun cdv A outer s H vs Q E hr h => ?_)
  · obtain ⟨lo, N, A, m, x, ws, rfl, ⟨rl, rfl, _⟩, _⟩ := h
    rfl
  · obtain ⟨lo, N, A, m, ⟨n, r, t, l⟩, ws, rfl, ⟨rl, rfl, hrl, hbig⟩, hL, _, k⟩ := h
    have k : LK TT cA cJ cC cL N 0 H lo A (m.step (.begin_ n r t l)) Q := k
    have hrl : H rl = some (.lst (l.map V.int)) := hrl
    refine ⟨_, pss_cons (ps_if (PW.pt (pw_or (pt_not (pt_chain op_le op_le pe_int (pv 1) (pe_ic rfl T.MATH))) (pw_or (pt_not (pt_chain op_le op_le pe_int (pv 2) (pe_ic rfl T.MRISE))) (pw_or1 (pt_not (pt_chain op_le op_le pe_int (pv 3) (pe_ic rfl T.MTURN))))))) (pss_one (ps_ret (pe_lst (pa_cons (pe_ic rfl T.WRONG) pa_nil)))) pss_nil)
      (pss_cons (ps_if (pt_not (pt_val (pe_call Gh (hr.mono (by decide : 1 ≤ 4)) (by rfl) gh kh bh .nil pass0 (pa_cons (pv 4) pa_nil)))) (pss_one (ps_ret (pe_lst (pa_cons (pe_ic rfl T.WRONG) pa_nil)))) pss_nil)
      (pss_cons (ps_fld (pv 0) (pe_make m0 G0 hr (by rfl) T.gC b0 .nil pass0 (pa_cons (pv 1) (pa_cons (pv 2) (pa_cons (pv 3) (pa_cons (pv 4) pa_nil))))) rfl)
      (pss_one (ps_ret (pe_lst (pa_cons pe_int pa_nil)))))), ?_⟩
    have es0 : m.step (.begin_ n r t l) = if Jc.okBegin n r t l = false then (m, [-1]) else (MS.new n.toNat r.toNat t.toNat (l.map Int.toNat), [0]) := rfl
    have wrong : Jc.okBegin n r t l = false → (1 ≤ 16777216 ∧ ∀ l', H l' = none → Q (.ref l') (upd H l' (.lst [.int (-1)]))) := fun hw => by
      rw [if_pos hw] at es0
      exact ⟨by decide, k.disp hL (nochange es0) Go.refl (by rw [es0]; rfl)⟩
    refine chain_ok rfl ?_
    cases hn : Kg63.within n 1 20 with
    | false => exact iteT rfl (wrong (by rw [okBegin_is, hn]; rfl))
    | true =>
      refine iteF rfl ?_
      refine chain_ok rfl ?_
      cases hr' : Kg63.within r 1 20 with
      | false => exact iteT rfl (wrong (by rw [okBegin_is, hn, hr']; rfl))
      | true =>
        refine iteF rfl ?_
        refine chain_ok rfl ?_
        cases ht : Kg63.within t 1 10 with
        | false => exact iteT rfl (wrong (by rw [okBegin_is, hn, hr', ht]; rfl))
        | true =>
          refine iteF rfl ?_
          refine ⟨_, rfl, rl, l, rfl, hrl, hbig, _, rfl, ?_⟩
          cases hh : okH l with
          | false => exact iteT rfl (wrong (by rw [okBegin_is, hn, hr', ht, hh]; rfl))
          | true =>
            refine iteF rfl ?_
            rw [if_neg (by rw [okBegin_is, hn, hr', ht, hh]; simp)] at es0
            have hn2 : 1 ≤ n ∧ n ≤ 20 := by
              have : (decide (1 ≤ n) && decide (n ≤ 20)) = true := hn
              simpa using this
            have hr2 : 1 ≤ r ∧ r ≤ 20 := by
              have : (decide (1 ≤ r) && decide (r ≤ 20)) = true := hr'
              simpa using this
            have ht2 : 1 ≤ t ∧ t ≤ 10 := by
              have : (decide (1 ≤ t) && decide (t ≤ 10)) = true := ht
              simpa using this
            unfold okH at hh
            simp only [Bool.and_eq_true, List.all_eq_true, decide_eq_true_eq] at hh
            obtain ⟨hall, _, hl1, hl2⟩ := hh
            have hpos : ∀ z ∈ l, 0 ≤ z := fun z hz => by
              have : (decide (50 ≤ z) && decide (z ≤ 700)) = true := hall z hz
              have : 50 ≤ z ∧ z ≤ 700 := by simpa using this
              omega
            obtain ⟨dx, ho⟩ := hL.obj
            refine ⟨_, rfl, _, rfl, _, rfl, _, rfl, fun x d2 hx hd2 hdx => ?_⟩
            have fr0 : ∀ b o, H b = some o → (upd (upd H d2 (.own x)) x (.ins cC d2 [])) b = some o := fun b o e => by rw [upd_ne (ne_of_none e hx), upd_ne (ne_of_none e hd2)]; exact e
            have nH : ∀ b, (upd (upd H d2 (.own x)) x (.ins cC d2 [])) b = none → H b = none := fun b e => by
              cases e2 : H b with
              | none => rfl
              | some o => rw [fr0 b o e2] at e; cases e
            refine ⟨x, d2, rl, n.toNat, r.toNat, t.toNat, l.map Int.toNat, ?_, upd_same, fr0 _ _ (by rw [hrl, toNat_nV hpos]), ?_, by omega, by rw [List.length_map]; omega, hL.comp.tabs.ext fr0, fun H' A' hc hAc hft hls fr => ⟨rfl, ?_⟩⟩
            · show [V.ref x, V.int n, V.int r, V.int t, V.ref rl] = [V.ref x, V.int ((n.toNat : Nat) : Int), V.int ((r.toNat : Nat) : Int), V.int ((t.toNat : Nat) : Int), V.ref rl]
              rw [show ((n.toNat : Nat) : Int) = n by omega, show ((r.toNat : Nat) : Int) = r by omega, show ((t.toNat : Nat) : Int) = t by omega]
            · intro z
              have := congrArg List.length z
              rw [List.length_map] at this
              simp at this
              rw [this] at hl1
              simp at hl1
            · have hft2 : ∀ b ∈ A'.foot, H b = none := fun b hb => (hft b hb).elim (fun z => by rw [z]; exact hx) (nH b)
              have nlx : lo ≠ x := ne_of_none ho hx
              have ho' : H' lo = some (.ins cL dx (fL A.c)) := fr _ _ (fr0 _ _ ho) nlx
              have fr1 : ∀ b o, H b = some o → H' b = some o := fun b o e => fr _ _ (fr0 _ _ e) (ne_of_none e hx)
              refine ⟨_, rfl, lo, cL, dx, _, rfl, ho', T.clL, T.lCon, by show 1 < 1000; decide, ?_⟩
              rw [fL_put]
              refine ⟨by show 1 ≤ 16777216; decide, fun p hp => ?_⟩
              have hcL : CompAt TT cA cJ cC 0 (upd H' lo (.ins cL dx (fL x))) A' (MS.new n.toNat r.toNat t.toNat (l.map Int.toNat)) := hc.putL ho' fun z => by
                have := hft2 lo z
                rw [this] at ho; cases ho
              have gp : Go TT (upd H' lo (.ins cL dx (fL x))) (upd (upd H' lo (.ins cL dx (fL x))) p (.lst [.int 0])) := Go.refl.new hp
              have npl : lo ≠ p := ne_of_none upd_same hp
              refine k 0 _ A' p ⟨⟨dx, ?_⟩, ?_⟩ (Nat.zero_le _) (.inl ?_) ?_ ⟨fun b hb => .inr (hft2 b hb), fun b hb => .inr (.inr (nH b (hls b hb))), ?_⟩
              · rw [upd_ne npl, upd_same, hAc]
              · rw [es0]
                exact hcL.go gp
              · cases e2 : H p with
                | none => rfl
                | some o =>
                  by_cases z : p = lo
                  · exact absurd z npl.symm
                  · rw [upd_ne z, fr1 p o e2] at hp; cases hp
              · rw [upd_same, es0]
                rfl
              · refine GoB.trans (H1 := H') (GoB.of (.of fr1)) (GoB.trans (H1 := upd H' lo (.ins cL dx (fL x))) ?_ (GoB.of gp))
                exact GoB.put (GoB.of Go.refl) (.inr rfl) (ntab ho' (by intro ps z; cases z)) (ncode ho' (by intro φ z; cases z)) (by rw [ho']; simp)
end
end Jp

set_option Elab.async false
set_option maxRecDepth 100000
set_option maxHeartbeats 4000000
/-! A call answered. -/
namespace Jp
open PySem PySem.Spec PyProof.Rows L2 LamX Jl
open Jc (MS JO)
/-- a call as it is read: its number, its plain numbers, its row -/
def readOf : Kg63.Call → Int × List Int × List Int
  | .begin_ n r t l => (1, [n, r, t], l)
  | .up => (2, [], [])
  | .jump how => (3, [how], [])
  | .leave i => (4, [i], [])
  | .height h => (5, [h], [])
  | .off yes => (6, [yes], [])
  | .card i => (7, [i], [])
  | .order => (8, [], [])
  | .now => (9, [], [])
def argsC : Kg63.Call → Hp → List V → Prop := fun c H ws => ∃ nl rl, ws = [.int (readOf c).1, .ref nl, .ref rl] ∧ H nl = some (.lst ((readOf c).2.1.map V.int)) ∧ H rl = some (.lst ((readOf c).2.2.map V.int)) ∧ (readOf c).2.2.length ≤ 16777216
theorem LK.le {T : List (Addr × Str)} {cA cJ cC cL : Addr} {N d d' : Nat} {H : Hp} {lo : Addr} {A : CAd} {r : MS × List Int} {Q : VK} (k : LK T cA cJ cC cL N d H lo A r Q) (h : d' ≤ d) : LK T cA cJ cC cL N d' H lo A r Q := fun N' H' A' l h1 h2 => k N' H' A' l h1 (by omega)
section
variable {P : Program} {w : World} {K : PySem.W.Frag} {mg : Str → Option Value} {base : Heap} {cA cJ cC cL P1 P2 : Addr} {TT : List (Addr × Str)}
theorem scL1 : FnScope ["self", "call", "numbers", "row"] ["self", "call", "numbers", "row"] (defScope (sL 1)) := ⟨rfl, rfl, rfl, by decide +kernel, rfl, by decide +kernel, by decide +kernel⟩
theorem ok_L1 {f : Addr} {fd : FuncData} (F : Fun K "answer" "Line.answer" (sL 1) f fd) (T : Txt K mg cA cJ cC cL) (La : Lam K mg base cC P1 P2) : FnOk P w K mg base CX0 10 f fd ["self", "call", "numbers", "row"] (spL (TTof P1 P2) cA cJ cC cL 1 argsC (fun N m _ => Rch m ∧ N < 1000) fun m c => m.step c) := by
  obtain ⟨f2, fd2, F2, b2, m2⟩ := T.L2
  have G2 : FnOk P w K mg base CX0 5 f2 fd2 ["self", "how_many", "rise", "turn", "heights"] (spL (TTof P1 P2) cA cJ cC cL 0 argsB (fun _ _ _ => True) fun m x => m.step (.begin_ x.1 x.2.1 x.2.2.1 x.2.2.2)) := ok_L2 F2 T
  obtain ⟨f3, fd3, F3, b3, m3⟩ := T.L3
  have G3 : FnOk P w K mg base CX0 9 f3 fd3 ["self"] (spL (TTof P1 P2) cA cJ cC cL 0 (fun (_ : Unit) _ ws => ws = []) (fun _ m _ => Rch m) fun m _ => m.step .up) := ok_L3 F3 T La
  obtain ⟨f4, fd4, F4, b4, m4⟩ := T.L4
  have G4 : FnOk P w K mg base CX0 9 f4 fd4 ["self", "how"] (spL (TTof P1 P2) cA cJ cC cL 1 (fun (z : Int) _ ws => ws = [.int z]) (fun N m _ => Rch m ∧ N < 1000) fun m z => m.step (.jump z)) := ok_L4 F4 T La
  obtain ⟨f5, fd5, F5, b5, m5⟩ := T.L5
  have G5 : FnOk P w K mg base CX0 9 f5 fd5 ["self", "number"] (spL (TTof P1 P2) cA cJ cC cL 1 (fun (z : Int) _ ws => ws = [.int z]) (fun _ m _ => Rch m) fun m z => m.step (.leave z)) := ok_L5 F5 T La
  obtain ⟨f6, fd6, F6, b6, m6⟩ := T.L6
  have G6 : FnOk P w K mg base CX0 9 f6 fd6 ["self", "bar"] (spL (TTof P1 P2) cA cJ cC cL 1 (fun (z : Int) _ ws => ws = [.int z]) (fun _ m _ => Rch m) fun m z => m.step (.height z)) := ok_L6 F6 T La
  obtain ⟨f7, fd7, F7, b7, m7⟩ := T.L7
  have G7 : FnOk P w K mg base CX0 9 f7 fd7 ["self", "wanted"] (spL (TTof P1 P2) cA cJ cC cL 1 (fun (z : Int) _ ws => ws = [.int z]) (fun _ m _ => Rch m) fun m z => m.step (.off z)) := ok_L7 F7 T La
  obtain ⟨f8, fd8, F8, b8, m8⟩ := T.L8
  have G8 : FnOk P w K mg base CX0 5 f8 fd8 ["self", "number"] (spL (TTof P1 P2) cA cJ cC cL 0 (fun (z : Int) _ ws => ws = [.int z]) (fun _ m _ => Rch m) fun m z => m.step (.card z)) := ok_L8 F8 T
  obtain ⟨f9, fd9, F9, b9, m9⟩ := T.L9
  have G9 : FnOk P w K mg base CX0 5 f9 fd9 ["self"] (spL (TTof P1 P2) cA cJ cC cL 0 (fun (_ : Unit) _ ws => ws = []) (fun _ m _ => Rch m) fun m _ => m.step .order) := ok_L9 F9 T La
  obtain ⟨f10, fd10, F10, b10, m10⟩ := T.L10
  have G10 : FnOk P w K mg base CX0 8 f10 fd10 ["self"] (spL (TTof P1 P2) cA cJ cC cL 0 (fun (_ : Unit) _ ws => ws = []) (fun _ m _ => Rch m) fun m _ => m.step .now) := ok_L10 F10 T La
  refine F.ok scL1 (fun vs H Q E h => ?_) (fun cdv A outer s H vs Q E hr h => ?_)
  · obtain ⟨lo, N, A, m, x, ws, rfl, ⟨nl, rl, rfl, _⟩, _⟩ := h
    rfl
  · obtain ⟨lo, N, A, m, c, ws, rfl, ⟨nl, rl, rfl, hnl, hrl, hbig⟩, hL, ⟨hR, hN⟩, k⟩ := h
    have k : LK (TTof P1 P2) cA cJ cC cL N 1 H lo A (m.step c) Q := k
    refine ⟨_, pss_cons (ps_if (pt_cmpR op_eq (pv 1) (pe_ic rfl T.BEGIN) (nomark _)) (pss_one (ps_ret (pe_meth (pv 0) T.clL m2 G2 (hr.mono (by decide : 5 ≤ 9)) b2 .nil pass0 (pa_cons (pe_ix (r := rIxL K) ix_list (pv 2) pe_int (fun _ _ => rfl)) (pa_cons (pe_ix (r := rIxL K) ix_list (pv 2) pe_int (fun _ _ => rfl)) (pa_cons (pe_ix (r := rIxL K) ix_list (pv 2) pe_int (fun _ _ => rfl)) (pa_cons (pv 3) pa_nil))))))) pss_nil)
      (pss_cons (ps_if (pt_cmpR op_eq (pv 1) (pe_ic rfl T.UP) (nomark _)) (pss_one (ps_ret (pe_meth0 (pv 0) T.clL m3 G3 hr b3 .nil pass0))) pss_nil)
      (pss_cons (ps_if (pt_cmpR op_eq (pv 1) (pe_ic rfl T.JUMP) (nomark _)) (pss_one (ps_ret (pe_meth (pv 0) T.clL m4 G4 hr b4 .nil pass0 (pa_cons (pe_ix (r := rIxL K) ix_list (pv 2) pe_int (fun _ _ => rfl)) pa_nil)))) pss_nil)
      (pss_cons (ps_if (pt_cmpR op_eq (pv 1) (pe_ic rfl T.LEAVE) (nomark _)) (pss_one (ps_ret (pe_meth (pv 0) T.clL m5 G5 hr b5 .nil pass0 (pa_cons (pe_ix (r := rIxL K) ix_list (pv 2) pe_int (fun _ _ => rfl)) pa_nil)))) pss_nil)
      (pss_cons (ps_if (pt_cmpR op_eq (pv 1) (pe_ic rfl T.HEIGHT) (nomark _)) (pss_one (ps_ret (pe_meth (pv 0) T.clL m6 G6 hr b6 .nil pass0 (pa_cons (pe_ix (r := rIxL K) ix_list (pv 2) pe_int (fun _ _ => rfl)) pa_nil)))) pss_nil)
      (pss_cons (ps_if (pt_cmpR op_eq (pv 1) (pe_ic rfl T.OFF) (nomark _)) (pss_one (ps_ret (pe_meth (pv 0) T.clL m7 G7 hr b7 .nil pass0 (pa_cons (pe_ix (r := rIxL K) ix_list (pv 2) pe_int (fun _ _ => rfl)) pa_nil)))) pss_nil)
      (pss_cons (ps_if (pt_cmpR op_eq (pv 1) (pe_ic rfl T.CARD) (nomark _)) (pss_one (ps_ret (pe_meth (pv 0) T.clL m8 G8 (hr.mono (by decide : 5 ≤ 9)) b8 .nil pass0 (pa_cons (pe_ix (r := rIxL K) ix_list (pv 2) pe_int (fun _ _ => rfl)) pa_nil)))) pss_nil)
      (pss_cons (ps_if (pt_cmpR op_eq (pv 1) (pe_ic rfl T.ORDER) (nomark _)) (pss_one (ps_ret (pe_meth0 (pv 0) T.clL m9 G9 (hr.mono (by decide : 5 ≤ 9)) b9 .nil pass0))) pss_nil)
      (pss_one (ps_ret (pe_meth0 (pv 0) T.clL m10 G10 (hr.mono (by decide : 8 ≤ 9)) b10 .nil pass0)))))))))), ?_⟩
    obtain ⟨dx, ho⟩ := hL.obj
    cases c with
    | begin_ n r t l =>
      refine ⟨_, rfl, rfl, _, rfl, iteT rfl ?_⟩
      refine ⟨_, rfl, lo, dx, _, rfl, ho, rfl, _, rfl, nl, _, _, .int n, rfl, rfl, SqL.of hnl, atI_nat (j := 0) rfl, _, rfl, nl, _, _, .int r, rfl, rfl, SqL.of hnl, atI_nat (j := 1) rfl, _, rfl, nl, _, _, .int t, rfl, rfl, SqL.of hnl, atI_nat (j := 2) rfl, _, rfl, lo, N, A, m, (n, r, t, l), _, rfl, ⟨rl, rfl, hrl, hbig⟩, hL, trivial, k.le (by decide)⟩
    | up =>
      refine ⟨_, rfl, rfl, _, rfl, iteF rfl ?_⟩
      refine ⟨_, rfl, rfl, _, rfl, iteT rfl ?_⟩
      exact ⟨_, rfl, lo, dx, _, rfl, ho, rfl, lo, N, A, m, (), _, rfl, rfl, hL, hR, k.le (by decide)⟩
    | jump z =>
      refine ⟨_, rfl, rfl, _, rfl, iteF rfl ?_⟩
      refine ⟨_, rfl, rfl, _, rfl, iteF rfl ?_⟩
      refine ⟨_, rfl, rfl, _, rfl, iteT rfl ?_⟩
      exact ⟨_, rfl, lo, dx, _, rfl, ho, rfl, _, rfl, nl, _, _, .int z, rfl, rfl, SqL.of hnl, atI_nat (j := 0) rfl, lo, N, A, m, z, _, rfl, rfl, hL, ⟨hR, hN⟩, k⟩
    | leave z =>
      refine ⟨_, rfl, rfl, _, rfl, iteF rfl ?_⟩
      refine ⟨_, rfl, rfl, _, rfl, iteF rfl ?_⟩
      refine ⟨_, rfl, rfl, _, rfl, iteF rfl ?_⟩
      refine ⟨_, rfl, rfl, _, rfl, iteT rfl ?_⟩
      exact ⟨_, rfl, lo, dx, _, rfl, ho, rfl, _, rfl, nl, _, _, .int z, rfl, rfl, SqL.of hnl, atI_nat (j := 0) rfl, lo, N, A, m, z, _, rfl, rfl, hL, hR, k⟩
    | height z =>
      refine ⟨_, rfl, rfl, _, rfl, iteF rfl ?_⟩
      refine ⟨_, rfl, rfl, _, rfl, iteF rfl ?_⟩
      refine ⟨_, rfl, rfl, _, rfl, iteF rfl ?_⟩
      refine ⟨_, rfl, rfl, _, rfl, iteF rfl ?_⟩
      refine ⟨_, rfl, rfl, _, rfl, iteT rfl ?_⟩
      exact ⟨_, rfl, lo, dx, _, rfl, ho, rfl, _, rfl, nl, _, _, .int z, rfl, rfl, SqL.of hnl, atI_nat (j := 0) rfl, lo, N, A, m, z, _, rfl, rfl, hL, hR, k⟩
    | off z =>
      refine ⟨_, rfl, rfl, _, rfl, iteF rfl ?_⟩
      refine ⟨_, rfl, rfl, _, rfl, iteF rfl ?_⟩
      refine ⟨_, rfl, rfl, _, rfl, iteF rfl ?_⟩
      refine ⟨_, rfl, rfl, _, rfl, iteF rfl ?_⟩
      refine ⟨_, rfl, rfl, _, rfl, iteF rfl ?_⟩
      refine ⟨_, rfl, rfl, _, rfl, iteT rfl ?_⟩
      exact ⟨_, rfl, lo, dx, _, rfl, ho, rfl, _, rfl, nl, _, _, .int z, rfl, rfl, SqL.of hnl, atI_nat (j := 0) rfl, lo, N, A, m, z, _, rfl, rfl, hL, hR, k⟩
    | card z =>
      refine ⟨_, rfl, rfl, _, rfl, iteF rfl ?_⟩
      refine ⟨_, rfl, rfl, _, rfl, iteF rfl ?_⟩
      refine ⟨_, rfl, rfl, _, rfl, iteF rfl ?_⟩
      refine ⟨_, rfl, rfl, _, rfl, iteF rfl ?_⟩
      refine ⟨_, rfl, rfl, _, rfl, iteF rfl ?_⟩
      refine ⟨_, rfl, rfl, _, rfl, iteF rfl ?_⟩
      refine ⟨_, rfl, rfl, _, rfl, iteT rfl ?_⟩
      exact ⟨_, rfl, lo, dx, _, rfl, ho, rfl, _, rfl, nl, _, _, .int z, rfl, rfl, SqL.of hnl, atI_nat (j := 0) rfl, lo, N, A, m, z, _, rfl, rfl, hL, hR, k.le (by decide)⟩
    | order =>
      refine ⟨_, rfl, rfl, _, rfl, iteF rfl ?_⟩
      refine ⟨_, rfl, rfl, _, rfl, iteF rfl ?_⟩
      refine ⟨_, rfl, rfl, _, rfl, iteF rfl ?_⟩
      refine ⟨_, rfl, rfl, _, rfl, iteF rfl ?_⟩
      refine ⟨_, rfl, rfl, _, rfl, iteF rfl ?_⟩
      refine ⟨_, rfl, rfl, _, rfl, iteF rfl ?_⟩
      refine ⟨_, rfl, rfl, _, rfl, iteF rfl ?_⟩
      refine ⟨_, rfl, rfl, _, rfl, iteT rfl ?_⟩
      exact ⟨_, rfl, lo, dx, _, rfl, ho, rfl, lo, N, A, m, (), _, rfl, rfl, hL, hR, k.le (by decide)⟩
    | now =>
      refine ⟨_, rfl, rfl, _, rfl, iteF rfl ?_⟩
      refine ⟨_, rfl, rfl, _, rfl, iteF rfl ?_⟩
      refine ⟨_, rfl, rfl, _, rfl, iteF rfl ?_⟩
      refine ⟨_, rfl, rfl, _, rfl, iteF rfl ?_⟩
      refine ⟨_, rfl, rfl, _, rfl, iteF rfl ?_⟩
      refine ⟨_, rfl, rfl, _, rfl, iteF rfl ?_⟩
      refine ⟨_, rfl, rfl, _, rfl, iteF rfl ?_⟩
      refine ⟨_, rfl, rfl, _, rfl, iteF rfl ?_⟩
      exact ⟨_, rfl, lo, dx, _, rfl, ho, rfl, lo, N, A, m, (), _, rfl, rfl, hL, hR, k.le (by decide)⟩
end
end Jp

set_option Elab.async false
set_option maxRecDepth 100000
set_option maxHeartbeats 4000000
/-! A line of calls as one list of whole numbers. -/
namespace Jp
open Jc (MS JO)
/-- what stands behind a call's plain numbers -/
def tailOf : Kg63.Call → List Int
  | .begin_ _ _ _ l => (l.length : Int) :: l
  | _ => []
def encC (c : Kg63.Call) : List Int := (readOf c).1 :: ((readOf c).2.1 ++ tailOf c)
def rawC (c : Kg63.Call) : List (List Int) := match c with
  | .begin_ n r t l => [[1, n, r, t], l]
  | c => [(readOf c).1 :: (readOf c).2.1]
theorem callOf_raw (c : Kg63.Call) : Kg63Neutral.callOf (PyKg63.whole (rawC c)) = some c := by cases c <;> rfl
def play : MS → List Kg63.Call → List (List Int)
  | _, [] => []
  | m, c :: r => (m.step c).2 :: play (m.step c).1 r
def after (m : MS) (cs : List Kg63.Call) : MS := cs.foldl (fun m c => (m.step c).1) m
theorem play_snoc : ∀ (cs : List Kg63.Call) (m : MS) (c : Kg63.Call), play m (cs ++ [c]) = play m cs ++ [((after m cs).step c).2]
  | [], m, c => rfl
  | d :: cs, m, c => by
    show (m.step d).2 :: play (m.step d).1 (cs ++ [c]) = (m.step d).2 :: (play (m.step d).1 cs ++ [((after (m.step d).1 cs).step c).2])
    rw [play_snoc cs (m.step d).1 c]
theorem after_snoc (cs : List Kg63.Call) (m : MS) (c : Kg63.Call) : after m (cs ++ [c]) = ((after m cs).step c).1 := by
  unfold after
  rw [List.foldl_append]
  rfl
theorem play_append : ∀ (a b : List Kg63.Call) (m : MS), play m (a ++ b) = play m a ++ play (after m a) b
  | [], b, m => rfl
  | d :: a, b, m => by
    show (m.step d).2 :: play (m.step d).1 (a ++ b) = (m.step d).2 :: (play (m.step d).1 a ++ play (after (m.step d).1 a) b)
    rw [play_append a b (m.step d).1]
theorem told_append (a b : List (List Int)) : PyFlat.told (a ++ b) = PyFlat.told a ++ PyFlat.told b := List.flatMap_append
theorem play_rch : ∀ (cs : List Kg63.Call) {m : MS}, Rch m → Rch (after m cs)
  | [], _, h => h
  | c :: cs, m, ⟨s, h⟩ => play_rch cs ⟨_, (Jc.step_is h c).1⟩
theorem play_is : ∀ (cs : List Kg63.Call) {m : MS} {s : Kg63.State}, Jc.R m s → PyFlat.played Kg63Neutral.step s (cs.map fun c => PyKg63.whole (rawC c)) = play m cs
  | [], _, _, _ => rfl
  | c :: cs, m, s, h => by
    obtain ⟨h1, h2⟩ := Jc.rowsInt (PyKg63.whole (rawC c)) c (callOf_raw c) h
    show (Kg63Neutral.step s (PyKg63.whole (rawC c))).2 :: PyFlat.played Kg63Neutral.step (Kg63Neutral.step s (PyKg63.whole (rawC c))).1 (cs.map _) = (m.step c).2 :: play (m.step c).1 cs
    rw [h2, play_is cs h1]
/-- a call read off its numbers -/
theorem call_enc {p : Int} {r t : List Int} {x : List (List Int)} (h : PyFlat.call PyKg63.shape (p :: r) = some (x, t)) (ha : Kg63Neutral.asked1 (PyKg63.whole x) = true) : ∃ c, x = rawC c ∧ p :: r = encC c ++ t ∧ (readOf c).2.2.length ≤ 40 := by
  have hs : ∀ q, PyKg63.shape p = some q → (p = 1 ∧ q = (3, 1)) ∨ (q = (0, 0) ∧ (p = 2 ∨ p = 8 ∨ p = 9)) ∨ (q = (1, 0) ∧ (p = 3 ∨ p = 4 ∨ p = 5 ∨ p = 6 ∨ p = 7)) := fun q hq => by
    unfold PyKg63.shape at hq
    repeat' split at hq
    all_goals first
      | (have hq := Option.some.inj hq; subst hq; simp_all)
      | cases hq
  cases e : PyKg63.shape p with
  | none => simp only [PyFlat.call, e] at h; cases h
  | some q =>
    simp only [PyFlat.call, e] at h
    rcases hs q e with ⟨rfl, rfl⟩ | ⟨rfl, hp⟩ | ⟨rfl, hp⟩
    · have h : (if r.length < 3 then none else match PyFlat.rows 1 (r.drop 3) with
          | none => none
          | some (xs, t) => some (((1 : Int) :: r.take 3) :: xs, t)) = some (x, t) := h
      by_cases c : r.length < 3
      · rw [if_pos c] at h; cases h
      · rw [if_neg c] at h
        match r, c, h with
        | a :: b :: d :: r', _, h =>
          have h : (match PyFlat.rows 1 r' with
            | none => none
            | some (xs, t) => some ([(1 : Int), a, b, d] :: xs, t)) = some (x, t) := h
          cases r' with
          | nil => cases h
          | cons n s =>
            by_cases c2 : 0 ≤ n ∧ n.toNat ≤ s.length
            · have e2 : PyFlat.rows 1 (n :: s) = some ([s.take n.toNat], s.drop n.toNat) := by
                simp only [PyFlat.rows, PyFlat.row]
                rw [if_pos c2]
              rw [e2] at h
              have h := Option.some.inj h
              simp only [Prod.mk.injEq] at h
              obtain ⟨rfl, rfl⟩ := h
              have ha : (Kg63Neutral.whole32 a && (Kg63Neutral.whole32 b && (Kg63Neutral.whole32 d && Kg63Neutral.row (s.take n.toNat) 40))) = true := ha
              simp only [Bool.and_eq_true] at ha
              have hr := ha.2.2.2
              unfold Kg63Neutral.row at hr
              rw [Bool.and_eq_true, decide_eq_true_eq] at hr
              refine ⟨.begin_ a b d (s.take n.toNat), rfl, ?_, hr.2⟩
              show 1 :: a :: b :: d :: n :: s = 1 :: a :: b :: d :: ((s.take n.toNat).length : Int) :: (s.take n.toNat ++ s.drop n.toNat)
              rw [List.take_append_drop, List.length_take]
              congr 5
              omega
            · have e2 : PyFlat.rows 1 (n :: s) = none := by
                simp only [PyFlat.rows, PyFlat.row]
                rw [if_neg c2]
              rw [e2] at h; cases h
        | [], c, _ => simp at c
        | [_], c, _ => simp at c
        | [_, _], c, _ => simp at c
    · have h : (if r.length < 0 then none else some ([p :: r.take 0], r.drop 0)) = some (x, t) := h
      rw [if_neg (by omega)] at h
      have h := Option.some.inj h
      simp only [Prod.mk.injEq, List.take_zero, List.drop_zero] at h
      obtain ⟨rfl, rfl⟩ := h
      rcases hp with rfl | rfl | rfl
      · exact ⟨.up, rfl, rfl, Nat.zero_le _⟩
      · exact ⟨.order, rfl, rfl, Nat.zero_le _⟩
      · exact ⟨.now, rfl, rfl, Nat.zero_le _⟩
    · have h : (if r.length < 1 then none else some ([p :: r.take 1], r.drop 1)) = some (x, t) := h
      cases r with
      | nil => cases h
      | cons a r =>
        rw [if_neg (by simp)] at h
        have h := Option.some.inj h
        simp only [Prod.mk.injEq] at h
        obtain ⟨rfl, rfl⟩ := h
        rcases hp with rfl | rfl | rfl | rfl | rfl
        · exact ⟨.jump a, rfl, rfl, Nat.zero_le _⟩
        · exact ⟨.leave a, rfl, rfl, Nat.zero_le _⟩
        · exact ⟨.height a, rfl, rfl, Nat.zero_le _⟩
        · exact ⟨.off a, rfl, rfl, Nat.zero_le _⟩
        · exact ⟨.card a, rfl, rfl, Nat.zero_le _⟩
theorem calls_enc : ∀ (f : Nat) (l : List Int) (raw : List (List (List Int))), PyFlat.calls PyKg63.shape f l = some raw → (raw.map PyKg63.whole).all Kg63Neutral.asked1 = true → ∃ cs : List Kg63.Call, l = cs.flatMap encC ∧ raw = cs.map rawC ∧ ∀ c ∈ cs, (readOf c).2.2.length ≤ 40
  | 0, [], raw, h, _ => by
    obtain rfl := Option.some.inj h
    exact ⟨[], rfl, rfl, fun c h => by cases h⟩
  | 0, _ :: _, raw, h, _ => by cases h
  | f + 1, [], raw, h, _ => by
    obtain rfl := Option.some.inj h
    exact ⟨[], rfl, rfl, fun c h => by cases h⟩
  | f + 1, p :: r, raw, h, ha => by
    unfold PyFlat.calls at h
    cases e : PyFlat.call PyKg63.shape (p :: r) with
    | none => rw [e] at h; cases h
    | some q =>
      obtain ⟨x, t⟩ := q
      rw [e] at h
      cases e2 : PyFlat.calls PyKg63.shape f t with
      | none => simp only [e2] at h; cases h
      | some ys =>
        simp only [e2] at h
        obtain rfl := Option.some.inj h
        rw [List.map_cons, List.all_cons, Bool.and_eq_true] at ha
        obtain ⟨c, h1, h2, h3⟩ := call_enc e ha.1
        obtain ⟨cs, g1, g2, g3⟩ := calls_enc f t ys e2 ha.2
        refine ⟨c :: cs, ?_, ?_, fun d hd => ?_⟩
        · rw [h2, g1]; rfl
        · rw [h1, g2]; rfl
        · rcases List.mem_cons.mp hd with rfl | hd
          · exact h3
          · exact g3 d hd
/-- what is asked, in the mirror's words -/
theorem asked_is {l : List Int} (h : PyKg63.answers_asked l = true) : ∃ cs : List Kg63.Call, l = cs.flatMap encC ∧ cs.length ≤ 250 ∧ (∀ c ∈ cs, (readOf c).2.2.length ≤ 40) ∧ PyKg63.answers l = PyFlat.told (play MS.init cs) ∧ (PyFlat.told (play MS.init cs)).length ≤ 10000000 := by
  unfold PyKg63.answers_asked at h
  cases e : PyFlat.calls PyKg63.shape l.length l with
  | none => rw [e] at h; cases h
  | some raw =>
    simp only [e, Bool.and_eq_true] at h
    obtain ⟨⟨⟨⟨_, h1⟩, _⟩, h2⟩, h3⟩ := h
    have h1 : raw.length ≤ 250 := of_decide_eq_true h1
    unfold Kg63Neutral.asked at h2
    rw [Bool.and_eq_true] at h2
    obtain ⟨cs, g1, g2, g3⟩ := calls_enc _ _ _ e h2.1
    have ea : PyKg63.answers l = PyFlat.told (play MS.init cs) := by
      unfold PyKg63.answers PyKg63.calls
      simp only [e]
      rw [g2, List.map_map]
      exact congrArg PyFlat.told (play_is cs Jc.R.init)
    refine ⟨cs, g1, ?_, g3, ea, ?_⟩
    · rw [g2, List.length_map] at h1
      exact h1
    · rw [← ea]
      exact of_decide_eq_true h3
end Jp

set_option Elab.async false
set_option maxRecDepth 100000
set_option maxHeartbeats 4000000
/-! The calls read. -/
namespace Jp
open PySem PySem.Spec PyProof.Rows L2 LamX Jl
open Jc (MS JO)
def allE (cs : List Kg63.Call) : List Int := cs.flatMap encC
def ReadAt (Nw : Addr → Prop) (H : Hp) (p : Addr) (c : Kg63.Call) : Prop := ∃ nl rl, H p = some (.tup [.int (readOf c).1, .ref nl, .ref rl]) ∧ H nl = some (.lst ((readOf c).2.1.map V.int)) ∧ H rl = some (.lst ((readOf c).2.2.map V.int)) ∧ Nw p ∧ Nw nl ∧ Nw rl
def spRead (K : PySem.W.Frag) (T : List (Addr × Str)) : Sp := fun vs H Q _ => ∃ cl cs, vs = [.ref cl] ∧ SqL K H cl ((allE cs).map V.int) ∧ cs.length ≤ 250 ∧ (∀ c ∈ cs, (readOf c).2.2.length ≤ 40) ∧
  ∀ H' rd ps, Go T H H' → H rd = none → H' rd = some (.lst (ps.map V.ref)) → Paired (ReadAt (fun b => H b = none) H') ps cs → Q (.ref rd) H'
theorem cutV_mid {xs : List V} {a m b : List Int} (e : xs = (a ++ (m ++ b)).map V.int) {lo hi : Int} (h1 : lo = (a.length : Int)) (h2 : hi = ((a.length + m.length : Nat) : Int)) : cutV xs (some lo) (some hi) = m.map V.int := by
  subst e h1 h2
  unfold cutV
  rw [HT.sIx_nat, HT.sIx_nat, List.length_map, List.length_append, List.length_append]
  have e1 : min a.length (a.length + (m.length + b.length)) = a.length := by omega
  have e2 : min (a.length + m.length) (a.length + (m.length + b.length)) = a.length + m.length := by omega
  rw [e1, e2, List.map_append, List.map_append, List.drop_append_of_le_length (by rw [List.length_map]; exact Nat.le_refl _)]
  have e3 : (a.map V.int).drop a.length = [] := List.drop_of_length_le (by rw [List.length_map]; exact Nat.le_refl _)
  rw [e3, List.nil_append, show a.length + m.length - a.length = m.length by omega, List.take_append_of_le_length (by rw [List.length_map]; exact Nat.le_refl _)]
  exact List.take_of_length_le (by rw [List.length_map]; exact Nat.le_refl _)
section
variable {P : Program} {w : World} {K : PySem.W.Frag} {mg : Str → Option Value} {base : Heap} {cA cJ cC cL P1 P2 : Addr} {TT : List (Addr × Str)}
theorem SqLgo {H H' : Hp} {a : Addr} {xs : List V} (h : SqL K H a xs) (g : Go TT H H') : SqL K H' a xs := by
  rcases h with (h | ⟨o, h⟩) | h
  · exact .inl (.inl (g.at h))
  · exact .inl (.inr ⟨o, g.at h⟩)
  · exact .inr h
theorem plain_of {D : Addr} (h : KGet K D 1 3 ∧ KGet K D 2 0 ∧ KGet K D 3 1 ∧ KGet K D 4 1 ∧ KGet K D 5 1 ∧ KGet K D 6 1 ∧ KGet K D 7 1 ∧ KGet K D 8 0 ∧ KGet K D 9 0) (c : Kg63.Call) : KGet K D (readOf c).1 ((readOf c).2.1.length : Int) := by
  obtain ⟨h1, h2, h3, h4, h5, h6, h7, h8, h9⟩ := h
  cases c with
  | begin_ n r t l => exact h1
  | up => exact h2
  | jump z => exact h3
  | leave z => exact h4
  | height z => exact h5
  | off z => exact h6
  | card z => exact h7
  | order => exact h8
  | now => exact h9
theorem tail_of (c : Kg63.Call) : ((readOf c).1 = 1 ∧ tailOf c = ((readOf c).2.2.length : Int) :: (readOf c).2.2) ∨ (¬ (readOf c).1 = 1 ∧ tailOf c = [] ∧ (readOf c).2.2 = []) := by
  cases c with
  | begin_ n r t l => exact .inl ⟨rfl, rfl⟩
  | _ => exact .inr ⟨by intro z; simp [readOf] at z, rfl, rfl⟩
theorem scRead : FnScope ["calls", "read", "start", "call", "end", "numbers", "row", "row_start"] ["calls"] (defScope (top 27)) := ⟨rfl, rfl, rfl, by decide +kernel, rfl, by decide +kernel, by decide +kernel⟩
theorem ok_read {f : Addr} {fd : FuncData} (F : Fun K "read_calls" "read_calls" (top 27) f fd) (T : Txt K mg cA cJ cC cL) : FnOk P w K mg base CX0 1 f fd ["calls"] (spRead K TT) := by
  obtain ⟨D, hD, hK⟩ := T.plain
  refine F.ok scRead (fun vs H Q E h => ?_) (fun cdv A outer s H vs Q E hr h => ?_)
  · obtain ⟨cl, cs, rfl, _⟩ := h
    rfl
  · obtain ⟨cl, cs, rfl, hcl, hlen, hrow, k⟩ := h
    refine ⟨_, pss_cons (ps_set (i := 1) scRead.nd rfl (.inl rfl) (pe_lst pa_nil))
      (pss_cons (ps_set (i := 2) scRead.nd rfl (.inl rfl) pe_int)
      (pss_cons (ps_while PassesOwn.never (pt_cmpR op_lt (pv 2) (pe_callB call_len_seq (by rfl) T.len PySem.boot_len (pa_cons (pv 0) pa_nil)) (nomark _))
        (pss_cons (ps_set (i := 3) scRead.nd rfl (.inl rfl) (pe_ix (r := rIxL K) ix_list (pv 0) (pv 2) (fun _ _ => rfl)))
        (pss_cons (ps_set (i := 4) scRead.nd rfl (.inl rfl) (pe_op op_add (pe_op op_add (pv 2) pe_int) (pe_kget (pe_glob rfl hD (show RelV (.ref D) (Value.ref D) from rfl)) (pv 3) (fun _ _ => rfl))))
        (pss_cons (ps_set (i := 5) scRead.nd rfl (.inl rfl) (pe_slice sl_list (pv 0) (po_some (pe_op op_add (pv 2) pe_int)) (po_some (pv 4))))
        (pss_cons (ps_set (i := 6) scRead.nd rfl (.inl rfl) (pe_lst pa_nil))
        (pss_cons (ps_if (pt_cmpR op_eq (pv 3) (pe_ic rfl T.BEGIN) (nomark _))
          (pss_cons (ps_set (i := 7) scRead.nd rfl (.inl rfl) (pe_op op_add (pv 4) pe_int))
          (pss_cons (ps_set (i := 4) scRead.nd rfl (.inl rfl) (pe_op op_add (pv 7) (pe_ix (r := rIxL K) ix_list (pv 0) (pv 4) (fun _ _ => rfl))))
          (pss_one (ps_set (i := 6) scRead.nd rfl (.inl rfl) (pe_slice sl_list (pv 0) (po_some (pv 7)) (po_some (pv 4))))))) pss_nil)
        (pss_cons (ps_expr (pe_bm PySem.F.plainAttrs_list PySem.F.slot_list_append PySem.F.type_list_append mt_append (pv 1) (pa_cons (pe_tup (pa_cons (pv 3) (pa_cons (pv 5) (pa_cons (pv 6) pa_nil)))) pa_nil)))
        (pss_one (ps_set (i := 2) scRead.nd rfl (.inl rfl) (pv 4))))))))))
      (pss_one (ps_ret (pv 1))))), ?_⟩
    refine ⟨Nat.zero_le _, fun rd hrd => ?_⟩
    have g0 : Go TT H (upd H rd (.lst [])) := Go.refl.new hrd
    refine ⟨fun n σ H' => ∃ dn rest ps v3 v4 v5 v6 v7, cs = dn ++ rest ∧ n = rest.length ∧ Go TT H H' ∧ H' rd = some (.lst (ps.map V.ref)) ∧ Paired (ReadAt (fun b => H b = none ∧ b ≠ rd) H') ps dn ∧ σ = [some (.ref cl), some (.ref rd), some (.int ((allE dn).length : Int)), v3, v4, v5, v6, v7],
      ⟨_, [], cs, [], none, none, none, none, none, rfl, rfl, g0, upd_same, .nil, rfl⟩, ?_⟩
    rintro n σ H' ⟨dn, rest, ps, v3, v4, v5, v6, v7, rfl, rfl, g, hrd', hps, rfl⟩
    have hcl' : SqL K H' cl ((allE (dn ++ rest)).map V.int) := SqLgo hcl g
    have hpl : ps.length = dn.length := Paired.length hps
    have hall : allE (dn ++ rest) = allE dn ++ allE rest := List.flatMap_append
    refine ⟨_, rfl, _, rfl, cl, _, rfl, .inl hcl', _, _, rfl, rfl, _, rfl, ?_⟩
    rw [List.length_map, hall, List.length_append]
    cases rest with
    | nil =>
      refine iteF (decide_eq_false (by show ¬ ((allE dn).length : Int) < (((allE dn).length + 0 : Nat) : Int); omega)) ?_
      refine ⟨_, rfl, ?_⟩
      rw [List.append_nil] at k
      exact k H' rd ps g hrd hrd' (Paired.mapP hps fun p c ⟨nl, rl, e1, e2, e3, e4, e5, e6⟩ => ⟨nl, rl, e1, e2, e3, e4.1, e5.1, e6.1⟩)
    | cons c rest =>
      have hec : allE (c :: rest) = (readOf c).1 :: ((readOf c).2.1 ++ (tailOf c ++ allE rest)) := by
        show encC c ++ allE rest = _
        unfold encC
        rw [List.cons_append, List.append_assoc]
      refine iteT (decide_eq_true (by rw [hec, List.length_cons]; omega)) ?_
      refine ⟨fun σ' H'' => ∃ ps v3 v4 v5 v6 v7, Go TT H H'' ∧ H'' rd = some (.lst (ps.map V.ref)) ∧ Paired (ReadAt (fun b => H b = none ∧ b ≠ rd) H'') ps (dn ++ [c]) ∧ σ' = [some (.ref cl), some (.ref rd), some (.int ((allE (dn ++ [c])).length : Int)), v3, v4, v5, v6, v7],
        fun σ' H'' ⟨ps, v3, v4, v5, v6, v7, a1, a2, a3, a4⟩ => ⟨rest.length, by rw [List.length_cons]; omega, dn ++ [c], rest, ps, v3, v4, v5, v6, v7, by rw [List.append_assoc]; rfl, rfl, a1, a2, a3, a4⟩, ?_⟩
      have hxs : (allE (dn ++ c :: rest)) = allE dn ++ ((readOf c).1 :: ((readOf c).2.1 ++ (tailOf c ++ allE rest))) := by rw [hall, hec]
      have hat : ((allE (dn ++ c :: rest)).map V.int)[(allE dn).length]? = some (.int (readOf c).1) := by
        rw [hxs, List.getElem?_map, List.getElem?_append_right (Nat.le_refl _), Nat.sub_self]
        rfl
      have hdnl : dn.length < 250 := by
        rw [List.length_append, List.length_cons] at hlen
        omega
      have helen : (allE (dn ++ [c])).length = (allE dn).length + 1 + (readOf c).2.1.length + (tailOf c).length := by
        have : allE (dn ++ [c]) = allE dn ++ encC c := by
          show (dn ++ [c]).flatMap encC = _
          rw [List.flatMap_append]
          show _ ++ (encC c ++ []) = _
          rw [List.append_nil]
          rfl
        rw [this, List.length_append]
        unfold encC
        rw [List.length_cons, List.length_append]
        omega
      -- call = calls[start]
      refine ⟨_, rfl, _, rfl, cl, _, _, .int (readOf c).1, rfl, rfl, hcl', atI_nat hat, ?_⟩
      -- end = start + 1 + PLAIN_NUMBERS[call]
      refine ⟨_, rfl, _, _, rfl, rfl, _, rfl, D, _, _, rfl, rfl, plain_of hK c, _, _, rfl, rfl, ?_⟩
      -- numbers = calls[start + 1:end]
      refine ⟨_, rfl, _, rfl, _, _, rfl, rfl, _, rfl, _, rfl, _, rfl, cl, _, rfl, hcl', fun nl hnl => ?_⟩
      have hcut1 : cutV ((allE (dn ++ c :: rest)).map V.int) (some ((allE dn).length + 1)) (some ((allE dn).length + 1 + ((readOf c).2.1.length : Int))) = (readOf c).2.1.map V.int :=
        cutV_mid (a := allE dn ++ [(readOf c).1]) (m := (readOf c).2.1) (b := tailOf c ++ allE rest) (by rw [hxs, List.append_assoc]; rfl) (by rw [List.length_append]; rfl) (by rw [List.length_append]; show _ = (((allE dn).length + 1 + _ : Nat) : Int); omega)
      rw [hcut1]
      have nrn : rd ≠ nl := ne_of_none hrd' hnl
      -- row = []
      refine ⟨Nat.zero_le _, fun r0 hr0 => ?_⟩
      have hnl2 : H' nl = none := hnl
      have hnr0 : nl ≠ r0 := ne_of_none upd_same hr0
      have hr02 : H' r0 = none := by
        cases e : H' r0 with
        | none => rfl
        | some o => rw [upd_ne (ne_of_none e hnl), e] at hr0; cases hr0
      have nrr : rd ≠ r0 := ne_of_none hrd' hr02
      have gA : Go TT H (upd (upd H' nl (.lst ((readOf c).2.1.map V.int))) r0 (.lst [])) := (g.new hnl).new hr0
      -- the end, once the row stands at rl
      have fin : ∀ (H3 : Hp) (rl : Addr) (v7 : Option V) (en : Int), Go TT H H3 → (∀ b o, H' b = some o → H3 b = some o) → H3 nl = some (.lst ((readOf c).2.1.map V.int)) → H3 rl = some (.lst ((readOf c).2.2.map V.int)) → H' rl = none → en = ((allE (dn ++ [c])).length : Int) →
          ∀ p, H3 p = none → (upd H3 p (.tup [.int (readOf c).1, .ref nl, .ref rl])) rd = some (.lst (ps.map V.ref)) ∧
            ∃ ps' v3 v4 v5 v6 v7', Go TT H (upd (upd H3 p (.tup [.int (readOf c).1, .ref nl, .ref rl])) rd (.lst (ps.map V.ref ++ [.ref p]))) ∧ (upd (upd H3 p (.tup [.int (readOf c).1, .ref nl, .ref rl])) rd (.lst (ps.map V.ref ++ [.ref p]))) rd = some (.lst (ps'.map V.ref)) ∧ Paired (ReadAt (fun b => H b = none ∧ b ≠ rd) (upd (upd H3 p (.tup [.int (readOf c).1, .ref nl, .ref rl])) rd (.lst (ps.map V.ref ++ [.ref p])))) ps' (dn ++ [c]) ∧
              [some (.ref cl), some (.ref rd), some (.int en), some (.int (readOf c).1), some (.int en), some (.ref nl), some (.ref rl), v7] = [some (.ref cl), some (.ref rd), some (.int ((allE (dn ++ [c])).length : Int)), v3, v4, v5, v6, v7'] := fun H3 rl v7 en g3 fr hn3 hr3 hrl en' p hp => by
        have hrd3 := fr _ _ hrd'
        have nrp : rd ≠ p := ne_of_none hrd3 hp
        have nH : ∀ b, H' b = none → H b = none ∧ b ≠ rd := fun b e => ⟨g.free e, fun z => by rw [z, hrd'] at e; cases e⟩
        have hp' : H' p = none := by
          cases e : H' p with
          | none => rfl
          | some o => rw [fr p o e] at hp; cases hp
        refine ⟨by rw [upd_ne nrp]; exact hrd3, ps ++ [p], _, _, _, _, _, (g3.new hp).put hrd (by rw [upd_ne nrp]; exact hrd3), by rw [upd_same, List.map_append]; rfl, ?_, by rw [en']⟩
        have at3 : ∀ b o, H3 b = some o → b ≠ rd → (upd (upd H3 p (.tup [.int (readOf c).1, .ref nl, .ref rl])) rd (.lst (ps.map V.ref ++ [.ref p]))) b = some o := fun b o e hb => by
          rw [upd_ne hb, upd_ne (ne_of_none e hp)]; exact e
        refine paired_snoc ⟨nl, rl, by rw [upd_ne nrp.symm, upd_same], at3 _ _ hn3 nrn.symm, at3 _ _ hr3 (nH _ hrl).2, nH _ hp', nH _ hnl2, nH _ hrl⟩ (Paired.mapP hps fun q c' ⟨nl', rl', e1, e2, e3, e4, e5, e6⟩ => ⟨nl', rl', at3 _ _ (fr _ _ e1) e4.2, at3 _ _ (fr _ _ e2) e5.2, at3 _ _ (fr _ _ e3) e6.2, e4, e5, e6⟩)
      have hsz : (ps.map V.ref).length < sizeLine := by
        rw [List.length_map, hpl]
        show _ < 16777216
        omega
      have frA : ∀ b o, H' b = some o → (upd (upd H' nl (.lst ((readOf c).2.1.map V.int))) r0 (.lst [])) b = some o := fun b o e => by
        rw [upd_ne (ne_of_none e hr02), upd_ne (ne_of_none e hnl)]; exact e
      have hnlA : (upd (upd H' nl (.lst ((readOf c).2.1.map V.int))) r0 (.lst [])) nl = some (.lst ((readOf c).2.1.map V.int)) := by rw [upd_ne hnr0, upd_same]
      -- if call == BEGIN
      refine ⟨_, rfl, rfl, _, rfl, ?_⟩
      rcases tail_of c with ⟨h1, htl⟩ | ⟨h1, htl, hrw⟩
      · refine iteT (decide_eq_true (congrArg V.int h1)) ?_
        rw [htl, List.length_cons] at helen
        have hclA : SqL K (upd (upd H' nl (.lst ((readOf c).2.1.map V.int))) r0 (.lst [])) cl ((allE (dn ++ c :: rest)).map V.int) := SqLgo hcl gA
        have hat2 : ((allE (dn ++ c :: rest)).map V.int)[(allE dn).length + 1 + (readOf c).2.1.length]? = some (.int ((readOf c).2.2.length : Int)) := by
          rw [hxs, htl, List.getElem?_map, List.getElem?_append_right (by omega), show (allE dn).length + 1 + (readOf c).2.1.length - (allE dn).length = (readOf c).2.1.length + 1 by omega, List.getElem?_cons_succ, List.getElem?_append_right (Nat.le_refl _), Nat.sub_self]
          rfl
        refine ⟨_, rfl, _, _, rfl, rfl, ?_⟩
        refine ⟨_, rfl, _, rfl, _, rfl, cl, _, _, .int ((readOf c).2.2.length : Int), rfl, rfl, hclA, at_of (j := (allE dn).length + 1 + (readOf c).2.1.length) (by omega) hat2, _, _, rfl, rfl, ?_⟩
        refine ⟨_, rfl, _, rfl, _, rfl, _, rfl, _, rfl, cl, _, rfl, hclA, fun rl hrl => ?_⟩
        have hcut2 : cutV ((allE (dn ++ c :: rest)).map V.int) (some ((allE dn).length + 1 + ((readOf c).2.1.length : Int) + 1)) (some ((allE dn).length + 1 + ((readOf c).2.1.length : Int) + 1 + ((readOf c).2.2.length : Int))) = (readOf c).2.2.map V.int :=
          cutV_mid (a := allE dn ++ ((readOf c).1 :: ((readOf c).2.1 ++ [((readOf c).2.2.length : Int)]))) (m := (readOf c).2.2) (b := allE rest) (by rw [hxs, htl]; simp) (by simp; omega) (by simp; omega)
        rw [hcut2]
        have hrlA : H' rl = none := by
          cases e : H' rl with
          | none => rfl
          | some o => rw [frA _ _ e] at hrl; cases hrl
        refine ⟨_, rfl, .inl ⟨rfl, _, SqL.of (by rw [upd_ne (ne_of_none (frA _ _ hrd') hrl)]; exact frA _ _ hrd')⟩, _, rfl, _, rfl, _, rfl, by show 3 ≤ 16777216; decide, fun p hp => ?_⟩
        obtain ⟨q1, q2⟩ := fin _ rl (some (.int ((allE dn).length + 1 + ((readOf c).2.1.length : Int) + 1))) ((allE dn).length + 1 + ((readOf c).2.1.length : Int) + 1 + ((readOf c).2.2.length : Int)) (gA.new hrl) (fun b o e => by rw [upd_ne (ne_of_none (frA _ _ e) hrl)]; exact frA _ _ e) (by rw [upd_ne (ne_of_none hnlA hrl)]; exact hnlA) upd_same hrlA (by omega) p hp
        exact ⟨rd, _, _, rfl, rfl, q1, hsz, _, rfl, q2⟩
      · refine iteF (decide_eq_false fun z => h1 (V.int.inj z)) ?_
        rw [htl] at helen
        refine ⟨_, rfl, .inl ⟨rfl, _, SqL.of (frA _ _ hrd')⟩, _, rfl, _, rfl, _, rfl, by show 3 ≤ 16777216; decide, fun p hp => ?_⟩
        obtain ⟨q1, q2⟩ := fin _ r0 v7 ((allE dn).length + 1 + ((readOf c).2.1.length : Int)) gA frA hnlA (by rw [upd_same, hrw]; rfl) hr02 (by rw [helen]; simp) p hp
        exact ⟨rd, _, _, rfl, rfl, q1, hsz, _, rfl, q2⟩
end
end Jp

set_option Elab.async false
set_option maxRecDepth 100000
set_option maxHeartbeats 4000000
/-! All calls answered. -/
namespace Jp
open PySem PySem.Spec PyProof.Rows L2 LamX Jl
open Jc (MS JO)
def spAns (K : PySem.W.Frag) (T : List (Addr × Str)) : Sp := fun vs H Q _ => ∃ cl cs, vs = [.ref cl] ∧ SqL K H cl ((allE cs).map V.int) ∧ cs.length ≤ 250 ∧ (∀ c ∈ cs, (readOf c).2.2.length ≤ 40) ∧ Tabs T H ∧ (PyFlat.told (play MS.init cs)).length ≤ 10000000 ∧
  ∀ H' l, H' l = some (.lst ((PyFlat.told (play MS.init cs)).map V.int)) → Q (.ref l) H'
theorem told_take {cs : List Kg63.Call} {i : Nat} {c : Kg63.Call} (h : cs[i]? = some c) : PyFlat.told (play MS.init (cs.take (i + 1))) = PyFlat.told (play MS.init (cs.take i)) ++ (((after MS.init (cs.take i)).step c).2.length : Int) :: ((after MS.init (cs.take i)).step c).2 := by
  rw [List.take_add_one, h]
  show PyFlat.told (play MS.init (cs.take i ++ [c])) = _
  rw [play_snoc, told_append]
  congr 1
  show [_].flatMap _ = _
  simp
theorem told_le (cs : List Kg63.Call) (i : Nat) : (PyFlat.told (play MS.init (cs.take i))).length ≤ (PyFlat.told (play MS.init cs)).length := by
  have e : PyFlat.told (play MS.init cs) = PyFlat.told (play MS.init (cs.take i)) ++ PyFlat.told (play (after MS.init (cs.take i)) (cs.drop i)) := by
    rw [← told_append, ← play_append, List.take_append_drop]
  rw [e, List.length_append]
  omega
section
variable {P : Program} {w : World} {K : PySem.W.Frag} {mg : Str → Option Value} {base : Heap} {cA cJ cC cL P1 P2 : Addr}
theorem CompAt.lists_some {T : List (Addr × Str)} {N : Nat} {H : Hp} {A : CAd} {m : MS} (h : CompAt T cA cJ cC N H A m) : ∀ b ∈ A.lists, H b ≠ none := fun b hb => by
  rcases List.mem_cons.mp hb with rfl | hb
  · rw [h.lst]; simp
  · rcases List.mem_cons.mp hb with rfl | hb
    · rw [h.hts]; simp
    · cases ej : m.jo with
      | none => rw [h.jnone ej] at hb; cases hb
      | some j =>
        obtain ⟨ja, ol, cl, dl, e1, e2, _⟩ := h.jsome j ej
        rw [e1] at hb
        have hb : b ∈ [ol] := hb
        rw [List.mem_singleton.mp hb, e2.off]; simp
/-- a store at a list that is none of the contest's -/
theorem CompAt.putX {T : List (Addr × Str)} {N : Nat} {H : Hp} {A : CAd} {m : MS} {x : Addr} {xs : List V} {o : HO} (h : CompAt T cA cJ cC N H A m) (hx : H x = some (.lst xs)) (n1 : x ∉ A.foot) (n2 : x ∉ A.lists) : CompAt T cA cJ cC N (upd H x o) A m := by
  have at1 : ∀ b u, H b = some u → b ∈ A.foot → (upd H x o) b = some u := fun b u e hb => by rw [upd_ne (fun z => n1 (by rw [← z]; exact hb))]; exact e
  have at2 : ∀ b u, H b = some u → b ∈ A.lists → (upd H x o) b = some u := fun b u e hb => by rw [upd_ne (fun z => n2 (by rw [← z]; exact hb))]; exact e
  have at3 : ∀ b u, H b = some u → (∀ q, u ≠ .lst q) → (upd H x o) b = some u := fun b u e hu => by rw [upd_ne (ne_of e hx (hu _))]; exact e
  obtain ⟨dx, ho⟩ := h.obj
  refine ⟨⟨dx, at1 _ _ ho (List.mem_cons_self ..)⟩, at2 _ _ h.lst (List.mem_cons_self ..), at2 _ _ h.hts (List.mem_cons_of_mem _ (List.mem_cons_self ..)), h.alen, h.llen, fun i a l ha hl => ?_, h.nda, h.ndl, h.small, h.hlen, h.jnone, fun j e => ?_, Tabs.fr h.tabs fun b u e hb => at3 b u e ?_⟩
  · refine (h.at_ i a l ha hl).fr fun b u e hb => ?_
    rcases hb with rfl | rfl | ⟨t, rfl⟩
    · exact at1 _ _ e (as_foot ha)
    · exact at1 _ _ e (ls_foot hl)
    · exact at3 _ _ e (by intro q z; cases z)
  · obtain ⟨ja, ol, cl, dl, e1, e2, e3, e4⟩ := h.jsome j e
    have jf : A.jfoot = [ja, cl, dl] := by unfold CAd.jfoot; rw [e1]
    have hj : ∀ b ∈ [ja, cl, dl], b ∈ A.foot := fun b hb => List.mem_cons_of_mem _ (List.mem_append_right _ (List.mem_append_right _ (by rw [jf]; exact hb)))
    refine ⟨ja, ol, cl, dl, e1, e2.fr fun b u eb hb => ?_, e3, e4⟩
    rcases hb with rfl | rfl | rfl | rfl
    · exact at1 _ _ eb (hj _ (by simp))
    · exact at2 _ _ eb (by unfold CAd.lists; rw [e1]; simp)
    · exact at1 _ _ eb (hj _ (by simp))
    · exact at1 _ _ eb (hj _ (by simp))
  · rcases hb with ⟨ps, rfl⟩ | ⟨φ, rfl⟩ <;> (intro q z; cases z)
theorem scAns : FnScope ["calls", "line", "told", "read", "answer"] ["calls"] (defScope (top 45)) := ⟨rfl, rfl, rfl, by decide +kernel, rfl, by decide +kernel, by decide +kernel⟩
theorem ok_ans {f : Addr} {fd : FuncData} (F : Fun K "answers" "answers" (top 45) f fd) (T : Txt K mg cA cJ cC cL) (La : Lam K mg base cC P1 P2) : FnOk P w K mg base CX0 11 f fd ["calls"] (spAns K (TTof P1 P2)) := by
  obtain ⟨f0, fd0, F0, b0, m0⟩ := T.L0
  have G0 : FnOk P w K mg base CX0 5 f0 fd0 ["self"] (spLInit (TTof P1 P2) cA cJ cC cL) := ok_L0 F0 T
  obtain ⟨fr, fdr, Fr, br, gr, kr⟩ := T.d_read_calls
  have Gr : FnOk P w K mg base CX0 1 fr fdr ["calls"] (spRead K (TTof P1 P2)) := ok_read Fr T
  obtain ⟨f1, fd1, F1, b1, m1⟩ := T.L1
  have G1 : FnOk P w K mg base CX0 10 f1 fd1 ["self", "call", "numbers", "row"] (spL (TTof P1 P2) cA cJ cC cL 1 argsC (fun N m _ => Rch m ∧ N < 1000) fun m c => m.step c) := ok_L1 F1 T La
  refine F.ok scAns (fun vs H Q E h => ?_) (fun cdv A outer s H vs Q E hr h => ?_)
  · obtain ⟨cl, cs, rfl, _⟩ := h
    rfl
  · obtain ⟨cl, cs, rfl, hcl, hlen, hrow, htab, hbig, k⟩ := h
    refine ⟨_, pss_cons (ps_set (i := 1) scAns.nd rfl (.inl rfl) (pe_make0 m0 G0 (hr.mono (by decide : 6 ≤ 10)) (by rfl) T.gL b0 .nil pass0))
      (pss_cons (ps_set (i := 2) scAns.nd rfl (.inl rfl) (pe_lst pa_nil))
      (pss_cons (ps_for PassesOwn.never rfl (pi_list (pe_call Gr (hr.mono (by decide : 1 ≤ 10)) (by rfl) gr kr br .nil pass0 (pa_cons (pv 0) pa_nil))) (pg_name (i := 3) scAns.nd rfl (Or.inl rfl))
        (pss_cons (ps_set (i := 4) scAns.nd rfl (.inl rfl) (pe_meth (pv 1) T.clL m1 G1 hr b1 .nil pass0 (pa_cons (pe_ix (r := rIxT K) ix_tup (pv 3) pe_int (fun _ _ => rfl)) (pa_cons (pe_ix (r := rIxT K) ix_tup (pv 3) pe_int (fun _ _ => rfl)) (pa_cons (pe_ix (r := rIxT K) ix_tup (pv 3) pe_int (fun _ _ => rfl)) pa_nil)))))
        (pss_cons (ps_expr (pe_bm PySem.F.plainAttrs_list PySem.F.slot_list_append PySem.F.type_list_append mt_append (pv 2) (pa_cons (pe_callB call_len_seq (by rfl) T.len PySem.boot_len (pa_cons (pv 4) pa_nil)) pa_nil)))
        (pss_one (ps_expr (pe_bm PySem.F.plainAttrs_list PySem.F.slot_list_extend PySem.F.type_list_extend mt_extend (pv 2) (pa_cons (pv 4) pa_nil)))))))
      (pss_one (ps_ret (pv 2))))), ?_⟩
    -- line = Line()
    refine fun lo dx hlo hdx hne => ?_
    have fr0 : ∀ b o, H b = some o → (upd (upd H dx (.own lo)) lo (.ins cL dx [])) b = some o := fun b o e => by rw [upd_ne (ne_of_none e hlo), upd_ne (ne_of_none e hdx)]; exact e
    refine ⟨lo, dx, rfl, upd_same, htab.ext fr0, fun H1 A0 hL0 hft0 hls0 fr1 => ⟨rfl, ?_⟩⟩
    have fr01 : ∀ b o, H b = some o → H1 b = some o := fun b o e => fr1 b o (fr0 b o e) (ne_of_none e hlo)
    have hcl1 : SqL K H1 cl ((allE cs).map V.int) := SqLgo (TT := TTof P1 P2) hcl (.of fr01)
    -- told = []
    refine ⟨Nat.zero_le _, fun tl htl => ?_⟩
    have g1 : Go (TTof P1 P2) H1 (upd H1 tl (.lst [])) := Go.refl.new htl
    have hfoot1 := hL0.comp.foot_some
    -- read_calls(calls)
    refine ⟨_, rfl, cl, cs, rfl, SqLgo hcl1 g1, hlen, hrow, fun H2 rd ps g2 hrd hrd2 hps => ?_⟩
    have hpl : ps.length = cs.length := Paired.length hps
    have g12 := g1.trans g2
    have hL2 := hL0.go g12
    have htl2 : H2 tl = some (.lst []) := g2.at upd_same
    refine ⟨rd, rfl, ⟨_, SqL.of hrd2⟩, ?_⟩
    -- what is kept
    have nT : ∀ b, (upd H1 tl (.lst [])) b = none → (b ∉ A0.foot ∧ b ∉ A0.lists) ∧ b ≠ tl ∧ b ≠ lo := fun b e => by
      have hb1 : b ≠ tl := fun z => by rw [z, upd_same] at e; cases e
      rw [upd_ne hb1] at e
      refine ⟨⟨fun hf => hfoot1 b hf e, fun hf => hL0.comp.lists_some b hf e⟩, hb1, fun z => ?_⟩
      obtain ⟨d, ho⟩ := hL0.obj
      rw [z, ho] at e; cases e
    have ntl : tl ∉ A0.foot ∧ tl ∉ A0.lists := ⟨fun hf => hfoot1 tl hf htl, fun hf => hL0.comp.lists_some tl hf htl⟩
    have ntlo : tl ≠ lo := fun z => by
      obtain ⟨d, ho⟩ := hL0.obj
      rw [z, ho] at htl; cases htl
    refine for_list (K := K) (a := rd) (xs := ps.map V.ref) (fun i σ H' => ∃ N A, LineAt (TTof P1 P2) cA cJ cC cL N H' lo A (after MS.init (cs.take i)) ∧ N ≤ i ∧ (∀ b o, H2 b = some o → (∀ q, o ≠ .tbl q) → b ∉ A0.foot ∧ b ∉ A0.lists → b ∉ A.foot ∧ b ∉ A.lists) ∧
        (∀ b o, H2 b = some o → (∀ q, o ≠ .tbl q) → b ∉ A0.foot ∧ b ∉ A0.lists → b ≠ lo → b ≠ tl → H' b = some o) ∧ H' tl = some (.lst ((PyFlat.told (play MS.init (cs.take i))).map V.int)) ∧ ∃ v3 v4, σ = [some (.ref cl), some (.ref lo), some (.ref tl), v3, v4])
      ⟨0, A0, hL2, Nat.le_refl _, fun _ _ _ _ h => h, fun _ _ e _ _ _ _ => e, htl2, none, none, rfl⟩ (fun i σ H' _ ⟨N, A, _, _, _, fr, _⟩ => SqL.of (fr rd _ hrd2 (by intro q z; cases z) (nT rd hrd).1 (nT rd hrd).2.2 (nT rd hrd).2.1)) ?_ ?_
    · rintro i y σ H' hi ⟨N, A, hL, hNi, hf, fr, ht, v3, v4, rfl⟩
      obtain ⟨p, hp, rfl⟩ := map_get hi
      obtain ⟨c, hc, nl, rl, e1, e2, e3, e4, e5, e6⟩ := paired_getL hps hp
      have hcm : c ∈ cs := List.mem_of_getElem? hc
      have hi2 : i < cs.length := (List.getElem?_eq_some_iff.mp hc).1
      have kp : ∀ b o, H2 b = some o → (∀ q, o ≠ .tbl q) → (upd H1 tl (.lst [])) b = none → H' b = some o := fun b o e n e' => fr b o e n (nT b e').1 (nT b e').2.2 (nT b e').2.1
      have e1 := kp _ _ e1 (by intro q z; cases z) e4
      have e2 := kp _ _ e2 (by intro q z; cases z) e5
      have e3 := kp _ _ e3 (by intro q z; cases z) e6
      obtain ⟨dl, ho⟩ := hL.obj
      have hrch : Rch (after MS.init (cs.take i)) := play_rch _ ⟨_, Jc.R.init⟩
      have htfl := hf tl _ htl2 (by intro q z; cases z) ntl
      have htf : tl ∉ A.foot := htfl.1
      refine ⟨_, rfl, lo, dl, _, rfl, ho, rfl, _, rfl, p, _, _, .int (readOf c).1, rfl, rfl, SqT.of e1, atI_nat (j := 0) rfl, _, rfl, p, _, _, .ref nl, rfl, rfl, SqT.of e1, atI_nat (j := 1) rfl, _, rfl, p, _, _, .ref rl, rfl, rfl, SqT.of e1, atI_nat (j := 2) rfl, lo, N, A, _, c, _, rfl, ⟨nl, rl, rfl, e2, e3, by have := hrow c hcm; omega⟩, hL, ⟨hrch, by omega⟩, fun N' H3 A' l hL3 hN3 hln hl3 hfr => ?_⟩
      have hl3 : H3 l = some (.lst (((after MS.init (cs.take i)).step c).2.map V.int)) := hl3
      have ht3 : H3 tl = some (.lst ((PyFlat.told (play MS.init (cs.take i))).map V.int)) := hfr.go.at ht fun z => z.elim htf ntlo
      have nlt : l ≠ tl := fun z => by
        rw [z] at hln
        rcases hln with h | h
        · rw [h] at ht; cases ht
        · exact htf h
      have htk := told_take hc
      have hb1 := told_le cs (i + 1)
      rw [htk, List.length_append, List.length_cons] at hb1
      refine ⟨_, rfl, .inl ⟨rfl, _, SqL.of ht3⟩, _, rfl, l, _, rfl, .inl (SqL.of hl3), tl, _, _, rfl, rfl, ht3, ?_, ?_⟩
      · rw [List.length_map]
        show _ < 16777216
        omega
      refine ⟨_, rfl, .inl ⟨rfl, _, SqL.of upd_same⟩, _, rfl, tl, l, _, _, rfl, rfl, upd_same, by rw [upd_ne nlt]; exact hl3, ?_, ?_⟩
      · rw [List.length_append, List.length_map, List.length_map]
        show _ + 1 + _ ≤ 16777216
        omega
      rw [upd_upd]
      have e5 : after MS.init (cs.take (i + 1)) = ((after MS.init (cs.take i)).step c).1 := by
        rw [List.take_add_one, hc]
        exact after_snoc _ _ _
      obtain ⟨d3, ho3⟩ := hL3.obj
      have htf3 : tl ∉ A'.foot := fun z => by
        rcases hfr.foot tl z with h | h
        · exact htf h
        · rw [h] at ht; cases ht
      have hL4 : LineAt (TTof P1 P2) cA cJ cC cL N' (upd H3 tl (.lst ((PyFlat.told (play MS.init (cs.take i))).map V.int ++ [V.int ((((after MS.init (cs.take i)).step c).2.map V.int).length : Nat)] ++ ((after MS.init (cs.take i)).step c).2.map V.int))) lo A' (after MS.init (cs.take (i + 1))) := by
        rw [e5]
        have htl3 : tl ∉ A'.lists := fun z => by
          rcases hfr.ls tl z with h | h | h
          · exact htfl.2 h
          · exact htf h
          · rw [h] at ht; cases ht
        exact ⟨⟨d3, by rw [upd_ne ntlo.symm]; exact ho3⟩, hL3.comp.putX ht3 htf3 htl3⟩
      refine ⟨N', A', hL4, by omega, fun b o e n hb => ?_, fun b o e n hb h1 h2 => ?_, ?_, _, _, rfl⟩
      · have hbn : H' b = none → False := fun h => by
          by_cases q1 : b = lo
          · rw [q1, ho] at h; cases h
          · by_cases q2 : b = tl
            · rw [q2, ht] at h; cases h
            · rw [fr b o e n hb q1 q2] at h; cases h
        have hfb := hf b o e n hb
        refine ⟨fun z => ?_, fun z => ?_⟩
        · rcases hfr.foot b z with h | h
          · exact hfb.1 h
          · exact hbn h
        · rcases hfr.ls b z with h | h | h
          · exact hfb.2 h
          · exact hfb.1 h
          · exact hbn h
      · rw [upd_ne h2]
        exact hfr.go.at (fr b o e n hb h1 h2) (fun z => z.elim (hf b o e n hb).1 h1) n
      · rw [upd_same, htk, List.map_append, List.map_cons, List.length_map]
        simp
    · rintro σ H' ⟨N, A, _, _, _, _, ht, v3, v4, rfl⟩
      rw [List.length_map, hpl, List.take_length] at ht
      exact ⟨_, rfl, k H' tl ht⟩
end
end Jp

set_option Elab.async false
set_option maxRecDepth 100000
set_option maxHeartbeats 4000000
/-! What the top has written. -/
namespace Jp
open PySem PySem.Spec PyProof.Rows L2 LamX Jl
open Jc (MS JO)
def Bnd (x qual : Str) (st : Stmt) (ps : List Str) : Prop := ∀ (kV doc pm : Value) (an : Option Addr) (cdv ct : Value) (us : List Value), us.length = ps.length → bindArgs (PySem.W.fnOf x qual (defArgs st) (defBody st) (defScope st) .none kV doc pm an cdv ct) ⟨us, []⟩ = pure (ps.zip us)
theorem bnd_A0 : Bnd "__init__" "Athlete.__init__" (sA 0) ["self"] := fun _ _ _ _ _ _ us hl => match us, hl with | [_], _ => rfl
theorem bnd_A1 : Bnd "add_jump" "Athlete.add_jump" (sA 1) ["self", "height", "how"] := fun _ _ _ _ _ _ us hl => match us, hl with | [_, _, _], _ => rfl
theorem bnd_A2 : Bnd "failures_in_a_row" "Athlete.failures_in_a_row" (sA 2) ["self"] := fun _ _ _ _ _ _ us hl => match us, hl with | [_], _ => rfl
theorem bnd_A3 : Bnd "is_out" "Athlete.is_out" (sA 3) ["self"] := fun _ _ _ _ _ _ us hl => match us, hl with | [_], _ => rfl
theorem bnd_A4 : Bnd "is_due_at" "Athlete.is_due_at" (sA 4) ["self", "bar"] := fun _ _ _ _ _ _ us hl => match us, hl with | [_, _], _ => rfl
theorem bnd_A5 : Bnd "failures_at" "Athlete.failures_at" (sA 5) ["self", "height"] := fun _ _ _ _ _ _ us hl => match us, hl with | [_, _], _ => rfl
theorem bnd_A6 : Bnd "failures_up_to" "Athlete.failures_up_to" (sA 6) ["self", "height"] := fun _ _ _ _ _ _ us hl => match us, hl with | [_, _], _ => rfl
theorem bnd_A7 : Bnd "greatest_cleared" "Athlete.greatest_cleared" (sA 7) ["self"] := fun _ _ _ _ _ _ us hl => match us, hl with | [_], _ => rfl
theorem bnd_A8 : Bnd "greatest_tried" "Athlete.greatest_tried" (sA 8) ["self"] := fun _ _ _ _ _ _ us hl => match us, hl with | [_], _ => rfl
theorem bnd_J0 : Bnd "__init__" "JumpOff.__init__" (sJ 0) ["self", "numbers", "bar", "turn"] := fun _ _ _ _ _ _ us hl => match us, hl with | [_, _, _, _], _ => rfl
theorem bnd_J1 : Bnd "is_over" "JumpOff.is_over" (sJ 1) ["self"] := fun _ _ _ _ _ _ us hl => match us, hl with | [_], _ => rfl
theorem bnd_J2 : Bnd "who_is_up" "JumpOff.who_is_up" (sJ 2) ["self"] := fun _ _ _ _ _ _ us hl => match us, hl with | [_], _ => rfl
theorem bnd_J3 : Bnd "take_jump" "JumpOff.take_jump" (sJ 3) ["self", "is_cleared"] := fun _ _ _ _ _ _ us hl => match us, hl with | [_, _], _ => rfl
theorem bnd_J4 : Bnd "end_round" "JumpOff.end_round" (sJ 4) ["self"] := fun _ _ _ _ _ _ us hl => match us, hl with | [_], _ => rfl
theorem bnd_J5 : Bnd "rounds_of" "JumpOff.rounds_of" (sJ 5) ["self", "number"] := fun _ _ _ _ _ _ us hl => match us, hl with | [_, _], _ => rfl
theorem bnd_C0 : Bnd "__init__" "Competition.__init__" (sC 0) ["self", "how_many", "rise", "turn", "heights"] := fun _ _ _ _ _ _ us hl => match us, hl with | [_, _, _, _, _], _ => rfl
theorem bnd_C1 : Bnd "phase" "Competition.phase" (sC 1) ["self"] := fun _ _ _ _ _ _ us hl => match us, hl with | [_], _ => rfl
theorem bnd_C2 : Bnd "bar_now" "Competition.bar_now" (sC 2) ["self"] := fun _ _ _ _ _ _ us hl => match us, hl with | [_], _ => rfl
theorem bnd_C3 : Bnd "has_athlete" "Competition.has_athlete" (sC 3) ["self", "number"] := fun _ _ _ _ _ _ us hl => match us, hl with | [_, _], _ => rfl
theorem bnd_C4 : Bnd "is_out" "Competition.is_out" (sC 4) ["self", "number"] := fun _ _ _ _ _ _ us hl => match us, hl with | [_, _], _ => rfl
theorem bnd_C5 : Bnd "not_out" "Competition.not_out" (sC 5) ["self"] := fun _ _ _ _ _ _ us hl => match us, hl with | [_], _ => rfl
theorem bnd_C6 : Bnd "who_is_in" "Competition.who_is_in" (sC 6) ["self"] := fun _ _ _ _ _ _ us hl => match us, hl with | [_], _ => rfl
theorem bnd_C7 : Bnd "due" "Competition.due" (sC 7) ["self"] := fun _ _ _ _ _ _ us hl => match us, hl with | [_], _ => rfl
theorem bnd_C9 : Bnd "which_jump" "Competition.which_jump" (sC 9) ["self"] := fun _ _ _ _ _ _ us hl => match us, hl with | [_], _ => rfl
theorem bnd_C10 : Bnd "take_jump" "Competition.take_jump" (sC 10) ["self", "how"] := fun _ _ _ _ _ _ us hl => match us, hl with | [_, _], _ => rfl
theorem bnd_C11 : Bnd "leave" "Competition.leave" (sC 11) ["self", "number"] := fun _ _ _ _ _ _ us hl => match us, hl with | [_, _], _ => rfl
theorem bnd_C12 : Bnd "put_bar" "Competition.put_bar" (sC 12) ["self", "height"] := fun _ _ _ _ _ _ us hl => match us, hl with | [_, _], _ => rfl
theorem bnd_C13 : Bnd "greatest_tried" "Competition.greatest_tried" (sC 13) ["self"] := fun _ _ _ _ _ _ us hl => match us, hl with | [_], _ => rfl
theorem bnd_C14 : Bnd "height_behind" "Competition.height_behind" (sC 14) ["self", "height"] := fun _ _ _ _ _ _ us hl => match us, hl with | [_, _], _ => rfl
theorem bnd_C15 : Bnd "raise_bar_if_done" "Competition.raise_bar_if_done" (sC 15) ["self"] := fun _ _ _ _ _ _ us hl => match us, hl with | [_], _ => rfl
theorem bnd_C16 : Bnd "order" "Competition.order" (sC 16) ["self"] := fun _ _ _ _ _ _ us hl => match us, hl with | [_], _ => rfl
theorem bnd_C17 : Bnd "first_ones" "Competition.first_ones" (sC 17) ["self"] := fun _ _ _ _ _ _ us hl => match us, hl with | [_], _ => rfl
theorem bnd_C18 : Bnd "start_jump_off" "Competition.start_jump_off" (sC 18) ["self"] := fun _ _ _ _ _ _ us hl => match us, hl with | [_], _ => rfl
theorem bnd_C19 : Bnd "decline_jump_off" "Competition.decline_jump_off" (sC 19) ["self"] := fun _ _ _ _ _ _ us hl => match us, hl with | [_], _ => rfl
theorem bnd_L0 : Bnd "__init__" "Line.__init__" (sL 0) ["self"] := fun _ _ _ _ _ _ us hl => match us, hl with | [_], _ => rfl
theorem bnd_L1 : Bnd "answer" "Line.answer" (sL 1) ["self", "call", "numbers", "row"] := fun _ _ _ _ _ _ us hl => match us, hl with | [_, _, _, _], _ => rfl
theorem bnd_L2 : Bnd "begin" "Line.begin" (sL 2) ["self", "how_many", "rise", "turn", "heights"] := fun _ _ _ _ _ _ us hl => match us, hl with | [_, _, _, _, _], _ => rfl
theorem bnd_L3 : Bnd "up" "Line.up" (sL 3) ["self"] := fun _ _ _ _ _ _ us hl => match us, hl with | [_], _ => rfl
theorem bnd_L4 : Bnd "jump" "Line.jump" (sL 4) ["self", "how"] := fun _ _ _ _ _ _ us hl => match us, hl with | [_, _], _ => rfl
theorem bnd_L5 : Bnd "leave" "Line.leave" (sL 5) ["self", "number"] := fun _ _ _ _ _ _ us hl => match us, hl with | [_, _], _ => rfl
theorem bnd_L6 : Bnd "height" "Line.height" (sL 6) ["self", "bar"] := fun _ _ _ _ _ _ us hl => match us, hl with | [_, _], _ => rfl
theorem bnd_L7 : Bnd "off" "Line.off" (sL 7) ["self", "wanted"] := fun _ _ _ _ _ _ us hl => match us, hl with | [_, _], _ => rfl
theorem bnd_L8 : Bnd "card" "Line.card" (sL 8) ["self", "number"] := fun _ _ _ _ _ _ us hl => match us, hl with | [_, _], _ => rfl
theorem bnd_L9 : Bnd "order" "Line.order" (sL 9) ["self"] := fun _ _ _ _ _ _ us hl => match us, hl with | [_], _ => rfl
theorem bnd_L10 : Bnd "now" "Line.now" (sL 10) ["self"] := fun _ _ _ _ _ _ us hl => match us, hl with | [_], _ => rfl
theorem bnd_L11 : Bnd "may_pass" "Line.may_pass" (sL 11) ["self"] := fun _ _ _ _ _ _ us hl => match us, hl with | [_], _ => rfl
theorem bnd_L12 : Bnd "with_state" "Line.with_state" (sL 12) ["self", "first"] := fun _ _ _ _ _ _ us hl => match us, hl with | [_, _], _ => rfl
theorem bnd_d_standing : Bnd "standing" "standing" (top 9) ["athlete", "rounds"] := fun _ _ _ _ _ _ us hl => match us, hl with | [_, _], _ => rfl
theorem bnd_d_read_calls : Bnd "read_calls" "read_calls" (top 27) ["calls"] := fun _ _ _ _ _ _ us hl => match us, hl with | [_], _ => rfl
theorem bnd_d_are_heights : Bnd "are_heights" "are_heights" (top 42) ["heights"] := fun _ _ _ _ _ _ us hl => match us, hl with | [_], _ => rfl
theorem bnd_placed : Bnd "placed" "placed" (top 10) ["standings"] := fun _ _ _ _ _ _ us hl => match us, hl with | [_], _ => rfl
theorem bnd_up : Bnd "who_is_up" "Competition.who_is_up" (sC 8) ["self"] := fun _ _ _ _ _ _ us hl => match us, hl with | [_], _ => rfl
theorem bnd_ans : Bnd "answers" "answers" (top 45) ["calls"] := fun _ _ _ _ _ _ us hl => match us, hl with | [_], _ => rfl
section
variable {K : PySem.W.Frag} {h : Heap} {mg : Str → Option Value} {C f : Addr} {x name qual : Str} {st : Stmt} {ps : List Str} {oc kV dc pm cd ct : Value} {od an : Option Addr} {sl : Array (Option Value)}
theorem mth_mk (b : Bnd name qual st ps) (a : PySem.W.findIn K (.ref C) name = some (some (.ref f))) (i : PySem.W.isFn K (.ref f) = true) (l : K.lookup f = some ⟨oc, od, .func (PySem.W.fnOf name qual (defArgs st) (defBody st) (defScope st) .none kV dc pm an cd ct), sl⟩) (c : PySem.W.codeIn K cd qual = true) (k : PySem.W.keepIn K (.ref f) = true) : Mth K C name qual st ps :=
  ⟨f, _, fun_mk l c k, (fun_mk l c k).binds b, ⟨a, i, k⟩⟩
theorem mkr_mk (b : Bnd "__init__" qual st ps) (a : PySem.W.findIn K (.ref C) "__init__" = some (some (.ref f))) (i : PySem.W.isFn K (.ref f) = true) (l : K.lookup f = some ⟨oc, od, .func (PySem.W.fnOf "__init__" qual (defArgs st) (defBody st) (defScope st) .none kV dc pm an cd ct), sl⟩) (c : PySem.W.codeIn K cd qual = true) (k : PySem.W.keepIn K (.ref f) = true)
    (m : PySem.W.makesIn K C = true) (kc : PySem.W.keepIn K (.ref C) = true) : Mkr K C qual st ps :=
  ⟨f, _, fun_mk l c k, (fun_mk l c k).binds b, ⟨m, a, i, kc⟩⟩
theorem dfn_mk (X : K.In h) (G : h.Ns mainGlobals mg) (b : Bnd name name st ps) (a : PySem.W.nsIn K mainGlobals name = some (some (.ref f))) (l : K.lookup f = some ⟨oc, od, .func (PySem.W.fnOf name name (defArgs st) (defBody st) (defScope st) .none kV dc pm an cd ct), sl⟩) (c : PySem.W.codeIn K cd name = true) (k : PySem.W.keepIn K (.ref f) = true) : Dfn K mg name st ps :=
  ⟨f, _, fun_mk l c k, (fun_mk l c k).binds b, PySem.W.mg_of X G a, k⟩
theorem ic_mk {n : Int} {t : Tok} (X : K.In h) (G : h.Ns mainGlobals mg) (a : PySem.W.nsIn K mainGlobals x = some (some (.int n t))) : Ic mg x n := ⟨t, PySem.W.mg_of X G a⟩
def kgetB (es : Array DictEntry) (n v : Int) : Bool := match findBy Value.isInt es n with
  | some (.int v' _) => v' == v
  | _ => false
def plainB (es : Array DictEntry) : Bool := es.toList.all intEnt && (kgetB es 1 3 && (kgetB es 2 0 && (kgetB es 3 1 && (kgetB es 4 1 && (kgetB es 5 1 && (kgetB es 6 1 && (kgetB es 7 1 && (kgetB es 8 0 && kgetB es 9 0))))))))
theorem kget_mk {D : Addr} {es : Array DictEntry} {m : Nat} {n v : Int} (l : K.lookup D = some ⟨.type "dict", none, .dict es m, #[]⟩) (a : es.toList.all intEnt = true) (b : kgetB es n v = true) : KGet K D n v := by
  unfold kgetB at b
  split at b
  · rename_i v' t e
    exact ⟨es, m, t, l, a, by rw [e, eq_of_beq b]⟩
  · cases b
theorem plain_mk {D : Addr} {es : Array DictEntry} {m : Nat} (X : K.In h) (G : h.Ns mainGlobals mg) (a : PySem.W.nsIn K mainGlobals "PLAIN_NUMBERS" = some (some (.ref D))) (l : K.lookup D = some ⟨.type "dict", none, .dict es m, #[]⟩) (b : plainB es = true) :
    ∃ D, mg "PLAIN_NUMBERS" = some (.ref D) ∧ KGet K D 1 3 ∧ KGet K D 2 0 ∧ KGet K D 3 1 ∧ KGet K D 4 1 ∧ KGet K D 5 1 ∧ KGet K D 6 1 ∧ KGet K D 7 1 ∧ KGet K D 8 0 ∧ KGet K D 9 0 := by
  unfold plainB at b
  simp only [Bool.and_eq_true] at b
  obtain ⟨b0, b1, b2, b3, b4, b5, b6, b7, b8, b9⟩ := b
  exact ⟨D, PySem.W.mg_of X G a, kget_mk l b0 b1, kget_mk l b0 b2, kget_mk l b0 b3, kget_mk l b0 b4, kget_mk l b0 b5, kget_mk l b0 b6, kget_mk l b0 b7, kget_mk l b0 b8, kget_mk l b0 b9⟩
end
/-- all that's known of the row's def at the head -/
theorem at_mk {K : PySem.W.Frag} {h : Heap} {mg : Str → Option Value} {fa f1 f2 f3 cA cJ cC cL c1 c2 P1 P2 : Addr} {w : World} {od1 an1 od2 an2 od3 an3 : Option Addr} {sl1 sl2 sl3 : Array (Option Value)} {oc1 kV1 dc1 pm1 ct1 oc2 kV2 dc2 pm2 ct2 oc3 kV3 dc3 pm3 cd3 ct3 : Value}
    (X : K.In h) (G : h.Ns mainGlobals mg) (hfa : mg "answers" = some (.ref fa)) (ne : P1 ≠ P2) (t1 : h.get? P1 = some { cls := .none, data := .fields #[] }) (t2 : h.get? P2 = some { cls := .none, data := .fields #[] })
    (_bA : PySem.W.nsIn K mainGlobals "Athlete" = some (some (.ref cA))) (_bJ : PySem.W.nsIn K mainGlobals "JumpOff" = some (some (.ref cJ))) (_bC : PySem.W.nsIn K mainGlobals "Competition" = some (some (.ref cC))) (_bL : PySem.W.nsIn K mainGlobals "Line" = some (some (.ref cL)))
    (a1 : PySem.W.nsIn K mainGlobals "placed" = some (some (.ref f1))) (l1 : K.lookup f1 = some ⟨oc1, od1, .func (PySem.W.fnOf "placed" "placed" (defArgs (top 10)) (defBody (top 10)) (defScope (top 10)) .none kV1 dc1 pm1 an1 (.ref c1) ct1), sl1⟩) (e1 : PySem.W.codeIn K (.ref c1) "placed" = true) (k1 : PySem.W.keepIn K (.ref f1) = true)
    (a2 : PySem.W.findIn K (.ref cC) "who_is_up" = some (some (.ref f2))) (i2 : PySem.W.isFn K (.ref f2) = true) (l2 : K.lookup f2 = some ⟨oc2, od2, .func (PySem.W.fnOf "who_is_up" "Competition.who_is_up" (defArgs (sC 8)) (defBody (sC 8)) (defScope (sC 8)) .none kV2 dc2 pm2 an2 (.ref c2) ct2), sl2⟩) (e2 : PySem.W.codeIn K (.ref c2) "Competition.who_is_up" = true) (k2 : PySem.W.keepIn K (.ref f2) = true)
    (a3 : PySem.W.nsIn K mainGlobals "answers" = some (some (.ref f3))) (l3 : K.lookup f3 = some ⟨oc3, od3, .func (PySem.W.fnOf "answers" "answers" (defArgs (top 45)) (defBody (top 45)) (defScope (top 45)) .none kV3 dc3 pm3 an3 cd3 ct3), sl3⟩) (e3 : PySem.W.codeIn K cd3 "answers" = true) (k3 : PySem.W.keepIn K (.ref f3) = true)
    (n1 : (K.lookup P1).isNone = true) (n2 : (K.lookup P2).isNone = true) (h1 : PySem.W.codeHdIn K c1 P1 = true) (h2 : PySem.W.codeHdIn K c2 P2 = true)
    (T : Txt K mg cA cJ cC cL) : SpecAtT PySem.Challenge.rw_jumpcontest_s01_answers w K CX0 11 ["calls"] mg fa h := by
  have e := hfa.symm.trans (PySem.W.mg_of X G a3)
  cases e
  have F3 := fun_mk (st := top 45) l3 e3 k3
  refine ⟨PySem.W.fnOf "answers" "answers" (defArgs (top 45)) (defBody (top 45)) (defScope (top 45)) .none kV3 dc3 pm3 an3 cd3 ct3, [(c1, P1), (c2, P2)], spAns K (TTof P1 P2), fun p hp => ?_, fun p hp => ?_, fun p hp => ?_, fun s us hu => match us, hu with | [_], _ => .of_eq rfl, fun H0 H xs a sub htb hwi hask hx => ?_, fun base _ _ htab => ?_⟩
  · rcases List.mem_cons.mp hp with rfl | hp
    · exact t1
    · rw [List.mem_singleton.mp hp]; exact t2
  · rcases List.mem_cons.mp hp with rfl | hp
    · exact Option.isNone_iff_eq_none.mp n1
    · rw [List.mem_singleton.mp hp]; exact Option.isNone_iff_eq_none.mp n2
  · rcases List.mem_cons.mp hp with rfl | hp
    · exact PySem.W.codeHd_of_K X h1
    · rw [List.mem_singleton.mp hp]; exact PySem.W.codeHd_of_K X h2
  · cases hx with
    | cons x1 x2 =>
      cases x2
      cases x1 with
      | lst hs ha =>
        have e := L2.ints_dw a.1 _ ha
        subst e
        have hask : PyKg63.answers_asked a.1 = true := hask
        obtain ⟨cs, g1, g2, g3, g4, g5⟩ := asked_is hask
        refine ⟨_, cs, rfl, ?_, g2, g3, ?_, g5, fun H' p hp => ?_⟩
        · have e : a.1 = allE cs := g1
          rw [← e]
          rcases hs with (hs | ⟨o, hs⟩) | hs
          · exact .inl (.inl (sub _ _ hs))
          · exact .inl (.inr ⟨o, sub _ _ hs⟩)
          · exact .inr hs
        · intro p hp
          rcases List.mem_cons.mp hp with rfl | hp
          · exact TabS.nil (htb _ (List.mem_cons_self ..))
          · rw [List.mem_singleton.mp hp]
            exact TabS.nil (htb (c2, P2) (List.mem_cons_of_mem _ (List.mem_cons_self ..)))
        · have e : PyKg63.answers a.1 = PyFlat.told (play MS.init cs) := g4
          show Dw K H' (.ref p) (PySem.W.Codec.enc (.list 0 1048576 (.int (Int.negSucc 9223372036854775807) (Int.ofNat 18446744073709551615))) (PyKg63.answers a.1))
          rw [e]
          exact .lst (SqL.of hp) (dw_ints _)
  · have tb1 := htab (c1, P1) (List.mem_cons_self ..)
    have tb2 := htab (c2, P2) (List.mem_cons_of_mem _ (List.mem_cons_self ..))
    have F1 : FunC K "placed" "placed" (top 10) f1 (PySem.W.fnOf "placed" "placed" (defArgs (top 10)) (defBody (top 10)) (defScope (top 10)) .none kV1 dc1 pm1 an1 (.ref c1) ct1) c1 := ⟨oc1, od1, kV1, dc1, pm1, an1, ct1, sl1, rfl, l1, e1⟩
    have F2 : FunC K "who_is_up" "Competition.who_is_up" (sC 8) f2 (PySem.W.fnOf "who_is_up" "Competition.who_is_up" (defArgs (sC 8)) (defBody (sC 8)) (defScope (sC 8)) .none kV2 dc2 pm2 an2 (.ref c2) ct2) c2 := ⟨oc2, od2, kV2, dc2, pm2, an2, ct2, sl2, rfl, l2, e2⟩
    have La : Lam K mg base cC P1 P2 := ⟨ne, ⟨c1, f1, _, F1, F1.binds bnd_placed, PySem.W.mg_of X G a1, k1, tb1⟩, ⟨c2, f2, _, F2, F2.binds bnd_up, ⟨a2, i2, k2⟩, tb2⟩⟩
    exact ok_ans F3 T La
end Jp

open PySem PySem.W PyProof.Rows
local macro_rules | `(tactic| o_headS ($_f $k $a $e)) => `(tactic| o_headS (PySem.W.kmHook $k $a $e [148, 210]))
set_option maxRecDepth 100000 in
set_option maxHeartbeats 0 in
theorem PySem.Challenge.cw_jumpcontest_s01_answers_holds : PySem.Challenge.rw_jumpcontest_s01_answers.Holds := by
  w_on; k_headS; (case hw => exact ⟨[.list [.int 9]], by decide +kernel, by decide +kernel⟩)
  k_fillS
  refine Jl.walk_specT (r := PySem.Challenge.rw_jumpcontest_s01_answers) (k := 11) (CX := L2.CX0) (ps := ["calls"]) (by decide +kernel) rfl rfl ⟨rfl, by decide, by decide⟩ (fun w h Y => PySem.W.km_in_of Y) ?F (fun _ _ _ _ z => z)
  case F =>
    intro w mg fa h Y KX G hmg
    have T0 := PySem.W.km_tabs_of Y
    have t1 := T0 148 (by decide)
    have t2 := T0 210 (by decide)
    refine' Jp.at_mk (P1 := 148) (P2 := 210) KX G hmg (by decide) t1 t2 ?bA ?bJ ?bC ?bL ?a1 ?l1 ?e1 ?k1 ?a2 ?i2 ?l2 ?e2 ?k2 ?a3 ?l3 ?e3 ?k3 ?n1 ?n2 ?h1 ?h2 ?T
    (case bA => k_is); (case bJ => k_is); (case bC => k_is); (case bL => k_is)
    (case a1 => k_is); (case l1 => k_is); (case e1 => k_is); (case k1 => k_is)
    (case a2 => k_is); (case i2 => k_is); (case l2 => k_is); (case e2 => k_is); (case k2 => k_is)
    (case a3 => k_is); (case l3 => k_is); (case e3 => k_is); (case k3 => k_is)
    (case n1 => kernel_rfl); (case n2 => kernel_rfl); (case h1 => kernel_rfl); (case h2 => kernel_rfl)
    case T =>
      constructor
      (case clA => refine' ⟨?pg, ?hd, ?po, ?sa⟩; (case pg => k_is); (case hd => k_is); (case po => k_is); (case sa => k_is))
      (case clJ => refine' ⟨?pg, ?hd, ?po, ?sa⟩; (case pg => k_is); (case hd => k_is); (case po => k_is); (case sa => k_is))
      (case clC => refine' ⟨?pg, ?hd, ?po, ?sa⟩; (case pg => k_is); (case hd => k_is); (case po => k_is); (case sa => k_is))
      (case clL => refine' ⟨?pg, ?hd, ?po, ?sa⟩; (case pg => k_is); (case hd => k_is); (case po => k_is); (case sa => k_is))
      (case aJumps => show PySem.W.findIn _ _ _ = _; k_is)
      (case aLeft => show PySem.W.findIn _ _ _ = _; k_is)
      (case jIn => show PySem.W.findIn _ _ _ = _; k_is)
      (case jBar => show PySem.W.findIn _ _ _ = _; k_is)
      (case jTurn => show PySem.W.findIn _ _ _ = _; k_is)
      (case jClears => show PySem.W.findIn _ _ _ = _; k_is)
      (case jCome => show PySem.W.findIn _ _ _ = _; k_is)
      (case cAth => show PySem.W.findIn _ _ _ = _; k_is)
      (case cRise => show PySem.W.findIn _ _ _ = _; k_is)
      (case cTurn => show PySem.W.findIn _ _ _ = _; k_is)
      (case cHeights => show PySem.W.findIn _ _ _ = _; k_is)
      (case cBar => show PySem.W.findIn _ _ _ = _; k_is)
      (case cOff => show PySem.W.findIn _ _ _ = _; k_is)
      (case cDecl => show PySem.W.findIn _ _ _ = _; k_is)
      (case lCon => show PySem.W.findIn _ _ _ = _; k_is)
      (case gA => refine' PySem.W.mg_of KX G ?e; (case e => k_is))
      (case gJ => refine' PySem.W.mg_of KX G ?e; (case e => k_is))
      (case gC => refine' PySem.W.mg_of KX G ?e; (case e => k_is))
      (case gL => refine' PySem.W.mg_of KX G ?e; (case e => k_is))
      (case FAILED => refine' Jp.ic_mk KX G ?e; (case e => k_is))
      (case CLEARED => refine' Jp.ic_mk KX G ?e; (case e => k_is))
      (case PASSED => refine' Jp.ic_mk KX G ?e; (case e => k_is))
      (case TOBEOUT => refine' Jp.ic_mk KX G ?e; (case e => k_is))
      (case ON => refine' Jp.ic_mk KX G ?e; (case e => k_is))
      (case MAY => refine' Jp.ic_mk KX G ?e; (case e => k_is))
      (case INOFF => refine' Jp.ic_mk KX G ?e; (case e => k_is))
      (case OVER => refine' Jp.ic_mk KX G ?e; (case e => k_is))
      (case BEGIN => refine' Jp.ic_mk KX G ?e; (case e => k_is))
      (case UP => refine' Jp.ic_mk KX G ?e; (case e => k_is))
      (case JUMP => refine' Jp.ic_mk KX G ?e; (case e => k_is))
      (case LEAVE => refine' Jp.ic_mk KX G ?e; (case e => k_is))
      (case HEIGHT => refine' Jp.ic_mk KX G ?e; (case e => k_is))
      (case OFF => refine' Jp.ic_mk KX G ?e; (case e => k_is))
      (case CARD => refine' Jp.ic_mk KX G ?e; (case e => k_is))
      (case ORDER => refine' Jp.ic_mk KX G ?e; (case e => k_is))
      (case WRONG => refine' Jp.ic_mk KX G ?e; (case e => k_is))
      (case NOTNOW => refine' Jp.ic_mk KX G ?e; (case e => k_is))
      (case NOTALLOWED => refine' Jp.ic_mk KX G ?e; (case e => k_is))
      (case MATH => refine' Jp.ic_mk KX G ?e; (case e => k_is))
      (case MRISE => refine' Jp.ic_mk KX G ?e; (case e => k_is))
      (case MTURN => refine' Jp.ic_mk KX G ?e; (case e => k_is))
      (case MHEIGHTS => refine' Jp.ic_mk KX G ?e; (case e => k_is))
      (case LHEIGHT => refine' Jp.ic_mk KX G ?e; (case e => k_is))
      (case MTOLD => refine' Jp.ic_mk KX G ?e; (case e => k_is))
      (case MPUT => refine' Jp.ic_mk KX G ?e; (case e => k_is))
      (case NOPASS => refine' Jp.ic_mk KX G ?e; (case e => k_is))
      (case NOTWANTED => refine' Jp.ic_mk KX G ?e; (case e => k_is))
      (case WANTED => refine' Jp.ic_mk KX G ?e; (case e => k_is))
      (case len => refine' PySem.W.mg_none_of KX G ?e; (case e => k_is))
      (case range => refine' PySem.W.mg_none_of KX G ?e; (case e => k_is))
      (case reversed => refine' PySem.W.mg_none_of KX G ?e; (case e => k_is))
      (case max => refine' PySem.W.mg_none_of KX G ?e; (case e => k_is))
      (case min => refine' PySem.W.mg_none_of KX G ?e; (case e => k_is))
      (case list => refine' PySem.W.mg_none_of KX G ?e; (case e => k_is))
      (case zip => refine' PySem.W.mg_none_of KX G ?e; (case e => k_is))
      (case sorted => refine' PySem.W.mg_none_of KX G ?e; (case e => k_is))
      (case enumerate => refine' PySem.W.mg_none_of KX G ?e; (case e => k_is))
      (case A1 => refine' Jp.mth_mk Jp.bnd_A1 ?a ?i ?l ?c ?k; (case a => k_is); (case i => k_is); (case l => k_is); (case c => k_is); (case k => k_is))
      (case A2 => refine' Jp.mth_mk Jp.bnd_A2 ?a ?i ?l ?c ?k; (case a => k_is); (case i => k_is); (case l => k_is); (case c => k_is); (case k => k_is))
      (case A3 => refine' Jp.mth_mk Jp.bnd_A3 ?a ?i ?l ?c ?k; (case a => k_is); (case i => k_is); (case l => k_is); (case c => k_is); (case k => k_is))
      (case A4 => refine' Jp.mth_mk Jp.bnd_A4 ?a ?i ?l ?c ?k; (case a => k_is); (case i => k_is); (case l => k_is); (case c => k_is); (case k => k_is))
      (case A5 => refine' Jp.mth_mk Jp.bnd_A5 ?a ?i ?l ?c ?k; (case a => k_is); (case i => k_is); (case l => k_is); (case c => k_is); (case k => k_is))
      (case A6 => refine' Jp.mth_mk Jp.bnd_A6 ?a ?i ?l ?c ?k; (case a => k_is); (case i => k_is); (case l => k_is); (case c => k_is); (case k => k_is))
      (case A7 => refine' Jp.mth_mk Jp.bnd_A7 ?a ?i ?l ?c ?k; (case a => k_is); (case i => k_is); (case l => k_is); (case c => k_is); (case k => k_is))
      (case A8 => refine' Jp.mth_mk Jp.bnd_A8 ?a ?i ?l ?c ?k; (case a => k_is); (case i => k_is); (case l => k_is); (case c => k_is); (case k => k_is))
      (case J1 => refine' Jp.mth_mk Jp.bnd_J1 ?a ?i ?l ?c ?k; (case a => k_is); (case i => k_is); (case l => k_is); (case c => k_is); (case k => k_is))
      (case J2 => refine' Jp.mth_mk Jp.bnd_J2 ?a ?i ?l ?c ?k; (case a => k_is); (case i => k_is); (case l => k_is); (case c => k_is); (case k => k_is))
      (case J3 => refine' Jp.mth_mk Jp.bnd_J3 ?a ?i ?l ?c ?k; (case a => k_is); (case i => k_is); (case l => k_is); (case c => k_is); (case k => k_is))
      (case J4 => refine' Jp.mth_mk Jp.bnd_J4 ?a ?i ?l ?c ?k; (case a => k_is); (case i => k_is); (case l => k_is); (case c => k_is); (case k => k_is))
      (case J5 => refine' Jp.mth_mk Jp.bnd_J5 ?a ?i ?l ?c ?k; (case a => k_is); (case i => k_is); (case l => k_is); (case c => k_is); (case k => k_is))
      (case C1 => refine' Jp.mth_mk Jp.bnd_C1 ?a ?i ?l ?c ?k; (case a => k_is); (case i => k_is); (case l => k_is); (case c => k_is); (case k => k_is))
      (case C2 => refine' Jp.mth_mk Jp.bnd_C2 ?a ?i ?l ?c ?k; (case a => k_is); (case i => k_is); (case l => k_is); (case c => k_is); (case k => k_is))
      (case C3 => refine' Jp.mth_mk Jp.bnd_C3 ?a ?i ?l ?c ?k; (case a => k_is); (case i => k_is); (case l => k_is); (case c => k_is); (case k => k_is))
      (case C4 => refine' Jp.mth_mk Jp.bnd_C4 ?a ?i ?l ?c ?k; (case a => k_is); (case i => k_is); (case l => k_is); (case c => k_is); (case k => k_is))
      (case C5 => refine' Jp.mth_mk Jp.bnd_C5 ?a ?i ?l ?c ?k; (case a => k_is); (case i => k_is); (case l => k_is); (case c => k_is); (case k => k_is))
      (case C6 => refine' Jp.mth_mk Jp.bnd_C6 ?a ?i ?l ?c ?k; (case a => k_is); (case i => k_is); (case l => k_is); (case c => k_is); (case k => k_is))
      (case C7 => refine' Jp.mth_mk Jp.bnd_C7 ?a ?i ?l ?c ?k; (case a => k_is); (case i => k_is); (case l => k_is); (case c => k_is); (case k => k_is))
      (case C9 => refine' Jp.mth_mk Jp.bnd_C9 ?a ?i ?l ?c ?k; (case a => k_is); (case i => k_is); (case l => k_is); (case c => k_is); (case k => k_is))
      (case C10 => refine' Jp.mth_mk Jp.bnd_C10 ?a ?i ?l ?c ?k; (case a => k_is); (case i => k_is); (case l => k_is); (case c => k_is); (case k => k_is))
      (case C11 => refine' Jp.mth_mk Jp.bnd_C11 ?a ?i ?l ?c ?k; (case a => k_is); (case i => k_is); (case l => k_is); (case c => k_is); (case k => k_is))
      (case C12 => refine' Jp.mth_mk Jp.bnd_C12 ?a ?i ?l ?c ?k; (case a => k_is); (case i => k_is); (case l => k_is); (case c => k_is); (case k => k_is))
      (case C13 => refine' Jp.mth_mk Jp.bnd_C13 ?a ?i ?l ?c ?k; (case a => k_is); (case i => k_is); (case l => k_is); (case c => k_is); (case k => k_is))
      (case C14 => refine' Jp.mth_mk Jp.bnd_C14 ?a ?i ?l ?c ?k; (case a => k_is); (case i => k_is); (case l => k_is); (case c => k_is); (case k => k_is))
      (case C15 => refine' Jp.mth_mk Jp.bnd_C15 ?a ?i ?l ?c ?k; (case a => k_is); (case i => k_is); (case l => k_is); (case c => k_is); (case k => k_is))
      (case C16 => refine' Jp.mth_mk Jp.bnd_C16 ?a ?i ?l ?c ?k; (case a => k_is); (case i => k_is); (case l => k_is); (case c => k_is); (case k => k_is))
      (case C17 => refine' Jp.mth_mk Jp.bnd_C17 ?a ?i ?l ?c ?k; (case a => k_is); (case i => k_is); (case l => k_is); (case c => k_is); (case k => k_is))
      (case C18 => refine' Jp.mth_mk Jp.bnd_C18 ?a ?i ?l ?c ?k; (case a => k_is); (case i => k_is); (case l => k_is); (case c => k_is); (case k => k_is))
      (case C19 => refine' Jp.mth_mk Jp.bnd_C19 ?a ?i ?l ?c ?k; (case a => k_is); (case i => k_is); (case l => k_is); (case c => k_is); (case k => k_is))
      (case L1 => refine' Jp.mth_mk Jp.bnd_L1 ?a ?i ?l ?c ?k; (case a => k_is); (case i => k_is); (case l => k_is); (case c => k_is); (case k => k_is))
      (case L2 => refine' Jp.mth_mk Jp.bnd_L2 ?a ?i ?l ?c ?k; (case a => k_is); (case i => k_is); (case l => k_is); (case c => k_is); (case k => k_is))
      (case L3 => refine' Jp.mth_mk Jp.bnd_L3 ?a ?i ?l ?c ?k; (case a => k_is); (case i => k_is); (case l => k_is); (case c => k_is); (case k => k_is))
      (case L4 => refine' Jp.mth_mk Jp.bnd_L4 ?a ?i ?l ?c ?k; (case a => k_is); (case i => k_is); (case l => k_is); (case c => k_is); (case k => k_is))
      (case L5 => refine' Jp.mth_mk Jp.bnd_L5 ?a ?i ?l ?c ?k; (case a => k_is); (case i => k_is); (case l => k_is); (case c => k_is); (case k => k_is))
      (case L6 => refine' Jp.mth_mk Jp.bnd_L6 ?a ?i ?l ?c ?k; (case a => k_is); (case i => k_is); (case l => k_is); (case c => k_is); (case k => k_is))
      (case L7 => refine' Jp.mth_mk Jp.bnd_L7 ?a ?i ?l ?c ?k; (case a => k_is); (case i => k_is); (case l => k_is); (case c => k_is); (case k => k_is))
      (case L8 => refine' Jp.mth_mk Jp.bnd_L8 ?a ?i ?l ?c ?k; (case a => k_is); (case i => k_is); (case l => k_is); (case c => k_is); (case k => k_is))
      (case L9 => refine' Jp.mth_mk Jp.bnd_L9 ?a ?i ?l ?c ?k; (case a => k_is); (case i => k_is); (case l => k_is); (case c => k_is); (case k => k_is))
      (case L10 => refine' Jp.mth_mk Jp.bnd_L10 ?a ?i ?l ?c ?k; (case a => k_is); (case i => k_is); (case l => k_is); (case c => k_is); (case k => k_is))
      (case L11 => refine' Jp.mth_mk Jp.bnd_L11 ?a ?i ?l ?c ?k; (case a => k_is); (case i => k_is); (case l => k_is); (case c => k_is); (case k => k_is))
      (case L12 => refine' Jp.mth_mk Jp.bnd_L12 ?a ?i ?l ?c ?k; (case a => k_is); (case i => k_is); (case l => k_is); (case c => k_is); (case k => k_is))
      (case A0 => refine' Jp.mkr_mk Jp.bnd_A0 ?a ?i ?l ?c ?k ?m ?kc; (case a => k_is); (case i => k_is); (case l => k_is); (case c => k_is); (case k => k_is); (case m => k_is); (case kc => k_is))
      (case J0 => refine' Jp.mkr_mk Jp.bnd_J0 ?a ?i ?l ?c ?k ?m ?kc; (case a => k_is); (case i => k_is); (case l => k_is); (case c => k_is); (case k => k_is); (case m => k_is); (case kc => k_is))
      (case C0 => refine' Jp.mkr_mk Jp.bnd_C0 ?a ?i ?l ?c ?k ?m ?kc; (case a => k_is); (case i => k_is); (case l => k_is); (case c => k_is); (case k => k_is); (case m => k_is); (case kc => k_is))
      (case L0 => refine' Jp.mkr_mk Jp.bnd_L0 ?a ?i ?l ?c ?k ?m ?kc; (case a => k_is); (case i => k_is); (case l => k_is); (case c => k_is); (case k => k_is); (case m => k_is); (case kc => k_is))
      (case d_standing => refine' Jp.dfn_mk KX G Jp.bnd_d_standing ?a ?l ?c ?k; (case a => k_is); (case l => k_is); (case c => k_is); (case k => k_is))
      (case d_read_calls => refine' Jp.dfn_mk KX G Jp.bnd_d_read_calls ?a ?l ?c ?k; (case a => k_is); (case l => k_is); (case c => k_is); (case k => k_is))
      (case d_are_heights => refine' Jp.dfn_mk KX G Jp.bnd_d_are_heights ?a ?l ?c ?k; (case a => k_is); (case l => k_is); (case c => k_is); (case k => k_is))
      (case plain => refine' Jp.plain_mk KX G ?a ?l ?b; (case a => k_is); (case l => k_is); (case b => kernel_rfl))
