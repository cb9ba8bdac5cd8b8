import PyProof.Rows.All
import Wide.All
import OpenK.AllK
import Wide.FinOn
import Open.SpecLaws
import KE.OsGo
import HandS.ForSpec
import HandS.Comp
import HandS.Dict
import HandS.Iter
import HandS.Walk
import HandS.SortInts
import HandS.More
import PySem.Challenge.RW_headcolumns_s01_answers
set_option Elab.async false
set_option linter.all false
set_option maxRecDepth 100000
set_option maxHeartbeats 4000000

/-! Mathematics, part 1: the lines of one paragraph, over measures (width and kind of each character). -/
namespace Hc
open IhColumn

abbrev Ms := List (Nat × Nat)
def wd (ms : Ms) (i : Nat) : Nat := (ms.getD i (0, 0)).1
def kd (ms : Ms) (i : Nat) : Nat := (ms.getD i (0, 0)).2
def blk (ms : Ms) (i : Nat) : Bool := decide (kd ms i = 1)
/-- the end without its blanks, from n down -/
def tEnd (ms : Ms) : Nat → Nat
  | 0 => 0
  | n + 1 => if blk ms n = true then tEnd ms n else n + 1
def textEnd (ms : Ms) : Nat := tEnd ms ms.length
/-- the first place from p on that is no blank's, n places at most -/
def bBl (ms : Ms) : Nat → Nat → Nat
  | 0, p => p
  | n + 1, p => if blk ms p = true then bBl ms n (p + 1) else p
def behindBl (ms : Ms) (p : Nat) : Nat := bBl ms (ms.length - p) p
def fitG (ms : Ms) (room : Nat) : Nat → Nat → Nat → Nat
  | 0, p, _ => p
  | n + 1, p, u => if u + wd ms p ≤ room then fitG ms room n (p + 1) (u + wd ms p) else p
def fitting (ms : Ms) (a e room : Nat) : Nat := fitG ms room (e - a) a 0
def isBr (ms : Ms) (p e : Nat) : Bool := decide (p = e) || decide (kd ms (p - 1) = 2) || (blk ms p && !blk ms (p - 1))
/-- the last break at or below p, but no place below a -/
def lastBr (ms : Ms) (a e : Nat) : Nat → Nat
  | 0 => 0
  | p + 1 => if a < p + 1 ∧ isBr ms (p + 1) e = false then lastBr ms a e p else p + 1
def lineEnd (ms : Ms) (a e room : Nat) : Nat :=
  if a < lastBr ms a e (fitting ms a e room) then lastBr ms a e (fitting ms a e room) else fitting ms a e room
def lpG (ms : Ms) (e later : Nat) : Nat → Nat → Nat → Option (List (Nat × Nat))
  | 0, _, _ => some []
  | n + 1, a, room => if a < e then (if lineEnd ms a e room = a then none else (lpG ms e later n (behindBl ms (lineEnd ms a e room)) later).map fun l => (a, lineEnd ms a e room) :: l) else some []
def linePlaces (ms : Ms) (r1 r2 : Nat) : Option (List (Nat × Nat)) := lpG ms (textEnd ms) r2 (ms.length + 1) (behindBl ms 0) r1

/-! ### bounds -/
theorem tEnd_le (ms : Ms) : ∀ n, tEnd ms n ≤ n
  | 0 => Nat.le_refl _
  | n + 1 => by
    unfold tEnd
    split
    · have := tEnd_le ms n; omega
    · omega
theorem textEnd_le (ms : Ms) : textEnd ms ≤ ms.length := tEnd_le ms _
theorem bBl_ge (ms : Ms) : ∀ n p, p ≤ bBl ms n p
  | 0, p => Nat.le_refl _
  | n + 1, p => by
    unfold bBl
    split
    · have := bBl_ge ms n (p + 1); omega
    · omega
theorem bBl_le (ms : Ms) : ∀ n p, bBl ms n p ≤ p + n
  | 0, p => Nat.le_refl _
  | n + 1, p => by
    unfold bBl
    split
    · have := bBl_le ms n (p + 1); omega
    · omega
theorem behindBl_ge (ms : Ms) (p : Nat) : p ≤ behindBl ms p := bBl_ge ms _ p
theorem behindBl_le (ms : Ms) {p : Nat} (h : p ≤ ms.length) : behindBl ms p ≤ ms.length := by
  have := bBl_le ms (ms.length - p) p
  unfold behindBl
  omega
theorem fitG_ge (ms : Ms) (room : Nat) : ∀ n p u, p ≤ fitG ms room n p u
  | 0, p, u => Nat.le_refl _
  | n + 1, p, u => by
    unfold fitG
    split
    · have := fitG_ge ms room n (p + 1) (u + wd ms p); omega
    · omega
theorem fitG_le (ms : Ms) (room : Nat) : ∀ n p u, fitG ms room n p u ≤ p + n
  | 0, p, u => Nat.le_refl _
  | n + 1, p, u => by
    unfold fitG
    split
    · have := fitG_le ms room n (p + 1) (u + wd ms p); omega
    · omega
theorem fitting_ge (ms : Ms) (a e room : Nat) : a ≤ fitting ms a e room := fitG_ge ms room _ a 0
theorem fitting_le (ms : Ms) {a e room : Nat} (h : a ≤ e) : fitting ms a e room ≤ e := by
  have := fitG_le ms room (e - a) a 0
  unfold fitting
  omega
theorem lastBr_le (ms : Ms) (a e : Nat) : ∀ p, lastBr ms a e p ≤ p
  | 0 => Nat.le_refl _
  | p + 1 => by
    unfold lastBr
    split
    · have := lastBr_le ms a e p; omega
    · omega
theorem lastBr_ge (ms : Ms) (a e : Nat) : ∀ p, a ≤ p → a ≤ lastBr ms a e p
  | 0, h => h
  | p + 1, h => by
    unfold lastBr
    split
    · rename_i c
      exact lastBr_ge ms a e p (by omega)
    · exact h
theorem lineEnd_ge (ms : Ms) (a e room : Nat) : a ≤ lineEnd ms a e room := by
  unfold lineEnd
  split
  · omega
  · exact fitting_ge ms a e room
theorem lineEnd_le (ms : Ms) {a e room : Nat} (h : a ≤ e) : lineEnd ms a e room ≤ e := by
  have h1 := fitting_le ms (room := room) h
  have h2 := lastBr_le ms a e (fitting ms a e room)
  unfold lineEnd
  split <;> omega

/-! ### against the document's own functions -/
section
variable (s : Setter) (t : Text)
/-- a text's measures -/
def msOf : Ms := t.map s.of_
theorem msOf_length : (msOf s t).length = t.length := List.length_map _
theorem msOf_get {i : Nat} {x : Nat} (h : t[i]? = some x) : (msOf s t).getD i (0, 0) = s.of_ x := by
  unfold msOf
  rw [List.getD_eq_getElem?_getD, List.getElem?_map, h]
  rfl
theorem wd_of {i : Nat} {x : Nat} (h : t[i]? = some x) : wd (msOf s t) i = (s.of_ x).1 := by
  unfold wd
  rw [msOf_get s t h]
theorem kd_of {i : Nat} {x : Nat} (h : t[i]? = some x) : kd (msOf s t) i = (s.of_ x).2 := by
  unfold kd
  rw [msOf_get s t h]
theorem blk_of {i : Nat} {x : Nat} (h : t[i]? = some x) : blk (msOf s t) i = s.blank x := by
  unfold blk Setter.blank
  rw [kd_of s t h]
  cases h2 : (s.of_ x).2 == 1
  · simp at h2; simp [h2]
  · simp at h2; simp [h2]
theorem drop_get {i : Nat} {x : Nat} {r : List Nat} (h : t.drop i = x :: r) : t[i]? = some x ∧ t.drop (i + 1) = r ∧ i < t.length := by
  have h1 : (t.drop i)[0]? = some x := by rw [h]; rfl
  rw [List.getElem?_drop] at h1
  refine ⟨by simpa using h1, ?_, ?_⟩
  · have : t.drop (i + 1) = (t.drop i).drop 1 := by rw [List.drop_drop]
    rw [this, h]
    rfl
  · have := (List.getElem?_eq_some_iff.mp h1).1
    simpa using this
theorem drop_nil {i : Nat} (h : t.drop i = []) : t.length ≤ i := by
  have := congrArg List.length h
  simp at this
  omega

theorem bBl_spec : ∀ n p, n = t.length - p → bBl (msOf s t) n p = p + ((t.drop p).takeWhile s.blank).length
  | 0, p, h => by
    have e : t.drop p = [] := List.drop_eq_nil_of_le (by omega)
    rw [e]
    rfl
  | n + 1, p, h => by
    cases e : t.drop p with
    | nil =>
      have := drop_nil t e
      omega
    | cons x r =>
      obtain ⟨h1, h2, h3⟩ := drop_get t e
      unfold bBl
      rw [blk_of s t h1, List.takeWhile_cons]
      by_cases hb : s.blank x = true
      · rw [if_pos hb, if_pos hb, bBl_spec n (p + 1) (by omega), h2, List.length_cons]
        omega
      · rw [if_neg hb, if_neg hb]
        rfl
theorem behindBl_spec (p : Nat) : behindBl (msOf s t) p = p + ((t.drop p).takeWhile s.blank).length := by
  unfold behindBl
  rw [msOf_length]
  exact bBl_spec s t _ p rfl

theorem tEnd_take : ∀ n, n ≤ t.length → tEnd (msOf s t) n = n - ((t.take n).reverse.takeWhile s.blank).length
  | 0, _ => by
    unfold tEnd
    simp
  | n + 1, h => by
    have hx : t[n]? = some t[n] := List.getElem?_eq_getElem (by omega)
    have e : t.take (n + 1) = t.take n ++ [t[n]] := by
      rw [List.take_succ, hx]
      rfl
    unfold tEnd
    rw [blk_of s t hx, e, List.reverse_append, List.reverse_singleton, List.singleton_append, List.takeWhile_cons]
    by_cases hb : s.blank t[n] = true
    · rw [if_pos hb, if_pos hb, tEnd_take n (by omega), List.length_cons]
      omega
    · rw [if_neg hb, if_neg hb]
      rfl
theorem textEnd_spec : textEnd (msOf s t) = s.halt_ t := by
  unfold textEnd Setter.halt_
  rw [msOf_length, tEnd_take s t _ (Nat.le_refl _), List.take_length]
theorem tEnd_zero (ms : Ms) : ∀ n, (tEnd ms n = 0 ↔ ∀ i, i < n → blk ms i = true)
  | 0 => by
    unfold tEnd
    exact ⟨fun _ i h => by omega, fun _ => rfl⟩
  | n + 1 => by
    unfold tEnd
    by_cases hb : blk ms n = true
    · rw [if_pos hb, tEnd_zero ms n]
      constructor
      · intro h i hi
        by_cases e : i = n
        · rw [e]; exact hb
        · exact h i (by omega)
      · intro h i hi
        exact h i (by omega)
    · rw [if_neg hb]
      constructor
      · intro h; omega
      · intro h; exact absurd (h n (by omega)) hb
theorem blanks_spec : decide (textEnd (msOf s t) = 0) = t.all s.blank := by
  rw [Bool.eq_iff_iff, decide_eq_true_iff, List.all_eq_true]
  unfold textEnd
  rw [tEnd_zero, msOf_length]
  constructor
  · intro h x hx
    obtain ⟨i, hi, e⟩ := List.getElem_of_mem hx
    have := h i hi
    rw [blk_of s t (List.getElem?_eq_getElem hi), e] at this
    exact this
  · intro h i hi
    rw [blk_of s t (List.getElem?_eq_getElem hi)]
    exact h _ (List.getElem_mem hi)

theorem lastBr_down {ms : Ms} {a e p : Nat} (h : a < p + 1) (hb : isBr ms (p + 1) e = false) : lastBr ms a e (p + 1) = lastBr ms a e p := if_pos ⟨h, hb⟩
theorem lastBr_here {ms : Ms} {a e p : Nat} (hb : isBr ms (p + 1) e = true) : lastBr ms a e (p + 1) = p + 1 := if_neg fun h => by rw [hb] at h; exact Bool.noConfusion h.2
theorem lastBr_low {ms : Ms} {a e p : Nat} (h : ¬ a < p + 1) : lastBr ms a e (p + 1) = p + 1 := if_neg fun q => h q.1
/-- one place further down, a last break is the same, or there is none above -/
theorem lastBr_step (ms : Ms) (a e : Nat) : ∀ p, a + 1 ≤ p →
    lastBr ms a e p = if a + 1 < lastBr ms (a + 1) e p then lastBr ms (a + 1) e p else if isBr ms (a + 1) e = true then a + 1 else lastBr ms a e a
  | 0, h => by omega
  | p + 1, h => by
    by_cases hp : a + 1 = p + 1
    · have e0 : a = p := by omega
      subst e0
      have e1 : lastBr ms (a + 1) e (a + 1) = a + 1 := lastBr_low (by omega)
      rw [e1, if_neg (Nat.lt_irrefl _)]
      cases hb : isBr ms (a + 1) e with
      | true => rw [lastBr_here hb, if_pos rfl]
      | false => rw [lastBr_down (by omega) hb, if_neg Bool.false_ne_true]
    · cases hb : isBr ms (p + 1) e with
      | true =>
        rw [lastBr_here hb, lastBr_here hb]
        exact (if_pos (by omega)).symm
      | false =>
        rw [lastBr_down (by omega) hb, lastBr_down (by omega) hb]
        exact lastBr_step ms a e p (by omega)
theorem lastBr_self (ms : Ms) (a e : Nat) : lastBr ms a e a = a := by
  cases a with
  | zero => rfl
  | succ n =>
    unfold lastBr
    rw [if_neg (by omega)]

theorem fitG_go {ms : Ms} {room n p u : Nat} (h : u + wd ms p ≤ room) : fitG ms room (n + 1) p u = fitG ms room n (p + 1) (u + wd ms p) := if_pos h
theorem fitG_stop {ms : Ms} {room n p u : Nat} (h : ¬ u + wd ms p ≤ room) : fitG ms room (n + 1) p u = p := if_neg h
theorem endsOn_stop {halt_ room x : Nat} {r : Text} {b w : Nat} {br fit : Option Nat} (h : room < w + (s.of_ x).1 ∨ halt_ ≤ b) :
    s.endsOn halt_ room (x :: r) b w br fit = if br.isSome = true then br else fit := if_pos h
def hereB (halt_ b x : Nat) (r : Text) : Bool := b + 1 == halt_ || (match r with
        | y :: _ => (s.blank y && !s.blank x) || (s.of_ x).2 == 2
        | [] => false)
theorem endsOn_go {halt_ room x : Nat} {r : Text} {b w : Nat} {br fit : Option Nat} (h : ¬ (room < w + (s.of_ x).1 ∨ halt_ ≤ b)) :
    s.endsOn halt_ room (x :: r) b w br fit = s.endsOn halt_ room r (b + 1) (w + (s.of_ x).1) (if hereB s halt_ b x r = true then some (b + 1) else br) (some (b + 1)) := if_neg h
theorem hereB_spec {halt_ b x : Nat} {r : Text} (hh : halt_ ≤ t.length) (hb : b < halt_) (e : t.drop b = x :: r) : hereB s halt_ b x r = isBr (msOf s t) (b + 1) halt_ := by
  obtain ⟨h1, h2, h3⟩ := drop_get t e
  unfold isBr hereB
  rw [Nat.add_sub_cancel, kd_of s t h1, blk_of s t h1]
  cases r with
  | nil =>
    have := drop_nil t h2
    have e3 : b + 1 = halt_ := by omega
    simp [e3]
  | cons y r' =>
    obtain ⟨g1, _, _⟩ := drop_get t h2
    rw [blk_of s t g1]
    simp only []
    cases h4 : (b + 1 == halt_) <;> cases h5 : s.blank y <;> cases h6 : s.blank x <;> cases h7 : ((s.of_ x).2 == 2) <;> simp at h4 h7 <;> simp [h4, h7]
theorem endsOn_spec (halt_ room : Nat) (hh : halt_ ≤ t.length) : ∀ (n b w : Nat) (br fit : Option Nat), n = halt_ - b → b ≤ halt_ →
    s.endsOn halt_ room (t.drop b) b w br fit = (if b < lastBr (msOf s t) b halt_ (fitG (msOf s t) room n b w) then some (lastBr (msOf s t) b halt_ (fitG (msOf s t) room n b w))
      else if br.isSome = true then br else if b < fitG (msOf s t) room n b w then some (fitG (msOf s t) room n b w) else fit)
  | 0, b, w, br, fit, hn, hb => by
    have e0 : fitG (msOf s t) room 0 b w = b := rfl
    rw [e0, lastBr_self, if_neg (Nat.lt_irrefl _), if_neg (Nat.lt_irrefl _)]
    cases e : t.drop b with
    | nil => rfl
    | cons x r => exact endsOn_stop s (Or.inr (by omega))
  | n + 1, b, w, br, fit, hn, hb => by
    cases e : t.drop b with
    | nil =>
      have := drop_nil t e
      omega
    | cons x r =>
      obtain ⟨h1, h2, h3⟩ := drop_get t e
      have hw := wd_of s t h1
      by_cases hr : room < w + (s.of_ x).1
      · rw [endsOn_stop s (Or.inl hr), fitG_stop (by rw [hw]; omega), lastBr_self, if_neg (Nat.lt_irrefl _), if_neg (Nat.lt_irrefl _)]
      · rw [endsOn_go s (by rintro (h | h) <;> omega), fitG_go (by rw [hw]; omega), hw, hereB_spec s t hh (by omega) e, ← h2]
        rw [endsOn_spec halt_ room hh n (b + 1) (w + (s.of_ x).1) _ _ (by omega) (by omega)]
        have hge := fitG_ge (msOf s t) room n (b + 1) (w + (s.of_ x).1)
        generalize fitG (msOf s t) room n (b + 1) (w + (s.of_ x).1) = m at hge ⊢
        rw [lastBr_step (msOf s t) b halt_ m hge, lastBr_self]
        by_cases c1 : b + 1 < lastBr (msOf s t) (b + 1) halt_ m
        · have c1' : b < lastBr (msOf s t) (b + 1) halt_ m := by omega
          simp only [if_pos c1, if_pos c1']
        · simp only [if_neg c1]
          cases isBr (msOf s t) (b + 1) halt_ with
          | true => simp
          | false =>
            simp only [Bool.false_eq_true, if_false, Nat.lt_irrefl]
            by_cases c2 : br.isSome = true
            · rw [if_pos c2, if_pos c2]
            · rw [if_neg c2, if_neg c2]
              by_cases c3 : b + 1 < m
              · rw [if_pos c3, if_pos (by omega)]
              · rw [if_neg c3, if_pos (by omega)]
                congr 1
                omega

theorem endsOn_line (halt_ room a : Nat) (hh : halt_ ≤ t.length) (ha : a ≤ halt_) :
    s.endsOn halt_ room (t.drop a) a 0 none none = if lineEnd (msOf s t) a halt_ room = a then none else some (lineEnd (msOf s t) a halt_ room) := by
  rw [endsOn_spec s t halt_ room hh (halt_ - a) a 0 none none rfl ha]
  have hge := fitting_ge (msOf s t) a halt_ room
  unfold lineEnd
  show (let m := fitting (msOf s t) a halt_ room; let p := lastBr (msOf s t) a halt_ m; if a < p then some p else if (none : Option Nat).isSome = true then none else if a < m then some m else none) = _
  generalize fitting (msOf s t) a halt_ room = m at hge ⊢
  simp only [Option.isSome_none, Bool.false_eq_true, if_false]
  by_cases c : a < lastBr (msOf s t) a halt_ m
  · rw [if_pos c, if_pos c, if_neg (by omega)]
  · rw [if_neg c, if_neg c]
    by_cases c2 : a < m
    · rw [if_pos c2, if_neg (by omega)]
    · rw [if_neg c2, if_pos (by omega)]

theorem lpG_spec (depth halt_ : Nat) (hh : halt_ ≤ t.length) : ∀ (n a0 : Nat) (first : Bool), a0 ≤ t.length →
    lpG (msOf s t) halt_ (s.room depth false) n (behindBl (msOf s t) a0) (s.room depth first) = s.linesFrom depth halt_ n (t.drop a0) a0 first
  | 0, a0, first, _ => rfl
  | n + 1, a0, first, h0 => by
    unfold Setter.linesFrom
    have ek := behindBl_spec s t a0
    simp only []
    generalize ((t.drop a0).takeWhile s.blank).length = k at ek ⊢
    rw [← ek]
    have hge := behindBl_ge (msOf s t) a0
    have hle : behindBl (msOf s t) a0 ≤ t.length := by
      have := behindBl_le (msOf s t) (p := a0) (by rw [msOf_length]; exact h0)
      rwa [msOf_length] at this
    generalize behindBl (msOf s t) a0 = a at ek hge hle ⊢
    show (if a < halt_ then _ else _) = _
    by_cases c : halt_ ≤ a
    · rw [if_neg (by omega), if_pos c]
    · rw [if_pos (by omega), if_neg c, List.drop_drop, ← ek, endsOn_line s t halt_ _ a hh (by omega)]
      have h1 := lineEnd_ge (msOf s t) a halt_ (s.room depth first)
      have h2 := lineEnd_le (msOf s t) (a := a) (e := halt_) (room := s.room depth first) (by omega)
      generalize lineEnd (msOf s t) a halt_ (s.room depth first) = b at h1 h2 ⊢
      by_cases cb : b = a
      · rw [if_pos cb, if_pos cb]
      · rw [if_neg cb, if_neg cb]
        simp only []
        rw [List.drop_drop, show a + (b - a) = b by omega]
        rw [lpG_spec depth halt_ hh n b false (by omega)]
theorem linePlaces_spec (p : Par) : linePlaces (msOf s p.text) (s.room p.depth true) (s.room p.depth false) = s.lines p := by
  unfold linePlaces Setter.lines
  rw [textEnd_spec, msOf_length]
  have := lpG_spec s p.text p.depth (s.halt_ p.text) (by unfold Setter.halt_; omega) (p.text.length + 1) 0 true (Nat.zero_le _)
  rw [List.drop_zero] at this
  exact this

/-- as many of a lead's characters as have room -/
theorem toldOn_spec (most : Nat) : ∀ (k n w : Nat), n + k ≤ t.length → s.toldOn most k (t.drop n) n w = fitG (msOf s t) most k n w
  | 0, n, w, _ => by
    unfold Setter.toldOn
    rfl
  | k + 1, n, w, h => by
    cases e : t.drop n with
    | nil =>
      have := drop_nil t e
      omega
    | cons x r =>
      obtain ⟨h1, h2, h3⟩ := drop_get t e
      unfold Setter.toldOn fitG
      rw [wd_of s t h1]
      by_cases c : most < w + (s.of_ x).1
      · rw [if_pos c, if_neg (by omega)]
      · rw [if_neg c, if_pos (by omega), ← h2]
        exact toldOn_spec most k (n + 1) _ (by omega)
theorem told_spec (p : Par) (hw : ¬ s.house.width < s.wide s.cut) (hl : p.lead ≤ p.text.length) : s.told p = fitting (msOf s p.text) 0 p.lead (s.house.width - s.wide s.cut) := by
  unfold Setter.told fitting
  rw [if_neg hw]
  have := toldOn_spec s p.text (s.house.width - s.wide s.cut) p.lead 0 0 (by omega)
  rw [List.drop_zero] at this
  exact this
end
end Hc

/-! Mathematics, part 2: the columns. -/
namespace Hc
open IhColumn

/-- the first k items of a list, gone through with their places -/
def upTo {α β : Type} (f : β → Nat → α → β) (b : β) (l : List α) : Nat → β
  | 0 => b
  | k + 1 => match l[k]? with
    | some x => f (upTo f b l k) k x
    | none => upTo f b l k
section
variable {α β : Type} {f : β → Nat → α → β} {b : β} {l : List α}
theorem upTo_some {k : Nat} {x : α} (h : l[k]? = some x) : upTo f b l (k + 1) = f (upTo f b l k) k x := by
  show (match l[k]? with | some x => f (upTo f b l k) k x | none => upTo f b l k) = _
  rw [h]
theorem upTo_take : ∀ k, k ≤ l.length → (l.take k).zipIdx.foldl (fun c p => f c p.2 p.1) b = upTo f b l k
  | 0, _ => by
    rw [List.take_zero]
    rfl
  | k + 1, h => by
    have hx : l[k]? = some l[k] := List.getElem?_eq_getElem (by omega)
    rw [upTo_some hx, List.take_succ, hx]
    show ((l.take k ++ [l[k]]).zipIdx).foldl _ b = _
    rw [List.zipIdx_append, List.foldl_append, upTo_take k (by omega)]
    simp only [List.length_take, List.zipIdx_singleton, List.foldl_cons, List.foldl_nil]
    rw [Nat.min_eq_left (by omega)]
    simp
theorem upTo_all : l.zipIdx.foldl (fun c p => f c p.2 p.1) b = upTo f b l l.length := by
  have := upTo_take (f := f) (b := b) (l := l) l.length (Nat.le_refl _)
  rwa [List.take_length] at this
/-- a property that each turn keeps -/
theorem upTo_ind (P : Nat → β → Prop) (h0 : P 0 b) (hs : ∀ k x c, l[k]? = some x → P k c → P (k + 1) (f c k x)) : ∀ k, k ≤ l.length → P k (upTo f b l k)
  | 0, _ => h0
  | k + 1, h => by
    have hx : l[k]? = some l[k] := List.getElem?_eq_getElem (by omega)
    rw [upTo_some hx]
    exact hs k _ _ hx (upTo_ind P h0 hs k (by omega))
end
theorem upTo_rel {α β γ : Type} {f : β → Nat → α → β} {g : γ → Nat → α → γ} {b : β} {c : γ} {l : List α} (R : Nat → β → γ → Prop) (h0 : R 0 b c)
    (hs : ∀ k x u v, l[k]? = some x → R k u v → R (k + 1) (f u k x) (g v k x)) : ∀ k, k ≤ l.length → R k (upTo f b l k) (upTo g c l k)
  | 0, _ => h0
  | k + 1, h => by
    have hx : l[k]? = some l[k] := List.getElem?_eq_getElem (by omega)
    rw [upTo_some hx, upTo_some hx]
    exact hs k _ _ _ hx (upTo_rel R h0 hs k (by omega))

structure Pr where
  par : Par
  places : List (Nat × Nat)
structure Co where
  column : Nat
  row : Nat
  main : Nat
  held : Nat
  lines : List Line
def Co.put (c : Co) (number b e k : Nat) : Co := { c with lines := c.lines ++ [⟨c.column, c.row, number, b, e, k⟩], row := c.row + 1 }
def needsOf (ps : List Pr) (i : Nat) (p : Pr) : Nat := if 1 < p.places.length then 2 else if p.par.depth = 1 then (match ps[i + 1]? with
    | some q => if q.par.depth = 1 then 1 else 1 + min 2 q.places.length
    | none => 1) else 1
def prevGroup (ps : List Pr) (i : Nat) : Nat := match ps[i - 1]? with
  | some q => q.par.group
  | none => 0
def roomLeft (s : Setter) : Nat := s.house.width - s.wide s.cut
def Co.begin (s : Setter) (ps : List Pr) (c : Co) (i : Nat) (p : Pr) : Co :=
  { c with row := if c.row ≠ 0 ∧ p.par.group ≠ prevGroup ps i then c.row + s.house.gap else c.row, main := i, held := fitting (msOf s p.par.text) 0 p.par.lead (roomLeft s) }
def Co.room (s : Setter) (c : Co) (needs : Nat) (opens : Bool) : Co := if c.row + needs ≤ s.house.height then c else
  if opens = true then { c with column := c.column + 1, row := 0 } else Co.put { c with column := c.column + 1, row := 0 } c.main 0 c.held 1
def Co.line (s : Setter) (i needs1 : Nat) (isMain : Bool) (c : Co) (order : Nat) (l : Nat × Nat) : Co :=
  (c.room s (if order = 0 then needs1 else 1) (if order = 0 then isMain else false)).put i l.1 l.2 0
def Co.start (s : Setter) (ps : List Pr) (c : Co) (i : Nat) (p : Pr) : Co := if p.par.depth = 1 then c.begin s ps i p else c
def Co.par (s : Setter) (ps : List Pr) (c : Co) (i : Nat) (p : Pr) : Co :=
  upTo (Co.line s i (needsOf ps i p) (decide (p.par.depth = 1))) (c.start s ps i p) p.places p.places.length
def Co.new : Co := ⟨0, 0, 0, 0, []⟩
def colsM (s : Setter) (ps : List Pr) : Co := upTo (Co.par s ps) Co.new ps ps.length
def prOf (s : Setter) (p : Par) : Pr := ⟨p, (s.lines p).getD []⟩

/-! ### places of a paragraph -/
/-- in order, apart, none empty, all from a on and at or below e -/
def Apart (e : Nat) : Nat → List (Nat × Nat) → Prop
  | _, [] => True
  | a, (b, c) :: l => a ≤ b ∧ b < c ∧ c ≤ e ∧ Apart e c l
theorem Apart.low {e : Nat} : ∀ {l : List (Nat × Nat)} {a a' : Nat}, a' ≤ a → Apart e a l → Apart e a' l
  | [], _, _, _, _ => trivial
  | (b, c) :: l, a, a', h, q => ⟨Nat.le_trans h q.1, q.2⟩
theorem lpG_apart (ms : Ms) (e later : Nat) : ∀ (n a room : Nat) (l : List (Nat × Nat)), lpG ms e later n a room = some l → Apart e a l
  | 0, a, room, l, h => by
    have : l = [] := (Option.some.inj h).symm
    subst this
    trivial
  | n + 1, a, room, l, h => by
    unfold lpG at h
    by_cases c : a < e
    · rw [if_pos c] at h
      by_cases d : lineEnd ms a e room = a
      · rw [if_pos d] at h
        cases h
      · rw [if_neg d] at h
        cases g : lpG ms e later n (behindBl ms (lineEnd ms a e room)) later with
        | none => rw [g] at h; cases h
        | some r =>
          rw [g] at h
          have : l = (a, lineEnd ms a e room) :: r := (Option.some.inj h).symm
          subst this
          have h1 := lineEnd_ge ms a e room
          have h2 := lineEnd_le ms (a := a) (e := e) (room := room) (by omega)
          exact ⟨Nat.le_refl _, by omega, h2, Apart.low (behindBl_ge ms _) (lpG_apart ms e later n _ later r g)⟩
    · rw [if_neg c] at h
      have : l = [] := (Option.some.inj h).symm
      subst this
      trivial
theorem linePlaces_apart {ms : Ms} {r1 r2 : Nat} {l : List (Nat × Nat)} (h : linePlaces ms r1 r2 = some l) : Apart ms.length 0 l := by
  have q := lpG_apart ms _ _ _ _ _ _ h
  have : ∀ {l : List (Nat × Nat)} {a : Nat}, Apart (textEnd ms) a l → Apart ms.length a l := by
    intro l
    induction l with
    | nil => intro a _; trivial
    | cons p l ih =>
      intro a q
      exact ⟨q.1, q.2.1, Nat.le_trans q.2.2.1 (textEnd_le ms), ih q.2.2.2⟩
  exact this (Apart.low (Nat.zero_le _) q)
theorem Apart.len {e : Nat} : ∀ {l : List (Nat × Nat)} {a : Nat}, Apart e a l → l.length ≤ e - a
  | [], _, _ => Nat.zero_le _
  | (b, c) :: l, a, h => by
    have := Apart.len h.2.2.2
    obtain ⟨h1, h2, h3, _⟩ := h
    rw [List.length_cons]
    omega
/-- how many characters stand in lines -/
def wideOf (l : List (Nat × Nat)) : Nat := (l.map fun p => p.2 - p.1).sum
theorem Apart.sum {e : Nat} : ∀ {l : List (Nat × Nat)} {a : Nat}, Apart e a l → a ≤ e → wideOf l ≤ e - a
  | [], _, _, _ => Nat.zero_le _
  | (b, c) :: l, a, h, ha => by
    obtain ⟨h1, h2, h3, h4⟩ := h
    have := Apart.sum h4 h3
    unfold wideOf at this ⊢
    rw [List.map_cons, List.sum_cons]
    omega
theorem lines_apart {s : Setter} {p : Par} {l : List (Nat × Nat)} (h : s.lines p = some l) : Apart p.text.length 0 l := by
  rw [← linePlaces_spec] at h
  have := linePlaces_apart h
  rwa [msOf_length] at this
theorem Apart.get {e : Nat} : ∀ {l : List (Nat × Nat)} {a : Nat}, Apart e a l → ∀ {i : Nat} {x : Nat × Nat}, l[i]? = some x → a ≤ x.1 ∧ x.1 < x.2 ∧ x.2 ≤ e
  | [], _, _, i, x, h => by simp at h
  | (b, c) :: l, a, q, 0, x, h => by
    have : (b, c) = x := Option.some.inj h
    subst this
    exact ⟨q.1, q.2.1, q.2.2.1⟩
  | (b, c) :: l, a, q, i + 1, x, h => by
    have := Apart.get q.2.2.2 (i := i) (x := x) h
    obtain ⟨h1, h2, _, _⟩ := q
    omega
/-- a text that isn't blanks alone has a line -/
theorem lines_some {s : Setter} {p : Par} {l : List (Nat × Nat)} (h : s.lines p = some l) (hb : p.text.all s.blank = false) : 1 ≤ l.length := by
  rw [← linePlaces_spec] at h
  have h0 : ¬ textEnd (msOf s p.text) = 0 := by
    intro e
    have := blanks_spec s p.text
    rw [e] at this
    simp [hb] at this
  unfold linePlaces at h
  have hn : behindBl (msOf s p.text) 0 < textEnd (msOf s p.text) := by
    -- the character ahead of the end is no blank
    have hne : ∀ (ms : Ms) n, tEnd ms n ≠ 0 → blk ms (tEnd ms n - 1) = false := by
      intro ms n
      induction n with
      | zero => intro q; exact absurd rfl q
      | succ n ih =>
        intro q
        by_cases c : blk ms n = true
        · have e : tEnd ms (n + 1) = tEnd ms n := if_pos c
          rw [e] at q ⊢
          exact ih q
        · have e : tEnd ms (n + 1) = n + 1 := if_neg c
          rw [e, Nat.add_sub_cancel]
          exact Bool.eq_false_iff.mpr c
    have hbl : ∀ (ms : Ms) n p j, p ≤ j → j < bBl ms n p → blk ms j = true := by
      intro ms n
      induction n with
      | zero => intro p j h1 h2; unfold bBl at h2; omega
      | succ n ih =>
        intro p j h1 h2
        by_cases c : blk ms p = true
        · have e : bBl ms (n + 1) p = bBl ms n (p + 1) := if_pos c
          rw [e] at h2
          by_cases g : j = p
          · rw [g]; exact c
          · exact ih (p + 1) j (by omega) h2
        · have e : bBl ms (n + 1) p = p := if_neg c
          rw [e] at h2
          omega
    have k1 := hne (msOf s p.text) _ h0
    by_cases hlt : behindBl (msOf s p.text) 0 < textEnd (msOf s p.text)
    · exact hlt
    · have k2 := hbl (msOf s p.text) ((msOf s p.text).length - 0) 0 (textEnd (msOf s p.text) - 1) (Nat.zero_le _) (by unfold behindBl at hlt; omega)
      unfold textEnd at k2
      rw [k1] at k2
      cases k2
  unfold lpG at h
  rw [if_pos hn] at h
  split at h
  · cases h
  · cases g : lpG (msOf s p.text) (textEnd (msOf s p.text)) (s.room p.depth false) (msOf s p.text).length (behindBl (msOf s p.text) (lineEnd (msOf s p.text) (behindBl (msOf s p.text) 0) (textEnd (msOf s p.text)) (s.room p.depth true))) (s.room p.depth false) with
    | none => rw [g] at h; cases h
    | some r =>
      rw [g] at h
      have := (Option.some.inj h).symm
      subst this
      rw [List.length_cons]
      omega

/-! ### the mirror and the document's columns -/
section
variable {s : Setter} {ps : List Par}
def AtIs (c : Co) (x : At) : Prop := c.column = x.column ∧ c.row = x.row ∧ c.lines = x.done.reverse
theorem put_is {c : Co} {x : At} {i main told_ needs b e : Nat} {opens : Bool} (h : AtIs c x) (hm : c.main = main) (hh : c.held = told_) :
    AtIs ((c.room s needs opens).put i b e 0) (s.put x i main told_ opens needs (b, e)) ∧ ((c.room s needs opens).put i b e 0).main = main ∧ ((c.room s needs opens).put i b e 0).held = told_ := by
  obtain ⟨h1, h2, h3⟩ := h
  unfold Setter.put Co.room
  rw [h2]
  by_cases c1 : x.row + needs ≤ s.house.height
  · rw [if_pos c1]
    simp only [if_pos c1]
    refine ⟨⟨h1, ?_, ?_⟩, hm, hh⟩
    · show c.row + 1 = x.row + 1
      rw [h2]
    · show c.lines ++ [_] = List.reverse (_ :: x.done)
      rw [List.reverse_cons, h1, h2, h3]
  · rw [if_neg c1]
    simp only [if_neg c1]
    cases opens with
    | true =>
      refine ⟨⟨?_, rfl, ?_⟩, hm, hh⟩
      · show c.column + 1 = x.column + 1
        rw [h1]
      · show c.lines ++ [_] = List.reverse (_ :: x.done)
        rw [List.reverse_cons, h3]
        show x.done.reverse ++ [⟨c.column + 1, 0, i, b, e, 0⟩] = _
        rw [h1]
        rfl
    | false =>
      refine ⟨⟨?_, rfl, ?_⟩, hm, hh⟩
      · show c.column + 1 = x.column + 1
        rw [h1]
      · show (c.lines ++ [⟨c.column + 1, 0, c.main, 0, c.held, 1⟩]) ++ [⟨c.column + 1, 0 + 1, i, b, e, 0⟩] = List.reverse (⟨x.column + 1, 1, i, b, e, 0⟩ :: ⟨x.column + 1, 0, main, 0, told_, 1⟩ :: x.done)
        rw [List.reverse_cons, List.reverse_cons, h3, h1, hm, hh]
theorem mains_get : ∀ (ps : List Par) (i m k : Nat) (p : Par), ps[k]? = some p → p.depth = 1 → (mainsFrom i m ps)[k]? = some (i + k)
  | [], i, m, k, p, h, _ => by simp at h
  | q :: ps, i, m, 0, p, h, hd => by
    have : q = p := Option.some.inj h
    subst this
    unfold mainsFrom
    simp only [if_pos hd]
    rfl
  | q :: ps, i, m, k + 1, p, h, hd => by
    unfold mainsFrom
    have := mains_get ps (i + 1) (if q.depth = 1 then i else m) k p h hd
    simp only []
    rw [List.getElem?_cons_succ, this]
    congr 1
    omega
theorem mains_next : ∀ (ps : List Par) (i m k : Nat) (p : Par), ps[k + 1]? = some p → p.depth ≠ 1 → (mainsFrom i m ps)[k + 1]? = (mainsFrom i m ps)[k]?
  | [], i, m, k, p, h, _ => by simp at h
  | q :: ps, i, m, 0, p, h, hd => by
    cases ps with
    | nil => simp at h
    | cons r ps =>
      have : r = p := Option.some.inj h
      subst this
      unfold mainsFrom
      simp only []
      rw [List.getElem?_cons_succ, List.getElem?_cons_zero]
      unfold mainsFrom
      simp only [if_neg hd]
      rfl
  | q :: ps, i, m, k + 1, p, h, hd => by
    unfold mainsFrom
    simp only []
    rw [List.getElem?_cons_succ, List.getElem?_cons_succ]
    exact mains_next ps (i + 1) _ k p h hd
theorem mains_length : ∀ (ps : List Par) (i m : Nat), (mainsFrom i m ps).length = ps.length
  | [], _, _ => rfl
  | q :: ps, i, m => by
    unfold mainsFrom
    simp only []
    rw [List.length_cons, List.length_cons, mains_length ps]

/-- what the document's columns take for granted of paragraphs that were not refused -/
structure Fine (s : Setter) (ps : List Par) : Prop where
  cut : ¬ s.house.width < s.wide s.cut
  first : ∀ p, ps[0]? = some p → p.depth = 1
  lead : ∀ p ∈ ps, p.lead ≤ p.text.length
  some_ : ∀ p ∈ ps, ∃ l, s.lines p = some l
  full : ∀ p ∈ ps, p.text.all s.blank = false
theorem Fine.told (F : Fine s ps) {p : Par} (h : p ∈ ps) : s.told p = fitting (msOf s p.text) 0 p.lead (roomLeft s) := told_spec s p F.cut (F.lead p h)
def mainOk (s : Setter) (ps : List Par) (k : Nat) (c : Co) : Prop := k = 0 ∨ (c.main = (mainsFrom 0 0 ps).toArray.getD (k - 1) 0 ∧ c.held = ((ps.toArray[c.main]?).map s.told).getD 0)
theorem arr_getD {l : List Nat} {i d : Nat} : l.toArray.getD i d = l[i]?.getD d := by
  rw [Array.getD_eq_getD_getElem?, List.getElem?_toArray]
def needsS (s : Setter) (ps : Array Par) (i : Nat) (p : Par) (n : Nat) : Nat := if 1 < n then 2 else if p.depth = 1 then (match ps[i + 1]? with
    | some q => if q.depth = 1 then 1 else if 1 < ((s.lines q).getD []).length then 3 else 2
    | none => 1) else 1
def otherB (ps : Array Par) (i : Nat) (p : Par) : Bool := match i with
  | 0 => false
  | j + 1 => p.depth == 1 && ((ps[j]?).map fun (q : Par) => q.group) != some p.group
def begins (s : Setter) (ps : Array Par) (x : At) (i : Nat) (p : Par) : At := if otherB ps i p = true ∧ x.row ≠ 0 then { x with row := x.row + s.house.gap } else x
theorem putPar_eq (ps : Array Par) (mains : Array Nat) (x : At) (i : Nat) (p : Par) (ls : List (Nat × Nat)) : s.putPar ps mains x i p ls =
    (ls.zipIdx.foldl (fun (x : At) (l : (Nat × Nat) × Nat) => s.put x i (mains.getD i 0) (((ps[mains.getD i 0]?).map s.told).getD 0) (p.depth == 1 && l.2 == 0) (if l.2 = 0 then needsS s ps i p ls.length else 1) l.1) (begins s ps x i p)) := rfl
theorem needs_is (F : Fine s ps) {i : Nat} {p : Par} (h : ps[i]? = some p) : needsOf (ps.map (prOf s)) i (prOf s p) = needsS s ps.toArray i p ((s.lines p).getD []).length := by
  unfold needsOf needsS
  rw [List.getElem?_toArray, List.getElem?_map]
  cases e : ps[i + 1]? with
  | none => rfl
  | some q =>
    show (if 1 < ((s.lines p).getD []).length then 2 else if p.depth = 1 then (if q.depth = 1 then 1 else 1 + min 2 ((s.lines q).getD []).length) else 1) =
      (if 1 < ((s.lines p).getD []).length then 2 else if p.depth = 1 then (if q.depth = 1 then 1 else if 1 < ((s.lines q).getD []).length then 3 else 2) else 1)
    have hq : q ∈ ps := List.mem_of_getElem? e
    obtain ⟨l, hl⟩ := F.some_ q hq
    have h1 := lines_some hl (F.full q hq)
    have e3 : ((s.lines q).getD []).length = l.length := by rw [hl]; rfl
    have e4 : 1 + min 2 ((s.lines q).getD []).length = if 1 < ((s.lines q).getD []).length then 3 else 2 := by
      rw [e3]
      by_cases c : 1 < l.length
      · rw [if_pos c, Nat.min_eq_left (by omega)]
      · rw [if_neg c, Nat.min_eq_right (by omega)]
        omega
    rw [e4]
theorem start_is (F : Fine s ps) {c : Co} {x : At} {i : Nat} {p : Par} (h : ps[i]? = some p) (hA : AtIs c x) (hM : mainOk s ps i c) (h0 : i = 0 → c.row = 0) :
    AtIs (c.start s (ps.map (prOf s)) i (prOf s p)) (begins s ps.toArray x i p) ∧
      (c.start s (ps.map (prOf s)) i (prOf s p)).main = (mainsFrom 0 0 ps).toArray.getD i 0 ∧ (c.start s (ps.map (prOf s)) i (prOf s p)).held = ((ps.toArray[(c.start s (ps.map (prOf s)) i (prOf s p)).main]?).map s.told).getD 0 := by
  have hp : p ∈ ps := List.mem_of_getElem? h
  obtain ⟨a1, a2, a3⟩ := hA
  have b1 : (begins s ps.toArray x i p).column = x.column := by unfold begins; split <;> rfl
  have b3 : (begins s ps.toArray x i p).done = x.done := by unfold begins; split <;> rfl
  have b2 : (begins s ps.toArray x i p).row = if otherB ps.toArray i p = true ∧ x.row ≠ 0 then x.row + s.house.gap else x.row := by unfold begins; split <;> rfl
  unfold AtIs
  rw [b1, b2, b3]
  by_cases hd : p.depth = 1
  · have e0 : c.start s (ps.map (prOf s)) i (prOf s p) = c.begin s (ps.map (prOf s)) i (prOf s p) := if_pos hd
    rw [e0]
    refine ⟨⟨a1, ?_, a3⟩, ?_, ?_⟩
    · show (if c.row ≠ 0 ∧ p.group ≠ prevGroup (ps.map (prOf s)) i then c.row + s.house.gap else c.row) = _
      cases i with
      | zero =>
        have := h0 rfl
        rw [if_neg (by omega), if_neg (by unfold otherB; simp)]
        exact a2
      | succ j =>
        have hj : ∃ q, ps[j]? = some q := by
          have := (List.getElem?_eq_some_iff.mp h).1
          exact ⟨ps[j]'(by omega), List.getElem?_eq_getElem (by omega)⟩
        obtain ⟨q, hq⟩ := hj
        have e1 : prevGroup (ps.map (prOf s)) (j + 1) = q.group := by
          unfold prevGroup
          rw [Nat.add_sub_cancel, List.getElem?_map, hq]
          rfl
        have e2 : otherB ps.toArray (j + 1) p = decide (p.group ≠ q.group) := by
          unfold otherB
          simp only []
          rw [List.getElem?_toArray, hq, hd]
          by_cases g : p.group = q.group
          · simp [g]
          · have g' : ¬ q.group = p.group := fun e => g e.symm
            simp [g, g']
        rw [e1, ← a2, e2]
        simp only [decide_eq_true_iff]
        by_cases g : p.group ≠ q.group <;> by_cases r : c.row ≠ 0
        · rw [if_pos ⟨r, g⟩, if_pos ⟨g, r⟩]
        · rw [if_neg (fun z => r z.1), if_neg (fun z => r z.2)]
        · rw [if_neg (fun z => g z.2), if_neg (fun z => g z.1)]
        · rw [if_neg (fun z => g z.2), if_neg (fun z => g z.1)]
    · show i = _
      rw [arr_getD, mains_get ps 0 0 i p h hd]
      simp
    · show fitting (msOf s p.text) 0 p.lead (roomLeft s) = ((ps.toArray[i]?).map s.told).getD 0
      rw [List.getElem?_toArray, h]
      exact (F.told hp).symm
  · have e0 : c.start s (ps.map (prOf s)) i (prOf s p) = c := if_neg hd
    rw [e0]
    cases i with
    | zero => exact absurd (F.first p h) hd
    | succ j =>
      rcases hM with hM | ⟨m1, m2⟩
      · omega
      · have e2 : otherB ps.toArray (j + 1) p = false := by
          have : (p.depth == 1) = false := by simp [hd]
          unfold otherB
          simp only [this]
          rfl
        rw [e2, if_neg (by simp)]
        refine ⟨⟨a1, a2, a3⟩, ?_, m2⟩
        rw [m1, Nat.add_sub_cancel, arr_getD, arr_getD, mains_next ps 0 0 j p h hd]
theorem par_is (F : Fine s ps) {c : Co} {x : At} {i : Nat} {p : Par} (h : ps[i]? = some p) (hA : AtIs c x) (hM : mainOk s ps i c) (h0 : i = 0 → c.row = 0) :
    AtIs (c.par s (ps.map (prOf s)) i (prOf s p)) (s.putPar ps.toArray (mainsFrom 0 0 ps).toArray x i p ((s.lines p).getD [])) ∧ mainOk s ps (i + 1) (c.par s (ps.map (prOf s)) i (prOf s p)) := by
  obtain ⟨s1, s2, s3⟩ := start_is F h hA hM h0
  rw [putPar_eq, ← s2, ← s3]
  unfold Co.par
  rw [needs_is F h]
  generalize needsS s ps.toArray i p ((s.lines p).getD []).length = needs at *
  generalize c.start s (ps.map (prOf s)) i (prOf s p) = c1 at *
  generalize begins s ps.toArray x i p = x1 at *
  have turn : ∀ k, k ≤ ((s.lines p).getD []).length → (fun (k : Nat) (u : Co) (v : At) => AtIs u v ∧ u.main = c1.main ∧ u.held = c1.held) k
      (upTo (Co.line s i needs (decide (p.depth = 1))) c1 ((s.lines p).getD []) k)
      (upTo (fun (x : At) (o : Nat) (l : Nat × Nat) => s.put x i c1.main c1.held (p.depth == 1 && o == 0) (if o = 0 then needs else 1) l) x1 ((s.lines p).getD []) k) := by
    refine upTo_rel (fun (k : Nat) (u : Co) (v : At) => AtIs u v ∧ u.main = c1.main ∧ u.held = c1.held) ⟨s1, rfl, rfl⟩ fun k l u v hk hu => ?_
    obtain ⟨u1, u2, u3⟩ := hu
    have e : (if k = 0 then decide (p.depth = 1) else false) = (p.depth == 1 && k == 0) := by
      by_cases z : k = 0
      · subst z
        by_cases g : p.depth = 1 <;> simp [g]
      · rw [if_neg z]
        have : (k == 0) = false := by simp [z]
        rw [this, Bool.and_false]
    unfold Co.line
    rw [e]
    exact put_is u1 u2 u3
  have fin := turn _ (Nat.le_refl _)
  have e2 := upTo_all (f := fun (x : At) (o : Nat) (l : Nat × Nat) => s.put x i c1.main c1.held (p.depth == 1 && o == 0) (if o = 0 then needs else 1) l) (b := x1) (l := (s.lines p).getD [])
  rw [e2]
  exact ⟨fin.1, .inr ⟨by rw [Nat.add_sub_cancel, ← s2]; exact fin.2.1, fin.2.2.trans (by
    have e5 := fin.2.1
    show _ = ((ps.toArray[(upTo _ c1 ((s.lines p).getD []) _).main]?).map s.told).getD 0
    rw [s3]
    exact congrArg (fun m => ((ps.toArray[m]?).map s.told).getD 0) e5.symm)⟩⟩
theorem cols_is (F : Fine s ps) : s.columns ps = .ok (colsM s (ps.map (prOf s))).lines := by
  have e0 : (ps.findIdx? fun (p : Par) => (s.lines p).isNone) = none := by
    rw [List.findIdx?_eq_none_iff]
    intro p hp
    obtain ⟨l, hl⟩ := F.some_ p hp
    rw [hl]
    rfl
  unfold Setter.columns
  rw [e0]
  simp only []
  congr 1
  have e2 := upTo_all (f := fun (x : At) (i : Nat) (p : Par) => s.putPar ps.toArray (mainsFrom 0 0 ps).toArray x i p ((s.lines p).getD [])) (b := (⟨0, 0, []⟩ : At)) (l := ps)
  rw [e2]
  have turn : ∀ k, k ≤ ps.length → (fun (k : Nat) (u : Co) (v : At) => AtIs u v ∧ mainOk s ps k u ∧ (k = 0 → u.row = 0)) k
      (upTo (fun (c : Co) (i : Nat) (p : Par) => c.par s (ps.map (prOf s)) i (prOf s p)) Co.new ps k)
      (upTo (fun (x : At) (i : Nat) (p : Par) => s.putPar ps.toArray (mainsFrom 0 0 ps).toArray x i p ((s.lines p).getD [])) (⟨0, 0, []⟩ : At) ps k) := by
    refine upTo_rel (fun (k : Nat) (u : Co) (v : At) => AtIs u v ∧ mainOk s ps k u ∧ (k = 0 → u.row = 0)) ⟨⟨rfl, rfl, rfl⟩, .inl rfl, fun _ => rfl⟩ fun k p u v hk hu => ?_
    obtain ⟨u1, u2, u3⟩ := hu
    have := par_is F hk u1 u2 u3
    exact ⟨this.1, this.2, fun z => by omega⟩
  have fin := (turn _ (Nat.le_refl _)).1.2.2
  rw [← fin]
  unfold colsM
  rw [List.length_map]
  have : ∀ k, k ≤ ps.length → upTo (Co.par s (ps.map (prOf s))) Co.new (ps.map (prOf s)) k = upTo (fun (c : Co) (i : Nat) (p : Par) => c.par s (ps.map (prOf s)) i (prOf s p)) Co.new ps k := by
    intro k
    induction k with
    | zero => intro _; rfl
    | succ k ih =>
      intro hk
      have hx : ps[k]? = some ps[k] := List.getElem?_eq_getElem (by omega)
      have hx' : (ps.map (prOf s))[k]? = some (prOf s ps[k]) := by rw [List.getElem?_map, hx]; rfl
      rw [upTo_some hx, upTo_some hx', ih (by omega)]
  rw [this _ (Nat.le_refl _)]
end
end Hc

/-! Mathematics, part 3: what holds of the lines that are set. -/
namespace Hc
open IhColumn

def widL (ls : List Line) : Nat := (ls.map fun l => if l.kind = 0 then l.to_ - l.from_ else 0).sum
def Before (a b : Line) : Prop := a.kind = 0 → b.kind = 0 → a.par < b.par ∨ (a.par = b.par ∧ a.to_ ≤ b.from_)
/-- all but where the last line stands -/
structure LW (i pos cnt wid : Nat) (c : Co) : Prop where
  mono : c.lines.Pairwise fun a b => a.column ≤ b.column
  top : ∀ l ∈ c.lines, l.column ≤ c.column
  kinds : ∀ l ∈ c.lines, l.par ≤ i ∧ (l.kind = 0 ∨ (l.kind = 1 ∧ l.from_ = 0))
  main : c.main ≤ i
  apart : c.lines.Pairwise Before
  done : ∀ l ∈ c.lines, l.kind = 0 → l.par < i ∨ (l.par = i ∧ l.to_ ≤ pos)
  cnt : c.lines.length ≤ cnt
  wid : widL c.lines ≤ wid
structure LI (i pos cnt wid : Nat) (c : Co) : Prop extends LW i pos cnt wid c where
  last : ∀ l, c.lines.getLast? = some l → l.column = c.column
section
variable {s : Setter} {i pos cnt wid : Nat} {c : Co}
theorem pairwise_snoc {α : Type} {R : α → α → Prop} {l : List α} {x : α} (h : l.Pairwise R) (hx : ∀ a ∈ l, R a x) : (l ++ [x]).Pairwise R := by
  rw [List.pairwise_append]
  refine ⟨h, List.pairwise_singleton _ _, fun a ha b hb => ?_⟩
  rw [List.mem_singleton] at hb
  subst hb
  exact hx a ha
theorem put_LI {number b e k pos' cnt' wid' : Nat} (h : LW i pos cnt wid c) (hn : number ≤ i) (hk : (k = 0 ∧ number = i ∧ pos ≤ b ∧ e ≤ pos') ∨ (k = 1 ∧ b = 0)) (hp : pos ≤ pos') (hc : cnt + 1 ≤ cnt') (hw : wid + (if k = 0 then e - b else 0) ≤ wid') :
    LI i pos' cnt' wid' (c.put number b e k) := by
  refine ⟨⟨?_, ?_, ?_, h.main, ?_, ?_, ?_, ?_⟩, ?_⟩
  · exact pairwise_snoc h.mono h.top
  · intro l hl
    rcases List.mem_append.mp hl with q | q
    · exact h.top l q
    · rw [List.mem_singleton] at q
      subst q
      exact Nat.le_refl _
  · intro l hl
    rcases List.mem_append.mp hl with q | q
    · exact h.kinds l q
    · rw [List.mem_singleton] at q
      subst q
      refine ⟨hn, ?_⟩
      rcases hk with ⟨z, _⟩ | ⟨z, z2⟩
      · exact .inl z
      · exact .inr ⟨z, z2⟩
  · refine pairwise_snoc h.apart fun a ha k1 k2 => ?_
    rcases hk with ⟨z, z2, z3, z4⟩ | ⟨z, _⟩
    · rcases h.done a ha k1 with q | ⟨q1, q2⟩
      · exact .inl (by show a.par < number; omega)
      · exact .inr ⟨by show a.par = number; omega, by show a.to_ ≤ b; omega⟩
    · have : k = 0 := k2
      omega
  · intro l hl k1
    rcases List.mem_append.mp hl with q | q
    · rcases h.done l q k1 with q | ⟨q1, q2⟩
      · exact .inl q
      · exact .inr ⟨q1, by omega⟩
    · rw [List.mem_singleton] at q
      subst q
      have k1 : k = 0 := k1
      rcases hk with ⟨z, z2, z3, z4⟩ | ⟨z, _⟩
      · exact .inr ⟨z2, z4⟩
      · omega
  · show (c.lines ++ [_]).length ≤ cnt'
    rw [List.length_append, List.length_singleton]
    have := h.cnt
    omega
  · show widL (c.lines ++ [_]) ≤ wid'
    unfold widL
    rw [List.map_append, List.sum_append, List.map_singleton]
    simp only [List.sum_cons, List.sum_nil]
    have := h.wid
    unfold widL at this
    omega
  · intro l hl
    have : (c.lines ++ [(⟨c.column, c.row, number, b, e, k⟩ : Line)]).getLast? = some l := hl
    rw [List.getLast?_append, List.getLast?_singleton] at this
    have := (Option.some.inj this).symm
    subst this
    rfl
theorem room_LW {needs : Nat} {opens : Bool} (h : LW i pos cnt wid c) : LW i pos (cnt + 1) wid (c.room s needs opens) := by
  unfold Co.room
  split
  · exact { h with cnt := Nat.le_succ_of_le h.cnt }
  · have g : LW i pos cnt wid { c with column := c.column + 1, row := 0 } := { h with top := fun l hl => Nat.le_succ_of_le (h.top l hl) }
    split
    · exact { g with cnt := Nat.le_succ_of_le g.cnt }
    · exact (put_LI g h.main (.inr ⟨rfl, rfl⟩) (Nat.le_refl _) (Nat.le_refl _) (by simp)).toLW
theorem line_LI {needs1 order b e : Nat} {isMain : Bool} (h : LI i pos cnt wid c) (hb : pos ≤ b) (he : b ≤ e) : LI i e (cnt + 2) (wid + (e - b)) (c.line s i needs1 isMain order (b, e)) :=
  put_LI (room_LW h.toLW) (Nat.le_refl _) (.inl ⟨rfl, rfl, hb, Nat.le_refl _⟩) (by omega) (by omega) (by simp)
theorem start_LI {ps : List Pr} {p : Pr} (h : LI i pos cnt wid c) : LI i pos cnt wid (c.start s ps i p) := by
  unfold Co.start
  split
  · exact { mono := h.mono, top := h.top, kinds := h.kinds, main := Nat.le_refl _, apart := h.apart, done := h.done, cnt := h.cnt, wid := h.wid, last := h.last }
  · exact h
theorem Apart.next {e : Nat} : ∀ {l : List (Nat × Nat)} {a : Nat}, Apart e a l → ∀ {i : Nat} {x y : Nat × Nat}, l[i]? = some x → l[i + 1]? = some y → x.2 ≤ y.1
  | [], _, _, i, x, y, h, _ => by simp at h
  | (b, c) :: l, a, q, 0, x, y, h, g => by
    have : (b, c) = x := Option.some.inj h
    subst this
    exact (q.2.2.2.get (i := 0) g).1
  | (b, c) :: l, a, q, i + 1, x, y, h, g => Apart.next q.2.2.2 (i := i) h g
theorem wideOf_take {l : List (Nat × Nat)} {k : Nat} {x : Nat × Nat} (h : l[k]? = some x) : wideOf (l.take (k + 1)) = wideOf (l.take k) + (x.2 - x.1) := by
  unfold wideOf
  rw [List.take_succ, h]
  simp
theorem par_LI {ps : List Pr} {p : Pr} {e : Nat} (h : LI i 0 cnt wid c) (ha : Apart e 0 p.places) : LI (i + 1) 0 (cnt + 2 * p.places.length) (wid + wideOf p.places) (c.par s ps i p) ∧ ∀ l ∈ (c.par s ps i p).lines, l.par < i + 1 := by
  have main := upTo_ind (f := Co.line s i (needsOf ps i p) (decide (p.par.depth = 1))) (b := c.start s ps i p) (l := p.places)
    (fun k c => ∃ pos, LI i pos (cnt + 2 * k) (wid + wideOf (p.places.take k)) c ∧ ∀ x, p.places[k]? = some x → pos ≤ x.1)
    ⟨0, start_LI (by simpa [wideOf] using h), fun _ _ => Nat.zero_le _⟩ (fun k x c hk hP => by
      obtain ⟨pos, hL, hp⟩ := hP
      have g := ha.get hk
      refine ⟨x.2, ?_, fun y hy => ha.next hk hy⟩
      have := line_LI (s := s) (needs1 := needsOf ps i p) (order := k) (isMain := decide (p.par.depth = 1)) hL (hp x hk) (by omega : x.1 ≤ x.2)
      rw [wideOf_take hk, show cnt + 2 * (k + 1) = cnt + 2 * k + 2 by omega, ← Nat.add_assoc]
      exact this) p.places.length (Nat.le_refl _)
  obtain ⟨pos, hL, _⟩ := main
  rw [List.take_length] at hL
  exact ⟨{ mono := hL.mono, top := hL.top, kinds := fun l hl => ⟨Nat.le_succ_of_le (hL.kinds l hl).1, (hL.kinds l hl).2⟩, main := Nat.le_succ_of_le hL.main, apart := hL.apart, done := fun l hl _ => .inl (Nat.lt_succ_of_le (hL.kinds l hl).1), cnt := hL.cnt, wid := hL.wid, last := hL.last }, fun l hl => Nat.lt_succ_of_le (hL.kinds l hl).1⟩
end

def textSum (ps : List Pr) : Nat := (ps.map fun p => p.par.text.length).sum
/-- what is told of the lines that are set, n paragraphs -/
structure LinesOk (n : Nat) (lines : List Line) : Prop where
  kinds : ∀ l ∈ lines, l.par < n ∧ (l.kind = 0 ∨ (l.kind = 1 ∧ l.from_ = 0))
  apart : lines.Pairwise Before
  cols : ∀ l, lines.getLast? = some l → ∀ m ∈ lines, m.column ≤ l.column
theorem linesOk_nil (n : Nat) : LinesOk n [] := ⟨fun l h => by simp at h, List.Pairwise.nil, fun l h => by simp at h⟩
/-- the state of the columns ahead of the k-th paragraph -/
theorem upTo_LI {s : Setter} {ps : List Pr} (ha : ∀ p ∈ ps, Apart p.par.text.length 0 p.places) : ∀ k, k ≤ ps.length →
    LI k 0 (2 * textSum (ps.take k)) (textSum (ps.take k)) (upTo (Co.par s ps) Co.new ps k) ∧ ∀ l ∈ (upTo (Co.par s ps) Co.new ps k).lines, l.par < k :=
  upTo_ind (fun k c => LI k 0 (2 * textSum (ps.take k)) (textSum (ps.take k)) c ∧ ∀ l ∈ c.lines, l.par < k)
    ⟨{ mono := List.Pairwise.nil, top := fun l h => by simp [Co.new] at h, kinds := fun l h => by simp [Co.new] at h, main := Nat.le_refl _, apart := List.Pairwise.nil, done := fun l h => by simp [Co.new] at h, cnt := Nat.zero_le _, wid := Nat.zero_le _, last := fun l h => by simp [Co.new] at h }, fun l h => by simp [Co.new] at h⟩
    fun k p c hk h => by
      have hp := ha p (List.mem_of_getElem? hk)
      obtain ⟨g, g2⟩ := par_LI (s := s) (ps := ps) h.1 hp
      have h1 := hp.len
      have h2 := hp.sum (Nat.zero_le _)
      have e : textSum (ps.take (k + 1)) = textSum (ps.take k) + p.par.text.length := by
        unfold textSum
        rw [List.take_succ, hk]
        simp
      rw [e]
      exact ⟨{ g with cnt := by have := g.cnt; omega, wid := by have := g.wid; omega }, g2⟩
theorem colsM_ok {s : Setter} {ps : List Pr} (ha : ∀ p ∈ ps, Apart p.par.text.length 0 p.places) :
    LinesOk ps.length (colsM s ps).lines ∧ (colsM s ps).lines.length ≤ 2 * textSum ps ∧ widL (colsM s ps).lines ≤ textSum ps := by
  obtain ⟨g, g2⟩ := upTo_LI (s := s) ha ps.length (Nat.le_refl _)
  rw [List.take_length] at g
  exact ⟨⟨fun l hl => ⟨g2 l hl, (g.kinds l hl).2⟩, g.apart, fun l hl m hm => by rw [g.last l hl]; exact g.top m hm⟩, g.cnt, g.wid⟩

/-! ### how many columns -/
theorem foldl_max : ∀ (l : List Nat) (a m : Nat), (∀ x ∈ l, x ≤ m) → a ≤ m → l.foldl max a ≤ m
  | [], a, m, _, h => h
  | x :: l, a, m, hx, h => by
    rw [List.foldl_cons]
    exact foldl_max l _ m (fun y hy => hx y (List.mem_cons_of_mem _ hy)) (Nat.max_le.mpr ⟨h, hx x List.mem_cons_self⟩)
theorem columns_is {n : Nat} {lines : List Line} (h : LinesOk n lines) : (lines.map fun l : Line => l.column + 1).foldl max 0 = match lines.getLast? with
    | some l => l.column + 1
    | none => 0 := by
  cases e : lines.getLast? with
  | none =>
    rw [List.getLast?_eq_none_iff] at e
    subst e
    rfl
  | some l =>
    have hc := h.cols l e
    obtain ⟨ys, hy⟩ := List.getLast?_eq_some_iff.mp e
    rw [hy, List.map_append, List.foldl_append]
    show max (((ys.map fun l : Line => l.column + 1)).foldl max 0) (l.column + 1) = l.column + 1
    refine Nat.max_eq_right (foldl_max _ _ _ (fun x hx => ?_) (Nat.zero_le _))
    obtain ⟨m, hm, rfl⟩ := List.mem_map.mp hx
    have := hc m (by rw [hy]; exact List.mem_append_left _ hm)
    omega

/-! ### where a character stands -/
def cov (p x : Nat) (l : Line) : Bool := l.kind == 0 && l.par == p && (decide (l.from_ ≤ x) && decide (x < l.to_))
/-- the last of the first k lines that holds the place x of the paragraph p -/
def stand (lines : List Line) (p x : Nat) : Nat → Option Nat
  | 0 => none
  | k + 1 => match lines[k]? with
    | some l => if cov p x l = true then some k else stand lines p x k
    | none => stand lines p x k
theorem stand_some {lines : List Line} {p x k : Nat} {l : Line} (h : lines[k]? = some l) : stand lines p x (k + 1) = if cov p x l = true then some k else stand lines p x k := by
  show (match lines[k]? with | some l => if cov p x l = true then some k else stand lines p x k | none => stand lines p x k) = _
  rw [h]
theorem stand_char {lines : List Line} {p x : Nat} : ∀ k, k ≤ lines.length → (∀ j, stand lines p x k = some j → j < k ∧ ∃ l, lines[j]? = some l ∧ cov p x l = true) ∧
    (stand lines p x k = none → ∀ j l, j < k → lines[j]? = some l → cov p x l = false)
  | 0, _ => ⟨fun j h => (by cases h), fun _ j l h => absurd h (Nat.not_lt_zero _)⟩
  | k + 1, hk => by
    have hx : lines[k]? = some lines[k] := List.getElem?_eq_getElem (by omega)
    have ih := stand_char (lines := lines) (p := p) (x := x) k (by omega)
    rw [stand_some hx]
    by_cases c : cov p x lines[k] = true
    · rw [if_pos c]
      refine ⟨fun j h => ?_, fun h => by cases h⟩
      have : k = j := Option.some.inj h
      subst this
      exact ⟨by omega, _, hx, c⟩
    · rw [if_neg c]
      refine ⟨fun j h => ?_, fun h j l hj hl => ?_⟩
      · have := ih.1 j h
        exact ⟨by omega, this.2⟩
      · by_cases e : j = k
        · subst e
          have : lines[j] = l := Option.some.inj (hx.symm.trans hl)
          rw [← this]
          exact Bool.eq_false_iff.mpr c
        · exact ih.2 h j l (by omega) hl
theorem cov_true {p x : Nat} {l : Line} (h : cov p x l = true) : l.kind = 0 ∧ l.par = p ∧ l.from_ ≤ x ∧ x < l.to_ := by
  unfold cov at h
  simp only [Bool.and_eq_true, beq_iff_eq, decide_eq_true_eq] at h
  exact ⟨h.1.1, h.1.2, h.2.1, h.2.2⟩
theorem stand_is {n : Nat} {lines : List Line} (h : LinesOk n lines) (p x : Nat) : lines.findIdx? (cov p x) = stand lines p x lines.length := by
  have ch := stand_char (lines := lines) (p := p) (x := x) lines.length (Nat.le_refl _)
  cases e : stand lines p x lines.length with
  | none =>
    rw [List.findIdx?_eq_none_iff]
    intro l hl
    obtain ⟨j, hj, rfl⟩ := List.getElem_of_mem hl
    exact ch.2 e j _ hj (List.getElem?_eq_getElem hj)
  | some j =>
    obtain ⟨hj, l, hl, hc⟩ := ch.1 j e
    rw [List.findIdx?_eq_some_iff_getElem]
    have el : lines[j] = l := Option.some.inj ((List.getElem?_eq_getElem hj).symm.trans hl)
    refine ⟨hj, by rw [el]; exact hc, fun i hi => ?_⟩
    have hp := (List.pairwise_iff_getElem.mp h.apart) i j (by omega) hj hi
    intro hci
    obtain ⟨a1, a2, a3, a4⟩ := cov_true hci
    obtain ⟨b1, b2, b3, b4⟩ := cov_true hc
    rw [el] at hp
    rcases hp a1 b1 with q | ⟨q1, q2⟩
    · omega
    · omega
end Hc

/-! Words of the heap. -/
namespace Hc
open PySem PySem.Spec PyProof.Rows L2
def top (i : Nat) : Stmt := PySem.Challenge.pw_headcolumns_s01_answers.main.body.getD i (.Pass ⟨0, 0, 0, 0⟩)
abbrev nV (n : Nat) : V := .int (n : Int)
/-- all that was tracked, but for some, is as it was -/
def Kp (S : List Addr) (H H' : Hp) : Prop := ∀ b o, H b = some o → b ∉ S → H' b = some o
theorem Kp.refl (S : List Addr) (H : Hp) : Kp S H H := fun _ _ h _ => h
theorem Kp.trans {S : List Addr} {H H1 H2 : Hp} (a : Kp S H H1) (b : Kp S H1 H2) : Kp S H H2 := fun c o h n => b c o (a c o h n) n
theorem Kp.wide {S S' : List Addr} {H H' : Hp} (a : Kp S H H') (h : ∀ b, b ∈ S → b ∈ S') : Kp S' H H' := fun c o e n => a c o e fun m => n (h c m)
theorem Same.kp {H H' : Hp} (a : Same H H') (S : List Addr) : Kp S H H' := fun c o h _ => a c o h
theorem Kp.same {H H' : Hp} (a : Kp [] H H') : Same H H' := fun c o h => a c o h (by simp)
/-- what is new is no matter -/
theorem Kp.drop {S S' : List Addr} {H H' : Hp} (a : Kp S H H') (h : ∀ b, b ∈ S → b ∈ S' ∨ H b = none) : Kp S' H H' := fun c o e n => a c o e fun m => by
  rcases h c m with q | q
  · exact n q
  · rw [e] at q
    cases q
theorem same_new {H : Hp} {p : Addr} {o : HO} (n : H p = none) : Same H (upd H p o) := fun b u e => by
  rw [upd_ne (ne_of_none e n)]
  exact e
theorem Same.new {H H1 : Hp} {p : Addr} {o : HO} (s : Same H H1) (n : H1 p = none) : Same H (upd H1 p o) := s.trans (same_new n)
theorem keep {H : Hp} {a p : Addr} {u o : HO} (e : H a = some u) (n : H p = none) : upd H p o a = some u := same_new n a u e
theorem Same.some {H H' : Hp} (s : Same H H') {a : Addr} {o : HO} (h : H a = some o) : H' a = some o := s a o h
theorem kp_upd {H : Hp} {p : Addr} {o : HO} : Kp [p] H (upd H p o) := fun b u e n => by
  rw [upd_ne fun z => n (by rw [z]; exact List.mem_singleton.mpr rfl)]
  exact e
/-- measures: a list of pairs -/
def MsAt (H : Hp) (p : Addr) (ms : Ms) : Prop := ∃ ts : List Addr, H p = some (.lst (ts.map V.ref)) ∧ ts.length = ms.length ∧ ∀ i t, ts[i]? = some t → H t = some (.tup [nV (wd ms i), nV (kd ms i)])
theorem MsAt.same {H H' : Hp} {p : Addr} {ms : Ms} (h : MsAt H p ms) (s : Same H H') : MsAt H' p ms := by
  obtain ⟨ts, a, b, c⟩ := h
  exact ⟨ts, s _ _ a, b, fun i t e => s _ _ (c i t e)⟩
theorem MsAt.get {H : Hp} {p : Addr} {ms : Ms} (h : MsAt H p ms) {i : Nat} (hi : i < ms.length) : ∃ (xs : List V) (t : Addr), H p = some (.lst xs) ∧ xs.length = ms.length ∧ xs[i]? = some (V.ref t) ∧ H t = some (.tup [nV (wd ms i), nV (kd ms i)]) := by
  obtain ⟨ts, a, b, c⟩ := h
  have hi' : i < ts.length := by omega
  have e : ts[i]? = some ts[i] := List.getElem?_eq_getElem hi'
  refine ⟨_, ts[i], a, by rw [List.length_map]; exact b, ?_, c i _ e⟩
  rw [List.getElem?_map, e]
  rfl
theorem MsAt.len {H : Hp} {p : Addr} {ms : Ms} (h : MsAt H p ms) : ∃ xs : List V, H p = some (.lst xs) ∧ xs.length = ms.length := by
  obtain ⟨ts, a, b, c⟩ := h
  exact ⟨_, a, by rw [List.length_map]; exact b⟩
theorem at_nat {xs : List V} {z : Int} {j : Nat} {v : V} (h : xs[j]? = some v) (e : z = (j : Int)) : atI xs z = some v := at_of e h
/-- names of the top: the built-in ones are not bound, the numbers are -/
structure Txt (mg : Str → Option Value) : Prop where
  len : mg "len" = none
  max : mg "max" = none
  min : mg "min" = none
  sum : mg "sum" = none
  any : mg "any" = none
  int : mg "int" = none
  sorted : mg "sorted" = none
  range : mg "range" = none
  enumerate : mg "enumerate" = none
  blank : ∃ t, mg "BLANK" = some (.int 1 t)
  behind : ∃ t, mg "BREAK_BEHIND" = some (.int 2 t)
  cSheet : ∃ t, mg "CALL_SHEET" = some (.int 1 t)
  cSet : ∃ t, mg "CALL_SET" = some (.int 2 t)
  cLine : ∃ t, mg "CALL_LINE" = some (.int 3 t)
  cWhere : ∃ t, mg "CALL_WHERE" = some (.int 4 t)
  least : ∃ t, mg "LEAST_HEIGHT" = some (.int 3 t)
  mHeight : ∃ t, mg "MOST_HEIGHT" = some (.int 1000 t)
  mGap : ∃ t, mg "MOST_GAP" = some (.int 100 t)
  mWidth : ∃ t, mg "MOST_WIDTH" = some (.int 1000000 t)
  mRanges : ∃ t, mg "MOST_RANGES" = some (.int 256 t)
  mCut : ∃ t, mg "MOST_CUT" = some (.int 64 t)
  mKind : ∃ t, mg "MOST_KIND" = some (.int 2 t)
  mDepth : ∃ t, mg "MOST_DEPTH" = some (.int 3 t)
  mText : ∃ t, mg "MOST_TEXT" = some (.int 65535 t)
  mTexts : ∃ t, mg "MOST_TEXTS" = some (.int 262144 t)
  mLines : ∃ t, mg "MOST_LINES" = some (.int 65536 t)
/-- a def of the top keeps its promise -/
structure DefOk (P : Program) (w : World) (K : PySem.W.Frag) (mg : Str → Option Value) (base : Heap) (k : Nat) (x : Str) (ps : List Str) (sp : Sp) : Prop where
  ex : ∃ (f : Addr) (fd : FuncData), mg x = some (.ref f) ∧ PySem.W.keepIn K (.ref f) = true ∧ Binds K fd ps [] ∧ FnOk P w K mg base CX0 k f fd ps sp
/-- a method -/
structure MethOk (P : Program) (w : World) (K : PySem.W.Frag) (mg : Str → Option Value) (base : Heap) (k : Nat) (C : Addr) (m : Str) (ps : List Str) (sp : Sp) : Prop where
  ex : ∃ (f : Addr) (fd : FuncData), Meth K C m f ∧ Binds K fd ps [] ∧ FnOk P w K mg base CX0 k f fd ps sp
/-- a class is made by its __init__ -/
structure MakeOk (P : Program) (w : World) (K : PySem.W.Frag) (mg : Str → Option Value) (base : Heap) (k : Nat) (C : Addr) (x : Str) (ps : List Str) (sp : Sp) : Prop where
  ex : ∃ (f : Addr) (fd : FuncData), Mk K C f ∧ mg x = some (.ref C) ∧ Binds K fd ps [] ∧ FnOk P w K mg base CX0 k f fd ps sp
/-- where a def of the text lies, as its function -/
structure Laid (K : PySem.W.Frag) (mg : Str → Option Value) (x : Str) (st : Stmt) : Prop where
  ex : ∃ (f : Addr) (fd : FuncData), mg x = some (.ref f) ∧ Fun K x x st f fd
structure LaidM (K : PySem.W.Frag) (C : Addr) (m qual : Str) (st : Stmt) : Prop where
  ex : ∃ (f : Addr) (fd : FuncData), Meth K C m f ∧ Fun K m qual st f fd
structure LaidC (K : PySem.W.Frag) (mg : Str → Option Value) (C : Addr) (x qual : Str) (st : Stmt) : Prop where
  ex : ∃ (f : Addr) (fd : FuncData), Mk K C f ∧ mg x = some (.ref C) ∧ Fun K "__init__" qual st f fd
end Hc

namespace Hc
open PySem PySem.Spec PyProof.Rows L2
section
variable {P : Program} {w : World} {K : PySem.W.Frag} {mg : Str → Option Value} {base : Heap}
/-! ### is_blank -/
def spIsBlank : Sp := fun vs H Q _ => ∃ (t : Addr) (w k : Nat), vs = [.ref t] ∧ H t = some (.tup [nV w, nV k]) ∧ Q (.bl (decide (k = 1))) H
abbrev sIsBlank : Stmt := top 8
theorem scIsBlank : FnScope ["measured"] ["measured"] (defScope sIsBlank) := ⟨rfl, rfl, rfl, by decide +kernel, rfl, by decide +kernel, by decide +kernel⟩
theorem dec_int (a b : Nat) : decide ((a : Int) = (b : Int)) = decide (a = b) := by
  by_cases h : a = b
  · rw [decide_eq_true h, decide_eq_true (by omega)]
  · rw [decide_eq_false h, decide_eq_false (by omega)]
theorem qv {Q : VK} {v v' : V} {H : Hp} (q : Q v H) (e : v' = v) : Q v' H := by
  rw [e]
  exact q
theorem sI {i j : Int} (h : i = j) : some (V.int i) = some (V.int j) := by rw [h]
theorem slot2 {a a' : Option V} {l l' : List (Option V)} (h1 : a = a') (h2 : l = l') : a :: l = a' :: l' := by rw [h1, h2]
theorem ok_is_blank (T : Txt mg) (L : Laid K mg "is_blank" sIsBlank) : DefOk P w K mg base 1 "is_blank" ["measured"] spIsBlank := by
  obtain ⟨f, fd, g, F⟩ := L.ex
  obtain ⟨t, mB⟩ := T.blank
  refine ⟨f, fd, g, F.kp, F.binds fun _ _ _ _ _ _ us hl => match us, hl with | [_], _ => rfl, ?_⟩
  refine F.ok scIsBlank (fun vs H Q E h => by obtain ⟨t, w, k, rfl, _⟩ := h; rfl) (fun cdv A outer s H vs Q E hr h => ⟨_,
    pss_one (ps_ret (pe_cmp (pc_eqI (pe_ix ix_tup (pv 0) pe_int (fun _ _ => rfl)) (pe_glob (v := .int 1) rfl mB ⟨_, rfl⟩)) rfl)), ?_⟩)
  obtain ⟨t, w, k, rfl, ht, q⟩ := h
  refine ⟨_, rfl, t, _, _, nV k, rfl, rfl, SqT.of ht, rfl, _, _, rfl, rfl, ?_⟩
  exact qv q (congrArg V.bl (dec_int k 1))
/-! ### text_end -/
def spTextEnd : Sp := fun vs H Q _ => ∃ (p : Addr) (ms : Ms), vs = [.ref p] ∧ MsAt H p ms ∧ Q (nV (textEnd ms)) H
abbrev sTextEnd : Stmt := top 9
theorem scTextEnd : FnScope ["measures", "end"] ["measures"] (defScope sTextEnd) := ⟨rfl, rfl, rfl, by decide +kernel, rfl, by decide +kernel, by decide +kernel⟩
theorem ok_text_end (T : Txt mg) (L : Laid K mg "text_end" sTextEnd) (D1 : DefOk P w K mg base 1 "is_blank" ["measured"] spIsBlank) : DefOk P w K mg base 2 "text_end" ["measures"] spTextEnd := by
  obtain ⟨f, fd, g, F⟩ := L.ex
  obtain ⟨f1, fd1, g1, kp1, b1, G1⟩ := D1.ex
  refine ⟨f, fd, g, F.kp, F.binds fun _ _ _ _ _ _ us hl => match us, hl with | [_], _ => rfl, ?_⟩
  refine F.ok scTextEnd (fun vs H Q E h => by obtain ⟨t, w, rfl, _⟩ := h; rfl) (fun cdv A outer s H vs Q E hr h => ⟨_,
    pss_cons (ps_set (i := 1) scTextEnd.nd rfl (.inl rfl) (pe_callB call_len_seq (by rfl) T.len PySem.boot_len (pa_cons (pv 0) pa_nil)))
    (pss_cons (ps_while PassesOwn.never (PW.pt (pw_and (pt_cmpR op_gt (pv 1) pe_int (nomark _)) (pw_and1 (pt_val (pe_call G1 hr rfl g1 kp1 b1 .nil pass0 (pa_cons (pe_ix ix_list (pv 0) (pe_op op_sub (pv 1) pe_int) (fun _ _ => rfl)) pa_nil))))))
      (pss_one (ps_aug (i := 1) scTextEnd.nd rfl (.inl rfl) pe_int ip_sub)))
    (pss_one (ps_ret (pv 1)))), ?_⟩)
  obtain ⟨p, ms, rfl, hm, q⟩ := h
  obtain ⟨xs, hx, hl⟩ := hm.len
  refine ⟨_, rfl, p, _, rfl, .inl (SqL.of hx), ?_⟩
  rw [hl]
  refine ⟨fun m σ H' => H' = H ∧ m ≤ ms.length ∧ σ = [some (.ref p), some (nV m)] ∧ tEnd ms m = textEnd ms, ⟨ms.length, rfl, Nat.le_refl _, rfl, rfl⟩, ?_⟩
  rintro m σ H' ⟨rfl, hle, rfl, he⟩
  refine ⟨_, rfl, _, _, rfl, rfl, _, rfl, ?_⟩
  cases m with
  | zero =>
    refine iteF ?_
    refine iteF ?_
    refine ⟨_, rfl, ?_⟩
    rw [← he] at q
    exact q
  | succ n =>
    rw [decide_eq_true (show (0 : Int) < ((n + 1 : Nat) : Int) by omega)]
    refine iteT ?_
    obtain ⟨ys, t, hy, hyl, hyt, ht⟩ := hm.get (show n < ms.length by omega)
    refine ⟨_, rfl, _, rfl, _, _, rfl, rfl, p, ys, _, .ref t, rfl, rfl, SqL.of hy, at_nat hyt (by omega), t, wd ms n, kd ms n, rfl, ht, _, rfl, ?_⟩
    refine ite2 (fun hb => ?_) (fun hb => ?_)
    · refine ⟨fun σ' H' => ∃ m', m' < n + 1 ∧ (H' = _ ∧ m' ≤ ms.length ∧ σ' = [some (.ref p), some (nV m')] ∧ tEnd ms m' = textEnd ms), fun _ _ z => z, ?_⟩
      refine ⟨_, rfl, _, _, rfl, rfl, ⟨n, Nat.lt_succ_self n, rfl, by omega, ?_, ?_⟩⟩
      · show [some (V.ref p), some (V.int (((n + 1 : Nat) : Int) - 1))] = _
        rw [show ((n + 1 : Nat) : Int) - 1 = (n : Int) by omega]
      · have e2 : tEnd ms (n + 1) = tEnd ms n := if_pos hb
        rw [← e2]
        exact he
    · refine ⟨_, rfl, ?_⟩
      have e2 : tEnd ms (n + 1) = n + 1 := if_neg hb
      rw [← he, e2] at q
      exact q
/-! ### behind_blanks -/
def spBehind : Sp := fun vs H Q _ => ∃ (p : Addr) (ms : Ms) (a : Nat), vs = [.ref p, nV a] ∧ MsAt H p ms ∧ a ≤ ms.length ∧ Q (nV (behindBl ms a)) H
abbrev sBehind : Stmt := top 10
theorem scBehind : FnScope ["measures", "place"] ["measures", "place"] (defScope sBehind) := ⟨rfl, rfl, rfl, by decide +kernel, rfl, by decide +kernel, by decide +kernel⟩
theorem ok_behind (T : Txt mg) (L : Laid K mg "behind_blanks" sBehind) (D1 : DefOk P w K mg base 1 "is_blank" ["measured"] spIsBlank) : DefOk P w K mg base 2 "behind_blanks" ["measures", "place"] spBehind := by
  obtain ⟨f, fd, g, F⟩ := L.ex
  obtain ⟨f1, fd1, g1, kp1, b1, G1⟩ := D1.ex
  refine ⟨f, fd, g, F.kp, F.binds fun _ _ _ _ _ _ us hl => match us, hl with | [_, _], _ => rfl, ?_⟩
  refine F.ok scBehind (fun vs H Q E h => by obtain ⟨_, _, _, rfl, _⟩ := h; rfl) (fun cdv A outer s H vs Q E hr h => ⟨_,
    pss_cons (ps_while PassesOwn.never (PW.pt (pw_and (pt_cmpR op_lt (pv 1) (pe_callB call_len_seq (by rfl) T.len PySem.boot_len (pa_cons (pv 0) pa_nil)) (nomark _)) (pw_and1 (pt_val (pe_call G1 hr rfl g1 kp1 b1 .nil pass0 (pa_cons (pe_ix ix_list (pv 0) (pv 1) (fun _ _ => rfl)) pa_nil))))))
      (pss_one (ps_aug (i := 1) scBehind.nd rfl (.inl rfl) pe_int ip_add)))
    (pss_one (ps_ret (pv 1))), ?_⟩)
  obtain ⟨p, ms, a, rfl, hm, ha, q⟩ := h
  obtain ⟨xs, hx, hl⟩ := hm.len
  refine ⟨fun m σ H' => H' = H ∧ ∃ b, m = ms.length - b ∧ b ≤ ms.length ∧ σ = [some (.ref p), some (nV b)] ∧ bBl ms m b = behindBl ms a, ⟨ms.length - a, rfl, a, rfl, ha, rfl, rfl⟩, ?_⟩
  rintro m σ H' ⟨rfl, b, rfl, hb, rfl, he⟩
  refine ⟨_, rfl, _, rfl, p, _, rfl, .inl (SqL.of hx), _, _, rfl, rfl, _, rfl, ?_⟩
  refine ite2 (fun c => ?_) (fun c => ?_)
  · have c' := of_decide_eq_true c
    rw [hl] at c'
    have hlt : b < ms.length := by omega
    obtain ⟨ys, t, hy, hyl, hyt, ht⟩ := hm.get hlt
    refine ⟨_, rfl, _, rfl, p, ys, _, .ref t, rfl, rfl, SqL.of hy, at_nat hyt rfl, t, wd ms b, kd ms b, rfl, ht, _, rfl, ?_⟩
    obtain ⟨n, hn⟩ : ∃ n, ms.length - b = n + 1 := ⟨ms.length - b - 1, by omega⟩
    rw [hn] at he
    refine ite2 (fun hb2 => ?_) (fun hb2 => ?_)
    · refine ⟨fun σ' H' => ∃ m', m' < ms.length - b ∧ (H' = _ ∧ ∃ b', m' = ms.length - b' ∧ b' ≤ ms.length ∧ σ' = [some (.ref p), some (nV b')] ∧ bBl ms m' b' = behindBl ms a), fun _ _ z => z, ?_⟩
      refine ⟨_, rfl, _, _, rfl, rfl, ⟨n, by omega, rfl, b + 1, by omega, by omega, ?_, ?_⟩⟩
      · exact slot2 rfl (slot2 (sI (by first | omega | (dsimp only; omega))) rfl)
      · have e2 : bBl ms (n + 1) b = bBl ms n (b + 1) := if_pos hb2
        rw [← e2]
        exact he
    · have e2 : bBl ms (n + 1) b = b := if_neg hb2
      rw [e2] at he
      exact ⟨_, rfl, qv q (by rw [he])⟩
  · have c' := of_decide_eq_false (Bool.eq_false_iff.mpr c)
    rw [hl] at c'
    refine iteF ⟨_, rfl, ?_⟩
    have : ms.length - b = 0 := by omega
    rw [this] at he
    exact qv q (by rw [← he]; rfl)
/-! ### is_break -/
def spIsBreak : Sp := fun vs H Q _ => ∃ (p : Addr) (ms : Ms) (b e : Nat), vs = [.ref p, nV b, nV e] ∧ MsAt H p ms ∧ 1 ≤ b ∧ b ≤ e ∧ e ≤ ms.length ∧ Q (.bl (isBr ms b e)) H
abbrev sIsBreak : Stmt := top 11
theorem scIsBreak : FnScope ["measures", "place", "end", "before"] ["measures", "place", "end"] (defScope sIsBreak) := ⟨rfl, rfl, rfl, by decide +kernel, rfl, by decide +kernel, by decide +kernel⟩
theorem ok_is_break (T : Txt mg) (L : Laid K mg "is_break" sIsBreak) (D1 : DefOk P w K mg base 1 "is_blank" ["measured"] spIsBlank) : DefOk P w K mg base 2 "is_break" ["measures", "place", "end"] spIsBreak := by
  obtain ⟨f, fd, g, F⟩ := L.ex
  obtain ⟨f1, fd1, g1, kp1, b1, G1⟩ := D1.ex
  obtain ⟨t, mB⟩ := T.behind
  refine ⟨f, fd, g, F.kp, F.binds fun _ _ _ _ _ _ us hl => match us, hl with | [_, _, _], _ => rfl, ?_⟩
  refine F.ok scIsBreak (fun vs H Q E h => by obtain ⟨_, _, _, _, rfl, _⟩ := h; rfl) (fun cdv A outer s H vs Q E hr h => ⟨_,
    pss_cons (ps_set (i := 3) scIsBreak.nd rfl (.inl rfl) (pe_ix ix_list (pv 0) (pe_op op_sub (pv 1) pe_int) (fun _ _ => rfl)))
    (pss_cons (ps_if (PW.pt (pw_or (pt_cmp (pc_eqI (pv 1) (pv 2))) (pw_or1 (pt_cmp (pc_eqI (pe_ix ix_tup (pv 3) pe_int (fun _ _ => rfl)) (pe_glob (v := .int 2) rfl mB ⟨_, rfl⟩)))))) (pss_one (ps_ret pe_bl)) pss_nil)
    (pss_one (ps_ret (pe_and (pe_call G1 hr rfl g1 kp1 b1 .nil pass0 (pa_cons (pe_ix ix_list (pv 0) (pv 1) (fun _ _ => rfl)) pa_nil)) (pe_one (pe_not (pe_call G1 hr rfl g1 kp1 b1 .nil pass0 (pa_cons (pv 3) pa_nil)))))))), ?_⟩)
  obtain ⟨p, ms, b, e, rfl, hm, h1, h2, h3, q⟩ := h
  obtain ⟨ys, t, hy, hyl, hyt, ht⟩ := hm.get (show b - 1 < ms.length by omega)
  refine ⟨_, rfl, _, rfl, _, _, rfl, rfl, p, ys, _, .ref t, rfl, rfl, SqL.of hy, at_nat hyt (by omega), ?_⟩
  refine ⟨_, rfl, _, rfl, _, _, rfl, rfl, _, rfl, ?_⟩
  refine ite2 (fun c => ?_) (fun c => ?_)
  · have c' := of_decide_eq_true c
    have : b = e := by omega
    refine iteT ?_
    exact qv q (congrArg V.bl (by unfold isBr; rw [decide_eq_true this]; rfl))
  · have c0 : ¬ b = e := fun z => c (decide_eq_true (by omega))
    refine ⟨_, rfl, t, _, _, nV (kd ms (b - 1)), rfl, rfl, SqT.of ht, rfl, _, _, rfl, rfl, _, rfl, ?_⟩
    refine ite2 (fun c2 => ?_) (fun c2 => ?_)
    · have c' := of_decide_eq_true c2
      have c3 : kd ms (b - 1) = 2 := by omega
      exact qv q (congrArg V.bl (by unfold isBr; rw [decide_eq_true c3, Bool.or_true, Bool.true_or]))
    · have c3 : ¬ kd ms (b - 1) = 2 := fun z => c2 (decide_eq_true (by omega))
      obtain ⟨zs, u, hz, hzl, hzu, hu⟩ := hm.get (show b < ms.length by omega)
      refine ⟨_, rfl, _, rfl, p, zs, _, .ref u, rfl, rfl, SqL.of hz, at_nat hzu rfl, u, wd ms b, kd ms b, rfl, hu, _, rfl, ?_⟩
      have e0 : isBr ms b e = (blk ms b && !blk ms (b - 1)) := by
        unfold isBr
        rw [decide_eq_false c0, decide_eq_false c3]
        rfl
      refine ite2 (fun hb => ?_) (fun hb => ?_)
      · refine ⟨_, rfl, t, wd ms (b - 1), kd ms (b - 1), rfl, ht, _, rfl, ?_⟩
        exact qv q (congrArg V.bl (by rw [e0, show blk ms b = true from hb]; rfl))
      · exact qv q (congrArg V.bl (by rw [e0, show blk ms b = false from Bool.eq_false_iff.mpr hb]; rfl))
/-! ### fitting -/
def spFitting : Sp := fun vs H Q _ => ∃ (p : Addr) (ms : Ms) (a e room : Nat), vs = [.ref p, nV a, nV e, nV room] ∧ MsAt H p ms ∧ a ≤ e ∧ e ≤ ms.length ∧ Q (nV (Hc.fitting ms a e room)) H
abbrev sFitting : Stmt := top 12
theorem scFitting : FnScope ["measures", "begin", "end", "room", "used", "place"] ["measures", "begin", "end", "room"] (defScope sFitting) := ⟨rfl, rfl, rfl, by decide +kernel, rfl, by decide +kernel, by decide +kernel⟩
theorem ok_fitting (T : Txt mg) (L : Laid K mg "fitting" sFitting) : DefOk P w K mg base 1 "fitting" ["measures", "begin", "end", "room"] spFitting := by
  obtain ⟨f, fd, g, F⟩ := L.ex
  refine ⟨f, fd, g, F.kp, F.binds fun _ _ _ _ _ _ us hl => match us, hl with | [_, _, _, _], _ => rfl, ?_⟩
  refine F.ok scFitting (fun vs H Q E h => by obtain ⟨_, _, _, _, _, rfl, _⟩ := h; rfl) (fun cdv A outer s H vs Q E hr h => ⟨_,
    pss_cons (ps_set (i := 4) scFitting.nd rfl (.inl rfl) pe_int)
    (pss_cons (ps_set (i := 5) scFitting.nd rfl (.inl rfl) (pv 1))
    (pss_cons (ps_while PassesOwn.never (PW.pt (pw_and (pt_cmpR op_lt (pv 5) (pv 2) (nomark _)) (pw_and1 (pt_cmpR op_le (pe_op op_add (pv 4) (pe_ix ix_tup (pe_ix ix_list (pv 0) (pv 5) (fun _ _ => rfl)) pe_int (fun _ _ => rfl))) (pv 3) (nomark _)))))
      (pss_cons (ps_aug (i := 4) scFitting.nd rfl (.inl rfl) (pe_ix ix_tup (pe_ix ix_list (pv 0) (pv 5) (fun _ _ => rfl)) pe_int (fun _ _ => rfl)) ip_add)
      (pss_one (ps_aug (i := 5) scFitting.nd rfl (.inl rfl) pe_int ip_add))))
    (pss_one (ps_ret (pv 5))))), ?_⟩)
  obtain ⟨p, ms, a, e, room, rfl, hm, h1, h2, q⟩ := h
  refine ⟨_, rfl, ?_⟩
  refine ⟨fun m σ H' => H' = H ∧ ∃ b u, m = e - b ∧ b ≤ e ∧ σ = [some (.ref p), some (nV a), some (nV e), some (nV room), some (nV u), some (nV b)] ∧ fitG ms room m b u = Hc.fitting ms a e room, ⟨e - a, rfl, a, 0, rfl, h1, rfl, rfl⟩, ?_⟩
  rintro m σ H' ⟨rfl, b, u, rfl, hb, rfl, he⟩
  refine ⟨_, rfl, _, rfl, _, _, rfl, rfl, _, rfl, ?_⟩
  refine ite2 (fun c => ?_) (fun c => ?_)
  · have c' := of_decide_eq_true c
    have hlt : b < e := by omega
    obtain ⟨ys, t, hy, hyl, hyt, ht⟩ := hm.get (show b < ms.length by omega)
    refine ⟨_, rfl, _, rfl, _, rfl, p, ys, _, .ref t, rfl, rfl, SqL.of hy, at_nat hyt rfl, t, _, _, nV (wd ms b), rfl, rfl, SqT.of ht, rfl, _, _, rfl, rfl, _, rfl, _, _, rfl, rfl, _, rfl, ?_⟩
    obtain ⟨n, hn⟩ : ∃ n, e - b = n + 1 := ⟨e - b - 1, by omega⟩
    rw [hn] at he
    refine ite2 (fun c2 => ?_) (fun c2 => ?_)
    · have c3 := of_decide_eq_true c2
      refine ⟨fun σ' H' => ∃ m', m' < e - b ∧ (H' = _ ∧ ∃ b u, m' = e - b ∧ b ≤ e ∧ σ' = [some (.ref p), some (nV a), some (nV e), some (nV room), some (nV u), some (nV b)] ∧ fitG ms room m' b u = Hc.fitting ms a e room), fun _ _ z => z, ?_⟩
      refine ⟨_, rfl, _, rfl, _, rfl, p, ys, _, .ref t, rfl, rfl, SqL.of hy, at_nat hyt rfl, t, _, _, nV (wd ms b), rfl, rfl, SqT.of ht, rfl, _, _, rfl, rfl, ?_⟩
      refine ⟨_, rfl, _, _, rfl, rfl, ⟨n, by omega, rfl, b + 1, u + wd ms b, by omega, by omega, ?_, ?_⟩⟩
      · exact slot2 rfl (slot2 rfl (slot2 rfl (slot2 rfl (slot2 (sI (by first | omega | (dsimp only; omega))) (slot2 (sI (by first | omega | (dsimp only; omega))) rfl)))))
      · rw [← fitG_go (show u + wd ms b ≤ room by omega)]
        exact he
    · have c3 := of_decide_eq_false (Bool.eq_false_iff.mpr c2)
      rw [fitG_stop (show ¬ u + wd ms b ≤ room by omega)] at he
      exact ⟨_, rfl, qv q (by rw [he])⟩
  · have c' := of_decide_eq_false (Bool.eq_false_iff.mpr c)
    refine iteF ⟨_, rfl, ?_⟩
    have : e - b = 0 := by omega
    rw [this] at he
    exact qv q (by rw [← he]; rfl)
/-! ### line_end -/
def spLineEnd : Sp := fun vs H Q _ => ∃ (p : Addr) (ms : Ms) (a e room : Nat), vs = [.ref p, nV a, nV e, nV room] ∧ MsAt H p ms ∧ a ≤ e ∧ e ≤ ms.length ∧ Q (nV (lineEnd ms a e room)) H
abbrev sLineEnd : Stmt := top 13
theorem scLineEnd : FnScope ["measures", "begin", "end", "room", "most", "place"] ["measures", "begin", "end", "room"] (defScope sLineEnd) := ⟨rfl, rfl, rfl, by decide +kernel, rfl, by decide +kernel, by decide +kernel⟩
theorem ok_line_end (T : Txt mg) (L : Laid K mg "line_end" sLineEnd) (D1 : DefOk P w K mg base 1 "fitting" ["measures", "begin", "end", "room"] spFitting) (D2 : DefOk P w K mg base 2 "is_break" ["measures", "place", "end"] spIsBreak) : DefOk P w K mg base 3 "line_end" ["measures", "begin", "end", "room"] spLineEnd := by
  obtain ⟨f, fd, g, F⟩ := L.ex
  obtain ⟨f1, fd1, g1, kp1, b1, G1⟩ := D1.ex
  obtain ⟨f2, fd2, g2, kp2, b2, G2⟩ := D2.ex
  refine ⟨f, fd, g, F.kp, F.binds fun _ _ _ _ _ _ us hl => match us, hl with | [_, _, _, _], _ => rfl, ?_⟩
  refine F.ok scLineEnd (fun vs H Q E h => by obtain ⟨_, _, _, _, _, rfl, _⟩ := h; rfl) (fun cdv A outer s H vs Q E hr h => ⟨_,
    pss_cons (ps_set (i := 4) scLineEnd.nd rfl (.inl rfl) (pe_call G1 (hr.mono (by decide)) rfl g1 kp1 b1 .nil pass0 (pa_cons (pv 0) (pa_cons (pv 1) (pa_cons (pv 2) (pa_cons (pv 3) pa_nil))))))
    (pss_cons (ps_set (i := 5) scLineEnd.nd rfl (.inl rfl) (pv 4))
    (pss_cons (ps_while PassesOwn.never (PW.pt (pw_and (pt_cmpR op_gt (pv 5) (pv 1) (nomark _)) (pw_and1 (pt_not (pt_val (pe_call G2 hr rfl g2 kp2 b2 .nil pass0 (pa_cons (pv 0) (pa_cons (pv 5) (pa_cons (pv 2) pa_nil)))))))))
      (pss_one (ps_aug (i := 5) scLineEnd.nd rfl (.inl rfl) pe_int ip_sub)))
    (pss_cons (ps_if (pt_cmpR op_gt (pv 5) (pv 1) (nomark _)) (pss_one (ps_ret (pv 5))) pss_nil)
    (pss_one (ps_ret (pv 4)))))), ?_⟩)
  obtain ⟨p, ms, a, e, room, rfl, hm, h1, h2, q⟩ := h
  refine ⟨_, rfl, _, rfl, _, rfl, _, rfl, p, ms, a, e, room, rfl, hm, h1, h2, ?_⟩
  have g1 := fitting_ge ms a e room
  have g2 := fitting_le ms (room := room) h1
  unfold lineEnd at q
  generalize Hc.fitting ms a e room = most at q g1 g2 ⊢
  refine ⟨_, rfl, ?_⟩
  refine ⟨fun m σ H' => H' = H ∧ a ≤ m ∧ m ≤ most ∧ σ = [some (.ref p), some (nV a), some (nV e), some (nV room), some (nV most), some (nV m)] ∧ lastBr ms a e m = lastBr ms a e most, ⟨most, rfl, g1, Nat.le_refl _, rfl, rfl⟩, ?_⟩
  rintro m σ H' ⟨rfl, ham, hmm, rfl, he⟩
  have behind : ∀ (h : lastBr ms a e most = m), ∃ v, ([some (.ref p), some (nV a), some (nV e), some (nV room), some (nV most), some (nV m)] : List (Option V))[5]? = some (some v) ∧ ∃ v', ([some (.ref p), some (nV a), some (nV e), some (nV room), some (nV most), some (nV m)] : List (Option V))[1]? = some (some v') ∧
      ∃ i j, v = .int i ∧ v' = .int j ∧ ∃ k, V.bl (decide (j < i)) = .bl k ∧ if k = true then ∃ v, ([some (.ref p), some (nV a), some (nV e), some (nV room), some (nV most), some (nV m)] : List (Option V))[5]? = some (some v) ∧ Q v H' else ∃ v, ([some (.ref p), some (nV a), some (nV e), some (nV room), some (nV most), some (nV m)] : List (Option V))[4]? = some (some v) ∧ Q v H' := by
    intro h
    rw [h] at q
    refine ⟨_, rfl, _, rfl, _, _, rfl, rfl, _, rfl, ?_⟩
    refine ite2 (fun c => ?_) (fun c => ?_)
    · have c' := of_decide_eq_true c
      rw [if_pos (by omega)] at q
      exact ⟨_, rfl, q⟩
    · have c' := of_decide_eq_false (Bool.eq_false_iff.mpr c)
      rw [if_neg (by omega)] at q
      exact ⟨_, rfl, q⟩
  refine ⟨_, rfl, _, rfl, _, _, rfl, rfl, _, rfl, ?_⟩
  refine ite2 (fun c => ?_) (fun c => ?_)
  · have c' := of_decide_eq_true c
    have hlt : a < m := by omega
    refine ⟨_, rfl, _, rfl, _, rfl, p, ms, m, e, rfl, hm, by omega, by omega, h2, _, rfl, ?_⟩
    obtain ⟨n, rfl⟩ : ∃ n, m = n + 1 := ⟨m - 1, by omega⟩
    cases hb : isBr ms (n + 1) e with
    | true =>
      rw [lastBr_here hb] at he
      exact iteF (behind he.symm)
    | false =>
      refine iteT ?_
      refine ⟨fun σ' H' => ∃ m', m' < n + 1 ∧ (H' = _ ∧ a ≤ m' ∧ m' ≤ most ∧ σ' = [some (.ref p), some (nV a), some (nV e), some (nV room), some (nV most), some (nV m')] ∧ lastBr ms a e m' = lastBr ms a e most), fun _ _ z => z, ?_⟩
      refine ⟨_, rfl, _, _, rfl, rfl, ⟨n, Nat.lt_succ_self n, rfl, by omega, by omega, ?_, ?_⟩⟩
      · exact slot2 rfl (slot2 rfl (slot2 rfl (slot2 rfl (slot2 rfl (slot2 (sI (by first | omega | (dsimp only; omega))) rfl)))))
      · rw [← lastBr_down hlt hb]
        exact he
  · have c' := of_decide_eq_false (Bool.eq_false_iff.mpr c)
    refine iteF (behind ?_)
    have : m = a := by omega
    subst this
    rw [← he]
    exact lastBr_self ms m e
end
end Hc

namespace Hc
open PySem PySem.Spec PyProof.Rows L2
theorem Same.set {H H' : Hp} {D : Addr} {o : HO} (s : Same H H') (n : H D = none) : Same H (upd H' D o) := fun b u e => by
  rw [upd_ne (ne_of_none e n)]
  exact s b u e
theorem MsAt.nil {H : Hp} {D : Addr} (h : H D = some (.lst [])) : MsAt H D [] := ⟨[], h, rfl, fun i t e => by simp at e⟩
theorem getD_snoc {l : Ms} {x : Nat × Nat} {i : Nat} : (l ++ [x]).getD i (0, 0) = if i < l.length then l.getD i (0, 0) else if i = l.length then x else (0, 0) := by
  rw [List.getD_eq_getElem?_getD, List.getD_eq_getElem?_getD]
  by_cases h : i < l.length
  · rw [if_pos h, List.getElem?_append_left h]
  · rw [if_neg h, List.getElem?_append_right (by omega)]
    by_cases e : i = l.length
    · rw [if_pos e, e, Nat.sub_self]
      rfl
    · rw [if_neg e, List.getElem?_eq_none (by simp; omega)]
      rfl
/-- one pair more -/
theorem MsAt.push {H : Hp} {D t : Addr} {ms : Ms} {xs : List V} {a b : Nat} (h : MsAt H D ms) (hx : H D = some (.lst xs)) (ht : H t = some (.tup [nV a, nV b])) : MsAt (upd H D (.lst (xs ++ [V.ref t]))) D (ms ++ [(a, b)]) := by
  obtain ⟨ts, e1, e2, e3⟩ := h
  have ex : xs = ts.map V.ref := by
    rw [hx] at e1
    exact HO.lst.inj (Option.some.inj e1)
  refine ⟨ts ++ [t], ?_, ?_, fun i u hu => ?_⟩
  · rw [upd_same, ex, List.map_append]
    rfl
  · rw [List.length_append, List.length_append, e2]
    rfl
  · have hne : ∀ {c : Addr} {ys : List V}, H c = some (.tup ys) → c ≠ D := fun hc => ne_of hc hx (fun z => HO.noConfusion z)
    by_cases hi : i < ts.length
    · rw [List.getElem?_append_left hi] at hu
      have g := e3 i u hu
      rw [upd_ne (hne g), g]
      unfold wd kd
      rw [getD_snoc, if_pos (by omega)]
    · have hi2 : i = ts.length := by
        have := (List.getElem?_eq_some_iff.mp hu).1
        simp at this
        omega
      subst hi2
      rw [List.getElem?_append_right (Nat.le_refl _), Nat.sub_self] at hu
      have : t = u := Option.some.inj hu
      subst this
      rw [upd_ne (hne ht), ht]
      unfold wd kd
      rw [getD_snoc, if_neg (by omega), if_pos e2]
theorem MsAt.lst {H : Hp} {D : Addr} {ms : Ms} (h : MsAt H D ms) : ∃ xs : List V, H D = some (.lst xs) ∧ xs.length = ms.length := h.len
section
variable {P : Program} {w : World} {K : PySem.W.Frag} {mg : Str → Option Value} {base : Heap}
/-! ### line_places -/
def spLinePlaces : Sp := fun vs H Q _ => ∃ (p : Addr) (ms : Ms) (r1 r2 : Nat), vs = [.ref p, nV r1, nV r2] ∧ MsAt H p ms ∧ ms.length ≤ 65535 ∧
  (linePlaces ms r1 r2 = none → ∀ H' : Hp, Same H H' → Q .non H') ∧ ∀ l, linePlaces ms r1 r2 = some l → ∀ (H' : Hp) (p' : Addr), Same H H' → MsAt H' p' l → Q (.ref p') H'
abbrev sLinePlaces : Stmt := top 14
theorem scLinePlaces : FnScope ["measures", "first_room", "later_room", "places", "end", "begin", "room", "behind"] ["measures", "first_room", "later_room"] (defScope sLinePlaces) := ⟨rfl, rfl, rfl, by decide +kernel, rfl, by decide +kernel, by decide +kernel⟩
theorem ok_line_places (T : Txt mg) (L : Laid K mg "line_places" sLinePlaces) (D1 : DefOk P w K mg base 2 "text_end" ["measures"] spTextEnd) (D2 : DefOk P w K mg base 2 "behind_blanks" ["measures", "place"] spBehind)
    (D3 : DefOk P w K mg base 3 "line_end" ["measures", "begin", "end", "room"] spLineEnd) : DefOk P w K mg base 4 "line_places" ["measures", "first_room", "later_room"] spLinePlaces := by
  obtain ⟨f, fd, g, F⟩ := L.ex
  obtain ⟨f1, fd1, g1, kp1, b1, G1⟩ := D1.ex
  obtain ⟨f2, fd2, g2, kp2, b2, G2⟩ := D2.ex
  obtain ⟨f3, fd3, g3, kp3, b3, G3⟩ := D3.ex
  refine ⟨f, fd, g, F.kp, F.binds fun _ _ _ _ _ _ us hl => match us, hl with | [_, _, _], _ => rfl, ?_⟩
  refine F.ok scLinePlaces (fun vs H Q E h => by obtain ⟨_, _, _, _, rfl, _⟩ := h; rfl) (fun cdv A outer s H vs Q E hr h => ⟨_,
    pss_cons (ps_set (i := 3) scLinePlaces.nd rfl (.inl rfl) (pe_lst pa_nil))
    (pss_cons (ps_set (i := 4) scLinePlaces.nd rfl (.inl rfl) (pe_call G1 (hr.mono (by decide)) rfl g1 kp1 b1 .nil pass0 (pa_cons (pv 0) pa_nil)))
    (pss_cons (ps_set (i := 5) scLinePlaces.nd rfl (.inl rfl) (pe_call G2 (hr.mono (by decide)) rfl g2 kp2 b2 .nil pass0 (pa_cons (pv 0) (pa_cons pe_int pa_nil))))
    (pss_cons (ps_set (i := 6) scLinePlaces.nd rfl (.inl rfl) (pv 1))
    (pss_cons (ps_while PassesOwn.never (pt_cmpR op_lt (pv 5) (pv 4) (nomark _))
      (pss_cons (ps_set (i := 7) scLinePlaces.nd rfl (.inl rfl) (pe_call G3 hr rfl g3 kp3 b3 .nil pass0 (pa_cons (pv 0) (pa_cons (pv 5) (pa_cons (pv 4) (pa_cons (pv 6) pa_nil))))))
      (pss_cons (ps_if (pt_cmp (pc_eqI (pv 7) (pv 5))) (pss_one (ps_ret pe_non)) pss_nil)
      (pss_cons (ps_expr (pe_bm PySem.F.plainAttrs_list PySem.F.slot_list_append PySem.F.type_list_append mt_append (pv 3) (pa_cons (pe_tup (pa_cons (pv 5) (pa_cons (pv 7) pa_nil))) pa_nil)))
      (pss_cons (ps_set (i := 5) scLinePlaces.nd rfl (.inl rfl) (pe_call G2 (hr.mono (by decide)) rfl g2 kp2 b2 .nil pass0 (pa_cons (pv 0) (pa_cons (pv 7) pa_nil))))
      (pss_one (ps_set (i := 6) scLinePlaces.nd rfl (.inl rfl) (pv 2))))))))
    (pss_one (ps_ret (pv 3))))))), ?_⟩)
  obtain ⟨p, ms, r1, r2, rfl, hm, hlen, qn, qs⟩ := h
  refine ⟨(by show 0 ≤ sizeLine; decide), fun D hD => ?_⟩
  have s0 : Same H (upd H D (.lst [])) := same_new hD
  refine ⟨_, rfl, p, ms, rfl, hm.same s0, ?_⟩
  refine ⟨_, rfl, p, ms, 0, rfl, hm.same s0, Nat.zero_le _, ?_⟩
  refine ⟨_, rfl, ?_⟩
  have hte := textEnd_le ms
  have hbl := behindBl_le ms (Nat.zero_le ms.length)
  refine ⟨fun m σ H' => Same H H' ∧ ∃ acc a room beh, MsAt H' D acc ∧ a ≤ ms.length ∧ (textEnd ms - a < m) ∧ acc.length ≤ a ∧ σ = [some (.ref p), some (nV r1), some (nV r2), some (.ref D), some (nV (textEnd ms)), some (nV a), some (nV room), beh] ∧
    linePlaces ms r1 r2 = (lpG ms (textEnd ms) r2 m a room).map (acc ++ ·), ⟨ms.length + 1, s0, [], behindBl ms 0, r1, none, MsAt.nil upd_same, hbl, by omega, Nat.zero_le _, rfl, ?_⟩, ?_⟩
  · show linePlaces ms r1 r2 = (linePlaces ms r1 r2).map ([] ++ ·)
    cases linePlaces ms r1 r2 <;> rfl
  rintro m σ H' ⟨s1, acc, a, room, beh, hacc, hale, hfuel, hal, rfl, he⟩
  obtain ⟨n, rfl⟩ : ∃ n, m = n + 1 := ⟨m - 1, by omega⟩
  refine ⟨_, rfl, _, rfl, _, _, rfl, rfl, _, rfl, ?_⟩
  refine ite2 (fun c => ?_) (fun c => ?_)
  · have c' := of_decide_eq_true c
    have hlt : a < textEnd ms := by omega
    refine ⟨fun σ' H' => ∃ m', m' < n + 1 ∧ (Same H H' ∧ ∃ acc a room beh, MsAt H' D acc ∧ a ≤ ms.length ∧ (textEnd ms - a < m') ∧ acc.length ≤ a ∧ σ' = [some (.ref p), some (nV r1), some (nV r2), some (.ref D), some (nV (textEnd ms)), some (nV a), some (nV room), beh] ∧
      linePlaces ms r1 r2 = (lpG ms (textEnd ms) r2 m' a room).map (acc ++ ·)), fun _ _ z => z, ?_⟩
    refine ⟨_, rfl, _, rfl, _, rfl, _, rfl, p, ms, a, textEnd ms, room, rfl, hm.same s1, by omega, hte, ?_⟩
    have e1 := lineEnd_ge ms a (textEnd ms) room
    have e2 := lineEnd_le ms (room := room) (show a ≤ textEnd ms by omega)
    have e3 : lpG ms (textEnd ms) r2 (n + 1) a room = if lineEnd ms a (textEnd ms) room = a then none else (lpG ms (textEnd ms) r2 n (behindBl ms (lineEnd ms a (textEnd ms) room)) r2).map fun l => (a, lineEnd ms a (textEnd ms) room) :: l := if_pos hlt
    rw [e3] at he
    generalize lineEnd ms a (textEnd ms) room = b at *
    refine ⟨_, rfl, _, rfl, _, _, rfl, rfl, _, rfl, ?_⟩
    refine ite2 (fun c2 => ?_) (fun c2 => ?_)
    · have c3 := of_decide_eq_true c2
      rw [if_pos (show b = a by omega)] at he
      exact qn he H' s1
    · have c3 := of_decide_eq_false (Bool.eq_false_iff.mpr c2)
      rw [if_neg (show ¬ b = a by omega)] at he
      obtain ⟨xs, hx, hxl⟩ := hacc.lst
      refine ⟨_, rfl, .inl ⟨rfl, _, SqL.of hx⟩, _, rfl, _, rfl, (by show 2 ≤ sizeLine; decide), fun t ht => ?_⟩
      refine ⟨D, xs, .ref t, rfl, rfl, keep hx ht, Nat.lt_of_le_of_lt (show xs.length ≤ 65535 by omega) (by decide), ?_⟩
      have s2 : Same H (upd (upd H' t (.tup [nV a, nV b])) D (.lst (xs ++ [V.ref t]))) := Same.set (Same.new s1 ht) hD
      refine ⟨_, rfl, _, rfl, p, ms, b, rfl, hm.same s2, by omega, ?_⟩
      refine ⟨_, rfl, ?_⟩
      have hbb := behindBl_le ms (show b ≤ ms.length by omega)
      have hbg := behindBl_ge ms b
      refine ⟨n, Nat.lt_succ_self n, s2, acc ++ [(a, b)], behindBl ms b, r2, some (nV b), (hacc.same (same_new ht)).push (keep hx ht) upd_same, hbb, by omega, ?_, rfl, ?_⟩
      · rw [List.length_append, List.length_singleton]
        omega
      · rw [he, Option.map_map]
        congr 1
        funext l
        simp
  · have c' := of_decide_eq_false (Bool.eq_false_iff.mpr c)
    have e3 : lpG ms (textEnd ms) r2 (n + 1) a room = some [] := if_neg (by omega)
    rw [e3] at he
    exact ⟨_, rfl, qs acc (by rw [he]; simp) H' D s1 hacc⟩
end
end Hc

namespace L2
open PySem PySem.Spec PyProof.Rows
/-- what d.keys() lays at p -/
def keysO (p d : Addr) : HO := .ext fun hp => PySem.W.KdlKeysView hp p d
theorem keysO_ok {P : Program} {w : World} {H : Hp} {h : Heap} {p d : Addr} (e : h.get? p = some { cls := .type "dict_keys", data := .fields #[.ref d] }) : ObjOk P w H h p (keysO p d) := by
  refine ⟨⟨_, e, rfl, rfl⟩, ⟨_, e⟩, ?_⟩
  rintro _ _ ⟨view, at_view, same⟩ keeps
  exact ⟨view, keeps view at_view, same⟩
/-- each of what was collected is a key, the keys are whole numbers -/
theorem ints_of_keys {β : Type} {items : List (L2.Key × β)} {nums : List Int} {got : Array Value} (names : items.map (fun kv => kv.1) = nums.map Sum.inl) (size : got.size = items.length)
    (each : ∀ (j : Nat) (v : Value), got[j]? = some v → ∃ (key : L2.Key) (val : β), items[j]? = some (key, val) ∧ keyIs key v = true) : IntsAre got.toList nums := by
  have many : items.length = nums.length := by
    have := congrArg List.length names
    simpa only [List.length_map] using this
  refine ints_each (by rw [Array.length_toList, size, many]) fun j v at_j => ?_
  obtain ⟨key, val, here, is⟩ := each j v (by rw [← Array.getElem?_toList]; exact at_j)
  have known : (nums.map Sum.inl)[j]? = some key := by
    rw [← names, List.getElem?_map, here]
    rfl
  rw [List.getElem?_map, Option.map_eq_some_iff] at known
  obtain ⟨n, at_n, rfl⟩ := known
  rcases keyIs_shape is with ⟨i, t, whole, form⟩ | ⟨i, t, text, form⟩
  · cases whole
    exact ⟨n, t, at_n, form⟩
  · cases text
section
variable {X : Cx}
def rKeysK : V → List V → Hp → VK → Prop := fun x xs H Q => ∃ (a : Addr) (kvs : List (L2.Key × V)), x = .ref a ∧ xs = [] ∧ H a = some (.dK kvs) ∧ ∀ p, H p = none → Q (.ref p) (upd H p (keysO p a))
theorem mt_keysK : MtR X "dict.keys" rKeysK := by
  rintro pn st sl hp recv args v us post inv ra rb ⟨a, kvs, rfl, rfl, at_a, next⟩
  cases ra
  cases rb
  obtain ⟨_, has, vs, _, dict⟩ := dk_of inv.hok at_a
  have free := inv.hok.fresh (Nat.le_refl st.heap.objs.size)
  have lies := keysO_ok (P := X.prog) (w := X.w) (H := upd hp st.heap.objs.size (keysO st.heap.objs.size a)) (Heap.get?_push_size st.heap (o := { cls := .type "dict_keys", data := .fields #[.ref a] }) rfl)
  refine call_meetsIn PySem.F.slot_dict_keys dict.typeIs PySem.F.entry_dict_keys (PySem.F.args_dict_keys_1 _)
    (PySem.W.kdl_meets_keys (mixKind X.prog X.w) a has) ⟨⟨vs, dict⟩, ?_⟩
  exact ⟨.ref st.heap.objs.size, _, inv.laid (t' := st.toks) (fun _ _ old => Heap.get?_push_of_some _ old) (Nat.le_refl _) lies, rfl, next _ free⟩
/-- sorted(d.keys()), whole numbers, any number of them -/
def rSortedKeys : List V → Hp → VK → Prop := fun xs H Q => ∃ (p a : Addr) (kvs : List (L2.Key × V)) (ks : List Int), xs = [.ref p] ∧ H p = some (keysO p a) ∧ H a = some (.dK kvs) ∧ kvs.map (·.1) = ks.map Sum.inl ∧
    ∀ (ys : List Int) (l : Addr), ys.Perm ks → ys.Pairwise (· ≤ ·) → H l = none → Q (.ref l) (upd H l (.lst (ys.map V.int)))
theorem cr_sortedKeys (calm : X.calm = true) : CallR X (.builtin "sorted") rSortedKeys := by
  rintro pn st sl hp args us post inv rel ⟨p, a, kvs, nums, rfl, at_p, at_a, keys, next⟩
  obtain ⟨u, rfl, ru⟩ := vals1 rel
  cases ru
  have view : PySem.W.KdlKeysView st.heap p a := (inv.hok p _ at_p : ObjOk X.prog X.w hp st.heap p (keysO p a)).1
  obtain ⟨few, low, vs, same, dict⟩ := dk_of inv.hok at_a
  obtain ⟨ep, lies⟩ := dict.dictAt
  have names := same.keys.symm.trans keys
  have many : vs.length = nums.length ∧ kvs.length = nums.length := by
    have e1 := congrArg List.length names
    have e2 := congrArg List.length keys
    simp only [List.length_map] at e1 e2
    exact ⟨e1, e2⟩
  have fits : nums.length ≤ sizeLine := many.2 ▸ few
  refine Calls.call_function_entry PyProof.Rows.kind_sorted PyProof.Rows.plain_sorted
    PyProof.Rows.entry_sorted (PyProof.Rows.args_sorted1 _) ?_
  unfold Builtin.«sorted»
  refine wpAny_bind (m := checkCount "sorted" 1 1 _) (wpAny_pure
    (wpAny_bind (PySem.W.kdu_collect (A := X.A.in1) (PySem.W.kdl_keys (knd := mixKind X.prog X.w) (kvs := vs) (ep := ep))
      (inv.ok.hd calm) ⟨view, lies⟩ (many.1 ▸ fits) fun h2 tk got keeps found => ?_)))
  have whole : IntsAre got.toList nums := ints_of_keys names found.1 found.2
  have long : got.toList.length ≤ sizeLine := by
    rw [Array.length_toList, found.1, many.1]
    exact fits
  have inv2 : Inv X pn sl hp { st with heap := h2, toks := tk } := inv.kept keeps
  refine wpAny_bind (wpAny_newList ?_ long)
  have made := Heap.get?_push_size h2 (o := seqObj "list" got.toList.toArray 0) rfl
  show wpAny _ _ _ _ _ ({ st with heap := h2.push (seqObj "list" got.toList.toArray 0), toks := tk } : Shared)
  refine wpAny_bind (wpAny_holding (wpAny_call_entry PyProof.Rows.slot_list_sort ⟨_, made, rfl⟩
    PyProof.Rows.entry_list_sort (SrtO.list_sort_ord SrtO.swo_int made long
      (fun two => SrtO.ints_sortable whole two) fun out up stable => ⟨_, rfl, ?_⟩) (PyProof.Rows.args_list_sort _)))
  obtain ⟨own, perm, sorted⟩ := SrtO.ints_out whole up stable
  obtain ⟨cap, sits⟩ := PyProof.Rows.sortedHeap_at (vs := got.toList) (out := out.toArray) made
  have short : ((out.map SrtO.iv).map V.int).length ≤ sizeLine := by
    rw [List.length_map, perm.length_eq]
    exact fits
  have lst : ObjOk X.prog X.w (upd hp h2.objs.size (.lst ((out.map SrtO.iv).map V.int))) _ h2.objs.size (.lst ((out.map SrtO.iv).map V.int)) :=
    ⟨short, out, cap, vals_of_ints own, sits⟩
  refine wpAny_pure ⟨_, rfl, .ref h2.objs.size, _, inv2.laid (t' := tk) (fun b u old => ?_) (Nat.le_refl _) lst, rfl, next _ _ perm sorted (inv2.hok.fresh (Nat.le_refl _))⟩
  have below := Heap.lt_size old
  have apart := PyProof.Rows.sortedHeap_old (vs := got.toList) (out := out.toArray) (h := h2.push (seqObj "list" got.toList.toArray 0)) (Nat.ne_of_lt below)
  rw [apart (by rw [size_push']; exact Nat.lt_succ_of_lt below)]
  exact Heap.get?_push_of_some _ old
end
end L2

namespace Hc
open PySem PySem.Spec PyProof.Rows L2
/-! ### fields by their places -/
theorem lk_zip : ∀ {names : List Str} {vals : List V} {i : Nat} {k : Str} {v : V}, names.Nodup → names[i]? = some k → vals[i]? = some v → (names.zip vals).lookup k = some v
  | [], _, i, k, v, _, h, _ => by simp at h
  | _ :: _, [], i, k, v, _, _, h => by simp at h
  | n :: names, u :: vals, 0, k, v, _, h, g => by
    have e1 : n = k := Option.some.inj h
    have e2 : u = v := Option.some.inj g
    subst e1 e2
    show List.lookup n ((n, u) :: names.zip vals) = some u
    simp only [List.lookup, beq_self_eq_true]
  | n :: names, u :: vals, i + 1, k, v, hn, h, g => by
    obtain ⟨h1, h2⟩ := List.nodup_cons.mp hn
    have hm : k ∈ names := List.mem_of_getElem? (i := i) h
    have hne : (k == n) = false := by
      rw [beq_eq_false_iff_ne]
      intro e
      exact h1 (e ▸ hm)
    show List.lookup k ((n, u) :: names.zip vals) = some v
    simp only [List.lookup, hne]
    exact lk_zip h2 (i := i) h g
theorem lk_none : ∀ {names : List Str} {vals : List V} {k : Str}, (names.all fun n => !(k == n)) = true → (names.zip vals).lookup k = none
  | [], _, k, _ => rfl
  | _ :: _, [], k, _ => rfl
  | n :: names, u :: vals, k, h => by
    rw [List.all_cons, Bool.and_eq_true] at h
    have hne : (k == n) = false := by
      have := h.1
      cases e : (k == n)
      · rfl
      · rw [e] at this; cases this
    show List.lookup k ((n, u) :: names.zip vals) = none
    simp only [List.lookup, hne]
    exact lk_none h.2
theorem put_zip : ∀ {names : List Str} {vals : List V} {i : Nat} {k : Str} {v : V}, names.Nodup → names[i]? = some k → i < vals.length → putF k v (names.zip vals) = names.zip (vals.set i v)
  | [], _, i, k, v, _, h, _ => by simp at h
  | _ :: _, [], i, k, v, _, _, h => by simp at h
  | n :: names, u :: vals, 0, k, v, _, h, _ => by
    have e1 : n = k := Option.some.inj h
    subst e1
    exact if_pos rfl
  | n :: names, u :: vals, i + 1, k, v, hn, h, g => by
    obtain ⟨h1, h2⟩ := List.nodup_cons.mp hn
    have hm : k ∈ names := List.mem_of_getElem? (i := i) h
    have hne : ¬ n = k := fun e => h1 (e ▸ hm)
    show putF k v ((n, u) :: names.zip vals) = (n, u) :: names.zip (vals.set i v)
    rw [← put_zip h2 (i := i) h (by simpa using g)]
    exact if_neg hne
theorem put_next : ∀ {names : List Str} {vals : List V} {k : Str} {v : V}, names.Nodup → names[vals.length]? = some k → putF k v (names.zip vals) = names.zip (vals ++ [v])
  | [], _, k, v, _, h => by simp at h
  | n :: names, [], k, v, _, h => by
    have e1 : n = k := Option.some.inj h
    subst e1
    cases names <;> rfl
  | n :: names, u :: vals, k, v, hn, h => by
    obtain ⟨h1, h2⟩ := List.nodup_cons.mp hn
    have h' : names[vals.length]? = some k := h
    have hm : k ∈ names := List.mem_of_getElem? h'
    have hne : ¬ n = k := fun e => h1 (e ▸ hm)
    show putF k v ((n, u) :: names.zip vals) = (n, u) :: names.zip (vals ++ [v])
    rw [← put_next h2 h']
    exact if_neg hne
/-- an instance with one field more -/
theorem ins_next {H : Hp} {x C dx : Addr} {names : List Str} {vals : List V} {k : Str} {v : V} (hn : names.Nodup) (h : names[vals.length]? = some k) :
    (upd H x (.ins C dx (putF k v (names.zip vals)))) x = some (.ins C dx (names.zip (vals ++ [v]))) := by
  rw [upd_same, put_next hn h]
/-- an instance with a field set -/
theorem ins_set {H : Hp} {x C dx : Addr} {names : List Str} {vals : List V} {k : Str} {v : V} (i : Nat) (hn : names.Nodup) (h : names[i]? = some k) (hl : i < vals.length) :
    (upd H x (.ins C dx (putF k v (names.zip vals)))) x = some (.ins C dx (names.zip (vals.set i v))) := by
  rw [upd_same, put_zip hn h hl]
theorem Kp.upd {S : List Addr} {H H' : Hp} {x : Addr} {o : HO} (a : Kp S H H') (h : x ∈ S) : Kp S H (upd H' x o) := fun b u e n => by
  rw [upd_ne fun z => n (by rw [z]; exact h)]
  exact a b u e n
theorem Kp.new {S : List Addr} {H H' : Hp} {x : Addr} {o : HO} (a : Kp S H H') (h : H' x = none) : Kp S H (L2.upd H' x o) := fun b u e n => by
  rw [upd_ne (ne_of_none (a b u e n) h)]
  exact a b u e n
theorem Kp.set {S : List Addr} {H H' : Hp} {x : Addr} {o : HO} (a : Kp S H H') (h : H x = none) : Kp S H (L2.upd H' x o) := fun b u e n => by
  rw [upd_ne (ne_of_none e h)]
  exact a b u e n
theorem Kp.andSame {S : List Addr} {H H1 H2 : Hp} (a : Kp S H H1) (b : Same H1 H2) : Kp S H H2 := fun c o e n => b c o (a c o e n)
/-- a new instance, behind its __init__ -/
theorem same_made {H H1 : Hp} {x dx C : Addr} (nx : H x = none) (nd : H dx = none) (k : Kp [x] (L2.upd (L2.upd H dx (.own x)) x (.ins C dx [])) H1) : Same H H1 :=
  Same.made nx nd fun b o e n => k b o e (by simpa using n)

/-! ### rows of characters -/
def RngAt (H : Hp) (a : Addr) (ws : List IhColumn.Width) : Prop := ∃ rs : List Addr, H a = some (.lst (rs.map V.ref)) ∧ rs.length = ws.length ∧
  ∀ (i : Nat) (r : Addr) (w : IhColumn.Width), rs[i]? = some r → ws[i]? = some w → H r = some (.lst [nV w.from_, nV w.to_, nV w.width, nV w.kind])
theorem RngAt.same {H H' : Hp} {a : Addr} {ws : List IhColumn.Width} (h : RngAt H a ws) (s : Same H H') : RngAt H' a ws := by
  obtain ⟨rs, h1, h2, h3⟩ := h
  exact ⟨rs, s _ _ h1, h2, fun i r w e g => s _ _ (h3 i r w e g)⟩
theorem RngAt.get {H : Hp} {a : Addr} {ws : List IhColumn.Width} (h : RngAt H a ws) {xs : List V} (hx : H a = some (.lst xs)) {i : Nat} {v : V} (hv : xs[i]? = some v) :
    ∃ r w, v = .ref r ∧ ws[i]? = some w ∧ H r = some (.lst [nV w.from_, nV w.to_, nV w.width, nV w.kind]) := by
  obtain ⟨rs, h1, h2, h3⟩ := h
  rw [h1] at hx
  have e := HO.lst.inj (Option.some.inj hx)
  subst e
  rw [List.getElem?_map] at hv
  cases g : rs[i]? with
  | none => rw [g] at hv; cases hv
  | some r =>
    rw [g] at hv
    have hi := (List.getElem?_eq_some_iff.mp g).1
    have hw : ws[i]? = some ws[i] := List.getElem?_eq_getElem (by omega)
    exact ⟨r, _, (Option.some.inj hv).symm, hw, h3 i r _ g hw⟩
theorem RngAt.lst {H : Hp} {a : Addr} {ws : List IhColumn.Width} (h : RngAt H a ws) : ∃ xs : List V, H a = some (.lst xs) ∧ xs.length = ws.length := by
  obtain ⟨rs, h1, h2, _⟩ := h
  exact ⟨_, h1, by rw [List.length_map]; exact h2⟩
/-- width and kind by rows -/
def ofW (ws : List IhColumn.Width) (c : Nat) : Nat × Nat := match ws.find? fun (w : IhColumn.Width) => decide (w.from_ ≤ c) && decide (c ≤ w.to_) with
  | some w => (w.width, w.kind)
  | none => (1, 0)
theorem ofW_cons {w : IhColumn.Width} {ws : List IhColumn.Width} {c : Nat} : ofW (w :: ws) c = if w.from_ ≤ c ∧ c ≤ w.to_ then (w.width, w.kind) else ofW ws c := by
  unfold ofW
  rw [List.find?_cons]
  by_cases h : w.from_ ≤ c ∧ c ≤ w.to_
  · rw [if_pos h, decide_eq_true h.1, decide_eq_true h.2]
    rfl
  · rw [if_neg h]
    have : (decide (w.from_ ≤ c) && decide (c ≤ w.to_)) = false := by
      rw [Bool.and_eq_false_iff]
      by_cases h1 : w.from_ ≤ c
      · exact .inr (decide_eq_false fun z => h ⟨h1, z⟩)
      · exact .inl (decide_eq_false h1)
    rw [this]
section
variable {P : Program} {w : World} {K : PySem.W.Frag} {mg : Str → Option Value} {base : Heap}
/-! ### measure_by_ranges -/
def spMeasureBy : Sp := fun vs H Q _ => ∃ (a : Addr) (ws : List IhColumn.Width) (c : Nat), vs = [.ref a, nV c] ∧ RngAt H a ws ∧
  ∀ (H' : Hp) (t : Addr), Same H H' → H' t = some (.tup [nV (ofW ws c).1, nV (ofW ws c).2]) → Q (.ref t) H'
abbrev sMeasureBy : Stmt := top 3
theorem scMeasureBy : FnScope ["ranges", "character", "row"] ["ranges", "character"] (defScope sMeasureBy) := ⟨rfl, rfl, rfl, by decide +kernel, rfl, by decide +kernel, by decide +kernel⟩
theorem ok_measure_by (T : Txt mg) (L : Laid K mg "measure_by_ranges" sMeasureBy) : DefOk P w K mg base 1 "measure_by_ranges" ["ranges", "character"] spMeasureBy := by
  obtain ⟨f, fd, g, F⟩ := L.ex
  refine ⟨f, fd, g, F.kp, F.binds fun _ _ _ _ _ _ us hl => match us, hl with | [_, _], _ => rfl, ?_⟩
  refine F.ok scMeasureBy (fun vs H Q E h => by obtain ⟨_, _, _, rfl, _⟩ := h; rfl) (fun cdv A outer s H vs Q E hr h => ⟨_,
    pss_cons (ps_for PassesOwn.never rfl (pi_list (pv 0)) (pg_name (i := 2) scMeasureBy.nd rfl (.inl rfl))
      (pss_one (ps_if (pt_chain op_le op_le (pe_ix ix_list (pv 2) pe_int (fun _ _ => rfl)) (pv 1) (pe_ix ix_list (pv 2) pe_int (fun _ _ => rfl)))
        (pss_one (ps_ret (pe_tup (pa_cons (pe_ix ix_list (pv 2) pe_int (fun _ _ => rfl)) (pa_cons (pe_ix ix_list (pv 2) pe_int (fun _ _ => rfl)) pa_nil))))) pss_nil)))
    (pss_one (ps_ret (pe_tup (pa_cons pe_int (pa_cons pe_int pa_nil))))), ?_⟩)
  obtain ⟨a, ws, c, rfl, hR, q⟩ := h
  obtain ⟨xs, hx, hl⟩ := hR.lst
  refine ⟨_, rfl, a, rfl, ⟨xs, SqL.of hx⟩, for_list (K := K) (a := a) (xs := xs) (fun i σ H' => H' = H ∧ ∃ v : Option V, σ = [some (.ref a), some (nV c), v] ∧ ofW (ws.drop i) c = ofW ws c) ⟨rfl, none, rfl, by rw [List.drop_zero]⟩ (fun i σ H' _ h => by obtain ⟨rfl, _⟩ := h; exact SqL.of hx) ?_ ?_⟩
  · rintro i y σ H' hi ⟨rfl, v, rfl, he⟩
    obtain ⟨r, wi, rfl, hw, hr2⟩ := hR.get hx hi
    have hd : ws.drop i = wi :: ws.drop (i + 1) := by
      obtain ⟨h1, h2⟩ := List.getElem?_eq_some_iff.mp hw
      rw [List.drop_eq_getElem_cons h1, h2]
    rw [hd, ofW_cons] at he
    refine ⟨_, rfl, r, _, _, nV wi.from_, rfl, rfl, SqL.of hr2, rfl, _, rfl, _, _, rfl, rfl, _, rfl, ?_⟩
    refine ite2 (fun c1 => ?_) (fun c1 => ?_)
    · have c1' := of_decide_eq_true c1
      refine ⟨_, rfl, r, _, _, nV wi.to_, rfl, rfl, SqL.of hr2, rfl, _, _, rfl, rfl, _, rfl, ?_⟩
      refine ite2 (fun c2 => ?_) (fun c2 => ?_)
      · have c2' := of_decide_eq_true c2
        rw [if_pos (by omega)] at he
        refine ⟨_, rfl, r, _, _, nV wi.width, rfl, rfl, SqL.of hr2, rfl, _, rfl, r, _, _, nV wi.kind, rfl, rfl, SqL.of hr2, rfl, (by show 2 ≤ sizeLine; decide), fun t ht => ?_⟩
        refine q _ t (same_new ht) ?_
        rw [upd_same, ← he]
      · have c2' := of_decide_eq_false (Bool.eq_false_iff.mpr c2)
        rw [if_neg (by omega)] at he
        exact ⟨rfl, some (.ref r), rfl, he⟩
    · have c1' := of_decide_eq_false (Bool.eq_false_iff.mpr c1)
      rw [if_neg (by omega)] at he
      exact ⟨_, rfl, iteF ⟨rfl, some (.ref r), rfl, he⟩⟩
  · rintro σ H' ⟨rfl, v, rfl, he⟩
    rw [hl, List.drop_length] at he
    refine ⟨(by show 2 ≤ sizeLine; decide), fun t ht => ?_⟩
    refine q _ t (same_new ht) ?_
    rw [upd_same, ← he]
    rfl
/-! ### stretch_starts -/
def startsOf (ws : List IhColumn.Width) (x : Nat) : Prop := x = 0 ∨ ∃ w ∈ ws, x = w.from_ ∨ x = w.to_ + 1
def spStarts : Sp := fun vs H Q _ => ∃ (a : Addr) (ws : List IhColumn.Width), vs = [.ref a] ∧ RngAt H a ws ∧ ws.length ≤ 100000 ∧
  ∀ (H' : Hp) (p : Addr) (st : List Nat), Same H H' → H' p = some (.lst (st.map nV)) → st.Pairwise (· ≤ ·) → (∀ x, x ∈ st ↔ startsOf ws x) → st.length ≤ 1 + 2 * ws.length → Q (.ref p) H'
abbrev sStarts : Stmt := top 4
theorem scStarts : FnScope ["ranges", "starts", "row"] ["ranges"] (defScope sStarts) := ⟨rfl, rfl, rfl, by decide +kernel, rfl, by decide +kernel, by decide +kernel⟩
/-- keys behind a store -/
theorem keys_put {kvs : List (L2.Key × V)} {k : L2.Key} {v : V} (x : L2.Key) : x ∈ (putK kvs k v).map (·.1) ↔ x ∈ kvs.map (·.1) ∨ x = k := by
  have hv : ∀ (l : List (L2.Key × V)), x ∈ l.map (·.1) ↔ (valV l x).isSome = true := fun l => by
    rw [← valV_any]
    rw [List.any_eq_true, List.mem_map]
    constructor
    · rintro ⟨p, hp, rfl⟩
      exact ⟨p, hp, decide_eq_true rfl⟩
    · rintro ⟨p, hp, e⟩
      exact ⟨p, hp, of_decide_eq_true e⟩
  rw [hv, hv, valV_put]
  by_cases e : x = k
  · rw [if_pos e]
    exact ⟨fun _ => .inr e, fun _ => rfl⟩
  · rw [if_neg e]
    exact ⟨fun h => .inl h, fun h => h.resolve_right e⟩
/-- what the dict of starts holds behind i rows -/
structure StartsAt (ws : List IhColumn.Width) (i : Nat) (kvs : List (L2.Key × V)) : Prop where
  len : kvs.length ≤ 1 + 2 * i
  keys : ∀ x : L2.Key, x ∈ kvs.map (·.1) ↔ ∃ n : Nat, x = .inl (n : Int) ∧ startsOf (ws.take i) n
theorem ok_starts (T : Txt mg) (L : Laid K mg "stretch_starts" sStarts) : DefOk P w K mg base 1 "stretch_starts" ["ranges"] spStarts := by
  obtain ⟨f, fd, g, F⟩ := L.ex
  refine ⟨f, fd, g, F.kp, F.binds fun _ _ _ _ _ _ us hl => match us, hl with | [_], _ => rfl, ?_⟩
  refine F.ok scStarts (fun vs H Q E h => by obtain ⟨_, _, rfl, _⟩ := h; rfl) (fun cdv A outer s H vs Q E hr h => ⟨_,
    pss_cons (ps_set (i := 1) scStarts.nd rfl (.inl rfl) (pe_disp (pps_cons pe_int pe_bl pps_nil) (by rfl) (by rfl) (fun z => by cases z) (by decide)))
    (pss_cons (ps_for PassesOwn.never rfl (pi_list (pv 0)) (pg_name (i := 2) scStarts.nd rfl (.inl rfl))
      (pss_cons (ps_dput (hu_of hr) (pv 1) (pe_ix ix_list (pv 2) pe_int (fun _ _ => rfl)) pe_bl rfl)
      (pss_one (ps_dput (hu_of hr) (pv 1) (pe_op op_add (pe_ix ix_list (pv 2) pe_int (fun _ _ => rfl)) pe_int) pe_bl rfl))))
    (pss_one (ps_ret (pe_callB (cr_sortedKeys rfl) (by rfl) T.sorted (by decide +kernel) (pa_cons (pe_bm0 PySem.F.plainAttrs_dict PySem.F.slot_dict_keys PySem.F.type_dict_keys mt_keysK (pv 1)) pa_nil))))), ?_⟩)
  obtain ⟨a, ws, rfl, hR, hmany, q⟩ := h
  obtain ⟨xs, hx, hl⟩ := hR.lst
  intro D hD
  refine ⟨upd_same, [(.inl 0, .bl true)], rfl, by decide, ?_⟩
  have s0 : Same H (upd (upd H D (.dK [])) D (.dK (mergeK [] [(.inl 0, .bl true)]))) := Same.set (same_new hD) hD
  refine ⟨_, rfl, a, rfl, ⟨xs, SqL.of (s0 _ _ hx)⟩, for_list (K := K) (a := a) (xs := xs) (fun i σ H' => Same H H' ∧ ∃ (v : Option V) (kvs : List (L2.Key × V)), σ = [some (.ref a), some (.ref D), v] ∧ H' D = some (.dK kvs) ∧ StartsAt ws i kvs)
    ⟨s0, none, _, rfl, upd_same, ⟨Nat.le_refl _, fun x => ?_⟩⟩ (fun i σ H' _ h => SqL.of (h.1 _ _ hx)) ?_ ?_⟩
  · show x ∈ [(.inl 0 : L2.Key)] ↔ _
    rw [List.mem_singleton, List.take_zero]
    constructor
    · intro e
      exact ⟨0, e, .inl rfl⟩
    · rintro ⟨n, rfl, h⟩
      rcases h with rfl | ⟨w, hw, _⟩
      · rfl
      · simp at hw
  · rintro i y σ H' hi ⟨s1, v, kvs, rfl, hk, hS⟩
    obtain ⟨r, wi, rfl, hw, hr2⟩ := (hR.same s1).get (s1 _ _ hx) hi
    have hi2 := (List.getElem?_eq_some_iff.mp hw).1
    have hlen := hS.len
    have hne : r ≠ D := ne_of hr2 hk (fun z => HO.noConfusion z)
    refine ⟨_, rfl, _, rfl, r, _, _, nV wi.from_, rfl, rfl, SqL.of hr2, rfl, D, _, rfl, DPut.k (k := .inl (wi.from_ : Int)) hk (Nat.lt_of_le_of_lt (show kvs.length ≤ 300000 by omega) (by decide)), ?_⟩
    have hl1 := length_putK kvs (.inl (wi.from_ : Int)) (.bl true)
    refine ⟨_, rfl, _, rfl, r, _, _, nV wi.to_, rfl, rfl, SqL.of ((upd_ne hne).trans hr2), rfl, _, _, rfl, rfl, D, _, rfl, DPut.k (k := .inl ((wi.to_ : Int) + 1)) upd_same (Nat.lt_of_le_of_lt (show (putK kvs (.inl (wi.from_ : Int)) (.bl true)).length ≤ 300000 by omega) (by decide)), ?_⟩
    refine ⟨Same.set (Same.set s1 hD) hD, some (.ref r), _, rfl, upd_same, ?_, fun x => ?_⟩
    · have hl2 := length_putK (putK kvs (.inl (wi.from_ : Int)) (.bl true)) (.inl ((wi.to_ : Int) + 1)) (.bl true)
      omega
    · rw [keys_put, keys_put, hS.keys]
      have et : ws.take (i + 1) = ws.take i ++ [wi] := by rw [List.take_succ, hw]; rfl
      rw [et]
      constructor
      · rintro ((⟨n, rfl, h⟩ | rfl) | rfl)
        · refine ⟨n, rfl, ?_⟩
          rcases h with h | ⟨u, hu, h⟩
          · exact .inl h
          · exact .inr ⟨u, List.mem_append_left _ hu, h⟩
        · exact ⟨wi.from_, rfl, .inr ⟨wi, by simp, .inl rfl⟩⟩
        · exact ⟨wi.to_ + 1, by simp, .inr ⟨wi, by simp, .inr rfl⟩⟩
      · rintro ⟨n, rfl, h⟩
        rcases h with h | ⟨u, hu, h⟩
        · exact .inl (.inl ⟨n, rfl, .inl h⟩)
        · rcases List.mem_append.mp hu with m | m
          · exact .inl (.inl ⟨n, rfl, .inr ⟨u, m, h⟩⟩)
          · rw [List.mem_singleton] at m
            subst m
            rcases h with rfl | rfl
            · exact .inl (.inr rfl)
            · exact .inr (by simp)
  · rintro σ H' ⟨s1, v, kvs, rfl, hk, hS⟩
    rw [hl] at hS
    have hk2 := hS.keys
    rw [List.take_length] at hk2
    -- the keys are whole numbers
    obtain ⟨ks, hks⟩ : ∃ ks : List Nat, kvs.map (·.1) = ks.map fun (n : Nat) => (.inl (n : Int) : L2.Key) := by
      have : ∀ l : List L2.Key, (∀ x ∈ l, ∃ n : Nat, x = .inl (n : Int)) → ∃ ks : List Nat, l = ks.map fun (n : Nat) => (.inl (n : Int) : L2.Key) := by
        intro l
        induction l with
        | nil => intro _; exact ⟨[], rfl⟩
        | cons x l ih =>
          intro h
          obtain ⟨n, rfl⟩ := h x List.mem_cons_self
          obtain ⟨ks, rfl⟩ := ih fun y hy => h y (List.mem_cons_of_mem _ hy)
          exact ⟨n :: ks, rfl⟩
      exact this _ fun x hx => by
        obtain ⟨n, e, _⟩ := (hk2 x).mp hx
        exact ⟨n, e⟩
    refine ⟨_, rfl, .inr (.inr (.inl ⟨rfl, .inl ⟨kvs, hk⟩⟩)), D, kvs, rfl, rfl, hk, fun p hp => ?_⟩
    refine ⟨p, D, kvs, ks.map fun (n : Nat) => (n : Int), rfl, upd_same, keep hk hp, ?_, fun ys l hperm hsort hl2 => ?_⟩
    · rw [hks, List.map_map]
      rfl
    · -- back to natural numbers
      obtain ⟨st, rfl⟩ : ∃ st : List Nat, ys = st.map fun (n : Nat) => (n : Int) := by
        have : ∀ l : List Int, (∀ x ∈ l, ∃ n : Nat, x = (n : Int)) → ∃ st : List Nat, l = st.map fun (n : Nat) => (n : Int) := by
          intro l
          induction l with
          | nil => intro _; exact ⟨[], rfl⟩
          | cons x l ih =>
            intro h
            obtain ⟨n, rfl⟩ := h x List.mem_cons_self
            obtain ⟨ks, rfl⟩ := ih fun y hy => h y (List.mem_cons_of_mem _ hy)
            exact ⟨n :: ks, rfl⟩
        refine this _ fun x hx => ?_
        obtain ⟨n, _, e⟩ := List.mem_map.mp (hperm.mem_iff.mp hx)
        exact ⟨n, e.symm⟩
      refine q _ l st (Same.new (Same.new s1 hp) hl2) ?_ ?_ (fun x => ?_) ?_
      · rw [upd_same, List.map_map]
        rfl
      · rw [List.pairwise_map] at hsort
        exact hsort.imp fun h => by omega
      · have e1 : x ∈ st ↔ (x : Int) ∈ ks.map fun (n : Nat) => (n : Int) := by
          rw [← hperm.mem_iff, List.mem_map]
          exact ⟨fun h => ⟨x, h, rfl⟩, fun ⟨y, h, e⟩ => by
            have : y = x := by omega
            rw [← this]; exact h⟩
        have e2 : ((x : Int) ∈ ks.map fun (n : Nat) => (n : Int)) ↔ (.inl (x : Int) : L2.Key) ∈ kvs.map (·.1) := by
          rw [hks, List.mem_map, List.mem_map]
          constructor
          · rintro ⟨n, h, e⟩
            exact ⟨n, h, by rw [e]⟩
          · rintro ⟨n, h, e⟩
            exact ⟨n, h, Sum.inl.inj e⟩
        rw [e1, e2, hk2]
        constructor
        · rintro ⟨n, e, h⟩
          have : n = x := by
            have := Sum.inl.inj e
            omega
          rw [← this]
          exact h
        · intro h
          exact ⟨x, rfl, h⟩
      · have e1 := hperm.length_eq
        have e2 := congrArg List.length hks
        rw [List.length_map, List.length_map] at e1 e2
        have e3 := hS.len
        omega
end
end Hc

namespace Hc
open PySem PySem.Spec PyProof.Rows L2
open IhColumn (Width)
/-- where the classes stand -/
structure Ads where
  W : Addr
  S : Addr
  P : Addr
  L : Addr
  C : Addr
  T : Addr
  R : Addr
def nmW : List Str := ["starts", "found"]
def nmS : List Str := ["width", "height", "indents", "turn", "gap", "ranges", "widths", "cut"]
def nmP : List Str := ["depth", "group", "lead", "text", "measures", "places"]
def nmL : List Str := ["column", "row", "number", "begin", "behind", "is_continued"]
def nmC : List Str := ["sheet", "lines", "column", "row", "main", "held"]
def nmT : List Str := ["sheet", "paragraphs", "lines", "standing"]
def nmR : List Str := ["calls", "place"]
theorem ndW : nmW.Nodup := by decide +kernel
theorem ndS : nmS.Nodup := by decide +kernel
theorem ndP : nmP.Nodup := by decide +kernel
theorem ndL : nmL.Nodup := by decide +kernel
theorem ndC : nmC.Nodup := by decide +kernel
theorem ndT : nmT.Nodup := by decide +kernel
theorem ndR : nmR.Nodup := by decide +kernel
def isIns (H : Hp) (b : Addr) : Prop := ∃ C dx fs, H b = some (.ins C dx fs)
theorem Kp.lst {S : List Addr} {H H' : Hp} (k : Kp S H H') (hS : ∀ b ∈ S, isIns H b) {a : Addr} {xs : List V} (h : H a = some (.lst xs)) : H' a = some (.lst xs) := k _ _ h fun m => by
  obtain ⟨C, dx, fs, e⟩ := hS a m
  rw [h] at e
  cases e
theorem Kp.tup {S : List Addr} {H H' : Hp} (k : Kp S H H') (hS : ∀ b ∈ S, isIns H b) {a : Addr} {xs : List V} (h : H a = some (.tup xs)) : H' a = some (.tup xs) := k _ _ h fun m => by
  obtain ⟨C, dx, fs, e⟩ := hS a m
  rw [h] at e
  cases e
theorem MsAt.kp {S : List Addr} {H H' : Hp} {p : Addr} {ms : Ms} (h : MsAt H p ms) (k : Kp S H H') (hS : ∀ b ∈ S, isIns H b) : MsAt H' p ms := by
  obtain ⟨ts, a, b, c⟩ := h
  exact ⟨ts, k.lst hS a, b, fun i t e => k.tup hS (c i t e)⟩
/-- what is asked of a class: its attributes are the instances' own -/
structure ClsF (K : PySem.W.Frag) (C : Addr) (names : List Str) : Prop where
  cl : Cls K C
  na : ∀ (i : Nat) (k : Str), names[i]? = some k → NoAttr K C k
/-- the widths of characters -/
def WidAt (cs : Ads) (H : Hp) (a : Addr) (ws : List Width) : Prop := ∃ (dx sa fa : Addr) (st : List Nat), H a = some (.ins cs.W dx (nmW.zip [.ref sa, .ref fa])) ∧ H sa = some (.lst (st.map nV)) ∧
  st.Pairwise (· ≤ ·) ∧ (∀ x, x ∈ st ↔ startsOf ws x) ∧ MsAt H fa (st.map (ofW ws))
theorem WidAt.same {cs : Ads} {H H' : Hp} {a : Addr} {ws : List Width} (h : WidAt cs H a ws) (s : Same H H') : WidAt cs H' a ws := by
  obtain ⟨dx, sa, fa, st, h1, h2, h3, h4, h5⟩ := h
  exact ⟨dx, sa, fa, st, s _ _ h1, s _ _ h2, h3, h4, h5.same s⟩
theorem take_succ_map {α β : Type} {l : List α} {i : Nat} {x : α} {g : α → β} (h : l[i]? = some x) : (l.take (i + 1)).map g = (l.take i).map g ++ [g x] := by
  rw [List.take_succ, h, List.map_append]
  rfl
theorem get_map {α : Type} {l : List α} {g : α → V} {i : Nat} {v : V} (h : (l.map g)[i]? = some v) : ∃ x, l[i]? = some x ∧ v = g x := by
  rw [List.getElem?_map] at h
  cases e : l[i]? with
  | none => rw [e] at h; cases h
  | some x => rw [e] at h; exact ⟨x, rfl, (Option.some.inj h).symm⟩
/-- between two starts all characters go alike -/
theorem ofW_between {ws : List Width} {a c : Nat} (hac : a ≤ c) (h : ∀ x, startsOf ws x → x ≤ c → x ≤ a) : ofW ws c = ofW ws a := by
  have key : ∀ us : List Width, (∀ w ∈ us, (w.from_ ≤ c → w.from_ ≤ a) ∧ (w.to_ + 1 ≤ c → w.to_ + 1 ≤ a)) → ofW us c = ofW us a := by
    intro us
    induction us with
    | nil => intro _; rfl
    | cons w us ih =>
      intro hu
      have h1 := hu w List.mem_cons_self
      rw [ofW_cons, ofW_cons, ih fun w hw => hu w (List.mem_cons_of_mem _ hw)]
      by_cases q : w.from_ ≤ c ∧ c ≤ w.to_
      · have := h1.1 q.1
        rw [if_pos q, if_pos (by omega)]
      · rw [if_neg q, if_neg (fun z => q ⟨by omega, by omega⟩)]
  exact key ws fun w hw => ⟨h _ (.inr ⟨w, hw, .inl rfl⟩), h _ (.inr ⟨w, hw, .inr rfl⟩)⟩
section
variable {P : Program} {w : World} {K : PySem.W.Frag} {mg : Str → Option Value} {base : Heap} {cs : Ads}
/-! ### Widths.__init__ -/
def spWInit (cs : Ads) : Sp := fun vs H Q _ => ∃ (H0 : Hp) (x dx a : Addr) (ws : List Width), vs = [.ref x, .ref a] ∧ Same H0 H ∧ H0 x = none ∧ H x = some (.ins cs.W dx []) ∧ RngAt H0 a ws ∧ ws.length ≤ 100000 ∧
  ∀ H' : Hp, Same H0 H' → WidAt cs H' x ws → Q .non H'
abbrev sWInit : Stmt := inClass (top 5) 0
theorem scWInit : FnScope ["self", "ranges", "start"] ["self", "ranges"] (defScope sWInit) := ⟨rfl, rfl, rfl, by decide +kernel, rfl, by decide +kernel, by decide +kernel⟩
theorem ok_w_init (T : Txt mg) (TW : ClsF K cs.W nmW) (L : LaidC K mg cs.W "Widths" "Widths.__init__" sWInit) (D1 : DefOk P w K mg base 1 "stretch_starts" ["ranges"] spStarts) (D2 : DefOk P w K mg base 1 "measure_by_ranges" ["ranges", "character"] spMeasureBy) :
    MakeOk P w K mg base 2 cs.W "Widths" ["self", "ranges"] (spWInit cs) := by
  obtain ⟨f, fd, M, g, F⟩ := L.ex
  obtain ⟨f1, fd1, g1, kp1, b1, G1⟩ := D1.ex
  obtain ⟨f2, fd2, g2, kp2, b2, G2⟩ := D2.ex
  refine ⟨f, fd, M, g, F.binds fun _ _ _ _ _ _ us hl => match us, hl with | [_, _], _ => rfl, ?_⟩
  refine F.ok scWInit (fun vs H Q E h => by obtain ⟨_, _, _, _, _, rfl, _⟩ := h; rfl) (fun cdv A outer s H vs Q E hr h => ⟨_,
    pss_cons (ps_fld (pv 0) (pe_call G1 hr rfl g1 kp1 b1 .nil pass0 (pa_cons (pv 1) pa_nil)) rfl)
    (pss_one (ps_fld (pv 0) (pe_lc (own := [("start", 2)]) (g := gName 2) (tt := tYes) rfl scWInit.nd (pi_list (pe_fld (pv 0) rfl)) (blkOk_by (N := ["self", "ranges", "start"]) (sc := defScope sWInit) (by decide +kernel))
      (fun _ _ _ _ _ => pg_name (i := 2) scWInit.nd rfl (.inl rfl)) (fun _ _ _ _ _ => pts_nil) (fun _ _ _ _ _ => pe_call G2 hr rfl g2 kp2 b2 .nil pass0 (pa_cons (pv 1) (pa_cons (pv 2) pa_nil)))) rfl)), ?_⟩)
  obtain ⟨H0, x, dx, a, ws, rfl, s0, nx, hx, hR, hmany, q⟩ := h
  refine ⟨_, rfl, a, ws, rfl, hR.same s0, hmany, fun H1 p st s1 hp hst hmem hsl => ?_⟩
  refine ⟨_, rfl, x, cs.W, dx, nmW.zip [], rfl, s1 _ _ hx, TW.cl, TW.na 0 _ rfl, (by show 0 < 1000; decide), ?_⟩
  have s2 : Same H0 (upd H1 x (.ins cs.W dx (putF "starts" (.ref p) (nmW.zip [])))) := Same.set (s0.trans s1) nx
  have hx2 := ins_next (H := H1) (x := x) (C := cs.W) (dx := dx) (vals := []) (k := "starts") (v := .ref p) ndW rfl
  have hpx : p ≠ x := ne_of hp (s1 _ _ hx) (fun z => HO.noConfusion z)
  have hp2 : (upd H1 x (.ins cs.W dx (putF "starts" (.ref p) (nmW.zip [])))) p = some (.lst (st.map nV)) := (upd_ne hpx).trans hp
  generalize upd H1 x (.ins cs.W dx (putF "starts" (.ref p) (nmW.zip []))) = H2 at s2 hx2 hp2 ⊢
  refine ⟨_, rfl, x, cs.W, dx, _, _, rfl, hx2, TW.cl, TW.na 0 _ rfl, lk_zip ndW (i := 0) rfl rfl, p, rfl, ⟨_, SqL.of hp2⟩, fun D hD => ?_⟩
  refine lc_list (K := K) (a := p) (xs := st.map nV) (fun i H' => Same H2 H' ∧ MsAt H' D ((st.take i).map (ofW ws))) ⟨same_new hD, MsAt.nil upd_same⟩ (fun i H' _ h => SqL.of (h.1 _ _ hp2)) ?_ ?_
  · rintro i v H' hv ⟨s3, hm⟩
    obtain ⟨n, hn, rfl⟩ := get_map hv
    refine ⟨rfl, _, rfl, _, rfl, a, ws, n, rfl, hR.same (s2.trans s3), fun H3 t s4 ht => ?_⟩
    obtain ⟨xs, hxs, hxl⟩ := (hm.same s4).lst
    have hlen : xs.length < sizeLine := by
      rw [hxl, List.length_map, List.length_take]
      exact Nat.lt_of_le_of_lt (show min i st.length ≤ 300000 by omega) (by decide)
    refine ⟨xs, hxs, hlen, Same.set (s3.trans s4) hD, ?_⟩
    rw [take_succ_map hn]
    exact (hm.same s4).push hxs ht
  · rintro H' ⟨s3, hm⟩
    rw [List.length_map, List.take_length] at hm
    refine ⟨_, rfl, x, cs.W, dx, _, rfl, s3 _ _ hx2, TW.cl, TW.na 1 _ rfl, (by show 1 < 1000; decide), ?_⟩
    have s4 : Same H0 (upd H' x (.ins cs.W dx (putF "found" (.ref D) (nmW.zip [.ref p])))) := Same.set (s2.trans s3) nx
    have hx4 := ins_next (H := H') (x := x) (C := cs.W) (dx := dx) (vals := [.ref p]) (k := "found") (v := .ref D) ndW rfl
    have k4 : Kp [x] H' (upd H' x (.ins cs.W dx (putF "found" (.ref D) (nmW.zip [.ref p])))) := kp_upd
    have hpx' : p ∉ [x] := fun z => hpx (List.mem_singleton.mp z)
    have ins : isIns H' x := ⟨_, _, _, s3 _ _ hx2⟩
    exact q _ s4 ⟨dx, p, D, st, hx4, k4 _ _ (s3 _ _ hp2) hpx', hst, hmem, hm.kp k4 (fun b hb => by rw [List.mem_singleton] at hb; rw [hb]; exact ins)⟩
end
end Hc

namespace Hc
open PySem PySem.Spec PyProof.Rows L2
open IhColumn (Width)
theorem at_len {st : List Nat} {x : Nat} (h : x ∈ st) : ∃ j, j < st.length ∧ st[j]? = some x := by
  obtain ⟨j, hj, e⟩ := List.getElem_of_mem h
  exact ⟨j, hj, by rw [List.getElem?_eq_getElem hj, e]⟩
theorem sorted_le {st : List Nat} (h : st.Pairwise (· ≤ ·)) {i j x y : Nat} (hi : st[i]? = some x) (hj : st[j]? = some y) (hij : i ≤ j) : x ≤ y := by
  obtain ⟨h1, e1⟩ := List.getElem?_eq_some_iff.mp hi
  obtain ⟨h2, e2⟩ := List.getElem?_eq_some_iff.mp hj
  by_cases e : i = j
  · subst e
    rw [← e1, ← e2]
    exact Nat.le_refl _
  · have := List.pairwise_iff_getElem.mp h i j h1 h2 (by omega)
    rw [e1, e2] at this
    exact this
theorem sum_cast : ∀ l : List Nat, (l.map fun (n : Nat) => (n : Int)).sum = ((l.sum : Nat) : Int)
  | [] => rfl
  | a :: l => by
    rw [List.map_cons, List.sum_cons, List.sum_cons, sum_cast l]
    omega
section
variable {P : Program} {w : World} {K : PySem.W.Frag} {mg : Str → Option Value} {base : Heap} {cs : Ads}
/-! ### Widths.measure -/
def spMeasure (cs : Ads) : Sp := fun vs H Q _ => ∃ (a : Addr) (ws : List Width) (c : Nat), vs = [.ref a, nV c] ∧ WidAt cs H a ws ∧
  ∀ t : Addr, H t = some (.tup [nV (ofW ws c).1, nV (ofW ws c).2]) → Q (.ref t) H
abbrev sMeasure : Stmt := inClass (top 5) 1
theorem scMeasure : FnScope ["self", "character", "low", "high", "middle"] ["self", "character"] (defScope sMeasure) := ⟨rfl, rfl, rfl, by decide +kernel, rfl, by decide +kernel, by decide +kernel⟩
theorem ok_measure (T : Txt mg) (TW : ClsF K cs.W nmW) (L : LaidM K cs.W "measure" "Widths.measure" sMeasure) : MethOk P w K mg base 1 cs.W "measure" ["self", "character"] (spMeasure cs) := by
  obtain ⟨f, fd, M, F⟩ := L.ex
  refine ⟨f, fd, M, F.binds fun _ _ _ _ _ _ us hl => match us, hl with | [_, _], _ => rfl, ?_⟩
  refine F.ok scMeasure (fun vs H Q E h => by obtain ⟨_, _, _, rfl, _⟩ := h; rfl) (fun cdv A outer s H vs Q E hr h => ⟨_,
    pss_cons (ps_set (i := 2) scMeasure.nd rfl (.inl rfl) pe_int)
    (pss_cons (ps_set (i := 3) scMeasure.nd rfl (.inl rfl) (pe_callB call_len_seq (by rfl) T.len PySem.boot_len (pa_cons (pe_fld (pv 0) rfl) pa_nil)))
    (pss_cons (ps_while PassesOwn.never (pt_cmpR op_gt (pe_op op_sub (pv 3) (pv 2)) pe_int (nomark _))
      (pss_cons (ps_set (i := 4) scMeasure.nd rfl (.inl rfl) (pe_op op_fdiv (pe_op op_add (pv 2) (pv 3)) pe_int))
      (pss_one (ps_if (pt_cmpR op_le (pe_ix ix_list (pe_fld (pv 0) rfl) (pv 4) (fun _ _ => rfl)) (pv 1) (nomark _)) (pss_one (ps_set (i := 2) scMeasure.nd rfl (.inl rfl) (pv 4))) (pss_one (ps_set (i := 3) scMeasure.nd rfl (.inl rfl) (pv 4)))))))
    (pss_one (ps_ret (pe_ix ix_list (pe_fld (pv 0) rfl) (pv 2) (fun _ _ => rfl)))))), ?_⟩)
  obtain ⟨a, ws, c, rfl, ⟨dx, sa, fa, st, h1, h2, h3, h4, h5⟩, q⟩ := h
  refine ⟨_, rfl, a, cs.W, dx, _, _, rfl, h1, TW.cl, TW.na 0 _ rfl, lk_zip ndW (i := 0) rfl rfl, sa, _, rfl, .inl (SqL.of h2), ?_⟩
  rw [List.length_map]
  obtain ⟨j0, hj0, ej0⟩ := at_len ((h4 0).mpr (.inl rfl))
  refine ⟨fun m σ H' => H' = H ∧ ∃ lo hi mid, m = hi - lo ∧ lo < hi ∧ hi ≤ st.length ∧ (∀ x, st[lo]? = some x → x ≤ c) ∧ (∀ j x, hi ≤ j → st[j]? = some x → c < x) ∧ σ = [some (.ref a), some (nV c), some (nV lo), some (nV hi), mid],
    ⟨st.length - 0, rfl, 0, st.length, none, rfl, by omega, Nat.le_refl _, fun x hx => ?_, fun j x hj hx => ?_, rfl⟩, ?_⟩
  · have := sorted_le h3 hx ej0 (Nat.zero_le _)
    omega
  · have := (List.getElem?_eq_some_iff.mp hx).1
    omega
  rintro m σ H' ⟨rfl, lo, hi, mid, rfl, hlh, hhl, hlo, hhi, rfl⟩
  refine ⟨_, rfl, _, rfl, _, _, rfl, rfl, _, _, rfl, rfl, _, rfl, ?_⟩
  refine ite2 (fun c1 => ?_) (fun c1 => ?_)
  · have c1' := of_decide_eq_true c1
    have c2 : lo + 1 < hi := by omega
    refine ⟨fun σ' H'' => ∃ m', m' < hi - lo ∧ (H'' = H' ∧ ∃ lo hi mid, m' = hi - lo ∧ lo < hi ∧ hi ≤ st.length ∧ (∀ x, st[lo]? = some x → x ≤ c) ∧ (∀ j x, hi ≤ j → st[j]? = some x → c < x) ∧ σ' = [some (.ref a), some (nV c), some (nV lo), some (nV hi), mid]), fun _ _ z => z, ?_⟩
    refine ⟨_, rfl, _, rfl, _, _, rfl, rfl, _, _, rfl, rfl, ⟨by decide, by decide⟩, ?_⟩
    obtain ⟨mi, hmi⟩ : ∃ mi : Nat, mi = (lo + hi) / 2 := ⟨_, rfl⟩
    have hmi2 : (((lo : Int) + (hi : Int)) / 2) = (mi : Int) := by omega
    have hx : st[mi]? = some st[mi] := List.getElem?_eq_getElem (by omega)
    have hv : (st.map nV)[mi]? = some (nV st[mi]) := by rw [List.getElem?_map, hx]; rfl
    refine ⟨_, rfl, a, cs.W, dx, _, _, rfl, h1, TW.cl, TW.na 0 _ rfl, lk_zip ndW (i := 0) rfl rfl, _, rfl, sa, _, _, _, rfl, rfl, SqL.of h2, at_nat hv hmi2, _, rfl, _, _, rfl, rfl, _, rfl, ?_⟩
    refine ite2 (fun c3 => ?_) (fun c3 => ?_)
    · have c3' := of_decide_eq_true c3
      refine ⟨_, rfl, ⟨hi - mi, by omega, rfl, mi, hi, some (nV mi), rfl, by omega, hhl, fun x hx' => ?_, hhi, ?_⟩⟩
      · rw [hx] at hx'
        have := Option.some.inj hx'
        omega
      · exact slot2 rfl (slot2 rfl (slot2 (sI hmi2) (slot2 rfl (slot2 (sI hmi2) rfl))))
    · have c3' := of_decide_eq_false (Bool.eq_false_iff.mpr c3)
      refine ⟨_, rfl, ⟨mi - lo, by omega, rfl, lo, mi, some (nV mi), rfl, by omega, by omega, hlo, fun j x hj hx' => ?_, ?_⟩⟩
      · have := sorted_le h3 hx hx' hj
        omega
      · exact slot2 rfl (slot2 rfl (slot2 rfl (slot2 (sI hmi2) (slot2 (sI hmi2) rfl))))
  · have c1' := of_decide_eq_false (Bool.eq_false_iff.mpr c1)
    have c2 : hi = lo + 1 := by omega
    subst c2
    have hx : st[lo]? = some st[lo] := List.getElem?_eq_getElem (by omega)
    obtain ⟨ys, t, hy, hyl, hyt, ht⟩ := h5.get (show lo < (st.map (ofW ws)).length by rw [List.length_map]; omega)
    refine ⟨_, rfl, a, cs.W, dx, _, _, rfl, h1, TW.cl, TW.na 1 _ rfl, lk_zip ndW (i := 1) rfl rfl, _, rfl, fa, ys, _, .ref t, rfl, rfl, SqL.of hy, at_nat hyt rfl, ?_⟩
    have e0 : (st.map (ofW ws)).getD lo (0, 0) = ofW ws st[lo] := by
      rw [List.getD_eq_getElem?_getD, List.getElem?_map, hx]
      rfl
    have e1 : ofW ws c = ofW ws st[lo] := ofW_between (hlo _ hx) fun x hs hxc => by
      obtain ⟨j, hj, ej⟩ := at_len ((h4 x).mpr hs)
      by_cases hjl : lo + 1 ≤ j
      · have := hhi j x hjl ej
        omega
      · exact sorted_le h3 ej hx (by omega)
    refine q t ?_
    rw [ht, e1]
    unfold wd kd
    rw [e0]
/-! ### Widths.measure_all -/
def spMeasureAll (cs : Ads) : Sp := fun vs H Q _ => ∃ (a t : Addr) (ws : List Width) (text : List Nat), vs = [.ref a, .ref t] ∧ WidAt cs H a ws ∧ H t = some (.lst (text.map nV)) ∧ text.length ≤ 300000 ∧
  ∀ (H' : Hp) (p : Addr), Same H H' → MsAt H' p (text.map (ofW ws)) → Q (.ref p) H'
abbrev sMeasureAll : Stmt := inClass (top 5) 2
theorem scMeasureAll : FnScope ["self", "text", "character"] ["self", "text"] (defScope sMeasureAll) := ⟨rfl, rfl, rfl, by decide +kernel, rfl, by decide +kernel, by decide +kernel⟩
theorem ok_measure_all (T : Txt mg) (TW : ClsF K cs.W nmW) (L : LaidM K cs.W "measure_all" "Widths.measure_all" sMeasureAll) (D1 : MethOk P w K mg base 1 cs.W "measure" ["self", "character"] (spMeasure cs)) :
    MethOk P w K mg base 2 cs.W "measure_all" ["self", "text"] (spMeasureAll cs) := by
  obtain ⟨f, fd, M, F⟩ := L.ex
  obtain ⟨f1, fd1, M1, b1, G1⟩ := D1.ex
  refine ⟨f, fd, M, F.binds fun _ _ _ _ _ _ us hl => match us, hl with | [_, _], _ => rfl, ?_⟩
  refine F.ok scMeasureAll (fun vs H Q E h => by obtain ⟨_, _, _, _, rfl, _⟩ := h; rfl) (fun cdv A outer s H vs Q E hr h => ⟨_,
    pss_one (ps_ret (pe_lc (own := [("character", 2)]) (g := gName 2) (tt := tYes) rfl scMeasureAll.nd (pi_list (pv 1)) (blkOk_by (N := ["self", "text", "character"]) (sc := defScope sMeasureAll) (by decide +kernel))
      (fun _ _ _ _ _ => pg_name (i := 2) scMeasureAll.nd rfl (.inl rfl)) (fun _ _ _ _ _ => pts_nil) (fun _ _ _ _ _ => pe_meth (pv 0) TW.cl M1 G1 hr b1 .nil pass0 (pa_cons (pv 2) pa_nil)))), ?_⟩)
  obtain ⟨a, t, ws, text, rfl, hW, ht, hlen, q⟩ := h
  refine ⟨_, rfl, t, rfl, ⟨_, SqL.of ht⟩, fun D hD => ?_⟩
  refine lc_list (K := K) (a := t) (xs := text.map nV) (fun i H' => Same H H' ∧ MsAt H' D ((text.take i).map (ofW ws))) ⟨same_new hD, MsAt.nil upd_same⟩ (fun i H' _ h => SqL.of (h.1 _ _ ht)) ?_ ?_
  · rintro i v H' hv ⟨s3, hm⟩
    obtain ⟨n, hn, rfl⟩ := get_map hv
    have hW' := hW.same s3
    obtain ⟨dx, sa, fa, st, h1, _⟩ := id hW'
    refine ⟨rfl, _, rfl, a, dx, _, rfl, h1, lk_none (by decide +kernel), _, rfl, a, ws, n, rfl, hW', fun u hu => ?_⟩
    obtain ⟨xs, hxs, hxl⟩ := hm.lst
    have hlen : xs.length < sizeLine := by
      rw [hxl, List.length_map, List.length_take]
      exact Nat.lt_of_le_of_lt (show min i text.length ≤ 300000 by omega) (by decide)
    refine ⟨xs, hxs, hlen, Same.set s3 hD, ?_⟩
    rw [take_succ_map hn]
    exact hm.push hxs hu
  · rintro H' ⟨s3, hm⟩
    rw [List.length_map, List.take_length] at hm
    exact q H' D s3 hm
/-! ### Widths.total -/
def spTotal (cs : Ads) : Sp := fun vs H Q _ => ∃ (a t : Addr) (ws : List Width) (text : List Nat), vs = [.ref a, .ref t] ∧ WidAt cs H a ws ∧ H t = some (.lst (text.map nV)) ∧ text.length ≤ 300000 ∧
  ∀ H' : Hp, Same H H' → Q (nV ((text.map fun c => (ofW ws c).1).sum)) H'
abbrev sTotal : Stmt := inClass (top 5) 3
theorem scTotal : FnScope ["self", "text", "measured"] ["self", "text"] (defScope sTotal) := ⟨rfl, rfl, rfl, by decide +kernel, rfl, by decide +kernel, by decide +kernel⟩
theorem ok_total (T : Txt mg) (TW : ClsF K cs.W nmW) (L : LaidM K cs.W "total" "Widths.total" sTotal) (D1 : MethOk P w K mg base 2 cs.W "measure_all" ["self", "text"] (spMeasureAll cs)) :
    MethOk P w K mg base 3 cs.W "total" ["self", "text"] (spTotal cs) := by
  obtain ⟨f, fd, M, F⟩ := L.ex
  obtain ⟨f1, fd1, M1, b1, G1⟩ := D1.ex
  refine ⟨f, fd, M, F.binds fun _ _ _ _ _ _ us hl => match us, hl with | [_, _], _ => rfl, ?_⟩
  refine F.ok scTotal (fun vs H Q E h => by obtain ⟨_, _, _, _, rfl, _⟩ := h; rfl) (fun cdv A outer s H vs Q E hr h => ⟨_,
    pss_one (ps_ret (pe_callB (cr_sum rfl) (by rfl) T.sum (by decide +kernel) (pa_cons (pe_lc (own := [("measured", 2)]) (g := gName 2) (tt := tYes) (te := tOp (rIxT K) (tVar 2) (tC (.int 0))) rfl scTotal.nd (pi_list (pe_meth (pv 0) TW.cl M1 G1 hr b1 .nil pass0 (pa_cons (pv 1) pa_nil))) (blkOk_by (N := ["self", "text", "measured"]) (sc := defScope sTotal) (by decide +kernel))
      (fun _ _ _ _ _ => pg_name (i := 2) scTotal.nd rfl (.inl rfl)) (fun _ _ _ _ _ => pts_nil) (fun _ _ _ _ _ => pe_ix ix_tup (pv 2) pe_int (fun _ _ => rfl))) pa_nil))), ?_⟩)
  obtain ⟨a, t, ws, text, rfl, hW, ht, hlen, q⟩ := h
  obtain ⟨dx, sa, fa, st, h1, _⟩ := id hW
  refine ⟨_, rfl, a, dx, _, rfl, h1, lk_none (by decide +kernel), _, rfl, a, t, ws, text, rfl, hW, ht, hlen, fun H1 p s1 hm => ?_⟩
  obtain ⟨ts, e1, e2, e3⟩ := hm
  refine ⟨p, rfl, ⟨_, SqL.of e1⟩, fun D hD => ?_⟩
  refine lc_list (K := K) (a := p) (xs := ts.map V.ref) (fun i H' => Same H1 H' ∧ H' D = some (.lst ((text.take i).map fun c => nV (ofW ws c).1))) ⟨same_new hD, upd_same⟩ (fun i H' _ h => SqL.of (h.1 _ _ e1)) ?_ ?_
  · rintro i v H' hv ⟨s3, hD'⟩
    obtain ⟨u, hu, rfl⟩ := get_map hv
    have hi : i < text.length := by
      have := (List.getElem?_eq_some_iff.mp hu).1
      rw [e2, List.length_map] at this
      exact this
    have hx : text[i]? = some text[i] := List.getElem?_eq_getElem hi
    have hut := s3 _ _ (e3 i u hu)
    refine ⟨rfl, _, rfl, u, _, _, _, rfl, rfl, SqT.of hut, rfl, _, hD', ?_, Same.set s3 hD, ?_⟩
    · rw [List.length_map, List.length_take]
      exact Nat.lt_of_le_of_lt (show min i text.length ≤ 300000 by omega) (by decide)
    · rw [upd_same, take_succ_map hx]
      have : wd (text.map (ofW ws)) i = (ofW ws text[i]).1 := by
        unfold wd
        rw [List.getD_eq_getElem?_getD, List.getElem?_map, hx]
        rfl
      rw [this]
  · rintro H' ⟨s3, hD'⟩
    have el : (ts.map V.ref).length = text.length := by rw [List.length_map, e2, List.length_map]
    rw [el, List.take_length] at hD'
    have ei : (text.map fun c => nV (ofW ws c).1) = ((text.map fun c => (ofW ws c).1).map fun (n : Nat) => (n : Int)).map V.int := by
      rw [List.map_map, List.map_map]
      rfl
    refine ⟨D, (text.map fun c => (ofW ws c).1).map fun (n : Nat) => (n : Int), rfl, ?_, ?_⟩
    · rw [← ei]
      exact SqL.of hD'
    · rw [sum_cast]
      exact q H' (s1.trans s3)
end
end Hc

namespace Hc
open PySem PySem.Spec PyProof.Rows L2
open IhColumn (Width Setter)
/-- a sheet -/
def SheetAt (cs : Ads) (H : Hp) (a : Addr) (s : Setter) : Prop := ∃ dx ia ra wa ca : Addr,
  H a = some (.ins cs.S dx (nmS.zip [nV s.house.width, nV s.house.height, .ref ia, nV s.house.turn, nV s.house.gap, .ref ra, .ref wa, .ref ca])) ∧
  H ia = some (.lst (s.house.indent.map nV)) ∧ RngAt H ra s.widths ∧ WidAt cs H wa s.widths ∧ H ca = some (.lst (s.cut.map nV))
theorem SheetAt.same {cs : Ads} {H H' : Hp} {a : Addr} {s : Setter} (h : SheetAt cs H a s) (k : Same H H') : SheetAt cs H' a s := by
  obtain ⟨dx, ia, ra, wa, ca, h1, h2, h3, h4, h5⟩ := h
  exact ⟨dx, ia, ra, wa, ca, k _ _ h1, k _ _ h2, h3.same k, h4.same k, k _ _ h5⟩
theorem ofW_of (s : Setter) (c : Nat) : ofW s.widths c = s.of_ c := rfl
theorem msOf_ofW (s : Setter) (t : List Nat) : t.map (ofW s.widths) = msOf s t := rfl
theorem wide_ofW (s : Setter) (t : List Nat) : (t.map fun c => (ofW s.widths c).1).sum = s.wide t := rfl
theorem RngAt.kp {S : List Addr} {H H' : Hp} {a : Addr} {ws : List Width} (h : RngAt H a ws) (k : Kp S H H') (hS : ∀ b ∈ S, isIns H b) : RngAt H' a ws := by
  obtain ⟨rs, h1, h2, h3⟩ := h
  exact ⟨rs, k.lst hS h1, h2, fun i r w e g => k.lst hS (h3 i r w e g)⟩
/-- an instance gets its next field -/
theorem fld_next {K : PySem.W.Frag} {C : Addr} {names : List Str} {vals : List V} {k : Str} {v : V} {x dx : Addr} {H0 H : Hp} {R : Hp → Prop} (TS : ClsF K C names) (hn : names.Nodup) (hk : names[vals.length]? = some k) (few : names.length < 1000)
    (s : Same H0 H) (nx : H0 x = none) (hx : H x = some (.ins C dx (names.zip vals))) (h : ∀ H', Same H0 H' → Kp [x] H H' → H' x = some (.ins C dx (names.zip (vals ++ [v]))) → R H') :
    ∃ a C' dx' fs, V.ref x = .ref a ∧ H a = some (.ins C' dx' fs) ∧ Cls K C' ∧ NoAttr K C' k ∧ fs.length < 1000 ∧ R (upd H a (.ins C' dx' (putF k v fs))) :=
  ⟨x, C, dx, names.zip vals, rfl, hx, TS.cl, TS.na _ _ hk, by rw [List.length_zip]; omega, h _ (Same.set s nx) kp_upd (ins_next hn hk)⟩
/-- an instance's field is set anew -/
theorem fld_set {K : PySem.W.Frag} {C : Addr} {names : List Str} {vals : List V} {k : Str} {v : V} {x dx : Addr} {H0 H : Hp} {R : Hp → Prop} (i : Nat) (TS : ClsF K C names) (hn : names.Nodup) (hk : names[i]? = some k) (hl : i < vals.length) (few : names.length < 1000)
    (s : Same H0 H) (nx : H0 x = none) (hx : H x = some (.ins C dx (names.zip vals))) (h : ∀ H', Same H0 H' → Kp [x] H H' → H' x = some (.ins C dx (names.zip (vals.set i v))) → R H') :
    ∃ a C' dx' fs, V.ref x = .ref a ∧ H a = some (.ins C' dx' fs) ∧ Cls K C' ∧ NoAttr K C' k ∧ fs.length < 1000 ∧ R (upd H a (.ins C' dx' (putF k v fs))) :=
  ⟨x, C, dx, names.zip vals, rfl, hx, TS.cl, TS.na _ _ hk, by rw [List.length_zip]; omega, h _ (Same.set s nx) kp_upd (ins_set i hn hk hl)⟩
theorem ins_one {H : Hp} {x C dx : Addr} {fs : List (Str × V)} (hx : H x = some (.ins C dx fs)) : ∀ b ∈ [x], isIns H b := fun b hb => by
  rw [List.mem_singleton] at hb
  rw [hb]
  exact ⟨_, _, _, hx⟩
theorem WidAt.kp {cs : Ads} {S : List Addr} {H H' : Hp} {a : Addr} {ws : List Width} (h : WidAt cs H a ws) (k : Kp S H H') (hS : ∀ b ∈ S, isIns H b) (ha : a ∉ S) : WidAt cs H' a ws := by
  obtain ⟨dx, sa, fa, st, h1, h2, h3, h4, h5⟩ := h
  exact ⟨dx, sa, fa, st, k _ _ h1 ha, k.lst hS h2, h3, h4, h5.kp k hS⟩
section
variable {P : Program} {w : World} {K : PySem.W.Frag} {mg : Str → Option Value} {base : Heap} {cs : Ads}
/-! ### Sheet.__init__ -/
def spSInit (cs : Ads) : Sp := fun vs H Q _ => ∃ (H0 : Hp) (x dx na ra ca : Addr) (wd_ ht i1 i2 i3 tn gp : Nat) (ws : List Width) (cut : List Nat), vs = [.ref x, .ref na, .ref ra, .ref ca] ∧ Same H0 H ∧ H0 x = none ∧ H x = some (.ins cs.S dx []) ∧
  H0 na = some (.lst [nV wd_, nV ht, nV i1, nV i2, nV i3, nV tn, nV gp]) ∧ RngAt H0 ra ws ∧ ws.length ≤ 100000 ∧ H0 ca = some (.lst (cut.map nV)) ∧
  ∀ H' : Hp, Same H0 H' → SheetAt cs H' x ⟨⟨wd_, ht, [i1, i2, i3], tn, gp⟩, ws, cut⟩ → Q .non H'
abbrev sSInit : Stmt := inClass (top 6) 0
theorem scSInit : FnScope ["self", "numbers", "ranges", "cut"] ["self", "numbers", "ranges", "cut"] (defScope sSInit) := ⟨rfl, rfl, rfl, by decide +kernel, rfl, by decide +kernel, by decide +kernel⟩
theorem ok_s_init (T : Txt mg) (TS : ClsF K cs.S nmS) (L : LaidC K mg cs.S "Sheet" "Sheet.__init__" sSInit) (D1 : MakeOk P w K mg base 2 cs.W "Widths" ["self", "ranges"] (spWInit cs)) :
    MakeOk P w K mg base 4 cs.S "Sheet" ["self", "numbers", "ranges", "cut"] (spSInit cs) := by
  obtain ⟨f, fd, M, g, F⟩ := L.ex
  obtain ⟨f1, fd1, M1, g1, b1, G1⟩ := D1.ex
  refine ⟨f, fd, M, g, F.binds fun _ _ _ _ _ _ us hl => match us, hl with | [_, _, _, _], _ => rfl, ?_⟩
  refine F.ok scSInit (fun vs H Q E h => by obtain ⟨_, _, _, _, _, _, _, _, _, _, _, _, _, _, _, rfl, _⟩ := h; rfl) (fun cdv A outer s H vs Q E hr h => ⟨_,
    pss_cons (ps_fld (pv 0) (pe_ix ix_list (pv 1) pe_int (fun _ _ => rfl)) rfl)
    (pss_cons (ps_fld (pv 0) (pe_ix ix_list (pv 1) pe_int (fun _ _ => rfl)) rfl)
    (pss_cons (ps_fld (pv 0) (pe_slice sl_list (pv 1) (po_some pe_int) (po_some pe_int)) rfl)
    (pss_cons (ps_fld (pv 0) (pe_ix ix_list (pv 1) pe_int (fun _ _ => rfl)) rfl)
    (pss_cons (ps_fld (pv 0) (pe_ix ix_list (pv 1) pe_int (fun _ _ => rfl)) rfl)
    (pss_cons (ps_fld (pv 0) (pv 2) rfl)
    (pss_cons (ps_fld (pv 0) (pe_make M1 G1 hr rfl g1 b1 .nil pass0 (pa_cons (pv 2) pa_nil)) rfl)
    (pss_one (ps_fld (pv 0) (pv 3) rfl)))))))), ?_⟩)
  obtain ⟨H0, x, dx, na, ra, ca, wd_, ht, i1, i2, i3, tn, gp, ws, cut, rfl, s0, nx, hx, hn, hR, hmany, hc, q⟩ := h
  refine ⟨_, rfl, na, _, _, nV wd_, rfl, rfl, SqL.of (s0 _ _ hn), rfl, _, rfl, fld_next TS ndS (vals := []) rfl (by decide) s0 nx hx fun H1 s1 k1 x1 => ?_⟩
  refine ⟨_, rfl, na, _, _, nV ht, rfl, rfl, SqL.of (s1 _ _ hn), rfl, _, rfl, fld_next TS ndS (vals := [nV wd_]) rfl (by decide) s1 nx x1 fun H2 s2 k2 x2 => ?_⟩
  refine ⟨_, rfl, _, rfl, _, rfl, na, _, rfl, SqL.of (s2 _ _ hn), fun ia hia => ?_⟩
  have e3 : cutV [nV wd_, nV ht, nV i1, nV i2, nV i3, nV tn, nV gp] (some 2) (some 5) = ([i1, i2, i3] : List Nat).map nV := rfl
  rw [e3]
  refine ⟨_, rfl, fld_next TS ndS (vals := [nV wd_, nV ht]) rfl (by decide) (Same.new s2 hia) nx (keep x2 hia) fun H3 s3 k3 x3 => ?_⟩
  have h3 : H3 ia = some (.lst (([i1, i2, i3] : List Nat).map nV)) := k3.lst (ins_one (keep x2 hia)) upd_same
  refine ⟨_, rfl, na, _, _, nV tn, rfl, rfl, SqL.of (s3 _ _ hn), rfl, _, rfl, fld_next TS ndS (vals := [nV wd_, nV ht, .ref ia]) rfl (by decide) s3 nx x3 fun H4 s4 k4 x4 => ?_⟩
  have h4 := k4.lst (ins_one x3) h3
  refine ⟨_, rfl, na, _, _, nV gp, rfl, rfl, SqL.of (s4 _ _ hn), rfl, _, rfl, fld_next TS ndS (vals := [nV wd_, nV ht, .ref ia, nV tn]) rfl (by decide) s4 nx x4 fun H5 s5 k5 x5 => ?_⟩
  have h5 := k5.lst (ins_one x4) h4
  refine ⟨_, rfl, _, rfl, fld_next TS ndS (vals := [nV wd_, nV ht, .ref ia, nV tn, nV gp]) rfl (by decide) s5 nx x5 fun H6 s6 k6 x6 => ?_⟩
  have h6 := k6.lst (ins_one x5) h5
  refine ⟨_, rfl, fun wa dw nwa nwd ne => ?_⟩
  have snew : Same H6 (upd (upd H6 dw (.own wa)) wa (.ins cs.W dw [])) := fun b u e => by
    rw [upd_ne (ne_of_none e nwa), upd_ne (ne_of_none e nwd)]
    exact e
  refine ⟨H6, wa, dw, ra, ws, rfl, snew, nwa, upd_same, hR.same s6, hmany, fun H7 s7 hW => ⟨rfl, ?_⟩⟩
  refine ⟨_, rfl, fld_next TS ndS (vals := [nV wd_, nV ht, .ref ia, nV tn, nV gp, .ref ra]) rfl (by decide) (s6.trans s7) nx (s7 _ _ x6) fun H8 s8 k8 x8 => ?_⟩
  have h8 := k8.lst (ins_one (s7 _ _ x6)) (s7 _ _ h6)
  refine ⟨_, rfl, _, rfl, fld_next TS ndS (vals := [nV wd_, nV ht, .ref ia, nV tn, nV gp, .ref ra, .ref wa]) rfl (by decide) s8 nx x8 fun H9 s9 k9 x9 => ?_⟩
  have h9 := k9.lst (ins_one x8) h8
  -- the widths stand: they are no part of this sheet
  have hne : wa ∉ [x] := fun z => by
    rw [List.mem_singleton] at z
    rw [z, x6] at nwa
    cases nwa
  have w8 := hW.kp k8 (ins_one (s7 _ _ x6)) hne
  have w9 := w8.kp k9 (ins_one x8) hne
  exact q H9 s9 ⟨dx, ia, ra, wa, ca, x9, h9, hR.same s9, w9, s9 _ _ hc⟩
/-! ### Sheet.first_room -/
def spFirst (cs : Ads) : Sp := fun vs H Q _ => ∃ (a : Addr) (s : Setter) (d : Nat), vs = [.ref a, nV d] ∧ SheetAt cs H a s ∧ s.house.indent.length = 3 ∧ 1 ≤ d ∧ d ≤ 3 ∧ Q (nV (s.room d true)) H
abbrev sFirst : Stmt := inClass (top 6) 1
theorem scFirst : FnScope ["self", "depth"] ["self", "depth"] (defScope sFirst) := ⟨rfl, rfl, rfl, by decide +kernel, rfl, by decide +kernel, by decide +kernel⟩
theorem ok_first (T : Txt mg) (TS : ClsF K cs.S nmS) (L : LaidM K cs.S "first_room" "Sheet.first_room" sFirst) : MethOk P w K mg base 1 cs.S "first_room" ["self", "depth"] (spFirst cs) := by
  obtain ⟨f, fd, M, F⟩ := L.ex
  refine ⟨f, fd, M, F.binds fun _ _ _ _ _ _ us hl => match us, hl with | [_, _], _ => rfl, ?_⟩
  refine F.ok scFirst (fun vs H Q E h => by obtain ⟨_, _, _, rfl, _⟩ := h; rfl) (fun cdv A outer s H vs Q E hr h => ⟨_,
    pss_one (ps_ret (pe_callB (call_max2 rfl) (by rfl) T.max (by decide +kernel) (pa_cons pe_int (pa_cons (pe_op op_sub (pe_fld (pv 0) rfl) (pe_ix ix_list (pe_fld (pv 0) rfl) (pe_op op_sub (pv 1) pe_int) (fun _ _ => rfl))) pa_nil)))), ?_⟩)
  obtain ⟨a, s, d, rfl, ⟨dx, ia, ra, wa, ca, h1, h2, _⟩, hl, hd1, hd3, q⟩ := h
  have hx : s.house.indent[d - 1]? = some (s.house.indent[d - 1]'(by omega)) := List.getElem?_eq_getElem (by omega)
  have hv : (s.house.indent.map nV)[d - 1]? = some (nV (s.house.indent[d - 1]'(by omega))) := by rw [List.getElem?_map, hx]; rfl
  refine ⟨_, rfl, a, cs.S, dx, _, _, rfl, h1, TS.cl, TS.na 0 _ rfl, lk_zip ndS (i := 0) rfl rfl, _, rfl, a, cs.S, dx, _, _, rfl, h1, TS.cl, TS.na 2 _ rfl, lk_zip ndS (i := 2) rfl rfl, _, rfl, _, _, rfl, rfl, ia, _, _, _, rfl, rfl, SqL.of h2, at_nat hv (by omega), _, _, rfl, rfl, _, _, rfl, ?_⟩
  refine qv q (congrArg V.int ?_)
  unfold Setter.room
  rw [List.getD_eq_getElem?_getD, hx]
  show (if (s.house.width : Int) - ((s.house.indent[d - 1]'(by omega) : Nat) : Int) > 0 then (s.house.width : Int) - ((s.house.indent[d - 1]'(by omega) : Nat) : Int) else 0) = ((s.house.width - (s.house.indent[d - 1]'(by omega)) - 0 : Nat) : Int)
  split <;> omega
/-! ### Sheet.later_room -/
def spLater (cs : Ads) : Sp := fun vs H Q _ => ∃ (a : Addr) (s : Setter) (d : Nat), vs = [.ref a, nV d] ∧ SheetAt cs H a s ∧ s.house.indent.length = 3 ∧ 1 ≤ d ∧ d ≤ 3 ∧ Q (nV (s.room d false)) H
abbrev sLater : Stmt := inClass (top 6) 2
theorem scLater : FnScope ["self", "depth"] ["self", "depth"] (defScope sLater) := ⟨rfl, rfl, rfl, by decide +kernel, rfl, by decide +kernel, by decide +kernel⟩
theorem ok_later (T : Txt mg) (TS : ClsF K cs.S nmS) (L : LaidM K cs.S "later_room" "Sheet.later_room" sLater) (D1 : MethOk P w K mg base 1 cs.S "first_room" ["self", "depth"] (spFirst cs)) : MethOk P w K mg base 2 cs.S "later_room" ["self", "depth"] (spLater cs) := by
  obtain ⟨f, fd, M, F⟩ := L.ex
  obtain ⟨f1, fd1, M1, b1, G1⟩ := D1.ex
  refine ⟨f, fd, M, F.binds fun _ _ _ _ _ _ us hl => match us, hl with | [_, _], _ => rfl, ?_⟩
  refine F.ok scLater (fun vs H Q E h => by obtain ⟨_, _, _, rfl, _⟩ := h; rfl) (fun cdv A outer s H vs Q E hr h => ⟨_,
    pss_one (ps_ret (pe_callB (call_max2 rfl) (by rfl) T.max (by decide +kernel) (pa_cons pe_int (pa_cons (pe_op op_sub (pe_meth (pv 0) TS.cl M1 G1 hr b1 .nil pass0 (pa_cons (pv 1) pa_nil)) (pe_fld (pv 0) rfl)) pa_nil)))), ?_⟩)
  obtain ⟨a, s, d, rfl, hS, hl, hd1, hd3, q⟩ := h
  obtain ⟨dx, ia, ra, wa, ca, h1, h2, _⟩ := id hS
  refine ⟨_, rfl, a, dx, _, rfl, h1, lk_none (by decide +kernel), _, rfl, a, s, d, rfl, hS, hl, hd1, hd3, ?_⟩
  refine ⟨_, rfl, a, cs.S, dx, _, _, rfl, h1, TS.cl, TS.na 3 _ rfl, lk_zip ndS (i := 3) rfl rfl, _, _, rfl, rfl, _, _, rfl, ?_⟩
  refine qv q (congrArg V.int ?_)
  unfold Setter.room
  generalize s.house.indent.getD (d - 1) 0 = i
  show (if ((s.house.width - i - 0 : Nat) : Int) - (s.house.turn : Int) > 0 then ((s.house.width - i - 0 : Nat) : Int) - (s.house.turn : Int) else 0) = ((s.house.width - i - s.house.turn : Nat) : Int)
  split <;> omega
/-! ### Sheet.lead_room -/
def spLeadRoom (cs : Ads) : Sp := fun vs H Q _ => ∃ (a : Addr) (s : Setter), vs = [.ref a] ∧ SheetAt cs H a s ∧ s.cut.length ≤ 300000 ∧ ∀ H' : Hp, Same H H' → Q (.int ((s.house.width : Int) - (s.wide s.cut : Int))) H'
abbrev sLeadRoom : Stmt := inClass (top 6) 3
theorem scLeadRoom : FnScope ["self"] ["self"] (defScope sLeadRoom) := ⟨rfl, rfl, rfl, by decide +kernel, rfl, by decide +kernel, by decide +kernel⟩
theorem ok_lead_room (T : Txt mg) (TW : ClsF K cs.W nmW) (TS : ClsF K cs.S nmS) (L : LaidM K cs.S "lead_room" "Sheet.lead_room" sLeadRoom) (D1 : MethOk P w K mg base 3 cs.W "total" ["self", "text"] (spTotal cs)) : MethOk P w K mg base 4 cs.S "lead_room" ["self"] (spLeadRoom cs) := by
  obtain ⟨f, fd, M, F⟩ := L.ex
  obtain ⟨f1, fd1, M1, b1, G1⟩ := D1.ex
  refine ⟨f, fd, M, F.binds fun _ _ _ _ _ _ us hl => match us, hl with | [_], _ => rfl, ?_⟩
  refine F.ok scLeadRoom (fun vs H Q E h => by obtain ⟨_, _, rfl, _⟩ := h; rfl) (fun cdv A outer s H vs Q E hr h => ⟨_,
    pss_one (ps_ret (pe_op op_sub (pe_fld (pv 0) rfl) (pe_meth (pe_fld (pv 0) rfl) TW.cl M1 G1 hr b1 .nil pass0 (pa_cons (pe_fld (pv 0) rfl) pa_nil)))), ?_⟩)
  obtain ⟨a, s, rfl, hS, hl, q⟩ := h
  obtain ⟨dx, ia, ra, wa, ca, h1, h2, h3, h4, h5⟩ := id hS
  obtain ⟨dw, _, _, _, hw1, _⟩ := id h4
  refine ⟨_, rfl, a, cs.S, dx, _, _, rfl, h1, TS.cl, TS.na 0 _ rfl, lk_zip ndS (i := 0) rfl rfl, _, rfl, a, cs.S, dx, _, _, rfl, h1, TS.cl, TS.na 6 _ rfl, lk_zip ndS (i := 6) rfl rfl, wa, dw, _, rfl, hw1, lk_none (by decide +kernel), _, rfl, a, cs.S, dx, _, _, rfl, h1, TS.cl, TS.na 7 _ rfl, lk_zip ndS (i := 7) rfl rfl, wa, ca, s.widths, s.cut, rfl, h4, h5, hl, fun H' s1 => ?_⟩
  exact ⟨_, _, rfl, rfl, q H' s1⟩
end
end Hc

namespace Hc
open PySem PySem.Spec PyProof.Rows L2
open IhColumn (Width Setter Par Line)
/-- a slice between two places within the list -/
theorem cut_in {xs : List V} {i j : Nat} : cutV xs (some (i : Int)) (some (j : Int)) = (xs.take j).drop i := by
  have e : ∀ (k d : Nat), HT.sIx xs.length d (some (k : Int)) = min k xs.length := fun k d => by
    show (if (k : Int) < 0 then ((k : Int) + xs.length).toNat else min (k : Int).toNat xs.length) = min k xs.length
    rw [if_neg (by omega)]
    rfl
  unfold cutV
  rw [e, e, List.drop_take]
  by_cases h : i ≤ xs.length
  · rw [Nat.min_eq_left h]
    by_cases g : j ≤ xs.length
    · rw [Nat.min_eq_left g]
    · rw [Nat.min_eq_right (by omega), List.take_of_length_le (by rw [List.length_drop]; omega), List.take_of_length_le (by rw [List.length_drop]; omega)]
  · rw [Nat.min_eq_right (show xs.length ≤ i by omega), List.drop_of_length_le (Nat.le_refl _), List.drop_of_length_le (show xs.length ≤ i by omega)]
    simp
theorem cut_from {xs : List V} {i : Nat} : cutV xs (some (i : Int)) none = xs.drop i := by
  have e : ∀ (k d : Nat), HT.sIx xs.length d (some (k : Int)) = min k xs.length := fun k d => by
    show (if (k : Int) < 0 then ((k : Int) + xs.length).toNat else min (k : Int).toNat xs.length) = min k xs.length
    rw [if_neg (by omega)]
    rfl
  unfold cutV
  rw [e]
  show (xs.drop (min i xs.length)).take (xs.length - min i xs.length) = xs.drop i
  by_cases h : i ≤ xs.length
  · rw [Nat.min_eq_left h, List.take_of_length_le (by rw [List.length_drop]; omega)]
  · rw [Nat.min_eq_right (by omega), List.drop_of_length_le (Nat.le_refl _), List.drop_of_length_le (by omega), List.take_nil]
/-- a paragraph -/
def ParAt (cs : Ads) (H : Hp) (a : Addr) (p : Par) (ms pl : Ms) : Prop := ∃ dx ta ma pa : Addr,
  H a = some (.ins cs.P dx (nmP.zip [nV p.depth, nV p.group, nV p.lead, .ref ta, .ref ma, .ref pa])) ∧ H ta = some (.lst (p.text.map nV)) ∧ MsAt H ma ms ∧ MsAt H pa pl
theorem ParAt.same {cs : Ads} {H H' : Hp} {a : Addr} {p : Par} {ms pl : Ms} (h : ParAt cs H a p ms pl) (s : Same H H') : ParAt cs H' a p ms pl := by
  obtain ⟨dx, ta, ma, pa, h1, h2, h3, h4⟩ := h
  exact ⟨dx, ta, ma, pa, s _ _ h1, s _ _ h2, h3.same s, h4.same s⟩
theorem ParAt.kp {cs : Ads} {S : List Addr} {H H' : Hp} {a : Addr} {p : Par} {ms pl : Ms} (h : ParAt cs H a p ms pl) (k : Kp S H H') (hS : ∀ b ∈ S, isIns H b) (ha : a ∉ S) : ParAt cs H' a p ms pl := by
  obtain ⟨dx, ta, ma, pa, h1, h2, h3, h4⟩ := h
  exact ⟨dx, ta, ma, pa, k _ _ h1 ha, k.lst hS h2, h3.kp k hS, h4.kp k hS⟩
section
variable {P : Program} {w : World} {K : PySem.W.Frag} {mg : Str → Option Value} {base : Heap} {cs : Ads}
/-! ### Paragraph.__init__ -/
def spPInit (cs : Ads) : Sp := fun vs H Q _ => ∃ (H0 : Hp) (x dx na : Addr) (p : Par), vs = [.ref x, .ref na] ∧ Same H0 H ∧ H0 x = none ∧ H x = some (.ins cs.P dx []) ∧
  H0 na = some (.lst ((p.depth :: p.group :: p.lead :: p.text).map nV)) ∧ ∀ H' : Hp, Same H0 H' → ParAt cs H' x p [] [] → Q .non H'
abbrev sPInit : Stmt := inClass (top 16) 0
theorem scPInit : FnScope ["self", "numbers"] ["self", "numbers"] (defScope sPInit) := ⟨rfl, rfl, rfl, by decide +kernel, rfl, by decide +kernel, by decide +kernel⟩
theorem ok_p_init (T : Txt mg) (TP : ClsF K cs.P nmP) (L : LaidC K mg cs.P "Paragraph" "Paragraph.__init__" sPInit) : MakeOk P w K mg base 1 cs.P "Paragraph" ["self", "numbers"] (spPInit cs) := by
  obtain ⟨f, fd, M, g, F⟩ := L.ex
  refine ⟨f, fd, M, g, F.binds fun _ _ _ _ _ _ us hl => match us, hl with | [_, _], _ => rfl, ?_⟩
  refine F.ok scPInit (fun vs H Q E h => by obtain ⟨_, _, _, _, _, rfl, _⟩ := h; rfl) (fun cdv A outer s H vs Q E hr h => ⟨_,
    pss_cons (ps_fld (pv 0) (pe_ix ix_list (pv 1) pe_int (fun _ _ => rfl)) rfl)
    (pss_cons (ps_fld (pv 0) (pe_ix ix_list (pv 1) pe_int (fun _ _ => rfl)) rfl)
    (pss_cons (ps_fld (pv 0) (pe_ix ix_list (pv 1) pe_int (fun _ _ => rfl)) rfl)
    (pss_cons (ps_fld (pv 0) (pe_slice sl_list (pv 1) (po_some pe_int) po_none) rfl)
    (pss_cons (ps_fld (pv 0) (pe_lst pa_nil) rfl)
    (pss_one (ps_fld (pv 0) (pe_lst pa_nil) rfl)))))), ?_⟩)
  obtain ⟨H0, x, dx, na, p, rfl, s0, nx, hx, hn, q⟩ := h
  refine ⟨_, rfl, na, _, _, nV p.depth, rfl, rfl, SqL.of (s0 _ _ hn), at_nat (j := 0) rfl rfl, _, rfl, fld_next TP ndP (vals := []) rfl (by decide) s0 nx hx fun H1 s1 k1 x1 => ?_⟩
  refine ⟨_, rfl, na, _, _, nV p.group, rfl, rfl, SqL.of (s1 _ _ hn), at_nat (j := 1) rfl rfl, _, rfl, fld_next TP ndP (vals := [nV p.depth]) rfl (by decide) s1 nx x1 fun H2 s2 k2 x2 => ?_⟩
  refine ⟨_, rfl, na, _, _, nV p.lead, rfl, rfl, SqL.of (s2 _ _ hn), at_nat (j := 2) rfl rfl, _, rfl, fld_next TP ndP (vals := [nV p.depth, nV p.group]) rfl (by decide) s2 nx x2 fun H3 s3 k3 x3 => ?_⟩
  refine ⟨_, rfl, _, rfl, na, _, rfl, SqL.of (s3 _ _ hn), fun ta hta => ?_⟩
  have e3 : cutV ((p.depth :: p.group :: p.lead :: p.text).map nV) (some (3 : Int)) none = p.text.map nV := cut_from (i := 3)
  rw [e3]
  refine ⟨_, rfl, fld_next TP ndP (vals := [nV p.depth, nV p.group, nV p.lead]) rfl (by decide) (Same.new s3 hta) nx (keep x3 hta) fun H4 s4 k4 x4 => ?_⟩
  have t4 := k4.lst (ins_one (keep x3 hta)) upd_same
  refine ⟨(by show 0 ≤ sizeLine; decide), fun ma hma => ?_⟩
  refine ⟨_, rfl, fld_next TP ndP (vals := [nV p.depth, nV p.group, nV p.lead, .ref ta]) rfl (by decide) (Same.new s4 hma) nx (keep x4 hma) fun H5 s5 k5 x5 => ?_⟩
  have t5 := k5.lst (ins_one (keep x4 hma)) (keep t4 hma)
  have m5 := k5.lst (ins_one (keep x4 hma)) upd_same
  refine ⟨(by show 0 ≤ sizeLine; decide), fun pa hpa => ?_⟩
  refine ⟨_, rfl, fld_next TP ndP (vals := [nV p.depth, nV p.group, nV p.lead, .ref ta, .ref ma]) rfl (by decide) (Same.new s5 hpa) nx (keep x5 hpa) fun H6 s6 k6 x6 => ?_⟩
  have t6 := k6.lst (ins_one (keep x5 hpa)) (keep t5 hpa)
  have m6 := k6.lst (ins_one (keep x5 hpa)) (keep m5 hpa)
  have p6 := k6.lst (ins_one (keep x5 hpa)) upd_same
  exact q H6 s6 ⟨dx, ta, ma, pa, x6, t6, MsAt.nil m6, MsAt.nil p6⟩
/-! ### Paragraph.measure_on -/
def spMeasureOn (cs : Ads) : Sp := fun vs H Q _ => ∃ (H0 : Hp) (a sa : Addr) (s : Setter) (p : Par) (ms pl : Ms), vs = [.ref a, .ref sa] ∧ Same H0 H ∧ H0 a = none ∧ SheetAt cs H0 sa s ∧ p.text.length ≤ 65535 ∧ ParAt cs H a p ms pl ∧
  ∀ H' : Hp, Same H0 H' → Kp [a] H H' → ParAt cs H' a p (msOf s p.text) pl → Q .non H'
abbrev sMeasureOn : Stmt := inClass (top 16) 1
theorem scMeasureOn : FnScope ["self", "sheet"] ["self", "sheet"] (defScope sMeasureOn) := ⟨rfl, rfl, rfl, by decide +kernel, rfl, by decide +kernel, by decide +kernel⟩
theorem ok_measure_on (T : Txt mg) (TW : ClsF K cs.W nmW) (TS : ClsF K cs.S nmS) (TP : ClsF K cs.P nmP) (L : LaidM K cs.P "measure_on" "Paragraph.measure_on" sMeasureOn) (D1 : MethOk P w K mg base 2 cs.W "measure_all" ["self", "text"] (spMeasureAll cs)) :
    MethOk P w K mg base 3 cs.P "measure_on" ["self", "sheet"] (spMeasureOn cs) := by
  obtain ⟨f, fd, M, F⟩ := L.ex
  obtain ⟨f1, fd1, M1, b1, G1⟩ := D1.ex
  refine ⟨f, fd, M, F.binds fun _ _ _ _ _ _ us hl => match us, hl with | [_, _], _ => rfl, ?_⟩
  refine F.ok scMeasureOn (fun vs H Q E h => by obtain ⟨_, _, _, _, _, _, _, rfl, _⟩ := h; rfl) (fun cdv A outer s H vs Q E hr h => ⟨_,
    pss_one (ps_fld (pv 0) (pe_meth (pe_fld (pv 1) rfl) TW.cl M1 G1 hr b1 .nil pass0 (pa_cons (pe_fld (pv 0) rfl) pa_nil)) rfl), ?_⟩)
  obtain ⟨H0, a, sa, s, p, ms, pl, rfl, s0, na, hS, hlen, ⟨dx, ta, ma, pa, h1, h2, h3, h4⟩, q⟩ := h
  obtain ⟨dxs, ia, ra, wa, ca, e1, e2, e3, e4, e5⟩ := hS.same s0
  obtain ⟨dw, _, _, _, w1, _⟩ := id e4
  refine ⟨_, rfl, sa, cs.S, dxs, _, _, rfl, e1, TS.cl, TS.na 6 _ rfl, lk_zip ndS (i := 6) rfl rfl, wa, dw, _, rfl, w1, lk_none (by decide +kernel), _, rfl, a, cs.P, dx, _, _, rfl, h1, TP.cl, TP.na 3 _ rfl, lk_zip ndP (i := 3) rfl rfl,
    wa, ta, s.widths, p.text, rfl, e4, h2, by omega, fun H1 m s1 hm => ?_⟩
  refine ⟨_, rfl, fld_set 4 TP ndP (vals := [nV p.depth, nV p.group, nV p.lead, .ref ta, .ref ma, .ref pa]) rfl (by show 4 < 6; decide) (by decide) (s0.trans s1) na (s1 _ _ h1) fun H2 s2 k2 x2 => ?_⟩
  have ins := ins_one (s1 _ _ h1)
  exact q H2 s2 ((Same.kp s1 [a]).trans k2) ⟨dx, ta, m, pa, x2, k2.lst ins (s1 _ _ h2), hm.kp k2 ins, (h4.same s1).kp k2 ins⟩
/-! ### Paragraph.is_blanks_alone -/
def spBlanksAlone (cs : Ads) : Sp := fun vs H Q _ => ∃ (a : Addr) (p : Par) (ms pl : Ms), vs = [.ref a] ∧ ParAt cs H a p ms pl ∧ Q (.bl (decide (textEnd ms = 0))) H
abbrev sBlanksAlone : Stmt := inClass (top 16) 2
theorem scBlanksAlone : FnScope ["self"] ["self"] (defScope sBlanksAlone) := ⟨rfl, rfl, rfl, by decide +kernel, rfl, by decide +kernel, by decide +kernel⟩
theorem ok_blanks_alone (T : Txt mg) (TP : ClsF K cs.P nmP) (L : LaidM K cs.P "is_blanks_alone" "Paragraph.is_blanks_alone" sBlanksAlone) (D1 : DefOk P w K mg base 2 "text_end" ["measures"] spTextEnd) :
    MethOk P w K mg base 3 cs.P "is_blanks_alone" ["self"] (spBlanksAlone cs) := by
  obtain ⟨f, fd, M, F⟩ := L.ex
  obtain ⟨f1, fd1, g1, kp1, b1, G1⟩ := D1.ex
  refine ⟨f, fd, M, F.binds fun _ _ _ _ _ _ us hl => match us, hl with | [_], _ => rfl, ?_⟩
  refine F.ok scBlanksAlone (fun vs H Q E h => by obtain ⟨_, _, _, _, rfl, _⟩ := h; rfl) (fun cdv A outer s H vs Q E hr h => ⟨_,
    pss_one (ps_ret (pe_cmp (pc_eqI (pe_call G1 hr rfl g1 kp1 b1 .nil pass0 (pa_cons (pe_fld (pv 0) rfl) pa_nil)) pe_int) rfl)), ?_⟩)
  obtain ⟨a, p, ms, pl, rfl, ⟨dx, ta, ma, pa, h1, h2, h3, h4⟩, q⟩ := h
  refine ⟨_, rfl, a, cs.P, dx, _, _, rfl, h1, TP.cl, TP.na 4 _ rfl, lk_zip ndP (i := 4) rfl rfl, ma, ms, rfl, h3, _, _, rfl, rfl, ?_⟩
  exact qv q (congrArg V.bl (dec_int (textEnd ms) 0))
/-! ### Paragraph.break_on -/
def spBreakOn (cs : Ads) : Sp := fun vs H Q _ => ∃ (H0 : Hp) (a sa : Addr) (s : Setter) (p : Par) (pl : Ms), vs = [.ref a, .ref sa] ∧ Same H0 H ∧ H0 a = none ∧ SheetAt cs H0 sa s ∧ s.house.indent.length = 3 ∧ 1 ≤ p.depth ∧ p.depth ≤ 3 ∧ p.text.length ≤ 65535 ∧
  ParAt cs H a p (msOf s p.text) pl ∧ (s.lines p = none → ∀ H' : Hp, Same H H' → Q (.bl false) H') ∧
  ∀ l, s.lines p = some l → ∀ H' : Hp, Same H0 H' → Kp [a] H H' → ParAt cs H' a p (msOf s p.text) l → Q (.bl true) H'
abbrev sBreakOn : Stmt := inClass (top 16) 3
theorem scBreakOn : FnScope ["self", "sheet", "first_room", "places"] ["self", "sheet"] (defScope sBreakOn) := ⟨rfl, rfl, rfl, by decide +kernel, rfl, by decide +kernel, by decide +kernel⟩
theorem ok_break_on (T : Txt mg) (TS : ClsF K cs.S nmS) (TP : ClsF K cs.P nmP) (L : LaidM K cs.P "break_on" "Paragraph.break_on" sBreakOn) (D1 : MethOk P w K mg base 1 cs.S "first_room" ["self", "depth"] (spFirst cs)) (D2 : MethOk P w K mg base 2 cs.S "later_room" ["self", "depth"] (spLater cs))
    (D3 : DefOk P w K mg base 4 "line_places" ["measures", "first_room", "later_room"] spLinePlaces) : MethOk P w K mg base 5 cs.P "break_on" ["self", "sheet"] (spBreakOn cs) := by
  obtain ⟨f, fd, M, F⟩ := L.ex
  obtain ⟨f1, fd1, M1, b1, G1⟩ := D1.ex
  obtain ⟨f2, fd2, M2, b2, G2⟩ := D2.ex
  obtain ⟨f3, fd3, g3, kp3, b3, G3⟩ := D3.ex
  refine ⟨f, fd, M, F.binds fun _ _ _ _ _ _ us hl => match us, hl with | [_, _], _ => rfl, ?_⟩
  refine F.ok scBreakOn (fun vs H Q E h => by obtain ⟨_, _, _, _, _, _, rfl, _⟩ := h; rfl) (fun cdv A outer s H vs Q E hr h => ⟨_,
    pss_cons (ps_set (i := 2) scBreakOn.nd rfl (.inl rfl) (pe_meth (pv 1) TS.cl M1 G1 (hr.mono (by decide)) b1 .nil pass0 (pa_cons (pe_fld (pv 0) rfl) pa_nil)))
    (pss_cons (ps_set (i := 3) scBreakOn.nd rfl (.inl rfl) (pe_call G3 hr rfl g3 kp3 b3 .nil pass0 (pa_cons (pe_fld (pv 0) rfl) (pa_cons (pv 2) (pa_cons (pe_meth (pv 1) TS.cl M2 G2 (hr.mono (by decide)) b2 .nil pass0 (pa_cons (pe_fld (pv 0) rfl) pa_nil)) pa_nil)))))
    (pss_cons (ps_if (pt_cmp (pc_isN (pv 3))) (pss_one (ps_ret pe_bl)) pss_nil)
    (pss_cons (ps_fld (pv 0) (pv 3) rfl)
    (pss_one (ps_ret pe_bl))))), ?_⟩)
  obtain ⟨H0, a, sa, s, p, pl, rfl, s0, na, hS, hi, hd1, hd3, hlen, ⟨dx, ta, ma, pa, h1, h2, h3, h4⟩, qn, qs⟩ := h
  have hS' := hS.same s0
  obtain ⟨dxs, ia, ra, wa, ca, e1, e2, e3, e4, e5⟩ := id hS'
  refine ⟨_, rfl, sa, dxs, _, rfl, e1, lk_none (by decide +kernel), _, rfl, a, cs.P, dx, _, _, rfl, h1, TP.cl, TP.na 0 _ rfl, lk_zip ndP (i := 0) rfl rfl, sa, s, p.depth, rfl, hS', hi, hd1, hd3, ?_⟩
  refine ⟨_, rfl, a, cs.P, dx, _, _, rfl, h1, TP.cl, TP.na 4 _ rfl, lk_zip ndP (i := 4) rfl rfl, _, rfl, _, rfl, sa, dxs, _, rfl, e1, lk_none (by decide +kernel), _, rfl, a, cs.P, dx, _, _, rfl, h1, TP.cl, TP.na 0 _ rfl, lk_zip ndP (i := 0) rfl rfl, sa, s, p.depth, rfl, hS', hi, hd1, hd3, ?_⟩
  refine ⟨ma, msOf s p.text, s.room p.depth true, s.room p.depth false, rfl, h3, by rw [msOf_length]; exact hlen, fun hl H' s1 => ?_, fun l hl H' p' s1 hm => ?_⟩
  · rw [linePlaces_spec] at hl
    refine ⟨_, rfl, _, rfl, iteT ?_⟩
    exact qn hl H' s1
  · rw [linePlaces_spec] at hl
    refine ⟨_, rfl, _, rfl, iteF ?_⟩
    refine ⟨_, rfl, _, rfl, fld_set 5 TP ndP (vals := [nV p.depth, nV p.group, nV p.lead, .ref ta, .ref ma, .ref pa]) rfl (by show 5 < 6; decide) (by decide) (s0.trans s1) na (s1 _ _ h1) fun H2 s2 k2 x2 => ?_⟩
    have ins := ins_one (s1 _ _ h1)
    exact qs l hl H2 s2 ((Same.kp s1 [a]).trans k2) ⟨dx, ta, ma, p', x2, k2.lst ins (s1 _ _ h2), (h3.same s1).kp k2 ins, hm.kp k2 ins⟩
end
end Hc

namespace Hc
open PySem PySem.Spec PyProof.Rows L2
open IhColumn (Width Setter Par Line)
theorem nb_yes {p : Prop} [Decidable p] (h : (!decide p) = true) : ¬ p := fun hp => by
  rw [decide_eq_true hp] at h
  cases h
theorem nb_no {p : Prop} [Decidable p] (h : ¬ (!decide p) = true) : p := by
  by_cases hp : p
  · exact hp
  · rw [decide_eq_false hp] at h
    exact absurd rfl h
/-- broken paragraphs -/
def ParsAt (cs : Ads) (H : Hp) (l : Addr) (s : Setter) (ps : List Pr) : Prop := ∃ as : List Addr, H l = some (.lst (as.map V.ref)) ∧ as.length = ps.length ∧
  ∀ (i : Nat) (a : Addr) (p : Pr), as[i]? = some a → ps[i]? = some p → ParAt cs H a p.par (msOf s p.par.text) p.places
theorem ParsAt.same {cs : Ads} {H H' : Hp} {l : Addr} {s : Setter} {ps : List Pr} (h : ParsAt cs H l s ps) (k : Same H H') : ParsAt cs H' l s ps := by
  obtain ⟨as, h1, h2, h3⟩ := h
  exact ⟨as, k _ _ h1, h2, fun i a p e g => (h3 i a p e g).same k⟩
theorem ParsAt.get {cs : Ads} {H : Hp} {l : Addr} {s : Setter} {ps : List Pr} (h : ParsAt cs H l s ps) {i : Nat} {p : Pr} (hp : ps[i]? = some p) :
    ∃ (xs : List V) (a : Addr), H l = some (.lst xs) ∧ xs.length = ps.length ∧ xs[i]? = some (.ref a) ∧ ParAt cs H a p.par (msOf s p.par.text) p.places := by
  obtain ⟨as, h1, h2, h3⟩ := h
  have hi := (List.getElem?_eq_some_iff.mp hp).1
  have e : as[i]? = some (as[i]'(by omega)) := List.getElem?_eq_getElem (by omega)
  refine ⟨_, as[i]'(by omega), h1, by rw [List.length_map]; exact h2, ?_, h3 i _ p e hp⟩
  rw [List.getElem?_map, e]
  rfl
theorem ParsAt.lst {cs : Ads} {H : Hp} {l : Addr} {s : Setter} {ps : List Pr} (h : ParsAt cs H l s ps) : ∃ xs : List V, H l = some (.lst xs) ∧ xs.length = ps.length := by
  obtain ⟨as, h1, h2, _⟩ := h
  exact ⟨_, h1, by rw [List.length_map]; exact h2⟩
/-- a line that is set -/
def LineAt (cs : Ads) (H : Hp) (a : Addr) (l : Line) : Prop := ∃ dx : Addr, H a = some (.ins cs.L dx (nmL.zip [nV l.column, nV l.row, nV l.par, nV l.from_, nV l.to_, .bl (decide (l.kind = 1))]))
def LinesAt (cs : Ads) (H : Hp) (p : Addr) (ls : List Line) : Prop := ∃ as : List Addr, H p = some (.lst (as.map V.ref)) ∧ as.length = ls.length ∧ ∀ (i : Nat) (a : Addr) (l : Line), as[i]? = some a → ls[i]? = some l → LineAt cs H a l
theorem LineAt.same {cs : Ads} {H H' : Hp} {a : Addr} {l : Line} (h : LineAt cs H a l) (s : Same H H') : LineAt cs H' a l := by
  obtain ⟨dx, h1⟩ := h
  exact ⟨dx, s _ _ h1⟩
theorem LinesAt.same {cs : Ads} {H H' : Hp} {p : Addr} {ls : List Line} (h : LinesAt cs H p ls) (s : Same H H') : LinesAt cs H' p ls := by
  obtain ⟨as, h1, h2, h3⟩ := h
  exact ⟨as, s _ _ h1, h2, fun i a l e g => (h3 i a l e g).same s⟩
theorem LinesAt.nil {cs : Ads} {H : Hp} {p : Addr} (h : H p = some (.lst [])) : LinesAt cs H p [] := ⟨[], h, rfl, fun i a l e => by simp at e⟩
theorem LinesAt.lst {cs : Ads} {H : Hp} {p : Addr} {ls : List Line} (h : LinesAt cs H p ls) : ∃ xs : List V, H p = some (.lst xs) ∧ xs.length = ls.length := by
  obtain ⟨as, h1, h2, _⟩ := h
  exact ⟨_, h1, by rw [List.length_map]; exact h2⟩
theorem LinesAt.get {cs : Ads} {H : Hp} {p : Addr} {ls : List Line} (h : LinesAt cs H p ls) {i : Nat} {l : Line} (hl : ls[i]? = some l) :
    ∃ (xs : List V) (a : Addr), H p = some (.lst xs) ∧ xs.length = ls.length ∧ xs[i]? = some (.ref a) ∧ LineAt cs H a l := by
  obtain ⟨as, h1, h2, h3⟩ := h
  have hi := (List.getElem?_eq_some_iff.mp hl).1
  have e : as[i]? = some (as[i]'(by omega)) := List.getElem?_eq_getElem (by omega)
  refine ⟨_, as[i]'(by omega), h1, by rw [List.length_map]; exact h2, ?_, h3 i _ l e hl⟩
  rw [List.getElem?_map, e]
  rfl
/-- two instances with other attributes stand apart -/
theorem ins_apart {H : Hp} {a b C C' dx dx' : Addr} {n n' : List Str} {v v' : List V} (h : H a = some (.ins C dx (n.zip v))) (h' : H b = some (.ins C' dx' (n'.zip v'))) (hl : n.length ≤ v.length) (hl' : n'.length ≤ v'.length) (d : n ≠ n') : a ≠ b := by
  refine ne_of h h' fun e => d ?_
  have e1 := (HO.ins.inj e).2.2
  have := congrArg (List.map (·.1)) e1
  rw [List.map_fst_zip hl, List.map_fst_zip hl'] at this
  exact this
/-- columns as they are filled -/
def CoAt (cs : Ads) (H : Hp) (c la sa : Addr) (co : Co) : Prop := (∃ dx : Addr, H c = some (.ins cs.C dx (nmC.zip [.ref sa, .ref la, nV co.column, nV co.row, nV co.main, nV co.held]))) ∧ LinesAt cs H la co.lines
theorem CoAt.same {cs : Ads} {H H' : Hp} {c la sa : Addr} {co : Co} (h : CoAt cs H c la sa co) (s : Same H H') : CoAt cs H' c la sa co := by
  obtain ⟨⟨dx, h1⟩, h2⟩ := h
  exact ⟨⟨dx, s _ _ h1⟩, h2.same s⟩
/-- the columns' own fields change: their lines stand -/
theorem CoAt.field {cs : Ads} {H H' : Hp} {c la : Addr} {ls : List Line} {dx : Addr} {vs : List V} (h : LinesAt cs H la ls) (hc : H c = some (.ins cs.C dx (nmC.zip vs))) (hv : vs.length = 6) (k : Kp [c] H H') : LinesAt cs H' la ls := by
  obtain ⟨as, h1, h2, h3⟩ := h
  refine ⟨as, k.lst (ins_one hc) h1, h2, fun i a l e g => ?_⟩
  obtain ⟨d, h4⟩ := h3 i a l e g
  refine ⟨d, k _ _ h4 fun m => ?_⟩
  rw [List.mem_singleton] at m
  exact ins_apart h4 hc (by show 6 ≤ 6; decide) (by rw [hv]; decide) (by decide +kernel) m
theorem LinesAt.push {cs : Ads} {H : Hp} {la a : Addr} {ls : List Line} {l : Line} {xs : List V} (h : LinesAt cs H la ls) (hx : H la = some (.lst xs)) (ha : LineAt cs H a l) : LinesAt cs (upd H la (.lst (xs ++ [.ref a]))) la (ls ++ [l]) := by
  obtain ⟨as, e1, e2, e3⟩ := h
  have ex : xs = as.map V.ref := by
    rw [hx] at e1
    exact HO.lst.inj (Option.some.inj e1)
  have hne : ∀ {b : Addr} {k : Line}, LineAt cs H b k → LineAt cs (upd H la (.lst (xs ++ [.ref a]))) b k := fun hb => by
    obtain ⟨d, hd⟩ := hb
    exact ⟨d, (upd_ne (ne_of hd hx (fun z => HO.noConfusion z))).trans hd⟩
  refine ⟨as ++ [a], ?_, ?_, fun i b k hb hk => ?_⟩
  · rw [upd_same, ex, List.map_append]
    rfl
  · rw [List.length_append, List.length_append, e2]
    rfl
  · by_cases hi : i < as.length
    · rw [List.getElem?_append_left hi] at hb
      rw [List.getElem?_append_left (by omega)] at hk
      exact hne (e3 i b k hb hk)
    · have hi2 : i = as.length := by
        have := (List.getElem?_eq_some_iff.mp hb).1
        simp at this
        omega
      subst hi2
      rw [List.getElem?_append_right (Nat.le_refl _), Nat.sub_self] at hb
      rw [List.getElem?_append_right (by omega), show as.length - ls.length = 0 by omega] at hk
      have q1 : a = b := Option.some.inj hb
      have q2 : l = k := Option.some.inj hk
      subst q1 q2
      exact hne ha
section
variable {P : Program} {w : World} {K : PySem.W.Frag} {mg : Str → Option Value} {base : Heap} {cs : Ads}
/-! ### first_line_needs -/
def spNeeds (cs : Ads) : Sp := fun vs H Q _ => ∃ (l : Addr) (s : Setter) (ps : List Pr) (i : Nat) (p : Pr), vs = [.ref l, nV i] ∧ ParsAt cs H l s ps ∧ ps[i]? = some p ∧ Q (nV (needsOf ps i p)) H
abbrev sNeeds : Stmt := top 17
theorem scNeeds : FnScope ["paragraphs", "number", "paragraph", "lower"] ["paragraphs", "number"] (defScope sNeeds) := ⟨rfl, rfl, rfl, by decide +kernel, rfl, by decide +kernel, by decide +kernel⟩
theorem ok_needs (T : Txt mg) (TP : ClsF K cs.P nmP) (L : Laid K mg "first_line_needs" sNeeds) : DefOk P w K mg base 1 "first_line_needs" ["paragraphs", "number"] (spNeeds cs) := by
  obtain ⟨f, fd, g, F⟩ := L.ex
  refine ⟨f, fd, g, F.kp, F.binds fun _ _ _ _ _ _ us hl => match us, hl with | [_, _], _ => rfl, ?_⟩
  refine F.ok scNeeds (fun vs H Q E h => by obtain ⟨_, _, _, _, _, rfl, _⟩ := h; rfl) (fun cdv A outer s H vs Q E hr h => ⟨_,
    pss_cons (ps_set (i := 2) scNeeds.nd rfl (.inl rfl) (pe_ix ix_list (pv 0) (pv 1) (fun _ _ => rfl)))
    (pss_cons (ps_if (pt_cmpR op_gt (pe_callB call_len_seq (by rfl) T.len PySem.boot_len (pa_cons (pe_fld (pv 2) rfl) pa_nil)) pe_int (nomark _)) (pss_one (ps_ret pe_int)) pss_nil)
    (pss_cons (ps_if (PW.pt (pw_and (pt_cmp (pc_eqI (pe_fld (pv 2) rfl) pe_int)) (pw_and1 (pt_cmpR op_lt (pe_op op_add (pv 1) pe_int) (pe_callB call_len_seq (by rfl) T.len PySem.boot_len (pa_cons (pv 0) pa_nil)) (nomark _)))))
      (pss_cons (ps_set (i := 3) scNeeds.nd rfl (.inl rfl) (pe_ix ix_list (pv 0) (pe_op op_add (pv 1) pe_int) (fun _ _ => rfl)))
      (pss_one (ps_if (pt_cmp (pc_neI (pe_fld (pv 3) rfl) pe_int))
        (pss_one (ps_ret (pe_op op_add pe_int (pe_callB (call_min2 rfl) (by rfl) T.min (by decide +kernel) (pa_cons pe_int (pa_cons (pe_callB call_len_seq (by rfl) T.len PySem.boot_len (pa_cons (pe_fld (pv 3) rfl) pa_nil)) pa_nil)))))) pss_nil))) pss_nil)
    (pss_one (ps_ret pe_int)))), ?_⟩)
  obtain ⟨l, s, ps, i, p, rfl, hP, hp, q⟩ := h
  obtain ⟨xs, a, hx, hxl, hxa, dx, ta, ma, pa, h1, h2, h3, h4⟩ := hP.get hp
  obtain ⟨ys, hy, hyl⟩ := h4.lst
  refine ⟨_, rfl, _, rfl, l, xs, _, .ref a, rfl, rfl, SqL.of hx, at_nat hxa rfl, ?_⟩
  refine ⟨_, rfl, a, cs.P, dx, _, _, rfl, h1, TP.cl, TP.na 5 _ rfl, lk_zip ndP (i := 5) rfl rfl, pa, ys, rfl, .inl (SqL.of hy), _, _, rfl, rfl, _, rfl, ?_⟩
  rw [hyl]
  unfold needsOf at q
  refine ite2 (fun c1 => ?_) (fun c1 => ?_)
  · have c1' := of_decide_eq_true c1
    rw [if_pos (by omega)] at q
    exact q
  · have c1' := of_decide_eq_false (Bool.eq_false_iff.mpr c1)
    rw [if_neg (by omega)] at q
    refine ⟨_, rfl, a, cs.P, dx, _, _, rfl, h1, TP.cl, TP.na 0 _ rfl, lk_zip ndP (i := 0) rfl rfl, _, _, rfl, rfl, _, rfl, ?_⟩
    refine ite2 (fun c2 => ?_) (fun c2 => ?_)
    · have c2' := of_decide_eq_true c2
      rw [if_pos (by omega)] at q
      refine ⟨_, rfl, _, _, rfl, rfl, _, rfl, l, xs, rfl, .inl (SqL.of hx), _, _, rfl, rfl, _, rfl, ?_⟩
      rw [hxl]
      refine ite2 (fun c3 => ?_) (fun c3 => ?_)
      · have c3' := of_decide_eq_true c3
        have hlt : i + 1 < ps.length := by omega
        have hn : ps[i + 1]? = some ps[i + 1] := List.getElem?_eq_getElem hlt
        rw [hn] at q
        obtain ⟨xs', b, hx', _, hxb, dy, tb, mb, pb, k1, k2, k3, k4⟩ := hP.get hn
        obtain ⟨zs, hz, hzl⟩ := k4.lst
        refine ⟨_, rfl, _, rfl, _, _, rfl, rfl, l, xs', _, .ref b, rfl, rfl, SqL.of hx', at_nat hxb (by first | omega | (dsimp only; omega)), ?_⟩
        refine ⟨_, rfl, b, cs.P, dy, _, _, rfl, k1, TP.cl, TP.na 0 _ rfl, lk_zip ndP (i := 0) rfl rfl, _, _, rfl, rfl, _, rfl, ?_⟩
        refine ite2 (fun c4 => ?_) (fun c4 => ?_)
        · have c4' := nb_yes c4
          simp only [if_neg (show ¬ ps[i + 1].par.depth = 1 by omega)] at q
          refine ⟨_, rfl, b, cs.P, dy, _, _, rfl, k1, TP.cl, TP.na 5 _ rfl, lk_zip ndP (i := 5) rfl rfl, pb, zs, rfl, .inl (SqL.of hz), _, _, rfl, _, _, rfl, rfl, ?_⟩
          refine qv q (congrArg V.int ?_)
          rw [hzl]
          show (1 : Int) + (if ((ps[i + 1].places.length : Nat) : Int) < 2 then ((ps[i + 1].places.length : Nat) : Int) else 2) = ((1 + min 2 ps[i + 1].places.length : Nat) : Int)
          split <;> omega
        · have c4' := nb_no c4
          simp only [if_pos (show ps[i + 1].par.depth = 1 by omega)] at q
          exact q
      · have c3' := of_decide_eq_false (Bool.eq_false_iff.mpr c3)
        have hn : ps[i + 1]? = none := List.getElem?_eq_none (by omega)
        rw [hn] at q
        exact q
    · have c2' := of_decide_eq_false (Bool.eq_false_iff.mpr c2)
      rw [if_neg (by omega)] at q
      exact iteF q
/-! ### Line.__init__ -/
def spLInit (cs : Ads) : Sp := fun vs H Q _ => ∃ (H0 : Hp) (x dx : Addr) (col row n b e : Nat) (k : Bool), vs = [.ref x, nV col, nV row, nV n, nV b, nV e, .bl k] ∧ Same H0 H ∧ H0 x = none ∧ H x = some (.ins cs.L dx []) ∧
  ∀ H' : Hp, Same H0 H' → LineAt cs H' x ⟨col, row, n, b, e, k.toNat⟩ → Q .non H'
abbrev sLInit : Stmt := inClass (top 18) 0
theorem scLInit : FnScope ["self", "column", "row", "number", "begin", "behind", "is_continued"] ["self", "column", "row", "number", "begin", "behind", "is_continued"] (defScope sLInit) := ⟨rfl, rfl, rfl, by decide +kernel, rfl, by decide +kernel, by decide +kernel⟩
theorem ok_l_init (TL : ClsF K cs.L nmL) (L : LaidC K mg cs.L "Line" "Line.__init__" sLInit) : MakeOk P w K mg base 1 cs.L "Line" ["self", "column", "row", "number", "begin", "behind", "is_continued"] (spLInit cs) := by
  obtain ⟨f, fd, M, g, F⟩ := L.ex
  refine ⟨f, fd, M, g, F.binds fun _ _ _ _ _ _ us hl => match us, hl with | [_, _, _, _, _, _, _], _ => rfl, ?_⟩
  refine F.ok scLInit (fun vs H Q E h => by obtain ⟨_, _, _, _, _, _, _, _, _, rfl, _⟩ := h; rfl) (fun cdv A outer s H vs Q E hr h => ⟨_,
    pss_cons (ps_fld (pv 0) (pv 1) rfl) (pss_cons (ps_fld (pv 0) (pv 2) rfl) (pss_cons (ps_fld (pv 0) (pv 3) rfl) (pss_cons (ps_fld (pv 0) (pv 4) rfl) (pss_cons (ps_fld (pv 0) (pv 5) rfl) (pss_one (ps_fld (pv 0) (pv 6) rfl)))))), ?_⟩)
  obtain ⟨H0, x, dx, col, row, n, b, e, k, rfl, s0, nx, hx, q⟩ := h
  refine ⟨_, rfl, _, rfl, fld_next TL ndL (vals := []) rfl (by decide) s0 nx hx fun H1 s1 k1 x1 => ?_⟩
  refine ⟨_, rfl, _, rfl, fld_next TL ndL (vals := [nV col]) rfl (by decide) s1 nx x1 fun H2 s2 k2 x2 => ?_⟩
  refine ⟨_, rfl, _, rfl, fld_next TL ndL (vals := [nV col, nV row]) rfl (by decide) s2 nx x2 fun H3 s3 k3 x3 => ?_⟩
  refine ⟨_, rfl, _, rfl, fld_next TL ndL (vals := [nV col, nV row, nV n]) rfl (by decide) s3 nx x3 fun H4 s4 k4 x4 => ?_⟩
  refine ⟨_, rfl, _, rfl, fld_next TL ndL (vals := [nV col, nV row, nV n, nV b]) rfl (by decide) s4 nx x4 fun H5 s5 k5 x5 => ?_⟩
  refine ⟨_, rfl, _, rfl, fld_next TL ndL (vals := [nV col, nV row, nV n, nV b, nV e]) rfl (by decide) s5 nx x5 fun H6 s6 k6 x6 => ?_⟩
  refine q H6 s6 ⟨dx, ?_⟩
  rw [x6]
  cases k <;> rfl
/-! ### Columns.__init__ -/
def spCInit (cs : Ads) : Sp := fun vs H Q _ => ∃ (H0 : Hp) (x dx sa : Addr), vs = [.ref x, .ref sa] ∧ Same H0 H ∧ H0 x = none ∧ H x = some (.ins cs.C dx []) ∧
  ∀ (H' : Hp) (la : Addr), Same H0 H' → H0 la = none → CoAt cs H' x la sa Co.new → Q .non H'
abbrev sCInit : Stmt := inClass (top 19) 0
theorem scCInit : FnScope ["self", "sheet"] ["self", "sheet"] (defScope sCInit) := ⟨rfl, rfl, rfl, by decide +kernel, rfl, by decide +kernel, by decide +kernel⟩
theorem ok_c_init (TC : ClsF K cs.C nmC) (L : LaidC K mg cs.C "Columns" "Columns.__init__" sCInit) : MakeOk P w K mg base 1 cs.C "Columns" ["self", "sheet"] (spCInit cs) := by
  obtain ⟨f, fd, M, g, F⟩ := L.ex
  refine ⟨f, fd, M, g, F.binds fun _ _ _ _ _ _ us hl => match us, hl with | [_, _], _ => rfl, ?_⟩
  refine F.ok scCInit (fun vs H Q E h => by obtain ⟨_, _, _, _, rfl, _⟩ := h; rfl) (fun cdv A outer s H vs Q E hr h => ⟨_,
    pss_cons (ps_fld (pv 0) (pv 1) rfl) (pss_cons (ps_fld (pv 0) (pe_lst pa_nil) rfl) (pss_cons (ps_fld (pv 0) pe_int rfl) (pss_cons (ps_fld (pv 0) pe_int rfl) (pss_cons (ps_fld (pv 0) pe_int rfl) (pss_one (ps_fld (pv 0) pe_int rfl)))))), ?_⟩)
  obtain ⟨H0, x, dx, sa, rfl, s0, nx, hx, q⟩ := h
  refine ⟨_, rfl, _, rfl, fld_next TC ndC (vals := []) rfl (by decide) s0 nx hx fun H1 s1 k1 x1 => ?_⟩
  refine ⟨(by show 0 ≤ sizeLine; decide), fun la hla => ?_⟩
  refine ⟨_, rfl, fld_next TC ndC (vals := [.ref sa]) rfl (by decide) (Same.new s1 hla) nx (keep x1 hla) fun H2 s2 k2 x2 => ?_⟩
  have l2 := k2.lst (ins_one (keep x1 hla)) upd_same
  refine ⟨_, rfl, fld_next TC ndC (vals := [.ref sa, .ref la]) rfl (by decide) s2 nx x2 fun H3 s3 k3 x3 => ?_⟩
  have l3 := k3.lst (ins_one x2) l2
  refine ⟨_, rfl, fld_next TC ndC (vals := [.ref sa, .ref la, nV 0]) rfl (by decide) s3 nx x3 fun H4 s4 k4 x4 => ?_⟩
  have l4 := k4.lst (ins_one x3) l3
  refine ⟨_, rfl, fld_next TC ndC (vals := [.ref sa, .ref la, nV 0, nV 0]) rfl (by decide) s4 nx x4 fun H5 s5 k5 x5 => ?_⟩
  have l5 := k5.lst (ins_one x4) l4
  refine ⟨_, rfl, fld_next TC ndC (vals := [.ref sa, .ref la, nV 0, nV 0, nV 0]) rfl (by decide) s5 nx x5 fun H6 s6 k6 x6 => ?_⟩
  have l6 := k6.lst (ins_one x5) l5
  exact q H6 la s6 (Same.free s1 hla) ⟨⟨dx, x6⟩, LinesAt.nil l6⟩
end
end Hc

namespace Hc
open PySem PySem.Spec PyProof.Rows L2
open IhColumn (Width Setter Par Line)
theorem fld_aug {K : PySem.W.Frag} {C : Addr} {names : List Str} {vals : List V} {k : Str} {v : V} {x dx : Addr} {H0 H : Hp} {R : Hp → Prop} (i : Nat) (hn : names.Nodup) (hk : names[i]? = some k) (hl : i < vals.length) (few : names.length < 1000)
    (s : Same H0 H) (nx : H0 x = none) (hx : H x = some (.ins C dx (names.zip vals))) (h : ∀ H', Same H0 H' → Kp [x] H H' → H' x = some (.ins C dx (names.zip (vals.set i v))) → R H') :
    ∃ dx' fs', H x = some (.ins C dx' fs') ∧ fs'.length < 1000 ∧ R (upd H x (.ins C dx' (putF k v fs'))) :=
  ⟨dx, names.zip vals, hx, by rw [List.length_zip]; omega, h _ (Same.set s nx) kp_upd (ins_set i hn hk hl)⟩
section
variable {P : Program} {w : World} {K : PySem.W.Frag} {mg : Str → Option Value} {base : Heap} {cs : Ads}
/-! ### Columns.put_line -/
def spPutLine (cs : Ads) : Sp := fun vs H Q _ => ∃ (H0 : Hp) (c la sa : Addr) (co : Co) (n b e : Nat) (k : Bool), vs = [.ref c, nV n, nV b, nV e, .bl k] ∧ Same H0 H ∧ H0 c = none ∧ H0 la = none ∧ CoAt cs H c la sa co ∧ co.lines.length < 1000000 ∧
  ∀ H' : Hp, Same H0 H' → CoAt cs H' c la sa (co.put n b e k.toNat) → Q .non H'
abbrev sPutLine : Stmt := inClass (top 19) 1
theorem scPutLine : FnScope ["self", "number", "begin", "behind", "is_continued", "line"] ["self", "number", "begin", "behind", "is_continued"] (defScope sPutLine) := ⟨rfl, rfl, rfl, by decide +kernel, rfl, by decide +kernel, by decide +kernel⟩
theorem ok_put_line (TC : ClsF K cs.C nmC) (L : LaidM K cs.C "put_line" "Columns.put_line" sPutLine) (D1 : MakeOk P w K mg base 1 cs.L "Line" ["self", "column", "row", "number", "begin", "behind", "is_continued"] (spLInit cs)) :
    MethOk P w K mg base 3 cs.C "put_line" ["self", "number", "begin", "behind", "is_continued"] (spPutLine cs) := by
  obtain ⟨f, fd, M, F⟩ := L.ex
  obtain ⟨f1, fd1, M1, g1, b1, G1⟩ := D1.ex
  refine ⟨f, fd, M, F.binds fun _ _ _ _ _ _ us hl => match us, hl with | [_, _, _, _, _], _ => rfl, ?_⟩
  refine F.ok scPutLine (fun vs H Q E h => by obtain ⟨_, _, _, _, _, _, _, _, _, rfl, _⟩ := h; rfl) (fun cdv A outer s H vs Q E hr h => ⟨_,
    pss_cons (ps_set (i := 5) scPutLine.nd rfl (.inl rfl) (pe_make M1 G1 hr rfl g1 b1 .nil pass0 (pa_cons (pe_fld (pv 0) rfl) (pa_cons (pe_fld (pv 0) rfl) (pa_cons (pv 1) (pa_cons (pv 2) (pa_cons (pv 3) (pa_cons (pv 4) pa_nil))))))))
    (pss_cons (ps_expr (pe_bm PySem.F.plainAttrs_list PySem.F.slot_list_append PySem.F.type_list_append mt_append (pe_fld (pv 0) rfl) (pa_cons (pv 5) pa_nil)))
    (pss_one (ps_fldaug (pv 0) pe_int in_add))), ?_⟩)
  obtain ⟨H0, c, la, sa, co, n, b, e, k, rfl, s0, nc, nl, ⟨⟨dx, h1⟩, h2⟩, hlen, q⟩ := h
  refine ⟨_, rfl, c, cs.C, dx, _, _, rfl, h1, TC.cl, TC.na 2 _ rfl, lk_zip ndC (i := 2) rfl rfl, _, rfl, c, cs.C, dx, _, _, rfl, h1, TC.cl, TC.na 3 _ rfl, lk_zip ndC (i := 3) rfl rfl, _, rfl, _, rfl, _, rfl, _, rfl, fun x dl nx nd ne => ?_⟩
  have snew : Same H (upd (upd H dl (.own x)) x (.ins cs.L dl [])) := fun b u e => by
    rw [upd_ne (ne_of_none e nx), upd_ne (ne_of_none e nd)]
    exact e
  refine ⟨H, x, dl, co.column, co.row, n, b, e, k, rfl, snew, nx, upd_same, fun H1 s1 hL => ⟨rfl, ?_⟩⟩
  obtain ⟨xs, hx, hxl⟩ := (h2.same s1).lst
  refine ⟨_, rfl, c, cs.C, dx, _, _, rfl, s1 _ _ h1, TC.cl, TC.na 1 _ rfl, lk_zip ndC (i := 1) rfl rfl, .inl ⟨rfl, _, SqL.of hx⟩, _, rfl, la, xs, _, rfl, rfl, hx, Nat.lt_of_le_of_lt (show xs.length ≤ 1000000 by omega) (by decide), ?_⟩
  have hp := (h2.same s1).push hx hL
  have hcl : c ≠ la := ne_of (s1 _ _ h1) hx (fun z => HO.noConfusion z)
  have s2 : Same H0 (upd H1 la (.lst (xs ++ [.ref x]))) := Same.set (s0.trans s1) nl
  have h3 : (upd H1 la (.lst (xs ++ [.ref x]))) c = some (.ins cs.C dx (nmC.zip [.ref sa, .ref la, nV co.column, nV co.row, nV co.main, nV co.held])) := (upd_ne hcl).trans (s1 _ _ h1)
  refine ⟨_, rfl, c, cs.C, dx, _, _, rfl, h3, TC.cl, TC.na 3 _ rfl, lk_zip ndC (i := 3) rfl rfl, _, _, rfl, rfl, fld_aug (K := K) 3 ndC rfl (by show 3 < 6; decide) (by decide) s2 nc h3 fun H' s3 k3 x3 => ?_⟩
  exact q H' s3 ⟨⟨dx, x3⟩, CoAt.field hp h3 rfl k3⟩
/-! ### Columns.begin_main -/
def spBeginMain (cs : Ads) : Sp := fun vs H Q _ => ∃ (H0 : Hp) (c la sa l : Addr) (co : Co) (s : Setter) (ps : List Pr) (i : Nat) (p : Pr), vs = [.ref c, .ref l, nV i] ∧ Same H0 H ∧ H0 c = none ∧ H0 la = none ∧ CoAt cs H c la sa co ∧ SheetAt cs H0 sa s ∧ ParsAt cs H0 l s ps ∧ ps[i]? = some p ∧
  (i = 0 → co.row = 0) ∧ p.par.lead ≤ p.par.text.length ∧ ¬ s.house.width < s.wide s.cut ∧ s.cut.length ≤ 300000 ∧ ∀ H' : Hp, Same H0 H' → CoAt cs H' c la sa (co.begin s ps i p) → Q .non H'
abbrev sBeginMain : Stmt := inClass (top 19) 2
theorem scBeginMain : FnScope ["self", "paragraphs", "number", "main"] ["self", "paragraphs", "number"] (defScope sBeginMain) := ⟨rfl, rfl, rfl, by decide +kernel, rfl, by decide +kernel, by decide +kernel⟩
theorem ok_begin_main (T : Txt mg) (TS : ClsF K cs.S nmS) (TP : ClsF K cs.P nmP) (TC : ClsF K cs.C nmC) (L : LaidM K cs.C "begin_main" "Columns.begin_main" sBeginMain) (D1 : DefOk P w K mg base 1 "fitting" ["measures", "begin", "end", "room"] spFitting)
    (D2 : MethOk P w K mg base 4 cs.S "lead_room" ["self"] (spLeadRoom cs)) : MethOk P w K mg base 5 cs.C "begin_main" ["self", "paragraphs", "number"] (spBeginMain cs) := by
  obtain ⟨f, fd, M, F⟩ := L.ex
  obtain ⟨f1, fd1, g1, kp1, b1, G1⟩ := D1.ex
  obtain ⟨f2, fd2, M2, b2, G2⟩ := D2.ex
  refine ⟨f, fd, M, F.binds fun _ _ _ _ _ _ us hl => match us, hl with | [_, _, _], _ => rfl, ?_⟩
  refine F.ok scBeginMain (fun vs H Q E h => by obtain ⟨_, _, _, _, _, _, _, _, _, _, rfl, _⟩ := h; rfl) (fun cdv A outer s H vs Q E hr h => ⟨_,
    pss_cons (ps_set (i := 3) scBeginMain.nd rfl (.inl rfl) (pe_ix ix_list (pv 1) (pv 2) (fun _ _ => rfl)))
    (pss_cons (ps_if (PW.pt (pw_and (pt_cmp (pc_neI (pe_fld (pv 0) rfl) pe_int)) (pw_and1 (pt_cmp (pc_neI (pe_fld (pv 3) rfl) (pe_fld (pe_ix ix_list (pv 1) (pe_op op_sub (pv 2) pe_int) (fun _ _ => rfl)) rfl))))))
      (pss_one (ps_fldaug (pv 0) (pe_fld (pe_fld (pv 0) rfl) rfl) in_add)) pss_nil)
    (pss_cons (ps_fld (pv 0) (pv 2) rfl)
    (pss_one (ps_fld (pv 0) (pe_call G1 (hr.mono (by decide)) rfl g1 kp1 b1 .nil pass0 (pa_cons (pe_fld (pv 3) rfl) (pa_cons pe_int (pa_cons (pe_fld (pv 3) rfl) (pa_cons (pe_meth0 (pe_fld (pv 0) rfl) TS.cl M2 G2 hr b2 .nil pass0) pa_nil))))) rfl)))), ?_⟩)
  obtain ⟨H0, c, la, sa, l, co, s, ps, i, p, rfl, s0, nc, nl, ⟨⟨dx, h1⟩, h2⟩, hS, hP, hp, hrow, hlead, hwide, hcut, q⟩ := h
  obtain ⟨xs, a, hx, hxl, hxa, hpa⟩ := (hP.same s0).get hp
  obtain ⟨da, ta, ma, pa, a1, a2, a3, a4⟩ := id hpa
  refine ⟨_, rfl, _, rfl, l, xs, _, .ref a, rfl, rfl, SqL.of hx, at_nat hxa rfl, ?_⟩
  -- what follows the if
  have rest : ∀ (H' : Hp) (row : Nat), Same H0 H' → CoAt cs H' c la sa { co with row := row } → row = (if co.row ≠ 0 ∧ p.par.group ≠ prevGroup ps i then co.row + s.house.gap else co.row) →
      tSeq (sFld K (tVar 0) (tVar 2) "main") (sFld K (tVar 0) (tCall spFitting [] E0 (tCons (tFld K (tVar 3) "measures") (tCons (tC (.int 0)) (tCons (tFld K (tVar 3) "lead") (tCons (tMeth cs.S "lead_room" (spLeadRoom cs) [] E0 (tFld K (tVar 0) "sheet") tNil) tNil))))) "held")
        { nx := fun _ H' => Q .non H', rt := Q } [some (.ref c), some (.ref l), some (nV i), some (.ref a)] H' := by
    rintro H' row s1 ⟨⟨d1, c1⟩, c2⟩ hrow'
    refine ⟨_, rfl, _, rfl, fld_set 4 TC ndC (vals := [.ref sa, .ref la, nV co.column, nV row, nV co.main, nV co.held]) rfl (by show 4 < 6; decide) (by decide) s1 nc c1 fun H2 s2 k2 x2 => ?_⟩
    have l2 := CoAt.field c2 c1 rfl k2
    obtain ⟨da', ta', ma', pa', b1', b2', b3', b4'⟩ := ((hP.get hp).choose_spec.choose_spec.2.2.2).same (Same.refl _)
    obtain ⟨ys, a', hy, hyl, hya, hpa'⟩ := (hP.same s2).get hp
    have haa : a' = a := by
      have e1 := hx
      have e2 := hy
      obtain ⟨zs, b, hz, _, hzb, _⟩ := hP.get hp
      rw [s0 _ _ hz] at hx
      rw [s2 _ _ hz] at hy
      have e3 := HO.lst.inj (Option.some.inj hx)
      have e4 := HO.lst.inj (Option.some.inj hy)
      rw [← e3, hzb] at hxa
      rw [← e4, hzb] at hya
      exact (V.ref.inj (Option.some.inj hya)).symm.trans (V.ref.inj (Option.some.inj hxa))
    subst haa
    obtain ⟨da, ta, ma, pa, a1, a2, a3, a4⟩ := hpa'
    obtain ⟨ds, ia, ra, wa, ca, e1, _⟩ := id (hS.same s2)
    refine ⟨_, rfl, a', cs.P, da, _, _, rfl, a1, TP.cl, TP.na 4 _ rfl, lk_zip ndP (i := 4) rfl rfl, _, rfl, a', cs.P, da, _, _, rfl, a1, TP.cl, TP.na 2 _ rfl, lk_zip ndP (i := 2) rfl rfl,
      _, rfl, c, cs.C, d1, _, _, rfl, x2, TC.cl, TC.na 0 _ rfl, lk_zip ndC (i := 0) rfl rfl, sa, ds, _, rfl, e1, lk_none (by decide +kernel), sa, s, rfl, hS.same s2, hcut, fun H3 s3 => ?_⟩
    have er : (s.house.width : Int) - (s.wide s.cut : Int) = ((roomLeft s : Nat) : Int) := by
      unfold roomLeft
      omega
    refine ⟨ma, msOf s p.par.text, 0, p.par.lead, roomLeft s, by rw [er]; rfl, a3.same s3, Nat.zero_le _, by rw [msOf_length]; exact hlead, ?_⟩
    refine ⟨_, rfl, fld_set 5 TC ndC (vals := [.ref sa, .ref la, nV co.column, nV row, nV i, nV co.held]) rfl (by show 5 < 6; decide) (by decide) (s2.trans s3) nc (s3 _ _ x2) fun H4 s4 k4 x4 => ?_⟩
    refine q H4 s4 ⟨⟨d1, ?_⟩, CoAt.field (l2.same s3) (s3 _ _ x2) rfl k4⟩
    rw [x4, hrow']
    rfl
  refine ⟨_, rfl, c, cs.C, dx, _, _, rfl, h1, TC.cl, TC.na 3 _ rfl, lk_zip ndC (i := 3) rfl rfl, _, _, rfl, rfl, _, rfl, ?_⟩
  refine ite2 (fun c1 => ?_) (fun c1 => ?_)
  · have c1' := nb_yes c1
    have hi : i ≠ 0 := fun z => c1' (by have := hrow z; omega)
    have hil := (List.getElem?_eq_some_iff.mp hp).1
    have hq : ps[i - 1]? = some (ps[i - 1]'(by omega)) := List.getElem?_eq_getElem (by omega)
    obtain ⟨ys, b, hy, hyl, hyb, db, tb, mb, pb, k1, k2, k3, k4⟩ := (hP.same s0).get hq
    have hpg : prevGroup ps i = (ps[i - 1]'(by omega)).par.group := by
      unfold prevGroup
      rw [hq]
    refine ⟨_, rfl, a, cs.P, da, _, _, rfl, a1, TP.cl, TP.na 1 _ rfl, lk_zip ndP (i := 1) rfl rfl, _, rfl, _, rfl, _, _, rfl, rfl, l, ys, _, .ref b, rfl, rfl, SqL.of hy, at_nat hyb (by first | omega | (dsimp only; omega)), b, cs.P, db, _, _, rfl, k1, TP.cl, TP.na 1 _ rfl, lk_zip ndP (i := 1) rfl rfl, _, _, rfl, rfl, _, rfl, ?_⟩
    refine ite2 (fun c2 => ?_) (fun c2 => ?_)
    · have c2' := nb_yes c2
      obtain ⟨ds, ia, ra, wa, ca, e1, _⟩ := id (hS.same s0)
      refine ⟨_, rfl, c, cs.C, dx, _, _, rfl, h1, TC.cl, TC.na 3 _ rfl, lk_zip ndC (i := 3) rfl rfl, _, rfl, c, cs.C, dx, _, _, rfl, h1, TC.cl, TC.na 0 _ rfl, lk_zip ndC (i := 0) rfl rfl, sa, cs.S, ds, _, _, rfl, e1, TS.cl, TS.na 4 _ rfl, lk_zip ndS (i := 4) rfl rfl, _, _, rfl, rfl,
        fld_aug (K := K) 3 ndC rfl (by show 3 < 6; decide) (by decide) s0 nc h1 fun H' s3 k3 x3 => ?_⟩
      refine rest H' (co.row + s.house.gap) s3 ⟨⟨dx, x3⟩, CoAt.field h2 h1 rfl k3⟩ ?_
      rw [if_pos ⟨by omega, by rw [hpg]; omega⟩]
    · have c2' := nb_no c2
      refine rest H co.row s0 ⟨⟨dx, h1⟩, h2⟩ ?_
      rw [if_neg (fun z => z.2 (by rw [hpg]; omega))]
  · have c1' := nb_no c1
    refine iteF ?_
    refine rest H co.row s0 ⟨⟨dx, h1⟩, h2⟩ ?_
    rw [if_neg (fun z => z.1 (by omega))]
end
end Hc

namespace Hc
open PySem PySem.Spec PyProof.Rows L2
open IhColumn (Width Setter Par Line)
theorem room_len (s : Setter) (c : Co) (n : Nat) (o : Bool) : (c.room s n o).lines.length ≤ c.lines.length + 1 := by
  unfold Co.room
  split
  · omega
  · split
    · show c.lines.length ≤ _
      omega
    · show (c.lines ++ [_]).length ≤ _
      rw [List.length_append, List.length_singleton]
      omega
theorem line_len (s : Setter) (i n : Nat) (m : Bool) (c : Co) (o : Nat) (l : Nat × Nat) : (c.line s i n m o l).lines.length ≤ c.lines.length + 2 := by
  unfold Co.line
  show ((Co.room s c _ _).lines ++ [_]).length ≤ _
  rw [List.length_append, List.length_singleton]
  have := room_len s c (if o = 0 then n else 1) (if o = 0 then m else false)
  omega
theorem start_len (s : Setter) (ps : List Pr) (c : Co) (i : Nat) (p : Pr) : (c.start s ps i p).lines.length = c.lines.length := by
  unfold Co.start
  split <;> rfl
theorem upTo_len (s : Setter) (i n : Nat) (m : Bool) (c : Co) (l : List (Nat × Nat)) : ∀ k, k ≤ l.length → (upTo (Co.line s i n m) c l k).lines.length ≤ c.lines.length + 2 * k :=
  upTo_ind (fun k (d : Co) => d.lines.length ≤ c.lines.length + 2 * k) (by omega) fun k x d _ h => by
    have := line_len s i n m d k x
    omega
theorem walk_len {J : It} {n m : Nat} {G : Hp → Prop} {Y : Nat → Hp → V → Hp → Prop} (w : Walk J n G Y) (h : n = m) : Walk J m G Y := h ▸ w
section
variable {P : Program} {w : World} {K : PySem.W.Frag} {mg : Str → Option Value} {base : Heap} {cs : Ads}
/-! ### Columns.make_room -/
def spMakeRoom (cs : Ads) : Sp := fun vs H Q _ => ∃ (H0 : Hp) (c la sa : Addr) (co : Co) (s : Setter) (n : Nat) (o : Bool), vs = [.ref c, nV n, .bl o] ∧ Same H0 H ∧ H0 c = none ∧ H0 la = none ∧ CoAt cs H c la sa co ∧ SheetAt cs H0 sa s ∧ co.lines.length < 1000000 ∧
  ∀ H' : Hp, Same H0 H' → CoAt cs H' c la sa (co.room s n o) → Q .non H'
abbrev sMakeRoom : Stmt := inClass (top 19) 3
theorem scMakeRoom : FnScope ["self", "needs", "begins_main"] ["self", "needs", "begins_main"] (defScope sMakeRoom) := ⟨rfl, rfl, rfl, by decide +kernel, rfl, by decide +kernel, by decide +kernel⟩
theorem ok_make_room (TS : ClsF K cs.S nmS) (TC : ClsF K cs.C nmC) (L : LaidM K cs.C "make_room" "Columns.make_room" sMakeRoom) (D1 : MethOk P w K mg base 3 cs.C "put_line" ["self", "number", "begin", "behind", "is_continued"] (spPutLine cs)) :
    MethOk P w K mg base 4 cs.C "make_room" ["self", "needs", "begins_main"] (spMakeRoom cs) := by
  obtain ⟨f, fd, M, F⟩ := L.ex
  obtain ⟨f1, fd1, M1, b1, G1⟩ := D1.ex
  refine ⟨f, fd, M, F.binds fun _ _ _ _ _ _ us hl => match us, hl with | [_, _, _], _ => rfl, ?_⟩
  refine F.ok scMakeRoom (fun vs H Q E h => by obtain ⟨_, _, _, _, _, _, _, _, rfl, _⟩ := h; rfl) (fun cdv A outer s H vs Q E hr h => ⟨_,
    pss_cons (ps_if (pt_cmpR op_le (pe_op op_add (pe_fld (pv 0) rfl) (pv 1)) (pe_fld (pe_fld (pv 0) rfl) rfl) (nomark _)) (pss_one ps_retN) pss_nil)
    (pss_cons (ps_fldaug (pv 0) pe_int in_add)
    (pss_cons (ps_fld (pv 0) pe_int rfl)
    (pss_one (ps_if (pt_not (pt_val (pv 2))) (pss_one (ps_expr (pe_meth (pv 0) TC.cl M1 G1 hr b1 .nil pass0 (pa_cons (pe_fld (pv 0) rfl) (pa_cons pe_int (pa_cons (pe_fld (pv 0) rfl) (pa_cons pe_bl pa_nil))))))) pss_nil)))), ?_⟩)
  obtain ⟨H0, c, la, sa, co, s, n, o, rfl, s0, nc, nl, ⟨⟨dx, h1⟩, h2⟩, hS, hlen, q⟩ := h
  obtain ⟨ds, ia, ra, wa, ca, e1, _⟩ := id (hS.same s0)
  refine ⟨_, rfl, c, cs.C, dx, _, _, rfl, h1, TC.cl, TC.na 3 _ rfl, lk_zip ndC (i := 3) rfl rfl, _, rfl, _, _, rfl, rfl, _, rfl, c, cs.C, dx, _, _, rfl, h1, TC.cl, TC.na 0 _ rfl, lk_zip ndC (i := 0) rfl rfl, sa, cs.S, ds, _, _, rfl, e1, TS.cl, TS.na 1 _ rfl, lk_zip ndS (i := 1) rfl rfl, _, _, rfl, rfl, _, rfl, ?_⟩
  unfold Co.room at q
  refine ite2 (fun c1 => ?_) (fun c1 => ?_)
  · have c1' := of_decide_eq_true c1
    rw [if_pos (by omega)] at q
    exact q H s0 ⟨⟨dx, h1⟩, h2⟩
  · have c1' := of_decide_eq_false (Bool.eq_false_iff.mpr c1)
    rw [if_neg (by omega)] at q
    refine ⟨_, rfl, c, cs.C, dx, _, _, rfl, h1, TC.cl, TC.na 2 _ rfl, lk_zip ndC (i := 2) rfl rfl, _, _, rfl, rfl, fld_aug (K := K) 2 ndC rfl (by show 2 < 6; decide) (by decide) s0 nc h1 fun H1 s1 k1 x1 => ?_⟩
    have l1 := CoAt.field h2 h1 rfl k1
    refine ⟨_, rfl, fld_set 3 TC ndC (vals := [.ref sa, .ref la, nV (co.column + 1), nV co.row, nV co.main, nV co.held]) rfl (by show 3 < 6; decide) (by decide) s1 nc x1 fun H2 s2 k2 x2 => ?_⟩
    have l2 := CoAt.field l1 x1 rfl k2
    refine ⟨_, rfl, _, rfl, ?_⟩
    cases o with
    | true =>
      refine iteF ?_
      rw [if_pos rfl] at q
      exact q H2 s2 ⟨⟨dx, x2⟩, l2⟩
    | false =>
      refine iteT ?_
      rw [if_neg (by decide)] at q
      refine ⟨_, rfl, c, dx, _, rfl, x2, lk_none (by decide +kernel), _, rfl, c, cs.C, dx, _, _, rfl, x2, TC.cl, TC.na 4 _ rfl, lk_zip ndC (i := 4) rfl rfl, _, rfl, c, cs.C, dx, _, _, rfl, x2, TC.cl, TC.na 5 _ rfl, lk_zip ndC (i := 5) rfl rfl,
        H0, c, la, sa, { co with column := co.column + 1, row := 0 }, co.main, 0, co.held, true, rfl, s2, nc, nl, ⟨⟨dx, x2⟩, l2⟩, hlen, fun H3 s3 hC => ?_⟩
      exact q H3 s3 hC
/-! ### Columns.put_paragraph -/
def spPutPar (cs : Ads) : Sp := fun vs H Q _ => ∃ (H0 : Hp) (c la sa l : Addr) (co : Co) (s : Setter) (ps : List Pr) (i : Nat) (p : Pr), vs = [.ref c, .ref l, nV i] ∧ Same H0 H ∧ H0 c = none ∧ H0 la = none ∧ CoAt cs H c la sa co ∧ SheetAt cs H0 sa s ∧ ParsAt cs H0 l s ps ∧ ps[i]? = some p ∧
  (i = 0 → co.row = 0) ∧ p.par.lead ≤ p.par.text.length ∧ ¬ s.house.width < s.wide s.cut ∧ s.cut.length ≤ 300000 ∧ co.lines.length + 2 * p.places.length ≤ 900000 ∧ ∀ H' : Hp, Same H0 H' → CoAt cs H' c la sa (co.par s ps i p) → Q .non H'
abbrev sPutPar : Stmt := inClass (top 19) 4
theorem scPutPar : FnScope ["self", "paragraphs", "number", "is_main", "order", "place"] ["self", "paragraphs", "number"] (defScope sPutPar) := ⟨rfl, rfl, rfl, by decide +kernel, rfl, by decide +kernel, by decide +kernel⟩
theorem ok_put_par (T : Txt mg) (TP : ClsF K cs.P nmP) (TC : ClsF K cs.C nmC) (L : LaidM K cs.C "put_paragraph" "Columns.put_paragraph" sPutPar) (D1 : DefOk P w K mg base 1 "first_line_needs" ["paragraphs", "number"] (spNeeds cs))
    (D2 : MethOk P w K mg base 5 cs.C "begin_main" ["self", "paragraphs", "number"] (spBeginMain cs)) (D3 : MethOk P w K mg base 4 cs.C "make_room" ["self", "needs", "begins_main"] (spMakeRoom cs))
    (D4 : MethOk P w K mg base 3 cs.C "put_line" ["self", "number", "begin", "behind", "is_continued"] (spPutLine cs)) : MethOk P w K mg base 6 cs.C "put_paragraph" ["self", "paragraphs", "number"] (spPutPar cs) := by
  obtain ⟨f, fd, M, F⟩ := L.ex
  obtain ⟨f1, fd1, g1, kp1, b1, G1⟩ := D1.ex
  obtain ⟨f2, fd2, M2, b2, G2⟩ := D2.ex
  obtain ⟨f3, fd3, M3, b3, G3⟩ := D3.ex
  obtain ⟨f4, fd4, M4, b4, G4⟩ := D4.ex
  refine ⟨f, fd, M, F.binds fun _ _ _ _ _ _ us hl => match us, hl with | [_, _, _], _ => rfl, ?_⟩
  refine F.ok scPutPar (fun vs H Q E h => by obtain ⟨_, _, _, _, _, _, _, _, _, _, rfl, _⟩ := h; rfl) (fun cdv A outer s H vs Q E hr h => ⟨_,
    pss_cons (ps_set (i := 3) scPutPar.nd rfl (.inl rfl) (pe_cmp (pc_eqI (pe_fld (pe_ix ix_list (pv 1) (pv 2) (fun _ _ => rfl)) rfl) pe_int) rfl))
    (pss_cons (ps_if (pt_val (pv 3)) (pss_one (ps_expr (pe_meth (pv 0) TC.cl M2 G2 hr b2 .nil pass0 (pa_cons (pv 1) (pa_cons (pv 2) pa_nil))))) pss_nil)
    (pss_one (ps_for PassesOwn.never rfl (pi_enum (by rfl) T.enumerate (pa_cons (pe_fld (pe_ix ix_list (pv 1) (pv 2) (fun _ _ => rfl)) rfl) pa_nil)) (pg_tup rfl (pgs_cons (pg_name (i := 4) scPutPar.nd rfl (.inl rfl)) (pgs_cons (pg_name (i := 5) scPutPar.nd rfl (.inl rfl)) pgs_nil)))
      (pss_cons (ps_if (pt_cmp (pc_eqI (pv 4) pe_int))
        (pss_one (ps_expr (pe_meth (pv 0) TC.cl M3 G3 (hr.mono (by decide)) b3 .nil pass0 (pa_cons (pe_call G1 (hr.mono (by decide)) rfl g1 kp1 b1 .nil pass0 (pa_cons (pv 1) (pa_cons (pv 2) pa_nil))) (pa_cons (pv 3) pa_nil)))))
        (pss_one (ps_expr (pe_meth (pv 0) TC.cl M3 G3 (hr.mono (by decide)) b3 .nil pass0 (pa_cons pe_int (pa_cons pe_bl pa_nil))))))
      (pss_one (ps_expr (pe_meth (pv 0) TC.cl M4 G4 (hr.mono (by decide)) b4 .nil pass0 (pa_cons (pv 2) (pa_cons (pe_ix ix_tup (pv 5) pe_int (fun _ _ => rfl)) (pa_cons (pe_ix ix_tup (pv 5) pe_int (fun _ _ => rfl)) (pa_cons pe_bl pa_nil))))))))))), ?_⟩)
  obtain ⟨H0, c, la, sa, l, co, s, ps, i, p, rfl, s0, nc, nl, hC, hS, hP, hp, hrow, hlead, hwide, hcut, hlen, q⟩ := h
  obtain ⟨xs, a, hx, hxl, hxa, da, ta, ma, pa, a1, a2, a3, a4⟩ := hP.get hp
  refine ⟨_, rfl, _, rfl, l, xs, _, .ref a, rfl, rfl, SqL.of (s0 _ _ hx), at_nat hxa rfl, a, cs.P, da, _, _, rfl, s0 _ _ a1, TP.cl, TP.na 0 _ rfl, lk_zip ndP (i := 0) rfl rfl, _, _, rfl, rfl, ?_⟩
  -- the lines
  have rest : ∀ H' : Hp, Same H0 H' → CoAt cs H' c la sa (co.start s ps i p) →
      tFor (iEnum K (tCons (tFld K (tOp (rIxL K) (tVar 1) (tVar 2)) "places") tNil)) (gTup K 2 (gCons (gName 4) (gCons (gName 5) gNil)))
        (tSeq (tIfS (tB (tEqI (tVar 4) (tC (.int 0))))
          (tDrop (tMeth cs.C "make_room" (spMakeRoom cs) [] E0 (tVar 0) (tCons (tCall (spNeeds cs) [] E0 (tCons (tVar 1) (tCons (tVar 2) tNil))) (tCons (tVar 3) tNil))))
          (tDrop (tMeth cs.C "make_room" (spMakeRoom cs) [] E0 (tVar 0) (tCons (tC (.int 1)) (tCons (tC (.bl false)) tNil)))))
          (tDrop (tMeth cs.C "put_line" (spPutLine cs) [] E0 (tVar 0) (tCons (tVar 2) (tCons (tOp (rIxT K) (tVar 5) (tC (.int 0))) (tCons (tOp (rIxT K) (tVar 5) (tC (.int 1))) (tCons (tC (.bl false)) tNil)))))))
        { nx := fun _ H' => Q .non H', rt := Q } [some (.ref c), some (.ref l), some (nV i), some (.bl (decide (p.par.depth = 1))), none, none] H' := by
    intro H' s1 hC1
    have hpl : MsAt H0 pa p.places := a4
    obtain ⟨ts, t1, t2, t3⟩ := hpl
    refine ⟨_, rfl, _, rfl, l, xs, _, .ref a, rfl, rfl, SqL.of (s1 _ _ hx), at_nat hxa rfl, a, cs.P, da, _, _, rfl, s1 _ _ a1, TP.cl, TP.na 5 _ rfl, lk_zip ndP (i := 5) rfl rfl, pa, _, rfl, SqL.of (s1 _ _ t1), ?_⟩
    refine for_it (n := p.places.length) (G := fun H => SqL K H pa (ts.map V.ref)) (walk_len (walk_enum (K := K) (a := pa) (xs := ts.map V.ref)) (by rw [List.length_map]; exact t2))
      (fun j σ H'' => Same H0 H'' ∧ CoAt cs H'' c la sa (upTo (Co.line s i (needsOf ps i p) (decide (p.par.depth = 1))) (co.start s ps i p) p.places j) ∧ ∃ v4 v5 : Option V, σ = [some (.ref c), some (.ref l), some (nV i), some (.bl (decide (p.par.depth = 1))), v4, v5])
      ⟨s1, hC1, none, none, rfl⟩ (fun j σ H'' _ h => SqL.of (h.1 _ _ t1)) ?_ ?_
    · rintro j x σ H1 H2 hj ⟨s2, hC2, v4, v5, rfl⟩ ⟨Tt, y0, y1, rfl, hTt, rfl, hy0, hy1⟩
      have hy0' : y0 = .int ((j : Nat) : Int) := (Option.some.inj hy0).symm
      subst hy0'
      obtain ⟨t, ht, rfl⟩ := get_map hy1
      have s3 : Same H0 (upd H1 Tt (.tup [.int ((j : Nat) : Int), .ref t])) := Same.new s2 hTt
      have hC3 := hC2.same (same_new (o := .tup [.int ((j : Nat) : Int), .ref t]) hTt)
      refine ⟨Tt, _, rfl, SqT.of upd_same, rfl, _, _, rfl, _, _, rfl, rfl, ?_⟩
      have htt := t3 j t ht
      have hpj : p.places[j]? = some p.places[j] := List.getElem?_eq_getElem hj
      have ewd : wd p.places j = p.places[j].1 := by unfold wd; rw [List.getD_eq_getElem?_getD, hpj]; rfl
      have ekd : kd p.places j = p.places[j].2 := by unfold kd; rw [List.getD_eq_getElem?_getD, hpj]; rfl
      rw [ewd, ekd] at htt
      have hlen2 := upTo_len s i (needsOf ps i p) (decide (p.par.depth = 1)) (co.start s ps i p) p.places j (by omega)
      rw [start_len] at hlen2
      generalize hcoj : upTo (Co.line s i (needsOf ps i p) (decide (p.par.depth = 1))) (co.start s ps i p) p.places j = coj at hC3 hlen2
      generalize upd H1 Tt (.tup [.int ((j : Nat) : Int), .ref t]) = H3 at s3 hC3 ⊢
      -- behind make_room
      have put : ∀ (H4 : Hp) (n : Nat) (o : Bool), Same H0 H4 → CoAt cs H4 c la sa (coj.room s n o) → n = (if j = 0 then needsOf ps i p else 1) → o = (if j = 0 then decide (p.par.depth = 1) else false) →
          tDrop (tMeth cs.C "put_line" (spPutLine cs) [] E0 (tVar 0) (tCons (tVar 2) (tCons (tOp (rIxT K) (tVar 5) (tC (.int 0))) (tCons (tOp (rIxT K) (tVar 5) (tC (.int 1))) (tCons (tC (.bl false)) tNil)))))
            { nx := fun σ H'' => Same H0 H'' ∧ CoAt cs H'' c la sa (upTo (Co.line s i (needsOf ps i p) (decide (p.par.depth = 1))) (co.start s ps i p) p.places (j + 1)) ∧ ∃ v4 v5 : Option V, σ = [some (.ref c), some (.ref l), some (nV i), some (.bl (decide (p.par.depth = 1))), v4, v5], rt := Q }
            [some (.ref c), some (.ref l), some (nV i), some (.bl (decide (p.par.depth = 1))), some (.int ((j : Nat) : Int)), some (.ref t)] H4 := by
        rintro H4 n o s4 hC4 rfl rfl
        obtain ⟨⟨dx, c1⟩, c2⟩ := id hC4
        have hroom := room_len s coj (if j = 0 then needsOf ps i p else 1) (if j = 0 then decide (p.par.depth = 1) else false)
        refine ⟨_, rfl, c, dx, _, rfl, c1, lk_none (by decide +kernel), _, rfl, _, rfl, t, _, _, nV p.places[j].1, rfl, rfl, SqT.of (s4 _ _ htt), rfl, _, rfl, t, _, _, nV p.places[j].2, rfl, rfl, SqT.of (s4 _ _ htt), rfl, ?_⟩
        refine ⟨H0, c, la, sa, _, i, p.places[j].1, p.places[j].2, false, rfl, s4, nc, nl, hC4, by omega, fun H5 s5 hC5 => ?_⟩
        refine ⟨s5, ?_, _, _, rfl⟩
        rw [upTo_some hpj, hcoj]
        exact hC5
      obtain ⟨⟨dx, c1⟩, c2⟩ := id hC3
      refine ⟨_, rfl, _, _, rfl, rfl, _, rfl, ?_⟩
      refine ite2 (fun cz => ?_) (fun cz => ?_)
      · have cz' := of_decide_eq_true cz
        have hj0 : j = 0 := by omega
        refine ⟨_, rfl, c, dx, _, rfl, c1, lk_none (by decide +kernel), _, rfl, _, rfl, l, s, ps, i, p, rfl, hP.same s3, hp, ?_⟩
        refine ⟨_, rfl, H0, c, la, sa, coj, s, needsOf ps i p, decide (p.par.depth = 1), rfl, s3, nc, nl, hC3, hS, by omega, fun H4 s4 hC4 => ?_⟩
        exact put H4 _ _ s4 hC4 (by rw [if_pos hj0]) (by rw [if_pos hj0])
      · have cz' := of_decide_eq_false (Bool.eq_false_iff.mpr cz)
        have hj0 : ¬ j = 0 := by omega
        refine ⟨_, rfl, c, dx, _, rfl, c1, lk_none (by decide +kernel), H0, c, la, sa, coj, s, 1, false, rfl, s3, nc, nl, hC3, hS, by omega, fun H4 s4 hC4 => ?_⟩
        exact put H4 _ _ s4 hC4 (by rw [if_neg hj0]) (by rw [if_neg hj0])
    · rintro σ H'' ⟨s2, hC2, _⟩
      exact q H'' s2 hC2
  have ed : (decide ((p.par.depth : Int) = 1)) = decide (p.par.depth = 1) := dec_int p.par.depth 1
  refine ⟨_, rfl, _, rfl, ?_⟩
  refine ite2 (fun c1 => ?_) (fun c1 => ?_)
  · have c1' := of_decide_eq_true c1
    have hd : p.par.depth = 1 := by omega
    obtain ⟨⟨dx, c1⟩, c2⟩ := id hC
    refine ⟨_, rfl, c, dx, _, rfl, c1, lk_none (by decide +kernel), _, rfl, _, rfl, H0, c, la, sa, l, co, s, ps, i, p, rfl, s0, nc, nl, hC, hS, hP, hp, hrow, hlead, hwide, hcut, fun H' s1 hC1 => ?_⟩
    have := rest H' s1 (by unfold Co.start; rw [if_pos hd]; exact hC1)
    rw [← ed] at this
    exact this
  · have c1' := of_decide_eq_false (Bool.eq_false_iff.mpr c1)
    have hd : ¬ p.par.depth = 1 := by omega
    have := rest H s0 (by unfold Co.start; rw [if_neg hd]; exact hC)
    rw [← ed] at this
    exact this
end
end Hc

namespace Hc
open PySem PySem.Spec PyProof.Rows L2
open IhColumn (Width Setter Par Line)
theorem textSum_take (ps : List Pr) (k : Nat) : textSum (ps.take k) ≤ textSum ps := by
  unfold textSum
  have : ps = ps.take k ++ ps.drop k := (List.take_append_drop k ps).symm
  conv => rhs; rw [this]
  rw [List.map_append, List.sum_append]
  omega
theorem textSum_succ {ps : List Pr} {k : Nat} {p : Pr} (h : ps[k]? = some p) : textSum (ps.take (k + 1)) = textSum (ps.take k) + p.par.text.length := by
  unfold textSum
  rw [List.take_succ, h]
  simp
theorem textSum_mem {ps : List Pr} {p : Pr} (h : p ∈ ps) : p.par.text.length ≤ textSum ps := by
  unfold textSum
  induction ps with
  | nil => simp at h
  | cons q ps ih =>
    rw [List.map_cons, List.sum_cons]
    rcases List.mem_cons.mp h with rfl | h
    · omega
    · have := ih h
      omega
section
variable {P : Program} {w : World} {K : PySem.W.Frag} {mg : Str → Option Value} {base : Heap} {cs : Ads}
/-! ### lines_in_columns -/
def spLines (cs : Ads) : Sp := fun vs H Q _ => ∃ (sa l : Addr) (s : Setter) (ps : List Pr), vs = [.ref sa, .ref l] ∧ SheetAt cs H sa s ∧ ParsAt cs H l s ps ∧ ps.length ≤ 100000 ∧ (∀ p ∈ ps, p.par.lead ≤ p.par.text.length) ∧ (∀ p ∈ ps, Apart p.par.text.length 0 p.places) ∧ textSum ps ≤ 262144 ∧
  ¬ s.house.width < s.wide s.cut ∧ s.cut.length ≤ 300000 ∧ ∀ (H' : Hp) (la : Addr), Same H H' → LinesAt cs H' la (colsM s ps).lines → Q (.ref la) H'
abbrev sLines : Stmt := top 20
theorem scLines : FnScope ["sheet", "paragraphs", "columns", "number"] ["sheet", "paragraphs"] (defScope sLines) := ⟨rfl, rfl, rfl, by decide +kernel, rfl, by decide +kernel, by decide +kernel⟩
theorem ok_lines (T : Txt mg) (TC : ClsF K cs.C nmC) (L : Laid K mg "lines_in_columns" sLines) (D1 : MakeOk P w K mg base 1 cs.C "Columns" ["self", "sheet"] (spCInit cs)) (D2 : MethOk P w K mg base 6 cs.C "put_paragraph" ["self", "paragraphs", "number"] (spPutPar cs)) :
    DefOk P w K mg base 7 "lines_in_columns" ["sheet", "paragraphs"] (spLines cs) := by
  obtain ⟨f, fd, g, F⟩ := L.ex
  obtain ⟨f1, fd1, M1, g1, b1, G1⟩ := D1.ex
  obtain ⟨f2, fd2, M2, b2, G2⟩ := D2.ex
  refine ⟨f, fd, g, F.kp, F.binds fun _ _ _ _ _ _ us hl => match us, hl with | [_, _], _ => rfl, ?_⟩
  refine F.ok scLines (fun vs H Q E h => by obtain ⟨_, _, _, _, rfl, _⟩ := h; rfl) (fun cdv A outer s H vs Q E hr h => ⟨_,
    pss_cons (ps_set (i := 2) scLines.nd rfl (.inl rfl) (pe_make M1 G1 (hr.mono (by decide)) rfl g1 b1 .nil pass0 (pa_cons (pv 0) pa_nil)))
    (pss_cons (ps_for PassesOwn.never rfl (pi_range1 rfl T.range (pa_cons (pe_callB call_len_seq (by rfl) T.len PySem.boot_len (pa_cons (pv 1) pa_nil)) pa_nil)) (pg_name (i := 3) scLines.nd rfl (.inl rfl))
      (pss_one (ps_expr (pe_meth (pv 2) TC.cl M2 G2 hr b2 .nil pass0 (pa_cons (pv 1) (pa_cons (pv 3) pa_nil))))))
    (pss_one (ps_ret (pe_fld (pv 2) rfl)))), ?_⟩)
  obtain ⟨sa, l, s, ps, rfl, hS, hP, hmany, hlead, hap, hsum, hwide, hcut, q⟩ := h
  refine ⟨_, rfl, fun c dx nc nd ne => ?_⟩
  have snew : Same H (upd (upd H dx (.own c)) c (.ins cs.C dx [])) := fun b u e => by
    rw [upd_ne (ne_of_none e nc), upd_ne (ne_of_none e nd)]
    exact e
  refine ⟨H, c, dx, sa, rfl, snew, nc, upd_same, fun H1 la s1 nl hC => ⟨rfl, ?_⟩⟩
  obtain ⟨xs, hx, hxl⟩ := hP.lst
  refine ⟨_, rfl, l, xs, rfl, .inl (SqL.of (s1 _ _ hx)), (ps.length : Int), by rw [hxl], by omega, by omega, ?_⟩
  refine for_range (lo := 0) (n := ((ps.length : Int)).toNat) (fun i σ H' => Same H H' ∧ CoAt cs H' c la sa (upTo (Co.par s ps) Co.new ps i) ∧ ∃ v : Option V, σ = [some (.ref sa), some (.ref l), some (.ref c), v])
    ⟨s1, hC, none, rfl⟩ ?_ ?_
  · rintro i σ H' hi ⟨s2, hC2, v, rfl⟩
    have hi' : i < ps.length := by omega
    have hp : ps[i]? = some ps[i] := List.getElem?_eq_getElem hi'
    obtain ⟨⟨d, c1⟩, c2⟩ := id hC2
    obtain ⟨hLI, _⟩ := upTo_LI (s := s) hap i (by omega)
    have hcnt := hLI.cnt
    have ht := textSum_take ps (i + 1)
    have ht2 : textSum (ps.take (i + 1)) = textSum (ps.take i) + ps[i].par.text.length := textSum_succ hp
    have hm := List.getElem_mem hi'
    have hpl := (hap _ hm).len
    have htm := textSum_mem hm
    refine ⟨_, rfl, c, d, _, rfl, c1, lk_none (by decide +kernel), _, rfl, _, rfl, H, c, la, sa, l, _, s, ps, i, ps[i], by rw [Int.zero_add]; rfl, s2, nc, nl, hC2, hS, hP, hp, fun z => by rw [z]; rfl, hlead _ hm, hwide, hcut, by omega, fun H3 s3 hC3 => ?_⟩
    refine ⟨s3, ?_, _, rfl⟩
    rw [upTo_some hp]
    exact hC3
  · rintro σ H' ⟨s2, hC2, v, rfl⟩
    rw [Int.toNat_natCast] at hC2
    obtain ⟨⟨d, c1⟩, c2⟩ := hC2
    exact ⟨_, rfl, c, cs.C, d, _, _, rfl, c1, TC.cl, TC.na 1 _ rfl, lk_zip ndC (i := 1) rfl rfl, q H' la s2 c2⟩
end
end Hc

namespace Hc
open PySem PySem.Spec PyProof.Rows L2
open IhColumn (Width Setter Par Line)
def beyondB (s : Setter) : Bool := decide (s.house.height < 3 ∨ 1000 < s.house.height ∨ 100 < s.house.gap ∨ 1000000 < s.house.width ∨ 256 < s.widths.length ∨ 64 < s.cut.length)
def wrongB (ws : List Width) : Bool := ws.any fun (x : Width) => decide (x.to_ < x.from_) || decide (2 < x.kind)
/-- a sheet's refusal -/
def sheetRef (s : Setter) : Option Int := if beyondB s = true then some (-1) else if wrongB s.widths = true then some (-2) else if s.house.width < s.wide s.cut then some (-3) else none
abbrev rGtI : R2 := rI0 fun i j => V.bl (decide (j < i))
section
variable {P : Program} {w : World} {K : PySem.W.Frag} {mg : Str → Option Value} {base : Heap} {cs : Ads}
/-! ### is_beyond_limits -/
def spBeyond (cs : Ads) : Sp := fun vs H Q _ => ∃ (sa : Addr) (s : Setter), vs = [.ref sa] ∧ SheetAt cs H sa s ∧ Q (.bl (beyondB s)) H
abbrev sBeyond : Stmt := top 37
theorem scBeyond : FnScope ["sheet"] ["sheet"] (defScope sBeyond) := ⟨rfl, rfl, rfl, by decide +kernel, rfl, by decide +kernel, by decide +kernel⟩
theorem ok_beyond (T : Txt mg) (TS : ClsF K cs.S nmS) (L : Laid K mg "is_beyond_limits" sBeyond) : DefOk P w K mg base 1 "is_beyond_limits" ["sheet"] (spBeyond cs) := by
  obtain ⟨f, fd, g, F⟩ := L.ex
  obtain ⟨t1, m1⟩ := T.least
  obtain ⟨t2, m2⟩ := T.mHeight
  obtain ⟨t3, m3⟩ := T.mGap
  obtain ⟨t4, m4⟩ := T.mWidth
  obtain ⟨t5, m5⟩ := T.mRanges
  obtain ⟨t6, m6⟩ := T.mCut
  refine ⟨f, fd, g, F.kp, F.binds fun _ _ _ _ _ _ us hl => match us, hl with | [_], _ => rfl, ?_⟩
  refine F.ok scBeyond (fun vs H Q E h => by obtain ⟨_, _, rfl, _⟩ := h; rfl) (fun cdv A outer s H vs Q E hr h => ⟨_,
    pss_cons (ps_if (pt_not (pt_chain op_le op_le (pe_glob (v := .int 3) rfl m1 ⟨_, rfl⟩) (pe_fld (pv 0) rfl) (pe_glob (v := .int 1000) rfl m2 ⟨_, rfl⟩))) (pss_one (ps_ret pe_bl)) pss_nil)
    (pss_cons (ps_if (PW.pt (pw_or (pt_cmpR op_gt (pe_fld (pv 0) rfl) (pe_glob (v := .int 100) rfl m3 ⟨_, rfl⟩) (nomark _)) (pw_or1 (pt_cmpR op_gt (pe_fld (pv 0) rfl) (pe_glob (v := .int 1000000) rfl m4 ⟨_, rfl⟩) (nomark _))))) (pss_one (ps_ret pe_bl)) pss_nil)
    (pss_one (ps_ret (pe_or (pe_cmpR op_gt (pe_callB call_len_seq (by rfl) T.len PySem.boot_len (pa_cons (pe_fld (pv 0) rfl) pa_nil)) (pe_glob (v := .int 256) rfl m5 ⟨_, rfl⟩) (nomark _))
      (pe_one (pe_cmpR op_gt (pe_callB call_len_seq (by rfl) T.len PySem.boot_len (pa_cons (pe_fld (pv 0) rfl) pa_nil)) (pe_glob (v := .int 64) rfl m6 ⟨_, rfl⟩) (nomark _))))))), ?_⟩)
  obtain ⟨sa, s, rfl, ⟨dx, ia, ra, wa, ca, h1, h2, h3, h4, h5⟩, q⟩ := h
  obtain ⟨xs, hx, hxl⟩ := h3.lst
  refine ⟨_, rfl, sa, cs.S, dx, _, _, rfl, h1, TS.cl, TS.na 1 _ rfl, lk_zip ndS (i := 1) rfl rfl, _, _, rfl, rfl, _, rfl, ?_⟩
  have yes : (s.house.height < 3 ∨ 1000 < s.house.height ∨ 100 < s.house.gap ∨ 1000000 < s.house.width ∨ 256 < s.widths.length ∨ 64 < s.cut.length) → Q (.bl true) H := fun z => qv q (congrArg V.bl (decide_eq_true z).symm)
  refine ite2 (fun c1 => ?_) (fun c1 => ?_)
  · have c1' := of_decide_eq_true c1
    refine ⟨_, _, rfl, rfl, _, rfl, ?_⟩
    refine ite2 (fun c2 => ?_) (fun c2 => ?_)
    · have c2' := nb_yes c2
      exact yes (by omega)
    · have c2' := nb_no c2
      refine ⟨_, rfl, sa, cs.S, dx, _, _, rfl, h1, TS.cl, TS.na 4 _ rfl, lk_zip ndS (i := 4) rfl rfl, _, _, rfl, rfl, _, rfl, ?_⟩
      refine ite2 (fun c3 => ?_) (fun c3 => ?_)
      · have c3' := of_decide_eq_true c3
        refine iteT (yes (by omega))
      · have c3' := of_decide_eq_false (Bool.eq_false_iff.mpr c3)
        refine ⟨_, rfl, sa, cs.S, dx, _, _, rfl, h1, TS.cl, TS.na 0 _ rfl, lk_zip ndS (i := 0) rfl rfl, _, _, rfl, rfl, _, rfl, ?_⟩
        refine ite2 (fun c4 => ?_) (fun c4 => ?_)
        · have c4' := of_decide_eq_true c4
          exact yes (by omega)
        · have c4' := of_decide_eq_false (Bool.eq_false_iff.mpr c4)
          refine ⟨_, rfl, sa, cs.S, dx, _, _, rfl, h1, TS.cl, TS.na 5 _ rfl, lk_zip ndS (i := 5) rfl rfl, ra, xs, rfl, .inl (SqL.of hx), _, _, rfl, rfl, _, rfl, ?_⟩
          refine ite2 (fun c5 => ?_) (fun c5 => ?_)
          · have c5' := of_decide_eq_true c5
            rw [hxl] at c5'
            exact yes (by omega)
          · have c5' := of_decide_eq_false (Bool.eq_false_iff.mpr c5)
            rw [hxl] at c5'
            refine ⟨_, rfl, sa, cs.S, dx, _, _, rfl, h1, TS.cl, TS.na 7 _ rfl, lk_zip ndS (i := 7) rfl rfl, ca, _, rfl, .inl (SqL.of h5), _, _, rfl, rfl, ?_⟩
            refine qv q (congrArg V.bl ?_)
            unfold beyondB
            rw [List.length_map]
            by_cases c6 : 64 < s.cut.length
            · rw [decide_eq_true (show (64 : Int) < (s.cut.length : Int) by omega), decide_eq_true (by omega)]
            · rw [decide_eq_false (show ¬ (64 : Int) < (s.cut.length : Int) by omega), decide_eq_false (by omega)]
  · have c1' := of_decide_eq_false (Bool.eq_false_iff.mpr c1)
    refine ⟨_, rfl, iteT (yes (by omega))⟩
/-! ### has_wrong_range -/
def spWrongRange (cs : Ads) : Sp := fun vs H Q _ => ∃ (sa : Addr) (s : Setter), vs = [.ref sa] ∧ SheetAt cs H sa s ∧ s.widths.length ≤ 100000 ∧ ∀ H' : Hp, Same H H' → Q (.bl (wrongB s.widths)) H'
abbrev sWrongRange : Stmt := top 38
theorem scWrongRange : FnScope ["sheet", "row"] ["sheet"] (defScope sWrongRange) := ⟨rfl, rfl, rfl, by decide +kernel, rfl, by decide +kernel, by decide +kernel⟩
theorem ok_wrong_range (T : Txt mg) (TS : ClsF K cs.S nmS) (L : Laid K mg "has_wrong_range" sWrongRange) : DefOk P w K mg base 1 "has_wrong_range" ["sheet"] (spWrongRange cs) := by
  obtain ⟨f, fd, g, F⟩ := L.ex
  obtain ⟨t1, m1⟩ := T.mKind
  refine ⟨f, fd, g, F.kp, F.binds fun _ _ _ _ _ _ us hl => match us, hl with | [_], _ => rfl, ?_⟩
  refine F.ok scWrongRange (fun vs H Q E h => by obtain ⟨_, _, rfl, _⟩ := h; rfl) (fun cdv A outer s H vs Q E hr h => ⟨_,
    pss_one (ps_ret (pe_callB (cr_any rfl) (by rfl) T.any (by decide +kernel) (pa_cons (pe_lc (own := [("row", 1)]) (g := gName 1) (tt := tYes)
      (te := tOrV (tOp rGtI (tOp (rIxL K) (tVar 1) (tC (.int 0))) (tOp (rIxL K) (tVar 1) (tC (.int 1)))) (tOp rGtI (tOp (rIxL K) (tVar 1) (tC (.int 3))) (tC (.int 2)))) rfl scWrongRange.nd (pi_list (pe_fld (pv 0) rfl)) (blkOk_by (N := ["sheet", "row"]) (sc := defScope sWrongRange) (by decide +kernel))
      (fun _ _ _ _ _ => pg_name (i := 1) scWrongRange.nd rfl (.inl rfl)) (fun _ _ _ _ _ => pts_nil)
      (fun _ _ _ _ _ => pe_or (pe_cmpR op_gt (pe_ix ix_list (pv 1) pe_int (fun _ _ => rfl)) (pe_ix ix_list (pv 1) pe_int (fun _ _ => rfl)) (nomark _)) (pe_one (pe_cmpR op_gt (pe_ix ix_list (pv 1) pe_int (fun _ _ => rfl)) (pe_glob (v := .int 2) rfl m1 ⟨_, rfl⟩) (nomark _))))) pa_nil))), ?_⟩)
  obtain ⟨sa, s, rfl, ⟨dx, ia, ra, wa, ca, h1, h2, h3, h4, h5⟩, hmany, q⟩ := h
  obtain ⟨xs, hx, hxl⟩ := h3.lst
  refine ⟨_, rfl, sa, cs.S, dx, _, _, rfl, h1, TS.cl, TS.na 5 _ rfl, lk_zip ndS (i := 5) rfl rfl, ra, rfl, ⟨_, SqL.of hx⟩, fun D hD => ?_⟩
  refine lc_list (K := K) (a := ra) (xs := xs) (fun i H' => Same H H' ∧ H' D = some (.lst (((s.widths.take i).map fun (x : Width) => decide (x.to_ < x.from_) || decide (2 < x.kind)).map V.bl))) ⟨same_new hD, upd_same⟩ (fun i H' _ h => SqL.of (h.1 _ _ hx)) ?_ ?_
  · rintro i v H' hv ⟨s1, hD'⟩
    obtain ⟨r, wi, rfl, hw, hr2⟩ := (h3.same s1).get (s1 _ _ hx) hv
    have hi := (List.getElem?_eq_some_iff.mp hw).1
    refine ⟨rfl, ?_⟩
    have fin : ∀ b : Bool, b = (decide (wi.to_ < wi.from_) || decide (2 < wi.kind)) → ∃ acc, H' D = some (.lst acc) ∧ acc.length < sizeLine ∧ Same H (upd H' D (.lst (acc ++ [.bl b]))) ∧ (upd H' D (.lst (acc ++ [.bl b]))) D = some (.lst (((s.widths.take (i + 1)).map fun (x : Width) => decide (x.to_ < x.from_) || decide (2 < x.kind)).map V.bl)) := by
      rintro b rfl
      refine ⟨_, hD', ?_, Same.set s1 hD, ?_⟩
      · rw [List.length_map, List.length_map, List.length_take]
        exact Nat.lt_of_le_of_lt (show min i s.widths.length ≤ 300000 by omega) (by decide)
      · rw [upd_same, take_succ_map hw, List.map_append]
        rfl
    refine ⟨_, rfl, r, _, _, nV wi.from_, rfl, rfl, SqL.of hr2, rfl, _, rfl, r, _, _, nV wi.to_, rfl, rfl, SqL.of hr2, rfl, _, _, rfl, rfl, _, rfl, ?_⟩
    refine ite2 (fun c1 => ?_) (fun c1 => ?_)
    · have c1' := of_decide_eq_true c1
      exact fin true (by rw [decide_eq_true (show wi.to_ < wi.from_ by omega)]; rfl)
    · have c1' := of_decide_eq_false (Bool.eq_false_iff.mpr c1)
      refine ⟨_, rfl, r, _, _, nV wi.kind, rfl, rfl, SqL.of hr2, rfl, _, _, rfl, rfl, ?_⟩
      refine fin _ ?_
      rw [decide_eq_false (show ¬ wi.to_ < wi.from_ by omega), Bool.false_or]
      by_cases c2 : 2 < wi.kind
      · rw [decide_eq_true c2, decide_eq_true (show (2 : Int) < (wi.kind : Int) by omega)]
      · rw [decide_eq_false c2, decide_eq_false (show ¬ (2 : Int) < (wi.kind : Int) by omega)]
  · rintro H' ⟨s1, hD'⟩
    rw [hxl, List.take_length] at hD'
    refine ⟨D, _, rfl, SqL.of hD', ?_⟩
    refine qv (q H' s1) (congrArg V.bl ?_)
    unfold wrongB
    rw [List.any_map]
    rfl
/-! ### sheet_refusal -/
def spSheetRef (cs : Ads) : Sp := fun vs H Q _ => ∃ (sa : Addr) (s : Setter), vs = [.ref sa] ∧ SheetAt cs H sa s ∧ s.widths.length ≤ 100000 ∧ s.cut.length ≤ 300000 ∧
  (sheetRef s = none → ∀ H' : Hp, Same H H' → Q .non H') ∧ ∀ r, sheetRef s = some r → ∀ (H' : Hp) (l : Addr), Same H H' → H' l = some (.lst [.int r]) → Q (.ref l) H'
abbrev sSheetRef : Stmt := top 39
theorem scSheetRef : FnScope ["sheet"] ["sheet"] (defScope sSheetRef) := ⟨rfl, rfl, rfl, by decide +kernel, rfl, by decide +kernel, by decide +kernel⟩
theorem ok_sheet_ref (T : Txt mg) (TS : ClsF K cs.S nmS) (L : Laid K mg "sheet_refusal" sSheetRef) (D1 : DefOk P w K mg base 1 "is_beyond_limits" ["sheet"] (spBeyond cs)) (D2 : DefOk P w K mg base 1 "has_wrong_range" ["sheet"] (spWrongRange cs))
    (D3 : MethOk P w K mg base 4 cs.S "lead_room" ["self"] (spLeadRoom cs)) : DefOk P w K mg base 5 "sheet_refusal" ["sheet"] (spSheetRef cs) := by
  obtain ⟨f, fd, g, F⟩ := L.ex
  obtain ⟨f1, fd1, g1, kp1, b1, G1⟩ := D1.ex
  obtain ⟨f2, fd2, g2, kp2, b2, G2⟩ := D2.ex
  obtain ⟨f3, fd3, M3, b3, G3⟩ := D3.ex
  refine ⟨f, fd, g, F.kp, F.binds fun _ _ _ _ _ _ us hl => match us, hl with | [_], _ => rfl, ?_⟩
  refine F.ok scSheetRef (fun vs H Q E h => by obtain ⟨_, _, rfl, _⟩ := h; rfl) (fun cdv A outer s H vs Q E hr h => ⟨_,
    pss_cons (ps_if (pt_val (pe_call G1 (hr.mono (by decide)) rfl g1 kp1 b1 .nil pass0 (pa_cons (pv 0) pa_nil))) (pss_one (ps_ret (pe_lst (pa_cons (pe_un un_neg pe_int) pa_nil)))) pss_nil)
    (pss_cons (ps_if (pt_val (pe_call G2 (hr.mono (by decide)) rfl g2 kp2 b2 .nil pass0 (pa_cons (pv 0) pa_nil))) (pss_one (ps_ret (pe_lst (pa_cons (pe_un un_neg pe_int) pa_nil)))) pss_nil)
    (pss_cons (ps_if (pt_cmpR op_lt (pe_meth0 (pv 0) TS.cl M3 G3 hr b3 .nil pass0) pe_int (nomark _)) (pss_one (ps_ret (pe_lst (pa_cons (pe_un un_neg pe_int) pa_nil)))) pss_nil)
    (pss_one (ps_ret pe_non)))), ?_⟩)
  obtain ⟨sa, s, rfl, hS, hmany, hcut, qn, qs⟩ := h
  unfold sheetRef at qn qs
  refine ⟨_, rfl, sa, s, rfl, hS, _, rfl, ?_⟩
  refine ite2 (fun c1 => ?_) (fun c1 => ?_)
  · refine ⟨_, rfl, (by show 1 ≤ sizeLine; decide), fun l hl => ?_⟩
    exact qs (-1) (by rw [if_pos c1]) _ l (same_new hl) upd_same
  · rw [if_neg c1] at qn qs
    refine ⟨_, rfl, sa, s, rfl, hS, hmany, fun H1 s1 => ⟨_, rfl, ?_⟩⟩
    refine ite2 (fun c2 => ?_) (fun c2 => ?_)
    · refine ⟨_, rfl, (by show 1 ≤ sizeLine; decide), fun l hl => ?_⟩
      exact qs (-2) (by rw [if_pos c2]) _ l (Same.new s1 hl) upd_same
    · rw [if_neg c2] at qn qs
      obtain ⟨dx, ia, ra, wa, ca, h1, _⟩ := id (hS.same s1)
      refine ⟨_, rfl, sa, dx, _, rfl, h1, lk_none (by decide +kernel), sa, s, rfl, hS.same s1, hcut, fun H2 s2 => ?_⟩
      refine ⟨_, _, rfl, rfl, _, rfl, ?_⟩
      refine ite2 (fun c3 => ?_) (fun c3 => ?_)
      · have c3' := of_decide_eq_true c3
        refine ⟨_, rfl, (by show 1 ≤ sizeLine; decide), fun l hl => ?_⟩
        exact qs (-3) (by rw [if_pos (by omega)]) _ l (Same.new (s1.trans s2) hl) upd_same
      · have c3' := of_decide_eq_false (Bool.eq_false_iff.mpr c3)
        exact qn (by rw [if_neg (by omega)]) H2 (s1.trans s2)
end
end Hc

namespace Hc
open PySem PySem.Spec PyProof.Rows L2
open IhColumn (Width Setter Par Line)
/-- paragraphs, some of them measured, some broken -/
def PsI (cs : Ads) (H : Hp) (l : Addr) (as : List Addr) (ps : List Par) (ms pl : Nat → Par → Ms) : Prop := H l = some (.lst (as.map V.ref)) ∧ as.length = ps.length ∧
  ∀ (i : Nat) (a : Addr) (p : Par), as[i]? = some a → ps[i]? = some p → ParAt cs H a p (ms i p) (pl i p)
theorem PsI.same {cs : Ads} {H H' : Hp} {l : Addr} {as : List Addr} {ps : List Par} {ms pl : Nat → Par → Ms} (h : PsI cs H l as ps ms pl) (k : Same H H') : PsI cs H' l as ps ms pl :=
  ⟨k _ _ h.1, h.2.1, fun i a p e g => (h.2.2 i a p e g).same k⟩
theorem PsI.get {cs : Ads} {H : Hp} {l : Addr} {as : List Addr} {ps : List Par} {ms pl : Nat → Par → Ms} (h : PsI cs H l as ps ms pl) {i : Nat} {v : V} (hv : (as.map V.ref)[i]? = some v) :
    ∃ (a : Addr) (p : Par), v = .ref a ∧ as[i]? = some a ∧ ps[i]? = some p ∧ i < ps.length ∧ ParAt cs H a p (ms i p) (pl i p) := by
  obtain ⟨a, ha, rfl⟩ := get_map hv
  have hi := (List.getElem?_eq_some_iff.mp ha).1
  have hl := h.2.1
  have hp : ps[i]? = some (ps[i]'(by omega)) := List.getElem?_eq_getElem (by omega)
  exact ⟨a, _, rfl, ha, hp, by omega, h.2.2 i a _ ha hp⟩
theorem PsI.step {cs : Ads} {H H' : Hp} {l : Addr} {as : List Addr} {ps : List Par} {ms pl ms' pl' : Nat → Par → Ms} (h : PsI cs H l as ps ms pl) (hn : as.Nodup) {j : Nat} {a : Addr} {p : Par} (ha : as[j]? = some a) (hp : ps[j]? = some p) (k : Kp [a] H H')
    (hP : ParAt cs H' a p (ms' j p) (pl' j p)) (hm : ∀ i q, i ≠ j → ms' i q = ms i q) (hpl : ∀ i q, i ≠ j → pl' i q = pl i q) : PsI cs H' l as ps ms' pl' := by
  obtain ⟨d0, _, _, _, h0, _⟩ := id (h.2.2 j a p ha hp)
  have ins := ins_one h0
  refine ⟨k.lst ins h.1, h.2.1, fun i b q hb hq => ?_⟩
  by_cases e : i = j
  · subst e
    rw [ha] at hb
    rw [hp] at hq
    cases hb
    cases hq
    exact hP
  · rw [hm i q e, hpl i q e]
    refine (h.2.2 i b q hb hq).kp k ins fun m => e ?_
    rw [List.mem_singleton] at m
    subst m
    exact nd_ix hn hb ha
def notRight (p : Par) (d : Nat) : Prop := p.depth = 0 ∨ 3 < p.depth ∨ d + 1 < p.depth ∨ p.text = [] ∨ IhColumns.PARTEXT < p.text.length ∨ p.lead = 0 ∨ p.text.length < p.lead
instance (p : Par) (d : Nat) : Decidable (notRight p d) := inferInstanceAs (Decidable (_ ∨ _))
theorem wrong_cons (i d : Nat) (p : Par) (l : List Par) : IhColumns.wrong i d (p :: l) = if notRight p d then some i else IhColumns.wrong (i + 1) p.depth l := rfl
theorem wrong_none : ∀ (l : List Par) (i d : Nat), IhColumns.wrong i d l = none → (∀ p ∈ l, 1 ≤ p.depth ∧ p.depth ≤ 3 ∧ 1 ≤ p.text.length ∧ p.text.length ≤ 65535 ∧ p.lead ≤ p.text.length) ∧ ∀ p, l[0]? = some p → p.depth ≤ d + 1
  | [], _, _, _ => ⟨fun p h => by simp at h, fun p h => by simp at h⟩
  | p :: l, i, d, h => by
    rw [wrong_cons] at h
    by_cases c : notRight p d
    · rw [if_pos c] at h
      cases h
    · rw [if_neg c] at h
      have ih := (wrong_none l (i + 1) p.depth h).1
      unfold notRight IhColumns.PARTEXT at c
      have c4 : p.text ≠ [] := fun e => c (.inr (.inr (.inr (.inl e))))
      have hl : 1 ≤ p.text.length := List.length_pos_iff.mpr c4
      refine ⟨fun q hq => ?_, fun q hq => ?_⟩
      · rcases List.mem_cons.mp hq with rfl | hq
        · exact ⟨by omega, by omega, hl, by omega, by omega⟩
        · exact ih q hq
      · have : p = q := Option.some.inj hq
        subst this
        omega
def idxV : Option Nat → V
  | some i => nV i
  | none => .non
section
variable {P : Program} {w : World} {K : PySem.W.Frag} {mg : Str → Option Value} {base : Heap} {cs : Ads}
/-! ### is_right -/
def spIsRight (cs : Ads) : Sp := fun vs H Q _ => ∃ (a : Addr) (p : Par) (ms pl : Ms) (d : Nat), vs = [.ref a, nV d] ∧ ParAt cs H a p ms pl ∧ Q (.bl (!decide (notRight p d))) H
abbrev sIsRight : Stmt := top 40
theorem scIsRight : FnScope ["paragraph", "depth_before", "size"] ["paragraph", "depth_before"] (defScope sIsRight) := ⟨rfl, rfl, rfl, by decide +kernel, rfl, by decide +kernel, by decide +kernel⟩
theorem ok_is_right (T : Txt mg) (TP : ClsF K cs.P nmP) (L : Laid K mg "is_right" sIsRight) : DefOk P w K mg base 1 "is_right" ["paragraph", "depth_before"] (spIsRight cs) := by
  obtain ⟨f, fd, g, F⟩ := L.ex
  obtain ⟨t1, m1⟩ := T.mDepth
  obtain ⟨t2, m2⟩ := T.mText
  refine ⟨f, fd, g, F.kp, F.binds fun _ _ _ _ _ _ us hl => match us, hl with | [_, _], _ => rfl, ?_⟩
  refine F.ok scIsRight (fun vs H Q E h => by obtain ⟨_, _, _, _, _, rfl, _⟩ := h; rfl) (fun cdv A outer s H vs Q E hr h => ⟨_,
    pss_cons (ps_if (pt_not (pt_chain op_le op_le pe_int (pe_fld (pv 0) rfl) (pe_callB (call_min2 rfl) (by rfl) T.min (by decide +kernel) (pa_cons (pe_glob (v := .int 3) rfl m1 ⟨_, rfl⟩) (pa_cons (pe_op op_add (pv 1) pe_int) pa_nil))))) (pss_one (ps_ret pe_bl)) pss_nil)
    (pss_cons (ps_set (i := 2) scIsRight.nd rfl (.inl rfl) (pe_callB call_len_seq (by rfl) T.len PySem.boot_len (pa_cons (pe_fld (pv 0) rfl) pa_nil)))
    (pss_one (ps_ret (pe_and (pe_chain op_le op_le pe_int (pv 2) (pe_glob (v := .int 65535) rfl m2 ⟨_, rfl⟩)) (pe_one (pe_chain op_le op_le pe_int (pe_fld (pv 0) rfl) (pv 2))))))), ?_⟩)
  obtain ⟨a, p, ms, pl, d, rfl, ⟨dx, ta, ma, pa, h1, h2, h3, h4⟩, q⟩ := h
  have no : notRight p d → Q (.bl false) H := fun z => qv q (congrArg V.bl (by rw [decide_eq_true z]; rfl))
  have yes : ¬ notRight p d → Q (.bl true) H := fun z => qv q (congrArg V.bl (by rw [decide_eq_false z]; rfl))
  unfold notRight IhColumns.PARTEXT at no yes
  have ne : p.text = [] ↔ p.text.length = 0 := List.length_eq_zero_iff.symm
  rw [ne] at no yes
  refine ⟨_, rfl, a, cs.P, dx, _, _, rfl, h1, TP.cl, TP.na 0 _ rfl, lk_zip ndP (i := 0) rfl rfl, _, _, rfl, rfl, _, rfl, ?_⟩
  refine ite2 (fun c1 => ?_) (fun c1 => ?_)
  · have c1' := of_decide_eq_true c1
    refine ⟨_, rfl, _, _, rfl, rfl, _, _, rfl, _, _, rfl, rfl, _, rfl, ?_⟩
    have em : (if (d : Int) + 1 < 3 then (d : Int) + 1 else 3) = ((min 3 (d + 1) : Nat) : Int) := by
      split <;> omega
    refine ite2 (fun c2 => ?_) (fun c2 => ?_)
    · have c2' := nb_yes c2
      have c2'' : ¬ (p.depth : Int) ≤ (if (d : Int) + 1 < 3 then (d : Int) + 1 else 3) := c2'
      rw [em] at c2''
      exact no (by omega)
    · have c2' := nb_no c2
      have c2'' : (p.depth : Int) ≤ (if (d : Int) + 1 < 3 then (d : Int) + 1 else 3) := c2'
      rw [em] at c2''
      refine ⟨_, rfl, a, cs.P, dx, _, _, rfl, h1, TP.cl, TP.na 3 _ rfl, lk_zip ndP (i := 3) rfl rfl, ta, _, rfl, .inl (SqL.of h2), ?_⟩
      rw [List.length_map]
      refine ⟨_, rfl, _, _, rfl, rfl, _, rfl, ?_⟩
      refine ite2 (fun c3 => ?_) (fun c3 => ?_)
      · have c3' := of_decide_eq_true c3
        refine ⟨_, _, rfl, rfl, _, rfl, ?_⟩
        refine ite2 (fun c4 => ?_) (fun c4 => ?_)
        · have c4' := of_decide_eq_true c4
          refine ⟨_, rfl, a, cs.P, dx, _, _, rfl, h1, TP.cl, TP.na 2 _ rfl, lk_zip ndP (i := 2) rfl rfl, _, _, rfl, rfl, _, rfl, ?_⟩
          refine ite2 (fun c5 => ?_) (fun c5 => ?_)
          · have c5' := of_decide_eq_true c5
            refine ⟨_, rfl, _, _, rfl, rfl, ?_⟩
            by_cases c6 : (p.lead : Int) ≤ (p.text.length : Int)
            · exact qv (yes (by omega)) (congrArg V.bl (decide_eq_true c6))
            · exact qv (no (by omega)) (congrArg V.bl (decide_eq_false c6))
          · have c5' := of_decide_eq_false (Bool.eq_false_iff.mpr c5)
            exact no (by omega)
        · have c4' := of_decide_eq_false (Bool.eq_false_iff.mpr c4)
          exact no (by omega)
      · have c3' := of_decide_eq_false (Bool.eq_false_iff.mpr c3)
        exact ⟨_, rfl, iteF (no (by omega))⟩
  · have c1' := of_decide_eq_false (Bool.eq_false_iff.mpr c1)
    exact ⟨_, rfl, iteT (no (by omega))⟩
/-! ### first_not_right -/
def spNotRight (cs : Ads) : Sp := fun vs H Q _ => ∃ (l : Addr) (as : List Addr) (ps : List Par) (ms pl : Nat → Par → Ms), vs = [.ref l] ∧ PsI cs H l as ps ms pl ∧ ∀ H' : Hp, Same H H' → Q (idxV (IhColumns.wrong 0 0 ps)) H'
abbrev sNotRight : Stmt := top 41
theorem scNotRight : FnScope ["paragraphs", "depth", "number", "paragraph"] ["paragraphs"] (defScope sNotRight) := ⟨rfl, rfl, rfl, by decide +kernel, rfl, by decide +kernel, by decide +kernel⟩
theorem ok_not_right (T : Txt mg) (TP : ClsF K cs.P nmP) (L : Laid K mg "first_not_right" sNotRight) (D1 : DefOk P w K mg base 1 "is_right" ["paragraph", "depth_before"] (spIsRight cs)) : DefOk P w K mg base 2 "first_not_right" ["paragraphs"] (spNotRight cs) := by
  obtain ⟨f, fd, g, F⟩ := L.ex
  obtain ⟨f1, fd1, g1, kp1, b1, G1⟩ := D1.ex
  refine ⟨f, fd, g, F.kp, F.binds fun _ _ _ _ _ _ us hl => match us, hl with | [_], _ => rfl, ?_⟩
  refine F.ok scNotRight (fun vs H Q E h => by obtain ⟨_, _, _, _, _, rfl, _⟩ := h; rfl) (fun cdv A outer s H vs Q E hr h => ⟨_,
    pss_cons (ps_set (i := 1) scNotRight.nd rfl (.inl rfl) pe_int)
    (pss_cons (ps_for PassesOwn.never rfl (pi_enum (by rfl) T.enumerate (pa_cons (pv 0) pa_nil)) (pg_tup rfl (pgs_cons (pg_name (i := 2) scNotRight.nd rfl (.inl rfl)) (pgs_cons (pg_name (i := 3) scNotRight.nd rfl (.inl rfl)) pgs_nil)))
      (pss_cons (ps_if (pt_not (pt_val (pe_call G1 hr rfl g1 kp1 b1 .nil pass0 (pa_cons (pv 3) (pa_cons (pv 1) pa_nil))))) (pss_one (ps_ret (pv 2))) pss_nil)
      (pss_one (ps_set (i := 1) scNotRight.nd rfl (.inl rfl) (pe_fld (pv 3) rfl)))))
    (pss_one (ps_ret pe_non))), ?_⟩)
  obtain ⟨l, as, ps, ms, pl, rfl, hP, q⟩ := h
  refine ⟨_, rfl, l, _, rfl, SqL.of hP.1, ?_⟩
  refine for_it (n := as.length) (G := fun H => SqL K H l (as.map V.ref)) (walk_len (walk_enum (K := K) (a := l) (xs := as.map V.ref)) (by rw [List.length_map]))
    (fun j σ H' => Same H H' ∧ ∃ (d : Nat) (v v' : Option V), σ = [some (.ref l), some (nV d), v, v'] ∧ IhColumns.wrong 0 0 ps = IhColumns.wrong j d (ps.drop j)) ⟨Same.refl H, 0, none, none, rfl, by rw [List.drop_zero]⟩ (fun j σ H' _ h => SqL.of (h.1 _ _ hP.1)) ?_ ?_
  · rintro j x σ H1 H2 hj ⟨s1, d, v, v', rfl, he⟩ ⟨Tt, y0, y1, rfl, hTt, rfl, hy0, hy1⟩
    have hy0' : y0 = .int ((j : Nat) : Int) := (Option.some.inj hy0).symm
    subst hy0'
    have s2 : Same H (upd H1 Tt (.tup [.int ((j : Nat) : Int), y1])) := Same.new s1 hTt
    obtain ⟨a, p, rfl, ha, hp, hjl, hPa⟩ := (hP.same s2).get hy1
    have hd : ps.drop j = p :: ps.drop (j + 1) := by
      obtain ⟨k1, k2⟩ := List.getElem?_eq_some_iff.mp hp
      rw [List.drop_eq_getElem_cons k1, k2]
    rw [hd, wrong_cons] at he
    obtain ⟨dx, ta, ma, pa, h1, _⟩ := id hPa
    refine ⟨Tt, _, rfl, SqT.of upd_same, rfl, _, _, rfl, _, _, rfl, rfl, ?_⟩
    refine ⟨_, rfl, _, rfl, a, p, _, _, d, rfl, hPa, _, rfl, ?_⟩
    refine ite2 (fun c => ?_) (fun c => ?_)
    · have c' : notRight p d := by
        cases e : decide (notRight p d) with
        | true => exact of_decide_eq_true e
        | false => rw [e] at c; cases c
      rw [if_pos c'] at he
      exact ⟨_, rfl, qv (q _ s2) (by rw [he]; rfl)⟩
    · have c' : ¬ notRight p d := fun z => c (by rw [decide_eq_true z]; rfl)
      rw [if_neg c'] at he
      exact ⟨_, rfl, a, cs.P, dx, _, _, rfl, h1, TP.cl, TP.na 0 _ rfl, lk_zip ndP (i := 0) rfl rfl, s2, p.depth, _, _, rfl, he⟩
  · rintro σ H' ⟨s1, d, v, v', rfl, he⟩
    rw [hP.2.1, List.drop_length] at he
    exact qv (q H' s1) (by rw [he]; rfl)
/-! ### first_blanks_alone -/
def spFirstBlank (cs : Ads) : Sp := fun vs H Q _ => ∃ (l : Addr) (as : List Addr) (s : Setter) (ps : List Par) (pl : Nat → Par → Ms), vs = [.ref l] ∧ PsI cs H l as ps (fun _ p => msOf s p.text) pl ∧
  ∀ H' : Hp, Same H H' → Q (idxV (ps.findIdx? fun (p : Par) => p.text.all s.blank)) H'
abbrev sFirstBlank : Stmt := top 42
theorem scFirstBlank : FnScope ["paragraphs", "number", "paragraph"] ["paragraphs"] (defScope sFirstBlank) := ⟨rfl, rfl, rfl, by decide +kernel, rfl, by decide +kernel, by decide +kernel⟩
theorem ok_first_blank (T : Txt mg) (TP : ClsF K cs.P nmP) (L : Laid K mg "first_blanks_alone" sFirstBlank) (D1 : MethOk P w K mg base 3 cs.P "is_blanks_alone" ["self"] (spBlanksAlone cs)) : DefOk P w K mg base 4 "first_blanks_alone" ["paragraphs"] (spFirstBlank cs) := by
  obtain ⟨f, fd, g, F⟩ := L.ex
  obtain ⟨f1, fd1, M1, b1, G1⟩ := D1.ex
  refine ⟨f, fd, g, F.kp, F.binds fun _ _ _ _ _ _ us hl => match us, hl with | [_], _ => rfl, ?_⟩
  refine F.ok scFirstBlank (fun vs H Q E h => by obtain ⟨_, _, _, _, _, rfl, _⟩ := h; rfl) (fun cdv A outer s H vs Q E hr h => ⟨_,
    pss_cons (ps_for PassesOwn.never rfl (pi_enum (by rfl) T.enumerate (pa_cons (pv 0) pa_nil)) (pg_tup rfl (pgs_cons (pg_name (i := 1) scFirstBlank.nd rfl (.inl rfl)) (pgs_cons (pg_name (i := 2) scFirstBlank.nd rfl (.inl rfl)) pgs_nil)))
      (pss_one (ps_if (pt_val (pe_meth0 (pv 2) TP.cl M1 G1 hr b1 .nil pass0)) (pss_one (ps_ret (pv 1))) pss_nil)))
    (pss_one (ps_ret pe_non)), ?_⟩)
  obtain ⟨l, as, s, ps, pl, rfl, hP, q⟩ := h
  refine ⟨_, rfl, l, _, rfl, SqL.of hP.1, ?_⟩
  refine for_it (n := as.length) (G := fun H => SqL K H l (as.map V.ref)) (walk_len (walk_enum (K := K) (a := l) (xs := as.map V.ref)) (by rw [List.length_map]))
    (fun j σ H' => Same H H' ∧ (∃ (v v' : Option V), σ = [some (.ref l), v, v']) ∧ ∀ k p, k < j → ps[k]? = some p → p.text.all s.blank = false) ⟨Same.refl H, ⟨none, none, rfl⟩, fun k p hk => by omega⟩ (fun j σ H' _ h => SqL.of (h.1 _ _ hP.1)) ?_ ?_
  · rintro j x σ H1 H2 hj ⟨s1, ⟨v, v', rfl⟩, he⟩ ⟨Tt, y0, y1, rfl, hTt, rfl, hy0, hy1⟩
    have hy0' : y0 = .int ((j : Nat) : Int) := (Option.some.inj hy0).symm
    subst hy0'
    have s2 : Same H (upd H1 Tt (.tup [.int ((j : Nat) : Int), y1])) := Same.new s1 hTt
    obtain ⟨a, p, rfl, ha, hp, hjl, hPa⟩ := (hP.same s2).get hy1
    obtain ⟨dx, ta, ma, pa, h1, _⟩ := id hPa
    refine ⟨Tt, _, rfl, SqT.of upd_same, rfl, _, _, rfl, _, _, rfl, rfl, ?_⟩
    refine ⟨_, rfl, a, dx, _, rfl, h1, lk_none (by decide +kernel), a, p, _, _, rfl, hPa, _, rfl, ?_⟩
    have eb := blanks_spec s p.text
    refine ite2 (fun c => ?_) (fun c => ?_)
    · have c' : p.text.all s.blank = true := eb.symm.trans c
      refine ⟨_, rfl, qv (q _ s2) ?_⟩
      have : (ps.findIdx? fun (p : Par) => p.text.all s.blank) = some j := by
        rw [List.findIdx?_eq_some_iff_getElem]
        obtain ⟨k1, k2⟩ := List.getElem?_eq_some_iff.mp hp
        refine ⟨k1, by rw [k2]; exact c', fun k hk => ?_⟩
        have := he k _ hk (List.getElem?_eq_getElem (by omega))
        rw [this]
        exact Bool.false_ne_true
      rw [this]
      rfl
    · have c' : p.text.all s.blank = false := by
        rw [← eb]
        exact Bool.eq_false_iff.mpr c
      refine ⟨s2, ⟨_, _, rfl⟩, fun k p' hk hp' => ?_⟩
      by_cases e : k = j
      · subst e
        rw [hp] at hp'
        cases hp'
        exact c'
      · exact he k p' (by omega) hp'
  · rintro σ H' ⟨s1, ⟨v, v', rfl⟩, he⟩
    refine qv (q H' s1) ?_
    have : (ps.findIdx? fun (p : Par) => p.text.all s.blank) = none := by
      rw [List.findIdx?_eq_none_iff]
      intro p hp
      obtain ⟨k, hk, e⟩ := List.getElem_of_mem hp
      exact he k p (by rw [hP.2.1]; exact hk) (by rw [List.getElem?_eq_getElem hk, e])
    rw [this]
    rfl
/-! ### first_not_broken -/
def spFirstBroken (cs : Ads) : Sp := fun vs H Q _ => ∃ (H0 : Hp) (l sa : Addr) (as : List Addr) (s : Setter) (ps : List Par), vs = [.ref l, .ref sa] ∧ Same H0 H ∧ (∀ a ∈ as, H0 a = none) ∧ as.Nodup ∧ SheetAt cs H0 sa s ∧ s.house.indent.length = 3 ∧
  (∀ p ∈ ps, 1 ≤ p.depth ∧ p.depth ≤ 3 ∧ p.text.length ≤ 65535) ∧ PsI cs H l as ps (fun _ p => msOf s p.text) (fun _ _ => []) ∧
  (∀ i, (ps.findIdx? fun (p : Par) => (s.lines p).isNone) = some i → ∀ H' : Hp, Same H0 H' → Q (nV i) H') ∧
  ((ps.findIdx? fun (p : Par) => (s.lines p).isNone) = none → ∀ H' : Hp, Same H0 H' → PsI cs H' l as ps (fun _ p => msOf s p.text) (fun _ p => (s.lines p).getD []) → Q .non H')
abbrev sFirstBroken : Stmt := top 43
theorem scFirstBroken : FnScope ["paragraphs", "sheet", "number", "paragraph"] ["paragraphs", "sheet"] (defScope sFirstBroken) := ⟨rfl, rfl, rfl, by decide +kernel, rfl, by decide +kernel, by decide +kernel⟩
theorem ok_first_broken (T : Txt mg) (TP : ClsF K cs.P nmP) (L : Laid K mg "first_not_broken" sFirstBroken) (D1 : MethOk P w K mg base 5 cs.P "break_on" ["self", "sheet"] (spBreakOn cs)) : DefOk P w K mg base 6 "first_not_broken" ["paragraphs", "sheet"] (spFirstBroken cs) := by
  obtain ⟨f, fd, g, F⟩ := L.ex
  obtain ⟨f1, fd1, M1, b1, G1⟩ := D1.ex
  refine ⟨f, fd, g, F.kp, F.binds fun _ _ _ _ _ _ us hl => match us, hl with | [_, _], _ => rfl, ?_⟩
  refine F.ok scFirstBroken (fun vs H Q E h => by obtain ⟨_, _, _, _, _, _, rfl, _⟩ := h; rfl) (fun cdv A outer s H vs Q E hr h => ⟨_,
    pss_cons (ps_for PassesOwn.never rfl (pi_enum (by rfl) T.enumerate (pa_cons (pv 0) pa_nil)) (pg_tup rfl (pgs_cons (pg_name (i := 2) scFirstBroken.nd rfl (.inl rfl)) (pgs_cons (pg_name (i := 3) scFirstBroken.nd rfl (.inl rfl)) pgs_nil)))
      (pss_one (ps_if (pt_not (pt_val (pe_meth (pv 3) TP.cl M1 G1 hr b1 .nil pass0 (pa_cons (pv 1) pa_nil)))) (pss_one (ps_ret (pv 2))) pss_nil)))
    (pss_one (ps_ret pe_non)), ?_⟩)
  obtain ⟨H0, l, sa, as, s, ps, rfl, s0, has, hnd, hS, hi, hps, hP, q1, q2⟩ := h
  refine ⟨_, rfl, l, _, rfl, SqL.of hP.1, ?_⟩
  refine for_it (n := as.length) (G := fun H => SqL K H l (as.map V.ref)) (walk_len (walk_enum (K := K) (a := l) (xs := as.map V.ref)) (by rw [List.length_map]))
    (fun j σ H' => Same H0 H' ∧ (∃ (v v' : Option V), σ = [some (.ref l), some (.ref sa), v, v']) ∧ PsI cs H' l as ps (fun _ p => msOf s p.text) (fun i p => if i < j then (s.lines p).getD [] else []) ∧ ∀ k p, k < j → ps[k]? = some p → (s.lines p).isNone = false)
    ⟨s0, ⟨none, none, rfl⟩, hP, fun k p hk => by omega⟩ (fun j σ H' _ h => SqL.of h.2.2.1.1) ?_ ?_
  · rintro j x σ H1 H2 hj ⟨s1, ⟨v, v', rfl⟩, hP1, he⟩ ⟨Tt, y0, y1, rfl, hTt, rfl, hy0, hy1⟩
    have hy0' : y0 = .int ((j : Nat) : Int) := (Option.some.inj hy0).symm
    subst hy0'
    have s2 : Same H0 (upd H1 Tt (.tup [.int ((j : Nat) : Int), y1])) := Same.new s1 hTt
    have hP2 := hP1.same (same_new (o := .tup [.int ((j : Nat) : Int), y1]) hTt)
    obtain ⟨a, p, rfl, ha, hp, hjl, hPa⟩ := hP2.get hy1
    obtain ⟨dx, ta, ma, pa, h1, _⟩ := id hPa
    have hpm := hps p (List.mem_of_getElem? hp)
    refine ⟨Tt, _, rfl, SqT.of upd_same, rfl, _, _, rfl, _, _, rfl, rfl, ?_⟩
    refine ⟨_, rfl, a, dx, _, rfl, h1, lk_none (by decide +kernel), _, rfl, H0, a, sa, s, p, _, rfl, s2, has a (List.mem_of_getElem? ha), hS, hi, hpm.1, hpm.2.1, hpm.2.2, hPa, fun hl H' s3 => ?_, fun ls hl H' s3 k3 hP3 => ?_⟩
    · refine ⟨_, rfl, iteT ⟨_, rfl, ?_⟩⟩
      refine q1 j ?_ H' (s2.trans s3)
      rw [List.findIdx?_eq_some_iff_getElem]
      obtain ⟨k1, k2⟩ := List.getElem?_eq_some_iff.mp hp
      refine ⟨k1, by rw [k2, hl]; rfl, fun k hk => ?_⟩
      have := he k _ hk (List.getElem?_eq_getElem (by omega))
      rw [this]
      exact Bool.false_ne_true
    · refine ⟨_, rfl, iteF ?_⟩
      refine ⟨s3, ⟨_, _, rfl⟩, ?_, fun k p' hk hp' => ?_⟩
      · refine hP2.step hnd ha hp k3 ?_ (fun _ _ _ => rfl) (fun i q' hne => ?_)
        · rw [if_pos (Nat.lt_succ_self j), hl]
          exact hP3
        · by_cases c : i < j
          · rw [if_pos c, if_pos (by omega)]
          · rw [if_neg c, if_neg (by omega)]
      · by_cases e : k = j
        · subst e
          rw [hp] at hp'
          cases hp'
          rw [hl]
          rfl
        · exact he k p' (by omega) hp'
  · rintro σ H' ⟨s1, ⟨v, v', rfl⟩, hP1, he⟩
    refine q2 ?_ H' s1 ⟨hP1.1, hP1.2.1, fun i a p ha hp => ?_⟩
    · rw [List.findIdx?_eq_none_iff]
      intro p hp
      obtain ⟨k, hk, e⟩ := List.getElem_of_mem hp
      exact he k p (by rw [hP.2.1]; exact hk) (by rw [List.getElem?_eq_getElem hk, e])
    · have : ParAt cs H' a p (msOf s p.text) (if i < as.length then (s.lines p).getD [] else []) := hP1.2.2 i a p ha hp
      rw [if_pos (List.getElem?_eq_some_iff.mp ha).1] at this
      exact this
end
end Hc

namespace Hc
open PySem PySem.Spec PyProof.Rows L2
open IhColumn (Width Setter Par Line)
/-- paragraphs' refusal -/
def parsRef (s : Setter) (ps : List Par) : Option (List Int) := match IhColumns.wrong 0 0 ps with
  | some i => some [-1, (i : Int)]
  | none => if IhColumns.CHARS < (ps.map fun (p : Par) => p.text.length).sum then some [-7] else match ps.findIdx? fun (p : Par) => p.text.all s.blank with
    | some i => some [-6, (i : Int)]
    | none => match ps.findIdx? fun (p : Par) => (s.lines p).isNone with
      | some i => some [-5, (i : Int)]
      | none => none
theorem parsRef_1 {s : Setter} {ps : List Par} {i : Nat} (h : IhColumns.wrong 0 0 ps = some i) : parsRef s ps = some [-1, (i : Int)] := by
  unfold parsRef
  rw [h]
theorem parsRef_7 {s : Setter} {ps : List Par} (h : IhColumns.wrong 0 0 ps = none) (h2 : IhColumns.CHARS < (ps.map fun (p : Par) => p.text.length).sum) : parsRef s ps = some [-7] := by
  unfold parsRef
  rw [h]
  exact if_pos h2
theorem parsRef_6 {s : Setter} {ps : List Par} {i : Nat} (h : IhColumns.wrong 0 0 ps = none) (h2 : ¬ IhColumns.CHARS < (ps.map fun (p : Par) => p.text.length).sum) (h3 : (ps.findIdx? fun (p : Par) => p.text.all s.blank) = some i) : parsRef s ps = some [-6, (i : Int)] := by
  unfold parsRef
  rw [h]
  simp only [if_neg h2, h3]
theorem parsRef_5 {s : Setter} {ps : List Par} {i : Nat} (h : IhColumns.wrong 0 0 ps = none) (h2 : ¬ IhColumns.CHARS < (ps.map fun (p : Par) => p.text.length).sum) (h3 : (ps.findIdx? fun (p : Par) => p.text.all s.blank) = none) (h4 : (ps.findIdx? fun (p : Par) => (s.lines p).isNone) = some i) : parsRef s ps = some [-5, (i : Int)] := by
  unfold parsRef
  rw [h]
  simp only [if_neg h2, h3, h4]
theorem parsRef_no {s : Setter} {ps : List Par} (h : IhColumns.wrong 0 0 ps = none) (h2 : ¬ IhColumns.CHARS < (ps.map fun (p : Par) => p.text.length).sum) (h3 : (ps.findIdx? fun (p : Par) => p.text.all s.blank) = none) (h4 : (ps.findIdx? fun (p : Par) => (s.lines p).isNone) = none) : parsRef s ps = none := by
  unfold parsRef
  rw [h]
  simp only [if_neg h2, h3, h4]
section
variable {P : Program} {w : World} {K : PySem.W.Frag} {mg : Str → Option Value} {base : Heap} {cs : Ads}
/-! ### paragraphs_refusal -/
def spParsRef (cs : Ads) : Sp := fun vs H Q _ => ∃ (H0 : Hp) (l sa : Addr) (as : List Addr) (s : Setter) (ps : List Par), vs = [.ref l, .ref sa] ∧ Same H0 H ∧ (∀ a ∈ as, H0 a = none) ∧ as.Nodup ∧ SheetAt cs H0 sa s ∧ s.house.indent.length = 3 ∧ ps.length ≤ 100000 ∧
  PsI cs H l as ps (fun _ _ => []) (fun _ _ => []) ∧
  (∀ r, parsRef s ps = some r → ∀ (H' : Hp) (p : Addr), Same H0 H' → H' p = some (.lst (r.map V.int)) → Q (.ref p) H') ∧
  (parsRef s ps = none → ∀ H' : Hp, Same H0 H' → PsI cs H' l as ps (fun _ p => msOf s p.text) (fun _ p => (s.lines p).getD []) → Q .non H')
abbrev sParsRef : Stmt := top 44
theorem scParsRef : FnScope ["paragraphs", "sheet", "number", "paragraph"] ["paragraphs", "sheet"] (defScope sParsRef) := ⟨rfl, rfl, rfl, by decide +kernel, rfl, by decide +kernel, by decide +kernel⟩
theorem ok_pars_ref (T : Txt mg) (TP : ClsF K cs.P nmP) (L : Laid K mg "paragraphs_refusal" sParsRef) (D1 : DefOk P w K mg base 2 "first_not_right" ["paragraphs"] (spNotRight cs)) (D2 : MethOk P w K mg base 3 cs.P "measure_on" ["self", "sheet"] (spMeasureOn cs))
    (D3 : DefOk P w K mg base 4 "first_blanks_alone" ["paragraphs"] (spFirstBlank cs)) (D4 : DefOk P w K mg base 6 "first_not_broken" ["paragraphs", "sheet"] (spFirstBroken cs)) : DefOk P w K mg base 7 "paragraphs_refusal" ["paragraphs", "sheet"] (spParsRef cs) := by
  obtain ⟨f, fd, g, F⟩ := L.ex
  obtain ⟨t1, m1⟩ := T.mTexts
  obtain ⟨f1, fd1, g1, kp1, b1, G1⟩ := D1.ex
  obtain ⟨f2, fd2, M2, b2, G2⟩ := D2.ex
  obtain ⟨f3, fd3, g3, kp3, b3, G3⟩ := D3.ex
  obtain ⟨f4, fd4, g4, kp4, b4, G4⟩ := D4.ex
  refine ⟨f, fd, g, F.kp, F.binds fun _ _ _ _ _ _ us hl => match us, hl with | [_, _], _ => rfl, ?_⟩
  refine F.ok scParsRef (fun vs H Q E h => by obtain ⟨_, _, _, _, _, _, rfl, _⟩ := h; rfl) (fun cdv A outer s H vs Q E hr h => ⟨_,
    pss_cons (ps_set (i := 2) scParsRef.nd rfl (.inl rfl) (pe_call G1 (hr.mono (by decide)) rfl g1 kp1 b1 .nil pass0 (pa_cons (pv 0) pa_nil)))
    (pss_cons (ps_if (pt_cmp (pc_notN (pv 2))) (pss_one (ps_ret (pe_lst (pa_cons (pe_un un_neg pe_int) (pa_cons (pv 2) pa_nil))))) pss_nil)
    (pss_cons (ps_if (pt_cmpR op_gt (pe_callB (cr_sum rfl) (by rfl) T.sum (by decide +kernel) (pa_cons (pe_lc (own := [("paragraph", 3)]) (g := gName 3) (tt := tYes)
        (te := tCB (fun xs H Q => ∃ p ys, xs = [.ref p] ∧ (SqL K H p ys ∨ SqT K H p ys) ∧ Q (.int ys.length) H) (tCons (tFld K (tVar 3) "text") tNil)) rfl scParsRef.nd (pi_list (pv 0)) (blkOk_by (N := ["paragraphs", "sheet", "number", "paragraph"]) (sc := defScope sParsRef) (by decide +kernel))
        (fun _ _ _ _ _ => pg_name (i := 3) scParsRef.nd rfl (.inl rfl)) (fun _ _ _ _ _ => pts_nil) (fun _ _ _ _ _ => pe_callB call_len_seq (by rfl) T.len PySem.boot_len (pa_cons (pe_fld (pv 3) rfl) pa_nil))) pa_nil)) (pe_glob (v := .int 262144) rfl m1 ⟨_, rfl⟩) (nomark _))
      (pss_one (ps_ret (pe_lst (pa_cons (pe_un un_neg pe_int) pa_nil)))) pss_nil)
    (pss_cons (ps_for PassesOwn.never rfl (pi_list (pv 0)) (pg_name (i := 3) scParsRef.nd rfl (.inl rfl)) (pss_one (ps_expr (pe_meth (pv 3) TP.cl M2 G2 (hr.mono (by decide)) b2 .nil pass0 (pa_cons (pv 1) pa_nil)))))
    (pss_cons (ps_set (i := 2) scParsRef.nd rfl (.inl rfl) (pe_call G3 (hr.mono (by decide)) rfl g3 kp3 b3 .nil pass0 (pa_cons (pv 0) pa_nil)))
    (pss_cons (ps_if (pt_cmp (pc_notN (pv 2))) (pss_one (ps_ret (pe_lst (pa_cons (pe_un un_neg pe_int) (pa_cons (pv 2) pa_nil))))) pss_nil)
    (pss_cons (ps_set (i := 2) scParsRef.nd rfl (.inl rfl) (pe_call G4 hr rfl g4 kp4 b4 .nil pass0 (pa_cons (pv 0) (pa_cons (pv 1) pa_nil))))
    (pss_cons (ps_if (pt_cmp (pc_notN (pv 2))) (pss_one (ps_ret (pe_lst (pa_cons (pe_un un_neg pe_int) (pa_cons (pv 2) pa_nil))))) pss_nil)
    (pss_one (ps_ret pe_non))))))))), ?_⟩)
  obtain ⟨H0, l, sa, as, s, ps, rfl, s0, has, hnd, hS, hi, hmany, hP, q1, q2⟩ := h
  refine ⟨_, rfl, l, as, ps, _, _, rfl, hP, fun H1 s1 => ?_⟩
  have hP1 := hP.same s1
  have t1 := s0.trans s1
  clear hP s1
  refine ⟨_, rfl, _, rfl, ?_⟩
  cases hw : IhColumns.wrong 0 0 ps with
  | some i =>
    refine iteT ⟨_, rfl, _, rfl, (by show 2 ≤ sizeLine; decide), fun r hr => ?_⟩
    exact q1 _ (parsRef_1 hw) _ r (Same.new t1 hr) upd_same
  | none =>
    obtain ⟨good, _⟩ := wrong_none ps 0 0 hw
    refine iteF ?_
    -- how many characters
    refine ⟨_, rfl, l, rfl, ⟨_, SqL.of hP1.1⟩, fun D hD => ?_⟩
    refine lc_list (K := K) (a := l) (xs := as.map V.ref) (fun i H' => Same H1 H' ∧ H' D = some (.lst (((ps.take i).map fun (p : Par) => p.text.length).map nV))) ⟨same_new hD, upd_same⟩ (fun i H' _ h => SqL.of (h.1 _ _ hP1.1)) ?_ ?_
    · rintro i v H' hv ⟨s2, hD'⟩
      obtain ⟨a, p, rfl, ha, hp, hil, hPa⟩ := (hP1.same s2).get hv
      obtain ⟨dx, ta, ma, pa, h1, h2, _⟩ := id hPa
      refine ⟨rfl, _, rfl, a, cs.P, dx, _, _, rfl, h1, TP.cl, TP.na 3 _ rfl, lk_zip ndP (i := 3) rfl rfl, ta, _, rfl, .inl (SqL.of h2), _, hD', ?_, Same.set s2 hD, ?_⟩
      · rw [List.length_map, List.length_map, List.length_take]
        exact Nat.lt_of_le_of_lt (show min i ps.length ≤ 300000 by omega) (by decide)
      · rw [upd_same, take_succ_map hp, List.map_append, List.length_map]
        rfl
    · rintro H2 ⟨s2, hD'⟩
      rw [List.length_map, hP1.2.1, List.take_length] at hD'
      have hP2 := hP1.same s2
      have t2 := t1.trans s2
      have ei : ((ps.map fun (p : Par) => p.text.length).map nV) = ((ps.map fun (p : Par) => p.text.length).map fun (n : Nat) => (n : Int)).map V.int := by
        simp only [List.map_map]
        rfl
      refine ⟨D, (ps.map fun (p : Par) => p.text.length).map fun (n : Nat) => (n : Int), rfl, by rw [← ei]; exact SqL.of hD', ?_⟩
      rw [sum_cast]
      refine ⟨_, _, rfl, rfl, _, rfl, ?_⟩
      refine ite2 (fun c => ?_) (fun c => ?_)
      · have c' := of_decide_eq_true c
        refine ⟨_, rfl, (by show 1 ≤ sizeLine; decide), fun r hr => ?_⟩
        exact q1 _ (parsRef_7 hw (by unfold IhColumns.CHARS; omega)) _ r (Same.new t2 hr) upd_same
      · have c' := of_decide_eq_false (Bool.eq_false_iff.mpr c)
        have hsum : ¬ IhColumns.CHARS < (ps.map fun (p : Par) => p.text.length).sum := by unfold IhColumns.CHARS; omega
        -- measured, one by one
        refine ⟨_, rfl, l, rfl, ⟨_, SqL.of hP2.1⟩, for_list (K := K) (a := l) (xs := as.map V.ref) (fun j σ H' => Same H0 H' ∧ (∃ v : Option V, σ = [some (.ref l), some (.ref sa), some .non, v]) ∧ PsI cs H' l as ps (fun i p => if i < j then msOf s p.text else []) (fun _ _ => []))
          ⟨t2, ⟨none, rfl⟩, hP2⟩ (fun j σ H' _ h => SqL.of h.2.2.1) ?_ ?_⟩
        · rintro j v σ H' hv ⟨s3, ⟨v', rfl⟩, hP3⟩
          obtain ⟨a, p, rfl, ha, hp, hjl, hPa⟩ := hP3.get hv
          obtain ⟨dx, ta, ma, pa, h1, _⟩ := id hPa
          have hg := good p (List.mem_of_getElem? hp)
          refine ⟨_, rfl, a, dx, _, rfl, h1, lk_none (by decide +kernel), _, rfl, H0, a, sa, s, p, _, _, rfl, s3, has a (List.mem_of_getElem? ha), hS, hg.2.2.2.1, hPa, fun H4 s4 k4 hP4 => ?_⟩
          refine ⟨s4, ⟨_, rfl⟩, hP3.step hnd ha hp k4 ?_ (fun i q' hne => ?_) (fun _ _ _ => rfl)⟩
          · rw [if_pos (Nat.lt_succ_self j)]
            exact hP4
          · by_cases c2 : i < j
            · rw [if_pos c2, if_pos (by omega)]
            · rw [if_neg c2, if_neg (by omega)]
        · rintro σ H3 ⟨t3, ⟨v', rfl⟩, hP3'⟩
          have hP3 : PsI cs H3 l as ps (fun _ p => msOf s p.text) (fun _ _ => []) := ⟨hP3'.1, hP3'.2.1, fun i a p ha hp => by
            have : ParAt cs H3 a p (if i < (as.map V.ref).length then msOf s p.text else []) [] := hP3'.2.2 i a p ha hp
            rw [List.length_map, if_pos (List.getElem?_eq_some_iff.mp ha).1] at this
            exact this⟩
          clear hP3'
          refine ⟨_, rfl, l, as, s, ps, _, rfl, hP3, fun H4 s4 => ?_⟩
          refine ⟨_, rfl, _, rfl, ?_⟩
          cases hb : (ps.findIdx? fun (p : Par) => p.text.all s.blank) with
          | some i =>
            refine iteT ⟨_, rfl, _, rfl, (by show 2 ≤ sizeLine; decide), fun r hr => ?_⟩
            exact q1 _ (parsRef_6 hw hsum hb) _ r (Same.new (t3.trans s4) hr) upd_same
          | none =>
            refine iteF ?_
            refine ⟨_, rfl, _, rfl, H0, l, sa, as, s, ps, rfl, t3.trans s4, has, hnd, hS, hi, fun p hp => ⟨(good p hp).1, (good p hp).2.1, (good p hp).2.2.2.1⟩, hP3.same s4, fun i hl H5 s5 => ?_, fun hl H5 s5 hP5 => ?_⟩
            · refine ⟨_, rfl, _, rfl, iteT ⟨_, rfl, _, rfl, (by show 2 ≤ sizeLine; decide), fun r hr => ?_⟩⟩
              exact q1 _ (parsRef_5 hw hsum hb hl) _ r (Same.new s5 hr) upd_same
            · refine ⟨_, rfl, _, rfl, iteF ?_⟩
              exact q2 (parsRef_no hw hsum hb hl) H5 s5 hP5
end
end Hc

namespace Hc
open PySem PySem.Spec PyProof.Rows L2
open IhColumn (Width Setter Par Line)
/-- where each character stands -/
abbrev keyOf (p x : Nat) : List L2.Key := [.inl (p : Int), .inl (x : Int)]
def DictAt (H : Hp) (d : Addr) (lines : List Line) : Prop := ∃ kvs : List (List L2.Key × V), H d = some (.dT kvs) ∧ ∀ p x : Nat, valV kvs (keyOf p x) = (stand lines p x lines.length).map nV
theorem DictAt.same {H H' : Hp} {d : Addr} {lines : List Line} (h : DictAt H d lines) (s : Same H H') : DictAt H' d lines := by
  obtain ⟨kvs, h1, h2⟩ := h
  exact ⟨kvs, s _ _ h1, h2⟩
theorem DictAt.kp {S : List Addr} {H H' : Hp} {d : Addr} {lines : List Line} (h : DictAt H d lines) (k : Kp S H H') (hS : ∀ b ∈ S, isIns H b) : DictAt H' d lines := by
  obtain ⟨kvs, h1, h2⟩ := h
  refine ⟨kvs, k _ _ h1 fun m => ?_, h2⟩
  obtain ⟨C, dx, fs, e⟩ := hS d m
  rw [h1] at e
  cases e
theorem key_eq {p x p' x' : Nat} : keyOf p x = keyOf p' x' ↔ p = p' ∧ x = x' := by
  constructor
  · intro h
    injection h with h1 h2
    injection h2 with h3 h4
    have e1 := Sum.inl.inj h1
    have e2 := Sum.inl.inj h3
    omega
  · rintro ⟨rfl, rfl⟩
    rfl
theorem widL_take {ls : List Line} {j : Nat} {l : Line} (h : ls[j]? = some l) : widL (ls.take (j + 1)) = widL (ls.take j) + (if l.kind = 0 then l.to_ - l.from_ else 0) := by
  unfold widL
  rw [List.take_succ, h]
  simp
theorem widL_le (ls : List Line) (j : Nat) : widL (ls.take j) ≤ widL ls := by
  unfold widL
  have : ls = ls.take j ++ ls.drop j := (List.take_append_drop j ls).symm
  conv => rhs; rw [this]
  rw [List.map_append, List.sum_append]
  omega
section
variable {P : Program} {w : World} {K : PySem.W.Frag} {mg : Str → Option Value} {base : Heap} {cs : Ads}
/-! ### standing_places -/
def spStanding (cs : Ads) : Sp := fun vs H Q _ => ∃ (la : Addr) (ls : List Line), vs = [.ref la] ∧ LinesAt cs H la ls ∧ (∀ l ∈ ls, l.kind = 0 ∨ l.kind = 1) ∧ (∀ l ∈ ls, l.kind = 0 → l.from_ ≤ l.to_ ∧ l.to_ ≤ 1000000) ∧ widL ls ≤ 1000000 ∧
  ∀ (H' : Hp) (d : Addr), Same H H' → DictAt H' d ls → Q (.ref d) H'
abbrev sStanding : Stmt := top 45
theorem scStanding : FnScope ["lines", "standing", "order", "line", "place"] ["lines"] (defScope sStanding) := ⟨rfl, rfl, rfl, by decide +kernel, rfl, by decide +kernel, by decide +kernel⟩
theorem ok_standing (T : Txt mg) (TL : ClsF K cs.L nmL) (L : Laid K mg "standing_places" sStanding) : DefOk P w K mg base 1 "standing_places" ["lines"] (spStanding cs) := by
  obtain ⟨f, fd, g, F⟩ := L.ex
  refine ⟨f, fd, g, F.kp, F.binds fun _ _ _ _ _ _ us hl => match us, hl with | [_], _ => rfl, ?_⟩
  refine F.ok scStanding (fun vs H Q E h => by obtain ⟨_, _, rfl, _⟩ := h; rfl) (fun cdv A outer s H vs Q E hr h => ⟨_,
    pss_cons (ps_set (i := 1) scStanding.nd rfl (.inl rfl) pe_dnewT)
    (pss_cons (ps_for PassesOwn.never rfl (pi_enum (by rfl) T.enumerate (pa_cons (pv 0) pa_nil)) (pg_tup rfl (pgs_cons (pg_name (i := 2) scStanding.nd rfl (.inl rfl)) (pgs_cons (pg_name (i := 3) scStanding.nd rfl (.inl rfl)) pgs_nil)))
      (pss_one (ps_if (pt_not (pt_val (pe_fld (pv 3) rfl)))
        (pss_one (ps_for PassesOwn.never rfl (pi_range2 rfl T.range (pa_cons (pe_fld (pv 3) rfl) (pa_cons (pe_fld (pv 3) rfl) pa_nil))) (pg_name (i := 4) scStanding.nd rfl (.inl rfl))
          (pss_one (ps_dput (hu_of hr) (pv 1) (pe_tup (pa_cons (pe_fld (pv 3) rfl) (pa_cons (pv 4) pa_nil))) (pv 2) rfl)))) pss_nil)))
    (pss_one (ps_ret (pv 1)))), ?_⟩)
  obtain ⟨la, ls, rfl, hL, hkind, hft, hwid, q⟩ := h
  intro D hD
  obtain ⟨xs, hx, hxl⟩ := hL.lst
  have s0 : Same H (upd H D (.dT [])) := same_new hD
  refine ⟨_, rfl, la, xs, rfl, SqL.of (s0 _ _ hx), ?_⟩
  refine for_it (n := ls.length) (G := fun H => SqL K H la xs) (walk_len (walk_enum (K := K) (a := la) (xs := xs)) hxl)
    (fun j σ H' => Same H H' ∧ ∃ (v v' v'' : Option V) (kvs : List (List L2.Key × V)), σ = [some (.ref la), some (.ref D), v, v', v''] ∧ H' D = some (.dT kvs) ∧ (∀ p x : Nat, valV kvs (keyOf p x) = (stand ls p x j).map nV) ∧ kvs.length ≤ widL (ls.take j))
    ⟨s0, none, none, none, [], rfl, upd_same, fun p x => rfl, Nat.zero_le _⟩ (fun j σ H' _ h => SqL.of (h.1 _ _ hx)) ?_ ?_
  · rintro j y σ H1 H2 hj ⟨s1, v, v', v'', kvs, rfl, hk, hval, hlen⟩ ⟨Tt, y0, y1, rfl, hTt, rfl, hy0, hy1⟩
    have hy0' : y0 = .int ((j : Nat) : Int) := (Option.some.inj hy0).symm
    subst hy0'
    have s2 : Same H (upd H1 Tt (.tup [.int ((j : Nat) : Int), y1])) := Same.new s1 hTt
    have hl : ls[j]? = some ls[j] := List.getElem?_eq_getElem hj
    have hlm : ls[j] ∈ ls := List.getElem_mem hj
    obtain ⟨xs', a, hx', _, hxa, dx, ha⟩ := (hL.same s2).get hl
    have exx : xs' = xs := by
      have := hx'.symm.trans (s2 _ _ hx)
      exact HO.lst.inj (Option.some.inj this)
    rw [exx] at hxa
    have hy1' : y1 = .ref a := Option.some.inj (hy1.symm.trans hxa)
    subst hy1'
    refine ⟨Tt, _, rfl, SqT.of upd_same, rfl, _, _, rfl, _, _, rfl, rfl, ?_⟩
    have hk2 := keep (o := .tup [.int ((j : Nat) : Int), .ref a]) hk hTt
    generalize upd H1 Tt (.tup [.int ((j : Nat) : Int), .ref a]) = H2 at s2 ha hk2 ⊢
    refine ⟨_, rfl, a, cs.L, dx, _, _, rfl, ha, TL.cl, TL.na 5 _ rfl, lk_zip ndL (i := 5) rfl rfl, _, rfl, ?_⟩
    refine ite2 (fun c => ?_) (fun c => ?_)
    · have c' := nb_yes c
      have k0 : ls[j].kind = 0 := (hkind _ hlm).resolve_right c'
      have hb := hft _ hlm k0
      have hwj := widL_take hl
      rw [if_pos k0] at hwj
      have hwl := widL_le ls (j + 1)
      refine ⟨_, rfl, a, cs.L, dx, _, _, rfl, ha, TL.cl, TL.na 3 _ rfl, lk_zip ndL (i := 3) rfl rfl, _, rfl, a, cs.L, dx, _, _, rfl, ha, TL.cl, TL.na 4 _ rfl, lk_zip ndL (i := 4) rfl rfl, (ls[j].from_ : Int), (ls[j].to_ : Int), rfl, ⟨by omega, by omega, by omega, by omega⟩, ?_⟩
      have en : ((ls[j].to_ : Int) - (ls[j].from_ : Int)).toNat = ls[j].to_ - ls[j].from_ := by omega
      rw [en]
      refine for_range (lo := (ls[j].from_ : Int)) (n := ls[j].to_ - ls[j].from_) (fun m σ H' => Same H H' ∧ ∃ (v'' : Option V) (kvs : List (List L2.Key × V)), σ = [some (.ref la), some (.ref D), some (nV j), some (.ref a), v''] ∧ H' a = some (.ins cs.L dx (nmL.zip [nV ls[j].column, nV ls[j].row, nV ls[j].par, nV ls[j].from_, nV ls[j].to_, .bl (decide (ls[j].kind = 1))])) ∧ H' D = some (.dT kvs) ∧
          (∀ p x : Nat, valV kvs (keyOf p x) = if p = ls[j].par ∧ ls[j].from_ ≤ x ∧ x < ls[j].from_ + m then some (nV j) else (stand ls p x j).map nV) ∧ kvs.length ≤ widL (ls.take j) + m)
        ⟨s2, v'', kvs, rfl, ha, hk2, fun p x => by rw [if_neg (by omega)]; exact hval p x, hlen⟩ ?_ ?_
      · rintro m σ H' hm ⟨s3, u, kvs', rfl, ha3, hk3, hval3, hlen3⟩
        refine ⟨_, rfl, _, rfl, _, rfl, a, cs.L, dx, _, _, rfl, ha3, TL.cl, TL.na 2 _ rfl, lk_zip ndL (i := 2) rfl rfl, _, rfl, (by show 2 ≤ sizeLine; decide), fun Tk hTk => ?_⟩
        have hlt : kvs'.length < sizeLine := Nat.lt_of_le_of_lt (show kvs'.length ≤ 1000000 by omega) (by decide)
        refine ⟨D, _, rfl, DPut.t (k := keyOf ls[j].par (ls[j].from_ + m)) (keep hk3 hTk) upd_same hlt, ?_⟩
        have hne : a ≠ D := ne_of ha3 hk3 (fun z => HO.noConfusion z)
        refine ⟨Same.set (Same.new s3 hTk) hD, _, _, rfl, (upd_ne hne).trans (keep ha3 hTk), upd_same, fun p x => ?_, ?_⟩
        · rw [valV_put, hval3]
          by_cases e : keyOf p x = keyOf ls[j].par (ls[j].from_ + m)
          · rw [if_pos e]
            obtain ⟨e1, e2⟩ := key_eq.mp e
            rw [if_pos ⟨e1, by omega, by omega⟩]
          · rw [if_neg e]
            have e' : ¬ (p = ls[j].par ∧ x = ls[j].from_ + m) := fun z => e (key_eq.mpr z)
            by_cases c2 : p = ls[j].par ∧ ls[j].from_ ≤ x ∧ x < ls[j].from_ + m
            · rw [if_pos c2, if_pos ⟨c2.1, c2.2.1, by omega⟩]
            · rw [if_neg c2, if_neg (fun z => by
                by_cases e3 : x = ls[j].from_ + m
                · exact e' ⟨z.1, e3⟩
                · exact c2 ⟨z.1, z.2.1, by omega⟩)]
        · have := length_putK kvs' (keyOf ls[j].par (ls[j].from_ + m)) (nV j)
          omega
      · rintro σ H' ⟨s3, u, kvs', rfl, ha3, hk3, hval3, hlen3⟩
        refine ⟨s3, _, _, _, kvs', rfl, hk3, fun p x => ?_, by rw [hwj]; omega⟩
        rw [hval3, stand_some hl]
        have ec : (p = ls[j].par ∧ ls[j].from_ ≤ x ∧ x < ls[j].from_ + (ls[j].to_ - ls[j].from_)) ↔ cov p x ls[j] = true := by
          constructor
          · intro z
            unfold cov
            simp only [Bool.and_eq_true, beq_iff_eq, decide_eq_true_eq]
            exact ⟨⟨k0, z.1.symm⟩, z.2.1, by omega⟩
          · intro z
            obtain ⟨z1, z2, z3, z4⟩ := cov_true z
            exact ⟨z2.symm, z3, by omega⟩
        by_cases c2 : cov p x ls[j] = true
        · rw [if_pos (ec.mpr c2), if_pos c2]
          rfl
        · rw [if_neg (fun z => c2 (ec.mp z)), if_neg c2]
    · have c' := nb_no c
      have hwj := widL_take hl
      rw [if_neg (show ¬ ls[j].kind = 0 by omega)] at hwj
      refine ⟨s2, _, _, _, kvs, rfl, hk2, fun p x => ?_, by omega⟩
      rw [hval, stand_some hl, if_neg]
      intro z
      have := (cov_true z).1
      omega
  · rintro σ H' ⟨s1, v, v', v'', kvs, rfl, hk, hval, hlen⟩
    exact ⟨_, rfl, q H' D s1 ⟨kvs, hk, hval⟩⟩
end
end Hc

namespace Hc
open PySem PySem.Spec PyProof.Rows L2
open IhColumn (Width Setter Par Line)
/-- the lines that are told may be gone through -/
structure LinesFine (ls : List Line) : Prop where
  kinds : ∀ l ∈ ls, l.kind = 0 ∨ l.kind = 1
  ends : ∀ l ∈ ls, l.kind = 0 → l.from_ ≤ l.to_ ∧ l.to_ ≤ 1000000
  wide : widL ls ≤ 1000000
theorem LinesFine.nil : LinesFine [] := ⟨fun l h => by simp at h, fun l h => by simp at h, by unfold widL; simp⟩
/-- paragraphs, whatever is measured and broken of them -/
def PsE (cs : Ads) (H : Hp) (l : Addr) (ps : List Par) : Prop := ∃ (as : List Addr) (ms pl : Nat → Par → Ms), PsI cs H l as ps ms pl
theorem PsE.same {cs : Ads} {H H' : Hp} {l : Addr} {ps : List Par} (h : PsE cs H l ps) (s : Same H H') : PsE cs H' l ps := by
  obtain ⟨as, ms, pl, h⟩ := h
  exact ⟨as, ms, pl, h.same s⟩
theorem PsE.nil {cs : Ads} {H : Hp} {l : Addr} (h : H l = some (.lst [])) : PsE cs H l [] := ⟨[], fun _ _ => [], fun _ _ => [], h, rfl, fun i a p e => by simp at e⟩
/-- a setter -/
def StAt (cs : Ads) (H : Hp) (a : Addr) (d : IhColumns.State) : Prop := ∃ dx sa pa la da : Addr, H a = some (.ins cs.T dx (nmT.zip [.ref sa, .ref pa, .ref la, .ref da])) ∧ SheetAt cs H sa d.sheet ∧ PsE cs H pa d.pars ∧ LinesAt cs H la d.lines ∧ DictAt H da d.lines
theorem StAt.same {cs : Ads} {H H' : Hp} {a : Addr} {d : IhColumns.State} (h : StAt cs H a d) (s : Same H H') : StAt cs H' a d := by
  obtain ⟨dx, sa, pa, la, da, h1, h2, h3, h4, h5⟩ := h
  exact ⟨dx, sa, pa, la, da, s _ _ h1, h2.same s, h3.same s, h4.same s, h5.same s⟩
/-! ### what stands while a setter's or a reader's own fields change -/
section
variable {cs : Ads} {H H' : Hp} {x C dx : Addr} {names : List Str} {vals : List V}
theorem SheetAt.other {sa : Addr} {s : Setter} (h : SheetAt cs H sa s) (k : Kp [x] H H') (hx : H x = some (.ins C dx (names.zip vals))) (hl : names.length ≤ vals.length) (d1 : nmS ≠ names) (d2 : nmW ≠ names) : SheetAt cs H' sa s := by
  have ins := ins_one hx
  obtain ⟨d, ia, ra, wa, ca, h1, h2, h3, h4, h5⟩ := h
  have n1 : sa ∉ [x] := fun m => ins_apart h1 hx (by show 8 ≤ 8; decide) hl d1 (List.mem_singleton.mp m)
  have n2 : wa ∉ [x] := fun m => by
    obtain ⟨_, _, _, _, w1, _⟩ := id h4
    exact ins_apart w1 hx (by show 2 ≤ 2; decide) hl d2 (List.mem_singleton.mp m)
  exact ⟨d, ia, ra, wa, ca, k _ _ h1 n1, k.lst ins h2, h3.kp k ins, h4.kp k ins n2, k.lst ins h5⟩
theorem PsE.other {l : Addr} {ps : List Par} (h : PsE cs H l ps) (k : Kp [x] H H') (hx : H x = some (.ins C dx (names.zip vals))) (hl : names.length ≤ vals.length) (d1 : nmP ≠ names) : PsE cs H' l ps := by
  have ins := ins_one hx
  obtain ⟨as, ms, pl, h1, h2, h3⟩ := h
  refine ⟨as, ms, pl, k.lst ins h1, h2, fun i a p ha hp => ?_⟩
  have q := h3 i a p ha hp
  obtain ⟨d, _, _, _, e1, _⟩ := id q
  exact q.kp k ins fun m => ins_apart e1 hx (by show 6 ≤ 6; decide) hl d1 (List.mem_singleton.mp m)
theorem LinesAt.other {l : Addr} {ls : List Line} (h : LinesAt cs H l ls) (k : Kp [x] H H') (hx : H x = some (.ins C dx (names.zip vals))) (hl : names.length ≤ vals.length) (d1 : nmL ≠ names) : LinesAt cs H' l ls := by
  have ins := ins_one hx
  obtain ⟨as, h1, h2, h3⟩ := h
  refine ⟨as, k.lst ins h1, h2, fun i a p ha hp => ?_⟩
  obtain ⟨d, e1⟩ := h3 i a p ha hp
  exact ⟨d, k _ _ e1 fun m => ins_apart e1 hx (by show 6 ≤ 6; decide) hl d1 (List.mem_singleton.mp m)⟩
end
theorem fld_next' {K : PySem.W.Frag} {C : Addr} {names : List Str} {vals : List V} {k : Str} {v : V} {x dx : Addr} {H : Hp} {R : Hp → Prop} (TS : ClsF K C names) (hn : names.Nodup) (hk : names[vals.length]? = some k) (few : names.length < 1000)
    (hx : H x = some (.ins C dx (names.zip vals))) (h : ∀ H', Kp [x] H H' → H' x = some (.ins C dx (names.zip (vals ++ [v]))) → R H') :
    ∃ a C' dx' fs, V.ref x = .ref a ∧ H a = some (.ins C' dx' fs) ∧ Cls K C' ∧ NoAttr K C' k ∧ fs.length < 1000 ∧ R (upd H a (.ins C' dx' (putF k v fs))) :=
  ⟨x, C, dx, names.zip vals, rfl, hx, TS.cl, TS.na _ _ hk, by rw [List.length_zip]; omega, h _ kp_upd (ins_next hn hk)⟩
theorem fld_set' {K : PySem.W.Frag} {C : Addr} {names : List Str} {vals : List V} {k : Str} {v : V} {x dx : Addr} {H : Hp} {R : Hp → Prop} (i : Nat) (TS : ClsF K C names) (hn : names.Nodup) (hk : names[i]? = some k) (hl : i < vals.length) (few : names.length < 1000)
    (hx : H x = some (.ins C dx (names.zip vals))) (h : ∀ H', Kp [x] H H' → H' x = some (.ins C dx (names.zip (vals.set i v))) → R H') :
    ∃ a C' dx' fs, V.ref x = .ref a ∧ H a = some (.ins C' dx' fs) ∧ Cls K C' ∧ NoAttr K C' k ∧ fs.length < 1000 ∧ R (upd H a (.ins C' dx' (putF k v fs))) :=
  ⟨x, C, dx, names.zip vals, rfl, hx, TS.cl, TS.na _ _ hk, by rw [List.length_zip]; omega, h _ kp_upd (ins_set i hn hk hl)⟩
section
variable {P : Program} {w : World} {K : PySem.W.Frag} {mg : Str → Option Value} {base : Heap} {cs : Ads}
/-! ### Setter.keep_lines -/
def spKeep (cs : Ads) : Sp := fun vs H Q _ => ∃ (a dx sa pa la : Addr) (r : List V) (ls : List Line), vs = [.ref a, .ref pa, .ref la] ∧ H a = some (.ins cs.T dx (nmT.zip (.ref sa :: r))) ∧ (r = [] ∨ ∃ x y z, r = [x, y, z]) ∧ LinesAt cs H la ls ∧ LinesFine ls ∧
  ∀ (H' : Hp) (da : Addr), Kp [a] H H' → H' a = some (.ins cs.T dx (nmT.zip [.ref sa, .ref pa, .ref la, .ref da])) → DictAt H' da ls → Q .non H'
abbrev sKeep : Stmt := inClass (top 46) 1
theorem scKeep : FnScope ["self", "paragraphs", "lines"] ["self", "paragraphs", "lines"] (defScope sKeep) := ⟨rfl, rfl, rfl, by decide +kernel, rfl, by decide +kernel, by decide +kernel⟩
theorem ok_keep (TT : ClsF K cs.T nmT) (L : LaidM K cs.T "keep_lines" "Setter.keep_lines" sKeep) (D1 : DefOk P w K mg base 1 "standing_places" ["lines"] (spStanding cs)) : MethOk P w K mg base 2 cs.T "keep_lines" ["self", "paragraphs", "lines"] (spKeep cs) := by
  obtain ⟨f, fd, M, F⟩ := L.ex
  obtain ⟨f1, fd1, g1, kp1, b1, G1⟩ := D1.ex
  refine ⟨f, fd, M, F.binds fun _ _ _ _ _ _ us hl => match us, hl with | [_, _, _], _ => rfl, ?_⟩
  refine F.ok scKeep (fun vs H Q E h => by obtain ⟨_, _, _, _, _, _, _, rfl, _⟩ := h; rfl) (fun cdv A outer s H vs Q E hr h => ⟨_,
    pss_cons (ps_fld (pv 0) (pv 1) rfl) (pss_cons (ps_fld (pv 0) (pv 2) rfl) (pss_one (ps_fld (pv 0) (pe_call G1 hr rfl g1 kp1 b1 .nil pass0 (pa_cons (pv 2) pa_nil)) rfl))), ?_⟩)
  obtain ⟨a, dx, sa, pa, la, r, ls, rfl, h1, hr', hL, hF, q⟩ := h
  rcases hr' with rfl | ⟨x, y, z, rfl⟩
  · refine ⟨_, rfl, _, rfl, fld_next' TT ndT (vals := [.ref sa]) rfl (by decide) h1 fun H1 k1 x1 => ?_⟩
    have l1 := hL.other (names := nmT.take 1) (vals := [.ref sa]) k1 h1 (Nat.le_refl _) (by decide +kernel)
    refine ⟨_, rfl, _, rfl, fld_next' TT ndT (vals := [.ref sa, .ref pa]) rfl (by decide) x1 fun H2 k2 x2 => ?_⟩
    have l2 := l1.other (names := nmT.take 2) (vals := [.ref sa, .ref pa]) k2 x1 (Nat.le_refl _) (by decide +kernel)
    refine ⟨_, rfl, la, ls, rfl, l2, hF.kinds, hF.ends, hF.wide, fun H3 da s3 hd => ?_⟩
    refine ⟨_, rfl, fld_next' TT ndT (vals := [.ref sa, .ref pa, .ref la]) rfl (by decide) (s3 _ _ x2) fun H4 k4 x4 => ?_⟩
    exact q H4 da (((k1.trans k2).andSame s3).trans k4) x4 (hd.kp k4 (ins_one (s3 _ _ x2)))
  · refine ⟨_, rfl, _, rfl, fld_set' 1 TT ndT (vals := [.ref sa, x, y, z]) rfl (by show 1 < 4; decide) (by decide) h1 fun H1 k1 x1 => ?_⟩
    have l1 := hL.other (names := nmT) (vals := [.ref sa, x, y, z]) k1 h1 (Nat.le_refl _) (by decide +kernel)
    refine ⟨_, rfl, _, rfl, fld_set' 2 TT ndT (vals := [.ref sa, .ref pa, y, z]) rfl (by show 2 < 4; decide) (by decide) x1 fun H2 k2 x2 => ?_⟩
    have l2 := l1.other (names := nmT) (vals := [.ref sa, .ref pa, y, z]) k2 x1 (Nat.le_refl _) (by decide +kernel)
    refine ⟨_, rfl, la, ls, rfl, l2, hF.kinds, hF.ends, hF.wide, fun H3 da s3 hd => ?_⟩
    refine ⟨_, rfl, fld_set' 3 TT ndT (vals := [.ref sa, .ref pa, .ref la, z]) rfl (by show 3 < 4; decide) (by decide) (s3 _ _ x2) fun H4 k4 x4 => ?_⟩
    exact q H4 da (((k1.trans k2).andSame s3).trans k4) x4 (hd.kp k4 (ins_one (s3 _ _ x2)))
/-! ### Setter.__init__ -/
def spTInit (cs : Ads) : Sp := fun vs H Q _ => ∃ (H0 : Hp) (x dx : Addr), vs = [.ref x] ∧ Same H0 H ∧ H0 x = none ∧ H x = some (.ins cs.T dx []) ∧ ∀ H' : Hp, Same H0 H' → StAt cs H' x IhColumns.start → Q .non H'
abbrev sTInit : Stmt := inClass (top 46) 0
theorem scTInit : FnScope ["self"] ["self"] (defScope sTInit) := ⟨rfl, rfl, rfl, by decide +kernel, rfl, by decide +kernel, by decide +kernel⟩
theorem ok_t_init (T : Txt mg) (TT : ClsF K cs.T nmT) (L : LaidC K mg cs.T "Setter" "Setter.__init__" sTInit) (D1 : MakeOk P w K mg base 4 cs.S "Sheet" ["self", "numbers", "ranges", "cut"] (spSInit cs)) (D2 : MethOk P w K mg base 2 cs.T "keep_lines" ["self", "paragraphs", "lines"] (spKeep cs)) :
    MakeOk P w K mg base 6 cs.T "Setter" ["self"] (spTInit cs) := by
  obtain ⟨f, fd, M, g, F⟩ := L.ex
  obtain ⟨t1, m1⟩ := T.least
  obtain ⟨f1, fd1, M1, g1, b1, G1⟩ := D1.ex
  obtain ⟨f2, fd2, M2, b2, G2⟩ := D2.ex
  refine ⟨f, fd, M, g, F.binds fun _ _ _ _ _ _ us hl => match us, hl with | [_], _ => rfl, ?_⟩
  refine F.ok scTInit (fun vs H Q E h => by obtain ⟨_, _, _, rfl, _⟩ := h; rfl) (fun cdv A outer s H vs Q E hr h => ⟨_,
    pss_cons (ps_fld (pv 0) (pe_make M1 G1 hr rfl g1 b1 .nil pass0 (pa_cons (pe_lst (pa_cons pe_int (pa_cons (pe_glob (v := .int 3) rfl m1 ⟨_, rfl⟩) (pa_cons pe_int (pa_cons pe_int (pa_cons pe_int (pa_cons pe_int (pa_cons pe_int pa_nil)))))))) (pa_cons (pe_lst pa_nil) (pa_cons (pe_lst pa_nil) pa_nil)))) rfl)
    (pss_one (ps_expr (pe_meth (pv 0) TT.cl M2 G2 (hr.mono (by decide)) b2 .nil pass0 (pa_cons (pe_lst pa_nil) (pa_cons (pe_lst pa_nil) pa_nil))))), ?_⟩)
  obtain ⟨H0, x, dx, rfl, s0, nx, hx, q⟩ := h
  refine ⟨(by show 7 ≤ sizeLine; decide), fun na hna => ⟨(by show 0 ≤ sizeLine; decide), fun ra hra => ⟨(by show 0 ≤ sizeLine; decide), fun ca hca => ?_⟩⟩⟩
  intro sa ds nsa nds nds2
  have s1 := Same.new (o := .lst []) (Same.new (Same.new s0 hna) hra) hca
  have x1 := keep (o := .lst []) (keep (keep hx hna) hra) hca
  have e1 := keep (o := .lst []) (keep (o := .lst []) (upd_same (H := H) (a := na) (o := .lst [.int 0, .int 3, .int 0, .int 0, .int 0, .int 0, .int 0])) hra) hca
  have e2 := keep (o := .lst []) (upd_same (H := upd H na (.lst [.int 0, .int 3, .int 0, .int 0, .int 0, .int 0, .int 0])) (a := ra) (o := .lst [])) hca
  have e3 := upd_same (H := upd (upd H na (.lst [.int 0, .int 3, .int 0, .int 0, .int 0, .int 0, .int 0])) ra (.lst [])) (a := ca) (o := .lst [])
  generalize hH1 : upd (upd (upd H na (.lst [.int 0, .int 3, .int 0, .int 0, .int 0, .int 0, .int 0])) ra (.lst [])) ca (.lst []) = H1 at s1 x1 e1 e2 e3
  have nsa' : H1 sa = none := by rw [← hH1]; exact nsa
  have nds' : H1 ds = none := by rw [← hH1]; exact nds
  have snew : Same H1 (upd (upd H1 ds (.own sa)) sa (.ins cs.S ds [])) := fun b u e => by
    rw [upd_ne (ne_of_none e nsa'), upd_ne (ne_of_none e nds')]
    exact e
  subst hH1
  refine ⟨_, sa, ds, na, ra, ca, 0, 3, 0, 0, 0, 0, 0, [], [], rfl, snew, nsa', upd_same, e1, ⟨[], e2, rfl, fun i r w e => by simp at e⟩, by decide, e3, fun H2 s2 hS => ⟨rfl, ?_⟩⟩
  refine ⟨_, rfl, fld_next TT ndT (vals := []) rfl (by decide) (s1.trans s2) nx (s2 _ _ x1) fun H3 s3 k3 x3 => ?_⟩
  have hS3 := hS.other (names := nmT.take 0) (vals := []) k3 (s2 _ _ x1) (Nat.le_refl _) (by decide +kernel) (by decide +kernel)
  refine ⟨_, rfl, x, dx, _, rfl, x3, lk_none (by decide +kernel), (by show 0 ≤ sizeLine; decide), fun pa hpa => ⟨(by show 0 ≤ sizeLine; decide), fun la hla => ?_⟩⟩
  have s5 := Same.new (o := .lst []) (Same.new (o := .lst []) s3 hpa) hla
  have x5 := keep (o := .lst []) (keep (o := .lst []) x3 hpa) hla
  have p5 := keep (o := .lst []) (upd_same (H := H3) (a := pa) (o := .lst [])) hla
  have l5 := upd_same (H := upd H3 pa (.lst [])) (a := la) (o := .lst [])
  have hS5 := hS3.same (Same.new (o := .lst []) (same_new (o := .lst []) hpa) hla)
  refine ⟨x, dx, sa, pa, la, [], [], rfl, x5, .inl rfl, LinesAt.nil l5, LinesFine.nil, fun H6 da k6 x6 hd => ?_⟩
  have ins := ins_one x5
  refine q H6 ?_ ⟨dx, sa, pa, la, da, x6, ?_, PsE.nil (k6.lst ins p5), LinesAt.nil (k6.lst ins l5), hd⟩
  · exact (Kp.drop ((Same.kp s5 [x]).trans k6) (S' := []) fun b hb => .inr (by rw [List.mem_singleton] at hb; rw [hb]; exact nx)).same
  · exact hS5.other (names := nmT.take 1) (vals := [.ref sa]) k6 x5 (Nat.le_refl _) (by decide +kernel) (by decide +kernel)
end
end Hc

namespace Hc
open PySem PySem.Spec PyProof.Rows L2
open IhColumn (Width Setter Par Line)
open IhColumns (State)
open CoNeutral (numbers)
/-! ### what is answered, in the document's own words -/
theorem step_sheet_some {d : State} {h : IhColumn.House} {ws : List Width} {cut : List Nat} {r : Int} (e : sheetRef ⟨h, ws, cut⟩ = some r) : (IhColumns.step d (.sheet h ws cut)).1 = d ∧ numbers (IhColumns.step d (.sheet h ws cut)).2 = [r] := by
  unfold sheetRef beyondB wrongB at e
  show (if _ then _ else _ : State × IhColumns.Answer).1 = d ∧ _
  unfold IhColumns.step
  simp only []
  by_cases c1 : h.height < 3 ∨ 1000 < h.height ∨ 100 < h.gap ∨ 1000000 < h.width ∨ 256 < ws.length ∨ 64 < cut.length
  · rw [if_pos (decide_eq_true c1)] at e
    rw [if_pos c1]
    cases e
    exact ⟨rfl, rfl⟩
  · rw [if_neg (by rw [decide_eq_true_iff]; exact c1)] at e
    rw [if_neg c1]
    by_cases c2 : (ws.any fun (x : Width) => decide (x.to_ < x.from_) || decide (2 < x.kind)) = true
    · rw [if_pos c2] at e
      rw [if_pos c2]
      cases e
      exact ⟨rfl, rfl⟩
    · rw [if_neg c2] at e
      rw [if_neg c2]
      by_cases c3 : h.width < (⟨h, ws, cut⟩ : Setter).wide cut
      · rw [if_pos c3] at e
        rw [if_pos c3]
        cases e
        exact ⟨rfl, rfl⟩
      · rw [if_neg c3] at e
        cases e
theorem step_sheet_none {d : State} {h : IhColumn.House} {ws : List Width} {cut : List Nat} (e : sheetRef ⟨h, ws, cut⟩ = none) : IhColumns.step d (.sheet h ws cut) = (⟨⟨h, ws, cut⟩, [], []⟩, .number 0) ∧ ws.length ≤ 256 ∧ cut.length ≤ 64 ∧ ¬ h.width < (⟨h, ws, cut⟩ : Setter).wide cut := by
  unfold sheetRef beyondB wrongB at e
  unfold IhColumns.step
  simp only []
  by_cases c1 : h.height < 3 ∨ 1000 < h.height ∨ 100 < h.gap ∨ 1000000 < h.width ∨ 256 < ws.length ∨ 64 < cut.length
  · rw [if_pos (decide_eq_true c1)] at e
    cases e
  · rw [if_neg (by rw [decide_eq_true_iff]; exact c1)] at e
    rw [if_neg c1]
    by_cases c2 : (ws.any fun (x : Width) => decide (x.to_ < x.from_) || decide (2 < x.kind)) = true
    · rw [if_pos c2] at e
      cases e
    · rw [if_neg c2] at e
      rw [if_neg c2]
      by_cases c3 : h.width < (⟨h, ws, cut⟩ : Setter).wide cut
      · rw [if_pos c3] at e
        cases e
      · rw [if_neg c3]
        exact ⟨rfl, by omega, by omega, c3⟩
/-- what holds of a setter's state -/
structure StOk (d : State) : Prop where
  indent : d.sheet.house.indent.length = 3
  cutw : ¬ d.sheet.house.width < d.sheet.wide d.sheet.cut
  cutl : d.sheet.cut.length ≤ 64
  lines : LinesOk d.pars.length d.lines
  texts : ∀ p ∈ d.pars, p.text.length ≤ 65535
theorem StOk.start : StOk IhColumns.start := ⟨rfl, by decide, by decide, linesOk_nil _, fun p h => by simp [IhColumns.start] at h⟩
theorem textSum_prOf (s : Setter) (ps : List Par) : textSum (ps.map (prOf s)) = (ps.map fun (p : Par) => p.text.length).sum := by
  unfold textSum
  rw [List.map_map]
  rfl
theorem parsRef_fine {s : Setter} {ps : List Par} (e : parsRef s ps = none) (hc : ¬ s.house.width < s.wide s.cut) : Fine s ps ∧ textSum (ps.map (prOf s)) ≤ 262144 ∧ (∀ p ∈ ps, p.text.length ≤ 65535) ∧
    IhColumns.wrong 0 0 ps = none ∧ (ps.findIdx? fun (p : Par) => p.text.all s.blank) = none := by
  unfold parsRef at e
  cases hw : IhColumns.wrong 0 0 ps with
  | some i => rw [hw] at e; cases e
  | none =>
    rw [hw] at e
    simp only [] at e
    by_cases h2 : IhColumns.CHARS < (ps.map fun (p : Par) => p.text.length).sum
    · rw [if_pos h2] at e; cases e
    · rw [if_neg h2] at e
      cases h3 : ps.findIdx? fun (p : Par) => p.text.all s.blank with
      | some i => rw [h3] at e; cases e
      | none =>
        rw [h3] at e
        simp only [] at e
        cases h4 : ps.findIdx? fun (p : Par) => (s.lines p).isNone with
        | some i => rw [h4] at e; cases e
        | none =>
          obtain ⟨good, first⟩ := wrong_none ps 0 0 hw
          rw [List.findIdx?_eq_none_iff] at h3 h4
          refine ⟨⟨hc, fun p hp => ?_, fun p hp => (good p hp).2.2.2.2, fun p hp => ?_, fun p hp => h3 p hp⟩, ?_, fun p hp => (good p hp).2.2.2.1, rfl, by first | rfl | assumption⟩
          · have := first p hp
            have := (good p (List.mem_of_getElem? hp)).1
            omega
          · have := h4 p hp
            cases e5 : s.lines p with
            | none => rw [e5] at this; cases this
            | some l => exact ⟨l, rfl⟩
          · rw [textSum_prOf]
            unfold IhColumns.CHARS at h2
            omega
theorem fine_apart {s : Setter} {ps : List Par} (F : Fine s ps) : ∀ p ∈ ps.map (prOf s), Apart p.par.text.length 0 p.places := by
  intro p hp
  obtain ⟨q, hq, rfl⟩ := List.mem_map.mp hp
  obtain ⟨l, hl⟩ := F.some_ q hq
  show Apart q.text.length 0 ((s.lines q).getD [])
  rw [hl]
  exact lines_apart hl
theorem printed_some {d : State} {ps : List Par} {r : List Int} (e : parsRef d.sheet ps = some r) : (IhColumns.step d (.set ps)).1 = d ∧ numbers (IhColumns.step d (.set ps)).2 = r := by
  show (d.printed ps).1 = d ∧ numbers (d.printed ps).2 = r
  unfold parsRef at e
  unfold IhColumns.State.printed
  cases hw : IhColumns.wrong 0 0 ps with
  | some i =>
    rw [hw] at e
    cases e
    exact ⟨rfl, rfl⟩
  | none =>
    rw [hw] at e
    simp only [] at e ⊢
    by_cases h2 : IhColumns.CHARS < (ps.map fun (p : Par) => p.text.length).sum
    · rw [if_pos h2] at e
      rw [if_pos h2]
      cases e
      exact ⟨rfl, rfl⟩
    · rw [if_neg h2] at e
      rw [if_neg h2]
      cases h3 : ps.findIdx? fun (p : Par) => p.text.all d.sheet.blank with
      | some i =>
        rw [h3] at e
        cases e
        exact ⟨rfl, rfl⟩
      | none =>
        rw [h3] at e
        simp only [] at e ⊢
        unfold Setter.columns
        cases h4 : ps.findIdx? fun (p : Par) => (d.sheet.lines p).isNone with
        | some i =>
          rw [h4] at e
          cases e
          exact ⟨rfl, rfl⟩
        | none =>
          rw [h4] at e
          cases e
theorem printed_none {d : State} {ps : List Par} (e : parsRef d.sheet ps = none) (hc : ¬ d.sheet.house.width < d.sheet.wide d.sheet.cut) :
    IhColumns.step d (.set ps) = if IhColumns.LINES < (colsM d.sheet (ps.map (prOf d.sheet))).lines.length then (d, .refused 4) else ({ d with pars := ps, lines := (colsM d.sheet (ps.map (prOf d.sheet))).lines }, .number (colsM d.sheet (ps.map (prOf d.sheet))).lines.length) := by
  obtain ⟨F, hs, _, hw, hb⟩ := parsRef_fine e hc
  show d.printed ps = _
  unfold IhColumns.State.printed
  rw [hw]
  simp only []
  rw [if_neg (by rw [← textSum_prOf d.sheet]; unfold IhColumns.CHARS; omega), hb]
  simp only []
  rw [cols_is F]
theorem stOk_step {d : State} (h : StOk d) (c : IhColumns.Call) (hi : ∀ hh ws cut, c = .sheet hh ws cut → hh.indent.length = 3) : StOk (IhColumns.step d c).1 := by
  cases c with
  | sheet hh ws cut =>
    cases e : sheetRef ⟨hh, ws, cut⟩ with
    | some r => rw [(step_sheet_some e).1]; exact h
    | none =>
      obtain ⟨e1, e2, e3, e4⟩ := step_sheet_none (d := d) e
      rw [e1]
      exact ⟨hi _ _ _ rfl, e4, e3, linesOk_nil _, fun p h => by simp at h⟩
  | set ps =>
    cases e : parsRef d.sheet ps with
    | some r => rw [(printed_some e).1]; exact h
    | none =>
      rw [printed_none e h.cutw]
      split
      · exact h
      · refine ⟨h.indent, h.cutw, h.cutl, ?_, (parsRef_fine e h.cutw).2.2.1⟩
        have := (colsM_ok (s := d.sheet) (fine_apart (parsRef_fine e h.cutw).1)).1
        rw [List.length_map] at this
        exact this
  | line i => exact h
  | where_ p x => exact h
  | columns => exact h
/-- where lines of paragraphs end -/
theorem put_ends {c : Co} {n b e k m : Nat} (h : ∀ l ∈ c.lines, l.kind = 0 → l.from_ ≤ l.to_ ∧ l.to_ ≤ m) (hb : k = 0 → b ≤ e ∧ e ≤ m) : ∀ l ∈ (c.put n b e k).lines, l.kind = 0 → l.from_ ≤ l.to_ ∧ l.to_ ≤ m := by
  intro l hl hk
  rcases List.mem_append.mp hl with q | q
  · exact h l q hk
  · rw [List.mem_singleton] at q
    subst q
    exact hb hk
theorem room_ends {s : Setter} {c : Co} {n m : Nat} {o : Bool} (h : ∀ l ∈ c.lines, l.kind = 0 → l.from_ ≤ l.to_ ∧ l.to_ ≤ m) : ∀ l ∈ (c.room s n o).lines, l.kind = 0 → l.from_ ≤ l.to_ ∧ l.to_ ≤ m := by
  unfold Co.room
  split
  · exact h
  · split
    · exact h
    · exact put_ends (c := { c with column := c.column + 1, row := 0 }) h (fun z => by omega)
theorem colsM_ends {s : Setter} {ps : List Pr} {m : Nat} (ha : ∀ p ∈ ps, Apart p.par.text.length 0 p.places) (hm : ∀ p ∈ ps, p.par.text.length ≤ m) : ∀ l ∈ (colsM s ps).lines, l.kind = 0 → l.from_ ≤ l.to_ ∧ l.to_ ≤ m :=
  upTo_ind (f := Co.par s ps) (b := Co.new) (l := ps) (fun _ c => ∀ l ∈ c.lines, l.kind = 0 → l.from_ ≤ l.to_ ∧ l.to_ ≤ m) (fun l hl => by simp [Co.new] at hl) (fun k p c hk h => by
    have hp := List.mem_of_getElem? hk
    have hst : ∀ l ∈ (c.start s ps k p).lines, l.kind = 0 → l.from_ ≤ l.to_ ∧ l.to_ ≤ m := by
      unfold Co.start
      split
      · exact h
      · exact h
    exact upTo_ind (f := Co.line s k (needsOf ps k p) (decide (p.par.depth = 1))) (b := c.start s ps k p) (l := p.places) (fun _ c => ∀ l ∈ c.lines, l.kind = 0 → l.from_ ≤ l.to_ ∧ l.to_ ≤ m) hst (fun j x c2 hj h2 => by
      have g := (ha p hp).get hj
      have := hm p hp
      exact put_ends (room_ends h2) (fun _ => by omega)) p.places.length (Nat.le_refl _)) ps.length (Nat.le_refl _)
theorem colsM_fine {s : Setter} {ps : List Pr} (ha : ∀ p ∈ ps, Apart p.par.text.length 0 p.places) (hm : textSum ps ≤ 262144) : LinesFine (colsM s ps).lines := by
  obtain ⟨h1, h2, h3⟩ := colsM_ok (s := s) ha
  refine ⟨fun l hl => ?_, fun l hl hk => ?_, by omega⟩
  · rcases (h1.kinds l hl).2 with q | q
    · exact .inl q
    · exact .inr q.1
  · have := colsM_ends (s := s) ha (m := 262144) (fun p hp => by have := textSum_mem hp; omega) l hl hk
    omega
end Hc

namespace Hc
open PySem PySem.Spec PyProof.Rows L2
open IhColumn (Width Setter Par Line)
open IhColumns (State)
open CoNeutral (numbers)
abbrev ansOf (d : State) (c : IhColumns.Call) : List V := (numbers (IhColumns.step d c).2).map V.int
section
variable {P : Program} {w : World} {K : PySem.W.Frag} {mg : Str → Option Value} {base : Heap} {cs : Ads}
/-! ### Setter.set_sheet -/
def spSetSheet (cs : Ads) : Sp := fun vs H Q _ => ∃ (a sa : Addr) (d : State) (h : IhColumn.House) (ws : List Width) (cut : List Nat), vs = [.ref a, .ref sa] ∧ StAt cs H a d ∧ SheetAt cs H sa ⟨h, ws, cut⟩ ∧ ws.length ≤ 100000 ∧ cut.length ≤ 300000 ∧
  ∀ (H' : Hp) (l : Addr), Kp [a] H H' → StAt cs H' a (IhColumns.step d (.sheet h ws cut)).1 → H' l = some (.lst (ansOf d (.sheet h ws cut))) → Q (.ref l) H'
abbrev sSetSheet : Stmt := inClass (top 46) 2
theorem scSetSheet : FnScope ["self", "sheet", "refusal"] ["self", "sheet"] (defScope sSetSheet) := ⟨rfl, rfl, rfl, by decide +kernel, rfl, by decide +kernel, by decide +kernel⟩
theorem ok_set_sheet (TT : ClsF K cs.T nmT) (L : LaidM K cs.T "set_sheet" "Setter.set_sheet" sSetSheet) (D1 : DefOk P w K mg base 5 "sheet_refusal" ["sheet"] (spSheetRef cs)) (D2 : MethOk P w K mg base 2 cs.T "keep_lines" ["self", "paragraphs", "lines"] (spKeep cs)) :
    MethOk P w K mg base 6 cs.T "set_sheet" ["self", "sheet"] (spSetSheet cs) := by
  obtain ⟨f, fd, M, F⟩ := L.ex
  obtain ⟨f1, fd1, g1, kp1, b1, G1⟩ := D1.ex
  obtain ⟨f2, fd2, M2, b2, G2⟩ := D2.ex
  refine ⟨f, fd, M, F.binds fun _ _ _ _ _ _ us hl => match us, hl with | [_, _], _ => rfl, ?_⟩
  refine F.ok scSetSheet (fun vs H Q E h => by obtain ⟨_, _, _, _, _, _, rfl, _⟩ := h; rfl) (fun cdv A outer s H vs Q E hr h => ⟨_,
    pss_cons (ps_set (i := 2) scSetSheet.nd rfl (.inl rfl) (pe_call G1 hr rfl g1 kp1 b1 .nil pass0 (pa_cons (pv 1) pa_nil)))
    (pss_cons (ps_if (pt_cmp (pc_notN (pv 2))) (pss_one (ps_ret (pv 2))) pss_nil)
    (pss_cons (ps_fld (pv 0) (pv 1) rfl)
    (pss_cons (ps_expr (pe_meth (pv 0) TT.cl M2 G2 (hr.mono (by decide)) b2 .nil pass0 (pa_cons (pe_lst pa_nil) (pa_cons (pe_lst pa_nil) pa_nil))))
    (pss_one (ps_ret (pe_lst (pa_cons pe_int (pa_cons pe_int pa_nil)))))))), ?_⟩)
  obtain ⟨a, sa, d, h, ws, cut, rfl, hT, hS, hws, hcut, q⟩ := h
  refine ⟨_, rfl, sa, _, rfl, hS, hws, hcut, fun e H1 s1 => ?_, fun r e H1 l s1 hl => ?_⟩
  · obtain ⟨e1, _⟩ := step_sheet_none (d := d) e
    have q' : ∀ (H' : Hp) (l : Addr), Kp [a] H H' → StAt cs H' a ⟨⟨h, ws, cut⟩, [], []⟩ → H' l = some (.lst [.int 0, .int 0]) → Q (.ref l) H' := by
      intro H' l k t e2
      refine q H' l k ?_ ?_
      · rw [e1]; exact t
      · unfold ansOf; rw [e1]; exact e2
    obtain ⟨dx, oa, pa, la, da, h1, _⟩ := hT.same s1
    have hS1 := hS.same s1
    refine ⟨_, rfl, _, rfl, iteF ?_⟩
    refine ⟨_, rfl, _, rfl, fld_set' 0 TT ndT (vals := [.ref oa, .ref pa, .ref la, .ref da]) rfl (by show 0 < 4; decide) (by decide) h1 fun H2 k2 x2 => ?_⟩
    have hS2 := hS1.other k2 h1 (by show 4 ≤ 4; decide) (by decide +kernel) (by decide +kernel)
    refine ⟨_, rfl, a, dx, _, rfl, x2, lk_none (by decide +kernel), (by show 0 ≤ sizeLine; decide), fun pb hpb => ⟨(by show 0 ≤ sizeLine; decide), fun lb hlb => ?_⟩⟩
    have s4 : Same H2 (upd (upd H2 pb (.lst [])) lb (.lst [])) := Same.new (same_new hpb) hlb
    have p4 := keep (o := .lst []) (upd_same (H := H2) (a := pb) (o := .lst [])) hlb
    have l4 := upd_same (H := upd H2 pb (.lst [])) (a := lb) (o := .lst [])
    have hS4 := hS2.same s4
    refine ⟨a, dx, sa, pb, lb, _, [], rfl, s4 _ _ x2, .inr ⟨_, _, _, rfl⟩, LinesAt.nil l4, LinesFine.nil, fun H5 db k5 x5 hd => ?_⟩
    have ins := ins_one (s4 _ _ x2)
    refine ⟨(by show 2 ≤ sizeLine; decide), fun l hl => ?_⟩
    refine q' _ l ?_ (StAt.same ⟨dx, sa, pb, lb, db, x5, ?_, PsE.nil (k5.lst ins p4), LinesAt.nil (k5.lst ins l4), hd⟩ (same_new hl)) upd_same
    · exact ((((Same.kp s1 [a]).trans k2).andSame s4).trans k5).andSame (same_new hl)
    · exact hS4.other (names := nmT) (vals := [.ref sa, .ref pa, .ref la, .ref da]) k5 (s4 _ _ x2) (by show 4 ≤ 4; decide) (by decide +kernel) (by decide +kernel)
  · obtain ⟨e1, e2⟩ := step_sheet_some (d := d) e
    refine ⟨_, rfl, _, rfl, iteT ⟨_, rfl, ?_⟩⟩
    refine q H1 l (Same.kp s1 _) ?_ ?_
    · rw [e1]; exact hT.same s1
    · unfold ansOf; rw [e2]; exact hl
/-! ### Setter.set_paragraphs -/
def spSetPars (cs : Ads) : Sp := fun vs H Q _ => ∃ (Hb : Hp) (a l : Addr) (as : List Addr) (d : State) (ps : List Par), vs = [.ref a, .ref l] ∧ Same Hb H ∧ (∀ x ∈ as, Hb x = none) ∧ as.Nodup ∧ StAt cs Hb a d ∧ StOk d ∧ PsI cs H l as ps (fun _ _ => []) (fun _ _ => []) ∧ ps.length ≤ 100000 ∧
  ∀ (H' : Hp) (r : Addr), Kp [a] Hb H' → StAt cs H' a (IhColumns.step d (.set ps)).1 → H' r = some (.lst (ansOf d (.set ps))) → Q (.ref r) H'
abbrev sSetPars : Stmt := inClass (top 46) 3
theorem scSetPars : FnScope ["self", "paragraphs", "refusal", "lines"] ["self", "paragraphs"] (defScope sSetPars) := ⟨rfl, rfl, rfl, by decide +kernel, rfl, by decide +kernel, by decide +kernel⟩
theorem ok_set_pars (T : Txt mg) (TT : ClsF K cs.T nmT) (L : LaidM K cs.T "set_paragraphs" "Setter.set_paragraphs" sSetPars) (D1 : DefOk P w K mg base 7 "paragraphs_refusal" ["paragraphs", "sheet"] (spParsRef cs))
    (D2 : DefOk P w K mg base 7 "lines_in_columns" ["sheet", "paragraphs"] (spLines cs)) (D3 : MethOk P w K mg base 2 cs.T "keep_lines" ["self", "paragraphs", "lines"] (spKeep cs)) :
    MethOk P w K mg base 8 cs.T "set_paragraphs" ["self", "paragraphs"] (spSetPars cs) := by
  obtain ⟨f, fd, M, F⟩ := L.ex
  obtain ⟨t1, m1⟩ := T.mLines
  obtain ⟨f1, fd1, g1, kp1, b1, G1⟩ := D1.ex
  obtain ⟨f2, fd2, g2, kp2, b2, G2⟩ := D2.ex
  obtain ⟨f3, fd3, M3, b3, G3⟩ := D3.ex
  refine ⟨f, fd, M, F.binds fun _ _ _ _ _ _ us hl => match us, hl with | [_, _], _ => rfl, ?_⟩
  refine F.ok scSetPars (fun vs H Q E h => by obtain ⟨_, _, _, _, _, _, rfl, _⟩ := h; rfl) (fun cdv A outer s H vs Q E hr h => ⟨_,
    pss_cons (ps_set (i := 2) scSetPars.nd rfl (.inl rfl) (pe_call G1 hr rfl g1 kp1 b1 .nil pass0 (pa_cons (pv 1) (pa_cons (pe_fld (pv 0) rfl) pa_nil))))
    (pss_cons (ps_if (pt_cmp (pc_notN (pv 2))) (pss_one (ps_ret (pv 2))) pss_nil)
    (pss_cons (ps_set (i := 3) scSetPars.nd rfl (.inl rfl) (pe_call G2 hr rfl g2 kp2 b2 .nil pass0 (pa_cons (pe_fld (pv 0) rfl) (pa_cons (pv 1) pa_nil))))
    (pss_cons (ps_if (pt_cmpR op_gt (pe_callB call_len_seq (by rfl) T.len PySem.boot_len (pa_cons (pv 3) pa_nil)) (pe_glob (v := .int 65536) rfl m1 ⟨_, rfl⟩) (nomark _)) (pss_one (ps_ret (pe_lst (pa_cons (pe_un un_neg pe_int) pa_nil)))) pss_nil)
    (pss_cons (ps_expr (pe_meth (pv 0) TT.cl M3 G3 (hr.mono (by decide)) b3 .nil pass0 (pa_cons (pv 1) (pa_cons (pv 3) pa_nil))))
    (pss_one (ps_ret (pe_lst (pa_cons pe_int (pa_cons (pe_callB call_len_seq (by rfl) T.len PySem.boot_len (pa_cons (pv 3) pa_nil)) pa_nil))))))))), ?_⟩)
  obtain ⟨Hb, a, l, as, d, ps, rfl, s0, has, hnd, hT, hO, hP, hmany, q⟩ := h
  obtain ⟨dx, sa, pa, la, da, h1, h2, h3, h4, h5⟩ := id hT
  refine ⟨_, rfl, _, rfl, a, cs.T, dx, _, _, rfl, s0 _ _ h1, TT.cl, TT.na 0 _ rfl, lk_zip ndT (i := 0) rfl rfl, Hb, l, sa, as, d.sheet, ps, rfl, s0, has, hnd, h2, hO.indent, hmany, hP, fun r e H1 p s1 hp => ?_, fun e H1 s1 hP1 => ?_⟩
  · obtain ⟨e1, e2⟩ := printed_some e
    refine ⟨_, rfl, _, rfl, iteT ⟨_, rfl, ?_⟩⟩
    refine q H1 p (Same.kp s1 _) ?_ ?_
    · rw [e1]; exact hT.same s1
    · unfold ansOf; rw [e2]; exact hp
  · obtain ⟨F, hsum, hlen, hw, hb⟩ := parsRef_fine e hO.cutw
    have est := printed_none e hO.cutw
    have hfa := fine_apart F
    refine ⟨_, rfl, _, rfl, iteF ?_⟩
    have hPr : ParsAt cs H1 l d.sheet (ps.map (prOf d.sheet)) := ⟨as, hP1.1, by rw [List.length_map]; exact hP1.2.1, fun i b pr hb hpr => by
      rw [List.getElem?_map] at hpr
      cases g : ps[i]? with
      | none => rw [g] at hpr; cases hpr
      | some p =>
        rw [g] at hpr
        cases hpr
        exact hP1.2.2 i b p hb g⟩
    refine ⟨_, rfl, a, cs.T, dx, _, _, rfl, s1 _ _ h1, TT.cl, TT.na 0 _ rfl, lk_zip ndT (i := 0) rfl rfl, _, rfl, sa, l, d.sheet, ps.map (prOf d.sheet), rfl, h2.same s1, hPr, by rw [List.length_map]; exact hmany, fun p hp => ?_, hfa, hsum, hO.cutw, by have := hO.cutl; omega, fun H2 lb s2 hL => ?_⟩
    · obtain ⟨p', hp', rfl⟩ := List.mem_map.mp hp
      exact F.lead p' hp'
    · obtain ⟨xs, hx, hxl⟩ := hL.lst
      have hfine := colsM_fine (s := d.sheet) hfa hsum
      generalize (colsM d.sheet (ps.map (prOf d.sheet))).lines = ls at *
      refine ⟨_, rfl, lb, xs, rfl, .inl (SqL.of hx), _, _, rfl, rfl, _, rfl, ?_⟩
      refine ite2 (fun c => ?_) (fun c => ?_)
      · have c' := of_decide_eq_true c
        have est' : IhColumns.step d (.set ps) = (d, .refused 4) := by rw [est, if_pos (by unfold IhColumns.LINES; omega)]
        refine ⟨_, rfl, (by show 1 ≤ sizeLine; decide), fun r hr => ?_⟩
        refine q _ r (Same.kp (Same.new (s1.trans s2) hr) _) ?_ ?_
        · rw [est']; exact (hT.same (s1.trans s2)).same (same_new hr)
        · unfold ansOf; rw [est']; exact upd_same
      · have c' := of_decide_eq_false (Bool.eq_false_iff.mpr c)
        have est' : IhColumns.step d (.set ps) = ({ d with pars := ps, lines := ls }, .number ls.length) := by rw [est, if_neg (by unfold IhColumns.LINES; omega)]
        refine ⟨_, rfl, a, dx, _, rfl, s2 _ _ (s1 _ _ h1), lk_none (by decide +kernel), _, rfl, _, rfl, a, dx, sa, l, lb, _, ls, rfl, s2 _ _ (s1 _ _ h1), .inr ⟨_, _, _, rfl⟩, hL, hfine, fun H3 db k3 x3 hd => ?_⟩
        have ins := ins_one (s2 _ _ (s1 _ _ h1))
        have hx3 := k3.lst ins hx
        refine ⟨_, rfl, lb, xs, rfl, .inl (SqL.of hx3), (by show 2 ≤ sizeLine; decide), fun r hr => ?_⟩
        have hS3 := (h2.same (s1.trans s2)).other (names := nmT) (vals := [.ref sa, .ref pa, .ref la, .ref da]) k3 (s2 _ _ (s1 _ _ h1)) (by show 4 ≤ 4; decide) (by decide +kernel) (by decide +kernel)
        have hE3 : PsE cs H3 l ps := PsE.other (names := nmT) (vals := [.ref sa, .ref pa, .ref la, .ref da]) ⟨as, _, _, hP1.same s2⟩ k3 (s2 _ _ (s1 _ _ h1)) (by show 4 ≤ 4; decide) (by decide +kernel)
        have hL3 := hL.other (names := nmT) (vals := [.ref sa, .ref pa, .ref la, .ref da]) k3 (s2 _ _ (s1 _ _ h1)) (by show 4 ≤ 4; decide) (by decide +kernel)
        refine q _ r (((Same.kp (s1.trans s2) [a]).trans k3).andSame (same_new hr)) ?_ ?_
        · rw [est']
          exact StAt.same ⟨dx, sa, l, lb, db, x3, hS3, hE3, hL3, hd⟩ (same_new hr)
        · unfold ansOf
          rw [est', upd_same, hxl]
          rfl
end
end Hc

namespace Hc
open PySem PySem.Spec PyProof.Rows L2
open IhColumn (Width Setter Par Line)
open IhColumns (State)
open CoNeutral (numbers)
theorem PsE.get {cs : Ads} {H : Hp} {l : Addr} {ps : List Par} (h : PsE cs H l ps) {i : Nat} (hi : i < ps.length) :
    ∃ (xs : List V) (a dx ta ma pa : Addr), H l = some (.lst xs) ∧ xs[i]? = some (.ref a) ∧ H a = some (.ins cs.P dx (nmP.zip [nV ps[i].depth, nV ps[i].group, nV ps[i].lead, .ref ta, .ref ma, .ref pa])) ∧ H ta = some (.lst (ps[i].text.map nV)) := by
  obtain ⟨as, ms, pl, h1, h2, h3⟩ := h
  have e : as[i]? = some (as[i]'(by omega)) := List.getElem?_eq_getElem (by omega)
  obtain ⟨dx, ta, ma, pa, q1, q2, _⟩ := h3 i _ _ e (List.getElem?_eq_getElem hi)
  exact ⟨_, as[i]'(by omega), dx, ta, ma, pa, h1, by rw [List.getElem?_map, e]; rfl, q1, q2⟩
theorem map_ints (l : List Nat) : (CoNeutral.ints l).map V.int = l.map nV := by
  unfold CoNeutral.ints
  rw [List.map_map]
  rfl
section
variable {P : Program} {w : World} {K : PySem.W.Frag} {mg : Str → Option Value} {base : Heap} {cs : Ads}
/-! ### Setter.tell_line -/
def spTellLine (cs : Ads) : Sp := fun vs H Q _ => ∃ (a : Addr) (d : State) (i : Nat), vs = [.ref a, nV i] ∧ StAt cs H a d ∧ StOk d ∧ ∀ (H' : Hp) (r : Addr), Same H H' → H' r = some (.lst (ansOf d (.line i))) → Q (.ref r) H'
abbrev sTellLine : Stmt := inClass (top 46) 4
theorem scTellLine : FnScope ["self", "order", "line", "told"] ["self", "order"] (defScope sTellLine) := ⟨rfl, rfl, rfl, by decide +kernel, rfl, by decide +kernel, by decide +kernel⟩
theorem ok_tell_line (T : Txt mg) (TS : ClsF K cs.S nmS) (TP : ClsF K cs.P nmP) (TL : ClsF K cs.L nmL) (TT : ClsF K cs.T nmT) (L : LaidM K cs.T "tell_line" "Setter.tell_line" sTellLine) : MethOk P w K mg base 1 cs.T "tell_line" ["self", "order"] (spTellLine cs) := by
  obtain ⟨f, fd, M, F⟩ := L.ex
  refine ⟨f, fd, M, F.binds fun _ _ _ _ _ _ us hl => match us, hl with | [_, _], _ => rfl, ?_⟩
  refine F.ok scTellLine (fun vs H Q E h => by obtain ⟨_, _, _, rfl, _⟩ := h; rfl) (fun cdv A outer s H vs Q E hr h => ⟨_,
    pss_cons (ps_if (pt_cmpR op_ge (pv 1) (pe_callB call_len_seq (by rfl) T.len PySem.boot_len (pa_cons (pe_fld (pv 0) rfl) pa_nil)) (nomark _)) (pss_one (ps_ret (pe_lst (pa_cons (pe_un un_neg pe_int) pa_nil)))) pss_nil)
    (pss_cons (ps_set (i := 2) scTellLine.nd rfl (.inl rfl) (pe_ix ix_list (pe_fld (pv 0) rfl) (pv 1) (fun _ _ => rfl)))
    (pss_cons (ps_set (i := 3) scTellLine.nd rfl (.inl rfl) (pe_lst (pa_cons pe_int (pa_cons (pe_fld (pv 2) rfl) (pa_cons (pe_fld (pv 2) rfl) (pa_cons (pe_fld (pv 2) rfl) (pa_cons (pe_fld (pv 2) rfl) (pa_cons (pe_fld (pv 2) rfl) pa_nil))))))))
    (pss_cons (ps_expr (pe_bm PySem.F.plainAttrs_list PySem.F.slot_list_append PySem.F.type_list_append mt_append (pv 3) (pa_cons (pe_callTy call_int1 (by rfl) T.int (by decide +kernel) (pa_cons (pe_fld (pv 2) rfl) pa_nil)) pa_nil)))
    (pss_cons (ps_expr (pe_bm PySem.F.plainAttrs_list PySem.F.slot_list_extend PySem.F.type_list_extend mt_extend (pv 3) (pa_cons (pe_slice sl_list (pe_fld (pe_ix ix_list (pe_fld (pv 0) rfl) (pe_fld (pv 2) rfl) (fun _ _ => rfl)) rfl) (po_some (pe_fld (pv 2) rfl)) (po_some (pe_fld (pv 2) rfl))) pa_nil)))
    (pss_cons (ps_if (pt_val (pe_fld (pv 2) rfl)) (pss_one (ps_expr (pe_bm PySem.F.plainAttrs_list PySem.F.slot_list_extend PySem.F.type_list_extend mt_extend (pv 3) (pa_cons (pe_fld (pe_fld (pv 0) rfl) rfl) pa_nil)))) pss_nil)
    (pss_one (ps_ret (pv 3)))))))), ?_⟩)
  obtain ⟨a, d, i, rfl, hT, hO, q⟩ := h
  have hbig : ∀ p ∈ d.pars, p.text.length ≤ 100000 := fun p hp => by have := hO.texts p hp; omega
  obtain ⟨dx, sa, pa, la, da, h1, h2, h3, h4, h5⟩ := id hT
  obtain ⟨xs, hx, hxl⟩ := h4.lst
  refine ⟨_, rfl, _, rfl, a, cs.T, dx, _, _, rfl, h1, TT.cl, TT.na 2 _ rfl, lk_zip ndT (i := 2) rfl rfl, la, xs, rfl, .inl (SqL.of hx), _, _, rfl, rfl, _, rfl, ?_⟩
  rw [hxl]
  refine ite2 (fun c => ?_) (fun c => ?_)
  · have c' := of_decide_eq_true c
    refine ⟨_, rfl, (by show 1 ≤ sizeLine; decide), fun r hr => ?_⟩
    refine q _ r (same_new hr) ?_
    have en : d.lines[i]? = none := List.getElem?_eq_none (by omega)
    have ea : IhColumns.step d (.line i) = (d, .refused 5) := by
      show (d, _) = _
      rw [en]
    unfold ansOf
    rw [ea]
    exact upd_same
  · have c' := of_decide_eq_false (Bool.eq_false_iff.mpr c)
    have hi : i < d.lines.length := by omega
    have hl : d.lines[i]? = some d.lines[i] := List.getElem?_eq_getElem hi
    obtain ⟨xs', b, hx', _, hxb, db, hb⟩ := h4.get hl
    have hk := hO.lines.kinds _ (List.getElem_mem hi)
    have ea : ansOf d (.line i) = [nV 0, nV d.lines[i].column, nV d.lines[i].row, nV d.lines[i].par, nV d.lines[i].from_, nV d.lines[i].to_, nV d.lines[i].kind] ++ (d.lineText d.lines[i]).map nV := by
      have : IhColumns.step d (.line i) = (d, .line d.lines[i] (d.lineText d.lines[i])) := by
        show (d, _) = _
        rw [hl]
      unfold ansOf
      rw [this]
      show V.int 0 :: (CoNeutral.ints _).map V.int = _
      rw [map_ints, List.map_append]
      rfl
    rw [ea] at q
    generalize d.lines[i] = ln at *
    obtain ⟨ys, c1, dc, tc, mc, pc, hy, hyc, hc, ht⟩ := h3.get hk.1
    have hlen := hbig _ (List.getElem_mem hk.1)
    have elt : d.lineText ln = if ln.kind = 1 then (d.pars[ln.par]'hk.1).text.take ln.to_ ++ d.sheet.cut else ((d.pars[ln.par]'hk.1).text.take ln.to_).drop ln.from_ := by
      unfold IhColumns.State.lineText
      rw [List.getElem?_eq_getElem hk.1]
      rfl
    rw [elt] at q
    generalize (d.pars[ln.par]'hk.1).text = tx at *
    have htl : ∀ j k, (((tx.map nV).take j).drop k).length ≤ 100000 := fun j k => by
      rw [List.length_drop, List.length_take, List.length_map]
      omega
    refine ⟨_, rfl, a, cs.T, dx, _, _, rfl, h1, TT.cl, TT.na 2 _ rfl, lk_zip ndT (i := 2) rfl rfl, _, rfl, la, xs', _, .ref b, rfl, rfl, SqL.of hx', at_nat hxb rfl, ?_⟩
    refine ⟨_, rfl, b, cs.L, db, _, _, rfl, hb, TL.cl, TL.na 0 _ rfl, lk_zip ndL (i := 0) rfl rfl, _, rfl, b, cs.L, db, _, _, rfl, hb, TL.cl, TL.na 1 _ rfl, lk_zip ndL (i := 1) rfl rfl, _, rfl, b, cs.L, db, _, _, rfl, hb, TL.cl, TL.na 2 _ rfl, lk_zip ndL (i := 2) rfl rfl,
      _, rfl, b, cs.L, db, _, _, rfl, hb, TL.cl, TL.na 3 _ rfl, lk_zip ndL (i := 3) rfl rfl, _, rfl, b, cs.L, db, _, _, rfl, hb, TL.cl, TL.na 4 _ rfl, lk_zip ndL (i := 4) rfl rfl, (by show 6 ≤ sizeLine; decide), fun r hr => ?_⟩
    have s1 : Same H (upd H r (.lst [.int 0, nV ln.column, nV ln.row, nV ln.par, nV ln.from_, nV ln.to_])) := same_new hr
    -- the kind
    have ek : (.int (if decide (ln.kind = 1) = true then 1 else 0) : V) = nV ln.kind := by
      rcases hk.2 with z | ⟨z, _⟩
      · rw [z]; rfl
      · rw [z]; rfl
    refine ⟨_, rfl, .inl ⟨rfl, _, SqL.of upd_same⟩, _, rfl, b, cs.L, db, _, _, rfl, s1 _ _ hb, TL.cl, TL.na 5 _ rfl, lk_zip ndL (i := 5) rfl rfl, .inr ⟨_, rfl, r, _, _, rfl, rfl, upd_same, (by show 6 < sizeLine; decide), ?_⟩⟩
    rw [ek]
    have s2 : Same H (upd (upd H r (.lst [.int 0, nV ln.column, nV ln.row, nV ln.par, nV ln.from_, nV ln.to_])) r (.lst ([.int 0, nV ln.column, nV ln.row, nV ln.par, nV ln.from_, nV ln.to_] ++ [nV ln.kind]))) := Same.set s1 hr
    have r2 := upd_same (H := upd H r (.lst [.int 0, nV ln.column, nV ln.row, nV ln.par, nV ln.from_, nV ln.to_])) (a := r) (o := .lst ([.int 0, nV ln.column, nV ln.row, nV ln.par, nV ln.from_, nV ln.to_] ++ [nV ln.kind]))
    generalize upd (upd H r (.lst [.int 0, nV ln.column, nV ln.row, nV ln.par, nV ln.from_, nV ln.to_])) r (.lst ([.int 0, nV ln.column, nV ln.row, nV ln.par, nV ln.from_, nV ln.to_] ++ [nV ln.kind])) = H2 at s2 r2 ⊢
    -- the text
    refine ⟨_, rfl, .inl ⟨rfl, _, SqL.of r2⟩, _, rfl, a, cs.T, dx, _, _, rfl, s2 _ _ h1, TT.cl, TT.na 1 _ rfl, lk_zip ndT (i := 1) rfl rfl, _, rfl, b, cs.L, db, _, _, rfl, s2 _ _ hb, TL.cl, TL.na 2 _ rfl, lk_zip ndL (i := 2) rfl rfl, pa, ys, _, .ref c1, rfl, rfl, SqL.of (s2 _ _ hy), at_nat hyc rfl,
      c1, cs.P, dc, _, _, rfl, s2 _ _ hc, TP.cl, TP.na 3 _ rfl, lk_zip ndP (i := 3) rfl rfl, _, rfl, b, cs.L, db, _, _, rfl, s2 _ _ hb, TL.cl, TL.na 3 _ rfl, lk_zip ndL (i := 3) rfl rfl, _, rfl, _, rfl, b, cs.L, db, _, _, rfl, s2 _ _ hb, TL.cl, TL.na 4 _ rfl, lk_zip ndL (i := 4) rfl rfl, _, rfl, tc, _, rfl, SqL.of (s2 _ _ ht), fun t ht2 => ?_⟩
    rw [cut_in]
    have hsz : ([V.int 0, nV ln.column, nV ln.row, nV ln.par, nV ln.from_, nV ln.to_] ++ [nV ln.kind]).length + (((tx.map nV).take ln.to_).drop ln.from_).length ≤ sizeLine := by
      have := htl ln.to_ ln.from_
      exact Nat.le_trans (show _ ≤ 200000 by show 7 + _ ≤ 200000; omega) (by decide)
    refine ⟨r, t, _, _, rfl, rfl, keep r2 ht2, upd_same, hsz, ?_⟩
    have s3 : Same H (upd (upd H2 t (.lst (((tx.map nV).take ln.to_).drop ln.from_))) r (.lst ([V.int 0, nV ln.column, nV ln.row, nV ln.par, nV ln.from_, nV ln.to_] ++ [nV ln.kind] ++ ((tx.map nV).take ln.to_).drop ln.from_))) := Same.set (Same.new s2 ht2) hr
    have r3 := upd_same (H := upd H2 t (.lst (((tx.map nV).take ln.to_).drop ln.from_))) (a := r) (o := .lst ([V.int 0, nV ln.column, nV ln.row, nV ln.par, nV ln.from_, nV ln.to_] ++ [nV ln.kind] ++ ((tx.map nV).take ln.to_).drop ln.from_))
    generalize upd (upd H2 t (.lst (((tx.map nV).take ln.to_).drop ln.from_))) r (.lst ([V.int 0, nV ln.column, nV ln.row, nV ln.par, nV ln.from_, nV ln.to_] ++ [nV ln.kind] ++ ((tx.map nV).take ln.to_).drop ln.from_)) = H3 at s3 r3 ⊢
    refine ⟨_, rfl, b, cs.L, db, _, _, rfl, s3 _ _ hb, TL.cl, TL.na 5 _ rfl, lk_zip ndL (i := 5) rfl rfl, _, rfl, ?_⟩
    refine ite2 (fun ck => ?_) (fun ck => ?_)
    · have hk1 : ln.kind = 1 := of_decide_eq_true ck
      have hf0 : ln.from_ = 0 := by
        rcases hk.2 with z | ⟨_, z⟩
        · omega
        · exact z
      rw [if_pos hk1] at q
      obtain ⟨ds, ia, ra, wa, ca, e1, _, _, _, e5⟩ := id (h2.same s3)
      have hcl := hO.cutl
      refine ⟨_, rfl, .inl ⟨rfl, _, SqL.of r3⟩, _, rfl, a, cs.T, dx, _, _, rfl, s3 _ _ h1, TT.cl, TT.na 0 _ rfl, lk_zip ndT (i := 0) rfl rfl, sa, cs.S, ds, _, _, rfl, e1, TS.cl, TS.na 7 _ rfl, lk_zip ndS (i := 7) rfl rfl, r, ca, _, _, rfl, rfl, r3, e5, ?_, ?_⟩
      · have := htl ln.to_ ln.from_
        rw [List.length_append, List.length_map]
        exact Nat.le_trans (show _ ≤ 200000 by show 7 + _ + _ ≤ 200000; omega) (by decide)
      · refine ⟨_, rfl, q _ r (Same.set s3 hr) ?_⟩
        rw [upd_same, hf0, List.drop_zero, List.map_append, ← List.map_take, ← List.append_assoc]
        rfl
    · have hk1 : ¬ ln.kind = 1 := of_decide_eq_false (Bool.eq_false_iff.mpr ck)
      rw [if_neg hk1] at q
      refine ⟨_, rfl, q _ r s3 ?_⟩
      rw [r3, List.map_drop, List.map_take]
      rfl
/-! ### Setter.tell_where -/
def spTellWhere (cs : Ads) : Sp := fun vs H Q _ => ∃ (a : Addr) (d : State) (p x : Nat), vs = [.ref a, nV p, nV x] ∧ StAt cs H a d ∧ StOk d ∧ ∀ (H' : Hp) (r : Addr), Same H H' → H' r = some (.lst (ansOf d (.where_ p x))) → Q (.ref r) H'
abbrev sTellWhere : Stmt := inClass (top 46) 5
theorem scTellWhere : FnScope ["self", "paragraph", "place", "order"] ["self", "paragraph", "place"] (defScope sTellWhere) := ⟨rfl, rfl, rfl, by decide +kernel, rfl, by decide +kernel, by decide +kernel⟩
theorem ok_tell_where (TT : ClsF K cs.T nmT) (L : LaidM K cs.T "tell_where" "Setter.tell_where" sTellWhere) : MethOk P w K mg base 1 cs.T "tell_where" ["self", "paragraph", "place"] (spTellWhere cs) := by
  obtain ⟨f, fd, M, F⟩ := L.ex
  refine ⟨f, fd, M, F.binds fun _ _ _ _ _ _ us hl => match us, hl with | [_, _, _], _ => rfl, ?_⟩
  refine F.ok scTellWhere (fun vs H Q E h => by obtain ⟨_, _, _, _, rfl, _⟩ := h; rfl) (fun cdv A outer s H vs Q E hr h => ⟨_,
    pss_cons (ps_set (i := 3) scTellWhere.nd rfl (.inl rfl) (pe_dget1 (hu_of hr) (pe_fld (pv 0) rfl) (pe_tup (pa_cons (pv 1) (pa_cons (pv 2) pa_nil))) ⟨rfl, rfl, rfl, rfl⟩))
    (pss_cons (ps_if (pt_cmp (pc_isN (pv 3))) (pss_one (ps_ret (pe_lst (pa_cons (pe_un un_neg pe_int) pa_nil)))) pss_nil)
    (pss_one (ps_ret (pe_lst (pa_cons pe_int (pa_cons (pv 3) pa_nil)))))), ?_⟩)
  obtain ⟨a, d, p, x, rfl, hT, hO, q⟩ := h
  obtain ⟨dx, sa, pa, la, da, h1, h2, h3, h4, kvs, h5, h6⟩ := id hT
  have est : IhColumns.step d (.where_ p x) = (d, match stand d.lines p x d.lines.length with
      | some i => .number i
      | none => .refused 5) := by
    rw [← stand_is hO.lines]
    rfl
  have hv := h6 p x
  refine ⟨_, rfl, a, cs.T, dx, _, _, rfl, h1, TT.cl, TT.na 3 _ rfl, lk_zip ndT (i := 3) rfl rfl, da, rfl, .inr ⟨kvs, Rd.of h5⟩, _, rfl, _, rfl, (by show 2 ≤ sizeLine; decide), fun Tk hTk => ?_⟩
  refine ⟨_, DGet.t (k := keyOf p x) (keep h5 hTk) upd_same, ?_⟩
  rw [hv]
  unfold ansOf at q
  rw [est] at q
  cases hs : stand d.lines p x d.lines.length with
  | none =>
    rw [hs] at q
    refine ⟨_, rfl, _, rfl, iteT ⟨_, rfl, (by show 1 ≤ sizeLine; decide), fun r hr => ?_⟩⟩
    exact q _ r (Same.new (same_new hTk) hr) upd_same
  | some i =>
    rw [hs] at q
    refine ⟨_, rfl, _, rfl, iteF ⟨_, rfl, (by show 2 ≤ sizeLine; decide), fun r hr => ?_⟩⟩
    exact q _ r (Same.new (same_new hTk) hr) upd_same
/-! ### Setter.tell_columns -/
def spTellColumns (cs : Ads) : Sp := fun vs H Q _ => ∃ (a : Addr) (d : State), vs = [.ref a] ∧ StAt cs H a d ∧ StOk d ∧ ∀ (H' : Hp) (r : Addr), Same H H' → H' r = some (.lst (ansOf d .columns)) → Q (.ref r) H'
abbrev sTellColumns : Stmt := inClass (top 46) 6
theorem scTellColumns : FnScope ["self"] ["self"] (defScope sTellColumns) := ⟨rfl, rfl, rfl, by decide +kernel, rfl, by decide +kernel, by decide +kernel⟩
theorem ok_tell_columns (T : Txt mg) (TL : ClsF K cs.L nmL) (TT : ClsF K cs.T nmT) (L : LaidM K cs.T "tell_columns" "Setter.tell_columns" sTellColumns) : MethOk P w K mg base 1 cs.T "tell_columns" ["self"] (spTellColumns cs) := by
  obtain ⟨f, fd, M, F⟩ := L.ex
  refine ⟨f, fd, M, F.binds fun _ _ _ _ _ _ us hl => match us, hl with | [_], _ => rfl, ?_⟩
  refine F.ok scTellColumns (fun vs H Q E h => by obtain ⟨_, _, rfl, _⟩ := h; rfl) (fun cdv A outer s H vs Q E hr h => ⟨_,
    pss_cons (ps_if (pt_cmp (pc_eqI (pe_callB call_len_seq (by rfl) T.len PySem.boot_len (pa_cons (pe_fld (pv 0) rfl) pa_nil)) pe_int)) (pss_one (ps_ret (pe_lst (pa_cons pe_int (pa_cons pe_int pa_nil))))) pss_nil)
    (pss_one (ps_ret (pe_lst (pa_cons pe_int (pa_cons (pe_op op_add (pe_fld (pe_ix ix_list (pe_fld (pv 0) rfl) (pe_un un_neg pe_int) (fun _ _ => rfl)) rfl) pe_int) pa_nil))))), ?_⟩)
  obtain ⟨a, d, rfl, hT, hO, q⟩ := h
  obtain ⟨dx, sa, pa, la, da, h1, h2, h3, h4, h5⟩ := id hT
  obtain ⟨xs, hx, hxl⟩ := h4.lst
  have est : IhColumns.step d .columns = (d, .number (match d.lines.getLast? with
    | some l => l.column + 1
    | none => 0)) := congrArg (fun n => (d, IhColumns.Answer.number n)) (columns_is hO.lines)
  unfold ansOf at q
  rw [est] at q
  refine ⟨_, rfl, a, cs.T, dx, _, _, rfl, h1, TT.cl, TT.na 2 _ rfl, lk_zip ndT (i := 2) rfl rfl, la, xs, rfl, .inl (SqL.of hx), _, _, rfl, rfl, _, rfl, ?_⟩
  refine ite2 (fun c => ?_) (fun c => ?_)
  · have c' := of_decide_eq_true c
    have e0 : d.lines = [] := List.length_eq_zero_iff.mp (by omega)
    rw [e0] at q
    refine ⟨(by show 2 ≤ sizeLine; decide), fun r hr => ?_⟩
    exact q _ r (same_new hr) upd_same
  · have c' := of_decide_eq_false (Bool.eq_false_iff.mpr c)
    have hpos : 0 < d.lines.length := by omega
    have hl : d.lines[d.lines.length - 1]? = some (d.lines[d.lines.length - 1]'(by omega)) := List.getElem?_eq_getElem (by omega)
    have hlast : d.lines.getLast? = some (d.lines[d.lines.length - 1]'(by omega)) := by rw [List.getLast?_eq_getElem?]; exact hl
    rw [hlast] at q
    obtain ⟨xs', b, hx', hl', hxb, db, hb⟩ := h4.get hl
    have hat : atI xs' (-1) = some (.ref b) := by
      have hne : xs' ≠ [] := fun e => by rw [e] at hl'; simp at hl'; omega
      obtain ⟨ys, y, rfl⟩ : ∃ ys y, xs' = ys ++ [y] := by
        rcases List.eq_nil_or_concat xs' with h | ⟨l, b, h⟩
        · exact absurd h hne
        · exact ⟨l, b, by rw [h, List.concat_eq_append]⟩
      have : y = .ref b := by
        rw [← hl', List.length_append, List.length_singleton, Nat.add_sub_cancel, List.getElem?_append_right (Nat.le_refl _), Nat.sub_self] at hxb
        exact Option.some.inj hxb
      rw [← this]
      exact atI_last ys y
    refine ⟨_, rfl, a, cs.T, dx, _, _, rfl, h1, TT.cl, TT.na 2 _ rfl, lk_zip ndT (i := 2) rfl rfl, _, rfl, la, xs', _, .ref b, rfl, rfl, SqL.of hx', hat, b, cs.L, db, _, _, rfl, hb, TL.cl, TL.na 0 _ rfl, lk_zip ndL (i := 0) rfl rfl, _, _, rfl, rfl, (by show 2 ≤ sizeLine; decide), fun r hr => ?_⟩
    exact q _ r (same_new hr) upd_same
end
end Hc

namespace Hc
open PySem PySem.Spec PyProof.Rows L2
theorem sqSame {K : PySem.W.Frag} {H H' : Hp} {a : Addr} {xs : List V} (h : SqL K H a xs) (s : Same H H') : SqL K H' a xs :=
  h.elim (fun h => .inl (h.elim (fun h => .inl (s _ _ h)) fun ⟨o, h⟩ => .inr ⟨o, s _ _ h⟩)) fun h => .inr h
theorem sqKp {K : PySem.W.Frag} {S : List Addr} {H H' : Hp} {a : Addr} {xs : List V} (h : SqL K H a xs) (k : Kp S H H') (hS : ∀ b ∈ S, isIns H b) : SqL K H' a xs :=
  h.elim (fun h => .inl (h.elim (fun h => .inl (k.lst hS h)) fun ⟨o, h⟩ => .inr ⟨o, k _ _ h fun m => by
    obtain ⟨C, dx, fs, e⟩ := hS a m
    rw [h] at e
    cases e⟩)) fun h => .inr h
theorem fld_aug' {K : PySem.W.Frag} {C : Addr} {names : List Str} {vals : List V} {k : Str} {v : V} {x dx : Addr} {H : Hp} {R : Hp → Prop} (i : Nat) (hn : names.Nodup) (hk : names[i]? = some k) (hl : i < vals.length) (few : names.length < 1000)
    (hx : H x = some (.ins C dx (names.zip vals))) (h : ∀ H', Kp [x] H H' → H' x = some (.ins C dx (names.zip (vals.set i v))) → R H') :
    ∃ dx' fs', H x = some (.ins C dx' fs') ∧ fs'.length < 1000 ∧ R (upd H x (.ins C dx' (putF k v fs'))) :=
  ⟨dx, names.zip vals, hx, by rw [List.length_zip]; omega, h _ kp_upd (ins_set i hn hk hl)⟩
/-- the one who reads, at a place -/
def RdAt (cs : Ads) (H : Hp) (r ca : Addr) (k : Nat) : Prop := ∃ dx : Addr, H r = some (.ins cs.R dx (nmR.zip [.ref ca, nV k]))
theorem RdAt.same {cs : Ads} {H H' : Hp} {r ca : Addr} {k : Nat} (h : RdAt cs H r ca k) (s : Same H H') : RdAt cs H' r ca k := by
  obtain ⟨dx, h⟩ := h
  exact ⟨dx, s _ _ h⟩
theorem RdAt.ins {cs : Ads} {H : Hp} {r ca : Addr} {k : Nat} (h : RdAt cs H r ca k) : ∀ b ∈ [r], isIns H b := by
  obtain ⟨dx, h⟩ := h
  exact ins_one h
/-- lists of numbers -/
def ListsAt (H : Hp) (l : Addr) (xs : List (List Nat)) : Prop := ∃ as : List Addr, H l = some (.lst (as.map V.ref)) ∧ as.length = xs.length ∧ ∀ (i : Nat) (a : Addr) (x : List Nat), as[i]? = some a → xs[i]? = some x → H a = some (.lst (x.map nV))
theorem ListsAt.same {H H' : Hp} {l : Addr} {xs : List (List Nat)} (h : ListsAt H l xs) (s : Same H H') : ListsAt H' l xs := by
  obtain ⟨as, h1, h2, h3⟩ := h
  exact ⟨as, s _ _ h1, h2, fun i a x e g => s _ _ (h3 i a x e g)⟩
theorem ListsAt.get {H : Hp} {l : Addr} {xs : List (List Nat)} (h : ListsAt H l xs) {i : Nat} {x : List Nat} (hx : xs[i]? = some x) : ∃ (vs : List V) (a : Addr), H l = some (.lst vs) ∧ vs.length = xs.length ∧ vs[i]? = some (.ref a) ∧ H a = some (.lst (x.map nV)) := by
  obtain ⟨as, h1, h2, h3⟩ := h
  have hi := (List.getElem?_eq_some_iff.mp hx).1
  have e : as[i]? = some (as[i]'(by omega)) := List.getElem?_eq_getElem (by omega)
  refine ⟨_, as[i]'(by omega), h1, by rw [List.length_map]; exact h2, ?_, h3 i _ x e hx⟩
  rw [List.getElem?_map, e]
  rfl
/-- where the i-th of these lists begins, its length ahead -/
def posOf (k : Nat) (xs : List (List Nat)) (i : Nat) : Nat := k + ((xs.take i).map fun (x : List Nat) => x.length + 1).sum
theorem posOf_succ {k : Nat} {xs : List (List Nat)} {i : Nat} {x : List Nat} (h : xs[i]? = some x) : posOf k xs (i + 1) = posOf k xs i + 1 + x.length := by
  unfold posOf
  rw [List.take_succ, h]
  simp
  omega
def RowsAt (N : List Nat) (k : Nat) (xs : List (List Nat)) : Prop := ∀ (i : Nat) (x : List Nat), xs[i]? = some x → N[posOf k xs i]? = some x.length ∧ (N.drop (posOf k xs i + 1)).take x.length = x
section
variable {P : Program} {w : World} {K : PySem.W.Frag} {mg : Str → Option Value} {base : Heap} {cs : Ads}
/-! ### Reader.__init__ -/
def spRInit (cs : Ads) : Sp := fun vs H Q _ => ∃ (H0 : Hp) (x dx ca : Addr), vs = [.ref x, .ref ca] ∧ Same H0 H ∧ H0 x = none ∧ H x = some (.ins cs.R dx []) ∧ ∀ H' : Hp, Same H0 H' → RdAt cs H' x ca 0 → Q .non H'
abbrev sRInit : Stmt := inClass (top 47) 0
theorem scRInit : FnScope ["self", "calls"] ["self", "calls"] (defScope sRInit) := ⟨rfl, rfl, rfl, by decide +kernel, rfl, by decide +kernel, by decide +kernel⟩
theorem ok_r_init (TR : ClsF K cs.R nmR) (L : LaidC K mg cs.R "Reader" "Reader.__init__" sRInit) : MakeOk P w K mg base 1 cs.R "Reader" ["self", "calls"] (spRInit cs) := by
  obtain ⟨f, fd, M, g, F⟩ := L.ex
  refine ⟨f, fd, M, g, F.binds fun _ _ _ _ _ _ us hl => match us, hl with | [_, _], _ => rfl, ?_⟩
  refine F.ok scRInit (fun vs H Q E h => by obtain ⟨_, _, _, _, rfl, _⟩ := h; rfl) (fun cdv A outer s H vs Q E hr h => ⟨_,
    pss_cons (ps_fld (pv 0) (pv 1) rfl) (pss_one (ps_fld (pv 0) pe_int rfl)), ?_⟩)
  obtain ⟨H0, x, dx, ca, rfl, s0, nx, hx, q⟩ := h
  refine ⟨_, rfl, _, rfl, fld_next TR ndR (vals := []) rfl (by decide) s0 nx hx fun H1 s1 k1 x1 => ?_⟩
  refine ⟨_, rfl, fld_next TR ndR (vals := [.ref ca]) rfl (by decide) s1 nx x1 fun H2 s2 k2 x2 => ?_⟩
  exact q H2 s2 ⟨dx, x2⟩
/-! ### Reader.is_at_end -/
def spAtEnd (K : PySem.W.Frag) (cs : Ads) : Sp := fun vs H Q _ => ∃ (r ca : Addr) (k : Nat) (N : List Nat), vs = [.ref r] ∧ RdAt cs H r ca k ∧ SqL K H ca (N.map nV) ∧ Q (.bl (decide (k = N.length))) H
abbrev sAtEnd : Stmt := inClass (top 47) 1
theorem scAtEnd : FnScope ["self"] ["self"] (defScope sAtEnd) := ⟨rfl, rfl, rfl, by decide +kernel, rfl, by decide +kernel, by decide +kernel⟩
theorem ok_at_end (T : Txt mg) (TR : ClsF K cs.R nmR) (L : LaidM K cs.R "is_at_end" "Reader.is_at_end" sAtEnd) : MethOk P w K mg base 1 cs.R "is_at_end" ["self"] (spAtEnd K cs) := by
  obtain ⟨f, fd, M, F⟩ := L.ex
  refine ⟨f, fd, M, F.binds fun _ _ _ _ _ _ us hl => match us, hl with | [_], _ => rfl, ?_⟩
  refine F.ok scAtEnd (fun vs H Q E h => by obtain ⟨_, _, _, _, rfl, _⟩ := h; rfl) (fun cdv A outer s H vs Q E hr h => ⟨_,
    pss_one (ps_ret (pe_cmp (pc_eqI (pe_fld (pv 0) rfl) (pe_callB call_len_seq (by rfl) T.len PySem.boot_len (pa_cons (pe_fld (pv 0) rfl) pa_nil))))), ?_⟩)
  obtain ⟨r, ca, k, N, rfl, ⟨dx, h1⟩, hN, q⟩ := h
  refine ⟨_, rfl, r, cs.R, dx, _, _, rfl, h1, TR.cl, TR.na 1 _ rfl, lk_zip ndR (i := 1) rfl rfl, _, rfl, r, cs.R, dx, _, _, rfl, h1, TR.cl, TR.na 0 _ rfl, lk_zip ndR (i := 0) rfl rfl, ca, _, rfl, .inl hN, _, _, rfl, rfl, ?_⟩
  rw [List.length_map]
  exact qv q (congrArg V.bl (dec_int k N.length))
/-! ### Reader.read_number -/
def spReadNumber (K : PySem.W.Frag) (cs : Ads) : Sp := fun vs H Q _ => ∃ (r ca : Addr) (k : Nat) (N : List Nat) (n : Nat), vs = [.ref r] ∧ RdAt cs H r ca k ∧ SqL K H ca (N.map nV) ∧ N[k]? = some n ∧
  ∀ H' : Hp, Kp [r] H H' → RdAt cs H' r ca (k + 1) → Q (nV n) H'
abbrev sReadNumber : Stmt := inClass (top 47) 2
theorem scReadNumber : FnScope ["self", "number"] ["self"] (defScope sReadNumber) := ⟨rfl, rfl, rfl, by decide +kernel, rfl, by decide +kernel, by decide +kernel⟩
theorem ok_read_number (TR : ClsF K cs.R nmR) (L : LaidM K cs.R "read_number" "Reader.read_number" sReadNumber) : MethOk P w K mg base 1 cs.R "read_number" ["self"] (spReadNumber K cs) := by
  obtain ⟨f, fd, M, F⟩ := L.ex
  refine ⟨f, fd, M, F.binds fun _ _ _ _ _ _ us hl => match us, hl with | [_], _ => rfl, ?_⟩
  refine F.ok scReadNumber (fun vs H Q E h => by obtain ⟨_, _, _, _, _, rfl, _⟩ := h; rfl) (fun cdv A outer s H vs Q E hr h => ⟨_,
    pss_cons (ps_set (i := 1) scReadNumber.nd rfl (.inl rfl) (pe_ix ix_list (pe_fld (pv 0) rfl) (pe_fld (pv 0) rfl) (fun _ _ => rfl)))
    (pss_cons (ps_fldaug (pv 0) pe_int in_add)
    (pss_one (ps_ret (pv 1)))), ?_⟩)
  obtain ⟨r, ca, k, N, n, rfl, ⟨dx, h1⟩, hN, hn, q⟩ := h
  have hv : (N.map nV)[k]? = some (nV n) := by rw [List.getElem?_map, hn]; rfl
  refine ⟨_, rfl, r, cs.R, dx, _, _, rfl, h1, TR.cl, TR.na 0 _ rfl, lk_zip ndR (i := 0) rfl rfl, _, rfl, r, cs.R, dx, _, _, rfl, h1, TR.cl, TR.na 1 _ rfl, lk_zip ndR (i := 1) rfl rfl, ca, _, _, nV n, rfl, rfl, hN, at_nat hv rfl, ?_⟩
  refine ⟨_, rfl, r, cs.R, dx, _, _, rfl, h1, TR.cl, TR.na 1 _ rfl, lk_zip ndR (i := 1) rfl rfl, _, _, rfl, rfl, fld_aug' (K := K) 1 ndR rfl (by show 1 < 2; decide) (by decide) h1 fun H1 k1 x1 => ?_⟩
  exact ⟨_, rfl, q H1 k1 ⟨dx, x1⟩⟩
/-! ### Reader.read_list -/
def spReadList (K : PySem.W.Frag) (cs : Ads) : Sp := fun vs H Q _ => ∃ (r ca : Addr) (k : Nat) (N x : List Nat), vs = [.ref r] ∧ RdAt cs H r ca k ∧ SqL K H ca (N.map nV) ∧ N[k]? = some x.length ∧ (N.drop (k + 1)).take x.length = x ∧
  ∀ (H' : Hp) (p : Addr), Kp [r] H H' → RdAt cs H' r ca (k + 1 + x.length) → H p = none → H' p = some (.lst (x.map nV)) → Q (.ref p) H'
abbrev sReadList : Stmt := inClass (top 47) 3
theorem scReadList : FnScope ["self", "size", "begin"] ["self"] (defScope sReadList) := ⟨rfl, rfl, rfl, by decide +kernel, rfl, by decide +kernel, by decide +kernel⟩
theorem ok_read_list (TR : ClsF K cs.R nmR) (L : LaidM K cs.R "read_list" "Reader.read_list" sReadList) (D1 : MethOk P w K mg base 1 cs.R "read_number" ["self"] (spReadNumber K cs)) : MethOk P w K mg base 2 cs.R "read_list" ["self"] (spReadList K cs) := by
  obtain ⟨f, fd, M, F⟩ := L.ex
  obtain ⟨f1, fd1, M1, b1, G1⟩ := D1.ex
  refine ⟨f, fd, M, F.binds fun _ _ _ _ _ _ us hl => match us, hl with | [_], _ => rfl, ?_⟩
  refine F.ok scReadList (fun vs H Q E h => by obtain ⟨_, _, _, _, _, rfl, _⟩ := h; rfl) (fun cdv A outer s H vs Q E hr h => ⟨_,
    pss_cons (ps_set (i := 1) scReadList.nd rfl (.inl rfl) (pe_meth0 (pv 0) TR.cl M1 G1 hr b1 .nil pass0))
    (pss_cons (ps_set (i := 2) scReadList.nd rfl (.inl rfl) (pe_fld (pv 0) rfl))
    (pss_cons (ps_fldaug (pv 0) (pv 1) in_add)
    (pss_one (ps_ret (pe_slice sl_list (pe_fld (pv 0) rfl) (po_some (pv 2)) (po_some (pe_fld (pv 0) rfl))))))), ?_⟩)
  obtain ⟨r, ca, k, N, x, rfl, hR, hN, hn, hx, q⟩ := h
  obtain ⟨dx0, h0⟩ := id hR
  refine ⟨_, rfl, r, dx0, _, rfl, h0, lk_none (by decide +kernel), r, ca, k, N, x.length, rfl, hR, hN, hn, fun H1 k1 hR1 => ?_⟩
  have hN1 := sqKp hN k1 hR.ins
  obtain ⟨dx, h1⟩ := hR1
  refine ⟨_, rfl, r, cs.R, dx, _, _, rfl, h1, TR.cl, TR.na 1 _ rfl, lk_zip ndR (i := 1) rfl rfl, ?_⟩
  refine ⟨_, rfl, r, cs.R, dx, _, _, rfl, h1, TR.cl, TR.na 1 _ rfl, lk_zip ndR (i := 1) rfl rfl, _, rfl, _, _, rfl, rfl, fld_aug' (K := K) 1 ndR rfl (by show 1 < 2; decide) (by decide) h1 fun H2 k2 x2 => ?_⟩
  have hN2 := sqKp hN1 k2 (ins_one h1)
  have x2' : H2 r = some (.ins cs.R dx (nmR.zip [.ref ca, nV (k + 1 + x.length)])) := x2
  refine ⟨_, rfl, r, cs.R, dx, _, _, rfl, x2', TR.cl, TR.na 0 _ rfl, lk_zip ndR (i := 0) rfl rfl, _, rfl, _, rfl, _, rfl, r, cs.R, dx, _, _, rfl, x2', TR.cl, TR.na 1 _ rfl, lk_zip ndR (i := 1) rfl rfl, _, rfl, ca, _, rfl, hN2, fun p hp => ?_⟩
  rw [cut_in, List.drop_take, show k + 1 + x.length - (k + 1) = x.length by omega, ← List.map_drop, ← List.map_take, hx]
  have kk := k1.trans k2
  refine q _ p (kk.andSame (same_new hp)) ⟨dx, keep x2' hp⟩ ?_ upd_same
  cases e : H p with
  | none => rfl
  | some o =>
    exfalso
    by_cases m : p ∈ [r]
    · rw [List.mem_singleton] at m
      rw [m, x2'] at hp
      cases hp
    · have := kk _ _ e m
      rw [hp] at this
      cases this
/-! ### Reader.read_lists -/
def spReadLists (K : PySem.W.Frag) (cs : Ads) : Sp := fun vs H Q _ => ∃ (r ca : Addr) (k : Nat) (N : List Nat) (xs : List (List Nat)), vs = [.ref r] ∧ RdAt cs H r ca k ∧ SqL K H ca (N.map nV) ∧ N[k]? = some xs.length ∧ RowsAt N (k + 1) xs ∧ xs.length ≤ 100000 ∧
  ∀ (H' : Hp) (l : Addr), Kp [r] H H' → RdAt cs H' r ca (posOf (k + 1) xs xs.length) → ListsAt H' l xs → Q (.ref l) H'
abbrev sReadLists : Stmt := inClass (top 47) 4
theorem scReadLists : FnScope ["self", "lists", "order"] ["self"] (defScope sReadLists) := ⟨rfl, rfl, rfl, by decide +kernel, rfl, by decide +kernel, by decide +kernel⟩
theorem ok_read_lists (T : Txt mg) (TR : ClsF K cs.R nmR) (L : LaidM K cs.R "read_lists" "Reader.read_lists" sReadLists) (D1 : MethOk P w K mg base 1 cs.R "read_number" ["self"] (spReadNumber K cs)) (D2 : MethOk P w K mg base 2 cs.R "read_list" ["self"] (spReadList K cs)) :
    MethOk P w K mg base 3 cs.R "read_lists" ["self"] (spReadLists K cs) := by
  obtain ⟨f, fd, M, F⟩ := L.ex
  obtain ⟨f1, fd1, M1, b1, G1⟩ := D1.ex
  obtain ⟨f2, fd2, M2, b2, G2⟩ := D2.ex
  refine ⟨f, fd, M, F.binds fun _ _ _ _ _ _ us hl => match us, hl with | [_], _ => rfl, ?_⟩
  refine F.ok scReadLists (fun vs H Q E h => by obtain ⟨_, _, _, _, _, rfl, _⟩ := h; rfl) (fun cdv A outer s H vs Q E hr h => ⟨_,
    pss_cons (ps_set (i := 1) scReadLists.nd rfl (.inl rfl) (pe_lst pa_nil))
    (pss_cons (ps_for PassesOwn.never rfl (pi_range1 rfl T.range (pa_cons (pe_meth0 (pv 0) TR.cl M1 G1 (hr.mono (by decide)) b1 .nil pass0) pa_nil)) (pg_name (i := 2) scReadLists.nd rfl (.inl rfl))
      (pss_one (ps_expr (pe_bm PySem.F.plainAttrs_list PySem.F.slot_list_append PySem.F.type_list_append mt_append (pv 1) (pa_cons (pe_meth0 (pv 0) TR.cl M2 G2 hr b2 .nil pass0) pa_nil)))))
    (pss_one (ps_ret (pv 1)))), ?_⟩)
  obtain ⟨r, ca, k, N, xs, rfl, hR, hN, hn, hrows, hmany, q⟩ := h
  obtain ⟨dx0, h0⟩ := id hR
  refine ⟨(by show 0 ≤ sizeLine; decide), fun D hD => ?_⟩
  have s0 : Same H (upd H D (.lst [])) := same_new hD
  refine ⟨_, rfl, r, dx0, _, rfl, s0 _ _ h0, lk_none (by decide +kernel), r, ca, k, N, xs.length, rfl, hR.same s0, sqSame hN s0, hn, fun H1 k1 hR1 => ?_⟩
  have rD : r ≠ D := ne_of_none h0 hD
  have d1 : H1 D = some (.lst []) := k1 _ _ upd_same fun m => rD (List.mem_singleton.mp m).symm
  refine ⟨_, rfl, by omega, by omega, ?_⟩
  rw [show ((xs.length : Int)).toNat = xs.length by omega]
  have kk1 : Kp [r] H H1 := (Same.kp s0 [r]).trans k1
  refine for_range (lo := 0) (n := xs.length) (fun i σ H' => Kp [r] H H' ∧ RdAt cs H' r ca (posOf (k + 1) xs i) ∧ ∃ (v : Option V) (as : List Addr), σ = [some (.ref r), some (.ref D), v] ∧ H' D = some (.lst (as.map V.ref)) ∧ as.length = i ∧ (∀ a ∈ as, a ≠ D) ∧ ∀ (j : Nat) (a : Addr) (x : List Nat), as[j]? = some a → xs[j]? = some x → H' a = some (.lst (x.map nV)))
    ⟨kk1, by unfold posOf; exact hR1, none, [], rfl, d1, rfl, fun a m => by simp at m, fun j a x e => by simp at e⟩ ?_ ?_
  · rintro i σ H' hi ⟨k2, hR2, v, as, rfl, hd, hl, hne, hall⟩
    have hx : xs[i]? = some xs[i] := List.getElem?_eq_getElem hi
    obtain ⟨g1, g2⟩ := hrows i _ hx
    obtain ⟨dx2, h2⟩ := id hR2
    have hN2 := sqKp hN k2 hR.ins
    refine ⟨_, rfl, .inl ⟨rfl, _, SqL.of hd⟩, _, rfl, r, dx2, _, rfl, h2, lk_none (by decide +kernel), r, ca, posOf (k + 1) xs i, N, xs[i], rfl, hR2, hN2, g1, g2, fun H3 p k3 hR3 np hp => ?_⟩
    have ins := hR2.ins
    have hd3 := k3.lst ins hd
    have hpD : p ≠ D := fun z => by rw [z, hd] at np; cases np
    refine ⟨D, _, _, rfl, rfl, hd3, ?_, ?_⟩
    · rw [List.length_map, hl]
      exact Nat.lt_of_le_of_lt (show i ≤ 100000 by omega) (by decide)
    · obtain ⟨dx3, h3⟩ := id hR3
      have hrD : r ≠ D := rD
      refine ⟨?_, ⟨dx3, by rw [posOf_succ hx]; exact (upd_ne hrD).trans h3⟩, _, as ++ [p], rfl, ?_, ?_, ?_, ?_⟩
      · intro b o e m
        rw [upd_ne (ne_of_none e hD)]
        exact (k2.trans k3) b o e m
      · rw [upd_same, List.map_append]
        rfl
      · rw [List.length_append, hl]
        rfl
      · intro a m
        rcases List.mem_append.mp m with m | m
        · exact hne a m
        · rw [List.mem_singleton] at m
          rw [m]
          exact hpD
      · intro j a x ha hxx
        by_cases hj : j < as.length
        · rw [List.getElem?_append_left hj] at ha
          rw [upd_ne (hne a (List.mem_of_getElem? ha))]
          exact k3.lst ins (hall j a x ha hxx)
        · have hji : j = i := by
            have := (List.getElem?_eq_some_iff.mp ha).1
            rw [List.length_append, List.length_singleton] at this
            omega
          subst hji
          rw [List.getElem?_append_right (by omega), hl, Nat.sub_self] at ha
          have ea : p = a := Option.some.inj ha
          subst ea
          rw [hx] at hxx
          cases hxx
          rw [upd_ne hpD]
          exact hp
  · rintro σ H' ⟨k2, hR2, v, as, rfl, hd, hl, hne, hall⟩
    exact ⟨_, rfl, q H' D k2 hR2 ⟨as, hd, hl, hall⟩⟩
end
end Hc

namespace Hc
open PySem PySem.Spec PyProof.Rows L2
open IhColumn (Width Setter Par Line)
open IhColumns (State)
open CoNeutral (numbers widthsOf parOf)
/-! ### a heap without one of its things -/
def plainHO : HO → Prop
  | .lst _ => True
  | .tup _ => True
  | .ins _ _ _ => True
  | .dT _ => True
  | _ => False
/-- lists, tuples, instances and dicts stand as they did -/
def Near (H H' : Hp) : Prop := ∀ b o, H b = some o → plainHO o → H' b = some o
def hid (D : Addr) (H : Hp) : Hp := fun b => if b = D then none else H b
theorem hid_none {D : Addr} {H : Hp} : hid D H D = none := if_pos rfl
theorem hid_ne {D b : Addr} {H : Hp} (h : b ≠ D) : hid D H b = H b := if_neg h
theorem hid_some {D b : Addr} {H : Hp} {o : HO} (h : hid D H b = some o) : b ≠ D ∧ H b = some o := by
  by_cases e : b = D
  · rw [e, hid_none] at h
    cases h
  · rw [hid_ne e] at h
    exact ⟨e, h⟩
theorem hid_same {D : Addr} {H : Hp} : Same (hid D H) H := fun b o e => (hid_some e).2
theorem hid_sameU {D : Addr} {H : Hp} {o : HO} : Same (hid D H) (upd H D o) := fun b u e => by
  rw [upd_ne (hid_some e).1]
  exact (hid_some e).2
theorem hid_upd {D : Addr} {H : Hp} {o : HO} : hid D (upd H D o) = hid D H := funext fun b => by
  by_cases e : b = D
  · rw [e, hid_none, hid_none]
  · rw [hid_ne e, hid_ne e, upd_ne e]
theorem hid_near {D : Addr} {H : Hp} {od : Obj} {u : HO} (h : H D = some (.frz od u)) : Near H (hid D H) := fun b o e p => by
  by_cases c : b = D
  · rw [c, h] at e
    cases e
    exact p.elim
  · rw [hid_ne c]
    exact e
theorem hid_kp {D : Addr} {S : List Addr} {H H' : Hp} (k : Kp S H H') : Kp S (hid D H) (hid D H') := fun b o e m => by
  rw [hid_ne (hid_some e).1]
  exact k b o (hid_some e).2 m
theorem RngAt.near {H H' : Hp} {a : Addr} {ws : List Width} (h : RngAt H a ws) (k : Near H H') : RngAt H' a ws := by
  obtain ⟨rs, h1, h2, h3⟩ := h
  exact ⟨rs, k _ _ h1 trivial, h2, fun i r w e g => k _ _ (h3 i r w e g) trivial⟩
theorem MsAt.near {H H' : Hp} {p : Addr} {ms : Ms} (h : MsAt H p ms) (k : Near H H') : MsAt H' p ms := by
  obtain ⟨ts, a, b, c⟩ := h
  exact ⟨ts, k _ _ a trivial, b, fun i t e => k _ _ (c i t e) trivial⟩
theorem WidAt.near {cs : Ads} {H H' : Hp} {a : Addr} {ws : List Width} (h : WidAt cs H a ws) (k : Near H H') : WidAt cs H' a ws := by
  obtain ⟨dx, sa, fa, st, h1, h2, h3, h4, h5⟩ := h
  exact ⟨dx, sa, fa, st, k _ _ h1 trivial, k _ _ h2 trivial, h3, h4, h5.near k⟩
theorem SheetAt.near {cs : Ads} {H H' : Hp} {a : Addr} {s : Setter} (h : SheetAt cs H a s) (k : Near H H') : SheetAt cs H' a s := by
  obtain ⟨dx, ia, ra, wa, ca, h1, h2, h3, h4, h5⟩ := h
  exact ⟨dx, ia, ra, wa, ca, k _ _ h1 trivial, k _ _ h2 trivial, h3.near k, h4.near k, k _ _ h5 trivial⟩
theorem ParAt.near {cs : Ads} {H H' : Hp} {a : Addr} {p : Par} {ms pl : Ms} (h : ParAt cs H a p ms pl) (k : Near H H') : ParAt cs H' a p ms pl := by
  obtain ⟨dx, ta, ma, pa, h1, h2, h3, h4⟩ := h
  exact ⟨dx, ta, ma, pa, k _ _ h1 trivial, k _ _ h2 trivial, h3.near k, h4.near k⟩
theorem PsE.near {cs : Ads} {H H' : Hp} {l : Addr} {ps : List Par} (h : PsE cs H l ps) (k : Near H H') : PsE cs H' l ps := by
  obtain ⟨as, ms, pl, h1, h2, h3⟩ := h
  exact ⟨as, ms, pl, k _ _ h1 trivial, h2, fun i a p e g => (h3 i a p e g).near k⟩
theorem LinesAt.near {cs : Ads} {H H' : Hp} {p : Addr} {ls : List Line} (h : LinesAt cs H p ls) (k : Near H H') : LinesAt cs H' p ls := by
  obtain ⟨as, h1, h2, h3⟩ := h
  refine ⟨as, k _ _ h1 trivial, h2, fun i a l e g => ?_⟩
  obtain ⟨dx, h4⟩ := h3 i a l e g
  exact ⟨dx, k _ _ h4 trivial⟩
theorem DictAt.near {H H' : Hp} {d : Addr} {lines : List Line} (h : DictAt H d lines) (k : Near H H') : DictAt H' d lines := by
  obtain ⟨kvs, h1, h2⟩ := h
  exact ⟨kvs, k _ _ h1 trivial, h2⟩
theorem StAt.near {cs : Ads} {H H' : Hp} {a : Addr} {d : State} (h : StAt cs H a d) (k : Near H H') : StAt cs H' a d := by
  obtain ⟨dx, sa, pa, la, da, h1, h2, h3, h4, h5⟩ := h
  exact ⟨dx, sa, pa, la, da, k _ _ h1 trivial, h2.near k, h3.near k, h4.near k, h5.near k⟩
theorem ListsAt.near {H H' : Hp} {l : Addr} {xs : List (List Nat)} (h : ListsAt H l xs) (k : Near H H') : ListsAt H' l xs := by
  obtain ⟨as, h1, h2, h3⟩ := h
  exact ⟨as, k _ _ h1 trivial, h2, fun i a x e g => k _ _ (h3 i a x e g) trivial⟩
/-- a setter while another instance's fields change -/
theorem StAt.other {cs : Ads} {H H' : Hp} {x C dx : Addr} {names : List Str} {vals : List V} {a : Addr} {d : State} (h : StAt cs H a d) (k : Kp [x] H H') (hx : H x = some (.ins C dx (names.zip vals))) (hl : names.length ≤ vals.length)
    (d1 : nmS ≠ names) (d2 : nmW ≠ names) (d3 : nmP ≠ names) (d4 : nmL ≠ names) (d5 : nmT ≠ names) : StAt cs H' a d := by
  have ins := ins_one hx
  obtain ⟨dy, sa, pa, la, da, h1, h2, h3, h4, h5⟩ := h
  exact ⟨dy, sa, pa, la, da, k _ _ h1 (fun m => ins_apart h1 hx (by show 4 ≤ 4; decide) hl d5 (List.mem_singleton.mp m)), h2.other k hx hl d1 d2, h3.other k hx hl d3, h4.other k hx hl d4, h5.kp k ins⟩
/-- one who reads while another instance's fields change -/
theorem RdAt.other {cs : Ads} {H H' : Hp} {x C dx : Addr} {names : List Str} {vals : List V} {r ca : Addr} {n : Nat} (h : RdAt cs H r ca n) (k : Kp [x] H H') (hx : H x = some (.ins C dx (names.zip vals))) (hl : names.length ≤ vals.length) (d1 : nmR ≠ names) : RdAt cs H' r ca n := by
  obtain ⟨dy, h1⟩ := h
  exact ⟨dy, k _ _ h1 fun m => ins_apart h1 hx (by show 2 ≤ 2; decide) hl d1 (List.mem_singleton.mp m)⟩
/-! ### widths, four numbers each -/
theorem widthsOf_fours : ∀ (ws : List Nat) (W : List Width), widthsOf ws = some W → ws.length = 4 * W.length ∧ ∀ (i : Nat) (w : Width), W[i]? = some w → (ws.drop (4 * i)).take 4 = [w.from_, w.to_, w.width, w.kind]
  | [], W, h => by
    unfold widthsOf at h
    cases h
    exact ⟨rfl, fun i w e => by simp at e⟩
  | [_], W, h => by unfold widthsOf at h; cases h
  | [_, _], W, h => by unfold widthsOf at h; cases h
  | [_, _, _], W, h => by unfold widthsOf at h; cases h
  | a :: b :: w :: k :: l, W, h => by
    unfold widthsOf at h
    cases e : widthsOf l with
    | none => rw [e] at h; cases h
    | some t =>
      rw [e] at h
      cases h
      obtain ⟨h1, h2⟩ := widthsOf_fours l t e
      refine ⟨by simp only [List.length_cons]; omega, fun i x hx => ?_⟩
      cases i with
      | zero =>
        cases hx
        rfl
      | succ i =>
        rw [List.getElem?_cons_succ] at hx
        have := h2 i x hx
        rw [show 4 * (i + 1) = 4 * i + 4 by omega]
        show (List.drop (4 * i + 4) (a :: b :: w :: k :: l)).take 4 = _
        simp only [List.drop_succ_cons]
        exact this
theorem fours_rng (n : Nat) (hn : n ≤ 100000) : RgC 0 ((4 * n : Nat) : Int) 4 n := by
  have hs : Builtin.Range.rangeSize 0 ((4 * n : Nat) : Int) 4 = n := by
    unfold Builtin.Range.rangeSize
    rw [if_pos (by decide)]
    split <;> omega
  refine ⟨by decide, by decide, ?_, hs⟩
  unfold Builtin.Range.small
  rw [hs]
  unfold Builtin.Range.rangeFitsLong
  simp only [Bool.and_eq_true, Bool.or_eq_true, decide_eq_true_eq, beq_iff_eq]
  refine ⟨⟨⟨⟨⟨by omega, by omega⟩, ⟨by omega, by omega⟩⟩, ⟨by omega, by omega⟩⟩, ⟨by omega, by omega⟩⟩, .inr ?_⟩
  rw [if_pos (by decide)]
  simp only [Bool.and_eq_true, decide_eq_true_eq]
  exact ⟨by omega, by omega⟩
section
variable {P : Program} {w : World} {K : PySem.W.Frag} {mg : Str → Option Value} {base : Heap} {cs : Ads}
/-! ### sheet_of -/
def spSheetOf (cs : Ads) : Sp := fun vs H Q _ => ∃ (na l : Addr) (wd_ ht i1 i2 i3 tn gp : Nat) (ws cut : List Nat) (W : List Width), vs = [.ref na, .ref l] ∧ H na = some (.lst [nV wd_, nV ht, nV i1, nV i2, nV i3, nV tn, nV gp]) ∧ ListsAt H l [ws, cut] ∧ widthsOf ws = some W ∧ W.length ≤ 100000 ∧
  ∀ (H' : Hp) (s : Addr), Same H H' → SheetAt cs H' s ⟨⟨wd_, ht, [i1, i2, i3], tn, gp⟩, W, cut⟩ → Q (.ref s) H'
abbrev sSheetOf : Stmt := top 48
theorem scSheetOf : FnScope ["numbers", "lists", "widths", "ranges", "place"] ["numbers", "lists"] (defScope sSheetOf) := ⟨rfl, rfl, rfl, by decide +kernel, rfl, by decide +kernel, by decide +kernel⟩
theorem ok_sheet_of (T : Txt mg) (L : Laid K mg "sheet_of" sSheetOf) (D1 : MakeOk P w K mg base 4 cs.S "Sheet" ["self", "numbers", "ranges", "cut"] (spSInit cs)) : DefOk P w K mg base 6 "sheet_of" ["numbers", "lists"] (spSheetOf cs) := by
  obtain ⟨f, fd, g, F⟩ := L.ex
  obtain ⟨f1, fd1, M1, g1, b1, G1⟩ := D1.ex
  refine ⟨f, fd, g, F.kp, F.binds fun _ _ _ _ _ _ us hl => match us, hl with | [_, _], _ => rfl, ?_⟩
  refine F.ok scSheetOf (fun vs H Q E h => by obtain ⟨_, _, _, _, _, _, _, _, _, _, _, _, rfl, _⟩ := h; rfl) (fun cdv A outer s H vs Q E hr h => ⟨_,
    pss_cons (ps_set (i := 2) scSheetOf.nd rfl (.inr rfl) (pe_ix ix_list (pv 1) pe_int (fun _ _ => rfl)))
    (pss_cons (ps_setLc (i := 3) (own := [("place", 4)]) (g := gName 4) (tt := tYes) (te := tSl (rSlL K) (tVar 2) (tPart (tVar 4)) (tPart (tOp (rI0 fun i j => .int (i + j)) (tVar 4) (tC (.int 4))))) rfl scSheetOf.nd rfl rfl (sw_true rfl rfl rfl (by decide +kernel))
      (pi_range3 rfl T.range (pa_cons pe_int (pa_cons (pe_callB call_len_seq (by rfl) T.len PySem.boot_len (pa_cons (pv 2) pa_nil)) (pa_cons pe_int pa_nil))))
      (blkOk_by (N := ["numbers", "lists", "widths", "ranges", "place"]) (sc := defScope sSheetOf) (by decide +kernel))
      (fun _ _ _ _ _ => pg_name (i := 4) scSheetOf.nd rfl (.inl rfl)) (fun _ _ _ _ _ => pts_nil)
      (fun _ _ _ _ _ => pe_slice sl_list (pv 2) (po_some (pv 4)) (po_some (pe_op op_add (pv 4) pe_int))))
    (pss_one (ps_ret (pe_make M1 G1 hr rfl g1 b1 .nil pass0 (pa_cons (pv 0) (pa_cons (pv 3) (pa_cons (pe_ix ix_list (pv 1) pe_int (fun _ _ => rfl)) pa_nil))))))), ?_⟩)
  obtain ⟨na, l, wd_, ht, i1, i2, i3, tn, gp, ws, cut, W, rfl, hn, hL, hW, hmany, q⟩ := h
  obtain ⟨hlen, hfour⟩ := widthsOf_fours ws W hW
  obtain ⟨vs, wa, hl, hvl, hw0, hwa⟩ := hL.get (i := 0) rfl
  obtain ⟨vs', ca, hl', _, hc0, hca⟩ := hL.get (i := 1) rfl
  have evs : vs' = vs := HO.lst.inj (Option.some.inj (hl'.symm.trans hl))
  rw [evs] at hc0
  refine ⟨_, rfl, l, vs, _, .ref wa, rfl, rfl, SqL.of hl, at_nat (j := 0) hw0 rfl, _, rfl, wa, _, rfl, .inl (SqL.of hwa), 0, _, 4, W.length, rfl, ?_, fun D hD => ?_⟩
  · rw [List.length_map, hlen]
    exact fours_rng W.length hmany
  · refine lc_it walk_rangeC (fun i H' => Same H H' ∧ ∃ rs : List Addr, H' D = some (.lst (rs.map V.ref)) ∧ rs.length = i ∧ (∀ a ∈ rs, a ≠ D) ∧ ∀ (j : Nat) (r : Addr) (x : Width), rs[j]? = some r → W[j]? = some x → H' r = some (.lst [nV x.from_, nV x.to_, nV x.width, nV x.kind]))
      ⟨same_new hD, [], upd_same, rfl, fun a m => by simp at m, fun j r x e => by simp at e⟩ (fun _ _ _ _ => trivial) ?_ ?_
    · rintro i y H1 H2 hi ⟨s1, rs, hd, hrl, hne, hall⟩ ⟨rfl, rfl⟩
      have hx : W[i]? = some W[i] := List.getElem?_eq_getElem hi
      have h4 := hfour i _ hx
      refine ⟨rfl, _, rfl, _, rfl, _, rfl, _, rfl, _, _, rfl, rfl, _, rfl, wa, _, rfl, SqL.of (s1 _ _ hwa), fun p hp => ?_⟩
      have ec : cutV (ws.map nV) (some (0 + ((i : Nat) : Int) * 4)) (some (0 + ((i : Nat) : Int) * 4 + 4)) = [nV W[i].from_, nV W[i].to_, nV W[i].width, nV W[i].kind] := by
        rw [show (0 + ((i : Nat) : Int) * 4 + 4) = ((4 * i + 4 : Nat) : Int) by omega, show (0 + ((i : Nat) : Int) * 4) = ((4 * i : Nat) : Int) by omega, cut_in, List.drop_take, show 4 * i + 4 - 4 * i = 4 by omega, ← List.map_drop, ← List.map_take, h4]
        rfl
      rw [ec]
      have hpD : p ≠ D := fun z => by rw [z, hd] at hp; cases hp
      refine ⟨_, keep hd hp, ?_, Same.set (Same.new s1 hp) hD, rs ++ [p], ?_, ?_, ?_, ?_⟩
      · rw [List.length_map, hrl]
        exact Nat.lt_of_le_of_lt (show i ≤ 100000 by omega) (by decide)
      · rw [upd_same, List.map_append]
        rfl
      · rw [List.length_append, hrl]
        rfl
      · intro a m
        rcases List.mem_append.mp m with m | m
        · exact hne a m
        · rw [List.mem_singleton] at m
          rw [m]
          exact hpD
      · intro j r x hr hxx
        by_cases hj : j < rs.length
        · rw [List.getElem?_append_left hj] at hr
          rw [upd_ne (hne r (List.mem_of_getElem? hr))]
          exact keep (hall j r x hr hxx) hp
        · have hji : j = i := by
            have := (List.getElem?_eq_some_iff.mp hr).1
            rw [List.length_append, List.length_singleton] at this
            omega
          subst hji
          rw [List.getElem?_append_right (by omega), hrl, Nat.sub_self] at hr
          have ea : p = r := Option.some.inj hr
          subst ea
          rw [hx] at hxx
          cases hxx
          rw [upd_ne hpD]
          exact upd_same
    · rintro H1 ⟨s1, rs, hd, hrl, hne, hall⟩
      refine ⟨_, rfl, _, rfl, _, rfl, l, vs, _, .ref ca, rfl, rfl, SqL.of (s1 _ _ hl), at_nat (j := 1) hc0 rfl, fun x dx nx ndx ne => ?_⟩
      have snew : Same H1 (upd (upd H1 dx (.own x)) x (.ins cs.S dx [])) := fun b u e => by
        rw [upd_ne (ne_of_none e nx), upd_ne (ne_of_none e ndx)]
        exact e
      exact ⟨H1, x, dx, na, D, ca, wd_, ht, i1, i2, i3, tn, gp, W, cut, rfl, snew, nx, upd_same, s1 _ _ hn, ⟨rs, hd, hrl, hall⟩, hmany, s1 _ _ hca, fun H2 s2 hS => ⟨rfl, q H2 x (s1.trans s2) hS⟩⟩
end
end Hc

namespace Hc
open PySem PySem.Spec PyProof.Rows L2
open IhColumn (Width Setter Par Line)
open IhColumns (State)
open CoNeutral (numbers widthsOf parOf nats callOf asked1 whole)
/-! ### what is read, and the document's calls -/
abbrev toI (l : List Nat) : List Int := l.map fun (n : Nat) => (n : Int)
theorem toI_len (l : List Nat) : (toI l).length = l.length := List.length_map ..
theorem toI_drop (l : List Nat) (k : Nat) : (toI l).drop k = toI (l.drop k) := List.map_drop.symm
theorem toI_nats (l : List Nat) : nats (toI l) = l := by
  unfold nats toI
  rw [List.map_map]
  conv => rhs; rw [← List.map_id l]
  exact List.map_congr_left fun n _ => by simp
theorem toI_nV (l : List Nat) : (toI l).map V.int = l.map nV := by
  unfold toI
  rw [List.map_map]
  rfl
theorem drop_cons {l : List Nat} {k : Nat} {x : Int} {r : List Int} (h : toI (l.drop k) = x :: r) : ∃ n, l[k]? = some n ∧ x = (n : Int) ∧ r = toI (l.drop (k + 1)) ∧ k < l.length := by
  cases e : l.drop k with
  | nil => rw [e] at h; cases h
  | cons n t =>
    rw [e] at h
    have hk : k < l.length := by
      by_cases c : k < l.length
      · exact c
      · rw [List.drop_of_length_le (by omega)] at e
        cases e
    have e1 : l[k]? = some n := by
      have := congrArg (fun l => l[0]?) e
      simpa using this
    refine ⟨n, e1, (List.cons.inj h).1.symm, ?_, hk⟩
    have e2 : l.drop (k + 1) = t := by
      have := congrArg List.tail e
      simpa using this
    rw [e2]
    exact (List.cons.inj h).2.symm
theorem row_at {N : List Nat} {k : Nat} {x s : List Int} (hk : k ≤ N.length) (h : PyFlat.row (toI (N.drop k)) = some (x, s)) :
    ∃ xN : List Nat, x = toI xN ∧ N[k]? = some xN.length ∧ (N.drop (k + 1)).take xN.length = xN ∧ s = toI (N.drop (k + 1 + xN.length)) ∧ k + 1 + xN.length ≤ N.length := by
  cases e : toI (N.drop k) with
  | nil => rw [e] at h; cases h
  | cons z r =>
    obtain ⟨n, e1, rfl, rfl, hlt⟩ := drop_cons e
    rw [e] at h
    unfold PyFlat.row at h
    simp only [] at h
    rw [toI_len, List.length_drop] at h
    have en : ((n : Int)).toNat = n := by omega
    rw [en] at h
    by_cases c : 0 ≤ (n : Int) ∧ n ≤ N.length - (k + 1)
    · rw [if_pos c] at h
      have h' := Option.some.inj h
      have h1 := (Prod.mk.inj h').1
      have h2 := (Prod.mk.inj h').2
      have hl : ((N.drop (k + 1)).take n).length = n := by
        rw [List.length_take, List.length_drop]
        omega
      refine ⟨(N.drop (k + 1)).take n, ?_, by rw [hl]; exact e1, by rw [hl], ?_, by rw [hl]; omega⟩
      · rw [← h1]
        exact List.map_take.symm
      · rw [← h2, hl, toI_drop, List.drop_drop]
    · rw [if_neg c] at h
      cases h
theorem posOf_zero (k : Nat) (xs : List (List Nat)) : posOf k xs 0 = k := rfl
theorem posOf_cons (k : Nat) (x : List Nat) (xs : List (List Nat)) (i : Nat) : posOf k (x :: xs) (i + 1) = posOf (k + 1 + x.length) xs i := by
  unfold posOf
  simp
  omega
theorem posOf_many (k : Nat) (xs : List (List Nat)) : k + xs.length ≤ posOf k xs xs.length := by
  induction xs generalizing k with
  | nil => exact Nat.le_refl _
  | cons x xs ih =>
    have := ih (k + 1 + x.length)
    rw [List.length_cons, posOf_cons]
    omega
theorem posOf_each {k : Nat} {xs : List (List Nat)} {x : List Nat} (h : x ∈ xs) : k + x.length ≤ posOf k xs xs.length := by
  induction xs generalizing k with
  | nil => cases h
  | cons y xs ih =>
    rw [List.length_cons, posOf_cons]
    rcases List.mem_cons.mp h with rfl | h
    · have := posOf_many (k + 1 + x.length) xs
      omega
    · have := ih h (k := k + 1 + y.length)
      omega
theorem rows_at {N : List Nat} : ∀ (m k : Nat) (xs : List (List Int)) (s : List Int), k ≤ N.length → PyFlat.rows m (toI (N.drop k)) = some (xs, s) →
    ∃ xN : List (List Nat), xs = xN.map toI ∧ xN.length = m ∧ RowsAt N k xN ∧ s = toI (N.drop (posOf k xN xN.length)) ∧ posOf k xN xN.length ≤ N.length
  | 0, k, xs, s, hk, h => by
    unfold PyFlat.rows at h
    cases h
    exact ⟨[], rfl, rfl, fun i x e => by simp at e, rfl, hk⟩
  | m + 1, k, xs, s, hk, h => by
    unfold PyFlat.rows at h
    cases e : PyFlat.row (toI (N.drop k)) with
    | none => rw [e] at h; cases h
    | some p =>
      obtain ⟨x, t⟩ := p
      rw [e] at h
      simp only [] at h
      obtain ⟨xN, rfl, h1, h2, rfl, h3⟩ := row_at hk e
      cases e2 : PyFlat.rows m (toI (N.drop (k + 1 + xN.length))) with
      | none => rw [e2] at h; cases h
      | some p =>
        obtain ⟨ys, u⟩ := p
        rw [e2] at h
        cases h
        obtain ⟨yN, rfl, g1, g2, g3, g4⟩ := rows_at m _ ys s h3 e2
        refine ⟨xN :: yN, rfl, by rw [List.length_cons, g1], fun i x hx => ?_, ?_, ?_⟩
        · cases i with
          | zero =>
            cases hx
            exact ⟨h1, h2⟩
          | succ i =>
            rw [List.getElem?_cons_succ] at hx
            rw [posOf_cons]
            exact g2 i x hx
        · rw [List.length_cons, posOf_cons]
          exact g3
        · rw [List.length_cons, posOf_cons]
          exact g4
theorem call_at {N : List Nat} {k : Nat} {c : List (List Int)} {t : List Int} (h : PyWide.call (toI (N.drop k)) = some (c, t)) :
    ∃ (p : Nat) (x : List Nat) (rows : List (List Nat)), c = ((p : Int) :: toI x) :: rows.map toI ∧ N[k]? = some p ∧ N[k + 1]? = some x.length ∧ (N.drop (k + 1 + 1)).take x.length = x ∧
      N[k + 1 + 1 + x.length]? = some rows.length ∧ RowsAt N (k + 1 + 1 + x.length + 1) rows ∧ t = toI (N.drop (posOf (k + 1 + 1 + x.length + 1) rows rows.length)) ∧ posOf (k + 1 + 1 + x.length + 1) rows rows.length ≤ N.length := by
  cases e : toI (N.drop k) with
  | nil => rw [e] at h; cases h
  | cons z r =>
    obtain ⟨p, e1, rfl, rfl, hlt⟩ := drop_cons e
    rw [e] at h
    unfold PyWide.call at h
    simp only [] at h
    cases e2 : PyFlat.row (toI (N.drop (k + 1))) with
    | none => rw [e2] at h; cases h
    | some q =>
      obtain ⟨x, s⟩ := q
      obtain ⟨xN, rfl, h1, h2, rfl, h3⟩ := row_at (by omega) e2
      rw [e2] at h
      cases e3 : toI (N.drop (k + 1 + 1 + xN.length)) with
      | nil => rw [e3] at h; cases h
      | cons z r =>
        obtain ⟨m, g1, rfl, rfl, g2⟩ := drop_cons e3
        rw [e3] at h
        simp only [] at h
        rw [if_pos (by omega), show ((m : Int)).toNat = m by omega] at h
        cases e4 : PyFlat.rows m (toI (N.drop (k + 1 + 1 + xN.length + 1))) with
        | none => rw [e4] at h; cases h
        | some q =>
          obtain ⟨xs, u⟩ := q
          rw [e4] at h
          cases h
          obtain ⟨rows, rfl, j1, j2, j3, j4⟩ := rows_at m _ _ _ (by omega) e4
          exact ⟨p, xN, rows, rfl, e1, h1, h2, by rw [j1]; exact g1, j2, j3, j4⟩
/-! ### which call it is -/
inductive CallIs : Nat → List Nat → List (List Nat) → IhColumns.Call → Prop
  | sheet (w h a b c t g : Nat) (ws cut : List Nat) (W : List Width) (hW : widthsOf ws = some W) : CallIs 1 [w, h, a, b, c, t, g] [ws, cut] (.sheet ⟨w, h, [a, b, c], t, g⟩ W cut)
  | set (rows : List (List Nat)) (ps : List Par) (hl : rows.length = ps.length) (hp : ∀ (i : Nat) (r : List Nat) (p : Par), rows[i]? = some r → ps[i]? = some p → r = p.depth :: p.group :: p.lead :: p.text) : CallIs 2 [] rows (.set ps)
  | line (i : Nat) : CallIs 3 [i] [] (.line i)
  | where_ (p x : Nat) : CallIs 4 [p, x] [] (.where_ p x)
  | columns : CallIs 5 [] [] .columns
theorem widthsOf_some : ∀ (ws : List Nat), ws.length % 4 = 0 → ∃ W, widthsOf ws = some W
  | [], _ => ⟨[], rfl⟩
  | [_], h => by simp at h
  | [_, _], h => by simp at h
  | [_, _, _], h => by simp at h
  | a :: b :: w :: k :: l, h => by
    obtain ⟨W, hW⟩ := widthsOf_some l (by simp only [List.length_cons] at h; omega)
    exact ⟨⟨a, b, w, k⟩ :: W, by unfold widthsOf; rw [hW]; rfl⟩
theorem pars_some : ∀ (rows : List (List Nat)), (∀ r ∈ rows, 3 ≤ r.length) → ∃ ps : List Par, (rows.map toI).mapM (fun (r : List Int) => parOf (nats r)) = some ps ∧ rows.length = ps.length ∧
    ∀ (i : Nat) (r : List Nat) (p : Par), rows[i]? = some r → ps[i]? = some p → r = p.depth :: p.group :: p.lead :: p.text
  | [], _ => ⟨[], rfl, rfl, fun i r p e => by simp at e⟩
  | r :: rows, h => by
    obtain ⟨ps, h1, h2, h3⟩ := pars_some rows fun r m => h r (List.mem_cons_of_mem _ m)
    obtain ⟨d, g, l, t, rfl⟩ : ∃ d g l t, r = d :: g :: l :: t := by
      have := h r (List.mem_cons_self ..)
      match r, this with
      | d :: g :: l :: t, _ => exact ⟨d, g, l, t, rfl⟩
    refine ⟨⟨d, g, l, t⟩ :: ps, ?_, by rw [List.length_cons, List.length_cons, h2], fun i r p hr hp => ?_⟩
    · rw [List.map_cons, List.mapM_cons, toI_nats, h1]
      rfl
    · cases i with
      | zero =>
        cases hr
        cases hp
        rfl
      | succ i =>
        rw [List.getElem?_cons_succ] at hr hp
        exact h3 i r p hr hp
theorem whole_toI (p : Nat) (x : List Nat) (rows : List (List Nat)) : whole (((p : Int) :: toI x) :: rows.map toI) = true := by
  have one : ∀ l : List Nat, (toI l).all (fun (n : Int) => decide (0 ≤ n)) = true := fun l => by
    rw [List.all_eq_true]
    intro z hz
    obtain ⟨n, _, rfl⟩ := List.mem_map.mp hz
    exact decide_eq_true (by omega)
  unfold whole
  rw [List.all_cons, Bool.and_eq_true]
  refine ⟨one (p :: x), ?_⟩
  rw [List.all_eq_true]
  intro r hr
  obtain ⟨l, _, rfl⟩ := List.mem_map.mp hr
  exact one l
theorem callIs_of {p : Nat} {x : List Nat} {rows : List (List Nat)} (h : asked1 (((p : Int) :: toI x) :: rows.map toI) = true) : ∃ c, CallIs p x rows c ∧ callOf (((p : Int) :: toI x) :: rows.map toI) = some c := by
  have hw := whole_toI p x rows
  have hx := toI_nats x
  have hrows : (rows.map toI).map nats = rows := by
    rw [List.map_map]
    conv => rhs; rw [← List.map_id rows]
    exact List.map_congr_left fun r _ => toI_nats r
  have hset := pars_some rows
  have hlen : ∀ r ∈ rows, toI r ∈ rows.map toI := fun r hr => List.mem_map_of_mem hr
  have hlen2 : ∀ r : List Nat, (toI r).length = r.length := toI_len
  generalize hX : toI x = X at h hw hx
  generalize hR : rows.map toI = R at h hw hrows hset hlen
  unfold asked1 at h
  split at h
  · rename_i w hh a b c t g ws cut e
    obtain ⟨e1, e2⟩ := List.cons.inj e
    obtain ⟨e3, e4⟩ := List.cons.inj e1
    have ep : p = 1 := by omega
    subst ep e2 e4
    simp only [Bool.and_eq_true, CoNeutral.widthRow, beq_iff_eq] at h
    have h4 : ws.length % 4 = 0 := h.2.2.2.2.2.2.2.1.1
    obtain ⟨W, hW⟩ := widthsOf_some (nats ws) (by unfold nats; rw [List.length_map]; exact h4)
    refine ⟨.sheet ⟨w.toNat, hh.toNat, [a.toNat, b.toNat, c.toNat], t.toNat, g.toNat⟩ W (nats cut), ?_, ?_⟩
    · rw [← hx, ← hrows]
      exact CallIs.sheet _ _ _ _ _ _ _ _ _ W hW
    · unfold callOf
      rw [show (((1 : Nat) : Int)) = 1 from rfl] at hw ⊢
      rw [hw]
      simp only [hW]
      rfl
  · rename_i ps e
    obtain ⟨e1, e2⟩ := List.cons.inj e
    obtain ⟨e3, e4⟩ := List.cons.inj e1
    have ep : p = 2 := by omega
    subst ep e2 e4
    rw [List.all_eq_true] at h
    obtain ⟨ps, h1, h2, h3⟩ := hset fun r hr => by
      have := h _ (hlen r hr)
      rw [Bool.and_eq_true, decide_eq_true_iff, hlen2] at this
      exact this.1
    refine ⟨.set ps, ?_, ?_⟩
    · rw [← hx]
      exact CallIs.set rows ps h2 h3
    · unfold callOf
      rw [show (((2 : Nat) : Int)) = 2 from rfl] at hw ⊢
      rw [hw]
      simp only [h1]
      rfl
  · rename_i i e
    obtain ⟨e1, e2⟩ := List.cons.inj e
    obtain ⟨e3, e4⟩ := List.cons.inj e1
    have ep : p = 3 := by omega
    subst ep e2 e4
    refine ⟨.line i.toNat, ?_, ?_⟩
    · rw [← hx, ← hrows]
      exact CallIs.line _
    · unfold callOf
      rw [show (((3 : Nat) : Int)) = 3 from rfl] at hw ⊢
      rw [hw]
      rfl
  · rename_i q y e
    obtain ⟨e1, e2⟩ := List.cons.inj e
    obtain ⟨e3, e4⟩ := List.cons.inj e1
    have ep : p = 4 := by omega
    subst ep e2 e4
    refine ⟨.where_ q.toNat y.toNat, ?_, ?_⟩
    · rw [← hx, ← hrows]
      exact CallIs.where_ _ _
    · unfold callOf
      rw [show (((4 : Nat) : Int)) = 4 from rfl] at hw ⊢
      rw [hw]
      rfl
  · rename_i e
    obtain ⟨e1, e2⟩ := List.cons.inj e
    obtain ⟨e3, e4⟩ := List.cons.inj e1
    have ep : p = 5 := by omega
    subst ep e2 e4
    refine ⟨.columns, ?_, ?_⟩
    · rw [← hx, ← hrows]
      exact CallIs.columns
    · unfold callOf
      rw [show (((5 : Nat) : Int)) = 5 from rfl] at hw ⊢
      rw [hw]
      rfl
  · cases h
/-- what is told from a state on -/
theorem told_step {d : State} {c : List (List Int)} {x : IhColumns.Call} {cs : List (List (List Int))} (h : callOf c = some x) :
    PyFlat.told (PyFlat.played CoNeutral.step d (c :: cs)) = (((numbers (IhColumns.step d x).2).length : Int) :: numbers (IhColumns.step d x).2) ++ PyFlat.told (PyFlat.played CoNeutral.step (IhColumns.step d x).1 cs) := by
  have e : CoNeutral.step d c = ((IhColumns.step d x).1, numbers (IhColumns.step d x).2) := by
    unfold CoNeutral.step
    rw [h]
  show PyFlat.told ((CoNeutral.step d c).2 :: PyFlat.played CoNeutral.step (CoNeutral.step d c).1 cs) = _
  rw [e]
  rfl
end Hc

namespace Hc
open PySem PySem.Spec PyProof.Rows L2
open IhColumn (Width Setter Par Line)
open IhColumns (State)
open CoNeutral (numbers widthsOf)
section
variable {P : Program} {w : World} {K : PySem.W.Frag} {mg : Str → Option Value} {base : Heap} {cs : Ads}
/-! ### answer -/
def spAnswer (cs : Ads) : Sp := fun vs H Q _ => ∃ (a na l : Addr) (d : State) (p : Nat) (x : List Nat) (rows : List (List Nat)) (c : IhColumns.Call), vs = [.ref a, nV p, .ref na, .ref l] ∧ StAt cs H a d ∧ StOk d ∧ H na = some (.lst (x.map nV)) ∧ ListsAt H l rows ∧ CallIs p x rows c ∧
  rows.length ≤ 100000 ∧ (∀ r ∈ rows, r.length ≤ 100000) ∧ ∀ (H' : Hp) (r : Addr), Kp [a] H H' → StAt cs H' a (IhColumns.step d c).1 → H' r = some (.lst (ansOf d c)) → Q (.ref r) H'
abbrev sAnswer : Stmt := top 49
theorem scAnswer : FnScope ["setter", "call", "numbers", "lists", "own"] ["setter", "call", "numbers", "lists"] (defScope sAnswer) := ⟨rfl, rfl, rfl, by decide +kernel, rfl, by decide +kernel, by decide +kernel⟩
theorem ok_answer (T : Txt mg) (TP : ClsF K cs.P nmP) (TT : ClsF K cs.T nmT) (L : Laid K mg "answer" sAnswer) (D1 : DefOk P w K mg base 6 "sheet_of" ["numbers", "lists"] (spSheetOf cs)) (D2 : MethOk P w K mg base 6 cs.T "set_sheet" ["self", "sheet"] (spSetSheet cs))
    (D3 : MakeOk P w K mg base 1 cs.P "Paragraph" ["self", "numbers"] (spPInit cs)) (D4 : MethOk P w K mg base 8 cs.T "set_paragraphs" ["self", "paragraphs"] (spSetPars cs)) (D5 : MethOk P w K mg base 1 cs.T "tell_line" ["self", "order"] (spTellLine cs))
    (D6 : MethOk P w K mg base 1 cs.T "tell_where" ["self", "paragraph", "place"] (spTellWhere cs)) (D7 : MethOk P w K mg base 1 cs.T "tell_columns" ["self"] (spTellColumns cs)) : DefOk P w K mg base 9 "answer" ["setter", "call", "numbers", "lists"] (spAnswer cs) := by
  obtain ⟨f, fd, g, F⟩ := L.ex
  obtain ⟨f1, fd1, g1, kp1, b1, G1⟩ := D1.ex
  obtain ⟨f2, fd2, M2, b2, G2⟩ := D2.ex
  obtain ⟨f3, fd3, M3, g3, b3, G3⟩ := D3.ex
  obtain ⟨f4, fd4, M4, b4, G4⟩ := D4.ex
  obtain ⟨f5, fd5, M5, b5, G5⟩ := D5.ex
  obtain ⟨f6, fd6, M6, b6, G6⟩ := D6.ex
  obtain ⟨f7, fd7, M7, b7, G7⟩ := D7.ex
  obtain ⟨t1, m1⟩ := T.cSheet
  obtain ⟨t2, m2⟩ := T.cSet
  obtain ⟨t3, m3⟩ := T.cLine
  obtain ⟨t4, m4⟩ := T.cWhere
  refine ⟨f, fd, g, F.kp, F.binds fun _ _ _ _ _ _ us hl => match us, hl with | [_, _, _, _], _ => rfl, ?_⟩
  refine F.ok scAnswer (fun vs H Q E h => by obtain ⟨_, _, _, _, _, _, _, _, rfl, _⟩ := h; rfl) (fun cdv A outer s H vs Q E hr h => ⟨_,
    pss_cons (ps_if (pt_cmp (pc_eqI (pv 1) (pe_glob (v := .int 1) rfl m1 ⟨_, rfl⟩))) (pss_one (ps_ret (pe_meth (pv 0) TT.cl M2 G2 (hr.mono (by decide)) b2 .nil pass0 (pa_cons (pe_call G1 (hr.mono (by decide)) rfl g1 kp1 b1 .nil pass0 (pa_cons (pv 2) (pa_cons (pv 3) pa_nil))) pa_nil)))) pss_nil)
    (pss_cons (ps_if (pt_cmp (pc_eqI (pv 1) (pe_glob (v := .int 2) rfl m2 ⟨_, rfl⟩))) (pss_one (ps_ret (pe_meth (pv 0) TT.cl M4 G4 hr b4 .nil pass0 (pa_cons
      (pe_lc (own := [("own", 4)]) (g := gName 4) (tt := tYes) rfl scAnswer.nd (pi_list (pv 3)) (blkOk_by (N := ["setter", "call", "numbers", "lists", "own"]) (sc := defScope sAnswer) (by decide +kernel))
        (fun _ _ _ _ _ => pg_name (i := 4) scAnswer.nd rfl (.inl rfl)) (fun _ _ _ _ _ => pts_nil) (fun _ _ _ _ _ => pe_lock (pe_make M3 G3 (hr.mono (by decide)) rfl g3 b3 .nil pass0 (pa_cons (pv 4) pa_nil)))) pa_nil)))) pss_nil)
    (pss_cons (ps_if (pt_cmp (pc_eqI (pv 1) (pe_glob (v := .int 3) rfl m3 ⟨_, rfl⟩))) (pss_one (ps_ret (pe_meth (pv 0) TT.cl M5 G5 (hr.mono (by decide)) b5 .nil pass0 (pa_cons (pe_ix ix_list (pv 2) pe_int (fun _ _ => rfl)) pa_nil)))) pss_nil)
    (pss_cons (ps_if (pt_cmp (pc_eqI (pv 1) (pe_glob (v := .int 4) rfl m4 ⟨_, rfl⟩))) (pss_one (ps_ret (pe_meth (pv 0) TT.cl M6 G6 (hr.mono (by decide)) b6 .nil pass0 (pa_cons (pe_ix ix_list (pv 2) pe_int (fun _ _ => rfl)) (pa_cons (pe_ix ix_list (pv 2) pe_int (fun _ _ => rfl)) pa_nil))))) pss_nil)
    (pss_one (ps_ret (pe_meth0 (pv 0) TT.cl M7 G7 (hr.mono (by decide)) b7 .nil pass0)))))), ?_⟩)
  obtain ⟨a, na, l, d, p, x, rows, c, rfl, hT, hO, hx, hL, hC, hrows, hrow, q⟩ := h
  obtain ⟨dx, sa, pa, la, da, h1, h2, h3, h4, h5⟩ := id hT
  cases hC with
  | sheet wd_ ht i1 i2 i3 tn gp ws cut W hW =>
    obtain ⟨hlen, _⟩ := widthsOf_fours ws W hW
    have hw1 := hrow ws (by simp)
    have hc1 := hrow cut (by simp)
    refine ⟨_, rfl, _, _, rfl, rfl, _, rfl, iteT ?_⟩
    refine ⟨_, rfl, a, dx, _, rfl, h1, lk_none (by decide +kernel), _, rfl, _, rfl, na, l, wd_, ht, i1, i2, i3, tn, gp, ws, cut, W, rfl, hx, hL, hW, by omega, fun H1 s s1 hS => ?_⟩
    exact ⟨a, s, d, _, W, cut, rfl, hT.same s1, hS, by omega, by omega, fun H' r k t e => q H' r ((Same.kp s1 _).trans k) t e⟩
  | set rows ps hl hp =>
    refine ⟨_, rfl, _, _, rfl, rfl, _, rfl, iteF ?_⟩
    refine ⟨_, rfl, _, _, rfl, rfl, _, rfl, iteT ?_⟩
    obtain ⟨as, e1, e2, e3⟩ := id hL
    refine ⟨_, rfl, a, dx, _, rfl, h1, lk_none (by decide +kernel), _, rfl, l, rfl, ⟨_, SqL.of e1⟩, fun D hD => ?_⟩
    refine lc_list (K := K) (a := l) (xs := as.map V.ref) (fun i H' => Same H H' ∧ ∃ bs : List Addr, H' D = some (.lst (bs.map V.ref)) ∧ bs.length = i ∧ bs.Nodup ∧ (∀ b ∈ bs, H b = none) ∧ ∀ (j : Nat) (b : Addr) (p : Par), bs[j]? = some b → ps[j]? = some p → ParAt cs (hid D H') b p [] [])
      ⟨same_new hD, [], upd_same, rfl, List.nodup_nil, fun b m => by simp at m, fun j b p e => by simp at e⟩ (fun i H' _ h => SqL.of (h.1 _ _ e1)) ?_ ?_
    · rintro i v H' hv ⟨s1, bs, hd, hbl, hnd, hbn, hall⟩
      obtain ⟨ra, hra, rfl⟩ := get_map hv
      have hi := (List.getElem?_eq_some_iff.mp hra).1
      have hr1 : rows[i]? = some (rows[i]'(by omega)) := List.getElem?_eq_getElem (by omega)
      have hp1 : ps[i]? = some (ps[i]'(by omega)) := List.getElem?_eq_getElem (by omega)
      have hr2 := e3 i ra _ hra hr1
      have hr3 := hp i _ _ hr1 hp1
      rw [hr3] at hr2
      refine ⟨rfl, D, _, hd, trivial, fun od => ?_⟩
      have raD : ra ≠ D := ne_of_none hr2 hD
      refine ⟨_, rfl, fun y dy ny ndy ne => ?_⟩
      have yD : y ≠ D := fun z => by rw [z, upd_same] at ny; cases ny
      have dyD : dy ≠ D := fun z => by rw [z, upd_same] at ndy; cases ndy
      have ny' : H' y = none := by rw [upd_ne yD] at ny; exact ny
      refine ⟨upd H' D (.frz od (.lst (bs.map V.ref))), y, dy, ra, ps[i]'(by omega), rfl, fun b u e => ?_, ny, upd_same, (upd_ne raD).trans (s1 _ _ hr2), fun H2 s2 hP => ⟨rfl, ?_⟩⟩
      · rw [upd_ne (ne_of_none e ny), upd_ne (ne_of_none e ndy)]
        exact e
      · have hd2 : H2 D = some (.frz od (.lst (bs.map V.ref))) := s2 _ _ upd_same
        have sH : Same H (upd H2 D (.lst (bs.map V.ref))) := fun b u e => by
          have bD := ne_of_none e hD
          rw [upd_ne bD]
          exact s2 _ _ ((upd_ne bD).trans (s1 _ _ e))
        have hHy : H y = none := by
          cases e : H y with
          | none => rfl
          | some u => rw [s1 _ _ e] at ny'; cases ny'
        have nb : y ∉ bs := fun m => by
          obtain ⟨j, hj, e⟩ := List.getElem_of_mem m
          have ej : bs[j]? = some y := by rw [List.getElem?_eq_getElem hj, e]
          obtain ⟨_, _, _, _, w1, _⟩ := hall j y (ps[j]'(by omega)) ej (List.getElem?_eq_getElem (by omega))
          rw [(hid_some w1).2] at ny'
          cases ny'
        refine ⟨hd2, _, upd_same, ?_, Same.set sH hD, bs ++ [y], ?_, ?_, ?_, ?_, ?_⟩
        · rw [List.length_map, hbl]
          exact Nat.lt_of_le_of_lt (show i ≤ 100000 by omega) (by decide)
        · rw [upd_same, List.map_append]
          rfl
        · rw [List.length_append, hbl]
          rfl
        · rw [List.nodup_append]
          exact ⟨hnd, by simp, fun u hu v hv => by rw [List.mem_singleton] at hv; rw [hv]; exact fun z => nb (z ▸ hu)⟩
        · intro b m
          rcases List.mem_append.mp m with m | m
          · exact hbn b m
          · rw [List.mem_singleton] at m
            rw [m]
            exact hHy
        · intro j b p hb hpp
          rw [hid_upd, hid_upd]
          by_cases hj : j < bs.length
          · rw [List.getElem?_append_left hj] at hb
            refine (hall j b p hb hpp).same fun b u e => ?_
            rw [hid_ne (hid_some e).1]
            exact s2 _ _ ((upd_ne (hid_some e).1).trans (hid_some e).2)
          · have hji : j = i := by
              have := (List.getElem?_eq_some_iff.mp hb).1
              rw [List.length_append, List.length_singleton] at this
              omega
            subst hji
            rw [List.getElem?_append_right (by omega), hbl, Nat.sub_self] at hb
            have ea : y = b := Option.some.inj hb
            subst ea
            rw [hp1] at hpp
            cases hpp
            exact hP.near (hid_near hd2)
    · rintro H1 ⟨s1, bs, hd, hbl, hnd, hbn, hall⟩
      rw [List.length_map, e2] at hbl
      exact ⟨H, a, D, bs, d, ps, rfl, s1, hbn, hnd, hT, hO, ⟨hd, by omega, fun i b p hb hpp => (hall i b p hb hpp).same hid_same⟩, by omega, fun H' r k t e => q H' r k t e⟩
  | line i =>
    refine ⟨_, rfl, _, _, rfl, rfl, _, rfl, iteF ?_⟩
    refine ⟨_, rfl, _, _, rfl, rfl, _, rfl, iteF ?_⟩
    refine ⟨_, rfl, _, _, rfl, rfl, _, rfl, iteT ?_⟩
    refine ⟨_, rfl, a, dx, _, rfl, h1, lk_none (by decide +kernel), _, rfl, na, _, _, nV i, rfl, rfl, SqL.of hx, rfl, ?_⟩
    exact ⟨a, d, i, rfl, hT, hO, fun H' r s e => q H' r (Same.kp s _) (hT.same s) e⟩
  | where_ p x =>
    refine ⟨_, rfl, _, _, rfl, rfl, _, rfl, iteF ?_⟩
    refine ⟨_, rfl, _, _, rfl, rfl, _, rfl, iteF ?_⟩
    refine ⟨_, rfl, _, _, rfl, rfl, _, rfl, iteF ?_⟩
    refine ⟨_, rfl, _, _, rfl, rfl, _, rfl, iteT ?_⟩
    refine ⟨_, rfl, a, dx, _, rfl, h1, lk_none (by decide +kernel), _, rfl, na, _, _, nV p, rfl, rfl, SqL.of hx, rfl, _, rfl, na, _, _, nV x, rfl, rfl, SqL.of hx, rfl, ?_⟩
    exact ⟨a, d, p, x, rfl, hT, hO, fun H' r s e => q H' r (Same.kp s _) (hT.same s) e⟩
  | columns =>
    refine ⟨_, rfl, _, _, rfl, rfl, _, rfl, iteF ?_⟩
    refine ⟨_, rfl, _, _, rfl, rfl, _, rfl, iteF ?_⟩
    refine ⟨_, rfl, _, _, rfl, rfl, _, rfl, iteF ?_⟩
    refine ⟨_, rfl, _, _, rfl, rfl, _, rfl, iteF ?_⟩
    refine ⟨_, rfl, a, dx, _, rfl, h1, lk_none (by decide +kernel), ?_⟩
    exact ⟨a, d, rfl, hT, hO, fun H' r s e => q H' r (Same.kp s _) (hT.same s) e⟩
end
end Hc

namespace Hc
open PySem PySem.Spec PyProof.Rows L2
open IhColumn (Width Setter Par Line)
open IhColumns (State)
open CoNeutral (numbers widthsOf asked1)
theorem kp_away {H0 H H' : Hp} {x : Addr} (s : Same H0 H) (k : Kp [x] H H') (n : H0 x = none) : Same H0 H' :=
  (Kp.drop ((Same.kp s [x]).trans k) (S' := []) fun b hb => .inr (by rw [List.mem_singleton] at hb; rw [hb]; exact n)).same
theorem toI_back {l : List Int} (h : ∀ z ∈ l, 0 ≤ z) : toI (l.map Int.toNat) = l := by
  unfold toI
  rw [List.map_map]
  conv => rhs; rw [← List.map_id l]
  exact List.map_congr_left fun z hz => by
    have := h z hz
    show ((z.toNat : Nat) : Int) = z
    omega
theorem calls_step {N : List Nat} {k fu : Nat} {css : List (List (List Int))} (hk : k < N.length) (h : PyWide.calls fu (toI (N.drop k)) = some css) :
    ∃ (p : Nat) (x : List Nat) (rows : List (List Nat)) (cs2 : List (List (List Int))) (f2 : Nat), css = (((p : Int) :: toI x) :: rows.map toI) :: cs2 ∧ N[k]? = some p ∧ N[k + 1]? = some x.length ∧ (N.drop (k + 1 + 1)).take x.length = x ∧
      N[k + 1 + 1 + x.length]? = some rows.length ∧ RowsAt N (k + 1 + 1 + x.length + 1) rows ∧ PyWide.calls f2 (toI (N.drop (posOf (k + 1 + 1 + x.length + 1) rows rows.length))) = some cs2 ∧ posOf (k + 1 + 1 + x.length + 1) rows rows.length ≤ N.length := by
  cases e : toI (N.drop k) with
  | nil =>
    have := congrArg List.length e
    rw [toI_len, List.length_drop, List.length_nil] at this
    omega
  | cons z r =>
    rw [e] at h
    cases fu with
    | zero => cases h
    | succ f2 =>
      unfold PyWide.calls at h
      cases e2 : PyWide.call (z :: r) with
      | none => rw [e2] at h; cases h
      | some y =>
        obtain ⟨c, t⟩ := y
        rw [e2] at h
        simp only [] at h
        rw [← e] at e2
        obtain ⟨p, x, rows, rfl, h1, h2, h3, h4, h5, rfl, h7⟩ := call_at e2
        cases e3 : PyWide.calls f2 (toI (N.drop (posOf (k + 1 + 1 + x.length + 1) rows rows.length))) with
        | none => rw [e3] at h; cases h
        | some cs2 =>
          rw [e3] at h
          cases h
          exact ⟨p, x, rows, cs2, f2, rfl, h1, h2, h3, h4, h5, e3, h7⟩
theorem calls_end {N : List Nat} {fu : Nat} {css : List (List (List Int))} (h : PyWide.calls fu (toI (N.drop N.length)) = some css) : css = [] := by
  rw [List.drop_length] at h
  cases fu <;> (cases h; rfl)
theorem callIs_indent {p : Nat} {x : List Nat} {rows : List (List Nat)} {c : IhColumns.Call} (h : CallIs p x rows c) : ∀ hh ws cut, c = .sheet hh ws cut → hh.indent.length = 3 := by
  intro hh ws cut e
  cases h with
  | sheet w h a b c t g ws cut W hW => cases e; rfl
  | _ => cases e
section
variable {P : Program} {w : World} {K : PySem.W.Frag} {mg : Str → Option Value} {base : Heap} {cs : Ads}
/-! ### answers -/
def spAnswers (K : PySem.W.Frag) : Sp := fun vs H Q _ => ∃ (ca : Addr) (l : List Int), vs = [.ref ca] ∧ SqL K H ca (l.map V.int) ∧ (∀ z ∈ l, 0 ≤ z) ∧ l.length ≤ 31000 ∧ PyWqakbg.answers_asked l = true ∧
  ∀ (H' : Hp) (p : Addr), H' p = some (.lst ((PyWqakbg.answers l).map V.int)) → Q (.ref p) H'
abbrev sAnswers : Stmt := top 50
theorem scAnswers : FnScope ["calls", "setter", "reader", "told", "call", "numbers", "lists", "answered"] ["calls"] (defScope sAnswers) := ⟨rfl, rfl, rfl, by decide +kernel, rfl, by decide +kernel, by decide +kernel⟩
theorem ok_answers {f : Addr} {fd : FuncData} (F : Fun K "answers" "answers" sAnswers f fd) (T : Txt mg) (TT : ClsF K cs.T nmT) (TR : ClsF K cs.R nmR) (D1 : MakeOk P w K mg base 6 cs.T "Setter" ["self"] (spTInit cs)) (D2 : MakeOk P w K mg base 1 cs.R "Reader" ["self", "calls"] (spRInit cs))
    (D3 : MethOk P w K mg base 1 cs.R "is_at_end" ["self"] (spAtEnd K cs)) (D4 : MethOk P w K mg base 1 cs.R "read_number" ["self"] (spReadNumber K cs)) (D5 : MethOk P w K mg base 2 cs.R "read_list" ["self"] (spReadList K cs))
    (D6 : MethOk P w K mg base 3 cs.R "read_lists" ["self"] (spReadLists K cs)) (D7 : DefOk P w K mg base 9 "answer" ["setter", "call", "numbers", "lists"] (spAnswer cs)) : FnOk P w K mg base CX0 10 f fd ["calls"] (spAnswers K) := by
  obtain ⟨f1, fd1, M1, g1, b1, G1⟩ := D1.ex
  obtain ⟨f2, fd2, M2, g2, b2, G2⟩ := D2.ex
  obtain ⟨f3, fd3, M3, b3, G3⟩ := D3.ex
  obtain ⟨f4, fd4, M4, b4, G4⟩ := D4.ex
  obtain ⟨f5, fd5, M5, b5, G5⟩ := D5.ex
  obtain ⟨f6, fd6, M6, b6, G6⟩ := D6.ex
  obtain ⟨f7, fd7, g7, kp7, b7, G7⟩ := D7.ex
  refine F.ok scAnswers (fun vs H Q E h => by obtain ⟨_, _, rfl, _⟩ := h; rfl) (fun cdv A outer s H vs Q E hr h => ⟨_,
    pss_cons (ps_set (i := 1) scAnswers.nd rfl (.inl rfl) (pe_make0 M1 G1 (hr.mono (by decide)) rfl g1 b1 .nil pass0))
    (pss_cons (ps_set (i := 2) scAnswers.nd rfl (.inl rfl) (pe_make M2 G2 (hr.mono (by decide)) rfl g2 b2 .nil pass0 (pa_cons (pv 0) pa_nil)))
    (pss_cons (ps_set (i := 3) scAnswers.nd rfl (.inl rfl) (pe_lst pa_nil))
    (pss_cons (ps_while PassesOwn.never (pt_not (pt_val (pe_meth0 (pv 2) TR.cl M3 G3 (hr.mono (by decide)) b3 .nil pass0)))
      (pss_cons (ps_set (i := 4) scAnswers.nd rfl (.inl rfl) (pe_meth0 (pv 2) TR.cl M4 G4 (hr.mono (by decide)) b4 .nil pass0))
      (pss_cons (ps_set (i := 5) scAnswers.nd rfl (.inl rfl) (pe_meth0 (pv 2) TR.cl M5 G5 (hr.mono (by decide)) b5 .nil pass0))
      (pss_cons (ps_lock (ps_set (i := 6) scAnswers.nd rfl (.inl rfl) (pe_meth0 (pv 2) TR.cl M6 G6 (hr.mono (by decide)) b6 .nil pass0)))
      (pss_cons (ps_lock (ps_set (i := 7) scAnswers.nd rfl (.inl rfl) (pe_call G7 hr rfl g7 kp7 b7 .nil pass0 (pa_cons (pv 1) (pa_cons (pv 4) (pa_cons (pv 5) (pa_cons (pv 6) pa_nil)))))))
      (pss_cons (ps_expr (pe_bm PySem.F.plainAttrs_list PySem.F.slot_list_append PySem.F.type_list_append mt_append (pv 3) (pa_cons (pe_callB call_len_seq (by rfl) T.len PySem.boot_len (pa_cons (pv 7) pa_nil)) pa_nil)))
      (pss_one (ps_expr (pe_bm PySem.F.plainAttrs_list PySem.F.slot_list_extend PySem.F.type_list_extend mt_extend (pv 3) (pa_cons (pv 7) pa_nil))))))))))
    (pss_one (ps_ret (pv 3)))))), ?_⟩)
  obtain ⟨ca, l, rfl, hl, hpos, hlen, hasked, q⟩ := h
  obtain ⟨N, hN⟩ : ∃ N : List Nat, l = toI N := ⟨_, (toI_back hpos).symm⟩
  subst hN
  rw [toI_nV] at hl
  rw [toI_len] at hlen
  unfold PyWqakbg.answers_asked at hasked
  cases hc : PyWqakbg.calls (toI N) with
  | none => rw [hc] at hasked; cases hasked
  | some css =>
    rw [hc] at hasked
    simp only [Bool.and_eq_true, PyFlat.short, CoNeutral.asked, decide_eq_true_eq] at hasked
    obtain ⟨⟨⟨_, _⟩, _, hall⟩, hshort⟩ := hasked
    have hans : PyWqakbg.answers (toI N) = PyFlat.told (PyFlat.played CoNeutral.step CoNeutral.start css) := by
      unfold PyWqakbg.answers
      rw [hc]
    rw [List.all_eq_true] at hall
    have hcalls0 : PyWide.calls (toI N).length (toI (N.drop 0)) = some css := hc
    generalize PyWqakbg.answers (toI N) = A at q hshort hans
    -- a setter
    intro a da na nda neda
    have sa : Same H (upd (upd H da (.own a)) a (.ins cs.T da [])) := fun b u e => by
      rw [upd_ne (ne_of_none e na), upd_ne (ne_of_none e nda)]
      exact e
    refine ⟨H, a, da, rfl, sa, na, upd_same, fun H1 s1 hT1 => ⟨rfl, ?_⟩⟩
    clear sa
    -- one who reads
    refine ⟨_, rfl, fun r dr nr ndr nedr => ?_⟩
    have sr : Same H1 (upd (upd H1 dr (.own r)) r (.ins cs.R dr [])) := fun b u e => by
      rw [upd_ne (ne_of_none e nr), upd_ne (ne_of_none e ndr)]
      exact e
    refine ⟨H1, r, dr, ca, rfl, sr, nr, upd_same, fun H2 s2 hR2 => ⟨rfl, ?_⟩⟩
    clear sr
    refine ⟨(by show 0 ≤ sizeLine; decide), fun D hD => ?_⟩
    have gone : ∀ {H1 : Hp} {b : Addr}, Same H H1 → H1 b = none → H b = none := fun {H1 b} s n => by
      cases e : H b with
      | none => rfl
      | some u => rw [s _ _ e] at n; cases n
    have nrH : H r = none := gone s1 nr
    have nDH : H D = none := gone (s1.trans s2) hD
    have rD : r ≠ D := by
      obtain ⟨_, h⟩ := hR2
      exact ne_of_none h hD
    have aD : a ≠ D := by
      obtain ⟨_, _, _, _, _, h, _⟩ := hT1.same s2
      exact ne_of_none h hD
    have s3 : Same H (upd H2 D (.lst [])) := Same.new (s1.trans s2) hD
    refine ⟨fun m σ H' => ∃ (k : Nat) (cs2 : List (List (List Int))) (fu : Nat) (d : State) (told : List Int) (v4 v5 v6 v7 : Option V), σ = [some (.ref ca), some (.ref a), some (.ref r), some (.ref D), v4, v5, v6, v7] ∧ Same H H' ∧ H' D = some (.lst (told.map V.int)) ∧
      StAt cs (hid D H') a d ∧ StOk d ∧ RdAt cs H' r ca k ∧ k ≤ N.length ∧ PyWide.calls fu (toI (N.drop k)) = some cs2 ∧ (∀ c ∈ cs2, asked1 c = true) ∧ told ++ PyFlat.told (PyFlat.played CoNeutral.step d cs2) = A ∧ m = cs2.length,
      ⟨css.length, 0, css, _, CoNeutral.start, [], none, none, none, none, rfl, s3, upd_same, ?_, StOk.start, hR2.same (same_new hD), Nat.zero_le _, hcalls0, hall, hans.symm, rfl⟩, ?_⟩
    · rw [hid_upd]
      refine (hT1.same s2).same fun b u e => ?_
      rw [hid_ne (ne_of_none e hD)]
      exact e
    clear hT1 hR2 s3 hcalls0 hall hD s1 s2 nr
    rintro m σ H3 ⟨k, cs2, fu, d, told, v4, v5, v6, v7, rfl, s3, hD3, hT3, hO, hR3, hk, hcalls, hask, htold, rfl⟩
    obtain ⟨dx3, h3⟩ := id hR3
    refine ⟨_, rfl, r, dx3, _, rfl, h3, lk_none (by decide +kernel), r, ca, k, N, rfl, hR3, sqSame hl s3, _, rfl, ?_⟩
    refine ite2 (fun c => ?_) (fun c => ?_)
    · have hk1 := nb_yes c
      obtain ⟨p, x, rows, cs3, f3', rfl, g1, g2, g3, g4, g5, g6, g7⟩ := calls_step (by omega) hcalls
      obtain ⟨cc, hC, hof⟩ := callIs_of (hask _ (List.mem_cons_self ..))
      have hmany := posOf_many (k + 1 + 1 + x.length + 1) rows
      refine ⟨fun σ' H' => ∃ m', m' < ((((p : Int) :: toI x) :: rows.map toI) :: cs3).length ∧ ∃ (k : Nat) (cs2 : List (List (List Int))) (fu : Nat) (d : State) (told : List Int) (v4 v5 v6 v7 : Option V), σ' = [some (.ref ca), some (.ref a), some (.ref r), some (.ref D), v4, v5, v6, v7] ∧ Same H H' ∧ H' D = some (.lst (told.map V.int)) ∧
        StAt cs (hid D H') a d ∧ StOk d ∧ RdAt cs H' r ca k ∧ k ≤ N.length ∧ PyWide.calls fu (toI (N.drop k)) = some cs2 ∧ (∀ c ∈ cs2, asked1 c = true) ∧ told ++ PyFlat.told (PyFlat.played CoNeutral.step d cs2) = A ∧ m' = cs2.length, fun _ _ z => z, ?_⟩
      -- its number
      refine ⟨_, rfl, r, dx3, _, rfl, h3, lk_none (by decide +kernel), r, ca, k, N, p, rfl, hR3, sqSame hl s3, g1, fun H4 k4 hR4 => ?_⟩
      have s4 := kp_away s3 k4 nrH
      have hD4 := k4.lst hR3.ins hD3
      have hT4 := hT3.other (names := nmR) (vals := [.ref ca, nV k]) (hid_kp k4) ((hid_ne rD).trans h3) (by show 2 ≤ 2; decide) (by decide +kernel) (by decide +kernel) (by decide +kernel) (by decide +kernel) (by decide +kernel)
      clear k4 hT3 hD3 hR3 h3 s3
      -- its numbers
      obtain ⟨dx4, h4⟩ := id hR4
      refine ⟨_, rfl, r, dx4, _, rfl, h4, lk_none (by decide +kernel), r, ca, k + 1, N, x, rfl, hR4, sqSame hl s4, g2, g3, fun H5 pn k5 hR5 np hp => ?_⟩
      have s5 := kp_away s4 k5 nrH
      have hD5 := k5.lst hR4.ins hD4
      have hT5 := hT4.other (names := nmR) (vals := [.ref ca, nV (k + 1)]) (hid_kp k5) ((hid_ne rD).trans h4) (by show 2 ≤ 2; decide) (by decide +kernel) (by decide +kernel) (by decide +kernel) (by decide +kernel) (by decide +kernel)
      have pD : pn ≠ D := fun z => by rw [z, hD4] at np; cases np
      clear k5 hT4 hD4 hR4 h4 s4 np
      -- its lists
      obtain ⟨dx5, h5⟩ := id hR5
      refine ⟨D, _, hD5, trivial, fun od => ?_⟩
      have s5' : Same H (upd H5 D (.frz od (.lst (told.map V.int)))) := fun b u e => by
        rw [upd_ne (ne_of_none e nDH)]
        exact s5 _ _ e
      have h5' := (upd_ne (H := H5) (o := .frz od (.lst (told.map V.int))) rD).trans h5
      refine ⟨_, rfl, r, dx5, _, rfl, h5', lk_none (by decide +kernel), r, ca, k + 1 + 1 + x.length, N, rows, rfl, ⟨dx5, h5'⟩, sqSame hl s5', g4, g5, by omega, fun H6 pl k6 hR6 hL6 => ?_⟩
      have hD6 : H6 D = some (.frz od (.lst (told.map V.int))) := k6 _ _ upd_same fun z => rD (List.mem_singleton.mp z).symm
      refine ⟨hD6, ?_⟩
      have s6 : Same H (upd H6 D (.lst (told.map V.int))) := fun b u e => by
        rw [upd_ne (ne_of_none e nDH)]
        exact kp_away s5' k6 nrH _ _ e
      have hp6 : (upd H6 D (.lst (told.map V.int))) pn = some (.lst (x.map nV)) := (upd_ne pD).trans (k6.lst (ins_one h5') ((upd_ne pD).trans hp))
      have hT6 : StAt cs (hid D (upd H6 D (.lst (told.map V.int)))) a d := by
        rw [hid_upd]
        have kk := hid_kp (D := D) k6
        rw [hid_upd] at kk
        exact hT5.other (names := nmR) (vals := [.ref ca, nV (k + 1 + 1 + x.length)]) kk ((hid_ne rD).trans h5) (by show 2 ≤ 2; decide) (by decide +kernel) (by decide +kernel) (by decide +kernel) (by decide +kernel) (by decide +kernel)
      have hL6' : ListsAt (hid D (upd H6 D (.lst (told.map V.int)))) pl rows := by
        rw [hid_upd]
        exact hL6.near (hid_near hD6)
      have hR6' : RdAt cs (upd H6 D (.lst (told.map V.int))) r ca (posOf (k + 1 + 1 + x.length + 1) rows rows.length) := by
        obtain ⟨dx6, h6⟩ := hR6
        exact ⟨dx6, (upd_ne rD).trans h6⟩
      have hD6' := upd_same (H := H6) (a := D) (o := .lst (told.map V.int))
      generalize upd H6 D (.lst (told.map V.int)) = H7 at s6 hp6 hT6 hL6' hR6' hD6' ⊢
      clear hL6 hR6 hD6 k6 h5' s5' h5 hR5 hD5 hT5 s5 hp
      -- the answer
      refine ⟨D, _, hD6', trivial, fun od2 => ?_⟩
      have hsub : Same (hid D H7) (upd H7 D (.frz od2 (.lst (told.map V.int)))) := hid_sameU
      refine ⟨_, rfl, _, rfl, _, rfl, _, rfl, a, pn, pl, d, p, x, rows, cc, rfl, hT6.same hsub, hO, (upd_ne pD).trans hp6, hL6'.same hsub, hC, by omega, fun r hr => ?_, fun H8 pa k8 hT8 ha8 => ?_⟩
      · have := posOf_each (k := k + 1 + 1 + x.length + 1) hr
        omega
      · have s7' : Same H (upd H7 D (.frz od2 (.lst (told.map V.int)))) := fun b u e => by
          rw [upd_ne (ne_of_none e nDH)]
          exact s6 _ _ e
        have hD8 : H8 D = some (.frz od2 (.lst (told.map V.int))) := k8 _ _ upd_same fun z => aD (List.mem_singleton.mp z).symm
        refine ⟨hD8, ?_⟩
        have hR8 : RdAt cs H8 r ca (posOf (k + 1 + 1 + x.length + 1) rows rows.length) := by
          obtain ⟨dxa, sa, pa, la, da, ha, _⟩ := hT6.same hsub
          obtain ⟨dx7, h7⟩ := hR6'
          exact RdAt.other (names := nmT) (vals := [.ref sa, .ref pa, .ref la, .ref da]) ⟨dx7, (upd_ne rD).trans h7⟩ k8 ha (by show 4 ≤ 4; decide) (by decide +kernel)
        have s8 := kp_away s7' k8 na
        have hT8' := hT8.near (hid_near hD8)
        have aD8 : pa ≠ D := ne_of ha8 hD8 (fun z => HO.noConfusion z)
        have htold' := told_step (d := d) (cs := cs3) hof
        rw [htold'] at htold
        have hlenA : (ansOf d cc).length = (numbers (IhColumns.step d cc).2).length := by unfold ansOf; rw [List.length_map]
        have htl : told.length + 1 + (numbers (IhColumns.step d cc).2).length ≤ 10000000 := by
          have e := congrArg List.length htold
          simp only [List.length_append, List.length_cons] at e
          omega
        have ok2 := stOk_step hO cc (callIs_indent hC)
        clear hsub s7' k8 hD8 hT8 hT6 hL6' hR6' hp6 s6 hO htold'
        have hans2 : told ++ (((numbers (IhColumns.step d cc).2).length : Int) :: numbers (IhColumns.step d cc).2) ++ PyFlat.told (PyFlat.played CoNeutral.step (IhColumns.step d cc).1 cs3) = A := by
          rw [List.append_assoc]
          exact htold
        have emap : told.map V.int ++ [V.int ((ansOf d cc).length : Int)] ++ ansOf d cc = (told ++ (((numbers (IhColumns.step d cc).2).length : Int) :: numbers (IhColumns.step d cc).2)).map V.int := by
          rw [hlenA, List.map_append, List.map_cons, List.append_assoc]
          rfl
        have ha9 : (upd H8 D (.lst (told.map V.int))) pa = some (.lst (ansOf d cc)) := (upd_ne aD8).trans ha8
        refine ⟨_, rfl, .inl ⟨rfl, _, SqL.of upd_same⟩, _, rfl, pa, _, rfl, .inl (SqL.of ha9), D, _, _, rfl, rfl, upd_same, ?_, ?_⟩
        · rw [List.length_map]
          exact Nat.lt_of_le_of_lt (show told.length ≤ 10000000 by omega) (by decide)
        · refine ⟨_, rfl, .inl ⟨rfl, _, SqL.of upd_same⟩, _, rfl, D, pa, _, _, rfl, rfl, upd_same, (upd_ne aD8).trans ha9, ?_, ?_⟩
          · rw [List.length_append, List.length_map, List.length_singleton, hlenA]
            exact Nat.le_trans htl (by decide)
          · refine ⟨cs3.length, by rw [List.length_cons]; omega, posOf (k + 1 + 1 + x.length + 1) rows rows.length, cs3, f3', (IhColumns.step d cc).1, told ++ (((numbers (IhColumns.step d cc).2).length : Int) :: numbers (IhColumns.step d cc).2), _, _, _, _, rfl, fun b u e => ?_, ?_, ?_, ok2, ?_, g7, g6, fun c hc => hask c (List.mem_cons_of_mem _ hc), hans2, rfl⟩
            · have bD := ne_of_none e nDH
              rw [upd_ne bD, upd_ne bD, upd_ne bD]
              exact s8 _ _ e
            · rw [upd_same, emap]
            · rw [hid_upd, hid_upd, hid_upd]
              exact hT8'
            · obtain ⟨dx8, h8⟩ := hR8
              exact ⟨dx8, by rw [upd_ne rD, upd_ne rD, upd_ne rD]; exact h8⟩
    · have hk1 := nb_no c
      rw [hk1] at hcalls
      have e0 := calls_end hcalls
      subst e0
      refine ⟨_, rfl, q H3 D ?_⟩
      rw [hD3, ← htold]
      show some (HO.lst (told.map V.int)) = some (HO.lst ((told ++ []).map V.int))
      rw [List.append_nil]
end
end Hc

namespace Hc
open PySem PySem.Spec PyProof.Rows L2
open PySem.W (Codec)
/-! ### what the top has written, by what is found there -/
section
variable {K : PySem.W.Frag} {h : Heap} {mg : Str → Option Value}
theorem laid_mk {x : Str} {st : Stmt} {f : Addr} {oc kV dc pm cd ct : Value} {od an : Option Addr} {sl : Array (Option Value)} (X : K.In h) (G : h.Ns mainGlobals mg) (a : PySem.W.nsIn K mainGlobals x = some (some (.ref f)))
    (l : K.lookup f = some ⟨oc, od, .func (PySem.W.fnOf x x (defArgs st) (defBody st) (defScope st) .none kV dc pm an cd ct), sl⟩) (c : PySem.W.codeIn K cd x = true) (k : PySem.W.keepIn K (.ref f) = true) : Laid K mg x st :=
  ⟨⟨f, _, PySem.W.mg_of X G a, fun_mk l c k⟩⟩
theorem laidM_mk {C : Addr} {m qual : Str} {st : Stmt} {f : Addr} {oc kV dc pm cd ct : Value} {od an : Option Addr} {sl : Array (Option Value)} (a : PySem.W.findIn K (.ref C) m = some (some (.ref f))) (i : PySem.W.isFn K (.ref f) = true)
    (l : K.lookup f = some ⟨oc, od, .func (PySem.W.fnOf m qual (defArgs st) (defBody st) (defScope st) .none kV dc pm an cd ct), sl⟩) (c : PySem.W.codeIn K cd qual = true) (k : PySem.W.keepIn K (.ref f) = true) : LaidM K C m qual st :=
  ⟨⟨f, _, ⟨a, i, k⟩, fun_mk l c k⟩⟩
theorem laidC_mk {C : Addr} {x qual : Str} {st : Stmt} {f : Addr} {oc kV dc pm cd ct : Value} {od an : Option Addr} {sl : Array (Option Value)} (X : K.In h) (G : h.Ns mainGlobals mg) (n : PySem.W.nsIn K mainGlobals x = some (some (.ref C)))
    (mk : PySem.W.makesIn K C = true) (kc : PySem.W.keepIn K (.ref C) = true) (a : PySem.W.findIn K (.ref C) "__init__" = some (some (.ref f))) (i : PySem.W.isFn K (.ref f) = true)
    (l : K.lookup f = some ⟨oc, od, .func (PySem.W.fnOf "__init__" qual (defArgs st) (defBody st) (defScope st) .none kV dc pm an cd ct), sl⟩) (c : PySem.W.codeIn K cd qual = true) (k : PySem.W.keepIn K (.ref f) = true) : LaidC K mg C x qual st :=
  ⟨⟨f, _, ⟨mk, a, i, kc⟩, PySem.W.mg_of X G n, fun_mk l c k⟩⟩
theorem na_nil {C : Addr} : ∀ (i : Nat) (k : Str), ([] : List Str)[i]? = some k → NoAttr K C k := fun i k e => by simp at e
theorem na_cons {C : Addr} {n : Str} {names : List Str} (e : PySem.W.findIn K (.ref C) n = some none) (r : ∀ (i : Nat) (k : Str), names[i]? = some k → NoAttr K C k) : ∀ (i : Nat) (k : Str), (n :: names)[i]? = some k → NoAttr K C k
  | 0, k, h => by
    cases h
    exact e
  | i + 1, k, h => r i k (by rw [List.getElem?_cons_succ] at h; exact h)
theorem clsF_mk {C : Addr} {names : List Str} (pg : PySem.W.plainGet K C Str.empty = true) (hd : PySem.W.hasDictIn K C = true) (po : PySem.W.plainOver K C = true) (sa : PySem.W.findIn K (.ref C) "__setattr__" = some (some (.builtin "object.__setattr__")))
    (na : ∀ (i : Nat) (k : Str), names[i]? = some k → NoAttr K C k) : ClsF K C names := ⟨⟨pg, hd, po, sa⟩, na⟩

theorem txt_mk {t0 t1 t2 t3 t4 t5 t6 t7 t8 t9 t10 t11 t12 t13 t14 t15 t16 : Tok} (X : K.In h) (G : h.Ns mainGlobals mg)
    (b_len : PySem.W.nsIn K mainGlobals "len" = some none)
    (b_max : PySem.W.nsIn K mainGlobals "max" = some none)
    (b_min : PySem.W.nsIn K mainGlobals "min" = some none)
    (b_sum : PySem.W.nsIn K mainGlobals "sum" = some none)
    (b_any : PySem.W.nsIn K mainGlobals "any" = some none)
    (b_int : PySem.W.nsIn K mainGlobals "int" = some none)
    (b_sorted : PySem.W.nsIn K mainGlobals "sorted" = some none)
    (b_range : PySem.W.nsIn K mainGlobals "range" = some none)
    (b_enumerate : PySem.W.nsIn K mainGlobals "enumerate" = some none)
    (n_blank : PySem.W.nsIn K mainGlobals "BLANK" = some (some (.int 1 t0)))
    (n_behind : PySem.W.nsIn K mainGlobals "BREAK_BEHIND" = some (some (.int 2 t1)))
    (n_cSheet : PySem.W.nsIn K mainGlobals "CALL_SHEET" = some (some (.int 1 t2)))
    (n_cSet : PySem.W.nsIn K mainGlobals "CALL_SET" = some (some (.int 2 t3)))
    (n_cLine : PySem.W.nsIn K mainGlobals "CALL_LINE" = some (some (.int 3 t4)))
    (n_cWhere : PySem.W.nsIn K mainGlobals "CALL_WHERE" = some (some (.int 4 t5)))
    (n_least : PySem.W.nsIn K mainGlobals "LEAST_HEIGHT" = some (some (.int 3 t6)))
    (n_mHeight : PySem.W.nsIn K mainGlobals "MOST_HEIGHT" = some (some (.int 1000 t7)))
    (n_mGap : PySem.W.nsIn K mainGlobals "MOST_GAP" = some (some (.int 100 t8)))
    (n_mWidth : PySem.W.nsIn K mainGlobals "MOST_WIDTH" = some (some (.int 1000000 t9)))
    (n_mRanges : PySem.W.nsIn K mainGlobals "MOST_RANGES" = some (some (.int 256 t10)))
    (n_mCut : PySem.W.nsIn K mainGlobals "MOST_CUT" = some (some (.int 64 t11)))
    (n_mKind : PySem.W.nsIn K mainGlobals "MOST_KIND" = some (some (.int 2 t12)))
    (n_mDepth : PySem.W.nsIn K mainGlobals "MOST_DEPTH" = some (some (.int 3 t13)))
    (n_mText : PySem.W.nsIn K mainGlobals "MOST_TEXT" = some (some (.int 65535 t14)))
    (n_mTexts : PySem.W.nsIn K mainGlobals "MOST_TEXTS" = some (some (.int 262144 t15)))
    (n_mLines : PySem.W.nsIn K mainGlobals "MOST_LINES" = some (some (.int 65536 t16)))
    : Txt mg :=
  ⟨PySem.W.mg_none_of X G b_len, PySem.W.mg_none_of X G b_max, PySem.W.mg_none_of X G b_min, PySem.W.mg_none_of X G b_sum, PySem.W.mg_none_of X G b_any, PySem.W.mg_none_of X G b_int, PySem.W.mg_none_of X G b_sorted, PySem.W.mg_none_of X G b_range, PySem.W.mg_none_of X G b_enumerate, ⟨_, PySem.W.mg_of X G n_blank⟩, ⟨_, PySem.W.mg_of X G n_behind⟩, ⟨_, PySem.W.mg_of X G n_cSheet⟩, ⟨_, PySem.W.mg_of X G n_cSet⟩, ⟨_, PySem.W.mg_of X G n_cLine⟩, ⟨_, PySem.W.mg_of X G n_cWhere⟩, ⟨_, PySem.W.mg_of X G n_least⟩, ⟨_, PySem.W.mg_of X G n_mHeight⟩, ⟨_, PySem.W.mg_of X G n_mGap⟩, ⟨_, PySem.W.mg_of X G n_mWidth⟩, ⟨_, PySem.W.mg_of X G n_mRanges⟩, ⟨_, PySem.W.mg_of X G n_mCut⟩, ⟨_, PySem.W.mg_of X G n_mKind⟩, ⟨_, PySem.W.mg_of X G n_mDepth⟩, ⟨_, PySem.W.mg_of X G n_mText⟩, ⟨_, PySem.W.mg_of X G n_mTexts⟩, ⟨_, PySem.W.mg_of X G n_mLines⟩⟩
end
theorem main_mk {P : Program} {w : World} {K : PySem.W.Frag} {h : Heap} {mg : Str → Option Value} {fa f : Addr} {aW aS aP aL aC aT aR : Addr} {oc kV dc pm cd ct : Value} {od an : Option Addr} {sl : Array (Option Value)} (X : K.In h) (G : h.Ns mainGlobals mg) (hfa : mg "answers" = some (.ref fa))
    (nW : PySem.W.nsIn K mainGlobals "Widths" = some (some (.ref aW)))
    (nS : PySem.W.nsIn K mainGlobals "Sheet" = some (some (.ref aS)))
    (nP : PySem.W.nsIn K mainGlobals "Paragraph" = some (some (.ref aP)))
    (nL : PySem.W.nsIn K mainGlobals "Line" = some (some (.ref aL)))
    (nC : PySem.W.nsIn K mainGlobals "Columns" = some (some (.ref aC)))
    (nT : PySem.W.nsIn K mainGlobals "Setter" = some (some (.ref aT)))
    (nR : PySem.W.nsIn K mainGlobals "Reader" = some (some (.ref aR)))
    (T : Txt mg)
    (TW : ClsF K aW nmW)
    (TS : ClsF K aS nmS)
    (TP : ClsF K aP nmP)
    (TL : ClsF K aL nmL)
    (TC : ClsF K aC nmC)
    (TT : ClsF K aT nmT)
    (TR : ClsF K aR nmR)
    (LMeasureBy : Laid K mg "measure_by_ranges" sMeasureBy)
    (LStarts : Laid K mg "stretch_starts" sStarts)
    (LIsBlank : Laid K mg "is_blank" sIsBlank)
    (LTextEnd : Laid K mg "text_end" sTextEnd)
    (LBehind : Laid K mg "behind_blanks" sBehind)
    (LIsBreak : Laid K mg "is_break" sIsBreak)
    (LFitting : Laid K mg "fitting" sFitting)
    (LLineEnd : Laid K mg "line_end" sLineEnd)
    (LLinePlaces : Laid K mg "line_places" sLinePlaces)
    (LNeeds : Laid K mg "first_line_needs" sNeeds)
    (LLines : Laid K mg "lines_in_columns" sLines)
    (LBeyond : Laid K mg "is_beyond_limits" sBeyond)
    (LWrongRange : Laid K mg "has_wrong_range" sWrongRange)
    (LSheetRef : Laid K mg "sheet_refusal" sSheetRef)
    (LIsRight : Laid K mg "is_right" sIsRight)
    (LNotRight : Laid K mg "first_not_right" sNotRight)
    (LFirstBlank : Laid K mg "first_blanks_alone" sFirstBlank)
    (LFirstBroken : Laid K mg "first_not_broken" sFirstBroken)
    (LParsRef : Laid K mg "paragraphs_refusal" sParsRef)
    (LStanding : Laid K mg "standing_places" sStanding)
    (LSheetOf : Laid K mg "sheet_of" sSheetOf)
    (LAnswer : Laid K mg "answer" sAnswer)
    (LWInit : LaidC K mg aW "Widths" "Widths.__init__" sWInit)
    (LMeasure : LaidM K aW "measure" "Widths.measure" sMeasure)
    (LMeasureAll : LaidM K aW "measure_all" "Widths.measure_all" sMeasureAll)
    (LTotal : LaidM K aW "total" "Widths.total" sTotal)
    (LSInit : LaidC K mg aS "Sheet" "Sheet.__init__" sSInit)
    (LFirst : LaidM K aS "first_room" "Sheet.first_room" sFirst)
    (LLater : LaidM K aS "later_room" "Sheet.later_room" sLater)
    (LLeadRoom : LaidM K aS "lead_room" "Sheet.lead_room" sLeadRoom)
    (LPInit : LaidC K mg aP "Paragraph" "Paragraph.__init__" sPInit)
    (LMeasureOn : LaidM K aP "measure_on" "Paragraph.measure_on" sMeasureOn)
    (LBlanksAlone : LaidM K aP "is_blanks_alone" "Paragraph.is_blanks_alone" sBlanksAlone)
    (LBreakOn : LaidM K aP "break_on" "Paragraph.break_on" sBreakOn)
    (LLInit : LaidC K mg aL "Line" "Line.__init__" sLInit)
    (LCInit : LaidC K mg aC "Columns" "Columns.__init__" sCInit)
    (LPutLine : LaidM K aC "put_line" "Columns.put_line" sPutLine)
    (LBeginMain : LaidM K aC "begin_main" "Columns.begin_main" sBeginMain)
    (LMakeRoom : LaidM K aC "make_room" "Columns.make_room" sMakeRoom)
    (LPutPar : LaidM K aC "put_paragraph" "Columns.put_paragraph" sPutPar)
    (LTInit : LaidC K mg aT "Setter" "Setter.__init__" sTInit)
    (LKeep : LaidM K aT "keep_lines" "Setter.keep_lines" sKeep)
    (LSetSheet : LaidM K aT "set_sheet" "Setter.set_sheet" sSetSheet)
    (LSetPars : LaidM K aT "set_paragraphs" "Setter.set_paragraphs" sSetPars)
    (LTellLine : LaidM K aT "tell_line" "Setter.tell_line" sTellLine)
    (LTellWhere : LaidM K aT "tell_where" "Setter.tell_where" sTellWhere)
    (LTellColumns : LaidM K aT "tell_columns" "Setter.tell_columns" sTellColumns)
    (LRInit : LaidC K mg aR "Reader" "Reader.__init__" sRInit)
    (LAtEnd : LaidM K aR "is_at_end" "Reader.is_at_end" sAtEnd)
    (LReadNumber : LaidM K aR "read_number" "Reader.read_number" sReadNumber)
    (LReadList : LaidM K aR "read_list" "Reader.read_list" sReadList)
    (LReadLists : LaidM K aR "read_lists" "Reader.read_lists" sReadLists)
    (a : PySem.W.nsIn K mainGlobals "answers" = some (some (.ref f))) (l : K.lookup f = some ⟨oc, od, .func (PySem.W.fnOf "answers" "answers" (defArgs sAnswers) (defBody sAnswers) (defScope sAnswers) .none kV dc pm an cd ct), sl⟩) (c : PySem.W.codeIn K cd "answers" = true) (k : PySem.W.keepIn K (.ref f) = true) :
    ∃ fd : FuncData, (∀ (s : Shared) (us : List Value), us.length = (["calls"] : List Str).length → BindsTo s fd ⟨us, []⟩ ((["calls"] : List Str).zip us)) ∧ ∀ base : Heap, K.In base → base.Ns mainGlobals mg → FnOk P w K mg base CX0 10 fa fd ["calls"] (spAnswers K) := by
  have e := hfa.symm.trans (PySem.W.mg_of X G a)
  cases e
  refine ⟨PySem.W.fnOf "answers" "answers" (defArgs sAnswers) (defBody sAnswers) (defScope sAnswers) .none kV dc pm an cd ct, fun s us hu => match us, hu with | [_], _ => .of_eq rfl, fun base _ _ => ?_⟩
  let cs : Ads := ⟨aW, aS, aP, aL, aC, aT, aR⟩
  have dIsBlank := ok_is_blank (P := P) (w := w) (mg := mg) (base := base) T LIsBlank
  have dTextEnd := ok_text_end T LTextEnd dIsBlank
  have dBehind := ok_behind T LBehind dIsBlank
  have dIsBreak := ok_is_break T LIsBreak dIsBlank
  have dFitting := ok_fitting (P := P) (w := w) (mg := mg) (base := base) T LFitting
  have dLineEnd := ok_line_end T LLineEnd dFitting dIsBreak
  have dLinePlaces := ok_line_places T LLinePlaces dTextEnd dBehind dLineEnd
  have dMeasureBy := ok_measure_by (P := P) (w := w) (mg := mg) (base := base) T LMeasureBy
  have dStarts := ok_starts (P := P) (w := w) (mg := mg) (base := base) T LStarts
  have dWInit := ok_w_init (cs := cs) T TW LWInit dStarts dMeasureBy
  have dMeasure := ok_measure (P := P) (w := w) (mg := mg) (base := base) (cs := cs) T TW LMeasure
  have dMeasureAll := ok_measure_all (cs := cs) T TW LMeasureAll dMeasure
  have dTotal := ok_total (cs := cs) T TW LTotal dMeasureAll
  have dSInit := ok_s_init (cs := cs) T TS LSInit dWInit
  have dFirst := ok_first (P := P) (w := w) (mg := mg) (base := base) (cs := cs) T TS LFirst
  have dLater := ok_later (cs := cs) T TS LLater dFirst
  have dLeadRoom := ok_lead_room (cs := cs) T TW TS LLeadRoom dTotal
  have dPInit := ok_p_init (P := P) (w := w) (mg := mg) (base := base) (cs := cs) T TP LPInit
  have dMeasureOn := ok_measure_on (cs := cs) T TW TS TP LMeasureOn dMeasureAll
  have dBlanksAlone := ok_blanks_alone (cs := cs) T TP LBlanksAlone dTextEnd
  have dBreakOn := ok_break_on (cs := cs) T TS TP LBreakOn dFirst dLater dLinePlaces
  have dNeeds := ok_needs (P := P) (w := w) (mg := mg) (base := base) (cs := cs) T TP LNeeds
  have dLInit := ok_l_init (P := P) (w := w) (mg := mg) (base := base) (cs := cs) TL LLInit
  have dCInit := ok_c_init (P := P) (w := w) (mg := mg) (base := base) (cs := cs) TC LCInit
  have dPutLine := ok_put_line (cs := cs) TC LPutLine dLInit
  have dBeginMain := ok_begin_main (cs := cs) T TS TP TC LBeginMain dFitting dLeadRoom
  have dMakeRoom := ok_make_room (cs := cs) TS TC LMakeRoom dPutLine
  have dPutPar := ok_put_par (cs := cs) T TP TC LPutPar dNeeds dBeginMain dMakeRoom dPutLine
  have dLines := ok_lines (cs := cs) T TC LLines dCInit dPutPar
  have dBeyond := ok_beyond (P := P) (w := w) (mg := mg) (base := base) (cs := cs) T TS LBeyond
  have dWrongRange := ok_wrong_range (P := P) (w := w) (mg := mg) (base := base) (cs := cs) T TS LWrongRange
  have dSheetRef := ok_sheet_ref (cs := cs) T TS LSheetRef dBeyond dWrongRange dLeadRoom
  have dIsRight := ok_is_right (P := P) (w := w) (mg := mg) (base := base) (cs := cs) T TP LIsRight
  have dNotRight := ok_not_right (cs := cs) T TP LNotRight dIsRight
  have dFirstBlank := ok_first_blank (cs := cs) T TP LFirstBlank dBlanksAlone
  have dFirstBroken := ok_first_broken (cs := cs) T TP LFirstBroken dBreakOn
  have dParsRef := ok_pars_ref (cs := cs) T TP LParsRef dNotRight dMeasureOn dFirstBlank dFirstBroken
  have dStanding := ok_standing (P := P) (w := w) (mg := mg) (base := base) (cs := cs) T TL LStanding
  have dKeep := ok_keep (cs := cs) TT LKeep dStanding
  have dTInit := ok_t_init (cs := cs) T TT LTInit dSInit dKeep
  have dSetSheet := ok_set_sheet (cs := cs) TT LSetSheet dSheetRef dKeep
  have dSetPars := ok_set_pars (cs := cs) T TT LSetPars dParsRef dLines dKeep
  have dTellLine := ok_tell_line (P := P) (w := w) (mg := mg) (base := base) (cs := cs) T TS TP TL TT LTellLine
  have dTellWhere := ok_tell_where (P := P) (w := w) (mg := mg) (base := base) (cs := cs) TT LTellWhere
  have dTellColumns := ok_tell_columns (P := P) (w := w) (mg := mg) (base := base) (cs := cs) T TL TT LTellColumns
  have dRInit := ok_r_init (P := P) (w := w) (mg := mg) (base := base) (cs := cs) TR LRInit
  have dAtEnd := ok_at_end (P := P) (w := w) (mg := mg) (base := base) (cs := cs) T TR LAtEnd
  have dReadNumber := ok_read_number (P := P) (w := w) (mg := mg) (base := base) (cs := cs) TR LReadNumber
  have dReadList := ok_read_list (cs := cs) TR LReadList dReadNumber
  have dReadLists := ok_read_lists (cs := cs) T TR LReadLists dReadNumber dReadList
  have dSheetOf := ok_sheet_of (cs := cs) T LSheetOf dSInit
  have dAnswer := ok_answer (cs := cs) T TP TT LAnswer dSheetOf dSetSheet dPInit dSetPars dTellLine dTellWhere dTellColumns
  exact ok_answers (cs := cs) (fun_mk l c k) T TT TR dTInit dRInit dAtEnd dReadNumber dReadList dReadLists dAnswer
theorem begin_is {K : PySem.W.Frag} {H : Hp} {p : Addr} {l : List Int} {Q : VK} {E : XK} (hs : SqL K H p (l.map V.int)) (hw : (Codec.inLen 0 31000 l && l.all (Codec.inInt 0 4294967295)) = true) (ha : PyWqakbg.answers_asked l = true)
    (q : ∀ (H' : Hp) (p : Addr), H' p = some (.lst ((PyWqakbg.answers l).map V.int)) → Q (.ref p) H') : spAnswers K [.ref p] H Q E := by
  rw [Bool.and_eq_true] at hw
  refine ⟨p, l, rfl, hs, fun z hz => ?_, (Codec.inNat_iff.mp hw.1).2, ha, q⟩
  exact (Codec.inInt_iff.mp (List.all_eq_true.mp hw.2 z hz)).1
end Hc

set_option maxHeartbeats 0
open PySem PySem.W PyProof.Rows
theorem PySem.Challenge.cw_headcolumns_s01_answers_holds : PySem.Challenge.rw_headcolumns_s01_answers.Holds := by
  w_on; k_headS; (case hw => exact ⟨[.list [.int 5, .int 0, .int 0]], by decide +kernel, by decide +kernel⟩)
  k_fillS
  refine L2.walk_specK (r := PySem.Challenge.rw_headcolumns_s01_answers) (k := 10) (CX := L2.CX0) (ps := ["calls"]) (sp := Hc.spAnswers) (by decide +kernel) rfl rfl ⟨rfl, by decide, by decide⟩ (fun w h Y => PySem.W.kIn_of Y) ?F ?S (fun _ _ _ _ z => z)
  case F =>
    intro w mg fa h Y KX G hmg
    refine' Hc.main_mk KX G hmg ?nW ?nS ?nP ?nL ?nC ?nT ?nR ?T ?TW ?TS ?TP ?TL ?TC ?TT ?TR ?LMeasureBy ?LStarts ?LIsBlank ?LTextEnd ?LBehind ?LIsBreak ?LFitting ?LLineEnd ?LLinePlaces ?LNeeds ?LLines ?LBeyond ?LWrongRange ?LSheetRef ?LIsRight ?LNotRight ?LFirstBlank ?LFirstBroken ?LParsRef ?LStanding ?LSheetOf ?LAnswer ?LWInit ?LMeasure ?LMeasureAll ?LTotal ?LSInit ?LFirst ?LLater ?LLeadRoom ?LPInit ?LMeasureOn ?LBlanksAlone ?LBreakOn ?LLInit ?LCInit ?LPutLine ?LBeginMain ?LMakeRoom ?LPutPar ?LTInit ?LKeep ?LSetSheet ?LSetPars ?LTellLine ?LTellWhere ?LTellColumns ?LRInit ?LAtEnd ?LReadNumber ?LReadList ?LReadLists ?aZ ?lZ ?cZ ?kZ
    (case nW => k_is)
    (case nS => k_is)
    (case nP => k_is)
    (case nL => k_is)
    (case nC => k_is)
    (case nT => k_is)
    (case nR => k_is)
    (case T => refine' Hc.txt_mk KX G ?b_len_T ?b_max_T ?b_min_T ?b_sum_T ?b_any_T ?b_int_T ?b_sorted_T ?b_range_T ?b_enumerate_T ?n_blank_T ?n_behind_T ?n_cSheet_T ?n_cSet_T ?n_cLine_T ?n_cWhere_T ?n_least_T ?n_mHeight_T ?n_mGap_T ?n_mWidth_T ?n_mRanges_T ?n_mCut_T ?n_mKind_T ?n_mDepth_T ?n_mText_T ?n_mTexts_T ?n_mLines_T; (case b_len_T => k_is); (case b_max_T => k_is); (case b_min_T => k_is); (case b_sum_T => k_is); (case b_any_T => k_is); (case b_int_T => k_is); (case b_sorted_T => k_is); (case b_range_T => k_is); (case b_enumerate_T => k_is); (case n_blank_T => k_is); (case n_behind_T => k_is); (case n_cSheet_T => k_is); (case n_cSet_T => k_is); (case n_cLine_T => k_is); (case n_cWhere_T => k_is); (case n_least_T => k_is); (case n_mHeight_T => k_is); (case n_mGap_T => k_is); (case n_mWidth_T => k_is); (case n_mRanges_T => k_is); (case n_mCut_T => k_is); (case n_mKind_T => k_is); (case n_mDepth_T => k_is); (case n_mText_T => k_is); (case n_mTexts_T => k_is); (case n_mLines_T => k_is))
    (case TW => refine' Hc.clsF_mk ?pg_TW ?hd_TW ?po_TW ?sa_TW (Hc.na_cons ?f0_TW (Hc.na_cons ?f1_TW Hc.na_nil)); (case pg_TW => k_is); (case hd_TW => k_is); (case po_TW => k_is); (case sa_TW => k_is); (case f0_TW => k_is); (case f1_TW => k_is))
    (case TS => refine' Hc.clsF_mk ?pg_TS ?hd_TS ?po_TS ?sa_TS (Hc.na_cons ?f0_TS (Hc.na_cons ?f1_TS (Hc.na_cons ?f2_TS (Hc.na_cons ?f3_TS (Hc.na_cons ?f4_TS (Hc.na_cons ?f5_TS (Hc.na_cons ?f6_TS (Hc.na_cons ?f7_TS Hc.na_nil)))))))); (case pg_TS => k_is); (case hd_TS => k_is); (case po_TS => k_is); (case sa_TS => k_is); (case f0_TS => k_is); (case f1_TS => k_is); (case f2_TS => k_is); (case f3_TS => k_is); (case f4_TS => k_is); (case f5_TS => k_is); (case f6_TS => k_is); (case f7_TS => k_is))
    (case TP => refine' Hc.clsF_mk ?pg_TP ?hd_TP ?po_TP ?sa_TP (Hc.na_cons ?f0_TP (Hc.na_cons ?f1_TP (Hc.na_cons ?f2_TP (Hc.na_cons ?f3_TP (Hc.na_cons ?f4_TP (Hc.na_cons ?f5_TP Hc.na_nil)))))); (case pg_TP => k_is); (case hd_TP => k_is); (case po_TP => k_is); (case sa_TP => k_is); (case f0_TP => k_is); (case f1_TP => k_is); (case f2_TP => k_is); (case f3_TP => k_is); (case f4_TP => k_is); (case f5_TP => k_is))
    (case TL => refine' Hc.clsF_mk ?pg_TL ?hd_TL ?po_TL ?sa_TL (Hc.na_cons ?f0_TL (Hc.na_cons ?f1_TL (Hc.na_cons ?f2_TL (Hc.na_cons ?f3_TL (Hc.na_cons ?f4_TL (Hc.na_cons ?f5_TL Hc.na_nil)))))); (case pg_TL => k_is); (case hd_TL => k_is); (case po_TL => k_is); (case sa_TL => k_is); (case f0_TL => k_is); (case f1_TL => k_is); (case f2_TL => k_is); (case f3_TL => k_is); (case f4_TL => k_is); (case f5_TL => k_is))
    (case TC => refine' Hc.clsF_mk ?pg_TC ?hd_TC ?po_TC ?sa_TC (Hc.na_cons ?f0_TC (Hc.na_cons ?f1_TC (Hc.na_cons ?f2_TC (Hc.na_cons ?f3_TC (Hc.na_cons ?f4_TC (Hc.na_cons ?f5_TC Hc.na_nil)))))); (case pg_TC => k_is); (case hd_TC => k_is); (case po_TC => k_is); (case sa_TC => k_is); (case f0_TC => k_is); (case f1_TC => k_is); (case f2_TC => k_is); (case f3_TC => k_is); (case f4_TC => k_is); (case f5_TC => k_is))
    (case TT => refine' Hc.clsF_mk ?pg_TT ?hd_TT ?po_TT ?sa_TT (Hc.na_cons ?f0_TT (Hc.na_cons ?f1_TT (Hc.na_cons ?f2_TT (Hc.na_cons ?f3_TT Hc.na_nil)))); (case pg_TT => k_is); (case hd_TT => k_is); (case po_TT => k_is); (case sa_TT => k_is); (case f0_TT => k_is); (case f1_TT => k_is); (case f2_TT => k_is); (case f3_TT => k_is))
    (case TR => refine' Hc.clsF_mk ?pg_TR ?hd_TR ?po_TR ?sa_TR (Hc.na_cons ?f0_TR (Hc.na_cons ?f1_TR Hc.na_nil)); (case pg_TR => k_is); (case hd_TR => k_is); (case po_TR => k_is); (case sa_TR => k_is); (case f0_TR => k_is); (case f1_TR => k_is))
    (case LMeasureBy => refine' Hc.laid_mk KX G ?a_LMeasureBy ?l_LMeasureBy ?c_LMeasureBy ?k_LMeasureBy; (case a_LMeasureBy => k_is); (case l_LMeasureBy => k_is); (case c_LMeasureBy => k_is); (case k_LMeasureBy => k_is))
    (case LStarts => refine' Hc.laid_mk KX G ?a_LStarts ?l_LStarts ?c_LStarts ?k_LStarts; (case a_LStarts => k_is); (case l_LStarts => k_is); (case c_LStarts => k_is); (case k_LStarts => k_is))
    (case LIsBlank => refine' Hc.laid_mk KX G ?a_LIsBlank ?l_LIsBlank ?c_LIsBlank ?k_LIsBlank; (case a_LIsBlank => k_is); (case l_LIsBlank => k_is); (case c_LIsBlank => k_is); (case k_LIsBlank => k_is))
    (case LTextEnd => refine' Hc.laid_mk KX G ?a_LTextEnd ?l_LTextEnd ?c_LTextEnd ?k_LTextEnd; (case a_LTextEnd => k_is); (case l_LTextEnd => k_is); (case c_LTextEnd => k_is); (case k_LTextEnd => k_is))
    (case LBehind => refine' Hc.laid_mk KX G ?a_LBehind ?l_LBehind ?c_LBehind ?k_LBehind; (case a_LBehind => k_is); (case l_LBehind => k_is); (case c_LBehind => k_is); (case k_LBehind => k_is))
    (case LIsBreak => refine' Hc.laid_mk KX G ?a_LIsBreak ?l_LIsBreak ?c_LIsBreak ?k_LIsBreak; (case a_LIsBreak => k_is); (case l_LIsBreak => k_is); (case c_LIsBreak => k_is); (case k_LIsBreak => k_is))
    (case LFitting => refine' Hc.laid_mk KX G ?a_LFitting ?l_LFitting ?c_LFitting ?k_LFitting; (case a_LFitting => k_is); (case l_LFitting => k_is); (case c_LFitting => k_is); (case k_LFitting => k_is))
    (case LLineEnd => refine' Hc.laid_mk KX G ?a_LLineEnd ?l_LLineEnd ?c_LLineEnd ?k_LLineEnd; (case a_LLineEnd => k_is); (case l_LLineEnd => k_is); (case c_LLineEnd => k_is); (case k_LLineEnd => k_is))
    (case LLinePlaces => refine' Hc.laid_mk KX G ?a_LLinePlaces ?l_LLinePlaces ?c_LLinePlaces ?k_LLinePlaces; (case a_LLinePlaces => k_is); (case l_LLinePlaces => k_is); (case c_LLinePlaces => k_is); (case k_LLinePlaces => k_is))
    (case LNeeds => refine' Hc.laid_mk KX G ?a_LNeeds ?l_LNeeds ?c_LNeeds ?k_LNeeds; (case a_LNeeds => k_is); (case l_LNeeds => k_is); (case c_LNeeds => k_is); (case k_LNeeds => k_is))
    (case LLines => refine' Hc.laid_mk KX G ?a_LLines ?l_LLines ?c_LLines ?k_LLines; (case a_LLines => k_is); (case l_LLines => k_is); (case c_LLines => k_is); (case k_LLines => k_is))
    (case LBeyond => refine' Hc.laid_mk KX G ?a_LBeyond ?l_LBeyond ?c_LBeyond ?k_LBeyond; (case a_LBeyond => k_is); (case l_LBeyond => k_is); (case c_LBeyond => k_is); (case k_LBeyond => k_is))
    (case LWrongRange => refine' Hc.laid_mk KX G ?a_LWrongRange ?l_LWrongRange ?c_LWrongRange ?k_LWrongRange; (case a_LWrongRange => k_is); (case l_LWrongRange => k_is); (case c_LWrongRange => k_is); (case k_LWrongRange => k_is))
    (case LSheetRef => refine' Hc.laid_mk KX G ?a_LSheetRef ?l_LSheetRef ?c_LSheetRef ?k_LSheetRef; (case a_LSheetRef => k_is); (case l_LSheetRef => k_is); (case c_LSheetRef => k_is); (case k_LSheetRef => k_is))
    (case LIsRight => refine' Hc.laid_mk KX G ?a_LIsRight ?l_LIsRight ?c_LIsRight ?k_LIsRight; (case a_LIsRight => k_is); (case l_LIsRight => k_is); (case c_LIsRight => k_is); (case k_LIsRight => k_is))
    (case LNotRight => refine' Hc.laid_mk KX G ?a_LNotRight ?l_LNotRight ?c_LNotRight ?k_LNotRight; (case a_LNotRight => k_is); (case l_LNotRight => k_is); (case c_LNotRight => k_is); (case k_LNotRight => k_is))
    (case LFirstBlank => refine' Hc.laid_mk KX G ?a_LFirstBlank ?l_LFirstBlank ?c_LFirstBlank ?k_LFirstBlank; (case a_LFirstBlank => k_is); (case l_LFirstBlank => k_is); (case c_LFirstBlank => k_is); (case k_LFirstBlank => k_is))
    (case LFirstBroken => refine' Hc.laid_mk KX G ?a_LFirstBroken ?l_LFirstBroken ?c_LFirstBroken ?k_LFirstBroken; (case a_LFirstBroken => k_is); (case l_LFirstBroken => k_is); (case c_LFirstBroken => k_is); (case k_LFirstBroken => k_is))
    (case LParsRef => refine' Hc.laid_mk KX G ?a_LParsRef ?l_LParsRef ?c_LParsRef ?k_LParsRef; (case a_LParsRef => k_is); (case l_LParsRef => k_is); (case c_LParsRef => k_is); (case k_LParsRef => k_is))
    (case LStanding => refine' Hc.laid_mk KX G ?a_LStanding ?l_LStanding ?c_LStanding ?k_LStanding; (case a_LStanding => k_is); (case l_LStanding => k_is); (case c_LStanding => k_is); (case k_LStanding => k_is))
    (case LSheetOf => refine' Hc.laid_mk KX G ?a_LSheetOf ?l_LSheetOf ?c_LSheetOf ?k_LSheetOf; (case a_LSheetOf => k_is); (case l_LSheetOf => k_is); (case c_LSheetOf => k_is); (case k_LSheetOf => k_is))
    (case LAnswer => refine' Hc.laid_mk KX G ?a_LAnswer ?l_LAnswer ?c_LAnswer ?k_LAnswer; (case a_LAnswer => k_is); (case l_LAnswer => k_is); (case c_LAnswer => k_is); (case k_LAnswer => k_is))
    (case LWInit => refine' Hc.laidC_mk KX G ?n_LWInit ?mk_LWInit ?kc_LWInit ?a_LWInit ?i_LWInit ?l_LWInit ?c_LWInit ?k_LWInit; (case n_LWInit => k_is); (case mk_LWInit => k_is); (case kc_LWInit => k_is); (case a_LWInit => k_is); (case i_LWInit => k_is); (case l_LWInit => k_is); (case c_LWInit => k_is); (case k_LWInit => k_is))
    (case LMeasure => refine' Hc.laidM_mk ?a_LMeasure ?i_LMeasure ?l_LMeasure ?c_LMeasure ?k_LMeasure; (case a_LMeasure => k_is); (case i_LMeasure => k_is); (case l_LMeasure => k_is); (case c_LMeasure => k_is); (case k_LMeasure => k_is))
    (case LMeasureAll => refine' Hc.laidM_mk ?a_LMeasureAll ?i_LMeasureAll ?l_LMeasureAll ?c_LMeasureAll ?k_LMeasureAll; (case a_LMeasureAll => k_is); (case i_LMeasureAll => k_is); (case l_LMeasureAll => k_is); (case c_LMeasureAll => k_is); (case k_LMeasureAll => k_is))
    (case LTotal => refine' Hc.laidM_mk ?a_LTotal ?i_LTotal ?l_LTotal ?c_LTotal ?k_LTotal; (case a_LTotal => k_is); (case i_LTotal => k_is); (case l_LTotal => k_is); (case c_LTotal => k_is); (case k_LTotal => k_is))
    (case LSInit => refine' Hc.laidC_mk KX G ?n_LSInit ?mk_LSInit ?kc_LSInit ?a_LSInit ?i_LSInit ?l_LSInit ?c_LSInit ?k_LSInit; (case n_LSInit => k_is); (case mk_LSInit => k_is); (case kc_LSInit => k_is); (case a_LSInit => k_is); (case i_LSInit => k_is); (case l_LSInit => k_is); (case c_LSInit => k_is); (case k_LSInit => k_is))
    (case LFirst => refine' Hc.laidM_mk ?a_LFirst ?i_LFirst ?l_LFirst ?c_LFirst ?k_LFirst; (case a_LFirst => k_is); (case i_LFirst => k_is); (case l_LFirst => k_is); (case c_LFirst => k_is); (case k_LFirst => k_is))
    (case LLater => refine' Hc.laidM_mk ?a_LLater ?i_LLater ?l_LLater ?c_LLater ?k_LLater; (case a_LLater => k_is); (case i_LLater => k_is); (case l_LLater => k_is); (case c_LLater => k_is); (case k_LLater => k_is))
    (case LLeadRoom => refine' Hc.laidM_mk ?a_LLeadRoom ?i_LLeadRoom ?l_LLeadRoom ?c_LLeadRoom ?k_LLeadRoom; (case a_LLeadRoom => k_is); (case i_LLeadRoom => k_is); (case l_LLeadRoom => k_is); (case c_LLeadRoom => k_is); (case k_LLeadRoom => k_is))
    (case LPInit => refine' Hc.laidC_mk KX G ?n_LPInit ?mk_LPInit ?kc_LPInit ?a_LPInit ?i_LPInit ?l_LPInit ?c_LPInit ?k_LPInit; (case n_LPInit => k_is); (case mk_LPInit => k_is); (case kc_LPInit => k_is); (case a_LPInit => k_is); (case i_LPInit => k_is); (case l_LPInit => k_is); (case c_LPInit => k_is); (case k_LPInit => k_is))
    (case LMeasureOn => refine' Hc.laidM_mk ?a_LMeasureOn ?i_LMeasureOn ?l_LMeasureOn ?c_LMeasureOn ?k_LMeasureOn; (case a_LMeasureOn => k_is); (case i_LMeasureOn => k_is); (case l_LMeasureOn => k_is); (case c_LMeasureOn => k_is); (case k_LMeasureOn => k_is))
    (case LBlanksAlone => refine' Hc.laidM_mk ?a_LBlanksAlone ?i_LBlanksAlone ?l_LBlanksAlone ?c_LBlanksAlone ?k_LBlanksAlone; (case a_LBlanksAlone => k_is); (case i_LBlanksAlone => k_is); (case l_LBlanksAlone => k_is); (case c_LBlanksAlone => k_is); (case k_LBlanksAlone => k_is))
    (case LBreakOn => refine' Hc.laidM_mk ?a_LBreakOn ?i_LBreakOn ?l_LBreakOn ?c_LBreakOn ?k_LBreakOn; (case a_LBreakOn => k_is); (case i_LBreakOn => k_is); (case l_LBreakOn => k_is); (case c_LBreakOn => k_is); (case k_LBreakOn => k_is))
    (case LLInit => refine' Hc.laidC_mk KX G ?n_LLInit ?mk_LLInit ?kc_LLInit ?a_LLInit ?i_LLInit ?l_LLInit ?c_LLInit ?k_LLInit; (case n_LLInit => k_is); (case mk_LLInit => k_is); (case kc_LLInit => k_is); (case a_LLInit => k_is); (case i_LLInit => k_is); (case l_LLInit => k_is); (case c_LLInit => k_is); (case k_LLInit => k_is))
    (case LCInit => refine' Hc.laidC_mk KX G ?n_LCInit ?mk_LCInit ?kc_LCInit ?a_LCInit ?i_LCInit ?l_LCInit ?c_LCInit ?k_LCInit; (case n_LCInit => k_is); (case mk_LCInit => k_is); (case kc_LCInit => k_is); (case a_LCInit => k_is); (case i_LCInit => k_is); (case l_LCInit => k_is); (case c_LCInit => k_is); (case k_LCInit => k_is))
    (case LPutLine => refine' Hc.laidM_mk ?a_LPutLine ?i_LPutLine ?l_LPutLine ?c_LPutLine ?k_LPutLine; (case a_LPutLine => k_is); (case i_LPutLine => k_is); (case l_LPutLine => k_is); (case c_LPutLine => k_is); (case k_LPutLine => k_is))
    (case LBeginMain => refine' Hc.laidM_mk ?a_LBeginMain ?i_LBeginMain ?l_LBeginMain ?c_LBeginMain ?k_LBeginMain; (case a_LBeginMain => k_is); (case i_LBeginMain => k_is); (case l_LBeginMain => k_is); (case c_LBeginMain => k_is); (case k_LBeginMain => k_is))
    (case LMakeRoom => refine' Hc.laidM_mk ?a_LMakeRoom ?i_LMakeRoom ?l_LMakeRoom ?c_LMakeRoom ?k_LMakeRoom; (case a_LMakeRoom => k_is); (case i_LMakeRoom => k_is); (case l_LMakeRoom => k_is); (case c_LMakeRoom => k_is); (case k_LMakeRoom => k_is))
    (case LPutPar => refine' Hc.laidM_mk ?a_LPutPar ?i_LPutPar ?l_LPutPar ?c_LPutPar ?k_LPutPar; (case a_LPutPar => k_is); (case i_LPutPar => k_is); (case l_LPutPar => k_is); (case c_LPutPar => k_is); (case k_LPutPar => k_is))
    (case LTInit => refine' Hc.laidC_mk KX G ?n_LTInit ?mk_LTInit ?kc_LTInit ?a_LTInit ?i_LTInit ?l_LTInit ?c_LTInit ?k_LTInit; (case n_LTInit => k_is); (case mk_LTInit => k_is); (case kc_LTInit => k_is); (case a_LTInit => k_is); (case i_LTInit => k_is); (case l_LTInit => k_is); (case c_LTInit => k_is); (case k_LTInit => k_is))
    (case LKeep => refine' Hc.laidM_mk ?a_LKeep ?i_LKeep ?l_LKeep ?c_LKeep ?k_LKeep; (case a_LKeep => k_is); (case i_LKeep => k_is); (case l_LKeep => k_is); (case c_LKeep => k_is); (case k_LKeep => k_is))
    (case LSetSheet => refine' Hc.laidM_mk ?a_LSetSheet ?i_LSetSheet ?l_LSetSheet ?c_LSetSheet ?k_LSetSheet; (case a_LSetSheet => k_is); (case i_LSetSheet => k_is); (case l_LSetSheet => k_is); (case c_LSetSheet => k_is); (case k_LSetSheet => k_is))
    (case LSetPars => refine' Hc.laidM_mk ?a_LSetPars ?i_LSetPars ?l_LSetPars ?c_LSetPars ?k_LSetPars; (case a_LSetPars => k_is); (case i_LSetPars => k_is); (case l_LSetPars => k_is); (case c_LSetPars => k_is); (case k_LSetPars => k_is))
    (case LTellLine => refine' Hc.laidM_mk ?a_LTellLine ?i_LTellLine ?l_LTellLine ?c_LTellLine ?k_LTellLine; (case a_LTellLine => k_is); (case i_LTellLine => k_is); (case l_LTellLine => k_is); (case c_LTellLine => k_is); (case k_LTellLine => k_is))
    (case LTellWhere => refine' Hc.laidM_mk ?a_LTellWhere ?i_LTellWhere ?l_LTellWhere ?c_LTellWhere ?k_LTellWhere; (case a_LTellWhere => k_is); (case i_LTellWhere => k_is); (case l_LTellWhere => k_is); (case c_LTellWhere => k_is); (case k_LTellWhere => k_is))
    (case LTellColumns => refine' Hc.laidM_mk ?a_LTellColumns ?i_LTellColumns ?l_LTellColumns ?c_LTellColumns ?k_LTellColumns; (case a_LTellColumns => k_is); (case i_LTellColumns => k_is); (case l_LTellColumns => k_is); (case c_LTellColumns => k_is); (case k_LTellColumns => k_is))
    (case LRInit => refine' Hc.laidC_mk KX G ?n_LRInit ?mk_LRInit ?kc_LRInit ?a_LRInit ?i_LRInit ?l_LRInit ?c_LRInit ?k_LRInit; (case n_LRInit => k_is); (case mk_LRInit => k_is); (case kc_LRInit => k_is); (case a_LRInit => k_is); (case i_LRInit => k_is); (case l_LRInit => k_is); (case c_LRInit => k_is); (case k_LRInit => k_is))
    (case LAtEnd => refine' Hc.laidM_mk ?a_LAtEnd ?i_LAtEnd ?l_LAtEnd ?c_LAtEnd ?k_LAtEnd; (case a_LAtEnd => k_is); (case i_LAtEnd => k_is); (case l_LAtEnd => k_is); (case c_LAtEnd => k_is); (case k_LAtEnd => k_is))
    (case LReadNumber => refine' Hc.laidM_mk ?a_LReadNumber ?i_LReadNumber ?l_LReadNumber ?c_LReadNumber ?k_LReadNumber; (case a_LReadNumber => k_is); (case i_LReadNumber => k_is); (case l_LReadNumber => k_is); (case c_LReadNumber => k_is); (case k_LReadNumber => k_is))
    (case LReadList => refine' Hc.laidM_mk ?a_LReadList ?i_LReadList ?l_LReadList ?c_LReadList ?k_LReadList; (case a_LReadList => k_is); (case i_LReadList => k_is); (case l_LReadList => k_is); (case c_LReadList => k_is); (case k_LReadList => k_is))
    (case LReadLists => refine' Hc.laidM_mk ?a_LReadLists ?i_LReadLists ?l_LReadLists ?c_LReadLists ?k_LReadLists; (case a_LReadLists => k_is); (case i_LReadLists => k_is); (case l_LReadLists => k_is); (case c_LReadLists => k_is); (case k_LReadLists => k_is))
    (case aZ => k_is); (case lZ => k_is); (case cZ => k_is); (case kZ => k_is)
  case S =>
    intro K H xs a hO hwi hask hx
    cases hx with
    | cons h1 h2 =>
      cases h2
      cases h1 with
      | lst hs ha =>
        have e := L2.ints_dw a.1 _ ha
        subst e
        have q : ((Codec.inLen 0 31000 a.1 && a.1.all (Codec.inInt 0 4294967295)) && true) = true := hwi
        rw [Bool.and_true] at q
        exact Hc.begin_is hs q hask (fun H' p hp => .lst (L2.SqL.of hp) (L2.dw_ints _))
