import PyProof.Rows.All
import Wide.All
import OpenK.AllK
import Wide.FinOn
import PyProof.EqAt
import PyProof.EqKinds
import PyProof.TupleCall
import KE.BitLaws
import KE.KMinKey
import Open.SpecLaws
import KE.OsHead
import KE.OsGo
import PyFlatLaws
import PySem.Challenge.RW_valleyvotes_s01_answers
set_option Elab.async false
set_option linter.all false
set_option maxRecDepth 100000
set_option maxHeartbeats 2000000
namespace VT
open Km457
structure WF (s : Valley) : Prop where
  pos : 0 < s.length
  ups : ∀ v, 0 < v -> v < s.length -> (at_ s v).up < v
  long : ∀ v, 0 < v -> v < s.length -> 0 < (at_ s v).long
def anc (s : Valley) (v w : Nat) : Bool := (line s w).contains v
section
variable {s : Valley} (W : WF s)
include W
theorem go_fuel : ∀ (v f g : Nat), v < s.length -> v <= f -> v <= g -> lineGo s f v = lineGo s g v := by
  intro v
  induction v using Nat.strongRecOn with
  | ind v ih =>
    intro f g hv hf hg
    by_cases h0 : v = 0
    . subst h0
      cases f <;> cases g <;> simp [lineGo]
    . have hu := W.ups v (by omega) hv
      cases f with
      | zero => omega
      | succ f =>
        cases g with
        | zero => omega
        | succ g =>
          simp only [lineGo, if_neg h0]
          rw [ih _ hu f g (by omega) (by omega) (by omega)]
theorem line_zero : line s 0 = [0] := by
  unfold line
  have := W.pos
  cases h : s.length with
  | zero => omega
  | succ n => simp [lineGo]
theorem line_succ {v : Nat} (h0 : 0 < v) (hv : v < s.length) : line s v = v :: line s (at_ s v).up := by
  have hu := W.ups v h0 hv
  unfold line
  cases h : s.length with
  | zero => omega
  | succ n =>
    rw [lineGo, if_neg (by omega)]
    rw [go_fuel W (at_ s v).up n (n + 1) (by omega) (by omega) (by omega)]
theorem anc_zero (v : Nat) : anc s v 0 = decide (v = 0) := by
  unfold anc
  rw [line_zero W]
  simp
theorem anc_succ {w : Nat} (v : Nat) (h0 : 0 < w) (hw : w < s.length) : anc s v w = (decide (v = w) || anc s v (at_ s w).up) := by
  unfold anc
  rw [line_succ W h0 hw]
  simp
theorem anc_self {v : Nat} (hv : v < s.length) : anc s v v = true := by
  by_cases h0 : v = 0
  . subst h0; rw [anc_zero W]; simp
  . rw [anc_succ W v (by omega) hv]; simp
theorem anc_up {v w : Nat} (h0 : 0 < w) (hw : w < s.length) (h : v ≠ w) : anc s v w = anc s v (at_ s w).up := by
  rw [anc_succ W v h0 hw]
  simp [h]
theorem anc_root : ∀ {w : Nat}, w < s.length -> anc s 0 w = true := by
  intro w
  induction w using Nat.strongRecOn with
  | ind w ih =>
    intro hw
    by_cases h0 : w = 0
    . subst h0; exact anc_self W hw
    . have hu := W.ups w (by omega) hw
      rw [anc_up W (by omega) hw (by omega)]
      exact ih _ hu (by omega)
theorem anc_le : ∀ {w v : Nat}, w < s.length -> anc s v w = true -> v <= w := by
  intro w
  induction w using Nat.strongRecOn with
  | ind w ih =>
    intro v hw h
    by_cases h0 : w = 0
    . subst h0
      rw [anc_zero W] at h
      have : v = 0 := by simpa using h
      omega
    . have hu := W.ups w (by omega) hw
      by_cases e : v = w
      . omega
      . rw [anc_up W (by omega) hw e] at h
        have := ih _ hu (by omega) h
        omega
theorem anc_not {w v : Nat} (hw : w < s.length) (h : w < v) : anc s v w = false := by
  cases e : anc s v w with
  | false => rfl
  | true => have := anc_le W hw e; omega
theorem anc_trans : ∀ {c a b : Nat}, c < s.length -> anc s a b = true -> anc s b c = true -> anc s a c = true := by
  intro c
  induction c using Nat.strongRecOn with
  | ind c ih =>
    intro a b hc hab hbc
    by_cases e : b = c
    . subst e; exact hab
    . by_cases h0 : c = 0
      . subst h0
        rw [anc_zero W] at hbc
        exact absurd (by simpa using hbc) e
      . have hu := W.ups c (by omega) hc
        rw [anc_up W (by omega) hc e] at hbc
        have h1 := ih _ hu (by omega) hab hbc
        rw [anc_succ W a (by omega) hc, h1]
        simp
theorem anc_lin : ∀ {c a b : Nat}, c < s.length -> anc s a c = true -> anc s b c = true -> anc s a b = true \/ anc s b a = true := by
  intro c
  induction c using Nat.strongRecOn with
  | ind c ih =>
    intro a b hc hac hbc
    by_cases ea : a = c
    . subst ea; exact .inr hbc
    . by_cases eb : b = c
      . subst eb; exact .inl hac
      . by_cases h0 : c = 0
        . subst h0
          rw [anc_zero W] at hac
          exact absurd (by simpa using hac) ea
        . have hu := W.ups c (by omega) hc
          rw [anc_up W (by omega) hc ea] at hac
          rw [anc_up W (by omega) hc eb] at hbc
          exact ih _ hu (by omega) hac hbc
theorem anc_child : ∀ {y v : Nat}, y < s.length -> anc s v y = true -> v ≠ y -> ∃ c, 0 < c /\ c < s.length /\ (at_ s c).up = v /\ anc s c y = true := by
  intro y
  induction y using Nat.strongRecOn with
  | ind y ih =>
    intro v hy h hne
    have h0 : 0 < y := by
      have := anc_le W hy h
      omega
    have hu := W.ups y h0 hy
    rw [anc_up W h0 hy hne] at h
    by_cases e : v = (at_ s y).up
    . exact ⟨y, h0, hy, e.symm, anc_self W hy⟩
    . obtain ⟨c, c0, cl, cu, ca⟩ := ih _ hu (by omega) h e
      refine ⟨c, c0, cl, cu, ?_⟩
      rw [anc_succ W c h0 hy, ca]
      simp
theorem meet_self {v : Nat} (hv : v < s.length) : meet s v v = v := by
  unfold meet
  by_cases h0 : v = 0
  . subst h0; rw [line_zero W]; simp
  . rw [line_succ W (by omega) hv]
    simp
theorem meet_left {v w : Nat} (hv : v < s.length) (h : w < v) : meet s v w = meet s (at_ s v).up w := by
  unfold meet
  rw [line_succ W (by omega) hv, List.find?_cons]
  have : (line s w).contains v = false := anc_not W (by omega) h
  rw [this]
omit W in
theorem find_congr {α : Type} {p q : α -> Bool} : ∀ {l : List α}, (∀ x ∈ l, p x = q x) -> l.find? p = l.find? q
  | [], _ => rfl
  | a :: l, h => by
    rw [List.find?_cons, List.find?_cons, h a (by simp), find_congr fun x hx => h x (by simp [hx])]
theorem line_le {w x : Nat} (hw : w < s.length) (h : x ∈ line s w) : x <= w := by
  have e : anc s x w = true := by unfold anc; simpa using h
  exact anc_le W hw e
theorem meet_right {v w : Nat} (hw : w < s.length) (h : v < w) : meet s v w = meet s v (at_ s w).up := by
  unfold meet
  rw [find_congr (q := fun x => (line s (at_ s w).up).contains x)]
  intro x hx
  have hle := line_le W (by omega) hx
  show anc s x w = anc s x (at_ s w).up
  exact anc_up W (by omega) hw (by omega)
theorem meet_comm : ∀ {n v w : Nat}, v + w <= n -> v < s.length -> w < s.length -> meet s v w = meet s w v := by
  intro n
  induction n with
  | zero =>
    intro v w h hv hw
    have e1 : v = 0 := by omega
    have e2 : w = 0 := by omega
    subst e1 e2; rfl
  | succ n ih =>
    intro v w h hv hw
    rcases Nat.lt_trichotomy v w with l | l | l
    . have hu := W.ups w (by omega) hw
      rw [meet_right W hw l, meet_left W hw l]
      exact ih (by omega) hv (by omega)
    . subst l; rfl
    . have hu := W.ups v (by omega) hv
      rw [meet_left W hv l, meet_right W hv l]
      exact ih (by omega) (by omega) hw
theorem meet_le {v w : Nat} (hv : v < s.length) (hw : w < s.length) : meet s v w <= w /\ meet s v w <= v := by
  unfold meet
  cases h : (line s v).find? fun x => (line s w).contains x with
  | none => simp
  | some x =>
    have h1 : (line s w).contains x = true := List.find?_some (p := fun x => (line s w).contains x) h
    have h2 := List.mem_of_find?_eq_some h
    exact ⟨anc_le W hw h1, line_le W hv h2⟩
omit W in
theorem sum_cons (a : Nat) (l : List Nat) : Km457.sum (a :: l) = a + Km457.sum l := by
  unfold Km457.sum
  have : ∀ (l : List Nat) (a b : Nat), l.foldl (· + ·) (a + b) = a + l.foldl (· + ·) b := by
    intro l
    induction l with
    | nil => intros; rfl
    | cons x l ih => intro a b; simp only [List.foldl_cons]; rw [Nat.add_assoc, ih]
  simp only [List.foldl_cons, Nat.zero_add]
  rw [<- Nat.add_zero a, this]
  simp
theorem climb_self {v : Nat} (hv : v < s.length) : climb s (line s v) v = 0 := by
  unfold climb
  by_cases h0 : v = 0
  . subst h0; rw [line_zero W]; simp [Km457.sum]
  . rw [line_succ W (by omega) hv]
    simp [Km457.sum]
theorem climb_up {v m : Nat} (h0 : 0 < v) (hv : v < s.length) (hm : m ≠ v) : climb s (line s v) m = (at_ s v).long + climb s (line s (at_ s v).up) m := by
  unfold climb
  rw [line_succ W h0 hv, List.takeWhile_cons_of_pos (by simpa using Ne.symm hm), List.map_cons, sum_cons]
theorem far_self {v : Nat} (hv : v < s.length) : far s v v = 0 := by
  unfold far
  rw [meet_self W hv, climb_self W hv]
theorem far_comm {v w : Nat} (hv : v < s.length) (hw : w < s.length) : far s v w = far s w v := by
  unfold far
  rw [meet_comm W (Nat.le_refl _) hv hw, Nat.add_comm]
theorem far_left {v w : Nat} (hv : v < s.length) (h : w < v) : far s v w = (at_ s v).long + far s (at_ s v).up w := by
  have hu := W.ups v (by omega) hv
  have hm := (meet_le W (v := v) (w := w) hv (by omega)).1
  unfold far
  rw [meet_left W hv h]
  rw [meet_left W hv h] at hm
  rw [climb_up W (by omega) hv (by omega), Nat.add_assoc]
theorem far_right {v w : Nat} (hw : w < s.length) (h : v < w) : far s v w = (at_ s w).long + far s v (at_ s w).up := by
  have hu := W.ups w (by omega) hw
  rw [far_comm W (by omega) hw, far_left W hw h, far_comm W (by omega) (by omega)]
theorem far_edge : ∀ {x v : Nat}, 0 < v -> v < s.length -> x < s.length ->
    far s (at_ s v).up x + (if anc s v x = true then 0 else (at_ s v).long) = far s v x + (if anc s v x = true then (at_ s v).long else 0) := by
  intro x
  induction x using Nat.strongRecOn with
  | ind x ih =>
    intro v h0 hv hx
    have hu := W.ups v h0 hv
    rcases Nat.lt_trichotomy x v with l | l | l
    . rw [anc_not W hx l, far_left W hv l]
      simp; omega
    . subst l
      rw [anc_self W hx, far_self W hx, far_right W hx hu, far_self W (by omega)]
      simp
    . have hp := W.ups x (by omega) hx
      rw [anc_up W (by omega) hx (by omega), far_right W hx l, far_right W hx (show (at_ s v).up < x by omega)]
      have := ih _ hp h0 hv (by omega)
      omega
end
end VT
namespace VT
open Km457
def S : Nat -> (Nat -> Nat) -> Nat
  | 0, _ => 0
  | n + 1, f => S n f + f n
theorem sum457 : ∀ l : List Nat, Km457.sum l = l.sum
  | [] => rfl
  | a :: l => by rw [sum_cons, sum457 l, List.sum_cons]
theorem sum460 (l : List Nat) : Km460.sum l = l.sum := sum457 l
theorem sum462 (l : List Nat) : Km462.sum l = l.sum := sum457 l
theorem S_range (f : Nat -> Nat) : ∀ n, ((List.range n).map f).sum = S n f
  | 0 => rfl
  | n + 1 => by rw [List.range_succ, List.map_append, List.sum_append, S_range f n]; simp [S]
theorem S_congr {f g : Nat -> Nat} : ∀ {n}, (∀ x, x < n -> f x = g x) -> S n f = S n g
  | 0, _ => rfl
  | n + 1, h => by rw [S, S, S_congr (n := n) fun x hx => h x (by omega), h n (by omega)]
theorem S_add {f g : Nat -> Nat} : ∀ {n}, S n f + S n g = S n fun x => f x + g x
  | 0 => rfl
  | n + 1 => by simp only [S]; rw [<- S_add (n := n)]; omega
theorem S_mul {f : Nat -> Nat} (c : Nat) : ∀ {n}, S n (fun x => f x * c) = S n f * c
  | 0 => by simp [S]
  | n + 1 => by simp only [S]; rw [S_mul c, Nat.add_mul]
theorem S_le {f g : Nat -> Nat} : ∀ {n}, (∀ x, x < n -> f x <= g x) -> S n f <= S n g
  | 0, _ => Nat.le_refl _
  | n + 1, h => by
    have h1 := S_le (n := n) fun x hx => h x (by omega)
    have h2 := h n (by omega)
    simp only [S]; omega
theorem S_zero {n : Nat} : S n (fun _ => 0) = 0 := by
  induction n with
  | zero => rfl
  | succ n ih => simp [S, ih]
theorem map_at (s : Valley) (f : Village -> Nat) : s.map f = (List.range s.length).map fun v => f (at_ s v) := by
  apply List.ext_getElem
  . simp
  . intro i h1 h2
    simp only [List.getElem_map, List.getElem_range]
    unfold at_
    rw [List.getD_eq_getElem?_getD, List.getElem?_eq_getElem (by simpa using h1)]
    rfl
theorem total_eq (s : Valley) : total s = S s.length fun v => (at_ s v).many := by
  unfold total
  rw [sum457, map_at s fun x => x.many, S_range]
theorem ways_eq (s : Valley) (v : Nat) : ways s v = S s.length fun w => (at_ s w).many * far s v w := by
  unfold ways all
  rw [sum457, S_range]
def B (s : Valley) (v : Nat) : Nat := S s.length fun x => if anc s v x = true then (at_ s x).many else 0
section
variable {s : Valley} (W : WF s)
include W
omit W in
theorem B_le (v : Nat) : B s v <= total s := by
  rw [total_eq]
  exact S_le fun x _ => by split <;> omega
theorem ways_edge {v : Nat} (h0 : 0 < v) (hv : v < s.length) : ways s (at_ s v).up + (total s - B s v) * (at_ s v).long = ways s v + B s v * (at_ s v).long := by
  have hc : total s - B s v = S s.length fun x => if anc s v x = true then 0 else (at_ s x).many := by
    have : (S s.length fun x => if anc s v x = true then 0 else (at_ s x).many) + B s v = total s := by
      rw [total_eq, B, S_add]
      exact S_congr fun x _ => by split <;> omega
    omega
  rw [hc, ways_eq, ways_eq, B, <- S_mul, <- S_mul, S_add, S_add]
  refine S_congr fun x hx => ?_
  have e := far_edge W h0 hv hx
  cases h : anc s v x with
  | true =>
    rw [h] at e
    simp only [if_true] at e ⊢
    have : far s (at_ s v).up x = far s v x + (at_ s v).long := by omega
    rw [this, Nat.mul_add]; omega
  | false =>
    rw [h] at e
    simp only [Bool.false_eq_true, if_false] at e ⊢
    have : far s v x = far s (at_ s v).up x + (at_ s v).long := by omega
    rw [this, Nat.mul_add]; omega
theorem B_mono {a b : Nat} (h : anc s a b = true) : B s b <= B s a := by
  refine S_le fun x hx => ?_
  cases e : anc s b x with
  | false => simp
  | true => rw [anc_trans W hx h e]; simp
theorem B_apart {a b : Nat} (h : anc s a b = false) (h' : anc s b a = false) : B s a + B s b <= total s := by
  rw [B, B, S_add, total_eq]
  refine S_le fun x hx => ?_
  cases e : anc s a x with
  | false => simp only [Bool.false_eq_true, if_false]; split <;> omega
  | true =>
    cases e' : anc s b x with
    | false => simp
    | true =>
      rcases anc_lin W hx e e' with z | z
      . rw [z] at h; cases h
      . rw [z] at h'; cases h'
def Middle (s : Valley) (v : Nat) : Prop := (∀ c, 0 < c -> c < s.length -> (at_ s c).up = v -> 2 * B s c <= total s) /\ (0 < v -> 2 * (total s - B s v) <= total s)
theorem up_le {v : Nat} (hv : v < s.length) (h : 0 < v -> 2 * (total s - B s v) <= total s) : ∀ {x a : Nat}, x < s.length -> anc s x v = true -> anc s a x = true -> ways s x <= ways s a := by
  intro x
  induction x using Nat.strongRecOn with
  | ind x ih =>
    intro a hx hxv hax
    by_cases e : a = x
    . subst e; exact Nat.le_refl _
    . have h0 : 0 < x := by
        have := anc_le W hx hax
        omega
      have hu := W.ups x h0 hx
      rw [anc_up W h0 hx e] at hax
      have hup : anc s (at_ s x).up v = true := by
        refine anc_trans W hv ?_ hxv
        rw [anc_up W h0 hx (by omega)]
        exact anc_self W (by omega)
      have h1 := ih _ hu (by omega) hup hax
      have h2 := ways_edge W h0 hx
      have h3 := B_mono W hxv
      have hv0 : 0 < v := by
        have := anc_le W hv hxv
        omega
      have h4 := h hv0
      have h5 : (total s - B s x) * (at_ s x).long <= B s x * (at_ s x).long := Nat.mul_le_mul_right _ (by omega)
      omega
theorem middle_least {v : Nat} (hv : v < s.length) (M : Middle s v) : ∀ {y : Nat}, y < s.length -> ways s v <= ways s y := by
  intro y
  induction y using Nat.strongRecOn with
  | ind y ih =>
    intro hy
    cases hyv : anc s y v with
    | true => exact up_le W hv M.2 hv (anc_self W hv) hyv
    | false =>
      have h0 : 0 < y := by
        rcases Nat.eq_zero_or_pos y with e | e
        . subst e; rw [anc_root W hv] at hyv; cases hyv
        . exact e
      have hu := W.ups y h0 hy
      have h1 := ih _ hu (by omega)
      have h2 := ways_edge W h0 hy
      have h3 : 2 * B s y <= total s := by
        cases hvy : anc s v y with
        | true =>
          have hne : v ≠ y := by
            intro e; subst e; rw [hvy] at hyv; cases hyv
          obtain ⟨c, c0, cl, cu, ca⟩ := anc_child W hy hvy hne
          have := M.1 c c0 cl cu
          have := B_mono W ca
          omega
        | false =>
          have := B_apart W hvy hyv
          have hv0 : 0 < v := by
            rcases Nat.eq_zero_or_pos v with e | e
            . subst e; rw [anc_root W hy] at hvy; cases hvy
            . exact e
          have := M.2 hv0
          omega
      have h5 : B s y * (at_ s y).long <= (total s - B s y) * (at_ s y).long := Nat.mul_le_mul_right _ (by omega)
      omega
theorem least_middle {v : Nat} (hv : v < s.length) (h : ∀ y, y < s.length -> ways s v <= ways s y) : Middle s v := by
  constructor
  . intro c c0 cl cu
    have e := ways_edge W c0 cl
    rw [cu] at e
    have h1 := h c cl
    have hl := W.long c c0 cl
    have hb := B_le (s := s) c
    have h2 : B s c * (at_ s c).long <= (total s - B s c) * (at_ s c).long := by omega
    have := Nat.le_of_mul_le_mul_right h2 hl
    omega
  . intro v0
    have hu := W.ups v v0 hv
    have e := ways_edge W v0 hv
    have h1 := h _ (show (at_ s v).up < s.length by omega)
    have hl := W.long v v0 hv
    have hb := B_le (s := s) v
    have h2 : (total s - B s v) * (at_ s v).long <= B s v * (at_ s v).long := by omega
    have := Nat.le_of_mul_le_mul_right h2 hl
    omega
theorem middle_iff {v : Nat} (hv : v < s.length) : Middle s v ↔ ∀ y, y < s.length -> ways s v <= ways s y :=
  ⟨fun M _ hy => middle_least W hv M hy, least_middle W hv⟩
end
theorem foldl_min_le : ∀ (l : List Nat) (a : Nat), l.foldl min a <= a /\ (∀ x ∈ l, l.foldl min a <= x) /\ (l.foldl min a = a \/ l.foldl min a ∈ l)
  | [], a => ⟨Nat.le_refl _, by simp, .inl rfl⟩
  | b :: l, a => by
    obtain ⟨h1, h2, h3⟩ := foldl_min_le l (min a b)
    refine ⟨by simp only [List.foldl_cons]; omega, ?_, ?_⟩
    . intro x hx
      simp only [List.foldl_cons]
      rcases List.mem_cons.mp hx with e | e
      . subst e; omega
      . exact h2 x e
    . simp only [List.foldl_cons]
      rcases h3 with e | e
      . by_cases hab : a <= b
        . left; omega
        . right; rw [e]; have : min a b = b := by omega
          rw [this]; simp
      . right; simp [e]
theorem least_iff {s : Valley} (hp : 0 < s.length) {v : Nat} (hv : v < s.length) : ways s v = least s ↔ ∀ y, y < s.length -> ways s v <= ways s y := by
  obtain ⟨h1, h2, h3⟩ := foldl_min_le ((all s).map fun v => ways s v) (ways s 0)
  unfold least
  constructor
  . intro e y hy
    rw [e]
    exact h2 _ (List.mem_map.mpr ⟨y, by simp [all, hy], rfl⟩)
  . intro h
    have ha : ways s v <= ((all s).map fun v => ways s v).foldl min (ways s 0) := by
      rcases h3 with e | e
      . rw [e]; exact h 0 hp
      . obtain ⟨y, hy, ey⟩ := List.mem_map.mp e
        rw [<- ey]
        exact h y (by simpa [all] using hy)
    have hb := h2 (ways s v) (List.mem_map.mpr ⟨v, by simp [all, hv], rfl⟩)
    omega
end VT
namespace VT
open Km457
section
variable {s : Valley} (W : WF s)
include W
theorem between_self {a : Nat} (ha : a < s.length) : Km460.between s a a = [a] := by
  unfold Km460.between
  simp only [meet_self W ha]
  have : (line s a).takeWhile (fun x => x != a) = [] := by
    by_cases h0 : a = 0
    . subst h0; rw [line_zero W]; simp
    . rw [line_succ W (by omega) ha]; simp
  rw [this]; rfl
theorem between_left {a w : Nat} (ha : a < s.length) (h : w < a) : Km460.between s a w = a :: Km460.between s (at_ s a).up w := by
  unfold Km460.between
  simp only [meet_left W ha h]
  have hm := (meet_le W (v := (at_ s a).up) (w := w) (by have := W.ups a (by omega) ha; omega) (by omega)).1
  rw [line_succ W (by omega) ha, List.takeWhile_cons_of_pos (by simp; omega)]
  rfl
theorem between_right {a w : Nat} (hw : w < s.length) (h : a < w) : Km460.between s a w = Km460.between s a (at_ s w).up ++ [w] := by
  unfold Km460.between
  simp only [meet_right W hw h]
  have hm := (meet_le W (v := a) (w := (at_ s w).up) (by omega) (by have := W.ups w (by omega) hw; omega)).2
  rw [line_succ W (by omega) hw, List.takeWhile_cons_of_pos (by simp; omega)]
  simp
theorem between_ends : ∀ {n a w : Nat}, a + w <= n -> a < s.length -> w < s.length -> a ∈ Km460.between s a w /\ w ∈ Km460.between s a w /\ ∀ x ∈ Km460.between s a w, x <= max a w := by
  intro n
  induction n with
  | zero =>
    intro a w h ha hw
    have e1 : a = 0 := by omega
    have e2 : w = 0 := by omega
    subst e1 e2
    rw [between_self W ha]; simp
  | succ n ih =>
    intro a w h ha hw
    rcases Nat.lt_trichotomy a w with l | l | l
    . have hu := W.ups w (by omega) hw
      obtain ⟨h1, h2, h3⟩ := ih (a := a) (w := (at_ s w).up) (by omega) ha (by omega)
      rw [between_right W hw l]
      refine ⟨by simp [h1], by simp, ?_⟩
      intro x hx
      rcases List.mem_append.mp hx with e | e
      . have := h3 x e; omega
      . have : x = w := by simpa using e
        omega
    . subst l
      rw [between_self W ha]; simp
    . have hu := W.ups a (by omega) ha
      obtain ⟨h1, h2, h3⟩ := ih (a := (at_ s a).up) (w := w) (by omega) (by omega) hw
      rw [between_left W ha l]
      refine ⟨by simp, by simp [h2], ?_⟩
      intro x hx
      rcases List.mem_cons.mp hx with e | e
      . omega
      . have := h3 x e; omega
theorem uses_iff : ∀ {n a w v : Nat}, a + w <= n -> a < s.length -> w < s.length -> 0 < v -> v < s.length ->
    ((Km460.between s a w).contains v && (Km460.between s a w).contains (at_ s v).up) = (anc s v a != anc s v w) := by
  intro n
  induction n with
  | zero =>
    intro a w v h ha hw v0 hv
    have e1 : a = 0 := by omega
    have e2 : w = 0 := by omega
    subst e1 e2
    rw [between_self W ha]
    have : ([0] : List Nat).contains v = false := by simp; omega
    rw [this]; simp
  | succ n ih =>
    intro a w v h ha hw v0 hv
    have huv := W.ups v v0 hv
    rcases Nat.lt_trichotomy a w with l | l | l
    . have hu := W.ups w (by omega) hw
      have hi := ih (a := a) (w := (at_ s w).up) (v := v) (by omega) ha (by omega) v0 hv
      obtain ⟨b1, b2, b3⟩ := between_ends W (Nat.le_refl (a + (at_ s w).up)) ha (show (at_ s w).up < s.length by omega)
      rw [between_right W hw l]
      by_cases e : v = w
      . subst e
        have ea : anc s v a = false := anc_not W ha l
        rw [ea, anc_self W hv]
        have h1 : (Km460.between s a (at_ s v).up ++ [v]).contains v = true := by simp
        have h2 : (Km460.between s a (at_ s v).up ++ [v]).contains (at_ s v).up = true := by simp [b2]
        rw [h1, h2]; rfl
      . rw [anc_up W (by omega) hw e, <- hi]
        have h1 : (Km460.between s a (at_ s w).up ++ [w]).contains v = (Km460.between s a (at_ s w).up).contains v := by simp [e]
        rw [h1]
        by_cases e2 : (at_ s v).up = w
        . have h3 : (Km460.between s a (at_ s w).up).contains v = false := by
            cases q : (Km460.between s a (at_ s w).up).contains v with
            | false => rfl
            | true => have := b3 v (by simpa using q); omega
          rw [h3]; rfl
        . have h4 : (Km460.between s a (at_ s w).up ++ [w]).contains (at_ s v).up = (Km460.between s a (at_ s w).up).contains (at_ s v).up := by simp [e2]
          rw [h4]
    . subst l
      rw [between_self W ha]
      have : (([a] : List Nat).contains v && ([a] : List Nat).contains (at_ s v).up) = false := by
        simp; omega
      rw [this]; simp
    . have hu := W.ups a (by omega) ha
      have hi := ih (a := (at_ s a).up) (w := w) (v := v) (by omega) (by omega) hw v0 hv
      obtain ⟨b1, b2, b3⟩ := between_ends W (Nat.le_refl ((at_ s a).up + w)) (show (at_ s a).up < s.length by omega) hw
      rw [between_left W ha l]
      by_cases e : v = a
      . subst e
        have ea : anc s v w = false := anc_not W hw l
        rw [ea, anc_self W hv]
        have h1 : (v :: Km460.between s (at_ s v).up w).contains v = true := by simp
        have h2 : (v :: Km460.between s (at_ s v).up w).contains (at_ s v).up = true := by simp [b1]
        rw [h1, h2]; rfl
      . rw [anc_up W (by omega) ha e, <- hi]
        have h1 : (a :: Km460.between s (at_ s a).up w).contains v = (Km460.between s (at_ s a).up w).contains v := by simp [e]
        rw [h1]
        by_cases e2 : (at_ s v).up = a
        . have h3 : (Km460.between s (at_ s a).up w).contains v = false := by
            cases q : (Km460.between s (at_ s a).up w).contains v with
            | false => rfl
            | true => have := b3 v (by simpa using q); omega
          rw [h3]; rfl
        . have h4 : (a :: Km460.between s (at_ s a).up w).contains (at_ s v).up = (Km460.between s (at_ s a).up w).contains (at_ s v).up := by simp [e2]
          rw [h4]
theorem uses_eq {a w v : Nat} (ha : a < s.length) (hw : w < s.length) (v0 : 0 < v) (hv : v < s.length) : Km462.uses s a v w = (anc s v a != anc s v w) :=
  uses_iff W (Nat.le_refl _) ha hw v0 hv
theorem roads_eq {a : Nat} {l : List Nat} (ha : a < s.length) (hl : ∀ w ∈ l, w < s.length) :
    Km460.roads s a l = (all s).filter fun v => v != 0 && l.any fun w => anc s v a != anc s v w := by
  unfold Km460.roads
  apply List.filter_congr
  intro v hv
  have hv' : v < s.length := by simpa [all] using hv
  by_cases e : v = 0
  . subst e; simp
  . have e' : (v != 0) = true := by simp [e]
    rw [e']
    simp only [Bool.true_and]
    rw [Bool.eq_iff_iff, List.any_eq_true, List.any_eq_true]
    constructor
    . rintro ⟨w, hw, q⟩
      exact ⟨w, hw, by rw [<- uses_iff W (Nat.le_refl _) ha (hl w hw) (by omega) hv']; exact q⟩
    . rintro ⟨w, hw, q⟩
      exact ⟨w, hw, by rw [uses_iff W (Nat.le_refl _) ha (hl w hw) (by omega) hv']; exact q⟩
end
end VT
namespace VT
def mask : Nat -> (Nat -> Bool) -> Nat
  | 0, _ => 0
  | n + 1, p => mask n p + (if p n = true then 2 ^ n else 0)
theorem mask_lt (p : Nat -> Bool) : ∀ n, mask n p < 2 ^ n
  | 0 => by simp [mask]
  | n + 1 => by
    have := mask_lt p n
    rw [mask, Nat.pow_succ]
    split <;> omega
theorem mask_congr {p q : Nat -> Bool} : ∀ {n}, (∀ i, i < n -> p i = q i) -> mask n p = mask n q
  | 0, _ => rfl
  | n + 1, h => by rw [mask, mask, mask_congr (n := n) fun i hi => h i (by omega), h n (by omega)]
theorem testBit_mask (p : Nat -> Bool) (i : Nat) : ∀ n, (mask n p).testBit i = (decide (i < n) && p i)
  | 0 => by simp [mask]
  | n + 1 => by
    have ih := testBit_mask p i n
    have hl := mask_lt p n
    rw [mask]
    by_cases hp : p n = true
    . rw [if_pos hp, Nat.add_comm]
      rcases Nat.lt_trichotomy i n with l | l | l
      . rw [Nat.testBit_two_pow_add_gt l, ih]
        have h1 : decide (i < n) = true := by simp [l]
        have h2 : decide (i < n + 1) = true := by simp; omega
        rw [h1, h2]
      . subst l
        rw [Nat.testBit_two_pow_add_eq, ih]
        simp [hp]
      . have h2 : decide (i < n + 1) = false := by simp; omega
        rw [h2, Nat.testBit_lt_two_pow]
        . rfl
        . have : 2 ^ (n + 1) <= 2 ^ i := Nat.pow_le_pow_right (by omega) (by omega)
          rw [Nat.pow_succ] at this
          omega
    . rw [if_neg hp, Nat.add_zero, ih]
      by_cases e : i = n
      . subst e
        have : p i = false := by simpa using hp
        rw [this]; simp
      . have : decide (i < n) = decide (i < n + 1) := by
          rw [Bool.eq_iff_iff]; simp; omega
        rw [this]
theorem bits_append (l : List Nat) (k : Nat) : Km462.bits (l ++ [k]) = Km462.bits l + 2 ^ k := by
  unfold Km462.bits
  rw [List.foldl_append]; rfl
theorem bits_filter (p : Nat -> Bool) : ∀ n, Km462.bits ((List.range n).filter p) = mask n p
  | 0 => rfl
  | n + 1 => by
    rw [List.range_succ, List.filter_append, mask, <- bits_filter p n]
    by_cases hp : p n = true
    . rw [if_pos hp]
      have : [n].filter p = [n] := by simp [hp]
      rw [this, bits_append]
    . rw [if_neg hp]
      have : [n].filter p = [] := by simp [hp]
      rw [this, List.append_nil]; rfl
theorem mask_or {p q : Nat -> Bool} {n : Nat} : mask n p ||| mask n q = mask n fun i => p i || q i := by
  apply Nat.eq_of_testBit_eq
  intro i
  rw [Nat.testBit_or, testBit_mask, testBit_mask, testBit_mask]
  cases decide (i < n) <;> simp
theorem mask_and {p q : Nat -> Bool} {n : Nat} : mask n p &&& mask n q = mask n fun i => p i && q i := by
  apply Nat.eq_of_testBit_eq
  intro i
  rw [Nat.testBit_and, testBit_mask, testBit_mask, testBit_mask]
  cases decide (i < n) <;> simp
theorem mask_one {n k : Nat} (h : k < n) : 2 ^ k = mask n fun i => decide (i = k) := by
  apply Nat.eq_of_testBit_eq
  intro i
  rw [Nat.testBit_two_pow, testBit_mask]
  by_cases e : i = k
  . subst e; simp [h]
  . simp [e]; omega
theorem mask_full (n : Nat) : 2 ^ n - 1 = mask n fun _ => true := by
  apply Nat.eq_of_testBit_eq
  intro i
  rw [Nat.testBit_two_pow_sub_one, testBit_mask]
  simp
theorem mask_inj {p q : Nat -> Bool} {n : Nat} (h : mask n p = mask n q) : ∀ i, i < n -> p i = q i := by
  intro i hi
  have := congrArg (fun x => x.testBit i) h
  simp only [testBit_mask] at this
  simpa [hi] using this
theorem mask_sub {p q : Nat -> Bool} : ∀ {n : Nat}, mask n p - (mask n fun i => p i && q i) = mask n (fun i => p i && !q i) /\ (mask n fun i => p i && q i) <= mask n p
  | 0 => ⟨rfl, Nat.le_refl _⟩
  | n + 1 => by
    obtain ⟨h1, h2⟩ := mask_sub (p := p) (q := q) (n := n)
    simp only [mask]
    generalize 2 ^ n = c
    by_cases e1 : p n = true <;> by_cases e2 : q n = true <;> simp [e1, e2] <;> omega
theorem mask_wider {p : Nat -> Bool} {n m : Nat} (h : n <= m) (hp : ∀ i, n <= i -> p i = false) : mask m p = mask n p := by
  induction h with
  | refl => rfl
  | step h ih => rw [mask, ih, hp _ h]; simp
theorem mask_zero {n : Nat} : mask n (fun _ => false) = 0 := by
  induction n with
  | zero => rfl
  | succ n ih => simp [mask, ih]
theorem mask_pos {p : Nat -> Bool} {n : Nat} : 0 < mask n p ↔ ∃ i, i < n /\ p i = true := by
  constructor
  . intro h
    apply Classical.byContradiction
    intro hn
    have : mask n p = mask n fun _ => false := mask_congr fun i hi => by
      cases e : p i with
      | false => rfl
      | true => exact absurd ⟨i, hi, e⟩ hn
    rw [this, mask_zero] at h; omega
  . rintro ⟨i, hi, e⟩
    apply Classical.byContradiction
    intro hn
    have h0 : mask n p = 0 := by omega
    have := testBit_mask p i n
    rw [h0] at this
    simp [hi, e] at this
def pop (x : Nat) : Nat := if x = 0 then 0 else x % 2 + pop (x / 2)
theorem pop_zero : pop 0 = 0 := by rw [pop]; simp
theorem pop_step (x : Nat) : pop x = x % 2 + pop (x / 2) := by
  by_cases h : x = 0
  . subst h; rw [pop_zero]
  . rw [pop, if_neg h]
theorem pop_top : ∀ {n m : Nat}, m < 2 ^ n -> pop (m + 2 ^ n) = pop m + 1
  | 0, m, h => by
    have : m = 0 := by simpa using h
    subst this
    show pop (0 + 1) = pop 0 + 1
    rw [pop_step (0 + 1), pop_zero]
    all_goals rfl
  | n + 1, m, h => by
    rw [Nat.pow_succ] at h ⊢
    rw [pop_step (m + 2 ^ n * 2), pop_step m]
    have h1 : (m + 2 ^ n * 2) % 2 = m % 2 := by omega
    have h2 : (m + 2 ^ n * 2) / 2 = m / 2 + 2 ^ n := by omega
    rw [h1, h2, pop_top (by omega)]
    omega
theorem pop_mask (p : Nat -> Bool) : ∀ n, pop (mask n p) = ((List.range n).filter p).length
  | 0 => by simp [mask, pop_zero]
  | n + 1 => by
    rw [List.range_succ, List.filter_append, List.length_append, <- pop_mask p n, mask]
    by_cases hp : p n = true
    . rw [if_pos hp, pop_top (mask_lt p n)]
      simp [hp]
    . rw [if_neg hp]
      simp [hp]
theorem pop_low : ∀ (x : Nat), 0 < x -> pop (x &&& (x - 1)) + 1 = pop x := by
  intro x
  induction x using Nat.strongRecOn with
  | ind x ih =>
    intro h
    have hd : (x &&& (x - 1)) / 2 = x / 2 &&& (x - 1) / 2 := Nat.and_div_two
    have hm : (x &&& (x - 1)) % 2 = 0 := by
      have : (x &&& (x - 1)).testBit 0 = false := by
        rw [Nat.testBit_and]
        rcases Nat.mod_two_eq_zero_or_one x with e | e
        . have : x.testBit 0 = false := by simp [Nat.testBit_zero, e]
          rw [this]; rfl
        . have : (x - 1).testBit 0 = false := by simp [Nat.testBit_zero]; omega
          rw [this]; simp
      rw [Nat.testBit_zero] at this
      have h2 : ¬ (x &&& (x - 1)) % 2 = 1 := by simpa using this
      omega
    rw [pop_step (x &&& (x - 1)), hm, hd, pop_step x]
    rcases Nat.mod_two_eq_zero_or_one x with e | e
    . have e2 : (x - 1) / 2 = x / 2 - 1 := by omega
      have := ih (x / 2) (by omega) (by omega)
      rw [e, e2]; omega
    . have e2 : (x - 1) / 2 = x / 2 := by omega
      rw [e, e2, Nat.and_self]; omega
theorem and_pred_lt {x : Nat} (h : 0 < x) : x &&& (x - 1) < x := by
  have : x &&& (x - 1) <= x - 1 := Nat.and_le_right
  omega
end VT
namespace VT
open Km457
def U (s : Valley) (j x y : Nat) : Bool := decide (y = x) || (List.range s.length).any fun c => decide (j < c) && decide ((at_ s c).up = x) && anc s c y
section
variable {s : Valley} (W : WF s)
include W
theorem U_last (x y : Nat) : U s (s.length - 1) x y = decide (y = x) := by
  unfold U
  have : ((List.range s.length).any fun c => decide (s.length - 1 < c) && decide ((at_ s c).up = x) && anc s c y) = false := by
    rw [List.any_eq_false]
    intro c hc
    have : c < s.length := by simpa using hc
    have h2 : ¬ (s.length - 1 < c) := by omega
    simp [h2]
  rw [this]; simp
theorem U_full {j v y : Nat} (hv : v < s.length) (hy : y < s.length) (h : j <= v) : U s j v y = anc s v y := by
  unfold U
  by_cases e : y = v
  . subst e; simp [anc_self W hy]
  . rw [decide_eq_false e, Bool.false_or, Bool.eq_iff_iff, List.any_eq_true]
    constructor
    . rintro ⟨c, hc, q⟩
      simp only [Bool.and_eq_true, decide_eq_true_eq] at q
      have hc' : c < s.length := by simpa using hc
      have c0 : 0 < c := by omega
      obtain ⟨⟨_, h2⟩, h3⟩ := q
      refine anc_trans W hy ?_ h3
      rw [anc_succ W v c0 hc', h2]
      simp [anc_self W hv]
    . intro q
      obtain ⟨c, c0, cl, cu, ca⟩ := anc_child W hy q (fun z => e z.symm)
      have := W.ups c c0 cl
      exact ⟨c, by simpa using cl, by simp [cu, ca]; omega⟩
theorem U_step {v x y : Nat} (v0 : 0 < v) (hv : v < s.length) (hy : y < s.length) : U s (v - 1) x y = (U s v x y || (decide ((at_ s v).up = x) && anc s v y)) := by
  unfold U
  rw [Bool.eq_iff_iff]
  simp only [Bool.or_eq_true, decide_eq_true_eq, List.any_eq_true, Bool.and_eq_true, List.mem_range]
  constructor
  . rintro (h | ⟨c, hc, ⟨h1, h2⟩, h3⟩)
    . exact .inl (.inl h)
    . by_cases e : c = v
      . subst e; exact .inr ⟨h2, h3⟩
      . exact .inl (.inr ⟨c, hc, ⟨by omega, h2⟩, h3⟩)
  . rintro ((h | ⟨c, hc, ⟨h1, h2⟩, h3⟩) | ⟨h2, h3⟩)
    . exact .inl h
    . exact .inr ⟨c, hc, ⟨by omega, h2⟩, h3⟩
    . exact .inr ⟨v, hv, ⟨by omega, h2⟩, h3⟩
end
structure Like (s t : Valley) : Prop where
  len : t.length = s.length
  up : ∀ v, (at_ t v).up = (at_ s v).up
  long : ∀ v, (at_ t v).long = (at_ s v).long
theorem Like.wf {s t : Valley} (L : Like s t) (W : WF s) : WF t :=
  ⟨by rw [L.len]; exact W.pos, fun v h0 hv => by rw [L.up]; exact W.ups v h0 (by rw [<- L.len]; exact hv), fun v h0 hv => by rw [L.long]; exact W.long v h0 (by rw [<- L.len]; exact hv)⟩
theorem Like.go {s t : Valley} (L : Like s t) : ∀ f v, lineGo t f v = lineGo s f v
  | 0, v => rfl
  | f + 1, v => by
    simp only [lineGo]
    rw [L.up, L.go f]
theorem Like.line {s t : Valley} (L : Like s t) (v : Nat) : line t v = line s v := by
  unfold Km457.line
  rw [L.len, L.go]
theorem Like.anc {s t : Valley} (L : Like s t) (v w : Nat) : anc t v w = anc s v w := by
  unfold VT.anc
  rw [L.line]
theorem Like.refl (s : Valley) : Like s s := ⟨rfl, fun _ => rfl, fun _ => rfl⟩
theorem at_set (s : Valley) (v w : Nat) (x : Village) : at_ (s.set v x) w = if v = w /\ v < s.length then x else at_ s w := by
  unfold at_
  rw [List.getD_eq_getElem?_getD, List.getD_eq_getElem?_getD, List.getElem?_set]
  by_cases e : v = w
  . subst e
    by_cases h : v < s.length
    . simp [h]
    . simp [h]
  . simp [e]
theorem Like.set {s t : Valley} (L : Like s t) (v : Nat) (m : Nat) : Like s (t.set v { at_ t v with many := m }) := by
  refine ⟨by rw [List.length_set]; exact L.len, fun w => ?_, fun w => ?_⟩
  . rw [at_set]
    split
    . rename_i h; rw [h.1]; exact L.up w
    . exact L.up w
  . rw [at_set]
    split
    . rename_i h; rw [h.1]; exact L.long w
    . exact L.long w
theorem like_odd (s : Valley) : Like s (Km462.odd s) := by
  unfold Km462.odd
  split
  . exact (Like.refl s).set 0 _
  . exact Like.refl s
theorem like_lied (s : Valley) (v w : Nat) : Like s (Km462.lied s v w) := ((Like.refl s).set v _).set w _
instance (s : Valley) (v : Nat) : Decidable (VT.Middle s v) := by
  have : VT.Middle s v ↔ ((∀ c ∈ List.range s.length, 0 < c -> (at_ s c).up = v -> 2 * B s c <= total s) /\ (0 < v -> 2 * (total s - B s v) <= total s)) := by
    unfold VT.Middle
    constructor
    . rintro ⟨h1, h2⟩
      exact ⟨fun c hc c0 e => h1 c c0 (by simpa using hc) e, h2⟩
    . rintro ⟨h1, h2⟩
      exact ⟨fun c c0 hc e => h1 c (by simpa using hc) c0 e, h2⟩
  exact decidable_of_iff _ this.symm
end VT
namespace VT
open Km457
theorem best_eq {s : Valley} (W : WF s) : best s = (List.range s.length).filter fun v => decide (Middle s v) := by
  unfold best all
  apply List.filter_congr
  intro v hv
  have hv' : v < s.length := by simpa using hv
  rw [Bool.eq_iff_iff, beq_iff_eq, decide_eq_true_eq, least_iff W.pos hv', middle_iff W hv']
theorem least_at {s : Valley} (W : WF s) : ∃ v, v < s.length /\ Middle s v := by
  obtain ⟨_, h2, h3⟩ := foldl_min_le ((all s).map fun v => ways s v) (ways s 0)
  have : ∃ v, v < s.length /\ ways s v = least s := by
    rcases h3 with e | e
    . exact ⟨0, W.pos, e.symm⟩
    . obtain ⟨v, hv, ev⟩ := List.mem_map.mp e
      exact ⟨v, by simpa [all] using hv, ev⟩
  obtain ⟨v, hv, e⟩ := this
  exact ⟨v, hv, (middle_iff W hv).mpr ((least_iff W.pos hv).mp e)⟩
theorem chosen_eq {s : Valley} (W : WF s) : ((List.range s.length).filter fun v => decide (Middle (Km462.odd s) v))[0]? = some (Km462.chosen s) /\ Km462.chosen s < s.length := by
  have L := like_odd s
  have W' := L.wf W
  have e := best_eq W'
  rw [L.len] at e
  unfold Km462.chosen
  rw [e]
  obtain ⟨v, hv, M⟩ := least_at W'
  rw [L.len] at hv
  cases h : (List.range s.length).filter fun v => decide (Middle (Km462.odd s) v) with
  | nil =>
    have : v ∈ (List.range s.length).filter fun v => decide (Middle (Km462.odd s) v) := by simp [hv, M]
    rw [h] at this; cases this
  | cons a l =>
    have : a ∈ (List.range s.length).filter fun v => decide (Middle (Km462.odd s) v) := by rw [h]; simp
    simp only [List.headD_cons]
    exact ⟨rfl, by simpa using (List.mem_filter.mp this).1⟩
end VT
namespace VT
open Km457
def fact : Nat -> Nat
  | 0 => 1
  | n + 1 => (n + 1) * fact n
def Mem (g : List Nat -> Nat) : Prop := ∀ a b : List Nat, (∀ x, x ∈ a ↔ x ∈ b) -> g a = g b
def L (l : List α) (f : α -> Nat) : Nat := (l.map f).sum
theorem L_cons (a : α) (l : List α) (f : α -> Nat) : L (a :: l) f = f a + L l f := by simp [L]
theorem L_append (l m : List α) (f : α -> Nat) : L (l ++ m) f = L l f + L m f := by simp [L]
theorem L_map {β : Type} (h : β -> α) (l : List β) (f : α -> Nat) : L (l.map h) f = L l fun b => f (h b) := by simp [L, Function.comp_def]
theorem L_flat {α β : Type} (h : β -> List α) (f : α -> Nat) : ∀ l : List β, L (l.flatMap h) f = L l fun b => L (h b) f
  | [] => rfl
  | b :: l => by rw [List.flatMap_cons, L_append, L_flat h f l, L_cons]
theorem L_congr {f g : α -> Nat} : ∀ {l : List α}, (∀ x ∈ l, f x = g x) -> L l f = L l g
  | [], _ => rfl
  | a :: l, h => by rw [L_cons, L_cons, h a (by simp), L_congr fun x hx => h x (by simp [hx])]
theorem L_add {f g : α -> Nat} : ∀ {l : List α}, L l f + L l g = L l fun x => f x + g x
  | [] => rfl
  | a :: l => by simp only [L_cons]; rw [<- L_add (l := l)]; omega
theorem L_range (f : Nat -> Nat) (n : Nat) : L (List.range n) f = S n f := S_range f n
theorem orders_len : ∀ {l r : List Nat}, r ∈ Km462.orders l -> r.length = l.length
  | [], r, h => by simp [Km462.orders] at h; simp [h]
  | w :: l, r, h => by
    simp only [Km462.orders, List.mem_flatMap, List.mem_map, List.mem_range] at h
    obtain ⟨q, hq, i, hi, e⟩ := h
    have := orders_len hq
    rw [<- e]
    simp only [List.length_append, List.length_take, List.length_drop, List.length_cons, List.length_nil]
    omega
theorem orders_mem : ∀ {l r : List Nat}, r ∈ Km462.orders l -> ∀ x, x ∈ r ↔ x ∈ l
  | [], r, h, x => by simp [Km462.orders] at h; simp [h]
  | w :: l, r, h, x => by
    simp only [Km462.orders, List.mem_flatMap, List.mem_map, List.mem_range] at h
    obtain ⟨q, hq, i, hi, e⟩ := h
    have ih := orders_mem hq x
    rw [<- e]
    simp only [List.mem_append, List.mem_cons, List.not_mem_nil, or_false]
    rw [<- ih]
    constructor
    . rintro ((h | h) | h)
      . exact .inr (List.mem_of_mem_take h)
      . exact .inl h
      . exact .inr (List.mem_of_mem_drop h)
    . rintro (h | h)
      . exact .inl (.inr h)
      . rw [<- List.take_append_drop i q, List.mem_append] at h
        rcases h with h | h
        . exact .inl (.inl h)
        . exact .inr h
theorem orders_count : ∀ l : List Nat, (Km462.orders l).length = fact l.length
  | [] => rfl
  | w :: l => by
    have h : ∀ m : List (List Nat), (∀ r ∈ m, r.length = l.length) -> (m.flatMap fun r => (List.range (r.length + 1)).map fun i => r.take i ++ [w] ++ r.drop i).length = (l.length + 1) * m.length := by
      intro m
      induction m with
      | nil => intro _; simp
      | cons r m ih =>
        intro hm
        rw [List.flatMap_cons, List.length_append, ih fun r' h' => hm r' (by simp [h'])]
        rw [List.length_map, List.length_range, hm r (by simp), List.length_cons, Nat.mul_succ]
        omega
    simp only [Km462.orders]
    rw [h _ fun r hr => orders_len hr, orders_count l]
    rfl
theorem sets_len : ∀ {l q : List Nat}, q ∈ Km458.sets l -> q.length <= l.length
  | [], q, h => by simp [Km458.sets] at h; simp [h]
  | p :: l, q, h => by
    simp only [Km458.sets, List.mem_append, List.mem_map] at h
    rcases h with h | ⟨r, hr, e⟩
    . have := sets_len h; simp; omega
    . have := sets_len hr; rw [<- e]; simp; omega
theorem sets_mem : ∀ {l q : List Nat}, q ∈ Km458.sets l -> ∀ x, x ∈ q -> x ∈ l
  | [], q, h, x, hx => by simp [Km458.sets] at h; simp [h] at hx
  | p :: l, q, h, x, hx => by
    simp only [Km458.sets, List.mem_append, List.mem_map] at h
    rcases h with h | ⟨r, hr, e⟩
    . exact List.mem_cons_of_mem _ (sets_mem h x hx)
    . rw [<- e] at hx
      rcases List.mem_cons.mp hx with hx | hx
      . rw [hx]; simp
      . exact List.mem_cons_of_mem _ (sets_mem hr x hx)
def W1 (l : List Nat) (g : List Nat -> Nat) : Nat := L (Km458.sets l) fun q => fact q.length * fact (l.length - q.length) * g q
theorem W1_cons (w : Nat) (l : List Nat) (g : List Nat -> Nat) : W1 (w :: l) g = W1 l fun q => (q.length + 1) * g (w :: q) + (l.length + 1 - q.length) * g q := by
  unfold W1
  rw [Km458.sets, L_append, L_map, L_add]
  apply L_congr
  intro q hq
  have h := sets_len hq
  simp only [List.length_cons]
  obtain ⟨d, hd⟩ : ∃ d, l.length = q.length + d := ⟨l.length - q.length, by omega⟩
  rw [hd]
  have e1 : q.length + d + 1 - q.length = d + 1 := by omega
  have e2 : q.length + d - q.length = d := by omega
  have e3 : q.length + d + 1 - (q.length + 1) = d := by omega
  rw [e1, e2, e3]
  simp only [fact]
  generalize fact q.length = A
  generalize fact d = C
  generalize g q = X
  generalize g (w :: q) = Y
  generalize q.length = k
  have e4 : A * ((d + 1) * C) * X = A * C * ((d + 1) * X) := by
    simp only [Nat.mul_assoc, Nat.mul_comm, Nat.mul_left_comm]
  have e5 : (k + 1) * A * C * Y = A * C * ((k + 1) * Y) := by
    simp only [Nat.mul_assoc, Nat.mul_comm, Nat.mul_left_comm]
  rw [e4, e5, Nat.mul_add]
  exact Nat.add_comm _ _
theorem S_const (c : Nat) : ∀ n, S n (fun _ => c) = n * c
  | 0 => by simp [S]
  | n + 1 => by rw [S, S_const c n, Nat.succ_mul]
theorem S_split (f : Nat -> Nat) (a : Nat) : ∀ b, S (a + b) f = S a f + S b fun i => f (a + i)
  | 0 => by simp [S]
  | b + 1 => by rw [Nat.add_succ, S, S_split f a b, S]; omega
theorem S_if {X Y : Nat} {k : Nat} : ∀ {n}, k <= n -> S n (fun i => if i < k then X else Y) = k * X + (n - k) * Y := by
  intro n h
  obtain ⟨d, rfl⟩ : ∃ d, n = k + d := ⟨n - k, by omega⟩
  rw [S_split]
  have h1 : S k (fun i => if i < k then X else Y) = S k fun _ => X := S_congr fun i hi => by rw [if_pos hi]
  have h2 : S d (fun i => if k + i < k then X else Y) = S d fun _ => Y := S_congr fun i hi => by rw [if_neg (by omega)]
  rw [h1, h2, S_const, S_const]
  have : k + d - k = d := by omega
  rw [this]
def G (l : List Nat) (g : Nat -> List Nat -> Nat) : Nat := L (Km462.orders l) fun r => S (l.length + 1) fun i => g i (r.take i)
theorem swapS (f : Nat -> Nat -> Nat) (m : Nat) : ∀ n, (S n fun j => S m fun i => f j i) = S m fun i => S n fun j => f j i
  | 0 => by simp [S, S_zero]
  | n + 1 => by
    simp only [S]
    rw [swapS f m n, S_add]
theorem take_ins (r : List Nat) (w i j : Nat) (hj : j <= r.length) : (r.take j ++ [w] ++ r.drop j).take i = if i <= j then r.take i else r.take j ++ [w] ++ (r.drop j).take (i - j - 1) := by
  split
  . rename_i h
    rw [List.append_assoc, List.take_append_of_le_length (by rw [List.length_take]; omega), List.take_take]
    congr 1; omega
  . rename_i h
    have hl : (r.take j ++ [w]).length = j + 1 := by simp; omega
    rw [List.take_append, List.take_of_length_le (by omega), hl]
    congr 2
theorem mem_ins {r : List Nat} {w i j : Nat} (h : j < i) (x : Nat) : x ∈ r.take j ++ [w] ++ (r.drop j).take (i - j - 1) ↔ x ∈ w :: r.take (i - 1) := by
  have : r.take (i - 1) = r.take j ++ (r.drop j).take (i - j - 1) := by
    have e : i - 1 = j + (i - j - 1) := by omega
    rw [e, List.take_add]
  rw [this]
  simp only [List.mem_append, List.mem_cons, List.not_mem_nil, or_false]
  constructor
  . rintro ((h | h) | h)
    . exact .inr (.inl h)
    . exact .inl h
    . exact .inr (.inr h)
  . rintro (h | h | h)
    . exact .inl (.inr h)
    . exact .inl (.inl h)
    . exact .inr h
theorem G_cons (w : Nat) (l : List Nat) (g : Nat -> List Nat -> Nat) (hg : ∀ i, Mem (g i)) :
    G (w :: l) g = G l fun i q => (i + 1) * g (i + 1) (w :: q) + (l.length + 1 - i) * g i q := by
  unfold G
  simp only [Km462.orders]
  rw [L_flat]
  apply L_congr
  intro r hr
  have hl := orders_len hr
  rw [L_map, L_range, List.length_cons, hl]
  have h1 : (S (l.length + 1) fun j => S (l.length + 1 + 1) fun i => g i (List.take i (List.take j r ++ [w] ++ List.drop j r))) =
      S (l.length + 1) fun j => S (l.length + 1 + 1) fun i => if i <= j then g i (r.take i) else g i (w :: r.take (i - 1)) := by
    apply S_congr; intro j hj
    apply S_congr; intro i hi
    rw [take_ins r w i j (by omega)]
    split
    . rfl
    . exact hg i _ _ (mem_ins (by omega))
  rw [h1, swapS]
  have h2 : (S (l.length + 1 + 1) fun i => S (l.length + 1) fun j => if i <= j then g i (r.take i) else g i (w :: r.take (i - 1))) =
      S (l.length + 1 + 1) fun i => i * g i (w :: r.take (i - 1)) + (l.length + 1 - i) * g i (r.take i) := by
    apply S_congr; intro i hi
    have : (S (l.length + 1) fun j => if i <= j then g i (r.take i) else g i (w :: r.take (i - 1))) = S (l.length + 1) fun j => if j < i then g i (w :: r.take (i - 1)) else g i (r.take i) := by
      apply S_congr; intro j hj
      by_cases h : i <= j
      . rw [if_pos h, if_neg (by omega)]
      . rw [if_neg h, if_pos (by omega)]
    rw [this, S_if (by omega)]
  rw [h2, <- S_add, <- S_add]
  congr 1
  . -- the first place counts nothing
    have e : l.length + 1 + 1 = 1 + (l.length + 1) := by omega
    rw [e, S_split]
    simp only [S]
    have : S l.length (fun i => (1 + i) * g (1 + i) (w :: List.take (1 + i - 1) r)) = S l.length fun i => (i + 1) * g (i + 1) (w :: List.take i r) := by
      apply S_congr; intro i _
      have e1 : 1 + i = i + 1 := by omega
      have e2 : 1 + i - 1 = i := by omega
      rw [e2, e1]
    rw [this]
    have e1 : 1 + l.length = l.length + 1 := by omega
    have e2 : 1 + l.length - 1 = l.length := by omega
    rw [e2, e1]
    omega
  . have e : l.length + 1 - (l.length + 1) = 0 := by omega
    rw [S]
    simp [e]
theorem G_W : ∀ (l : List Nat) (g : Nat -> List Nat -> Nat), (∀ i, Mem (g i)) -> G l g = L (Km458.sets l) fun q => fact q.length * fact (l.length - q.length) * g q.length q
  | [], g, hg => by
    simp [G, Km462.orders, Km458.sets, L, S, fact]
  | w :: l, g, hg => by
    rw [G_cons w l g hg, G_W l _ fun i => ?_]
    . have := W1_cons w l fun q => g q.length q
      unfold W1 at this
      rw [this]
      rfl
    . intro a b h
      have e1 : g (i + 1) (w :: a) = g (i + 1) (w :: b) := hg _ _ _ fun x => by simp [h x]
      have e2 : g i a = g i b := hg _ _ _ h
      simp only [e1, e2]
end VT
namespace VT
open Km457
theorem tw_split {v : Nat} : ∀ {r : List Nat}, v ∈ r -> ∃ t, r = r.takeWhile (fun x => x != v) ++ v :: t
  | [], h => by cases h
  | a :: r, h => by
    by_cases e : a = v
    . subst e; exact ⟨r, by simp⟩
    . have h' : v ∈ r := by
        rcases List.mem_cons.mp h with z | z
        . exact absurd z.symm e
        . exact z
      obtain ⟨t, ht⟩ := tw_split h'
      refine ⟨t, ?_⟩
      have : (a != v) = true := by simp [e]
      rw [List.takeWhile_cons, if_pos this]
      rw [List.cons_append, <- ht]
theorem tw_len {v : Nat} {r : List Nat} (h : v ∈ r) : (r.takeWhile (fun x => x != v)).length < r.length := by
  obtain ⟨t, ht⟩ := tw_split h
  have := congrArg List.length ht
  simp at this
  omega
theorem tw_app {v : Nat} : ∀ {a b : List Nat}, v ∉ a -> (a ++ v :: b).takeWhile (fun x => x != v) = a
  | [], b, _ => by simp
  | x :: a, b, h => by
    have e : (x != v) = true := by
      have : x ≠ v := fun z => h (by simp [z])
      simp [this]
    rw [List.cons_append, List.takeWhile_cons, if_pos e, tw_app fun z => h (by simp [z])]
theorem tw_nm {v : Nat} : ∀ r : List Nat, v ∉ r.takeWhile (fun x => x != v)
  | [] => by simp
  | a :: r => by
    rw [List.takeWhile_cons]
    split
    . rename_i h
      intro z
      rcases List.mem_cons.mp z with z | z
      . subst z; simp at h
      . exact tw_nm r z
    . simp
def A (l : List Nat) (v : Nat) (g : Nat -> List Nat -> Nat) : Nat := L (Km462.orders l) fun r => g (r.takeWhile fun x => x != v).length (r.takeWhile fun x => x != v)
theorem A_head {v : Nat} {l : List Nat} (hv : v ∉ l) (g : Nat -> List Nat -> Nat) : A (v :: l) v g = G l g := by
  unfold A G
  simp only [Km462.orders]
  rw [L_flat]
  apply L_congr
  intro r hr
  have hl := orders_len hr
  have hvr : v ∉ r := fun z => hv ((orders_mem hr v).mp z)
  rw [L_map, L_range, hl]
  apply S_congr
  intro i hi
  have : (r.take i ++ [v] ++ r.drop i).takeWhile (fun x => x != v) = r.take i := by
    rw [List.append_assoc]
    exact tw_app fun z => hvr (List.mem_of_mem_take z)
  rw [this, List.length_take]
  congr 1; omega
theorem tw_ins {r : List Nat} {v w i : Nat} (hw : w ≠ v) (hv : v ∈ r) (hi : i <= r.length) :
    (i <= (r.takeWhile fun x => x != v).length -> ((r.take i ++ [w] ++ r.drop i).takeWhile fun x => x != v) = (r.takeWhile fun x => x != v).take i ++ [w] ++ (r.takeWhile fun x => x != v).drop i) /\
    (¬ i <= (r.takeWhile fun x => x != v).length -> ((r.take i ++ [w] ++ r.drop i).takeWhile fun x => x != v) = r.takeWhile fun x => x != v) := by
  obtain ⟨t, ht⟩ := tw_split hv
  have hn := tw_nm (v := v) r
  generalize hp : (r.takeWhile fun x => x != v) = p at *
  subst ht
  constructor
  . intro h
    rw [List.take_append_of_le_length h, List.drop_append_of_le_length h]
    rw [<- List.append_assoc]
    apply tw_app
    intro z
    simp only [List.mem_append, List.mem_cons, List.not_mem_nil, or_false] at z
    rcases z with (z | z) | z
    . exact hn (List.mem_of_mem_take z)
    . exact hw z.symm
    . exact hn (List.mem_of_mem_drop z)
  . intro h
    obtain ⟨d, hd⟩ : ∃ d, i = p.length + (d + 1) := ⟨i - p.length - 1, by omega⟩
    subst hd
    rw [List.take_append, List.take_of_length_le (by omega)]
    have e : p.length + (d + 1) - p.length = d + 1 := by omega
    rw [e, List.take_succ_cons, List.append_assoc, List.append_assoc, List.cons_append]
    exact tw_app hn
theorem A_cons {v w : Nat} {l : List Nat} (hw : w ≠ v) (hv : v ∈ l) (g : Nat -> List Nat -> Nat) (hg : ∀ i, Mem (g i)) :
    A (w :: l) v g = A l v fun i q => (i + 1) * g (i + 1) (w :: q) + (l.length - i) * g i q := by
  unfold A
  simp only [Km462.orders]
  rw [L_flat]
  apply L_congr
  intro r hr
  have hl := orders_len hr
  have hvr : v ∈ r := (orders_mem hr v).mpr hv
  have hk := tw_len hvr
  rw [L_map, L_range]
  have : (S (r.length + 1) fun i => g ((r.take i ++ [w] ++ r.drop i).takeWhile fun x => x != v).length ((r.take i ++ [w] ++ r.drop i).takeWhile fun x => x != v)) =
      S (r.length + 1) fun i => if i < (r.takeWhile fun x => x != v).length + 1 then g ((r.takeWhile fun x => x != v).length + 1) (w :: r.takeWhile fun x => x != v) else g (r.takeWhile fun x => x != v).length (r.takeWhile fun x => x != v) := by
    apply S_congr
    intro i hi
    obtain ⟨h1, h2⟩ := tw_ins (i := i) hw hvr (by omega)
    by_cases h : i <= (r.takeWhile fun x => x != v).length
    . rw [if_pos (by omega), h1 h]
      have e : ((r.takeWhile fun x => x != v).take i ++ [w] ++ (r.takeWhile fun x => x != v).drop i).length = (r.takeWhile fun x => x != v).length + 1 := by
        simp only [List.length_append, List.length_take, List.length_drop, List.length_cons, List.length_nil]; omega
      rw [e]
      apply hg
      intro x
      generalize (r.takeWhile fun x => x != v) = p at *
      simp only [List.mem_append, List.mem_cons, List.not_mem_nil, or_false]
      constructor
      . rintro ((h | h) | h)
        . exact .inr (List.mem_of_mem_take h)
        . exact .inl h
        . exact .inr (List.mem_of_mem_drop h)
      . rintro (h | h)
        . exact .inl (.inr h)
        . rw [<- List.take_append_drop i p, List.mem_append] at h
          rcases h with h | h
          . exact .inl (.inl h)
          . exact .inr h
    . rw [if_neg (by omega), h2 h]
  rw [this, S_if (by omega), hl]
  have e : l.length + 1 - ((r.takeWhile fun x => x != v).length + 1) = l.length - (r.takeWhile fun x => x != v).length := by omega
  rw [e]
theorem A_W : ∀ (l : List Nat) (v : Nat) (g : Nat -> List Nat -> Nat), l.Nodup -> v ∈ l -> (∀ i, Mem (g i)) ->
    A l v g = L (Km458.sets (l.filter fun x => x != v)) fun q => fact q.length * fact ((l.filter fun x => x != v).length - q.length) * g q.length q
  | [], v, g, _, h, _ => by cases h
  | w :: l, v, g, hn, hv, hg => by
    have hn' := List.nodup_cons.mp hn
    by_cases e : w = v
    . subst e
      rw [A_head hn'.1 g, G_W l g hg]
      have : (w :: l).filter (fun x => x != w) = l := by
        rw [List.filter_cons]
        simp only [bne_self_eq_false, Bool.false_eq_true, if_false]
        apply List.filter_eq_self.mpr
        intro a ha
        have : a ≠ w := fun z => hn'.1 (z ▸ ha)
        simp [this]
      rw [this]
    . have hv' : v ∈ l := by
        rcases List.mem_cons.mp hv with z | z
        . exact absurd z.symm e
        . exact z
      have hm : ∀ i, Mem (fun q => (i + 1) * g (i + 1) (w :: q) + (l.length - i) * g i q) := by
        intro i a b h
        have e1 : g (i + 1) (w :: a) = g (i + 1) (w :: b) := hg _ _ _ fun x => by simp [h x]
        have e2 : g i a = g i b := hg _ _ _ h
        simp only [e1, e2]
      rw [A_cons e hv' g hg, A_W l v _ hn'.2 hv' hm]
      have hf : (w :: l).filter (fun x => x != v) = w :: l.filter fun x => x != v := by
        rw [List.filter_cons]; simp [e]
      rw [hf]
      have hlen : (l.filter fun x => x != v).length + 1 = l.length := by
        clear hf hm
        induction l with
        | nil => cases hv'
        | cons a l ih =>
          have hna := List.nodup_cons.mp hn'.2
          by_cases ea : a = v
          . subst ea
            rw [List.filter_cons]
            simp only [bne_self_eq_false, Bool.false_eq_true, if_false, List.length_cons]
            congr 2
            apply List.filter_eq_self.mpr
            intro b hb
            have : b ≠ a := fun z => hna.1 (z ▸ hb)
            simp [this]
          . have hva : v ∈ l := by
              rcases List.mem_cons.mp hv' with z | z
              . exact absurd z.symm ea
              . exact z
            rw [List.filter_cons]
            have : (a != v) = true := by simp [ea]
            rw [if_pos this, List.length_cons, List.length_cons]
            have hn2 : (w :: l).Nodup := List.nodup_cons.mpr ⟨fun z => hn'.1 (by simp [z]), hna.2⟩
            rw [ih hn2 (by simp [hva]) (List.nodup_cons.mp hn2) hva]
      have := W1_cons w (l.filter fun x => x != v) fun q => g q.length q
      unfold W1 at this
      rw [this]
      apply L_congr
      intro q hq
      rw [hlen]
      rfl
end VT
namespace VT
open Km457
theorem sets_snoc (p : Nat) (f : List Nat -> Nat) : ∀ l : List Nat, L (Km458.sets (l ++ [p])) f = L (Km458.sets l) f + L (Km458.sets l) fun q => f (q ++ [p])
  | [] => by simp [Km458.sets, L]
  | a :: l => by
    rw [List.cons_append, Km458.sets, L_append, L_map, sets_snoc p f l, sets_snoc p (fun q => f (a :: q)) l]
    rw [Km458.sets, L_append, L_append, L_map, L_map]
    simp only [List.cons_append]
    omega
theorem range_double (n : Nat) : List.range (2 ^ (n + 1)) = List.range (2 ^ n) ++ (List.range (2 ^ n)).map fun x => x + 2 ^ n := by
  have : 2 ^ (n + 1) = 2 ^ n + 2 ^ n := by rw [Nat.pow_succ]; omega
  rw [this, List.range_add]
  congr 1
  apply List.map_congr_left
  intro a _
  omega
def part (m x : Nat) : Bool := decide (∀ i, i < x + 1 -> x.testBit i = true -> m.testBit i = true)
theorem part_iff {m x : Nat} : part m x = true ↔ ∀ i, x.testBit i = true -> m.testBit i = true := by
  unfold part
  rw [decide_eq_true_eq]
  constructor
  . intro h i hi
    by_cases hl : i < x + 1
    . exact h i hl hi
    . have : x < 2 ^ i := Nat.lt_of_lt_of_le (Nat.lt_two_pow_self) (Nat.pow_le_pow_right (by decide) (by omega))
      rw [Nat.testBit_lt_two_pow this] at hi
      cases hi
  . intro h i _ hi
    exact h i hi
theorem part_and {m x : Nat} : part m x = decide (x - (x &&& m) = 0) := by
  rw [Bool.eq_iff_iff, part_iff, decide_eq_true_eq]
  have hle : x &&& m <= x := Nat.and_le_left
  constructor
  . intro h
    have : x &&& m = x := by
      apply Nat.eq_of_testBit_eq
      intro i
      rw [Nat.testBit_and]
      cases e : x.testBit i with
      | false => rfl
      | true => rw [h i e]; rfl
    omega
  . intro h i hi
    have : x &&& m = x := by omega
    rw [<- this, Nat.testBit_and] at hi
    simp at hi
    exact hi.2
theorem part_le {m x : Nat} (h : part m x = true) : x <= m := by
  rw [part_iff] at h
  apply Nat.le_of_testBit h
theorem part_filter (m : Nat) : ∀ k, (List.range (m + 1 + k)).filter (part m) = (List.range (m + 1)).filter (part m)
  | 0 => rfl
  | k + 1 => by
    have : m + 1 + (k + 1) = m + 1 + k + 1 := by omega
    rw [this, List.range_succ, List.filter_append, part_filter m k]
    have : part m (m + 1 + k) = false := by
      cases e : part m (m + 1 + k) with
      | false => rfl
      | true => have := part_le e; omega
    simp [this]
theorem parts_sum (m : Nat) (f : Nat -> Nat) : ∀ n, L ((List.range (2 ^ n)).filter (part m)) f = L (Km458.sets ((List.range n).filter m.testBit)) fun q => f (Km462.bits q)
  | 0 => by
    have : part m 0 = true := part_iff.mpr fun i h => by simp at h
    simp [Km458.sets, L, this, Km462.bits]
  | n + 1 => by
    rw [range_double, List.filter_append, L_append, parts_sum m f n, List.range_succ, List.filter_append]
    have hlow : ∀ x, x < 2 ^ n -> part m (x + 2 ^ n) = (part m x && m.testBit n) := by
      intro x hx
      rw [Bool.eq_iff_iff, Bool.and_eq_true, part_iff, part_iff]
      have hb : ∀ i, (x + 2 ^ n).testBit i = (x.testBit i || decide (i = n)) := by
        intro i
        have : x + 2 ^ n = 2 ^ n * 1 + x := by omega
        rw [this, Nat.testBit_two_pow_mul_add _ hx]
        by_cases h : i < n
        . have : i ≠ n := by omega
          simp [h, this]
        . rw [if_neg h, Nat.testBit_lt_two_pow (Nat.lt_of_lt_of_le hx (Nat.pow_le_pow_right (by decide) (by omega)))]
          by_cases e : i = n
          . subst e; simp
          . have : i - n ≠ 0 := by omega
            have h1 : (1 : Nat).testBit (i - n) = false := Nat.testBit_lt_two_pow (Nat.one_lt_two_pow this)
            simp [e, h1]
      constructor
      . intro h
        exact ⟨fun i hi => h i (by rw [hb, hi]; rfl), h n (by rw [hb]; simp)⟩
      . rintro ⟨h1, h2⟩ i hi
        rw [hb] at hi
        rw [Bool.or_eq_true, decide_eq_true_eq] at hi
        rcases hi with hi | hi
        . exact h1 i hi
        . rw [hi]; exact h2
    have hmap : ((List.range (2 ^ n)).map fun x => x + 2 ^ n).filter (part m) = if m.testBit n = true then (((List.range (2 ^ n)).filter (part m)).map fun x => x + 2 ^ n) else [] := by
      rw [List.filter_map]
      have : (List.range (2 ^ n)).filter (part m ∘ fun x => x + 2 ^ n) = (List.range (2 ^ n)).filter fun x => part m x && m.testBit n := by
        apply List.filter_congr
        intro x hx
        exact hlow x (by simpa using hx)
      rw [this]
      cases e : m.testBit n with
      | true => simp
      | false => simp
    rw [hmap]
    cases e : m.testBit n with
    | false => simp [e, L]
    | true =>
      simp only [if_true]
      have e1 : [n].filter m.testBit = [n] := by simp [e]
      rw [e1, sets_snoc, L_map, parts_sum m (fun x => f (x + 2 ^ n)) n]
      congr 1
      apply L_congr
      intro q _
      rw [bits_append]
theorem subsets_sum {m n : Nat} (h : m < 2 ^ n) (f : Nat -> Nat) : L ((List.range (m + 1)).filter fun x => decide (x - (x &&& m) = 0)) f = L (Km458.sets ((List.range n).filter m.testBit)) fun q => f (Km462.bits q) := by
  rw [<- parts_sum m f n]
  have e1 : (List.range (m + 1)).filter (fun x => decide (x - (x &&& m) = 0)) = (List.range (m + 1)).filter (part m) := by
    apply List.filter_congr
    intro x _
    exact part_and.symm
  obtain ⟨k, hk⟩ : ∃ k, 2 ^ n = m + 1 + k := ⟨2 ^ n - (m + 1), by omega⟩
  rw [e1, hk, part_filter]
end VT
namespace VT
open Km457
theorem fewer_first : ∀ (m : List (List Nat)) (a : List Nat), (∃ i : Nat, (a :: m)[i]? = some (m.foldl Km458.fewer a) /\ (∀ (j : Nat) (q : List Nat), (a :: m)[j]? = some q -> (m.foldl Km458.fewer a).length <= q.length) /\ ∀ (j : Nat) (q : List Nat), j < i -> (a :: m)[j]? = some q -> (m.foldl Km458.fewer a).length < q.length)
  | [], a => ⟨0, rfl, fun j q h => by
      cases j with
      | zero => simp at h; subst h; exact Nat.le_refl _
      | succ j => simp at h, fun j q h => by omega⟩
  | b :: m, a => by
    rw [List.foldl_cons]
    obtain ⟨i, h1, h2, h3⟩ := fewer_first m (Km458.fewer a b)
    unfold Km458.fewer at *
    by_cases h : b.length < a.length
    . rw [if_pos h] at h1 h2 h3 ⊢
      refine ⟨i + 1, by simpa using h1, fun j q hj => ?_, fun j q hlt hj => ?_⟩
      . cases j with
        | zero =>
          simp at hj; subst hj
          have := h2 0 b rfl
          omega
        | succ j => exact h2 j q (by simpa using hj)
      . cases j with
        | zero =>
          simp at hj; subst hj
          have := h2 0 b rfl
          omega
        | succ j => exact h3 j q (by omega) (by simpa using hj)
    . rw [if_neg h] at h1 h2 h3 ⊢
      refine ⟨if i = 0 then 0 else i + 1, ?_, fun j q hj => ?_, fun j q hlt hj => ?_⟩
      . by_cases e : i = 0
        . rw [if_pos e]; subst e; exact h1
        . rw [if_neg e]
          obtain ⟨k, rfl⟩ : ∃ k, i = k + 1 := ⟨i - 1, by omega⟩
          simpa using h1
      . cases j with
        | zero => exact h2 0 q hj
        | succ j =>
          cases j with
          | zero =>
            simp at hj; subst hj
            have := h2 0 a rfl
            omega
          | succ j => exact h2 (j + 1) q (by simpa using hj)
      . by_cases e : i = 0
        . rw [if_pos e] at hlt; omega
        . rw [if_neg e] at hlt
          cases j with
          | zero => exact h3 0 q (by omega) hj
          | succ j =>
            cases j with
            | zero =>
              simp at hj; subst hj
              have := h3 0 a (by omega) rfl
              omega
            | succ j => exact h3 (j + 1) q (by omega) (by simpa using hj)
theorem sets_full : ∀ {l q : List Nat}, q ∈ Km458.sets l -> q.length = l.length -> q = l
  | [], q, h, _ => by simpa [Km458.sets] using h
  | p :: l, q, h, e => by
    simp only [Km458.sets, List.mem_append, List.mem_map] at h
    rcases h with h | ⟨r, hr, er⟩
    . have := sets_len h; simp at e; omega
    . rw [<- er] at e ⊢
      simp only [List.length_cons] at e
      rw [sets_full hr (by omega)]
theorem sets_self : ∀ l : List Nat, l ∈ Km458.sets l
  | [] => by simp [Km458.sets]
  | p :: l => by
    simp only [Km458.sets, List.mem_append, List.mem_map]
    exact .inr ⟨l, sets_self l, rfl⟩
theorem fewest_first {l : List Nat} {ok : List Nat -> Bool} (h : ok l = true) :
    ∃ i : Nat, ((Km458.sets l).filter ok)[i]? = some (((Km458.sets l).filter ok).foldl Km458.fewer l) /\ (∀ (j : Nat) (q : List Nat), ((Km458.sets l).filter ok)[j]? = some q -> (((Km458.sets l).filter ok).foldl Km458.fewer l).length <= q.length) /\
      ∀ (j : Nat) (q : List Nat), j < i -> ((Km458.sets l).filter ok)[j]? = some q -> (((Km458.sets l).filter ok).foldl Km458.fewer l).length < q.length := by
  obtain ⟨i, h1, h2, h3⟩ := fewer_first ((Km458.sets l).filter ok) l
  have hm : l ∈ (Km458.sets l).filter ok := List.mem_filter.mpr ⟨sets_self l, h⟩
  cases i with
  | succ i =>
    exact ⟨i, by simpa using h1, fun j q hj => h2 (j + 1) q (by simpa using hj), fun j q hlt hj => h3 (j + 1) q (by omega) (by simpa using hj)⟩
  | zero =>
    have e : l = ((Km458.sets l).filter ok).foldl Km458.fewer l := by simpa using h1
    rw [<- e]
    obtain ⟨k, hk⟩ := List.getElem?_of_mem hm
    have only : ∀ (j : Nat) (q : List Nat), ((Km458.sets l).filter ok)[j]? = some q -> l.length <= q.length /\ q = l := by
      intro j q hj
      have hq := List.mem_of_getElem? hj
      have hs := (List.mem_filter.mp hq).1
      have h4 := h2 (j + 1) q (by simpa using hj)
      rw [<- e] at h4
      have h5 := sets_len hs
      exact ⟨h4, sets_full hs (by omega)⟩
    refine ⟨0, ?_, fun j q hj => (only j q hj).1, fun j q hlt _ => by omega⟩
    cases hc : (Km458.sets l).filter ok with
    | nil => rw [hc] at hm; cases hm
    | cons a m =>
      have := only 0 a (by rw [hc]; rfl)
      rw [this.2]; rfl
def dbl (f : List Nat -> α) (l : List Nat) : List α := (Km458.sets l).map f
theorem dbl_cons {α : Type} (f : List Nat -> α) (h : α -> α) (p : Nat) (l : List Nat) (e : ∀ q ∈ Km458.sets l, f (p :: q) = h (f q)) : dbl f (p :: l) = dbl f l ++ (dbl f l).map h := by
  unfold dbl
  rw [Km458.sets, List.map_append, List.map_map, List.map_map]
  congr 1
  apply List.map_congr_left
  intro q hq
  exact e q hq
theorem bits_foldl : ∀ (l : List Nat) (a : Nat), l.foldl (fun w k => w + 2 ^ k) a = a + Km462.bits l
  | [], a => by simp [Km462.bits]
  | p :: l, a => by
    unfold Km462.bits
    rw [List.foldl_cons, List.foldl_cons, bits_foldl l, bits_foldl l]
    omega
theorem bits_cons (p : Nat) (l : List Nat) : Km462.bits (p :: l) = 2 ^ p + Km462.bits l := by
  unfold Km462.bits
  rw [List.foldl_cons, bits_foldl]
  unfold Km462.bits
  omega
theorem bits_mask {n : Nat} : ∀ {l : List Nat}, l.Nodup -> (∀ x ∈ l, x < n) -> Km462.bits l = mask n fun i => l.contains i
  | [], _, _ => by simp [Km462.bits, mask_zero]
  | p :: l, hn, hl => by
    have hn' := List.nodup_cons.mp hn
    rw [bits_cons, bits_mask hn'.2 fun x hx => hl x (by simp [hx]), mask_one (hl p (by simp))]
    have h := mask_sub (p := fun i => (p :: l).contains i) (q := fun i => decide (i = p)) (n := n)
    have e1 : (mask n fun i => (p :: l).contains i && decide (i = p)) = mask n fun i => decide (i = p) := by
      apply mask_congr; intro i _
      by_cases e : i = p
      . simp [e]
      . simp [e]
    have e2 : (mask n fun i => (p :: l).contains i && !decide (i = p)) = mask n fun i => l.contains i := by
      apply mask_congr; intro i _
      by_cases e : i = p
      . subst e; simp [hn'.1]
      . simp [e]
    rw [e1, e2] at h
    omega
theorem pop_bits {n : Nat} {l : List Nat} (hn : l.Nodup) (hl : ∀ x ∈ l, x < n) : pop (Km462.bits l) = l.length := by
  rw [bits_mask hn hl, pop_mask]
  have : ((List.range n).filter fun i => l.contains i).Perm l := by
    rw [List.perm_ext_iff_of_nodup (List.nodup_range.filter _) hn]
    intro a
    simp only [List.mem_filter, List.mem_range, List.contains_iff_mem]
    exact ⟨fun h => h.2, fun h => ⟨hl a h, h⟩⟩
  exact this.length_eq
theorem sets_sub : ∀ {l q : List Nat}, q ∈ Km458.sets l -> q.Sublist l
  | [], q, h => by simp [Km458.sets] at h; simp [h]
  | p :: l, q, h => by
    simp only [Km458.sets, List.mem_append, List.mem_map] at h
    rcases h with h | ⟨r, hr, e⟩
    . exact (sets_sub h).cons p
    . rw [<- e]; exact (sets_sub hr).cons_cons p
end VT
namespace VT
open Km457
theorem count_of {n : Nat} {l : List Nat} (hn : l.Nodup) (hl : ∀ x ∈ l, x < n) (p : Nat -> Bool) : ((List.range n).filter fun x => l.contains x && p x).length = (l.filter p).length := by
  have : ((List.range n).filter fun x => l.contains x && p x).Perm (l.filter p) := by
    rw [List.perm_ext_iff_of_nodup (List.nodup_range.filter _) (hn.filter _)]
    intro a
    simp only [List.mem_filter, List.mem_range, Bool.and_eq_true, List.contains_iff_mem]
    exact ⟨fun h => h.2, fun h => ⟨hl a h.1, h⟩⟩
  exact this.length_eq
theorem share_eq {u m : Nat} (h0 : 0 < u) (h1 : u <= 10) : 2520 * m / u = m * (2520 / u) := by
  have hd : u ∣ 2520 := by
    have : u = 1 \/ u = 2 \/ u = 3 \/ u = 4 \/ u = 5 \/ u = 6 \/ u = 7 \/ u = 8 \/ u = 9 \/ u = 10 := by omega
    rcases this with h | h | h | h | h | h | h | h | h | h <;> subst h <;> decide
  rw [Nat.mul_comm, Nat.mul_div_assoc m hd]
theorem L_S_swap {α : Type} (f : α -> Nat -> Nat) (n : Nat) : ∀ l : List α, (L l fun a => S n (f a)) = S n fun i => L l fun a => f a i
  | [] => by simp [L, S_zero]
  | a :: l => by
    rw [L_cons, L_S_swap f n l, S_add]
    apply S_congr
    intro i _
    rw [L_cons]
theorem L_if {α : Type} (p : α -> Bool) (c : Nat) : ∀ l : List α, (L l fun a => if p a = true then c else 0) = (l.filter p).length * c
  | [] => by simp [L]
  | a :: l => by
    rw [L_cons, L_if p c l, List.filter_cons]
    cases p a with
    | true => simp only [if_true, List.length_cons, Nat.succ_mul]; omega
    | false => simp
theorem filter_sum (p : Nat -> Bool) (f : Nat -> Nat) : ∀ l : List Nat, ((l.filter p).map f).sum = L l fun x => if p x = true then f x else 0
  | [] => rfl
  | a :: l => by
    rw [L_cons, List.filter_cons, <- filter_sum p f l]
    cases p a <;> simp
theorem pays_S (s : Valley) (c : Nat) (l : List Nat) (w : Nat) : Km462.pays s c l w = S s.length fun r => if (r != 0 && Km462.uses s c r w) = true then Km462.PARTS * (2 * (at_ s r).long) / Km462.users s c l r else 0 := by
  unfold Km462.pays all
  rw [sum462, filter_sum, L_range]
theorem round_S (s : Valley) (c : Nat) (l : List Nat) : Km460.round s c l = 2 * S s.length fun r => if (r != 0 && l.any fun w => Km462.uses s c r w) = true then (at_ s r).long else 0 := by
  unfold Km460.round Km460.length Km460.roads all
  rw [sum460, filter_sum, L_range]
  rfl
theorem S_mul_left {f : Nat -> Nat} (c : Nat) : ∀ {n}, S n (fun x => c * f x) = c * S n f
  | 0 => by simp [S]
  | n + 1 => by simp only [S]; rw [S_mul_left c, Nat.mul_add]
theorem len_sub : ∀ {a b : List Nat}, a.Nodup -> (∀ x ∈ a, x ∈ b) -> a.length <= b.length
  | [], b, _, _ => Nat.zero_le _
  | x :: a, b, hn, hs => by
    have hn' := List.nodup_cons.mp hn
    have hx : x ∈ b := hs x (by simp)
    have h1 := len_sub (b := b.erase x) hn'.2 fun y hy => (List.mem_erase_of_ne (by intro e; exact hn'.1 (by rw [<- e]; exact hy))).mpr (hs y (by simp [hy]))
    have h2 := List.length_erase_of_mem hx
    have h3 : 0 < b.length := List.length_pos_of_mem hx
    simp only [List.length_cons]
    omega
theorem sublist_count {g l : List Nat} (hg : g.Nodup) (hs : ∀ x ∈ g, x ∈ l) (p : Nat -> Bool) : (g.filter p).length <= (l.filter p).length := by
  have hn : (g.filter p).Nodup := hg.filter _
  have hsub : ∀ x ∈ g.filter p, x ∈ l.filter p := fun x hx => List.mem_filter.mpr ⟨hs x (List.mem_filter.mp hx).1, (List.mem_filter.mp hx).2⟩
  exact len_sub hn hsub
theorem saves_le {s : Valley} {c : Nat} {g l : List Nat} (hg : g.Nodup) (hs : ∀ x ∈ g, x ∈ l) : (g.map (Km462.pays s c l)).sum <= Km462.PARTS * Km460.round s c g := by
  have e1 : (g.map (Km462.pays s c l)).sum = S s.length fun r => (g.filter fun w => r != 0 && Km462.uses s c r w).length * (Km462.PARTS * (2 * (at_ s r).long) / Km462.users s c l r) := by
    show L g (Km462.pays s c l) = _
    have : L g (Km462.pays s c l) = L g fun w => S s.length fun r => if (r != 0 && Km462.uses s c r w) = true then Km462.PARTS * (2 * (at_ s r).long) / Km462.users s c l r else 0 := L_congr fun w _ => pays_S s c l w
    rw [this, L_S_swap]
    apply S_congr
    intro r _
    rw [L_if]
  rw [e1, round_S]
  have e2 : Km462.PARTS * (2 * S s.length fun r => if (r != 0 && g.any fun w => Km462.uses s c r w) = true then (at_ s r).long else 0) = S s.length fun r => Km462.PARTS * 2 * if (r != 0 && g.any fun w => Km462.uses s c r w) = true then (at_ s r).long else 0 := by
    rw [S_mul_left, Nat.mul_assoc]
  rw [e2]
  apply S_le
  intro r _
  by_cases h : (r != 0 && g.any fun w => Km462.uses s c r w) = true
  . rw [if_pos h]
    rw [Bool.and_eq_true] at h
    have hc : (g.filter fun w => r != 0 && Km462.uses s c r w).length <= Km462.users s c l r := by
      have : (g.filter fun w => r != 0 && Km462.uses s c r w) = g.filter (Km462.uses s c r) := by
        apply List.filter_congr
        intro x _
        rw [h.1]; simp
      rw [this]
      exact sublist_count hg hs _
    refine Nat.le_trans (Nat.mul_le_mul_right _ hc) ?_
    refine Nat.le_trans (Nat.mul_div_le _ _) ?_
    rw [Nat.mul_assoc]
    exact Nat.le_refl _
  . have : g.filter (fun w => r != 0 && Km462.uses s c r w) = [] := by
      rw [List.filter_eq_nil_iff]
      intro x hx hu
      apply h
      rw [Bool.and_eq_true] at hu ⊢
      exact ⟨hu.1, List.any_eq_true.mpr ⟨x, hx, hu.2⟩⟩
    rw [this]
    simp
theorem round_mem {s : Valley} {c : Nat} {a b : List Nat} (h : ∀ x, x ∈ a ↔ x ∈ b) : Km460.round s c a = Km460.round s c b := by
  rw [round_S, round_S]
  congr 1
  apply S_congr
  intro r _
  have : (a.any fun w => Km462.uses s c r w) = b.any fun w => Km462.uses s c r w := by
    rw [Bool.eq_iff_iff, List.any_eq_true, List.any_eq_true]
    exact ⟨fun ⟨x, hx, q⟩ => ⟨x, (h x).mp hx, q⟩, fun ⟨x, hx, q⟩ => ⟨x, (h x).mpr hx, q⟩⟩
  rw [this]
theorem round_mono {s : Valley} {c : Nat} {a b : List Nat} (h : ∀ x, x ∈ a -> x ∈ b) : Km460.round s c a <= Km460.round s c b := by
  rw [round_S, round_S]
  apply Nat.mul_le_mul_left
  apply S_le
  intro r _
  by_cases e : (r != 0 && a.any fun w => Km462.uses s c r w) = true
  . have : (r != 0 && b.any fun w => Km462.uses s c r w) = true := by
      rw [Bool.and_eq_true] at e ⊢
      obtain ⟨x, hx, q⟩ := List.any_eq_true.mp e.2
      exact ⟨e.1, List.any_eq_true.mpr ⟨x, h x hx, q⟩⟩
    rw [if_pos e, if_pos this]
    exact Nat.le_refl _
  . rw [if_neg e]
    exact Nat.zero_le _
theorem adds_mem (s : Valley) (c v : Nat) : Mem fun q => Km462.adds s c q v := by
  intro a b h
  show Km460.round s c (a ++ [v]) - Km460.round s c a = Km460.round s c (b ++ [v]) - Km460.round s c b
  rw [round_mem h, round_mem (a := a ++ [v]) (b := b ++ [v]) fun x => by simp [h x]]
theorem mean_eq {s : Valley} {c v : Nat} {l : List Nat} (hn : l.Nodup) (hv : v ∈ l) : (Km462.meanOf s c l v).1 = (L (Km458.sets (l.filter fun x => x != v)) fun q => fact q.length * fact ((l.filter fun x => x != v).length - q.length) * Km462.adds s c q v) /\ (Km462.meanOf s c l v).2 = fact l.length := by
  unfold Km462.meanOf
  refine ⟨?_, orders_count l⟩
  rw [sum462]
  exact A_W l v (fun _ q => Km462.adds s c q v) hn hv fun _ => adds_mem s c v
end VT
namespace VT
open Km457
def bes (s : Valley) (v w : Nat) : Bool := decide (v ≠ w /\ (at_ s (max v w)).up = min v w)
theorem bes_comm (s : Valley) (v w : Nat) : bes s v w = bes s w v := by
  unfold bes
  rw [Nat.max_comm, Nat.min_comm, Bool.eq_iff_iff, decide_eq_true_eq, decide_eq_true_eq]
  exact ⟨fun h => ⟨fun e => h.1 e.symm, h.2⟩, fun h => ⟨fun e => h.1 e.symm, h.2⟩⟩
def nx (s : Valley) (r : List Nat) (c v : Nat) : List Nat := ((List.range s.length).filter fun w => bes s v w && r.contains (max v w)).filter fun w => w != c
def dom (s : Valley) (c v x : Nat) : Bool := if (at_ s v).up = c /\ v ≠ 0 then anc s v x else if (at_ s c).up = v /\ c ≠ 0 /\ c < s.length then !anc s c x else true
def card (s : Valley) (c v : Nat) : Nat := ((List.range s.length).filter (dom s c v)).length
def TG (s : Valley) (r : List Nat) : Nat -> Nat -> Nat -> List Nat := Km460.tourGo s r []
section
variable {s : Valley} (W : WF s)
include W
theorem nexts_eq {r : List Nat} {v : Nat} (hv : v < s.length) : Km460.nexts s r v = (List.range s.length).filter fun w => bes s v w && r.contains (max v w) := by
  unfold Km460.nexts all
  apply List.filter_congr
  intro w hw
  have hw' : w < s.length := by simpa using hw
  unfold bes
  rw [Bool.eq_iff_iff]
  simp only [Bool.or_eq_true, Bool.and_eq_true, beq_iff_eq, bne_iff_ne, decide_eq_true_eq]
  rcases Nat.lt_trichotomy v w with h | h | h
  . have hu := W.ups w (by omega) hw'
    have e1 : max v w = w := by omega
    have e2 : min v w = v := by omega
    rw [e1, e2]
    constructor
    . rintro (⟨⟨h1, h2⟩, h3⟩ | ⟨⟨h1, h2⟩, h3⟩)
      . exact ⟨⟨by omega, h2⟩, h1⟩
      . have := W.ups v (by omega) hv; omega
    . rintro ⟨⟨h1, h2⟩, h3⟩
      exact .inl ⟨⟨h3, h2⟩, by omega⟩
  . subst h
    constructor
    . rintro (⟨⟨h1, h2⟩, h3⟩ | ⟨⟨h1, h2⟩, h3⟩)
      . have := W.ups v (by omega) hv; omega
      . have := W.ups v (by omega) hv; omega
    . rintro ⟨⟨h1, _⟩, _⟩
      exact absurd rfl h1
  . have hu := W.ups v (by omega) hv
    have e1 : max v w = v := by omega
    have e2 : min v w = w := by omega
    rw [e1, e2]
    constructor
    . rintro (⟨⟨h1, h2⟩, h3⟩ | ⟨⟨h1, h2⟩, h3⟩)
      . have := W.ups w (by omega) hw'; omega
      . exact ⟨⟨by omega, h2⟩, h1⟩
    . rintro ⟨⟨h1, h2⟩, h3⟩
      exact .inr ⟨⟨h3, h2⟩, by omega⟩
theorem TG_succ {r : List Nat} {f c v : Nat} (hv : v < s.length) : TG s r (f + 1) c v = (nx s r c v).flatMap fun w => [w] ++ TG s r f v w ++ [v] := by
  unfold TG
  show ((((Km460.nexts s r v).filter fun w => w != c).filter fun w => !([] : List Nat).contains w) ++ (((Km460.nexts s r v).filter fun w => w != c).filter fun w => ([] : List Nat).contains w)).flatMap _ = _
  rw [nexts_eq W hv]
  have h1 : ∀ l : List Nat, (l.filter fun w => !([] : List Nat).contains w) = l := fun l => List.filter_eq_self.mpr fun _ _ => rfl
  have h2 : ∀ l : List Nat, (l.filter fun w => ([] : List Nat).contains w) = [] := fun l => List.filter_eq_nil_iff.mpr fun _ _ => by simp
  rw [h1, h2, List.append_nil]
  rfl
theorem nx_lt {r : List Nat} {c v w : Nat} (h : w ∈ nx s r c v) : w < s.length /\ bes s v w = true /\ w ≠ c := by
  unfold nx at h
  rw [List.mem_filter, List.mem_filter, List.mem_range, Bool.and_eq_true] at h
  exact ⟨h.1.1, h.1.2.1, by simpa using h.2⟩
theorem bes_cases {v w : Nat} (h : bes s v w = true) : (v < w /\ (at_ s w).up = v) \/ (w < v /\ (at_ s v).up = w) := by
  unfold bes at h
  rw [decide_eq_true_eq] at h
  obtain ⟨h1, h2⟩ := h
  rcases Nat.lt_trichotomy v w with h | h | h
  . left
    have e1 : max v w = w := by omega
    have e2 : min v w = v := by omega
    rw [e1, e2] at h2
    exact ⟨h, h2⟩
  . exact absurd h h1
  . right
    have e1 : max v w = v := by omega
    have e2 : min v w = w := by omega
    rw [e1, e2] at h2
    exact ⟨h, h2⟩
theorem dom_child {v w : Nat} (h1 : v < w) (h2 : (at_ s w).up = v) (x : Nat) : dom s v w x = anc s w x := by
  unfold dom
  rw [if_pos ⟨h2, by omega⟩]
theorem dom_up {v w : Nat} (hv : v < s.length) (h1 : w < v) (h2 : (at_ s v).up = w) (x : Nat) : dom s v w x = !anc s v x := by
  unfold dom
  have : ¬ ((at_ s w).up = v /\ w ≠ 0) := by
    rintro ⟨a, b⟩
    have := W.ups w (by omega) (by omega)
    omega
  rw [if_neg this, if_pos ⟨h2, by omega, hv⟩]
theorem dom_self (c : Nat) {v : Nat} (hv : v < s.length) : dom s c v v = true := by
  unfold dom
  split
  . exact anc_self W hv
  . split
    . rename_i h1 h2
      have := W.ups c (by omega) h2.2.2
      rw [anc_not W hv (by omega)]; rfl
    . rfl
theorem dom_not {v w : Nat} (hv : v < s.length) (h : bes s v w = true) : dom s v w v = false := by
  rcases bes_cases W h with ⟨h1, h2⟩ | ⟨h1, h2⟩
  . rw [dom_child W h1 h2]
    exact anc_not W hv h1
  . rw [dom_up W hv h1 h2, anc_self W hv]; rfl
theorem dom_sub {c v w x : Nat} (hv : v < s.length) (hw : w < s.length) (hx : x < s.length) (h : bes s v w = true) (hc : w ≠ c) (hd : dom s v w x = true) : dom s c v x = true := by
  rcases bes_cases W h with ⟨h1, h2⟩ | ⟨h1, h2⟩
  . rw [dom_child W h1 h2] at hd
    have hvw : anc s v w = true := by
      rw [anc_succ W v (by omega) hw, h2, anc_self W hv]; simp
    unfold dom
    split
    . exact anc_trans W hx hvw hd
    . split
      . rename_i h3 h4
        have hcu := W.ups c (by omega) h4.2.2
        cases e : anc s c x with
        | false => rfl
        | true =>
          exfalso
          rcases anc_lin W hx e hd with q | q
          . rw [anc_up W (by omega) hw (fun z => hc z.symm), h2] at q
            have := anc_le W hv q
            omega
          . rw [anc_up W (by omega) h4.2.2 hc, h4.1] at q
            have := anc_le W hv q
            omega
      . rfl
  . rw [dom_up W hv h1 h2] at hd
    unfold dom
    split
    . rename_i h3
      exact absurd (h2.symm.trans h3.1) hc
    . split
      . rename_i h3 h4
        have hcu := W.ups c (by omega) h4.2.2
        cases e : anc s c x with
        | false => rfl
        | true =>
          have hvc : anc s v c = true := by
            rw [anc_succ W v (by omega) h4.2.2, h4.1, anc_self W hv]; simp
          rw [anc_trans W hx hvc e] at hd
          cases hd
      . rfl
theorem card_lt {c v w : Nat} (hv : v < s.length) (hw : w < s.length) (h : bes s v w = true) (hc : w ≠ c) : card s v w + 1 <= card s c v := by
  unfold card
  have h0 : v ∉ (List.range s.length).filter (dom s v w) := by
    intro z
    have := (List.mem_filter.mp z).2
    rw [dom_not W hv h] at this
    cases this
  have h1 := len_sub (a := v :: (List.range s.length).filter (dom s v w)) (b := (List.range s.length).filter (dom s c v)) (List.nodup_cons.mpr ⟨h0, List.nodup_range.filter _⟩) fun x hx => by
    rcases List.mem_cons.mp hx with e | e
    . subst e
      exact List.mem_filter.mpr ⟨by simpa using hv, dom_self W c hv⟩
    . obtain ⟨e1, e2⟩ := List.mem_filter.mp e
      exact List.mem_filter.mpr ⟨e1, dom_sub W hv hw (by simpa using e1) h hc e2⟩
  simpa using h1
theorem nx_count {r : List Nat} {c v : Nat} (hv : v < s.length) : (nx s r c v).length + 1 <= card s c v := by
  unfold card
  have h0 : v ∉ nx s r c v := by
    intro z
    have := (nx_lt W z).2.1
    unfold bes at this
    simp at this
  have h1 := len_sub (a := v :: nx s r c v) (b := (List.range s.length).filter (dom s c v)) (List.nodup_cons.mpr ⟨h0, (List.nodup_range.filter _).filter _⟩) fun x hx => by
    rcases List.mem_cons.mp hx with e | e
    . subst e
      exact List.mem_filter.mpr ⟨by simpa using hv, dom_self W c hv⟩
    . obtain ⟨a1, a2, a3⟩ := nx_lt W e
      exact List.mem_filter.mpr ⟨by simpa using a1, dom_sub W hv a1 a1 a2 a3 (dom_self W v a1)⟩
  simpa using h1
theorem card_le (c v : Nat) : card s c v <= s.length := by
  unfold card
  exact Nat.le_trans (List.length_filter_le _ _) (by simp)
theorem TG_fuel {r : List Nat} : ∀ (m f g c v : Nat), v < s.length -> card s c v <= m -> m <= f -> m <= g -> TG s r f c v = TG s r g c v := by
  intro m
  induction m with
  | zero =>
    intro f g c v hv hm
    have := nx_count W (r := r) (c := c) hv
    omega
  | succ m ih =>
    intro f g c v hv hm hf hg
    obtain ⟨f, rfl⟩ : ∃ f', f = f' + 1 := ⟨f - 1, by omega⟩
    obtain ⟨g, rfl⟩ : ∃ g', g = g' + 1 := ⟨g - 1, by omega⟩
    rw [TG_succ W hv, TG_succ W hv]
    have hcongr : ∀ l : List Nat, (∀ w ∈ l, w ∈ nx s r c v) -> (l.flatMap fun w => [w] ++ TG s r f v w ++ [v]) = l.flatMap fun w => [w] ++ TG s r g v w ++ [v] := by
      intro l
      induction l with
      | nil => intro _; rfl
      | cons a l ihl =>
        intro hl
        obtain ⟨a1, a2, a3⟩ := nx_lt W (hl a (by simp))
        have hcl := card_lt W hv a1 a2 a3
        rw [List.flatMap_cons, List.flatMap_cons, ihl fun w hw => hl w (by simp [hw]), ih f g v a a1 (by omega) (by omega) (by omega)]
    exact hcongr _ fun _ h => h
end
def Lb : Nat -> Nat
  | 0 => 1
  | m + 1 => 1 + m * (Lb m + 1)
theorem Lb_ten : Lb 10 <= 2000000 := by decide
theorem TG_len {s : Valley} (W : WF s) {r : List Nat} : ∀ (m f c v : Nat), v < s.length -> card s c v <= m -> (TG s r f c v).length + 1 <= Lb m := by
  intro m
  induction m with
  | zero =>
    intro f c v hv hm
    have := nx_count W (r := r) (c := c) hv
    omega
  | succ m ih =>
    intro f c v hv hm
    cases f with
    | zero =>
      show 0 + 1 <= Lb (m + 1)
      have : Lb (m + 1) = 1 + m * (Lb m + 1) := rfl
      omega
    | succ f =>
      rw [TG_succ W hv]
      have hcount := nx_count W (r := r) (c := c) hv
      have key : ∀ l : List Nat, (∀ w ∈ l, w ∈ nx s r c v) -> (l.flatMap fun w => [w] ++ TG s r f v w ++ [v]).length <= l.length * (Lb m + 1) := by
        intro l
        induction l with
        | nil => intro _; exact Nat.zero_le _
        | cons a l ihl =>
          intro hl
          obtain ⟨a1, a2, a3⟩ := nx_lt W (hl a (by simp))
          have hcl := card_lt W hv a1 a2 a3
          have h1 := ihl fun w hw => hl w (by simp [hw])
          have h2 := ih f v a a1 (by omega)
          rw [List.flatMap_cons]
          simp only [List.length_append, List.length_cons, List.length_nil, Nat.add_mul, Nat.one_mul] at h1 ⊢
          omega
      have h1 := key _ fun _ h => h
      have h2 : Lb (m + 1) = 1 + m * (Lb m + 1) := rfl
      have h3 : (nx s r c v).length * (Lb m + 1) <= m * (Lb m + 1) := Nat.mul_le_mul_right _ (by omega)
      omega
def chainTo (s : Valley) : Nat -> List Nat -> Nat -> Prop
  | a, [], b => a = b
  | a, x :: l, b => (x < s.length /\ bes s a x = true) /\ chainTo s x l b
theorem chain_app {s : Valley} : ∀ {l : List Nat} {a b : Nat} {m : List Nat} {c : Nat}, chainTo s a l b -> chainTo s b m c -> chainTo s a (l ++ m) c
  | [], a, b, m, c, h1, h2 => by
    have : a = b := h1
    subst this
    exact h2
  | x :: l, a, b, m, c, h1, h2 => ⟨h1.1, chain_app h1.2 h2⟩
theorem TG_chain {s : Valley} (W : WF s) {r : List Nat} : ∀ (f c v : Nat), v < s.length -> chainTo s v (TG s r f c v) v := by
  intro f
  induction f with
  | zero => intro c v _; exact rfl
  | succ f ih =>
    intro c v hv
    rw [TG_succ W hv]
    have key : ∀ l : List Nat, (∀ w ∈ l, w ∈ nx s r c v) -> chainTo s v (l.flatMap fun w => [w] ++ TG s r f v w ++ [v]) v := by
      intro l
      induction l with
      | nil => intro _; exact rfl
      | cons a l ihl =>
        intro hl
        obtain ⟨a1, a2, a3⟩ := nx_lt W (hl a (by simp))
        rw [List.flatMap_cons]
        refine chain_app (b := v) ?_ (ihl fun w hw => hl w (by simp [hw]))
        rw [List.append_assoc]
        have back : chainTo s a [v] v := ⟨⟨hv, by rw [bes_comm]; exact a2⟩, rfl⟩
        show chainTo s v (a :: (TG s r f v a ++ [v])) v
        exact ⟨⟨a1, a2⟩, chain_app (b := a) (ih v a a1) back⟩
    exact key _ fun _ h => h
theorem bes_far {s : Valley} (W : WF s) {v w : Nat} (hv : v < s.length) (hw : w < s.length) (h : bes s v w = true) : far s v w = (at_ s (max v w)).long := by
  rcases bes_cases W h with ⟨h1, h2⟩ | ⟨h1, h2⟩
  . have e : max v w = w := by omega
    rw [far_right W hw h1, h2, far_self W hv, e, Nat.add_zero]
  . have e : max v w = v := by omega
    rw [far_left W hv h1, h2, far_self W hw, e, Nat.add_zero]
theorem chain_long {s : Valley} (W : WF s) : ∀ (k a : Nat) (l : List Nat) (b : Nat), a < s.length -> chainTo s a l b -> k <= l.length ->
    Km460.long s ((a :: l).take (k + 1)) = S k fun j => (at_ s (max ((a :: l).getD j 0) ((a :: l).getD (j + 1) 0))).long
  | 0, a, l, b, _, _, _ => by
    show Km460.long s [a] = 0
    rfl
  | k + 1, a, [], b, _, _, hk => by simp at hk
  | k + 1, a, x :: l, b, ha, hc, hk => by
    have ih := chain_long W k x l b hc.1.1 hc.2 (by simpa using hk)
    have e1 : (a :: x :: l).take (k + 1 + 1) = a :: x :: l.take k := rfl
    have e2 : (x :: l).take (k + 1) = x :: l.take k := rfl
    rw [e1]
    show far s a x + Km460.long s (x :: l.take k) = _
    rw [<- e2, ih, bes_far W ha hc.1.1 hc.1.2]
    have : k + 1 = 1 + k := by omega
    rw [this, S_split]
    show _ = (0 + (at_ s (max ((a :: x :: l).getD 0 0) ((a :: x :: l).getD (0 + 1) 0))).long) + _
    have e3 : (S k fun i => (at_ s (max ((a :: x :: l).getD (1 + i) 0) ((a :: x :: l).getD (1 + i + 1) 0))).long) = S k fun j => (at_ s (max ((x :: l).getD j 0) ((x :: l).getD (j + 1) 0))).long := by
      apply S_congr
      intro i _
      have f1 : 1 + i = i + 1 := by omega
      rw [f1]
      rfl
    rw [e3]
    show (at_ s (max a x)).long + _ = 0 + (at_ s (max a x)).long + _
    omega
theorem tour_TG {s : Valley} (W : WF s) {c : Nat} (hc : c < s.length) (l : List Nat) : Km460.tour s c l = c :: TG s (Km460.roads s c l) (s.length + 1) c c := by
  unfold Km460.tour
  congr 1
  show TG s (Km460.roads s c l) (s.length + 1) s.length c = _
  rw [TG_succ W hc, TG_succ W hc]
  have : nx s (Km460.roads s c l) s.length c = nx s (Km460.roads s c l) c c := by
    unfold nx
    apply List.filter_congr
    intro w hw
    have h1 := List.mem_filter.mp hw
    have h2 : w < s.length := by simpa using h1.1
    have h3 : w ≠ c := by
      intro e
      subst e
      have := h1.2
      unfold bes at this
      simp at this
    have h4 : w ≠ s.length := by omega
    show (w != s.length) = (w != c)
    rw [bne_iff_ne.mpr h3, bne_iff_ne.mpr h4]
  rw [this]
theorem chain_lt {s : Valley} : ∀ {l : List Nat} {a b : Nat}, a < s.length -> chainTo s a l b -> ∀ x ∈ a :: l, x < s.length
  | [], a, b, ha, _, x, hx => by
    have : x = a := by simpa using hx
    rw [this]; exact ha
  | y :: l, a, b, ha, h, x, hx => by
    rcases List.mem_cons.mp hx with e | e
    . rw [e]; exact ha
    . exact chain_lt h.1.1 h.2 x e
end VT
namespace L2
open PySem PySem.Spec PyProof.Rows
abbrev Key := Sum Int Str
def keyIs : Key -> Value -> Bool
  | .inl k, v => Value.isInt k v
  | .inr x, v => Value.isStrOf x v
def keyH (w : World) : Key -> Int
  | .inl k => hashInt k
  | .inr x => hashStr w x
theorem keyIs_shape : ∀ {k : Key} {v : Value}, keyIs k v = true -> (∃ i t, k = Sum.inl i /\ v = Value.int i t) \/ (∃ x t, k = Sum.inr x /\ v = Value.str x t)
  | .inl i, v, h => by
    obtain ⟨t, e⟩ := Value.isInt_shape (k := i) (v := v) h
    exact .inl ⟨i, t, rfl, e⟩
  | .inr x, v, h => by
    obtain ⟨t, e⟩ := Value.isStrOf_shape (x := x) (v := v) h
    exact .inr ⟨x, t, rfl, e⟩
theorem key_ll (a b : Int) : decide ((Sum.inl a : Key) = Sum.inl b) = (a == b) := by
  by_cases e : a = b
  . subst e; simp
  . have h : ¬ (Sum.inl a : Key) = Sum.inl b := fun q => e (Sum.inl.inj q)
    rw [decide_eq_false h]
    exact (beq_eq_false_iff_ne.mpr e).symm
theorem key_rr (a b : Str) : decide ((Sum.inr a : Key) = Sum.inr b) = decide (a = b) := by
  by_cases e : a = b
  . subst e; simp
  . have h : ¬ (Sum.inr a : Key) = Sum.inr b := fun q => e (Sum.inr.inj q)
    rw [decide_eq_false h, decide_eq_false e]
theorem key_lr (a : Int) (b : Str) : decide ((Sum.inl a : Key) = Sum.inr b) = false := decide_eq_false (fun q => nomatch q)
theorem key_rl (a : Str) (b : Int) : decide ((Sum.inr a : Key) = Sum.inl b) = false := decide_eq_false (fun q => nomatch q)
def mixKind (prog : Program) (w : World) : PySem.KeyKind prog w Key where
  is := keyIs
  hash := keyH w
  inj := fun v a b ha hb => by
    rcases keyIs_shape ha with ⟨i, t, rfl, rfl⟩ | ⟨x, t, rfl, rfl⟩
    . rcases keyIs_shape hb with ⟨j, u, rfl, e⟩ | ⟨y, u, rfl, e⟩
      . injection e with e1 _; rw [e1]
      . exact nomatch e
    . rcases keyIs_shape hb with ⟨j, u, rfl, e⟩ | ⟨y, u, rfl, e⟩
      . exact nomatch e
      . injection e with e1 _; rw [e1]
  byValue := fun k v h => by
    rcases keyIs_shape h with ⟨i, t, rfl, rfl⟩ | ⟨x, t, rfl, rfl⟩ <;> rfl
  pyHash := fun hv h => by
    rcases keyIs_shape hv with ⟨i, t, rfl, rfl⟩ | ⟨x, t, rfl, rfl⟩
    . exact wpAny_pyHash_int h
    . exact wpAny_pyHash_str h
  eqBool := fun hu hv h => by
    rcases keyIs_shape hu with ⟨i, t, rfl, rfl⟩ | ⟨x, t, rfl, rfl⟩
    . rcases keyIs_shape hv with ⟨j, u, rfl, rfl⟩ | ⟨y, u, rfl, rfl⟩
      . rw [key_ll] at h; exact wpAny_eqBool_int h
      . rw [key_lr] at h; exact SeqAt.EqAt.int_str i t y u _ _ _ _ h
    . rcases keyIs_shape hv with ⟨j, u, rfl, rfl⟩ | ⟨y, u, rfl, rfl⟩
      . rw [key_rl] at h; exact SeqAt.EqAt.str_int x t j u _ _ _ _ h
      . rw [key_rr] at h; exact wpAny_eqBool_str h
  «strs» := fun k x t v h => by
    rcases keyIs_shape h with ⟨i, u, rfl, e⟩ | ⟨y, u, rfl, e⟩
    . exact nomatch e
    . injection e with e1 _
      subst e1
      cases v <;> rfl
inductive V where
  | non | bl (b : Bool) | int (i : Int) | str (x : Str) | byt (b : Array UInt8) | flt (b : UInt64) | ref (a : Addr) | ty (n : String)
  deriving DecidableEq
def RelV : V -> Value -> Prop
  | .non, u => u = Value.none
  | .bl b, u => u = Value.bool b
  | .int i, u => ∃ t, u = Value.int i t
  | .str x, u => ∃ t, u = Value.str x t
  | .byt b, u => ∃ t, u = Value.bytes b t
  | .flt b, u => ∃ t, u = Value.float b t
  | .ref a, u => u = Value.ref a
  | .ty n, u => u = Value.type n
abbrev Vals : List V -> List Value -> Prop := Paired RelV
theorem Vals.length {xs : List V} {us : List Value} (r : Vals xs us) : xs.length = us.length := Paired.length r
theorem Vals.get : ∀ {xs : List V} {us : List Value} {i : Nat} {x : V}, Vals xs us -> xs[i]? = some x -> ∃ u, us[i]? = some u /\ RelV x u
  | _, _, _, _, .nil, e => by simp at e
  | _, _, 0, _, .cons r _, e => by simp at e; subst e; exact ⟨_, rfl, r⟩
  | _, _, i + 1, x, .cons _ t, e => by
    obtain ⟨u, h1, h2⟩ := Vals.get (i := i) (x := x) t (by simpa using e)
    exact ⟨u, by simpa using h1, h2⟩
theorem Vals.set {x : V} {u : Value} (r : RelV x u) : ∀ {xs : List V} {us : List Value} (i : Nat), Vals xs us -> Vals (xs.set i x) (us.set i u)
  | _, _, _, .nil => .nil
  | _, _, 0, .cons _ t => .cons r t
  | _, _, i + 1, .cons q t => .cons q (Vals.set r i t)
theorem Vals.append : ∀ {xs ys : List V} {us ws : List Value}, Vals xs us -> Vals ys ws -> Vals (xs ++ ys) (us ++ ws)
  | _, _, _, _, .nil, s => s
  | _, _, _, _, .cons r t, s => .cons r (Vals.append t s)
theorem Vals.take : ∀ {xs : List V} {us : List Value} (n : Nat), Vals xs us -> Vals (xs.take n) (us.take n)
  | _, _, 0, _ => .nil
  | _, _, _ + 1, .nil => .nil
  | _, _, n + 1, .cons r t => .cons r (Vals.take n t)
theorem Vals.drop : ∀ {xs : List V} {us : List Value} (n : Nat), Vals xs us -> Vals (xs.drop n) (us.drop n)
  | _, _, 0, r => r
  | _, _, _ + 1, .nil => .nil
  | _, _, n + 1, .cons _ t => Vals.drop n t
def RelO : Option V -> Option Value -> Prop
  | some v, some u => RelV v u
  | none, none => True
  | _, _ => False
def KV {κ : Type} : List (κ × V) -> List (κ × Value) -> Prop := Paired fun (p : κ × V) (q : κ × Value) => p.1 = q.1 /\ RelV p.2 q.2
def kV : Key -> V
  | .inl i => .int i
  | .inr x => .str x
inductive HO where
  | lst (xs : List V)
  | tup (xs : List V)
  | dK (kvs : List (Key × V)) | dT (kvs : List (List Key × V))
  | set (S : Int -> Bool) (n : Nat)
  | ins (C dx : Addr) (fs : List (Str × V))
  | own (x : Addr)
  | xd (fs : List (Str × V))
  | met (f x : Addr)
  | rng (lo hi : Int)
  | frz (o : Obj) (u : HO)
  | tbl (ps : Array Value)
  | ext (φ : Heap -> Prop)
abbrev Hp := Addr -> Option HO
def upd (H : Hp) (a : Addr) (o : HO) : Hp := fun b => if b = a then some o else H b
theorem upd_same {H : Hp} {a : Addr} {o : HO} : upd H a o a = some o := by unfold upd; rw [if_pos rfl]
theorem upd_ne {H : Hp} {a b : Addr} {o : HO} (h : b ≠ a) : upd H a o b = H b := by unfold upd; rw [if_neg h]
theorem upd_upd {H : Hp} {a : Addr} {o u : HO} : upd (upd H a o) a u = upd H a u := by
  funext b; unfold upd; split <;> rfl
theorem ne_of {H : Hp} {a b : Addr} {o u : HO} (h : H a = some o) (h' : H b = some u) (d : o ≠ u) : a ≠ b := by
  intro e; subst e; rw [h] at h'; exact d (Option.some.inj h')
theorem ne_of_none {H : Hp} {a b : Addr} {o : HO} (h : H a = some o) (h' : H b = none) : a ≠ b := by
  intro e; subst e; rw [h] at h'; cases h'
section
variable (P : Program) (w : World)
def ObjOk (H : Hp) (h : Heap) (a : Addr) : HO -> Prop
  | .lst xs => xs.length <= sizeLine /\ ∃ (its : List Value) (n : Nat), Vals xs its /\ h.get? a = some { cls := .type "list", data := .seq its.toArray n }
  | .tup xs => xs.length <= sizeLine /\ ∃ its : List Value, Vals xs its /\ IsTup h a its.toArray
  | .dK kvs => kvs.length <= sizeLine /\ (a == sysModules) = false /\ ∃ vs, KV kvs vs /\ h.DictOf (mixKind P w) a vs
  | .dT kvs => kvs.length <= sizeLine /\ (a == sysModules) = false /\ ∃ xs : List (List Key × Addr × Value),
      Paired (fun (p : List Key × V) (q : List Key × Addr × Value) => p.1 = q.1 /\ H q.2.1 = some (.tup (p.1.map kV)) /\ RelV p.2 q.2.2) kvs xs /\
      ∃ o es ep, h.get? a = some o /\ o.ExactDict /\ o.data = .dict es ep /\ es.toList = xs.map (entryOfKey (tupleKind (mixKind P w))) /\ (xs.map (·.1)).Nodup
  | .set S n => h.SetOf (intKind P w) a S n
  | .ins C dx fs => H dx = some (.own a) /\ fs.length <= 1000 /\ dx ≠ a /\ h.get? a = some (PySem.W.instObj C dx) /\
      ∃ mA, h.Ns1 dx mA /\ (∀ f, RelO (fs.lookup f) (mA f)) /\ PySem.Within mA (fs.map (·.1))
  | .own _ => ∃ o, h.get? a = some o
  | .xd fs => ∃ mA, h.Ns1 a mA /\ ∀ f, RelO (fs.lookup f) (mA f)
  | .rng lo hi => ∃ t u v, h.get? a = some { cls := .type "range", data := .fields #[.int lo t, .int hi u, .int 1 v] }
  | .frz o u => h.get? a = some o /\ ObjOk H h a u
  | .tbl ps => h.get? a = some { cls := .none, data := .fields ps }
  | .met f x => h.get? a = some (PySem.W.methodObj (.ref f) (.ref x))
  | .ext φ => φ h /\ (∃ o, h.get? a = some o) /\ ∀ h1 h2 : Heap, φ h1 -> (∀ o, h1.get? a = some o -> h2.get? a = some o) -> φ h2
def HOk (H : Hp) (h : Heap) : Prop := ∀ a o, H a = some o -> ObjOk P w H h a o
end
section
variable {P : Program} {w : World} {H H' : Hp} {h h' : Heap} {a : Addr} {o : HO}
theorem ObjOk.lt (x : ObjOk P w H h a o) : a < h.objs.size := by
  cases o with
  | lst xs => obtain ⟨_, _, _, _, e⟩ := x; exact Heap.lt_size e
  | tup xs => obtain ⟨_, _, _, p⟩ := x; exact p.lt
  | dK kvs => obtain ⟨_, _, _, _, o, _, _, e, _⟩ := x; exact Heap.lt_size e
  | dT kvs => obtain ⟨_, _, _, _, o, _, _, e, _⟩ := x; exact Heap.lt_size e
  | set S n => obtain ⟨o, _, _, _, e, _⟩ := x; exact Heap.lt_size e
  | ins C dx fs => obtain ⟨_, _, _, e, _⟩ := x; exact Heap.lt_size e
  | own y => obtain ⟨_, e⟩ := x; exact Heap.lt_size e
  | xd fs => obtain ⟨_, ⟨_, _, _, e, _⟩, _⟩ := x; exact Heap.lt_size e
  | rng lo hi => obtain ⟨_, _, _, e⟩ := x; exact Heap.lt_size e
  | frz ob u => obtain ⟨e, _⟩ := x; exact Heap.lt_size e
  | tbl ps => exact Heap.lt_size (show h.get? a = some _ from x)
  | met f y => exact Heap.lt_size (show h.get? a = some _ from x)
  | ext φ => obtain ⟨_, ⟨_, e⟩, _⟩ := x; exact Heap.lt_size e
theorem Paired.mapP {α β : Type} {F G : α -> β -> Prop} : ∀ {l₁ : List α} {l₂ : List β}, Paired F l₁ l₂ -> (∀ a b, F a b -> G a b) -> Paired G l₁ l₂
  | _, _, .nil, _ => .nil
  | _, _, .cons r t, f => .cons (f _ _ r) (Paired.mapP t f)
theorem ObjOk.stay (x : ObjOk P w H h a o) (k : ∀ b u, (b = a \/ H b = some (.own a)) -> h.get? b = some u -> h'.get? b = some u)
    (ho : ∀ b, H b = some (.own a) -> H' b = some (.own a)) (ht : ∀ b xs, H b = some (.tup xs) -> H' b = some (.tup xs)) : ObjOk P w H' h' a o := by
  induction o with
  | lst xs => obtain ⟨z, its, n, r, e⟩ := x; exact ⟨z, its, n, r, k _ _ (.inl rfl) e⟩
  | tup xs => obtain ⟨z, its, r, ob, e, c⟩ := x; exact ⟨z, its, r, ob, k _ _ (.inl rfl) e, c⟩
  | dK kvs => obtain ⟨z, y, vs, r, ob, es, ep, e, c⟩ := x; exact ⟨z, y, vs, r, ob, es, ep, k _ _ (.inl rfl) e, c⟩
  | dT kvs =>
    obtain ⟨z, y, xs, r, ob, es, ep, e, c⟩ := x
    exact ⟨z, y, xs, Paired.mapP r fun p q z => ⟨z.1, ht _ _ z.2.1, z.2.2⟩, ob, es, ep, k _ _ (.inl rfl) e, c⟩
  | set S n => obtain ⟨ob, es, ep, t, e, c⟩ := x; exact ⟨ob, es, ep, t, k _ _ (.inl rfl) e, c⟩
  | ins C dx fs =>
    obtain ⟨d, z, ne, e, mA, ⟨od, es, ep, e2, c⟩, r⟩ := x
    exact ⟨ho _ d, z, ne, k _ _ (.inl rfl) e, mA, ⟨od, es, ep, k _ _ (.inr d) e2, c⟩, r⟩
  | own y => obtain ⟨ob, e⟩ := x; exact ⟨ob, k _ _ (.inl rfl) e⟩
  | xd fs => obtain ⟨mA, ⟨od, es, ep, e, c⟩, r⟩ := x; exact ⟨mA, ⟨od, es, ep, k _ _ (.inl rfl) e, c⟩, r⟩
  | rng lo hi => obtain ⟨t, u, v, e⟩ := x; exact ⟨t, u, v, k _ _ (.inl rfl) e⟩
  | frz ob u ih => obtain ⟨e, q⟩ := x; exact ⟨k _ _ (.inl rfl) e, ih q⟩
  | tbl ps =>
    have e : h.get? a = some { cls := .none, data := .fields ps } := x
    show h'.get? a = some { cls := .none, data := .fields ps }
    exact k a _ (.inl rfl) e
  | met f y =>
    have e : h.get? a = some (PySem.W.methodObj (.ref f) (.ref y)) := x
    show h'.get? a = some (PySem.W.methodObj (.ref f) (.ref y))
    exact k a _ (.inl rfl) e
  | ext φ => obtain ⟨p, ⟨o, e⟩, st⟩ := x; exact ⟨st _ _ p fun o q => k _ _ (.inl rfl) q, ⟨o, k _ _ (.inl rfl) e⟩, st⟩
theorem HOk.lt (x : HOk P w H h) (e : H a = some o) : a < h.objs.size := (x a o e).lt
theorem HOk.fresh (x : HOk P w H h) (e : h.objs.size <= a) : H a = none := by
  cases q : H a with
  | none => rfl
  | some u => exact absurd (Nat.lt_of_lt_of_le (x.lt q) e) (Nat.lt_irrefl _)
theorem HOk.kept (x : HOk P w H h) (k : ∀ b u, h.get? b = some u -> h'.get? b = some u) : HOk P w H h' := fun a o e =>
  (x a o e).stay (fun b u _ q => k b u q) (fun _ q => q) fun _ _ q => q
theorem HOk.laid (x : HOk P w H h) (k : ∀ b u, h.get? b = some u -> h'.get? b = some u) (hp : h.objs.size <= a) (new : ObjOk P w (upd H a o) h' a o) : HOk P w (upd H a o) h' := fun b u e => by
  have hn := x.fresh hp
  by_cases hb : b = a
  . subst hb; rw [upd_same] at e; cases e; exact new
  . rw [upd_ne hb] at e
    exact (x b u e).stay (fun c v _ q => k c v q) (fun c q => by rw [upd_ne (ne_of_none q hn)]; exact q) fun c xs q => by rw [upd_ne (ne_of_none q hn)]; exact q
end
def Rd (H : Hp) (a : Addr) (u : HO) : Prop := H a = some u \/ ∃ o, H a = some (.frz o u)
theorem Rd.ok {P : Program} {w : World} {H : Hp} {h : Heap} {a : Addr} {u : HO} (r : Rd H a u) (x : HOk P w H h) : ObjOk P w H h a u := by
  rcases r with r | ⟨o, r⟩
  . exact x a u r
  . obtain ⟨_, q⟩ := x a _ r
    exact q
def Mut : Option HO -> Prop
  | some (.lst _) => True
  | some (.dK _) => True
  | some (.dT _) => True
  | some (.set _ _) => True
  | some (.ins _ _ _) => True
  | some (.ext _) => True
  | _ => False
section
variable {P : Program} {w : World} {H : Hp} {h h' : Heap} {x e : Addr} {o' : HO}
theorem HOk.write (ok : HOk P w H h) (mu : Mut (H x)) (he : e = x \/ H e = some (.own x)) (k : ∀ b u, b ≠ e -> h.get? b = some u -> h'.get? b = some u) (heo : ∃ u, h'.get? e = some u)
    (new : ObjOk P w (upd H x o') h' x o') : HOk P w (upd H x o') h' := fun b u q => by
  have nown : ∀ c y, H c = some (.own y) -> c ≠ x := fun c y r z => by subst z; rw [r] at mu; exact mu
  have ntup : ∀ c xs, H c = some (.tup xs) -> c ≠ x := fun c xs r z => by subst z; rw [r] at mu; exact mu
  by_cases hb : b = x
  . subst hb; rw [upd_same] at q; cases q; exact new
  . rw [upd_ne hb] at q
    by_cases hbe : b = e
    . have q' : H b = some (.own x) := by
        rcases he with z | z
        . exact absurd (hbe.trans z) hb
        . rw [hbe]; exact z
      rw [q] at q'; cases q'
      obtain ⟨v, hv⟩ := heo
      exact ⟨v, by rw [hbe]; exact hv⟩
    . refine (ok b u q).stay (fun c v hc r => k c v ?_ r) (fun c r => by rw [upd_ne (nown c b r)]; exact r) fun c xs r => by rw [upd_ne (ntup c xs r)]; exact r
      rcases hc with rfl | hc
      . exact hbe
      . rintro rfl
        rcases he with z | z
        . exact nown c b hc z
        . rw [hc] at z; cases z; exact hb rfl
end
structure Un (fs ex : List Addr) (H H' : Hp) (h h' : Heap) : Prop where
  keep : ∀ b o, h.get? b = some o -> H b = none -> b ∉ fs -> b ∉ ex -> h'.get? b = some o
  slot : ∀ b o, h.get? b = some o -> H b = none -> b ∈ fs -> b ∉ ex -> ∃ sl, h'.get? b = some { o with slots := sl }
  free : ∀ b o, h.get? b = some o -> H b = none -> b ∉ ex -> H' b = none
  there : ∀ b o, h.get? b = some o -> b ∉ ex -> ∃ o', h'.get? b = some o'
  tups : ∀ b xs, H b = some (.tup xs) -> H' b = some (.tup xs)
  frzs : ∀ b o u, H b = some (.frz o u) -> H' b = some (.frz o u)
  tbls : ∀ b ps, H b = some (.tbl ps) -> ∃ more, H' b = some (.tbl (ps ++ more))
section
variable {fs fs' ex ex' : List Addr} {H H1 H2 : Hp} {h h1 h2 h' : Heap} {a x e : Addr} {o : HO}
theorem Un.any (u : Un fs ex H H1 h h1) {b : Addr} {ob : Obj} (q : h.get? b = some ob) (n : H b = none) (hx : b ∉ ex) : ∃ sl, h1.get? b = some { ob with slots := sl } := by
  by_cases hb : b ∈ fs
  . exact u.slot b ob q n hb hx
  . exact ⟨ob.slots, u.keep b ob q n hb hx⟩
theorem Un.kept (k : ∀ b u, h.get? b = some u -> h'.get? b = some u) : Un fs ex H H h h' :=
  ⟨fun b ob q _ _ _ => k b ob q, fun b ob q _ _ _ => ⟨ob.slots, k b ob q⟩, fun _ _ _ n _ => n, fun b ob q _ => ⟨ob, k b ob q⟩, fun _ _ q => q, fun _ _ _ q => q, fun _ ps q => ⟨#[], by rw [q]; simp⟩⟩
theorem Un.refl : Un fs ex H H h h := Un.kept fun _ _ q => q
theorem Un.laid (k : ∀ b u, h.get? b = some u -> h'.get? b = some u) (hp : h.objs.size <= a) (hn : H a = none) : Un fs ex H (upd H a o) h h' where
  keep := fun b u q _ _ _ => k b u q
  slot := fun b u q _ _ _ => ⟨u.slots, k b u q⟩
  free := fun b u q n _ => by rw [upd_ne (Nat.ne_of_lt (Nat.lt_of_lt_of_le (Heap.lt_size q) hp))]; exact n
  there := fun b u q _ => ⟨u, k b u q⟩
  tups := fun b xs q => by rw [upd_ne (ne_of_none q hn)]; exact q
  frzs := fun b u xs q => by rw [upd_ne (ne_of_none q hn)]; exact q
  tbls := fun b ps q => ⟨#[], by rw [upd_ne (ne_of_none q hn), q]; simp⟩
theorem Un.write (mu : Mut (H x)) (he : e = x \/ H e = some (.own x)) (k : ∀ b u, b ≠ e -> h.get? b = some u -> h'.get? b = some u) (heo : ∃ u, h'.get? e = some u) : Un fs ex H (upd H x o) h h' := by
  have hx : ∀ b, H b = none -> b ≠ x := fun b n z => by subst z; rw [n] at mu; exact mu
  have hb : ∀ b, H b = none -> b ≠ e := fun b n z => by
    subst z
    rcases he with r | r
    . exact hx b n r
    . rw [n] at r; cases r
  have hm : ∀ b u, H b = some u -> ¬ Mut (some u) -> b ≠ x := fun b u q nm z => by subst z; rw [q] at mu; exact nm mu
  refine ⟨fun b u q n _ _ => k b u (hb b n) q, fun b u q n _ _ => ⟨u.slots, k b u (hb b n) q⟩, fun b u q n _ => by rw [upd_ne (hx b n)]; exact n, fun b u q _ => ?_,
    fun b xs q => by rw [upd_ne (hm b _ q fun z => z)]; exact q, fun b u xs q => by rw [upd_ne (hm b _ q fun z => z)]; exact q, fun b ps q => ⟨#[], by rw [upd_ne (hm b _ q fun z => z), q]; simp⟩⟩
  by_cases hbe : b = e
  . subst hbe; exact heo
  . exact ⟨u, k b u hbe q⟩
end
def trk (h : Heap) (H : Hp) : List Addr := (List.range h.objs.size).filter fun a => (H a).isSome
def hidT (h : Heap) (H : Hp) : Heap := PySem.W.hideAll h (trk h H)
theorem hidT_size (h : Heap) (H : Hp) : (hidT h H).objs.size = h.objs.size := PySem.W.hideAll_size _ _
theorem hidT_get {h : Heap} {H : Hp} {b : Addr} {o : Obj} (e : h.get? b = some o) (n : H b = none) : (hidT h H).get? b = some o :=
  PySem.W.hideAll_get _ e fun hm => by
    have q : (H b).isSome = true := (List.mem_filter.mp hm).2
    rw [n] at q; simp at q
theorem of_hidT {h : Heap} {H : Hp} {b : Addr} {o : Obj} (e : (hidT h H).get? b = some o) : h.get? b = some o /\ H b = none := by
  have e' : h.get? b = some o := PySem.W.of_hideAll (trk h H) e
  refine ⟨e', ?_⟩
  cases q : H b with
  | none => rfl
  | some x =>
    have hm : b ∈ trk h H := List.mem_filter.mpr ⟨List.mem_range.mpr (Heap.lt_size e'), by simp [q]⟩
    have z : (hidT h H).get? b = none := PySem.W.hideAll_none (trk h H) hm
    rw [z] at e; cases e
structure Mod (K : PySem.W.Frag) (mg : Str -> Option Value) (base : Heap) : Prop where
  kin : K.In base
  glob : base.Ns mainGlobals mg
  blt : ∃ mb, base.Ns builtinsNs mb /\ ∀ x : Str, x ≠ "__name__" -> mb x = bootBuiltins x
  nolimit : base.NoLimit
structure Cx where
  prog : Program
  w : World
  K : PySem.W.Frag
  mg : Str -> Option Value
  base : Heap
  A : Around
  N : List Str
  s_0 : Shared
  H_0 : Hp
  env : Env
  outer : List Env
  stack : List Env
  ex : List Addr
  fn : Str -> Bool
  calm : Bool
  pn : List (Addr × Obj)
  xe : Value -> Shared -> Prop
def frs (l : List Env) : List Addr := l.filterMap (·.frame)
abbrev Cx.fs (X : Cx) : List Addr := frs X.outer
def Vis (sc : Scope) (x : Str) : Prop := sc.names.lookup x = some .local \/ sc.names.lookup x = some .cell \/ sc.names.lookup x = some .free
def Loc (sc : Scope) (x : Str) : Prop := sc.names.lookup x = some .local \/ sc.names.lookup x = some .cell
def Look (env : Env) (h : Heap) (m : Str -> Option Value) (x : Str) (u : Value) : Prop :=
  (env.kindOf x = some .local /\ m x = some u) \/ ((env.kindOf x = some .cell \/ env.kindOf x = some .free) /\ ∃ c, env.cells.lookup x = some c /\ h.IsCell c (some u))
structure Cx.Ok (X : Cx) : Prop where
  mod : Mod X.K X.mg X.base
  kind : X.env.scope.kind = .function
  glob : X.env.globals = mainGlobals
  blt : X.env.builtins = builtinsNs
  above : X.s_0.heap.objs.size <= X.env.locals
  inj : ∀ x y c, X.env.cells.lookup x = some c -> X.env.cells.lookup y = some c -> x = y
  has : ∀ x, (X.env.kindOf x = some .cell \/ X.env.kindOf x = some .free) -> ∃ c, X.env.cells.lookup x = some c
  cab : ∀ x c, X.fn x = true -> X.env.cells.lookup x = some c -> X.s_0.heap.objs.size <= c
  hd : X.calm = true -> X.A.handled = none
  frames : X.A.frames = some X.stack
  stk : X.stack = X.outer \/ (X.stack = X.env :: X.outer /\ X.env.frame = some X.env.locals)
  exf : ∀ b ∈ X.ex, b ≠ X.env.locals /\ ∀ x c, X.env.cells.lookup x = some c -> c ≠ b
  bs : ∀ b o, X.base.get? b = some o -> X.s_0.heap.get? b = some o /\ X.H_0 b = none
  bsz : X.base.objs.size <= X.s_0.heap.objs.size
  noex : ∀ b o, X.base.get? b = some o -> b ∉ X.ex
  exfs : ∀ b ∈ X.ex, b ∉ X.fs
  funs : X.s_0.heap.FunFrames X.base X.outer
  frf : ∀ b ∈ X.fs, X.H_0 b = none
structure Inv (X : Cx) (pins : List (Addr × Obj)) (σ : List (Option V)) (H : Hp) (s : Shared) : Prop where
  ok : X.Ok
  os : s.os = X.s_0.os
  bare : AllBare s.gens
  base : Un X.fs X.ex X.H_0 H X.s_0.heap s.heap
  loc : ∃ m, s.heap.Ns X.env.locals m /\ ∀ (i : Nat) (x : Str) (v : V), X.N[i]? = some x -> σ[i]? = some (some v) -> Vis X.env.scope x -> ∃ u, RelV v u /\ Look X.env s.heap m x u
  cell : ∀ x c, X.env.cells.lookup x = some c -> ∃ v, s.heap.IsCell c v
  free : H X.env.locals = none
  freeC : ∀ x c, X.env.cells.lookup x = some c -> H c = none
  pin : ∀ p ∈ X.pn ++ pins, s.heap.get? p.1 = some p.2 /\ H p.1 = none /\ p.1 ≠ X.env.locals /\ p.1 ∉ X.fs /\ ∀ v, p.2.data ≠ .cell v
  hok : HOk X.prog X.w H s.heap
  len : σ.length = X.N.length
section
variable {X : Cx} {pins : List (Addr × Obj)} {σ : List (Option V)} {H H' : Hp} {s : Shared} {h' : Heap}
theorem Cx.Ok.nofr (ok : X.Ok) {b : Addr} {o : Obj} (e : X.base.get? b = some o) : b ∉ X.fs := fun hb => by
  have := (ok.funs.mem hb).1
  rw [e] at this; cases this
theorem Inv.bs (I : Inv X pins σ H s) : ∀ b o, X.base.get? b = some o -> s.heap.get? b = some o /\ H b = none := fun b o e =>
  ⟨I.base.keep b o (I.ok.bs b o e).1 (I.ok.bs b o e).2 (I.ok.nofr e) (I.ok.noex b o e), I.base.free b o (I.ok.bs b o e).1 (I.ok.bs b o e).2 (I.ok.noex b o e)⟩
theorem Inv.bk (I : Inv X pins σ H s) : ∀ b o, X.base.get? b = some o -> s.heap.get? b = some o := fun b o e => (I.bs b o e).1
theorem Inv.mod (I : Inv X pins σ H s) : Mod X.K X.mg X.base := I.ok.mod
theorem Inv.kIn (I : Inv X pins σ H s) : X.K.In s.heap := I.ok.mod.kin.keeps I.bk
theorem Inv.lt (I : Inv X pins σ H s) : X.env.locals < s.heap.objs.size := let ⟨_, hn, _⟩ := I.loc; hn.lt
theorem Inv.sz (I : Inv X pins σ H s) : X.s_0.heap.objs.size <= s.heap.objs.size := Nat.le_trans I.ok.above (Nat.le_of_lt I.lt)
theorem Inv.nofs (I : Inv X pins σ H s) {a : Addr} (h : s.heap.objs.size <= a) : a ∉ X.fs := fun hb => by
  obtain ⟨_, o, ho, _⟩ := I.ok.funs.mem hb
  exact absurd (Nat.lt_of_lt_of_le (Heap.lt_size ho) (Nat.le_trans I.sz h)) (Nat.lt_irrefl _)
theorem Inv.cne (I : Inv X pins σ H s) : ∀ x c, X.env.cells.lookup x = some c -> c ≠ X.env.locals := fun x c e z => by
  obtain ⟨v, o, ho, hd⟩ := I.cell x c e
  obtain ⟨m, ⟨o', es, ep, ho', hd', _⟩, _⟩ := I.loc
  rw [z, ho'] at ho; cases ho; rw [hd'] at hd; cases hd
theorem Inv.funs (I : Inv X pins σ H s) : s.heap.FunFrames X.base X.outer := by
  have all : ∀ (l : List Env), (∀ b ∈ frs l, b ∈ X.fs) -> X.s_0.heap.FunFrames X.base l -> s.heap.FunFrames X.base l := by
    intro l
    induction l with
    | nil => intro _ _; trivial
    | cons env r ih =>
      intro hs hl
      obtain ⟨hk, ⟨L, o, hf, hn, ho, hd⟩, hr⟩ := hl
      have hL : L ∈ X.fs := hs L (by unfold frs; rw [List.filterMap_cons, hf]; exact List.mem_cons_self)
      obtain ⟨sl, e⟩ := I.base.slot L o ho (I.ok.frf L hL) hL fun z => I.ok.exfs L z hL
      exact ⟨hk, ⟨L, _, hf, hn, e, hd⟩, ih (fun b hb => hs b (by unfold frs; rw [List.filterMap_cons, hf]; exact List.mem_cons_of_mem _ hb)) hr⟩
  exact all X.outer (fun _ hb => hb) I.ok.funs
theorem Inv.stack (I : Inv X pins σ H s) : s.heap.FunFrames X.base X.stack := by
  rcases I.ok.stk with e | ⟨e, hf⟩
  . rw [e]; exact I.funs
  . rw [e]
    obtain ⟨m, hn, _⟩ := I.loc
    refine .cons (by rw [I.ok.kind]; decide) hf hn ?_ I.funs
    exact Heap.get?_none_of_le (Nat.le_trans I.ok.bsz I.ok.above)
theorem Inv.stkSub (I : Inv X pins σ H s) : ∀ b ∈ frs X.stack, b ∈ X.env.locals :: X.fs := fun b hb => by
  rcases I.ok.stk with e | ⟨e, hf⟩
  . rw [e] at hb; exact List.mem_cons_of_mem _ hb
  . rw [e] at hb
    unfold frs at hb
    rw [List.filterMap_cons, hf] at hb
    exact hb
theorem Inv.stkFree (I : Inv X pins σ H s) : ∀ b ∈ frs X.stack, H b = none := fun b hb => by
  rcases List.mem_cons.mp (I.stkSub b hb) with e | hb
  . rw [e]; exact I.free
  . obtain ⟨_, o, ho, _⟩ := I.ok.funs.mem hb
    exact I.base.free b o ho (I.ok.frf b hb) fun z => I.ok.exfs b z hb
theorem Inv.step {g' : Array GenState} {t' : Nat} {d' : Drawn} {ch : List Addr} (I : Inv X pins σ H s)
    (hch : ∀ b ∈ ch, (b ∈ X.ex \/ X.s_0.heap.objs.size <= b) /\ b ≠ X.env.locals /\ (∀ x c, X.env.cells.lookup x = some c -> c ≠ b) /\ ∀ p ∈ X.pn ++ pins, p.1 ≠ b)
    (keep : ∀ b o, b ≠ X.env.locals -> b ∉ X.fs -> b ∉ ch -> s.heap.get? b = some o -> H b = none -> h'.get? b = some o)
    (slot : ∀ b o, b ≠ X.env.locals -> b ∈ X.fs -> b ∉ ch -> s.heap.get? b = some o -> H b = none -> ∃ sl, h'.get? b = some { o with slots := sl }) (free : ∀ b o, b ∉ ch -> s.heap.get? b = some o -> H b = none -> H' b = none)
    (there : ∀ b o, b ∉ ch -> s.heap.get? b = some o -> ∃ o', h'.get? b = some o')
    (tups : ∀ b xs, H b = some (.tup xs) -> H' b = some (.tup xs)) (frzs : ∀ b o u, H b = some (.frz o u) -> H' b = some (.frz o u)) (tbls : ∀ b ps, H b = some (.tbl ps) -> ∃ more, H' b = some (.tbl (ps ++ more)))
    (ns : ∀ m, s.heap.Ns X.env.locals m -> h'.Ns X.env.locals m) (hok : HOk X.prog X.w H' h') (hg : AllBare g') :
    Inv X pins σ H' { s with heap := h', gens := g', drawn := d', toks := t' } := by
  have neL : ∀ b o, X.s_0.heap.get? b = some o -> b ≠ X.env.locals := fun b o e => Nat.ne_of_lt (Nat.lt_of_lt_of_le (Heap.lt_size e) I.ok.above)
  have neC : ∀ b o, X.s_0.heap.get? b = some o -> b ∉ X.ex -> b ∉ ch := fun b o e hx hb => by
    rcases (hch b hb).1 with z | z
    . exact hx z
    . exact absurd (Nat.lt_of_lt_of_le (Heap.lt_size e) z) (Nat.lt_irrefl _)
  have cellK : ∀ x c, X.env.cells.lookup x = some c -> ∀ v, s.heap.IsCell c v -> h'.IsCell c v := fun x c e v ⟨o, ho, hd⟩ => by
    have nch : c ∉ ch := fun z => (hch c z).2.2.1 x c e rfl
    by_cases hc : c ∈ X.fs
    . obtain ⟨sl, q⟩ := slot c o (I.cne x c e) hc nch ho (I.freeC x c e)
      exact ⟨_, q, hd⟩
    . exact ⟨o, keep c o (I.cne x c e) hc nch ho (I.freeC x c e), hd⟩
  refine ⟨I.ok, I.os, hg, ⟨fun b o e n hb hx => ?_, fun b o e n hb hx => ?_, fun b o e n hx => ?_, fun b o e hx => ?_, fun b xs e => tups b xs (I.base.tups b xs e), fun b o xs e => frzs b o xs (I.base.frzs b o xs e), fun b ps e => ?_⟩, ?_, fun x c e => ?_, ?_, fun x c e => ?_, fun p hp => ?_, hok, I.len⟩
  . exact keep b o (neL b o e) hb (neC b o e hx) (I.base.keep b o e n hb hx) (I.base.free b o e n hx)
  . obtain ⟨sl, e1⟩ := I.base.slot b o e n hb hx
    obtain ⟨sl', e2⟩ := slot b _ (neL b o e) hb (neC b o e hx) e1 (I.base.free b o e n hx)
    exact ⟨sl', e2⟩
  . obtain ⟨o', e1⟩ := I.base.there b o e hx
    exact free b o' (neC b o e hx) e1 (I.base.free b o e n hx)
  . obtain ⟨o', e1⟩ := I.base.there b o e hx
    exact there b o' (neC b o e hx) e1
  . obtain ⟨m1, e1⟩ := I.base.tbls b ps e
    obtain ⟨m2, e2⟩ := tbls b _ e1
    exact ⟨m1 ++ m2, by rw [e2, Array.append_assoc]⟩
  . obtain ⟨m, hn, hl⟩ := I.loc
    refine ⟨m, ns m hn, fun i x v e1 e2 e3 => ?_⟩
    obtain ⟨u, r, l⟩ := hl i x v e1 e2 e3
    refine ⟨u, r, ?_⟩
    rcases l with l | ⟨k, c, e, z⟩
    . exact .inl l
    . exact .inr ⟨k, c, e, cellK x c e _ z⟩
  . obtain ⟨v, z⟩ := I.cell x c e
    exact ⟨v, cellK x c e v z⟩
  . obtain ⟨m, ⟨o, _, _, ho, _⟩, _⟩ := I.loc
    exact free _ o (fun z => (hch _ z).2.1 rfl) ho I.free
  . obtain ⟨v, o, ho, hd⟩ := I.cell x c e
    exact free c o (fun z => (hch c z).2.2.1 x c e rfl) ho (I.freeC x c e)
  . obtain ⟨e, n, ne, nf, d⟩ := I.pin p hp
    have nch : p.1 ∉ ch := fun z => (hch p.1 z).2.2.2 p hp rfl
    exact ⟨keep p.1 p.2 ne nf nch e n, free p.1 p.2 nch e n, ne, nf, d⟩
theorem Inv.un {t' : Nat} (I : Inv X pins σ H s) (u : Un X.fs [] H H' s.heap h') (hok : HOk X.prog X.w H' h') : Inv X pins σ H' { s with heap := h', toks := t' } := by
  obtain ⟨m, ⟨o, es, ep, ho, r⟩, _⟩ := id I.loc
  obtain ⟨sl, hL⟩ := u.any ho I.free (by simp)
  exact I.step (g' := s.gens) (d' := s.drawn) (ch := []) (fun _ z => nomatch z) (fun b o _ hb _ e n => u.keep b o e n hb (by simp)) (fun b o _ hb _ e n => u.slot b o e n hb (by simp)) (fun b o _ e n => u.free b o e n (by simp)) (fun b o _ e => u.there b o e (by simp)) u.tups u.frzs u.tbls (fun m' hm => by
    obtain ⟨o', es', ep', ho', r'⟩ := hm
    rw [ho] at ho'; cases ho'
    exact ⟨_, es', ep', hL, r'⟩) hok I.bare
theorem Inv.call {g' : Array GenState} {t' : Nat} {d' : Drawn} {ch : List Addr} (I : Inv X pins σ H s) (u : Un (frs X.stack) ch H H' s.heap h') (hok : HOk X.prog X.w H' h') (hg : AllBare g')
    (hch : ∀ b ∈ ch, (b ∈ X.ex \/ X.s_0.heap.objs.size <= b) /\ b ≠ X.env.locals /\ (∀ x c, X.env.cells.lookup x = some c -> c ≠ b) /\ ∀ p ∈ X.pn ++ pins, p.1 ≠ b) :
    Inv X pins σ H' { s with heap := h', gens := g', drawn := d', toks := t' } := by
  obtain ⟨m, ⟨o, es, ep, ho, r⟩, _⟩ := id I.loc
  obtain ⟨sl, hL⟩ := u.any ho I.free fun z => (hch _ z).2.1 rfl
  exact I.step (ch := ch) hch (fun b o hL hb hc e n => u.keep b o e n (fun z => (List.mem_cons.mp (I.stkSub b z)).elim hL hb) hc) (fun b o _ _ hc e n => u.any e n hc) (fun b o hc e n => u.free b o e n hc) (fun b o hc e => u.there b o e hc) u.tups u.frzs u.tbls (fun m' hm => by
    obtain ⟨o', es', ep', ho', r'⟩ := hm
    rw [ho] at ho'; cases ho'
    exact ⟨_, es', ep', hL, r'⟩) hok hg
theorem Inv.turned {t' : Nat} {it : Addr} (I : Inv X pins σ H s) (k : ∀ b o, b ≠ it -> s.heap.get? b = some o -> h'.get? b = some o) (hn : H it = none) (hL : it ≠ X.env.locals)
    (h1 : it ∈ X.ex \/ X.s_0.heap.objs.size <= it) (h2 : ∀ x c, X.env.cells.lookup x = some c -> c ≠ it) (h3 : ∀ p ∈ X.pn ++ pins, p.1 ≠ it) : Inv X pins σ H { s with heap := h', toks := t' } := by
  have nit : ∀ b u, H b = some u -> b ≠ it := fun b u e z => by rw [z, hn] at e; cases e
  refine I.step (g' := s.gens) (d' := s.drawn) (ch := [it]) (fun b hb => ?_) (fun b o _ _ hc e _ => k b o (fun z => hc (by simp [z])) e) (fun b o _ _ hc e _ => ⟨o.slots, k b o (fun z => hc (by simp [z])) e⟩) (fun _ _ _ _ n => n)
    (fun b o hc e => ⟨o, k b o (fun z => hc (by simp [z])) e⟩) (fun _ _ e => e) (fun _ _ _ e => e) (fun b ps e => ⟨#[], by rw [e]; simp⟩) (fun m hm => ?_) (fun b u e => ?_) I.bare
  . have e : b = it := by simpa using hb
    subst e
    exact ⟨h1, hL, h2, h3⟩
  . obtain ⟨o, es, ep, ho, r⟩ := hm
    exact ⟨o, es, ep, k _ o (Ne.symm hL) ho, r⟩
  . refine (I.hok b u e).stay (fun c v hc q => k c v ?_ q) (fun _ q => q) fun _ _ q => q
    rcases hc with z | z
    . rw [z]; exact nit b u e
    . exact nit c _ z
theorem Inv.tok (I : Inv X pins σ H s) (t : Nat) : Inv X pins σ H { s with toks := t } := I.un (h' := s.heap) (t' := t) Un.refl I.hok
theorem Inv.kept {t' : Nat} (I : Inv X pins σ H s) (k : ∀ b u, s.heap.get? b = some u -> h'.get? b = some u) : Inv X pins σ H { s with heap := h', toks := t' } := I.un (Un.kept k) (I.hok.kept k)
theorem Inv.laid {a : Addr} {o : HO} {t' : Nat} (I : Inv X pins σ H s) (k : ∀ b u, s.heap.get? b = some u -> h'.get? b = some u) (hp : s.heap.objs.size <= a) (new : ObjOk X.prog X.w (upd H a o) h' a o) :
    Inv X pins σ (upd H a o) { s with heap := h', toks := t' } := I.un (Un.laid k hp (I.hok.fresh hp)) (I.hok.laid k hp new)
theorem Inv.write {x e : Addr} {o : HO} {t' : Nat} (I : Inv X pins σ H s) (mu : Mut (H x)) (he : e = x \/ H e = some (.own x)) (k : ∀ b u, b ≠ e -> s.heap.get? b = some u -> h'.get? b = some u) (heo : ∃ u, h'.get? e = some u)
    (new : ObjOk X.prog X.w (upd H x o) h' x o) : Inv X pins σ (upd H x o) { s with heap := h', toks := t' } := I.un (Un.write mu he k heo) (I.hok.write mu he k heo new)
theorem Inv.weak {σ' : List (Option V)} (I : Inv X pins σ H s) (hl : σ'.length = σ.length) (w : ∀ (i : Nat) v, σ'[i]? = some (some v) -> σ[i]? = some (some v)) : Inv X pins σ' H s :=
  ⟨I.ok, I.os, I.bare, I.base, let ⟨m, hn, hl'⟩ := I.loc; ⟨m, hn, fun i x v e1 e2 e3 => hl' i x v e1 (w i v e2) e3⟩, I.cell, I.free, I.freeC, I.pin, I.hok, hl.trans I.len⟩
theorem Inv.pins_of {pins' : List (Addr × Obj)} (I : Inv X pins σ H s) (h : ∀ p ∈ pins', s.heap.get? p.1 = some p.2 /\ H p.1 = none /\ p.1 ≠ X.env.locals /\ p.1 ∉ X.fs /\ ∀ v, p.2.data ≠ .cell v) : Inv X pins' σ H s :=
  ⟨I.ok, I.os, I.bare, I.base, I.loc, I.cell, I.free, I.freeC, fun p hp => (List.mem_append.mp hp).elim (fun z => I.pin p (List.mem_append_left _ z)) (h p), I.hok, I.len⟩
theorem nodup_ix {N : List Str} (hN : N.Nodup) {i j : Nat} {x : Str} (a : N[i]? = some x) (b : N[j]? = some x) : i = j := by
  obtain ⟨h1, e1⟩ := List.getElem?_eq_some_iff.mp a
  obtain ⟨h2, e2⟩ := List.getElem?_eq_some_iff.mp b
  exact (List.getElem_inj hN).mp (e1.trans e2.symm)
theorem store_ok2 {M : Model} {A : Around} {E : Value -> Shared -> Prop} {i : Nat} {x : Str} {v : V} {u : Value} {Q : Unit -> Shared -> Prop} (I : Inv X pins σ H s) (hN : X.N.Nodup) (hi : X.N[i]? = some x) (hx : Loc X.env.scope x) (r : RelV v u)
    (h : ∀ s', Inv X pins (σ.set i (some v)) H s' -> (∃ a, Heap.SameBut a s.heap s'.heap /\ (a = X.env.locals \/ X.env.cells.lookup x = some a)) -> Q () s') (hf : X.fn x = true \/ X.env.scope.names.lookup x = some .local := by first | exact .inl rfl | exact .inr rfl | assumption) : wpAny M A (storeName X.env x u) Q E s := by
  obtain ⟨m, hn, hl⟩ := id I.loc
  have hcls : (X.env.scope.kind == .class || (X.env.scope.kind == .module && X.env.locals != X.env.globals)) = false := by rw [I.ok.kind]; rfl
  have hiσ : i < σ.length := by rw [I.len]; exact (List.getElem?_eq_some_iff.mp hi).1
  have cne := I.cne
  have tracked : ∀ {a : Addr} {h' : Heap}, (∃ o, s.heap.get? a = some o /\ H a = none) -> Heap.SameBut a s.heap h' -> HOk X.prog X.w H h' := fun {a h'} ha hs b ob e => by
    obtain ⟨_, _, hfree⟩ := ha
    refine (I.hok b ob e).stay (fun c w' hc q => (hs.2 c ?_).trans q) (fun _ q => q) fun _ _ q => q
    rintro rfl
    rcases hc with rfl | hc
    . rw [hfree] at e; cases e
    . rw [hfree] at hc; cases hc
  rcases hx with hk | hk
  . refine wpAny_storeName_local hk hn (fun h' hn' hs => ?_) hcls
    obtain ⟨oL, _, _, hoL, _⟩ := id hn
    refine h _ ⟨I.ok, I.os, I.bare, ⟨fun b o e n hb hx => ?_, fun b o e n hb hx => ?_, I.base.free, fun b o e hx => ?_, I.base.tups, I.base.frzs, I.base.tbls⟩, ⟨_, hn', fun j y v' e1 e2 e3 => ?_⟩, fun y c e => ?_, I.free, I.freeC, fun p hp => ?_, tracked ⟨oL, hoL, I.free⟩ hs, by simpa using I.len⟩ ⟨_, hs, .inl rfl⟩
    . exact (hs.2 b (Nat.ne_of_lt (Nat.lt_of_lt_of_le (Heap.lt_size e) I.ok.above))).trans (I.base.keep b o e n hb hx)
    . obtain ⟨sl, e1⟩ := I.base.slot b o e n hb hx
      exact ⟨sl, (hs.2 b (Nat.ne_of_lt (Nat.lt_of_lt_of_le (Heap.lt_size e) I.ok.above))).trans e1⟩
    . obtain ⟨o', e1⟩ := I.base.there b o e hx
      exact ⟨o', (hs.2 b (Nat.ne_of_lt (Nat.lt_of_lt_of_le (Heap.lt_size e) I.ok.above))).trans e1⟩
    . by_cases hj : j = i
      . subst hj
        rw [hi] at e1; cases e1
        rw [List.getElem?_set_self hiσ] at e2
        cases e2
        exact ⟨u, r, .inl ⟨hk, by simp⟩⟩
      . rw [List.getElem?_set_ne (Ne.symm hj)] at e2
        obtain ⟨u', r', q⟩ := hl j y v' e1 e2 e3
        refine ⟨u', r', ?_⟩
        rcases q with ⟨k, e⟩ | ⟨k, c, e, z⟩
        . refine .inl ⟨k, ?_⟩
          have : y ≠ x := fun e => hj (nodup_ix hN e1 (e ▸ hi))
          simp [this, e]
        . exact .inr ⟨k, c, e, z.sameBut hs (cne y c e)⟩
    . obtain ⟨w', z⟩ := I.cell y c e
      exact ⟨w', z.sameBut hs (cne y c e)⟩
    . obtain ⟨e, n, ne, nf, d⟩ := I.pin p hp
      exact ⟨(hs.2 p.1 ne).trans e, n, ne, nf, d⟩
  . have hfn : X.fn x = true := by
      rcases hf with z | z
      . exact z
      . rw [z] at hk; cases hk
    obtain ⟨c, hc⟩ := I.ok.has x (.inl hk)
    obtain ⟨w', z⟩ := I.cell x c hc
    refine wpAny_storeName_cell I.ok.kind hk hc z (fun h' hc' hs => ?_)
    obtain ⟨oc, hoc, hocd⟩ := id z
    refine h { s with heap := h' } ⟨I.ok, I.os, I.bare, ⟨fun b o e n hb hx => ?_, fun b o e n hb hx => ?_, I.base.free, fun b o e hx => ?_, I.base.tups, I.base.frzs, I.base.tbls⟩, ⟨m, hn.sameBut hs (Ne.symm (cne x c hc)), fun j y v' e1 e2 e3 => ?_⟩, fun y c' e => ?_, I.free, I.freeC, fun p hp => ?_, tracked ⟨oc, hoc, I.freeC x c hc⟩ hs, by simpa using I.len⟩ ⟨c, hs, .inr hc⟩
    . exact (hs.2 b (Nat.ne_of_lt (Nat.lt_of_lt_of_le (Heap.lt_size e) (I.ok.cab x c hfn hc)))).trans (I.base.keep b o e n hb hx)
    . obtain ⟨sl, e1⟩ := I.base.slot b o e n hb hx
      exact ⟨sl, (hs.2 b (Nat.ne_of_lt (Nat.lt_of_lt_of_le (Heap.lt_size e) (I.ok.cab x c hfn hc)))).trans e1⟩
    . obtain ⟨o', e1⟩ := I.base.there b o e hx
      exact ⟨o', (hs.2 b (Nat.ne_of_lt (Nat.lt_of_lt_of_le (Heap.lt_size e) (I.ok.cab x c hfn hc)))).trans e1⟩
    . by_cases hj : j = i
      . subst hj
        rw [hi] at e1; cases e1
        rw [List.getElem?_set_self hiσ] at e2
        cases e2
        exact ⟨u, r, .inr ⟨.inl hk, c, hc, hc'⟩⟩
      . rw [List.getElem?_set_ne (Ne.symm hj)] at e2
        obtain ⟨u', r', q⟩ := hl j y v' e1 e2 e3
        refine ⟨u', r', ?_⟩
        rcases q with q | ⟨k, c', e, z'⟩
        . exact .inl q
        . refine .inr ⟨k, c', e, z'.sameBut hs ?_⟩
          rintro rfl
          exact hj (nodup_ix hN e1 (I.ok.inj _ _ _ e hc ▸ hi))
    . by_cases hcc : c' = c
      . subst hcc; exact ⟨_, hc'⟩
      . obtain ⟨w2, z2⟩ := I.cell y c' e
        exact ⟨w2, z2.sameBut hs hcc⟩
    . obtain ⟨e, n, ne, nf, d⟩ := I.pin p hp
      refine ⟨(hs.2 p.1 ?_).trans e, n, ne, nf, d⟩
      intro q
      rw [q, hoc] at e
      have q' : oc = p.2 := Option.some.inj e
      exact d w' (by rw [<- q']; exact hocd)
theorem store_ok {M : Model} {A : Around} {E : Value -> Shared -> Prop} {i : Nat} {x : Str} {v : V} {u : Value} {Q : Unit -> Shared -> Prop} (I : Inv X pins σ H s) (hN : X.N.Nodup) (hi : X.N[i]? = some x) (hx : Loc X.env.scope x) (r : RelV v u)
    (h : ∀ s', Inv X pins (σ.set i (some v)) H s' -> Q () s') (hf : X.fn x = true \/ X.env.scope.names.lookup x = some .local := by first | exact .inl rfl | exact .inr rfl | assumption) : wpAny M A (storeName X.env x u) Q E s :=
  store_ok2 I hN hi hx r (fun s' I' _ => h s' I') hf
theorem Inv.call' {s' : Shared} {ch : List Addr} (I : Inv X pins σ H s) (ho : s'.os = s.os) (u : Un (frs X.stack) ch H H' s.heap s'.heap) (hok : HOk X.prog X.w H' s'.heap) (hg : AllBare s'.gens)
    (hch : ∀ b ∈ ch, (b ∈ X.ex \/ X.s_0.heap.objs.size <= b) /\ b ≠ X.env.locals /\ (∀ x c, X.env.cells.lookup x = some c -> c ≠ b) /\ ∀ p ∈ X.pn ++ pins, p.1 ≠ b) : Inv X pins σ H' s' := by
  obtain ⟨h', g', d', t', o'⟩ := s'
  have e : o' = s.os := ho
  subst e
  exact I.call (g' := g') (t' := t') (d' := d') u hok hg hch
end
abbrev XK := Value -> Option Addr -> Hp -> Prop
abbrev St := List (Option V)
abbrev VK := V -> Hp -> Prop
abbrev TE := St -> Hp -> VK -> Prop
abbrev TT := St -> Hp -> (Bool -> Hp -> Prop) -> Prop
abbrev TA := St -> Hp -> (List V -> Hp -> Prop) -> Prop
structure Ends where
  nx : St -> Hp -> Prop
  rt : VK
  bk : St -> Hp -> Prop := fun _ _ => False
  ct : St -> Hp -> Prop := fun _ _ => False
abbrev TS := Ends -> St -> Hp -> Prop
def EP (X : Cx) (pins : List (Addr × Obj)) (σ : St) (Q : VK) (u : Value) (s' : Shared) : Prop := ∃ v H', Inv X pins σ H' s' /\ RelV v u /\ Q v H'
def TP (X : Cx) (pins : List (Addr × Obj)) (σ : St) (Q : Bool -> Hp -> Prop) (b : Bool) (s' : Shared) : Prop := ∃ H', Inv X pins σ H' s' /\ Q b H'
def AP (X : Cx) (pins : List (Addr × Obj)) (σ : St) (Q : List V -> Hp -> Prop) (us : List Value) (s' : Shared) : Prop := ∃ vs H', Inv X pins σ H' s' /\ Vals vs us /\ Q vs H'
def SP (X : Cx) (pins : List (Addr × Obj)) (D : Ends) (f : Flow) (s' : Shared) : Prop :=
  match f with
  | .next => ∃ σ' H', Inv X pins σ' H' s' /\ D.nx σ' H'
  | .brk => ∃ σ' H', Inv X pins σ' H' s' /\ D.bk σ' H'
  | .cont => ∃ σ' H', Inv X pins σ' H' s' /\ D.ct σ' H'
  | .ret u => ∃ v σ' H', Inv X pins σ' H' s' /\ RelV v u /\ D.rt v H'
def PE (X : Cx) (e : Expr) (t : TE) : Prop :=
  ∀ (pins : List (Addr × Obj)) (s : Shared) (σ : St) (H : Hp) (Q : VK), Inv X pins σ H s -> t σ H Q -> wpAny (model X.prog X.w) X.A (eval e X.env) (EP X pins σ Q) X.xe s
def PT (X : Cx) (e : Expr) (t : TT) : Prop :=
  ∀ (pins : List (Addr × Obj)) (s : Shared) (σ : St) (H : Hp) (Q : Bool -> Hp -> Prop), Inv X pins σ H s -> t σ H Q -> wpAny (model X.prog X.w) X.A (isTrue e X.env (eval e X.env)) (TP X pins σ Q) X.xe s
def PW (X : Cx) (e : Expr) (t : TT) : Prop :=
  ∀ (whole : Sem Value) (pins : List (Addr × Obj)) (s : Shared) (σ : St) (H : Hp) (Q : Bool -> Hp -> Prop), Inv X pins σ H s -> t σ H Q -> wpAny (model X.prog X.w) X.A (isTrue e X.env whole) (TP X pins σ Q) X.xe s
theorem PW.pt {X : Cx} {e : Expr} {t : TT} (h : PW X e t) : PT X e t := h _
def PA (X : Cx) (es : List Expr) (t : TA) : Prop :=
  ∀ (pos : Pos) (pins : List (Addr × Obj)) (s : Shared) (σ : St) (H : Hp) (Q : List V -> Hp -> Prop), Inv X pins σ H s -> t σ H Q -> wpAny (model X.prog X.w) X.A (spliced (backTo pos (starEach es X.env))) (AP X pins σ Q) X.xe s
def PS (X : Cx) (st : Stmt) (t : TS) : Prop :=
  ∀ (pins : List (Addr × Obj)) (s : Shared) (σ : St) (H : Hp) (D : Ends), Inv X pins σ H s -> t D σ H -> wpAny (model X.prog X.w) X.A (exec st X.env) (SP X pins D) X.xe s
def PSs (X : Cx) (st : List Stmt) (t : TS) : Prop :=
  ∀ (pins : List (Addr × Obj)) (s : Shared) (σ : St) (H : Hp) (D : Ends), Inv X pins σ H s -> t D σ H -> wpAny (model X.prog X.w) X.A (execs st X.env) (SP X pins D) X.xe s
theorem thn {α : Type} {t : Sem α} {Q Q' : α -> Shared -> Prop} {M : Model} {A : Around} {E : Value -> Shared -> Prop} {s : Shared} (h : wpAny M A t Q E s) (hQ : ∀ a s, Q a s -> Q' a s) : wpAny M A t Q' E s := wpAny_mono h hQ fun _ _ x => x
section
variable {X : Cx}
def tVar (i : Nat) : TE := fun σ H Q => ∃ v, σ[i]? = some (some v) /\ Q v H
def tC (v : V) : TE := fun _ H Q => Q v H
theorem pe_var {i : Nat} {x : Str} {pos : Pos} (hN : X.N[i]? = some x) (hv : Vis X.env.scope x) (hd : (x == ("__debug__" : Str)) = false := by decide) (hcd : (x == ("__classdict__" : Str)) = false := by decide) : PE X (.Name x pos) (tVar i) := by
  intro pins s σ H Q I h
  obtain ⟨v, e, h⟩ := h
  obtain ⟨m, hn, hl⟩ := I.loc
  obtain ⟨u, r, l⟩ := hl i x v hN e hv
  have fin : EP X pins σ Q u s := ⟨v, H, I, r, h⟩
  rcases l with ⟨hk, hm⟩ | ⟨hk, c, hc, hcell⟩
  . exact wpAny_Name (wpAny_loadName_local I.ok.kind hk hn hm fin) hd
  . rcases hk with hk | hk
    . exact wpAny_Name (wpAny_loadName_cell I.ok.kind hk hc hcell fin) hd
    . exact wpAny_Name (wpAny_loadName_free I.ok.kind hk hc hcell fin hcd) hd
theorem pe_int {i j pos} : PE X (.Constant (.int i) j pos) (tC (.int i)) := fun _ _ _ H _ I h => wpAny_Constant_int ⟨.int i, H, I.tok _, ⟨_, rfl⟩, h⟩
theorem pe_bl {b j pos} : PE X (.Constant (.bool b) j pos) (tC (.bl b)) := fun _ _ _ H _ I h => Constant_bool ⟨.bl b, H, I, rfl, h⟩
def Gl (X : Cx) (x : Str) : Prop := X.env.kindOf x = some .globalImplicit
theorem ld_glob {E : Value -> Shared -> Prop} {pins : List (Addr × Obj)} {s : Shared} {σ : St} {H : Hp} {x : Str} {u : Value} {pos : Pos} {Q : Value -> Shared -> Prop} (I : Inv X pins σ H s) (hg : Gl X x) (hm : X.mg x = some u) (h : Q u s)
    (hd : (x == ("__debug__" : Str)) = false := by decide) : wpAny (model X.prog X.w) X.A (eval (.Name x pos) X.env) Q E s :=
  Calls.Name_function_global I.ok.kind hg (Calls.loadGlobal_global (by rw [I.ok.glob]; exact I.mod.glob.keeps I.bk) hm h) hd
theorem ld_blt {E : Value -> Shared -> Prop} {pins : List (Addr × Obj)} {s : Shared} {σ : St} {H : Hp} {x : Str} {u : Value} {pos : Pos} {Q : Value -> Shared -> Prop} (I : Inv X pins σ H s) (hg : Gl X x) (hm : X.mg x = none) (hv : bootBuiltins x = some u) (h : Q u s)
    (hn : x ≠ "__name__" := by decide) (hd : (x == ("__debug__" : Str)) = false := by decide) : wpAny (model X.prog X.w) X.A (eval (.Name x pos) X.env) Q E s := by
  obtain ⟨mb, h1, h2⟩ := I.mod.blt
  exact Calls.Name_function_global I.ok.kind hg (Calls.loadGlobal_builtin (by rw [I.ok.glob]; exact I.mod.glob.keeps I.bk) hm (by rw [I.ok.blt]; exact h1.keeps I.bk) ((h2 x hn).trans hv) h) hd
theorem pe_glob {x : Str} {v : V} {u : Value} {pos : Pos} (hg : Gl X x) (hm : X.mg x = some u) (r : RelV v u) (hd : (x == ("__debug__" : Str)) = false := by decide) : PE X (.Name x pos) (tC v) :=
  fun _ _ _ H _ I h => ld_glob I hg hm ⟨v, H, I, r, h⟩ hd
variable {a b : Expr} {ta tb : TE} {pos : Pos}
def tB (t : TE) : TT := fun σ H Q => t σ H fun x H1 => ∃ c, x = .bl c /\ Q c H1
theorem pt_val {e : Expr} {t : TE} (h : PE X e t) (he : ∀ whole, isTrue e X.env whole = (do let v <- whole; standAt e.pos; holding [v] (truthy v)) := by intro _; rfl) : PT X e (tB t) := by
  intro pins s σ H Q I hw
  refine isTrue_plain (thn (h pins s σ H _ I hw) fun v s1 ⟨x, H1, I1, r1, q1⟩ => ?_) (he _)
  obtain ⟨d, rfl, q⟩ := q1
  cases r1
  exact wpAny_truthy_bool ⟨H1, I1, q⟩
variable {tA tB' : TT} {rest : List Expr}
def tAnd (t u : TT) : TT := fun σ H Q => t σ H fun c H1 => if c = true then u σ H1 Q else Q false H1
def tOr (t u : TT) : TT := fun σ H Q => t σ H fun c H1 => if c = true then Q true H1 else u σ H1 Q
def tNot (t : TT) : TT := fun σ H Q => t σ H fun c H1 => Q (!c) H1
theorem pw_and1 (ha : PT X a tA) : PW X (.BoolOp .And [a] pos) tA := by
  intro wh pins s σ H Q I h
  refine isTrue_and (thn (ha pins s σ H Q I h) fun c s1 e => ?_)
  cases c with
  | true => exact isTrue_and_nil e
  | false => exact e
theorem pw_or1 (ha : PT X a tA) : PW X (.BoolOp .Or [a] pos) tA := by
  intro wh pins s σ H Q I h
  refine isTrue_or (thn (ha pins s σ H Q I h) fun c s1 e => ?_)
  cases c with
  | false => exact isTrue_or_nil e
  | true => exact e
theorem pw_and (ha : PT X a tA) (hb : PW X (.BoolOp .And (b :: rest) pos) tB') : PW X (.BoolOp .And (a :: b :: rest) pos) (tAnd tA tB') := by
  intro wh pins s σ H Q I h
  refine isTrue_and (thn (ha pins s σ H _ I h) fun c s1 ⟨H1, I1, q1⟩ => ?_)
  cases c with
  | true => exact hb wh pins s1 σ H1 Q I1 q1
  | false => exact ⟨H1, I1, q1⟩
theorem pw_or (ha : PT X a tA) (hb : PW X (.BoolOp .Or (b :: rest) pos) tB') : PW X (.BoolOp .Or (a :: b :: rest) pos) (tOr tA tB') := by
  intro wh pins s σ H Q I h
  refine isTrue_or (thn (ha pins s σ H _ I h) fun c s1 ⟨H1, I1, q1⟩ => ?_)
  cases c with
  | true => exact ⟨H1, I1, q1⟩
  | false => exact hb wh pins s1 σ H1 Q I1 q1
theorem pt_not (ha : PT X a tA) : PT X (.UnaryOp .Not a pos) (tNot tA) := by
  intro pins s σ H Q I h
  exact isTrue_not (ha pins s σ H (fun c H1 => Q (!c) H1) I h)
def tAndV (ta tb : TE) : TE := fun σ H Q => ta σ H fun x H1 => ∃ c, x = .bl c /\ if c = true then tb σ H1 Q else Q (.bl false) H1
theorem pe_one {op} {t : TE} (h : PE X a t) : PE X (.BoolOp op [a] pos) t := fun pins s σ H Q I hw => BoolOp_one (h pins s σ H Q I hw)
theorem pe_and (ha : PE X a ta) (hb : PE X (.BoolOp .And (b :: rest) pos) tb) : PE X (.BoolOp .And (a :: b :: rest) pos) (tAndV ta tb) := by
  intro pins s σ H Q I h
  refine BoolOp_and (thn (ha pins s σ H _ I h) fun v s1 ⟨x, H1, I1, r1, q1⟩ => ?_)
  obtain ⟨c, rfl, q1⟩ := q1
  cases r1
  refine wpAny_truthy_bool ?_
  cases c with
  | true => exact hb pins s1 σ H1 Q I1 q1
  | false => exact ⟨.bl false, H1, I1, rfl, q1⟩
def tIf (t : TT) (ta tb : TE) : TE := fun σ H Q => t σ H fun c H1 => if c = true then ta σ H1 Q else tb σ H1 Q
theorem pe_ifExp {c : Expr} (hc : PT X c tA) (ha : PE X a ta) (hb : PE X b tb) : PE X (.IfExp c a b pos) (tIf tA ta tb) := by
  intro pins s σ H Q I h
  refine wpAny_IfExp (thn (hc pins s σ H _ I h) fun d s1 ⟨H1, I1, q1⟩ => ?_)
  cases d with
  | true => exact ha pins s1 σ H1 Q I1 q1
  | false => exact hb pins s1 σ H1 Q I1 q1
end
def SqL (K : PySem.W.Frag) (H : Hp) (a : Addr) (xs : List V) : Prop :=
  Rd H a (.lst xs) \/
    ∃ (o : Obj) (its : Array Value) (n : Nat), K.lookup a = some o /\ o.cls = .type "list" /\ o.dict = none /\ o.data = .seq its n /\ its.size <= sizeLine /\ Vals xs its.toList
def SqT (K : PySem.W.Frag) (H : Hp) (a : Addr) (xs : List V) : Prop :=
  Rd H a (.tup xs) \/
    ∃ (o : Obj) (its : Array Value) (n : Nat), K.lookup a = some o /\ o.cls = .type "tuple" /\ o.data = .seq its n /\ its.size <= sizeLine /\ Vals xs its.toList
def absV : Value -> Option V
  | .none => some .non
  | .bool b => some (.bl b)
  | .int i _ => some (.int i)
  | .str x _ => some (.str x)
  | .bytes b _ => some (.byt b)
  | .float b _ => some (.flt b)
  | .ref a => some (.ref a)
  | .type n => some (.ty n)
  | _ => none
theorem RelV.abs {x : V} {u : Value} (r : RelV x u) : absV u = some x := by
  cases x with
  | non => cases r; rfl
  | bl _ => cases r; rfl
  | int _ => obtain ⟨t, rfl⟩ := r; rfl
  | str _ => obtain ⟨t, rfl⟩ := r; rfl
  | byt _ => obtain ⟨t, rfl⟩ := r; rfl
  | flt _ => obtain ⟨t, rfl⟩ := r; rfl
  | ref _ => cases r; rfl
  | ty _ => cases r; rfl
theorem RelV.inj {x y : V} {u : Value} (r : RelV x u) (q : RelV y u) : x = y := Option.some.inj (r.abs.symm.trans q.abs)
theorem Vals.inj : ∀ {xs ys : List V} {us : List Value}, Vals xs us -> Vals ys us -> xs = ys
  | _, _, _, .nil, .nil => rfl
  | _, _, _, .cons r t, .cons r' t' => by rw [r.inj r', Vals.inj t t']
section
variable {X : Cx} {pins : List (Addr × Obj)} {σ : St} {H : Hp} {s : Shared} {a : Addr} {xs ys : List V}
theorem SqL.of {K : PySem.W.Frag} (h : H a = some (.lst xs)) : SqL K H a xs := .inl (.inl h)
theorem SqT.of {K : PySem.W.Frag} (h : H a = some (.tup xs)) : SqT K H a xs := .inl (.inl h)
theorem Inv.list (I : Inv X pins σ H s) (h : SqL X.K H a xs) : ∃ its : List Value, Vals xs its /\ PlainL s.heap a its.toArray /\ xs.length <= sizeLine := by
  rcases h with h | ⟨o, its, n, hk, hc, hd, hs, hz, r⟩
  . obtain ⟨z, its, n, r, e⟩ := h.ok I.hok
    exact ⟨its, r, ⟨_, n, e, rfl, rfl, rfl⟩, z⟩
  . refine ⟨its.toList, r, ⟨o, n, I.kIn a o hk, hc, hd, by simpa using hs⟩, ?_⟩
    have e := r.length
    simp only [Array.length_toList] at e
    omega
theorem Inv.tuple (I : Inv X pins σ H s) (h : SqT X.K H a xs) : ∃ its : List Value, Vals xs its /\ IsTup s.heap a its.toArray /\ xs.length <= sizeLine := by
  rcases h with h | ⟨o, its, n, hk, hc, hs, hz, r⟩
  . obtain ⟨z, its, r, p⟩ := h.ok I.hok
    exact ⟨its, r, p, z⟩
  . refine ⟨its.toList, r, ⟨o, I.kIn a o hk, hc, n, by simpa using hs⟩, ?_⟩
    have e := r.length
    simp only [Array.length_toList] at e
    omega
theorem Inv.list_inj (I : Inv X pins σ H s) (h : SqL X.K H a xs) (h' : SqL X.K H a ys) : xs = ys := by
  obtain ⟨its, r, ⟨o, n, e, _, _, d⟩, _⟩ := I.list h
  obtain ⟨its', r', ⟨o', n', e', _, _, d'⟩, _⟩ := I.list h'
  rw [e] at e'; cases e'
  rw [d] at d'
  injection d' with d1 _
  have : its = its' := by simpa using congrArg Array.toList d1
  subst this
  exact r.inj r'
end
abbrev Cx.wish (X : Cx) (E : Value -> Shared -> Prop) : Cx := { X with xe := E }
abbrev Cx.nox (X : Cx) : Cx := X.wish fun _ _ => False
theorem Cx.Ok.wish {X : Cx} (ok : X.Ok) (E : Value -> Shared -> Prop) : (X.wish E).Ok :=
  ⟨ok.mod, ok.kind, ok.glob, ok.blt, ok.above, ok.inj, ok.has, ok.cab, ok.hd, ok.frames, ok.stk, ok.exf, ok.bs, ok.bsz, ok.noex, ok.exfs, ok.funs, ok.frf⟩
theorem Cx.Ok.unwish {X : Cx} {E : Value -> Shared -> Prop} (ok : (X.wish E).Ok) : X.Ok :=
  ⟨ok.mod, ok.kind, ok.glob, ok.blt, ok.above, ok.inj, ok.has, ok.cab, ok.hd, ok.frames, ok.stk, ok.exf, ok.bs, ok.bsz, ok.noex, ok.exfs, ok.funs, ok.frf⟩
section
variable {X : Cx} {pins : List (Addr × Obj)} {σ : St} {H : Hp} {s : Shared} {E : Value -> Shared -> Prop}
theorem Inv.wish (I : Inv X pins σ H s) (E : Value -> Shared -> Prop) : Inv (X.wish E) pins σ H s := ⟨I.ok.wish E, I.os, I.bare, I.base, I.loc, I.cell, I.free, I.freeC, I.pin, I.hok, I.len⟩
theorem Inv.unwish (I : Inv (X.wish E) pins σ H s) : Inv X pins σ H s := ⟨I.ok.unwish, I.os, I.bare, I.base, I.loc, I.cell, I.free, I.freeC, I.pin, I.hok, I.len⟩
theorem SP.unwish {D : Ends} {f : Flow} {s' : Shared} (h : SP (X.wish E) pins D f s') : SP X pins D f s' := by
  cases f with
  | next => obtain ⟨σ', H', I, q⟩ := h; exact ⟨σ', H', I.unwish, q⟩
  | brk => obtain ⟨σ', H', I, q⟩ := h; exact ⟨σ', H', I.unwish, q⟩
  | cont => obtain ⟨σ', H', I, q⟩ := h; exact ⟨σ', H', I.unwish, q⟩
  | ret u => obtain ⟨v, σ', H', I, r, q⟩ := h; exact ⟨v, σ', H', I.unwish, r, q⟩
theorem PSs.nox {st : List Stmt} {t : TS} (h : PSs X.nox st t) : PSs X st t := fun pins s σ H D I hw =>
  wpAny_mono (h pins s σ H D (I.wish _) hw) (fun _ _ q => q.unwish) fun _ _ z => False.elim z
end
section
variable {X : Cx} {st : Stmt} {rest : List Stmt} {t u : TS} {e : Expr} {te : TE} {pos : Pos}
def tNext : TS := fun D σ H => D.nx σ H
def tSeq (t u : TS) : TS := fun D σ H => t { D with nx := u D } σ H
theorem pss_nil : PSs X [] tNext := fun _ _ σ H _ I h => wpAny_execs_nil ⟨σ, H, I, h⟩
theorem pss_cons (h1 : PS X st t) (h2 : PSs X rest u) : PSs X (st :: rest) (tSeq t u) := by
  intro pins s σ H D I h
  refine wpAny_execs_cons (thn (h1 pins s σ H { D with nx := u D } I h) fun f s1 q => ?_)
  cases f with
  | next =>
    obtain ⟨σ', H', I', q⟩ := q
    exact h2 pins s1 σ' H' D I' q
  | ret v => exact q
  | brk => exact q
  | cont => exact q
theorem pss_one (h1 : PS X st t) : PSs X [st] t := by
  intro pins s σ H D I h
  refine wpAny_execs_cons (thn (h1 pins s σ H D I h) fun f s1 q => ?_)
  cases f with
  | next => exact wpAny_execs_nil q
  | ret v => exact q
  | brk => exact q
  | cont => exact q
theorem Inv.quiet {pins : List (Addr × Obj)} {σ : St} {H : Hp} {s : Shared} (I : Inv X pins σ H s) : interactive X.env = false := by simp [interactive, I.ok.kind]
def tDrop (te : TE) : TS := fun D σ H => te σ H fun _ H1 => D.nx σ H1
theorem ps_expr (he : PE X e te) (hs : swapsWith e none pos.line X.env = pure false := by rfl) : PS X (.Expr e pos) (tDrop te) := by
  intro pins s σ H D I h
  exact wpAny_Expr_any (thn (he pins s σ H _ I h) fun v s1 ⟨x, H1, I1, r1, q1⟩ => ⟨σ, H1, I1, q1⟩) I.quiet hs
def tRet (te : TE) : TS := fun D σ H => te σ H D.rt
theorem ps_ret (he : PE X e te) : PS X (.Return (some e) pos) (tRet te) := by
  intro pins s σ H D I h
  exact wpAny_Return_some (thn (he pins s σ H _ I h) fun v s1 ⟨x, H1, I1, r1, q1⟩ => ⟨x, σ, H1, I1, r1, q1⟩)
def tIfS (c : TT) (t u : TS) : TS := fun D σ H => c σ H fun b H1 => if b = true then t D σ H1 else u D σ H1
theorem ps_if {c : Expr} {a b : List Stmt} {tc : TT} (hc : PT X c tc) (ha : PSs X a t) (hb : PSs X b u) : PS X (.If c a b pos) (tIfS tc t u) := by
  intro pins s σ H D I h
  refine wpAny_If (thn (hc pins s σ H _ I h) fun d s1 ⟨H1, I1, q1⟩ => ?_)
  cases d with
  | true => exact ha pins s1 σ H1 D I1 q1
  | false => exact hb pins s1 σ H1 D I1 q1
end
abbrev TG := V -> St -> Hp -> (St -> Hp -> Prop) -> Prop
def PG (X : Cx) (target : Expr) (t : TG) : Prop :=
  ∀ (pins : List (Addr × Obj)) (s : Shared) (σ : St) (H : Hp) (v : V) (u : Value) (Q : St -> Hp -> Prop), Inv X pins σ H s -> RelV v u -> t v σ H Q ->
    wpAny (model X.prog X.w) X.A (assign target X.env u) (fun _ s' => ∃ σ' H', Inv X pins σ' H' s' /\ Q σ' H') X.xe s
abbrev TSet := V -> V -> V -> Hp -> (Hp -> Prop) -> Prop
def PSet (X : Cx) (t : TSet) : Prop :=
  ∀ (pins : List (Addr × Obj)) (s : Shared) (σ : St) (H : Hp) (o i v : V) (ov iv u : Value) (Q : Hp -> Prop), Inv X pins σ H s -> RelV o ov -> RelV i iv -> RelV v u -> t o i v H Q ->
    wpAny (model X.prog X.w) X.A (setItem ov iv u) (fun _ s' => ∃ H', Inv X pins σ H' s' /\ Q H') X.xe s
abbrev TIp := V -> V -> Hp -> VK -> Prop
def PIp (X : Cx) (op : Operator) (t : TIp) : Prop :=
  ∀ (pins : List (Addr × Obj)) (s : Shared) (σ : St) (H : Hp) (x y : V) (v u : Value) (Q : VK), Inv X pins σ H s -> RelV x v -> RelV y u -> t x y H Q ->
    wpAny (model X.prog X.w) X.A (inplaceOp op v u) (EP X pins σ Q) X.xe s
section
variable {X : Cx} {pos : Pos}
def gName (i : Nat) : TG := fun v σ H Q => Q (σ.set i (some v)) H
theorem pg_name {i : Nat} {x : Str} (hN : X.N.Nodup) (hi : X.N[i]? = some x) (hx : Loc X.env.scope x) (hf : X.fn x = true \/ X.env.scope.names.lookup x = some .local := by first | exact .inl rfl | exact .inr rfl | assumption) : PG X (.Name x pos) (gName i) := by
  intro pins s σ H v u Q I r h
  exact wpAny_assign_Name (store_ok I hN hi hx r (fun s' I' => ⟨_, H, I', h⟩) hf)
def gSub (to ti : TE) (t : TSet) : TG := fun v σ H Q => to σ H fun o H1 => ti σ H1 fun i H2 => t o i v H2 fun H3 => Q σ H3
theorem pg_sub {o i : Expr} {to ti : TE} {t : TSet} (ho : PE X o to) (hi : PE X i ti) (hs : PSet X t)
    (ha : ∀ v, assign (.Subscript o i pos) X.env v = (do
      let ov <- holding [v] (eval o X.env)
      let iv <- holding [v, ov] (eval i X.env)
      standAt pos
      holding [v, ov, iv] (setItem ov iv v)
      release [v, ov, iv] []) := by intro _; rfl) : PG X (.Subscript o i pos) (gSub to ti t) := by
  intro pins s σ H v u Q I r h
  rw [ha]
  refine wpAny_bind (wpAny_holding (thn (ho pins s σ H _ I h) fun ov s1 ⟨x, H1, I1, r1, q1⟩ => ?_))
  refine wpAny_bind (wpAny_holding (thn (hi pins s1 σ H1 _ I1 q1) fun iv s2 ⟨y, H2, I2, r2, q2⟩ => ?_))
  refine wpAny_bind (wpAny_standAt (wpAny_bind (wpAny_holding (thn (hs pins s2 σ H2 x y v ov iv u _ I2 r1 r2 r q2) fun _ s3 ⟨H3, I3, q3⟩ => ?_))))
  exact wpAny_release ⟨σ, H3, I3, q3⟩
def tAsg (te : TE) (g : TG) : TS := fun D σ H => te σ H fun x H1 => g x σ H1 D.nx
theorem ps_asg {tg e : Expr} {te : TE} {g : TG} (he : PE X e te) (hg : PG X tg g) (hs : swapsWithSole [tg] e pos.line X.env = pure false := by rfl) (hw : swappedStores [tg] e X.env = pure none := by rfl)
    (h1 : (assignEach [tg] X.env).map (·.2) = [assign tg X.env] := by rfl) : PS X (.Assign [tg] e pos) (tAsg te g) := by
  intro pins s σ H D I h
  refine wpAny_Assign_stores (thn (he pins s σ H _ I h) fun v s1 ⟨x, H1, I1, r1, q1⟩ => ?_) hs hw
  rw [h1]
  exact thn (hg pins s1 σ H1 x v _ I1 r1 q1) fun _ s2 q => q
theorem ps_set {i : Nat} {x : Str} {e : Expr} {te : TE} {pos' : Pos} (hN : X.N.Nodup) (hi : X.N[i]? = some x) (hx : Loc X.env.scope x) (he : PE X e te) (hs : swapsWith e (some (.Name x pos')) pos.line X.env = pure false := by rfl) (hf : X.fn x = true \/ X.env.scope.names.lookup x = some .local := by first | exact .inl rfl | exact .inr rfl | assumption) :
    PS X (.Assign [.Name x pos'] e pos) (tAsg te (gName i)) := by
  intro pins s σ H D I h
  refine wpAny_Assign_Name (thn (he pins s σ H _ I h) fun v s1 ⟨y, H1, I1, r1, q1⟩ => ?_) hs
  exact store_ok I1 hN hi hx r1 (fun s2 I2 => ⟨_, H1, I2, q1⟩) hf
def tAug (i : Nat) (te : TE) (ti : TIp) : TS := fun D σ H => ∃ x, σ[i]? = some (some x) /\ te σ H fun y H1 => ti x y H1 fun z H2 => D.nx (σ.set i (some z)) H2
theorem ps_aug {i : Nat} {x : Str} {e : Expr} {te : TE} {op : Operator} {ti : TIp} {pos' : Pos} (hN : X.N.Nodup) (hi : X.N[i]? = some x) (hx : Loc X.env.scope x) (he : PE X e te) (ho : PIp X op ti) (hf : X.fn x = true \/ X.env.scope.names.lookup x = some .local := by first | exact .inl rfl | exact .inr rfl | assumption) :
    PS X (.AugAssign (.Name x pos') op e pos) (tAug i te ti) := by
  intro pins s σ H D I h
  obtain ⟨v, e1, h⟩ := h
  obtain ⟨m, hn, hl⟩ := I.loc
  have vis : Vis X.env.scope x := by rcases hx with k | k; exact .inl k; exact .inr (.inl k)
  obtain ⟨u, r, l⟩ := hl i x v hi e1 vis
  refine wpAny_AugAssign_Name ?_
  have go : wpAny (model X.prog X.w) X.A (eval e X.env) (fun w s₂ => wpAny (model X.prog X.w) X.A (inplaceOp op u w) (fun r s₃ => wpAny (model X.prog X.w) X.A (storeName X.env x r) (fun _ => SP X pins D .next) X.xe s₃) X.xe s₂) X.xe s := by
    refine thn (he pins s σ H _ I h) fun w s1 ⟨y, H1, I1, r1, q1⟩ => ?_
    refine thn (ho pins s1 σ H1 v y u w _ I1 r r1 q1) fun z s2 ⟨zv, H2, I2, r2, q2⟩ => ?_
    exact store_ok I2 hN hi hx r2 (fun s3 I3 => ⟨_, H2, I3, q2⟩) hf
  rcases l with ⟨hk, hm⟩ | ⟨hk, c, hc, hcell⟩
  . exact wpAny_loadName_local I.ok.kind hk hn hm go
  . rcases hk with hk | hk
    . exact wpAny_loadName_cell I.ok.kind hk hc hcell go
    . rcases hx with k | k
      . have : X.env.scope.names.lookup x = some .free := hk
        rw [k] at this; cases this
      . have : X.env.scope.names.lookup x = some .free := hk
        rw [k] at this; cases this
def tAugS (to ti te : TE) (tget : V -> V -> Hp -> VK -> Prop) (tip : TIp) (tset : TSet) : TS := fun D σ H => to σ H fun o H1 => ti σ H1 fun i H2 => tget o i H2 fun x H3 => te σ H3 fun y H4 => tip x y H4 fun z H5 => tset o i z H5 fun H6 => D.nx σ H6
def PGet (X : Cx) (t : V -> V -> Hp -> VK -> Prop) : Prop :=
  ∀ (pins : List (Addr × Obj)) (s : Shared) (σ : St) (H : Hp) (o i : V) (ov iv : Value) (Q : VK), Inv X pins σ H s -> RelV o ov -> RelV i iv -> t o i H Q ->
    wpAny (model X.prog X.w) X.A (getItem ov iv) (EP X pins σ Q) X.xe s
theorem ps_augS {o i e : Expr} {to ti te : TE} {tget : V -> V -> Hp -> VK -> Prop} {tip : TIp} {tset : TSet} {op : Operator} {tpos : Pos} (ho : PE X o to) (hi : PE X i ti) (hg : PGet X tget) (he : PE X e te) (hp : PIp X op tip) (hs : PSet X tset)
    (ha : ∀ ov iv new, augStore i ov iv new = (do holding [new, ov, iv] (setItem ov iv new); release [new, ov, iv] []; pure .next) := by intros; rfl) : PS X (.AugAssign (.Subscript o i tpos) op e pos) (tAugS to ti te tget tip tset) := by
  intro pins s σ H D I h
  refine wpAny_AugAssign_SubscriptAny (thn (ho pins s σ H _ I h) fun ov s1 ⟨x1, H1, I1, r1, q1⟩ => ?_) ha
  refine thn (hi pins s1 σ H1 _ I1 q1) fun iv s2 ⟨x2, H2, I2, r2, q2⟩ => ?_
  refine thn (hg pins s2 σ H2 x1 x2 ov iv _ I2 r1 r2 q2) fun old s3 ⟨x3, H3, I3, r3, q3⟩ => ?_
  refine thn (he pins s3 σ H3 _ I3 q3) fun v s4 ⟨x4, H4, I4, r4, q4⟩ => ?_
  refine thn (hp pins s4 σ H4 x3 x4 old v _ I4 r3 r4 q4) fun new s5 ⟨x5, H5, I5, r5, q5⟩ => ?_
  exact thn (hs pins s5 σ H5 x1 x2 x5 ov iv new _ I5 r1 r2 r5 q5) fun _ s6 ⟨H6, I6, q6⟩ => ⟨σ, H6, I6, q6⟩
def ipI (f : Int -> Int -> Int) : TIp := fun x y H Q => ∃ i j, x = .int i /\ y = .int j /\ Q (.int (f i j)) H
theorem ip_add : PIp X .Add (ipI fun i j => i + j) := by
  intro pins s σ H x y v u Q I r1 r2 h
  obtain ⟨i, j, e1, e2, q⟩ := h
  subst e1; subst e2
  obtain ⟨t, rfl⟩ := r1
  obtain ⟨t', rfl⟩ := r2
  exact iadd_int ⟨.int _, H, I.tok _, ⟨_, rfl⟩, q⟩
theorem ip_sub : PIp X .Sub (ipI fun i j => i - j) := by
  intro pins s σ H x y v u Q I r1 r2 h
  obtain ⟨i, j, e1, e2, q⟩ := h
  subst e1; subst e2
  obtain ⟨t, rfl⟩ := r1
  obtain ⟨t', rfl⟩ := r2
  exact isub_int ⟨.int _, H, I.tok _, ⟨_, rfl⟩, q⟩
end
section
variable {X : Cx} {pos : Pos}
def tWhile (c : TT) (tb : TS) : TS := fun D σ H => ∃ W : Nat -> St -> Hp -> Prop, (∃ m, W m σ H) /\ ∀ m σ H, W m σ H ->
  c σ H fun b H1 => if b = true then ∃ N : St -> Hp -> Prop, (∀ σ' H', N σ' H' -> ∃ m', m' < m /\ W m' σ' H') /\ tb { D with nx := N, ct := N, bk := D.nx } σ H1 else D.nx σ H1
theorem ps_while {c : Expr} {body : List Stmt} {tc : TT} {tb : TS} (hp : PassesOwn (model X.prog X.w) X.A X.env X.xe) (hc : PT X c tc) (hb : PSs X body tb) : PS X (.While c body [] pos) (tWhile tc tb) := by
  intro pins s σ H D I h
  obtain ⟨W, ⟨m0, w0⟩, turn⟩ := h
  refine wpAny_While (codeAny_whileLoop (fun n s' => ∃ σ' H', Inv X pins σ' H' s' /\ W n σ' H') ?_ m0 ⟨σ, H, I, w0⟩)
  rintro n s1 ⟨σ1, H1, I1, w1⟩
  refine wpAny_passesOwn hp (thn (hc pins s1 σ1 H1 _ I1 (turn n σ1 H1 w1)) fun b s2 ⟨H2, I2, q2⟩ => ?_)
  cases b with
  | true =>
    obtain ⟨N, hN, q2⟩ := q2
    rw [if_pos rfl]
    refine wpAny_passesOwn hp (thn (hb pins s2 σ1 H2 _ I2 q2) fun f s3 q3 => ?_)
    cases f with
    | next =>
      obtain ⟨σ3, H3, I3, n3⟩ := q3
      obtain ⟨m', hm, w3⟩ := hN σ3 H3 n3
      exact ⟨m', hm, σ3, H3, I3, w3⟩
    | cont =>
      obtain ⟨σ3, H3, I3, n3⟩ := q3
      obtain ⟨m', hm, w3⟩ := hN σ3 H3 n3
      exact ⟨m', hm, σ3, H3, I3, w3⟩
    | brk => exact q3
    | ret v => exact q3
  | false =>
    rw [if_neg Bool.false_ne_true]
    exact wpAny_execs_nil ⟨σ1, H2, I2, q2⟩
end
structure It where
  go : Nat -> Hp -> Prop
  yld : Nat -> Hp -> V -> Hp -> Prop
  stop : Nat -> Hp -> Prop
def FpOk (X : Cx) (pins : List (Addr × Obj)) (H : Hp) (b : Addr) : Prop :=
  H b = none /\ b ≠ X.env.locals /\ b ∉ X.fs /\ (b ∈ X.ex \/ X.s_0.heap.objs.size <= b) /\ (∀ x c, X.env.cells.lookup x = some c -> c ≠ b) /\ ∀ p ∈ X.pn ++ pins, p.1 ≠ b
theorem Inv.fpOk {X : Cx} {pins : List (Addr × Obj)} {σ : St} {H H' : Hp} {s : Shared} {b : Addr} (I : Inv X pins σ H s) (hb : s.heap.objs.size <= b) (hn : H' b = none) : FpOk X pins H' b := by
  refine ⟨hn, Nat.ne_of_gt (Nat.lt_of_lt_of_le I.lt hb), I.nofs hb, .inr (Nat.le_trans I.sz hb), fun x c e z => ?_, fun p hp z => ?_⟩
  . obtain ⟨v, q⟩ := I.cell x c e
    exact absurd (Nat.lt_of_lt_of_le q.lt (by rw [z]; exact hb)) (Nat.lt_irrefl _)
  . exact absurd (Nat.lt_of_lt_of_le (Heap.lt_size (I.pin p hp).1) (by rw [z]; exact hb)) (Nat.lt_irrefl _)
structure Turn (P : Program) (w : World) (K : PySem.W.Frag) (tg : Expr) (J : It) (fp : List Addr) (it : Addr) (tn : Nat -> Heap -> Prop) : Prop where
  mem : it ∈ fp
  obj : ∀ i h, tn i h -> ∀ b ∈ fp, ∃ o, h.get? b = some o /\ ∀ v, o.data ≠ .cell v
  keep : ∀ i h h', tn i h -> (∀ b ∈ fp, ∀ o, h.get? b = some o -> h'.get? b = some o) -> tn i h'
  item : ∀ (X : Cx), X.prog = P -> X.w = w -> X.K = K -> X.calm = true -> ∀ (i : Nat) (pins : List (Addr × Obj)) (s : Shared) (σ : St) (H : Hp) (E : Value -> Shared -> Prop), Inv X pins σ H s -> (∀ b ∈ fp, FpOk X pins H b) -> tn i s.heap -> J.go i H ->
    wpAny (model P w) X.A (pyNext (.ref it)) (fun r s1 => ∃ u, r = some u /\
      wpAny (model P w) X.A (letOwnedTupleGo tg (.ref it) u) (fun _ s2 => ∃ x H', Inv X pins σ H' s2 /\ RelV x u /\ J.yld i H x H' /\ tn (i + 1) s2.heap /\ ∀ b ∈ fp, H' b = none) E s1) E s
  done : ∀ (X : Cx), X.prog = P -> X.w = w -> X.K = K -> X.calm = true -> ∀ (i : Nat) (pins : List (Addr × Obj)) (s : Shared) (σ : St) (H : Hp) (E : Value -> Shared -> Prop), Inv X pins σ H s -> (∀ b ∈ fp, FpOk X pins H b) -> tn i s.heap -> J.stop i H ->
    wpAny (model P w) X.A (pyNext (.ref it)) (fun r s1 => r = none /\ Inv X pins σ H s1) E s
  self : ∀ (A : Around) (i : Nat) (s : Shared) (Q : Value -> Shared -> Prop) (E : Value -> Shared -> Prop), tn i s.heap -> Q (.ref it) s -> wpAny (model P w) A (pyIter (.ref it)) Q E s
abbrev TI := St -> Hp -> (It -> Hp -> Prop) -> Prop
def PIE (X : Cx) (pins : List (Addr × Obj)) (σ : St) (tg : Expr) (R : It -> Hp -> Prop) (itv : Value) (s2 : Shared) : Prop :=
  ∃ (it : Addr) (fp : List Addr) (tn : Nat -> Heap -> Prop) (J : It) (H' : Hp), itv = .ref it /\ Inv X pins σ H' s2 /\ Turn X.prog X.w X.K tg J fp it tn /\ tn 0 s2.heap /\ (∀ b ∈ fp, FpOk X pins H' b) /\ R J H'
def PI (X : Cx) (tg iter : Expr) (wi : TI) : Prop :=
  ∀ (pins : List (Addr × Obj)) (s : Shared) (σ : St) (H : Hp) (R : It -> Hp -> Prop), Inv X pins σ H s -> wi σ H R ->
    wpAny (model X.prog X.w) X.A (eval iter X.env) (fun v s1 => wpAny (model X.prog X.w) X.A (pyIter v) (PIE X pins σ tg R) X.xe s1) X.xe s
theorem go_of {M : Model} {A : Around} {E : Value -> Shared -> Prop} {s : Shared} {tg : Expr} {it : Addr} {u : Value} {o : Obj} {n : String} {vs : Array Value} {Q : Unit -> Shared -> Prop} (ho : s.heap.get? it = some o) (hc : o.cls = .type n) (hd : o.data = .fields vs)
    (hn : ["enumerate", "zip", "dict_itemiterator", "dict_reverseitemiterator", "odict_iterator", "itertools.zip_longest", "itertools.pairwise"].contains n = false) (hQ : Q () s) : wpAny M A (letOwnedTupleGo tg (.ref it) u) Q E s := by
  unfold letOwnedTupleGo
  cases tg <;> first
    | exact wpAny_pure hQ
    | (cases u <;> first
        | exact wpAny_pure hQ
        | (refine wpAny_bind (wpAny_load ho ?_)
           rw [hc, hd]
           show wpAny M A (if (["enumerate", "zip", "dict_itemiterator", "dict_reverseitemiterator", "odict_iterator", "itertools.zip_longest", "itertools.pairwise"].contains n && vs[0]? == some (rawInt _)) = true then _ else _) Q E s
           rw [if_neg (by intro h; rw [hn, Bool.false_and] at h; cases h)]
           exact wpAny_pure hQ))
def Itl (K : PySem.W.Frag) (a : Addr) : It :=
  ⟨fun i H => ∃ xs x, SqL K H a xs /\ xs[i]? = some x, fun i H x H' => H' = H /\ ∀ xs, SqL K H a xs -> xs[i]? = some x, fun i H => ∃ xs, SqL K H a xs /\ xs.length <= i⟩
def Itr (lo : Int) (n : Nat) : It := ⟨fun i _ => i < n, fun i H x H' => H' = H /\ x = .int (lo + i), fun i _ => n <= i⟩
theorem turn_list {P : Program} {w : World} {K : PySem.W.Frag} {tg : Expr} (a it : Addr) : Turn P w K tg (Itl K a) [it] it (fun i h => h.IsListIter it a i) where
  mem := by simp
  obj := fun i h st b hb => by
    have e : b = it := by simpa using hb
    subst e
    obtain ⟨o, e, c, d⟩ := st
    exact ⟨o, e, fun v z => by rw [d] at z; cases z⟩
  keep := fun i h h' st k => st.at fun o e => k it (by simp) o e
  item := by
    intro X hP hw hK hc i pins s σ H E I hf st hg
    subst hP hw hK
    obtain ⟨xs, x, hq, hx⟩ := hg
    obtain ⟨its, rv, p, hz⟩ := I.list hq
    obtain ⟨u, hu, ru⟩ := rv.get hx
    obtain ⟨f0, f1, f2, f3, f4, f5⟩ := hf it (by simp)
    refine wpAny_pyNext_list_item st p.isList (x := u) (by simpa using hu) fun h' st' sb => ?_
    have I1 : Inv X pins σ H { s with heap := h' } := I.turned (t' := s.toks) (fun b o hb e => (sb.2 b hb).trans e) f0 f1 f3 f4 f5
    obtain ⟨o, e, c, d⟩ := id st'
    exact ⟨u, rfl, go_of (s := { s with heap := h' }) e c d (by decide) ⟨x, H, I1, ru, ⟨rfl, fun ys hy => by rw [I.list_inj hy hq]; exact hx⟩, st', fun b hb => (hf b hb).1⟩⟩
  done := by
    intro X hP hw hK hc i pins s σ H E I hf st hg
    subst hP hw hK
    obtain ⟨xs, hq, hx⟩ := hg
    obtain ⟨its, rv, p, hz⟩ := I.list hq
    obtain ⟨f0, f1, f2, f3, f4, f5⟩ := hf it (by simp)
    have hl := rv.length
    exact wpAny_pyNext_list_end (I.ok.hd hc) st p.isList (by simp; omega) fun h' eb => ⟨rfl, I.turned (t' := s.toks) (fun b o hb e => eb b o hb e) f0 f1 f3 f4 f5⟩
  self := fun _ _ _ _ _ st h => wpAny_pyIter_listiter st h
theorem turn_range {P : Program} {w : World} {K : PySem.W.Frag} {tg : Expr} (it : Addr) (lo : Int) (n : Nat) : Turn P w K tg (Itr lo n) [it] it (fun i h => IsRangeIter h it (lo + (i : Nat) * 1) ((n : Int) - (i : Nat)) 1) where
  mem := by simp
  obj := fun i h st b hb => by
    have e : b = it := by simpa using hb
    subst e
    exact ⟨_, st, fun v z => by
      have z' : Data.fields _ = Data.cell v := z
      cases z'⟩
  keep := fun i h h' st k => k it (by simp) _ st
  item := by
    intro X hP hw hK hc i pins s σ H E I hf st hg
    subst hP hw hK
    obtain ⟨f0, f1, f2, f3, f4, f5⟩ := hf it (by simp)
    have W := Walks.range (prog := X.prog) (w := X.w) (I.ok.hd hc) it lo 1 n
    refine W.item i s _ _ hg st fun v h' tk hv st' kk => ?_
    obtain ⟨t, rfl⟩ := hv
    have I1 : Inv X pins σ H { s with heap := h', toks := tk } := I.turned (fun b o hb e => kk b o (by simpa using hb) e) f0 f1 f3 f4 f5
    refine ⟨_, rfl, go_of (s := { s with heap := h', toks := tk }) (n := "range_iterator") st' rfl rfl (by decide) ⟨.int (lo + i), H, I1, ⟨t, ?_⟩, ⟨rfl, rfl⟩, st', fun b hb => (hf b hb).1⟩⟩
    rw [Int.mul_one]
  done := by
    intro X hP hw hK hc i pins s σ H E I hf st hg
    subst hP hw hK
    obtain ⟨f0, f1, f2, f3, f4, f5⟩ := hf it (by simp)
    exact wpAny_pyNext_range_end (I.ok.hd hc) st (by have : n <= i := hg; omega) fun h' eb => ⟨rfl, I.turned (t' := s.toks) (fun b o hb e => eb b o hb e) f0 f1 f3 f4 f5⟩
  self := fun _ _ _ _ _ st h => wpAny_pyIter_rangeiter st h
section
variable {X : Cx} {tg : Expr}
def iList (K : PySem.W.Frag) (tl : TE) : TI := fun σ H R => tl σ H fun x H1 => ∃ a, x = .ref a /\ (∃ xs, SqL K H1 a xs) /\ R (Itl K a) H1
theorem pi_list {l : Expr} {tl : TE} (hl : PE X l tl) : PI X tg l (iList X.K tl) := by
  intro pins s σ H R I h
  refine thn (hl pins s σ H _ I h) fun v s1 ⟨x, H1, I1, r1, q1⟩ => ?_
  obtain ⟨a, e, ⟨xs, hq⟩, q⟩ := q1
  subst e
  cases r1
  obtain ⟨its, rv, p, hz⟩ := I1.list hq
  refine wpAny_pyIter_list p.isList ?_
  refine ⟨s1.heap.objs.size, [s1.heap.objs.size], _, _, H1, rfl, I1.kept (t' := s1.toks) fun b o e => Heap.get?_push_of_some _ e, turn_list a _, ⟨_, Heap.get?_push_size _ rfl, rfl, rfl⟩, fun b hb => ?_, q⟩
  have e : b = s1.heap.objs.size := by simpa using hb
  subst e
  exact I1.fpOk (Nat.le_refl _) (I1.hok.fresh (Nat.le_refl _))
theorem range_it {pins : List (Addr × Obj)} {σ : St} {H : Hp} {s : Shared} {R : It -> Hp -> Prop} {E : Value -> Shared -> Prop} {lo hi : Int} {t u v : Tok} {tk : Nat} (I : Inv X pins σ H s) (h1 : -(2 ^ 62) <= lo) (h2 : lo < 2 ^ 62) (h3 : -(2 ^ 62) <= hi) (h4 : hi < 2 ^ 62)
    (q : R (Itr lo (hi - lo).toNat) H) : wpAny (model X.prog X.w) X.A (pyIter (.ref s.heap.objs.size)) (PIE X pins σ tg R) E { s with heap := s.heap.push { cls := .type "range", data := .fields #[.int lo t, .int hi u, .int 1 v] }, toks := tk } := by
  refine wpAny_pyIter_range (IsRange.new ..) (small_one h1 h2 h3 h4) ?_
  have I1 : Inv X pins σ H { s with heap := s.heap.push { cls := .type "range", data := .fields #[.int lo t, .int hi u, .int 1 v] }, toks := tk } := I.kept fun b o e => Heap.get?_push_of_some _ e
  refine ⟨(s.heap.push { cls := .type "range", data := .fields #[.int lo t, .int hi u, .int 1 v] }).objs.size, [(s.heap.push { cls := .type "range", data := .fields #[.int lo t, .int hi u, .int 1 v] }).objs.size], _, _, H, rfl,
    I1.kept (t' := tk) fun b o e => Heap.get?_push_of_some _ e, turn_range _ lo (hi - lo).toNat, ?_, fun b hb => ?_, q⟩
  . have e1 : lo + ((0 : Nat) : Int) * 1 = lo := by simp
    have e2 : (((hi - lo).toNat : Nat) : Int) - ((0 : Nat) : Int) = Builtin.Range.rangeSize lo hi 1 := by rw [rangeSize_one]; split <;> omega
    show IsRangeIter _ _ (lo + ((0 : Nat) : Int) * 1) ((((hi - lo).toNat : Nat) : Int) - ((0 : Nat) : Int)) 1
    rw [e1, e2]
    exact Heap.get?_push_size _ rfl
  . have e : b = (s.heap.push { cls := .type "range", data := .fields #[.int lo t, .int hi u, .int 1 v] }).objs.size := by simpa using hb
    subst e
    exact I1.fpOk (Nat.le_refl _) (I1.hok.fresh (Nat.le_refl _))
def iRng1 (ta : TA) : TI := fun σ H R => ta σ H fun vs H1 => ∃ j : Int, vs = [.int j] /\ -(2 ^ 62) <= j /\ j < 2 ^ 62 /\ R (Itr 0 j.toNat) H1
def iRng2 (ta : TA) : TI := fun σ H R => ta σ H fun vs H1 => ∃ i j : Int, vs = [.int i, .int j] /\ (-(2 ^ 62) <= i /\ i < 2 ^ 62 /\ -(2 ^ 62) <= j /\ j < 2 ^ 62) /\ R (Itr i (j - i).toNat) H1
theorem pi_range1 {a : Expr} {ta : TA} {p pos : Pos} (hg : Gl X "range") (hm : X.mg "range" = none) (ha : PA X [a] ta) (hs : starEach [a] X.env = [(false, eval a X.env)] := by rfl) : PI X tg (.Call (.Name "range" p) [a] [] pos) (iRng1 ta) := by
  intro pins s σ H R I h
  refine Call_ (ld_blt I hg hm boot_range (PyProof.Rows.callWith_type1 (thn (ha pos pins s σ H _ I h) fun us s1 ⟨vs, H1, I1, r1, q1⟩ => ?_) hs rfl))
  obtain ⟨j, e, q1, q2, q⟩ := q1
  subst e
  cases r1 with
  | cons r rr =>
    cases rr
    obtain ⟨t, rfl⟩ := r
    exact call_range_1 (range_it I1 (by omega) (by omega) q1 q2 (by simpa using q))
theorem pi_range2 {a b : Expr} {ta : TA} {p pos : Pos} (hg : Gl X "range") (hm : X.mg "range" = none) (ha : PA X [a, b] ta) (hs : starEach [a, b] X.env = [(false, eval a X.env), (false, eval b X.env)] := by rfl) (hs2 : starEach [b] X.env = [(false, eval b X.env)] := by rfl) :
    PI X tg (.Call (.Name "range" p) [a, b] [] pos) (iRng2 ta) := by
  intro pins s σ H R I h
  refine Call_ (ld_blt I hg hm boot_range (PyProof.Rows.callWith_type1 (thn (ha pos pins s σ H _ I h) fun us s1 ⟨vs, H1, I1, r1, q1⟩ => ?_) (by rw [hs, hs2]) (by rw [hs2]; rfl)))
  obtain ⟨i, j, e, ⟨q1, q2, q3, q4⟩, q⟩ := q1
  subst e
  cases r1 with
  | cons r rr =>
    cases rr with
    | cons r' rr =>
      cases rr
      obtain ⟨t, rfl⟩ := r
      obtain ⟨t', rfl⟩ := r'
      exact call_range_2 (range_it I1 q1 q2 q3 q4 q)
def tFor (wi : TI) (g : TG) (tb : TS) : TS := fun D σ H => wi σ H fun J H1 => ∃ W : Nat -> Nat -> St -> Hp -> Prop, (∃ m, W 0 m σ H1) /\ ∀ i m σ H, W i m σ H ->
  (J.stop i H /\ D.nx σ H) \/ (J.go i H /\ ∃ N : St -> Hp -> Prop, (∀ σ' H', N σ' H' -> ∃ m', m' < m /\ W (i + 1) m' σ' H') /\ ∀ x H', J.yld i H x H' -> g x σ H' fun σ2 H2 => tb { D with nx := N, ct := N, bk := D.nx } σ2 H2)
def pinsAt (fp : List Addr) (h : Heap) : List (Addr × Obj) := fp.filterMap fun b => (h.get? b).map fun o => (b, o)
theorem mem_pinsAt {fp : List Addr} {h : Heap} {b : Addr} {o : Obj} (hb : b ∈ fp) (e : h.get? b = some o) : (b, o) ∈ pinsAt fp h := List.mem_filterMap.mpr ⟨b, hb, by rw [e]; rfl⟩
theorem of_pinsAt {fp : List Addr} {h : Heap} {p : Addr × Obj} (hp : p ∈ pinsAt fp h) : p.1 ∈ fp /\ h.get? p.1 = some p.2 := by
  obtain ⟨b, hb, e⟩ := List.mem_filterMap.mp hp
  cases q : h.get? b with
  | none => rw [q] at e; cases e
  | some o =>
    rw [q] at e
    have e' : (b, o) = p := Option.some.inj e
    subst e'
    exact ⟨hb, q⟩
theorem Inv.pinned {pins : List (Addr × Obj)} {σ : St} {H : Hp} {s : Shared} {fp : List Addr} (I : Inv X pins σ H s) (hf : ∀ b ∈ fp, FpOk X pins H b) (ho : ∀ b ∈ fp, ∃ o, s.heap.get? b = some o /\ ∀ v, o.data ≠ .cell v) : Inv X (pins ++ pinsAt fp s.heap) σ H s :=
  I.pins_of fun p hp => (List.mem_append.mp hp).elim (fun z => I.pin p (List.mem_append_right _ z)) fun z => by
    obtain ⟨hb, e⟩ := of_pinsAt z
    obtain ⟨f0, f1, f2, _⟩ := hf p.1 hb
    obtain ⟨o, e', d⟩ := ho p.1 hb
    rw [e] at e'; cases e'
    exact ⟨e, f0, f1, f2, d⟩
theorem Inv.unpinned {pins pl : List (Addr × Obj)} {σ : St} {H : Hp} {s : Shared} (I : Inv X (pins ++ pl) σ H s) : Inv X pins σ H s := I.pins_of fun p hp => I.pin p (List.mem_append_right _ (List.mem_append_left _ hp))
theorem ps_for {iter : Expr} {body : List Stmt} {wi : TI} {g : TG} {tb : TS} {pos : Pos} (hp : PassesOwn (model X.prog X.w) X.A X.env X.xe) (hc : X.calm = true) (hi : PI X tg iter wi) (hg : PG X tg g) (hb : PSs X body tb)
    (hs : ∀ x, foldedSetIterable iter X.env x = pure x := by intro _; rfl) : PS X (.For tg iter body [] pos) (tFor wi g tb) := by
  intro pins s σ H D I h
  refine wpAny_For (thn (hi pins s σ H _ I h) fun v s1 h1 => thn h1 fun itv s2 h2 => ?_) hs
  obtain ⟨it, fp, tn, J, H2, e, I2, T, st2, f2, W, ⟨m0, w0⟩, turn⟩ := h2
  subst e
  have stat : ∀ {H' : Hp}, (∀ b ∈ fp, H' b = none) -> ∀ b ∈ fp, FpOk X pins H' b := fun hn b hb => ⟨hn b hb, (f2 b hb).2⟩
  refine codeAny_forLoop_any (fun n s' => ∃ i σ' H', Inv X pins σ' H' s' /\ tn i s'.heap /\ (∀ b ∈ fp, H' b = none) /\ W i n σ' H') ?_ m0 ⟨0, σ, H2, I2, st2, fun b hb => (f2 b hb).1, w0⟩
  rintro n s3 ⟨i, σ3, H3, I3, st3, fr3, w3⟩
  rcases turn i n σ3 H3 w3 with ⟨stop, qn⟩ | ⟨go, N, hN, step⟩
  . refine wpAny_passesOwn hp (thn (T.done X rfl rfl rfl hc i pins s3 σ3 H3 X.xe I3 (stat fr3) st3 stop) fun r s4 ⟨hr, I4⟩ => ?_)
    subst hr
    exact wpAny_execs_nil ⟨σ3, H3, I4, qn⟩
  . refine wpAny_passesOwn hp (thn (T.item X rfl rfl rfl hc i pins s3 σ3 H3 X.xe I3 (stat fr3) st3 go) fun r s4 ⟨u, hr, h4⟩ => ?_)
    subst hr
    refine wpAny_passesOwn hp (thn h4 fun _ s5 ⟨x, H5, I5, r5, y5, st5, fr5⟩ => ?_)
    have I5' := I5.pinned (stat fr5) (T.obj _ _ st5)
    refine wpAny_passesOwn hp (thn (hg _ s5 σ3 H5 x u _ I5' r5 (step x H5 y5)) fun _ s6 ⟨σ6, H6, I6, q6⟩ => ?_)
    refine wpAny_passesOwn hp (thn (hb _ s6 σ6 H6 _ I6 q6) fun f s7 q7 => ?_)
    have again : ∀ {σ7 : St} {H7 : Hp}, Inv X (pins ++ pinsAt fp s5.heap) σ7 H7 s7 -> N σ7 H7 -> ∃ m, m < n /\ ∃ i σ' H', Inv X pins σ' H' s7 /\ tn i s7.heap /\ (∀ b ∈ fp, H' b = none) /\ W i m σ' H' := fun {σ7 H7} I7 n7 => by
      obtain ⟨m', hm, w7⟩ := hN σ7 H7 n7
      refine ⟨m', hm, i + 1, σ7, H7, I7.unpinned, T.keep _ _ _ st5 fun b hb o e => (I7.pin (b, o) (List.mem_append_right _ (List.mem_append_right _ (mem_pinsAt hb e)))).1, fun b hb => ?_, w7⟩
      obtain ⟨o, e, d⟩ := T.obj _ _ st5 b hb
      exact (I7.pin (b, o) (List.mem_append_right _ (List.mem_append_right _ (mem_pinsAt hb e)))).2.1
    cases f with
    | next => obtain ⟨σ7, H7, I7, n7⟩ := q7; exact again I7 n7
    | cont => obtain ⟨σ7, H7, I7, n7⟩ := q7; exact again I7 n7
    | brk => obtain ⟨σ7, H7, I7, q7⟩ := q7; exact ⟨σ7, H7, I7.unpinned, q7⟩
    | ret v => obtain ⟨x7, σ7, H7, I7, r7, q7⟩ := q7; exact ⟨x7, σ7, H7, I7.unpinned, r7, q7⟩
end
theorem for_list {K : PySem.W.Frag} {a : Addr} {xs : List V} {g : TG} {tb : TS} {D : Ends} {σ : St} {H : Hp} (Pv : Nat -> St -> Hp -> Prop) (h0 : Pv 0 σ H) (hl : ∀ i σ H, i <= xs.length -> Pv i σ H -> SqL K H a xs)
    (hs : ∀ i x σ H, xs[i]? = some x -> Pv i σ H -> g x σ H fun σ2 H2 => tb { D with nx := Pv (i + 1), ct := Pv (i + 1), bk := D.nx } σ2 H2) (hd : ∀ σ H, Pv xs.length σ H -> D.nx σ H) :
    ∃ W : Nat -> Nat -> St -> Hp -> Prop, (∃ m, W 0 m σ H) /\ ∀ i m σ H, W i m σ H ->
      ((Itl K a).stop i H /\ D.nx σ H) \/ ((Itl K a).go i H /\ ∃ N : St -> Hp -> Prop, (∀ σ' H', N σ' H' -> ∃ m', m' < m /\ W (i + 1) m' σ' H') /\ ∀ x H', (Itl K a).yld i H x H' -> g x σ H' fun σ2 H2 => tb { D with nx := N, ct := N, bk := D.nx } σ2 H2) := by
  refine ⟨fun i m σ H => m = xs.length - i /\ i <= xs.length /\ Pv i σ H, ⟨xs.length, by simp, Nat.zero_le _, h0⟩, ?_⟩
  rintro i m σ H ⟨rfl, hi, p⟩
  have q := hl i σ H hi p
  by_cases hlt : i < xs.length
  . refine .inr ⟨⟨xs, xs[i], q, by simp [hlt]⟩, Pv (i + 1), fun σ' H' p' => ⟨xs.length - (i + 1), by omega, rfl, hlt, p'⟩, fun x H' y => ?_⟩
    obtain ⟨e, y⟩ := y
    subst e
    exact hs i x σ _ (y xs q) p
  . have e : i = xs.length := by omega
    subst e
    exact .inl ⟨⟨xs, q, Nat.le_refl _⟩, hd σ H p⟩
theorem for_range {lo : Int} {n : Nat} {g : TG} {tb : TS} {D : Ends} {σ : St} {H : Hp} (Pv : Nat -> St -> Hp -> Prop) (h0 : Pv 0 σ H)
    (hs : ∀ i σ H, i < n -> Pv i σ H -> g (.int (lo + i)) σ H fun σ2 H2 => tb { D with nx := Pv (i + 1), ct := Pv (i + 1), bk := D.nx } σ2 H2) (hd : ∀ σ H, Pv n σ H -> D.nx σ H) :
    ∃ W : Nat -> Nat -> St -> Hp -> Prop, (∃ m, W 0 m σ H) /\ ∀ i m σ H, W i m σ H ->
      ((Itr lo n).stop i H /\ D.nx σ H) \/ ((Itr lo n).go i H /\ ∃ N : St -> Hp -> Prop, (∀ σ' H', N σ' H' -> ∃ m', m' < m /\ W (i + 1) m' σ' H') /\ ∀ x H', (Itr lo n).yld i H x H' -> g x σ H' fun σ2 H2 => tb { D with nx := N, ct := N, bk := D.nx } σ2 H2) := by
  refine ⟨fun i m σ H => m = n - i /\ i <= n /\ Pv i σ H, ⟨n, by simp, Nat.zero_le _, h0⟩, ?_⟩
  rintro i m σ H ⟨rfl, hi, p⟩
  by_cases hlt : i < n
  . refine .inr ⟨hlt, Pv (i + 1), fun σ' H' p' => ⟨n - (i + 1), by omega, rfl, hlt, p'⟩, fun x H' y => ?_⟩
    obtain ⟨e, y⟩ := y
    subst e y
    exact hs i σ _ hlt p
  . have e : i = n := by omega
    subst e
    exact .inl ⟨Nat.le_refl _, hd σ H p⟩
theorem while_by {c : TT} {tb : TS} {D : Ends} {σ : St} {H : Hp} (Pv : St -> Hp -> Prop) (μ : St -> Hp -> Nat) (h0 : Pv σ H)
    (hs : ∀ σ H, Pv σ H -> c σ H fun b H1 => if b = true then tb { D with nx := fun σ' H' => Pv σ' H' /\ μ σ' H' < μ σ H, ct := fun σ' H' => Pv σ' H' /\ μ σ' H' < μ σ H, bk := D.nx } σ H1 else D.nx σ H1)
    (mono : ∀ σ H Q Q', (∀ b H1, Q b H1 -> Q' b H1) -> c σ H Q -> c σ H Q') : tWhile c tb D σ H := by
  refine ⟨fun m σ H => m = μ σ H /\ Pv σ H, ⟨_, rfl, h0⟩, ?_⟩
  rintro m σ H ⟨rfl, p⟩
  refine mono σ H _ _ (fun b H1 q => ?_) (hs σ H p)
  cases b with
  | true => exact ⟨_, fun σ' H' ⟨p', l⟩ => ⟨_, l, rfl, p'⟩, q⟩
  | false => exact q
abbrev R2 := V -> V -> Hp -> VK -> Prop
def OpR (X : Cx) (f : Value -> Value -> Sem Value) (r : R2) : Prop :=
  ∀ (pins : List (Addr × Obj)) (s : Shared) (σ : St) (H : Hp) (x y : V) (v u : Value) (Q : VK), Inv X pins σ H s -> RelV x v -> RelV y u -> r x y H Q ->
    wpAny (model X.prog X.w) X.A (f v u) (EP X pins σ Q) X.xe s
def UnR (X : Cx) (f : Value -> Sem Value) (r : V -> Hp -> VK -> Prop) : Prop :=
  ∀ (pins : List (Addr × Obj)) (s : Shared) (σ : St) (H : Hp) (x : V) (v : Value) (Q : VK), Inv X pins σ H s -> RelV x v -> r x H Q ->
    wpAny (model X.prog X.w) X.A (f v) (EP X pins σ Q) X.xe s
def CallR (X : Cx) (f : Value) (r : List V -> Hp -> VK -> Prop) : Prop :=
  ∀ (pins : List (Addr × Obj)) (s : Shared) (σ : St) (H : Hp) (xs : List V) (us : List Value) (Q : VK), Inv X pins σ H s -> Vals xs us -> r xs H Q ->
    wpAny (model X.prog X.w) X.A (call f us) (EP X pins σ Q) X.xe s
def tOp (r : R2) (ta tb : TE) : TE := fun σ H Q => ta σ H fun x H1 => tb σ H1 fun y H2 => r x y H2 Q
def tUn (r : V -> Hp -> VK -> Prop) (ta : TE) : TE := fun σ H Q => ta σ H fun x H1 => r x H1 Q
def rI (C : Int -> Int -> Prop) (g : Int -> Int -> V) : R2 := fun x y H Q => ∃ i j, x = .int i /\ y = .int j /\ C i j /\ Q (g i j) H
def rI0 (g : Int -> Int -> V) : R2 := fun x y H Q => ∃ i j, x = .int i /\ y = .int j /\ Q (g i j) H
def rU (g : Int -> V) : V -> Hp -> VK -> Prop := fun x H Q => ∃ i, x = .int i /\ Q (g i) H
section
variable {X : Cx} {a b c : Expr} {ta tb tc : TE} {pos : Pos}
theorem binT (ha : PE X a ta) (hb : PE X b tb) {pins : List (Addr × Obj)} {s : Shared} {σ : St} {H : Hp} {R : V -> V -> Hp -> Prop} (I : Inv X pins σ H s)
    (h : ta σ H fun x H1 => tb σ H1 fun y H2 => R x y H2) {Q : Value -> Shared -> Prop} {f : Value -> Value -> Sem Value}
    (hf : ∀ v u s2 x y H2, Inv X pins σ H2 s2 -> RelV x v -> RelV y u -> R x y H2 -> wpAny (model X.prog X.w) X.A (f v u) Q X.xe s2) :
    wpAny (model X.prog X.w) X.A (eval a X.env) (fun v s₁ => wpAny (model X.prog X.w) X.A (eval b X.env) (fun u s₂ => wpAny (model X.prog X.w) X.A (f v u) Q X.xe s₂) X.xe s₁) X.xe s := by
  refine thn (ha pins s σ H _ I h) fun v s1 ⟨x, H1, I1, r1, q1⟩ => ?_
  refine thn (hb pins s1 σ H1 _ I1 q1) fun u s2 ⟨y, H2, I2, r2, q2⟩ => ?_
  exact hf v u s2 x y H2 I2 r1 r2 q2
theorem pe_op {op : Operator} {r : R2} (ho : OpR X (binaryOp op) r) (ha : PE X a ta) (hb : PE X b tb) : PE X (.BinOp a op b pos) (tOp r ta tb) := by
  intro pins s σ H Q I h
  exact wpAny_BinOp (binT ha hb I h fun v u s2 x y H2 I2 rx ry q => ho pins s2 σ H2 x y v u Q I2 rx ry q)
theorem pe_un {op : UnaryOp} {r : V -> Hp -> VK -> Prop} (ho : UnR X (unaryOp op) r) (ha : PE X a ta) : PE X (.UnaryOp op a pos) (tUn r ta) := by
  intro pins s σ H Q I h
  exact UnaryOp_ (thn (ha pins s σ H _ I h) fun v s1 ⟨x, H1, I1, r1, q1⟩ => ho pins s1 σ H1 x v Q I1 r1 q1)
theorem opI {f : Value -> Value -> Sem Value} {C : Int -> Int -> Prop} {g : Int -> Int -> Int}
    (rule : ∀ (i j : Int) (t u : Tok) (s : Shared) (Q : Value -> Shared -> Prop) (E : Value -> Shared -> Prop), C i j -> Q (.int (g i j) s.toks) { s with toks := s.toks + 1 } -> wpAny (model X.prog X.w) X.A (f (.int i t) (.int j u)) Q E s) :
    OpR X f (rI C fun i j => .int (g i j)) := by
  intro pins s σ H x y v u Q I rx ry h
  obtain ⟨i, j, rfl, rfl, hc, q⟩ := h
  obtain ⟨t, rfl⟩ := rx
  obtain ⟨t', rfl⟩ := ry
  exact rule i j t t' s _ _ hc ⟨.int (g i j), H, I.tok _, ⟨_, rfl⟩, q⟩
theorem opI0 {f : Value -> Value -> Sem Value} {g : Int -> Int -> Int}
    (rule : ∀ (i j : Int) (t u : Tok) (s : Shared) (Q : Value -> Shared -> Prop) (E : Value -> Shared -> Prop), Q (.int (g i j) s.toks) { s with toks := s.toks + 1 } -> wpAny (model X.prog X.w) X.A (f (.int i t) (.int j u)) Q E s) :
    OpR X f (rI0 fun i j => .int (g i j)) := by
  intro pins s σ H x y v u Q I rx ry h
  obtain ⟨i, j, rfl, rfl, q⟩ := h
  obtain ⟨t, rfl⟩ := rx
  obtain ⟨t', rfl⟩ := ry
  exact rule i j t t' s _ _ ⟨.int (g i j), H, I.tok _, ⟨_, rfl⟩, q⟩
theorem opB0 {f : Value -> Value -> Sem Value} {g : Int -> Int -> Bool}
    (rule : ∀ (i j : Int) (t u : Tok) (s : Shared) (Q : Value -> Shared -> Prop) (E : Value -> Shared -> Prop), Q (.bool (g i j)) s -> wpAny (model X.prog X.w) X.A (f (.int i t) (.int j u)) Q E s) :
    OpR X f (rI0 fun i j => .bl (g i j)) := by
  intro pins s σ H x y v u Q I rx ry h
  obtain ⟨i, j, rfl, rfl, q⟩ := h
  obtain ⟨t, rfl⟩ := rx
  obtain ⟨t', rfl⟩ := ry
  exact rule i j t t' s _ _ ⟨.bl (g i j), H, I, rfl, q⟩
def CDiv (i j : Int) : Prop := 0 < j /\ j < 1073741824
def CPow (i j : Int) : Prop := 0 <= j /\ j <= 1000000 /\ i.natAbs < 2 ^ 64
def CMul (i j : Int) : Prop := (-(2 ^ 64) < i /\ i < 2 ^ 64) \/ (-(2 ^ 64) < j /\ j < 2 ^ 64)
theorem CMul.ok {i j : Int} (h : CMul i j) : IntMulOk i j := by
  rcases h with ⟨h1, h2⟩ | ⟨h1, h2⟩
  . exact .of_left (intBits_le_64 h1 h2)
  . exact .of_right (intBits_le_64 h1 h2)
theorem two_pow_nn (k : Nat) : (0 : Int) <= 2 ^ k := by
  rw [two_pow_cast]
  exact Int.natCast_nonneg _
theorem op_add : OpR X (binaryOp .Add) (rI0 fun i j => .int (i + j)) := opI0 fun _ _ _ _ _ _ _ q => add_int q
theorem op_sub : OpR X (binaryOp .Sub) (rI0 fun i j => .int (i - j)) := opI0 fun _ _ _ _ _ _ _ q => sub_int q
theorem op_mul : OpR X (binaryOp .Mult) (rI CMul fun i j => .int (i * j)) := opI fun _ _ _ _ _ _ _ hc q => mul_int q hc.ok
theorem op_fdiv : OpR X (binaryOp .FloorDiv) (rI CDiv fun i j => .int (i / j)) := opI fun i j _ _ _ _ _ hc q => by
  have h1 : (0 : Int) < j := hc.1
  have h2 : j < 1073741824 := hc.2
  exact floordiv_int (by omega) (by rw [Int.fdiv_eq_ediv_of_nonneg i (by omega)]; exact q) (.inl (PyProof.noPylong_small (by omega)))
theorem op_mod : OpR X (binaryOp .Mod) (rI (fun _ j => 0 < j) fun i j => .int (i % j)) := opI fun i j _ _ _ _ _ hc q => by
  have h1 : (0 : Int) < j := hc
  exact mod_int' (by omega) (by rw [Int.fmod_eq_emod_of_nonneg i (by omega)]; exact q)
theorem op_shl : OpR X (binaryOp .LShift) (rI CPow fun i j => .int (i * 2 ^ j.toNat)) := opI fun _ _ _ _ _ _ _ hc q => lshift_int_small hc.1 hc.2.1 hc.2.2 q
theorem op_shr : OpR X (binaryOp .RShift) (rI (fun _ j => 0 <= j) fun i j => .int (i / 2 ^ j.toNat)) := opI fun i j _ _ _ _ _ hc q =>
  rshift_int hc (by rw [Int.fdiv_eq_ediv_of_nonneg i (two_pow_nn _)]; exact q)
theorem op_and : OpR X (binaryOp .BitAnd) (rI0 fun i j => .int (Builtin.bitAnd i j)) := opI0 fun _ _ _ _ _ _ _ q => and_int q
theorem op_or : OpR X (binaryOp .BitOr) (rI0 fun i j => .int (Builtin.bitOr i j)) := opI0 fun _ _ _ _ _ _ _ q => or_int q
theorem unI {f : Value -> Sem Value} {g : Int -> Int}
    (rule : ∀ (i : Int) (t : Tok) (s : Shared) (Q : Value -> Shared -> Prop) (E : Value -> Shared -> Prop), Q (.int (g i) s.toks) { s with toks := s.toks + 1 } -> wpAny (model X.prog X.w) X.A (f (.int i t)) Q E s) :
    UnR X f (rU fun i => .int (g i)) := by
  intro pins s σ H x v Q I rx h
  obtain ⟨i, rfl, q⟩ := h
  obtain ⟨t, rfl⟩ := rx
  exact rule i t s _ _ ⟨.int (g i), H, I.tok _, ⟨_, rfl⟩, q⟩
theorem un_neg : UnR X (unaryOp .USub) (rU fun i => .int (-i)) := unI fun _ _ _ _ _ q => neg_int q
theorem un_inv : UnR X (unaryOp .Invert) (rU fun i => .int (Builtin.bitNot i)) := unI fun _ _ _ _ _ q => invert_int q
end
def scal : V -> V -> Bool
  | .non, .non => true | .non, .int _ => true | .int _, .non => true | .non, .bl _ => true | .bl _, .non => true | .non, .str _ => true | .str _, .non => true
  | .int _, .int _ => true | .bl _, .bl _ => true | .str _, .str _ => true | .byt _, .byt _ => true
  | .int _, .str _ => true | .str _, .int _ => true | .bl _, .str _ => true | .str _, .bl _ => true
  | _, _ => false
def rEq : R2 := fun x y H Q => scal x y = true /\ Q (.bl (decide (x = y))) H
def rNe : R2 := fun x y H Q => scal x y = true /\ Q (.bl (!decide (x = y))) H
theorem dec_int {i j : Int} : decide (V.int i = V.int j) = (i == j) := by
  rw [Bool.eq_iff_iff]
  simp
theorem dec_bl {i j : Bool} : decide (V.bl i = V.bl j) = (i == j) := by
  rw [Bool.eq_iff_iff]
  simp
theorem dec_str {i j : Str} : decide (V.str i = V.str j) = (i == j) := by
  rw [Bool.eq_iff_iff]
  simp
theorem dec_byt {i j : Array UInt8} : decide (V.byt i = V.byt j) = (i.toList == j.toList) := by
  rw [Bool.eq_iff_iff]
  cases i
  cases j
  simp
section
variable {X : Cx} {a b c : Expr} {ta tb tc : TE} {pos : Pos}
theorem fin_bl {pins : List (Addr × Obj)} {σ : St} {H : Hp} {s : Shared} {Q : VK} {k k' : Bool} (I : Inv X pins σ H s) (q : Q (.bl k) H) (e : k = k') : EP X pins σ Q (.bool k') s := by
  subst e
  exact ⟨.bl k, H, I, rfl, q⟩
theorem op_eq : OpR X (compareOp .Eq) rEq := by
  intro pins s σ H x y v u Q I rx ry h
  obtain ⟨hs, q⟩ := h
  cases x with
  | non =>
    cases rx
    cases y with
    | non => cases ry; exact PySem.EqNone.eq_none_none (fin_bl I q (by simp))
    | bl j => cases ry; exact PySem.EqNone.eq_none_bool (fin_bl I q (by simp))
    | int j => obtain ⟨t', rfl⟩ := ry; exact PySem.EqNone.eq_none_int (fin_bl I q (by simp))
    | str j => obtain ⟨t', rfl⟩ := ry; exact PySem.EqNone.eq_none_str (fin_bl I q (by simp))
    | _ => exact absurd (show false = true from hs) Bool.false_ne_true
  | bl i =>
    cases rx
    cases y with
    | non => cases ry; exact PySem.EqNone.eq_bool_none (fin_bl I q (by simp))
    | bl j => cases ry; exact eq_bool (fin_bl I q dec_bl)
    | str j => obtain ⟨t', rfl⟩ := ry; exact PySem.EqMixed.eq_bool_str (fin_bl I q (by simp))
    | _ => exact absurd (show false = true from hs) Bool.false_ne_true
  | int i =>
    obtain ⟨t, rfl⟩ := rx
    cases y with
    | non => cases ry; exact PySem.EqNone.eq_int_none (fin_bl I q (by simp))
    | int j => obtain ⟨t', rfl⟩ := ry; exact eq_int (fin_bl I q dec_int)
    | str j => obtain ⟨t', rfl⟩ := ry; exact PySem.EqMixed.eq_int_str (fin_bl I q (by simp))
    | _ => exact absurd (show false = true from hs) Bool.false_ne_true
  | str i =>
    obtain ⟨t, rfl⟩ := rx
    cases y with
    | non => cases ry; exact PySem.EqNone.eq_str_none (fin_bl I q (by simp))
    | bl j => cases ry; exact PySem.EqMixed.eq_str_bool (fin_bl I q (by simp))
    | int j => obtain ⟨t', rfl⟩ := ry; exact PySem.EqMixed.eq_str_int (fin_bl I q (by simp))
    | str j => obtain ⟨t', rfl⟩ := ry; exact eq_str (fin_bl I q dec_str)
    | _ => exact absurd (show false = true from hs) Bool.false_ne_true
  | byt i =>
    obtain ⟨t, rfl⟩ := rx
    cases y with
    | byt j => obtain ⟨t', rfl⟩ := ry; exact PySem.W.eq_bytes (fin_bl I q dec_byt)
    | _ => exact absurd (show false = true from hs) Bool.false_ne_true
  | _ => cases y <;> exact absurd (show false = true from hs) Bool.false_ne_true
theorem op_ne : OpR X (compareOp .NotEq) rNe := by
  intro pins s σ H x y v u Q I rx ry h
  obtain ⟨hs, q⟩ := h
  cases x with
  | non =>
    cases rx
    cases y with
    | non => cases ry; exact PySem.EqNone.ne_none_none (fin_bl I q (by simp))
    | bl j => cases ry; exact PySem.EqNone.ne_none_bool (fin_bl I q (by simp))
    | int j => obtain ⟨t', rfl⟩ := ry; exact PySem.EqNone.ne_none_int (fin_bl I q (by simp))
    | str j => obtain ⟨t', rfl⟩ := ry; exact PySem.EqNone.ne_none_str (fin_bl I q (by simp))
    | _ => exact absurd (show false = true from hs) Bool.false_ne_true
  | bl i =>
    cases rx
    cases y with
    | non => cases ry; exact PySem.EqNone.ne_bool_none (fin_bl I q (by simp))
    | bl j => cases ry; exact ne_bool (fin_bl I q (congrArg not dec_bl))
    | str j => obtain ⟨t', rfl⟩ := ry; exact PySem.EqMixed.ne_bool_str (fin_bl I q (by simp))
    | _ => exact absurd (show false = true from hs) Bool.false_ne_true
  | int i =>
    obtain ⟨t, rfl⟩ := rx
    cases y with
    | non => cases ry; exact PySem.EqNone.ne_int_none (fin_bl I q (by simp))
    | int j => obtain ⟨t', rfl⟩ := ry; exact ne_int (fin_bl I q (congrArg not dec_int))
    | str j => obtain ⟨t', rfl⟩ := ry; exact PySem.EqMixed.ne_int_str (fin_bl I q (by simp))
    | _ => exact absurd (show false = true from hs) Bool.false_ne_true
  | str i =>
    obtain ⟨t, rfl⟩ := rx
    cases y with
    | non => cases ry; exact PySem.EqNone.ne_str_none (fin_bl I q (by simp))
    | bl j => cases ry; exact PySem.EqMixed.ne_str_bool (fin_bl I q (by simp))
    | int j => obtain ⟨t', rfl⟩ := ry; exact PySem.EqMixed.ne_str_int (fin_bl I q (by simp))
    | str j => obtain ⟨t', rfl⟩ := ry; exact ne_str (fin_bl I q (congrArg not dec_str))
    | _ => exact absurd (show false = true from hs) Bool.false_ne_true
  | byt i =>
    obtain ⟨t, rfl⟩ := rx
    cases y with
    | byt j => obtain ⟨t', rfl⟩ := ry; exact PySem.W.ne_bytes (fin_bl I q (congrArg not dec_byt))
    | _ => exact absurd (show false = true from hs) Bool.false_ne_true
  | _ => cases y <;> exact absurd (show false = true from hs) Bool.false_ne_true
theorem op_lt : OpR X (compareOp .Lt) (rI0 fun i j => .bl (decide (i < j))) := opB0 fun _ _ _ _ _ _ _ q => lt_int q
theorem op_le : OpR X (compareOp .LtE) (rI0 fun i j => .bl (decide (i <= j))) := opB0 fun _ _ _ _ _ _ _ q => le_int q
theorem op_gt : OpR X (compareOp .Gt) (rI0 fun i j => .bl (decide (j < i))) := opB0 fun _ _ _ _ _ _ _ q => gt_int q
theorem op_ge : OpR X (compareOp .GtE) (rI0 fun i j => .bl (decide (j <= i))) := opB0 fun _ _ _ _ _ _ _ q => ge_int q
theorem nomark (b : Expr) {op : CmpOp} (h : op ≠ .In := by decide) (h2 : op ≠ .NotIn := by decide) : behindInMarks op b = false := by
  have e1 : (op == CmpOp.In) = false := by cases op <;> first | rfl | exact absurd rfl h
  have e2 : (op == CmpOp.NotIn) = false := by cases op <;> first | rfl | exact absurd rfl h2
  cases b <;> simp [behindInMarks, e1, e2]
theorem pe_cmpR {op : CmpOp} {r : R2} (ho : OpR X (compareOp op) r) (ha : PE X a ta) (hb : PE X b tb) (hm : behindInMarks op b = false) : PE X (.Compare a [op] [b] pos) (tOp r ta tb) := by
  intro pins s σ H Q I h
  exact wpAny_Compare1 (binT ha hb I h fun v u s2 x y H2 I2 rx ry q => ho pins s2 σ H2 x y v u Q I2 rx ry q) hm
def tTest (t : TE) : TT := fun σ H Q => t σ H fun x H' => ∃ k, x = .bl k /\ Q k H'
theorem pt_cmpR {op : CmpOp} {r : R2} (ho : OpR X (compareOp op) r) (ha : PE X a ta) (hb : PE X b tb) (hm : behindInMarks op b = false) : PT X (.Compare a [op] [b] pos) (tTest (tOp r ta tb)) := by
  intro pins s σ H Q I h
  refine wpAny_isTrue_Compare1 (thn (ha pins s σ H _ I h) fun v s1 ⟨x, H1, I1, r1, q1⟩ => thn (hb pins s1 σ H1 _ I1 q1) fun u s2 ⟨y, H2, I2, r2, q2⟩ =>
    thn (ho pins s2 σ H2 x y v u _ I2 r1 r2 q2) fun c s3 ⟨z, H3, I3, r3, k, e, q3⟩ => ?_) hm
  subst e
  cases r3
  exact wpAny_truthy_bool ⟨H3, I3, q3⟩
theorem line63 : (sizeLine : Nat) < 2 ^ 63 := by rw [sizeLine_eq]; decide
theorem vals1 {x : V} {us : List Value} (r : Vals [x] us) : ∃ u, us = [u] /\ RelV x u := by
  cases r with
  | cons r1 r2 => cases r2; exact ⟨_, rfl, r1⟩
theorem vals2 {x y : V} {us : List Value} (r : Vals [x, y] us) : ∃ u w', us = [u, w'] /\ RelV x u /\ RelV y w' := by
  cases r with
  | cons r1 r2 =>
    cases r2 with
    | cons r3 r4 => cases r4; exact ⟨_, _, rfl, r1, r3⟩
theorem call_max2 (hc : X.calm = true) : CallR X (.builtin "max") (fun xs H Q => ∃ i j, xs = [.int i, .int j] /\ Q (.int (if j > i then j else i)) H) := by
  intro pins s σ H xs us Q I r h
  obtain ⟨i, j, rfl, q⟩ := h
  obtain ⟨u, w', rfl, ⟨t, rfl⟩, ⟨t', rfl⟩⟩ := vals2 r
  refine max_two_ints (I.ok.hd hc) fun h' tk k => ⟨_, H, I.kept k, ?_, q⟩
  by_cases hj : j > i
  . rw [if_pos hj, if_pos hj]; exact ⟨_, rfl⟩
  . rw [if_neg hj, if_neg hj]; exact ⟨_, rfl⟩
theorem call_min2 (hc : X.calm = true) : CallR X (.builtin "min") (fun xs H Q => ∃ i j, xs = [.int i, .int j] /\ Q (.int (if j < i then j else i)) H) := by
  intro pins s σ H xs us Q I r h
  obtain ⟨i, j, rfl, q⟩ := h
  obtain ⟨u, w', rfl, ⟨t, rfl⟩, ⟨t', rfl⟩⟩ := vals2 r
  refine min_two_ints (I.ok.hd hc) fun h' tk k => ⟨_, H, I.kept k, ?_, q⟩
  by_cases hj : j < i
  . rw [if_pos hj, if_pos hj]; exact ⟨_, rfl⟩
  . rw [if_neg hj, if_neg hj]; exact ⟨_, rfl⟩
end
structure ObjM (h : Heap) (x dx C : Addr) (mA : Str -> Option Value) : Prop where
  obj : h.get? x = some (PySem.W.instObj C dx)
  ns : h.Ns1 dx mA
  ne : dx ≠ x
theorem lookIn_ns {h : Heap} {dx : Addr} {mA : Str -> Option Value} (n : h.Ns1 dx mA) : ∃ od, h.get? dx = some od /\ ∀ name, PySem.W.lookIn name od = some (mA name) := by
  obtain ⟨o, es, ep, ho, hd, hk, _, hm⟩ := n
  refine ⟨o, ho, fun name => ?_⟩
  have e := hm name
  unfold nsFind findBy at e
  rw [<- Array.find?_toList] at e
  unfold PySem.W.lookIn
  rw [hd]
  dsimp only
  split
  . rename_i y q
    rw [q] at e
    exact congrArg some e
  . rename_i q
    rw [q] at e
    have a : es.toList.any (·.refKey) = false := by
      rw [List.any_eq_false]
      intro y hy
      obtain ⟨z, t, hkey⟩ := hk y (Array.mem_toList_iff.mp hy)
      simp [DictEntry.refKey, hkey]
    have a' : ¬ es.toList.any (·.refKey) = true := by rw [a]; exact Bool.false_ne_true
    rw [if_neg a']
    exact congrArg some e
theorem ObjM.look {h : Heap} {x dx C : Addr} {mA : Str -> Option Value} (I : ObjM h x dx C mA) : ∃ od, PySem.W.InstAt h x (PySem.W.instObj C dx) C (some od) /\ ∀ name, PySem.W.lookIn name od = some (mA name) :=
  let ⟨od, ho, hl⟩ := lookIn_ns I.ns
  ⟨od, ⟨I.obj, rfl, rfl, ho⟩, hl⟩
section
variable {prog : Program} {w : World} {A : Around} {E : Value -> Shared -> Prop} {s : Shared} {K : PySem.W.Frag} {x dx C f : Addr} {mA : Str -> Option Value} {name : Str} {v : Value}
theorem get_map {expr : Bool} {Q : Value -> Shared -> Prop} (X : K.In s.heap) (I : ObjM s.heap x dx C mA) (hg : PySem.W.plainGet K C name = true) (hh : PySem.W.hasDictIn K C = true)
    (ha : PySem.W.findIn K (.ref C) name = some none) (hv : mA name = some v) (hv' : PySem.W.handedIn v = true) (h : Q v { s with toks := s.toks + 1 }) :
    wpAny (model prog w) A (getAttr (.ref x) name expr) Q E s := by
  obtain ⟨od, J, hl⟩ := I.look
  exact PySem.W.get_value X J (PySem.W.plainGet_of hg).1 (PySem.W.findObj_own hh ha rfl (by rw [hl, hv])) hv' h
theorem get_meth {pl : Sem Bool} {Q : Value × List Value -> Shared -> Prop} (X : K.In s.heap) (I : ObjM s.heap x dx C mA) (hg : PySem.W.plainGet K C name = true)
    (hf : PySem.W.findIn K (.ref C) name = some (some (.ref f))) (ht : PySem.W.isFn K (.ref f) = true) (hv : mA name = none) (h : Q (.ref f, [.ref x]) s) :
    wpAny (model prog w) A (getMethod (.ref x) name pl) Q E s := by
  obtain ⟨od, J, hl⟩ := I.look
  exact PySem.W.method_fn X J (PySem.W.plainGet_of hg).1 (PySem.W.plainGet_of hg).2 hf (beq_iff_eq.mp ht) (by show (PySem.W.lookIn name od).map (·.isSome) = some false; rw [hl, hv]; rfl) h
theorem set_map {ns : List Str} {Q : Unit -> Shared -> Prop} (X : K.In s.heap) (I : ObjM s.heap x dx C mA)
    (hs : PySem.W.findIn K (.ref C) "__setattr__" = some (some (.builtin "object.__setattr__"))) (hp : PySem.W.plainOver K C = true) (ht : PySem.W.takerIn K C name = some none) (hh : PySem.W.hasDictIn K C = true)
    (hw : PySem.Within mA ns) (hsz : ns.length <= sizeLine)
    (h : ∀ h', ObjM h' x dx C (fun y => if y = name then some v else mA y) -> Heap.SameBut dx s.heap h' -> Q () { s with heap := h', toks := s.toks + 2 }) :
    wpAny (model prog w) A (setAttr (.ref x) name v) Q E s := by
  obtain ⟨od, J, hl⟩ := I.look
  refine PySem.W.set_plain X J hs (PySem.W.osa_open (s := { s with toks := s.toks + 1 }) (r := none) X J hp ht fun b => ?_)
  obtain ⟨cd, hc, hd'⟩ := PySem.W.any_some hh
  have hx : s.heap.get? x = some ⟨.ref C, some dx, .plain, #[]⟩ := I.obj
  refine wpAny_bind (wpAny_pure (wpAny_bind (wpAny_bind (wpAny_loadPart hx (wpAny_bind (PySem.W.Looks.here (s := { s with toks := s.toks + 1 }) (PySem.W.looks_clsIn X hc) ?_))))))
  rw [hd']
  refine wpAny_pure (a := some dx) (wpAny_bind (wpAny_pure (wpAny_bind ?_)))
  refine wpAny_nsSet1 (s := { s with toks := s.toks + 1 }) I.ns fun h' hn2 hs2 => ?_
  obtain ⟨oD, esD, epD, hoD, hdD, hcD⟩ := hn2.count (PySem.Within.cons name v hw)
  refine wpAny_bind (wpAny_lookBehind hoD (by rw [hdD]; exact pastItsLine_dict (Nat.le_trans hcD (by rw [List.length_cons]; omega))) ?_)
  exact wpAny_pure (h _ ⟨(hs2.2 _ (Ne.symm I.ne)).trans I.obj, hn2, I.ne⟩ hs2)
theorem make_map {R : Result -> Shared -> Prop} {vs : List Value} {kw : List (Str × Value)} (X : K.In s.heap) (hm : PySem.W.makesIn K C = true)
    (hi : PySem.W.findIn K (.ref C) "__init__" = some (some (.ref f))) (hf : PySem.W.typeIn K (.ref f) = some (.type "function"))
    (h : codeAny (model prog w) (A.under (.builtin "type.__call__" ⟨.ref C :: vs, kw⟩)) (.call (.ref f) ⟨.ref (s.heap.objs.size + 1) :: vs, kw⟩) (PySem.W.InitBack (s.heap.objs.size + 1) R)
      { s with heap := (s.heap.push PySem.W.emptyDict).push (PySem.W.instObj C s.heap.objs.size) }) :
    codeAny (model prog w) A (.call (.ref C) ⟨vs, kw⟩) R s := by
  obtain ⟨hh, g, d, t, os⟩ := s
  exact PySem.W.make_core (PySem.W.makes_of X hm) (PySem.W.looks_findIn X hi) (fun self => PySem.W.bind_fn X self hf) (.inl rfl) h
end
def putF (f : Str) (v : V) : List (Str × V) -> List (Str × V)
  | [] => [(f, v)]
  | (g, x) :: r => if g = f then (g, v) :: r else (g, x) :: putF f v r
theorem lookup_putF (f g : Str) (v : V) : ∀ fs : List (Str × V), (putF f v fs).lookup g = if g = f then some v else fs.lookup g
  | [] => by
    show List.lookup g [(f, v)] = _
    by_cases h : g = f
    . have hb : (g == f) = true := beq_iff_eq.mpr h
      simp only [List.lookup, hb, if_pos h]
    . have hb : (g == f) = false := beq_eq_false_iff_ne.mpr h
      simp only [List.lookup, hb, if_neg h]
  | (k, x) :: r => by
    have ih := lookup_putF f g v r
    rw [show putF f v ((k, x) :: r) = (if k = f then (k, v) :: r else (k, x) :: putF f v r) from rfl]
    by_cases hk : k = f
    . rw [if_pos hk]
      by_cases h : g = k
      . have hb : (g == k) = true := beq_iff_eq.mpr h
        simp only [List.lookup, hb, if_pos (h.trans hk)]
      . have hb : (g == k) = false := beq_eq_false_iff_ne.mpr h
        simp only [List.lookup, hb, if_neg (fun e : g = f => h (e.trans hk.symm))]
    . rw [if_neg hk]
      by_cases h : g = k
      . have hb : (g == k) = true := beq_iff_eq.mpr h
        simp only [List.lookup, hb, if_neg (fun e : g = f => hk (h.symm.trans e))]
      . have hb : (g == k) = false := beq_eq_false_iff_ne.mpr h
        simp only [List.lookup, hb]
        exact ih
theorem keys_putF (f : Str) (v : V) : ∀ fs : List (Str × V), f ∈ (putF f v fs).map (·.1) /\ ∀ g, g ∈ fs.map (·.1) -> g ∈ (putF f v fs).map (·.1)
  | [] => ⟨by simp [putF], fun g h => by simp at h⟩
  | (k, x) :: r => by
    obtain ⟨i1, i2⟩ := keys_putF f v r
    rw [show putF f v ((k, x) :: r) = (if k = f then (k, v) :: r else (k, x) :: putF f v r) from rfl]
    by_cases hk : k = f
    . rw [if_pos hk]
      subst hk
      exact ⟨by simp, fun g h => by simpa using h⟩
    . rw [if_neg hk]
      refine ⟨?_, fun g h => ?_⟩
      . rw [List.map_cons]
        exact List.mem_cons_of_mem _ i1
      . rw [List.map_cons] at h ⊢
        rcases List.mem_cons.mp h with e | e
        . exact List.mem_cons.mpr (.inl e)
        . exact List.mem_cons_of_mem _ (i2 g e)
theorem length_putF (f : Str) (v : V) : ∀ fs : List (Str × V), (putF f v fs).length <= fs.length + 1
  | [] => by simp [putF]
  | (k, x) :: r => by
    have ih := length_putF f v r
    rw [show putF f v ((k, x) :: r) = (if k = f then (k, v) :: r else (k, x) :: putF f v r) from rfl]
    by_cases hk : k = f
    . rw [if_pos hk, List.length_cons, List.length_cons]; omega
    . rw [if_neg hk, List.length_cons, List.length_cons]; omega
theorem RelO.some_of {v : V} {o : Option Value} (r : RelO (some v) o) : ∃ u, o = some u /\ RelV v u := by
  cases o with
  | none => exact (show False from r).elim
  | some u => exact ⟨u, rfl, r⟩
theorem RelO.none_of {o : Option Value} (r : RelO none o) : o = none := by
  cases o with
  | none => rfl
  | some u => exact (show False from r).elim
theorem handed_of {v : V} {u : Value} (r : RelV v u) : PySem.W.handedIn u = true := by
  cases v with
  | non => cases (show u = Value.none from r); rfl
  | bl b => cases (show u = Value.bool b from r); rfl
  | int i => obtain ⟨t, e⟩ := (show ∃ t, u = Value.int i t from r); cases e; rfl
  | str x => obtain ⟨t, e⟩ := (show ∃ t, u = Value.str x t from r); cases e; rfl
  | byt b => obtain ⟨t, e⟩ := (show ∃ t, u = Value.bytes b t from r); cases e; rfl
  | flt b => obtain ⟨t, e⟩ := (show ∃ t, u = Value.float b t from r); cases e; rfl
  | ref a => cases (show u = Value.ref a from r); rfl
  | ty n => cases (show u = Value.type n from r); rfl
section
variable {P : Program} {w : World} {H H' : Hp} {h h' : Heap} {a C dx : Addr} {fs fs' : List (Str × V)}
theorem ins_get (hok : HOk P w H h) (e : H a = some (.ins C dx fs)) : ∃ mA, ObjM h a dx C mA /\ (∀ f, RelO (fs.lookup f) (mA f)) /\ PySem.Within mA (fs.map (·.1)) /\ fs.length <= 1000 /\ H dx = some (.own a) := by
  obtain ⟨d, z, ne, ob, mA, n, r, q⟩ := (show ObjOk P w H h a (.ins C dx fs) from hok a _ e)
  exact ⟨mA, ⟨ob, n, ne⟩, r, q, z, d⟩
end
structure Cls (K : PySem.W.Frag) (C : Addr) : Prop where
  pg : PySem.W.plainGet K C Str.empty = true
  hd : PySem.W.hasDictIn K C = true
  po : PySem.W.plainOver K C = true
  sa : PySem.W.findIn K (.ref C) "__setattr__" = some (some (.builtin "object.__setattr__"))
theorem Cls.get {K : PySem.W.Frag} {C : Addr} (c : Cls K C) (f : Str) : PySem.W.plainGet K C f = true := c.pg
def NoAttr (K : PySem.W.Frag) (C : Addr) (f : Str) : Prop := PySem.W.findIn K (.ref C) f = some none
theorem NoAttr.taker {K : PySem.W.Frag} {C : Addr} {f : Str} (n : NoAttr K C f) : PySem.W.takerIn K C f = some none := by
  unfold PySem.W.takerIn
  rw [show PySem.W.findIn K (.ref C) f = some none from n]
  rfl
structure Meth (K : PySem.W.Frag) (C : Addr) (m : Str) (f : Addr) : Prop where
  at_ : PySem.W.findIn K (.ref C) m = some (some (.ref f))
  fn : PySem.W.isFn K (.ref f) = true
  kp : PySem.W.keepIn K (.ref f) = true
section
variable {X : Cx} {pins : List (Addr × Obj)} {σ : St} {H : Hp} {s : Shared} {a C dx : Addr} {fs : List (Str × V)} {f : Str} {v : V} {A : Around} {E : Value -> Shared -> Prop}
theorem getattr_ok {b : Bool} {Q : Value -> Shared -> Prop} (I : Inv X pins σ H s) (e : H a = some (.ins C dx fs)) (c : Cls X.K C) (n : NoAttr X.K C f) (l : fs.lookup f = some v)
    (h : ∀ u s', Inv X pins σ H s' -> RelV v u -> Q u s') : wpAny (model X.prog X.w) A (getAttr (.ref a) f b) Q E s := by
  obtain ⟨mA, O, r, _, _, _⟩ := ins_get I.hok e
  obtain ⟨u, hu, ru⟩ := RelO.some_of (v := v) (o := mA f) (by rw [<- l]; exact r f)
  exact get_map I.kIn O (c.get f) c.hd n hu (handed_of ru) (h u _ (I.tok _) ru)
theorem getmeth_ok {m : Str} {g : Addr} {pl : Sem Bool} {Q : Value × List Value -> Shared -> Prop} (I : Inv X pins σ H s) (e : H a = some (.ins C dx fs)) (c : Cls X.K C) (k : Meth X.K C m g) (l : fs.lookup m = none)
    (h : Q (.ref g, [.ref a]) s) : wpAny (model X.prog X.w) A (getMethod (.ref a) m pl) Q E s := by
  obtain ⟨mA, O, r, _, _, _⟩ := ins_get I.hok e
  have hn : mA m = none := RelO.none_of (by rw [<- l]; exact r m)
  exact get_meth I.kIn O (c.get m) k.at_ k.fn hn h
theorem setattr_ok {y : V} {u : Value} {Q : Unit -> Shared -> Prop} (I : Inv X pins σ H s) (e : H a = some (.ins C dx fs)) (c : Cls X.K C) (n : NoAttr X.K C f) (hl : fs.length < 1000) (ry : RelV y u)
    (h : ∀ s', Inv X pins σ (upd H a (.ins C dx (putF f y fs))) s' -> Q () s') : wpAny (model X.prog X.w) A (setAttr (.ref a) f u) Q E s := by
  obtain ⟨mA, O, r, wi, _, ho⟩ := ins_get I.hok e
  have hz : (fs.map (·.1)).length <= sizeLine := by rw [List.length_map, sizeLine_eq]; omega
  refine set_map I.kIn O c.sa c.po n.taker c.hd wi hz fun h' O' sb => h _ ?_
  have hd : ∃ o, h'.get? dx = some o := let ⟨o, _, _, e', _⟩ := O'.ns; ⟨o, e'⟩
  refine I.write (x := a) (e := dx) (by rw [e]; exact True.intro) (.inr ho) (fun b q hb z => (sb.2 b hb).trans z) hd ?_
  refine ⟨by rw [upd_ne O.ne]; exact ho, ?_, O.ne, O'.obj, _, O'.ns, fun g => ?_, fun g hg => ?_⟩
  . have := length_putF f y fs; omega
  . show RelO ((putF f y fs).lookup g) (if g = f then some u else mA g)
    rw [lookup_putF]
    by_cases q : g = f
    . rw [if_pos q, if_pos q]; exact ry
    . rw [if_neg q, if_neg q]; exact r g
  . by_cases q : g = f
    . rw [q]; exact (keys_putF f y fs).1
    . refine (keys_putF f y fs).2 g (wi g fun z => hg ?_)
      show (if g = f then some u else mA g) = none
      rw [if_neg q]; exact z
theorem Inv.made (I : Inv X pins σ H s) : Inv X pins σ (upd (upd H s.heap.objs.size (.own (s.heap.objs.size + 1))) (s.heap.objs.size + 1) (.ins C s.heap.objs.size []))
    { s with heap := (s.heap.push PySem.W.emptyDict).push (PySem.W.instObj C s.heap.objs.size) } := by
  have e1 : (s.heap.push PySem.W.emptyDict).get? s.heap.objs.size = some PySem.W.emptyDict := Heap.get?_push_size s.heap rfl
  have e2 : ((s.heap.push PySem.W.emptyDict).push (PySem.W.instObj C s.heap.objs.size)).get? (s.heap.objs.size + 1) = some (PySem.W.instObj C s.heap.objs.size) := by
    have := Heap.get?_push_size (s.heap.push PySem.W.emptyDict) (o := PySem.W.instObj C s.heap.objs.size) rfl
    rwa [Heap.size_push] at this
  have e3 : (s.heap.push PySem.W.emptyDict).Ns s.heap.objs.size (fun _ => none) := ⟨PySem.W.emptyDict, #[], _, e1, rfl, (fun e he => absurd he (by simp)), fun _ => rfl⟩
  have I1 := I.laid (a := s.heap.objs.size) (o := .own (s.heap.objs.size + 1)) (h' := s.heap.push PySem.W.emptyDict) (t' := s.toks) (fun b u q => Heap.get?_push_of_some _ q) (Nat.le_refl _) ⟨_, e1⟩
  refine I1.laid (a := s.heap.objs.size + 1) (o := .ins C s.heap.objs.size []) (t' := s.toks) (fun b u q => Heap.get?_push_of_some _ q) (Nat.le_of_eq (Heap.size_push _ _)) ?_
  have ne : s.heap.objs.size ≠ s.heap.objs.size + 1 := Nat.ne_of_lt (Nat.lt_succ_self _)
  refine ⟨by rw [upd_ne ne, upd_same], Nat.zero_le _, ne, e2, fun _ => none, (Heap.Ns1.of_empty e3).at fun o q => Heap.get?_push_of_some _ q, fun _ => True.intro, fun y hy => absurd rfl hy⟩
theorem attr_of {prog : Program} {w : World} {env : Env} {e : Expr} {f : Str} {pos : Pos} {s : Shared} {Q : Value -> Shared -> Prop} (hb : attributeBase e f env (eval e env) = eval e env)
    (h : wpAny (model prog w) A (eval e env) (fun o s₁ => wpAny (model prog w) A (getAttr o f true) Q E s₁) E s) : wpAny (model prog w) A (eval (.Attribute e f pos) env) Q E s :=
  Attribute_any_ h (by rw [arm_eval_Attribute, hb])
end
def tFld (K : PySem.W.Frag) (ta : TE) (f : Str) : TE := fun σ H Q => ta σ H fun x H1 => ∃ a C dx fs v, x = .ref a /\ H1 a = some (.ins C dx fs) /\ Cls K C /\ NoAttr K C f /\ fs.lookup f = some v /\ Q v H1
def sFld (K : PySem.W.Frag) (ta tv : TE) (f : Str) : TS := fun D σ H => tv σ H fun y H1 => ta σ H1 fun x H2 => ∃ a C dx fs, x = .ref a /\ H2 a = some (.ins C dx fs) /\ Cls K C /\ NoAttr K C f /\ fs.length < 1000 /\
  D.nx σ (upd H2 a (.ins C dx (putF f y fs)))
section
variable {X : Cx} {o e value : Expr} {f : Str} {pos pos' tpos : Pos} {ta tv : TE}
theorem pe_fld (he : PE X e ta) (hb : attributeBase e f X.env (eval e X.env) = eval e X.env) : PE X (.Attribute e f pos) (tFld X.K ta f) := by
  intro pins s σ H Q I h
  refine attr_of hb (thn (he pins s σ H _ I h) fun u s1 ⟨x, H1, I1, rx, a, C, dx, fs, v, ex, ea, c, n, l, q⟩ => ?_)
  subst ex
  obtain rfl : u = Value.ref a := rx
  exact getattr_ok I1 ea c n l fun u' s2 I2 ru => ⟨v, H1, I2, ru, q⟩
theorem ps_fld (ha : PE X o ta) (hv : PE X value tv) (hs : swapsWith value (some (.Attribute o f pos')) pos.line X.env = pure false) : PS X (.Assign [.Attribute o f pos'] value pos) (sFld X.K ta tv f) := by
  intro pins s σ H D I h
  refine plainObj_wpAny_Assign_Attribute (thn (hv pins s σ H _ I h) fun u s1 ⟨y, H1, I1, ry, q⟩ => thn (ha pins s1 σ H1 _ I1 q) fun ov s2 ⟨x, H2, I2, rx, a, C, dx, fs, ex, ea, c, n, l, q2⟩ => ?_) hs
  subst ex
  obtain rfl : ov = Value.ref a := rx
  exact setattr_ok I2 ea c n l ry fun s3 I3 => ⟨σ, _, I3, q2⟩
end
structure Room (k : Nat) (A : Around) : Prop where
  hd : A.handled = none
  dp : A.depth + 3 * k + 5 < recursionLimit
  un : A.units + 16 * k + 200 < cLine
theorem Room.mono {j k : Nat} {A : Around} (r : Room k A) (h : j <= k) : Room j A := ⟨r.hd, by have := r.dp; omega, by have := r.un; omega⟩
theorem Room.deeper {k : Nat} {A : Around} (r : Room (k + 1) A) (env : Env) : Room k (A.deeper env) :=
  ⟨r.hd, by have := r.dp; show A.depth + 1 + 3 * k + 5 < _; omega, by have := r.un; show A.units + 3 + 16 * k + 200 < _; omega⟩
theorem Room.in1 {k : Nat} {A : Around} (r : Room (k + 1) A) : Room k A.in1 :=
  ⟨r.hd, by have := r.dp; show A.depth + 3 * k + 5 < _; omega, by have := r.un; show A.units + 1 + 16 * k + 200 < _; omega⟩
theorem make_depth {A : Around} {C : Addr} {us : List Value} {kw : List (Str × Value)} : (A.under (.builtin "type.__call__" ⟨.ref C :: us, kw⟩)).depth = A.depth + 1 := by
  first | rfl | simp [Around.under, Code.weight, Code.isCreation, Code.isGuard, Code.isCaller, Code.frames, Code.isFrame, guardIds]
theorem make_units {A : Around} {C : Addr} {us : List Value} {kw : List (Str × Value)} : (A.under (.builtin "type.__call__" ⟨.ref C :: us, kw⟩)).units = A.units + 1 := by
  first | rfl | simp [Around.under, Code.cUnits, Code.frames, Code.isFrame]
theorem Room.make {k : Nat} {A : Around} (r : Room (k + 1) A) (C : Addr) (us : List Value) (kw : List (Str × Value)) : Room k (A.under (.builtin "type.__call__" ⟨.ref C :: us, kw⟩)) :=
  ⟨r.hd, by have := r.dp; rw [make_depth]; omega, by have := r.un; rw [make_units]; omega⟩
theorem Room.depth {k : Nat} {A : Around} (r : Room k A) : A.depth < recursionLimit := by have := r.dp; omega
def tNil : TA := fun _ H Q => Q [] H
def tCons (ta : TE) (tr : TA) : TA := fun σ H Q => ta σ H fun x H1 => tr σ H1 fun xs H2 => Q (x :: xs) H2
section
variable {X : Cx} {e : Expr} {es : List Expr} {te : TE} {t : TA} {pos : Pos}
theorem pa_nil : PA X [] tNil := fun _ _ _ _ H Q I h => Calls.spliced_nil ⟨[], H, I, .nil, h⟩
theorem pa_cons (ha : PE X e te) (hr : PA X es t) (hs : starEach (e :: es) X.env = (false, eval e X.env) :: starEach es X.env := by rfl) : PA X (e :: es) (tCons te t) := by
  intro pos pins s σ H Q I h
  rw [hs]
  show wpAny _ _ (spliced ((false, eval e X.env) :: backTo pos (starEach es X.env))) _ _ s
  refine Calls.spliced_cons (thn (ha pins s σ H _ I h) fun u s1 ⟨x, H1, I1, r1, q1⟩ => ?_)
  exact thn (hr pos pins s1 σ H1 _ I1 q1) fun us s2 ⟨xs, H2, I2, r2, q2⟩ => ⟨x :: xs, H2, I2, .cons r1 r2, q2⟩
def tTup (t : TA) : TE := fun σ H Q => t σ H fun xs H1 => xs.length <= sizeLine /\ ∀ p, H1 p = none -> Q (.ref p) (upd H1 p (.tup xs))
def tLst (t : TA) : TE := fun σ H Q => t σ H fun xs H1 => xs.length <= sizeLine /\ ∀ p, H1 p = none -> Q (.ref p) (upd H1 p (.lst xs))
theorem pe_tup {x1} (h : PA X es t) : PE X (.Tuple es x1 pos) (tTup t) := by
  intro pins s σ H Q I hq
  refine wpAny_Tuple_spliced (thn (h pos pins s σ H _ I hq) fun us s1 ⟨xs, H1, I1, r, z, q⟩ => ⟨by rw [<- r.length]; exact z, ?_⟩)
  have hf : H1 s1.heap.objs.size = none := I1.hok.fresh (Nat.le_refl _)
  refine ⟨.ref s1.heap.objs.size, upd H1 s1.heap.objs.size (.tup xs), I1.laid (t' := s1.toks) (fun b u e => Heap.get?_push_of_some _ e) (Nat.le_refl _) ?_, rfl, q _ hf⟩
  exact ⟨z, us, r, ⟨_, Heap.get?_push_size _ rfl, rfl, _, rfl⟩⟩
theorem pe_lst (h : PA X es t) : PE X (.List es pos) (tLst t) := by
  intro pins s σ H Q I hq
  refine wpAny_List_spliced (thn (h pos pins s σ H _ I hq) fun us s1 ⟨xs, H1, I1, r, z, q⟩ => ⟨by rw [<- r.length]; exact z, ?_⟩)
  have hf : H1 s1.heap.objs.size = none := I1.hok.fresh (Nat.le_refl _)
  refine ⟨.ref s1.heap.objs.size, upd H1 s1.heap.objs.size (.lst xs), I1.laid (t' := s1.toks) (fun b u e => Heap.get?_push_of_some _ e) (Nat.le_refl _) ?_, rfl, q _ hf⟩
  exact ⟨z, us, 0, r, Heap.get?_push_size _ rfl⟩
end
abbrev Sp := List V -> Hp -> VK -> XK -> Prop
abbrev CXT := List Env -> Hp -> Shared -> XK -> Value -> Shared -> Prop
structure Env0 (P : Program) (w : World) (K : PySem.W.Frag) (mg : Str -> Option Value) (base : Heap) (A : Around) (outer : List Env) (s : Shared) (H : Hp) : Prop where
  frames : A.frames = some outer
  mod : Mod K mg base
  bs : ∀ b o, base.get? b = some o -> s.heap.get? b = some o /\ H b = none
  bsz : base.objs.size <= s.heap.objs.size
  funs : s.heap.FunFrames base outer
  frf : ∀ b ∈ frs outer, H b = none
  hok : HOk P w H s.heap
  bare : AllBare s.gens
def CE (outer : List Env) (P : Program) (w : World) (H : Hp) (s : Shared) (Q : VK) (u : Value) (s' : Shared) : Prop :=
  ∃ v H', s'.os = s.os /\ AllBare s'.gens /\ Un (frs outer) [] H H' s.heap s'.heap /\ HOk P w H' s'.heap /\ RelV v u /\ Q v H'
def CR (CX : CXT) (outer : List Env) (P : Program) (w : World) (H : Hp) (s : Shared) (Q : VK) (E : XK) (r : Result) (s' : Shared) : Prop :=
  match r with
  | .ok (.ret u) => CE outer P w H s Q u s'
  | .ok _ => False
  | .error e => CX outer H s E e s'
structure FnOk (P : Program) (w : World) (K : PySem.W.Frag) (mg : Str -> Option Value) (base : Heap) (CX : CXT) (k : Nat) (f : Addr) (fd : FuncData) (ps : List Str) (sp : Sp) : Prop where
  len : ∀ vs H Q E, sp vs H Q E -> vs.length = ps.length
  run : ∀ (A : Around) (outer : List Env) (s : Shared) (H : Hp) (args : Args) (us : List Value) (vs : List V) (Q : VK) (E : XK), Room k A -> Env0 P w K mg base A outer s H -> BindsTo s fd args (ps.zip us) -> Vals vs us -> sp vs H Q E ->
    codeAny (model P w) A (.call (.ref f) args) (CR CX outer P w H s Q E) s
theorem Env0.make {P : Program} {w : World} {K : PySem.W.Frag} {mg : Str -> Option Value} {base : Heap} {A : Around} {outer : List Env} {s : Shared} {H : Hp} (e : Env0 P w K mg base A outer s H) (C : Addr) (us : List Value) (kw : List (Str × Value)) :
    Env0 P w K mg base (A.under (.builtin "type.__call__" ⟨.ref C :: us, kw⟩)) outer s H := ⟨by first | exact e.frames | (simpa [Around.under, Code.envs, Code.isFrame, pushEnvs] using e.frames), e.mod, e.bs, e.bsz, e.funs, e.frf, e.hok, e.bare⟩
theorem Env0.in1 {P : Program} {w : World} {K : PySem.W.Frag} {mg : Str -> Option Value} {base : Heap} {A : Around} {outer : List Env} {s : Shared} {H : Hp} (e : Env0 P w K mg base A outer s H) :
    Env0 P w K mg base A.in1 outer s H := ⟨e.frames, e.mod, e.bs, e.bsz, e.funs, e.frf, e.hok, e.bare⟩
section
variable {X : Cx} {pins : List (Addr × Obj)} {σ : St} {H : Hp} {s s' : Shared}
theorem Inv.env0 (I : Inv X pins σ H s) : Env0 X.prog X.w X.K X.mg X.base X.A X.stack s H :=
  ⟨I.ok.frames, I.ok.mod, I.bs, Nat.le_trans I.ok.bsz I.sz, I.stack, I.stkFree, I.hok, I.bare⟩
theorem Inv.after {Q : VK} {u : Value} (I : Inv X pins σ H s) (h : CE X.stack X.prog X.w H s Q u s') : EP X pins σ Q u s' := by
  obtain ⟨v, H', os, bare, un, hok, r, q⟩ := h
  obtain ⟨hh, g, d, t, os'⟩ := s'
  obtain rfl : os' = s.os := os
  exact ⟨v, H', I.call (h' := hh) (g' := g) (d' := d) (t' := t) (ch := []) un hok bare (fun b z => absurd z (by simp)), r, q⟩
end
def tCall (sp : Sp) (dvs : List V) (E : XK) (t : TA) : TE := fun σ H Q => t σ H fun vs H1 => sp (vs ++ dvs) H1 Q E
def tMeth (C : Addr) (m : Str) (sp : Sp) (dvs : List V) (E : XK) (ta : TE) (t : TA) : TE := fun σ H Q => ta σ H fun x H1 => ∃ a dx fs, x = .ref a /\ H1 a = some (.ins C dx fs) /\ fs.lookup m = none /\
  t σ H1 fun vs H2 => sp (x :: (vs ++ dvs)) H2 Q E
def tMake (C : Addr) (sp : Sp) (dvs : List V) (E : XK) (t : TA) : TE := fun σ H Q => t σ H fun vs H1 => ∀ x dx, H1 x = none -> H1 dx = none -> dx ≠ x ->
  sp (.ref x :: (vs ++ dvs)) (upd (upd H1 dx (.own x)) x (.ins C dx [])) (fun v H2 => v = .non /\ Q (.ref x) H2) E
def Binds (K : PySem.W.Frag) (fd : FuncData) (ps : List Str) (ds : List Value) : Prop :=
  ∀ (s : Shared) (us : List Value), K.In s.heap -> (us ++ ds).length = ps.length -> BindsTo s fd ⟨us, []⟩ (ps.zip (us ++ ds))
theorem Binds.all {K : PySem.W.Frag} {fd : FuncData} {ps : List Str} (h : ∀ us : List Value, us.length = ps.length -> bindArgs fd ⟨us, []⟩ = pure (ps.zip us)) : Binds K fd ps [] := fun s us _ hl => by
  rw [List.append_nil] at hl ⊢
  exact .of_eq (h us hl)
def Passes (CX : CXT) (X : Cx) (E : XK) : Prop := ∀ (pins : List (Addr × Obj)) (σ : St) (H : Hp) (s : Shared) (e : Value) (s' : Shared), Inv X pins σ H s -> CX X.stack H s E e s' -> X.xe e s'
section
variable {X : Cx} {CX : CXT} {k : Nat} {f C : Addr} {fd : FuncData} {ps : List Str} {sp : Sp} {dvs : List V} {ds : List Value} {E : XK} {x m : Str} {p pos apos : Pos} {e o : Expr} {es : List Expr} {ta : TE} {t : TA}
theorem run_fn {pins : List (Addr × Obj)} {σ : St} {H : Hp} {s : Shared} {Q : VK} {us : List Value} {vs : List V} (F : FnOk X.prog X.w X.K X.mg X.base CX k f fd ps sp) (hr : Room k X.A) (hb : Binds X.K fd ps ds) (hd : Vals dvs ds) (hx : Passes CX X E)
    (I : Inv X pins σ H s) (r : Vals vs us) (h : sp (vs ++ dvs) H Q E) : wpAny (model X.prog X.w) X.A (call (.ref f) us) (EP X pins σ Q) X.xe s := by
  have r2 : Vals (vs ++ dvs) (us ++ ds) := r.append hd
  have hl : (us ++ ds).length = ps.length := by rw [<- r2.length]; exact F.len _ _ _ _ h
  refine wpAny_call (codeAny_mono (F.run X.A X.stack s H ⟨us, []⟩ (us ++ ds) (vs ++ dvs) Q E hr I.env0 (hb s us I.kIn hl) r2 h) fun r s' hq => ?_)
  cases r with
  | error e => exact hx pins σ H s e s' I hq
  | ok fl =>
    cases fl with
    | ret u => exact I.after hq
    | next => exact False.elim hq
    | brk => exact False.elim hq
    | cont => exact False.elim hq
theorem pe_call (F : FnOk X.prog X.w X.K X.mg X.base CX k f fd ps sp) (hr : Room k X.A) (hg : Gl X x) (hm : X.mg x = some (.ref f)) (hk : PySem.W.keepIn X.K (.ref f) = true) (hb : Binds X.K fd ps ds) (hd : Vals dvs ds) (hx : Passes CX X E)
    (ha : PA X (e :: es) t) (hdb : (x == ("__debug__" : Str)) = false := by decide) (he : starEach (e :: es) X.env = (false, eval e X.env) :: starEach es X.env := by rfl) (hpl : (backTo pos (starEach es X.env)).any (·.1) = false := by rfl) :
    PE X (.Call (.Name x p) (e :: es) [] pos) (tCall sp dvs E t) := by
  intro pins s σ H Q I h
  refine wpAny_Call_Name_kw (ld_glob I hg hm ?_ hdb)
  refine PySem.W.callWith_K (h₀ := X.base) I.ok.mod.kin hk (thn (ha pos pins s σ H _ I h) fun us s1 ⟨vs, H1, I1, r, q⟩ => ⟨I1.kIn, ?_⟩) he hpl
  exact run_fn F hr hb hd hx I1 r q
theorem pe_meth {pl : Sem Bool} (he : PE X o ta) (c : Cls X.K C) (hm : Meth X.K C m f) (F : FnOk X.prog X.w X.K X.mg X.base CX k f fd ps sp) (hr : Room k X.A) (hb : Binds X.K fd ps ds) (hd : Vals dvs ds) (hx : Passes CX X E) (ha : PA X (e :: es) t)
    (hst : starEach (e :: es) X.env = (false, eval e X.env) :: starEach es X.env := by rfl) (hpl : (backTo pos (starEach es X.env)).any (·.1) = false := by rfl)
    (ht : eval (.Call (.Attribute o m apos) (e :: es) [] pos) X.env = (do
      let ov <- eval o X.env
      standAt apos.atName
      let (f, first) <- holding [ov] (getMethod ov m pl)
      callWith pos f first (backTo pos (starEach (e :: es) X.env)) (backToKw pos (keywordEach [] X.env))) := by rfl) :
    PE X (.Call (.Attribute o m apos) (e :: es) [] pos) (tMeth C m sp dvs E ta t) := by
  intro pins s σ H Q I h
  refine PySem.W.methodCall_KW (pl := pl) (thn (he pins s σ H _ I h) fun u s1 ⟨x, H1, I1, rx, a, dx, fs, ex, ea, l, q⟩ => ?_) ht
  subst ex
  obtain rfl : u = Value.ref a := rx
  refine getmeth_ok I1 ea c hm l ?_
  refine PySem.W.callWith_K (first := [.ref a]) (h₀ := X.base) I.ok.mod.kin hm.kp (thn (ha pos pins s1 σ H1 _ I1 q) fun us s2 ⟨vs, H2, I2, r, q2⟩ => ⟨I2.kIn, ?_⟩) hst hpl
  exact run_fn (us := .ref a :: us) (vs := .ref a :: vs) F hr hb hd hx I2 (.cons rfl r) q2
theorem pe_meth0 {pl : Sem Bool} (he : PE X o ta) (c : Cls X.K C) (hm : Meth X.K C m f) (F : FnOk X.prog X.w X.K X.mg X.base CX k f fd ps sp) (hr : Room k X.A) (hb : Binds X.K fd ps ds) (hd : Vals dvs ds) (hx : Passes CX X E)
    (ht : eval (.Call (.Attribute o m apos) [] [] pos) X.env = (do
      let ov <- eval o X.env
      standAt apos.atName
      let (f, first) <- holding [ov] (getMethod ov m pl)
      callWith pos f first (backTo pos (starEach [] X.env)) (backToKw pos (keywordEach [] X.env))) := by rfl) :
    PE X (.Call (.Attribute o m apos) [] [] pos) (tMeth C m sp dvs E ta tNil) := by
  intro pins s σ H Q I h
  refine PySem.W.methodCall_KW (pl := pl) (thn (he pins s σ H _ I h) fun u s1 ⟨x, H1, I1, rx, a, dx, fs, ex, ea, l, q⟩ => ?_) ht
  subst ex
  obtain rfl : u = Value.ref a := rx
  refine getmeth_ok I1 ea c hm l ?_
  exact PySem.W.callWith_K0 (first := [.ref a]) I1.kIn hm.kp (run_fn (us := [.ref a]) (vs := [.ref a]) F hr hb hd hx I1 (.cons rfl .nil) q)
structure Mk (K : PySem.W.Frag) (C f : Addr) : Prop where
  makes : PySem.W.makesIn K C = true
  init : PySem.W.findIn K (.ref C) "__init__" = some (some (.ref f))
  fn : PySem.W.isFn K (.ref f) = true
  kp : PySem.W.keepIn K (.ref C) = true
theorem run_make {pins : List (Addr × Obj)} {σ : St} {H : Hp} {s : Shared} {Q : VK} {us : List Value} {vs : List V} (M : Mk X.K C f) (F : FnOk X.prog X.w X.K X.mg X.base CX k f fd ps sp) (hr : Room (k + 1) X.A) (hb : Binds X.K fd ps ds) (hd : Vals dvs ds)
    (hx : Passes CX X E) (I : Inv X pins σ H s) (r : Vals vs us)
    (h : ∀ x dx, H x = none -> H dx = none -> dx ≠ x -> sp (.ref x :: (vs ++ dvs)) (upd (upd H dx (.own x)) x (.ins C dx [])) (fun v H2 => v = .non /\ Q (.ref x) H2) E) :
    wpAny (model X.prog X.w) X.A (call (.ref C) us) (EP X pins σ Q) X.xe s := by
  have hq := h (s.heap.objs.size + 1) s.heap.objs.size (I.hok.fresh (Nat.le_succ _)) (I.hok.fresh (Nat.le_refl _)) (Nat.ne_of_lt (Nat.lt_succ_self _))
  have I2 := Inv.made (C := C) I
  have r2 : Vals (V.ref (s.heap.objs.size + 1) :: (vs ++ dvs)) (Value.ref (s.heap.objs.size + 1) :: (us ++ ds)) := .cons rfl (r.append hd)
  have hl : (Value.ref (s.heap.objs.size + 1) :: us ++ ds).length = ps.length := by
    have e := r2.length
    rw [F.len _ _ _ _ hq] at e
    exact e.symm
  refine wpAny_call (make_map (f := f) I.kIn M.makes M.init (beq_iff_eq.mp M.fn) (codeAny_mono (F.run _ X.stack _ _ ⟨Value.ref (s.heap.objs.size + 1) :: us, []⟩ (Value.ref (s.heap.objs.size + 1) :: (us ++ ds)) _ _ E (hr.make C us [])
    (I2.env0.make C us []) (hb _ (Value.ref (s.heap.objs.size + 1) :: us) I2.kIn hl) r2 hq) fun r s' hq' => ?_))
  cases r with
  | error e => exact hx pins σ _ _ e s' I2 hq'
  | ok fl =>
    cases fl with
    | ret u =>
      obtain ⟨v, H', I3, rv, ev, q3⟩ := I2.after hq'
      subst ev
      exact ⟨rv, ⟨V.ref (s.heap.objs.size + 1), H', I3, rfl, q3⟩⟩
    | next => exact False.elim hq'
    | brk => exact False.elim hq'
    | cont => exact False.elim hq'
theorem pe_make (M : Mk X.K C f) (F : FnOk X.prog X.w X.K X.mg X.base CX k f fd ps sp) (hr : Room (k + 1) X.A) (hg : Gl X x) (hm : X.mg x = some (.ref C)) (hb : Binds X.K fd ps ds) (hd : Vals dvs ds) (hx : Passes CX X E)
    (ha : PA X (e :: es) t) (hdb : (x == ("__debug__" : Str)) = false := by decide) (he : starEach (e :: es) X.env = (false, eval e X.env) :: starEach es X.env := by rfl) (hpl : (backTo pos (starEach es X.env)).any (·.1) = false := by rfl) :
    PE X (.Call (.Name x p) (e :: es) [] pos) (tMake C sp dvs E t) := by
  intro pins s σ H Q I h
  refine wpAny_Call_Name_kw (ld_glob I hg hm ?_ hdb)
  refine PySem.W.callWith_K (h₀ := X.base) I.ok.mod.kin M.kp (thn (ha pos pins s σ H _ I h) fun us s1 ⟨vs, H1, I1, r, q⟩ => ⟨I1.kIn, ?_⟩) he hpl
  exact run_make M F hr hb hd hx I1 r q
theorem pe_make0 (M : Mk X.K C f) (F : FnOk X.prog X.w X.K X.mg X.base CX k f fd ps sp) (hr : Room (k + 1) X.A) (hg : Gl X x) (hm : X.mg x = some (.ref C)) (hb : Binds X.K fd ps ds) (hd : Vals dvs ds) (hx : Passes CX X E)
    (hdb : (x == ("__debug__" : Str)) = false := by decide) : PE X (.Call (.Name x p) [] [] pos) (tMake C sp dvs E tNil) := by
  intro pins s σ H Q I h
  refine wpAny_Call_Name_kw (ld_glob I hg hm ?_ hdb)
  exact PySem.W.callWith_K0 I.kIn M.kp (run_make (us := []) M F hr hb hd hx I .nil h)
end
def PK (X : Cx) (kws : List Keyword) (t : TA) : Prop :=
  ∀ (pos : Pos) (pins : List (Addr × Obj)) (s : Shared) (σ : St) (H : Hp) (Q : List V -> Hp -> Prop), Inv X pins σ H s -> t σ H Q -> wpAny (model X.prog X.w) X.A (evalAll ((backToKw pos (keywordEach kws X.env)).map (·.2))) (AP X pins σ Q) X.xe s
section
variable {X : Cx} {CX : CXT} {k : Nat} {f C : Addr} {fd : FuncData} {ps ks : List Str} {sp : Sp} {E : XK} {x m : Str} {p pos apos kpos : Pos} {e o : Expr} {es : List Expr} {kws : List Keyword} {te ta : TE} {t tk : TA} {nm : Option Str}
theorem pk_nil : PK X [] tNil := fun _ _ _ _ H Q I h => wpAny_evalAll_nil ⟨[], H, I, .nil, h⟩
theorem pk_cons (ha : PE X e te) (hr : PK X kws t) : PK X (⟨nm, e, kpos⟩ :: kws) (tCons te t) := by
  intro pos pins s σ H Q I h
  show wpAny _ _ (evalAll ((do let v <- eval e X.env; standAt pos; pure v) :: (backToKw pos (keywordEach kws X.env)).map (·.2))) _ _ s
  refine wpAny_evalAll_cons (wpAny_bind (thn (ha pins s σ H _ I h) fun u s1 ⟨x, H1, I1, r1, q1⟩ => wpAny_bind (wpAny_standAt (wpAny_pure ?_))))
  exact thn (hr pos pins s1 σ H1 _ I1 q1) fun us s2 ⟨xs, H2, I2, r2, q2⟩ => ⟨x :: xs, H2, I2, .cons r1 r2, q2⟩
variable {g : List Value -> List Value -> List Value} {gV : List V -> List V -> List V}
end
structure FnScope (N P : List Str) (sc : Scope) : Prop where
  kind : sc.kind = .function
  co : sc.isCoroutine = false
  gen : sc.isGenerator = false
  nd : N.Nodup
  pre : N.take P.length = P
  par : ∀ x ∈ P, sc.names.lookup x = some .local \/ sc.names.lookup x = some .cell
  nofree : ∀ y ∈ sc.names, y.2 ≠ .free
theorem bindL_out {kindOf : Str -> Option NameKind} {x : Str} : ∀ {binds : List (Str × Value)} {m : Str -> Option Value}, (∀ v, (x, v) ∉ binds) -> bindL kindOf binds m x = m x
  | [], _, _ => rfl
  | (n, v) :: r, m, h => by
    unfold bindL
    rw [bindL_out fun w hw => h w (List.mem_cons_of_mem _ hw)]
    split
    . have : x ≠ n := by rintro rfl; exact h v List.mem_cons_self
      simp [this]
    . rfl
theorem bindC_out {kindOf : Str -> Option NameKind} {x : Str} : ∀ {binds : List (Str × Value)} {m : Str -> Option Value}, (∀ v, (x, v) ∉ binds) -> bindC kindOf binds m x = m x
  | [], _, _ => rfl
  | (n, v) :: r, m, h => by
    unfold bindC
    rw [bindC_out fun w hw => h w (List.mem_cons_of_mem _ hw)]
    split
    . rfl
    . have : x ≠ n := by rintro rfl; exact h v List.mem_cons_self
      simp [this]
theorem bindL_get {kindOf : Str -> Option NameKind} {x : Str} {v : Value} : ∀ {P : List Str} {vs : List Value} {i : Nat} {m : Str -> Option Value}, P.Nodup -> P[i]? = some x -> vs[i]? = some v -> kindOf x = some .local ->
    bindL kindOf (P.zip vs) m x = some v
  | [], _, _, _, _, h, _, _ => by simp at h
  | _ :: _, [], _, _, _, _, h, _ => by simp at h
  | p :: P, w :: vs, 0, m, nd, h1, h2, hk => by
    simp at h1 h2; subst h1; subst h2
    show bindL kindOf ((p, w) :: P.zip vs) m p = _
    unfold bindL
    rw [bindL_out fun v hv => (List.nodup_cons.mp nd).1 (List.of_mem_zip hv).1, if_pos hk]
    simp
  | p :: P, w :: vs, i + 1, m, nd, h1, h2, hk => by
    show bindL kindOf ((p, w) :: P.zip vs) m x = _
    unfold bindL
    exact bindL_get (i := i) (List.nodup_cons.mp nd).2 (by simpa using h1) (by simpa using h2) hk
theorem bindC_get {kindOf : Str -> Option NameKind} {x : Str} {v : Value} : ∀ {P : List Str} {vs : List Value} {i : Nat} {m : Str -> Option Value}, P.Nodup -> P[i]? = some x -> vs[i]? = some v -> kindOf x ≠ some .local ->
    bindC kindOf (P.zip vs) m x = some v
  | [], _, _, _, _, h, _, _ => by simp at h
  | _ :: _, [], _, _, _, _, h, _ => by simp at h
  | p :: P, w :: vs, 0, m, nd, h1, h2, hk => by
    simp at h1 h2; subst h1; subst h2
    show bindC kindOf ((p, w) :: P.zip vs) m p = _
    unfold bindC
    rw [bindC_out fun v hv => (List.nodup_cons.mp nd).1 (List.of_mem_zip hv).1, if_neg hk]
    simp
  | p :: P, w :: vs, i + 1, m, nd, h1, h2, hk => by
    show bindC kindOf ((p, w) :: P.zip vs) m x = _
    unfold bindC
    exact bindC_get (i := i) (List.nodup_cons.mp nd).2 (by simpa using h1) (by simpa using h2) hk
def start (N : List Str) (vs : List V) : St := vs.map some ++ List.replicate (N.length - vs.length) none
def cxOf (CX : CXT) (P : Program) (w : World) (K : PySem.W.Frag) (mg : Str -> Option Value) (base : Heap) (N : List Str) (qual : Str) (scope : Scope) (f : Addr) (cd : Value) (A : Around) (outer : List Env) (s : Shared) (H : Hp) (E : XK) : Cx where
  prog := P
  w := w
  K := K
  mg := mg
  base := base
  A := A.deeper (envOfC qual scope s.heap.objs.size f cd)
  N := N
  s_0 := s
  H_0 := H
  env := envOfC qual scope s.heap.objs.size f cd
  outer := outer
  stack := envOfC qual scope s.heap.objs.size f cd :: outer
  ex := []
  calm := true
  fn := fun _ => true
  pn := []
  xe := fun e s' => wpAny (model P w) (A.deeper (envOfC qual scope s.heap.objs.size f cd)) (leaving (envOfC qual scope s.heap.objs.size f cd) e) (fun _ s'' => CX outer H s E e s'') (fun e' s'' => CX outer H s E e' s'') s'
theorem cell_has {sc : Scope} {n : Nat} {x : Str} (h : sc.names.lookup x = some .cell) : ∃ c, (cellsFrom n sc.names []).lookup x = some c := by
  have q := PySem.W.cellsFrom_some sc.names n [] (.inl h)
  exact Option.isSome_iff_exists.mp q
theorem inv_start {CX : CXT} {P : Program} {w : World} {K : PySem.W.Frag} {mg : Str -> Option Value} {base : Heap} {N ps : List Str} {qual : Str} {scope : Scope} {f : Addr} {cd : Value} {A : Around} {outer : List Env} {s s1 : Shared} {H : Hp} {E : XK} {us : List Value} {vs : List V}
    (S : FnScope N ps scope) (hd : A.handled = none) (e0 : Env0 P w K mg base A outer s H) (hl : vs.length = ps.length) (r : Vals vs us)
    (x : InCallC s s.heap.objs.size (bindL (envOfC qual scope s.heap.objs.size f cd).kindOf (ps.zip us) fun _ => none) (cellsFrom (s.heap.objs.size + 1) scope.names []) (bindC (envOfC qual scope s.heap.objs.size f cd).kindOf (ps.zip us) fun _ => none) s1) :
    Inv (cxOf CX P w K mg base N qual scope f cd A outer s H E) [] (start N vs) H s1 := by
  have hpl : ps.length <= N.length := by have := congrArg List.length S.pre; rw [List.length_take] at this; omega
  obtain ⟨h1, tk, rfl, hk⟩ := x.done
  have noA : ∀ b : Addr, b ∉ (cxOf CX P w K mg base N qual scope f cd A outer s H E).ex := fun b z => absurd (show b ∈ ([] : List Addr) from z) (by simp)
  refine ⟨⟨e0.mod, S.kind, rfl, rfl, Nat.le_refl _, fun y z c h1 h2 => ?_, fun y hy => ?_, fun y c _ h => ?_, fun _ => hd, Around.frames_deeper e0.frames, .inr ⟨rfl, rfl⟩, fun b z => absurd z (noA b), e0.bs, e0.bsz, fun b _ _ => noA b, fun b z => absurd z (noA b), e0.funs, e0.frf⟩,
    rfl, e0.bare, Un.kept hk, ⟨_, x.toInCall.ns, fun i y v h1 h2 h3 => ?_⟩, fun y c h => ⟨_, x.cell y c h⟩, e0.hok.fresh (Nat.le_refl _), fun y c h => ?_, fun p hp => absurd (show p ∈ ([] : List (Addr × Obj)) from hp) (by simp), e0.hok.kept hk, ?_⟩
  . exact name_of_addr x.apart (PySem.mem_of_lookup h1) (PySem.mem_of_lookup h2)
  . have hy : scope.names.lookup y = some .cell \/ scope.names.lookup y = some .free := hy
    rcases hy with hy | hy
    . exact cell_has hy
    . exact absurd rfl (S.nofree _ (PySem.mem_of_lookup hy))
  . exact Nat.le_of_lt (x.above y c (PySem.mem_of_lookup h))
  . have hi : i < vs.length := by
      unfold start at h2
      by_cases hi : i < vs.length
      . exact hi
      . rw [List.getElem?_append_right (by simpa using hi)] at h2
        rw [List.getElem?_replicate] at h2
        split at h2 <;> cases h2
    have ha : vs[i]? = some v := by
      unfold start at h2
      rw [List.getElem?_append_left (by simpa using hi), List.getElem?_map] at h2
      cases e : vs[i]? with
      | none => rw [e] at h2; cases h2
      | some a => rw [e] at h2; cases h2; rfl
    obtain ⟨u, hu, rv⟩ := r.get ha
    have hp : ps[i]? = some y := by
      rw [<- S.pre, List.getElem?_take_of_lt (by omega)]; exact h1
    have ndP : ps.Nodup := by rw [<- S.pre]; exact S.nd.sublist (List.take_sublist _ _)
    refine ⟨u, rv, ?_⟩
    rcases S.par y (List.mem_of_getElem? hp) with k | k
    . exact .inl ⟨k, bindL_get ndP hp hu k⟩
    . obtain ⟨c, e⟩ := cell_has (n := s.heap.objs.size + 1) k
      refine .inr ⟨.inl k, c, e, ?_⟩
      have q := x.cell y c e
      rw [bindC_get ndP hp hu (by show scope.names.lookup y ≠ _; rw [k]; decide)] at q
      exact q
  . exact e0.hok.fresh (Nat.le_of_lt (x.above y c (PySem.mem_of_lookup h)))
  . unfold start
    show _ = N.length
    rw [List.length_append, List.length_map, List.length_replicate]
    omega
theorem fn_of {CX : CXT} {P : Program} {w : World} {K : PySem.W.Frag} {mg : Str -> Option Value} {base : Heap} {k : Nat} {f : Addr} {name qual : Str} {params : Arguments} {body : List Stmt} {scope : Scope} {dV kV doc pm cdv ct oc : Value} {an od : Option Addr}
    {osl : Array (Option Value)} {N ps : List Str} {sp : Sp} (lk : K.lookup f = some ⟨oc, od, .func (PySem.W.fnOf name qual params body scope dV kV doc pm an cdv ct), osl⟩) (hcd : PySem.W.codeIn K cdv qual = true) (S : FnScope N ps scope)
    (len : ∀ vs H Q E, sp vs H Q E -> vs.length = ps.length)
    (hbody : ∀ (A : Around) (outer : List Env) (s : Shared) (H : Hp) (vs : List V) (Q : VK) (E : XK), Room k (A.deeper (envOfC qual scope s.heap.objs.size f cdv)) -> sp vs H Q E ->
      ∃ t, PSs (cxOf CX P w K mg base N qual scope f cdv A outer s H E) body t /\ t { nx := fun _ H' => Q .non H', rt := Q } (start N vs) H) :
    FnOk P w K mg base CX (k + 1) f (PySem.W.fnOf name qual params body scope dV kV doc pm an cdv ct) ps sp := by
  refine ⟨len, fun A outer s H args us vs Q E hr e0 hb r hsp => ?_⟩
  have hl := len _ _ _ _ hsp
  have KX : K.In s.heap := e0.mod.kin.keeps fun b o e => (e0.bs b o e).1
  have lim : s.heap.NoLimit := e0.mod.nolimit.keeps fun b o e => (e0.bs b o e).1
  have hkind : ∀ y ∈ ps.zip us, scope.names.lookup y.1 = some .local \/ (scope.names.lookup y.1 = some .cell /\ ((cellsFrom (s.heap.objs.size + 1) scope.names []).lookup y.1).isSome = true) := fun ⟨n, v⟩ hy => by
    rcases S.par n (List.of_mem_zip hy).1 with q | q
    . exact .inl q
    . exact .inr ⟨q, PySem.W.cellsFrom_some _ _ _ (.inl q)⟩
  refine codeAny_call_function hr.depth (KX _ _ lk) rfl S.co S.gen rfl (PySem.W.codeRec_of KX hcd) (hb _ _ _ _ ?_)
  refine wpAny_newFunctionEnv_cells S.kind hkind fun env he s1 x => ?_
  subst he
  refine ⟨lim.keeps x.toInCall.keep, codeAny_func ?_⟩
  obtain ⟨t, ht, hq⟩ := hbody A outer s H vs Q E (hr.deeper _) hsp
  have I : Inv (cxOf CX P w K mg base N qual scope f cdv A outer s H E) [] (start N vs) H s1 := inv_start S hr.hd e0 hl r x
  refine wpAny_mono (ht [] s1 (start N vs) H _ I hq) (fun fl s' hs => ?_) fun e s' hs => hs
  have fin : ∀ {σ' : St} {H' : Hp} {v : V} {u : Value}, Inv (cxOf CX P w K mg base N qual scope f cdv A outer s H E) [] σ' H' s' -> RelV v u -> Q v H' -> CE outer P w H s Q u s' :=
    fun {σ' H' v u} J rv q => ⟨v, H', J.os, J.bare, J.base, J.hok, rv, q⟩
  cases fl with
  | ret u =>
    obtain ⟨v, σ', H', J, rv, q⟩ := hs
    exact fin J rv q
  | next =>
    obtain ⟨σ', H', J, q⟩ := hs
    exact fin (v := V.non) (u := Value.none) J rfl q
  | brk =>
    obtain ⟨_, _, _, q⟩ := hs
    exact False.elim q
  | cont =>
    obtain ⟨_, _, _, q⟩ := hs
    exact False.elim q
section
variable {X : Cx} {x : Str} {p pos : Pos} {e : Expr} {es : List Expr} {t : TA} {id T : String} {r : List V -> Hp -> VK -> Prop}
def tCB (r : List V -> Hp -> VK -> Prop) (t : TA) : TE := fun σ H Q => t σ H fun vs H1 => r vs H1 Q
theorem pe_callB (hc : CallR X (.builtin id) r) (hg : Gl X x) (hm : X.mg x = none) (hv : bootBuiltins x = some (.builtin id)) (ha : PA X (e :: es) t) (hn : x ≠ "__name__" := by decide) (hdb : (x == ("__debug__" : Str)) = false := by decide)
    (he : starEach (e :: es) X.env = (false, eval e X.env) :: starEach es X.env := by rfl) (hpl : (backTo pos (starEach es X.env)).any (·.1) = false := by rfl) : PE X (.Call (.Name x p) (e :: es) [] pos) (tCB r t) := by
  intro pins s σ H Q I h
  refine wpAny_Call_Name_kw (ld_blt I hg hm hv ?_ hn hdb)
  exact PyProof.Rows.callWith_builtin1 (thn (ha pos pins s σ H _ I h) fun us s1 ⟨vs, H1, I1, r1, q1⟩ => hc pins s1 σ H1 vs us Q I1 r1 q1) he hpl
theorem pe_callTy (hc : CallR X (.type T) r) (hg : Gl X x) (hm : X.mg x = none) (hv : bootBuiltins x = some (.type T)) (ha : PA X (e :: es) t) (hn : x ≠ "__name__" := by decide) (hdb : (x == ("__debug__" : Str)) = false := by decide)
    (he : starEach (e :: es) X.env = (false, eval e X.env) :: starEach es X.env := by rfl) (hpl : (backTo pos (starEach es X.env)).any (·.1) = false := by rfl) : PE X (.Call (.Name x p) (e :: es) [] pos) (tCB r t) := by
  intro pins s σ H Q I h
  refine wpAny_Call_Name_kw (ld_blt I hg hm hv ?_ hn hdb)
  exact PyProof.Rows.callWith_type1 (thn (ha pos pins s σ H _ I h) fun us s1 ⟨vs, H1, I1, r1, q1⟩ => hc pins s1 σ H1 vs us Q I1 r1 q1) he hpl
end
end L2
namespace HT
open PySem PyProof.Rows
theorem rcLt_int (A : Around) (s : Shared) (a : Int) (t : Tok) (c : Int) (u : Tok) (prog : Program) (w : World) (E : Value -> Shared -> Prop) (Q : Value -> Shared -> Prop) (h : Q (.bool (decide (a < c))) s) :
    wpAny (model prog w) A (richCompare .Lt (.int a t) (.int c u)) Q E s :=
  (PyProof.Rows.lt_int h : wpAny (model prog w) A (compareOp .Lt (.int a t) (.int c u)) Q E s)
section
variable {prog : Program} {w : World} {A : Around} {E : Value -> Shared -> Prop} {s : Shared}
def sIx (n d : Nat) : Option Int -> Nat
  | none => d
  | some v => if v < 0 then (v + (n : Int)).toNat else min v.toNat n
theorem sIx_none (n d : Nat) : sIx n d none = d := rfl
theorem sIx_nat (n d k : Nat) : sIx n d (some (k : Int)) = min k n := by
  show (if (k : Int) < 0 then ((k : Int) + (n : Int)).toNat else min (k : Int).toNat n) = min k n
  rw [if_neg (by omega), Int.toNat_natCast]
end
end HT
namespace L2
open PySem PySem.Spec PyProof.Rows
abbrev TO := St -> Hp -> (Option Int -> Hp -> Prop) -> Prop
def PO (X : Cx) (e : Option Expr) (t : TO) : Prop :=
  ∀ (pins : List (Addr × Obj)) (s : Shared) (σ : St) (H : Hp) (Q : Option Int -> Hp -> Prop), Inv X pins σ H s -> t σ H Q ->
    wpAny (model X.prog X.w) X.A (evalPart e X.env) (fun u s' => ∃ o H', Inv X pins σ H' s' /\ IsPart u o /\ Q o H') X.xe s
def tNoPart : TO := fun _ H Q => Q none H
def tPart (t : TE) : TO := fun σ H Q => t σ H fun x H1 => ∃ i, x = .int i /\ Q (some i) H1
section
variable {X : Cx} {e : Expr} {te : TE} {lo hi : Option Expr} {tl th : TO} {pos p2 : Pos}
theorem po_none : PO X none tNoPart := by
  intro pins s σ H Q I h
  rw [evalPart_none]
  exact wpAny_pure ⟨none, H, I, .none, h⟩
theorem po_some (h : PE X e te) : PO X (some e) (tPart te) := by
  intro pins s σ H Q I hw
  rw [evalPart_some]
  refine thn (h pins s σ H _ I hw) fun u s1 ⟨x, H1, I1, r1, q1⟩ => ?_
  obtain ⟨i, rfl, q⟩ := q1
  obtain ⟨t, rfl⟩ := r1
  exact ⟨some i, H1, I1, .int i t, q⟩
def SlR (X : Cx) (r : V -> Option Int -> Option Int -> Hp -> VK -> Prop) : Prop :=
  ∀ (pins : List (Addr × Obj)) (s : Shared) (σ : St) (H : Hp) (x : V) (v vl vu : Value) (lo hi : Option Int) (sl : Addr) (Q : VK), Inv X pins σ H s -> RelV x v -> s.heap.IsSliceOf sl vl vu .none -> IsPart vl lo -> IsPart vu hi -> r x lo hi H Q ->
    ∃ T id, typeLookup (.type T) "__getitem__" = pure (some (.builtin id)) /\ s.TypeIs v T /\ wpAny (model X.prog X.w) X.A (getItem v (.ref sl)) (EP X pins σ Q) X.xe s
def tSl (r : V -> Option Int -> Option Int -> Hp -> VK -> Prop) (te : TE) (tl th : TO) : TE := fun σ H Q => te σ H fun x H1 => tl σ H1 fun l H2 => th σ H2 fun u H3 => r x l u H3 Q
theorem pe_slice {r : V -> Option Int -> Option Int -> Hp -> VK -> Prop} (hr : SlR X r) (he : PE X e te) (hl : PO X lo tl) (hu : PO X hi th) : PE X (.Subscript e (.Slice lo hi none p2) pos) (tSl r te tl th) := by
  intro pins s σ H Q I h
  refine Subscript_ (thn (he pins s σ H _ I h) fun v s1 ⟨x, H1, I1, r1, q1⟩ => ?_)
  refine wpAny_Slice (thn (hl pins s1 σ H1 _ I1 q1) fun vl s2 ⟨l, H2, I2, pl, q2⟩ => thn (hu pins s2 σ H2 _ I2 q2) fun vu s3 ⟨u, H3, I3, pu, q3⟩ => ?_)
  rw [evalPart_none]
  refine wpAny_pure ?_
  have I4 : Inv X pins σ H3 { s3 with heap := s3.heap.push { cls := .type "slice", data := .fields #[vl, vu, .none] } } := I3.kept (t' := s3.toks) fun b ob q => Heap.get?_push_of_some _ q
  obtain ⟨T, id, hT, ht, hg⟩ := hr pins { s3 with heap := s3.heap.push { cls := .type "slice", data := .fields #[vl, vu, .none] } } σ H3 x v vl vu l u s3.heap.objs.size Q I4 r1 (Heap.IsSliceOf.new ..) pl pu q3
  show wpAny (model X.prog X.w) X.A (subscriptTail e (.Slice lo hi none p2) v (.ref s3.heap.objs.size)) (EP X pins σ Q) X.xe { s3 with heap := s3.heap.push { cls := .type "slice", data := .fields #[vl, vu, .none] } }
  exact tail_any (ops := [.ref s3.heap.objs.size, v]) ht hT hg (by with_unfolding_all rfl)
def cutV (xs : List V) (lo hi : Option Int) : List V := (xs.drop (HT.sIx xs.length 0 lo)).take (HT.sIx xs.length xs.length hi - HT.sIx xs.length 0 lo)
theorem cutV_length (xs : List V) (lo hi : Option Int) : (cutV xs lo hi).length <= xs.length := by
  unfold cutV
  rw [List.length_take, List.length_drop]
  omega
end
def ixN (n : Nat) (i : Int) : Option Nat := if 0 <= i then (if i < n then some i.toNat else none) else if -(n : Int) <= i then some (i + n).toNat else none
def atI {α : Type} (xs : List α) (i : Int) : Option α := (ixN xs.length i).bind fun j => xs[j]?
theorem ixN_seq {n : Nat} {i : Int} {j : Nat} (h : ixN n i = some j) : seqIndex? i n = some j /\ j < n /\ -(n : Int) <= i /\ i < n := by
  unfold ixN at h
  by_cases h0 : 0 <= i
  . rw [if_pos h0] at h
    by_cases h1 : i < n
    . rw [if_pos h1] at h
      have e : i.toNat = j := Option.some.inj h
      exact ⟨by rw [seqIndex_of h0 h1, e], by omega, by omega, h1⟩
    . rw [if_neg h1] at h; cases h
  . rw [if_neg h0] at h
    by_cases h1 : -(n : Int) <= i
    . rw [if_pos h1] at h
      have e : (i + n).toNat = j := Option.some.inj h
      exact ⟨by rw [seqIndex_neg (by omega) h1, e], by omega, h1, by omega⟩
    . rw [if_neg h1] at h; cases h
theorem atI_get {α : Type} {xs : List α} {i : Int} {v : α} (h : atI xs i = some v) : ∃ j, seqIndex? i xs.length = some j /\ xs[j]? = some v /\ j < xs.length /\ -(xs.length : Int) <= i /\ i < xs.length := by
  unfold atI at h
  cases e : ixN xs.length i with
  | none => rw [e] at h; cases h
  | some j =>
    rw [e] at h
    obtain ⟨h1, h2, h3, h4⟩ := ixN_seq e
    exact ⟨j, h1, h, h2, h3, h4⟩
theorem atI_nat {α : Type} {xs : List α} {j : Nat} {v : α} (h : xs[j]? = some v) : atI xs (j : Int) = some v := by
  have hj : j < xs.length := (List.getElem?_eq_some_iff.mp h).1
  have e : ixN xs.length (j : Int) = some j := by
    unfold ixN
    rw [if_pos (by omega), if_pos (by omega)]; simp
  unfold atI; rw [e]; exact h
def PlainIx (b : Expr) : Prop := ∀ o i, subscripted b false o i = operate [o, i] (getItem o i)
def IxR (X : Cx) (r : R2) : Prop :=
  ∀ (value slice : Expr) (pins : List (Addr × Obj)) (s : Shared) (σ : St) (H : Hp) (x y : V) (v u : Value) (Q : VK), Inv X pins σ H s -> RelV x v -> RelV y u -> r x y H Q ->
    subscripted slice false v u = operate [v, u] (getItem v u) -> wpAny (model X.prog X.w) X.A (subscriptTail value slice v u) (EP X pins σ Q) X.xe s
def MtR (X : Cx) (id : String) (r : V -> List V -> Hp -> VK -> Prop) : Prop :=
  ∀ (pins : List (Addr × Obj)) (s : Shared) (σ : St) (H : Hp) (x : V) (xs : List V) (v : Value) (us : List Value) (Q : VK), Inv X pins σ H s -> RelV x v -> Vals xs us -> r x xs H Q ->
    wpAny (model X.prog X.w) X.A (call (.builtin id) (v :: us)) (EP X pins σ Q) X.xe s
section
variable {X : Cx} {a b : Expr} {ta tb : TE} {pos : Pos}
theorem pe_ix {r : R2} (hr : IxR X r) (ha : PE X a ta) (hb : PE X b tb) (hs : PlainIx b) : PE X (.Subscript a b pos) (tOp r ta tb) := by
  intro pins s σ H Q I h
  exact Subscript_ (binT ha hb I h fun v u s2 x y H2 I2 rx ry q => hr a b pins s2 σ H2 x y v u Q I2 rx ry q (hs _ _))
def rIxL (K : PySem.W.Frag) : R2 := fun x y H Q => ∃ p xs i v, x = .ref p /\ y = .int i /\ SqL K H p xs /\ atI xs i = some v /\ Q v H
def rIxT (K : PySem.W.Frag) : R2 := fun x y H Q => ∃ p xs i v, x = .ref p /\ y = .int i /\ SqT K H p xs /\ atI xs i = some v /\ Q v H
theorem ix_list : IxR X (rIxL X.K) := by
  intro value slice pins s σ H x y v u Q I rx ry h hs
  obtain ⟨p, xs, i, z, rfl, rfl, hq, he, q⟩ := h
  cases rx
  obtain ⟨t, rfl⟩ := ry
  obtain ⟨its, r, pl, hz⟩ := I.list hq
  obtain ⟨j, h1, h2, h3, h4, h5⟩ := atI_get he
  obtain ⟨w, ew, rw'⟩ := r.get h2
  have hl := r.length
  have hn := line63
  have fin : EP X pins σ Q w s := ⟨z, H, I, rw', q⟩
  by_cases h0 : 0 <= i
  . have hj : i.toNat = j := by
      rw [seqIndex_of h0 h5] at h1
      exact Option.some.inj h1
    exact item_listR pl.isList h0 (by omega) (by rw [hj]; simpa using ew) fin hs
  . have hj : (i + (its.toArray.size : Int)).toNat = j := by
      rw [seqIndex_neg (by omega) h4] at h1
      rw [List.size_toArray, <- hl]
      exact Option.some.inj h1
    exact subscriptTail_builtinR (x := w) pl.isList.typeIs slot_list_getitem.lookup
      (wpAny_getItem_list_neg (Q := fun r s' => r = w /\ EP X pins σ Q r s') pl.isList (by omega) (by rw [List.size_toArray] <;> omega) (by omega) (by rw [hj]; simpa using ew) ⟨rfl, fin⟩) hs
theorem ix_tup : IxR X (rIxT X.K) := by
  intro value slice pins s σ H x y v u Q I rx ry h hs
  obtain ⟨p, xs, i, z, rfl, rfl, hq, he, q⟩ := h
  cases rx
  obtain ⟨t, rfl⟩ := ry
  obtain ⟨its, r, pl, hz⟩ := I.tuple hq
  obtain ⟨j, h1, h2, h3, h4, h5⟩ := atI_get he
  obtain ⟨w, ew, rw'⟩ := r.get h2
  have hl := r.length
  have hn := line63
  have fin : EP X pins σ Q w s := ⟨z, H, I, rw', q⟩
  exact subscriptTail_builtinR (x := w) pl.typeIs slot_tuple_getitem.lookup
    (getItem_tuple (j := j) (Q := fun r s' => r = w /\ EP X pins σ Q r s') pl (by omega) (by omega) (by rw [List.size_toArray, <- hl]; exact h1) (by simpa using ew) ⟨rfl, fin⟩) hs
theorem mapSeq_set (its : List Value) (n j : Nat) (u : Value) : Obj.mapSeq (·.setIfInBounds j u) { cls := .type "list", data := .seq its.toArray n } = { cls := .type "list", data := .seq (its.set j u).toArray n } := by
  simp [Obj.mapSeq]
theorem Inv.lst {pins : List (Addr × Obj)} {σ : St} {H : Hp} {s : Shared} {p : Addr} {xs : List V} (I : Inv X pins σ H s) (h : H p = some (.lst xs)) :
    ∃ (its : List Value) (n : Nat), Vals xs its /\ s.heap.get? p = some { cls := .type "list", data := .seq its.toArray n } /\ xs.length <= sizeLine := by
  obtain ⟨z, its, n, r, e⟩ := I.hok p _ h
  exact ⟨its, n, r, e, z⟩
theorem Inv.lstUpd {pins : List (Addr × Obj)} {σ : St} {H : Hp} {s : Shared} {p : Addr} {xs ys : List V} {its its' : List Value} {n n' : Nat} {f : Obj -> Obj} (I : Inv X pins σ H s) (h : H p = some (.lst xs))
    (ho : s.heap.get? p = some { cls := .type "list", data := .seq its.toArray n }) (hf : f { cls := .type "list", data := .seq its.toArray n } = { cls := .type "list", data := .seq its'.toArray n' }) (r : Vals ys its') (hz : ys.length <= sizeLine) (t : Nat) :
    Inv X pins σ (upd H p (.lst ys)) { s with heap := s.heap.update p f, toks := t } := by
  have e : (s.heap.update p f).get? p = some { cls := .type "list", data := .seq its'.toArray n' } := by
    rw [Heap.get?_update_self f ho (by rw [hf] <;> rfl), hf]
  refine I.write (x := p) (e := p) (by rw [h]; trivial) (.inl rfl) (fun b u hb q => (Heap.get?_update_other _ _ (Ne.symm hb)).trans q) ⟨_, e⟩ ?_
  exact ⟨hz, its', n', r, e⟩
def rSetL : V -> V -> V -> Hp -> (Hp -> Prop) -> Prop := fun o i v H Q => ∃ p xs k j, o = .ref p /\ i = .int k /\ H p = some (.lst xs) /\ ixN xs.length k = some j /\ Q (upd H p (.lst (xs.set j v)))
theorem set_list : PSet X rSetL := by
  intro pins s σ H o i v ov iv u Q I ro ri rv h
  obtain ⟨p, xs, k, j, rfl, rfl, hp, hj, q⟩ := h
  cases ro
  obtain ⟨t, rfl⟩ := ri
  obtain ⟨its, n, r, ho, hz⟩ := I.lst hp
  obtain ⟨h1, h2, h3, h4⟩ := ixN_seq hj
  have hl := r.length
  have hn := line63
  have I' : Inv X pins σ (upd H p (.lst (xs.set j v))) { s with heap := s.heap.update p (Obj.mapSeq (·.setIfInBounds j u)) } :=
    I.lstUpd hp ho (mapSeq_set its n j u) (r.set rv j) (by rw [List.length_set]; exact hz) s.toks
  by_cases h0 : 0 <= k
  . have hk : k.toNat = j := by
      rw [seqIndex_of h0 h4] at h1
      exact Option.some.inj h1
    exact PySem.W.ki_setAt ho h0 (by omega) (by rw [List.size_toArray, <- hl]; exact h4) (by rw [hk]; exact ⟨_, I', q⟩)
  . have hk : (k + (its.toArray.size : Int)).toNat = j := by
      rw [seqIndex_neg (by omega) h3] at h1
      rw [List.size_toArray, <- hl]
      exact Option.some.inj h1
    exact PySem.W.ki_setBack ho (by omega) (by rw [List.size_toArray, <- hl]; exact h3) (by omega) (by rw [hk]; exact ⟨_, I', q⟩)
theorem slice_bounds (lo hi : Option Int) (n : Nat) : (sliceBounds lo hi none n).1 = ((HT.sIx n 0 lo : Nat) : Int) /\ (sliceBounds lo hi none n).2.1 = ((HT.sIx n n hi : Nat) : Int) /\ (sliceBounds lo hi none n).2.2 = 1 := by
  refine ⟨?_, ?_, rfl⟩
  . cases lo with
    | none => simp [sliceBounds, HT.sIx]
    | some i =>
      simp only [sliceBounds, HT.sIx, Option.getD_none, show (1 : Int) > 0 by decide, if_true]
      by_cases h : i < 0
      . simp only [h, if_true] <;> omega
      . simp only [h, if_false] <;> omega
  . cases hi with
    | none => simp [sliceBounds, HT.sIx]
    | some i =>
      simp only [sliceBounds, HT.sIx, Option.getD_none, show (1 : Int) > 0 by decide, if_true]
      by_cases h : i < 0
      . simp only [h, if_true] <;> omega
      . simp only [h, if_false] <;> omega
theorem slicePick_cut (its : List Value) (lo hi : Option Int) : slicePick its.toArray lo hi none = ((its.drop (HT.sIx its.length 0 lo)).take (HT.sIx its.length its.length hi - HT.sIx its.length 0 lo)).toArray := by
  obtain ⟨h1, h2, h3⟩ := slice_bounds lo hi its.toArray.size
  unfold slicePick
  rw [h1, h2, h3]
  simp only [sliceRange_one, pick_run, List.size_toArray] <;> rfl
def rSlL (K : PySem.W.Frag) : V -> Option Int -> Option Int -> Hp -> VK -> Prop := fun x lo hi H Q => ∃ a xs, x = .ref a /\ SqL K H a xs /\ ∀ p, H p = none -> Q (.ref p) (upd H p (.lst (cutV xs lo hi)))
theorem sl_list : SlR X (rSlL X.K) := by
  intro pins s σ H x v vl vu lo hi sl Q I rx hs pl pu h
  obtain ⟨a, xs, rfl, hx, q⟩ := h
  cases rx
  obtain ⟨its, r, ht, hz⟩ := I.list hx
  have hlen := r.length
  refine ⟨"list", _, slot_list_getitem.lookup, ht.isList.typeIs, ?_⟩
  refine wpAny_getItem_list_slice ht.isList hs pl pu .none (by simp) ?_ (by rw [List.size_toArray] <;> omega)
  rw [slicePick_cut, <- hlen]
  refine ⟨.ref s.heap.objs.size, _, I.laid (t' := s.toks) (o := .lst (cutV xs lo hi)) (fun b ob q => Heap.get?_push_of_some _ q) (Nat.le_refl _) ?_, rfl, q _ (I.hok.fresh (Nat.le_refl _))⟩
  exact ⟨Nat.le_trans (cutV_length xs lo hi) hz, _, 0, (r.drop (HT.sIx xs.length 0 lo)).take (HT.sIx xs.length xs.length hi - HT.sIx xs.length 0 lo), Heap.get?_push_size _ rfl⟩
theorem call_len_seq : CallR X (.builtin "len") (fun xs H Q => ∃ p ys, xs = [.ref p] /\ (SqL X.K H p ys \/ SqT X.K H p ys) /\ Q (.int ys.length) H) := by
  intro pins s σ H xs us Q I r h
  obtain ⟨p, ys, rfl, hq, q⟩ := h
  obtain ⟨u, rfl, rx⟩ := vals1 r
  cases rx
  have hn := line63
  rcases hq with hq | hq
  . obtain ⟨its, r', pl, hz⟩ := I.list hq
    have hlen := r'.length
    exact Calls.call_len_list pl.isList (by simp only [List.size_toArray] <;> omega) ⟨.int ys.length, H, I.tok _, ⟨s.toks + 1, by rw [List.size_toArray, hlen]⟩, q⟩
  . obtain ⟨its, r', pl, hz⟩ := I.tuple hq
    have hlen := r'.length
    exact len_tuple pl (by simp only [List.size_toArray] <;> omega) ⟨.int ys.length, H, I.tok _, ⟨s.toks + 1, by rw [List.size_toArray, hlen]⟩, q⟩
theorem call_list_of : CallR X (.type "list") (fun xs H Q => ∃ p ys, xs = [.ref p] /\ (SqL X.K H p ys \/ SqT X.K H p ys) /\ ∀ l, H l = none -> Q (.ref l) (upd H l (.lst ys))) := by
  intro pins s σ H xs us Q I r h
  obtain ⟨p, ys, rfl, hq, q⟩ := h
  obtain ⟨u, rfl, rx⟩ := vals1 r
  cases rx
  have fin : ∀ (its : List Value), Vals ys its -> ys.length <= sizeLine -> ∀ (h' : Heap) (c' : Nat), (∀ b o', s.heap.get? b = some o' -> h'.get? b = some o') ->
      h'.get? s.heap.objs.size = some { cls := .type "list", dict := none, data := .seq its.toArray c', slots := #[] } -> EP X pins σ Q (.ref s.heap.objs.size) { s with heap := h' } := fun its r' hz h' c' kp e =>
    ⟨.ref s.heap.objs.size, _, I.laid (t' := s.toks) kp (Nat.le_refl _) (show ObjOk X.prog X.w _ h' _ (.lst ys) from ⟨hz, its, c', r', e⟩), rfl, q _ (I.hok.fresh (Nat.le_refl _))⟩
  rcases hq with hq | hq
  . obtain ⟨its, r', pl, hz⟩ := I.list hq
    have hlen := r'.length
    obtain ⟨o, ho, hc, n, hd⟩ := pl.isList
    exact call_list_seq p (.inl rfl) ho hc hd (fun h' c' kp e => fin its r' hz h' c' kp e) (by simp only [List.size_toArray] <;> omega)
  . obtain ⟨its, r', pl, hz⟩ := I.tuple hq
    have hlen := r'.length
    obtain ⟨o, ho, hc, n, hd⟩ := pl
    exact call_list_seq p (.inr rfl) ho hc hd (fun h' c' kp e => fin its r' hz h' c' kp e) (by simp only [List.size_toArray] <;> omega)
def tyV (K : PySem.W.Frag) (T : String) (x : V) (H : Hp) : Prop := match x with
  | .str _ => T = "str"
  | .int _ => T = "int"
  | .ref p => (T = "list" /\ ∃ xs, SqL K H p xs) \/ (T = "tuple" /\ ∃ o, K.lookup p = some o /\ o.cls = .type "tuple" /\ o.dict = none) \/
      (T = "dict" /\ ((∃ kvs, H p = some (.dK kvs)) \/ ∃ kvs, H p = some (.dT kvs))) \/ (T = "set" /\ ∃ S n, H p = some (.set S n))
  | _ => False
theorem tyV_is {pins : List (Addr × Obj)} {σ : St} {H : Hp} {s : Shared} {T : String} {x : V} {v : Value} (I : Inv X pins σ H s) (r : RelV x v) (ty : tyV X.K T x H) :
    s.TypeIs v T /\ ∀ a, v = .ref a -> ∃ ob, s.heap.get? a = some ob /\ ob.dict = none := by
  cases x with
  | str z =>
    obtain ⟨t, rfl⟩ := r
    cases (show T = "str" from ty)
    exact ⟨typeIs_str s z t, fun _ e => nomatch e⟩
  | int i =>
    obtain ⟨t, rfl⟩ := r
    cases (show T = "int" from ty)
    exact ⟨typeIs_int s i t, fun _ e => nomatch e⟩
  | ref p =>
    cases r
    rcases ty with ⟨rfl, xs, hq⟩ | ⟨rfl, o, hk, hc, hd⟩ | ⟨rfl, hk⟩ | ⟨rfl, S, n, hk⟩
    . obtain ⟨its, _, pl, _⟩ := I.list hq
      refine ⟨pl.isList.typeIs, fun a e => ?_⟩
      cases e
      obtain ⟨o, n, e, c, hd, _⟩ := pl
      exact ⟨o, e, hd⟩
    . refine ⟨⟨o, I.kIn p o hk, hc⟩, fun a e => ?_⟩
      cases e
      exact ⟨o, I.kIn _ o hk, hd⟩
    . have z : ∃ o, s.heap.get? p = some o /\ o.ExactDict := by
        rcases hk with ⟨kvs, hk⟩ | ⟨kvs, hk⟩
        . obtain ⟨_, _, _, _, o, _, _, e, ex, _⟩ := I.hok p _ hk
          exact ⟨o, e, ex⟩
        . obtain ⟨_, _, _, _, o, _, _, e, ex, _⟩ := I.hok p _ hk
          exact ⟨o, e, ex⟩
      obtain ⟨o, e, ex⟩ := z
      refine ⟨⟨o, e, ex.1⟩, fun a e2 => ?_⟩
      cases e2
      exact ⟨o, e, ex.2.1⟩
    . obtain ⟨o, _, _, _, e, ex, _⟩ := I.hok p _ hk
      refine ⟨⟨o, e, ex.1⟩, fun a e2 => ?_⟩
      cases e2
      exact ⟨o, e, ex.2.1⟩
  | _ => exact False.elim ty
def tBM0 (K : PySem.W.Frag) (T : String) (r : V -> List V -> Hp -> VK -> Prop) (to : TE) : TE := fun σ H Q => to σ H fun x H1 => tyV K T x H1 /\ r x [] H1 Q
def tBM (K : PySem.W.Frag) (T : String) (r : V -> List V -> Hp -> VK -> Prop) (to : TE) (t : TA) : TE := fun σ H Q => to σ H fun x H1 => tyV K T x H1 /\ t σ H1 fun xs H2 => r x xs H2 Q
variable {o e : Expr} {es : List Expr} {to : TE} {t : TA} {name : Str} {apos cpos : Pos} {T id : String} {r : V -> List V -> Hp -> VK -> Prop}
theorem pe_bm0 (pa : PlainAttrs T) (slot : Slot T name id) (hty : typeOf (.builtin id) = pure (.type "method_descriptor")) (hm : MtR X id r) (ho : PE X o to)
    (hbase : attributeBase o name X.env (eval o X.env) = eval o X.env := by rfl) (hline : (apos.endLine == cpos.line) = true := by rfl) : PE X (.Call (.Attribute o name apos) [] [] cpos) (tBM0 X.K T r to) := by
  intro pins s σ H Q I h
  refine wpAny_Call_method0_late hbase hline (thn (ho pins s σ H _ I h) fun v s1 ⟨x, H1, I1, r1, ty, q1⟩ => ?_)
  obtain ⟨h1, h2⟩ := tyV_is I1 r1 ty
  exact ⟨T, id, pa, slot, hty, h1, h2, Calls.callWith_builtin rfl (PySem.evalArgs_none (hm pins s1 σ H1 x [] v [] Q I1 r1 .nil q1))⟩
theorem pe_bm (pa : PlainAttrs T) (slot : Slot T name id) (hty : typeOf (.builtin id) = pure (.type "method_descriptor")) (hm : MtR X id r) (ho : PE X o to) (ha : PA X (e :: es) t)
    (hbase : attributeBase o name X.env (eval o X.env) = eval o X.env := by rfl)
    (hfew : ((backTo cpos (starEach (e :: es) X.env)).all (fun x => !x.1) && (backToKw cpos (keywordEach [] X.env)).all (fun x => x.1.isSome)
      && decide ((e :: es).length + ([] : List Keyword).length + (if ([] : List Keyword).isEmpty then 0 else 1) < 30)) = true := by rfl)
    (hline : (apos.endLine == cpos.line) = true := by rfl) (hs : starEach (e :: es) X.env = (false, eval e X.env) :: starEach es X.env := by rfl) (hplain : (backTo cpos (starEach es X.env)).any (·.1) = false := by rfl) :
    PE X (.Call (.Attribute o name apos) (e :: es) [] cpos) (tBM X.K T r to t) := by
  intro pins s σ H Q I h
  refine wpAny_Call_method_late hbase hfew hline rfl (thn (ho pins s σ H _ I h) fun v s1 ⟨x, H1, I1, r1, ty, q1⟩ => ?_)
  obtain ⟨h1, h2⟩ := tyV_is I1 r1 ty
  refine ⟨T, id, pa, slot, hty, h1, h2, ?_⟩
  have hA := ha cpos pins s1 σ H1 _ I1 q1
  rw [hs] at hA ⊢
  refine Calls.callWith_builtin (by show (false || (backTo cpos (starEach es X.env)).any (·.1)) = false; rw [hplain] <;> rfl) (Calls.evalArgs_plain ?_)
  exact thn hA fun us s2 ⟨vs, H2, I2, r2, q2⟩ => hm pins s2 σ H2 x vs v us Q I2 r1 r2 q2
/- xs.append(e), list.index on a module's tuple .. are MtR facts of 06m -/
end
def MtM (X : Cx) (id : String) (r : V -> List V -> Hp -> VK -> Prop) : Prop :=
  ∀ (pins : List (Addr × Obj)) (s : Shared) (σ : St) (H : Hp) (x : V) (xs : List V) (v : Value) (us : List Value) (Q : VK), Inv X pins σ H s -> RelV x v -> Vals xs us -> r x xs H Q ->
    wpAny (model X.prog X.w) X.A (call (.builtin id) (v :: us)) (EP X pins σ Q) X.xe s
theorem Vals.one : ∀ {x : V} {us : List Value}, Vals [x] us -> ∃ u, us = [u] /\ RelV x u
  | _, _, .cons r .nil => ⟨_, rfl, r⟩
theorem Vals.two : ∀ {x y : V} {us : List Value}, Vals [x, y] us -> ∃ u v, us = [u, v] /\ RelV x u /\ RelV y v
  | _, _, _, .cons r (.cons q .nil) => ⟨_, _, rfl, r, q⟩
theorem Vals.zero : ∀ {us : List Value}, Vals [] us -> us = []
  | _, .nil => rfl
theorem Vals.dropLast {xs : List V} {us : List Value} (h : Vals xs us) : Vals xs.dropLast us.dropLast := by
  induction h with
  | nil => exact .nil
  | cons r t ih =>
    cases t with
    | nil => exact .nil
    | cons q t' => exact .cons r ih
theorem erase_last {α : Type} (l : List α) : l.eraseIdx (l.length - 1) = l.dropLast := by
  induction l with
  | nil => rfl
  | cons a r ih =>
    cases r with
    | nil => rfl
    | cons b r =>
      have e : (a :: b :: r).length - 1 = ((b :: r).length - 1) + 1 := by
        have h1 : (a :: b :: r).length = r.length + 2 := rfl
        have h2 : (b :: r).length = r.length + 1 := rfl
        omega
      rw [e, List.eraseIdx_cons_succ, ih]
      all_goals rfl
section
variable {X : Cx} {pins : List (Addr × Obj)} {σ : St} {H : Hp} {s : Shared} {l b : Addr} {xs ys zs : List V}
theorem Inv.lset {its its' : List Value} {n : Nat} {f : Array Value -> Array Value} {t' : Nat} (I : Inv X pins σ H s) (hH : H l = some (.lst xs))
    (e : s.heap.get? l = some { cls := .type "list", data := .seq its.toArray n }) (hf : f its.toArray = its'.toArray) (hv : Vals ys its') (hz : ys.length <= sizeLine) :
    Inv X pins σ (upd H l (.lst ys)) { s with heap := s.heap.update l (Obj.mapSeq f), toks := t' } := by
  have q := PySem.IsL.update e f
  rw [hf] at q
  refine I.write (x := l) (e := l) (by rw [hH]; exact trivial) (.inl rfl) (fun b' u hb hu => (Heap.get?_update_other s.heap (Obj.mapSeq f) (Ne.symm hb)).trans hu) ⟨_, q⟩ ?_
  exact ⟨hz, its', _, hv, q⟩
theorem Inv.lnew {its : List Value} {t' : Nat} (I : Inv X pins σ H s) (hv : Vals ys its) (hz : ys.length <= sizeLine) :
    Inv X pins σ (upd H s.heap.objs.size (.lst ys)) { s with heap := s.heap.push { cls := .type "list", data := .seq its.toArray }, toks := t' } :=
  I.laid (fun _ _ q => Heap.get?_push_of_some _ q) (Nat.le_refl _) ⟨hz, its, 0, hv, Heap.get?_push_size _ rfl⟩
theorem Inv.fresh (I : Inv X pins σ H s) : H s.heap.objs.size = none := I.hok.fresh (Nat.le_refl _)
theorem Inv.lstM (I : Inv X pins σ H s) (hH : H l = some (.lst xs)) : xs.length <= sizeLine /\ ∃ (its : List Value) (n : Nat), Vals xs its /\ xs.length = its.length /\ s.heap.get? l = some { cls := .type "list", data := .seq its.toArray n } := by
  obtain ⟨z, its, n, r, e⟩ := I.hok l _ hH
  exact ⟨z, its, n, r, r.length, e⟩
theorem notLongL {n : Nat} (h : n <= sizeLine) : Builtin.List.listTooLong n = false := by
  unfold Builtin.List.listTooLong
  exact decide_eq_false (by omega)
end
section
variable {X : Cx}
def rAppend : V -> List V -> Hp -> VK -> Prop := fun x vs H Q => ∃ l xs y, x = .ref l /\ vs = [y] /\ H l = some (.lst xs) /\ xs.length < sizeLine /\ Q .non (upd H l (.lst (xs ++ [y])))
theorem mt_append : MtM X "list.append" rAppend := by
  intro pins s σ H x vs v us Q I rx rv h
  obtain ⟨l, xs, y, rfl, rfl, hH, hz, q⟩ := h
  cases rx
  obtain ⟨u, rfl, ru⟩ := rv.one
  obtain ⟨z, its, n, r, hl, e⟩ := I.lstM hH
  refine call_meets F.slot_list_append ⟨_, e, rfl⟩ F.entry_list_append (F.args_list_append_2 _ _) (PySem.list_append l its.toArray n u (by rw [List.size_toArray]; omega)) ⟨e, ?_⟩
  refine ⟨.non, _, I.lset (its' := its ++ [u]) hH e (by simp) (r.append (.cons ru .nil)) ?_, rfl, q⟩
  rw [List.length_append, List.length_singleton]
  omega
def rExtend : V -> List V -> Hp -> VK -> Prop := fun x vs H Q => ∃ l b xs zs, x = .ref l /\ vs = [.ref b] /\ H l = some (.lst xs) /\ H b = some (.lst zs) /\ xs.length + zs.length <= sizeLine /\ Q .non (upd H l (.lst (xs ++ zs)))
theorem mt_extend : MtM X "list.extend" rExtend := by
  intro pins s σ H x vs v us Q I rx rv h
  obtain ⟨l, b, xs, zs, rfl, rfl, hH, hB, hz, q⟩ := h
  cases rx
  obtain ⟨u, rfl, ru⟩ := rv.one
  cases ru
  obtain ⟨z, its, n, r, hl, e⟩ := I.lstM hH
  obtain ⟨z2, its2, n2, r2, hl2, e2⟩ := I.lstM hB
  have hsz : its.toArray.size + its2.toArray.size <= sizeLine := by rw [List.size_toArray, List.size_toArray]; omega
  have hlong : ¬ (!its.toArray.isEmpty && Builtin.List.listTooLong (its.toArray.size + its2.toArray.size)) = true := by
    rw [notLongL hsz, Bool.and_false]
    exact Bool.false_ne_true
  refine call_meets F.slot_list_extend ⟨_, e, rfl⟩ F.entry_list_extend (F.args_list_extend_2 _ _)
    (AutoSeq1.list_extend_list_list_0 l its.toArray n b its2.toArray n2 hlong (by rw [List.size_toArray]; omega) (by omega)) ⟨e, e2, ?_⟩
  refine ⟨.non, _, I.lset (its' := its ++ its2) hH e (by simp) (r.append r2) ?_, rfl, q⟩
  rw [List.length_append]
  omega
def rPop : V -> List V -> Hp -> VK -> Prop := fun x vs H Q => ∃ l xs y, x = .ref l /\ vs = [] /\ H l = some (.lst xs) /\ xs[xs.length - 1]? = some y /\ Q y (upd H l (.lst xs.dropLast))
theorem mt_pop : MtM X "list.pop" rPop := by
  intro pins s σ H x vs v us Q I rx rv h
  obtain ⟨l, xs, y, rfl, rfl, hH, hy, q⟩ := h
  cases rx
  have hus := rv.zero
  subst hus
  obtain ⟨z, its, n, r, hl, e⟩ := I.lstM hH
  obtain ⟨u, hu, ru⟩ := r.get hy
  have hy' : its.toArray[its.toArray.size - 1]? = some u := by
    show its.toArray[its.length - 1]? = some u
    rw [<- Array.getElem?_toList, <- hl]
    exact hu
  refine call_meets F.slot_list_pop ⟨_, e, rfl⟩ F.entry_list_pop (F.args_list_pop_1 _) (MeetsSeq.list_pop_last l its.toArray n u hy' (by rw [List.size_toArray]; omega)) ⟨e, ?_⟩
  refine ⟨y, _, I.lset (its' := its.dropLast) hH e ?_ r.dropLast ?_, ru, q⟩
  . show its.toArray.eraseIdxIfInBounds (its.toArray.size - 1) = its.dropLast.toArray
    rw [List.size_toArray, List.eraseIdxIfInBounds_toArray, erase_last]
  . rw [List.length_dropLast]
    omega
def rCat : R2 := fun x y H Q => ∃ l b xs zs, x = .ref l /\ y = .ref b /\ H l = some (.lst xs) /\ H b = some (.lst zs) /\ xs.length + zs.length <= sizeLine /\ ∀ p, H p = none -> Q (.ref p) (upd H p (.lst (xs ++ zs)))
theorem op_cat : OpR X (binaryOp .Add) rCat := by
  intro pins s σ H x y v u Q I rx ry h
  obtain ⟨l, b, xs, zs, rfl, rfl, hH, hB, hz, q⟩ := h
  cases rx
  cases ry
  obtain ⟨z, its, n, r, hl, e⟩ := I.lstM hH
  obtain ⟨z2, its2, n2, r2, hl2, e2⟩ := I.lstM hB
  refine PySem.P.add_list e e2 ?_ (by rw [List.size_toArray, List.size_toArray]; omega)
  have ea : its.toArray ++ its2.toArray = (its ++ its2).toArray := by simp
  rw [ea]
  exact ⟨.ref _, _, I.lnew (t' := s.toks) (r.append r2) (by rw [List.length_append]; omega), rfl, q _ I.fresh⟩
end
theorem Vals.ints : ∀ {ns : List Int} {us : List Value}, Vals (ns.map V.int) us -> IntsAre us ns
  | [], us, h => by
    rw [List.map_nil] at h
    cases h
    exact IntsAre.nil
  | n :: ns, us, h => by
    rw [List.map_cons] at h
    cases h with
    | cons r t =>
      obtain ⟨k, rfl⟩ := r
      exact IntsAre.cons n k (Vals.ints t)
theorem Vals.ref1 {a : Addr} {us : List Value} (r : Vals [V.ref a] us) : us = [Value.ref a] := by
  cases r with
  | cons r t =>
    cases t
    cases r
    rfl
section
variable {prog : Program} {w : World} {A : Around} {E : Value -> Shared -> Prop} {s : Shared} {l : Addr} {its : List Value} {ns : List Int} {Q : Value -> Shared -> Prop}
theorem sum_raw (hh : A.handled = none) (hl : s.heap.IsList l its.toArray) (hi : IntsAre its ns)
    (h : ∀ h' tk t', (∀ b o, s.heap.get? b = some o -> h'.get? b = some o) -> Q (.int ns.sum t') { s with heap := h', toks := tk }) : wpAny (model prog w) A (call (.builtin "sum") [.ref l]) Q E s := by
  obtain ⟨xs, e⟩ := hi.allInts.items
  have hn : numsOf (intItems xs).toList = ns := by rw [<- e]; exact hi.numsOf
  rw [nums_intItems] at hn
  rw [e] at hl
  refine PySem.sum_intListG hh hl fun h' tk t' hk => ?_
  have := h h' tk t' hk
  rw [preSum_eq, List.take_of_length_le (by simp), hn]; exact this
theorem max_raw (hh : A.handled = none) (hl : s.heap.IsList l its.toArray) (hi : IntsAre its ns) (hne : 0 < ns.length)
    (h : ∀ h' tk M t', (∀ b o, s.heap.get? b = some o -> h'.get? b = some o) -> M ∈ ns -> (∀ a, a ∈ ns -> a <= M) -> Q (.int M t') { s with heap := h', toks := tk }) : wpAny (model prog w) A (call (.builtin "max") [.ref l]) Q E s := by
  obtain ⟨xs, e⟩ := hi.allInts.items
  have hn : numsOf (intItems xs).toList = ns := by rw [<- e]; exact hi.numsOf
  rw [nums_intItems] at hn
  subst hn
  rw [e] at hl
  have hsz : 0 < xs.size := by simpa using hne
  refine PySem.max_intList hh hl hsz fun v h' tk hv hk => ?_
  obtain ⟨t, rfl⟩ := intItems_at hv
  obtain ⟨h1, h2⟩ := argBest_gt (numAt xs) (xs.size - 1)
  refine h h' tk _ t hk ?_ fun a ha => ?_
  . rw [numAt_eq]; exact PySem.getD_mem (by rw [List.length_map, Array.length_toList]; omega)
  . obtain ⟨j, hj, rfl⟩ := mem_getD ha
    rw [List.length_map, Array.length_toList] at hj
    rw [<- numAt_eq]; exact h2 j (by omega)
theorem min_raw (hh : A.handled = none) (hl : s.heap.IsList l its.toArray) (hi : IntsAre its ns) (hne : 0 < ns.length)
    (h : ∀ h' tk M t', (∀ b o, s.heap.get? b = some o -> h'.get? b = some o) -> M ∈ ns -> (∀ a, a ∈ ns -> M <= a) -> Q (.int M t') { s with heap := h', toks := tk }) : wpAny (model prog w) A (call (.builtin "min") [.ref l]) Q E s := by
  obtain ⟨xs, e⟩ := hi.allInts.items
  have hn : numsOf (intItems xs).toList = ns := by rw [<- e]; exact hi.numsOf
  rw [nums_intItems] at hn
  subst hn
  rw [e] at hl
  have hsz : 0 < xs.size := by simpa using hne
  refine PySem.min_intList hh hl hsz fun v h' tk hv hk => ?_
  obtain ⟨t, rfl⟩ := intItems_at hv
  obtain ⟨h1, h2⟩ := argBest_lt (numAt xs) (xs.size - 1)
  refine h h' tk _ t hk ?_ fun a ha => ?_
  . rw [numAt_eq]; exact PySem.getD_mem (by rw [List.length_map, Array.length_toList]; omega)
  . obtain ⟨j, hj, rfl⟩ := mem_getD ha
    rw [List.length_map, Array.length_toList] at hj
    rw [<- numAt_eq]; exact h2 j (by omega)
end
section
variable {X : Cx}
def rSum (K : PySem.W.Frag) : List V -> Hp -> VK -> Prop := fun vs H Q => ∃ (a : Addr) (ns : List Int), vs = [V.ref a] /\ SqL K H a (ns.map V.int) /\ Q (.int ns.sum) H
def rMax (K : PySem.W.Frag) : List V -> Hp -> VK -> Prop := fun vs H Q => ∃ (a : Addr) (ns : List Int), vs = [V.ref a] /\ SqL K H a (ns.map V.int) /\ 0 < ns.length /\ ∀ m, m ∈ ns -> (∀ y, y ∈ ns -> y <= m) -> Q (.int m) H
def rMin (K : PySem.W.Frag) : List V -> Hp -> VK -> Prop := fun vs H Q => ∃ (a : Addr) (ns : List Int), vs = [V.ref a] /\ SqL K H a (ns.map V.int) /\ 0 < ns.length /\ ∀ m, m ∈ ns -> (∀ y, y ∈ ns -> m <= y) -> Q (.int m) H
theorem cr_sum (hc : X.calm = true) : CallR X (.builtin "sum") (rSum X.K) := by
  intro pins s σ H vs us Q I r h
  obtain ⟨a, ns, rfl, hs, q⟩ := h
  obtain ⟨its, rv, hl, _⟩ := I.list hs
  rw [Vals.ref1 r]
  exact sum_raw (I.ok.hd hc) hl.isList rv.ints fun h' tk t' hk => ⟨.int _, H, I.kept hk, ⟨_, rfl⟩, q⟩
theorem cr_max (hc : X.calm = true) : CallR X (.builtin "max") (rMax X.K) := by
  intro pins s σ H vs us Q I r h
  obtain ⟨a, ns, rfl, hs, hne, q⟩ := h
  obtain ⟨its, rv, hl, _⟩ := I.list hs
  rw [Vals.ref1 r]
  exact max_raw (I.ok.hd hc) hl.isList rv.ints hne fun h' tk m t' hk h1 h2 => ⟨.int _, H, I.kept hk, ⟨_, rfl⟩, q m h1 h2⟩
theorem cr_min (hc : X.calm = true) : CallR X (.builtin "min") (rMin X.K) := by
  intro pins s σ H vs us Q I r h
  obtain ⟨a, ns, rfl, hs, hne, q⟩ := h
  obtain ⟨its, rv, hl, _⟩ := I.list hs
  rw [Vals.ref1 r]
  exact min_raw (I.ok.hd hc) hl.isList rv.ints hne fun h' tk m t' hk h1 h2 => ⟨.int _, H, I.kept hk, ⟨_, rfl⟩, q m h1 h2⟩
end
abbrev CellAt (h : Heap) (c : Addr) (v : Option Value) : Prop := h.IsCell c v
def relS (scope sc : Scope) : Scope :=
  { scope with names := scope.names.map fun (n, k) => if (k == .free && sc.kind == .function && sc.names.lookup n == some .cell) then (n, .cell) else (n, k) }
def cloFrom (cells : List (Str × Addr)) : List (Str × NameKind) -> List (Str × Addr) -> List (Str × Addr)
  | [], acc => acc
  | (n, k) :: r, acc => if k == .free then cloFrom cells r ((n, (cells.lookup n).getD 0) :: acc) else cloFrom cells r acc
theorem closure_loop (env : Env) (f : Str × NameKind -> List (Str × Addr) -> Sem (ForInStep (List (Str × Addr))))
    (hf : ∀ n k c, f (n, k) c = if k == .free then (do let a <- cellOf env n; pure (.yield ((n, a) :: c))) else pure (.yield c)) :
    ∀ (names : List (Str × NameKind)) (acc : List (Str × Addr)), (∀ y ∈ names, y.2 = .free -> ∃ c, env.cells.lookup y.1 = some c) -> forIn names acc f = pure (cloFrom env.cells names acc)
  | [], acc, _ => by rw [List.forIn_nil]; rfl
  | (n, k) :: r, acc, h => by
    rw [List.forIn_cons, hf]
    have ih := fun acc => closure_loop env f hf r acc fun y hy => h y (List.mem_cons_of_mem _ hy)
    unfold cloFrom
    by_cases hk : (k == NameKind.free) = true
    . rw [if_pos hk, if_pos hk]
      obtain ⟨c, hc⟩ := h (n, k) List.mem_cons_self (by simpa using hk)
      have e : cellOf env n = pure c := by unfold cellOf; rw [hc]
      rw [e]
      have e2 : (env.cells.lookup n).getD 0 = c := by rw [hc]; rfl
      rw [e2]
      exact ih _
    . rw [if_neg hk, if_neg hk]
      exact ih _
theorem closure_ok {scope : Scope} {env : Env} (h : ∀ y ∈ scope.names, y.2 = .free -> ∃ c, env.cells.lookup y.1 = some c) : closureFor scope env = pure (cloFrom env.cells scope.names []) := by
  simp only [closureFor]
  rw [closure_loop env _ (fun n k c => rfl) scope.names [] h]
  rfl
theorem mem_lookup {α : Type} : ∀ {l : List (Str × α)} {n : Str} {c : α}, (n, c) ∈ l -> ∃ c', l.lookup n = some c'
  | (k, v) :: r, n, c, h => by
    rw [List.lookup_cons]
    cases hb : n == k with
    | true => exact ⟨_, rfl⟩
    | false =>
      rcases List.mem_cons.mp h with e | h
      . cases e; simp at hb
      . exact mem_lookup h
theorem cloFrom_mem {cells : List (Str × Addr)} : ∀ {names : List (Str × NameKind)} {acc : List (Str × Addr)} {n : Str} {c : Addr}, (n, c) ∈ cloFrom cells names acc -> (n, c) ∈ acc \/ ((n, .free) ∈ names /\ c = (cells.lookup n).getD 0)
  | [], _, _, _, h => .inl h
  | (m, k) :: r, acc, n, c, h => by
    unfold cloFrom at h
    split at h
    . rename_i hk
      have hk : k = .free := by simpa using hk
      rcases cloFrom_mem h with h | ⟨h1, h2⟩
      . rcases List.mem_cons.mp h with e | h
        . cases e; exact .inr ⟨hk ▸ List.mem_cons_self, rfl⟩
        . exact .inl h
      . exact .inr ⟨List.mem_cons_of_mem _ h1, h2⟩
    . rcases cloFrom_mem h with h | ⟨h1, h2⟩
      . exact .inl h
      . exact .inr ⟨List.mem_cons_of_mem _ h1, h2⟩
theorem cloFrom_acc {cells : List (Str × Addr)} : ∀ {names : List (Str × NameKind)} {acc : List (Str × Addr)} {p : Str × Addr}, p ∈ acc -> p ∈ cloFrom cells names acc
  | [], _, _, h => h
  | (m, k) :: r, acc, p, h => by
    unfold cloFrom
    split
    . exact cloFrom_acc (List.mem_cons_of_mem _ h)
    . exact cloFrom_acc h
theorem cloFrom_has {cells : List (Str × Addr)} : ∀ {names : List (Str × NameKind)} {acc : List (Str × Addr)} {n : Str}, (n, .free) ∈ names -> (n, (cells.lookup n).getD 0) ∈ cloFrom cells names acc
  | (m, k) :: r, acc, n, h => by
    unfold cloFrom
    rcases List.mem_cons.mp h with e | h
    . cases e
      exact cloFrom_acc List.mem_cons_self
    . split
      . exact cloFrom_has h
      . exact cloFrom_has h
theorem cells_mem : ∀ {names : List (Str × NameKind)} {h : Heap} {acc : List (Str × Addr)} {x : Str} {c : Addr}, (x, c) ∈ cellsFrom h.objs.size names acc ->
    (x, c) ∈ acc \/ ((x, .cell) ∈ names /\ h.objs.size <= c /\ CellAt (pushCells h names) c none)
  | [], _, _, _, _, h => .inl h
  | (n, k) :: r, h, acc, x, c, hm => by
    unfold cellsFrom at hm
    unfold pushCells
    split at hm
    . rename_i hk
      rw [if_pos hk]
      have hk : k = .cell := by simpa using hk
      rw [<- Heap.size_push h { cls := .type "cell", data := .cell none }] at hm
      rcases cells_mem hm with hm | ⟨h1, h2, h3⟩
      . rcases List.mem_cons.mp hm with e | hm
        . cases e
          exact .inr ⟨hk ▸ List.mem_cons_self, Nat.le_refl _, _, pushCells_keeps r _ _ _ (Heap.get?_push_size _ rfl), rfl⟩
        . exact .inl hm
      . rw [Heap.size_push] at h2
        exact .inr ⟨List.mem_cons_of_mem _ h1, Nat.le_of_succ_le h2, h3⟩
    . rename_i hk
      rw [if_neg hk]
      rcases cells_mem hm with hm | ⟨h1, h2, h3⟩
      . exact .inl hm
      . exact .inr ⟨List.mem_cons_of_mem _ h1, h2, h3⟩
theorem cells_acc : ∀ {names : List (Str × NameKind)} {n : Nat} {acc : List (Str × Addr)} {p : Str × Addr}, p ∈ acc -> p ∈ cellsFrom n names acc
  | [], _, _, _, h => h
  | (m, k) :: r, n, acc, p, h => by
    unfold cellsFrom
    split
    . exact cells_acc (List.mem_cons_of_mem _ h)
    . exact cells_acc h
theorem cells_has : ∀ {names : List (Str × NameKind)} {n : Nat} {acc : List (Str × Addr)} {x : Str}, (x, .cell) ∈ names -> ∃ c, (x, c) ∈ cellsFrom n names acc
  | (m, k) :: r, n, acc, x, h => by
    unfold cellsFrom
    rcases List.mem_cons.mp h with e | h
    . cases e
      exact ⟨n, cells_acc List.mem_cons_self⟩
    . split
      . exact cells_has h
      . exact cells_has h
theorem cells_inj : ∀ {names : List (Str × NameKind)} {h : Heap} {acc : List (Str × Addr)} {x y : Str} {c : Addr}, (∀ p ∈ acc, p.2 < h.objs.size) -> (∀ x y c, (x, c) ∈ acc -> (y, c) ∈ acc -> x = y) ->
    (x, c) ∈ cellsFrom h.objs.size names acc -> (y, c) ∈ cellsFrom h.objs.size names acc -> x = y
  | [], _, _, _, _, _, _, hi, h1, h2 => hi _ _ _ h1 h2
  | (n, k) :: r, h, acc, x, y, c, hl, hi, h1, h2 => by
    unfold cellsFrom at h1 h2
    split at h1
    . rename_i hk
      rw [if_pos hk] at h2
      rw [<- Heap.size_push h { cls := .type "cell", data := .cell none }] at h1 h2
      refine cells_inj (h := h.push _) (fun p hp => ?_) (fun x y c a b => ?_) h1 h2
      . rw [Heap.size_push]
        rcases List.mem_cons.mp hp with rfl | hp
        . exact Nat.lt_succ_self _
        . exact Nat.lt_succ_of_lt (hl p hp)
      . rcases List.mem_cons.mp a with e | a <;> rcases List.mem_cons.mp b with e' | b
        . cases e; cases e'; rfl
        . cases e; exact absurd (hl _ b) (Nat.lt_irrefl _)
        . cases e'; exact absurd (hl _ a) (Nat.lt_irrefl _)
        . exact hi _ _ _ a b
    . rename_i hk
      rw [if_neg hk] at h2
      exact cells_inj hl hi h1 h2
theorem newEnv_comp {M : Model} {A : Around} {E : Value -> Shared -> Prop} {s : Shared} {scope : Scope} {globals : Addr} {closure : List (Str × Addr)} {qual : Str} {func : Option Addr} {code : Value} {around : Env} {builtins : Addr} {Q : Env -> Shared -> Prop}
    (h : Q (newEnv scope s.heap.objs.size globals (cellsFrom (s.heap.objs.size + 1) scope.names closure) qual func code (some around) builtins)
      { s with heap := pushCells (s.heap.push { cls := .type "dict", data := .dict #[] }) scope.names }) :
    wpAny M A (newFunctionEnv scope globals closure [] qual func code (some around) builtins) Q E s := by
  simp only [newFunctionEnv, Option.isSome_some, if_true]
  refine wpAny_bind (wpAny_alloc ?_)
  refine wpAny_bind (wpAny_layCells _ (fun n k c => rfl) scope.names closure _ _ ?_)
  rw [show ({ s with heap := s.heap.push { cls := .type "dict", data := .dict #[] } } : Shared).heap.objs.size = s.heap.objs.size + 1 from Heap.size_push ..]
  rw [List.forIn_nil]
  exact wpAny_bind (wpAny_pure (wpAny_pure h))
theorem lookup_relS {sc : Scope} : ∀ {names : List (Str × NameKind)} {x : Str} {k : NameKind},
    (names.map fun (n, k) => if (k == NameKind.free && sc.kind == .function && sc.names.lookup n == some .cell) then (n, NameKind.cell) else (n, k)).lookup x = some k ->
    ∃ k', names.lookup x = some k' /\ (k = k' \/ (k' = .free /\ k = .cell))
  | [], _, _, h => by simp at h
  | (n, k₀) :: r, x, k, h => by
    have ih := @lookup_relS sc r x k
    have h' : List.lookup x ((if (k₀ == NameKind.free && sc.kind == .function && sc.names.lookup n == some .cell) = true then (n, NameKind.cell) else (n, k₀)) :: (r.map _)) = some k := h
    cases hx : x == n with
    | true =>
      simp only [List.lookup_cons, hx]
      by_cases hc : (k₀ == NameKind.free && sc.kind == .function && sc.names.lookup n == some .cell) = true
      . rw [if_pos hc] at h'
        simp only [List.lookup_cons, hx] at h'
        cases h'
        simp only [Bool.and_eq_true, beq_iff_eq] at hc
        exact ⟨k₀, rfl, .inr ⟨hc.1.1, rfl⟩⟩
      . rw [if_neg hc] at h'
        simp only [List.lookup_cons, hx] at h'
        cases h'
        exact ⟨_, rfl, .inl rfl⟩
    | false =>
      simp only [List.lookup_cons, hx]
      by_cases hc : (k₀ == NameKind.free && sc.kind == .function && sc.names.lookup n == some .cell) = true
      . rw [if_pos hc] at h'
        simp only [List.lookup_cons, hx] at h'
        exact ih h'
      . rw [if_neg hc] at h'
        simp only [List.lookup_cons, hx] at h'
        exact ih h'
structure BlkOk (N : List Str) (sc scope : Scope) (own : List (Str × Nat)) : Prop where
  kind : scope.kind = .function
  uniq : ∀ y ∈ scope.names, scope.names.lookup y.1 = some y.2
  ix : ∀ p ∈ own, N[p.2]? = some p.1
  free : ∀ y ∈ scope.names, y.2 = .free -> sc.names.lookup y.1 = some .cell \/ sc.names.lookup y.1 = some .free
  own : ∀ y ∈ scope.names, y.2 = .local \/ y.2 = .cell -> y.1 ∈ own.map (·.1) \/ y.1 ∉ N
def wipe (σ : St) : List Nat -> St
  | [] => σ
  | v :: vs => (wipe σ vs).set v none
theorem wipe_length (σ : St) : ∀ vs : List Nat, (wipe σ vs).length = σ.length
  | [] => rfl
  | v :: vs => by unfold wipe; rw [List.length_set, wipe_length σ vs]
theorem wipe_some {σ : St} {i : Nat} {x : V} : ∀ {vs : List Nat}, (wipe σ vs)[i]? = some (some x) -> σ[i]? = some (some x) /\ i ∉ vs
  | [], h => ⟨h, by simp⟩
  | v :: vs, h => by
    unfold wipe at h
    by_cases hi : v = i
    . subst hi
      by_cases hv : v < (wipe σ vs).length
      . rw [List.getElem?_set_self hv] at h; cases h
      . rw [List.getElem?_eq_none (by simpa using hv)] at h; cases h
    . rw [List.getElem?_set_ne hi] at h
      obtain ⟨h1, h2⟩ := wipe_some h
      exact ⟨h1, by simp only [List.mem_cons, not_or]; exact ⟨fun e => hi e.symm, h2⟩⟩
abbrev Cx.blk (X : Cx) (s : Shared) (H : Hp) (scope : Scope) (cenv : Env) (fp : List Addr) : Cx := { X with s_0 := s, H_0 := H, env := cenv, outer := X.stack, ex := fp, fn := fun x => scope.names.lookup x == some .cell, pn := [], xe := fun _ _ => False }
section
variable {X : Cx} {pins : List (Addr × Obj)} {σ : St} {H : Hp} {s : Shared}
theorem block_start {scope : Scope} {own : List (Str × Nat)} {fp : List Addr} (I : Inv X pins σ H s) (ok : BlkOk X.N X.env.scope scope own) (hN : X.N.Nodup) (hfp : ∀ b ∈ fp, FpOk X pins H b /\ b < s.heap.objs.size) :
    Inv (X.blk s H scope (compEnvC scope (cellsFrom (s.heap.objs.size + 1) scope.names (cloFrom X.env.cells scope.names [])) s.heap.objs.size X.env) fp) [] (wipe σ (own.map (·.2))) H { s with heap := pushCells (s.heap.push { cls := .type "dict", data := .dict #[] }) scope.names } := by
  have hfree : ∀ y ∈ scope.names, y.2 = .free -> ∃ c, X.env.cells.lookup y.1 = some c := fun y hy e => by
    rcases ok.free y hy e with k | k
    . exact I.ok.has _ (.inl k)
    . exact I.ok.has _ (.inr k)
  generalize hcenv : compEnvC scope (cellsFrom (s.heap.objs.size + 1) scope.names (cloFrom X.env.cells scope.names [])) s.heap.objs.size X.env = cenv
  have kp : ∀ b o, s.heap.get? b = some o -> (pushCells (s.heap.push { cls := .type "dict", data := .dict #[] }) scope.names).get? b = some o := fun b o e => pushCells_keeps _ _ _ _ (Heap.get?_push_of_some _ e)
  have hL : cenv.locals = s.heap.objs.size := by rw [<- hcenv]; rfl
  have hcl : cenv.cells = cellsFrom (s.heap.objs.size + 1) scope.names (cloFrom X.env.cells scope.names []) := by rw [<- hcenv]; rfl
  have hsc : cenv.scope = relS scope X.env.scope := by rw [<- hcenv]; rfl
  rw [<- Heap.size_push s.heap { cls := .type "dict", data := .dict #[] }] at hcl
  have cm : ∀ {y c}, (y, c) ∈ cloFrom X.env.cells scope.names [] -> X.env.cells.lookup y = some c /\ c < s.heap.objs.size := fun {y c} hm => by
    rcases cloFrom_mem hm with hm | ⟨h1, rfl⟩
    . cases hm
    . obtain ⟨c, hc⟩ := hfree _ h1 rfl
      rw [hc]
      obtain ⟨w, z⟩ := I.cell _ _ hc
      exact ⟨rfl, z.lt⟩
  have mem : ∀ {y c}, cenv.cells.lookup y = some c -> (X.env.cells.lookup y = some c /\ c < s.heap.objs.size) \/ (s.heap.objs.size + 1 <= c /\ CellAt (pushCells (s.heap.push { cls := .type "dict", data := .dict #[] }) scope.names) c none) := fun {y c} e => by
    rw [hcl] at e
    rcases cells_mem (PySem.mem_of_lookup e) with hm | ⟨_, h2, h3⟩
    . exact .inl (cm hm)
    . rw [Heap.size_push] at h2; exact .inr ⟨h2, h3⟩
  have look : ∀ {y}, scope.names.lookup y = some .free -> ∃ c, cenv.cells.lookup y = some c /\ X.env.cells.lookup y = some c := fun {y} hl => by
    have hy : (y, NameKind.free) ∈ scope.names := PySem.mem_of_lookup hl
    obtain ⟨c', e'⟩ := mem_lookup (cells_acc (names := scope.names) (n := (s.heap.push { cls := .type "dict", data := .dict #[] }).objs.size) (cloFrom_has (cells := X.env.cells) (acc := []) hy))
    rw [<- hcl] at e'
    refine ⟨c', e', ?_⟩
    rw [hcl] at e'
    rcases cells_mem (PySem.mem_of_lookup e') with hm | ⟨h1, _, _⟩
    . exact (cm hm).1
    . have := ok.uniq _ h1
      rw [hl] at this; cases this
  have okB : (X.blk s H scope cenv fp).Ok := by
    refine ⟨I.ok.mod, by show cenv.scope.kind = _; rw [hsc]; exact ok.kind, by show cenv.globals = _; rw [<- hcenv]; exact I.ok.glob, by show cenv.builtins = _; rw [<- hcenv]; exact I.ok.blt, by show s.heap.objs.size <= cenv.locals; rw [hL]; exact Nat.le_refl _,
      fun y z c e1 e2 => ?_, fun y hy => ?_, fun y c z e => ?_, I.ok.hd, I.ok.frames, .inl rfl, fun b hb => ⟨?_, fun y c e z => ?_⟩, I.bs, Nat.le_trans I.ok.bsz I.sz, fun b o e hb => ?_, fun b hb z => ?_, I.stack, I.stkFree⟩
    . have e1 : cenv.cells.lookup y = some c := e1
      have e2 : cenv.cells.lookup z = some c := e2
      rw [hcl] at e1 e2
      refine cells_inj (fun p hp => ?_) (fun y z c a b => I.ok.inj y z c (cm a).1 (cm b).1) (PySem.mem_of_lookup e1) (PySem.mem_of_lookup e2)
      rw [Heap.size_push]
      exact Nat.lt_succ_of_lt (cm (y := p.1) (c := p.2) hp).2
    . show ∃ c, cenv.cells.lookup y = some c
      have key : ∀ k, cenv.kindOf y = some k -> (k = .cell \/ k = .free) -> ∃ c, cenv.cells.lookup y = some c := fun k hk hk' => by
        unfold Env.kindOf at hk
        rw [hsc] at hk
        obtain ⟨k', e, r⟩ := lookup_relS hk
        have : k' = .cell \/ k' = .free := by
          rcases r with rfl | ⟨rfl, _⟩
          . exact hk'
          . exact .inr rfl
        rcases this with rfl | rfl
        . obtain ⟨c, hm⟩ := cells_has (n := (s.heap.push { cls := .type "dict", data := .dict #[] }).objs.size) (acc := cloFrom X.env.cells scope.names []) (PySem.mem_of_lookup e)
          obtain ⟨c', e'⟩ := mem_lookup hm
          exact ⟨c', by rw [hcl]; exact e'⟩
        . obtain ⟨c, h1, _⟩ := look e
          exact ⟨c, h1⟩
      rcases hy with hy | hy
      . exact key _ hy (.inl rfl)
      . exact key _ hy (.inr rfl)
    . have z : (scope.names.lookup y == some NameKind.cell) = true := z
      have z : scope.names.lookup y = some .cell := by simpa using z
      have e : cenv.cells.lookup y = some c := e
      rw [hcl] at e
      rcases cells_mem (PySem.mem_of_lookup e) with hm | ⟨_, h2, _⟩
      . rcases cloFrom_mem hm with hm | ⟨h1, _⟩
        . cases hm
        . have q := ok.uniq _ h1
          rw [z] at q; cases q
      . rw [Heap.size_push] at h2
        exact Nat.le_of_succ_le h2
    . show b ≠ cenv.locals
      rw [hL]; exact Nat.ne_of_lt (hfp b hb).2
    . have e : cenv.cells.lookup y = some c := e
      rcases mem e with ⟨h1, _⟩ | ⟨h1, _⟩
      . exact (hfp b hb).1.2.2.2.2.1 y c h1 z
      . have h2 : s.heap.objs.size + 1 <= b := by rw [<- z]; exact h1
        exact absurd (Nat.lt_of_lt_of_le (hfp b hb).2 (Nat.le_of_succ_le h2)) (Nat.lt_irrefl _)
    . rcases (hfp b hb).1.2.2.2.1 with z | z
      . exact I.ok.noex b o e z
      . exact absurd (Nat.lt_of_lt_of_le (Heap.lt_size e) (Nat.le_trans I.ok.bsz z)) (Nat.lt_irrefl _)
    . rcases List.mem_cons.mp (I.stkSub b z) with z | z
      . exact (hfp b hb).1.2.1 z
      . exact (hfp b hb).1.2.2.1 z
  refine ⟨okB, rfl, I.bare, Un.kept kp, ⟨fun _ => none, ?_, fun i y av e1 e2 e3 => ?_⟩, fun y c e => ?_, ?_, fun y c e => ?_, fun p hp => ?_, I.hok.kept kp, by rw [wipe_length]; exact I.len⟩
  . show Heap.Ns _ cenv.locals _
    rw [hL]
    exact Heap.Ns.keeps (Heap.Ns.new ..) fun b o e => pushCells_keeps _ _ _ _ e
  . obtain ⟨e2, hne⟩ := wipe_some e2
    have hfr : scope.names.lookup y = some .free /\ (cenv.kindOf y = some .cell \/ cenv.kindOf y = some .free) := by
      have key : ∀ k, cenv.scope.names.lookup y = some k -> k = .local \/ k = .cell \/ k = .free -> scope.names.lookup y = some .free /\ (cenv.kindOf y = some .cell \/ cenv.kindOf y = some .free) := fun k hk hk' => by
        have hk0 := hk
        rw [hsc] at hk
        obtain ⟨k', e, r⟩ := lookup_relS hk
        have no : ¬ (k' = .local \/ k' = .cell) := fun hh => by
          rcases ok.own _ (PySem.mem_of_lookup e) hh with e' | e'
          . obtain ⟨p, hp, hpy⟩ := List.mem_map.mp e'
            have e3 := ok.ix p hp
            have : p.1 = y := hpy
            rw [this] at e3
            exact hne (List.mem_map.mpr ⟨p, hp, nodup_ix hN e3 e1⟩)
          . exact e' (List.mem_of_getElem? e1)
        rcases r with rfl | ⟨rfl, rfl⟩
        . rcases hk' with rfl | rfl | rfl
          . exact absurd (.inl rfl) no
          . exact absurd (.inr rfl) no
          . exact ⟨e, .inr hk0⟩
        . exact ⟨e, .inl hk0⟩
      have e3 : Vis cenv.scope y := e3
      rcases e3 with e3 | e3 | e3
      . exact key _ e3 (.inl rfl)
      . exact key _ e3 (.inr (.inl rfl))
      . exact key _ e3 (.inr (.inr rfl))
    obtain ⟨m, hn, hl⟩ := I.loc
    have hvis : Vis X.env.scope y := (ok.free _ (PySem.mem_of_lookup hfr.1) rfl).elim (fun k => .inr (.inl k)) (fun k => .inr (.inr k))
    obtain ⟨w, r, q⟩ := hl i y av e1 e2 hvis
    refine ⟨w, r, .inr ⟨hfr.2, ?_⟩⟩
    obtain ⟨c, h1, h2⟩ := look hfr.1
    rcases q with ⟨k, _⟩ | ⟨_, c', e', z⟩
    . have k : X.env.scope.names.lookup y = some .local := k
      rcases ok.free _ (PySem.mem_of_lookup hfr.1) rfl with k' | k' <;> rw [show X.env.scope.names.lookup y = _ from k'] at k <;> cases k
    . rw [h2] at e'; cases e'
      exact ⟨c, h1, z.keeps kp⟩
  . have e : cenv.cells.lookup y = some c := e
    rcases mem e with ⟨h1, _⟩ | ⟨_, z⟩
    . obtain ⟨w, z⟩ := I.cell y c h1
      exact ⟨w, z.keeps kp⟩
    . exact ⟨_, z⟩
  . show H cenv.locals = none
    rw [hL]; exact I.hok.fresh (Nat.le_refl _)
  . have e : cenv.cells.lookup y = some c := e
    rcases mem e with ⟨h1, _⟩ | ⟨h1, _⟩
    . exact I.freeC y c h1
    . exact I.hok.fresh (Nat.le_of_succ_le h1)
  . exact absurd (show p ∈ ([] : List (Addr × Obj)) ++ [] from hp) (by simp)
theorem app_ok {E : Value -> Shared -> Prop} {D : Addr} {xs : List V} {y : V} {v : Value} {Q : Value -> Shared -> Prop} (I : Inv X pins σ H s) (hD : H D = some (.lst xs)) (hz : xs.length < sizeLine) (r : RelV y v)
    (h : ∀ s', Inv X pins σ (upd H D (.lst (xs ++ [y]))) s' -> Q .none s') : wpAny (model X.prog X.w) X.A (call (.builtin "list.append") [.ref D, v]) Q E s := by
  obtain ⟨hz', its, n, ri, e⟩ := I.hok D _ hD
  have hl := ri.length
  refine append_at (hsz := by rw [List.size_toArray]; omega) e fun h' sb ho' => ?_
  refine h { s with heap := h' } (I.write (t' := s.toks) (by rw [hD]; trivial) (.inl rfl) (fun b u hb q => (sb.2 b hb).trans q) ⟨_, ho'⟩ ⟨by rw [List.length_append]; exact hz, its ++ [v], n + 1, ri.append (.cons r .nil), ?_⟩)
  rw [ho']
  simp
def PTs (X : Cx) (ifs : List Expr) (t : TT) : Prop :=
  ∀ (pins : List (Addr × Obj)) (s : Shared) (σ : St) (H : Hp) (Q : Bool -> Hp -> Prop), Inv X pins σ H s -> t σ H Q ->
    wpAny (model X.prog X.w) X.A (forIn ifs true fun c r => if r = true then do let ok <- isTrue c X.env (eval c X.env); pure (ForInStep.yield ok) else pure (ForInStep.yield r)) (TP X pins σ Q) X.xe s
def tYes : TT := fun _ H Q => Q true H
theorem pts_nil : PTs X [] tYes := fun _ _ _ H _ I h => wpAny_tests_nil ⟨H, I, h⟩
theorem pts_one {c : Expr} {t : TT} (h : PT X c t) : PTs X [c] t := fun pins s σ H Q I hw => wpAny_tests_one (h pins s σ H Q I hw)
end
theorem thnF {α : Type} {t : Sem α} {Q Q' : α -> Shared -> Prop} {M : Model} {A : Around} {E : Value -> Shared -> Prop} {s : Shared} (h : wpAny M A t Q (fun _ _ => False) s) (hQ : ∀ a s, Q a s -> Q' a s) : wpAny M A t Q' E s := wpAny_mono h hQ fun _ _ z => False.elim z
theorem compLoop_any {prog : Program} {w : World} {A : Around} {R : Result -> Shared -> Prop} {s : Shared} {elt target iter : Expr} {ifs : List Expr} {scope : Scope} {pos : Pos} {it acc : Value} {env : Env} (I : Nat -> Shared -> Prop)
    (turn : ∀ n s, I n s -> wpAny (model prog w) A (pyNext it) (fun r s₁ => match r with
      | none => R (.ok .next) s₁
      | some v => wpAny (model prog w) A (letOwnedTupleGo target it v) (fun _ s₁' => wpAny (model prog w) A (assign target env v) (fun _ s₂ =>
          wpAny (model prog w) A (forIn ifs true fun c r => if r = true then do let ok <- isTrue c env (eval c env); pure (ForInStep.yield ok) else pure (ForInStep.yield r)) (fun ok s₃ =>
            if ok = true then wpAny (model prog w) A (eval elt env) (fun x s₄ =>
              wpAny (model prog w) A (call (.builtin "list.append") [acc, x]) (fun _ s₅ => ∃ m, m < n /\ I m s₅) (notedBy (model prog w) A env fun e s' => R (.error e) s') s₄) (notedBy (model prog w) A env fun e s' => R (.error e) s') s₃
            else ∃ m, m < n /\ I m s₃) (notedBy (model prog w) A env fun e s' => R (.error e) s') s₂) (notedBy (model prog w) A env fun e s' => R (.error e) s') s₁') (notedBy (model prog w) A env fun e s' => R (.error e) s') s₁) (notedBy (model prog w) A env fun e s' => R (.error e) s') s)
    (n : Nat) (h : I n s) :
    codeAny (model prog w) A (.compLoop (.ListComp elt [⟨target, iter, ifs, 0⟩] scope pos) 0 it acc env) R s := by
  refine codeAny_loop rfl I (fun n s hI => ?_) n h
  show wpAny _ A ((compTurn (.ListComp elt [⟨target, iter, ifs, 0⟩] scope pos) 0 it acc env).onRaise (fun x => do noteFrame x env; theTreesLotGoes x)) _ _ s
  refine wpAny_noted ?_
  rw [compTurn_list]
  refine wpAny_bind (wpAny_standAt (wpAny_bind (wpAny_mono (turn n s hI) (fun r s₁ h₁ => ?_) fun _ _ h' => h')))
  cases r with
  | none => exact wpAny_pure h₁
  | some v =>
    refine wpAny_bind (wpAny_mono h₁ (fun _ s₁' h₁' => ?_) fun _ _ h' => h')
    refine wpAny_bind (wpAny_mono h₁' (fun _ s₂ h₂ => wpAny_bind (wpAny_mono h₂ (fun ok s₃ h₃ => ?_) fun _ _ h' => h')) fun _ _ h' => h')
    cases ok with
    | false => exact wpAny_pure ⟨rfl, h₃⟩
    | true =>
      exact wpAny_bind (wpAny_bind (wpAny_mono h₃ (fun x s₄ h₄ => wpAny_bind (wpAny_mono h₄ (fun _ s₅ h₅ => wpAny_pure (wpAny_pure ⟨rfl, h₅⟩)) fun _ _ h' => h')) fun _ _ h' => h'))
section
variable {X : Cx}
def tLc (wi : TI) (g : TG) (tt : TT) (te : TE) (vs : List Nat) : TE := fun σ H Q => wi σ H fun J H1 => ∀ D, H1 D = none -> ∃ W : Nat -> Nat -> Hp -> Prop, (∃ m, W 0 m (upd H1 D (.lst []))) /\ ∀ i m H, W i m H ->
  (J.stop i H /\ Q (.ref D) H) \/ (J.go i H /\ ∃ Nx : Hp -> Prop, (∀ H', Nx H' -> ∃ m', m' < m /\ W (i + 1) m' H') /\ ∀ x H', J.yld i H x H' -> g x (wipe σ vs) H' fun σ2 H2 => wipe σ2 vs = wipe σ vs /\ tt σ2 H2 fun b H3 =>
    if b = true then te σ2 H3 fun y H4 => ∃ acc, H4 D = some (.lst acc) /\ acc.length < sizeLine /\ Nx (upd H4 D (.lst (acc ++ [y]))) else Nx H3)
theorem lc_core {pins : List (Addr × Obj)} {s : Shared} {σ : St} {H : Hp} {Q : VK} {elt tg iter : Expr} {ifs : List Expr} {scope : Scope} {own : List (Str × Nat)} {pos pos' : Pos} {wi : TI} {g : TG} {tt : TT} {te : TE} {use : Option (Value -> Sem Unit)} {Qf : Value -> Shared -> Prop}
    (hc : X.calm = true) (hN : X.N.Nodup) (I : Inv X pins σ H s) (hi : PI X tg iter wi) (ok : BlkOk X.N X.env.scope scope own)
    (hg : ∀ (s : Shared) (H : Hp) (C : Addr) (cl : List (Str × Addr)) (fp : List Addr), PG (X.blk s H scope (compEnvC scope cl C X.env) fp) tg g) (ht : ∀ (s : Shared) (H : Hp) (C : Addr) (cl : List (Str × Addr)) (fp : List Addr), PTs (X.blk s H scope (compEnvC scope cl C X.env) fp) ifs tt)
    (he : ∀ (s : Shared) (H : Hp) (C : Addr) (cl : List (Str × Addr)) (fp : List Addr), PE (X.blk s H scope (compEnvC scope cl C X.env) fp) elt te) (hs : ∀ x, foldedSetIterable iter X.env x = pure x)
    (h : tLc wi g tt te (own.map (·.2)) σ H Q)
    (hRR : ∀ D C s' m H', Inv X pins σ H' s' -> Q (.ref D) H' -> s'.heap.Ns C m -> FpOk X pins H' C -> compPost (model X.prog X.w) X.A X.xe use Qf (.ref D) C (.ok .next) s') :
    wpAny (model X.prog X.w) X.A (comprehension (.ListComp elt [⟨tg, iter, ifs, 0⟩] scope pos) scope X.env pos' (newList []) false (eval iter X.env) use) Qf X.xe s := by
  have hfree : ∀ y ∈ scope.names, y.2 = .free -> ∃ c, X.env.cells.lookup y.1 = some c := fun y hy e => by
    rcases ok.free y hy e with k | k
    . exact I.ok.has _ (.inl k)
    . exact I.ok.has _ (.inr k)
  refine wpAny_comprehension_free (use := use) rfl hs (closure_ok hfree) ok.kind (fun y hy e => by rw [ok.uniq y hy, e])
    (thn (hi pins s σ H _ I h) fun xv s1 hx => thn hx fun itv s2 h2 => ?_)
  obtain ⟨it, fp, tn, J, H2, e, I2, T, st2, f2, q⟩ := h2
  subst e
  refine wpAny_newObj_type (newEnv_comp ?_) (by show 0 <= sizeLine; decide)
  generalize hD : s2.heap.objs.size = D
  have hDn : H2 D = none := I2.hok.fresh (Nat.le_of_eq hD)
  obtain ⟨W, ⟨m0, w0⟩, turn⟩ := q D hDn
  generalize hs3 : ({ s2 with heap := s2.heap.push { cls := .type "list", data := .seq ([] : List Value).toArray } } : Shared) = s3
  have I3 : Inv X pins σ (upd H2 D (.lst [])) s3 := by
    rw [<- hs3]
    refine I2.laid (t' := s2.toks) (fun b o e => Heap.get?_push_of_some _ e) (Nat.le_of_eq hD) ⟨Nat.zero_le _, [], 0, .nil, ?_⟩
    rw [<- hD]
    exact Heap.get?_push_size _ rfl
  have h3 : s3.heap = s2.heap.push { cls := .type "list", data := .seq ([] : List Value).toArray } := by rw [<- hs3]
  have sz : ∀ b ∈ fp, b < s2.heap.objs.size := fun b hb => by
    obtain ⟨o, e, _⟩ := T.obj _ _ st2 b hb
    exact Heap.lt_size e
  have f3 : ∀ b ∈ fp, FpOk X pins (upd H2 D (.lst [])) b /\ b < s3.heap.objs.size := fun b hb => by
    have hlt := sz b hb
    refine ⟨⟨?_, (f2 b hb).2⟩, by rw [h3, Heap.size_push]; exact Nat.lt_succ_of_lt hlt⟩
    rw [upd_ne (by rw [<- hD]; exact Nat.ne_of_lt hlt)]
    exact (f2 b hb).1
  have st3 : tn 0 s3.heap := T.keep _ _ _ st2 fun b _ o e => by rw [h3]; exact Heap.get?_push_of_some _ e
  have I4 := block_start I3 ok hN f3
  have pg := hg s3 (upd H2 D (.lst [])) s3.heap.objs.size (cellsFrom (s3.heap.objs.size + 1) scope.names (cloFrom X.env.cells scope.names [])) fp
  have pt := ht s3 (upd H2 D (.lst [])) s3.heap.objs.size (cellsFrom (s3.heap.objs.size + 1) scope.names (cloFrom X.env.cells scope.names [])) fp
  have pe := he s3 (upd H2 D (.lst [])) s3.heap.objs.size (cellsFrom (s3.heap.objs.size + 1) scope.names (cloFrom X.env.cells scope.names [])) fp
  show codeAny _ _ (.compStart (.ListComp elt [⟨tg, iter, ifs, 0⟩] scope pos) 0 (.ref it) (.ref D) (compEnvC scope (cellsFrom (s3.heap.objs.size + 1) scope.names (cloFrom X.env.cells scope.names [])) s3.heap.objs.size X.env)) (compPost (model X.prog X.w) X.A X.xe use Qf (.ref D) s3.heap.objs.size) { s3 with heap := pushCells (s3.heap.push { cls := .type "dict", data := .dict #[] }) scope.names }
  have nfp : ∀ b ∈ fp, (upd H2 D (.lst [])) b = none := fun b hb => (f3 b hb).1.1
  generalize hce : compEnvC scope (cellsFrom (s3.heap.objs.size + 1) scope.names (cloFrom X.env.cells scope.names [])) s3.heap.objs.size X.env = ce at I4 pg pt pe ⊢
  have cL : ce.locals = s3.heap.objs.size := by subst hce; rfl
  generalize hH3 : upd H2 D (.lst []) = H3 at I3 I4 pg pt pe w0 nfp f3
  generalize hs4 : ({ s3 with heap := pushCells (s3.heap.push { cls := .type "dict", data := .dict #[] }) scope.names } : Shared) = s4 at I4 ⊢
  have st4 : tn 0 s4.heap := T.keep _ _ _ st3 fun b _ o e => by rw [<- hs4]; exact pushCells_keeps _ _ _ _ (Heap.get?_push_of_some _ e)
  have stat : ∀ {σ' : St} {H' : Hp} {s' : Shared}, Inv (X.blk s3 H3 scope ce fp) [] σ' H' s' -> (∀ b ∈ fp, H' b = none) -> ∀ b ∈ fp, FpOk (X.blk s3 H3 scope ce fp) [] H' b := fun {σ' H' s'} I' hn b hb =>
    ⟨hn b hb, (I'.ok.exf b hb).1, I'.ok.exfs b hb, .inl hb, fun x c e => (I'.ok.exf b hb).2 x c e, fun p hp => absurd (show p ∈ ([] : List (Addr × Obj)) ++ [] from hp) (by simp)⟩
  have loop : codeAny (model X.prog X.w) X.A (.compLoop (.ListComp elt [⟨tg, iter, ifs, 0⟩] scope pos) 0 (.ref it) (.ref D) ce) (compPost (model X.prog X.w) X.A X.xe use Qf (.ref D) s3.heap.objs.size) s4 := by
    refine compLoop_any (fun n s' => ∃ i H', Inv (X.blk s3 H3 scope ce fp) [] (wipe σ (own.map (·.2))) H' s' /\ tn i s'.heap /\ (∀ b ∈ fp, H' b = none) /\ W i n H') ?_ m0 ⟨0, H3, I4, st4, nfp, w0⟩
    rintro n s5 ⟨i, H5, I5, st5, n5, w5⟩
    rcases turn i n H5 w5 with ⟨stop, qq⟩ | ⟨go, Nx, hNx, step⟩
    . have td := T.done (X.blk s3 H3 scope ce fp) rfl rfl rfl hc i [] s5 _ H5 (fun _ _ => False) I5 (stat I5 n5) st5 stop
      refine thnF td fun r s6 ⟨hr, I6⟩ => ?_
      subst hr
      have I7 : Inv X pins σ H5 s6 := I3.call' (ch := fp) I6.os I6.base I6.hok I6.bare fun b hb => ⟨(f3 b hb).1.2.2.2.1, (f3 b hb).1.2.1, (f3 b hb).1.2.2.2.2.1, (f3 b hb).1.2.2.2.2.2⟩
      have nC : H5 s3.heap.objs.size = none := by
        have z : H5 ce.locals = none := I6.free
        rw [cL] at z
        exact z
      obtain ⟨m, hn, _⟩ := I6.loc
      have hn : s6.heap.Ns ce.locals m := hn
      rw [cL] at hn
      exact hRR D s3.heap.objs.size s6 m H5 I7 qq hn (I3.fpOk (Nat.le_refl _) nC)
    . have ti := T.item (X.blk s3 H3 scope ce fp) rfl rfl rfl hc i [] s5 _ H5 (fun _ _ => False) I5 (stat I5 n5) st5 go
      refine thnF ti fun r s6 ⟨u, hr, h6⟩ => ?_
      subst hr
      refine thnF h6 fun _ s7 ⟨x, H7, I7, r7, y7, st7, n7⟩ => ?_
      have I7' := I7.pinned (stat I7 n7) (T.obj _ _ st7)
      refine thnF (pg _ s7 _ H7 x u _ I7' r7 (step x H7 y7)) fun _ s8 ⟨σ8, H8, I8, hw8, q8⟩ => ?_
      refine thnF (pt _ s8 σ8 H8 _ I8 q8) fun b s9 ⟨H9, I9, q9⟩ => ?_
      have fin : ∀ {s' : Shared} {H' : Hp}, Inv (X.blk s3 H3 scope ce fp) ([] ++ pinsAt fp s7.heap) σ8 H' s' -> Nx H' -> ∃ m, m < n /\ ∃ i H', Inv (X.blk s3 H3 scope ce fp) [] (wipe σ (own.map (·.2))) H' s' /\ tn i s'.heap /\ (∀ b ∈ fp, H' b = none) /\ W i m H' := fun {s' H'} I' nx => by
        obtain ⟨m', hm, w'⟩ := hNx H' nx
        have pin' : ∀ b ∈ fp, ∀ o, s7.heap.get? b = some o -> s'.heap.get? b = some o /\ H' b = none := fun b hb o e =>
          let z := I'.pin (b, o) (List.mem_append_right _ (List.mem_append_right _ (mem_pinsAt hb e)))
          ⟨z.1, z.2.1⟩
        have hl : (wipe σ (own.map (·.2))).length = σ8.length := by rw [<- hw8, wipe_length]
        refine ⟨m', hm, i + 1, H', (I'.unpinned (pins := [])).weak hl (fun j v e => ?_), T.keep _ _ _ st7 fun b hb o e => (pin' b hb o e).1, fun b hb => ?_, w'⟩
        . rw [<- hw8] at e
          exact (wipe_some e).1
        . obtain ⟨o, e, _⟩ := T.obj _ _ st7 b hb
          exact (pin' b hb o e).2
      cases b with
      | false =>
        simp only [Bool.false_eq_true, if_false] at q9 ⊢
        exact fin I9 q9
      | true =>
        simp only [if_true] at q9 ⊢
        refine thnF (pe _ s9 σ8 H9 _ I9 q9) fun z s10 ⟨yv, H10, I10, r10, acc, hD10, hz10, nx⟩ => ?_
        exact app_ok (X := X.blk s3 H3 scope ce fp) I10 hD10 hz10 r10 fun s11 I11 => fin I11 nx
  exact codeAny_compStart_list loop (T.self X.A 0 _ _ _ st4 loop)
theorem pe_lc {elt tg iter : Expr} {ifs : List Expr} {scope : Scope} {own : List (Str × Nat)} {pos : Pos} {wi : TI} {g : TG} {tt : TT} {te : TE} (hc : X.calm = true) (hN : X.N.Nodup) (hi : PI X tg iter wi) (ok : BlkOk X.N X.env.scope scope own)
    (hg : ∀ (s : Shared) (H : Hp) (C : Addr) (cl : List (Str × Addr)) (fp : List Addr), PG (X.blk s H scope (compEnvC scope cl C X.env) fp) tg g) (ht : ∀ (s : Shared) (H : Hp) (C : Addr) (cl : List (Str × Addr)) (fp : List Addr), PTs (X.blk s H scope (compEnvC scope cl C X.env) fp) ifs tt)
    (he : ∀ (s : Shared) (H : Hp) (C : Addr) (cl : List (Str × Addr)) (fp : List Addr), PE (X.blk s H scope (compEnvC scope cl C X.env) fp) elt te) (hs : ∀ x, foldedSetIterable iter X.env x = pure x := by intro _; rfl) :
    PE X (.ListComp elt [⟨tg, iter, ifs, 0⟩] scope pos) (tLc wi g tt te (own.map (·.2))) := by
  intro pins s σ H Q I h
  rw [eval_ListComp]
  refine lc_core hc hN I hi ok hg ht he hs h fun D C s' m H' I' q hn f => ⟨m, hn, fun h'' sb => ?_⟩
  obtain ⟨f0, f1, f2, f3, f4, f5⟩ := f
  exact ⟨.ref D, H', I'.turned (t' := s'.toks) (fun b o hb e => (sb.2 b hb).trans e) f0 f1 f3 f4 f5, rfl, q⟩
theorem ps_setLc {i : Nat} {y : Str} {py : Pos} {elt tg iter : Expr} {ifs : List Expr} {scope : Scope} {own : List (Str × Nat)} {pos spos : Pos} {wi : TI} {g : TG} {tt : TT} {te : TE} (hc : X.calm = true) (hN : X.N.Nodup) (hy : X.N[i]? = some y) (hyl : X.env.scope.names.lookup y = some .local)
    (hsw : swapsWith (.ListComp elt [⟨tg, iter, ifs, 0⟩] scope pos) (some (.Name y py)) spos.line X.env = pure true) (hi : PI X tg iter wi) (ok : BlkOk X.N X.env.scope scope own)
    (hg : ∀ (s : Shared) (H : Hp) (C : Addr) (cl : List (Str × Addr)) (fp : List Addr), PG (X.blk s H scope (compEnvC scope cl C X.env) fp) tg g) (ht : ∀ (s : Shared) (H : Hp) (C : Addr) (cl : List (Str × Addr)) (fp : List Addr), PTs (X.blk s H scope (compEnvC scope cl C X.env) fp) ifs tt)
    (he : ∀ (s : Shared) (H : Hp) (C : Addr) (cl : List (Str × Addr)) (fp : List Addr), PE (X.blk s H scope (compEnvC scope cl C X.env) fp) elt te) (hs : ∀ x, foldedSetIterable iter X.env x = pure x := by intro _; rfl) :
    PS X (.Assign [.Name y py] (.ListComp elt [⟨tg, iter, ifs, 0⟩] scope pos) spos) (tAsg (tLc wi g tt te (own.map (·.2))) (gName i)) := by
  intro pins s σ H D I h
  rw [exec_Assign_Name_used _ _ _ _ hsw]
  refine wpAny_bind (wpAny_standAt (wpAny_bind ?_))
  show wpAny _ X.A (do let _ <- comprehension (.ListComp elt [⟨tg, iter, ifs, 0⟩] scope pos) scope X.env (firstIterPos [⟨tg, iter, ifs, 0⟩] pos) (newList []) false (eval iter X.env) (some (assign (.Name y py) X.env))) _ _ s
  have h : tLc wi g tt te (own.map (·.2)) σ H (fun x H1 => gName i x σ H1 D.nx) := h
  refine wpAny_bind (thn (lc_core (Qf := fun _ s' => SP X pins D .next s') hc hN I hi ok hg ht he hs h fun L C s' m H' I' q hn f => ?_) fun _ s' hq => wpAny_pure (wpAny_pure hq))
  show wpAny _ _ (assign (.Name y py) X.env (.ref L)) _ _ _
  refine wpAny_assign_Name (store_ok2 (v := V.ref L) I' hN hy (.inl hyl) rfl (fun s2 I2 ⟨a, sb, ha⟩ => ?_) (.inr hyl))
  obtain ⟨f0, f1, f2, f3, f4, f5⟩ := f
  have haC : C ≠ a := by
    rcases ha with z | z
    . rw [z]; exact f1
    . exact fun e => f4 y a z e.symm
  refine ⟨m, hn.sameBut sb haC, fun h3 sb3 => ?_⟩
  exact ⟨_, H', I2.turned (t' := s2.toks) (fun b o hb e => (sb3.2 b hb).trans e) f0 f1 f3 f4 f5, q⟩
theorem sw_true {elt : Expr} {gs : List Comprehension} {scope : Scope} {pos py : Pos} {y : Str} {l : Nat} {env : Env} (hk : env.scope.kind = .function) (hy : env.scope.names.lookup y = some .local) (hl : (py.line == pos.line) = true)
    (ha : (scope.names.any fun (n, k) => n == y && (k == .local || k == .cell)) = false) : swapsWith (.ListComp elt gs scope pos) (some (.Name y py)) l env = pure true := by
  have ky : env.kindOf y = some .local := hy
  have hb : env.blockKind = .function := by unfold Env.blockKind; rw [hk]; rfl
  unfold swapsWith
  simp only [hb, ky, ha, Expr.pos, hl]
  rfl
end
theorem lc_range {lo : Int} {n : Nat} {g : TG} {tt : TT} {te : TE} {vs : List Nat} {σ : St} {H1 : Hp} {D : Addr} {Qd : Hp -> Prop} (Pv : Nat -> Hp -> Prop) (h0 : Pv 0 (upd H1 D (.lst [])))
    (hs : ∀ i H, i < n -> Pv i H -> g (.int (lo + i)) (wipe σ vs) H fun σ2 H2 => wipe σ2 vs = wipe σ vs /\ tt σ2 H2 fun b H3 =>
      if b = true then te σ2 H3 fun y H4 => ∃ acc, H4 D = some (.lst acc) /\ acc.length < sizeLine /\ Pv (i + 1) (upd H4 D (.lst (acc ++ [y]))) else Pv (i + 1) H3) (hd : ∀ H, Pv n H -> Qd H) :
    ∃ W : Nat -> Nat -> Hp -> Prop, (∃ m, W 0 m (upd H1 D (.lst []))) /\ ∀ i m H, W i m H ->
      ((Itr lo n).stop i H /\ Qd H) \/ ((Itr lo n).go i H /\ ∃ Nx : Hp -> Prop, (∀ H', Nx H' -> ∃ m', m' < m /\ W (i + 1) m' H') /\ ∀ x H', (Itr lo n).yld i H x H' -> g x (wipe σ vs) H' fun σ2 H2 => wipe σ2 vs = wipe σ vs /\ tt σ2 H2 fun b H3 =>
        if b = true then te σ2 H3 fun y H4 => ∃ acc, H4 D = some (.lst acc) /\ acc.length < sizeLine /\ Nx (upd H4 D (.lst (acc ++ [y]))) else Nx H3) := by
  refine ⟨fun i m H => m = n - i /\ i <= n /\ Pv i H, ⟨n, by simp, Nat.zero_le _, h0⟩, ?_⟩
  rintro i m H ⟨rfl, hi, p⟩
  by_cases hlt : i < n
  . refine .inr ⟨hlt, Pv (i + 1), fun H' p' => ⟨n - (i + 1), by omega, rfl, hlt, p'⟩, fun x H' y => ?_⟩
    obtain ⟨e, y⟩ := y
    subst e y
    exact hs i _ hlt p
  . have e : i = n := by omega
    subst e
    exact .inl ⟨Nat.le_refl _, hd H p⟩
theorem lc_list {K : PySem.W.Frag} {a : Addr} {xs : List V} {g : TG} {tt : TT} {te : TE} {vs : List Nat} {σ : St} {H1 : Hp} {D : Addr} {Qd : Hp -> Prop} (Pv : Nat -> Hp -> Prop) (h0 : Pv 0 (upd H1 D (.lst []))) (hl : ∀ i H, i <= xs.length -> Pv i H -> SqL K H a xs)
    (hs : ∀ i x H, xs[i]? = some x -> Pv i H -> g x (wipe σ vs) H fun σ2 H2 => wipe σ2 vs = wipe σ vs /\ tt σ2 H2 fun b H3 =>
      if b = true then te σ2 H3 fun y H4 => ∃ acc, H4 D = some (.lst acc) /\ acc.length < sizeLine /\ Pv (i + 1) (upd H4 D (.lst (acc ++ [y]))) else Pv (i + 1) H3) (hd : ∀ H, Pv xs.length H -> Qd H) :
    ∃ W : Nat -> Nat -> Hp -> Prop, (∃ m, W 0 m (upd H1 D (.lst []))) /\ ∀ i m H, W i m H ->
      ((Itl K a).stop i H /\ Qd H) \/ ((Itl K a).go i H /\ ∃ Nx : Hp -> Prop, (∀ H', Nx H' -> ∃ m', m' < m /\ W (i + 1) m' H') /\ ∀ x H', (Itl K a).yld i H x H' -> g x (wipe σ vs) H' fun σ2 H2 => wipe σ2 vs = wipe σ vs /\ tt σ2 H2 fun b H3 =>
        if b = true then te σ2 H3 fun y H4 => ∃ acc, H4 D = some (.lst acc) /\ acc.length < sizeLine /\ Nx (upd H4 D (.lst (acc ++ [y]))) else Nx H3) := by
  refine ⟨fun i m H => m = xs.length - i /\ i <= xs.length /\ Pv i H, ⟨xs.length, by simp, Nat.zero_le _, h0⟩, ?_⟩
  rintro i m H ⟨rfl, hi, p⟩
  have q := hl i H hi p
  by_cases hlt : i < xs.length
  . refine .inr ⟨⟨xs, xs[i], q, by simp [hlt]⟩, Pv (i + 1), fun H' p' => ⟨xs.length - (i + 1), by omega, rfl, hlt, p'⟩, fun x H' y => ?_⟩
    obtain ⟨e, y⟩ := y
    subst e
    exact hs i x _ (y xs q) p
  . have e : i = xs.length := by omega
    subst e
    exact .inl ⟨⟨xs, q, Nat.le_refl _⟩, hd H p⟩
def blkC (N : List Str) (sc scope : Scope) (own : List (Str × Nat)) : Bool :=
  (match scope.kind with | .function => true | _ => false) && (scope.names.all fun y => decide (scope.names.lookup y.1 = some y.2)) && (own.all fun p => decide (N[p.2]? = some p.1)) &&
    (scope.names.all fun y => match y.2 with
      | .free => (match sc.names.lookup y.1 with | some .cell => true | some .free => true | _ => false)
      | .local => decide (y.1 ∈ own.map (·.1)) || decide (y.1 ∉ N)
      | .cell => decide (y.1 ∈ own.map (·.1)) || decide (y.1 ∉ N)
      | _ => true)
theorem blkOk_by {N : List Str} {sc scope : Scope} {own : List (Str × Nat)} (h : blkC N sc scope own = true) : BlkOk N sc scope own := by
  unfold blkC at h
  simp only [Bool.and_eq_true, List.all_eq_true, decide_eq_true_eq] at h
  obtain ⟨⟨⟨h1, h2⟩, h3⟩, h4⟩ := h
  refine ⟨?_, h2, h3, fun y hy e => ?_, fun y hy e => ?_⟩
  . split at h1
    . assumption
    . cases h1
  . have q := h4 y hy
    simp only [e] at q
    split at q <;> first | exact .inl (by assumption) | exact .inr (by assumption) | cases q
  . have q := h4 y hy
    rcases e with e | e <;> (simp only [e, Bool.or_eq_true, decide_eq_true_eq] at q; exact q)
def NoSl (i : Expr) : Prop := ∀ ov iv, subscripted i false ov iv = operate [ov, iv] (getItem ov iv)
theorem subD_of {prog : Program} {w : World} {A : Around} {E : Value -> Shared -> Prop} {s : Shared} {env : Env} {value slice : Expr} {pos : Pos} {T id : String} {Q : Value -> Shared -> Prop}
    (hl : typeLookup (.type T) "__getitem__" = pure (some (.builtin id))) (hs : NoSl slice)
    (h : wpAny (model prog w) A (eval value env) (fun o s₁ => wpAny (model prog w) A (eval slice env) (fun i s₂ => s₂.TypeIs o T /\ wpAny (model prog w) A (getItem o i) Q E s₂) E s₁) E s) :
    wpAny (model prog w) A (eval (.Subscript value slice pos) env) Q E s := by
  refine Subscript_ (wpAny_mono h (fun o s₁ h₁ => wpAny_mono h₁ (fun i s₂ h₂ => ?_) fun _ _ x => x) fun _ _ x => x)
  obtain ⟨hT, h₂⟩ := h₂
  unfold subscriptTail
  refine wpAny_bind ?_
  rw [getitemInPython_of_ne hT.not_modules]
  refine wpAny_bind (wpAny_specialOf hT hl ?_)
  have fin : wpAny (model prog w) A (subscripted slice false o i) (fun r s₃ => wpAny (model prog w) A (letTemporaryGo value o r >>= fun _ => pure r) Q E s₃) E s₂ := by
    rw [hs o i]
    exact wpAny_operating (wpAny_mono h₂ (fun r s₃ h₃ => wpAny_bind (wpAny_letTemporaryGo (wpAny_pure h₃))) fun _ _ x => x)
  first
    | exact wpAny_pure (wpAny_bind fin)
    | exact wpAny_bind (wpAny_pure (wpAny_bind fin))
    | exact wpAny_bind fin
section
variable {X : Cx}
theorem pi_one {tg : Expr} {pins : List (Addr × Obj)} {σ : St} {H : Hp} {s : Shared} {R : It -> Hp -> Prop} {J : It} {tn : Nat -> Heap -> Prop} {tk : Nat} (I : Inv X pins σ H s) (o : Obj)
    (T : Turn X.prog X.w X.K tg J [s.heap.objs.size] s.heap.objs.size tn) (st : tn 0 (s.heap.push o)) (q : R J H) : PIE X pins σ tg R (.ref s.heap.objs.size) { s with heap := s.heap.push o, toks := tk } := by
  refine ⟨s.heap.objs.size, [s.heap.objs.size], tn, J, H, rfl, I.kept fun b ob e => Heap.get?_push_of_some _ e, T, st, fun b hb => ?_, q⟩
  have e : b = s.heap.objs.size := by simpa using hb
  subst e
  exact I.fpOk (Nat.le_refl _) (I.hok.fresh (Nat.le_refl _))
end
def Itc (lo c : Int) (n : Nat) : It := ⟨fun i _ => i < n, fun i H x H' => H' = H /\ x = .int (lo + (i : Nat) * c), fun i _ => n <= i⟩
theorem turn_rangeC {P : Program} {w : World} {K : PySem.W.Frag} {tg : Expr} (it : Addr) (lo c : Int) (n : Nat) : Turn P w K tg (Itc lo c n) [it] it (fun i h => IsRangeIter h it (lo + (i : Nat) * c) ((n : Int) - (i : Nat)) c) where
  mem := by simp
  obj := fun i h st b hb => by
    have e : b = it := by simpa using hb
    subst e
    exact ⟨_, st, fun v z => nomatch z⟩
  keep := fun i h h' st k => k it (by simp) _ st
  item := by
    intro X hP hw hK hc i pins s σ H E I hf st hg
    subst hP hw hK
    obtain ⟨f0, f1, f2, f3, f4, f5⟩ := hf it (by simp)
    have W := Walks.range (prog := X.prog) (w := X.w) (I.ok.hd hc) it lo c n
    refine W.item i s _ _ hg st fun v h' tk hv st' kk => ?_
    obtain ⟨t, rfl⟩ := hv
    have I1 : Inv X pins σ H { s with heap := h', toks := tk } := I.turned (fun b o hb e => kk b o (by simpa using hb) e) f0 f1 f3 f4 f5
    exact ⟨_, rfl, go_of (s := { s with heap := h', toks := tk }) (n := "range_iterator") st' rfl rfl (by decide) ⟨.int (lo + (i : Nat) * c), H, I1, ⟨t, rfl⟩, ⟨rfl, rfl⟩, st', fun b hb => (hf b hb).1⟩⟩
  done := by
    intro X hP hw hK hc i pins s σ H E I hf st hg
    subst hP hw hK
    obtain ⟨f0, f1, f2, f3, f4, f5⟩ := hf it (by simp)
    exact wpAny_pyNext_range_end (I.ok.hd hc) st (by have : n <= i := hg; omega) fun h' eb => ⟨rfl, I.turned (t' := s.toks) (fun b o hb e => eb b o hb e) f0 f1 f3 f4 f5⟩
  self := fun A i s Q E st h => wpAny_pyIter_rangeiter st h
def RgC (i j c : Int) (n : Nat) : Prop := c ≠ 0 /\ c.natAbs < 1073741824 /\ Builtin.Range.small i j c = true /\ Builtin.Range.rangeSize i j c = n
theorem RgC.neg {i j : Int} (ha : -(2 ^ 62) <= i) (ha' : i < 2 ^ 62) (hb : -(2 ^ 62) <= j) (hb' : j < 2 ^ 62) : RgC i j (-1) (i - j).toNat :=
  ⟨by decide, by decide, PySem.W.small_down ha ha' hb hb', PySem.W.rangeSize_downNat i j⟩
def iRng3 (ta : TA) : TI := fun σ H R => ta σ H fun vs H1 => ∃ (i j c : Int) (n : Nat), vs = [.int i, .int j, .int c] /\ RgC i j c n /\ R (Itc i c n) H1
section
variable {X : Cx} {tg : Expr}
theorem pi_range3 {a b c : Expr} {ta : TA} {p pos : Pos} (hg : Gl X "range") (hm : X.mg "range" = none) (ha : PA X [a, b, c] ta)
    (hs : starEach [a, b, c] X.env = (false, eval a X.env) :: starEach [b, c] X.env := by rfl) (hpl : (backTo pos (starEach [b, c] X.env)).any (·.1) = false := by rfl) :
    PI X tg (.Call (.Name "range" p) [a, b, c] [] pos) (iRng3 ta) := by
  intro pins s σ H R I h
  refine Call_ (ld_blt I hg hm boot_range (PyProof.Rows.callWith_type1 (thn (ha pos pins s σ H _ I h) fun us s1 ⟨vs, H1, I1, r1, q1⟩ => ?_) hs hpl))
  obtain ⟨i, j, k, n, e, ⟨c0, c1, c2, c3⟩, q⟩ := q1
  subst e
  cases r1 with
  | cons r rr =>
    cases rr with
    | cons r' rr =>
      cases rr with
      | cons r'' rr =>
        cases rr
        obtain ⟨t, rfl⟩ := r
        obtain ⟨t', rfl⟩ := r'
        obtain ⟨t'', rfl⟩ := r''
        refine call_range_3 c0 ?_ (.inl (PyProof.noPylong_small c1))
        refine wpAny_pyIter_range (IsRange.new ..) c2 ?_
        have I2 : Inv X pins σ H1 { s1 with heap := s1.heap.push { cls := .type "range", data := .fields #[.int i t, .int j t', .int k t''] } } := I1.kept (t' := s1.toks) fun b o e => Heap.get?_push_of_some _ e
        refine pi_one (tk := s1.toks) I2 _ (turn_rangeC _ i k n) ?_ q
        have e1 : i + ((0 : Nat) : Int) * k = i := by simp
        have e2 : (n : Int) - ((0 : Nat) : Int) = Builtin.Range.rangeSize i j k := by rw [c3]; simp
        show IsRangeIter _ _ (i + ((0 : Nat) : Int) * k) ((n : Int) - ((0 : Nat) : Int)) k
        rw [e1, e2]
        exact Heap.get?_push_size _ rfl
end
theorem for_rangeC {lo c : Int} {n : Nat} {g : TG} {tb : TS} {D : Ends} {σ : St} {H : Hp} (Pv : Nat -> St -> Hp -> Prop) (h0 : Pv 0 σ H)
    (hs : ∀ i σ H, i < n -> Pv i σ H -> g (.int (lo + (i : Nat) * c)) σ H fun σ2 H2 => tb { D with nx := Pv (i + 1), ct := Pv (i + 1), bk := D.nx } σ2 H2) (hd : ∀ σ H, Pv n σ H -> D.nx σ H) :
    ∃ W : Nat -> Nat -> St -> Hp -> Prop, (∃ m, W 0 m σ H) /\ ∀ i m σ H, W i m σ H ->
      ((Itc lo c n).stop i H /\ D.nx σ H) \/ ((Itc lo c n).go i H /\ ∃ N : St -> Hp -> Prop, (∀ σ' H', N σ' H' -> ∃ m', m' < m /\ W (i + 1) m' σ' H') /\ ∀ x H', (Itc lo c n).yld i H x H' -> g x σ H' fun σ2 H2 => tb { D with nx := N, ct := N, bk := D.nx } σ2 H2) := by
  refine ⟨fun i m σ H => m = n - i /\ i <= n /\ Pv i σ H, ⟨n, by simp, Nat.zero_le _, h0⟩, ?_⟩
  rintro i m σ H ⟨rfl, hi, p⟩
  by_cases hlt : i < n
  . refine .inr ⟨hlt, Pv (i + 1), fun σ' H' p' => ⟨n - (i + 1), by omega, rfl, hlt, p'⟩, fun x H' y => ?_⟩
    obtain ⟨e, y⟩ := y
    subst e y
    exact hs i σ _ hlt p
  . have e : i = n := by omega
    subst e
    exact .inl ⟨Nat.le_refl _, hd σ H p⟩
end L2
section
namespace Bits
open PySem PyProof.Rows
theorem bitOr_pp {x y : Int} (hx : 0 <= x) (hy : 0 <= y) : Builtin.bitOr x y = ((x.toNat ||| y.toNat : Nat) : Int) := by
  have e := nat_or_add_and x.toNat y.toNat
  rw [bitOr_and, bitAnd_pp hx hy]
  omega
end Bits
end
/- THE LAST THEOREM (shape; LID, My.* are yours):
   My.Adr: a structure of the addresses that your layer names (classes, functions); My.Txt K t: a structure (Prop) of the equations over K;
   My.txt_mk : {K} {implicit addresses ..} (e1 : nsIn K mainGlobals "law" = some (some (.ref f))) (e2 : K.lookup f = some ⟨oc, od, .func (fnOf "law" "law" params body scope dV kV doc pm an cdv ct), sl⟩) (e3 : codeIn K cdv "law" = true) .. : ∃ t, My.Txt K t
set_option maxRecDepth 100000 in
set_option maxHeartbeats 0 in
theorem PySem.Challenge.cw_LID_holds : PySem.Challenge.rw_LID.Holds := by
  w_on; o_law; k_head; (case hw => w_witness2)
  k_fill
  refine L2.walk_of (l := PySem.Challenge.rw_LID) (n := 63) (k := 40) (x := "script") (CX := fun w => ..) (sp := fun _ => My.sp_law) rfl (by decide) rfl ⟨rfl, by decide, by decide⟩ (fun w h Y => PySem.W.kIn_of Y) ?F ?S ?C
  case F =>
    intro w mg fa h KX G hmg
    have T : ∃ t, My.Txt (L2.KOf KX) t := by
      dsimp only [L2.KOf]                          -- K must stand as «<heap const> w.params» for k_is
      refine' My.txt_mk ?e1 ?e2 ?e3 ..
      (case e1 => PySem.W.k_is)                    -- in the order: a name -> its address -> its object -> its parts
      (case e2 => PySem.W.k_is)
      ..
    obtain ⟨t, T⟩ := T
    have e0 := hmg.symm.trans (PySem.W.mg_of KX G T.law)
    cases e0                                       -- fa is the law's own address
    exact ⟨_, fun s u => .of_eq rfl, fun base kb nb => My.law_fn T kb nb⟩     -- if «.of_eq rfl» comes too early: refine' ⟨_, ?b, fun base kb nb => My.law_fn T kb nb⟩; exact fun s u => .of_eq rfl
  case S => exact fun w H a ns hl hO hS => ..
  case C => exact ..
(the tactic k_is has no namespace: write k_is) -/
namespace L2
open PySem PySem.Spec PyProof.Rows
def inClass (s : Stmt) (j : Nat) : Stmt := match s with
  | .ClassDef _ _ _ body _ _ _ _ _ _ _ => body.getD j (.Pass ⟨0, 0, 0, 0⟩)
  | _ => .Pass ⟨0, 0, 0, 0⟩
def defArgs (s : Stmt) : Arguments := match s with
  | .FunctionDef _ a _ _ _ _ _ _ _ _ => a
  | _ => { posonlyargs := [], args := [], vararg := none, kwonlyargs := [], kw_defaults := [], kwarg := none, defaults := [] }
def defBody (s : Stmt) : List Stmt := match s with
  | .FunctionDef _ _ b _ _ _ _ _ _ _ => b
  | _ => []
def defScope (s : Stmt) : Scope := match s with
  | .FunctionDef _ _ _ _ _ _ sc _ _ _ => sc
  | _ => { kind := .function, names := [], isGenerator := false, isCoroutine := false }
abbrev CX0 : CXT := fun _ _ _ _ _ _ => False
abbrev E0 : XK := fun _ _ _ => False
theorem pass0 {X : Cx} : Passes CX0 X E0 := fun _ _ _ _ _ _ _ h => h.elim
structure Fun (K : PySem.W.Frag) (x qual : Str) (st : Stmt) (f : Addr) (fd : FuncData) : Prop where
  ex : ∃ (oc : Value) (od : Option Addr) (kV doc pm : Value) (an : Option Addr) (cdv ct : Value) (osl : Array (Option Value)),
    fd = PySem.W.fnOf x qual (defArgs st) (defBody st) (defScope st) .none kV doc pm an cdv ct /\ K.lookup f = some ⟨oc, od, .func fd, osl⟩ /\ PySem.W.codeIn K cdv qual = true
  kp : PySem.W.keepIn K (.ref f) = true
section
variable {P : Program} {w : World} {K : PySem.W.Frag} {mg : Str -> Option Value} {base : Heap}
theorem Fun.ok {x qual : Str} {st : Stmt} {f : Addr} {fd : FuncData} {N ps : List Str} {k : Nat} {sp : Sp} (F : Fun K x qual st f fd) (S : FnScope N ps (defScope st)) (len : ∀ vs H Q E, sp vs H Q E -> vs.length = ps.length)
    (hbody : ∀ (cdv : Value) (A : Around) (outer : List Env) (s : Shared) (H : Hp) (vs : List V) (Q : VK) (E : XK), Room k (A.deeper (envOfC qual (defScope st) s.heap.objs.size f cdv)) -> sp vs H Q E ->
      ∃ t, PSs (cxOf CX0 P w K mg base N qual (defScope st) f cdv A outer s H E).nox (defBody st) t /\ t { nx := fun _ H' => Q .non H', rt := Q } (start N vs) H) : FnOk P w K mg base CX0 (k + 1) f fd ps sp := by
  obtain ⟨oc, od, kV, doc, pm, an, cdv, ct, osl, rfl, lk, hcd⟩ := F.ex
  refine fn_of lk hcd S len fun A outer s H vs Q E hr hsp => ?_
  obtain ⟨t, h, q⟩ := hbody cdv A outer s H vs Q E hr hsp
  exact ⟨t, h.nox, q⟩
theorem Fun.binds {x qual : Str} {st : Stmt} {f : Addr} {fd : FuncData} {ps : List Str} (F : Fun K x qual st f fd)
    (h : ∀ (kV doc pm : Value) (an : Option Addr) (cdv ct : Value) (us : List Value), us.length = ps.length -> bindArgs (PySem.W.fnOf x qual (defArgs st) (defBody st) (defScope st) .none kV doc pm an cdv ct) ⟨us, []⟩ = pure (ps.zip us)) : Binds K fd ps [] := by
  obtain ⟨oc, od, kV, doc, pm, an, cdv, ct, osl, rfl, lk, hcd⟩ := F.ex
  exact .all (h kV doc pm an cdv ct)
theorem fun_mk {x qual : Str} {st : Stmt} {f : Addr} {oc : Value} {od an : Option Addr} {osl : Array (Option Value)} {kV doc pm cdv ct : Value} (l : K.lookup f = some ⟨oc, od, .func (PySem.W.fnOf x qual (defArgs st) (defBody st) (defScope st) .none kV doc pm an cdv ct), osl⟩)
    (c : PySem.W.codeIn K cdv qual = true) (k : PySem.W.keepIn K (.ref f) = true) : Fun K x qual st f (PySem.W.fnOf x qual (defArgs st) (defBody st) (defScope st) .none kV doc pm an cdv ct) := ⟨⟨oc, od, kV, doc, pm, an, cdv, ct, osl, rfl, l, c⟩, k⟩
end
section
variable {X : Cx}
theorem pv (i : Nat) {x : Str} {pos : Pos} (hN : X.N[i]? = some x := by rfl) (hv : Vis X.env.scope x := by first | exact Or.inl rfl | exact Or.inr (Or.inl rfl) | exact Or.inr (Or.inr rfl)) (hd : (x == ("__debug__" : Str)) = false := by decide)
    (hcd : (x == ("__classdict__" : Str)) = false := by decide) : PE X (.Name x pos) (tVar i) := pe_var hN hv hd hcd
end
theorem iteF {A B : Prop} (h : B) : if false = true then A else B := by
  rw [if_neg Bool.false_ne_true]
  exact h
theorem iteT {A B : Prop} (h : A) : if true = true then A else B := by
  rw [if_pos rfl]
  exact h
theorem ite2 {c A B : Prop} [Decidable c] (h1 : c -> A) (h2 : ¬ c -> B) : if c then A else B := by
  by_cases h : c
  . rw [if_pos h]
    exact h1 h
  . rw [if_neg h]
    exact h2 h
def Same (H H' : Hp) : Prop := ∀ b o, H b = some o -> H' b = some o
theorem Same.refl (H : Hp) : Same H H := fun _ _ h => h
theorem Same.trans {H H1 H2 : Hp} (a : Same H H1) (b : Same H1 H2) : Same H H2 := fun c o h => b c o (a c o h)
theorem Same.free {H H' : Hp} (e : Same H H') {l : Addr} (h : H' l = Option.none) : H l = Option.none := by
  cases q : H l with
  | none => rfl
  | some o =>
    rw [e l o q] at h
    cases h
theorem Same.seq {K : PySem.W.Frag} {H H' : Hp} {a : Addr} {xs : List V} (e : Same H H') (h : SqL K H a xs) : SqL K H' a xs := by
  rcases h with (h | ⟨o, h⟩) | h
  . exact .inl (.inl (e _ _ h))
  . exact .inl (.inr ⟨o, e _ _ h⟩)
  . exact .inr h
section
variable {κ : Type} [DecidableEq κ]
theorem nd_snoc : ∀ {l : List κ} {k : κ}, l.Nodup -> ¬ k ∈ l -> (l ++ [k]).Nodup
  | [], k, _, _ => by simp
  | a :: r, k, h, hk => by
    obtain ⟨h1, h2⟩ := List.nodup_cons.mp h
    show (a :: (r ++ [k])).Nodup
    refine List.nodup_cons.mpr ⟨fun m => ?_, nd_snoc h2 fun m => hk (List.mem_cons.mpr (Or.inr m))⟩
    rcases List.mem_append.mp m with q | q
    . exact h1 q
    . exact hk (List.mem_cons.mpr (Or.inl (List.mem_singleton.mp q).symm))
end
theorem at_of {xs : List V} {z : Int} {j : Nat} {v : V} (e : z = (j : Int)) (h : xs[j]? = some v) : atI xs z = some v := by
  rw [e]
  exact atI_nat h
theorem nd_ix {α : Type} {l : List α} (hN : l.Nodup) {i j : Nat} {x : α} (a : l[i]? = some x) (b : l[j]? = some x) : i = j := by
  obtain ⟨h1, e1⟩ := List.getElem?_eq_some_iff.mp a
  obtain ⟨h2, e2⟩ := List.getElem?_eq_some_iff.mp b
  exact (List.getElem_inj hN).mp (e1.trans e2.symm)
theorem Same.made {H H1 : Hp} {x dx C : Addr} (nx : H x = Option.none) (nd : H dx = Option.none) (k : ∀ b o, (upd (upd H dx (.own x)) x (.ins C dx [])) b = some o -> b ≠ x -> H1 b = some o) : Same H H1 := fun b o e =>
  k b o (by rw [upd_ne (ne_of_none e nx), upd_ne (ne_of_none e nd)]; exact e) (ne_of_none e nx)
end L2
section
namespace L2
open PySem PySem.Spec PyProof.Rows
open PySem.W (WData Codec OpenSpec Well WellAll ReadsW ReadsAllW)
mutual
inductive Dw (K : PySem.W.Frag) (H : Hp) : V -> WData -> Prop
  | non : Dw K H .non .none
  | bl (b : Bool) : Dw K H (.bl b) (.bool b)
  | int (i : Int) : Dw K H (.int i) (.int i)
  | str (x : Str) : Dw K H (.str x) (.str x)
  | byt (b : Array UInt8) : Dw K H (.byt b) (.bytes b.toList)
  | lst {a : Addr} {xs : List V} {ds : List WData} : SqL K H a xs -> DwAll K H xs ds -> Dw K H (.ref a) (.list ds)
  | tup {a : Addr} {xs : List V} {ds : List WData} : SqT K H a xs -> DwAll K H xs ds -> Dw K H (.ref a) (.tuple ds)
inductive DwAll (K : PySem.W.Frag) (H : Hp) : List V -> List WData -> Prop
  | nil : DwAll K H [] []
  | cons {v : V} {vs : List V} {d : WData} {ds : List WData} : Dw K H v d -> DwAll K H vs ds -> DwAll K H (v :: vs) (d :: ds)
end
theorem dw_ints {K : PySem.W.Frag} {H : Hp} : ∀ ns : List Int, DwAll K H (ns.map V.int) (ns.map WData.int)
  | [] => .nil
  | n :: r => .cons (.int n) (dw_ints r)
theorem ints_dw {K : PySem.W.Frag} {H : Hp} : ∀ (ns : List Int) (xs : List V), DwAll K H xs (ns.map WData.int) -> xs = ns.map V.int
  | [], xs, h => by
    cases h
    rfl
  | n :: r, xs, h => by
    cases h with
    | cons h1 h2 =>
      cases h1
      rw [ints_dw r _ h2] <;> rfl
section
variable {P : Program} {w : World} {K : PySem.W.Frag} {H : Hp} {h : Heap} {R : PySem.W.WRecords} {cl : Str -> Option Addr}
theorem sqL_at {a : Addr} {xs : List V} (hok : HOk P w H h) (KX : K.In h) (q : SqL K H a xs) : ∃ (its : List Value) (o : Obj) (n : Nat), Vals xs its /\ h.get? a = some o /\ o.cls = .type "list" /\ o.data = .seq its.toArray n := by
  rcases q with q | ⟨o, its, n, e, hc, _, hd, _, hv⟩
  . obtain ⟨_, its, n, hv, e⟩ := (show ObjOk P w H h a (.lst xs) from q.ok hok)
    exact ⟨its, _, n, hv, e, rfl, rfl⟩
  . exact ⟨its.toList, o, n, hv, KX _ _ e, hc, by simp [hd]⟩
theorem sqT_at {a : Addr} {xs : List V} (hok : HOk P w H h) (KX : K.In h) (q : SqT K H a xs) : ∃ (its : List Value) (o : Obj) (n : Nat), Vals xs its /\ h.get? a = some o /\ o.cls = .type "tuple" /\ o.data = .seq its.toArray n := by
  rcases q with q | ⟨o, its, n, e, hc, hd, _, hv⟩
  . obtain ⟨_, its, hv, o, e, hc, n, hd⟩ := (show ObjOk P w H h a (.tup xs) from q.ok hok)
    exact ⟨its, o, n, hv, e, hc, hd⟩
  . exact ⟨its.toList, o, n, hv, KX _ _ e, hc, by simp [hd]⟩
mutual
theorem Dw.reads (hok : HOk P w H h) (KX : K.In h) : ∀ (d : WData) (v : V) (u : Value), Dw K H v d -> RelV v u -> ∃ as, ReadsW R cl h u d as
  | .none, _, _, x, r => by
    cases x
    cases r
    exact ⟨_, ReadsW.none⟩
  | .bool b, _, _, x, r => by
    cases x
    cases r
    exact ⟨_, ReadsW.bool b⟩
  | .int i, _, _, x, r => by
    cases x
    obtain ⟨t, rfl⟩ := r
    exact ⟨_, ReadsW.int i t⟩
  | .str s, _, _, x, r => by
    cases x
    obtain ⟨t, rfl⟩ := r
    exact ⟨_, ReadsW.str s t⟩
  | .bytes b, _, _, x, r => by
    cases x
    obtain ⟨t, rfl⟩ := r
    exact ⟨_, ReadsW.bytes _ t⟩
  | .list ds, _, _, x, r => by
    cases x with
    | lst hs ha =>
      cases r
      obtain ⟨its, o, n, rv, ho, hc, hd⟩ := sqL_at hok KX hs
      obtain ⟨as, hr⟩ := Dw.readsAll hok KX ds _ its ha rv
      exact ⟨_, ReadsW.list ho hc hd hr⟩
  | .tuple ds, _, _, x, r => by
    cases x with
    | tup hs ha =>
      cases r
      obtain ⟨its, o, n, rv, ho, hc, hd⟩ := sqT_at hok KX hs
      obtain ⟨as, hr⟩ := Dw.readsAll hok KX ds _ its ha rv
      exact ⟨_, ReadsW.tuple ho hc hd hr⟩
  | .float _, _, _, x, _ => by cases x
  | .dict _, _, _, x, _ => by cases x
  | .bytearray _, _, _, x, _ => by cases x
  | .set _, _, _, x, _ => by cases x
  | .frozenset _, _, _, x, _ => by cases x
  | .obj _ _, _, _, x, _ => by cases x
theorem Dw.readsAll (hok : HOk P w H h) (KX : K.In h) : ∀ (ds : List WData) (vs : List V) (us : List Value), DwAll K H vs ds -> Vals vs us -> ∃ as, ReadsAllW R cl h us ds as
  | [], _, _, x, r => by
    cases x
    cases r
    exact ⟨_, ReadsAllW.nil⟩
  | d :: ds, _, _, x, r => by
    cases x with
    | cons h1 h2 =>
      cases r with
      | cons r1 r2 =>
        obtain ⟨as, q1⟩ := Dw.reads hok KX d _ _ h1 r1
        obtain ⟨bs, q2⟩ := Dw.readsAll hok KX ds _ _ h2 r2
        exact ⟨_, ReadsAllW.cons q1 q2⟩
end
end
mutual
def plW : WData -> Bool
  | .none => true
  | .bool _ => true
  | .int _ => true
  | .str _ => true
  | .bytes _ => true
  | .list xs => plWs xs
  | .tuple xs => plWs xs
  | _ => false
def plWs : List WData -> Bool
  | [] => true
  | x :: r => plW x && plWs r
end
theorem plWs_map {α : Type} {f : α -> WData} (h : ∀ a, plW (f a) = true) : ∀ l : List α, plWs (l.map f) = true
  | [] => rfl
  | x :: r => by
    show (plW (f x) && plWs (r.map f)) = true
    rw [h x, plWs_map h r] <;> rfl
theorem pl_enc : ∀ (c : Codec) (a : c.denote), plW (c.enc a) = true
  | .unit, _ => rfl
  | .bool, _ => rfl
  | .int _ _, _ => rfl
  | .nat _ _, _ => rfl
  | .u8, _ => rfl
  | .bytes _ _, _ => rfl
  | .text _ _ _ _, _ => rfl
  | .list _ _ c, a => plWs_map (fun x => pl_enc c x) a
  | .pair c d, a => by
    show (plW (c.enc a.1) && (plW (d.enc a.2) && true)) = true
    rw [pl_enc c a.1, pl_enc d a.2] <;> rfl
  | .triple c d e, a => by
    show (plW (c.enc a.1) && (plW (d.enc a.2.1) && (plW (e.enc a.2.2) && true))) = true
    rw [pl_enc c a.1, pl_enc d a.2.1, pl_enc e a.2.2] <;> rfl
  | .option c, none => rfl
  | .option c, some x => pl_enc c x
theorem pl_encAll : ∀ (cs : List Codec) (a : Codec.denoteAll cs), plWs (Codec.encAll cs a) = true
  | [], _ => rfl
  | c :: cs, a => by
    show (plW (c.enc a.1) && plWs (Codec.encAll cs a.2)) = true
    rw [pl_enc c a.1, pl_encAll cs a.2] <;> rfl
theorem weight_mem : ∀ {xs : List WData} {d : WData}, d ∈ xs -> d.weight <= WData.weightAll xs
  | [], d, h => absurd h (by simp)
  | x :: r, d, h => by
    show d.weight <= x.weight + 1 + WData.weightAll r
    rcases List.mem_cons.mp h with e | m
    . rw [e]
      omega
    . have z := weight_mem m
      omega
def toV : Value -> V
  | .none => .non
  | .bool b => .bl b
  | .int i _ => .int i
  | .str x _ => .str x
  | .bytes b _ => .byt b
  | .ref a => .ref a
  | _ => .non
def OkU (A : List Addr) : Value -> Prop
  | .none => True
  | .bool _ => True
  | .int _ _ => True
  | .str _ _ => True
  | .bytes _ _ => True
  | .ref a => a ∈ A
  | _ => False
theorem OkU.mono {A B : List Addr} (h : ∀ a ∈ A, a ∈ B) : ∀ {u : Value}, OkU A u -> OkU B u := fun {u} x => by
  cases u with
  | ref a => exact h a x
  | none => trivial
  | bool b => trivial
  | int i t => trivial
  | str s t => trivial
  | bytes b t => trivial
  | _ => exact False.elim x
theorem relV_toV {A : List Addr} {u : Value} (x : OkU A u) : RelV (toV u) u := by
  cases u with
  | ref a => rfl
  | none => rfl
  | bool b => rfl
  | int i t => exact ⟨t, rfl⟩
  | str s t => exact ⟨t, rfl⟩
  | bytes b t => exact ⟨t, rfl⟩
  | _ => exact False.elim x
theorem vals_toV {A : List Addr} : ∀ {vs : List Value}, (∀ u ∈ vs, OkU A u) -> Vals (vs.map toV) vs
  | [], _ => .nil
  | u :: r, h => .cons (relV_toV (h u (List.mem_cons_self ..))) (vals_toV fun x hx => h x (List.mem_cons_of_mem _ hx))
def ArgOb (h : Heap) (A : List Addr) (a : Addr) : Prop := ∃ vs : List Value, vs.length <= sizeLine /\ (∀ u ∈ vs, OkU A u) /\
  (h.get? a = some { cls := .type "list", data := .seq vs.toArray } \/ h.get? a = some { cls := .type "tuple", data := .seq vs.toArray })
theorem ArgOb.mono {h : Heap} {A B : List Addr} {a : Addr} (k : ∀ a ∈ A, a ∈ B) (x : ArgOb h A a) : ArgOb h B a := by
  obtain ⟨vs, h1, h2, h3⟩ := x
  exact ⟨vs, h1, fun u hu => (h2 u hu).mono k, h3⟩
theorem wellAll_len {P : Params} {h : Heap} : ∀ {vs : List Value} {ds : List WData}, WellAll P h vs ds -> vs.length = ds.length
  | _, _, .nil => rfl
  | _, _, .cons _ b => by
    show _ + 1 = _ + 1
    rw [wellAll_len b]
theorem well_list {P : Params} {h : Heap} {v : Value} {ds : List WData} (x : Well P h v (.list ds)) : ∃ (a : Addr) (vs : List Value), v = .ref a /\ h.get? a = some { cls := .type "list", data := .seq vs.toArray } /\ WellAll P h vs ds := by
  cases x with
  | list ho hall => exact ⟨_, _, rfl, ho, hall⟩
theorem well_tuple {P : Params} {h : Heap} {v : Value} {ds : List WData} (x : Well P h v (.tuple ds)) : ∃ (a : Addr) (vs : List Value), v = .ref a /\ h.get? a = some { cls := .type "tuple", data := .seq vs.toArray } /\ WellAll P h vs ds := by
  cases x with
  | tuple ho hall => exact ⟨_, _, rfl, ho, hall⟩
theorem well_cons {P : Params} {h : Heap} {us : List Value} {d : WData} {ds : List WData} (x : WellAll P h us (d :: ds)) : ∃ (v : Value) (vs : List Value), us = v :: vs /\ Well P h v d /\ WellAll P h vs ds := by
  cases x with
  | cons a b => exact ⟨_, _, rfl, a, b⟩
theorem line_of {n : Nat} (h : n <= 1048576) : n <= sizeLine := Nat.le_trans h (by decide)
section
variable {P : Params} {h : Heap}
mutual
theorem area_one : ∀ (d : WData) (v : Value), Well P h v d -> plW d = true -> d.weight <= 1048576 -> ∃ A : List Addr, OkU A v /\ ∀ a ∈ A, ArgOb h A a
  | .none, _, x, _, _ => by
    cases x
    exact ⟨[], trivial, fun a m => absurd m (by simp)⟩
  | .bool b, _, x, _, _ => by
    cases x
    exact ⟨[], trivial, fun a m => absurd m (by simp)⟩
  | .int i, _, x, _, _ => by
    cases x
    exact ⟨[], trivial, fun a m => absurd m (by simp)⟩
  | .str s, _, x, _, _ => by
    cases x
    exact ⟨[], trivial, fun a m => absurd m (by simp)⟩
  | .bytes b, _, x, _, _ => by
    cases x
    exact ⟨[], trivial, fun a m => absurd m (by simp)⟩
  | .list ds, _, x, p, z => by
    obtain ⟨a, vs, rfl, ho, hall⟩ := well_list x
    have z2 : WData.weightAll ds <= 1048576 := z
    obtain ⟨A, h1, h2⟩ := area_all ds _ hall p fun d hd => Nat.le_trans (weight_mem hd) z2
    have k : ∀ b ∈ A, b ∈ a :: A := fun b hb => List.mem_cons_of_mem _ hb
    refine ⟨a :: A, List.mem_cons_self .., fun b hb => ?_⟩
    rcases List.mem_cons.mp hb with e | m
    . rw [e]
      exact ⟨vs, line_of (by rw [wellAll_len hall]; exact Nat.le_trans (PySem.W.length_le_weightAllW ds) z2), fun u hu => (h1 u hu).mono k, .inl ho⟩
    . exact (h2 b m).mono k
  | .tuple ds, _, x, p, z => by
    obtain ⟨a, vs, rfl, ho, hall⟩ := well_tuple x
    have z2 : WData.weightAll ds <= 1048576 := z
    obtain ⟨A, h1, h2⟩ := area_all ds _ hall p fun d hd => Nat.le_trans (weight_mem hd) z2
    have k : ∀ b ∈ A, b ∈ a :: A := fun b hb => List.mem_cons_of_mem _ hb
    refine ⟨a :: A, List.mem_cons_self .., fun b hb => ?_⟩
    rcases List.mem_cons.mp hb with e | m
    . rw [e]
      exact ⟨vs, line_of (by rw [wellAll_len hall]; exact Nat.le_trans (PySem.W.length_le_weightAllW ds) z2), fun u hu => (h1 u hu).mono k, .inr ho⟩
    . exact (h2 b m).mono k
  | .float _, _, _, p, _ => Bool.noConfusion (show false = true from p)
  | .dict _, _, _, p, _ => Bool.noConfusion (show false = true from p)
  | .bytearray _, _, _, p, _ => Bool.noConfusion (show false = true from p)
  | .set _, _, _, p, _ => Bool.noConfusion (show false = true from p)
  | .frozenset _, _, _, p, _ => Bool.noConfusion (show false = true from p)
  | .obj _ _, _, _, p, _ => Bool.noConfusion (show false = true from p)
theorem area_all : ∀ (ds : List WData) (vs : List Value), WellAll P h vs ds -> plWs ds = true -> (∀ d ∈ ds, d.weight <= 1048576) -> ∃ A : List Addr, (∀ u ∈ vs, OkU A u) /\ ∀ a ∈ A, ArgOb h A a
  | [], _, x, _, _ => by
    cases x
    exact ⟨[], fun u m => absurd m (by simp), fun a m => absurd m (by simp)⟩
  | d :: ds, _, x, p, z => by
    obtain ⟨v, vs, rfl, x1, x2⟩ := well_cons x
    have q : plW d = true /\ plWs ds = true := Bool.and_eq_true_iff.mp p
    obtain ⟨A, a1, a2⟩ := area_one d v x1 q.1 (z d (List.mem_cons_self ..))
    obtain ⟨B, b1, b2⟩ := area_all ds vs x2 q.2 fun e he => z e (List.mem_cons_of_mem _ he)
    have kA : ∀ b ∈ A, b ∈ A ++ B := fun b hb => List.mem_append.mpr (.inl hb)
    have kB : ∀ b ∈ B, b ∈ A ++ B := fun b hb => List.mem_append.mpr (.inr hb)
    refine ⟨A ++ B, fun u hu => ?_, fun b hb => ?_⟩
    . rcases List.mem_cons.mp hu with e | m
      . rw [e]
        exact a1.mono kA
      . exact (b1 u m).mono kB
    . rcases List.mem_append.mp hb with m | m
      . exact (a2 b m).mono kA
      . exact (b2 b m).mono kB
end
end
def hoOf (o : Obj) : Option HO := match o.data with
  | .seq vs _ => if (o.cls == Value.type "list") = true then some (.frz o (.lst (vs.toList.map toV))) else some (.frz o (.tup (vs.toList.map toV)))
  | _ => none
def argH (K : PySem.W.Frag) (h : Heap) (A : List Addr) : Hp := fun b => if b ∈ A then (if (K.lookup b).isNone = true then (h.get? b).bind hoOf else none) else none
def OnlyF (H : Hp) : Prop := ∀ b, H b = none \/ ∃ o u, H b = some (.frz o u)
theorem hoOf_lst (vs : List Value) : hoOf { cls := .type "list", data := .seq vs.toArray } = some (.frz { cls := .type "list", data := .seq vs.toArray } (.lst (vs.map toV))) := by
  show (if (Value.type "list" == Value.type "list") = true then some (HO.frz { cls := .type "list", data := .seq vs.toArray } (.lst (vs.toArray.toList.map toV))) else some (HO.frz { cls := .type "list", data := .seq vs.toArray } (.tup (vs.toArray.toList.map toV)))) = _
  rw [if_pos (beq_self_eq_true _)]
theorem hoOf_tup (vs : List Value) : hoOf { cls := .type "tuple", data := .seq vs.toArray } = some (.frz { cls := .type "tuple", data := .seq vs.toArray } (.tup (vs.map toV))) := by
  show (if (Value.type "tuple" == Value.type "list") = true then some (HO.frz { cls := .type "tuple", data := .seq vs.toArray } (.lst (vs.toArray.toList.map toV))) else some (HO.frz { cls := .type "tuple", data := .seq vs.toArray } (.tup (vs.toArray.toList.map toV)))) = _
  rw [if_neg (by decide)]
section
variable {P : Program} {w : World} {K : PySem.W.Frag} {h : Heap} {A : List Addr}
theorem argH_at {b : Addr} {o : Obj} (hb : b ∈ A) (hk : K.lookup b = none) (e : h.get? b = some o) : argH K h A b = hoOf o := by
  unfold argH
  rw [if_pos hb, hk, if_pos (show (none : Option Obj).isNone = true from rfl), e] <;> rfl
theorem of_argH {b : Addr} {u : HO} (q : argH K h A b = some u) : b ∈ A /\ K.lookup b = none := by
  unfold argH at q
  by_cases hb : b ∈ A
  . rw [if_pos hb] at q
    cases hk : K.lookup b with
    | none => exact ⟨hb, rfl⟩
    | some o =>
      rw [hk, if_neg (by simp)] at q
      cases q
  . rw [if_neg hb] at q
    cases q
theorem argH_is (ar : ∀ a ∈ A, ArgOb h A a) {b : Addr} {u : HO} (q : argH K h A b = some u) : K.lookup b = none /\ ∃ vs : List Value, vs.length <= sizeLine /\ (∀ u ∈ vs, OkU A u) /\
    ((h.get? b = some { cls := .type "list", data := .seq vs.toArray } /\ u = .frz { cls := .type "list", data := .seq vs.toArray } (.lst (vs.map toV))) \/
     (h.get? b = some { cls := .type "tuple", data := .seq vs.toArray } /\ u = .frz { cls := .type "tuple", data := .seq vs.toArray } (.tup (vs.map toV)))) := by
  obtain ⟨hb, hk⟩ := of_argH q
  obtain ⟨vs, h1, h2, h3⟩ := ar b hb
  refine ⟨hk, vs, h1, h2, ?_⟩
  rcases h3 with e | e
  . rw [argH_at hb hk e, hoOf_lst] at q
    exact .inl ⟨e, (Option.some.inj q).symm⟩
  . rw [argH_at hb hk e, hoOf_tup] at q
    exact .inr ⟨e, (Option.some.inj q).symm⟩
theorem argH_only (ar : ∀ a ∈ A, ArgOb h A a) : OnlyF (argH K h A) := fun b => by
  cases q : argH K h A b with
  | none => exact .inl rfl
  | some u =>
    obtain ⟨_, vs, _, _, ⟨_, e⟩ | ⟨_, e⟩⟩ := argH_is ar q
    . exact .inr ⟨_, _, by rw [e]⟩
    . exact .inr ⟨_, _, by rw [e]⟩
theorem argH_ok (ar : ∀ a ∈ A, ArgOb h A a) : HOk P w (argH K h A) h := fun b u q => by
  obtain ⟨_, vs, h1, h2, ⟨e, rfl⟩ | ⟨e, rfl⟩⟩ := argH_is ar q
  . exact ⟨e, by rw [List.length_map]; exact h1, vs, _, vals_toV h2, e⟩
  . exact ⟨e, by rw [List.length_map]; exact h1, vs, vals_toV h2, _, e, rfl, _, rfl⟩
theorem seq_inj {c c' : Value} {vs us : List Value} (e : (some { cls := c, data := .seq vs.toArray } : Option Obj) = some { cls := c', data := .seq us.toArray }) : c = c' /\ vs = us := by
  have e1 := Option.some.inj e
  have e2 : c = c' := congrArg Obj.cls e1
  have e3 : Data.seq vs.toArray = Data.seq us.toArray := congrArg Obj.data e1
  injection e3 with e4
  refine ⟨e2, ?_⟩
  have e5 := congrArg Array.toList e4
  simpa using e5
theorem argL (KX : K.In h) (ar : ∀ a ∈ A, ArgOb h A a) {a : Addr} {vs : List Value} (ha : a ∈ A) (e : h.get? a = some { cls := .type "list", data := .seq vs.toArray }) : (∀ u ∈ vs, OkU A u) /\ SqL K (argH K h A) a (vs.map toV) := by
  obtain ⟨us, h1, h2, h3⟩ := ar a ha
  have hu : us = vs := by
    rcases h3 with q | q
    . rw [e] at q
      exact (seq_inj q).2.symm
    . rw [e] at q
      exact absurd (Value.type.inj (seq_inj q).1) (by decide)
  subst hu
  refine ⟨h2, ?_⟩
  cases hk : K.lookup a with
  | none => exact .inl (.inr ⟨_, by rw [argH_at ha hk e, hoOf_lst]⟩)
  | some o =>
    have e2 := KX a o hk
    rw [e] at e2
    obtain rfl := Option.some.inj e2
    exact .inr ⟨_, us.toArray, _, hk, rfl, rfl, rfl, by rw [List.size_toArray]; exact h1, by simpa using vals_toV h2⟩
theorem argT (KX : K.In h) (ar : ∀ a ∈ A, ArgOb h A a) {a : Addr} {vs : List Value} (ha : a ∈ A) (e : h.get? a = some { cls := .type "tuple", data := .seq vs.toArray }) : (∀ u ∈ vs, OkU A u) /\ SqT K (argH K h A) a (vs.map toV) := by
  obtain ⟨us, h1, h2, h3⟩ := ar a ha
  have hu : us = vs := by
    rcases h3 with q | q
    . rw [e] at q
      exact absurd (Value.type.inj (seq_inj q).1) (by decide)
    . rw [e] at q
      exact (seq_inj q).2.symm
  subst hu
  refine ⟨h2, ?_⟩
  cases hk : K.lookup a with
  | none => exact .inl (.inr ⟨_, by rw [argH_at ha hk e, hoOf_tup]⟩)
  | some o =>
    have e2 := KX a o hk
    rw [e] at e2
    obtain rfl := Option.some.inj e2
    exact .inr ⟨_, us.toArray, _, hk, rfl, rfl, by rw [List.size_toArray]; exact h1, by simpa using vals_toV h2⟩
mutual
theorem dw_one {Pm : Params} (KX : K.In h) (ar : ∀ a ∈ A, ArgOb h A a) : ∀ (d : WData) (v : Value), Well Pm h v d -> plW d = true -> OkU A v -> Dw K (argH K h A) (toV v) d
  | .none, _, x, _, _ => by
    cases x
    exact .non
  | .bool b, _, x, _, _ => by
    cases x
    exact .bl b
  | .int i, _, x, _, _ => by
    cases x
    exact .int i
  | .str s, _, x, _, _ => by
    cases x
    exact .str s
  | .bytes b, _, x, _, _ => by
    cases x
    have z := Dw.byt (K := K) (H := argH K h A) b.toArray
    exact z
  | .list ds, _, x, p, hu => by
    obtain ⟨a, vs, rfl, ho, hall⟩ := well_list x
    obtain ⟨h2, hs⟩ := argL KX ar hu ho
    exact .lst hs (dw_all KX ar ds _ hall p h2)
  | .tuple ds, _, x, p, hu => by
    obtain ⟨a, vs, rfl, ho, hall⟩ := well_tuple x
    obtain ⟨h2, hs⟩ := argT KX ar hu ho
    exact .tup hs (dw_all KX ar ds _ hall p h2)
  | .float _, _, _, p, _ => Bool.noConfusion (show false = true from p)
  | .dict _, _, _, p, _ => Bool.noConfusion (show false = true from p)
  | .bytearray _, _, _, p, _ => Bool.noConfusion (show false = true from p)
  | .set _, _, _, p, _ => Bool.noConfusion (show false = true from p)
  | .frozenset _, _, _, p, _ => Bool.noConfusion (show false = true from p)
  | .obj _ _, _, _, p, _ => Bool.noConfusion (show false = true from p)
theorem dw_all {Pm : Params} (KX : K.In h) (ar : ∀ a ∈ A, ArgOb h A a) : ∀ (ds : List WData) (vs : List Value), WellAll Pm h vs ds -> plWs ds = true -> (∀ u ∈ vs, OkU A u) -> DwAll K (argH K h A) (vs.map toV) ds
  | [], _, x, _, _ => by
    cases x
    exact .nil
  | d :: ds, _, x, p, hu => by
    obtain ⟨v, vs, rfl, x1, x2⟩ := well_cons x
    have q : plW d = true /\ plWs ds = true := Bool.and_eq_true_iff.mp p
    exact .cons (dw_one KX ar d v x1 q.1 (hu _ (List.mem_cons_self ..))) (dw_all KX ar ds vs x2 q.2 fun u m => hu u (List.mem_cons_of_mem _ m))
end
end
theorem spec_call {P : Program} {w : World} {K : PySem.W.Frag} {mg mb : Str -> Option Value} {CX : CXT} {k : Nat} {fa : Addr} {fd : FuncData} {ps : List Str} {sp : Sp} {s₁ : Shared} {vals : List Value} {ds : List WData} {R : PySem.W.WRecords} {cl : Str -> Option Addr} {d0 : WData}
    (KX : K.In s₁.heap) (hns : s₁.heap.Ns mainGlobals mg) (hb : s₁.heap.Ns builtinsNs mb) (hbb : ∀ x : Str, x ≠ "__name__" -> mb x = bootBuiltins x) (hlim : s₁.heap.NoLimit) (hg : s₁.gens = #[])
    (hwl : WellAll w.params s₁.heap vals ds) (hpl : plWs ds = true) (hwt : ∀ d ∈ ds, d.weight <= 1048576) (hr : Room k callerA)
    (F : ∀ base : Heap, K.In base -> base.Ns mainGlobals mg -> FnOk P w K mg base CX k fa fd ps sp) (hbind : ∀ (s : Shared) (us : List Value), us.length = ps.length -> BindsTo s fd ⟨us, []⟩ (ps.zip us)) (hlen : ds.length = ps.length)
    (hsp : ∀ (H : Hp) (xs : List V), OnlyF H -> DwAll K H xs ds -> sp xs H (fun v H' => Dw K H' v d0) fun _ _ _ => False)
    (hCX : ∀ H e s', CX [] H s₁ (fun _ _ _ => False) e s' -> False) :
    codeAny (model P w) callerA (.call (.ref fa) ⟨vals, []⟩) (fun r s' => ∃ u as, r = .ok (.ret u) /\ ReadsW R cl s'.heap u d0 as /\ OldK s₁.heap s'.heap /\ s'.os = s₁.os /\ AllBare s'.gens) s₁ := by
  obtain ⟨A, ho, ar⟩ := area_all ds vals hwl hpl hwt
  have hO : OnlyF (argH K s₁.heap A) := argH_only ar
  have hok : HOk P w (argH K s₁.heap A) s₁.heap := argH_ok ar
  have hS := dw_all KX ar ds vals hwl hpl ho
  have hV := vals_toV ho
  have hK : ∀ b u, argH K s₁.heap A b = some u -> K.lookup b = none := fun b u q => (argH_is ar q).1
  have noA : ∀ {b : Addr} {o : Obj} {es : Array DictEntry} {ep : Nat}, s₁.heap.get? b = some o -> o.data = .dict es ep -> argH K s₁.heap A b = none := fun {b o es ep} e d => by
    cases q : argH K s₁.heap A b with
    | none => rfl
    | some u =>
      obtain ⟨_, vs, _, _, ⟨e2, _⟩ | ⟨e2, _⟩⟩ := argH_is ar q
      . rw [e2] at e
        cases e
        have d' : Data.seq vs.toArray _ = Data.dict es ep := d
        cases d'
      . rw [e2] at e
        cases e
        have d' : Data.seq vs.toArray _ = Data.dict es ep := d
        cases d'
  generalize argH K s₁.heap A = H at hO hok hS hK noA
  have base_of : ∀ {b : Addr} {o : Obj}, s₁.heap.get? b = some o -> H b = none -> (hidT s₁.heap H).get? b = some o := fun e n => hidT_get e n
  have nsK : ∀ {b : Addr} {m : Str -> Option Value}, s₁.heap.Ns b m -> (hidT s₁.heap H).Ns b m := fun {b m} ⟨o, es, ep, e, d, r⟩ => ⟨o, es, ep, base_of e (noA e d), d, r⟩
  have nK : ∀ b o, K.lookup b = some o -> H b = none := fun b o e => by
    cases q : H b with
    | none => rfl
    | some u =>
      rw [hK b u q] at e
      cases e
  have hKb : K.In (hidT s₁.heap H) := fun b o e => base_of (KX b o e) (nK b o e)
  have hM : Mod K mg (hidT s₁.heap H) := ⟨hKb, nsK hns, ⟨mb, nsK hb, hbb⟩, let ⟨mc, h1, h2⟩ := hlim; ⟨mc, nsK h1, h2⟩⟩
  have e0 : Env0 P w K mg (hidT s₁.heap H) callerA [] s₁ H := ⟨rfl, hM, fun b o e => of_hidT e, Nat.le_of_eq (hidT_size _ _), trivial, fun b hb => absurd (show b ∈ ([] : List Addr) from hb) (by simp), hok, .of_eq hg⟩
  have hl : vals.length = ps.length := by rw [wellAll_len hwl]; exact hlen
  refine codeAny_mono ((F _ hKb (nsK hns)).run callerA [] s₁ H ⟨vals, []⟩ vals (vals.map toV) _ _ hr e0 (hbind s₁ vals hl) hV (hsp H _ hO hS)) fun r s' x => ?_
  cases r with
  | error e => exact (hCX H e s' x).elim
  | ok fl =>
    cases fl with
    | next => exact False.elim x
    | brk => exact False.elim x
    | cont => exact False.elim x
    | ret u =>
      obtain ⟨v, H', os, bare, un, hok', r', q⟩ := x
      have kept : ∀ b o, s₁.heap.get? b = some o -> s'.heap.get? b = some o := fun b o e => by
        cases q2 : H b with
        | none => exact un.keep b o e q2 (by intro z; exact absurd (show b ∈ ([] : List Addr) from z) (by simp)) (by simp)
        | some u2 =>
          rcases hO b with z | ⟨ob, u3, z⟩
          . rw [q2] at z
            cases z
          . have z2 := un.frzs b ob _ z
            obtain ⟨e1, _⟩ := hok b _ z
            obtain ⟨e2, _⟩ := hok' b _ z2
            rw [e] at e1
            cases e1
            exact e2
      have KX' : K.In s'.heap := fun b o e => kept b o (KX b o e)
      obtain ⟨as, hrd⟩ := Dw.reads (R := R) (cl := cl) hok' KX' d0 v u q r'
      exact ⟨u, as, rfl, hrd, OldK.of_keep kept, os, bare⟩
theorem layable_weight {ds : List WData} (h : WData.layableAll ds = true) : ∀ d ∈ ds, d.weight <= 1048576 := fun d hd =>
  (PySem.W.layableW_iff.mp (List.all_eq_true.mp h d hd)).2.2
theorem encAll_len : ∀ (cs : List Codec) (a : Codec.denoteAll cs), (Codec.encAll cs a).length = cs.length
  | [], _ => rfl
  | c :: cs, a => by
    show (Codec.encAll cs a.2).length + 1 = cs.length + 1
    rw [encAll_len cs a.2]
theorem walk_spec {r : OpenSpec} {k : Nat} {q : Program} {loose : List Str} {XP : (Str -> Option Value) -> Heap -> Prop} {YP : World -> Heap -> Prop} {d : DefRec} {K : Params -> PySem.W.Frag} {CX : World -> CXT} {ps : List Str} {sp : World -> Sp}
    (hwell : r.wellSaid = true) (hdf : d.params.defaults = []) (hlen : r.args.length = ps.length) (hr : Room k callerA)
    (hY : ∀ (w : World) (h : Heap), YP w h -> (K w.params).In h)
    (F : ∀ (w : World) (mg : Str -> Option Value) (fa : Addr) (h : Heap), YP w h -> (K w.params).In h -> h.Ns mainGlobals mg -> mg d.name = some (.ref fa) ->
      ∃ fd : FuncData, (∀ (s : Shared) (us : List Value), us.length = ps.length -> BindsTo s fd ⟨us, []⟩ (ps.zip us)) /\
        ∀ base : Heap, (K w.params).In base -> base.Ns mainGlobals mg -> FnOk r.prog w (K w.params) mg base (CX w) k fa fd ps (sp w))
    (hsp : ∀ (w : World) (H : Hp) (xs : List V) (a : Codec.denoteAll r.args), OnlyF H -> Codec.withinAll r.args a = true -> Codec.app r.args r.asked a = true -> DwAll (K w.params) H xs (Codec.encAll r.args a) ->
      sp w xs H (fun v H' => Dw (K w.params) H' v (r.ret.enc (Codec.app r.args r.f a))) fun _ _ _ => False)
    (hCX : ∀ (w : World) (H : Hp) (s : Shared) (e : Value) (s' : Shared), CX w [] H s (fun _ _ _ => False) e s' -> False) :
    PySem.W.WalkOS q loose XP YP r d [] (fun f vs => PySem.call f vs) := by
  intro w s_0 s₁ mg mb G Y fa o pm cd doc dV kV ho hd hcd hD hmg hg args vals as hpre hlay hrd hwl hlo
  obtain ⟨a, e1, e2⟩ := PySem.W.os_pre_some hpre
  obtain ⟨e3, hwi⟩ := Codec.encAll_of_decAll r.args args a e1
  subst e3
  have KX := hY w _ Y
  obtain ⟨fd, hb, hF⟩ := F w mg fa _ Y KX G.T.g hmg
  refine PySem.W.enter_call (codeAny_mono (spec_call (R := []) (cl := classAt s_0.heap) (d0 := r.ret.enc (Codec.app r.args r.f a)) KX G.T.g G.T.b G.T.builtins G.T.nolimit hg hwl (pl_encAll _ _) (layable_weight hlay) hr hF hb (by rw [encAll_len]; exact hlen)
    (fun H xs hO hS => hsp w H xs a hO hwi e2 hS) fun H e s' => hCX w H s₁ e s') fun r' s' hq => ?_)
  obtain ⟨u, as', rfl, h1, h2, h3, h4⟩ := hq
  exact ⟨.inl ⟨u, _, as', rfl, fun _ => rfl, h1, (OpenSpec.post_iff hwell hwi _ _).mpr rfl, fun z => Bool.noConfusion (show false = true from z)⟩, h2, h3, h4⟩
theorem walk_specK {r : OpenSpec} {k : Nat} {q : Program} {loose : List Str} {XP : (Str -> Option Value) -> Heap -> Prop} {YP : World -> Heap -> Prop} {d : DefRec} {K : Params -> PySem.W.Frag} {CX : CXT} {ps : List Str} {sp : PySem.W.Frag -> Sp}
    (hwell : r.wellSaid = true) (hdf : d.params.defaults = []) (hlen : r.args.length = ps.length) (hr : Room k callerA)
    (hY : ∀ (w : World) (h : Heap), YP w h -> (K w.params).In h)
    (F : ∀ (w : World) (mg : Str -> Option Value) (fa : Addr) (h : Heap), YP w h -> (K w.params).In h -> h.Ns mainGlobals mg -> mg d.name = some (.ref fa) ->
      ∃ fd : FuncData, (∀ (s : Shared) (us : List Value), us.length = ps.length -> BindsTo s fd ⟨us, []⟩ (ps.zip us)) /\
        ∀ base : Heap, (K w.params).In base -> base.Ns mainGlobals mg -> FnOk r.prog w (K w.params) mg base CX k fa fd ps (sp (K w.params)))
    (hsp : ∀ (K : PySem.W.Frag) (H : Hp) (xs : List V) (a : Codec.denoteAll r.args), OnlyF H -> Codec.withinAll r.args a = true -> Codec.app r.args r.asked a = true -> DwAll K H xs (Codec.encAll r.args a) ->
      sp K xs H (fun v H' => Dw K H' v (r.ret.enc (Codec.app r.args r.f a))) fun _ _ _ => False)
    (hCX : ∀ (H : Hp) (s : Shared) (e : Value) (s' : Shared), CX [] H s (fun _ _ _ => False) e s' -> False) :
    PySem.W.WalkOS q loose XP YP r d [] (fun f vs => PySem.call f vs) :=
  walk_spec (K := K) (CX := fun _ => CX) (sp := fun w => sp (K w.params)) hwell hdf hlen hr hY F (fun w H xs a h1 h2 h3 h4 => hsp (K w.params) H xs a h1 h2 h3 h4) fun _ H s e s' => hCX H s e s'
end L2
end
namespace VV
open PySem PySem.Spec PyProof.Rows L2
def top (i : Nat) : Stmt := PySem.Challenge.pw_valleyvotes_s01_answers.main.body.getD i (.Pass ⟨0, 0, 0, 0⟩)
abbrev nv (n : Nat) : V := .int (n : Int)
def Fd (K : PySem.W.Frag) (mg : Str -> Option Value) (x : Str) (st : Stmt) : Prop := ∃ f fd, Fun K x x st f fd /\ mg x = some (.ref f)
def Dn (P : Program) (w : World) (K : PySem.W.Frag) (mg : Str -> Option Value) (base : Heap) (k : Nat) (x : Str) (ps : List Str) (sp : Sp) : Prop :=
  ∃ f fd, FnOk P w K mg base CX0 k f fd ps sp /\ mg x = some (.ref f) /\ PySem.W.keepIn K (.ref f) = true /\ Binds K fd ps []
def GI (mg : Str -> Option Value) (x : Str) (i : Int) : Prop := ∃ t, mg x = some (.int i t)
structure Txt (mg : Str -> Option Value) : Prop where
  range : mg "range" = none
  len : mg "len" = none
  sum : mg "sum" = none
  min : mg "min" = none
  max : mg "max" = none
  list : mg "list" = none
  MOST_VILLAGES : GI mg "MOST_VILLAGES" 10
  MOST_CHILDREN : GI mg "MOST_CHILDREN" 100
  SHORTEST_ROAD : GI mg "SHORTEST_ROAD" 1
  LONGEST_ROAD : GI mg "LONGEST_ROAD" 1000
  NONE_THERE : GI mg "NONE_THERE" (-2)
  EMPTY : GI mg "EMPTY" (-6)
  NOT_RIDING : GI mg "NOT_RIDING" (-16)
  SO_ALREADY : GI mg "SO_ALREADY" (-17)
  WRONG : GI mg "WRONG" (-22)
  FULL : GI mg "FULL" (-28)
  NOT_THIS_ONE : GI mg "NOT_THIS_ONE" (-33)
  PARTS : GI mg "PARTS" 2520
  MOST_IN_ORDERS : GI mg "MOST_IN_ORDERS" 5
  START : GI mg "START" 0
  BACK : GI mg "BACK" 31
  AGAIN : GI mg "AGAIN" 32
  STATE : GI mg "STATE" 33
  MOST_TAKEN_BACK : GI mg "MOST_TAKEN_BACK" 20
section
variable {P : Program} {w : World} {K : PySem.W.Frag} {mg : Str -> Option Value} {base : Heap}
theorem Fd.dn {x : Str} {st : Stmt} {N ps : List Str} {k : Nat} {sp : Sp} (F : Fd K mg x st) (S : FnScope N ps (defScope st))
    (hb : ∀ (kV doc pm : Value) (an : Option Addr) (cdv ct : Value) (us : List Value), us.length = ps.length -> bindArgs (PySem.W.fnOf x x (defArgs st) (defBody st) (defScope st) .none kV doc pm an cdv ct) ⟨us, []⟩ = pure (ps.zip us))
    (len : ∀ vs H Q E, sp vs H Q E -> vs.length = ps.length)
    (hbody : ∀ (f : Addr) (cdv : Value) (A : Around) (outer : List Env) (s : Shared) (H : Hp) (vs : List V) (Q : VK) (E : XK), Room k (A.deeper (envOfC x (defScope st) s.heap.objs.size f cdv)) -> sp vs H Q E ->
      ∃ t, PSs (cxOf CX0 P w K mg base N x (defScope st) f cdv A outer s H E).nox (defBody st) t /\ t { nx := fun _ H' => Q .non H', rt := Q } (start N vs) H) : Dn P w K mg base (k + 1) x ps sp := by
  obtain ⟨f, fd, F, hm⟩ := F
  exact ⟨f, fd, F.ok S len (hbody f), hm, F.kp, F.binds hb⟩
end
section
variable {X : Cx} {x : Str} {p pos : Pos} {e : Expr} {es : List Expr} {t : TA} {ps : List Str} {sp : Sp}
theorem pe_dn {k j : Nat} (D : Dn X.prog X.w X.K X.mg X.base k x ps sp) (hr : Room j X.A) (ha : PA X (e :: es) t) (hg : Gl X x := by rfl) (hj : k <= j := by decide) (hdb : (x == ("__debug__" : Str)) = false := by decide)
    (he : starEach (e :: es) X.env = (false, eval e X.env) :: starEach es X.env := by rfl) (hpl : (backTo pos (starEach es X.env)).any (·.1) = false := by rfl) :
    PE X (.Call (.Name x p) (e :: es) [] pos) (tCall sp [] E0 t) := by
  obtain ⟨f, fd, F, hm, hk, hb⟩ := D
  exact pe_call F (hr.mono hj) hg hm hk hb .nil pass0 ha hdb he hpl
theorem pe_gi {i : Int} (h : GI X.mg x i) (hg : Gl X x := by rfl) (hd : (x == ("__debug__" : Str)) = false := by decide) : PE X (.Name x pos) (tC (.int i)) := by
  obtain ⟨t, h⟩ := h
  exact pe_glob hg h ⟨t, rfl⟩ hd
end
end VV
namespace VV
open PySem PySem.Spec PyProof.Rows L2
theorem band (g o : Nat) : Builtin.bitAnd (g : Int) (o : Int) = ((g &&& o : Nat) : Int) := by
  unfold Builtin.bitAnd
  have h1 : decide ((0 : Int) <= (g : Int)) = true := decide_eq_true (by omega)
  have h2 : decide ((0 : Int) <= (o : Int)) = true := decide_eq_true (by omega)
  rw [h1, h2]
  rfl
theorem band_not (g o : Nat) : Builtin.bitAnd (g : Int) (Builtin.bitNot (o : Int)) = ((g - (g &&& o) : Nat) : Int) := by
  have hb : Builtin.bitNot (Builtin.bitNot (o : Int)) = (o : Int) := by unfold Builtin.bitNot; omega
  unfold Builtin.bitAnd
  have h1 : decide ((0 : Int) <= (g : Int)) = true := decide_eq_true (by omega)
  have h2 : decide ((0 : Int) <= Builtin.bitNot (o : Int)) = false := decide_eq_false (by unfold Builtin.bitNot; omega)
  rw [h1, h2, hb]
  show (g : Int) - ((g &&& o : Nat) : Int) = _
  have : g &&& o <= g := Nat.and_le_left
  omega
theorem bor (g o : Nat) : Builtin.bitOr (g : Int) (o : Int) = ((g ||| o : Nat) : Int) := by
  rw [Bits.bitOr_pp (by omega) (by omega)]
  rfl
theorem shr (g n : Nat) : (g : Int) / 2 ^ ((n : Int)).toNat = ((g / 2 ^ n : Nat) : Int) := by
  rw [Int.toNat_natCast]
  have : (2 : Int) ^ n = ((2 ^ n : Nat) : Int) := by simp
  rw [this, Int.natCast_ediv]
theorem shl (n : Nat) : (1 : Int) * 2 ^ ((n : Int)).toNat = ((2 ^ n : Nat) : Int) := by
  rw [Int.toNat_natCast]; simp
theorem tbit (g n : Nat) : decide (V.int (((g / 2 ^ n) &&& 1 : Nat) : Int) = V.int 1) = g.testBit n := by
  rw [dec_int, Nat.testBit_eq_decide_div_mod_eq, Nat.and_one_is_mod]
  have : g / 2 ^ n % 2 = 0 \/ g / 2 ^ n % 2 = 1 := by omega
  rcases this with h | h <;> rw [h] <;> rfl
def sp_one : Sp := fun vs H Q _ => ∃ n : Nat, vs = [nv n] /\ n <= 1000 /\ Q (nv (2 ^ n)) H
def sp_first_villages : Sp := fun vs H Q _ => ∃ n : Nat, vs = [nv n] /\ n <= 1000 /\ Q (nv (2 ^ n - 1)) H
def sp_holds : Sp := fun vs H Q _ => ∃ g n : Nat, vs = [nv g, nv n] /\ Q (.bl (g.testBit n)) H
def sp_without : Sp := fun vs H Q _ => ∃ g o : Nat, vs = [nv g, nv o] /\ Q (nv (g - (g &&& o))) H
def sp_size : Sp := fun vs H Q _ => ∃ g : Nat, vs = [nv g] /\ Q (nv (VT.pop g)) H
section
variable {P : Program} {w : World} {K : PySem.W.Frag} {mg : Str -> Option Value} {base : Heap}
abbrev s_one : Stmt := top 1
theorem sc_one : FnScope ["v"] ["v"] (defScope s_one) := ⟨rfl, rfl, rfl, by decide +kernel, rfl, by decide +kernel, by decide +kernel⟩
theorem d_one (F : Fd K mg "one" s_one) : Dn P w K mg base 1 "one" ["v"] sp_one := by
  refine F.dn sc_one (fun _ _ _ _ _ _ us hl => match us, hl with | [_], _ => rfl) (fun vs H Q E h => ?_) (fun f cdv A outer s H vs Q E hr h => ?_)
  . obtain ⟨n, rfl, _⟩ := h; rfl
  . obtain ⟨n, rfl, hn, k⟩ := h
    refine ⟨_, (pss_one (ps_ret (pe_op op_shl pe_int (pv 0)))), ?_⟩
    refine ⟨_, rfl, _, _, rfl, rfl, ⟨by omega, by omega, by decide⟩, ?_⟩
    show Q (V.int ((1 : Int) * 2 ^ ((n : Int)).toNat)) H
    rw [shl]; exact k
abbrev s_first_villages : Stmt := top 2
theorem sc_first_villages : FnScope ["count"] ["count"] (defScope s_first_villages) := ⟨rfl, rfl, rfl, by decide +kernel, rfl, by decide +kernel, by decide +kernel⟩
theorem d_first_villages (F : Fd K mg "first_villages" s_first_villages) : Dn P w K mg base 1 "first_villages" ["count"] sp_first_villages := by
  refine F.dn sc_first_villages (fun _ _ _ _ _ _ us hl => match us, hl with | [_], _ => rfl) (fun vs H Q E h => ?_) (fun f cdv A outer s H vs Q E hr h => ?_)
  . obtain ⟨n, rfl, _⟩ := h; rfl
  . obtain ⟨n, rfl, hn, k⟩ := h
    refine ⟨_, (pss_one (ps_ret (pe_op op_sub (pe_op op_shl pe_int (pv 0)) pe_int))), ?_⟩
    refine ⟨_, rfl, _, _, rfl, rfl, ⟨by omega, by omega, by decide⟩, _, _, rfl, rfl, ?_⟩
    show Q (V.int ((1 : Int) * 2 ^ ((n : Int)).toNat - 1)) H
    have h1 : 1 <= 2 ^ n := Nat.one_le_two_pow
    have : ((2 ^ n : Nat) : Int) - 1 = ((2 ^ n - 1 : Nat) : Int) := by omega
    rw [shl, this]; exact k
abbrev s_holds : Stmt := top 3
theorem sc_holds : FnScope ["group", "v"] ["group", "v"] (defScope s_holds) := ⟨rfl, rfl, rfl, by decide +kernel, rfl, by decide +kernel, by decide +kernel⟩
theorem d_holds (F : Fd K mg "holds" s_holds) : Dn P w K mg base 1 "holds" ["group", "v"] sp_holds := by
  refine F.dn sc_holds (fun _ _ _ _ _ _ us hl => match us, hl with | [_, _], _ => rfl) (fun vs H Q E h => ?_) (fun f cdv A outer s H vs Q E hr h => ?_)
  . obtain ⟨g, n, rfl, _⟩ := h; rfl
  . obtain ⟨g, n, rfl, k⟩ := h
    refine ⟨_, (pss_one (ps_ret (pe_cmpR op_eq (pe_op op_and (pe_op op_shr (pv 0) (pv 1)) pe_int) pe_int (nomark _)))), ?_⟩
    refine ⟨_, rfl, _, rfl, _, _, rfl, rfl, by omega, _, _, rfl, rfl, rfl, ?_⟩
    show Q (.bl (decide (V.int (Builtin.bitAnd ((g : Int) / 2 ^ ((n : Int)).toNat) 1) = V.int 1))) H
    rw [shr, show (1 : Int) = ((1 : Nat) : Int) from rfl, band, show (((1 : Nat)) : Int) = 1 from rfl, tbit]; exact k
abbrev s_without : Stmt := top 4
theorem sc_without : FnScope ["group", "others"] ["group", "others"] (defScope s_without) := ⟨rfl, rfl, rfl, by decide +kernel, rfl, by decide +kernel, by decide +kernel⟩
theorem d_without (F : Fd K mg "without" s_without) : Dn P w K mg base 1 "without" ["group", "others"] sp_without := by
  refine F.dn sc_without (fun _ _ _ _ _ _ us hl => match us, hl with | [_, _], _ => rfl) (fun vs H Q E h => ?_) (fun f cdv A outer s H vs Q E hr h => ?_)
  . obtain ⟨g, o, rfl, _⟩ := h; rfl
  . obtain ⟨g, o, rfl, k⟩ := h
    refine ⟨_, (pss_one (ps_ret (pe_op op_and (pv 0) (pe_un un_inv (pv 1))))), ?_⟩
    refine ⟨_, rfl, _, rfl, _, rfl, _, _, rfl, rfl, ?_⟩
    show Q (V.int (Builtin.bitAnd (g : Int) (Builtin.bitNot (o : Int)))) H
    rw [band_not]; exact k
abbrev s_size : Stmt := top 5
theorem sc_size : FnScope ["group", "count", "rest"] ["group"] (defScope s_size) := ⟨rfl, rfl, rfl, by decide +kernel, rfl, by decide +kernel, by decide +kernel⟩
theorem d_size (F : Fd K mg "size" s_size) : Dn P w K mg base 1 "size" ["group"] sp_size := by
  refine F.dn sc_size (fun _ _ _ _ _ _ us hl => match us, hl with | [_], _ => rfl) (fun vs H Q E h => ?_) (fun f cdv A outer s H vs Q E hr h => ?_)
  . obtain ⟨g, rfl, _⟩ := h; rfl
  . obtain ⟨g, rfl, k⟩ := h
    refine ⟨_, (pss_cons (ps_set (i := 1) sc_size.nd rfl (Or.inl rfl) pe_int)
      (pss_cons (ps_set (i := 2) sc_size.nd rfl (Or.inl rfl) (pv 0))
      (pss_cons (ps_while PassesOwn.never (pt_cmpR op_gt (pv 2) pe_int (nomark _)) (pss_cons (ps_set (i := 2) sc_size.nd rfl (Or.inl rfl) (pe_op op_and (pv 2) (pe_op op_sub (pv 2) pe_int)))
      (pss_one (ps_aug (i := 1) sc_size.nd rfl (Or.inl rfl) pe_int ip_add))))
      (pss_one (ps_ret (pv 1)))))), ?_⟩
    refine ⟨_, rfl, ?_⟩
    refine while_by (fun σ H' => H' = H /\ ∃ c r : Nat, σ = [some (nv g), some (nv c), some (nv r)] /\ c + VT.pop r = VT.pop g) (fun σ _ => match σ with | [_, _, some (.int r)] => r.toNat | _ => 0) ⟨rfl, 0, g, rfl, by omega⟩ ?_ ?_
    . rintro σ H' ⟨rfl, c, r, rfl, hc⟩
      refine ⟨_, rfl, _, _, rfl, rfl, _, rfl, ?_⟩
      refine ite2 (fun hp => ?_) (fun hp => ?_)
      . have hr0 : 0 < r := by have := of_decide_eq_true hp; omega
        refine ⟨_, rfl, _, rfl, _, _, rfl, rfl, _, _, rfl, rfl, ?_⟩
        refine ⟨_, rfl, _, _, rfl, rfl, ?_⟩
        have e1 : (r : Int) - 1 = ((r - 1 : Nat) : Int) := by omega
        have e2 : Builtin.bitAnd (r : Int) ((r : Int) - 1) = ((r &&& (r - 1) : Nat) : Int) := by rw [e1, band]
        refine ⟨⟨rfl, c + 1, r &&& (r - 1), ?_, ?_⟩, ?_⟩
        . show [some (nv g), some (V.int ((c : Int) + 1)), some (V.int (Builtin.bitAnd (r : Int) ((r : Int) - 1)))] = _
          rw [e2]; rfl
        . have := VT.pop_low r hr0; omega
        . show (Builtin.bitAnd (r : Int) ((r : Int) - 1)).toNat < ((r : Int)).toNat
          rw [e2]
          have := VT.and_pred_lt hr0
          omega
      . have hr0 : r = 0 := by
          have : ¬ (0 : Int) < (r : Int) := fun z => hp (decide_eq_true z)
          omega
        subst hr0
        rw [VT.pop_zero] at hc
        refine ⟨_, rfl, ?_⟩
        have : c = VT.pop g := by omega
        subst this
        exact k
    . rintro σ H' Q1 Q2 hq ⟨x, h1, i, j, h2, h3, b, h4, h5⟩
      exact ⟨x, h1, i, j, h2, h3, b, h4, hq _ _ h5⟩
end
end VV
namespace L2
open PySem PySem.Spec PyProof.Rows
theorem Same.new {H H' : Hp} {p : Addr} {o : HO} (s : Same H H') (h : H' p = none) : Same H (upd H' p o) := fun b x e => by
  rw [upd_ne (ne_of_none (s b x e) h)]
  exact s b x e
theorem Same.put {H H' : Hp} {p : Addr} {o : HO} (s : Same H H') (h : H p = none) : Same H (upd H' p o) := fun b x e => by
  rw [upd_ne (ne_of_none e h)]
  exact s b x e
end L2
namespace VV
open PySem PySem.Spec PyProof.Rows L2
theorem line_big : (1000000 : Nat) < sizeLine := by rw [sizeLine_eq]; decide
theorem lc_rng {lo : Int} {n : Nat} {g : TG} {tt : TT} {te : TE} {vs : List Nat} {σ : L2.St} {H1 : Hp} {D : Addr} {Qd : Hp -> Prop} (p : Nat -> Bool) (f : Nat -> V) (hD : H1 D = none) (hn : n <= 100000)
    (hs : ∀ i H, i < n -> Same H1 H -> ∀ Nx : Hp -> Prop, (p i = false -> ∀ H3, Same H H3 -> Nx H3) -> (p i = true -> ∀ H4 y, Same H H4 -> y = f i -> ∃ acc, H4 D = some (.lst acc) /\ acc.length < sizeLine /\ Nx (upd H4 D (.lst (acc ++ [y])))) ->
      g (.int (lo + i)) (wipe σ vs) H fun σ2 H2 => wipe σ2 vs = wipe σ vs /\ tt σ2 H2 fun b H3 =>
        if b = true then te σ2 H3 fun y H4 => ∃ acc, H4 D = some (.lst acc) /\ acc.length < sizeLine /\ Nx (upd H4 D (.lst (acc ++ [y]))) else Nx H3)
    (hd : ∀ H', Same H1 H' -> H' D = some (.lst (((List.range n).filter p).map f)) -> Qd H') :
    ∃ W : Nat -> Nat -> Hp -> Prop, (∃ m, W 0 m (upd H1 D (.lst []))) /\ ∀ i m H, W i m H ->
      ((Itr lo n).stop i H /\ Qd H) \/ ((Itr lo n).go i H /\ ∃ Nx : Hp -> Prop, (∀ H', Nx H' -> ∃ m', m' < m /\ W (i + 1) m' H') /\ ∀ x H', (Itr lo n).yld i H x H' -> g x (wipe σ vs) H' fun σ2 H2 => wipe σ2 vs = wipe σ vs /\ tt σ2 H2 fun b H3 =>
        if b = true then te σ2 H3 fun y H4 => ∃ acc, H4 D = some (.lst acc) /\ acc.length < sizeLine /\ Nx (upd H4 D (.lst (acc ++ [y]))) else Nx H3) := by
  refine lc_range (fun i H => Same H1 H /\ H D = some (.lst (((List.range i).filter p).map f))) ⟨Same.put (Same.refl _) hD, upd_same⟩ (fun i H hi ⟨s1, h1⟩ => ?_) (fun H ⟨s1, h1⟩ => hd H s1 h1)
  have snoc : ((List.range (i + 1)).filter p).map f = ((List.range i).filter p).map f ++ if p i = true then [f i] else [] := by
    rw [List.range_succ, List.filter_append, List.map_append]
    cases e : p i <;> simp [e]
  refine hs i H hi s1 _ (fun hp H3 s3 => ⟨s1.trans s3, ?_⟩) (fun hp H4 y s4 ey => ⟨_, s4 _ _ h1, ?_, (s1.trans s4).put hD, ?_⟩)
  . rw [snoc, if_neg (by rw [hp]; decide), List.append_nil]; exact s3 _ _ h1
  . rw [List.length_map]
    refine Nat.lt_of_le_of_lt (List.length_filter_le _ _) ?_
    rw [List.length_range]
    exact Nat.lt_trans (Nat.lt_of_lt_of_le hi hn) (Nat.lt_trans (by decide) line_big)
  . rw [upd_same, snoc, if_pos hp, ey]
theorem lc_lst {K : PySem.W.Frag} {a : Addr} {xs : List V} {g : TG} {tt : TT} {te : TE} {vs : List Nat} {σ : L2.St} {H1 : Hp} {D : Addr} {Qd : Hp -> Prop} (f : V -> V) (hD : H1 D = none) (hn : xs.length <= 100000) (hl : SqL K H1 a xs)
    (hs : ∀ (i : Nat) x H, xs[i]? = some x -> Same H1 H -> ∀ Nx : Hp -> Prop, (∀ H4 y, Same H H4 -> y = f x -> ∃ acc, H4 D = some (.lst acc) /\ acc.length < sizeLine /\ Nx (upd H4 D (.lst (acc ++ [y])))) ->
      g x (wipe σ vs) H fun σ2 H2 => wipe σ2 vs = wipe σ vs /\ tt σ2 H2 fun b H3 =>
        if b = true then te σ2 H3 fun y H4 => ∃ acc, H4 D = some (.lst acc) /\ acc.length < sizeLine /\ Nx (upd H4 D (.lst (acc ++ [y]))) else Nx H3)
    (hd : ∀ H', Same H1 H' -> H' D = some (.lst (xs.map f)) -> Qd H') :
    ∃ W : Nat -> Nat -> Hp -> Prop, (∃ m, W 0 m (upd H1 D (.lst []))) /\ ∀ i m H, W i m H ->
      ((Itl K a).stop i H /\ Qd H) \/ ((Itl K a).go i H /\ ∃ Nx : Hp -> Prop, (∀ H', Nx H' -> ∃ m', m' < m /\ W (i + 1) m' H') /\ ∀ x H', (Itl K a).yld i H x H' -> g x (wipe σ vs) H' fun σ2 H2 => wipe σ2 vs = wipe σ vs /\ tt σ2 H2 fun b H3 =>
        if b = true then te σ2 H3 fun y H4 => ∃ acc, H4 D = some (.lst acc) /\ acc.length < sizeLine /\ Nx (upd H4 D (.lst (acc ++ [y]))) else Nx H3) := by
  refine lc_list (K := K) (a := a) (xs := xs) (fun i H => Same H1 H /\ H D = some (.lst ((xs.take i).map f))) ⟨Same.put (Same.refl _) hD, upd_same⟩ (fun i H _ ⟨s1, _⟩ => s1.seq hl) (fun i x H hx ⟨s1, h1⟩ => ?_) (fun H ⟨s1, h1⟩ => hd H s1 (by rw [List.take_length] at h1; exact h1))
  have hi : i < xs.length := (List.getElem?_eq_some_iff.mp hx).1
  refine hs i x H hx s1 _ (fun H4 y s4 ey => ⟨_, s4 _ _ h1, ?_, (s1.trans s4).put hD, ?_⟩)
  . rw [List.length_map, List.length_take]
    exact Nat.lt_of_le_of_lt (Nat.min_le_right _ _) (Nat.lt_of_le_of_lt hn (Nat.lt_trans (by decide) line_big))
  . rw [upd_same, List.take_add_one, hx, ey, List.map_append]
    rfl
theorem lc_lstF {K : PySem.W.Frag} {a : Addr} {xs : List V} {g : TG} {tt : TT} {te : TE} {vs : List Nat} {σ : L2.St} {H1 : Hp} {D : Addr} {Qd : Hp -> Prop} (p : V -> Bool) (f : V -> V) (hD : H1 D = none) (hn : xs.length <= 100000) (hl : SqL K H1 a xs)
    (hs : ∀ (i : Nat) x H, xs[i]? = some x -> Same H1 H -> ∀ Nx : Hp -> Prop, (p x = false -> ∀ H3, Same H H3 -> Nx H3) -> (p x = true -> ∀ H4 y, Same H H4 -> y = f x -> ∃ acc, H4 D = some (.lst acc) /\ acc.length < sizeLine /\ Nx (upd H4 D (.lst (acc ++ [y])))) ->
      g x (wipe σ vs) H fun σ2 H2 => wipe σ2 vs = wipe σ vs /\ tt σ2 H2 fun b H3 =>
        if b = true then te σ2 H3 fun y H4 => ∃ acc, H4 D = some (.lst acc) /\ acc.length < sizeLine /\ Nx (upd H4 D (.lst (acc ++ [y]))) else Nx H3)
    (hd : ∀ H', Same H1 H' -> H' D = some (.lst ((xs.filter p).map f)) -> Qd H') :
    ∃ W : Nat -> Nat -> Hp -> Prop, (∃ m, W 0 m (upd H1 D (.lst []))) /\ ∀ i m H, W i m H ->
      ((Itl K a).stop i H /\ Qd H) \/ ((Itl K a).go i H /\ ∃ Nx : Hp -> Prop, (∀ H', Nx H' -> ∃ m', m' < m /\ W (i + 1) m' H') /\ ∀ x H', (Itl K a).yld i H x H' -> g x (wipe σ vs) H' fun σ2 H2 => wipe σ2 vs = wipe σ vs /\ tt σ2 H2 fun b H3 =>
        if b = true then te σ2 H3 fun y H4 => ∃ acc, H4 D = some (.lst acc) /\ acc.length < sizeLine /\ Nx (upd H4 D (.lst (acc ++ [y]))) else Nx H3) := by
  refine lc_list (K := K) (a := a) (xs := xs) (fun i H => Same H1 H /\ H D = some (.lst (((xs.take i).filter p).map f))) ⟨Same.put (Same.refl _) hD, upd_same⟩ (fun i H _ ⟨s1, _⟩ => s1.seq hl) (fun i x H hx ⟨s1, h1⟩ => ?_) (fun H ⟨s1, h1⟩ => hd H s1 (by rw [List.take_length] at h1; exact h1))
  have hi : i < xs.length := (List.getElem?_eq_some_iff.mp hx).1
  have snoc : ((xs.take (i + 1)).filter p).map f = ((xs.take i).filter p).map f ++ if p x = true then [f x] else [] := by
    rw [List.take_add_one, hx, List.filter_append, List.map_append]
    cases e : p x <;> simp [e]
  refine hs i x H hx s1 _ (fun hp H3 s3 => ⟨s1.trans s3, ?_⟩) (fun hp H4 y s4 ey => ⟨_, s4 _ _ h1, ?_, (s1.trans s4).put hD, ?_⟩)
  . rw [snoc, if_neg (by rw [hp]; decide), List.append_nil]; exact s3 _ _ h1
  . rw [List.length_map]
    refine Nat.lt_of_le_of_lt (List.length_filter_le _ _) ?_
    rw [List.length_take]
    exact Nat.lt_of_le_of_lt (Nat.min_le_right _ _) (Nat.lt_of_le_of_lt hn (Nat.lt_trans (by decide) line_big))
  . rw [upd_same, snoc, if_pos hp, ey]
theorem cv {Q : V -> Hp -> Prop} {x y : V} {H : Hp} (k : Q x H) (e : y = x) : Q y H := e ▸ k
theorem iteB {b c : Bool} {A B : Prop} (e : b = c) (h1 : c = true -> A) (h2 : c = false -> B) : if b = true then A else B := by
  subst e
  cases b with
  | true => rw [if_pos rfl]; exact h1 rfl
  | false => rw [if_neg (by decide)]; exact h2 rfl
theorem yes {te : TE} {σ : L2.St} {H : Hp} {R : V -> Hp -> Prop} {Nx : Hp -> Prop} (h : te σ H R) : tYes σ H fun b H3 => if b = true then te σ H3 R else Nx H3 := by
  show (if true = true then te σ H R else Nx H)
  rw [if_pos rfl]
  exact h
theorem pe_fldK {X : Cx} {e : Expr} {f : Str} {pos : Pos} {ta : TE} (K : PySem.W.Frag) (he : PE X e ta) (hb : attributeBase e f X.env (eval e X.env) = eval e X.env) (hK : X.K = K := by rfl) : PE X (.Attribute e f pos) (tFld K ta f) := by
  subst hK
  exact pe_fld he hb
theorem pe_ixK {X : Cx} {a b : Expr} {pos : Pos} {ta tb : TE} (K : PySem.W.Frag) (ha : PE X a ta) (hb : PE X b tb) (hs : PlainIx b) (hK : X.K = K := by rfl) : PE X (.Subscript a b pos) (tOp (rIxL K) ta tb) := by
  subst hK
  exact pe_ix ix_list ha hb hs
def rBits : V -> List V -> Hp -> VK -> Prop := fun x xs H Q => ∃ i : Int, x = .int i /\ xs = [] /\ Q (.int (Builtin.Int.intBits i)) H
theorem mt_bits {X : Cx} : MtR X "int.bit_length" rBits := by
  intro pins s σ H x xs v us Q I rx rv h
  obtain ⟨i, rfl, rfl, q⟩ := h
  obtain ⟨t, rfl⟩ := rx
  cases rv
  exact call_int_bit_length ⟨.int (Builtin.Int.intBits i), H, I.tok _, ⟨_, rfl⟩, q⟩
theorem bits_lt (g : Nat) : g < 2 ^ Builtin.Int.intBits (g : Int) := by
  unfold Builtin.Int.intBits
  by_cases e : g = 0
  . subst e; decide
  . have h1 : ((g : Int) == 0) = false := by simp [e]
    rw [h1]
    simp only [Bool.false_eq_true, if_false, Int.natAbs_natCast]
    exact Nat.lt_log2_self
theorem bits_le {g n : Nat} (h : g < 2 ^ n) : Builtin.Int.intBits (g : Int) <= n := by
  unfold Builtin.Int.intBits
  by_cases e : g = 0
  . subst e; simp
  . have h1 : ((g : Int) == 0) = false := by simp [e]
    rw [h1]
    simp only [Bool.false_eq_true, if_false, Int.natAbs_natCast]
    have := (Nat.log2_lt e).mpr h
    omega
theorem filter_wide {g a b : Nat} (h : g < 2 ^ a) (hab : a <= b) : (List.range b).filter g.testBit = (List.range a).filter g.testBit := by
  obtain ⟨d, rfl⟩ : ∃ d, b = a + d := ⟨b - a, by omega⟩
  rw [List.range_add, List.filter_append]
  have : ((List.range d).map (a + ·)).filter g.testBit = [] := by
    rw [List.filter_eq_nil_iff]
    intro x hx
    obtain ⟨y, _, rfl⟩ := List.mem_map.mp hx
    rw [Nat.testBit_lt_two_pow (Nat.lt_of_lt_of_le h (Nat.pow_le_pow_right (by decide) (by omega)))]
    decide
  rw [this, List.append_nil]
theorem get_list {X : Cx} : PGet X (fun x y H Q => ∃ p xs j v, x = .ref p /\ y = nv j /\ SqL X.K H p xs /\ xs[j]? = some v /\ Q v H) := by
  intro pins s σ H o i ov iv Q I r1 r2 h
  obtain ⟨p, xs, j, v, rfl, rfl, hq, he, q⟩ := h
  cases r1
  obtain ⟨t, rfl⟩ := r2
  obtain ⟨its, r, pl, hz⟩ := I.list hq
  obtain ⟨u, eu, ru⟩ := r.get he
  have hj : j < xs.length := (List.getElem?_eq_some_iff.mp he).1
  have hn := line63
  exact wpAny_getItem_list pl.isList (by omega) (by omega) (by rw [Int.toNat_natCast]; simpa using eu) ⟨v, H, I, ru, q⟩
def sp_members : Sp := fun vs H Q _ => ∃ g n : Nat, vs = [nv g] /\ g < 2 ^ n /\ n <= 1000 /\ ∀ H' p, Same H H' -> H p = none -> H' p = some (.lst (((List.range n).filter g.testBit).map nv)) -> Q (.ref p) H'
def sp_subsets : Sp := fun vs H Q _ => ∃ g : Nat, vs = [nv g] /\ g < 10000 /\ ∀ H' p, Same H H' -> H p = none -> H' p = some (.lst (((List.range (g + 1)).filter fun x => decide (x - (x &&& g) = 0)).map nv)) -> Q (.ref p) H'
section
variable {P : Program} {w : World} {K : PySem.W.Frag} {mg : Str -> Option Value} {base : Heap}
abbrev s_members : Stmt := top 6
theorem sc_members : FnScope ["group", "v"] ["group"] (defScope s_members) := ⟨rfl, rfl, rfl, by decide +kernel, rfl, by decide +kernel, by decide +kernel⟩
theorem d_members (T : Txt mg) (F : Fd K mg "members" s_members) (D_holds : Dn P w K mg base 1 "holds" ["group", "v"] sp_holds) : Dn P w K mg base 2 "members" ["group"] sp_members := by
  refine F.dn sc_members (fun _ _ _ _ _ _ us hl => match us, hl with | [_], _ => rfl) (fun vs H Q E h => ?_) (fun f cdv A outer s H vs Q E hr h => ?_)
  . obtain ⟨g, n, rfl, _⟩ := h; rfl
  . obtain ⟨g, n, rfl, hg, hn, k⟩ := h
    refine ⟨_, (pss_one (ps_ret (pe_lc rfl sc_members.nd (pi_range1 rfl T.range (pa_cons (pe_bm0 PySem.F.plainAttrs_int slot_int_bit_length type_int_bit_length mt_bits (pv 0)) pa_nil)) (blkOk_by (own := [("v", 1)]) rfl) (fun _ _ _ _ _ => pg_name (i := 1) sc_members.nd rfl (Or.inl rfl)) (fun _ _ _ _ _ => by exact (pts_one (pt_val (pe_dn D_holds hr (pa_cons (pv 0) (pa_cons (pv 1) pa_nil)))))) (fun _ _ _ _ _ => by exact (pv 1))))), ?_⟩
    have hb := bits_le hg
    refine ⟨_, rfl, rfl, _, rfl, rfl, _, rfl, by omega, by omega, fun D hD => ?_⟩
    refine lc_rng (fun v => g.testBit v) nv hD (by omega) (fun i H1 hi s1 Nx n0 n1 => ?_) (fun H' s1 h1 => ?_)
    . refine ⟨rfl, _, rfl, _, rfl, g, i, ?_, _, rfl, iteB rfl (fun hp => ⟨_, rfl, n1 hp _ _ (Same.refl _) ?_⟩) (fun hp => n0 hp _ (Same.refl _))⟩
      . simp
      . simp
    . refine k H' D s1 hD ?_
      rw [h1, Int.toNat_natCast, filter_wide (bits_lt g) hb]
abbrev s_subsets : Stmt := top 7
theorem sc_subsets : FnScope ["group", "part"] ["group"] (defScope s_subsets) := ⟨rfl, rfl, rfl, by decide +kernel, rfl, by decide +kernel, by decide +kernel⟩
theorem d_subsets (T : Txt mg) (F : Fd K mg "subsets" s_subsets) (D_without : Dn P w K mg base 1 "without" ["group", "others"] sp_without) : Dn P w K mg base 2 "subsets" ["group"] sp_subsets := by
  refine F.dn sc_subsets (fun _ _ _ _ _ _ us hl => match us, hl with | [_], _ => rfl) (fun vs H Q E h => ?_) (fun f cdv A outer s H vs Q E hr h => ?_)
  . obtain ⟨g, rfl, _⟩ := h; rfl
  . obtain ⟨g, rfl, hg, k⟩ := h
    refine ⟨_, (pss_one (ps_ret (pe_lc rfl sc_subsets.nd (pi_range1 rfl T.range (pa_cons (pe_op op_add (pv 0) pe_int) pa_nil)) (blkOk_by (own := [("part", 1)]) rfl) (fun _ _ _ _ _ => pg_name (i := 1) sc_subsets.nd rfl (Or.inl rfl)) (fun _ _ _ _ _ => by exact (pts_one (pt_cmpR op_eq (pe_dn D_without hr (pa_cons (pv 1) (pa_cons (pv 0) pa_nil))) pe_int (nomark _)))) (fun _ _ _ _ _ => by exact (pv 1))))), ?_⟩
    refine ⟨_, rfl, _, _, rfl, rfl, _, rfl, by omega, by omega, fun D hD => ?_⟩
    have e1 : ((g : Int) + 1).toNat = g + 1 := by omega
    rw [e1]
    refine lc_rng (fun x => decide (x - (x &&& g) = 0)) nv hD (by omega) (fun i H1 hi s1 Nx n0 n1 => ?_) (fun H' s1 h1 => k H' D s1 hD h1)
    refine ⟨rfl, _, rfl, _, rfl, i, g, ?_, rfl, _, rfl, iteB ?_ (fun hp => ⟨_, rfl, n1 hp _ _ (Same.refl _) ?_⟩) (fun hp => n0 hp _ (Same.refl _))⟩
    . simp
    . rw [dec_int]
      by_cases e : i - (i &&& g) = 0
      . rw [e]; rfl
      . have : ((((i - (i &&& g) : Nat)) : Int) == 0) = false := by
          rw [beq_eq_false_iff_ne]; omega
        rw [this, decide_eq_false e]
    . simp
end
end VV
namespace VV
open PySem PySem.Spec PyProof.Rows L2
open Km457 (Valley at_)
def vf (ch up rd : Addr) (c b p : Nat) : List (Str × V) := [("children", .ref ch), ("ups", .ref up), ("roads", .ref rd), ("school", nv c), ("riding", nv b), ("posts", nv p)]
theorem vf_ch {ch up rd : Addr} {c b p : Nat} : (vf ch up rd c b p).lookup ("children" : Str) = some (V.ref ch) := rfl
theorem vf_up {ch up rd : Addr} {c b p : Nat} : (vf ch up rd c b p).lookup ("ups" : Str) = some (V.ref up) := rfl
theorem vf_rd {ch up rd : Addr} {c b p : Nat} : (vf ch up rd c b p).lookup ("roads" : Str) = some (V.ref rd) := rfl
theorem vf_sc {ch up rd : Addr} {c b p : Nat} : (vf ch up rd c b p).lookup ("school" : Str) = some (nv c) := rfl
theorem vf_ri {ch up rd : Addr} {c b p : Nat} : (vf ch up rd c b p).lookup ("riding" : Str) = some (nv b) := rfl
theorem vf_po {ch up rd : Addr} {c b p : Nat} : (vf ch up rd c b p).lookup ("posts" : Str) = some (nv p) := rfl
def many (s : Valley) : List V := s.map fun x => nv x.many
def upsOf (s : Valley) : List V := s.map fun x => nv x.up
def roadsOf (s : Valley) : List V := s.map fun x => nv x.long
structure VP (C : Addr) (H : Hp) (a dx ch up rd : Addr) (s : Valley) (c b p : Nat) : Prop where
  ins : H a = some (.ins C dx (vf ch up rd c b p))
  ch : H ch = some (.lst (many s))
  up : H up = some (.lst (upsOf s))
  rd : H rd = some (.lst (roadsOf s))
def VA (C : Addr) (H : Hp) (a : Addr) (s : Valley) (c b p : Nat) : Prop := ∃ dx ch up rd, VP C H a dx ch up rd s c b p
theorem VP.same {C : Addr} {H H' : Hp} {a dx ch up rd : Addr} {s : Valley} {c b p : Nat} (h : VP C H a dx ch up rd s c b p) (e : Same H H') : VP C H' a dx ch up rd s c b p := ⟨e _ _ h.ins, e _ _ h.ch, e _ _ h.up, e _ _ h.rd⟩
theorem VA.same {C : Addr} {H H' : Hp} {a : Addr} {s : Valley} {c b p : Nat} (h : VA C H a s c b p) (e : Same H H') : VA C H' a s c b p := by
  obtain ⟨dx, ch, up, rd, h⟩ := h
  exact ⟨dx, ch, up, rd, h.same e⟩
structure Vc (K : PySem.W.Frag) (C : Addr) : Prop where
  cl : Cls K C
  ch : NoAttr K C "children"
  up : NoAttr K C "ups"
  rd : NoAttr K C "roads"
  sc : NoAttr K C "school"
  ri : NoAttr K C "riding"
  po : NoAttr K C "posts"
theorem at_some {s : Valley} {v : Nat} (h : v < s.length) : s[v]? = some (at_ s v) := by
  unfold at_
  rw [List.getElem?_eq_getElem h, List.getD_eq_getElem?_getD, List.getElem?_eq_getElem h]
  rfl
theorem many_at {s : Valley} {v : Nat} (h : v < s.length) : (many s)[v]? = some (nv (at_ s v).many) := by
  unfold many
  rw [List.getElem?_map, at_some h]; rfl
theorem ups_at {s : Valley} {v : Nat} (h : v < s.length) : (upsOf s)[v]? = some (nv (at_ s v).up) := by
  unfold upsOf
  rw [List.getElem?_map, at_some h]; rfl
theorem roads_at {s : Valley} {v : Nat} (h : v < s.length) : (roadsOf s)[v]? = some (nv (at_ s v).long) := by
  unfold roadsOf
  rw [List.getElem?_map, at_some h]; rfl
structure Good (s : Valley) : Prop where
  wf : VT.WF s
  len : s.length <= 10
  long : ∀ v, (at_ s v).long <= 1000
  many : ∀ v, (at_ s v).many <= 100
  root : (at_ s 0).up = 0
def sp_how_many_villages (C : Addr) : Sp := fun vs H Q _ => ∃ a s c b p, vs = [.ref a] /\ VA C H a s c b p /\ Q (nv s.length) H
def sp_is_there (C : Addr) : Sp := fun vs H Q _ => ∃ a s c b p, ∃ v : Nat, vs = [.ref a, nv v] /\ VA C H a s c b p /\ Q (.bl (decide (v < s.length))) H
def sp_are_there (C : Addr) : Sp := fun vs H Q _ => ∃ a s c b p, ∃ v w : Nat, vs = [.ref a, nv v, nv w] /\ VA C H a s c b p /\ Q (.bl (decide (v < s.length /\ w < s.length))) H
def sp_is_many : Sp := fun vs H Q _ => ∃ n : Nat, vs = [nv n] /\ Q (.bl (decide (n <= 100))) H
def sp_is_road : Sp := fun vs H Q _ => ∃ n : Nat, vs = [nv n] /\ Q (.bl (decide (1 <= n /\ n <= 1000))) H
def sp_road_between : Sp := fun vs H Q _ => ∃ v w : Nat, vs = [nv v, nv w] /\ Q (nv (max v w)) H
def besideB (s : Valley) (v w : Nat) : Bool := decide (v ≠ w /\ (at_ s (max v w)).up = min v w)
def sp_are_beside (C : Addr) : Sp := fun vs H Q _ => ∃ a s c b p, ∃ v w : Nat, vs = [.ref a, nv v, nv w] /\ VA C H a s c b p /\ v < s.length /\ w < s.length /\ Q (.bl (besideB s v w)) H
def sp_beside (C : Addr) : Sp := fun vs H Q _ => ∃ a s c b p, ∃ v : Nat, vs = [.ref a, nv v] /\ VA C H a s c b p /\ v < s.length /\ s.length <= 10 /\ ∀ H' q, Same H H' -> H q = none -> H' q = some (.lst (((List.range s.length).filter (besideB s v)).map nv)) -> Q (.ref q) H'
theorem V.ncast {i j : Nat} : (decide (V.int (i : Int) = V.int (j : Int))) = decide (i = j) := by
  rw [dec_int]
  by_cases e : i = j
  . subst e; simp
  . rw [decide_eq_false e, beq_eq_false_iff_ne]; omega
theorem ilt {i j : Nat} : decide ((i : Int) < (j : Int)) = decide (i < j) := by
  by_cases h : i < j
  . rw [decide_eq_true h, decide_eq_true (by omega)]
  . rw [decide_eq_false h, decide_eq_false (by omega)]
theorem ile {i j : Nat} : decide ((i : Int) <= (j : Int)) = decide (i <= j) := by
  by_cases h : i <= j
  . rw [decide_eq_true h, decide_eq_true (by omega)]
  . rw [decide_eq_false h, decide_eq_false (by omega)]
section
variable {P : Program} {w : World} {K : PySem.W.Frag} {mg : Str -> Option Value} {base : Heap} {C : Addr}
abbrev s_how_many_villages : Stmt := top 15
theorem sc_how_many_villages : FnScope ["valley"] ["valley"] (defScope s_how_many_villages) := ⟨rfl, rfl, rfl, by decide +kernel, rfl, by decide +kernel, by decide +kernel⟩
theorem d_how_many_villages (T : Txt mg) (Z : Vc K C) (F : Fd K mg "how_many_villages" s_how_many_villages) : Dn P w K mg base 1 "how_many_villages" ["valley"] (sp_how_many_villages C) := by
  refine F.dn sc_how_many_villages (fun _ _ _ _ _ _ us hl => match us, hl with | [_], _ => rfl) (fun vs H Q E h => ?_) (fun f cdv A outer s H vs Q E hr h => ?_)
  . obtain ⟨a, s, c, b, p, rfl, _⟩ := h; rfl
  . obtain ⟨a, s, c, b, p, rfl, ⟨dx, ch, up, rd, h⟩, k⟩ := h
    refine ⟨_, (pss_one (ps_ret (pe_callB call_len_seq rfl T.len PySem.boot_len (pa_cons (pe_fld (pv 0) rfl) pa_nil)))), ?_⟩
    refine ⟨_, rfl, a, C, dx, _, _, rfl, h.ins, Z.cl, Z.ch, vf_ch, ch, _, rfl, .inl (SqL.of h.ch), ?_⟩
    unfold many
    rw [List.length_map]; exact k
abbrev s_is_there : Stmt := top 16
theorem sc_is_there : FnScope ["valley", "v"] ["valley", "v"] (defScope s_is_there) := ⟨rfl, rfl, rfl, by decide +kernel, rfl, by decide +kernel, by decide +kernel⟩
theorem d_is_there (F : Fd K mg "is_there" s_is_there) (D_how_many_villages : Dn P w K mg base 1 "how_many_villages" ["valley"] (sp_how_many_villages C)) : Dn P w K mg base 2 "is_there" ["valley", "v"] (sp_is_there C) := by
  refine F.dn sc_is_there (fun _ _ _ _ _ _ us hl => match us, hl with | [_, _], _ => rfl) (fun vs H Q E h => ?_) (fun f cdv A outer s H vs Q E hr h => ?_)
  . obtain ⟨a, s, c, b, p, v, rfl, _⟩ := h; rfl
  . obtain ⟨a, s, c, b, p, v, rfl, h, k⟩ := h
    refine ⟨_, (pss_one (ps_ret (pe_cmpR op_lt (pv 1) (pe_dn D_how_many_villages hr (pa_cons (pv 0) pa_nil)) (nomark _)))), ?_⟩
    refine ⟨_, rfl, _, rfl, a, s, c, b, p, rfl, h, _, _, rfl, rfl, ?_⟩
    exact cv k (congrArg V.bl ilt)
abbrev s_are_there : Stmt := top 17
theorem sc_are_there : FnScope ["valley", "v", "w"] ["valley", "v", "w"] (defScope s_are_there) := ⟨rfl, rfl, rfl, by decide +kernel, rfl, by decide +kernel, by decide +kernel⟩
theorem d_are_there (F : Fd K mg "are_there" s_are_there) (D_is_there : Dn P w K mg base 2 "is_there" ["valley", "v"] (sp_is_there C)) : Dn P w K mg base 3 "are_there" ["valley", "v", "w"] (sp_are_there C) := by
  refine F.dn sc_are_there (fun _ _ _ _ _ _ us hl => match us, hl with | [_, _, _], _ => rfl) (fun vs H Q E h => ?_) (fun f cdv A outer s H vs Q E hr h => ?_)
  . obtain ⟨a, s, c, b, p, v, u, rfl, _⟩ := h; rfl
  . obtain ⟨a, s, c, b, p, v, u, rfl, h, k⟩ := h
    refine ⟨_, (pss_one (ps_ret (pe_and (pe_dn D_is_there hr (pa_cons (pv 0) (pa_cons (pv 1) pa_nil))) (pe_one (pe_dn D_is_there hr (pa_cons (pv 0) (pa_cons (pv 2) pa_nil))))))), ?_⟩
    refine ⟨_, rfl, _, rfl, a, s, c, b, p, v, rfl, h, _, rfl, ite2 (fun hp => ⟨_, rfl, _, rfl, a, s, c, b, p, u, rfl, h, ?_⟩) (fun hp => ?_)⟩
    . have := of_decide_eq_true hp
      simp only [this, true_and] at k; exact k
    . have : ¬ v < s.length := fun z => hp (decide_eq_true z)
      simp only [this, false_and, decide_false] at k; exact k
abbrev s_is_many : Stmt := top 18
theorem sc_is_many : FnScope ["many"] ["many"] (defScope s_is_many) := ⟨rfl, rfl, rfl, by decide +kernel, rfl, by decide +kernel, by decide +kernel⟩
theorem d_is_many (T : Txt mg) (F : Fd K mg "is_many" s_is_many) : Dn P w K mg base 1 "is_many" ["many"] sp_is_many := by
  refine F.dn sc_is_many (fun _ _ _ _ _ _ us hl => match us, hl with | [_], _ => rfl) (fun vs H Q E h => ?_) (fun f cdv A outer s H vs Q E hr h => ?_)
  . obtain ⟨n, rfl, _⟩ := h; rfl
  . obtain ⟨n, rfl, k⟩ := h
    refine ⟨_, (pss_one (ps_ret (pe_cmpR op_le (pv 0) (pe_gi T.MOST_CHILDREN) (nomark _)))), ?_⟩
    refine ⟨_, rfl, _, _, rfl, rfl, ?_⟩
    exact cv k (congrArg V.bl (ile (j := 100)))
abbrev s_is_road : Stmt := top 19
theorem sc_is_road : FnScope ["far"] ["far"] (defScope s_is_road) := ⟨rfl, rfl, rfl, by decide +kernel, rfl, by decide +kernel, by decide +kernel⟩
theorem d_is_road (T : Txt mg) (F : Fd K mg "is_road" s_is_road) : Dn P w K mg base 1 "is_road" ["far"] sp_is_road := by
  refine F.dn sc_is_road (fun _ _ _ _ _ _ us hl => match us, hl with | [_], _ => rfl) (fun vs H Q E h => ?_) (fun f cdv A outer s H vs Q E hr h => ?_)
  . obtain ⟨n, rfl, _⟩ := h; rfl
  . obtain ⟨n, rfl, k⟩ := h
    refine ⟨_, (pss_one (ps_ret (pe_and (pe_cmpR op_ge (pv 0) (pe_gi T.SHORTEST_ROAD) (nomark _)) (pe_one (pe_cmpR op_le (pv 0) (pe_gi T.LONGEST_ROAD) (nomark _)))))), ?_⟩
    refine ⟨_, rfl, _, _, rfl, rfl, _, rfl, ite2 (fun hp => ⟨_, rfl, _, _, rfl, rfl, ?_⟩) (fun hp => ?_)⟩
    . have h1 : 1 <= n := by have := of_decide_eq_true hp; omega
      simp only [h1, true_and] at k
      exact cv k (congrArg V.bl (ile (j := 1000)))
    . have h1 : ¬ 1 <= n := fun z => hp (decide_eq_true (by omega))
      simp only [h1, false_and, decide_false] at k; exact k
abbrev s_road_between : Stmt := top 20
theorem sc_road_between : FnScope ["v", "w"] ["v", "w"] (defScope s_road_between) := ⟨rfl, rfl, rfl, by decide +kernel, rfl, by decide +kernel, by decide +kernel⟩
theorem d_road_between (T : Txt mg) (F : Fd K mg "road_between" s_road_between) : Dn P w K mg base 1 "road_between" ["v", "w"] sp_road_between := by
  refine F.dn sc_road_between (fun _ _ _ _ _ _ us hl => match us, hl with | [_, _], _ => rfl) (fun vs H Q E h => ?_) (fun f cdv A outer s H vs Q E hr h => ?_)
  . obtain ⟨v, u, rfl, _⟩ := h; rfl
  . obtain ⟨v, u, rfl, k⟩ := h
    refine ⟨_, (pss_one (ps_ret (pe_callB (call_max2 rfl) rfl T.max boot_max (pa_cons (pv 0) (pa_cons (pv 1) pa_nil))))), ?_⟩
    refine ⟨_, rfl, _, rfl, _, _, rfl, ?_⟩
    refine cv k (congrArg V.int ?_)
    by_cases hj : u > v
    . rw [if_pos (by omega)]; omega
    . rw [if_neg (by omega)]; omega
abbrev s_are_beside : Stmt := top 21
theorem sc_are_beside : FnScope ["valley", "v", "w"] ["valley", "v", "w"] (defScope s_are_beside) := ⟨rfl, rfl, rfl, by decide +kernel, rfl, by decide +kernel, by decide +kernel⟩
theorem d_are_beside (T : Txt mg) (Z : Vc K C) (F : Fd K mg "are_beside" s_are_beside) (D_road_between : Dn P w K mg base 1 "road_between" ["v", "w"] sp_road_between) : Dn P w K mg base 2 "are_beside" ["valley", "v", "w"] (sp_are_beside C) := by
  refine F.dn sc_are_beside (fun _ _ _ _ _ _ us hl => match us, hl with | [_, _, _], _ => rfl) (fun vs H Q E h => ?_) (fun f cdv A outer s H vs Q E hr h => ?_)
  . obtain ⟨a, s, c, b, p, v, u, rfl, _⟩ := h; rfl
  . obtain ⟨a, s, c, b, p, v, u, rfl, ⟨dx, ch, up, rd, h⟩, hv, hu, k⟩ := h
    refine ⟨_, (pss_one (ps_ret (pe_and (pe_cmpR op_ne (pv 1) (pv 2) (nomark _)) (pe_one (pe_cmpR op_eq (pe_ix ix_list (pe_fld (pv 0) rfl) (pe_dn D_road_between hr (pa_cons (pv 1) (pa_cons (pv 2) pa_nil))) (fun _ _ => rfl)) (pe_callB (call_min2 rfl) rfl T.min boot_min (pa_cons (pv 1) (pa_cons (pv 2) pa_nil))) (nomark _)))))), ?_⟩
    refine ⟨_, rfl, _, rfl, rfl, _, rfl, ite2 (fun hp => ?_) (fun hp => ?_)⟩
    . have hne : v ≠ u := by
        intro z; subst z
        rw [V.ncast] at hp; simp at hp
      refine ⟨_, rfl, a, C, dx, _, _, rfl, h.ins, Z.cl, Z.up, vf_up, _, rfl, _, rfl, v, u, rfl, up, _, _, _, rfl, rfl, SqL.of h.up, atI_nat (ups_at (show max v u < s.length by omega)), _, rfl, _, rfl, _, _, rfl, rfl, ?_⟩
      refine cv k (congrArg V.bl ?_)
      have e1 : (if (u : Int) < (v : Int) then (u : Int) else (v : Int)) = ((min v u : Nat) : Int) := by
        by_cases hj : u < v
        . rw [if_pos (by omega)]; omega
        . rw [if_neg (by omega)]; omega
      rw [e1, V.ncast]
      unfold besideB
      simp only [hne, ne_eq, not_false_eq_true, true_and]
    . have hne : v = u := by
        rcases Nat.decEq v u with z | z
        . exact absurd (by rw [V.ncast]; simp [z]) hp
        . exact z
      refine cv k (congrArg V.bl ?_)
      unfold besideB
      simp [hne]
abbrev s_beside : Stmt := top 22
theorem sc_beside : FnScope ["valley", "v", "w"] ["valley", "v"] (defScope s_beside) := ⟨rfl, rfl, rfl, by decide +kernel, rfl, by decide +kernel, by decide +kernel⟩
theorem d_beside (T : Txt mg) (F : Fd K mg "beside" s_beside) (D_how_many_villages : Dn P w K mg base 1 "how_many_villages" ["valley"] (sp_how_many_villages C)) (D_are_beside : Dn P w K mg base 2 "are_beside" ["valley", "v", "w"] (sp_are_beside C)) : Dn P w K mg base 3 "beside" ["valley", "v"] (sp_beside C) := by
  refine F.dn sc_beside (fun _ _ _ _ _ _ us hl => match us, hl with | [_, _], _ => rfl) (fun vs H Q E h => ?_) (fun f cdv A outer s H vs Q E hr h => ?_)
  . obtain ⟨a, s, c, b, p, v, rfl, _⟩ := h; rfl
  . obtain ⟨a, s, c, b, p, v, rfl, h, hv, hl, k⟩ := h
    refine ⟨_, (pss_one (ps_ret (pe_lc rfl sc_beside.nd (pi_range1 rfl T.range (pa_cons (pe_dn D_how_many_villages hr (pa_cons (pv 0) pa_nil)) pa_nil)) (blkOk_by (own := [("w", 2)]) rfl) (fun _ _ _ _ _ => pg_name (i := 2) sc_beside.nd rfl (Or.inl rfl)) (fun _ _ _ _ _ => by exact (pts_one (pt_val (pe_dn D_are_beside hr (pa_cons (pv 0) (pa_cons (pv 1) (pa_cons (pv 2) pa_nil))))))) (fun _ _ _ _ _ => by exact (pv 2))))), ?_⟩
    refine ⟨_, rfl, a, s, c, b, p, rfl, h, _, rfl, by omega, by omega, fun D hD => ?_⟩
    rw [Int.toNat_natCast]
    refine lc_rng (besideB s v) nv hD (by omega) (fun i H1 hi s1 Nx n0 n1 => ?_) (fun H' s1 h1 => k H' D s1 hD h1)
    refine ⟨rfl, _, rfl, _, rfl, _, rfl, a, s, c, b, p, v, i, by simp, h.same s1, hv, hi, _, rfl, iteB rfl (fun hp => ⟨_, rfl, n1 hp _ _ (Same.refl _) (by simp)⟩) (fun hp => n0 hp _ (Same.refl _))⟩
end
end VV
namespace VV
open PySem PySem.Spec PyProof.Rows L2
open Km457 (Valley at_)
def R (s : Valley) (m v : Nat) : List V := (List.range m).map fun w => nv (Km457.far s v w)
theorem R_succ (s : Valley) (m v : Nat) : R s (m + 1) v = R s m v ++ [nv (Km457.far s v m)] := by
  unfold R
  rw [List.range_succ, List.map_append]; rfl
theorem R_len (s : Valley) (m v : Nat) : (R s m v).length = m := by unfold R; simp
theorem R_at {s : Valley} {m v w : Nat} (h : w < m) : (R s m v)[w]? = some (nv (Km457.far s v w)) := by
  unfold R
  rw [List.getElem?_map, List.getElem?_range h]; rfl
def Tab (H : Hp) (q : Addr) (s : Valley) : Prop := ∃ rows : List Addr, H q = some (.lst (rows.map V.ref)) /\ rows.length = s.length /\ ∀ (v : Nat) (r : Addr), rows[v]? = some r -> H r = some (.lst (R s s.length v))
theorem Tab.same {H H' : Hp} {q : Addr} {s : Valley} (t : Tab H q s) (e : Same H H') : Tab H' q s := by
  obtain ⟨rows, h1, h2, h3⟩ := t
  exact ⟨rows, e _ _ h1, h2, fun v r h => e _ _ (h3 v r h)⟩
theorem Tab.row {H : Hp} {q : Addr} {s : Valley} (t : Tab H q s) {v : Nat} (hv : v < s.length) : ∃ xs r, H q = some (.lst xs) /\ xs[v]? = some (.ref r) /\ H r = some (.lst (R s s.length v)) := by
  obtain ⟨rows, h1, h2, h3⟩ := t
  obtain ⟨r, hr⟩ : ∃ r, rows[v]? = some r := ⟨_, List.getElem?_eq_getElem (by omega)⟩
  exact ⟨_, r, h1, by rw [List.getElem?_map, hr]; rfl, h3 v r hr⟩
def sp_distances (C : Addr) : Sp := fun vs H Q _ => ∃ a s c b p, vs = [.ref a] /\ VA C H a s c b p /\ Good s /\ ∀ H' q, Same H H' -> H q = none -> Tab H' q s -> Q (.ref q) H'
structure Grow (s : Valley) (H H' : Hp) (q : Addr) (rows : List Addr) (m j : Nat) : Prop where
  tab : H' q = some (.lst (rows.map V.ref))
  len : rows.length = m
  nd : rows.Nodup
  nq : q ∉ rows
  new : ∀ r ∈ rows, H r = none
  row : ∀ (t : Nat) (r : Addr), rows[t]? = some r -> H' r = some (.lst (R s (if t < j then m + 1 else m) t))
def addV (n : Nat) : V -> V
  | .int z => .int (z + n)
  | x => x
section
variable {P : Program} {w : World} {K : PySem.W.Frag} {mg : Str -> Option Value} {base : Heap} {C : Addr}
abbrev s_distances : Stmt := top 23
theorem sc_distances : FnScope ["valley", "table", "v", "row", "far", "w"] ["valley"] (defScope s_distances) := ⟨rfl, rfl, rfl, by decide +kernel, rfl, by decide +kernel, by decide +kernel⟩
theorem d_distances (T : Txt mg) (Z : Vc K C) (F : Fd K mg "distances" s_distances) (D_how_many_villages : Dn P w K mg base 1 "how_many_villages" ["valley"] (sp_how_many_villages C)) : Dn P w K mg base 2 "distances" ["valley"] (sp_distances C) := by
  refine F.dn sc_distances (fun _ _ _ _ _ _ us hl => match us, hl with | [_], _ => rfl) (fun vs H Q E h => ?_) (fun f cdv A outer s H vs Q E hr h => ?_)
  . obtain ⟨a, s, c, b, p, rfl, _⟩ := h; rfl
  . obtain ⟨a, s, c, b, p, rfl, hV, G, k⟩ := h
    refine ⟨_, (pss_cons (ps_set (i := 1) sc_distances.nd rfl (Or.inl rfl) (pe_lst (pa_cons (pe_lst (pa_cons pe_int pa_nil)) pa_nil)))
      (pss_cons (ps_for PassesOwn.never rfl (pi_range2 rfl T.range (pa_cons pe_int (pa_cons (pe_dn D_how_many_villages hr (pa_cons (pv 0) pa_nil)) pa_nil))) (pg_name (i := 2) sc_distances.nd rfl (Or.inr rfl))
        (pss_cons (ps_setLc (i := 3) (y := "row") rfl sc_distances.nd rfl rfl (sw_true rfl rfl rfl rfl) (pi_list (pe_ix ix_list (pv 1) (pe_ix ix_list (pe_fld (pv 0) rfl) (pv 2) (fun _ _ => rfl)) (fun _ _ => rfl))) (blkOk_by (own := [("far", 4)]) rfl) (fun _ _ _ _ _ => pg_name (i := 4) sc_distances.nd rfl (Or.inl rfl)) (fun _ _ _ _ _ => by exact pts_nil) (fun _ _ _ _ _ => by exact (pe_op op_add (pv 4) (pe_ixK K (pe_fldK K (pv 0) rfl) (pv 2) (fun _ _ => rfl)))))
      (pss_cons (ps_for PassesOwn.never rfl (pi_range1 rfl T.range (pa_cons (pv 2) pa_nil)) (pg_name (i := 5) sc_distances.nd rfl (Or.inl rfl))
        (pss_one (ps_expr (pe_bm PySem.F.plainAttrs_list PySem.F.slot_list_append PySem.F.type_list_append mt_append (pe_ix ix_list (pv 1) (pv 5) (fun _ _ => rfl)) (pa_cons (pe_ix ix_list (pv 3) (pv 5) (fun _ _ => rfl)) pa_nil)))))
      (pss_cons (ps_expr (pe_bm PySem.F.plainAttrs_list PySem.F.slot_list_append PySem.F.type_list_append mt_append (pv 3) (pa_cons pe_int pa_nil)))
      (pss_one (ps_expr (pe_bm PySem.F.plainAttrs_list PySem.F.slot_list_append PySem.F.type_list_append mt_append (pv 1) (pa_cons (pv 3) pa_nil))))))))
      (pss_one (ps_ret (pv 1))))), ?_⟩
    have hl := G.len
    have hpos := G.wf.pos
    refine ⟨(by show 1 <= sizeLine; decide), fun r0 hr0 => ⟨(by show 1 <= sizeLine; decide), fun q hq => ?_⟩⟩
    have s1 : Same H (upd H r0 (.lst [.int 0])) := (Same.refl H).new hr0
    have s2 : Same H (upd (upd H r0 (.lst [.int 0])) q (.lst [.ref r0])) := s1.new hq
    have hqH : H q = none := s1.free hq
    have hne : r0 ≠ q := ne_of_none (H := upd H r0 (.lst [.int 0])) upd_same hq
    have g0 : Grow s H (upd (upd H r0 (.lst [.int 0])) q (.lst [.ref r0])) q [r0] 1 0 := by
      refine ⟨upd_same, rfl, by simp, by simp; exact fun z => hne z.symm, by simp; exact hr0, fun t r ht => ?_⟩
      cases t with
      | zero =>
        have e : r0 = r := Option.some.inj ht
        subst e
        rw [upd_ne hne, upd_same]
        show some (HO.lst [V.int 0]) = some (HO.lst [nv (Km457.far s 0 0)])
        rw [VT.far_self G.wf hpos]; rfl
      | succ t => simp at ht
    refine ⟨_, rfl, a, s, c, b, p, rfl, hV.same s2, 1, (s.length : Int), rfl, ⟨by omega, by omega, by omega, by omega⟩, ?_⟩
    have en : ((s.length : Int) - 1).toNat = s.length - 1 := by omega
    rw [en]
    refine for_range (fun i σ H' => ∃ v1 v2 v3 rows, σ = [some (.ref a), some (.ref q), v1, v2, none, v3] /\ Same H H' /\ Grow s H H' q rows (i + 1) 0) ⟨none, none, none, [r0], rfl, s2, g0⟩ ?_ ?_
    . rintro i σ H1 hi ⟨v1, v2, v3, rows, rfl, s3, g⟩
      have ei : (1 : Int) + (i : Nat) = ((i + 1 : Nat) : Int) := by omega
      rw [ei]
      have hv : i + 1 < s.length := by omega
      have hu := G.wf.ups (i + 1) (by omega) hv
      obtain ⟨dx, ch, up, rd, hP⟩ := hV.same s3
      obtain ⟨r, hr1⟩ : ∃ r, rows[(at_ s (i + 1)).up]? = some r := ⟨_, List.getElem?_eq_getElem (by rw [g.len]; omega)⟩
      have hrow := g.row _ _ hr1
      rw [if_neg (by omega)] at hrow
      refine ⟨_, rfl, _, rfl, a, C, dx, _, _, rfl, hP.ins, Z.cl, Z.up, vf_up, _, rfl, up, _, _, _, rfl, rfl, SqL.of hP.up, atI_nat (ups_at hv), q, _, _, _, rfl, rfl, SqL.of g.tab, atI_nat (v := V.ref r) (by rw [List.getElem?_map, hr1]; rfl), r, rfl, ⟨_, SqL.of hrow⟩, fun D hD => ?_⟩
      refine lc_lst (addV (at_ s (i + 1)).long) hD (by rw [R_len]; omega) (SqL.of hrow) (fun j x H2 hx s4 Nx n1 => ?_) (fun H2 s4 hD2 => ?_)
      . have hj : j < i + 1 := by
          have := (List.getElem?_eq_some_iff.mp hx).1
          rw [R_len] at this; exact this
        rw [R_at hj] at hx
        cases hx
        have hP2 := hP.same s4
        refine ⟨rfl, yes ⟨_, rfl, _, rfl, a, C, dx, _, _, rfl, hP2.ins, Z.cl, Z.rd, vf_rd, _, rfl, rd, _, _, _, rfl, rfl, SqL.of hP2.rd, atI_nat (roads_at hv), _, _, rfl, rfl, n1 _ _ (Same.refl _) rfl⟩⟩
      . -- the new row
        have eR : (R s (i + 1) (at_ s (i + 1)).up).map (addV (at_ s (i + 1)).long) = R s (i + 1) (i + 1) := by
          unfold R
          rw [List.map_map]
          apply List.map_congr_left
          intro x hx
          have hx' : x < i + 1 := by simpa using hx
          show V.int ((Km457.far s (at_ s (i + 1)).up x : Nat) + ((at_ s (i + 1)).long : Nat) : Int) = nv (Km457.far s (i + 1) x)
          rw [VT.far_left G.wf hv hx']
          congr 1
          omega
        rw [eR] at hD2
        have hDr : D ∉ rows := fun z => by
          obtain ⟨t, ht⟩ := List.getElem?_of_mem z
          rw [g.row t D ht] at hD; cases hD
        have hDq : D ≠ q := fun z => by
          rw [z, g.tab] at hD; cases hD
        have hDH : H D = none := s3.free hD
        have s5 : Same H H2 := s3.trans s4
        have g2 : Grow s H H2 q rows (i + 1) 0 := ⟨s4 _ _ g.tab, g.len, g.nd, g.nq, g.new, fun t r ht => s4 _ _ (g.row t r ht)⟩
        refine ⟨_, rfl, ((i + 1 : Nat) : Int), rfl, by omega, by omega, ?_⟩
        rw [Int.toNat_natCast]
        refine for_range (fun j σ H' => ∃ v3, σ = [some (.ref a), some (.ref q), some (nv (i + 1)), some (.ref D), none, v3] /\ Same H H' /\ H' D = some (.lst (R s (i + 1) (i + 1))) /\ Grow s H H' q rows (i + 1) j) ⟨v3, rfl, s5, hD2, g2⟩ ?_ ?_
        . rintro j σ H3 hj ⟨v3', rfl, s6, hD3, g3⟩
          have ej : (0 : Int) + (j : Nat) = ((j : Nat) : Int) := by omega
          rw [ej]
          obtain ⟨rj, hrj⟩ : ∃ r, rows[j]? = some r := ⟨_, List.getElem?_eq_getElem (by rw [g3.len]; omega)⟩
          have hrow3 := g3.row _ _ hrj
          rw [if_neg (by omega)] at hrow3
          have hjm : rj ∈ rows := List.mem_of_getElem? hrj
          refine ⟨_, rfl, _, rfl, q, _, _, _, rfl, rfl, SqL.of g3.tab, atI_nat (v := V.ref rj) (by rw [List.getElem?_map, hrj]; rfl), .inl ⟨rfl, _, SqL.of hrow3⟩, _, rfl, _, rfl, D, _, _, _, rfl, rfl, SqL.of hD3, atI_nat (R_at hj), rj, _, _, rfl, rfl, hrow3, ?_, ?_⟩
          . rw [R_len]; exact Nat.lt_of_lt_of_le (show i + 1 < 1000 by omega) (Nat.le_of_lt (Nat.lt_trans (by decide) line_big))
          . refine ⟨_, rfl, s6.put (g3.new rj hjm), ?_, ?_⟩
            . rw [upd_ne (by intro z; exact hDr (by rw [z]; exact hjm))]; exact hD3
            . refine ⟨?_, g3.len, g3.nd, g3.nq, g3.new, fun t r ht => ?_⟩
              . rw [upd_ne (by intro z; exact g3.nq (by rw [z]; exact hjm))]; exact g3.tab
              . by_cases et : t = j
                . subst et
                  have e : rj = r := Option.some.inj (hrj.symm.trans ht)
                  subst e
                  rw [upd_same, if_pos (by omega), R_succ s (i + 1) t, VT.far_comm G.wf (v := t) (by omega) hv]
                . rw [upd_ne (fun z => et (nd_ix g3.nd ht (by rw [z]; exact hrj))), g3.row t r ht]
                  congr 3
                  by_cases h2 : t < j
                  . rw [if_pos h2, if_pos (by omega)]
                  . rw [if_neg h2, if_neg (by omega)]
        . rintro σ H3 ⟨v3', rfl, s6, hD3, g3⟩
          refine ⟨_, rfl, .inl ⟨rfl, _, SqL.of hD3⟩, D, _, _, rfl, rfl, hD3, ?_, ?_⟩
          . rw [R_len]; exact Nat.lt_of_lt_of_le (show i + 1 < 1000 by omega) (Nat.le_of_lt (Nat.lt_trans (by decide) line_big))
          . have hq4 : (upd H3 D (.lst (R s (i + 1) (i + 1) ++ [V.int 0]))) q = some (.lst (rows.map V.ref)) := by rw [upd_ne hDq.symm]; exact g3.tab
            refine ⟨_, rfl, .inl ⟨rfl, _, SqL.of hq4⟩, _, rfl, q, _, _, rfl, rfl, hq4, ?_, ?_⟩
            . rw [List.length_map, g3.len]; exact Nat.lt_of_lt_of_le (show i + 1 < 1000 by omega) (Nat.le_of_lt (Nat.lt_trans (by decide) line_big))
            . refine ⟨_, _, _, rows ++ [D], rfl, (s6.put hDH).put hqH, ?_⟩
              refine ⟨by rw [upd_same, List.map_append]; rfl, by rw [List.length_append, g3.len]; rfl, ?_, ?_, ?_, fun t r ht => ?_⟩
              . exact nd_snoc g3.nd hDr
              . intro z
                rcases List.mem_append.mp z with z | z
                . exact g3.nq z
                . have : q = D := by simpa using z
                  exact hDq this.symm
              . intro r z
                rcases List.mem_append.mp z with z | z
                . exact g3.new r z
                . have : r = D := by simpa using z
                  rw [this]; exact hDH
              . rw [if_neg (by omega)]
                by_cases h2 : t < rows.length
                . rw [List.getElem?_append_left h2] at ht
                  have hm : r ∈ rows := List.mem_of_getElem? ht
                  rw [upd_ne (by intro z; exact g3.nq (by rw [<- z]; exact hm)), upd_ne (by intro z; exact hDr (by rw [<- z]; exact hm)), g3.row t r ht, if_pos (by rw [g3.len] at h2; exact h2)]
                . have ht' : t = rows.length := by
                    have := (List.getElem?_eq_some_iff.mp ht).1
                    rw [List.length_append] at this
                    have : t < rows.length + 1 := this
                    omega
                  subst ht'
                  rw [List.getElem?_append_right (by omega)] at ht
                  have e : D = r := by simpa using ht
                  subst e
                  rw [upd_ne hDq, upd_same, g3.len, R_succ s (i + 1) (i + 1), VT.far_self G.wf hv]
                  rfl
    . rintro σ H1 ⟨v1, v2, v3, rows, rfl, s3, g⟩
      refine ⟨_, rfl, ?_⟩
      have e1 : s.length - 1 + 1 = s.length := by omega
      refine k H1 q s3 hqH ⟨rows, g.tab, by rw [g.len, e1], fun v r h => ?_⟩
      have := g.row v r h
      rw [if_neg (by omega), e1] at this
      exact this
end
end VV
namespace VV
open PySem PySem.Spec PyProof.Rows L2
open Km457 (Valley at_)
theorem ixN_nat {n j : Nat} (h : j < n) : ixN n (j : Int) = some j := by
  unfold ixN
  rw [if_pos (by omega), if_pos (by omega), Int.toNat_natCast]
theorem small_line {n : Nat} (h : n <= 100000) : n < sizeLine := Nat.lt_of_le_of_lt h (Nat.lt_trans (by decide) line_big)
def und (s : Valley) (v : Nat) : Nat := VT.mask s.length fun y => VT.anc s v y
def undL (s : Valley) : List V := (List.range s.length).map fun v => nv (und s v)
theorem undL_at {s : Valley} {v : Nat} (h : v < s.length) : (undL s)[v]? = some (nv (und s v)) := by
  unfold undL
  rw [List.getElem?_map, List.getElem?_range h]; rfl
def UL (s : Valley) (j : Nat) : List V := (List.range s.length).map fun x => nv (VT.mask s.length (VT.U s j x))
theorem UL_at {s : Valley} {j v : Nat} (h : v < s.length) : (UL s j)[v]? = some (nv (VT.mask s.length (VT.U s j v))) := by
  unfold UL
  rw [List.getElem?_map, List.getElem?_range h]; rfl
theorem UL_len (s : Valley) (j : Nat) : (UL s j).length = s.length := by unfold UL; simp
theorem UL_set {s : Valley} (W : VT.WF s) {v : Nat} (v0 : 0 < v) (hv : v < s.length) :
    (UL s v).set (at_ s v).up (nv (VT.mask s.length (VT.U s v (at_ s v).up) ||| VT.mask s.length (VT.U s v v))) = UL s (v - 1) := by
  have hu := W.ups v v0 hv
  apply List.ext_getElem?
  intro x
  by_cases hx : x < s.length
  . rw [UL_at hx, List.getElem?_set]
    by_cases e : (at_ s v).up = x
    . rw [if_pos e, if_pos (by rw [UL_len]; omega), VT.mask_or]
      refine congrArg (fun z => some (nv z)) (VT.mask_congr fun y hy => ?_)
      rw [VT.U_step W v0 hv hy, e, VT.U_full W hv hy (Nat.le_refl v)]
      simp
    . rw [if_neg e, UL_at hx]
      refine congrArg (fun z => some (nv z)) (VT.mask_congr fun y hy => ?_)
      rw [VT.U_step W v0 hv hy]
      simp [e]
  . rw [List.getElem?_eq_none (by rw [List.length_set, UL_len]; omega), List.getElem?_eq_none (by rw [UL_len]; omega)]
def sp_beneath (C : Addr) : Sp := fun vs H Q _ => ∃ a s c b p, vs = [.ref a] /\ VA C H a s c b p /\ Good s /\ ∀ H' q, Same H H' -> H q = none -> H' q = some (.lst (undL s)) -> Q (.ref q) H'
def brs (s : Valley) (v : Nat) : List Nat := (((List.range (s.length - 1)).filter fun i => decide ((at_ s (i + 1)).up = v)).map fun i => und s (i + 1)) ++ if 0 < v then [VT.mask s.length fun y => !VT.anc s v y] else []
def sp_branches (C : Addr) : Sp := fun vs H Q _ => ∃ a s c b p, ∃ v : Nat, vs = [.ref a, nv v] /\ VA C H a s c b p /\ Good s /\ v < s.length /\ ∀ H' q, Same H H' -> H q = none -> H' q = some (.lst ((brs s v).map nv)) -> Q (.ref q) H'
section
variable {P : Program} {w : World} {K : PySem.W.Frag} {mg : Str -> Option Value} {base : Heap} {C : Addr}
abbrev s_beneath : Stmt := top 24
theorem sc_beneath : FnScope ["valley", "count", "under", "v", "up"] ["valley"] (defScope s_beneath) := ⟨rfl, rfl, rfl, by decide +kernel, rfl, by decide +kernel, by decide +kernel⟩
theorem d_beneath (T : Txt mg) (Z : Vc K C) (F : Fd K mg "beneath" s_beneath) (D_how_many_villages : Dn P w K mg base 1 "how_many_villages" ["valley"] (sp_how_many_villages C)) (D_one : Dn P w K mg base 1 "one" ["v"] sp_one) : Dn P w K mg base 2 "beneath" ["valley"] (sp_beneath C) := by
  refine F.dn sc_beneath (fun _ _ _ _ _ _ us hl => match us, hl with | [_], _ => rfl) (fun vs H Q E h => ?_) (fun f cdv A outer s H vs Q E hr h => ?_)
  . obtain ⟨a, s, c, b, p, rfl, _⟩ := h; rfl
  . obtain ⟨a, s, c, b, p, rfl, hV, G, k⟩ := h
    refine ⟨_, (pss_cons (ps_set (i := 1) sc_beneath.nd rfl (Or.inl rfl) (pe_dn D_how_many_villages hr (pa_cons (pv 0) pa_nil)))
      (pss_cons (ps_setLc (i := 2) (y := "under") rfl sc_beneath.nd rfl rfl (sw_true rfl rfl rfl rfl) (pi_range1 rfl T.range (pa_cons (pv 1) pa_nil)) (blkOk_by (own := [("v", 3)]) rfl) (fun _ _ _ _ _ => pg_name (i := 3) sc_beneath.nd rfl (Or.inl rfl)) (fun _ _ _ _ _ => by exact pts_nil) (fun _ _ _ _ _ => by exact (pe_dn D_one hr (pa_cons (pv 3) pa_nil))))
      (pss_cons (ps_for PassesOwn.never rfl (pi_range3 rfl T.range (pa_cons (pe_op op_sub (pv 1) pe_int) (pa_cons pe_int (pa_cons (pe_un un_neg pe_int) pa_nil)))) (pg_name (i := 3) sc_beneath.nd rfl (Or.inl rfl))
        (pss_cons (ps_set (i := 4) sc_beneath.nd rfl (Or.inl rfl) (pe_ix ix_list (pe_fld (pv 0) rfl) (pv 3) (fun _ _ => rfl)))
      (pss_one (ps_asg (pe_op op_or (pe_ix ix_list (pv 2) (pv 4) (fun _ _ => rfl)) (pe_ix ix_list (pv 2) (pv 3) (fun _ _ => rfl))) (pg_sub (pv 2) (pv 4) set_list)))))
      (pss_one (ps_ret (pv 2)))))), ?_⟩
    have hl := G.len
    have hpos := G.wf.pos
    refine ⟨_, rfl, a, s, c, b, p, rfl, hV, ?_⟩
    refine ⟨_, rfl, (s.length : Int), rfl, by omega, by omega, fun D hD => ?_⟩
    rw [Int.toNat_natCast]
    refine lc_rng (fun _ => true) (fun v => nv (2 ^ v)) hD (by omega) (fun i H1 hi s1 Nx n0 n1 => ?_) (fun H1 s1 h1 => ?_)
    . exact ⟨rfl, yes ⟨_, rfl, i, by simp, by omega, n1 rfl _ _ (Same.refl _) rfl⟩⟩
    . have e0 : ((List.range s.length).filter fun _ => true).map (fun v => nv (2 ^ v)) = UL s (s.length - 1) := by
        have : (List.range s.length).filter (fun _ => true) = List.range s.length := List.filter_eq_self.mpr fun _ _ => rfl
        rw [this]
        unfold UL
        apply List.map_congr_left
        intro x hx
        have hx' : x < s.length := by simpa using hx
        have : VT.mask s.length (VT.U s (s.length - 1) x) = 2 ^ x := by
          rw [VT.mask_one hx']
          apply VT.mask_congr
          intro y _
          exact VT.U_last G.wf x y
        rw [this]
      rw [e0] at h1
      refine ⟨_, rfl, _, _, rfl, rfl, _, rfl, (s.length : Int) - 1, 0, -1, _, rfl, RgC.neg (by omega) (by omega) (by omega) (by omega), ?_⟩
      have en : ((s.length : Int) - 1 - 0).toNat = s.length - 1 := by omega
      rw [en]
      refine for_rangeC (fun i σ H' => ∃ v1 v2, σ = [some (.ref a), some (nv s.length), some (.ref D), v1, v2] /\ Same H H' /\ H' D = some (.lst (UL s (s.length - 1 - i)))) ⟨none, none, rfl, s1, h1⟩ ?_ ?_
      . rintro i σ H2 hi ⟨v1, v2, rfl, s2, h2⟩
        have ei : (s.length : Int) - 1 + (i : Nat) * (-1) = ((s.length - 1 - i : Nat) : Int) := by omega
        rw [ei]
        have hv : s.length - 1 - i < s.length := by omega
        have v0 : 0 < s.length - 1 - i := by omega
        have hu := G.wf.ups _ v0 hv
        obtain ⟨dx, ch, up, rd, hP⟩ := hV.same s2
        refine ⟨_, rfl, a, C, dx, _, _, rfl, hP.ins, Z.cl, Z.up, vf_up, _, rfl, up, _, _, _, rfl, rfl, SqL.of hP.up, atI_nat (ups_at hv), ?_⟩
        refine ⟨_, rfl, _, rfl, D, _, _, _, rfl, rfl, SqL.of h2, atI_nat (UL_at (show (at_ s (s.length - 1 - i)).up < s.length by omega)), _, rfl, _, rfl, D, _, _, _, rfl, rfl, SqL.of h2, atI_nat (UL_at hv), _, _, rfl, rfl, ?_⟩
        refine ⟨_, rfl, _, rfl, D, _, _, _, rfl, rfl, h2, ixN_nat (by rw [UL_len]; omega), ?_⟩
        refine ⟨_, _, rfl, s2.put hD, ?_⟩
        have e1 : s.length - 1 - (i + 1) = s.length - 1 - i - 1 := by omega
        rw [upd_same, e1, <- UL_set G.wf v0 hv]
        congr 4
        exact congrArg V.int (bor _ _)
      . rintro σ H2 ⟨v1, v2, rfl, s2, h2⟩
        refine ⟨_, rfl, k H2 D s2 hD ?_⟩
        have e1 : s.length - 1 - (s.length - 1) = 0 := by omega
        rw [h2, e1]
        congr 2
        unfold UL undL und
        apply List.map_congr_left
        intro x hx
        have hx' : x < s.length := by simpa using hx
        exact congrArg nv (VT.mask_congr fun y hy => VT.U_full G.wf hx' hy (Nat.zero_le _))
abbrev s_branches : Stmt := top 25
theorem sc_branches : FnScope ["valley", "v", "count", "under", "found", "w"] ["valley", "v"] (defScope s_branches) := ⟨rfl, rfl, rfl, by decide +kernel, rfl, by decide +kernel, by decide +kernel⟩
theorem d_branches (T : Txt mg) (Z : Vc K C) (F : Fd K mg "branches" s_branches) (D_how_many_villages : Dn P w K mg base 1 "how_many_villages" ["valley"] (sp_how_many_villages C)) (D_beneath : Dn P w K mg base 2 "beneath" ["valley"] (sp_beneath C))
    (D_without : Dn P w K mg base 1 "without" ["group", "others"] sp_without) (D_first_villages : Dn P w K mg base 1 "first_villages" ["count"] sp_first_villages) : Dn P w K mg base 3 "branches" ["valley", "v"] (sp_branches C) := by
  refine F.dn sc_branches (fun _ _ _ _ _ _ us hl => match us, hl with | [_, _], _ => rfl) (fun vs H Q E h => ?_) (fun f cdv A outer s H vs Q E hr h => ?_)
  . obtain ⟨a, s, c, b, p, v, rfl, _⟩ := h; rfl
  . obtain ⟨a, s, c, b, p, v, rfl, hV, G, hv, k⟩ := h
    refine ⟨_, (pss_cons (ps_set (i := 2) sc_branches.nd rfl (Or.inl rfl) (pe_dn D_how_many_villages hr (pa_cons (pv 0) pa_nil)))
      (pss_cons (ps_set (i := 3) sc_branches.nd rfl (Or.inr rfl) (pe_dn D_beneath hr (pa_cons (pv 0) pa_nil)))
      (pss_cons (ps_setLc (i := 4) (y := "found") rfl sc_branches.nd rfl rfl (sw_true rfl rfl rfl rfl) (pi_range2 rfl T.range (pa_cons pe_int (pa_cons (pv 2) pa_nil))) (blkOk_by (own := [("w", 5)]) rfl) (fun _ _ _ _ _ => pg_name (i := 5) sc_branches.nd rfl (Or.inl rfl)) (fun _ _ _ _ _ => by exact (pts_one (pt_cmpR op_eq (pe_ixK K (pe_fldK K (pv 0) rfl) (pv 5) (fun _ _ => rfl)) (pv 1) (nomark _)))) (fun _ _ _ _ _ => by exact (pe_ixK K (pv 3) (pv 5) (fun _ _ => rfl))))
      (pss_cons (ps_if (pt_cmpR op_gt (pv 1) pe_int (nomark _)) (pss_one (ps_expr (pe_bm PySem.F.plainAttrs_list PySem.F.slot_list_append PySem.F.type_list_append mt_append (pv 4) (pa_cons (pe_dn D_without hr (pa_cons (pe_dn D_first_villages hr (pa_cons (pv 2) pa_nil)) (pa_cons (pe_ix ix_list (pv 3) (pv 1) (fun _ _ => rfl)) pa_nil))) pa_nil)))) pss_nil)
      (pss_one (ps_ret (pv 4))))))), ?_⟩
    have hl := G.len
    have hpos := G.wf.pos
    refine ⟨_, rfl, a, s, c, b, p, rfl, hV, ?_⟩
    refine ⟨_, rfl, a, s, c, b, p, rfl, hV, G, fun H1 q s1 hq hU => ?_⟩
    refine ⟨_, rfl, 1, (s.length : Int), rfl, ⟨by omega, by omega, by omega, by omega⟩, fun D hD => ?_⟩
    have en : ((s.length : Int) - 1).toNat = s.length - 1 := by omega
    rw [en]
    refine lc_rng (fun i => decide ((at_ s (i + 1)).up = v)) (fun i => nv (und s (i + 1))) hD (by omega) (fun i H2 hi s2 Nx n0 n1 => ?_) (fun H2 s2 h2 => ?_)
    . have ei : (1 : Int) + (i : Nat) = ((i + 1 : Nat) : Int) := by omega
      rw [ei]
      obtain ⟨dx, ch, up, rd, hP⟩ := hV.same (s1.trans s2)
      refine ⟨rfl, _, rfl, a, C, dx, _, _, rfl, hP.ins, Z.cl, Z.up, vf_up, _, rfl, up, _, _, _, rfl, rfl, SqL.of hP.up, atI_nat (ups_at (show i + 1 < s.length by omega)), _, rfl, rfl, _, rfl, iteB V.ncast (fun hp => ?_) (fun hp => n0 hp _ (Same.refl _))⟩
      exact ⟨_, rfl, _, rfl, q, _, _, _, rfl, rfl, SqL.of (s2 _ _ hU), atI_nat (undL_at (show i + 1 < s.length by omega)), n1 hp _ _ (Same.refl _) rfl⟩
    . have hDH : H D = none := s1.free hD
      have e1 : ((List.range (s.length - 1)).filter fun i => decide ((at_ s (i + 1)).up = v)).map (fun i => nv (und s (i + 1))) = (((List.range (s.length - 1)).filter fun i => decide ((at_ s (i + 1)).up = v)).map fun i => und s (i + 1)).map nv := by rw [List.map_map]; rfl
      rw [e1] at h2
      refine ⟨_, rfl, _, _, rfl, rfl, _, rfl, ite2 (fun hp => ?_) (fun hp => ?_)⟩
      . have v0 : 0 < v := by have := of_decide_eq_true hp; omega
        refine ⟨_, rfl, .inl ⟨rfl, _, SqL.of h2⟩, _, rfl, s.length, rfl, by omega, _, rfl, _, rfl, q, _, _, _, rfl, rfl, SqL.of (s2 _ _ hU), atI_nat (undL_at hv), _, _, rfl, D, _, _, rfl, rfl, h2, ?_, ?_⟩
        . rw [List.length_map, List.length_map]
          exact small_line (Nat.le_trans (List.length_filter_le _ _) (by rw [List.length_range]; omega))
        . refine ⟨_, rfl, k _ D ((s1.trans s2).put hDH) hDH ?_⟩
          rw [upd_same]
          congr 2
          unfold brs
          rw [if_pos v0, List.map_append]
          congr 1
          show [nv _] = [nv _]
          congr 2
          have hs := VT.mask_sub (p := fun _ => true) (q := fun y => VT.anc s v y) (n := s.length)
          rw [VT.mask_full]
          unfold und
          rw [VT.mask_and, hs.1]
          apply VT.mask_congr
          intro y _; simp
      . have v0 : ¬ 0 < v := fun z => hp (decide_eq_true (by omega))
        refine ⟨_, rfl, k _ D (s1.trans s2) hDH ?_⟩
        rw [h2]
        unfold brs
        rw [if_neg v0, List.append_nil]
end
end VV
namespace VV
open PySem PySem.Spec PyProof.Rows L2
open Km457 (Valley at_)
theorem nvs {α : Type} (l : List α) (f : α -> Nat) : l.map (fun i => nv (f i)) = (l.map fun i => ((f i : Nat) : Int)).map V.int := by rw [List.map_map]; rfl
theorem isum {α : Type} (f : α -> Nat) : ∀ l : List α, (l.map fun i => ((f i : Nat) : Int)).sum = (((l.map f).sum : Nat) : Int)
  | [] => rfl
  | a :: l => by
    rw [List.map_cons, List.sum_cons, isum f l, List.map_cons, List.sum_cons]
    omega
theorem sumq {K : PySem.W.Frag} {H : Hp} {a : Addr} {α : Type} {l : List α} {f : α -> Nat} {Q : VK} (h : H a = some (.lst (l.map fun i => nv (f i)))) (q : Q (nv (l.map f).sum) H) :
    rSum K [V.ref a] H Q :=
  ⟨a, l.map fun i => ((f i : Nat) : Int), rfl, SqL.of (by rw [h, nvs]), by rw [isum]; exact q⟩
theorem mask_sum0 (n : Nat) (p : Nat -> Bool) : (((List.range n).filter p).map fun v => 2 ^ v).sum = VT.mask n p := by
  rw [<- VT.bits_filter]
  have : ∀ l : List Nat, (l.map fun v => 2 ^ v).sum = Km462.bits l := by
    intro l
    induction l with
    | nil => rfl
    | cons a l ih => rw [List.map_cons, List.sum_cons, ih, VT.bits_cons]
  exact this _
theorem filter_shift {α : Type} (n : Nat) (p : Nat -> Bool) (f : Nat -> α) (hn : 0 < n) : ((List.range n).filter fun v => v != 0 && p v).map f = ((List.range (n - 1)).filter fun i => p (i + 1)).map fun i => f (i + 1) := by
  obtain ⟨m, rfl⟩ : ∃ m, n = m + 1 := ⟨n - 1, by omega⟩
  rw [List.range_succ_eq_map, List.filter_cons]
  simp only [bne_self_eq_false, Bool.false_and, Bool.false_eq_true, if_false, Nat.add_sub_cancel]
  rw [List.filter_map, List.map_map]
  have : (List.range m).filter ((fun v => v != 0 && p v) ∘ Nat.succ) = (List.range m).filter fun i => p (i + 1) := by
    apply List.filter_congr
    intro x _
    simp
  rw [this]
  rfl
theorem mask_sum1 (n : Nat) (p : Nat -> Bool) (hn : 0 < n) : (((List.range (n - 1)).filter fun i => p (i + 1)).map fun i => 2 ^ (i + 1)).sum = VT.mask n fun v => v != 0 && p v := by
  rw [<- mask_sum0, filter_shift n p (fun v => 2 ^ v) hn]
def setOf (n : Nat) (l : List Nat) : Nat := VT.mask n fun i => l.contains i
def over (r c u : Nat) : Nat := if u.testBit c = true then r - (r &&& u) else r &&& u
theorem und_bit {s : Valley} {v c : Nat} (hc : c < s.length) : (und s v).testBit c = VT.anc s v c := by
  unfold und
  rw [VT.testBit_mask]
  simp [hc]
theorem over_eq {s : Valley} {l : List Nat} {v c : Nat} (hc : c < s.length) : over (setOf s.length l) c (und s v) = VT.mask s.length fun w => l.contains w && (VT.anc s v c != VT.anc s v w) := by
  unfold over
  rw [und_bit hc]
  unfold setOf und
  cases e : VT.anc s v c with
  | true =>
    rw [if_pos rfl, VT.mask_and, VT.mask_sub.1]
    apply VT.mask_congr; intro w _
    simp
  | false =>
    rw [if_neg (by decide), VT.mask_and]
    apply VT.mask_congr; intro w _
    simp
def takenB (s : Valley) (c : Nat) (l : List Nat) (v : Nat) : Bool := l.any fun w => VT.anc s v c != VT.anc s v w
theorem over_pos {s : Valley} {l : List Nat} {v c : Nat} (hc : c < s.length) (hl : ∀ x ∈ l, x < s.length) : decide ((0 : Int) < ((over (setOf s.length l) c (und s v) : Nat) : Int)) = takenB s c l v := by
  rw [over_eq hc, Bool.eq_iff_iff, decide_eq_true_eq]
  have : (0 : Int) < ((VT.mask s.length fun w => l.contains w && (VT.anc s v c != VT.anc s v w) : Nat) : Int) ↔ 0 < VT.mask s.length fun w => l.contains w && (VT.anc s v c != VT.anc s v w) := by omega
  rw [this, VT.mask_pos]
  unfold takenB
  rw [List.any_eq_true]
  constructor
  . rintro ⟨i, _, h⟩
    rw [Bool.and_eq_true, List.contains_iff_mem] at h
    exact ⟨i, h.1, h.2⟩
  . rintro ⟨i, h1, h2⟩
    exact ⟨i, hl i h1, by rw [Bool.and_eq_true, List.contains_iff_mem]; exact ⟨h1, h2⟩⟩
def taken (s : Valley) (c : Nat) (l : List Nat) : Nat := VT.mask s.length fun v => v != 0 && takenB s c l v
theorem roads_taken_eq {s : Valley} (W : VT.WF s) {c : Nat} {l : List Nat} (hc : c < s.length) (hl : ∀ x ∈ l, x < s.length) : Km460.roads s c l = (List.range s.length).filter fun v => v != 0 && takenB s c l v := VT.roads_eq W hc hl
theorem round_eq {s : Valley} (W : VT.WF s) {c : Nat} {l : List Nat} (hc : c < s.length) (hl : ∀ x ∈ l, x < s.length) :
    (((List.range (s.length - 1)).filter fun i => takenB s c l (i + 1)).map fun i => 2 * (at_ s (i + 1)).long).sum = Km460.round s c l := by
  unfold Km460.round Km460.length
  rw [VT.sum460, roads_taken_eq W hc hl, filter_shift s.length (takenB s c l) (fun v => (at_ s v).long) W.pos]
  have : ∀ m : List Nat, (m.map fun i => 2 * (at_ s (i + 1)).long).sum = 2 * (m.map fun i => (at_ s (i + 1)).long).sum := by
    intro m
    induction m with
    | nil => rfl
    | cons a m ih => rw [List.map_cons, List.map_cons, List.sum_cons, List.sum_cons, ih]; omega
  exact this _
def sp_riders_over : Sp := fun vs H Q _ => ∃ r c u : Nat, vs = [nv r, nv c, nv u] /\ Q (nv (over r c u)) H
def sp_roads_taken (C : Addr) : Sp := fun vs H Q _ => ∃ a s c b p, ∃ (d : Nat) (l : List Nat), vs = [.ref a, nv d, nv (setOf s.length l)] /\ VA C H a s c b p /\ Good s /\ d < s.length /\ (∀ x ∈ l, x < s.length) /\ ∀ H', Same H H' -> Q (nv (taken s d l)) H'
def sp_round_length (C : Addr) : Sp := fun vs H Q _ => ∃ a s c b p, ∃ (d : Nat) (l : List Nat), vs = [.ref a, nv d, nv (setOf s.length l)] /\ VA C H a s c b p /\ Good s /\ d < s.length /\ (∀ x ∈ l, x < s.length) /\ ∀ H', Same H H' -> Q (nv (Km460.round s d l)) H'
section
variable {P : Program} {w : World} {K : PySem.W.Frag} {mg : Str -> Option Value} {base : Heap} {C : Addr}
abbrev s_riders_over : Stmt := top 27
theorem sc_riders_over : FnScope ["riders", "school", "under"] ["riders", "school", "under"] (defScope s_riders_over) := ⟨rfl, rfl, rfl, by decide +kernel, rfl, by decide +kernel, by decide +kernel⟩
theorem d_riders_over (F : Fd K mg "riders_over" s_riders_over) (D_holds : Dn P w K mg base 1 "holds" ["group", "v"] sp_holds) (D_without : Dn P w K mg base 1 "without" ["group", "others"] sp_without) : Dn P w K mg base 2 "riders_over" ["riders", "school", "under"] sp_riders_over := by
  refine F.dn sc_riders_over (fun _ _ _ _ _ _ us hl => match us, hl with | [_, _, _], _ => rfl) (fun vs H Q E h => ?_) (fun f cdv A outer s H vs Q E hr h => ?_)
  . obtain ⟨r, c, u, rfl, _⟩ := h; rfl
  . obtain ⟨r, c, u, rfl, k⟩ := h
    refine ⟨_, (pss_cons (ps_if (pt_val (pe_dn D_holds hr (pa_cons (pv 2) (pa_cons (pv 1) pa_nil)))) (pss_one (ps_ret (pe_dn D_without hr (pa_cons (pv 0) (pa_cons (pv 2) pa_nil))))) pss_nil)
      (pss_one (ps_ret (pe_op op_and (pv 0) (pv 2))))), ?_⟩
    unfold over at k
    refine ⟨_, rfl, _, rfl, u, c, rfl, _, rfl, iteB rfl (fun hp => ?_) (fun hp => ?_)⟩
    . rw [if_pos hp] at k
      exact ⟨_, rfl, _, rfl, r, u, rfl, k⟩
    . rw [if_neg (by rw [hp]; decide)] at k
      exact ⟨_, rfl, _, rfl, _, _, rfl, rfl, cv k (congrArg V.int (band _ _))⟩
abbrev s_roads_taken : Stmt := top 28
theorem sc_roads_taken : FnScope ["valley", "school", "riders", "under", "v"] ["valley", "school", "riders"] (defScope s_roads_taken) := ⟨rfl, rfl, rfl, by decide +kernel, rfl, by decide +kernel, by decide +kernel⟩
theorem d_roads_taken (T : Txt mg) (F : Fd K mg "roads_taken" s_roads_taken) (D_how_many_villages : Dn P w K mg base 1 "how_many_villages" ["valley"] (sp_how_many_villages C)) (D_beneath : Dn P w K mg base 2 "beneath" ["valley"] (sp_beneath C))
    (D_riders_over : Dn P w K mg base 2 "riders_over" ["riders", "school", "under"] sp_riders_over) (D_one : Dn P w K mg base 1 "one" ["v"] sp_one) : Dn P w K mg base 3 "roads_taken" ["valley", "school", "riders"] (sp_roads_taken C) := by
  refine F.dn sc_roads_taken (fun _ _ _ _ _ _ us hl => match us, hl with | [_, _, _], _ => rfl) (fun vs H Q E h => ?_) (fun f cdv A outer s H vs Q E hr h => ?_)
  . obtain ⟨a, s, c, b, p, d, l, rfl, _⟩ := h; rfl
  . obtain ⟨a, s, c, b, p, d, l, rfl, hV, G, hd, hl, k⟩ := h
    refine ⟨_, (pss_cons (ps_set (i := 3) sc_roads_taken.nd rfl (Or.inr rfl) (pe_dn D_beneath hr (pa_cons (pv 0) pa_nil)))
      (pss_one (ps_ret (pe_callB (cr_sum rfl) rfl T.sum boot_sum (pa_cons (pe_lc rfl sc_roads_taken.nd (pi_range2 rfl T.range (pa_cons pe_int (pa_cons (pe_dn D_how_many_villages hr (pa_cons (pv 0) pa_nil)) pa_nil))) (blkOk_by (own := [("v", 4)]) rfl) (fun _ _ _ _ _ => pg_name (i := 4) sc_roads_taken.nd rfl (Or.inl rfl)) (fun _ _ _ _ _ => by exact (pts_one (pt_cmpR op_gt (pe_dn D_riders_over hr (pa_cons (pv 2) (pa_cons (pv 1) (pa_cons (pe_ixK K (pv 3) (pv 4) (fun _ _ => rfl)) pa_nil)))) pe_int (nomark _)))) (fun _ _ _ _ _ => by exact (pe_dn D_one hr (pa_cons (pv 4) pa_nil)))) pa_nil))))), ?_⟩
    have hlen := G.len
    have hpos := G.wf.pos
    refine ⟨_, rfl, a, s, c, b, p, rfl, hV, G, fun H1 q s1 hq hU => ?_⟩
    refine ⟨_, rfl, a, s, c, b, p, rfl, hV.same s1, 1, (s.length : Int), rfl, ⟨by omega, by omega, by omega, by omega⟩, fun D hD => ?_⟩
    have en : ((s.length : Int) - 1).toNat = s.length - 1 := by omega
    rw [en]
    refine lc_rng (fun i => takenB s d l (i + 1)) (fun i => nv (2 ^ (i + 1))) hD (by omega) (fun i H2 hi s2 Nx n0 n1 => ?_) (fun H2 s2 h2 => ?_)
    . have ei : (1 : Int) + (i : Nat) = ((i + 1 : Nat) : Int) := by omega
      rw [ei]
      exact ⟨rfl, _, rfl, _, rfl, _, rfl, _, rfl, q, _, _, _, rfl, rfl, SqL.of (s2 _ _ hU), atI_nat (undL_at (show i + 1 < s.length by omega)), _, _, _, rfl, _, _, rfl, rfl, _, rfl, iteB (over_pos hd hl) (fun hp => ⟨_, rfl, i + 1, rfl, by omega, n1 hp _ _ (Same.refl _) rfl⟩) (fun hp => n0 hp _ (Same.refl _))⟩
    . refine sumq h2 ?_
      rw [mask_sum1 _ _ hpos]
      exact k _ (s1.trans s2)
abbrev s_round_length : Stmt := top 29
theorem sc_round_length : FnScope ["valley", "school", "riders", "taken", "v"] ["valley", "school", "riders"] (defScope s_round_length) := ⟨rfl, rfl, rfl, by decide +kernel, rfl, by decide +kernel, by decide +kernel⟩
theorem d_round_length (T : Txt mg) (Z : Vc K C) (F : Fd K mg "round_length" s_round_length) (D_how_many_villages : Dn P w K mg base 1 "how_many_villages" ["valley"] (sp_how_many_villages C)) (D_roads_taken : Dn P w K mg base 3 "roads_taken" ["valley", "school", "riders"] (sp_roads_taken C))
    (D_holds : Dn P w K mg base 1 "holds" ["group", "v"] sp_holds) : Dn P w K mg base 4 "round_length" ["valley", "school", "riders"] (sp_round_length C) := by
  refine F.dn sc_round_length (fun _ _ _ _ _ _ us hl => match us, hl with | [_, _, _], _ => rfl) (fun vs H Q E h => ?_) (fun f cdv A outer s H vs Q E hr h => ?_)
  . obtain ⟨a, s, c, b, p, d, l, rfl, _⟩ := h; rfl
  . obtain ⟨a, s, c, b, p, d, l, rfl, hV, G, hd, hl, k⟩ := h
    refine ⟨_, (pss_cons (ps_set (i := 3) sc_round_length.nd rfl (Or.inr rfl) (pe_dn D_roads_taken hr (pa_cons (pv 0) (pa_cons (pv 1) (pa_cons (pv 2) pa_nil)))))
      (pss_one (ps_ret (pe_callB (cr_sum rfl) rfl T.sum boot_sum (pa_cons (pe_lc rfl sc_round_length.nd (pi_range2 rfl T.range (pa_cons pe_int (pa_cons (pe_dn D_how_many_villages hr (pa_cons (pv 0) pa_nil)) pa_nil))) (blkOk_by (own := [("v", 4)]) rfl) (fun _ _ _ _ _ => pg_name (i := 4) sc_round_length.nd rfl (Or.inl rfl)) (fun _ _ _ _ _ => by exact (pts_one (pt_val (pe_dn D_holds hr (pa_cons (pv 3) (pa_cons (pv 4) pa_nil)))))) (fun _ _ _ _ _ => by exact (pe_op op_mul pe_int (pe_ixK K (pe_fldK K (pv 0) rfl) (pv 4) (fun _ _ => rfl))))) pa_nil))))), ?_⟩
    have hlen := G.len
    have hpos := G.wf.pos
    refine ⟨_, rfl, _, rfl, _, rfl, a, s, c, b, p, d, l, rfl, hV, G, hd, hl, fun H1 s1 => ?_⟩
    refine ⟨_, rfl, a, s, c, b, p, rfl, hV.same s1, 1, (s.length : Int), rfl, ⟨by omega, by omega, by omega, by omega⟩, fun D hD => ?_⟩
    have en : ((s.length : Int) - 1).toNat = s.length - 1 := by omega
    rw [en]
    refine lc_rng (fun i => takenB s d l (i + 1)) (fun i => nv (2 * (at_ s (i + 1)).long)) hD (by omega) (fun i H2 hi s2 Nx n0 n1 => ?_) (fun H2 s2 h2 => ?_)
    . have ei : (1 : Int) + (i : Nat) = ((i + 1 : Nat) : Int) := by omega
      rw [ei]
      have hi' : i + 1 < s.length := by omega
      obtain ⟨dx, ch, up, rd, hP⟩ := hV.same (s1.trans s2)
      have hb : (taken s d l).testBit (i + 1) = takenB s d l (i + 1) := by
        unfold taken
        rw [VT.testBit_mask]
        simp [hi']
      refine ⟨rfl, _, rfl, _, rfl, _, _, rfl, _, rfl, iteB hb (fun hp => ?_) (fun hp => n0 hp _ (Same.refl _))⟩
      refine ⟨_, rfl, a, C, dx, _, _, rfl, hP.ins, Z.cl, Z.rd, vf_rd, _, rfl, rd, _, _, _, rfl, rfl, SqL.of hP.rd, atI_nat (roads_at hi'), _, _, rfl, rfl, .inl ⟨by decide, by decide⟩, n1 hp _ _ (Same.refl _) ?_⟩
      exact congrArg V.int (by omega)
    . refine sumq h2 ?_
      rw [round_eq G.wf hd hl]
      exact k _ (s1.trans s2)
end
end VV
namespace VV
open PySem PySem.Spec PyProof.Rows L2
open Km457 (Valley at_)
theorem filter_true {α : Type} (l : List α) : l.filter (fun _ => true) = l := List.filter_eq_self.mpr fun _ _ => rfl
theorem lc_rngT {lo : Int} {n : Nat} {g : TG} {te : TE} {vs : List Nat} {σ : L2.St} {H1 : Hp} {D : Addr} {Qd : Hp -> Prop} (f : Nat -> V) (hD : H1 D = none) (hn : n <= 100000)
    (hs : ∀ i H, i < n -> Same H1 H -> ∀ R : V -> Hp -> Prop, (∀ H4 y, Same H H4 -> y = f i -> R y H4) -> g (.int (lo + i)) (wipe σ vs) H fun σ2 H2 => wipe σ2 vs = wipe σ vs /\ te σ2 H2 R)
    (hd : ∀ H', Same H1 H' -> H' D = some (.lst ((List.range n).map f)) -> Qd H') (mono : ∀ v σ H Q Q', (∀ σ' H', Q σ' H' -> Q' σ' H') -> g v σ H Q -> g v σ H Q') :
    ∃ W : Nat -> Nat -> Hp -> Prop, (∃ m, W 0 m (upd H1 D (.lst []))) /\ ∀ i m H, W i m H ->
      ((Itr lo n).stop i H /\ Qd H) \/ ((Itr lo n).go i H /\ ∃ Nx : Hp -> Prop, (∀ H', Nx H' -> ∃ m', m' < m /\ W (i + 1) m' H') /\ ∀ x H', (Itr lo n).yld i H x H' -> g x (wipe σ vs) H' fun σ2 H2 => wipe σ2 vs = wipe σ vs /\ tYes σ2 H2 fun b H3 =>
        if b = true then te σ2 H3 fun y H4 => ∃ acc, H4 D = some (.lst acc) /\ acc.length < sizeLine /\ Nx (upd H4 D (.lst (acc ++ [y]))) else Nx H3) := by
  refine lc_rng (fun _ => true) f hD hn (fun i H hi s1 Nx _ n1 => ?_) (fun H' s1 h1 => hd H' s1 (by rw [filter_true] at h1; exact h1))
  refine mono _ _ _ _ _ (fun σ' H' q => ⟨q.1, ?_⟩) (hs i H hi s1 _ fun H4 y s4 e => n1 rfl H4 y s4 e)
  exact yes q.2
theorem gName_mono (j : Nat) : ∀ v σ H Q Q', (∀ σ' H', Q σ' H' -> Q' σ' H') -> gName j v σ H Q -> gName j v σ H Q' := fun _ _ _ _ _ h q => h _ _ q
theorem ways_sum (s : Valley) (v : Nat) : ((List.range s.length).map fun u => (at_ s u).many * Km457.far s v u).sum = Km457.ways s v := by
  rw [VT.ways_eq, VT.S_range]
theorem rather_sum {s : Valley} (W : VT.WF s) {v w : Nat} (hv : v < s.length) (hw : w < s.length) : (((List.range s.length).filter fun u => decide (Km457.far s v u < Km457.far s w u)).map fun u => (at_ s u).many).sum = Km462.rather s v w := by
  unfold Km462.rather Km457.all Km462.many
  rw [VT.sum462]
  have : ∀ l : List Nat, (∀ u ∈ l, u < s.length) -> ((l.filter fun u => decide (Km457.far s v u < Km457.far s w u)).map fun u => (at_ s u).many).sum = (l.map fun x => if Km457.far s x v < Km457.far s x w then (at_ s x).many else 0).sum := by
    intro l
    induction l with
    | nil => intro _; rfl
    | cons a l ih =>
      intro hl
      have ha := hl a (by simp)
      rw [List.filter_cons, List.map_cons, List.sum_cons, <- ih fun u hu => hl u (by simp [hu]), VT.far_comm W ha hv, VT.far_comm W ha hw]
      by_cases e : Km457.far s v a < Km457.far s w a
      . simp [e]
      . simp [e]
  exact this _ fun u hu => by simpa using hu
def sp_all_ways (C : Addr) : Sp := fun vs H Q _ => ∃ a s c b p, ∃ v : Nat, vs = [.ref a, nv v] /\ VA C H a s c b p /\ Good s /\ v < s.length /\ ∀ H', Same H H' -> Q (nv (Km457.ways s v)) H'
def sp_least_ways (C : Addr) : Sp := fun vs H Q _ => ∃ a s c b p, vs = [.ref a] /\ VA C H a s c b p /\ Good s /\ ∀ H' q, Same H H' -> H' q = some (.tup [nv (Km462.bits (Km457.best s)), nv (Km457.least s)]) -> Q (.ref q) H'
def sp_nearer : Sp := fun vs H Q _ => ∃ (ch rv rw : Addr) (s : Valley) (v w : Nat), vs = [.ref ch, .ref rv, .ref rw] /\ H ch = some (.lst (many s)) /\ H rv = some (.lst (R s s.length v)) /\ H rw = some (.lst (R s s.length w)) /\ Good s /\ v < s.length /\ w < s.length /\ ∀ H', Same H H' -> Q (nv (Km462.rather s v w)) H'
def sp_rather (C : Addr) : Sp := fun vs H Q _ => ∃ a s c b p, ∃ v w : Nat, vs = [.ref a, nv v, nv w] /\ VA C H a s c b p /\ Good s /\ v < s.length /\ w < s.length /\ ∀ H', Same H H' -> Q (nv (Km462.rather s v w)) H'
def unbB (s : Valley) (v : Nat) : Bool := (Km457.all s).all fun w => !Km462.beats s w v
def sp_is_unbeaten : Sp := fun vs H Q _ => ∃ (ch q : Addr) (s : Valley) (v : Nat), vs = [.ref ch, .ref q, nv v] /\ H ch = some (.lst (many s)) /\ Tab H q s /\ Good s /\ v < s.length /\ ∀ H', Same H H' -> Q (.bl (unbB s v)) H'
def sp_unbeaten (C : Addr) : Sp := fun vs H Q _ => ∃ a s c b p, vs = [.ref a] /\ VA C H a s c b p /\ Good s /\ ∀ H', Same H H' -> Q (nv (Km462.bits (Km462.unbeaten s))) H'
section
variable {P : Program} {w : World} {K : PySem.W.Frag} {mg : Str -> Option Value} {base : Heap} {C : Addr}
abbrev s_all_ways : Stmt := top 58
theorem sc_all_ways : FnScope ["valley", "v", "row", "u"] ["valley", "v"] (defScope s_all_ways) := ⟨rfl, rfl, rfl, by decide +kernel, rfl, by decide +kernel, by decide +kernel⟩
theorem d_all_ways (T : Txt mg) (Z : Vc K C) (F : Fd K mg "all_ways" s_all_ways) (D_distances : Dn P w K mg base 2 "distances" ["valley"] (sp_distances C)) : Dn P w K mg base 3 "all_ways" ["valley", "v"] (sp_all_ways C) := by
  refine F.dn sc_all_ways (fun _ _ _ _ _ _ us hl => match us, hl with | [_, _], _ => rfl) (fun vs H Q E h => ?_) (fun f cdv A outer s H vs Q E hr h => ?_)
  . obtain ⟨a, s, c, b, p, v, rfl, _⟩ := h; rfl
  . obtain ⟨a, s, c, b, p, v, rfl, hV, G, hv, k⟩ := h
    refine ⟨_, (pss_cons (ps_set (i := 2) sc_all_ways.nd rfl (Or.inr rfl) (pe_ix ix_list (pe_dn D_distances hr (pa_cons (pv 0) pa_nil)) (pv 1) (fun _ _ => rfl)))
      (pss_one (ps_ret (pe_callB (cr_sum rfl) rfl T.sum boot_sum (pa_cons (pe_lc rfl sc_all_ways.nd (pi_range1 rfl T.range (pa_cons (pe_callB call_len_seq rfl T.len PySem.boot_len (pa_cons (pv 2) pa_nil)) pa_nil)) (blkOk_by (own := [("u", 3)]) rfl) (fun _ _ _ _ _ => pg_name (i := 3) sc_all_ways.nd rfl (Or.inl rfl)) (fun _ _ _ _ _ => by exact pts_nil) (fun _ _ _ _ _ => by exact (pe_op op_mul (pe_ixK K (pe_fldK K (pv 0) rfl) (pv 3) (fun _ _ => rfl)) (pe_ixK K (pv 2) (pv 3) (fun _ _ => rfl))))) pa_nil))))), ?_⟩
    have hlen := G.len
    refine ⟨_, rfl, a, s, c, b, p, rfl, hV, G, fun H1 q s1 hq tb => ?_⟩
    obtain ⟨xs, r, hx, hxr, hrow⟩ := tb.row hv
    refine ⟨_, rfl, q, xs, _, _, rfl, rfl, SqL.of hx, atI_nat hxr, ?_⟩
    refine ⟨_, rfl, r, _, rfl, .inl (SqL.of hrow), _, rfl, by rw [R_len]; omega, by rw [R_len]; omega, fun D hD => ?_⟩
    rw [Int.toNat_natCast, R_len]
    refine lc_rngT (fun u => nv ((at_ s u).many * Km457.far s v u)) hD (by omega) (fun i H2 hi s2 R n1 => ?_) (fun H2 s2 h2 => ?_) (gName_mono _)
    . obtain ⟨dx, ch, up, rd, hP⟩ := hV.same (s1.trans s2)
      have ei : (0 : Int) + (i : Nat) = ((i : Nat) : Int) := by omega
      rw [ei]
      have hm := G.many i
      refine ⟨rfl, _, rfl, a, C, dx, _, _, rfl, hP.ins, Z.cl, Z.ch, vf_ch, _, rfl, ch, _, _, _, rfl, rfl, SqL.of hP.ch, atI_nat (many_at hi), _, rfl, _, rfl, r, _, _, _, rfl, rfl, SqL.of (s2 _ _ hrow), atI_nat (R_at hi), _, _, rfl, rfl, .inl ⟨by omega, by omega⟩, n1 _ _ (Same.refl _) ?_⟩
      exact congrArg V.int (Int.natCast_mul _ _).symm
    . refine sumq h2 ?_
      rw [ways_sum]
      exact k _ (s1.trans s2)
abbrev s_least_ways : Stmt := top 59
theorem sc_least_ways : FnScope ["valley", "ways", "v", "least", "group"] ["valley"] (defScope s_least_ways) := ⟨rfl, rfl, rfl, by decide +kernel, rfl, by decide +kernel, by decide +kernel⟩
theorem d_least_ways (T : Txt mg) (F : Fd K mg "least_ways" s_least_ways) (D_how_many_villages : Dn P w K mg base 1 "how_many_villages" ["valley"] (sp_how_many_villages C)) (D_all_ways : Dn P w K mg base 3 "all_ways" ["valley", "v"] (sp_all_ways C)) (D_one : Dn P w K mg base 1 "one" ["v"] sp_one) : Dn P w K mg base 4 "least_ways" ["valley"] (sp_least_ways C) := by
  refine F.dn sc_least_ways (fun _ _ _ _ _ _ us hl => match us, hl with | [_], _ => rfl) (fun vs H Q E h => ?_) (fun f cdv A outer s H vs Q E hr h => ?_)
  . obtain ⟨a, s, c, b, p, rfl, _⟩ := h; rfl
  . obtain ⟨a, s, c, b, p, rfl, hV, G, k⟩ := h
    refine ⟨_, (pss_cons (ps_set (i := 1) sc_least_ways.nd rfl (Or.inr rfl) (pe_lc rfl sc_least_ways.nd (pi_range1 rfl T.range (pa_cons (pe_dn D_how_many_villages hr (pa_cons (pv 0) pa_nil)) pa_nil)) (blkOk_by (own := [("v", 2)]) rfl) (fun _ _ _ _ _ => pg_name (i := 2) sc_least_ways.nd rfl (Or.inl rfl)) (fun _ _ _ _ _ => by exact pts_nil) (fun _ _ _ _ _ => by exact (pe_dn D_all_ways hr (pa_cons (pv 0) (pa_cons (pv 2) pa_nil))))))
      (pss_cons (ps_set (i := 3) sc_least_ways.nd rfl (Or.inr rfl) (pe_callB (cr_min rfl) rfl T.min boot_min (pa_cons (pv 1) pa_nil)))
      (pss_cons (ps_set (i := 4) sc_least_ways.nd rfl (Or.inl rfl) (pe_callB (cr_sum rfl) rfl T.sum boot_sum (pa_cons (pe_lc rfl sc_least_ways.nd (pi_range1 rfl T.range (pa_cons (pe_callB call_len_seq rfl T.len PySem.boot_len (pa_cons (pv 1) pa_nil)) pa_nil)) (blkOk_by (own := [("v", 2)]) rfl) (fun _ _ _ _ _ => pg_name (i := 2) sc_least_ways.nd rfl (Or.inl rfl)) (fun _ _ _ _ _ => by exact (pts_one (pt_cmpR op_eq (pe_ixK K (pv 1) (pv 2) (fun _ _ => rfl)) (pv 3) (nomark _)))) (fun _ _ _ _ _ => by exact (pe_dn D_one hr (pa_cons (pv 2) pa_nil)))) pa_nil)))
      (pss_one (ps_ret (pe_tup (pa_cons (pv 4) (pa_cons (pv 3) pa_nil)))))))), ?_⟩
    have hlen := G.len
    have hpos := G.wf.pos
    refine ⟨_, rfl, a, s, c, b, p, rfl, hV, (s.length : Int), rfl, by omega, by omega, fun D hD => ?_⟩
    rw [Int.toNat_natCast]
    refine lc_rngT (fun v => nv (Km457.ways s v)) hD (by omega) (fun i H2 hi s2 R n1 => ?_) (fun H2 s2 h2 => ?_) (gName_mono _)
    . have ei : (0 : Int) + (i : Nat) = ((i : Nat) : Int) := by omega
      rw [ei]
      exact ⟨rfl, _, rfl, _, rfl, a, s, c, b, p, i, rfl, hV.same s2, G, hi, fun H3 s3 => n1 _ _ s3 rfl⟩
    . refine ⟨_, rfl, D, (List.range s.length).map fun v => ((Km457.ways s v : Nat) : Int), rfl, SqL.of (by rw [h2, nvs]), by simpa using hpos, fun m hm hle => ?_⟩
      have em : m = ((Km457.least s : Nat) : Int) := by
        obtain ⟨v, hv, rfl⟩ := List.mem_map.mp hm
        have hv' : v < s.length := by simpa using hv
        have := (VT.least_iff hpos hv').mpr fun y hy => by
          have := hle _ (List.mem_map.mpr ⟨y, by simpa using hy, rfl⟩)
          omega
        rw [this]
      subst em
      refine ⟨_, rfl, D, _, rfl, .inl (SqL.of h2), _, rfl, by rw [List.length_map, List.length_range]; omega, by rw [List.length_map, List.length_range]; omega, fun D2 hD2 => ?_⟩
      rw [Int.toNat_natCast, List.length_map, List.length_range]
      refine lc_rng (fun v => Km457.ways s v == Km457.least s) (fun v => nv (2 ^ v)) hD2 (by omega) (fun i H3 hi s3 Nx n0 n1 => ?_) (fun H3 s3 h3 => ?_)
      . have ei : (0 : Int) + (i : Nat) = ((i : Nat) : Int) := by omega
        rw [ei]
        refine ⟨rfl, _, rfl, _, rfl, D, _, _, _, rfl, rfl, SqL.of (s3 _ _ h2), atI_nat (v := nv (Km457.ways s i)) (by rw [List.getElem?_map, List.getElem?_range hi]; rfl), _, rfl, rfl, _, rfl, iteB ?_ (fun hp => ⟨_, rfl, i, rfl, by omega, n1 hp _ _ (Same.refl _) rfl⟩) (fun hp => n0 hp _ (Same.refl _))⟩
        rw [V.ncast]
        by_cases e : Km457.ways s i = Km457.least s
        . simp [e]
        . simp [e]
      . delta tNil
        refine sumq h3 ?_
        rw [mask_sum0]
        refine ⟨_, rfl, _, rfl, (by show 2 <= sizeLine; decide), fun t ht => ?_⟩
        refine k _ t ((s2.trans s3).new ht) ?_
        rw [upd_same]
        unfold Km457.best Km457.all
        rw [VT.bits_filter]
abbrev s_nearer : Stmt := top 60
theorem sc_nearer : FnScope ["children", "row_v", "row_w", "u"] ["children", "row_v", "row_w"] (defScope s_nearer) := ⟨rfl, rfl, rfl, by decide +kernel, rfl, by decide +kernel, by decide +kernel⟩
theorem d_nearer (T : Txt mg) (F : Fd K mg "nearer" s_nearer) : Dn P w K mg base 1 "nearer" ["children", "row_v", "row_w"] sp_nearer := by
  refine F.dn sc_nearer (fun _ _ _ _ _ _ us hl => match us, hl with | [_, _, _], _ => rfl) (fun vs H Q E h => ?_) (fun f cdv A outer s H vs Q E hr h => ?_)
  . obtain ⟨ch, rv, rw, s, v, u, rfl, _⟩ := h; rfl
  . obtain ⟨ch, rv, rw', s, v, u, rfl, hc, h1, h2, G, hv, hu, k⟩ := h
    refine ⟨_, (pss_one (ps_ret (pe_callB (cr_sum rfl) rfl T.sum boot_sum (pa_cons (pe_lc rfl sc_nearer.nd (pi_range1 rfl T.range (pa_cons (pe_callB call_len_seq rfl T.len PySem.boot_len (pa_cons (pv 0) pa_nil)) pa_nil)) (blkOk_by (own := [("u", 3)]) rfl) (fun _ _ _ _ _ => pg_name (i := 3) sc_nearer.nd rfl (Or.inl rfl)) (fun _ _ _ _ _ => by exact (pts_one (pt_cmpR op_lt (pe_ixK K (pv 1) (pv 3) (fun _ _ => rfl)) (pe_ixK K (pv 2) (pv 3) (fun _ _ => rfl)) (nomark _)))) (fun _ _ _ _ _ => by exact (pe_ixK K (pv 0) (pv 3) (fun _ _ => rfl)))) pa_nil)))), ?_⟩
    have hlen := G.len
    have eml : (many s).length = s.length := by unfold many; simp
    refine ⟨_, rfl, ch, _, rfl, .inl (SqL.of hc), _, rfl, by rw [eml]; omega, by rw [eml]; omega, fun D hD => ?_⟩
    rw [Int.toNat_natCast, eml]
    refine lc_rng (fun x => decide (Km457.far s v x < Km457.far s u x)) (fun x => nv (at_ s x).many) hD (by omega) (fun i H2 hi s2 Nx n0 n1 => ?_) (fun H2 s2 h3 => ?_)
    . have ei : (0 : Int) + (i : Nat) = ((i : Nat) : Int) := by omega
      rw [ei]
      exact ⟨rfl, _, rfl, _, rfl, rv, _, _, _, rfl, rfl, SqL.of (s2 _ _ h1), atI_nat (R_at hi), _, rfl, _, rfl, rw', _, _, _, rfl, rfl, SqL.of (s2 _ _ h2), atI_nat (R_at hi), _, _, rfl, rfl, _, rfl, iteB ilt (fun hp => ⟨_, rfl, _, rfl, ch, _, _, _, rfl, rfl, SqL.of (s2 _ _ hc), atI_nat (many_at hi), n1 hp _ _ (Same.refl _) rfl⟩) (fun hp => n0 hp _ (Same.refl _))⟩
    . refine sumq h3 ?_
      rw [rather_sum G.wf hv hu]
      exact k _ s2
abbrev s_rather : Stmt := top 61
theorem sc_rather : FnScope ["valley", "v", "w", "table"] ["valley", "v", "w"] (defScope s_rather) := ⟨rfl, rfl, rfl, by decide +kernel, rfl, by decide +kernel, by decide +kernel⟩
theorem d_rather (Z : Vc K C) (F : Fd K mg "rather" s_rather) (D_distances : Dn P w K mg base 2 "distances" ["valley"] (sp_distances C)) (D_nearer : Dn P w K mg base 1 "nearer" ["children", "row_v", "row_w"] sp_nearer) : Dn P w K mg base 3 "rather" ["valley", "v", "w"] (sp_rather C) := by
  refine F.dn sc_rather (fun _ _ _ _ _ _ us hl => match us, hl with | [_, _, _], _ => rfl) (fun vs H Q E h => ?_) (fun f cdv A outer s H vs Q E hr h => ?_)
  . obtain ⟨a, s, c, b, p, v, u, rfl, _⟩ := h; rfl
  . obtain ⟨a, s, c, b, p, v, u, rfl, hV, G, hv, hu, k⟩ := h
    refine ⟨_, (pss_cons (ps_set (i := 3) sc_rather.nd rfl (Or.inl rfl) (pe_dn D_distances hr (pa_cons (pv 0) pa_nil)))
      (pss_one (ps_ret (pe_dn D_nearer hr (pa_cons (pe_fld (pv 0) rfl) (pa_cons (pe_ix ix_list (pv 3) (pv 1) (fun _ _ => rfl)) (pa_cons (pe_ix ix_list (pv 3) (pv 2) (fun _ _ => rfl)) pa_nil))))))), ?_⟩
    refine ⟨_, rfl, a, s, c, b, p, rfl, hV, G, fun H1 q s1 hq tb => ?_⟩
    obtain ⟨xs, r, hx, hxr, hrow⟩ := tb.row hv
    obtain ⟨ys, r2, hy, hyr, hrow2⟩ := tb.row hu
    obtain ⟨dx, ch, up, rd, hP⟩ := hV.same s1
    exact ⟨_, rfl, a, C, dx, _, _, rfl, hP.ins, Z.cl, Z.ch, vf_ch, _, rfl, _, rfl, q, xs, _, _, rfl, rfl, SqL.of hx, atI_nat hxr, _, rfl, _, rfl, q, ys, _, _, rfl, rfl, SqL.of hy, atI_nat hyr, ch, r, r2, s, v, u, rfl, hP.ch, hrow, hrow2, G, hv, hu, fun H2 s2 => k _ (s1.trans s2)⟩
abbrev s_is_unbeaten : Stmt := top 62
theorem sc_is_unbeaten : FnScope ["children", "table", "v", "row"] ["children", "table", "v"] (defScope s_is_unbeaten) := ⟨rfl, rfl, rfl, by decide +kernel, rfl, by decide +kernel, by decide +kernel⟩
theorem d_is_unbeaten (F : Fd K mg "is_unbeaten" s_is_unbeaten) (D_nearer : Dn P w K mg base 1 "nearer" ["children", "row_v", "row_w"] sp_nearer) : Dn P w K mg base 2 "is_unbeaten" ["children", "table", "v"] sp_is_unbeaten := by
  refine F.dn sc_is_unbeaten (fun _ _ _ _ _ _ us hl => match us, hl with | [_, _, _], _ => rfl) (fun vs H Q E h => ?_) (fun f cdv A outer s H vs Q E hr h => ?_)
  . obtain ⟨ch, q, s, v, rfl, _⟩ := h; rfl
  . obtain ⟨ch, q, s, v, rfl, hc, tb, G, hv, k⟩ := h
    refine ⟨_, (pss_cons (ps_for PassesOwn.never rfl (pi_list (pv 1)) (pg_name (i := 3) sc_is_unbeaten.nd rfl (Or.inl rfl))
        (pss_one (ps_if (pt_cmpR op_gt (pe_dn D_nearer hr (pa_cons (pv 0) (pa_cons (pv 3) (pa_cons (pe_ix ix_list (pv 1) (pv 2) (fun _ _ => rfl)) pa_nil)))) (pe_dn D_nearer hr (pa_cons (pv 0) (pa_cons (pe_ix ix_list (pv 1) (pv 2) (fun _ _ => rfl)) (pa_cons (pv 3) pa_nil)))) (nomark _)) (pss_one (ps_ret pe_bl)) pss_nil)))
      (pss_one (ps_ret pe_bl))), ?_⟩
    obtain ⟨xs, r, hx, hxr, hrow⟩ := tb.row hv
    obtain ⟨rows, t1, t2, t3⟩ := id tb
    refine ⟨_, rfl, q, rfl, ⟨_, SqL.of t1⟩, for_list (K := K) (a := q) (xs := rows.map V.ref) (fun i σ H' => ∃ v1, σ = [some (.ref ch), some (.ref q), some (nv v), v1] /\ Same H H' /\ ∀ u, u < i -> Km462.beats s u v = false) ⟨none, rfl, Same.refl _, fun u hu => by omega⟩ (fun i σ H' _ ⟨_, _, s1, _⟩ => SqL.of (s1 _ _ t1)) ?_ ?_⟩
    . rintro i x σ H1 hi ⟨v1, rfl, s1, hb⟩
      have hil : i < s.length := by
        have := (List.getElem?_eq_some_iff.mp hi).1
        rw [List.length_map] at this; omega
      obtain ⟨ri, hri⟩ : ∃ ri, rows[i]? = some ri := ⟨_, List.getElem?_eq_getElem (by omega)⟩
      rw [List.getElem?_map, hri] at hi
      cases hi
      have hrow_i := t3 i ri hri
      refine ⟨_, rfl, _, rfl, _, rfl, _, rfl, q, xs, _, _, rfl, rfl, SqL.of (s1 _ _ hx), atI_nat hxr, ch, ri, r, s, i, v, rfl, s1 _ _ hc, s1 _ _ hrow_i, s1 _ _ hrow, G, hil, hv, fun H2 s2 => ?_⟩
      refine ⟨_, rfl, _, rfl, _, rfl, q, xs, _, _, rfl, rfl, SqL.of (s2 _ _ (s1 _ _ hx)), atI_nat hxr, _, rfl, ch, r, ri, s, v, i, rfl, s2 _ _ (s1 _ _ hc), s2 _ _ (s1 _ _ hrow), s2 _ _ (s1 _ _ hrow_i), G, hv, hil, fun H3 s3 => ?_⟩
      refine ⟨_, _, rfl, rfl, _, rfl, iteB ilt (fun hp => ?_) (fun hp => ?_)⟩
      . refine cv (k _ (s1.trans (s2.trans s3))) (congrArg V.bl ?_)
        unfold unbB
        symm
        rw [List.all_eq_false]
        exact ⟨i, by simpa [Km457.all] using hil, by unfold Km462.beats; rw [hp]; decide⟩
      . refine ⟨_, rfl, s1.trans (s2.trans s3), fun u hu => ?_⟩
        by_cases e : u = i
        . subst e; unfold Km462.beats; exact hp
        . exact hb u (by omega)
    . rintro σ H1 ⟨v1, rfl, s1, hb⟩
      refine cv (k _ s1) (congrArg V.bl ?_)
      unfold unbB
      symm
      rw [List.all_eq_true]
      intro u hu
      have hu' : u < s.length := by simpa [Km457.all] using hu
      rw [hb u (by rw [List.length_map]; omega)]
      rfl
abbrev s_unbeaten : Stmt := top 63
theorem sc_unbeaten : FnScope ["valley", "table", "v"] ["valley"] (defScope s_unbeaten) := ⟨rfl, rfl, rfl, by decide +kernel, rfl, by decide +kernel, by decide +kernel⟩
theorem d_unbeaten (T : Txt mg) (Z : Vc K C) (F : Fd K mg "unbeaten" s_unbeaten) (D_distances : Dn P w K mg base 2 "distances" ["valley"] (sp_distances C)) (D_is_unbeaten : Dn P w K mg base 2 "is_unbeaten" ["children", "table", "v"] sp_is_unbeaten) (D_one : Dn P w K mg base 1 "one" ["v"] sp_one) : Dn P w K mg base 3 "unbeaten" ["valley"] (sp_unbeaten C) := by
  refine F.dn sc_unbeaten (fun _ _ _ _ _ _ us hl => match us, hl with | [_], _ => rfl) (fun vs H Q E h => ?_) (fun f cdv A outer s H vs Q E hr h => ?_)
  . obtain ⟨a, s, c, b, p, rfl, _⟩ := h; rfl
  . obtain ⟨a, s, c, b, p, rfl, hV, G, k⟩ := h
    refine ⟨_, (pss_cons (ps_set (i := 1) sc_unbeaten.nd rfl (Or.inr rfl) (pe_dn D_distances hr (pa_cons (pv 0) pa_nil)))
      (pss_one (ps_ret (pe_callB (cr_sum rfl) rfl T.sum boot_sum (pa_cons (pe_lc rfl sc_unbeaten.nd (pi_range1 rfl T.range (pa_cons (pe_callB call_len_seq rfl T.len PySem.boot_len (pa_cons (pv 1) pa_nil)) pa_nil)) (blkOk_by (own := [("v", 2)]) rfl) (fun _ _ _ _ _ => pg_name (i := 2) sc_unbeaten.nd rfl (Or.inl rfl)) (fun _ _ _ _ _ => by exact (pts_one (pt_val (pe_dn D_is_unbeaten hr (pa_cons (pe_fldK K (pv 0) rfl) (pa_cons (pv 1) (pa_cons (pv 2) pa_nil))))))) (fun _ _ _ _ _ => by exact (pe_dn D_one hr (pa_cons (pv 2) pa_nil)))) pa_nil))))), ?_⟩
    have hlen := G.len
    refine ⟨_, rfl, a, s, c, b, p, rfl, hV, G, fun H1 q s1 hq tb => ?_⟩
    obtain ⟨rows, t1, t2, t3⟩ := id tb
    refine ⟨_, rfl, q, _, rfl, .inl (SqL.of t1), _, rfl, by rw [List.length_map]; omega, by rw [List.length_map]; omega, fun D hD => ?_⟩
    rw [Int.toNat_natCast, List.length_map, t2]
    refine lc_rng (unbB s) (fun v => nv (2 ^ v)) hD (by omega) (fun i H2 hi s2 Nx n0 n1 => ?_) (fun H2 s2 h2 => ?_)
    . have ei : (0 : Int) + (i : Nat) = ((i : Nat) : Int) := by omega
      rw [ei]
      obtain ⟨dx, ch, up, rd, hP⟩ := hV.same (s1.trans s2)
      exact ⟨rfl, _, rfl, a, C, dx, _, _, rfl, hP.ins, Z.cl, Z.ch, vf_ch, _, rfl, _, rfl, ch, q, s, i, rfl, hP.ch, tb.same s2, G, hi, fun H3 s3 => ⟨_, rfl, iteB rfl (fun hp => ⟨_, rfl, i, rfl, by omega, n1 hp _ _ s3 rfl⟩) (fun hp => n0 hp _ s3)⟩⟩
    . refine sumq h2 ?_
      rw [mask_sum0, <- VT.bits_filter]
      exact k _ (s1.trans s2)
end
end VV
namespace VV
open PySem PySem.Spec PyProof.Rows L2
open Km457 (Valley at_)
theorem many_len (s : Valley) : (many s).length = s.length := by unfold many; simp
theorem many_set (s : Valley) (v m : Nat) : (many s).set v (nv m) = many (s.set v { at_ s v with many := m }) := by
  unfold many
  rw [List.map_set]
theorem sum_many (s : Valley) : (s.map fun x => x.many).sum = Km457.total s := by
  unfold Km457.total
  rw [VT.sum457]
def liv (s : Valley) (g : Nat) : Nat := (((List.range s.length).filter g.testBit).map fun v => (at_ s v).many).sum
theorem liv_mask (s : Valley) (p : Nat -> Bool) : liv s (VT.mask s.length p) = VT.S s.length fun x => if p x = true then (at_ s x).many else 0 := by
  unfold liv
  have h : (List.range s.length).filter (VT.mask s.length p).testBit = (List.range s.length).filter p := by
    apply List.filter_congr
    intro x hx
    have : x < s.length := by simpa using hx
    rw [VT.testBit_mask]; simp [this]
  rw [h, <- VT.S_range]
  have : ∀ l : List Nat, ((l.filter p).map fun v => (at_ s v).many).sum = (l.map fun x => if p x = true then (at_ s x).many else 0).sum := by
    intro l
    induction l with
    | nil => rfl
    | cons a l ih =>
      rw [List.filter_cons, List.map_cons, List.sum_cons, <- ih]
      cases e : p a <;> simp
  exact this _
theorem liv_und {s t : Valley} (L : VT.Like s t) (v : Nat) : liv t (und s v) = VT.B t v := by
  unfold und
  rw [<- L.len, liv_mask]
  unfold VT.B
  apply VT.S_congr
  intro x _
  rw [L.anc]
theorem liv_else {s t : Valley} (L : VT.Like s t) (v : Nat) : liv t (VT.mask s.length fun y => !VT.anc s v y) + VT.B t v = Km457.total t := by
  rw [<- L.len, liv_mask, VT.total_eq]
  unfold VT.B
  rw [VT.S_add]
  apply VT.S_congr
  intro x _
  rw [L.anc]
  cases VT.anc s v x <;> simp
theorem middle_brs {s t : Valley} (L : VT.Like s t) {v : Nat} : (∀ g ∈ brs s v, 2 * liv t g <= Km457.total t) ↔ VT.Middle t v := by
  unfold brs VT.Middle
  constructor
  . intro h
    refine ⟨fun c c0 hc e => ?_, fun v0 => ?_⟩
    . rw [<- liv_und L]
      apply h
      apply List.mem_append_left
      refine List.mem_map.mpr ⟨c - 1, List.mem_filter.mpr ⟨?_, ?_⟩, ?_⟩
      . rw [L.len] at hc; simp; omega
      . have e1 : c - 1 + 1 = c := by omega
        rw [e1, <- L.up, decide_eq_true_eq]; exact e
      . have e1 : c - 1 + 1 = c := by omega
        rw [e1]
    . have h1 := h (VT.mask s.length fun y => !VT.anc s v y) (by apply List.mem_append_right; rw [if_pos v0]; simp)
      have h2 := liv_else L v
      omega
  . rintro ⟨h1, h2⟩ g hg
    rcases List.mem_append.mp hg with hg | hg
    . obtain ⟨i, hi, rfl⟩ := List.mem_map.mp hg
      obtain ⟨hi1, hi2⟩ := List.mem_filter.mp hi
      have hi1 : i < s.length - 1 := by simpa using hi1
      rw [liv_und L]
      exact h1 (i + 1) (by omega) (by rw [L.len]; omega) (by rw [L.up]; exact of_decide_eq_true hi2)
    . by_cases v0 : 0 < v
      . rw [if_pos v0] at hg
        have : g = VT.mask s.length fun y => !VT.anc s v y := by simpa using hg
        subst this
        have h3 := h2 v0
        have h4 := liv_else L v
        omega
      . rw [if_neg v0] at hg
        cases hg
def sp_made_odd : Sp := fun vs H Q _ => ∃ (ch : Addr) (s : Valley), vs = [.ref ch] /\ H ch = some (.lst (many s)) /\ 0 < s.length /\ ∀ H' q, Same H H' -> H q = none -> H' q = some (.lst (many (Km462.odd s))) -> Q (.ref q) H'
def sp_living_in : Sp := fun vs H Q _ => ∃ (ch : Addr) (s : Valley) (g : Nat), vs = [.ref ch, nv g] /\ H ch = some (.lst (many s)) /\ s.length <= 10 /\ ∀ H', Same H H' -> Q (nv (liv s g)) H'
def sp_is_middle (C : Addr) : Sp := fun vs H Q _ => ∃ a s c b p, ∃ (ch : Addr) (t : Valley) (v : Nat), vs = [.ref a, .ref ch, nv v] /\ VA C H a s c b p /\ Good s /\ H ch = some (.lst (many t)) /\ VT.Like s t /\ v < s.length /\ ∀ H', Same H H' -> Q (.bl (decide (VT.Middle t v))) H'
def sp_chosen (C : Addr) : Sp := fun vs H Q _ => ∃ a s c b p, ∃ (ch : Addr) (t : Valley), vs = [.ref a, .ref ch] /\ VA C H a s c b p /\ Good s /\ H ch = some (.lst (many t)) /\ VT.Like s t /\ ∀ H', Same H H' -> Q (nv (Km462.chosen t)) H'
def sp_chosen_with_lie (C : Addr) : Sp := fun vs H Q _ => ∃ a s c b p, ∃ (v w : Nat), vs = [.ref a, nv v, nv w] /\ VA C H a s c b p /\ Good s /\ v < s.length /\ w < s.length /\ 0 < (at_ s v).many /\ ∀ H', Same H H' -> Q (nv (Km462.chosen (Km462.lied s v w))) H'
section
variable {P : Program} {w : World} {K : PySem.W.Frag} {mg : Str -> Option Value} {base : Heap} {C : Addr}
abbrev s_made_odd : Stmt := top 64
theorem sc_made_odd : FnScope ["children", "counted"] ["children"] (defScope s_made_odd) := ⟨rfl, rfl, rfl, by decide +kernel, rfl, by decide +kernel, by decide +kernel⟩
theorem d_made_odd (T : Txt mg) (F : Fd K mg "made_odd" s_made_odd) : Dn P w K mg base 1 "made_odd" ["children"] sp_made_odd := by
  refine F.dn sc_made_odd (fun _ _ _ _ _ _ us hl => match us, hl with | [_], _ => rfl) (fun vs H Q E h => ?_) (fun f cdv A outer s H vs Q E hr h => ?_)
  . obtain ⟨ch, s, rfl, _⟩ := h; rfl
  . obtain ⟨ch, s, rfl, hc, hpos, k⟩ := h
    refine ⟨_, (pss_cons (ps_set (i := 1) sc_made_odd.nd rfl (Or.inl rfl) (pe_callTy call_list_of rfl T.list boot_list (pa_cons (pv 0) pa_nil)))
      (pss_cons (ps_if (pt_cmpR op_eq (pe_op op_mod (pe_callB (cr_sum rfl) rfl T.sum boot_sum (pa_cons (pv 1) pa_nil)) pe_int) pe_int (nomark _)) (pss_one (ps_augS (pv 1) pe_int get_list pe_int ip_add set_list)) pss_nil)
      (pss_one (ps_ret (pv 1))))), ?_⟩
    refine ⟨_, rfl, ch, _, rfl, .inl (SqL.of hc), fun q hq => ?_⟩
    have s1 : Same H (upd H q (.lst (many s))) := (Same.refl H).new hq
    have hq1 : (upd H q (.lst (many s))) q = some (.lst (many s)) := upd_same
    refine ⟨_, rfl, ?_⟩
    delta tNil
    refine sumq (l := s) (f := fun x => x.many) hq1 ?_
    rw [sum_many]
    refine ⟨_, _, rfl, rfl, (by show (0 : Int) < 2; decide), rfl, _, rfl, iteB (c := decide (Km457.total s % 2 = 0)) ?_ (fun hp => ?_) (fun hp => ?_)⟩
    . have : ((Km457.total s : Nat) : Int) % 2 = ((Km457.total s % 2 : Nat) : Int) := by omega
      show decide (V.int (((Km457.total s : Nat) : Int) % 2) = V.int 0) = _
      rw [this]
      exact V.ncast (j := 0)
    . refine ⟨_, rfl, q, _, 0, _, rfl, rfl, SqL.of hq1, many_at hpos, _, _, rfl, rfl, q, _, _, 0, rfl, rfl, hq1, ixN_nat (by rw [many_len]; exact hpos), ?_⟩
      refine ⟨_, rfl, k _ q (s1.put hq) hq ?_⟩
      rw [upd_same]
      unfold Km462.odd
      rw [if_pos (of_decide_eq_true hp)]
      have := many_set s 0 (Km462.many s 0 + 1)
      rw [<- this]
      rfl
    . refine ⟨_, rfl, k _ q s1 hq ?_⟩
      rw [hq1]
      unfold Km462.odd
      rw [if_neg (of_decide_eq_false hp)]
abbrev s_living_in : Stmt := top 65
theorem sc_living_in : FnScope ["children", "group", "v"] ["children", "group"] (defScope s_living_in) := ⟨rfl, rfl, rfl, by decide +kernel, rfl, by decide +kernel, by decide +kernel⟩
theorem d_living_in (T : Txt mg) (F : Fd K mg "living_in" s_living_in) (D_holds : Dn P w K mg base 1 "holds" ["group", "v"] sp_holds) : Dn P w K mg base 2 "living_in" ["children", "group"] sp_living_in := by
  refine F.dn sc_living_in (fun _ _ _ _ _ _ us hl => match us, hl with | [_, _], _ => rfl) (fun vs H Q E h => ?_) (fun f cdv A outer s H vs Q E hr h => ?_)
  . obtain ⟨ch, s, g, rfl, _⟩ := h; rfl
  . obtain ⟨ch, s, g, rfl, hc, hlen, k⟩ := h
    refine ⟨_, (pss_one (ps_ret (pe_callB (cr_sum rfl) rfl T.sum boot_sum (pa_cons (pe_lc rfl sc_living_in.nd (pi_range1 rfl T.range (pa_cons (pe_callB call_len_seq rfl T.len PySem.boot_len (pa_cons (pv 0) pa_nil)) pa_nil)) (blkOk_by (own := [("v", 2)]) rfl) (fun _ _ _ _ _ => pg_name (i := 2) sc_living_in.nd rfl (Or.inl rfl)) (fun _ _ _ _ _ => by exact (pts_one (pt_val (pe_dn D_holds hr (pa_cons (pv 1) (pa_cons (pv 2) pa_nil)))))) (fun _ _ _ _ _ => by exact (pe_ixK K (pv 0) (pv 2) (fun _ _ => rfl)))) pa_nil)))), ?_⟩
    refine ⟨_, rfl, ch, _, rfl, .inl (SqL.of hc), _, rfl, by rw [many_len]; omega, by rw [many_len]; omega, fun D hD => ?_⟩
    rw [Int.toNat_natCast, many_len]
    refine lc_rng g.testBit (fun v => nv (at_ s v).many) hD (by omega) (fun i H2 hi s2 Nx n0 n1 => ?_) (fun H2 s2 h2 => ?_)
    . have ei : (0 : Int) + (i : Nat) = ((i : Nat) : Int) := by omega
      rw [ei]
      exact ⟨rfl, _, rfl, _, rfl, g, i, rfl, _, rfl, iteB rfl (fun hp => ⟨_, rfl, _, rfl, ch, _, _, _, rfl, rfl, SqL.of (s2 _ _ hc), atI_nat (many_at hi), n1 hp _ _ (Same.refl _) rfl⟩) (fun hp => n0 hp _ (Same.refl _))⟩
    . exact sumq h2 (k _ s2)
abbrev s_is_middle : Stmt := top 66
theorem sc_is_middle : FnScope ["valley", "counted", "v", "branch"] ["valley", "counted", "v"] (defScope s_is_middle) := ⟨rfl, rfl, rfl, by decide +kernel, rfl, by decide +kernel, by decide +kernel⟩
theorem d_is_middle (T : Txt mg) (F : Fd K mg "is_middle" s_is_middle) (D_branches : Dn P w K mg base 3 "branches" ["valley", "v"] (sp_branches C)) (D_living_in : Dn P w K mg base 2 "living_in" ["children", "group"] sp_living_in) : Dn P w K mg base 4 "is_middle" ["valley", "counted", "v"] (sp_is_middle C) := by
  refine F.dn sc_is_middle (fun _ _ _ _ _ _ us hl => match us, hl with | [_, _, _], _ => rfl) (fun vs H Q E h => ?_) (fun f cdv A outer s H vs Q E hr h => ?_)
  . obtain ⟨a, s, c, b, p, ch, t, v, rfl, _⟩ := h; rfl
  . obtain ⟨a, s, c, b, p, ch, t, v, rfl, hV, G, hc, L, hv, k⟩ := h
    refine ⟨_, (pss_cons (ps_for PassesOwn.never rfl (pi_list (pe_dn D_branches hr (pa_cons (pv 0) (pa_cons (pv 2) pa_nil)))) (pg_name (i := 3) sc_is_middle.nd rfl (Or.inl rfl))
        (pss_one (ps_if (pt_cmpR op_gt (pe_op op_mul pe_int (pe_dn D_living_in hr (pa_cons (pv 1) (pa_cons (pv 3) pa_nil)))) (pe_callB (cr_sum rfl) rfl T.sum boot_sum (pa_cons (pv 1) pa_nil)) (nomark _)) (pss_one (ps_ret pe_bl)) pss_nil)))
      (pss_one (ps_ret pe_bl))), ?_⟩
    have hlen := G.len
    refine ⟨_, rfl, _, rfl, a, s, c, b, p, v, rfl, hV, G, hv, fun H1 q s1 hq hb => ?_⟩
    refine ⟨q, rfl, ⟨_, SqL.of hb⟩, for_list (K := K) (a := q) (xs := (brs s v).map nv) (fun i σ H' => ∃ v1, σ = [some (.ref a), some (.ref ch), some (nv v), v1] /\ Same H1 H' /\ ∀ (j g : Nat), j < i -> (brs s v)[j]? = some g -> 2 * liv t g <= Km457.total t) ⟨none, rfl, Same.refl _, fun j g hj => by omega⟩ (fun i σ H' _ ⟨_, _, s2, _⟩ => SqL.of (s2 _ _ hb)) ?_ ?_⟩
    . rintro i x σ H2 hi ⟨v1, rfl, s2, ih⟩
      obtain ⟨g, hg⟩ : ∃ g, (brs s v)[i]? = some g := by
        rw [List.getElem?_map] at hi
        cases e : (brs s v)[i]? with
        | none => rw [e] at hi; cases hi
        | some g => exact ⟨g, rfl⟩
      rw [List.getElem?_map, hg] at hi
      cases hi
      refine ⟨_, rfl, _, rfl, ch, t, g, rfl, s2 _ _ (s1 _ _ hc), by rw [L.len]; exact hlen, fun H3 s3 => ?_⟩
      refine ⟨_, _, rfl, rfl, .inl ⟨by decide, by decide⟩, _, rfl, ?_⟩
      delta tNil
      refine sumq (l := t) (f := fun x => x.many) (s3 _ _ (s2 _ _ (s1 _ _ hc))) ?_
      rw [sum_many]
      refine ⟨_, _, rfl, rfl, _, rfl, iteB (c := decide (Km457.total t < 2 * liv t g)) ?_ (fun hp => ?_) (fun hp => ?_)⟩
      . have : (2 : Int) * ((liv t g : Nat) : Int) = ((2 * liv t g : Nat) : Int) := by omega
        show decide (((Km457.total t : Nat) : Int) < (2 : Int) * ((liv t g : Nat) : Int)) = _
        rw [this]; exact ilt
      . refine cv (k _ (s1.trans (s2.trans s3))) (congrArg V.bl ?_)
        symm
        rw [decide_eq_false_iff_not]
        intro M
        have := (middle_brs L).mpr M g (List.mem_of_getElem? hg)
        have := of_decide_eq_true hp
        omega
      . refine ⟨_, rfl, s2.trans s3, fun j g' hj hg' => ?_⟩
        by_cases e : j = i
        . subst e
          rw [hg] at hg'
          cases hg'
          have := of_decide_eq_false hp
          omega
        . exact ih j g' (by omega) hg'
    . rintro σ H2 ⟨v1, rfl, s2, ih⟩
      refine cv (k _ (s1.trans s2)) (congrArg V.bl ?_)
      symm
      rw [decide_eq_true_iff]
      refine (middle_brs L).mp fun g hg => ?_
      obtain ⟨j, hj⟩ := List.getElem?_of_mem hg
      exact ih j g (by rw [List.length_map]; exact (List.getElem?_eq_some_iff.mp hj).1) hj
abbrev s_chosen : Stmt := top 67
theorem sc_chosen : FnScope ["valley", "children", "counted", "v"] ["valley", "children"] (defScope s_chosen) := ⟨rfl, rfl, rfl, by decide +kernel, rfl, by decide +kernel, by decide +kernel⟩
theorem d_chosen (T : Txt mg) (F : Fd K mg "chosen" s_chosen) (D_made_odd : Dn P w K mg base 1 "made_odd" ["children"] sp_made_odd) (D_is_middle : Dn P w K mg base 4 "is_middle" ["valley", "counted", "v"] (sp_is_middle C)) : Dn P w K mg base 5 "chosen" ["valley", "children"] (sp_chosen C) := by
  refine F.dn sc_chosen (fun _ _ _ _ _ _ us hl => match us, hl with | [_, _], _ => rfl) (fun vs H Q E h => ?_) (fun f cdv A outer s H vs Q E hr h => ?_)
  . obtain ⟨a, s, c, b, p, ch, t, rfl, _⟩ := h; rfl
  . obtain ⟨a, s, c, b, p, ch, t, rfl, hV, G, hc, L, k⟩ := h
    refine ⟨_, (pss_cons (ps_set (i := 2) sc_chosen.nd rfl (Or.inr rfl) (pe_dn D_made_odd hr (pa_cons (pv 1) pa_nil)))
      (pss_one (ps_ret (pe_ix ix_list (pe_lc rfl sc_chosen.nd (pi_range1 rfl T.range (pa_cons (pe_callB call_len_seq rfl T.len PySem.boot_len (pa_cons (pv 2) pa_nil)) pa_nil)) (blkOk_by (own := [("v", 3)]) rfl) (fun _ _ _ _ _ => pg_name (i := 3) sc_chosen.nd rfl (Or.inl rfl)) (fun _ _ _ _ _ => by exact (pts_one (pt_val (pe_dn D_is_middle hr (pa_cons (pv 0) (pa_cons (pv 2) (pa_cons (pv 3) pa_nil))))))) (fun _ _ _ _ _ => by exact (pv 3))) pe_int (fun _ _ => rfl))))), ?_⟩
    have hlen := G.len
    have Wt := L.wf G.wf
    have L2 : VT.Like s (Km462.odd t) := by
      have := VT.like_odd t
      exact ⟨this.len.trans L.len, fun v => (this.up v).trans (L.up v), fun v => (this.long v).trans (L.long v)⟩
    refine ⟨_, rfl, ch, t, rfl, hc, Wt.pos, fun H1 q s1 hq hodd => ?_⟩
    refine ⟨_, rfl, q, _, rfl, .inl (SqL.of hodd), _, rfl, by rw [many_len, L2.len]; omega, by rw [many_len, L2.len]; omega, fun D hD => ?_⟩
    rw [Int.toNat_natCast, many_len, L2.len]
    refine lc_rng (fun v => decide (VT.Middle (Km462.odd t) v)) nv hD (by omega) (fun i H2 hi s2 Nx n0 n1 => ?_) (fun H2 s2 h2 => ?_)
    . have ei : (0 : Int) + (i : Nat) = ((i : Nat) : Int) := by omega
      rw [ei]
      exact ⟨rfl, _, rfl, _, rfl, _, rfl, a, s, c, b, p, q, _, i, rfl, hV.same (s1.trans s2), G, s2 _ _ hodd, L2, hi, fun H3 s3 => ⟨_, rfl, iteB rfl (fun hp => ⟨_, rfl, n1 hp _ _ s3 rfl⟩) (fun hp => n0 hp _ s3)⟩⟩
    . have e := (VT.chosen_eq Wt).1
      rw [L.len] at e
      exact ⟨D, _, _, _, rfl, rfl, SqL.of h2, at_of (j := 0) rfl (v := nv (Km462.chosen t)) (by rw [List.getElem?_map, e]; rfl), k _ (s1.trans s2)⟩
abbrev s_chosen_with_lie : Stmt := top 68
theorem sc_chosen_with_lie : FnScope ["valley", "v", "w", "told"] ["valley", "v", "w"] (defScope s_chosen_with_lie) := ⟨rfl, rfl, rfl, by decide +kernel, rfl, by decide +kernel, by decide +kernel⟩
theorem d_chosen_with_lie (T : Txt mg) (Z : Vc K C) (F : Fd K mg "chosen_with_lie" s_chosen_with_lie) (D_chosen : Dn P w K mg base 5 "chosen" ["valley", "children"] (sp_chosen C)) : Dn P w K mg base 6 "chosen_with_lie" ["valley", "v", "w"] (sp_chosen_with_lie C) := by
  refine F.dn sc_chosen_with_lie (fun _ _ _ _ _ _ us hl => match us, hl with | [_, _, _], _ => rfl) (fun vs H Q E h => ?_) (fun f cdv A outer s H vs Q E hr h => ?_)
  . obtain ⟨a, s, c, b, p, v, u, rfl, _⟩ := h; rfl
  . obtain ⟨a, s, c, b, p, v, u, rfl, hV, G, hv, hu, hm, k⟩ := h
    refine ⟨_, (pss_cons (ps_set (i := 3) sc_chosen_with_lie.nd rfl (Or.inl rfl) (pe_callTy call_list_of rfl T.list boot_list (pa_cons (pe_fld (pv 0) rfl) pa_nil)))
      (pss_cons (ps_augS (pv 3) (pv 1) get_list pe_int ip_sub set_list)
      (pss_cons (ps_augS (pv 3) (pv 2) get_list pe_int ip_add set_list)
      (pss_one (ps_ret (pe_dn D_chosen hr (pa_cons (pv 0) (pa_cons (pv 3) pa_nil)))))))), ?_⟩
    obtain ⟨dx, ch, up, rd, hP⟩ := id hV
    refine ⟨_, rfl, a, C, dx, _, _, rfl, hP.ins, Z.cl, Z.ch, vf_ch, ch, _, rfl, .inl (SqL.of hP.ch), fun q hq => ?_⟩
    have s1 : Same H (upd H q (.lst (many s))) := (Same.refl H).new hq
    refine ⟨_, rfl, _, rfl, q, _, v, _, rfl, rfl, SqL.of upd_same, many_at hv, _, _, rfl, rfl, q, _, _, v, rfl, rfl, upd_same, ixN_nat (by rw [many_len]; exact hv), ?_⟩
    have e1 : ((at_ s v).many : Int) - 1 = ((Km462.many s v - 1 : Nat) : Int) := by unfold Km462.many; omega
    have e2 : (many s).set v (V.int (((at_ s v).many : Int) - 1)) = many (s.set v { at_ s v with many := Km462.many s v - 1 }) := by rw [e1]; exact many_set s v _
    rw [e2, upd_upd]
    refine ⟨_, rfl, _, rfl, q, _, u, _, rfl, rfl, SqL.of upd_same, many_at (by rw [List.length_set]; exact hu), _, _, rfl, rfl, q, _, _, u, rfl, rfl, upd_same, ixN_nat (by rw [many_len, List.length_set]; exact hu), ?_⟩
    have e3 : (many (s.set v { at_ s v with many := Km462.many s v - 1 })).set u (V.int (((at_ (s.set v { at_ s v with many := Km462.many s v - 1 }) u).many : Int) + 1)) = many (Km462.lied s v u) := by
      exact many_set _ u (Km462.many (s.set v { at_ s v with many := Km462.many s v - 1 }) u + 1)
    rw [e3, upd_upd]
    have s2 : Same H (upd H q (.lst (many (Km462.lied s v u)))) := (Same.refl H).new hq
    exact ⟨_, rfl, _, rfl, a, s, c, b, p, q, Km462.lied s v u, rfl, hV.same s2, G, upd_same, VT.like_lied s v u, fun H3 s3 => k _ (s2.trans s3)⟩
end
end VV
namespace VV
open PySem PySem.Spec PyProof.Rows L2
section
variable {X : Cx} {pins : List (Addr × Obj)} {σ : L2.St} {H0 : Hp} {S It l f : Addr} {fd : FuncData} {pn : List Str} {sp : Sp} {k : Nat} {xs : List V} {kf : V -> Int} {Q : VK}
theorem key_call (F : FnOk X.prog X.w X.K X.mg X.base CX0 k f fd pn sp) (hr : Room (k + 1) X.A) (hb : Binds X.K fd pn []) {pins' : List (Addr × Obj)} {s : Shared} {H : Hp} {x : V} {u : Value} {E : Value -> Shared -> Prop} (I : Inv X pins' σ H s) (r : RelV x u) (h : sp [x] H Q E0) :
    wpAny (model X.prog X.w) X.A.in1 (call (.ref f) [u]) (EP X pins' σ Q) E s := by
  have r2 : Vals [x] ([u] ++ []) := .cons r .nil
  have hl : ([u] ++ ([] : List Value)).length = pn.length := by rw [<- F.len _ _ _ _ h]; rfl
  refine wpAny_call (codeAny_mono (F.run X.A.in1 X.stack s H ⟨[u], []⟩ ([u] ++ []) [x] Q E0 hr.in1 I.env0.in1 (hb s [u] I.kIn hl) r2 h) fun res s' hq => ?_)
  cases res with
  | error e => exact False.elim hq
  | ok fl =>
    cases fl with
    | ret y => exact I.after hq
    | next => exact False.elim hq
    | brk => exact False.elim hq
    | cont => exact False.elim hq
abbrev RetTo (X : Cx) (pins : List (Addr × Obj)) (σ : L2.St) (Q : VK) : Result -> Shared -> Prop := fun r s' => match r with
  | .ok (.ret v) => EP X pins σ Q v s'
  | .ok _ => False
  | .error e => X.xe e s'
theorem minkey_loop (F : FnOk X.prog X.w X.K X.mg X.base CX0 k f fd pn sp) (hr : Room (k + 1) X.A) (hb : Binds X.K fd pn []) (hc : X.calm = true) (hl : SqL X.K H0 l xs) (hS : H0 S = none) (fp : FpOk X pins H0 It) (hSI : S ≠ It)
    (hkey : ∀ x ∈ xs, ∀ H', Same H0 H' -> sp [x] H' (fun v H'' => v = .int (kf x) /\ H'' = H') E0)
    (hQ : ∀ (i : Nat) (x : V), xs[i]? = some x -> (∀ (j : Nat) (y : V), xs[j]? = some y -> kf x <= kf y /\ (j < i -> kf x < kf y)) -> Q x (upd H0 S (.lst []))) :
    ∀ (r j i : Nat) (s : Shared) (x : V), xs.length - (j + 1) = r -> j + 1 <= xs.length -> Inv X pins σ (upd H0 S (.lst [x, .int (kf x)])) s -> s.heap.IsListIter It l (j + 1) -> xs[i]? = some x -> i <= j ->
      (∀ (j' : Nat) (y : V), j' <= j -> xs[j']? = some y -> kf x <= kf y /\ (j' < i -> kf x < kf y)) ->
      codeAny (model X.prog X.w) X.A (.builtin "min.loop" ⟨[.ref It, .ref f, .ref S], []⟩) (RetTo X pins σ Q) s := by
  have nm : (toString "min" ++ toString ".loop" : String) = "min.loop" := by decide
  intro r
  induction r with
  | zero =>
    intro j i s x hr0 hj I st hx hij best
    have hS1 : (upd H0 S (.lst [x, .int (kf x)])) S = some (.lst [x, .int (kf x)]) := upd_same
    have sm : Same H0 (upd H0 S (.lst [x, .int (kf x)])) := (Same.refl H0).put hS
    obtain ⟨its, n, rv, oS, _⟩ := I.lst hS1
    obtain ⟨u1, u2, rfl, ru1, ru2⟩ := rv.two
    obtain ⟨ls, rl, pl, hz⟩ := I.list (sm.seq hl)
    have hll := rl.length
    refine codeAny_builtin PySem.F.entry_min_loop ?_
    rw [Around.under_plainId PySem.F.plain_min_loop _]
    show wpAny _ X.A.in1 (seqItems? (.ref S) >>= _) _ _ _
    refine wpAny_bind (wpAny_seqItems oS rfl ?_)
    show wpAny _ X.A.in1 (tryCatch (pyNext (.ref It)) _ >>= _) _ _ _
    refine wpAny_bind (wpAny_tryCatch (wpAny_pyNext_list_end (I.ok.hd hc) st pl.isList (by simp; omega) fun h' eb => ?_))
    obtain ⟨f0, f1, f2, f3, f4, f5⟩ := fp
    have I1 : Inv X pins σ (upd H0 S (.lst [x, .int (kf x)])) { s with heap := h' } := I.turned (t' := s.toks) (fun b o hb e => eb b o hb e) (by rw [upd_ne (Ne.symm hSI)]; exact f0) f1 f3 f4 f5
    obtain ⟨its', n', rv', oS', _⟩ := I1.lst hS1
    show wpAny _ X.A.in1 (updateSeq S (fun _ => #[]) >>= _) _ _ _
    have oS2 := eb S _ hSI oS
    refine wpAny_bind (wpAny_updateSeq oS2 rfl (wpAny_bind (wpAny_letGo (wpAny_pure ?_))))
    have I2 := I1.lset (f := fun _ => #[]) (ys := []) (its' := []) (t' := s.toks) hS1 oS2 rfl .nil (Nat.zero_le _)
    rw [upd_upd] at I2
    exact ⟨x, _, I2, ru1, hQ i x hx fun j' y hy => best j' y (by have := (List.getElem?_eq_some_iff.mp hy).1; omega) hy⟩
  | succ r ih =>
    intro j i s x hr0 hj I st hx hij best
    have hS1 : (upd H0 S (.lst [x, .int (kf x)])) S = some (.lst [x, .int (kf x)]) := upd_same
    have sm : Same H0 (upd H0 S (.lst [x, .int (kf x)])) := (Same.refl H0).put hS
    obtain ⟨its, n, rv, oS, _⟩ := I.lst hS1
    obtain ⟨u1, u2, rfl, ru1, ru2⟩ := rv.two
    obtain ⟨tb, rfl⟩ := ru2
    obtain ⟨ls, rl, pl, hz⟩ := I.list (sm.seq hl)
    have hlt : j + 1 < xs.length := by omega
    obtain ⟨y, hy⟩ : ∃ y, xs[j + 1]? = some y := ⟨_, List.getElem?_eq_getElem hlt⟩
    obtain ⟨uy, huy, ruy⟩ := rl.get hy
    refine codeAny_builtin PySem.F.entry_min_loop ?_
    rw [Around.under_plainId PySem.F.plain_min_loop _]
    show wpAny _ X.A.in1 (seqItems? (.ref S) >>= _) _ _ _
    refine wpAny_bind (wpAny_seqItems oS rfl ?_)
    show wpAny _ X.A.in1 (tryCatch (pyNext (.ref It)) _ >>= _) _ _ _
    refine wpAny_bind (wpAny_tryCatch (wpAny_pyNext_list_item st pl.isList (x := uy) (by simpa using huy) fun h' st' sb => ?_))
    obtain ⟨f0, f1, f2, f3, f4, f5⟩ := id fp
    have fpI : FpOk X pins (upd H0 S (.lst [x, .int (kf x)])) It := ⟨by rw [upd_ne (Ne.symm hSI)]; exact f0, f1, f2, f3, f4, f5⟩
    have I1 : Inv X pins σ (upd H0 S (.lst [x, .int (kf x)])) { s with heap := h' } := I.turned (t' := s.toks) (fun b o hb e => (sb.2 b hb).trans e) fpI.1 f1 f3 f4 f5
    obtain ⟨oI, hoI, hoc, hod⟩ := id st'
    have I2 := I1.pinned (fp := [It]) (fun b hb => by rw [List.mem_singleton.mp hb]; exact fpI) (fun b hb => ⟨oI, by rw [List.mem_singleton.mp hb]; exact hoI, fun v z => by rw [hod] at z; cases z⟩)
    show wpAny _ X.A.in1 (tryCatch (holding [uy] (call (.ref f) [uy])) _ >>= _) _ _ _
    refine wpAny_bind (wpAny_tryCatch (wpAny_holding (thn (key_call F hr hb I2 ruy (hkey y (List.mem_of_getElem? hy) _ sm)) fun w s2 hw => ?_)))
    obtain ⟨v, H2, I3, rw3, rfl, rfl⟩ := hw
    obtain ⟨t2, rfl⟩ := rw3
    have pin := (I3.pin (It, oI) (List.mem_append_right _ (List.mem_append_right _ (mem_pinsAt (by simp) hoI)))).1
    have st3 : s2.heap.IsListIter It l (j + 1 + 1) := ⟨oI, pin, hoc, hod⟩
    have I4 := I3.unpinned
    obtain ⟨its4, n4, rv4, oS4, _⟩ := I4.lst hS1
    obtain ⟨a4, b4, rfl, _, _⟩ := rv4.two
    show wpAny _ X.A.in1 (tryCatch (holding [uy, .int (kf y) t2] (richCompare .Lt (.int (kf y) t2) (.int (kf x) tb) >>= _)) _ >>= _) _ _ _
    refine wpAny_bind (wpAny_tryCatch (wpAny_holding (wpAny_bind (HT.rcLt_int _ _ _ _ _ _ _ _ _ _ ?_))))
    refine wpAny_bind (wpAny_holding (wpAny_truthy_bool ?_))
    refine wpAny_bind (wpAny_letGo (wpAny_pure ?_))
    by_cases lt : kf y < kf x
    . simp only [lt, decide_true, if_true]
      refine wpAny_bind (wpAny_updateSeq oS4 rfl (wpAny_bind (wpAny_letGo ?_)))
      rw [nm]
      have I5 := I4.lset (f := fun _ => #[uy, .int (kf y) t2]) (ys := [y, .int (kf y)]) (its' := [uy, .int (kf y) t2]) (t' := s2.toks) hS1 oS4 rfl (.cons ruy (.cons ⟨t2, rfl⟩ .nil)) (by show 2 <= sizeLine; decide)
      rw [upd_upd] at I5
      have st5 : (s2.heap.update S (Obj.mapSeq fun _ => #[uy, .int (kf y) t2])).IsListIter It l (j + 1 + 1) := ⟨oI, (Heap.get?_update_other _ _ hSI).trans pin, hoc, hod⟩
      refine wpAny_pure ⟨plainId_quiet PySem.F.plain_min_loop _, ih (j + 1) (j + 1) _ y (by omega) hlt I5 st5 hy (Nat.le_refl _) fun j' z hj' hz' => ?_⟩
      by_cases e : j' = j + 1
      . subst e
        rw [hy] at hz'; cases hz'
        exact ⟨Int.le_refl _, fun q => absurd q (Nat.lt_irrefl _)⟩
      . have b1 := (best j' z (by omega) hz').1
        exact ⟨by omega, fun _ => by omega⟩
    . simp only [lt, decide_false, Bool.false_eq_true, if_false]
      refine wpAny_bind (wpAny_letGo ?_)
      rw [nm]
      refine wpAny_pure ⟨plainId_quiet PySem.F.plain_min_loop _, ih (j + 1) i _ x (by omega) hlt I4 st3 hx (by omega) fun j' z hj' hz' => ?_⟩
      by_cases e : j' = j + 1
      . subst e
        rw [hy] at hz'; cases hz'
        exact ⟨by omega, fun q => by omega⟩
      . exact best j' z (by omega) hz'
def tMinKey (K : PySem.W.Frag) (sp : Sp) (t : TA) : TE := fun σ H Q => t σ H fun vs H1 => ∃ (l : Addr) (xs : List V) (kf : V -> Int), vs = [.ref l] /\ SqL K H1 l xs /\ 0 < xs.length /\
  (∀ x ∈ xs, ∀ H', Same H1 H' -> sp [x] H' (fun v H'' => v = .int (kf x) /\ H'' = H') E0) /\
  ∀ (i : Nat) (x : V) (H2 : Hp), xs[i]? = some x -> (∀ (j : Nat) (y : V), xs[j]? = some y -> kf x <= kf y /\ (j < i -> kf x < kf y)) -> Same H1 H2 -> Q x H2
theorem run_min (F : FnOk X.prog X.w X.K X.mg X.base CX0 k f fd pn sp) (hr : Room (k + 1) X.A) (hb : Binds X.K fd pn []) (hc : X.calm = true) {s : Shared} {H1 : Hp} (I : Inv X pins σ H1 s) (hl : SqL X.K H1 l xs) (hne : 0 < xs.length)
    (hkey : ∀ x ∈ xs, ∀ H', Same H1 H' -> sp [x] H' (fun v H'' => v = .int (kf x) /\ H'' = H') E0)
    (hQ : ∀ (i : Nat) (x : V) (H2 : Hp), xs[i]? = some x -> (∀ (j : Nat) (y : V), xs[j]? = some y -> kf x <= kf y /\ (j < i -> kf x < kf y)) -> Same H1 H2 -> Q x H2) :
    wpAny (model X.prog X.w) X.A (call (.builtin "min") [.ref l] [(Str.ofString "key", .ref f)]) (EP X pins σ Q) X.xe s := by
  have nm : (toString "min" ++ toString ".loop" : String) = "min.loop" := by decide
  obtain ⟨ls, rl, pl, hz⟩ := I.list hl
  refine kmk_tree PySem.F.kind_min PySem.F.plain_min PySem.F.entry_min (kmk_min_key _ _) ?_
  have bp : Builtin.Builtins.bindParams "min" ["key", "default"] 0 ⟨[], [(Str.ofString "key", Value.ref f)]⟩ = pure [some (.ref f), none] := rfl
  show wpAny _ X.A.in1 (Builtin.Builtins.bindParams "min" ["key", "default"] 0 ⟨[], [(Str.ofString "key", Value.ref f)]⟩ >>= _) _ _ s
  refine wpAny_bind (wpAny_of_eq bp (wpAny_bind (wpAny_pure ?_)))
  refine wpAny_bind (wpAny_pyIter_list pl.isList ?_)
  refine wpAny_bind (wpAny_newList ?_ (Nat.zero_le _))
  rw [nm]
  refine wpAny_pure ⟨plainId_quiet PySem.F.plain_min_loop _, ?_⟩
  have I1 : Inv X pins σ H1 { s with heap := s.heap.push { cls := .type "list_iterator", data := .fields #[.ref l, .int 0 0] } } := I.kept (t' := s.toks) fun b u q => Heap.get?_push_of_some _ q
  have st1 : (s.heap.push { cls := .type "list_iterator", data := .fields #[.ref l, .int 0 0] }).IsListIter s.heap.objs.size l 0 := ⟨_, Heap.get?_push_size _ rfl, rfl, rfl⟩
  have sz : (s.heap.push { cls := .type "list_iterator", data := .fields #[.ref l, .int 0 0] }).objs.size = s.heap.objs.size + 1 := size_push' ..
  have I2 := I1.lnew (its := []) (ys := []) (t' := s.toks) .nil (Nat.zero_le _)
  generalize hIt : s.heap.objs.size = It at *
  generalize hh1 : s.heap.push { cls := .type "list_iterator", data := .fields #[.ref l, .int 0 0] } = h1 at *
  generalize hSS : h1.objs.size = S at *
  have hSI : S ≠ It := by omega
  have hS : H1 S = none := by rw [<- hSS]; exact I1.fresh
  have fp : FpOk X pins H1 It := I.fpOk (by omega) (by rw [<- hIt]; exact I.fresh)
  have st2 : (h1.push { cls := .type "list", data := .seq (#[] : Array Value) }).IsListIter It l 0 := by
    obtain ⟨o, e, c, d⟩ := st1
    exact ⟨o, Heap.get?_push_of_some _ e, c, d⟩
  have hS1 : (upd H1 S (.lst [])) S = some (.lst []) := upd_same
  have sm : Same H1 (upd H1 S (.lst [])) := (Same.refl H1).put hS
  obtain ⟨y, hy⟩ : ∃ y, xs[0]? = some y := ⟨_, List.getElem?_eq_getElem hne⟩
  obtain ⟨its, n, rv, oS, _⟩ := I2.lst hS1
  obtain rfl := rv.zero
  obtain ⟨ls2, rl2, pl2, hz2⟩ := I2.list (sm.seq hl)
  obtain ⟨uy, huy, ruy⟩ := rl2.get hy
  refine codeAny_builtin PySem.F.entry_min_loop ?_
  rw [Around.under_plainId PySem.F.plain_min_loop _]
  show wpAny _ X.A.in1 (seqItems? (.ref S) >>= _) _ _ _
  refine wpAny_bind (wpAny_seqItems oS rfl ?_)
  show wpAny _ X.A.in1 (tryCatch (pyNext (.ref It)) _ >>= _) _ _ _
  refine wpAny_bind (wpAny_tryCatch (wpAny_pyNext_list_item st2 pl2.isList (x := uy) (by simpa using huy) fun h' st' sb => ?_))
  obtain ⟨f0, f1, f2, f3, f4, f5⟩ := id fp
  have fpI : FpOk X pins (upd H1 S (.lst [])) It := ⟨by rw [upd_ne (Ne.symm hSI)]; exact f0, f1, f2, f3, f4, f5⟩
  have I3 := I2.turned (h' := h') (t' := s.toks) (fun b o hb e => (sb.2 b hb).trans e) fpI.1 f1 f3 f4 f5
  obtain ⟨oI, hoI, hoc, hod⟩ := id st'
  have I4 := I3.pinned (fp := [It]) (fun b hb => by rw [List.mem_singleton.mp hb]; exact fpI) (fun b hb => ⟨oI, by rw [List.mem_singleton.mp hb]; exact hoI, fun v z => by rw [hod] at z; cases z⟩)
  show wpAny _ X.A.in1 (tryCatch (holding [uy] (call (.ref f) [uy])) _ >>= _) _ _ _
  refine wpAny_bind (wpAny_tryCatch (wpAny_holding (thn (key_call F hr hb I4 ruy (hkey y (List.mem_of_getElem? hy) _ sm)) fun w s2 hw => ?_)))
  obtain ⟨v, H2, I5, rw3, rfl, rfl⟩ := hw
  obtain ⟨t2, rfl⟩ := rw3
  have pin := (I5.pin (It, oI) (List.mem_append_right _ (List.mem_append_right _ (mem_pinsAt (by simp) hoI)))).1
  have I6 := I5.unpinned
  obtain ⟨its6, n6, rv6, oS6, _⟩ := I6.lst hS1
  obtain rfl := rv6.zero
  have I7 := I6.lset (f := fun _ => #[uy, .int (kf y) t2]) (ys := [y, .int (kf y)]) (its' := [uy, .int (kf y) t2]) (t' := s2.toks) hS1 oS6 rfl (.cons ruy (.cons ⟨t2, rfl⟩ .nil)) (by show 2 <= sizeLine; decide)
  rw [upd_upd] at I7
  have st7 : (s2.heap.update S (Obj.mapSeq fun _ => #[uy, .int (kf y) t2])).IsListIter It l (0 + 1) := ⟨oI, (Heap.get?_update_other _ _ hSI).trans pin, hoc, hod⟩
  show wpAny _ X.A.in1 (updateSeq S (fun _ => #[uy, .int (kf y) t2]) >>= _) _ _ _
  refine wpAny_bind (wpAny_updateSeq oS6 rfl ?_)
  rw [nm]
  refine wpAny_pure ⟨plainId_quiet PySem.F.plain_min_loop _, minkey_loop F hr hb hc hl hS fp hSI hkey (fun i x hx best => hQ i x _ hx best ((Same.refl H1).put hS)) _ 0 0 _ y rfl hne I7 st7 hy (Nat.le_refl _) fun j' z hj' hz' => ?_⟩
  have e : j' = 0 := by omega
  subst e
  rw [hy] at hz'; cases hz'
  exact ⟨Int.le_refl _, fun q => absurd q (Nat.lt_irrefl _)⟩
theorem pe_minkey {j : Nat} {x : Str} {e : Expr} {t : TA} {p p2 kp pos : Pos} (hm : X.mg "min" = none) (D : Dn X.prog X.w X.K X.mg X.base k x pn sp) (hr : Room j X.A) (ha : PA X [e] t) (hc : X.calm = true := by rfl) (hg : Gl X "min" := by rfl) (hgx : Gl X x := by rfl) (hj : k + 1 <= j := by decide) (hdb : (x == ("__debug__" : Str)) = false := by decide)
    (he : backTo pos (starEach [e] X.env) = (false, eval e X.env) :: backTo pos (starEach [] X.env) := by rfl) (hpl : (backTo pos (starEach [e] X.env)).any (·.1) = false := by rfl) :
    PE X (.Call (.Name "min" p) [e] [⟨some "key", .Name x p2, kp⟩] pos) (tMinKey X.K sp t) := by
  intro pins s σ H Q I h
  obtain ⟨f, fd, F, hmx, hk, hb⟩ := D
  refine wpAny_Call_Name_kw (ld_blt I hg hm boot_min ?_)
  refine callWith_kw (thn (ha pos pins s σ H _ I h) fun us s1 ⟨vs, H1, I1, r1, q1⟩ => ?_) he hpl rfl rfl
  obtain ⟨l, xs, kf, rfl, hl, hne, hkey, hQ⟩ := q1
  obtain rfl := r1.ref1
  refine thn (pk_cons (X := X) (pe_glob (v := .ref f) hgx hmx rfl hdb) pk_nil pos pins s1 σ H1 (fun zs H2 => zs = [.ref f] /\ H2 = H1) I1 ⟨rfl, rfl⟩) fun us s2 ⟨zs, H2, I2, r2, e1, e2⟩ => ?_
  subst e1 e2
  obtain rfl := r2.ref1
  exact run_min F (hr.mono hj) hb hc I2 hl hne hkey hQ
end
end VV
namespace VV
open PySem PySem.Spec PyProof.Rows L2
open Km457 (Valley at_)
theorem lc_lstI {K : PySem.W.Frag} {a : Addr} {xs : List V} {g : TG} {te : TE} {vs : List Nat} {σ : L2.St} {H1 : Hp} {D : Addr} {Qd : Hp -> Prop} (f : Nat -> V) (hD : H1 D = none) (hn : xs.length <= 100000) (hl : SqL K H1 a xs)
    (hs : ∀ (i : Nat) x H, xs[i]? = some x -> Same H1 H -> ∀ R : V -> Hp -> Prop, (∀ H4 y, Same H H4 -> y = f i -> R y H4) -> g x (wipe σ vs) H fun σ2 H2 => wipe σ2 vs = wipe σ vs /\ te σ2 H2 R)
    (hd : ∀ H', Same H1 H' -> H' D = some (.lst ((List.range xs.length).map f)) -> Qd H') (mono : ∀ v σ H Q Q', (∀ σ' H', Q σ' H' -> Q' σ' H') -> g v σ H Q -> g v σ H Q') :
    ∃ W : Nat -> Nat -> Hp -> Prop, (∃ m, W 0 m (upd H1 D (.lst []))) /\ ∀ i m H, W i m H ->
      ((Itl K a).stop i H /\ Qd H) \/ ((Itl K a).go i H /\ ∃ Nx : Hp -> Prop, (∀ H', Nx H' -> ∃ m', m' < m /\ W (i + 1) m' H') /\ ∀ x H', (Itl K a).yld i H x H' -> g x (wipe σ vs) H' fun σ2 H2 => wipe σ2 vs = wipe σ vs /\ tYes σ2 H2 fun b H3 =>
        if b = true then te σ2 H3 fun y H4 => ∃ acc, H4 D = some (.lst acc) /\ acc.length < sizeLine /\ Nx (upd H4 D (.lst (acc ++ [y]))) else Nx H3) := by
  refine lc_list (K := K) (a := a) (xs := xs) (fun i H => Same H1 H /\ H D = some (.lst ((List.range i).map f))) ⟨Same.put (Same.refl _) hD, upd_same⟩ (fun i H _ ⟨s1, _⟩ => s1.seq hl) (fun i x H hx ⟨s1, h1⟩ => ?_) (fun H ⟨s1, h1⟩ => hd H s1 h1)
  have hi : i < xs.length := (List.getElem?_eq_some_iff.mp hx).1
  refine mono _ _ _ _ _ (fun σ' H' q => ⟨q.1, yes q.2⟩) (hs i x H hx s1 _ fun H4 y s4 ey => ⟨_, s4 _ _ h1, ?_, (s1.trans s4).put hD, ?_⟩)
  . rw [List.length_map, List.length_range]
    exact small_line (by omega)
  . rw [upd_same, List.range_succ, List.map_append, ey]
    rfl
def rch (s : Valley) (r v : Nat) : Nat := VT.mask s.length fun w => decide (Km457.far s v w <= r)
def rchL (s : Valley) (r : Nat) : List V := (List.range s.length).map fun v => nv (rch s r v)
theorem rchL_at {s : Valley} {r v : Nat} (h : v < s.length) : (rchL s r)[v]? = some (nv (rch s r v)) := by
  unfold rchL
  rw [List.getElem?_map, List.getElem?_range h]; rfl
theorem rchL_len (s : Valley) (r : Nat) : (rchL s r).length = s.length := by unfold rchL; simp
def servB (s : Valley) (r : Nat) (l : List Nat) (w : Nat) : Bool := l.any fun v => decide (Km457.far s v w <= r)
def srv (s : Valley) (r : Nat) (l : List Nat) : Nat := VT.mask s.length (servB s r l)
theorem setOf_lt (n : Nat) (l : List Nat) : setOf n l < 2 ^ n := VT.mask_lt _ n
theorem setOf_bit {n : Nat} {l : List Nat} {x : Nat} (h : x < n) : (setOf n l).testBit x = l.contains x := by
  unfold setOf
  rw [VT.testBit_mask]; simp [h]
theorem setOf_filter (n : Nat) (l : List Nat) : (List.range n).filter (setOf n l).testBit = (List.range n).filter fun x => l.contains x := by
  apply List.filter_congr
  intro x hx
  exact setOf_bit (by simpa using hx)
theorem any_filter {n : Nat} {l : List Nat} (hl : ∀ x ∈ l, x < n) (p : Nat -> Bool) : ((List.range n).filter fun x => l.contains x).any p = l.any p := by
  rw [Bool.eq_iff_iff, List.any_eq_true, List.any_eq_true]
  constructor
  . rintro ⟨x, hx, h⟩
    exact ⟨x, by simpa using (List.mem_filter.mp hx).2, h⟩
  . rintro ⟨x, hx, h⟩
    exact ⟨x, List.mem_filter.mpr ⟨by simpa using hl x hx, by simpa using hx⟩, h⟩
def sp_within : Sp := fun vs H Q _ => ∃ (ra : Addr) (s : Valley) (v r : Nat), vs = [.ref ra, nv r] /\ H ra = some (.lst (R s s.length v)) /\ s.length <= 10 /\ ∀ H', Same H H' -> Q (nv (rch s r v)) H'
def sp_reaches (C : Addr) : Sp := fun vs H Q _ => ∃ a s c b p, ∃ r : Nat, vs = [.ref a, nv r] /\ VA C H a s c b p /\ Good s /\ ∀ H' q, Same H H' -> H q = none -> H' q = some (.lst (rchL s r)) -> Q (.ref q) H'
def sp_served_by : Sp := fun vs H Q _ => ∃ (q : Addr) (s : Valley) (r : Nat) (l : List Nat), vs = [.ref q, nv (setOf s.length l)] /\ H q = some (.lst (rchL s r)) /\ s.length <= 10 /\ (∀ x ∈ l, x < s.length) /\ ∀ H', Same H H' -> Q (nv (srv s r l)) H'
section
variable {P : Program} {w : World} {K : PySem.W.Frag} {mg : Str -> Option Value} {base : Heap} {C : Addr}
abbrev s_within : Stmt := top 41
theorem sc_within : FnScope ["row", "r", "w"] ["row", "r"] (defScope s_within) := ⟨rfl, rfl, rfl, by decide +kernel, rfl, by decide +kernel, by decide +kernel⟩
theorem d_within (T : Txt mg) (F : Fd K mg "within" s_within) (D_one : Dn P w K mg base 1 "one" ["v"] sp_one) : Dn P w K mg base 2 "within" ["row", "r"] sp_within := by
  refine F.dn sc_within (fun _ _ _ _ _ _ us hl => match us, hl with | [_, _], _ => rfl) (fun vs H Q E h => ?_) (fun f cdv A outer s H vs Q E hr h => ?_)
  . obtain ⟨ra, s, v, r, rfl, _⟩ := h; rfl
  . obtain ⟨ra, s, v, r, rfl, hrow, hlen, k⟩ := h
    refine ⟨_, (pss_one (ps_ret (pe_callB (cr_sum rfl) rfl T.sum boot_sum (pa_cons (pe_lc rfl sc_within.nd (pi_range1 rfl T.range (pa_cons (pe_callB call_len_seq rfl T.len PySem.boot_len (pa_cons (pv 0) pa_nil)) pa_nil)) (blkOk_by (own := [("w", 2)]) rfl) (fun _ _ _ _ _ => pg_name (i := 2) sc_within.nd rfl (Or.inl rfl)) (fun _ _ _ _ _ => by exact (pts_one (pt_cmpR op_le (pe_ixK K (pv 0) (pv 2) (fun _ _ => rfl)) (pv 1) (nomark _)))) (fun _ _ _ _ _ => by exact (pe_dn D_one hr (pa_cons (pv 2) pa_nil)))) pa_nil)))), ?_⟩
    refine ⟨_, rfl, ra, _, rfl, .inl (SqL.of hrow), _, rfl, by rw [R_len]; omega, by rw [R_len]; omega, fun D hD => ?_⟩
    rw [Int.toNat_natCast, R_len]
    refine lc_rng (fun w => decide (Km457.far s v w <= r)) (fun w => nv (2 ^ w)) hD (by omega) (fun i H2 hi s2 Nx n0 n1 => ?_) (fun H2 s2 h2 => ?_)
    . have ei : (0 : Int) + (i : Nat) = ((i : Nat) : Int) := by omega
      rw [ei]
      exact ⟨rfl, _, rfl, _, rfl, ra, _, _, _, rfl, rfl, SqL.of (s2 _ _ hrow), atI_nat (R_at hi), _, rfl, _, _, rfl, rfl, _, rfl, iteB ile (fun hp => ⟨_, rfl, i, rfl, by omega, n1 hp _ _ (Same.refl _) rfl⟩) (fun hp => n0 hp _ (Same.refl _))⟩
    . refine sumq h2 ?_
      rw [mask_sum0]
      exact k _ s2
abbrev s_reaches : Stmt := top 42
theorem sc_reaches : FnScope ["valley", "r", "row"] ["valley", "r"] (defScope s_reaches) := ⟨rfl, rfl, rfl, by decide +kernel, rfl, by decide +kernel, by decide +kernel⟩
theorem d_reaches (T : Txt mg) (F : Fd K mg "reaches" s_reaches) (D_distances : Dn P w K mg base 2 "distances" ["valley"] (sp_distances C)) (D_within : Dn P w K mg base 2 "within" ["row", "r"] sp_within) : Dn P w K mg base 3 "reaches" ["valley", "r"] (sp_reaches C) := by
  refine F.dn sc_reaches (fun _ _ _ _ _ _ us hl => match us, hl with | [_, _], _ => rfl) (fun vs H Q E h => ?_) (fun f cdv A outer s H vs Q E hr h => ?_)
  . obtain ⟨a, s, c, b, p, r, rfl, _⟩ := h; rfl
  . obtain ⟨a, s, c, b, p, r, rfl, hV, G, k⟩ := h
    refine ⟨_, (pss_one (ps_ret (pe_lc rfl sc_reaches.nd (pi_list (pe_dn D_distances hr (pa_cons (pv 0) pa_nil))) (blkOk_by (own := [("row", 2)]) rfl) (fun _ _ _ _ _ => pg_name (i := 2) sc_reaches.nd rfl (Or.inl rfl)) (fun _ _ _ _ _ => by exact pts_nil) (fun _ _ _ _ _ => by exact (pe_dn D_within hr (pa_cons (pv 2) (pa_cons (pv 1) pa_nil))))))), ?_⟩
    have hlen := G.len
    refine ⟨_, rfl, a, s, c, b, p, rfl, hV, G, fun H1 q s1 hq tb => ?_⟩
    obtain ⟨rows, t1, t2, t3⟩ := id tb
    refine ⟨q, rfl, ⟨_, SqL.of t1⟩, fun D hD => ?_⟩
    refine lc_lstI (fun v => nv (rch s r v)) hD (by rw [List.length_map]; omega) (SqL.of t1) (fun i x H2 hx s2 R n1 => ?_) (fun H2 s2 h2 => ?_) (gName_mono _)
    . have hil : i < rows.length := by
        have := (List.getElem?_eq_some_iff.mp hx).1
        rw [List.length_map] at this; exact this
      obtain ⟨ri, hri⟩ : ∃ ri, rows[i]? = some ri := ⟨_, List.getElem?_eq_getElem hil⟩
      rw [List.getElem?_map, hri] at hx
      cases hx
      exact ⟨rfl, _, rfl, _, rfl, ri, s, i, r, rfl, s2 _ _ (t3 i ri hri), hlen, fun H3 s3 => n1 _ _ s3 rfl⟩
    . rw [List.length_map, t2] at h2
      exact k _ D (s1.trans s2) (s1.free hD) h2
abbrev s_served_by : Stmt := top 43
theorem sc_served_by : FnScope ["reach", "posts", "seen", "v"] ["reach", "posts"] (defScope s_served_by) := ⟨rfl, rfl, rfl, by decide +kernel, rfl, by decide +kernel, by decide +kernel⟩
theorem d_served_by (F : Fd K mg "served_by" s_served_by) (D_members : Dn P w K mg base 2 "members" ["group"] sp_members) : Dn P w K mg base 3 "served_by" ["reach", "posts"] sp_served_by := by
  refine F.dn sc_served_by (fun _ _ _ _ _ _ us hl => match us, hl with | [_, _], _ => rfl) (fun vs H Q E h => ?_) (fun f cdv A outer s H vs Q E hr h => ?_)
  . obtain ⟨q, s, r, l, rfl, _⟩ := h; rfl
  . obtain ⟨q, s, r, l, rfl, hq, hlen, hl, k⟩ := h
    refine ⟨_, (pss_cons (ps_set (i := 2) sc_served_by.nd rfl (Or.inl rfl) pe_int)
      (pss_cons (ps_for PassesOwn.never rfl (pi_list (pe_dn D_members hr (pa_cons (pv 1) pa_nil))) (pg_name (i := 3) sc_served_by.nd rfl (Or.inl rfl))
        (pss_one (ps_set (i := 2) sc_served_by.nd rfl (Or.inl rfl) (pe_op op_or (pv 2) (pe_ix ix_list (pv 0) (pv 3) (fun _ _ => rfl))))))
      (pss_one (ps_ret (pv 2))))), ?_⟩
    refine ⟨_, rfl, _, s.length, rfl, setOf_lt _ _, by omega, fun H1 m s1 hm hml => ?_⟩
    rw [setOf_filter] at hml
    refine ⟨m, rfl, ⟨_, SqL.of hml⟩, for_list (K := K) (a := m) (xs := ((List.range s.length).filter fun x => l.contains x).map nv) (fun i σ H' => ∃ v1, σ = [some (.ref q), some (nv (setOf s.length l)), some (nv (srv s r (((List.range s.length).filter fun x => l.contains x).take i))), v1] /\ Same H1 H') ⟨none, ?_, Same.refl _⟩ (fun i σ H' _ ⟨_, _, s2⟩ => SqL.of (s2 _ _ hml)) ?_ ?_⟩
    . have : srv s r (((List.range s.length).filter fun x => l.contains x).take 0) = 0 := VT.mask_zero
      rw [this]; rfl
    . rintro i x σ H2 hi ⟨v1, rfl, s2⟩
      obtain ⟨v, hv⟩ : ∃ v, ((List.range s.length).filter fun x => l.contains x)[i]? = some v := by
        rw [List.getElem?_map] at hi
        cases e : ((List.range s.length).filter fun x => l.contains x)[i]? with
        | none => rw [e] at hi; cases hi
        | some g => exact ⟨g, rfl⟩
      rw [List.getElem?_map, hv] at hi
      cases hi
      have hvl : v < s.length := by simpa using (List.mem_filter.mp (List.mem_of_getElem? hv)).1
      refine ⟨_, rfl, _, rfl, _, rfl, q, _, _, _, rfl, rfl, SqL.of (s2 _ _ (s1 _ _ hq)), atI_nat (rchL_at hvl), _, _, rfl, rfl, some (nv v), ?_, s2⟩
      have e1 : srv s r (((List.range s.length).filter fun x => l.contains x).take i) ||| rch s r v = srv s r (((List.range s.length).filter fun x => l.contains x).take (i + 1)) := by
        unfold srv rch
        rw [VT.mask_or, List.take_add_one, hv]
        apply VT.mask_congr
        intro y _
        unfold servB
        rw [List.any_append]
        simp
      have e2 := bor (srv s r (((List.range s.length).filter fun x => l.contains x).take i)) (rch s r v)
      rw [e1] at e2
      show [some (V.ref q), some (nv (setOf s.length l)), some (V.int (Builtin.bitOr _ _)), some (nv v)] = _
      rw [e2]
    . rintro σ H2 ⟨v1, rfl, s2⟩
      refine ⟨_, rfl, cv (k _ (s1.trans s2)) (congrArg nv ?_)⟩
      rw [List.length_map, List.take_length]
      unfold srv
      apply VT.mask_congr
      intro y _
      exact any_filter hl _
end
end VV
namespace VV
open PySem PySem.Spec PyProof.Rows L2
open Km457 (Valley at_)
def rest (n : Nat) (nd : List Nat) : List Nat := (List.range n).filter fun x => !nd.contains x
def suf (n : Nat) (nd : List Nat) (j : Nat) : List Nat := ((List.range n).drop (n - j)).filter fun x => !nd.contains x
theorem suf_zero (n : Nat) (nd : List Nat) : suf n nd 0 = [] := by
  unfold suf
  rw [Nat.sub_zero, List.drop_of_length_le (by simp)]; rfl
theorem suf_all (n : Nat) (nd : List Nat) : suf n nd n = rest n nd := by
  unfold suf rest
  rw [Nat.sub_self]; rfl
theorem suf_succ {n j : Nat} (nd : List Nat) (h : j < n) : suf n nd (j + 1) = if nd.contains (n - 1 - j) = true then suf n nd j else (n - 1 - j) :: suf n nd j := by
  unfold suf
  have e : n - (j + 1) = n - 1 - j := by omega
  have e2 : n - j = n - 1 - j + 1 := by omega
  rw [e, List.drop_eq_getElem_cons (by simp; omega), List.getElem_range, List.filter_cons, <- e2]
  cases nd.contains (n - 1 - j) <;> simp
theorem suf_len {n j : Nat} {nd : List Nat} (hj : j <= n) : (suf n nd j).length <= j := by
  unfold suf
  refine Nat.le_trans (List.length_filter_le _ _) ?_
  rw [List.length_drop, List.length_range]; omega
theorem sets_count : ∀ l : List Nat, (Km458.sets l).length = 2 ^ l.length
  | [] => rfl
  | p :: l => by
    rw [Km458.sets, List.length_append, List.length_map, sets_count l, List.length_cons, Nat.pow_succ]
    omega
theorem setOf_or {n k : Nat} {a q : List Nat} (h : k < n) : setOf n (a ++ q) ||| 2 ^ k = setOf n (a ++ k :: q) := by
  unfold setOf
  rw [VT.mask_one h, VT.mask_or]
  apply VT.mask_congr
  intro x _
  rw [Bool.eq_iff_iff]
  simp only [Bool.or_eq_true, List.contains_iff_mem, decide_eq_true_eq, List.mem_append, List.mem_cons]
  constructor
  . rintro ((h | h) | h)
    . exact .inl h
    . exact .inr (.inr h)
    . exact .inr (.inl h)
  . rintro (h | h | h)
    . exact .inl (.inl h)
    . exact .inr h
    . exact .inl (.inr h)
theorem srv_or {s : Valley} {r k : Nat} {a q : List Nat} : srv s r (a ++ q) ||| rch s r k = srv s r (a ++ k :: q) := by
  unfold srv rch
  rw [VT.mask_or]
  apply VT.mask_congr
  intro x _
  unfold servB
  rw [List.any_append, List.any_append, List.any_cons]
  cases a.any (fun v => decide (Km457.far s v x <= r)) <;> cases q.any (fun v => decide (Km457.far s v x <= r)) <;> simp
theorem tab_len (s : Valley) : (Km458.table s).length = s.length := by unfold Km458.table Km457.all; simp
theorem tab_dist {s : Valley} {v w : Nat} (hv : v < s.length) (hw : w < s.length) : Km458.dist (Km458.table s) v w = Km457.far s v w := by
  unfold Km458.dist Km458.table Km457.all
  have h1 : (List.map (fun v => List.map (fun w => Km457.far s v w) (List.range s.length)) (List.range s.length)).getD v [] = List.map (fun w => Km457.far s v w) (List.range s.length) := by
    rw [List.getD_eq_getElem?_getD, List.getElem?_map, List.getElem?_range hv]; rfl
  rw [h1, List.getD_eq_getElem?_getD, List.getElem?_map, List.getElem?_range hw]
  rfl
theorem served_eq {s : Valley} {r w : Nat} {l : List Nat} (hl : ∀ x ∈ l, x < s.length) (hw : w < s.length) : Km458.served (Km458.table s) r l w = servB s r l w := by
  unfold Km458.served servB
  rw [Bool.eq_iff_iff, List.any_eq_true, List.any_eq_true]
  constructor
  . rintro ⟨x, hx, h⟩
    exact ⟨x, hx, by rw [<- tab_dist (hl x hx) hw]; exact h⟩
  . rintro ⟨x, hx, h⟩
    exact ⟨x, hx, by rw [tab_dist (hl x hx) hw]; exact h⟩
theorem serves_eq {s : Valley} {r : Nat} {l : List Nat} (hl : ∀ x ∈ l, x < s.length) : Km458.serves (Km458.table s) r l (List.range s.length) = decide (srv s r l = VT.mask s.length fun _ => true) := by
  unfold Km458.serves
  rw [Bool.eq_iff_iff, List.all_eq_true, decide_eq_true_eq]
  constructor
  . intro h
    unfold srv
    apply VT.mask_congr
    intro w hw
    rw [<- served_eq hl hw]
    exact h w (by simpa using hw)
  . intro h w hw
    have hw' : w < s.length := by simpa using hw
    rw [served_eq hl hw']
    exact VT.mask_inj h w hw'
def few (s : Valley) (r : Nat) (nd : List Nat) : List Nat := ((Km458.sets (rest s.length nd)).filter fun q => Km458.serves (Km458.table s) r (nd ++ q) (List.range s.length)).foldl Km458.fewer (rest s.length nd)
theorem filter_idx {α β : Type} (p : α -> Bool) (f : α -> β) (d : α) : ∀ l : List α, ((List.range l.length).filter fun k => p (l.getD k d)).map (fun k => f (l.getD k d)) = (l.filter p).map f := by
  intro l
  induction l with
  | nil => rfl
  | cons a l ih =>
    rw [List.length_cons, List.range_succ_eq_map, List.filter_cons, List.filter_map]
    have h1 : (List.range l.length).filter ((fun k => p ((a :: l).getD k d)) ∘ Nat.succ) = (List.range l.length).filter fun k => p (l.getD k d) := by
      apply List.filter_congr
      intro x _
      simp
    have h2 : (a :: l).getD 0 d = a := rfl
    rw [h1, h2, List.filter_cons]
    cases e : p a
    . simp only [Bool.false_eq_true, if_false]
      rw [List.map_map, <- ih]
      rfl
    . simp only [if_true]
      rw [List.map_cons, List.map_cons, List.map_map, <- ih, h2]
      rfl
theorem first_one {α : Type} {l : List α} {kf : α -> Nat} {i i' : Nat} {x x' : α} (hx : l[i]? = some x) (h : ∀ (j : Nat) (y : α), l[j]? = some y -> kf x <= kf y /\ (j < i -> kf x < kf y))
    (hx' : l[i']? = some x') (h' : ∀ (j : Nat) (y : α), l[j]? = some y -> kf x' <= kf y /\ (j < i' -> kf x' < kf y)) : x = x' := by
  have a1 := h i' x' hx'
  have a2 := h' i x hx
  by_cases e : i = i'
  . subst e
    rw [hx] at hx'
    exact Option.some.inj hx'
  . by_cases h3 : i < i'
    . have := a2.2 h3; omega
    . have := a1.2 (by omega); omega
theorem pop_set {s : Valley} {nd q : List Nat} (hn : nd.Nodup) (hl : ∀ x ∈ nd, x < s.length) (hq : q ∈ Km458.sets (rest s.length nd)) : VT.pop (setOf s.length (nd ++ q)) = nd.length + q.length := by
  have hsub := VT.sets_sub hq
  have hqn : q.Nodup := hsub.nodup (List.nodup_range.filter _)
  have hnd : (nd ++ q).Nodup := by
    refine List.nodup_append.mpr ⟨hn, hqn, fun a ha b hb e => ?_⟩
    subst e
    have := (List.mem_filter.mp (VT.sets_mem hq a hb)).2
    simp [ha] at this
  have hlt : ∀ x ∈ nd ++ q, x < s.length := by
    intro x hx
    rcases List.mem_append.mp hx with h | h
    . exact hl x h
    . simpa using (List.mem_filter.mp (VT.sets_mem hq x h)).1
  unfold setOf
  rw [<- VT.bits_mask hnd hlt, VT.pop_bits hnd hlt, List.length_append]
theorem enough_all {s : Valley} (G : Good s) {r : Nat} {nd : List Nat} (hl : ∀ x ∈ nd, x < s.length) : Km458.serves (Km458.table s) r (nd ++ rest s.length nd) (List.range s.length) = true := by
  have hlt : ∀ x ∈ nd ++ rest s.length nd, x < s.length := by
    intro x hx
    rcases List.mem_append.mp hx with h | h
    . exact hl x h
    . simpa using (List.mem_filter.mp h).1
  rw [serves_eq hlt, decide_eq_true_eq]
  unfold srv
  apply VT.mask_congr
  intro w hw
  unfold servB
  rw [List.any_eq_true]
  refine ⟨w, ?_, by rw [VT.far_self G.wf hw]; simp⟩
  rw [List.mem_append]
  by_cases e : w ∈ nd
  . exact .inl e
  . exact .inr (List.mem_filter.mpr ⟨by simpa using hw, by simp [e]⟩)
end VV
namespace VV
open PySem PySem.Spec PyProof.Rows L2
open Km457 (Valley at_)
def orV (n : Nat) : V -> V
  | .int z => .int (Builtin.bitOr z n)
  | x => x
def gsL (s : Valley) (nd : List Nat) (j : Nat) : List V := VT.dbl (fun q => nv (setOf s.length (nd ++ q))) (suf s.length nd j)
def svL (s : Valley) (r : Nat) (nd : List Nat) (j : Nat) : List V := VT.dbl (fun q => nv (srv s r (nd ++ q))) (suf s.length nd j)
theorem gs_len {s : Valley} {nd : List Nat} {j : Nat} (h : s.length <= 10) (hj : j <= s.length) : (gsL s nd j).length <= 1024 := by
  unfold gsL VT.dbl
  rw [List.length_map, sets_count]
  have := suf_len (nd := nd) hj
  exact Nat.le_trans (Nat.pow_le_pow_right (by decide) (show _ <= 10 by omega)) (by decide)
theorem sv_len {s : Valley} {r : Nat} {nd : List Nat} {j : Nat} : (svL s r nd j).length = (gsL s nd j).length := by
  unfold gsL svL VT.dbl
  rw [List.length_map, List.length_map]
theorem gs_step {s : Valley} {nd : List Nat} {j : Nat} (h : j < s.length) (hk : nd.contains (s.length - 1 - j) = false) : gsL s nd j ++ (gsL s nd j).map (orV (2 ^ (s.length - 1 - j))) = gsL s nd (j + 1) := by
  unfold gsL
  rw [suf_succ nd h, if_neg (by rw [hk]; decide), VT.dbl_cons _ (orV (2 ^ (s.length - 1 - j)))]
  intro q _
  show nv _ = V.int (Builtin.bitOr _ _)
  rw [bor, setOf_or (by omega)]
theorem sv_step {s : Valley} {r : Nat} {nd : List Nat} {j : Nat} (h : j < s.length) (hk : nd.contains (s.length - 1 - j) = false) : svL s r nd j ++ (svL s r nd j).map (orV (rch s r (s.length - 1 - j))) = svL s r nd (j + 1) := by
  unfold svL
  rw [suf_succ nd h, if_neg (by rw [hk]; decide), VT.dbl_cons _ (orV (rch s r (s.length - 1 - j)))]
  intro q _
  show nv _ = V.int (Builtin.bitOr _ _)
  rw [bor, srv_or]
theorem nvL_int {xs : List V} {α : Type} {l : List α} {f : α -> Nat} (e : xs = l.map fun q => nv (f q)) {i : Nat} {x : V} (h : xs[i]? = some x) : ∃ q, l[i]? = some q /\ x = nv (f q) := by
  subst e
  rw [List.getElem?_map] at h
  cases e : l[i]? with
  | none => rw [e] at h; cases h
  | some q => rw [e] at h; exact ⟨q, rfl, (Option.some.inj h).symm⟩
def keyV : V -> Int
  | .int z => ((VT.pop z.toNat : Nat) : Int)
  | _ => 0
theorem few_is {s : Valley} (G : Good s) {r : Nat} {nd : List Nat} (hn : nd.Nodup) (hl : ∀ x ∈ nd, x < s.length) {xs : List V} (ex : xs = ((Km458.sets (rest s.length nd)).filter fun q => Km458.serves (Km458.table s) r (nd ++ q) (List.range s.length)).map fun q => nv (setOf s.length (nd ++ q)))
    {i : Nat} {x : V} (hx : xs[i]? = some x) (best : ∀ (j : Nat) (y : V), xs[j]? = some y -> keyV x <= keyV y /\ (j < i -> keyV x < keyV y)) : x = nv (setOf s.length (nd ++ few s r nd)) := by
  obtain ⟨q, hq, rfl⟩ := nvL_int ex hx
  have hall := enough_all G (r := r) hl
  obtain ⟨i', h1, h2, h3⟩ := VT.fewest_first (l := rest s.length nd) (ok := fun q => Km458.serves (Km458.table s) r (nd ++ q) (List.range s.length)) hall
  have key : ∀ q, q ∈ (Km458.sets (rest s.length nd)).filter (fun q => Km458.serves (Km458.table s) r (nd ++ q) (List.range s.length)) -> keyV (nv (setOf s.length (nd ++ q))) = ((nd.length + q.length : Nat) : Int) := by
    intro q hq
    have hq' := (List.mem_filter.mp hq).1
    show ((VT.pop ((setOf s.length (nd ++ q) : Nat) : Int).toNat : Nat) : Int) = _
    rw [Int.toNat_natCast, pop_set hn hl hq']
  have : q = few s r nd := by
    refine VV.first_one (kf := fun q => q.length) hq (fun j y hy => ?_) h1 (fun j y hy => ⟨h2 j y hy, fun hlt => h3 j y hlt hy⟩)
    have b := best j (nv (setOf s.length (nd ++ y))) (by rw [ex, List.getElem?_map, hy]; rfl)
    rw [key q (List.mem_of_getElem? hq), key y (List.mem_of_getElem? hy)] at b
    exact ⟨by omega, fun hlt => by have := b.2 hlt; omega⟩
  rw [this]
def sp_fewest_with (C : Addr) : Sp := fun vs H Q _ => ∃ a s c b p, ∃ (r : Nat) (nd : List Nat), vs = [.ref a, nv r, nv (setOf s.length nd)] /\ VA C H a s c b p /\ Good s /\ nd.Nodup /\ (∀ x ∈ nd, x < s.length) /\ ∀ H', Same H H' -> Q (nv (setOf s.length (nd ++ few s r nd))) H'
section
variable {P : Program} {w : World} {K : PySem.W.Frag} {mg : Str -> Option Value} {base : Heap} {C : Addr}
abbrev s_fewest_with : Stmt := top 44
theorem sc_fewest_with : FnScope ["valley", "r", "needed", "reach", "groups", "served", "k", "group", "seen", "everyone", "enough"] ["valley", "r", "needed"] (defScope s_fewest_with) := ⟨rfl, rfl, rfl, by decide +kernel, rfl, by decide +kernel, by decide +kernel⟩
theorem d_fewest_with (T : Txt mg) (F : Fd K mg "fewest_with" s_fewest_with) (D_reaches : Dn P w K mg base 3 "reaches" ["valley", "r"] (sp_reaches C)) (D_served_by : Dn P w K mg base 3 "served_by" ["reach", "posts"] sp_served_by) (D_holds : Dn P w K mg base 1 "holds" ["group", "v"] sp_holds)
    (D_one : Dn P w K mg base 1 "one" ["v"] sp_one) (D_first_villages : Dn P w K mg base 1 "first_villages" ["count"] sp_first_villages) (D_size : Dn P w K mg base 1 "size" ["group"] sp_size) : Dn P w K mg base 4 "fewest_with" ["valley", "r", "needed"] (sp_fewest_with C) := by
  refine F.dn sc_fewest_with (fun _ _ _ _ _ _ us hl => match us, hl with | [_, _, _], _ => rfl) (fun vs H Q E h => ?_) (fun f cdv A outer s H vs Q E hr h => ?_)
  . obtain ⟨a, s, c, b, p, r, nd, rfl, _⟩ := h; rfl
  . obtain ⟨a, s, c, b, p, r, nd, rfl, hV, G, hn, hl, k⟩ := h
    refine ⟨_, (pss_cons (ps_set (i := 3) sc_fewest_with.nd rfl (Or.inr rfl) (pe_dn D_reaches hr (pa_cons (pv 0) (pa_cons (pv 1) pa_nil))))
      (pss_cons (ps_set (i := 4) sc_fewest_with.nd rfl (Or.inr rfl) (pe_lst (pa_cons (pv 2) pa_nil)))
      (pss_cons (ps_set (i := 5) sc_fewest_with.nd rfl (Or.inr rfl) (pe_lst (pa_cons (pe_dn D_served_by hr (pa_cons (pv 3) (pa_cons (pv 2) pa_nil))) pa_nil)))
      (pss_cons (ps_for PassesOwn.never rfl (pi_range3 rfl T.range (pa_cons (pe_op op_sub (pe_callB call_len_seq rfl T.len PySem.boot_len (pa_cons (pv 3) pa_nil)) pe_int) (pa_cons (pe_un un_neg pe_int) (pa_cons (pe_un un_neg pe_int) pa_nil)))) (pg_name (i := 6) sc_fewest_with.nd rfl (Or.inr rfl))
        (pss_one (ps_if (pt_not (pt_val (pe_dn D_holds hr (pa_cons (pv 2) (pa_cons (pv 6) pa_nil))))) (pss_cons (ps_set (i := 4) sc_fewest_with.nd rfl (Or.inr rfl) (pe_op op_cat (pv 4) (pe_lc rfl sc_fewest_with.nd (pi_list (pv 4)) (blkOk_by (own := [("group", 7)]) rfl) (fun _ _ _ _ _ => pg_name (i := 7) sc_fewest_with.nd rfl (Or.inl rfl)) (fun _ _ _ _ _ => by exact pts_nil) (fun _ _ _ _ _ => by exact (pe_op op_or (pv 7) (pe_dn D_one hr (pa_cons (pv 6) pa_nil)))))))
      (pss_one (ps_set (i := 5) sc_fewest_with.nd rfl (Or.inr rfl) (pe_op op_cat (pv 5) (pe_lc rfl sc_fewest_with.nd (pi_list (pv 5)) (blkOk_by (own := [("seen", 8)]) rfl) (fun _ _ _ _ _ => pg_name (i := 8) sc_fewest_with.nd rfl (Or.inl rfl)) (fun _ _ _ _ _ => by exact pts_nil) (fun _ _ _ _ _ => by exact (pe_op op_or (pv 8) (pe_ixK K (pv 3) (pv 6) (fun _ _ => rfl))))))))) pss_nil)))
      (pss_cons (ps_set (i := 9) sc_fewest_with.nd rfl (Or.inr rfl) (pe_dn D_first_villages hr (pa_cons (pe_callB call_len_seq rfl T.len PySem.boot_len (pa_cons (pv 3) pa_nil)) pa_nil)))
      (pss_cons (ps_setLc (i := 10) (y := "enough") rfl sc_fewest_with.nd rfl rfl (sw_true rfl rfl rfl rfl) (pi_range1 rfl T.range (pa_cons (pe_callB call_len_seq rfl T.len PySem.boot_len (pa_cons (pv 4) pa_nil)) pa_nil)) (blkOk_by (own := [("k", 6)]) rfl) (fun _ _ _ _ _ => pg_name (i := 6) sc_fewest_with.nd rfl (Or.inl rfl)) (fun _ _ _ _ _ => by exact (pts_one (pt_cmpR op_eq (pe_ixK K (pv 5) (pv 6) (fun _ _ => rfl)) (pv 9) (nomark _)))) (fun _ _ _ _ _ => by exact (pe_ixK K (pv 4) (pv 6) (fun _ _ => rfl))))
      (pss_one (ps_ret (pe_minkey T.min D_size hr (pa_cons (pv 10) pa_nil)))))))))), ?_⟩
    have hlen := G.len
    have hpos := G.wf.pos
    refine ⟨_, rfl, _, rfl, a, s, c, b, p, r, rfl, hV, G, fun H1 q s1 hq hR => ?_⟩
    refine ⟨_, rfl, (by show 1 <= sizeLine; decide), fun g0 hg0 => ?_⟩
    have s2 : Same H1 (upd H1 g0 (.lst [nv (setOf s.length nd)])) := (Same.refl H1).new hg0
    refine ⟨_, rfl, _, rfl, q, s, r, nd, rfl, s2 _ _ hR, hlen, hl, fun H2 s3 => ⟨(by show 1 <= sizeLine; decide), fun v0 hv0 => ?_⟩⟩
    have hg2 : H2 g0 = some (.lst [nv (setOf s.length nd)]) := s3 _ _ upd_same
    have s4 : Same H1 (upd H2 v0 (.lst [nv (srv s r nd)])) := (s2.trans s3).new hv0
    have hg3 : (upd H2 v0 (.lst [nv (srv s r nd)])) g0 = some (.lst [nv (setOf s.length nd)]) := by rw [upd_ne (ne_of_none hg2 hv0)]; exact hg2
    refine ⟨_, rfl, q, _, rfl, .inl (SqL.of (s4 _ _ hR)), _, _, rfl, rfl, _, rfl, _, rfl, _, _, _, _, rfl, RgC.neg (by rw [rchL_len]; omega) (by rw [rchL_len]; omega) (by omega) (by omega), ?_⟩
    rw [rchL_len]
    have en : ((s.length : Int) - 1 - -1).toNat = s.length := by omega
    rw [en]
    have z1 : gsL s nd 0 = [nv (setOf s.length nd)] := by unfold gsL VT.dbl; rw [suf_zero]; simp [Km458.sets]
    have z2 : svL s r nd 0 = [nv (srv s r nd)] := by unfold svL VT.dbl; rw [suf_zero]; simp [Km458.sets]
    refine for_rangeC (fun i σ H' => ∃ v6 g v, σ = [some (.ref a), some (nv r), some (nv (setOf s.length nd)), some (.ref q), some (.ref g), some (.ref v), v6, none, none, none, none] /\ Same H1 H' /\ H' g = some (.lst (gsL s nd i)) /\ H' v = some (.lst (svL s r nd i))) ⟨none, g0, v0, rfl, s4, by rw [z1]; exact hg3, by rw [z2]; exact upd_same⟩ ?_ ?_
    . rintro i σ H3 hi ⟨v6, g, v, rfl, s5, hg, hv⟩
      have ei : (s.length : Int) - 1 + (i : Nat) * (-1) = ((s.length - 1 - i : Nat) : Int) := by omega
      rw [ei]
      have hk : s.length - 1 - i < s.length := by omega
      refine ⟨_, rfl, _, rfl, _, s.length - 1 - i, rfl, _, rfl, iteB (c := !nd.contains (s.length - 1 - i)) (by rw [setOf_bit hk]) (fun hp => ?_) (fun hp => ?_)⟩
      . have hp' : nd.contains (s.length - 1 - i) = false := by simpa using hp
        have gl := gs_len (nd := nd) hlen (Nat.le_of_lt hi)
        refine ⟨_, rfl, _, rfl, g, rfl, ⟨_, SqL.of hg⟩, fun D hD => ?_⟩
        refine lc_lst (orV (2 ^ (s.length - 1 - i))) hD (by omega) (SqL.of hg) (fun j x H4 hx s6 Nx n1 => ?_) (fun H4 s6 h4 => ?_)
        . obtain ⟨y, _, rfl⟩ := nvL_int (l := Km458.sets (suf s.length nd i)) (f := fun q => setOf s.length (nd ++ q)) rfl hx
          exact ⟨rfl, yes ⟨_, rfl, _, rfl, s.length - 1 - i, rfl, by omega, _, _, rfl, rfl, n1 _ _ (Same.refl _) rfl⟩⟩
        . refine ⟨g, D, _, _, rfl, rfl, s6 _ _ hg, h4, ?_, fun g' hg' => ?_⟩
          . rw [List.length_map]; exact Nat.le_of_lt (small_line (by omega))
          . have s7 : Same H3 (upd H4 g' (.lst (gsL s nd i ++ (gsL s nd i).map (orV (2 ^ (s.length - 1 - i)))))) := s6.new hg'
            rw [gs_step hi hp'] at s7 ⊢
            have sl : (svL s r nd i).length <= 1024 := by rw [sv_len]; exact gl
            refine ⟨_, rfl, _, rfl, v, rfl, ⟨_, SqL.of (s7 _ _ hv)⟩, fun D2 hD2 => ?_⟩
            refine lc_lst (orV (rch s r (s.length - 1 - i))) hD2 (by omega) (SqL.of (s7 _ _ hv)) (fun j x H5 hx s8 Nx n1 => ?_) (fun H5 s8 h5 => ?_)
            . obtain ⟨y, _, rfl⟩ := nvL_int (l := Km458.sets (suf s.length nd i)) (f := fun q => srv s r (nd ++ q)) rfl hx
              exact ⟨rfl, yes ⟨_, rfl, _, rfl, _, rfl, q, _, _, _, rfl, rfl, SqL.of (s8 _ _ (s7 _ _ (s5 _ _ hR))), atI_nat (rchL_at hk), _, _, rfl, rfl, n1 _ _ (Same.refl _) rfl⟩⟩
            . refine ⟨v, D2, _, _, rfl, rfl, s8 _ _ (s7 _ _ hv), h5, ?_, fun v' hv' => ?_⟩
              . rw [List.length_map]; exact Nat.le_of_lt (small_line (by omega))
              . rw [sv_step hi hp']
                have hgg : H5 g' = some (.lst (gsL s nd (i + 1))) := s8 _ _ upd_same
                exact ⟨_, g', v', rfl, (s5.trans (s7.trans s8)).new hv', by rw [upd_ne (ne_of_none hgg hv')]; exact hgg, upd_same⟩
      . have hp' : nd.contains (s.length - 1 - i) = true := by simpa using hp
        refine ⟨_, g, v, rfl, s5, ?_, ?_⟩
        . rw [hg]; unfold gsL; rw [suf_succ nd hi, if_pos hp']
        . rw [hv]; unfold svL; rw [suf_succ nd hi, if_pos hp']
    . rintro σ H3 ⟨v6, g, v, rfl, s5, hg, hv⟩
      have gl := gs_len (nd := nd) hlen (Nat.le_refl s.length)
      refine ⟨_, rfl, q, _, rfl, .inl (SqL.of (s5 _ _ hR)), s.length, by rw [rchL_len]; rfl, by omega, ?_⟩
      refine ⟨_, rfl, g, _, rfl, .inl (SqL.of hg), _, rfl, by omega, by omega, fun D hD => ?_⟩
      rw [Int.toNat_natCast]
      have eg : (gsL s nd s.length).length = (Km458.sets (rest s.length nd)).length := by unfold gsL VT.dbl; rw [List.length_map, suf_all]
      rw [eg]
      refine lc_rng (fun j => Km458.serves (Km458.table s) r (nd ++ (Km458.sets (rest s.length nd)).getD j []) (List.range s.length)) (fun j => nv (setOf s.length (nd ++ (Km458.sets (rest s.length nd)).getD j []))) hD (by rw [<- eg]; omega) (fun i H4 hi s6 Nx n0 n1 => ?_) (fun H4 s6 h4 => ?_)
      . have ei : (0 : Int) + (i : Nat) = ((i : Nat) : Int) := by omega
        rw [ei]
        obtain ⟨qi, hqi⟩ : ∃ qi, (Km458.sets (rest s.length nd))[i]? = some qi := ⟨_, List.getElem?_eq_getElem hi⟩
        have eqi : (Km458.sets (rest s.length nd)).getD i [] = qi := by rw [List.getD_eq_getElem?_getD, hqi]; rfl
        rw [eqi] at n0 n1
        have hg4 : (gsL s nd s.length)[i]? = some (nv (setOf s.length (nd ++ qi))) := by unfold gsL VT.dbl; rw [suf_all, List.getElem?_map, hqi]; rfl
        have hv4 : (svL s r nd s.length)[i]? = some (nv (srv s r (nd ++ qi))) := by unfold svL VT.dbl; rw [suf_all, List.getElem?_map, hqi]; rfl
        have hlt : ∀ x ∈ nd ++ qi, x < s.length := by
          intro x hx
          rcases List.mem_append.mp hx with h | h
          . exact hl x h
          . simpa using (List.mem_filter.mp (VT.sets_mem (List.mem_of_getElem? hqi) x h)).1
        refine ⟨rfl, _, rfl, _, rfl, v, _, _, _, rfl, rfl, SqL.of (s6 _ _ hv), atI_nat hv4, _, rfl, rfl, _, rfl, iteB ?_ (fun hp => ⟨_, rfl, _, rfl, g, _, _, _, rfl, rfl, SqL.of (s6 _ _ hg), atI_nat hg4, n1 hp _ _ (Same.refl _) rfl⟩) (fun hp => n0 hp _ (Same.refl _))⟩
        rw [V.ncast, serves_eq hlt, VT.mask_full]
      . rw [filter_idx (fun q => Km458.serves (Km458.table s) r (nd ++ q) (List.range s.length)) (fun q => nv (setOf s.length (nd ++ q))) []] at h4
        refine ⟨_, rfl, D, _, keyV, rfl, SqL.of h4, ?_, fun x hx H' s7 => ?_, fun i x H5 hx best s7 => ?_⟩
        . rw [List.length_map]
          exact List.length_pos_of_mem (List.mem_filter.mpr ⟨VT.sets_self _, enough_all G hl⟩)
        . obtain ⟨y, _, rfl⟩ := List.mem_map.mp hx
          refine ⟨_, rfl, ?_, rfl⟩
          show nv _ = V.int ((VT.pop ((setOf s.length (nd ++ y) : Nat) : Int).toNat : Nat) : Int)
          rw [Int.toNat_natCast]
        . rw [few_is G hn hl rfl hx best]
          exact k _ (s1.trans (s5.trans (s6.trans s7)))
end
end VV
namespace VV
open PySem PySem.Spec PyProof.Rows L2
open Km457 (Valley at_)
theorem setOf_nil (n : Nat) : setOf n [] = 0 := VT.mask_zero
theorem setOf_one {n c : Nat} (h : c < n) : setOf n [c] = 2 ^ c := by
  rw [VT.mask_one h]
  apply VT.mask_congr
  intro i _
  by_cases e : i = c
  . simp [e]
  . simp [e]
theorem few_nil (s : Valley) (r : Nat) : few s r [] = Km458.fewest (Km458.table s) r := by
  have h : rest s.length [] = List.range s.length := List.filter_eq_self.mpr fun _ _ => rfl
  unfold few Km458.fewest
  rw [h, tab_len]
  rfl
theorem few_one (s : Valley) (c r : Nat) : [c] ++ few s r [c] = Km462.withSchool s c r := by
  unfold few Km462.withSchool Km458.add rest
  rw [tab_len]
  rfl
def sp_fewest_posts (C : Addr) : Sp := fun vs H Q _ => ∃ a s c b p, ∃ r : Nat, vs = [.ref a, nv r] /\ VA C H a s c b p /\ Good s /\ ∀ H', Same H H' -> Q (nv (setOf s.length (Km458.fewest (Km458.table s) r))) H'
def sp_posts_with_schools (C : Addr) : Sp := fun vs H Q _ => ∃ a s c b p, ∃ r : Nat, vs = [.ref a, nv r] /\ VA C H a s c b p /\ Good s /\ c < s.length /\ ∀ H', Same H H' -> Q (nv (setOf s.length (Km462.withSchool s c r))) H'
def sp_unserved (C : Addr) : Sp := fun vs H Q _ => ∃ a s c b, ∃ (r : Nat) (l : List Nat), vs = [.ref a, nv r] /\ VA C H a s c b (setOf s.length l) /\ Good s /\ (∀ x ∈ l, x < s.length) /\ ∀ H', Same H H' -> Q (nv (VT.mask s.length fun w => !servB s r l w)) H'
section
variable {P : Program} {w : World} {K : PySem.W.Frag} {mg : Str -> Option Value} {base : Heap} {C : Addr}
abbrev s_fewest_posts : Stmt := top 45
theorem sc_fewest_posts : FnScope ["valley", "r"] ["valley", "r"] (defScope s_fewest_posts) := ⟨rfl, rfl, rfl, by decide +kernel, rfl, by decide +kernel, by decide +kernel⟩
theorem d_fewest_posts (F : Fd K mg "fewest_posts" s_fewest_posts) (D_fewest_with : Dn P w K mg base 4 "fewest_with" ["valley", "r", "needed"] (sp_fewest_with C)) : Dn P w K mg base 5 "fewest_posts" ["valley", "r"] (sp_fewest_posts C) := by
  refine F.dn sc_fewest_posts (fun _ _ _ _ _ _ us hl => match us, hl with | [_, _], _ => rfl) (fun vs H Q E h => ?_) (fun f cdv A outer s H vs Q E hr h => ?_)
  . obtain ⟨a, s, c, b, p, r, rfl, _⟩ := h; rfl
  . obtain ⟨a, s, c, b, p, r, rfl, hV, G, k⟩ := h
    refine ⟨_, (pss_one (ps_ret (pe_dn D_fewest_with hr (pa_cons (pv 0) (pa_cons (pv 1) (pa_cons pe_int pa_nil)))))), ?_⟩
    refine ⟨_, rfl, _, rfl, a, s, c, b, p, r, [], by rw [setOf_nil]; rfl, hV, G, by simp, by simp, fun H1 s1 => ?_⟩
    rw [List.nil_append, few_nil]
    exact k _ s1
abbrev s_posts_with_schools : Stmt := top 46
theorem sc_posts_with_schools : FnScope ["valley", "r"] ["valley", "r"] (defScope s_posts_with_schools) := ⟨rfl, rfl, rfl, by decide +kernel, rfl, by decide +kernel, by decide +kernel⟩
theorem d_posts_with_schools (Z : Vc K C) (F : Fd K mg "posts_with_schools" s_posts_with_schools) (D_fewest_with : Dn P w K mg base 4 "fewest_with" ["valley", "r", "needed"] (sp_fewest_with C)) (D_one : Dn P w K mg base 1 "one" ["v"] sp_one) : Dn P w K mg base 5 "posts_with_schools" ["valley", "r"] (sp_posts_with_schools C) := by
  refine F.dn sc_posts_with_schools (fun _ _ _ _ _ _ us hl => match us, hl with | [_, _], _ => rfl) (fun vs H Q E h => ?_) (fun f cdv A outer s H vs Q E hr h => ?_)
  . obtain ⟨a, s, c, b, p, r, rfl, _⟩ := h; rfl
  . obtain ⟨a, s, c, b, p, r, rfl, hV, G, hc, k⟩ := h
    refine ⟨_, (pss_one (ps_ret (pe_dn D_fewest_with hr (pa_cons (pv 0) (pa_cons (pv 1) (pa_cons (pe_dn D_one hr (pa_cons (pe_fld (pv 0) rfl) pa_nil)) pa_nil)))))), ?_⟩
    obtain ⟨dx, ch, up, rd, hP⟩ := id hV
    have hlen := G.len
    refine ⟨_, rfl, _, rfl, _, rfl, a, C, dx, _, _, rfl, hP.ins, Z.cl, Z.sc, vf_sc, c, rfl, by omega, a, s, c, b, p, r, [c], by rw [setOf_one hc]; rfl, hV, G, by simp, by simpa using hc, fun H1 s1 => ?_⟩
    rw [few_one]
    exact k _ s1
abbrev s_unserved : Stmt := top 47
theorem sc_unserved : FnScope ["valley", "r", "everyone"] ["valley", "r"] (defScope s_unserved) := ⟨rfl, rfl, rfl, by decide +kernel, rfl, by decide +kernel, by decide +kernel⟩
theorem d_unserved (Z : Vc K C) (F : Fd K mg "unserved" s_unserved) (D_how_many_villages : Dn P w K mg base 1 "how_many_villages" ["valley"] (sp_how_many_villages C)) (D_first_villages : Dn P w K mg base 1 "first_villages" ["count"] sp_first_villages) (D_without : Dn P w K mg base 1 "without" ["group", "others"] sp_without)
    (D_served_by : Dn P w K mg base 3 "served_by" ["reach", "posts"] sp_served_by) (D_reaches : Dn P w K mg base 3 "reaches" ["valley", "r"] (sp_reaches C)) : Dn P w K mg base 4 "unserved" ["valley", "r"] (sp_unserved C) := by
  refine F.dn sc_unserved (fun _ _ _ _ _ _ us hl => match us, hl with | [_, _], _ => rfl) (fun vs H Q E h => ?_) (fun f cdv A outer s H vs Q E hr h => ?_)
  . obtain ⟨a, s, c, b, r, l, rfl, _⟩ := h; rfl
  . obtain ⟨a, s, c, b, r, l, rfl, hV, G, hl, k⟩ := h
    refine ⟨_, (pss_cons (ps_set (i := 2) sc_unserved.nd rfl (Or.inl rfl) (pe_dn D_first_villages hr (pa_cons (pe_dn D_how_many_villages hr (pa_cons (pv 0) pa_nil)) pa_nil)))
      (pss_one (ps_ret (pe_dn D_without hr (pa_cons (pv 2) (pa_cons (pe_dn D_served_by hr (pa_cons (pe_dn D_reaches hr (pa_cons (pv 0) (pa_cons (pv 1) pa_nil))) (pa_cons (pe_fld (pv 0) rfl) pa_nil))) pa_nil)))))), ?_⟩
    have hlen := G.len
    refine ⟨_, rfl, a, s, c, b, _, rfl, hV, s.length, rfl, by omega, ?_⟩
    refine ⟨_, rfl, _, rfl, _, rfl, a, s, c, b, _, r, rfl, hV, G, fun H1 q s1 hq hR => ?_⟩
    obtain ⟨dx, ch, up, rd, hP⟩ := hV.same s1
    refine ⟨_, rfl, a, C, dx, _, _, rfl, hP.ins, Z.cl, Z.po, vf_po, q, s, r, l, rfl, hR, hlen, hl, fun H2 s2 => ?_⟩
    refine ⟨_, _, rfl, cv (k _ (s1.trans s2)) (congrArg nv ?_)⟩
    unfold srv
    rw [VT.mask_full, VT.mask_and, VT.mask_sub.1]
    apply VT.mask_congr
    intro x _; simp
end
end VV
namespace VV
open PySem PySem.Spec PyProof.Rows L2
open Km457 (Valley at_)
def payR (s : Valley) (c : Nat) (l : List Nat) (r : Nat) : Nat := Km462.PARTS * (2 * (at_ s r).long) / Km462.users s c l r
def payS (s : Valley) (c : Nat) (l : List Nat) (v i : Nat) : Nat := (((List.range i).filter fun j => Km462.uses s c (j + 1) v).map fun j => payR s c l (j + 1)).sum
theorem payS_succ (s : Valley) (c : Nat) (l : List Nat) (v i : Nat) : payS s c l v (i + 1) = payS s c l v i + if Km462.uses s c (i + 1) v = true then payR s c l (i + 1) else 0 := by
  unfold payS
  rw [List.range_succ, List.filter_append, List.map_append, List.sum_append]
  cases e : Km462.uses s c (i + 1) v <;> simp [e]
theorem payS_all {s : Valley} (hpos : 0 < s.length) (c : Nat) (l : List Nat) (v : Nat) : payS s c l v (s.length - 1) = Km462.pays s c l v := by
  unfold payS Km462.pays Km457.all
  rw [VT.sum462, filter_shift s.length (fun r => Km462.uses s c r v) (fun r => Km462.PARTS * (2 * (at_ s r).long) / Km462.users s c l r) hpos]
  rfl
theorem sharing_bit {s : Valley} (W : VT.WF s) {c v r : Nat} {l : List Nat} (hc : c < s.length) (hv : v < s.length) (hm : v ∈ l) (r0 : 0 < r) (hr : r < s.length) : (over (setOf s.length l) c (und s r)).testBit v = Km462.uses s c r v := by
  rw [over_eq hc, VT.testBit_mask, VT.uses_eq W hc hv r0 hr]
  simp [hv, hm]
theorem sharing_pop {s : Valley} (W : VT.WF s) {c r : Nat} {l : List Nat} (hc : c < s.length) (hn : l.Nodup) (hl : ∀ x ∈ l, x < s.length) (r0 : 0 < r) (hr : r < s.length) : VT.pop (over (setOf s.length l) c (und s r)) = Km462.users s c l r := by
  rw [over_eq hc, VT.pop_mask, VT.count_of hn hl]
  unfold Km462.users
  congr 1
  apply List.filter_congr
  intro x hx
  exact (VT.uses_eq W hc (hl x hx) r0 hr).symm
theorem users_le {s : Valley} {c r : Nat} {l : List Nat} (hn : l.Nodup) (hl : ∀ x ∈ l, x < s.length) (h : s.length <= 10) : Km462.users s c l r <= 10 := by
  unfold Km462.users
  refine Nat.le_trans (List.length_filter_le _ _) (Nat.le_trans (VT.len_sub (b := List.range s.length) hn fun x hx => by simpa using hl x hx) ?_)
  rw [List.length_range]; exact h
def sp_parts_paid (C : Addr) : Sp := fun vs H Q _ => ∃ a s c b p, ∃ (v : Nat) (l : List Nat), vs = [.ref a, nv v, nv (setOf s.length l)] /\ VA C H a s c b p /\ Good s /\ c < s.length /\ l.Nodup /\ (∀ x ∈ l, x < s.length) /\ v ∈ l /\ ∀ H', Same H H' -> Q (nv (Km462.pays s c l v)) H'
def sp_parts_saved (C : Addr) : Sp := fun vs H Q _ => ∃ a s c p, ∃ (l g : List Nat), vs = [.ref a, nv (setOf s.length g)] /\ VA C H a s c (setOf s.length l) p /\ Good s /\ c < s.length /\ l.Nodup /\ (∀ x ∈ l, x < s.length) /\ (∀ x ∈ g, x ∈ l) /\ g = (List.range s.length).filter g.contains /\
  ∀ H', Same H H' -> Q (nv (Km462.PARTS * Km460.round s c g - (g.map (Km462.pays s c l)).sum)) H'
def sp_greatest_divisor : Sp := fun vs H Q _ => ∃ a b : Nat, vs = [nv a, nv b] /\ Q (nv (Nat.gcd a b)) H
def sp_fraction : Sp := fun vs H Q _ => ∃ n : Nat, vs = [nv n] /\ ∀ H' q, Same H H' -> H q = none -> H' q = some (.lst [nv (n / Nat.gcd n 2520), nv (2520 / Nat.gcd n 2520)]) -> Q (.ref q) H'
def sp_adds (C : Addr) : Sp := fun vs H Q _ => ∃ a s c b p, ∃ (v : Nat) (l : List Nat), vs = [.ref a, nv v, nv (setOf s.length l)] /\ VA C H a s c b p /\ Good s /\ c < s.length /\ v < s.length /\ (∀ x ∈ l, x < s.length) /\ ∀ H', Same H H' -> Q (nv (Km462.adds s c l v)) H'
def sp_orders : Sp := fun vs H Q _ => ∃ n : Nat, vs = [nv n] /\ n <= 10 /\ Q (nv (VT.fact n)) H
section
variable {P : Program} {w : World} {K : PySem.W.Frag} {mg : Str -> Option Value} {base : Heap} {C : Addr}
abbrev s_parts_paid : Stmt := top 50
theorem sc_parts_paid : FnScope ["valley", "v", "riders", "under", "paid", "w", "sharing"] ["valley", "v", "riders"] (defScope s_parts_paid) := ⟨rfl, rfl, rfl, by decide +kernel, rfl, by decide +kernel, by decide +kernel⟩
theorem d_parts_paid (T : Txt mg) (Z : Vc K C) (F : Fd K mg "parts_paid" s_parts_paid) (D_beneath : Dn P w K mg base 2 "beneath" ["valley"] (sp_beneath C)) (D_how_many_villages : Dn P w K mg base 1 "how_many_villages" ["valley"] (sp_how_many_villages C)) (D_riders_over : Dn P w K mg base 2 "riders_over" ["riders", "school", "under"] sp_riders_over)
    (D_holds : Dn P w K mg base 1 "holds" ["group", "v"] sp_holds) (D_size : Dn P w K mg base 1 "size" ["group"] sp_size) : Dn P w K mg base 3 "parts_paid" ["valley", "v", "riders"] (sp_parts_paid C) := by
  refine F.dn sc_parts_paid (fun _ _ _ _ _ _ us hl => match us, hl with | [_, _, _], _ => rfl) (fun vs H Q E h => ?_) (fun f cdv A outer s H vs Q E hr h => ?_)
  . obtain ⟨a, s, c, b, p, v, l, rfl, _⟩ := h; rfl
  . obtain ⟨a, s, c, b, p, v, l, rfl, hV, G, hc, hn, hl, hm, k⟩ := h
    refine ⟨_, (pss_cons (ps_set (i := 3) sc_parts_paid.nd rfl (Or.inl rfl) (pe_dn D_beneath hr (pa_cons (pv 0) pa_nil)))
      (pss_cons (ps_set (i := 4) sc_parts_paid.nd rfl (Or.inl rfl) pe_int)
      (pss_cons (ps_for PassesOwn.never rfl (pi_range2 rfl T.range (pa_cons pe_int (pa_cons (pe_dn D_how_many_villages hr (pa_cons (pv 0) pa_nil)) pa_nil))) (pg_name (i := 5) sc_parts_paid.nd rfl (Or.inl rfl))
        (pss_cons (ps_set (i := 6) sc_parts_paid.nd rfl (Or.inl rfl) (pe_dn D_riders_over hr (pa_cons (pv 2) (pa_cons (pe_fld (pv 0) rfl) (pa_cons (pe_ix ix_list (pv 3) (pv 5) (fun _ _ => rfl)) pa_nil)))))
      (pss_one (ps_if (pt_val (pe_dn D_holds hr (pa_cons (pv 6) (pa_cons (pv 1) pa_nil)))) (pss_one (ps_aug (i := 4) sc_parts_paid.nd rfl (Or.inl rfl) (pe_op op_mul (pe_op op_mul pe_int (pe_ix ix_list (pe_fld (pv 0) rfl) (pv 5) (fun _ _ => rfl))) (pe_op op_fdiv (pe_gi T.PARTS) (pe_dn D_size hr (pa_cons (pv 6) pa_nil)))) ip_add)) pss_nil))))
      (pss_one (ps_ret (pv 4)))))), ?_⟩
    have hlen := G.len
    have hpos := G.wf.pos
    have hv := hl v hm
    refine ⟨_, rfl, a, s, c, b, p, rfl, hV, G, fun H1 q s1 hq hU => ?_⟩
    refine ⟨_, rfl, a, s, c, b, p, rfl, hV.same s1, 1, (s.length : Int), rfl, ⟨by omega, by omega, by omega, by omega⟩, ?_⟩
    have en : ((s.length : Int) - 1).toNat = s.length - 1 := by omega
    rw [en]
    refine for_range (fun i σ H' => H' = H1 /\ ∃ v1 v2, σ = [some (.ref a), some (nv v), some (nv (setOf s.length l)), some (.ref q), some (nv (payS s c l v i)), v1, v2]) ⟨rfl, none, none, rfl⟩ ?_ ?_
    . rintro i σ H2 hi ⟨rfl, v1, v2, rfl⟩
      have ei : (1 : Int) + (i : Nat) = ((i + 1 : Nat) : Int) := by omega
      rw [ei]
      have hi' : i + 1 < s.length := by omega
      obtain ⟨dx, ch, up, rd, hP⟩ := hV.same s1
      refine ⟨_, rfl, _, rfl, a, C, dx, _, _, rfl, hP.ins, Z.cl, Z.sc, vf_sc, _, rfl, _, rfl, q, _, _, _, rfl, rfl, SqL.of hU, atI_nat (undL_at hi'), _, _, _, rfl, ?_⟩
      refine ⟨_, rfl, _, rfl, _, v, rfl, _, rfl, iteB (sharing_bit G.wf hc hv hm (by omega) hi') (fun hp => ?_) (fun hp => ?_)⟩
      . have hu0 : 0 < Km462.users s c l (i + 1) := by
          unfold Km462.users
          exact List.length_pos_of_mem (List.mem_filter.mpr ⟨hm, hp⟩)
        have hu1 := users_le (c := c) (r := i + 1) hn hl hlen
        have hlo := G.long (i + 1)
        refine ⟨_, rfl, _, rfl, a, C, dx, _, _, rfl, hP.ins, Z.cl, Z.rd, vf_rd, _, rfl, rd, _, _, _, rfl, rfl, SqL.of hP.rd, atI_nat (roads_at hi'), _, _, rfl, rfl, .inl ⟨by decide, by decide⟩, _, rfl, _, rfl, ?_⟩
        rw [sharing_pop G.wf hc hn hl (by omega) hi']
        refine ⟨_, _, rfl, rfl, ⟨by omega, by omega⟩, _, _, rfl, rfl, .inl ⟨by omega, by omega⟩, _, _, rfl, rfl, rfl, some (nv (i + 1)), some (nv (over (setOf s.length l) c (und s (i + 1)))), ?_⟩
        have e1 : ((payS s c l v i : Nat) : Int) + 2 * ((at_ s (i + 1)).long : Int) * (2520 / ((Km462.users s c l (i + 1) : Nat) : Int)) = ((payS s c l v (i + 1) : Nat) : Int) := by
          rw [payS_succ, if_pos hp]
          unfold payR
          have h1 : Km462.PARTS * (2 * (at_ s (i + 1)).long) / Km462.users s c l (i + 1) = 2 * (at_ s (i + 1)).long * (2520 / Km462.users s c l (i + 1)) := VT.share_eq hu0 hu1
          rw [h1, Int.natCast_add, Int.natCast_mul, Int.natCast_mul, Int.natCast_ediv]
          rfl
        show [some (V.ref a), some (nv v), some (nv (setOf s.length l)), some (V.ref q), some (V.int (((payS s c l v i : Nat) : Int) + 2 * ((at_ s (i + 1)).long : Int) * (2520 / ((Km462.users s c l (i + 1) : Nat) : Int)))), some (nv (i + 1)), some (nv (over (setOf s.length l) c (und s (i + 1))))] = _
        rw [e1]
      . refine ⟨rfl, some (nv (i + 1)), some (nv (over (setOf s.length l) c (und s (i + 1)))), ?_⟩
        rw [payS_succ, if_neg (by rw [hp]; decide)]
        rfl
    . rintro σ H2 ⟨rfl, v1, v2, rfl⟩
      refine ⟨_, rfl, ?_⟩
      rw [payS_all hpos]
      exact k _ s1
abbrev s_greatest_divisor : Stmt := top 52
theorem sc_greatest_divisor : FnScope ["a", "b", "left", "right", "rest"] ["a", "b"] (defScope s_greatest_divisor) := ⟨rfl, rfl, rfl, by decide +kernel, rfl, by decide +kernel, by decide +kernel⟩
theorem d_greatest_divisor (F : Fd K mg "greatest_divisor" s_greatest_divisor) : Dn P w K mg base 1 "greatest_divisor" ["a", "b"] sp_greatest_divisor := by
  refine F.dn sc_greatest_divisor (fun _ _ _ _ _ _ us hl => match us, hl with | [_, _], _ => rfl) (fun vs H Q E h => ?_) (fun f cdv A outer s H vs Q E hr h => ?_)
  . obtain ⟨a, b, rfl, _⟩ := h; rfl
  . obtain ⟨a, b, rfl, k⟩ := h
    refine ⟨_, (pss_cons (ps_set (i := 2) sc_greatest_divisor.nd rfl (Or.inl rfl) (pv 0))
      (pss_cons (ps_set (i := 3) sc_greatest_divisor.nd rfl (Or.inl rfl) (pv 1))
      (pss_cons (ps_while PassesOwn.never (pt_cmpR op_gt (pv 3) pe_int (nomark _)) (pss_cons (ps_set (i := 4) sc_greatest_divisor.nd rfl (Or.inl rfl) (pe_op op_mod (pv 2) (pv 3)))
      (pss_cons (ps_set (i := 2) sc_greatest_divisor.nd rfl (Or.inl rfl) (pv 3))
      (pss_one (ps_set (i := 3) sc_greatest_divisor.nd rfl (Or.inl rfl) (pv 4))))))
      (pss_one (ps_ret (pv 2)))))), ?_⟩
    refine ⟨_, rfl, _, rfl, ?_⟩
    refine while_by (fun σ H' => H' = H /\ ∃ (x y : Nat) (v4 : Option V), σ = [some (nv a), some (nv b), some (nv x), some (nv y), v4] /\ Nat.gcd x y = Nat.gcd a b) (fun σ _ => match σ with | [_, _, _, some (.int r), _] => r.toNat | _ => 0) ⟨rfl, a, b, none, rfl, rfl⟩ ?_ ?_
    . rintro σ H' ⟨rfl, x, y, v4, rfl, hg⟩
      refine ⟨_, rfl, _, _, rfl, rfl, _, rfl, ?_⟩
      refine ite2 (fun hp => ?_) (fun hp => ?_)
      . have hy0 : 0 < y := by have := of_decide_eq_true hp; omega
        refine ⟨_, rfl, _, rfl, _, _, rfl, rfl, (by show (0 : Int) < (y : Int); omega), ?_⟩
        refine ⟨_, rfl, _, rfl, ?_⟩
        have e1 : (x : Int) % (y : Int) = ((x % y : Nat) : Int) := by omega
        refine ⟨⟨rfl, y, x % y, some (nv (x % y)), ?_, ?_⟩, ?_⟩
        . show [some (nv a), some (nv b), some (nv y), some (V.int ((x : Int) % (y : Int))), some (V.int ((x : Int) % (y : Int)))] = _
          rw [e1]
        . rw [<- hg, Nat.gcd_comm x y, Nat.gcd_rec y x, Nat.gcd_comm]
        . show ((x : Int) % (y : Int)).toNat < ((y : Int)).toNat
          rw [e1]
          have := Nat.mod_lt x hy0
          omega
      . have hy0 : y = 0 := by
          have : ¬ (0 : Int) < (y : Int) := fun z => hp (decide_eq_true z)
          omega
        subst hy0
        rw [Nat.gcd_zero_right] at hg
        refine ⟨_, rfl, ?_⟩
        rw [hg]
        exact k
    . rintro σ H' Q1 Q2 hq ⟨x, h1, i, j, h2, h3, b, h4, h5⟩
      exact ⟨x, h1, i, j, h2, h3, b, h4, hq _ _ h5⟩
abbrev s_fraction : Stmt := top 53
theorem sc_fraction : FnScope ["parts", "divisor"] ["parts"] (defScope s_fraction) := ⟨rfl, rfl, rfl, by decide +kernel, rfl, by decide +kernel, by decide +kernel⟩
theorem d_fraction (T : Txt mg) (F : Fd K mg "fraction" s_fraction) (D_greatest_divisor : Dn P w K mg base 1 "greatest_divisor" ["a", "b"] sp_greatest_divisor) : Dn P w K mg base 2 "fraction" ["parts"] sp_fraction := by
  refine F.dn sc_fraction (fun _ _ _ _ _ _ us hl => match us, hl with | [_], _ => rfl) (fun vs H Q E h => ?_) (fun f cdv A outer s H vs Q E hr h => ?_)
  . obtain ⟨n, rfl, _⟩ := h; rfl
  . obtain ⟨n, rfl, k⟩ := h
    refine ⟨_, (pss_cons (ps_set (i := 1) sc_fraction.nd rfl (Or.inl rfl) (pe_dn D_greatest_divisor hr (pa_cons (pv 0) (pa_cons (pe_gi T.PARTS) pa_nil))))
      (pss_one (ps_ret (pe_lst (pa_cons (pe_op op_fdiv (pv 0) (pv 1)) (pa_cons (pe_op op_fdiv (pe_gi T.PARTS) (pv 1)) pa_nil)))))), ?_⟩
    have hg0 : 0 < Nat.gcd n 2520 := Nat.gcd_pos_of_pos_right _ (by decide)
    have hg1 : Nat.gcd n 2520 <= 2520 := Nat.le_of_dvd (by decide) (Nat.gcd_dvd_right _ _)
    refine ⟨_, rfl, n, 2520, rfl, ?_⟩
    refine ⟨_, rfl, _, rfl, _, _, rfl, rfl, ⟨by omega, by omega⟩, _, rfl, _, _, rfl, rfl, ⟨by omega, by omega⟩, (by show 2 <= sizeLine; decide), fun q hq => ?_⟩
    refine k _ q ((Same.refl H).new hq) hq ?_
    rw [upd_same]
    show some (HO.lst [V.int ((n : Int) / ((Nat.gcd n 2520 : Nat) : Int)), V.int ((2520 : Int) / ((Nat.gcd n 2520 : Nat) : Int))]) = _
    rw [<- Int.natCast_ediv, show (2520 : Int) = ((2520 : Nat) : Int) from rfl, <- Int.natCast_ediv]
abbrev s_orders : Stmt := top 55
theorem sc_orders : FnScope ["count", "found", "k"] ["count"] (defScope s_orders) := ⟨rfl, rfl, rfl, by decide +kernel, rfl, by decide +kernel, by decide +kernel⟩
theorem d_orders (T : Txt mg) (F : Fd K mg "orders" s_orders) : Dn P w K mg base 1 "orders" ["count"] sp_orders := by
  refine F.dn sc_orders (fun _ _ _ _ _ _ us hl => match us, hl with | [_], _ => rfl) (fun vs H Q E h => ?_) (fun f cdv A outer s H vs Q E hr h => ?_)
  . obtain ⟨n, rfl, _⟩ := h; rfl
  . obtain ⟨n, rfl, hn, k⟩ := h
    refine ⟨_, (pss_cons (ps_set (i := 1) sc_orders.nd rfl (Or.inl rfl) pe_int)
      (pss_cons (ps_for PassesOwn.never rfl (pi_range2 rfl T.range (pa_cons pe_int (pa_cons (pe_op op_add (pv 0) pe_int) pa_nil))) (pg_name (i := 2) sc_orders.nd rfl (Or.inl rfl))
        (pss_one (ps_set (i := 1) sc_orders.nd rfl (Or.inl rfl) (pe_op op_mul (pv 1) (pv 2)))))
      (pss_one (ps_ret (pv 1))))), ?_⟩
    refine ⟨_, rfl, _, _, rfl, rfl, 2, (n : Int) + 1, rfl, ⟨by omega, by omega, by omega, by omega⟩, ?_⟩
    have en : ((n : Int) + 1 - 2).toNat = n - 1 := by omega
    rw [en]
    refine for_range (fun i σ H' => H' = H /\ ∃ v2, σ = [some (nv n), some (nv (VT.fact (i + 1))), v2]) ⟨rfl, none, rfl⟩ ?_ ?_
    . rintro i σ H2 hi ⟨rfl, v2, rfl⟩
      have ei : (2 : Int) + (i : Nat) = ((i + 2 : Nat) : Int) := by omega
      rw [ei]
      refine ⟨_, rfl, _, rfl, _, _, rfl, rfl, .inr ⟨by omega, by omega⟩, rfl, some (nv (i + 2)), ?_⟩
      have e1 : ((VT.fact (i + 1) : Nat) : Int) * ((i + 2 : Nat) : Int) = ((VT.fact (i + 1 + 1) : Nat) : Int) := by
        rw [<- Int.natCast_mul, Nat.mul_comm]; rfl
      show [some (nv n), some (V.int (((VT.fact (i + 1) : Nat) : Int) * ((i + 2 : Nat) : Int))), some (nv (i + 2))] = _
      rw [e1]
    . rintro σ H2 ⟨rfl, v2, rfl⟩
      refine ⟨_, rfl, cv k (congrArg nv ?_)⟩
      by_cases e : n = 0
      . subst e; rfl
      . rw [show n - 1 + 1 = n by omega]
abbrev s_adds : Stmt := top 54
theorem sc_adds : FnScope ["valley", "v", "before", "longer"] ["valley", "v", "before"] (defScope s_adds) := ⟨rfl, rfl, rfl, by decide +kernel, rfl, by decide +kernel, by decide +kernel⟩
theorem d_adds (Z : Vc K C) (F : Fd K mg "adds" s_adds) (D_round_length : Dn P w K mg base 4 "round_length" ["valley", "school", "riders"] (sp_round_length C)) (D_one : Dn P w K mg base 1 "one" ["v"] sp_one) : Dn P w K mg base 5 "adds" ["valley", "v", "before"] (sp_adds C) := by
  refine F.dn sc_adds (fun _ _ _ _ _ _ us hl => match us, hl with | [_, _, _], _ => rfl) (fun vs H Q E h => ?_) (fun f cdv A outer s H vs Q E hr h => ?_)
  . obtain ⟨a, s, c, b, p, v, l, rfl, _⟩ := h; rfl
  . obtain ⟨a, s, c, b, p, v, l, rfl, hV, G, hc, hv, hl, k⟩ := h
    refine ⟨_, (pss_cons (ps_set (i := 3) sc_adds.nd rfl (Or.inl rfl) (pe_dn D_round_length hr (pa_cons (pv 0) (pa_cons (pe_fld (pv 0) rfl) (pa_cons (pe_op op_or (pv 2) (pe_dn D_one hr (pa_cons (pv 1) pa_nil))) pa_nil)))))
      (pss_one (ps_ret (pe_op op_sub (pv 3) (pe_dn D_round_length hr (pa_cons (pv 0) (pa_cons (pe_fld (pv 0) rfl) (pa_cons (pv 2) pa_nil)))))))), ?_⟩
    have hlen := G.len
    obtain ⟨dx, ch, up, rd, hP⟩ := id hV
    have e1 : Builtin.bitOr ((setOf s.length l : Nat) : Int) ((2 ^ v : Nat) : Int) = ((setOf s.length (l ++ [v]) : Nat) : Int) := by
      have := setOf_or (a := l) (q := []) hv
      rw [List.append_nil] at this
      rw [bor, this]
    refine ⟨_, rfl, _, rfl, a, C, dx, _, _, rfl, hP.ins, Z.cl, Z.sc, vf_sc, _, rfl, _, rfl, v, rfl, by omega, _, _, rfl, rfl, a, s, c, b, p, c, l ++ [v], ?_, hV, G, hc, ?_, fun H1 s1 => ?_⟩
    . show [V.ref a, nv c, V.int (Builtin.bitOr ((setOf s.length l : Nat) : Int) ((2 ^ v : Nat) : Int))] = _
      rw [e1]
    . intro x hx
      rcases List.mem_append.mp hx with h | h
      . exact hl x h
      . have : x = v := by simpa using h
        rw [this]; exact hv
    . have hP1 := hP.same s1
      refine ⟨_, rfl, _, rfl, _, rfl, a, C, dx, _, _, rfl, hP1.ins, Z.cl, Z.sc, vf_sc, _, rfl, a, s, c, b, p, c, l, rfl, hV.same s1, G, hc, hl, fun H2 s2 => ?_⟩
      refine ⟨_, _, rfl, rfl, cv (k _ (s1.trans s2)) (congrArg V.int ?_)⟩
      have : Km460.round s c l <= Km460.round s c (l ++ [v]) := VT.round_mono fun x hx => List.mem_append_left _ hx
      show ((Km460.round s c (l ++ [v]) : Nat) : Int) - ((Km460.round s c l : Nat) : Int) = ((Km460.round s c (l ++ [v]) - Km460.round s c l : Nat) : Int)
      omega
abbrev s_parts_saved : Stmt := top 51
theorem sc_parts_saved : FnScope ["valley", "group", "alone", "paid", "v"] ["valley", "group"] (defScope s_parts_saved) := ⟨rfl, rfl, rfl, by decide +kernel, rfl, by decide +kernel, by decide +kernel⟩
theorem d_parts_saved (T : Txt mg) (Z : Vc K C) (F : Fd K mg "parts_saved" s_parts_saved) (D_round_length : Dn P w K mg base 4 "round_length" ["valley", "school", "riders"] (sp_round_length C)) (D_parts_paid : Dn P w K mg base 3 "parts_paid" ["valley", "v", "riders"] (sp_parts_paid C)) (D_members : Dn P w K mg base 2 "members" ["group"] sp_members) : Dn P w K mg base 5 "parts_saved" ["valley", "group"] (sp_parts_saved C) := by
  refine F.dn sc_parts_saved (fun _ _ _ _ _ _ us hl => match us, hl with | [_, _], _ => rfl) (fun vs H Q E h => ?_) (fun f cdv A outer s H vs Q E hr h => ?_)
  . obtain ⟨a, s, c, p, l, g, rfl, _⟩ := h; rfl
  . obtain ⟨a, s, c, p, l, g, rfl, hV, G, hc, hn, hl, hgl, hg, k⟩ := h
    refine ⟨_, (pss_cons (ps_set (i := 2) sc_parts_saved.nd rfl (Or.inl rfl) (pe_dn D_round_length hr (pa_cons (pv 0) (pa_cons (pe_fld (pv 0) rfl) (pa_cons (pv 1) pa_nil)))))
      (pss_cons (ps_set (i := 3) sc_parts_saved.nd rfl (Or.inl rfl) (pe_callB (cr_sum rfl) rfl T.sum boot_sum (pa_cons (pe_lc rfl sc_parts_saved.nd (pi_list (pe_dn D_members hr (pa_cons (pv 1) pa_nil))) (blkOk_by (own := [("v", 4)]) rfl) (fun _ _ _ _ _ => pg_name (i := 4) sc_parts_saved.nd rfl (Or.inl rfl)) (fun _ _ _ _ _ => by exact pts_nil) (fun _ _ _ _ _ => by exact (pe_dn D_parts_paid hr (pa_cons (pv 0) (pa_cons (pv 4) (pa_cons (pe_fldK K (pv 0) rfl) pa_nil)))))) pa_nil)))
      (pss_one (ps_ret (pe_op op_sub (pe_op op_mul (pe_gi T.PARTS) (pv 2)) (pv 3)))))), ?_⟩
    have hlen := G.len
    have hgn : g.Nodup := by rw [hg]; exact List.nodup_range.filter _
    obtain ⟨dx, ch, up, rd, hP⟩ := id hV
    refine ⟨_, rfl, _, rfl, a, C, dx, _, _, rfl, hP.ins, Z.cl, Z.sc, vf_sc, _, rfl, a, s, c, _, p, c, g, rfl, hV, G, hc, fun x hx => hl x (hgl x hx), fun H1 s1 => ?_⟩
    refine ⟨_, rfl, _, s.length, rfl, setOf_lt _ _, by omega, fun H2 m s2 hm hml => ?_⟩
    rw [setOf_filter, <- hg] at hml
    refine ⟨m, rfl, ⟨_, SqL.of hml⟩, fun D hD => ?_⟩
    have hgl2 : g.length <= 10 := Nat.le_trans (VT.len_sub (b := List.range s.length) hgn fun x hx => by simpa using hl x (hgl x hx)) (by rw [List.length_range]; exact hlen)
    refine lc_lstI (fun i => nv (Km462.pays s c l (g.getD i 0))) hD (by rw [List.length_map]; omega) (SqL.of hml) (fun i x H3 hx s3 R n1 => ?_) (fun H3 s3 h3 => ?_) (gName_mono _)
    . obtain ⟨v, hv, rfl⟩ := nvL_int (l := g) (f := fun x => x) rfl hx
      have ev : g.getD i 0 = v := by rw [List.getD_eq_getElem?_getD, hv]; rfl
      rw [ev] at n1
      have hvg : v ∈ g := List.mem_of_getElem? hv
      have hP3 := hP.same (s1.trans (s2.trans s3))
      exact ⟨rfl, _, rfl, _, rfl, _, rfl, a, C, dx, _, _, rfl, hP3.ins, Z.cl, Z.ri, vf_ri, a, s, c, _, p, v, l, rfl, hV.same (s1.trans (s2.trans s3)), G, hc, hn, hl, hgl v hvg, fun H4 s4 => n1 _ _ s4 rfl⟩
    . delta tNil
      refine sumq h3 ?_
      have e1 : ((List.range (List.map nv g).length).map fun i => Km462.pays s c l (g.getD i 0)) = g.map (Km462.pays s c l) := by
        rw [List.length_map]
        apply List.ext_getElem?
        intro i
        by_cases h : i < g.length
        . rw [List.getElem?_map, List.getElem?_range h, List.getElem?_map, List.getElem?_eq_getElem h]
          show some (Km462.pays s c l (g.getD i 0)) = some (Km462.pays s c l g[i])
          rw [List.getD_eq_getElem?_getD, List.getElem?_eq_getElem h]; rfl
        . rw [List.getElem?_eq_none (by simp; omega), List.getElem?_eq_none (by simp; omega)]
      rw [e1]
      refine ⟨_, rfl, _, _, rfl, rfl, .inl ⟨by decide, by decide⟩, _, rfl, _, _, rfl, rfl, cv (k _ (s1.trans (s2.trans s3))) (congrArg V.int ?_)⟩
      have := VT.saves_le (s := s) (c := c) hgn hgl
      have e2 : (2520 : Int) * ((Km460.round s c g : Nat) : Int) = ((Km462.PARTS * Km460.round s c g : Nat) : Int) := by rw [Int.natCast_mul]; rfl
      rw [e2]
      omega
end
end VV
namespace VV
open PySem PySem.Spec PyProof.Rows L2
open Km457 (Valley at_)
theorem len_split (p : Nat -> Bool) : ∀ l : List Nat, (l.filter fun x => !p x).length + (l.filter p).length = l.length
  | [] => rfl
  | a :: l => by
    have := len_split p l
    rw [List.filter_cons, List.filter_cons]
    cases e : p a <;> simp only [Bool.not_false, Bool.not_true, if_true, Bool.false_eq_true, if_false, List.length_cons] <;> omega
def lof (n x : Nat) : List Nat := (List.range n).filter x.testBit
theorem setOf_lof {n x : Nat} (h : x < 2 ^ n) : setOf n (lof n x) = x := by
  apply Nat.eq_of_testBit_eq
  intro i
  unfold setOf lof
  rw [VT.testBit_mask]
  by_cases hi : i < n
  . rw [Bool.eq_iff_iff]
    simp [hi]
  . rw [Nat.testBit_lt_two_pow (Nat.lt_of_lt_of_le h (Nat.pow_le_pow_right (by decide) (by omega)))]
    simp [hi]
theorem pop_lof {n x : Nat} (h : x < 2 ^ n) : VT.pop x = (lof n x).length := by
  have e := setOf_lof h
  have : VT.pop (setOf n (lof n x)) = (lof n x).length := by
    unfold setOf
    rw [VT.pop_mask]
    congr 1
    unfold lof
    apply List.filter_congr
    intro i hi
    have hi' : i < n := by simpa using hi
    rw [Bool.eq_iff_iff]; simp [hi']
  rw [e] at this
  exact this
theorem pop_le {n x : Nat} (h : x < 2 ^ n) : VT.pop x <= n := by
  rw [pop_lof h]
  unfold lof
  exact Nat.le_trans (List.length_filter_le _ _) (by simp)
theorem lof_set {n : Nat} {l : List Nat} (hl : l = (List.range n).filter l.contains) : lof n (setOf n l) = l := by
  unfold lof
  rw [setOf_filter, <- hl]
theorem fact_le : ∀ k, k <= 10 -> VT.fact k <= 3628800 := by
  intro k hk
  have : k = 0 \/ k = 1 \/ k = 2 \/ k = 3 \/ k = 4 \/ k = 5 \/ k = 6 \/ k = 7 \/ k = 8 \/ k = 9 \/ k = 10 := by omega
  rcases this with h | h | h | h | h | h | h | h | h | h | h <;> subst h <;> decide
theorem set_but {n v : Nat} {l : List Nat} (hv : v < n) : setOf n l - (setOf n l &&& 2 ^ v) = setOf n (l.filter fun x => x != v) := by
  unfold setOf
  rw [VT.mask_one hv, VT.mask_and, VT.mask_sub.1]
  apply VT.mask_congr
  intro i _
  rw [Bool.eq_iff_iff]
  simp
theorem canon_filter {n : Nat} {l : List Nat} (hl : l = (List.range n).filter l.contains) (p : Nat -> Bool) : l.filter p = (List.range n).filter (l.filter p).contains := by
  conv => lhs; rw [hl, List.filter_filter]
  apply List.filter_congr
  intro x _
  rw [Bool.eq_iff_iff]
  simp only [Bool.and_eq_true, List.contains_iff_mem, List.mem_filter]
  exact ⟨fun h => ⟨h.2, h.1⟩, fun h => ⟨h.2, h.1⟩⟩
def ahead (s : Valley) (c v o x : Nat) : Nat := VT.fact (VT.pop x) * VT.fact (VT.pop (o - (o &&& x))) * Km462.adds s c (lof s.length x) v
theorem ahead_sum {s : Valley} {c v : Nat} {l : List Nat} (hl : l = (List.range s.length).filter l.contains) (hv : v ∈ l) (hvn : v < s.length) :
    VT.L ((List.range (setOf s.length (l.filter fun x => x != v) + 1)).filter fun x => decide (x - (x &&& setOf s.length (l.filter fun x => x != v)) = 0)) (ahead s c v (setOf s.length (l.filter fun x => x != v))) = (Km462.meanOf s c l v).1 := by
  have hn : l.Nodup := by rw [hl]; exact List.nodup_range.filter _
  rw [VT.subsets_sum (setOf_lt _ _), (VT.mean_eq (s := s) (c := c) hn hv).1]
  have hc := canon_filter hl fun x => x != v
  have e0 : (List.range s.length).filter (setOf s.length (l.filter fun x => x != v)).testBit = l.filter fun x => x != v := lof_set hc
  rw [e0]
  apply VT.L_congr
  intro q hq
  have hsub := VT.sets_sub hq
  have hon : (l.filter fun x => x != v).Nodup := hn.filter _
  have hqn : q.Nodup := hsub.nodup hon
  have hlt : ∀ x ∈ l.filter fun x => x != v, x < s.length := by
    intro x hx
    rw [hc] at hx
    simpa using (List.mem_filter.mp hx).1
  have hqlt : ∀ x ∈ q, x < s.length := fun x hx => hlt x (hsub.subset hx)
  have eb : Km462.bits q = setOf s.length q := VT.bits_mask hqn hqlt
  unfold ahead
  rw [VT.pop_bits hqn hqlt, eb]
  have e1 : VT.pop (setOf s.length (l.filter fun x => x != v) - (setOf s.length (l.filter fun x => x != v) &&& setOf s.length q)) = (l.filter fun x => x != v).length - q.length := by
    unfold setOf
    rw [VT.mask_and, VT.mask_sub.1, VT.pop_mask, VT.count_of hon hlt fun x => !q.contains x]
    have : ((l.filter fun x => x != v).filter fun x => !q.contains x).length + ((l.filter fun x => x != v).filter fun x => q.contains x).length = (l.filter fun x => x != v).length := by
      exact len_split (fun x => q.contains x) _
    have e2 : ((l.filter fun x => x != v).filter fun x => q.contains x).length = q.length := by
      have : ((l.filter fun x => x != v).filter fun x => q.contains x).Perm q := by
        rw [List.perm_ext_iff_of_nodup (hon.filter _) hqn]
        intro a
        rw [List.mem_filter, List.contains_iff_mem]
        exact ⟨fun h => h.2, fun h => ⟨hsub.subset h, h⟩⟩
      exact this.length_eq
    omega
  rw [e1]
  congr 1
  apply VT.adds_mem s c v
  intro x
  unfold lof
  rw [List.mem_filter, List.mem_range]
  constructor
  . rintro ⟨h1, h2⟩
    rw [setOf_bit h1] at h2
    simpa using h2
  . intro h
    exact ⟨hqlt x h, by rw [setOf_bit (hqlt x h)]; simpa using h⟩
def sp_added_in_all_orders (C : Addr) : Sp := fun vs H Q _ => ∃ a s c p, ∃ (v : Nat) (l : List Nat), vs = [.ref a, nv v] /\ VA C H a s c (setOf s.length l) p /\ Good s /\ c < s.length /\ l = (List.range s.length).filter l.contains /\ v ∈ l /\ ∀ H', Same H H' -> Q (nv (Km462.meanOf s c l v).1) H'
section
variable {P : Program} {w : World} {K : PySem.W.Frag} {mg : Str -> Option Value} {base : Heap} {C : Addr}
abbrev s_added_in_all_orders : Stmt := top 56
theorem sc_added_in_all_orders : FnScope ["valley", "v", "others", "added", "before", "behind"] ["valley", "v"] (defScope s_added_in_all_orders) := ⟨rfl, rfl, rfl, by decide +kernel, rfl, by decide +kernel, by decide +kernel⟩
theorem d_added_in_all_orders (Z : Vc K C) (F : Fd K mg "added_in_all_orders" s_added_in_all_orders) (D_without : Dn P w K mg base 1 "without" ["group", "others"] sp_without) (D_one : Dn P w K mg base 1 "one" ["v"] sp_one) (D_subsets : Dn P w K mg base 2 "subsets" ["group"] sp_subsets)
    (D_orders : Dn P w K mg base 1 "orders" ["count"] sp_orders) (D_size : Dn P w K mg base 1 "size" ["group"] sp_size) (D_adds : Dn P w K mg base 5 "adds" ["valley", "v", "before"] (sp_adds C)) : Dn P w K mg base 6 "added_in_all_orders" ["valley", "v"] (sp_added_in_all_orders C) := by
  refine F.dn sc_added_in_all_orders (fun _ _ _ _ _ _ us hl => match us, hl with | [_, _], _ => rfl) (fun vs H Q E h => ?_) (fun f cdv A outer s H vs Q E hr h => ?_)
  . obtain ⟨a, s, c, p, v, l, rfl, _⟩ := h; rfl
  . obtain ⟨a, s, c, p, v, l, rfl, hV, G, hc, hcan, hm, k⟩ := h
    refine ⟨_, (pss_cons (ps_set (i := 2) sc_added_in_all_orders.nd rfl (Or.inl rfl) (pe_dn D_without hr (pa_cons (pe_fld (pv 0) rfl) (pa_cons (pe_dn D_one hr (pa_cons (pv 1) pa_nil)) pa_nil))))
      (pss_cons (ps_set (i := 3) sc_added_in_all_orders.nd rfl (Or.inl rfl) pe_int)
      (pss_cons (ps_for PassesOwn.never rfl (pi_list (pe_dn D_subsets hr (pa_cons (pv 2) pa_nil))) (pg_name (i := 4) sc_added_in_all_orders.nd rfl (Or.inl rfl))
        (pss_cons (ps_set (i := 5) sc_added_in_all_orders.nd rfl (Or.inl rfl) (pe_dn D_without hr (pa_cons (pv 2) (pa_cons (pv 4) pa_nil))))
      (pss_one (ps_aug (i := 3) sc_added_in_all_orders.nd rfl (Or.inl rfl) (pe_op op_mul (pe_op op_mul (pe_dn D_orders hr (pa_cons (pe_dn D_size hr (pa_cons (pv 4) pa_nil)) pa_nil)) (pe_dn D_orders hr (pa_cons (pe_dn D_size hr (pa_cons (pv 5) pa_nil)) pa_nil))) (pe_dn D_adds hr (pa_cons (pv 0) (pa_cons (pv 1) (pa_cons (pv 4) pa_nil))))) ip_add))))
      (pss_one (ps_ret (pv 3)))))), ?_⟩
    have hlen := G.len
    have hv : v < s.length := by
      have := hm
      rw [hcan] at this
      simpa using (List.mem_filter.mp this).1
    obtain ⟨dx, ch, up, rd, hP⟩ := id hV
    refine ⟨_, rfl, a, C, dx, _, _, rfl, hP.ins, Z.cl, Z.ri, vf_ri, _, rfl, v, rfl, by omega, _, _, rfl, ?_⟩
    rw [set_but hv]
    generalize ho : setOf s.length (l.filter fun x => x != v) = o
    have hon : o < 2 ^ s.length := by rw [<- ho]; exact setOf_lt _ _
    have ho10 : o < 1024 := Nat.lt_of_lt_of_le hon (Nat.le_trans (Nat.pow_le_pow_right (by decide) hlen) (by decide))
    refine ⟨_, rfl, o, rfl, by omega, fun H1 q s1 hq hS => ?_⟩
    refine ⟨q, rfl, ⟨_, SqL.of hS⟩, for_list (K := K) (a := q) (xs := ((List.range (o + 1)).filter fun x => decide (x - (x &&& o) = 0)).map nv) (fun i σ H' => ∃ v4 v5, σ = [some (.ref a), some (nv v), some (nv o), some (nv (VT.L (((List.range (o + 1)).filter fun x => decide (x - (x &&& o) = 0)).take i) (ahead s c v o))), v4, v5] /\ Same H1 H') ⟨none, none, rfl, Same.refl _⟩ (fun i σ H' _ ⟨_, _, _, s2⟩ => SqL.of (s2 _ _ hS)) ?_ ?_⟩
    . rintro i x σ H2 hi ⟨v4, v5, rfl, s2⟩
      obtain ⟨b, hb, rfl⟩ := nvL_int (l := (List.range (o + 1)).filter fun x => decide (x - (x &&& o) = 0)) (f := fun x => x) rfl hi
      have hbo : b <= o := by
        have := (List.mem_filter.mp (List.mem_of_getElem? hb)).1
        have : b < o + 1 := by simpa using this
        omega
      have hbn : b < 2 ^ s.length := Nat.lt_of_le_of_lt hbo hon
      have hp1 : VT.pop b <= 10 := Nat.le_trans (pop_le hbn) hlen
      have hp2 : VT.pop (o - (o &&& b)) <= 10 := Nat.le_trans (pop_le (Nat.lt_of_le_of_lt (Nat.sub_le _ _) hon)) hlen
      have hf1 := fact_le _ hp1
      have hf2 := fact_le _ hp2
      have hf3 : VT.fact (VT.pop b) * VT.fact (VT.pop (o - (o &&& b))) <= 3628800 * 3628800 := Nat.mul_le_mul hf1 hf2
      have hlb : ∀ x ∈ lof s.length b, x < s.length := fun x hx => by simpa using (List.mem_filter.mp hx).1
      refine ⟨_, rfl, _, rfl, _, _, rfl, ?_⟩
      refine ⟨_, rfl, _, rfl, _, rfl, _, rfl, hp1, _, rfl, _, rfl, _, rfl, hp2, _, _, rfl, rfl, .inl ⟨by omega, by omega⟩, _, rfl, _, rfl, _, rfl, a, s, c, _, p, v, lof s.length b, by rw [setOf_lof hbn]; rfl, hV.same (s1.trans s2), G, hc, hv, hlb, fun H3 s3 => ?_⟩
      have e0 : ((VT.fact (VT.pop b) : Nat) : Int) * ((VT.fact (VT.pop (o - (o &&& b))) : Nat) : Int) = ((VT.fact (VT.pop b) * VT.fact (VT.pop (o - (o &&& b))) : Nat) : Int) := (Int.natCast_mul _ _).symm
      refine ⟨_, _, rfl, rfl, .inl ⟨by rw [e0]; omega, by rw [e0]; omega⟩, _, _, rfl, rfl, some (nv b), some (nv (o - (o &&& b))), ?_, s2.trans s3⟩
      have e1 : ((VT.L (((List.range (o + 1)).filter fun x => decide (x - (x &&& o) = 0)).take i) (ahead s c v o) : Nat) : Int) + ((VT.fact (VT.pop b) : Nat) : Int) * ((VT.fact (VT.pop (o - (o &&& b))) : Nat) : Int) * ((Km462.adds s c (lof s.length b) v : Nat) : Int) =
          ((VT.L (((List.range (o + 1)).filter fun x => decide (x - (x &&& o) = 0)).take (i + 1)) (ahead s c v o) : Nat) : Int) := by
        rw [List.take_add_one, hb, VT.L_append, Int.natCast_add]
        congr 1
      show [some (V.ref a), some (nv v), some (nv o), some (V.int (((VT.L (((List.range (o + 1)).filter fun x => decide (x - (x &&& o) = 0)).take i) (ahead s c v o) : Nat) : Int) + ((VT.fact (VT.pop b) : Nat) : Int) * ((VT.fact (VT.pop (o - (o &&& b))) : Nat) : Int) * ((Km462.adds s c (lof s.length b) v : Nat) : Int))), some (nv b), some (nv (o - (o &&& b)))] = _
      rw [e1]
    . rintro σ H2 ⟨v4, v5, rfl, s2⟩
      refine ⟨_, rfl, cv (k _ (s1.trans s2)) (congrArg nv ?_)⟩
      rw [List.length_map, List.take_length, <- ho]
      exact ahead_sum hcan hm hv
end
end VV
namespace VV
open PySem PySem.Spec PyProof.Rows L2
open Km457 (Valley at_)
section
variable {X : Cx} {x : Str} {p pos : Pos} {e : Expr} {es : List Expr} {t : TA} {ps : List Str} {sp : Sp}
theorem pe_dnO {k j : Nat} (D : Dn X.prog X.w X.K X.mg X.base k x ps sp) (hr : Room j X.A) (ha : PA X (e :: es) t) (hg : Gl X x := by rfl) (hj : k <= j := by omega) (hdb : (x == ("__debug__" : Str)) = false := by decide)
    (he : starEach (e :: es) X.env = (false, eval e X.env) :: starEach es X.env := by rfl) (hpl : (backTo pos (starEach es X.env)).any (·.1) = false := by rfl) :
    PE X (.Call (.Name x p) (e :: es) [] pos) (tCall sp [] E0 t) := pe_dn D hr ha hg hj hdb he hpl
end
theorem line_five : (5000000 : Nat) < sizeLine := by rw [sizeLine_eq]; decide
def blk (s : Valley) (r : List Nat) (v w : Nat) : List Nat := [w] ++ VT.TG s r s.length v w ++ [v]
def upto (s : Valley) (r : List Nat) (c v i : Nat) : List Nat := v :: ((((List.range s.length).filter (besideB s v)).take i).filter fun w => w != c && r.contains (max v w)).flatMap (blk s r v)
theorem upto_succ {s : Valley} {r : List Nat} {c v i u : Nat} (hu : ((List.range s.length).filter (besideB s v))[i]? = some u) : upto s r c v (i + 1) = upto s r c v i ++ if (u != c && r.contains (max v u)) = true then blk s r v u else [] := by
  unfold upto
  rw [List.take_add_one, hu, List.filter_append, List.flatMap_append]
  show v :: (_ ++ _) = (v :: _) ++ _
  rw [List.cons_append]
  congr 2
  have h : ∀ b : Bool, (if b = true then [u] else []).flatMap (blk s r v) = if b = true then blk s r v u else [] := by
    intro b
    cases b
    . rfl
    . show blk s r v u ++ [] = blk s r v u
      rw [List.append_nil]
  show (([u] : List Nat).filter fun w => w != c && r.contains (max v w)).flatMap (blk s r v) = _
  rw [List.filter_cons, List.filter_nil]
  exact h _
theorem upto_nx {s : Valley} {r : List Nat} {c v : Nat} : (((List.range s.length).filter (besideB s v)).filter fun w => w != c && r.contains (max v w)) = VT.nx s r c v := by
  unfold VT.nx
  rw [List.filter_filter, List.filter_filter]
  apply List.filter_congr
  intro w _
  show ((w != c && r.contains (max v w)) && besideB s v w) = ((w != c) && (VT.bes s v w && r.contains (max v w)))
  have : besideB s v w = VT.bes s v w := rfl
  rw [this]
  cases (w != c) <;> cases VT.bes s v w <;> cases r.contains (max v w) <;> rfl
theorem upto_all {s : Valley} (W : VT.WF s) {r : List Nat} {c v : Nat} (hv : v < s.length) : upto s r c v ((List.range s.length).filter (besideB s v)).length = v :: VT.TG s r (s.length + 1) c v := by
  unfold upto
  rw [List.take_length, upto_nx, VT.TG_succ W hv]
  rfl
theorem upto_len {s : Valley} (W : VT.WF s) {r : List Nat} {c v i : Nat} (hv : v < s.length) (h10 : s.length <= 10) : (upto s r c v i).length <= 2000000 := by
  have key : ∀ l : List Nat, (∀ w ∈ l, w ∈ VT.nx s r c v) -> l.length <= 9 -> (l.flatMap (blk s r v)).length <= l.length * (VT.Lb 9 + 1) := by
    intro l
    induction l with
    | nil => intro _ _; exact Nat.zero_le _
    | cons a l ih =>
      intro hl h9
      obtain ⟨a1, a2, a3⟩ := VT.nx_lt W (hl a (by simp))
      have hc := VT.card_lt W hv a1 a2 a3
      have hcl := VT.card_le W c v
      have h2 := VT.TG_len W (r := r) 9 s.length v a a1 (by omega)
      have h1 := ih (fun w hw => hl w (by simp [hw])) (by simp at h9; omega)
      rw [List.flatMap_cons]
      unfold blk at h1 ⊢
      simp only [List.length_append, List.length_cons, List.length_nil, Nat.add_mul, Nat.one_mul] at h1 h9 ⊢
      omega
  unfold upto
  have hsub : ∀ w ∈ (((List.range s.length).filter (besideB s v)).take i).filter (fun w => w != c && r.contains (max v w)), w ∈ VT.nx s r c v := by
    intro w hw
    rw [<- upto_nx]
    obtain ⟨h1, h2⟩ := List.mem_filter.mp hw
    exact List.mem_filter.mpr ⟨List.mem_of_mem_take h1, h2⟩
  have hn : ((((List.range s.length).filter (besideB s v)).take i).filter (fun w => w != c && r.contains (max v w))).length <= (VT.nx s r c v).length := by
    refine VT.len_sub ?_ hsub
    exact ((List.nodup_range.filter _).sublist (List.take_sublist _ _)).filter _
  have hx := VT.nx_count W (r := r) (c := c) hv
  have hcl := VT.card_le W c v
  have h1 := key _ hsub (by omega)
  have h2 : VT.Lb 9 <= 220000 := by decide
  rw [List.length_cons]
  have h3 : ((((List.range s.length).filter (besideB s v)).take i).filter (fun w => w != c && r.contains (max v w))).length * (VT.Lb 9 + 1) <= 9 * 220001 := Nat.mul_le_mul (by omega) (by omega)
  omega
def sp_stops (C : Addr) (m : Nat) : Sp := fun vs H Q _ => ∃ a s c b p, ∃ (r : List Nat) (v came : Nat), vs = [.ref a, nv (setOf s.length r), nv v, nv came] /\ VA C H a s c b p /\ Good s /\ v < s.length /\ VT.card s came v <= m /\
  ∀ H' q, Same H H' -> H q = none -> H' q = some (.lst ((v :: VT.TG s r (s.length + 1) came v).map nv)) -> Q (.ref q) H'
def sp_round_stops (C : Addr) : Sp := fun vs H Q _ => ∃ a s c p, ∃ (l : List Nat), vs = [.ref a] /\ VA C H a s c (setOf s.length l) p /\ Good s /\ c < s.length /\ (∀ x ∈ l, x < s.length) /\ ∀ H' q, Same H H' -> H q = none -> H' q = some (.lst ((Km460.tour s c l).map nv)) -> Q (.ref q) H'
def sp_gone_at (C : Addr) : Sp := fun vs H Q _ => ∃ a s c b p, ∃ (q : Addr) (d : Nat) (l : List Nat) (n : Nat), vs = [.ref a, .ref q, nv n] /\ VA C H a s c b p /\ Good s /\ d < s.length /\ H q = some (.lst ((Km460.tour s d l).map nv)) /\ n < (Km460.tour s d l).length /\ ∀ H', Same H H' -> Q (nv (Km460.long s ((Km460.tour s d l).take (n + 1)))) H'
section
variable {P : Program} {w : World} {K : PySem.W.Frag} {mg : Str -> Option Value} {base : Heap} {C : Addr}
abbrev s_stops_from : Stmt := top 30
theorem sc_stops_from : FnScope ["valley", "taken", "v", "came", "stops", "w"] ["valley", "taken", "v", "came"] (defScope s_stops_from) := ⟨rfl, rfl, rfl, by decide +kernel, rfl, by decide +kernel, by decide +kernel⟩
theorem d_stops_from (F : Fd K mg "stops_from" s_stops_from) (D_beside : Dn P w K mg base 3 "beside" ["valley", "v"] (sp_beside C)) (D_holds : Dn P w K mg base 1 "holds" ["group", "v"] sp_holds) (D_road_between : Dn P w K mg base 1 "road_between" ["v", "w"] sp_road_between) :
    ∀ m, Dn P w K mg base (3 + m + 1) "stops_from" ["valley", "taken", "v", "came"] (sp_stops C m) := by
  intro m
  induction m with
  | zero =>
    refine F.dn sc_stops_from (fun _ _ _ _ _ _ us hl => match us, hl with | [_, _, _, _], _ => rfl) (fun vs H Q E h => ?_) (fun f cdv A outer s H vs Q E hr h => ?_)
    . obtain ⟨a, s, c, b, p, r, v, came, rfl, _⟩ := h; rfl
    . obtain ⟨a, s, c, b, p, r, v, came, rfl, hV, G, hv, hm, k⟩ := h
      have := VT.nx_count G.wf (r := r) (c := came) hv
      omega
  | succ m D_stops_from =>
    refine F.dn sc_stops_from (fun _ _ _ _ _ _ us hl => match us, hl with | [_, _, _, _], _ => rfl) (fun vs H Q E h => ?_) (fun f cdv A outer s H vs Q E hr h => ?_)
    . obtain ⟨a, s, c, b, p, r, v, came, rfl, _⟩ := h; rfl
    . obtain ⟨a, s, c, b, p, r, v, came, rfl, hV, G, hv, hm, k⟩ := h
      refine ⟨_, (pss_cons (ps_set (i := 4) sc_stops_from.nd rfl (Or.inl rfl) (pe_lst (pa_cons (pv 2) pa_nil)))
      (pss_cons (ps_for PassesOwn.never rfl (pi_list (pe_dnO D_beside hr (pa_cons (pv 0) (pa_cons (pv 2) pa_nil)))) (pg_name (i := 5) sc_stops_from.nd rfl (Or.inl rfl))
        (pss_one (ps_if (pw_and (pt_cmpR op_ne (pv 5) (pv 3) (nomark _)) (pw_and1 (pt_val (pe_dnO D_holds hr (pa_cons (pv 1) (pa_cons (pe_dnO D_road_between hr (pa_cons (pv 2) (pa_cons (pv 5) pa_nil))) pa_nil)))))).pt (pss_one (ps_set (i := 4) sc_stops_from.nd rfl (Or.inl rfl) (pe_op op_cat (pe_op op_cat (pv 4) (pe_dnO D_stops_from hr (pa_cons (pv 0) (pa_cons (pv 1) (pa_cons (pv 5) (pa_cons (pv 2) pa_nil)))))) (pe_lst (pa_cons (pv 2) pa_nil))))) pss_nil)))
      (pss_one (ps_ret (pv 4))))), ?_⟩
      have hlen := G.len
      refine ⟨_, rfl, (by show 1 <= sizeLine; decide), fun st hst => ?_⟩
      have s0 : Same H (upd H st (.lst [nv v])) := (Same.refl H).new hst
      refine ⟨_, rfl, _, rfl, a, s, c, b, p, v, rfl, hV.same s0, hv, hlen, fun H1 q s1 hq hb => ?_⟩
      refine ⟨q, rfl, ⟨_, SqL.of hb⟩, for_list (K := K) (a := q) (xs := ((List.range s.length).filter (besideB s v)).map nv) (fun i σ H' => ∃ v5 st', σ = [some (.ref a), some (nv (setOf s.length r)), some (nv v), some (nv came), some (.ref st'), v5] /\ Same H H' /\ H' q = some (.lst (((List.range s.length).filter (besideB s v)).map nv)) /\ H st' = none /\ H' st' = some (.lst ((upto s r came v i).map nv))) ⟨none, st, rfl, s0.trans s1, hb, hst, s1 _ _ upd_same⟩ (fun i σ H' _ ⟨_, _, _, _, hq', _⟩ => SqL.of hq') ?_ ?_⟩
      . rintro i x σ H2 hi ⟨v5, st', rfl, s2, hq2, hst', hl⟩
        obtain ⟨u, hu, rfl⟩ := nvL_int (l := (List.range s.length).filter (besideB s v)) (f := fun x => x) rfl hi
        have hub := List.mem_filter.mp (List.mem_of_getElem? hu)
        have hul : u < s.length := by simpa using hub.1
        have hbe : VT.bes s v u = true := hub.2
        have hup := upto_succ (r := r) (c := came) hu
        refine ⟨_, rfl, _, rfl, rfl, _, rfl, iteB (c := u != came) ?_ (fun hp => ?_) (fun hp => ?_)⟩
        . show (!decide (V.int (u : Int) = V.int (came : Int))) = _
          rw [V.ncast]
          by_cases e : u = came
          . simp [e]
          . simp [e]
        . refine ⟨_, rfl, _, rfl, _, rfl, v, u, rfl, _, _, rfl, _, rfl, iteB (c := r.contains (max v u)) (setOf_bit (by omega)) (fun hp2 => ?_) (fun hp2 => ?_)⟩
          . -- the round beyond
            have huc : u ≠ came := by simpa using hp
            have hcl := VT.card_lt G.wf hv hul hbe huc
            have hcn := VT.card_le G.wf came v
            refine ⟨_, rfl, _, rfl, _, rfl, _, rfl, _, rfl, a, s, c, b, p, r, u, v, rfl, hV.same s2, G, hul, by omega, fun H3 q3 s3 hq3 h3 => ?_⟩
            have L1 := upto_len G.wf (r := r) (c := came) (i := i) hv hlen
            have L2 : (u :: VT.TG s r (s.length + 1) v u).length <= 2000000 := by
              have := VT.TG_len G.wf (r := r) 10 (s.length + 1) v u hul (by omega)
              have h10 := VT.Lb_ten
              rw [List.length_cons]; omega
            have hl3 := s3 _ _ hl
            refine ⟨st', q3, _, _, rfl, rfl, hl3, h3, ?_, fun q4 hq4 => ?_⟩
            . rw [List.length_map, List.length_map]
              exact Nat.le_of_lt (Nat.lt_of_le_of_lt (Nat.add_le_add L1 L2) (Nat.lt_trans (by decide) line_five))
            . refine ⟨_, rfl, (by show 1 <= sizeLine; decide), fun q5 hq5 => ?_⟩
              have s4 : Same H2 (upd H3 q4 (.lst ((upto s r came v i).map nv ++ (u :: VT.TG s r (s.length + 1) v u).map nv))) := s3.new hq4
              have s5 : Same H2 (upd (upd H3 q4 (.lst ((upto s r came v i).map nv ++ (u :: VT.TG s r (s.length + 1) v u).map nv))) q5 (.lst [nv v])) := s4.new hq5
              have n45 : q4 ≠ q5 := ne_of_none (H := upd H3 q4 (.lst ((upto s r came v i).map nv ++ (u :: VT.TG s r (s.length + 1) v u).map nv))) upd_same hq5
              refine ⟨q4, q5, _, _, rfl, rfl, by rw [upd_ne n45]; exact upd_same, upd_same, ?_, fun q6 hq6 => ?_⟩
              . rw [List.length_append, List.length_map, List.length_map]
                exact Nat.le_of_lt (Nat.lt_of_le_of_lt (Nat.add_le_add (Nat.add_le_add L1 L2) (Nat.le_refl 1)) (Nat.lt_trans (by decide) line_five))
              . have s6 := s5.new (o := .lst ((upto s r came v i).map nv ++ (u :: VT.TG s r (s.length + 1) v u).map nv ++ [nv v])) hq6
                refine ⟨some (nv u), q6, rfl, s2.trans s6, s6 _ _ hq2, (s2.trans s5).free hq6, ?_⟩
                rw [upd_same, hup, if_pos (by rw [hp, hp2]; rfl)]
                have ef : VT.TG s r (s.length + 1) v u = VT.TG s r s.length v u := VT.TG_fuel G.wf s.length _ _ v u hul (by omega) (by omega) (Nat.le_refl _)
                rw [ef]
                unfold blk
                simp
          . refine ⟨some (nv u), st', rfl, s2, hq2, hst', ?_⟩
            rw [hup, if_neg (by rw [hp, hp2]; decide), List.append_nil]
            exact hl
        . refine iteF ⟨some (nv u), st', rfl, s2, hq2, hst', ?_⟩
          rw [hup, if_neg (by rw [hp]; simp), List.append_nil]
          exact hl
      . rintro σ H2 ⟨v5, st', rfl, s2, hq2, hst', hl⟩
        refine ⟨_, rfl, k H2 st' s2 hst' ?_⟩
        rw [List.length_map, upto_all G.wf hv] at hl
        exact hl
abbrev s_round_stops : Stmt := top 31
theorem sc_round_stops : FnScope ["valley", "taken"] ["valley"] (defScope s_round_stops) := ⟨rfl, rfl, rfl, by decide +kernel, rfl, by decide +kernel, by decide +kernel⟩
theorem d_round_stops (Z : Vc K C) (F : Fd K mg "round_stops" s_round_stops) (D_roads_taken : Dn P w K mg base 3 "roads_taken" ["valley", "school", "riders"] (sp_roads_taken C)) (D_stops_from : Dn P w K mg base 14 "stops_from" ["valley", "taken", "v", "came"] (sp_stops C 10)) : Dn P w K mg base 15 "round_stops" ["valley"] (sp_round_stops C) := by
  refine F.dn sc_round_stops (fun _ _ _ _ _ _ us hl => match us, hl with | [_], _ => rfl) (fun vs H Q E h => ?_) (fun f cdv A outer s H vs Q E hr h => ?_)
  . obtain ⟨a, s, c, p, l, rfl, _⟩ := h; rfl
  . obtain ⟨a, s, c, p, l, rfl, hV, G, hc, hl, k⟩ := h
    refine ⟨_, (pss_cons (ps_set (i := 1) sc_round_stops.nd rfl (Or.inl rfl) (pe_dn D_roads_taken hr (pa_cons (pv 0) (pa_cons (pe_fld (pv 0) rfl) (pa_cons (pe_fld (pv 0) rfl) pa_nil)))))
      (pss_one (ps_ret (pe_dn D_stops_from hr (pa_cons (pv 0) (pa_cons (pv 1) (pa_cons (pe_fld (pv 0) rfl) (pa_cons (pe_fld (pv 0) rfl) pa_nil)))))))), ?_⟩
    have hlen := G.len
    obtain ⟨dx, ch, up, rd, hP⟩ := id hV
    refine ⟨_, rfl, _, rfl, a, C, dx, _, _, rfl, hP.ins, Z.cl, Z.sc, vf_sc, _, rfl, a, C, dx, _, _, rfl, hP.ins, Z.cl, Z.ri, vf_ri, a, s, c, _, p, c, l, rfl, hV, G, hc, hl, fun H1 s1 => ?_⟩
    have hP1 := hP.same s1
    have et : taken s c l = setOf s.length (Km460.roads s c l) := by
      unfold taken setOf
      apply VT.mask_congr
      intro x hx
      rw [roads_taken_eq G.wf hc hl, Bool.eq_iff_iff]
      simp [hx]
    refine ⟨_, rfl, _, rfl, _, rfl, a, C, dx, _, _, rfl, hP1.ins, Z.cl, Z.sc, vf_sc, _, rfl, a, C, dx, _, _, rfl, hP1.ins, Z.cl, Z.sc, vf_sc, a, s, c, _, p, Km460.roads s c l, c, c, by rw [<- et]; rfl, hV.same s1, G, hc, Nat.le_trans (VT.card_le G.wf c c) hlen, fun H2 q s2 hq h2 => ?_⟩
    rw [<- VT.tour_TG G.wf hc] at h2
    exact k _ q (s1.trans s2) (s1.free hq) h2
abbrev s_gone_at : Stmt := top 32
theorem sc_gone_at : FnScope ["valley", "stops", "k", "j"] ["valley", "stops", "k"] (defScope s_gone_at) := ⟨rfl, rfl, rfl, by decide +kernel, rfl, by decide +kernel, by decide +kernel⟩
theorem d_gone_at (T : Txt mg) (Z : Vc K C) (F : Fd K mg "gone_at" s_gone_at) (D_road_between : Dn P w K mg base 1 "road_between" ["v", "w"] sp_road_between) : Dn P w K mg base 2 "gone_at" ["valley", "stops", "k"] (sp_gone_at C) := by
  refine F.dn sc_gone_at (fun _ _ _ _ _ _ us hl => match us, hl with | [_, _, _], _ => rfl) (fun vs H Q E h => ?_) (fun f cdv A outer s H vs Q E hr h => ?_)
  . obtain ⟨a, s, c, b, p, q, d, l, n, rfl, _⟩ := h; rfl
  . obtain ⟨a, s, c, b, p, q, d, l, n, rfl, hV, G, hd, hq, hn, k⟩ := h
    refine ⟨_, (pss_one (ps_ret (pe_callB (cr_sum rfl) rfl T.sum boot_sum (pa_cons (pe_lc rfl sc_gone_at.nd (pi_range1 rfl T.range (pa_cons (pv 2) pa_nil)) (blkOk_by (own := [("j", 3)]) rfl) (fun _ _ _ _ _ => pg_name (i := 3) sc_gone_at.nd rfl (Or.inl rfl)) (fun _ _ _ _ _ => by exact pts_nil) (fun _ _ _ _ _ => by exact (pe_ixK K (pe_fldK K (pv 0) rfl) (pe_dn D_road_between hr (pa_cons (pe_ixK K (pv 1) (pv 3) (fun _ _ => rfl)) (pa_cons (pe_ixK K (pv 1) (pe_op op_add (pv 3) pe_int) (fun _ _ => rfl)) pa_nil))) (fun _ _ => rfl)))) pa_nil)))), ?_⟩
    have hlen := G.len
    have et := VT.tour_TG G.wf hd l
    have hch := VT.TG_chain G.wf (r := Km460.roads s d l) (s.length + 1) d d hd
    have hall := VT.chain_lt hd hch
    rw [<- et] at hall
    have hL : (Km460.tour s d l).length <= 2000000 := by
      rw [et, List.length_cons]
      have := VT.TG_len G.wf (r := Km460.roads s d l) 10 (s.length + 1) d d hd (Nat.le_trans (VT.card_le G.wf d d) hlen)
      have h10 := VT.Lb_ten
      omega
    refine ⟨_, rfl, _, rfl, by omega, by omega, fun D hD => ?_⟩
    rw [Int.toNat_natCast]
    refine lc_range (fun i H' => Same H H' /\ H' D = some (.lst ((List.range i).map fun j => nv (at_ s (max ((Km460.tour s d l).getD j 0) ((Km460.tour s d l).getD (j + 1) 0))).long))) ⟨Same.put (Same.refl _) hD, upd_same⟩ (fun i H1 hi ⟨s1, h1⟩ => ?_) (fun H1 ⟨s1, h1⟩ => ?_)
    . have ei : (0 : Int) + (i : Nat) = ((i : Nat) : Int) := by omega
      rw [ei]
      obtain ⟨x, hx⟩ : ∃ x, (Km460.tour s d l)[i]? = some x := ⟨_, List.getElem?_eq_getElem (by omega)⟩
      obtain ⟨y, hy⟩ : ∃ y, (Km460.tour s d l)[i + 1]? = some y := ⟨_, List.getElem?_eq_getElem (by omega)⟩
      have hxl := hall x (List.mem_of_getElem? hx)
      have hyl := hall y (List.mem_of_getElem? hy)
      have gx : (Km460.tour s d l).getD i 0 = x := by rw [List.getD_eq_getElem?_getD, hx]; rfl
      have gy : (Km460.tour s d l).getD (i + 1) 0 = y := by rw [List.getD_eq_getElem?_getD, hy]; rfl
      obtain ⟨dx, ch, up, rd, hP⟩ := hV.same s1
      have e1 : ((i : Int) + 1) = ((i + 1 : Nat) : Int) := by omega
      refine ⟨rfl, yes ⟨_, rfl, a, C, dx, _, _, rfl, hP.ins, Z.cl, Z.rd, vf_rd, _, rfl, _, rfl, q, _, _, _, rfl, rfl, SqL.of (s1 _ _ hq), atI_nat (v := nv x) (by rw [List.getElem?_map, hx]; rfl), _, rfl, _, rfl, _, _, rfl, rfl, q, _, _, _, rfl, rfl, SqL.of (s1 _ _ hq), at_of (j := i + 1) (v := nv y) e1 (by rw [List.getElem?_map, hy]; rfl), x, y, rfl, rd, _, _, _, rfl, rfl, SqL.of hP.rd, atI_nat (roads_at (show max x y < s.length by omega)), ?_⟩⟩
      refine ⟨_, h1, ?_, s1.put hD, ?_⟩
      . rw [List.length_map, List.length_range]
        exact Nat.lt_of_lt_of_le (by omega : i < 2000001) (Nat.le_of_lt (Nat.lt_trans (by decide) line_five))
      . rw [upd_same, List.range_succ, List.map_append]
        show _ = some (HO.lst (_ ++ [nv (at_ s (max ((Km460.tour s d l).getD i 0) ((Km460.tour s d l).getD (i + 1) 0))).long]))
        rw [gx, gy]
    . refine sumq h1 ?_
      rw [VT.S_range]
      have := VT.chain_long G.wf n d (VT.TG s (Km460.roads s d l) (s.length + 1) d d) d hd hch (by rw [et, List.length_cons] at hn; omega)
      rw [<- et] at this
      rw [<- this]
      exact k _ s1
end
end VV
namespace VV
open PySem PySem.Spec PyProof.Rows L2
open Km457 (Valley at_)
def LA (C : Addr) (H : Hp) (a : Addr) (L : Km462.Land) : Prop := VA C H a L.valley L.school (setOf L.valley.length L.bus) (setOf L.valley.length L.posts)
structure LOK (L : Km462.Land) : Prop where
  good : Good L.valley
  sch : L.school < L.valley.length
  bus : L.bus = (List.range L.valley.length).filter L.bus.contains
  posts : L.posts = (List.range L.valley.length).filter L.posts.contains
theorem canon_lt {n : Nat} {l : List Nat} (h : l = (List.range n).filter l.contains) : ∀ x ∈ l, x < n := by
  intro x hx
  rw [h] at hx
  simpa using (List.mem_filter.mp hx).1
theorem canon_nd {n : Nat} {l : List Nat} (h : l = (List.range n).filter l.contains) : l.Nodup := by
  rw [h]; exact List.nodup_range.filter _
theorem pop_setOf {n : Nat} {l : List Nat} (h : l = (List.range n).filter l.contains) : VT.pop (setOf n l) = l.length := by
  unfold setOf
  rw [<- VT.bits_mask (canon_nd h) (canon_lt h), VT.pop_bits (canon_nd h) (canon_lt h)]
theorem bits_setOf {n : Nat} {l : List Nat} (h : l = (List.range n).filter l.contains) : Km462.bits l = setOf n l := VT.bits_mask (canon_nd h) (canon_lt h)
abbrev told1 (L : Km462.Land) (c : Km462.Call) : List V := (Km462Neutral.told (Km462.act ⟨L, [], []⟩ c).2).map V.int
def sp_ask (C : Addr) (n : Nat) (mk : List Nat -> Km462.Call) : Sp := fun vs H Q _ => ∃ (a : Addr) (L : Km462.Land) (g : Addr) (gs : List Nat), vs = [.ref a, .ref g] /\ LA C H a L /\ LOK L /\ H g = some (.lst (gs.map nv)) /\ gs.length = n /\
  ∀ H' q, Same H H' -> H q = none -> H' q = some (.lst (told1 L (mk gs))) -> Q (.ref q) H'
theorem fin {H H1 : Hp} {Q : VK} {xs ys : List V} (k : ∀ H' q, Same H H' -> H q = none -> H' q = some (.lst ys) -> Q (.ref q) H') (s : Same H H1) (e : xs = ys) : ∀ q, H1 q = none -> Q (.ref q) (upd H1 q (.lst xs)) := fun q hq => k _ q (s.new hq) (s.free hq) (by rw [upd_same, e])
theorem ln1 {gs : List Nat} (h : gs.length = 1) : ∃ v, gs = [v] := by
  match gs, h with
  | [v], _ => exact ⟨v, rfl⟩
theorem ln2 {gs : List Nat} (h : gs.length = 2) : ∃ v w, gs = [v, w] := by
  match gs, h with
  | [v, w], _ => exact ⟨v, w, rfl⟩
theorem ln3 {gs : List Nat} (h : gs.length = 3) : ∃ v w x, gs = [v, w, x] := by
  match gs, h with
  | [v, w, x], _ => exact ⟨v, w, x, rfl⟩
theorem few_mem {s : Valley} (G : Good s) (r : Nat) (nd : List Nat) (hn : nd.Nodup) (hl : ∀ x ∈ nd, x < s.length) : (nd ++ few s r nd).Nodup /\ ∀ x ∈ nd ++ few s r nd, x < s.length := by
  have hall := enough_all G (r := r) hl
  obtain ⟨i, h1, _⟩ := VT.fewest_first (l := rest s.length nd) (ok := fun q => Km458.serves (Km458.table s) r (nd ++ q) (List.range s.length)) hall
  have hq : few s r nd ∈ Km458.sets (rest s.length nd) := (List.mem_filter.mp (List.mem_of_getElem? h1)).1
  have hsub := VT.sets_sub hq
  have hqn : (few s r nd).Nodup := hsub.nodup (List.nodup_range.filter _)
  refine ⟨List.nodup_append.mpr ⟨hn, hqn, fun a ha b hb e => ?_⟩, fun x hx => ?_⟩
  . subst e
    have := (List.mem_filter.mp (VT.sets_mem hq a hb)).2
    simp [ha] at this
  . rcases List.mem_append.mp hx with h | h
    . exact hl x h
    . simpa using (List.mem_filter.mp (VT.sets_mem hq x h)).1
abbrev n1 (f : Nat -> Km462.Call) : List Nat -> Km462.Call := fun gs => f (gs.getD 0 0)
abbrev n2 (f : Nat -> Nat -> Km462.Call) : List Nat -> Km462.Call := fun gs => f (gs.getD 0 0) (gs.getD 1 0)
section
variable {P : Program} {w : World} {K : PySem.W.Frag} {mg : Str -> Option Value} {base : Heap} {C : Addr}
abbrev s_ask_chosen : Stmt := top 71
theorem sc_ask_chosen : FnScope ["valley", "given", "v"] ["valley", "given"] (defScope s_ask_chosen) := ⟨rfl, rfl, rfl, by decide +kernel, rfl, by decide +kernel, by decide +kernel⟩
theorem d_ask_chosen (T : Txt mg) (Z : Vc K C) (F : Fd K mg "ask_chosen" s_ask_chosen) (D_chosen : Dn P w K mg base 5 "chosen" ["valley", "children"] (sp_chosen C)) (D_all_ways : Dn P w K mg base 3 "all_ways" ["valley", "v"] (sp_all_ways C)) : Dn P w K mg base 6 "ask_chosen" ["valley", "given"] (sp_ask C 0 fun _ => .chosen) := by
  refine F.dn sc_ask_chosen (fun _ _ _ _ _ _ us hl => match us, hl with | [_, _], _ => rfl) (fun vs H Q E h => ?_) (fun f cdv A outer s H vs Q E hr h => ?_)
  . obtain ⟨a, L, g, gs, rfl, _⟩ := h; rfl
  . obtain ⟨a, L, g, gs, rfl, hV, O, hg, hn, k⟩ := h
    refine ⟨_, (pss_cons (ps_if (pt_cmpR op_eq (pe_callB (cr_sum rfl) rfl T.sum boot_sum (pa_cons (pe_fld (pv 0) rfl) pa_nil)) pe_int (nomark _)) (pss_one (ps_ret (pe_lst (pa_cons (pe_gi T.EMPTY) pa_nil)))) pss_nil)
      (pss_cons (ps_set (i := 2) sc_ask_chosen.nd rfl (Or.inl rfl) (pe_dn D_chosen hr (pa_cons (pv 0) (pa_cons (pe_fld (pv 0) rfl) pa_nil))))
      (pss_one (ps_ret (pe_lst (pa_cons (pv 2) (pa_cons (pe_dn D_all_ways hr (pa_cons (pv 0) (pa_cons (pv 2) pa_nil))) pa_nil))))))), ?_⟩
    obtain ⟨dx, ch, up, rd, hP⟩ := id hV
    have G := O.good
    refine ⟨_, rfl, a, C, dx, _, _, rfl, hP.ins, Z.cl, Z.ch, vf_ch, ?_⟩
    delta tNil
    refine sumq (l := L.valley) (f := fun x => x.many) hP.ch ?_
    rw [sum_many]
    refine ⟨rfl, _, rfl, iteB (c := decide (Km457.total L.valley = 0)) (V.ncast (j := 0)) (fun hp => ?_) (fun hp => ?_)⟩
    . refine ⟨(by show 1 <= sizeLine; decide), fin k (Same.refl _) ?_⟩
      show _ = (Km462Neutral.told (if Km457.total L.valley = 0 then _ else _)).map V.int
      rw [if_pos (of_decide_eq_true hp)]; rfl
    . refine ⟨_, rfl, _, rfl, a, C, dx, _, _, rfl, hP.ins, Z.cl, Z.ch, vf_ch, a, _, _, _, _, ch, L.valley, rfl, hV, G, hP.ch, VT.Like.refl _, fun H1 s1 => ?_⟩
      refine ⟨_, rfl, _, rfl, _, rfl, a, _, _, _, _, Km462.chosen L.valley, rfl, hV.same s1, G, (VT.chosen_eq G.wf).2, fun H2 s2 => ⟨(by show 2 <= sizeLine; decide), fin k (s1.trans s2) ?_⟩⟩
      show _ = (Km462Neutral.told (if Km457.total L.valley = 0 then _ else _)).map V.int
      rw [if_neg (of_decide_eq_false hp)]; rfl
abbrev s_ask_unbeaten : Stmt := top 72
theorem sc_ask_unbeaten : FnScope ["valley", "given", "group"] ["valley", "given"] (defScope s_ask_unbeaten) := ⟨rfl, rfl, rfl, by decide +kernel, rfl, by decide +kernel, by decide +kernel⟩
theorem d_ask_unbeaten (F : Fd K mg "ask_unbeaten" s_ask_unbeaten) (D_unbeaten : Dn P w K mg base 3 "unbeaten" ["valley"] (sp_unbeaten C)) (D_size : Dn P w K mg base 1 "size" ["group"] sp_size) : Dn P w K mg base 4 "ask_unbeaten" ["valley", "given"] (sp_ask C 0 fun _ => .unbeaten) := by
  refine F.dn sc_ask_unbeaten (fun _ _ _ _ _ _ us hl => match us, hl with | [_, _], _ => rfl) (fun vs H Q E h => ?_) (fun f cdv A outer s H vs Q E hr h => ?_)
  . obtain ⟨a, L, g, gs, rfl, _⟩ := h; rfl
  . obtain ⟨a, L, g, gs, rfl, hV, O, hg, hn, k⟩ := h
    refine ⟨_, (pss_cons (ps_set (i := 2) sc_ask_unbeaten.nd rfl (Or.inl rfl) (pe_dn D_unbeaten hr (pa_cons (pv 0) pa_nil)))
      (pss_one (ps_ret (pe_lst (pa_cons (pe_dn D_size hr (pa_cons (pv 2) pa_nil)) (pa_cons (pv 2) pa_nil)))))), ?_⟩
    refine ⟨_, rfl, a, _, _, _, _, rfl, hV, O.good, fun H1 s1 => ?_⟩
    refine ⟨_, rfl, _, rfl, _, rfl, (by show 2 <= sizeLine; decide), fin k s1 ?_⟩
    show [nv _, nv _] = [nv (Km462.unbeaten L.valley).length, nv (Km462.bits (Km462.unbeaten L.valley))]
    have : VT.pop (Km462.bits (Km462.unbeaten L.valley)) = (Km462.unbeaten L.valley).length := by
      unfold Km462.unbeaten Km457.all
      rw [VT.bits_filter, VT.pop_mask]
    rw [this]
abbrev s_ask_rather : Stmt := top 73
theorem sc_ask_rather : FnScope ["valley", "given", "v", "w"] ["valley", "given"] (defScope s_ask_rather) := ⟨rfl, rfl, rfl, by decide +kernel, rfl, by decide +kernel, by decide +kernel⟩
theorem d_ask_rather (T : Txt mg) (F : Fd K mg "ask_rather" s_ask_rather) (D_are_there : Dn P w K mg base 3 "are_there" ["valley", "v", "w"] (sp_are_there C)) (D_rather : Dn P w K mg base 3 "rather" ["valley", "v", "w"] (sp_rather C)) : Dn P w K mg base 4 "ask_rather" ["valley", "given"] (sp_ask C 2 (n2 .rather)) := by
  refine F.dn sc_ask_rather (fun _ _ _ _ _ _ us hl => match us, hl with | [_, _], _ => rfl) (fun vs H Q E h => ?_) (fun f cdv A outer s H vs Q E hr h => ?_)
  . obtain ⟨a, L, g, gs, rfl, _⟩ := h; rfl
  . obtain ⟨a, L, g, gs, rfl, hV, O, hg, hn, k⟩ := h
    obtain ⟨v, u, rfl⟩ := ln2 hn
    refine ⟨_, (pss_cons (ps_set (i := 2) sc_ask_rather.nd rfl (Or.inl rfl) (pe_ix ix_list (pv 1) pe_int (fun _ _ => rfl)))
      (pss_cons (ps_set (i := 3) sc_ask_rather.nd rfl (Or.inl rfl) (pe_ix ix_list (pv 1) pe_int (fun _ _ => rfl)))
      (pss_cons (ps_if (pt_not (pt_val (pe_dn D_are_there hr (pa_cons (pv 0) (pa_cons (pv 2) (pa_cons (pv 3) pa_nil)))))) (pss_one (ps_ret (pe_lst (pa_cons (pe_gi T.NONE_THERE) pa_nil)))) pss_nil)
      (pss_one (ps_ret (pe_lst (pa_cons (pe_dn D_rather hr (pa_cons (pv 0) (pa_cons (pv 2) (pa_cons (pv 3) pa_nil)))) (pa_cons (pe_dn D_rather hr (pa_cons (pv 0) (pa_cons (pv 3) (pa_cons (pv 2) pa_nil)))) pa_nil)))))))), ?_⟩
    refine ⟨_, rfl, g, _, _, _, rfl, rfl, SqL.of hg, at_of (j := 0) rfl rfl, ?_⟩
    refine ⟨_, rfl, g, _, _, _, rfl, rfl, SqL.of hg, at_of (j := 1) rfl rfl, ?_⟩
    refine ⟨_, rfl, _, rfl, _, rfl, a, _, _, _, _, v, u, rfl, hV, _, rfl, iteB (c := !decide (v < L.valley.length /\ u < L.valley.length)) rfl (fun hp => ?_) (fun hp => ?_)⟩
    . have hno : ¬ (v < L.valley.length /\ u < L.valley.length) := by
        intro z
        rw [decide_eq_true z] at hp
        cases hp
      refine ⟨(by show 1 <= sizeLine; decide), fin k (Same.refl _) ?_⟩
      show _ = (Km462Neutral.told (if L.valley.length <= v \/ L.valley.length <= u then _ else _)).map V.int
      rw [if_pos (by omega)]; rfl
    . have hy : v < L.valley.length /\ u < L.valley.length := by simpa using hp
      refine ⟨_, rfl, _, rfl, _, rfl, a, _, _, _, _, v, u, rfl, hV, O.good, hy.1, hy.2, fun H1 s1 => ?_⟩
      refine ⟨_, rfl, _, rfl, _, rfl, a, _, _, _, _, u, v, rfl, hV.same s1, O.good, hy.2, hy.1, fun H2 s2 => ⟨(by show 2 <= sizeLine; decide), fin k (s1.trans s2) ?_⟩⟩
      show _ = (Km462Neutral.told (if L.valley.length <= v \/ L.valley.length <= u then _ else _)).map V.int
      rw [if_neg (by omega)]; rfl
abbrev s_ask_ways : Stmt := top 74
theorem sc_ask_ways : FnScope ["valley", "given", "v"] ["valley", "given"] (defScope s_ask_ways) := ⟨rfl, rfl, rfl, by decide +kernel, rfl, by decide +kernel, by decide +kernel⟩
theorem d_ask_ways (T : Txt mg) (F : Fd K mg "ask_ways" s_ask_ways) (D_is_there : Dn P w K mg base 2 "is_there" ["valley", "v"] (sp_is_there C)) (D_all_ways : Dn P w K mg base 3 "all_ways" ["valley", "v"] (sp_all_ways C)) : Dn P w K mg base 4 "ask_ways" ["valley", "given"] (sp_ask C 1 (n1 .ways)) := by
  refine F.dn sc_ask_ways (fun _ _ _ _ _ _ us hl => match us, hl with | [_, _], _ => rfl) (fun vs H Q E h => ?_) (fun f cdv A outer s H vs Q E hr h => ?_)
  . obtain ⟨a, L, g, gs, rfl, _⟩ := h; rfl
  . obtain ⟨a, L, g, gs, rfl, hV, O, hg, hn, k⟩ := h
    obtain ⟨v, rfl⟩ := ln1 hn
    refine ⟨_, (pss_cons (ps_set (i := 2) sc_ask_ways.nd rfl (Or.inl rfl) (pe_ix ix_list (pv 1) pe_int (fun _ _ => rfl)))
      (pss_cons (ps_if (pt_not (pt_val (pe_dn D_is_there hr (pa_cons (pv 0) (pa_cons (pv 2) pa_nil))))) (pss_one (ps_ret (pe_lst (pa_cons (pe_gi T.NONE_THERE) pa_nil)))) pss_nil)
      (pss_one (ps_ret (pe_lst (pa_cons (pe_dn D_all_ways hr (pa_cons (pv 0) (pa_cons (pv 2) pa_nil))) pa_nil)))))), ?_⟩
    refine ⟨_, rfl, g, _, _, _, rfl, rfl, SqL.of hg, at_of (j := 0) rfl rfl, ?_⟩
    refine ⟨_, rfl, _, rfl, a, _, _, _, _, v, rfl, hV, _, rfl, iteB (c := !decide (v < L.valley.length)) rfl (fun hp => ?_) (fun hp => ?_)⟩
    . have hno : ¬ v < L.valley.length := by simpa using hp
      refine ⟨(by show 1 <= sizeLine; decide), fin k (Same.refl _) ?_⟩
      show _ = (Km462Neutral.told (if L.valley.length <= v then _ else _)).map V.int
      rw [if_pos (by omega)]; rfl
    . have hy : v < L.valley.length := by simpa using hp
      refine ⟨_, rfl, _, rfl, a, _, _, _, _, v, rfl, hV, O.good, hy, fun H1 s1 => ⟨(by show 1 <= sizeLine; decide), fin k s1 ?_⟩⟩
      show _ = (Km462Neutral.told (if L.valley.length <= v then _ else _)).map V.int
      rw [if_neg (by omega)]; rfl
abbrev s_ask_best : Stmt := top 75
theorem sc_ask_best : FnScope ["valley", "given", "found"] ["valley", "given"] (defScope s_ask_best) := ⟨rfl, rfl, rfl, by decide +kernel, rfl, by decide +kernel, by decide +kernel⟩
theorem d_ask_best (F : Fd K mg "ask_best" s_ask_best) (D_least_ways : Dn P w K mg base 4 "least_ways" ["valley"] (sp_least_ways C)) : Dn P w K mg base 5 "ask_best" ["valley", "given"] (sp_ask C 0 fun _ => .best) := by
  refine F.dn sc_ask_best (fun _ _ _ _ _ _ us hl => match us, hl with | [_, _], _ => rfl) (fun vs H Q E h => ?_) (fun f cdv A outer s H vs Q E hr h => ?_)
  . obtain ⟨a, L, g, gs, rfl, _⟩ := h; rfl
  . obtain ⟨a, L, g, gs, rfl, hV, O, hg, hn, k⟩ := h
    refine ⟨_, (pss_cons (ps_set (i := 2) sc_ask_best.nd rfl (Or.inl rfl) (pe_dn D_least_ways hr (pa_cons (pv 0) pa_nil)))
      (pss_one (ps_ret (pe_lst (pa_cons (pe_ix ix_tup (pv 2) pe_int (fun _ _ => rfl)) (pa_cons (pe_ix ix_tup (pv 2) pe_int (fun _ _ => rfl)) pa_nil)))))), ?_⟩
    refine ⟨_, rfl, a, _, _, _, _, rfl, hV, O.good, fun H1 q s1 hq => ?_⟩
    exact ⟨_, rfl, q, _, _, _, rfl, rfl, SqT.of hq, at_of (j := 1) rfl rfl, _, rfl, q, _, _, _, rfl, rfl, SqT.of hq, at_of (j := 0) rfl rfl, (by show 2 <= sizeLine; decide), fin k s1 rfl⟩
abbrev s_ask_round : Stmt := top 77
theorem sc_ask_round : FnScope ["valley", "given"] ["valley", "given"] (defScope s_ask_round) := ⟨rfl, rfl, rfl, by decide +kernel, rfl, by decide +kernel, by decide +kernel⟩
theorem d_ask_round (Z : Vc K C) (F : Fd K mg "ask_round" s_ask_round) (D_round_length : Dn P w K mg base 4 "round_length" ["valley", "school", "riders"] (sp_round_length C)) (D_size : Dn P w K mg base 1 "size" ["group"] sp_size) : Dn P w K mg base 5 "ask_round" ["valley", "given"] (sp_ask C 0 fun _ => .round) := by
  refine F.dn sc_ask_round (fun _ _ _ _ _ _ us hl => match us, hl with | [_, _], _ => rfl) (fun vs H Q E h => ?_) (fun f cdv A outer s H vs Q E hr h => ?_)
  . obtain ⟨a, L, g, gs, rfl, _⟩ := h; rfl
  . obtain ⟨a, L, g, gs, rfl, hV, O, hg, hn, k⟩ := h
    refine ⟨_, (pss_one (ps_ret (pe_lst (pa_cons (pe_dn D_round_length hr (pa_cons (pv 0) (pa_cons (pe_fld (pv 0) rfl) (pa_cons (pe_fld (pv 0) rfl) pa_nil)))) (pa_cons (pe_dn D_size hr (pa_cons (pe_fld (pv 0) rfl) pa_nil)) pa_nil))))), ?_⟩
    obtain ⟨dx, ch, up, rd, hP⟩ := id hV
    refine ⟨_, rfl, _, rfl, a, C, dx, _, _, rfl, hP.ins, Z.cl, Z.sc, vf_sc, _, rfl, a, C, dx, _, _, rfl, hP.ins, Z.cl, Z.ri, vf_ri, a, _, _, _, _, L.school, L.bus, rfl, hV, O.good, O.sch, canon_lt O.bus, fun H1 s1 => ?_⟩
    have hP1 := hP.same s1
    refine ⟨_, rfl, a, C, dx, _, _, rfl, hP1.ins, Z.cl, Z.ri, vf_ri, _, rfl, (by show 2 <= sizeLine; decide), fin k s1 ?_⟩
    rw [pop_setOf O.bus]; rfl
abbrev s_ask_from : Stmt := top 78
theorem sc_ask_from : FnScope ["valley", "given", "a"] ["valley", "given"] (defScope s_ask_from) := ⟨rfl, rfl, rfl, by decide +kernel, rfl, by decide +kernel, by decide +kernel⟩
theorem d_ask_from (T : Txt mg) (Z : Vc K C) (F : Fd K mg "ask_from" s_ask_from) (D_is_there : Dn P w K mg base 2 "is_there" ["valley", "v"] (sp_is_there C)) (D_round_length : Dn P w K mg base 4 "round_length" ["valley", "school", "riders"] (sp_round_length C)) : Dn P w K mg base 5 "ask_from" ["valley", "given"] (sp_ask C 1 (n1 .roundFrom)) := by
  refine F.dn sc_ask_from (fun _ _ _ _ _ _ us hl => match us, hl with | [_, _], _ => rfl) (fun vs H Q E h => ?_) (fun f cdv A outer s H vs Q E hr h => ?_)
  . obtain ⟨a, L, g, gs, rfl, _⟩ := h; rfl
  . obtain ⟨a, L, g, gs, rfl, hV, O, hg, hn, k⟩ := h
    obtain ⟨v, rfl⟩ := ln1 hn
    refine ⟨_, (pss_cons (ps_set (i := 2) sc_ask_from.nd rfl (Or.inl rfl) (pe_ix ix_list (pv 1) pe_int (fun _ _ => rfl)))
      (pss_cons (ps_if (pt_not (pt_val (pe_dn D_is_there hr (pa_cons (pv 0) (pa_cons (pv 2) pa_nil))))) (pss_one (ps_ret (pe_lst (pa_cons (pe_gi T.NONE_THERE) pa_nil)))) pss_nil)
      (pss_one (ps_ret (pe_lst (pa_cons (pe_dn D_round_length hr (pa_cons (pv 0) (pa_cons (pv 2) (pa_cons (pe_fld (pv 0) rfl) pa_nil)))) pa_nil)))))), ?_⟩
    obtain ⟨dx, ch, up, rd, hP⟩ := id hV
    refine ⟨_, rfl, g, _, _, _, rfl, rfl, SqL.of hg, at_of (j := 0) rfl rfl, ?_⟩
    refine ⟨_, rfl, _, rfl, a, _, _, _, _, v, rfl, hV, _, rfl, iteB (c := !decide (v < L.valley.length)) rfl (fun hp => ?_) (fun hp => ?_)⟩
    . have hno : ¬ v < L.valley.length := by simpa using hp
      refine ⟨(by show 1 <= sizeLine; decide), fin k (Same.refl _) ?_⟩
      show _ = (Km462Neutral.told (if L.valley.length <= v then _ else _)).map V.int
      rw [if_pos (by omega)]; rfl
    . have hy : v < L.valley.length := by simpa using hp
      refine ⟨_, rfl, _, rfl, _, rfl, a, C, dx, _, _, rfl, hP.ins, Z.cl, Z.ri, vf_ri, a, _, _, _, _, v, L.bus, rfl, hV, O.good, hy, canon_lt O.bus, fun H1 s1 => ⟨(by show 1 <= sizeLine; decide), fin k s1 ?_⟩⟩
      show _ = (Km462Neutral.told (if L.valley.length <= v then _ else _)).map V.int
      rw [if_neg (by omega)]; rfl
abbrev s_ask_far : Stmt := top 84
theorem sc_ask_far : FnScope ["valley", "given", "v"] ["valley", "given"] (defScope s_ask_far) := ⟨rfl, rfl, rfl, by decide +kernel, rfl, by decide +kernel, by decide +kernel⟩
theorem d_ask_far (T : Txt mg) (Z : Vc K C) (F : Fd K mg "ask_far" s_ask_far) (D_is_there : Dn P w K mg base 2 "is_there" ["valley", "v"] (sp_is_there C)) (D_distances : Dn P w K mg base 2 "distances" ["valley"] (sp_distances C)) : Dn P w K mg base 3 "ask_far" ["valley", "given"] (sp_ask C 1 (n1 .far)) := by
  refine F.dn sc_ask_far (fun _ _ _ _ _ _ us hl => match us, hl with | [_, _], _ => rfl) (fun vs H Q E h => ?_) (fun f cdv A outer s H vs Q E hr h => ?_)
  . obtain ⟨a, L, g, gs, rfl, _⟩ := h; rfl
  . obtain ⟨a, L, g, gs, rfl, hV, O, hg, hn, k⟩ := h
    obtain ⟨v, rfl⟩ := ln1 hn
    refine ⟨_, (pss_cons (ps_set (i := 2) sc_ask_far.nd rfl (Or.inl rfl) (pe_ix ix_list (pv 1) pe_int (fun _ _ => rfl)))
      (pss_cons (ps_if (pt_not (pt_val (pe_dn D_is_there hr (pa_cons (pv 0) (pa_cons (pv 2) pa_nil))))) (pss_one (ps_ret (pe_lst (pa_cons (pe_gi T.NONE_THERE) pa_nil)))) pss_nil)
      (pss_one (ps_ret (pe_lst (pa_cons (pe_ix ix_list (pe_ix ix_list (pe_dn D_distances hr (pa_cons (pv 0) pa_nil)) (pe_fld (pv 0) rfl) (fun _ _ => rfl)) (pv 2) (fun _ _ => rfl)) pa_nil)))))), ?_⟩
    obtain ⟨dx, ch, up, rd, hP⟩ := id hV
    refine ⟨_, rfl, g, _, _, _, rfl, rfl, SqL.of hg, at_of (j := 0) rfl rfl, ?_⟩
    refine ⟨_, rfl, _, rfl, a, _, _, _, _, v, rfl, hV, _, rfl, iteB (c := !decide (v < L.valley.length)) rfl (fun hp => ?_) (fun hp => ?_)⟩
    . have hno : ¬ v < L.valley.length := by simpa using hp
      refine ⟨(by show 1 <= sizeLine; decide), fin k (Same.refl _) ?_⟩
      show _ = (Km462Neutral.told (if L.valley.length <= v then _ else _)).map V.int
      rw [if_pos (by omega)]; rfl
    . have hy : v < L.valley.length := by simpa using hp
      refine ⟨_, rfl, a, _, _, _, _, rfl, hV, O.good, fun H1 q s1 hq tb => ?_⟩
      have hP1 := hP.same s1
      obtain ⟨xs, r, hx, hxr, hrow⟩ := tb.row O.sch
      refine ⟨_, rfl, a, C, dx, _, _, rfl, hP1.ins, Z.cl, Z.sc, vf_sc, q, xs, _, _, rfl, rfl, SqL.of hx, atI_nat hxr, _, rfl, r, _, _, _, rfl, rfl, SqL.of hrow, atI_nat (R_at hy), (by show 1 <= sizeLine; decide), fin k s1 ?_⟩
      show _ = (Km462Neutral.told (if L.valley.length <= v then _ else _)).map V.int
      rw [if_neg (by omega), VT.far_comm O.good.wf O.sch hy]; rfl
abbrev s_ask_fewest : Stmt := top 86
theorem sc_ask_fewest : FnScope ["valley", "given", "group"] ["valley", "given"] (defScope s_ask_fewest) := ⟨rfl, rfl, rfl, by decide +kernel, rfl, by decide +kernel, by decide +kernel⟩
theorem d_ask_fewest (F : Fd K mg "ask_fewest" s_ask_fewest) (D_fewest_posts : Dn P w K mg base 5 "fewest_posts" ["valley", "r"] (sp_fewest_posts C)) (D_size : Dn P w K mg base 1 "size" ["group"] sp_size) : Dn P w K mg base 6 "ask_fewest" ["valley", "given"] (sp_ask C 1 (n1 .fewest)) := by
  refine F.dn sc_ask_fewest (fun _ _ _ _ _ _ us hl => match us, hl with | [_, _], _ => rfl) (fun vs H Q E h => ?_) (fun f cdv A outer s H vs Q E hr h => ?_)
  . obtain ⟨a, L, g, gs, rfl, _⟩ := h; rfl
  . obtain ⟨a, L, g, gs, rfl, hV, O, hg, hn, k⟩ := h
    obtain ⟨v, rfl⟩ := ln1 hn
    refine ⟨_, (pss_cons (ps_set (i := 2) sc_ask_fewest.nd rfl (Or.inl rfl) (pe_dn D_fewest_posts hr (pa_cons (pv 0) (pa_cons (pe_ix ix_list (pv 1) pe_int (fun _ _ => rfl)) pa_nil))))
      (pss_one (ps_ret (pe_lst (pa_cons (pe_dn D_size hr (pa_cons (pv 2) pa_nil)) (pa_cons (pv 2) pa_nil)))))), ?_⟩
    refine ⟨_, rfl, _, rfl, g, _, _, _, rfl, rfl, SqL.of hg, at_of (j := 0) rfl rfl, a, _, _, _, _, v, rfl, hV, O.good, fun H1 s1 => ?_⟩
    refine ⟨_, rfl, _, rfl, _, rfl, (by show 2 <= sizeLine; decide), fin k s1 ?_⟩
    have hm := few_mem O.good v [] (by simp) (by simp)
    rw [few_nil, List.nil_append] at hm
    show [nv _, nv _] = [nv (Km458.fewest (Km458.table L.valley) v).length, nv (Km462.bits (Km458.fewest (Km458.table L.valley) v))]
    have e1 : setOf L.valley.length (Km458.fewest (Km458.table L.valley) v) = Km462.bits (Km458.fewest (Km458.table L.valley) v) := (VT.bits_mask hm.1 hm.2).symm
    rw [e1, VT.pop_bits hm.1 hm.2]
abbrev s_ask_with : Stmt := top 87
theorem sc_ask_with : FnScope ["valley", "given", "group"] ["valley", "given"] (defScope s_ask_with) := ⟨rfl, rfl, rfl, by decide +kernel, rfl, by decide +kernel, by decide +kernel⟩
theorem d_ask_with (F : Fd K mg "ask_with" s_ask_with) (D_posts_with_schools : Dn P w K mg base 5 "posts_with_schools" ["valley", "r"] (sp_posts_with_schools C)) (D_size : Dn P w K mg base 1 "size" ["group"] sp_size) : Dn P w K mg base 6 "ask_with" ["valley", "given"] (sp_ask C 1 (n1 .withSchool)) := by
  refine F.dn sc_ask_with (fun _ _ _ _ _ _ us hl => match us, hl with | [_, _], _ => rfl) (fun vs H Q E h => ?_) (fun f cdv A outer s H vs Q E hr h => ?_)
  . obtain ⟨a, L, g, gs, rfl, _⟩ := h; rfl
  . obtain ⟨a, L, g, gs, rfl, hV, O, hg, hn, k⟩ := h
    obtain ⟨v, rfl⟩ := ln1 hn
    refine ⟨_, (pss_cons (ps_set (i := 2) sc_ask_with.nd rfl (Or.inl rfl) (pe_dn D_posts_with_schools hr (pa_cons (pv 0) (pa_cons (pe_ix ix_list (pv 1) pe_int (fun _ _ => rfl)) pa_nil))))
      (pss_one (ps_ret (pe_lst (pa_cons (pe_dn D_size hr (pa_cons (pv 2) pa_nil)) (pa_cons (pv 2) pa_nil)))))), ?_⟩
    refine ⟨_, rfl, _, rfl, g, _, _, _, rfl, rfl, SqL.of hg, at_of (j := 0) rfl rfl, a, _, _, _, _, v, rfl, hV, O.good, O.sch, fun H1 s1 => ?_⟩
    refine ⟨_, rfl, _, rfl, _, rfl, (by show 2 <= sizeLine; decide), fin k s1 ?_⟩
    have hm := few_mem O.good v [L.school] (by simp) (by simpa using O.sch)
    rw [few_one] at hm
    show [nv _, nv _] = [nv (Km462.withSchool L.valley L.school v).length, nv (Km462.bits (Km462.withSchool L.valley L.school v))]
    have e1 : setOf L.valley.length (Km462.withSchool L.valley L.school v) = Km462.bits (Km462.withSchool L.valley L.school v) := (VT.bits_mask hm.1 hm.2).symm
    rw [e1, VT.pop_bits hm.1 hm.2]
end
end VV
namespace VV
open PySem PySem.Spec PyProof.Rows L2
open Km457 (Valley at_)
section
variable {P : Program} {w : World} {K : PySem.W.Frag} {mg : Str -> Option Value} {base : Heap} {C : Addr}
abbrev s_ask_lie : Stmt := top 76
theorem sc_ask_lie : FnScope ["valley", "given", "v", "w", "row", "lied", "honest"] ["valley", "given"] (defScope s_ask_lie) := ⟨rfl, rfl, rfl, by decide +kernel, rfl, by decide +kernel, by decide +kernel⟩
theorem d_ask_lie (T : Txt mg) (Z : Vc K C) (F : Fd K mg "ask_lie" s_ask_lie) (D_are_there : Dn P w K mg base 3 "are_there" ["valley", "v", "w"] (sp_are_there C)) (D_distances : Dn P w K mg base 2 "distances" ["valley"] (sp_distances C)) (D_chosen_with_lie : Dn P w K mg base 6 "chosen_with_lie" ["valley", "v", "w"] (sp_chosen_with_lie C)) (D_chosen : Dn P w K mg base 5 "chosen" ["valley", "children"] (sp_chosen C)) : Dn P w K mg base 7 "ask_lie" ["valley", "given"] (sp_ask C 2 (n2 .lie)) := by
  refine F.dn sc_ask_lie (fun _ _ _ _ _ _ us hl => match us, hl with | [_, _], _ => rfl) (fun vs H Q E h => ?_) (fun f cdv A outer s H vs Q E hr h => ?_)
  . obtain ⟨a, L, g, gs, rfl, _⟩ := h; rfl
  . obtain ⟨a, L, g, gs, rfl, hV, O, hg, hn, k⟩ := h
    obtain ⟨v, u, rfl⟩ := ln2 hn
    refine ⟨_, (pss_cons (ps_set (i := 2) sc_ask_lie.nd rfl (Or.inl rfl) (pe_ix ix_list (pv 1) pe_int (fun _ _ => rfl)))
      (pss_cons (ps_set (i := 3) sc_ask_lie.nd rfl (Or.inl rfl) (pe_ix ix_list (pv 1) pe_int (fun _ _ => rfl)))
      (pss_cons (ps_if (pt_not (pt_val (pe_dn D_are_there hr (pa_cons (pv 0) (pa_cons (pv 2) (pa_cons (pv 3) pa_nil)))))) (pss_one (ps_ret (pe_lst (pa_cons (pe_gi T.NONE_THERE) pa_nil)))) pss_nil)
      (pss_cons (ps_if (pt_cmpR op_eq (pe_ix ix_list (pe_fld (pv 0) rfl) (pv 2) (fun _ _ => rfl)) pe_int (nomark _)) (pss_one (ps_ret (pe_lst (pa_cons (pe_gi T.EMPTY) pa_nil)))) pss_nil)
      (pss_cons (ps_set (i := 4) sc_ask_lie.nd rfl (Or.inl rfl) (pe_ix ix_list (pe_dn D_distances hr (pa_cons (pv 0) pa_nil)) (pv 2) (fun _ _ => rfl)))
      (pss_cons (ps_set (i := 5) sc_ask_lie.nd rfl (Or.inl rfl) (pe_dn D_chosen_with_lie hr (pa_cons (pv 0) (pa_cons (pv 2) (pa_cons (pv 3) pa_nil)))))
      (pss_cons (ps_set (i := 6) sc_ask_lie.nd rfl (Or.inl rfl) (pe_dn D_chosen hr (pa_cons (pv 0) (pa_cons (pe_fld (pv 0) rfl) pa_nil))))
      (pss_one (ps_ret (pe_lst (pa_cons (pv 5) (pa_cons (pe_ix ix_list (pv 4) (pv 5) (fun _ _ => rfl)) (pa_cons (pe_ix ix_list (pv 4) (pv 6) (fun _ _ => rfl)) pa_nil))))))))))))), ?_⟩
    obtain ⟨dx, ch, up, rd, hP⟩ := id hV
    refine ⟨_, rfl, g, _, _, _, rfl, rfl, SqL.of hg, at_of (j := 0) rfl rfl, ?_⟩
    refine ⟨_, rfl, g, _, _, _, rfl, rfl, SqL.of hg, at_of (j := 1) rfl rfl, ?_⟩
    refine ⟨_, rfl, _, rfl, _, rfl, a, _, _, _, _, v, u, rfl, hV, _, rfl, iteB (c := !decide (v < L.valley.length /\ u < L.valley.length)) rfl (fun hp => ?_) (fun hp => ?_)⟩
    . have hno : ¬ (v < L.valley.length /\ u < L.valley.length) := by
        intro z
        rw [decide_eq_true z] at hp
        cases hp
      refine ⟨(by show 1 <= sizeLine; decide), fin k (Same.refl _) ?_⟩
      show _ = (Km462Neutral.told (if L.valley.length <= v \/ L.valley.length <= u then _ else _)).map V.int
      rw [if_pos (by omega)]; rfl
    . have hy : v < L.valley.length /\ u < L.valley.length := by simpa using hp
      refine ⟨_, rfl, a, C, dx, _, _, rfl, hP.ins, Z.cl, Z.ch, vf_ch, _, rfl, ch, _, _, _, rfl, rfl, SqL.of hP.ch, atI_nat (many_at hy.1), rfl, _, rfl, iteB (c := decide ((at_ L.valley v).many = 0)) (V.ncast (j := 0)) (fun hp2 => ?_) (fun hp2 => ?_)⟩
      . refine ⟨(by show 1 <= sizeLine; decide), fin k (Same.refl _) ?_⟩
        show _ = (Km462Neutral.told (if L.valley.length <= v \/ L.valley.length <= u then _ else if Km462.many L.valley v = 0 then _ else _)).map V.int
        rw [if_neg (by omega), if_pos (show Km462.many L.valley v = 0 from of_decide_eq_true hp2)]; rfl
      . have hm : 0 < (at_ L.valley v).many := by have := of_decide_eq_false hp2; omega
        refine ⟨_, rfl, a, _, _, _, _, rfl, hV, O.good, fun H1 q s1 hq tb => ?_⟩
        obtain ⟨xs, r, hx, hxr, hrow⟩ := tb.row hy.1
        refine ⟨_, rfl, q, xs, _, _, rfl, rfl, SqL.of hx, atI_nat hxr, ?_⟩
        refine ⟨_, rfl, _, rfl, _, rfl, a, _, _, _, _, v, u, rfl, hV.same s1, O.good, hy.1, hy.2, hm, fun H2 s2 => ?_⟩
        have hP2 := hP.same (s1.trans s2)
        refine ⟨_, rfl, _, rfl, a, C, dx, _, _, rfl, hP2.ins, Z.cl, Z.ch, vf_ch, a, _, _, _, _, ch, L.valley, rfl, hV.same (s1.trans s2), O.good, hP2.ch, VT.Like.refl _, fun H3 s3 => ?_⟩
        have c1 : Km462.chosen (Km462.lied L.valley v u) < L.valley.length := by
          have := (VT.chosen_eq ((VT.like_lied L.valley v u).wf O.good.wf)).2
          rw [(VT.like_lied L.valley v u).len] at this; exact this
        have c2 := (VT.chosen_eq O.good.wf).2
        have hr3 := s3 _ _ (s2 _ _ hrow)
        refine ⟨_, rfl, _, rfl, _, rfl, r, _, _, _, rfl, rfl, SqL.of hr3, atI_nat (R_at c1), _, rfl, _, rfl, r, _, _, _, rfl, rfl, SqL.of hr3, atI_nat (R_at c2), (by show 3 <= sizeLine; decide), fin k (s1.trans (s2.trans s3)) ?_⟩
        show _ = (Km462Neutral.told (if L.valley.length <= v \/ L.valley.length <= u then _ else if Km462.many L.valley v = 0 then _ else _)).map V.int
        rw [if_neg (by omega), if_neg (show ¬ Km462.many L.valley v = 0 from of_decide_eq_false hp2)]; rfl
abbrev s_ask_stop : Stmt := top 79
theorem sc_ask_stop : FnScope ["valley", "given", "k", "stops"] ["valley", "given"] (defScope s_ask_stop) := ⟨rfl, rfl, rfl, by decide +kernel, rfl, by decide +kernel, by decide +kernel⟩
theorem d_ask_stop (T : Txt mg) (F : Fd K mg "ask_stop" s_ask_stop) (D_round_stops : Dn P w K mg base 15 "round_stops" ["valley"] (sp_round_stops C)) (D_gone_at : Dn P w K mg base 2 "gone_at" ["valley", "stops", "k"] (sp_gone_at C)) : Dn P w K mg base 16 "ask_stop" ["valley", "given"] (sp_ask C 1 (n1 .halt_)) := by
  refine F.dn sc_ask_stop (fun _ _ _ _ _ _ us hl => match us, hl with | [_, _], _ => rfl) (fun vs H Q E h => ?_) (fun f cdv A outer s H vs Q E hr h => ?_)
  . obtain ⟨a, L, g, gs, rfl, _⟩ := h; rfl
  . obtain ⟨a, L, g, gs, rfl, hV, O, hg, hn, k⟩ := h
    obtain ⟨v, rfl⟩ := ln1 hn
    refine ⟨_, (pss_cons (ps_set (i := 2) sc_ask_stop.nd rfl (Or.inl rfl) (pe_ix ix_list (pv 1) pe_int (fun _ _ => rfl)))
      (pss_cons (ps_set (i := 3) sc_ask_stop.nd rfl (Or.inl rfl) (pe_dn D_round_stops hr (pa_cons (pv 0) pa_nil)))
      (pss_cons (ps_if (pt_cmpR op_ge (pv 2) (pe_callB call_len_seq rfl T.len PySem.boot_len (pa_cons (pv 3) pa_nil)) (nomark _)) (pss_one (ps_ret (pe_lst (pa_cons (pe_gi T.NOT_THIS_ONE) pa_nil)))) pss_nil)
      (pss_one (ps_ret (pe_lst (pa_cons (pe_ix ix_list (pv 3) (pv 2) (fun _ _ => rfl)) (pa_cons (pe_dn D_gone_at hr (pa_cons (pv 0) (pa_cons (pv 3) (pa_cons (pv 2) pa_nil)))) pa_nil)))))))), ?_⟩
    refine ⟨_, rfl, g, _, _, _, rfl, rfl, SqL.of hg, at_of (j := 0) rfl rfl, ?_⟩
    refine ⟨_, rfl, a, _, _, _, L.bus, rfl, hV, O.good, O.sch, canon_lt O.bus, fun H1 q s1 hq ht => ?_⟩
    refine ⟨_, rfl, _, rfl, q, _, rfl, .inl (SqL.of ht), _, _, rfl, rfl, _, rfl, iteB (c := decide ((Km460.tour L.valley L.school L.bus).length <= v)) ?_ (fun hp => ?_) (fun hp => ?_)⟩
    . rw [List.length_map]; exact ile
    . refine ⟨(by show 1 <= sizeLine; decide), fin k s1 ?_⟩
      have e : (Km460.tour L.valley L.school L.bus)[v]? = none := List.getElem?_eq_none (of_decide_eq_true hp)
      show _ = (Km462Neutral.told (match (Km460.tour L.valley L.school L.bus)[v]? with | none => _ | some v => _)).map V.int
      rw [e]; rfl
    . have hl : v < (Km460.tour L.valley L.school L.bus).length := by have := of_decide_eq_false hp; omega
      obtain ⟨x, hx⟩ : ∃ x, (Km460.tour L.valley L.school L.bus)[v]? = some x := ⟨_, List.getElem?_eq_getElem hl⟩
      refine ⟨_, rfl, _, rfl, q, _, _, _, rfl, rfl, SqL.of ht, atI_nat (v := nv x) (by rw [List.getElem?_map, hx]; rfl), _, rfl, _, rfl, _, rfl, a, _, _, _, _, q, L.school, L.bus, v, rfl, hV.same s1, O.good, O.sch, ht, hl, fun H2 s2 => ⟨(by show 2 <= sizeLine; decide), fin k (s1.trans s2) ?_⟩⟩
      show _ = (Km462Neutral.told (match (Km460.tour L.valley L.school L.bus)[v]? with | none => _ | some v => _)).map V.int
      rw [hx]; rfl
abbrev s_ask_pays : Stmt := top 80
theorem sc_ask_pays : FnScope ["valley", "given", "v"] ["valley", "given"] (defScope s_ask_pays) := ⟨rfl, rfl, rfl, by decide +kernel, rfl, by decide +kernel, by decide +kernel⟩
theorem d_ask_pays (T : Txt mg) (Z : Vc K C) (F : Fd K mg "ask_pays" s_ask_pays) (D_is_there : Dn P w K mg base 2 "is_there" ["valley", "v"] (sp_is_there C)) (D_holds : Dn P w K mg base 1 "holds" ["group", "v"] sp_holds) (D_fraction : Dn P w K mg base 2 "fraction" ["parts"] sp_fraction) (D_parts_paid : Dn P w K mg base 3 "parts_paid" ["valley", "v", "riders"] (sp_parts_paid C)) : Dn P w K mg base 4 "ask_pays" ["valley", "given"] (sp_ask C 1 (n1 .pays)) := by
  refine F.dn sc_ask_pays (fun _ _ _ _ _ _ us hl => match us, hl with | [_, _], _ => rfl) (fun vs H Q E h => ?_) (fun f cdv A outer s H vs Q E hr h => ?_)
  . obtain ⟨a, L, g, gs, rfl, _⟩ := h; rfl
  . obtain ⟨a, L, g, gs, rfl, hV, O, hg, hn, k⟩ := h
    obtain ⟨v, rfl⟩ := ln1 hn
    refine ⟨_, (pss_cons (ps_set (i := 2) sc_ask_pays.nd rfl (Or.inl rfl) (pe_ix ix_list (pv 1) pe_int (fun _ _ => rfl)))
      (pss_cons (ps_if (pt_not (pt_val (pe_dn D_is_there hr (pa_cons (pv 0) (pa_cons (pv 2) pa_nil))))) (pss_one (ps_ret (pe_lst (pa_cons (pe_gi T.NONE_THERE) pa_nil)))) pss_nil)
      (pss_cons (ps_if (pt_not (pt_val (pe_dn D_holds hr (pa_cons (pe_fld (pv 0) rfl) (pa_cons (pv 2) pa_nil))))) (pss_one (ps_ret (pe_lst (pa_cons (pe_gi T.NOT_RIDING) pa_nil)))) pss_nil)
      (pss_one (ps_ret (pe_dn D_fraction hr (pa_cons (pe_dn D_parts_paid hr (pa_cons (pv 0) (pa_cons (pv 2) (pa_cons (pe_fld (pv 0) rfl) pa_nil)))) pa_nil))))))), ?_⟩
    obtain ⟨dx, ch, up, rd, hP⟩ := id hV
    refine ⟨_, rfl, g, _, _, _, rfl, rfl, SqL.of hg, at_of (j := 0) rfl rfl, ?_⟩
    refine ⟨_, rfl, _, rfl, a, _, _, _, _, v, rfl, hV, _, rfl, iteB (c := !decide (v < L.valley.length)) rfl (fun hp => ?_) (fun hp => ?_)⟩
    . have hno : ¬ v < L.valley.length := by simpa using hp
      refine ⟨(by show 1 <= sizeLine; decide), fin k (Same.refl _) ?_⟩
      show _ = (Km462Neutral.told (if L.valley.length <= v then _ else _)).map V.int
      rw [if_pos (by omega)]; rfl
    . have hy : v < L.valley.length := by simpa using hp
      refine ⟨_, rfl, a, C, dx, _, _, rfl, hP.ins, Z.cl, Z.ri, vf_ri, _, rfl, _, v, rfl, _, rfl, iteB (c := !L.bus.contains v) (by rw [setOf_bit hy]) (fun hp2 => ?_) (fun hp2 => ?_)⟩
      . have hb : L.bus.contains v = false := by simpa using hp2
        refine ⟨(by show 1 <= sizeLine; decide), fin k (Same.refl _) ?_⟩
        show _ = (Km462Neutral.told (if L.valley.length <= v then _ else if L.bus.contains v = false then _ else _)).map V.int
        rw [if_neg (by omega), if_pos hb]; rfl
      . have hb : L.bus.contains v = true := by simpa using hp2
        refine ⟨_, rfl, _, rfl, _, rfl, a, C, dx, _, _, rfl, hP.ins, Z.cl, Z.ri, vf_ri, a, _, _, _, _, v, L.bus, rfl, hV, O.good, O.sch, canon_nd O.bus, canon_lt O.bus, by simpa using hb, fun H1 s1 => ?_⟩
        refine ⟨_, rfl, fun H2 q s2 hq h2 => k _ q (s1.trans s2) (s1.free hq) ?_⟩
        rw [h2]
        show _ = some (HO.lst ((Km462Neutral.told (if L.valley.length <= v then _ else if L.bus.contains v = false then _ else _)).map V.int))
        rw [if_neg (by omega), if_neg (by rw [hb]; decide)]; rfl
abbrev s_ask_mean : Stmt := top 82
theorem sc_ask_mean : FnScope ["valley", "given", "v"] ["valley", "given"] (defScope s_ask_mean) := ⟨rfl, rfl, rfl, by decide +kernel, rfl, by decide +kernel, by decide +kernel⟩
theorem d_ask_mean (T : Txt mg) (Z : Vc K C) (F : Fd K mg "ask_mean" s_ask_mean) (D_is_there : Dn P w K mg base 2 "is_there" ["valley", "v"] (sp_is_there C)) (D_holds : Dn P w K mg base 1 "holds" ["group", "v"] sp_holds) (D_size : Dn P w K mg base 1 "size" ["group"] sp_size) (D_added_in_all_orders : Dn P w K mg base 6 "added_in_all_orders" ["valley", "v"] (sp_added_in_all_orders C)) (D_orders : Dn P w K mg base 1 "orders" ["count"] sp_orders) : Dn P w K mg base 7 "ask_mean" ["valley", "given"] (sp_ask C 1 (n1 .mean)) := by
  refine F.dn sc_ask_mean (fun _ _ _ _ _ _ us hl => match us, hl with | [_, _], _ => rfl) (fun vs H Q E h => ?_) (fun f cdv A outer s H vs Q E hr h => ?_)
  . obtain ⟨a, L, g, gs, rfl, _⟩ := h; rfl
  . obtain ⟨a, L, g, gs, rfl, hV, O, hg, hn, k⟩ := h
    obtain ⟨v, rfl⟩ := ln1 hn
    refine ⟨_, (pss_cons (ps_set (i := 2) sc_ask_mean.nd rfl (Or.inl rfl) (pe_ix ix_list (pv 1) pe_int (fun _ _ => rfl)))
      (pss_cons (ps_if (pt_not (pt_val (pe_dn D_is_there hr (pa_cons (pv 0) (pa_cons (pv 2) pa_nil))))) (pss_one (ps_ret (pe_lst (pa_cons (pe_gi T.NONE_THERE) pa_nil)))) pss_nil)
      (pss_cons (ps_if (pt_not (pt_val (pe_dn D_holds hr (pa_cons (pe_fld (pv 0) rfl) (pa_cons (pv 2) pa_nil))))) (pss_one (ps_ret (pe_lst (pa_cons (pe_gi T.NOT_RIDING) pa_nil)))) pss_nil)
      (pss_cons (ps_if (pt_cmpR op_gt (pe_dn D_size hr (pa_cons (pe_fld (pv 0) rfl) pa_nil)) (pe_gi T.MOST_IN_ORDERS) (nomark _)) (pss_one (ps_ret (pe_lst (pa_cons (pe_gi T.FULL) pa_nil)))) pss_nil)
      (pss_one (ps_ret (pe_lst (pa_cons (pe_dn D_added_in_all_orders hr (pa_cons (pv 0) (pa_cons (pv 2) pa_nil))) (pa_cons (pe_dn D_orders hr (pa_cons (pe_dn D_size hr (pa_cons (pe_fld (pv 0) rfl) pa_nil)) pa_nil)) pa_nil))))))))), ?_⟩
    obtain ⟨dx, ch, up, rd, hP⟩ := id hV
    refine ⟨_, rfl, g, _, _, _, rfl, rfl, SqL.of hg, at_of (j := 0) rfl rfl, ?_⟩
    refine ⟨_, rfl, _, rfl, a, _, _, _, _, v, rfl, hV, _, rfl, iteB (c := !decide (v < L.valley.length)) rfl (fun hp => ?_) (fun hp => ?_)⟩
    . have hno : ¬ v < L.valley.length := by simpa using hp
      refine ⟨(by show 1 <= sizeLine; decide), fin k (Same.refl _) ?_⟩
      show _ = (Km462Neutral.told (if L.valley.length <= v then _ else _)).map V.int
      rw [if_pos (by omega)]; rfl
    . have hy : v < L.valley.length := by simpa using hp
      refine ⟨_, rfl, a, C, dx, _, _, rfl, hP.ins, Z.cl, Z.ri, vf_ri, _, rfl, _, v, rfl, _, rfl, iteB (c := !L.bus.contains v) (by rw [setOf_bit hy]) (fun hp2 => ?_) (fun hp2 => ?_)⟩
      . have hb : L.bus.contains v = false := by simpa using hp2
        refine ⟨(by show 1 <= sizeLine; decide), fin k (Same.refl _) ?_⟩
        show _ = (Km462Neutral.told (if L.valley.length <= v then _ else if L.bus.contains v = false then _ else _)).map V.int
        rw [if_neg (by omega), if_pos hb]; rfl
      . have hb : L.bus.contains v = true := by simpa using hp2
        refine ⟨_, rfl, a, C, dx, _, _, rfl, hP.ins, Z.cl, Z.ri, vf_ri, _, rfl, ?_⟩
        rw [pop_setOf O.bus]
        refine ⟨_, _, rfl, rfl, _, rfl, iteB (c := decide (5 < L.bus.length)) (ilt (i := 5)) (fun hp3 => ?_) (fun hp3 => ?_)⟩
        . refine ⟨(by show 1 <= sizeLine; decide), fin k (Same.refl _) ?_⟩
          show _ = (Km462Neutral.told (if L.valley.length <= v then _ else if L.bus.contains v = false then _ else if 5 < L.bus.length then _ else _)).map V.int
          rw [if_neg (by omega), if_neg (by rw [hb]; decide), if_pos (of_decide_eq_true hp3)]; rfl
        . have h5 : L.bus.length <= 5 := by have := of_decide_eq_false hp3; omega
          have hm : v ∈ L.bus := by simpa using hb
          refine ⟨_, rfl, _, rfl, a, _, _, _, v, L.bus, rfl, hV, O.good, O.sch, O.bus, hm, fun H1 s1 => ?_⟩
          have hP1 := hP.same s1
          refine ⟨_, rfl, a, C, dx, _, _, rfl, hP1.ins, Z.cl, Z.ri, vf_ri, _, rfl, L.bus.length, by rw [pop_setOf O.bus]; rfl, by omega, (by show 2 <= sizeLine; decide), fin k s1 ?_⟩
          show _ = (Km462Neutral.told (if L.valley.length <= v then _ else if L.bus.contains v = false then _ else if 5 < L.bus.length then _ else _)).map V.int
          rw [if_neg (by omega), if_neg (by rw [hb]; decide), if_neg (by omega), <- (VT.mean_eq (s := L.valley) (c := L.school) (canon_nd O.bus) hm).2]; rfl
abbrev s_ask_joins : Stmt := top 83
theorem sc_ask_joins : FnScope ["valley", "given", "v"] ["valley", "given"] (defScope s_ask_joins) := ⟨rfl, rfl, rfl, by decide +kernel, rfl, by decide +kernel, by decide +kernel⟩
theorem d_ask_joins (T : Txt mg) (Z : Vc K C) (F : Fd K mg "ask_joins" s_ask_joins) (D_is_there : Dn P w K mg base 2 "is_there" ["valley", "v"] (sp_is_there C)) (D_holds : Dn P w K mg base 1 "holds" ["group", "v"] sp_holds) (D_adds : Dn P w K mg base 5 "adds" ["valley", "v", "before"] (sp_adds C)) (D_parts_paid : Dn P w K mg base 3 "parts_paid" ["valley", "v", "riders"] (sp_parts_paid C)) (D_one : Dn P w K mg base 1 "one" ["v"] sp_one) : Dn P w K mg base 6 "ask_joins" ["valley", "given"] (sp_ask C 1 (n1 .joins)) := by
  refine F.dn sc_ask_joins (fun _ _ _ _ _ _ us hl => match us, hl with | [_, _], _ => rfl) (fun vs H Q E h => ?_) (fun f cdv A outer s H vs Q E hr h => ?_)
  . obtain ⟨a, L, g, gs, rfl, _⟩ := h; rfl
  . obtain ⟨a, L, g, gs, rfl, hV, O, hg, hn, k⟩ := h
    obtain ⟨v, rfl⟩ := ln1 hn
    refine ⟨_, (pss_cons (ps_set (i := 2) sc_ask_joins.nd rfl (Or.inl rfl) (pe_ix ix_list (pv 1) pe_int (fun _ _ => rfl)))
      (pss_cons (ps_if (pt_not (pt_val (pe_dn D_is_there hr (pa_cons (pv 0) (pa_cons (pv 2) pa_nil))))) (pss_one (ps_ret (pe_lst (pa_cons (pe_gi T.NONE_THERE) pa_nil)))) pss_nil)
      (pss_cons (ps_if (pt_val (pe_dn D_holds hr (pa_cons (pe_fld (pv 0) rfl) (pa_cons (pv 2) pa_nil)))) (pss_one (ps_ret (pe_lst (pa_cons (pe_gi T.SO_ALREADY) pa_nil)))) pss_nil)
      (pss_one (ps_ret (pe_lst (pa_cons (pe_dn D_adds hr (pa_cons (pv 0) (pa_cons (pv 2) (pa_cons (pe_fld (pv 0) rfl) pa_nil)))) (pa_cons (pe_dn D_parts_paid hr (pa_cons (pv 0) (pa_cons (pv 2) (pa_cons (pe_op op_or (pe_fld (pv 0) rfl) (pe_dn D_one hr (pa_cons (pv 2) pa_nil))) pa_nil)))) pa_nil)))))))), ?_⟩
    obtain ⟨dx, ch, up, rd, hP⟩ := id hV
    have hlen := O.good.len
    refine ⟨_, rfl, g, _, _, _, rfl, rfl, SqL.of hg, at_of (j := 0) rfl rfl, ?_⟩
    refine ⟨_, rfl, _, rfl, a, _, _, _, _, v, rfl, hV, _, rfl, iteB (c := !decide (v < L.valley.length)) rfl (fun hp => ?_) (fun hp => ?_)⟩
    . have hno : ¬ v < L.valley.length := by simpa using hp
      refine ⟨(by show 1 <= sizeLine; decide), fin k (Same.refl _) ?_⟩
      show _ = (Km462Neutral.told (if L.valley.length <= v then _ else _)).map V.int
      rw [if_pos (by omega)]; rfl
    . have hy : v < L.valley.length := by simpa using hp
      refine ⟨_, rfl, a, C, dx, _, _, rfl, hP.ins, Z.cl, Z.ri, vf_ri, _, rfl, _, v, rfl, _, rfl, iteB (c := L.bus.contains v) (setOf_bit hy) (fun hp2 => ?_) (fun hp2 => ?_)⟩
      . refine ⟨(by show 1 <= sizeLine; decide), fin k (Same.refl _) ?_⟩
        show _ = (Km462Neutral.told (if L.valley.length <= v then _ else if L.bus.contains v = true then _ else _)).map V.int
        rw [if_neg (by omega), if_pos hp2]; rfl
      . refine ⟨_, rfl, _, rfl, _, rfl, a, C, dx, _, _, rfl, hP.ins, Z.cl, Z.ri, vf_ri, a, _, _, _, _, v, L.bus, rfl, hV, O.good, O.sch, hy, canon_lt O.bus, fun H1 s1 => ?_⟩
        have hP1 := hP.same s1
        have ec : Km462.put L.bus L.valley v 1 = (List.range L.valley.length).filter (Km462.put L.bus L.valley v 1).contains := by
          unfold Km462.put
          rw [if_pos rfl]
          unfold Km457.all
          apply List.filter_congr
          intro x hx
          have hx' : x < L.valley.length := by simpa using hx
          rw [Bool.eq_iff_iff]
          simp [hx']
        have e1 : Builtin.bitOr ((setOf L.valley.length L.bus : Nat) : Int) ((2 ^ v : Nat) : Int) = ((setOf L.valley.length (Km462.put L.bus L.valley v 1) : Nat) : Int) := by
          rw [bor]
          congr 1
          unfold setOf Km462.put
          rw [VT.mask_one hy, VT.mask_or, if_pos rfl]
          apply VT.mask_congr
          intro x hx
          unfold Km457.all
          rw [Bool.eq_iff_iff]
          simp [hx]
        have hm : v ∈ Km462.put L.bus L.valley v 1 := by
          unfold Km462.put Km457.all
          rw [if_pos rfl]
          simp [hy]
        refine ⟨_, rfl, _, rfl, _, rfl, a, C, dx, _, _, rfl, hP1.ins, Z.cl, Z.ri, vf_ri, _, rfl, v, rfl, by omega, _, _, rfl, rfl, a, L.valley, L.school, _, _, v, Km462.put L.bus L.valley v 1, ?_, hV.same s1, O.good, O.sch, canon_nd ec, canon_lt ec, hm, fun H2 s2 => ⟨(by show 2 <= sizeLine; decide), fin k (s1.trans s2) ?_⟩⟩
        . show [V.ref a, nv v, V.int (Builtin.bitOr ((setOf L.valley.length L.bus : Nat) : Int) ((2 ^ v : Nat) : Int))] = _
          rw [e1]
        . show _ = (Km462Neutral.told (if L.valley.length <= v then _ else if L.bus.contains v = true then _ else _)).map V.int
          rw [if_neg (by omega), if_neg (by rw [hp2]; decide)]; rfl
abbrev s_ask_look : Stmt := top 90
theorem sc_ask_look : FnScope ["valley", "given", "v", "rides", "post"] ["valley", "given"] (defScope s_ask_look) := ⟨rfl, rfl, rfl, by decide +kernel, rfl, by decide +kernel, by decide +kernel⟩
theorem d_ask_look (T : Txt mg) (Z : Vc K C) (F : Fd K mg "ask_look" s_ask_look) (D_is_there : Dn P w K mg base 2 "is_there" ["valley", "v"] (sp_is_there C)) (D_holds : Dn P w K mg base 1 "holds" ["group", "v"] sp_holds) : Dn P w K mg base 3 "ask_look" ["valley", "given"] (sp_ask C 1 (n1 .look)) := by
  refine F.dn sc_ask_look (fun _ _ _ _ _ _ us hl => match us, hl with | [_, _], _ => rfl) (fun vs H Q E h => ?_) (fun f cdv A outer s H vs Q E hr h => ?_)
  . obtain ⟨a, L, g, gs, rfl, _⟩ := h; rfl
  . obtain ⟨a, L, g, gs, rfl, hV, O, hg, hn, k⟩ := h
    obtain ⟨v, rfl⟩ := ln1 hn
    refine ⟨_, (pss_cons (ps_set (i := 2) sc_ask_look.nd rfl (Or.inl rfl) (pe_ix ix_list (pv 1) pe_int (fun _ _ => rfl)))
      (pss_cons (ps_if (pt_not (pt_val (pe_dn D_is_there hr (pa_cons (pv 0) (pa_cons (pv 2) pa_nil))))) (pss_one (ps_ret (pe_lst (pa_cons (pe_gi T.NONE_THERE) pa_nil)))) pss_nil)
      (pss_cons (ps_set (i := 3) sc_ask_look.nd rfl (Or.inl rfl) (pe_ifExp (pt_val (pe_dn D_holds hr (pa_cons (pe_fld (pv 0) rfl) (pa_cons (pv 2) pa_nil)))) pe_int pe_int))
      (pss_cons (ps_set (i := 4) sc_ask_look.nd rfl (Or.inl rfl) (pe_ifExp (pt_val (pe_dn D_holds hr (pa_cons (pe_fld (pv 0) rfl) (pa_cons (pv 2) pa_nil)))) pe_int pe_int))
      (pss_one (ps_ret (pe_lst (pa_cons (pe_ix ix_list (pe_fld (pv 0) rfl) (pv 2) (fun _ _ => rfl)) (pa_cons (pe_ix ix_list (pe_fld (pv 0) rfl) (pv 2) (fun _ _ => rfl)) (pa_cons (pe_ix ix_list (pe_fld (pv 0) rfl) (pv 2) (fun _ _ => rfl)) (pa_cons (pv 3) (pa_cons (pv 4) pa_nil)))))))))))), ?_⟩
    obtain ⟨dx, ch, up, rd, hP⟩ := id hV
    refine ⟨_, rfl, g, _, _, _, rfl, rfl, SqL.of hg, at_of (j := 0) rfl rfl, ?_⟩
    refine ⟨_, rfl, _, rfl, a, _, _, _, _, v, rfl, hV, _, rfl, iteB (c := !decide (v < L.valley.length)) rfl (fun hp => ?_) (fun hp => ?_)⟩
    . have hno : ¬ v < L.valley.length := by simpa using hp
      refine ⟨(by show 1 <= sizeLine; decide), fin k (Same.refl _) ?_⟩
      show _ = (Km462Neutral.told (if L.valley.length <= v then _ else _)).map V.int
      rw [if_pos (by omega)]; rfl
    . have hy : v < L.valley.length := by simpa using hp
      have last : ∀ x y : V, x = nv (Km462.bit (L.bus.contains v)) -> y = nv (Km462.bit (L.posts.contains v)) -> [nv (at_ L.valley v).many, nv (at_ L.valley v).up, nv (at_ L.valley v).long, x, y] = told1 L (n1 .look [v]) := by
        intro x y ex ey
        subst ex ey
        show _ = (Km462Neutral.told (if L.valley.length <= v then _ else _)).map V.int
        rw [if_neg (by omega)]; rfl
      have fields : ∀ x y : V, x = nv (Km462.bit (L.bus.contains v)) -> y = nv (Km462.bit (L.posts.contains v)) -> tRet (tLst (tCons (tOp (rIxL K) (tFld K (tVar 0) "children") (tVar 2)) (tCons (tOp (rIxL K) (tFld K (tVar 0) "ups") (tVar 2)) (tCons (tOp (rIxL K) (tFld K (tVar 0) "roads") (tVar 2)) (tCons (tVar 3) (tCons (tVar 4) tNil)))))) { nx := fun _ H' => Q .non H', rt := Q } [some (.ref a), some (.ref g), some (nv v), some x, some y] H := by
        intro x y ex ey
        exact ⟨_, rfl, a, C, dx, _, _, rfl, hP.ins, Z.cl, Z.ch, vf_ch, _, rfl, ch, _, _, _, rfl, rfl, SqL.of hP.ch, atI_nat (many_at hy), _, rfl, a, C, dx, _, _, rfl, hP.ins, Z.cl, Z.up, vf_up, _, rfl, up, _, _, _, rfl, rfl, SqL.of hP.up, atI_nat (ups_at hy), _, rfl, a, C, dx, _, _, rfl, hP.ins, Z.cl, Z.rd, vf_rd, _, rfl, rd, _, _, _, rfl, rfl, SqL.of hP.rd, atI_nat (roads_at hy), _, rfl, _, rfl, (by show 5 <= sizeLine; decide), fin k (Same.refl _) (last x y ex ey)⟩
      have e1 : ∀ b : Bool, (if b = true then nv 1 else nv 0) = nv (Km462.bit b) := by intro b; cases b <;> rfl
      refine ⟨_, rfl, a, C, dx, _, _, rfl, hP.ins, Z.cl, Z.ri, vf_ri, _, rfl, _, v, rfl, _, rfl, iteB (c := L.bus.contains v) (setOf_bit hy) (fun h1 => ?_) (fun h1 => ?_)⟩
      . refine ⟨_, rfl, a, C, dx, _, _, rfl, hP.ins, Z.cl, Z.po, vf_po, _, rfl, _, v, rfl, _, rfl, iteB (c := L.posts.contains v) (setOf_bit hy) (fun h2 => ?_) (fun h2 => ?_)⟩
        . exact fields _ _ (by rw [h1]; rfl) (by rw [h2]; rfl)
        . exact fields _ _ (by rw [h1]; rfl) (by rw [h2]; rfl)
      . refine ⟨_, rfl, a, C, dx, _, _, rfl, hP.ins, Z.cl, Z.po, vf_po, _, rfl, _, v, rfl, _, rfl, iteB (c := L.posts.contains v) (setOf_bit hy) (fun h2 => ?_) (fun h2 => ?_)⟩
        . exact fields _ _ (by rw [h1]; rfl) (by rw [h2]; rfl)
        . exact fields _ _ (by rw [h1]; rfl) (by rw [h2]; rfl)
abbrev s_ask_sums : Stmt := top 91
theorem sc_ask_sums : FnScope ["valley", "given"] ["valley", "given"] (defScope s_ask_sums) := ⟨rfl, rfl, rfl, by decide +kernel, rfl, by decide +kernel, by decide +kernel⟩
theorem d_ask_sums (T : Txt mg) (Z : Vc K C) (F : Fd K mg "ask_sums" s_ask_sums) : Dn P w K mg base 1 "ask_sums" ["valley", "given"] (sp_ask C 0 fun _ => .sums) := by
  refine F.dn sc_ask_sums (fun _ _ _ _ _ _ us hl => match us, hl with | [_, _], _ => rfl) (fun vs H Q E h => ?_) (fun f cdv A outer s H vs Q E hr h => ?_)
  . obtain ⟨a, L, g, gs, rfl, _⟩ := h; rfl
  . obtain ⟨a, L, g, gs, rfl, hV, O, hg, hn, k⟩ := h
    refine ⟨_, (pss_one (ps_ret (pe_lst (pa_cons (pe_callB (cr_sum rfl) rfl T.sum boot_sum (pa_cons (pe_fld (pv 0) rfl) pa_nil)) (pa_cons (pe_fld (pv 0) rfl) (pa_cons (pe_fld (pv 0) rfl) (pa_cons (pe_fld (pv 0) rfl) pa_nil))))))), ?_⟩
    obtain ⟨dx, ch, up, rd, hP⟩ := id hV
    refine ⟨_, rfl, a, C, dx, _, _, rfl, hP.ins, Z.cl, Z.ch, vf_ch, ?_⟩
    delta tNil
    refine sumq (l := L.valley) (f := fun x => x.many) hP.ch ?_
    rw [sum_many]
    refine ⟨_, rfl, a, C, dx, _, _, rfl, hP.ins, Z.cl, Z.sc, vf_sc, _, rfl, a, C, dx, _, _, rfl, hP.ins, Z.cl, Z.ri, vf_ri, _, rfl, a, C, dx, _, _, rfl, hP.ins, Z.cl, Z.po, vf_po, (by show 4 <= sizeLine; decide), fin k (Same.refl _) ?_⟩
    show [nv (Km457.total L.valley), nv L.school, nv (setOf L.valley.length L.bus), nv (setOf L.valley.length L.posts)] = [nv (Km457.total L.valley), nv L.school, nv (Km462.bits L.bus), nv (Km462.bits L.posts)]
    rw [bits_setOf O.bus, bits_setOf O.posts]
end
end VV
namespace VV
open PySem PySem.Spec PyProof.Rows L2
open Km457 (Valley at_)
theorem fold_max (f : Nat -> Nat) : ∀ (r : List Nat) (x : Nat), (x :: r).Pairwise (· < ·) -> (r.foldl (fun a b => if f a < f b then b else a) x) ∈ x :: r /\ (∀ y ∈ x :: r, f y <= f (r.foldl (fun a b => if f a < f b then b else a) x)) /\ ∀ y ∈ x :: r, f y = f (r.foldl (fun a b => if f a < f b then b else a) x) -> (r.foldl (fun a b => if f a < f b then b else a) x) <= y
  | [], x, _ => by simp
  | b :: r, x, h => by
    rw [List.foldl_cons]
    have h1 := List.pairwise_cons.mp h
    have h2 := List.pairwise_cons.mp h1.2
    by_cases e : f x < f b
    . rw [if_pos e]
      obtain ⟨i1, i2, i3⟩ := fold_max f r b h1.2
      refine ⟨List.mem_cons_of_mem _ i1, fun y hy => ?_, fun y hy hf => ?_⟩
      . rcases List.mem_cons.mp hy with q | q
        . have := i2 b (by simp); rw [q]; omega
        . exact i2 y q
      . rcases List.mem_cons.mp hy with q | q
        . have := i2 b (by simp); rw [q] at hf; omega
        . exact i3 y q hf
    . rw [if_neg e]
      have hp : (x :: r).Pairwise (· < ·) := List.pairwise_cons.mpr ⟨fun y hy => h1.1 y (List.mem_cons_of_mem _ hy), h2.2⟩
      obtain ⟨i1, i2, i3⟩ := fold_max f r x hp
      have hx := i2 x (by simp)
      refine ⟨?_, fun y hy => ?_, fun y hy hf => ?_⟩
      . rcases List.mem_cons.mp i1 with q | q
        . rw [q]; simp
        . exact List.mem_cons_of_mem _ (List.mem_cons_of_mem _ q)
      . rcases List.mem_cons.mp hy with q | q
        . rw [q]; exact hx
        . rcases List.mem_cons.mp q with q | q
          . rw [q]; omega
          . exact i2 y (List.mem_cons_of_mem _ q)
      . rcases List.mem_cons.mp hy with q | q
        . subst q; exact i3 y (by simp) hf
        . rcases List.mem_cons.mp q with q | q
          . have hb := h1.1 b (by simp)
            have := i3 x (by simp) (by rw [q] at hf; omega)
            rw [q]; omega
          . exact i3 y (List.mem_cons_of_mem _ q) hf
theorem range_pair (n : Nat) (p : Nat -> Bool) : ((List.range n).filter p).Pairwise (· < ·) := List.pairwise_lt_range.filter _
abbrev nearStep (f : Nat -> Nat) : Option (Nat × Nat) -> Nat -> Option (Nat × Nat) := fun r p => match r with
  | none => some (p, f p)
  | some (q, d) => if f p < d \/ (f p = d /\ p < q) then some (p, f p) else some (q, d)
theorem near_fold (f : Nat -> Nat) : ∀ (l : List Nat) (q : Nat), ∃ e, l.foldl (nearStep f) (some (q, f q)) = some (e, f e) /\ e ∈ q :: l /\ ∀ y ∈ q :: l, f e < f y \/ (f e = f y /\ e <= y)
  | [], q => ⟨q, rfl, by simp, fun y hy => by
      have : y = q := by simpa using hy
      rw [this]; exact .inr ⟨rfl, Nat.le_refl _⟩⟩
  | b :: l, q => by
    rw [List.foldl_cons]
    by_cases c : f b < f q \/ (f b = f q /\ b < q)
    . have e0 : nearStep f (some (q, f q)) b = some (b, f b) := by
        show (if f b < f q \/ (f b = f q /\ b < q) then _ else _) = _
        rw [if_pos c]
      rw [e0]
      obtain ⟨e, h1, h2, h3⟩ := near_fold f l b
      refine ⟨e, h1, List.mem_cons_of_mem _ h2, fun y hy => ?_⟩
      rcases List.mem_cons.mp hy with z | z
      . have := h3 b (by simp)
        rw [z]; omega
      . exact h3 y z
    . have e0 : nearStep f (some (q, f q)) b = some (q, f q) := by
        show (if f b < f q \/ (f b = f q /\ b < q) then _ else _) = _
        rw [if_neg c]
      rw [e0]
      obtain ⟨e, h1, h2, h3⟩ := near_fold f l q
      have hq := h3 q (by simp)
      refine ⟨e, h1, ?_, fun y hy => ?_⟩
      . rcases List.mem_cons.mp h2 with z | z
        . rw [z]; simp
        . exact List.mem_cons_of_mem _ (List.mem_cons_of_mem _ z)
      . rcases List.mem_cons.mp hy with z | z
        . rw [z]; exact hq
        . rcases List.mem_cons.mp z with z | z
          . rw [z]; omega
          . exact h3 y (List.mem_cons_of_mem _ z)
section
variable {P : Program} {w : World} {K : PySem.W.Frag} {mg : Str -> Option Value} {base : Heap} {C : Addr}
abbrev s_ask_within : Stmt := top 88
theorem sc_ask_within : FnScope ["valley", "given", "group"] ["valley", "given"] (defScope s_ask_within) := ⟨rfl, rfl, rfl, by decide +kernel, rfl, by decide +kernel, by decide +kernel⟩
theorem d_ask_within (F : Fd K mg "ask_within" s_ask_within) (D_unserved : Dn P w K mg base 4 "unserved" ["valley", "r"] (sp_unserved C)) : Dn P w K mg base 5 "ask_within" ["valley", "given"] (sp_ask C 1 (n1 .within)) := by
  refine F.dn sc_ask_within (fun _ _ _ _ _ _ us hl => match us, hl with | [_, _], _ => rfl) (fun vs H Q E h => ?_) (fun f cdv A outer s H vs Q E hr h => ?_)
  . obtain ⟨a, L, g, gs, rfl, _⟩ := h; rfl
  . obtain ⟨a, L, g, gs, rfl, hV, O, hg, hn, k⟩ := h
    obtain ⟨v, rfl⟩ := ln1 hn
    refine ⟨_, (pss_cons (ps_set (i := 2) sc_ask_within.nd rfl (Or.inl rfl) (pe_dn D_unserved hr (pa_cons (pv 0) (pa_cons (pe_ix ix_list (pv 1) pe_int (fun _ _ => rfl)) pa_nil))))
      (pss_one (ps_ret (pe_lst (pa_cons (pe_ifExp (pt_cmpR op_eq (pv 2) pe_int (nomark _)) pe_int pe_int) (pa_cons (pv 2) pa_nil)))))), ?_⟩
    refine ⟨_, rfl, _, rfl, g, _, _, _, rfl, rfl, SqL.of hg, at_of (j := 0) rfl rfl, a, _, _, _, v, L.posts, rfl, hV, O.good, canon_lt O.posts, fun H1 s1 => ?_⟩
    have ef : ((Km457.all L.valley).filter fun x => !Km458.served (Km458.table L.valley) v L.posts x) = (List.range L.valley.length).filter fun x => !servB L.valley v L.posts x := by
      unfold Km457.all
      apply List.filter_congr
      intro x hx
      rw [served_eq (canon_lt O.posts) (by simpa using hx)]
    have eb : Km462.bits ((Km457.all L.valley).filter fun x => !Km458.served (Km458.table L.valley) v L.posts x) = VT.mask L.valley.length fun x => !servB L.valley v L.posts x := by rw [ef, VT.bits_filter]
    have ez : (VT.mask L.valley.length (fun x => !servB L.valley v L.posts x) = 0) ↔ ((Km457.all L.valley).filter fun x => !Km458.served (Km458.table L.valley) v L.posts x) = [] := by
      rw [ef, List.filter_eq_nil_iff]
      have h1 := VT.mask_pos (p := fun x => !servB L.valley v L.posts x) (n := L.valley.length)
      constructor
      . intro h x hx hp
        have := h1.mpr ⟨x, by simpa using hx, hp⟩
        omega
      . intro h
        have : ¬ 0 < VT.mask L.valley.length (fun x => !servB L.valley v L.posts x) := fun z => by
          obtain ⟨i, hi, hp⟩ := h1.mp z
          exact h i (by simpa using hi) hp
        omega
    refine ⟨_, rfl, rfl, _, rfl, iteB (c := decide (VT.mask L.valley.length (fun x => !servB L.valley v L.posts x) = 0)) (V.ncast (j := 0)) (fun hp => ?_) (fun hp => ?_)⟩
    . refine ⟨_, rfl, (by show 2 <= sizeLine; decide), fin k s1 ?_⟩
      show _ = [nv (Km462.bit (((Km457.all L.valley).filter fun x => !Km458.served (Km458.table L.valley) v L.posts x) == [])), nv (Km462.bits ((Km457.all L.valley).filter fun x => !Km458.served (Km458.table L.valley) v L.posts x))]
      rw [eb, ez.mp (of_decide_eq_true hp)]; rfl
    . refine ⟨_, rfl, (by show 2 <= sizeLine; decide), fin k s1 ?_⟩
      show _ = [nv (Km462.bit (((Km457.all L.valley).filter fun x => !Km458.served (Km458.table L.valley) v L.posts x) == [])), nv (Km462.bits ((Km457.all L.valley).filter fun x => !Km458.served (Km458.table L.valley) v L.posts x))]
      have hne : ¬ ((Km457.all L.valley).filter fun x => !Km458.served (Km458.table L.valley) v L.posts x) = [] := fun z => of_decide_eq_false hp (ez.mpr z)
      have : (((Km457.all L.valley).filter fun x => !Km458.served (Km458.table L.valley) v L.posts x) == []) = false := by
        rw [beq_eq_false_iff_ne]; exact hne
      rw [eb, this]; rfl
abbrev s_ask_saves : Stmt := top 81
theorem sc_ask_saves : FnScope ["valley", "given", "group"] ["valley", "given"] (defScope s_ask_saves) := ⟨rfl, rfl, rfl, by decide +kernel, rfl, by decide +kernel, by decide +kernel⟩
theorem d_ask_saves (T : Txt mg) (Z : Vc K C) (F : Fd K mg "ask_saves" s_ask_saves) (D_without : Dn P w K mg base 1 "without" ["group", "others"] sp_without) (D_first_villages : Dn P w K mg base 1 "first_villages" ["count"] sp_first_villages) (D_how_many_villages : Dn P w K mg base 1 "how_many_villages" ["valley"] (sp_how_many_villages C)) (D_fraction : Dn P w K mg base 2 "fraction" ["parts"] sp_fraction) (D_parts_saved : Dn P w K mg base 5 "parts_saved" ["valley", "group"] (sp_parts_saved C)) : Dn P w K mg base 6 "ask_saves" ["valley", "given"] (sp_ask C 1 (n1 .saves)) := by
  refine F.dn sc_ask_saves (fun _ _ _ _ _ _ us hl => match us, hl with | [_, _], _ => rfl) (fun vs H Q E h => ?_) (fun f cdv A outer s H vs Q E hr h => ?_)
  . obtain ⟨a, L, g, gs, rfl, _⟩ := h; rfl
  . obtain ⟨a, L, g, gs, rfl, hV, O, hg, hn, k⟩ := h
    obtain ⟨v, rfl⟩ := ln1 hn
    refine ⟨_, (pss_cons (ps_set (i := 2) sc_ask_saves.nd rfl (Or.inl rfl) (pe_ix ix_list (pv 1) pe_int (fun _ _ => rfl)))
      (pss_cons (ps_if (pt_cmpR op_gt (pe_dn D_without hr (pa_cons (pv 2) (pa_cons (pe_dn D_first_villages hr (pa_cons (pe_dn D_how_many_villages hr (pa_cons (pv 0) pa_nil)) pa_nil)) pa_nil))) pe_int (nomark _)) (pss_one (ps_ret (pe_lst (pa_cons (pe_gi T.WRONG) pa_nil)))) pss_nil)
      (pss_cons (ps_if (pt_cmpR op_gt (pe_dn D_without hr (pa_cons (pv 2) (pa_cons (pe_fld (pv 0) rfl) pa_nil))) pe_int (nomark _)) (pss_one (ps_ret (pe_lst (pa_cons (pe_gi T.NOT_RIDING) pa_nil)))) pss_nil)
      (pss_one (ps_ret (pe_dn D_fraction hr (pa_cons (pe_dn D_parts_saved hr (pa_cons (pv 0) (pa_cons (pv 2) pa_nil))) pa_nil))))))), ?_⟩
    obtain ⟨dx, ch, up, rd, hP⟩ := id hV
    have hlen := O.good.len
    refine ⟨_, rfl, g, _, _, _, rfl, rfl, SqL.of hg, at_of (j := 0) rfl rfl, ?_⟩
    refine ⟨_, rfl, _, rfl, a, _, _, _, _, rfl, hV, L.valley.length, rfl, by omega, _, _, rfl, _, _, rfl, rfl, _, rfl, iteB (c := decide (2 ^ L.valley.length <= v)) ?_ (fun hp => ?_) (fun hp => ?_)⟩
    . rw [Nat.and_two_pow_sub_one_eq_mod]
      show decide ((0 : Int) < ((v - v % 2 ^ L.valley.length : Nat) : Int)) = _
      rw [Bool.eq_iff_iff, decide_eq_true_eq, decide_eq_true_eq]
      have hpos : 0 < 2 ^ L.valley.length := Nat.two_pow_pos _
      constructor
      . intro h
        by_cases z : 2 ^ L.valley.length <= v
        . exact z
        . rw [Nat.mod_eq_of_lt (by omega)] at h; omega
      . intro h
        have := Nat.mod_lt v hpos
        omega
    . refine ⟨(by show 1 <= sizeLine; decide), fin k (Same.refl _) ?_⟩
      show _ = (Km462Neutral.told (if 2 ^ L.valley.length <= v then _ else _)).map V.int
      rw [if_pos (of_decide_eq_true hp)]; rfl
    . have hv : v < 2 ^ L.valley.length := by have := of_decide_eq_false hp; omega
      have el : setOf L.valley.length (lof L.valley.length v) = v := setOf_lof hv
      have hall : decide ((0 : Int) < ((v - (v &&& setOf L.valley.length L.bus) : Nat) : Int)) = !((lof L.valley.length v).all L.bus.contains) := by
        rw [Bool.eq_iff_iff, decide_eq_true_eq, Bool.not_eq_true', List.all_eq_false]
        have hpi := VT.part_and (m := setOf L.valley.length L.bus) (x := v)
        constructor
        . intro h
          have hnp : ¬ VT.part (setOf L.valley.length L.bus) v = true := by
            rw [hpi, decide_eq_true_eq]; omega
          rw [VT.part_iff] at hnp
          apply Classical.byContradiction
          intro hx
          apply hnp
          intro i hi
          have hin : i < L.valley.length := by
            by_cases z : i < L.valley.length
            . exact z
            . rw [Nat.testBit_lt_two_pow (Nat.lt_of_lt_of_le hv (Nat.pow_le_pow_right (by decide) (by omega)))] at hi; cases hi
          rw [setOf_bit hin]
          cases e : L.bus.contains i with
          | true => rfl
          | false => exact absurd ⟨i, List.mem_filter.mpr ⟨by simpa using hin, hi⟩, by rw [e]; decide⟩ hx
        . rintro ⟨i, hi, hb⟩
          obtain ⟨h1, h2⟩ := List.mem_filter.mp hi
          have hin : i < L.valley.length := by simpa using h1
          have hnp : ¬ VT.part (setOf L.valley.length L.bus) v = true := by
            rw [VT.part_iff]
            intro z
            have := z i h2
            rw [setOf_bit hin] at this
            exact hb this
          rw [hpi, decide_eq_true_eq] at hnp
          omega
      refine ⟨_, rfl, _, rfl, a, C, dx, _, _, rfl, hP.ins, Z.cl, Z.ri, vf_ri, _, _, rfl, _, _, rfl, rfl, _, rfl, iteB hall (fun hp2 => ?_) (fun hp2 => ?_)⟩
      . have hb : (lof L.valley.length v).all L.bus.contains = false := by simpa using hp2
        refine ⟨(by show 1 <= sizeLine; decide), fin k (Same.refl _) ?_⟩
        show _ = (Km462Neutral.told (if 2 ^ L.valley.length <= v then _ else if (lof L.valley.length v).all L.bus.contains = false then _ else _)).map V.int
        rw [if_neg (by omega), if_pos hb]; rfl
      . have hb : (lof L.valley.length v).all L.bus.contains = true := by simpa using hp2
        have hmem : ∀ x ∈ lof L.valley.length v, x ∈ L.bus := fun x hx => by
          have := List.all_eq_true.mp hb x hx
          simpa using this
        have hcan : lof L.valley.length v = (List.range L.valley.length).filter (lof L.valley.length v).contains := by
          conv => lhs; unfold lof
          apply List.filter_congr
          intro x hx
          have hx' : x < L.valley.length := by simpa using hx
          rw [Bool.eq_iff_iff]
          unfold lof
          simp [hx']
        refine ⟨_, rfl, _, rfl, a, _, _, _, L.bus, lof L.valley.length v, by rw [el]; rfl, hV, O.good, O.sch, canon_nd O.bus, canon_lt O.bus, hmem, hcan, fun H1 s1 => ?_⟩
        refine ⟨_, rfl, fun H2 q s2 hq h2 => k _ q (s1.trans s2) (s1.free hq) ?_⟩
        rw [h2]
        show _ = some (HO.lst ((Km462Neutral.told (if 2 ^ L.valley.length <= v then _ else if (lof L.valley.length v).all L.bus.contains = false then _ else Km462.toldFraction (Km462.PARTS * Km462.round L.valley L.school (lof L.valley.length v) - Km462.sum ((lof L.valley.length v).map (Km462.pays L.valley L.school L.bus))))).map V.int))
        rw [if_neg (by omega), if_neg (by rw [hb]; decide), VT.sum462]; rfl
abbrev s_ask_farthest : Stmt := top 85
theorem sc_ask_farthest : FnScope ["valley", "given", "row", "homes", "v", "far"] ["valley", "given"] (defScope s_ask_farthest) := ⟨rfl, rfl, rfl, by decide +kernel, rfl, by decide +kernel, by decide +kernel⟩
theorem d_ask_farthest (T : Txt mg) (Z : Vc K C) (F : Fd K mg "ask_farthest" s_ask_farthest) (D_distances : Dn P w K mg base 2 "distances" ["valley"] (sp_distances C)) : Dn P w K mg base 3 "ask_farthest" ["valley", "given"] (sp_ask C 0 fun _ => .farthest) := by
  refine F.dn sc_ask_farthest (fun _ _ _ _ _ _ us hl => match us, hl with | [_, _], _ => rfl) (fun vs H Q E h => ?_) (fun f cdv A outer s H vs Q E hr h => ?_)
  . obtain ⟨a, L, g, gs, rfl, _⟩ := h; rfl
  . obtain ⟨a, L, g, gs, rfl, hV, O, hg, hn, k⟩ := h
    refine ⟨_, (pss_cons (ps_set (i := 2) sc_ask_farthest.nd rfl (Or.inr rfl) (pe_ix ix_list (pe_dn D_distances hr (pa_cons (pv 0) pa_nil)) (pe_fld (pv 0) rfl) (fun _ _ => rfl)))
      (pss_cons (ps_setLc (i := 3) (y := "homes") rfl sc_ask_farthest.nd rfl rfl (sw_true rfl rfl rfl rfl) (pi_range1 rfl T.range (pa_cons (pe_callB call_len_seq rfl T.len PySem.boot_len (pa_cons (pv 2) pa_nil)) pa_nil)) (blkOk_by (own := [("v", 4)]) rfl) (fun _ _ _ _ _ => pg_name (i := 4) sc_ask_farthest.nd rfl (Or.inl rfl)) (fun _ _ _ _ _ => by exact (pts_one (pt_cmpR op_gt (pe_ixK K (pe_fldK K (pv 0) rfl) (pv 4) (fun _ _ => rfl)) pe_int (nomark _)))) (fun _ _ _ _ _ => by exact (pv 4)))
      (pss_cons (ps_if (pt_cmpR op_eq (pe_callB call_len_seq rfl T.len PySem.boot_len (pa_cons (pv 3) pa_nil)) pe_int (nomark _)) (pss_one (ps_ret (pe_lst (pa_cons (pe_gi T.EMPTY) pa_nil)))) pss_nil)
      (pss_cons (ps_set (i := 5) sc_ask_farthest.nd rfl (Or.inr rfl) (pe_callB (cr_max rfl) rfl T.max boot_max (pa_cons (pe_lc rfl sc_ask_farthest.nd (pi_list (pv 3)) (blkOk_by (own := [("v", 4)]) rfl) (fun _ _ _ _ _ => pg_name (i := 4) sc_ask_farthest.nd rfl (Or.inl rfl)) (fun _ _ _ _ _ => by exact pts_nil) (fun _ _ _ _ _ => by exact (pe_ixK K (pv 2) (pv 4) (fun _ _ => rfl)))) pa_nil)))
      (pss_one (ps_ret (pe_lst (pa_cons (pe_callB (cr_min rfl) rfl T.min boot_min (pa_cons (pe_lc rfl sc_ask_farthest.nd (pi_list (pv 3)) (blkOk_by (own := [("v", 4)]) rfl) (fun _ _ _ _ _ => pg_name (i := 4) sc_ask_farthest.nd rfl (Or.inl rfl)) (fun _ _ _ _ _ => by exact (pts_one (pt_cmpR op_eq (pe_ixK K (pv 2) (pv 4) (fun _ _ => rfl)) (pv 5) (nomark _)))) (fun _ _ _ _ _ => by exact (pv 4))) pa_nil)) (pa_cons (pv 5) pa_nil))))))))), ?_⟩
    obtain ⟨dx, ch, up, rd, hP⟩ := id hV
    have hlen := O.good.len
    refine ⟨_, rfl, a, _, _, _, _, rfl, hV, O.good, fun H1 q s1 hq tb => ?_⟩
    have hP1 := hP.same s1
    obtain ⟨xs, r, hx, hxr, hrow⟩ := tb.row O.sch
    refine ⟨_, rfl, a, C, dx, _, _, rfl, hP1.ins, Z.cl, Z.sc, vf_sc, q, xs, _, _, rfl, rfl, SqL.of hx, atI_nat hxr, ?_⟩
    refine ⟨_, rfl, r, _, rfl, .inl (SqL.of hrow), _, rfl, by rw [R_len]; omega, by rw [R_len]; omega, fun D hD => ?_⟩
    rw [Int.toNat_natCast, R_len]
    refine lc_rng (fun v => decide (0 < Km462.many L.valley v)) nv hD (by omega) (fun i H2 hi s2 Nx n0 n1 => ?_) (fun H2 s2 h2 => ?_)
    . have ei : (0 : Int) + (i : Nat) = ((i : Nat) : Int) := by omega
      rw [ei]
      have hP2 := hP.same (s1.trans s2)
      exact ⟨rfl, _, rfl, a, C, dx, _, _, rfl, hP2.ins, Z.cl, Z.ch, vf_ch, _, rfl, ch, _, _, _, rfl, rfl, SqL.of hP2.ch, atI_nat (many_at hi), _, _, rfl, rfl, _, rfl, iteB (ilt (i := 0)) (fun hp => ⟨_, rfl, n1 hp _ _ (Same.refl _) rfl⟩) (fun hp => n0 hp _ (Same.refl _))⟩
    . have eact : ∀ l, l = (List.range L.valley.length).filter (fun v => decide (0 < Km462.many L.valley v)) -> told1 L .farthest = (Km462Neutral.told (match l with
          | [] => Km462.only (-6)
          | x :: r => ⟨((r.foldl (fun a b => if Km457.far L.valley a L.school < Km457.far L.valley b L.school then b else a) x : Nat) : Int), [Km457.far L.valley (r.foldl (fun a b => if Km457.far L.valley a L.school < Km457.far L.valley b L.school then b else a) x) L.school]⟩)).map V.int := by
        intro l e
        rw [e]; rfl
      generalize hl : (List.range L.valley.length).filter (fun v => decide (0 < Km462.many L.valley v)) = l at *
      have hlt : ∀ x ∈ l, x < L.valley.length := fun x hx => by rw [<- hl] at hx; simpa using (List.mem_filter.mp hx).1
      have hpw : l.Pairwise (· < ·) := by rw [<- hl]; exact range_pair _ _
      have hll : l.length <= 10 := by
        rw [<- hl]
        exact Nat.le_trans (List.length_filter_le _ _) (by rw [List.length_range]; exact hlen)
      refine ⟨_, rfl, D, _, rfl, .inl (SqL.of h2), rfl, _, rfl, iteB (c := decide (l.length = 0)) (by rw [List.length_map]; exact V.ncast (j := 0)) (fun hp => ?_) (fun hp => ?_)⟩
      . refine ⟨(by show 1 <= sizeLine; decide), fin k (s1.trans s2) ?_⟩
        rw [eact l rfl]
        have : l = [] := List.eq_nil_of_length_eq_zero (of_decide_eq_true hp)
        rw [this]; rfl
      . -- the farthest
        cases l with
        | nil => exact absurd rfl (of_decide_eq_false hp)
        | cons x0 l0 =>
          refine ⟨_, rfl, D, rfl, ⟨_, SqL.of h2⟩, fun D3 hD3 => ?_⟩
          refine lc_lstI (fun i => nv (Km457.far L.valley L.school ((x0 :: l0).getD i 0))) hD3 (by rw [List.length_map]; omega) (SqL.of h2) (fun i x H3 hx3 s3 R n1 => ?_) (fun H3 s3 h3 => ?_) (gName_mono _)
          . obtain ⟨y, hy, rfl⟩ := nvL_int (l := x0 :: l0) (f := fun x => x) rfl hx3
            have ey : (x0 :: l0).getD i 0 = y := by rw [List.getD_eq_getElem?_getD, hy]; rfl
            rw [ey] at n1
            exact ⟨rfl, _, rfl, _, rfl, r, _, _, _, rfl, rfl, SqL.of (s3 _ _ (s2 _ _ hrow)), atI_nat (R_at (hlt y (List.mem_of_getElem? hy))), n1 _ _ (Same.refl _) rfl⟩
          . have eL : (List.range (List.map nv (x0 :: l0)).length).map (fun i => nv (Km457.far L.valley L.school ((x0 :: l0).getD i 0))) = ((x0 :: l0).map fun y => ((Km457.far L.valley L.school y : Nat) : Int)).map V.int := by
              rw [List.length_map, List.map_map]
              apply List.ext_getElem?
              intro i
              by_cases h : i < (x0 :: l0).length
              . rw [List.getElem?_map, List.getElem?_range h, List.getElem?_map, List.getElem?_eq_getElem h]
                show some (nv (Km457.far L.valley L.school ((x0 :: l0).getD i 0))) = some (nv (Km457.far L.valley L.school (x0 :: l0)[i]))
                rw [List.getD_eq_getElem?_getD, List.getElem?_eq_getElem h]; rfl
              . rw [List.getElem?_eq_none (by simp at h ⊢; omega), List.getElem?_eq_none (by simp at h ⊢; omega)]
            rw [eL] at h3
            refine ⟨D3, _, rfl, SqL.of h3, by simp, fun m hm hle => ?_⟩
            obtain ⟨i1, i2, i3⟩ := fold_max (fun y => Km457.far L.valley y L.school) l0 x0 hpw
            generalize he : l0.foldl (fun a b => if Km457.far L.valley a L.school < Km457.far L.valley b L.school then b else a) x0 = e at *
            have hel := hlt e i1
            have em : m = ((Km457.far L.valley L.school e : Nat) : Int) := by
              obtain ⟨y, hy, rfl⟩ := List.mem_map.mp hm
              have h1 := hle _ (List.mem_map.mpr ⟨e, i1, rfl⟩)
              have h2' := i2 y hy
              rw [VT.far_comm O.good.wf (hlt y hy) O.sch, VT.far_comm O.good.wf hel O.sch] at h2'
              omega
            subst em
            refine ⟨_, rfl, D, rfl, ⟨_, SqL.of (s3 _ _ h2)⟩, fun D4 hD4 => ?_⟩
            refine lc_lstF (fun x => match x with | .int z => decide (((Km457.far L.valley L.school z.toNat : Nat) : Int) = ((Km457.far L.valley L.school e : Nat) : Int)) | _ => false) (fun x => x) hD4 (by rw [List.length_map]; omega) (SqL.of (s3 _ _ h2)) (fun i x H4 hx4 s4 Nx n0 n1 => ?_) (fun H4 s4 h4 => ?_)
            . obtain ⟨y, hy, rfl⟩ := nvL_int (l := x0 :: l0) (f := fun x => x) rfl hx4
              refine ⟨rfl, _, rfl, _, rfl, r, _, _, _, rfl, rfl, SqL.of (s4 _ _ (s3 _ _ (s2 _ _ hrow))), atI_nat (R_at (hlt y (List.mem_of_getElem? hy))), _, rfl, rfl, _, rfl, iteB ?_ (fun hp => ⟨_, rfl, n1 hp _ _ (Same.refl _) rfl⟩) (fun hp => n0 hp _ (Same.refl _))⟩
              show decide (V.int _ = V.int _) = decide (((Km457.far L.valley L.school ((y : Nat) : Int).toNat : Nat) : Int) = _)
              rw [Int.toNat_natCast, dec_int, Bool.beq_eq_decide_eq]
            . have e4 : ((List.map nv (x0 :: l0)).filter (fun x => match x with | .int z => decide (((Km457.far L.valley L.school z.toNat : Nat) : Int) = ((Km457.far L.valley L.school e : Nat) : Int)) | _ => false)).map (fun x => x) = (((x0 :: l0).filter fun y => decide (((Km457.far L.valley L.school y : Nat) : Int) = ((Km457.far L.valley L.school e : Nat) : Int))).map fun y => ((y : Nat) : Int)).map V.int := by
                rw [List.map_id', List.filter_map, List.map_map]
                rfl
              rw [e4] at h4
              have hein : e ∈ (x0 :: l0).filter fun y => decide (((Km457.far L.valley L.school y : Nat) : Int) = ((Km457.far L.valley L.school e : Nat) : Int)) := List.mem_filter.mpr ⟨i1, by simp⟩
              refine ⟨D4, _, rfl, SqL.of h4, by rw [List.length_map]; exact List.length_pos_of_mem hein, fun m hm hle => ?_⟩
              have em : m = ((e : Nat) : Int) := by
                obtain ⟨y, hy, rfl⟩ := List.mem_map.mp hm
                have h1 := hle _ (List.mem_map.mpr ⟨e, hein, rfl⟩)
                obtain ⟨y1, y2⟩ := List.mem_filter.mp hy
                have y3 := of_decide_eq_true y2
                have := i3 y y1 (by
                  show Km457.far L.valley y L.school = Km457.far L.valley e L.school
                  rw [VT.far_comm O.good.wf (hlt y y1) O.sch, VT.far_comm O.good.wf hel O.sch]; omega)
                omega
              subst em
              refine ⟨_, rfl, (by show 2 <= sizeLine; decide), fin k (s1.trans (s2.trans (s3.trans s4))) ?_⟩
              rw [eact _ rfl]
              show _ = [nv (l0.foldl _ x0), nv (Km457.far L.valley (l0.foldl _ x0) L.school)]
              rw [he, VT.far_comm O.good.wf hel O.sch]
end
end VV
namespace VV
open PySem PySem.Spec PyProof.Rows L2
open Km457 (Valley at_)
section
variable {P : Program} {w : World} {K : PySem.W.Frag} {mg : Str -> Option Value} {base : Heap} {C : Addr}
abbrev s_ask_near : Stmt := top 89
theorem sc_ask_near : FnScope ["valley", "given", "row", "far", "v"] ["valley", "given"] (defScope s_ask_near) := ⟨rfl, rfl, rfl, by decide +kernel, rfl, by decide +kernel, by decide +kernel⟩
theorem d_ask_near (T : Txt mg) (Z : Vc K C) (F : Fd K mg "ask_near" s_ask_near) (D_distances : Dn P w K mg base 2 "distances" ["valley"] (sp_distances C)) (D_members : Dn P w K mg base 2 "members" ["group"] sp_members) : Dn P w K mg base 3 "ask_near" ["valley", "given"] (sp_ask C 0 fun _ => .near) := by
  refine F.dn sc_ask_near (fun _ _ _ _ _ _ us hl => match us, hl with | [_, _], _ => rfl) (fun vs H Q E h => ?_) (fun f cdv A outer s H vs Q E hr h => ?_)
  . obtain ⟨a, L, g, gs, rfl, _⟩ := h; rfl
  . obtain ⟨a, L, g, gs, rfl, hV, O, hg, hn, k⟩ := h
    refine ⟨_, (pss_cons (ps_if (pt_cmpR op_eq (pe_fld (pv 0) rfl) pe_int (nomark _)) (pss_one (ps_ret (pe_lst (pa_cons (pe_gi T.EMPTY) pa_nil)))) pss_nil)
      (pss_cons (ps_set (i := 2) sc_ask_near.nd rfl (Or.inr rfl) (pe_ix ix_list (pe_dn D_distances hr (pa_cons (pv 0) pa_nil)) (pe_fld (pv 0) rfl) (fun _ _ => rfl)))
      (pss_cons (ps_set (i := 3) sc_ask_near.nd rfl (Or.inr rfl) (pe_callB (cr_min rfl) rfl T.min boot_min (pa_cons (pe_lc rfl sc_ask_near.nd (pi_list (pe_dn D_members hr (pa_cons (pe_fld (pv 0) rfl) pa_nil))) (blkOk_by (own := [("v", 4)]) rfl) (fun _ _ _ _ _ => pg_name (i := 4) sc_ask_near.nd rfl (Or.inl rfl)) (fun _ _ _ _ _ => by exact pts_nil) (fun _ _ _ _ _ => by exact (pe_ixK K (pv 2) (pv 4) (fun _ _ => rfl)))) pa_nil)))
      (pss_one (ps_ret (pe_lst (pa_cons (pe_callB (cr_min rfl) rfl T.min boot_min (pa_cons (pe_lc rfl sc_ask_near.nd (pi_list (pe_dn D_members hr (pa_cons (pe_fld (pv 0) rfl) pa_nil))) (blkOk_by (own := [("v", 4)]) rfl) (fun _ _ _ _ _ => pg_name (i := 4) sc_ask_near.nd rfl (Or.inl rfl)) (fun _ _ _ _ _ => by exact (pts_one (pt_cmpR op_eq (pe_ixK K (pv 2) (pv 4) (fun _ _ => rfl)) (pv 3) (nomark _)))) (fun _ _ _ _ _ => by exact (pv 4))) pa_nil)) (pa_cons (pv 3) pa_nil)))))))), ?_⟩
    obtain ⟨dx, ch, up, rd, hP⟩ := id hV
    have hlen := O.good.len
    have hlt := canon_lt O.posts
    have eact : told1 L .near = (Km462Neutral.told (match Km458.near (Km458.table L.valley) L.posts L.school with
        | none => Km462.only (-6)
        | some x => ⟨((x.1 : Nat) : Int), [x.2]⟩)).map V.int := rfl
    have ez : setOf L.valley.length L.posts = 0 ↔ L.posts = [] := by
      have h1 := VT.mask_pos (p := fun i => L.posts.contains i) (n := L.valley.length)
      constructor
      . intro h
        cases e : L.posts with
        | nil => rfl
        | cons x l =>
          have : 0 < VT.mask L.valley.length fun i => L.posts.contains i := h1.mpr ⟨x, hlt x (by rw [e]; simp), by rw [e]; simp⟩
          unfold setOf at h
          omega
      . intro h
        rw [h]; exact setOf_nil _
    refine ⟨_, rfl, a, C, dx, _, _, rfl, hP.ins, Z.cl, Z.po, vf_po, rfl, _, rfl, iteB (c := decide (setOf L.valley.length L.posts = 0)) (V.ncast (j := 0)) (fun hp => ?_) (fun hp => ?_)⟩
    . refine ⟨(by show 1 <= sizeLine; decide), fin k (Same.refl _) ?_⟩
      rw [eact, ez.mp (of_decide_eq_true hp)]; rfl
    . have hne : L.posts ≠ [] := fun z => of_decide_eq_false hp (ez.mpr z)
      obtain ⟨x0, l0, hl0⟩ : ∃ x0 l0, L.posts = x0 :: l0 := by
        cases e : L.posts with
        | nil => exact absurd e hne
        | cons x l => exact ⟨x, l, rfl⟩
      have hdist : ∀ p, p < L.valley.length -> Km458.dist (Km458.table L.valley) p L.school = Km457.far L.valley L.school p := fun p hp => by rw [tab_dist hp O.sch, VT.far_comm O.good.wf hp O.sch]
      obtain ⟨e, f1, f2, f3⟩ := near_fold (fun p => Km458.dist (Km458.table L.valley) p L.school) l0 x0
      have hnear : Km458.near (Km458.table L.valley) L.posts L.school = some (e, Km458.dist (Km458.table L.valley) e L.school) := by
        unfold Km458.near
        rw [hl0]
        exact f1
      rw [<- hl0] at f2 f3
      have hel := hlt e f2
      refine ⟨_, rfl, a, _, _, _, _, rfl, hV, O.good, fun H1 q s1 hq tb => ?_⟩
      have hP1 := hP.same s1
      obtain ⟨xs, r, hx, hxr, hrow⟩ := tb.row O.sch
      refine ⟨_, rfl, a, C, dx, _, _, rfl, hP1.ins, Z.cl, Z.sc, vf_sc, q, xs, _, _, rfl, rfl, SqL.of hx, atI_nat hxr, ?_⟩
      have hll : L.posts.length <= 10 := by
        rw [O.posts]
        exact Nat.le_trans (List.length_filter_le _ _) (by rw [List.length_range]; exact hlen)
      refine ⟨_, rfl, a, C, dx, _, _, rfl, hP1.ins, Z.cl, Z.po, vf_po, _, L.valley.length, rfl, setOf_lt _ _, by omega, fun H2 m s2 hm hml => ?_⟩
      rw [setOf_filter, <- O.posts] at hml
      refine ⟨m, rfl, ⟨_, SqL.of hml⟩, fun D3 hD3 => ?_⟩
      refine lc_lstI (fun i => nv (Km457.far L.valley L.school (L.posts.getD i 0))) hD3 (by rw [List.length_map]; omega) (SqL.of hml) (fun i x H3 hx3 s3 R n1 => ?_) (fun H3 s3 h3 => ?_) (gName_mono _)
      . obtain ⟨y, hy, rfl⟩ := nvL_int (l := L.posts) (f := fun x => x) rfl hx3
        have ey : L.posts.getD i 0 = y := by rw [List.getD_eq_getElem?_getD, hy]; rfl
        rw [ey] at n1
        exact ⟨rfl, _, rfl, _, rfl, r, _, _, _, rfl, rfl, SqL.of (s3 _ _ (s2 _ _ hrow)), atI_nat (R_at (hlt y (List.mem_of_getElem? hy))), n1 _ _ (Same.refl _) rfl⟩
      . have eL : (List.range (List.map nv L.posts).length).map (fun i => nv (Km457.far L.valley L.school (L.posts.getD i 0))) = (L.posts.map fun y => ((Km457.far L.valley L.school y : Nat) : Int)).map V.int := by
          rw [List.length_map, List.map_map]
          apply List.ext_getElem?
          intro i
          by_cases h : i < L.posts.length
          . rw [List.getElem?_map, List.getElem?_range h, List.getElem?_map, List.getElem?_eq_getElem h]
            show some (nv (Km457.far L.valley L.school (L.posts.getD i 0))) = some (nv (Km457.far L.valley L.school L.posts[i]))
            rw [List.getD_eq_getElem?_getD, List.getElem?_eq_getElem h]; rfl
          . rw [List.getElem?_eq_none (by simp; omega), List.getElem?_eq_none (by simp; omega)]
        rw [eL] at h3
        refine ⟨D3, _, rfl, SqL.of h3, by rw [List.length_map]; exact List.length_pos_of_mem f2, fun mm hmm hle => ?_⟩
        have em : mm = ((Km457.far L.valley L.school e : Nat) : Int) := by
          obtain ⟨y, hy, rfl⟩ := List.mem_map.mp hmm
          have h1 := hle _ (List.mem_map.mpr ⟨e, f2, rfl⟩)
          have h2' := f3 y hy
          rw [hdist y (hlt y hy), hdist e hel] at h2'
          omega
        subst em
        have hP3 := hP.same (s1.trans (s2.trans s3))
        refine ⟨_, rfl, a, C, dx, _, _, rfl, hP3.ins, Z.cl, Z.po, vf_po, _, L.valley.length, rfl, setOf_lt _ _, by omega, fun H4 m4 s4 hm4 hml4 => ?_⟩
        rw [setOf_filter, <- O.posts] at hml4
        refine ⟨m4, rfl, ⟨_, SqL.of hml4⟩, fun D5 hD5 => ?_⟩
        refine lc_lstF (fun x => match x with | .int z => decide (((Km457.far L.valley L.school z.toNat : Nat) : Int) = ((Km457.far L.valley L.school e : Nat) : Int)) | _ => false) (fun x => x) hD5 (by rw [List.length_map]; omega) (SqL.of hml4) (fun i x H5 hx5 s5 Nx n0 n1 => ?_) (fun H5 s5 h5 => ?_)
        . obtain ⟨y, hy, rfl⟩ := nvL_int (l := L.posts) (f := fun x => x) rfl hx5
          refine ⟨rfl, _, rfl, _, rfl, r, _, _, _, rfl, rfl, SqL.of (s5 _ _ (s4 _ _ (s3 _ _ (s2 _ _ hrow)))), atI_nat (R_at (hlt y (List.mem_of_getElem? hy))), _, rfl, rfl, _, rfl, iteB ?_ (fun hp => ⟨_, rfl, n1 hp _ _ (Same.refl _) rfl⟩) (fun hp => n0 hp _ (Same.refl _))⟩
          show decide (V.int _ = V.int _) = decide (((Km457.far L.valley L.school ((y : Nat) : Int).toNat : Nat) : Int) = _)
          rw [Int.toNat_natCast, dec_int, Bool.beq_eq_decide_eq]
        . have e5 : ((List.map nv L.posts).filter (fun x => match x with | .int z => decide (((Km457.far L.valley L.school z.toNat : Nat) : Int) = ((Km457.far L.valley L.school e : Nat) : Int)) | _ => false)).map (fun x => x) = ((L.posts.filter fun y => decide (((Km457.far L.valley L.school y : Nat) : Int) = ((Km457.far L.valley L.school e : Nat) : Int))).map fun y => ((y : Nat) : Int)).map V.int := by
            rw [List.map_id', List.filter_map, List.map_map]
            rfl
          rw [e5] at h5
          have hein : e ∈ L.posts.filter fun y => decide (((Km457.far L.valley L.school y : Nat) : Int) = ((Km457.far L.valley L.school e : Nat) : Int)) := List.mem_filter.mpr ⟨f2, by simp⟩
          refine ⟨D5, _, rfl, SqL.of h5, by rw [List.length_map]; exact List.length_pos_of_mem hein, fun mm hmm hle => ?_⟩
          have em : mm = ((e : Nat) : Int) := by
            obtain ⟨y, hy, rfl⟩ := List.mem_map.mp hmm
            have h1 := hle _ (List.mem_map.mpr ⟨e, hein, rfl⟩)
            obtain ⟨y1, y2⟩ := List.mem_filter.mp hy
            have y3 := of_decide_eq_true y2
            have h2' := f3 y y1
            rw [hdist y (hlt y y1), hdist e hel] at h2'
            omega
          subst em
          refine ⟨_, rfl, (by show 2 <= sizeLine; decide), fin k (s1.trans (s2.trans (s3.trans (s4.trans s5)))) ?_⟩
          rw [eact, hnear, hdist e hel]; rfl
end
end VV
namespace VV
open PySem PySem.Spec PyProof.Rows L2
open Km457 (Valley at_)
def Mm (P : Program) (w : World) (K : PySem.W.Frag) (mg : Str -> Option Value) (base : Heap) (C : Addr) (k : Nat) (m : Str) (ps : List Str) (sp : Sp) : Prop :=
  ∃ f fd, Meth K C m f /\ FnOk P w K mg base CX0 k f fd ps sp /\ Binds K fd ps []
def Mc (P : Program) (w : World) (K : PySem.W.Frag) (mg : Str -> Option Value) (base : Heap) (C : Addr) (k : Nat) (x : Str) (ps : List Str) (sp : Sp) : Prop :=
  ∃ f fd, Mk K C f /\ mg x = some (.ref C) /\ FnOk P w K mg base CX0 k f fd ps sp /\ Binds K fd ps []
section
variable {X : Cx} {C : Addr} {x m : Str} {p pos apos : Pos} {e o : Expr} {es : List Expr} {t : TA} {ta : TE} {ps : List Str} {sp : Sp} {k j : Nat}
theorem pe_mk (D : Mc X.prog X.w X.K X.mg X.base C k x ps sp) (hr : Room j X.A) (ha : PA X (e :: es) t) (hg : Gl X x := by rfl) (hj : k + 1 <= j := by decide) (hdb : (x == ("__debug__" : Str)) = false := by decide)
    (he : starEach (e :: es) X.env = (false, eval e X.env) :: starEach es X.env := by rfl) (hpl : (backTo pos (starEach es X.env)).any (·.1) = false := by rfl) : PE X (.Call (.Name x p) (e :: es) [] pos) (tMake C sp [] E0 t) := by
  obtain ⟨f, fd, M, hm, F, hb⟩ := D
  exact pe_make M F (hr.mono hj) hg hm hb .nil pass0 ha hdb he hpl
theorem pe_mk0 (D : Mc X.prog X.w X.K X.mg X.base C k x ps sp) (hr : Room j X.A) (hg : Gl X x := by rfl) (hj : k + 1 <= j := by decide) (hdb : (x == ("__debug__" : Str)) = false := by decide) : PE X (.Call (.Name x p) [] [] pos) (tMake C sp [] E0 tNil) := by
  obtain ⟨f, fd, M, hm, F, hb⟩ := D
  exact pe_make0 M F (hr.mono hj) hg hm hb .nil pass0 hdb
theorem pe_mt {pl : Sem Bool} (he : PE X o ta) (c : Cls X.K C) (D : Mm X.prog X.w X.K X.mg X.base C k m ps sp) (hr : Room j X.A) (ha : PA X (e :: es) t) (hj : k <= j := by decide)
    (hst : starEach (e :: es) X.env = (false, eval e X.env) :: starEach es X.env := by rfl) (hpl : (backTo pos (starEach es X.env)).any (·.1) = false := by rfl)
    (ht : eval (.Call (.Attribute o m apos) (e :: es) [] pos) X.env = (do
      let ov <- eval o X.env
      standAt apos.atName
      let (f, first) <- holding [ov] (getMethod ov m pl)
      callWith pos f first (backTo pos (starEach (e :: es) X.env)) (backToKw pos (keywordEach [] X.env))) := by rfl) :
    PE X (.Call (.Attribute o m apos) (e :: es) [] pos) (tMeth C m sp [] E0 ta t) := by
  obtain ⟨f, fd, M, F, hb⟩ := D
  exact pe_meth (pl := pl) he c M F (hr.mono hj) hb .nil pass0 ha hst hpl ht
theorem pe_mt0 {pl : Sem Bool} (he : PE X o ta) (c : Cls X.K C) (D : Mm X.prog X.w X.K X.mg X.base C k m ps sp) (hr : Room j X.A) (hj : k <= j := by decide)
    (ht : eval (.Call (.Attribute o m apos) [] [] pos) X.env = (do
      let ov <- eval o X.env
      standAt apos.atName
      let (f, first) <- holding [ov] (getMethod ov m pl)
      callWith pos f first (backTo pos (starEach [] X.env)) (backToKw pos (keywordEach [] X.env))) := by rfl) :
    PE X (.Call (.Attribute o m apos) [] [] pos) (tMeth C m sp [] E0 ta tNil) := by
  obtain ⟨f, fd, M, F, hb⟩ := D
  exact pe_meth0 (pl := pl) he c M F (hr.mono hj) hb .nil pass0 ht
end
structure Own (C : Addr) (H0 H : Hp) (a : Addr) (L : Km462.Land) (dx ch up rd : Addr) : Prop where
  at_ : VP C H a dx ch up rd L.valley L.school (setOf L.valley.length L.bus) (setOf L.valley.length L.posts)
  same : Same H0 H
  na : H0 a = none
  nch : H0 ch = none
  nup : H0 up = none
  nrd : H0 rd = none
  cu : ch ≠ up
  cr : ch ≠ rd
  ur : up ≠ rd
def spInitV (C : Addr) : Sp := fun vs H Q _ => ∃ (p dx : Addr) (m : Nat), vs = [.ref p, nv m] /\ H p = some (.ins C dx []) /\ ∀ (H' : Hp) (ch up rd : Addr), VP C H' p dx ch up rd [⟨0, 0, m⟩] 0 0 0 -> H ch = none -> H up = none -> H rd = none -> ch ≠ up -> ch ≠ rd -> up ≠ rd -> (∀ b o, H b = some o -> b ≠ p -> H' b = some o) -> Q .non H'
def sp_copy_of (C : Addr) : Sp := fun vs H Q _ => ∃ (a : Addr) (L : Km462.Land), vs = [.ref a] /\ LA C H a L /\ ∀ (H' : Hp) (a' dx ch up rd : Addr), Own C H H' a' L dx ch up rd -> Q (.ref a') H'
section
variable {P : Program} {w : World} {K : PySem.W.Frag} {mg : Str -> Option Value} {base : Heap} {C : Addr}
abbrev s_Valley___init__ : Stmt := inClass (top 13) 0
theorem sc_Valley___init__ : FnScope ["self", "many"] ["self", "many"] (defScope s_Valley___init__) := ⟨rfl, rfl, rfl, by decide +kernel, rfl, by decide +kernel, by decide +kernel⟩
theorem d_initV (Z : Vc K C) {f : Addr} {fd : FuncData} (F : Fun K "__init__" "Valley.__init__" s_Valley___init__ f fd) : FnOk P w K mg base CX0 1 f fd ["self", "many"] (spInitV C) := by
  refine F.ok sc_Valley___init__ (fun vs H Q E h => ?_) (fun cdv A outer s H vs Q E hr h => ?_)
  . obtain ⟨p, dx, m, rfl, _⟩ := h; rfl
  . obtain ⟨p, dx, m, rfl, hp, k⟩ := h
    refine ⟨_, (pss_cons (ps_fld (pv 0) (pe_lst (pa_cons (pv 1) pa_nil)) rfl)
      (pss_cons (ps_fld (pv 0) (pe_lst (pa_cons pe_int pa_nil)) rfl)
      (pss_cons (ps_fld (pv 0) (pe_lst (pa_cons pe_int pa_nil)) rfl)
      (pss_cons (ps_fld (pv 0) pe_int rfl)
      (pss_cons (ps_fld (pv 0) pe_int rfl)
      (pss_one (ps_fld (pv 0) pe_int rfl))))))), ?_⟩
    refine ⟨_, rfl, (by show 1 <= sizeLine; decide), fun ch hch => ⟨_, rfl, p, C, dx, [], rfl, by rw [upd_ne (ne_of_none hp hch)]; exact hp, Z.cl, Z.ch, (by show 0 < 1000; decide), ?_⟩⟩
    have p1 : ∀ {o}, (upd (upd H ch (.lst [nv m])) p o) p = some o := fun {o} => upd_same
    refine ⟨(by show 1 <= sizeLine; decide), fun up hup => ⟨_, rfl, p, C, dx, _, rfl, by rw [upd_ne (ne_of_none p1 hup)]; exact p1, Z.cl, Z.up, (by show 1 < 1000; decide), ?_⟩⟩
    refine ⟨(by show 1 <= sizeLine; decide), fun rd hrd => ⟨_, rfl, p, C, dx, _, rfl, by rw [upd_ne (ne_of_none upd_same hrd)]; exact upd_same, Z.cl, Z.rd, (by show 2 < 1000; decide), ?_⟩⟩
    refine ⟨_, rfl, p, C, dx, _, rfl, upd_same, Z.cl, Z.sc, (by show 3 < 1000; decide), ?_⟩
    refine ⟨_, rfl, p, C, dx, _, rfl, upd_same, Z.cl, Z.ri, (by show 4 < 1000; decide), ?_⟩
    refine ⟨_, rfl, p, C, dx, _, rfl, upd_same, Z.cl, Z.po, (by show 5 < 1000; decide), ?_⟩
    have nch : ch ≠ p := fun z => by rw [z, hp] at hch; cases hch
    have hup1 : (upd H ch (.lst [nv m])) up = none /\ up ≠ p := by
      have nup : up ≠ p := fun z => by rw [z, p1] at hup; cases hup
      rw [upd_ne nup] at hup
      exact ⟨hup, nup⟩
    have nuc : up ≠ ch := fun z => by rw [z, upd_same] at hup1; cases hup1.1
    have hupH : H up = none := by
      have := hup1.1
      rw [upd_ne nuc] at this; exact this
    have nrp : rd ≠ p := fun z => by rw [z, upd_same] at hrd; cases hrd
    rw [upd_ne nrp] at hrd
    have nru : rd ≠ up := fun z => by rw [z, upd_same] at hrd; cases hrd
    rw [upd_ne nru, upd_ne nrp] at hrd
    have nrc : rd ≠ ch := fun z => by rw [z, upd_same] at hrd; cases hrd
    rw [upd_ne nrc] at hrd
    refine k _ ch up rd ⟨?_, ?_, ?_, ?_⟩ hch hupH hrd nuc.symm nrc.symm nru.symm fun b o hb hne => ?_
    . rw [upd_same]; rfl
    . rw [upd_ne nch, upd_ne nch, upd_ne nch, upd_ne nch, upd_ne nrc.symm, upd_ne nch, upd_ne nuc.symm, upd_ne nch, upd_same]; rfl
    . rw [upd_ne hup1.2, upd_ne hup1.2, upd_ne hup1.2, upd_ne hup1.2, upd_ne nru.symm, upd_ne hup1.2, upd_same]; rfl
    . rw [upd_ne nrp, upd_ne nrp, upd_ne nrp, upd_ne nrp, upd_same]; rfl
    . rw [upd_ne hne, upd_ne hne, upd_ne hne, upd_ne hne, upd_ne (ne_of_none hb hrd), upd_ne hne, upd_ne (ne_of_none hb hupH), upd_ne hne, upd_ne (ne_of_none hb hch)]
      exact hb
abbrev s_copy_of : Stmt := top 14
theorem sc_copy_of : FnScope ["valley", "twin"] ["valley"] (defScope s_copy_of) := ⟨rfl, rfl, rfl, by decide +kernel, rfl, by decide +kernel, by decide +kernel⟩
theorem d_copy_of (T : Txt mg) (Z : Vc K C) (F : Fd K mg "copy_of" s_copy_of) (D_Valley : Mc P w K mg base C 1 "Valley" ["self", "many"] (spInitV C)) : Dn P w K mg base 3 "copy_of" ["valley"] (sp_copy_of C) := by
  refine F.dn sc_copy_of (fun _ _ _ _ _ _ us hl => match us, hl with | [_], _ => rfl) (fun vs H Q E h => ?_) (fun f cdv A outer s H vs Q E hr h => ?_)
  . obtain ⟨a, L, rfl, _⟩ := h; rfl
  . obtain ⟨a, L, rfl, hV, k⟩ := h
    refine ⟨_, (pss_cons (ps_set (i := 1) sc_copy_of.nd rfl (Or.inl rfl) (pe_mk D_Valley hr (pa_cons pe_int pa_nil)))
      (pss_cons (ps_fld (pv 1) (pe_callTy call_list_of rfl T.list boot_list (pa_cons (pe_fld (pv 0) rfl) pa_nil)) rfl)
      (pss_cons (ps_fld (pv 1) (pe_callTy call_list_of rfl T.list boot_list (pa_cons (pe_fld (pv 0) rfl) pa_nil)) rfl)
      (pss_cons (ps_fld (pv 1) (pe_callTy call_list_of rfl T.list boot_list (pa_cons (pe_fld (pv 0) rfl) pa_nil)) rfl)
      (pss_cons (ps_fld (pv 1) (pe_fld (pv 0) rfl) rfl)
      (pss_cons (ps_fld (pv 1) (pe_fld (pv 0) rfl) rfl)
      (pss_cons (ps_fld (pv 1) (pe_fld (pv 0) rfl) rfl)
      (pss_one (ps_ret (pv 1)))))))))), ?_⟩
    obtain ⟨da, ca, ua, ra, hP⟩ := id hV
    intro x dx nx ndx nex
    refine ⟨x, dx, 0, rfl, upd_same, fun H1 c0 u0 r0 hv _ _ _ _ _ _ kp => ⟨rfl, ?_⟩⟩
    have s1 : Same H H1 := Same.made nx ndx kp
    have hP1 := hP.same s1
    refine ⟨_, rfl, a, C, da, _, _, rfl, hP1.ins, Z.cl, Z.ch, vf_ch, ca, _, rfl, .inl (SqL.of hP1.ch), fun l1 h1 => ⟨_, rfl, x, C, dx, _, rfl, by rw [upd_ne (ne_of_none hv.ins h1)]; exact hv.ins, Z.cl, Z.ch, (by show 6 < 1000; decide), ?_⟩⟩
    have n1 : l1 ≠ x := fun z => by rw [z, hv.ins] at h1; cases h1
    generalize hH2 : upd (upd H1 l1 (.lst (many L.valley))) x (.ins C dx (putF "children" (.ref l1) (vf c0 u0 r0 0 0 0))) = H2
    have s2 : Same H H2 := by rw [<- hH2]; exact (s1.new h1).put nx
    have x2 : H2 x = some (.ins C dx (vf l1 u0 r0 0 0 0)) := by rw [<- hH2, upd_same]; rfl
    have a2 : H2 l1 = some (.lst (many L.valley)) := by rw [<- hH2, upd_ne n1, upd_same]
    have hP2 := hP.same s2
    refine ⟨_, rfl, a, C, da, _, _, rfl, hP2.ins, Z.cl, Z.up, vf_up, ua, _, rfl, .inl (SqL.of hP2.up), fun l2 h2 => ⟨_, rfl, x, C, dx, _, rfl, by rw [upd_ne (ne_of_none x2 h2)]; exact x2, Z.cl, Z.up, (by show 6 < 1000; decide), ?_⟩⟩
    have n2 : l2 ≠ x := fun z => by rw [z, x2] at h2; cases h2
    have n21 : l1 ≠ l2 := ne_of_none a2 h2
    generalize hH3 : upd (upd H2 l2 (.lst (upsOf L.valley))) x (.ins C dx (putF "ups" (.ref l2) (vf l1 u0 r0 0 0 0))) = H3
    have s3 : Same H H3 := by rw [<- hH3]; exact (s2.new h2).put nx
    have x3 : H3 x = some (.ins C dx (vf l1 l2 r0 0 0 0)) := by rw [<- hH3, upd_same]; rfl
    have a3 : H3 l1 = some (.lst (many L.valley)) := by rw [<- hH3, upd_ne n1, upd_ne n21]; exact a2
    have b3 : H3 l2 = some (.lst (upsOf L.valley)) := by rw [<- hH3, upd_ne n2, upd_same]
    have hP3 := hP.same s3
    refine ⟨_, rfl, a, C, da, _, _, rfl, hP3.ins, Z.cl, Z.rd, vf_rd, ra, _, rfl, .inl (SqL.of hP3.rd), fun l3 h3 => ⟨_, rfl, x, C, dx, _, rfl, by rw [upd_ne (ne_of_none x3 h3)]; exact x3, Z.cl, Z.rd, (by show 6 < 1000; decide), ?_⟩⟩
    have n3 : l3 ≠ x := fun z => by rw [z, x3] at h3; cases h3
    have n31 : l1 ≠ l3 := ne_of_none a3 h3
    have n32 : l2 ≠ l3 := ne_of_none b3 h3
    generalize hH4 : upd (upd H3 l3 (.lst (roadsOf L.valley))) x (.ins C dx (putF "roads" (.ref l3) (vf l1 l2 r0 0 0 0))) = H4
    have s4 : Same H H4 := by rw [<- hH4]; exact (s3.new h3).put nx
    have x4 : H4 x = some (.ins C dx (vf l1 l2 l3 0 0 0)) := by rw [<- hH4, upd_same]; rfl
    have a4 : H4 l1 = some (.lst (many L.valley)) := by rw [<- hH4, upd_ne n1, upd_ne n31]; exact a3
    have b4 : H4 l2 = some (.lst (upsOf L.valley)) := by rw [<- hH4, upd_ne n2, upd_ne n32]; exact b3
    have c4 : H4 l3 = some (.lst (roadsOf L.valley)) := by rw [<- hH4, upd_ne n3, upd_same]
    have hP4 := hP.same s4
    refine ⟨_, rfl, a, C, da, _, _, rfl, hP4.ins, Z.cl, Z.sc, vf_sc, _, rfl, x, C, dx, _, rfl, x4, Z.cl, Z.sc, (by show 6 < 1000; decide), ?_⟩
    have s5 : Same H (upd H4 x (.ins C dx (putF "school" (nv L.school) (vf l1 l2 l3 0 0 0)))) := s4.put nx
    have hP5 := hP.same s5
    refine ⟨_, rfl, a, C, da, _, _, rfl, hP5.ins, Z.cl, Z.ri, vf_ri, _, rfl, x, C, dx, _, rfl, upd_same, Z.cl, Z.ri, (by show 6 < 1000; decide), ?_⟩
    rw [upd_upd]
    have s6 : Same H (upd H4 x (.ins C dx (putF "riding" (nv (setOf L.valley.length L.bus)) (putF "school" (nv L.school) (vf l1 l2 l3 0 0 0))))) := s4.put nx
    have hP6 := hP.same s6
    refine ⟨_, rfl, a, C, da, _, _, rfl, hP6.ins, Z.cl, Z.po, vf_po, _, rfl, x, C, dx, _, rfl, upd_same, Z.cl, Z.po, (by show 6 < 1000; decide), ?_⟩
    rw [upd_upd]
    refine ⟨_, rfl, k _ x dx l1 l2 l3 ⟨⟨by rw [upd_same]; rfl, by rw [upd_ne n1]; exact a4, by rw [upd_ne n2]; exact b4, by rw [upd_ne n3]; exact c4⟩, s4.put nx, nx, s1.free h1, s2.free h2, s3.free h3, n21, n31, n32⟩⟩
end
end VV
namespace VV
open PySem PySem.Spec PyProof.Rows L2
open Km457 (Valley at_)
theorem Own.grow {C : Addr} {H0 H H' : Hp} {a dx ch up rd : Addr} {L : Km462.Land} (o : Own C H0 H a L dx ch up rd) (s : Same H H') : Own C H0 H' a L dx ch up rd := ⟨o.at_.same s, o.same.trans s, o.na, o.nch, o.nup, o.nrd, o.cu, o.cr, o.ur⟩
theorem Own.la {C : Addr} {H0 H : Hp} {a dx ch up rd : Addr} {L : Km462.Land} (o : Own C H0 H a L dx ch up rd) : LA C H a L := ⟨dx, ch, up, rd, o.at_⟩
theorem VP.ne {C : Addr} {H : Hp} {a dx ch up rd : Addr} {s : Valley} {c b p : Nat} (h : VP C H a dx ch up rd s c b p) : a ≠ ch /\ a ≠ up /\ a ≠ rd := ⟨ne_of h.ins h.ch (by intro z; cases z), ne_of h.ins h.up (by intro z; cases z), ne_of h.ins h.rd (by intro z; cases z)⟩
abbrev chg (L : Km462.Land) (c : Km462.Call) : Km462.Land := (Km462.act ⟨L, [], []⟩ c).1.now
def sp_chg (C : Addr) (n : Nat) (mk : List Nat -> Km462.Call) : Sp := fun vs H Q _ => ∃ (H0 : Hp) (a : Addr) (L : Km462.Land) (g : Addr) (gs : List Nat) (dx ch up rd : Addr), vs = [.ref a, .ref g] /\ Own C H0 H a L dx ch up rd /\ LOK L /\ H0 g = some (.lst (gs.map nv)) /\ gs.length = n /\
  ∀ H' q dx ch up rd, Own C H0 H' a (chg L (mk gs)) dx ch up rd -> H0 q = none -> H' q = some (.lst (told1 L (mk gs))) -> Q (.ref q) H'
theorem finC {C : Addr} {H0 H1 : Hp} {Q : VK} {a dx ch up rd : Addr} {L L' : Km462.Land} {c : Km462.Call} {d' : Km462.Desk} {ans : Km462.Ans} {xs : List V} (k : ∀ H' q dx ch up rd, Own C H0 H' a (chg L c) dx ch up rd -> H0 q = none -> H' q = some (.lst (told1 L c)) -> Q (.ref q) H')
    (o : Own C H0 H1 a L' dx ch up rd) (ea : Km462.act ⟨L, [], []⟩ c = (d', ans)) (e1 : d'.now = L') (e2 : xs = (Km462Neutral.told ans).map V.int) : ∀ q, H1 q = none -> Q (.ref q) (upd H1 q (.lst xs)) := fun q hq => by
  refine k _ q dx ch up rd ?_ (o.same.free hq) ?_
  . have : chg L c = L' := by unfold chg; rw [ea]; exact e1
    rw [this]
    exact o.grow ((Same.refl _).new hq)
  . rw [upd_same, e2]
    unfold told1
    rw [ea]
theorem set_same {α : Type} {l : List α} {v : Nat} {x : α} (h : l[v]? = some x) : l.set v x = l := by
  apply List.ext_getElem?
  intro i
  rw [List.getElem?_set]
  by_cases e : v = i
  . subst e
    rw [if_pos rfl, if_pos (List.getElem?_eq_some_iff.mp h).1, h]
  . rw [if_neg e]
theorem setOf_wide {n m : Nat} {l : List Nat} (h : n <= m) (hl : ∀ x ∈ l, x < n) : setOf m l = setOf n l := by
  unfold setOf
  apply VT.mask_wider h
  intro i hi
  cases e : l.contains i with
  | false => rfl
  | true =>
    have := hl i (by simpa using e)
    omega
section
variable {P : Program} {w : World} {K : PySem.W.Frag} {mg : Str -> Option Value} {base : Heap} {C : Addr}
abbrev s_add_village : Stmt := top 95
theorem sc_add_village : FnScope ["valley", "given", "up", "far", "many"] ["valley", "given"] (defScope s_add_village) := ⟨rfl, rfl, rfl, by decide +kernel, rfl, by decide +kernel, by decide +kernel⟩
theorem d_add_village (T : Txt mg) (Z : Vc K C) (F : Fd K mg "add_village" s_add_village) (D_is_there : Dn P w K mg base 2 "is_there" ["valley", "v"] (sp_is_there C)) (D_is_road : Dn P w K mg base 1 "is_road" ["far"] sp_is_road) (D_is_many : Dn P w K mg base 1 "is_many" ["many"] sp_is_many) (D_how_many_villages : Dn P w K mg base 1 "how_many_villages" ["valley"] (sp_how_many_villages C)) :
    Dn P w K mg base 3 "add_village" ["valley", "given"] (sp_chg C 3 fun gs => .village (gs.getD 0 0) (gs.getD 1 0) (gs.getD 2 0)) := by
  refine F.dn sc_add_village (fun _ _ _ _ _ _ us hl => match us, hl with | [_, _], _ => rfl) (fun vs H Q E h => ?_) (fun f cdv A outer s H vs Q E hr h => ?_)
  . obtain ⟨H0, a, L, g, gs, dx, ch, up, rd, rfl, _⟩ := h; rfl
  . obtain ⟨H0, a, L, g, gs, dx, ch, up, rd, rfl, o, O, hg, hn, k⟩ := h
    obtain ⟨v, l, m, rfl⟩ := ln3 hn
    refine ⟨_, (pss_cons (ps_set (i := 2) sc_add_village.nd rfl (Or.inl rfl) (pe_ix ix_list (pv 1) pe_int (fun _ _ => rfl)))
      (pss_cons (ps_set (i := 3) sc_add_village.nd rfl (Or.inl rfl) (pe_ix ix_list (pv 1) pe_int (fun _ _ => rfl)))
      (pss_cons (ps_set (i := 4) sc_add_village.nd rfl (Or.inl rfl) (pe_ix ix_list (pv 1) pe_int (fun _ _ => rfl)))
      (pss_cons (ps_if (pt_not (pt_val (pe_dn D_is_there hr (pa_cons (pv 0) (pa_cons (pv 2) pa_nil))))) (pss_one (ps_ret (pe_lst (pa_cons (pe_gi T.NONE_THERE) pa_nil)))) pss_nil)
      (pss_cons (ps_if (pw_or (pt_not (pt_val (pe_dn D_is_road hr (pa_cons (pv 3) pa_nil)))) (pw_or1 (pt_not (pt_val (pe_dn D_is_many hr (pa_cons (pv 4) pa_nil)))))).pt (pss_one (ps_ret (pe_lst (pa_cons (pe_gi T.WRONG) pa_nil)))) pss_nil)
      (pss_cons (ps_if (pt_cmpR op_eq (pe_dn D_how_many_villages hr (pa_cons (pv 0) pa_nil)) (pe_gi T.MOST_VILLAGES) (nomark _)) (pss_one (ps_ret (pe_lst (pa_cons (pe_gi T.FULL) pa_nil)))) pss_nil)
      (pss_cons (ps_expr (pe_bm PySem.F.plainAttrs_list PySem.F.slot_list_append PySem.F.type_list_append mt_append (pe_fld (pv 0) rfl) (pa_cons (pv 4) pa_nil)))
      (pss_cons (ps_expr (pe_bm PySem.F.plainAttrs_list PySem.F.slot_list_append PySem.F.type_list_append mt_append (pe_fld (pv 0) rfl) (pa_cons (pv 2) pa_nil)))
      (pss_cons (ps_expr (pe_bm PySem.F.plainAttrs_list PySem.F.slot_list_append PySem.F.type_list_append mt_append (pe_fld (pv 0) rfl) (pa_cons (pv 3) pa_nil)))
      (pss_one (ps_ret (pe_lst (pa_cons (pe_op op_sub (pe_dn D_how_many_villages hr (pa_cons (pv 0) pa_nil)) pe_int) pa_nil))))))))))))), ?_⟩
    have hg1 := o.same _ _ hg
    have hV := o.la
    have hP := o.at_
    have hlen := O.good.len
    refine ⟨_, rfl, g, _, _, _, rfl, rfl, SqL.of hg1, at_of (j := 0) rfl rfl, ?_⟩
    refine ⟨_, rfl, g, _, _, _, rfl, rfl, SqL.of hg1, at_of (j := 1) rfl rfl, ?_⟩
    refine ⟨_, rfl, g, _, _, _, rfl, rfl, SqL.of hg1, at_of (j := 2) rfl rfl, ?_⟩
    refine ⟨_, rfl, _, rfl, a, _, _, _, _, v, rfl, hV, _, rfl, iteB (c := !decide (v < L.valley.length)) rfl (fun hp => ?_) (fun hp => ?_)⟩
    . have hno : ¬ v < L.valley.length := by simpa using hp
      refine ⟨(by show 1 <= sizeLine; decide), finC (d' := ⟨L, [], []⟩) (ans := Km462.only (-2)) k o ?_ rfl rfl⟩
      show (if L.valley.length <= v then _ else _) = _
      rw [if_pos (by omega)] <;> rfl
    . have hy : v < L.valley.length := by simpa using hp
      have wrong : (l = 0 \/ 1000 < l \/ 100 < m) -> ∀ q, H q = none -> Q (.ref q) (upd H q (.lst [V.int (-22)])) := fun hw => finC (d' := ⟨L, [], []⟩) (ans := Km462.only (-22)) k o (by
        show (if L.valley.length <= v then _ else if l = 0 \/ 1000 < l \/ 100 < m then _ else _) = _
        rw [if_neg (by omega), if_pos hw] <;> rfl) rfl rfl
      refine ⟨_, rfl, l, rfl, _, rfl, iteB (c := !decide (1 <= l /\ l <= 1000)) rfl (fun hp1 => ?_) (fun hp1 => ?_)⟩
      . have : ¬ (1 <= l /\ l <= 1000) := by
          intro z
          rw [decide_eq_true z] at hp1
          cases hp1
        exact iteT ⟨(by show 1 <= sizeLine; decide), wrong (by omega)⟩
      . have h1 : 1 <= l /\ l <= 1000 := by simpa using hp1
        refine ⟨_, rfl, m, rfl, _, rfl, iteB (c := !decide (m <= 100)) rfl (fun hp2 => ?_) (fun hp2 => ?_)⟩
        . have : ¬ m <= 100 := by simpa using hp2
          exact ⟨(by show 1 <= sizeLine; decide), wrong (by omega)⟩
        . have h2 : m <= 100 := by simpa using hp2
          refine ⟨_, rfl, a, _, _, _, _, rfl, hV, rfl, _, rfl, iteB (c := decide (L.valley.length = 10)) (V.ncast (j := 10)) (fun hp3 => ?_) (fun hp3 => ?_)⟩
          . refine ⟨(by show 1 <= sizeLine; decide), finC (d' := ⟨L, [], []⟩) (ans := Km462.only (-28)) k o ?_ rfl rfl⟩
            show (if L.valley.length <= v then _ else if l = 0 \/ 1000 < l \/ 100 < m then _ else if 10 <= L.valley.length then _ else _) = _
            have := of_decide_eq_true hp3
            rw [if_neg (by omega), if_neg (by omega), if_pos (by omega)] <;> rfl
          . have h3 : L.valley.length < 10 := by have := of_decide_eq_false hp3; omega
            obtain ⟨nac, nau, nar⟩ := hP.ne
            have sm : ∀ n, n <= 100 -> n < sizeLine := fun n hn => small_line (by omega)
            refine ⟨_, rfl, a, C, dx, _, _, rfl, hP.ins, Z.cl, Z.ch, vf_ch, .inl ⟨rfl, _, SqL.of hP.ch⟩, _, rfl, ch, _, _, rfl, rfl, hP.ch, sm _ (by rw [many_len]; omega), ?_⟩
            have i1 : (upd H ch (.lst (many L.valley ++ [nv m]))) a = some (.ins C dx (vf ch up rd L.school (setOf L.valley.length L.bus) (setOf L.valley.length L.posts))) := by rw [upd_ne nac]; exact hP.ins
            have u1 : (upd H ch (.lst (many L.valley ++ [nv m]))) up = some (.lst (upsOf L.valley)) := by rw [upd_ne o.cu.symm]; exact hP.up
            refine ⟨_, rfl, a, C, dx, _, _, rfl, i1, Z.cl, Z.up, vf_up, .inl ⟨rfl, _, SqL.of u1⟩, _, rfl, up, _, _, rfl, rfl, u1, sm _ (by unfold upsOf; rw [List.length_map]; omega), ?_⟩
            have i2 : (upd (upd H ch (.lst (many L.valley ++ [nv m]))) up (.lst (upsOf L.valley ++ [nv v]))) a = some (.ins C dx (vf ch up rd L.school (setOf L.valley.length L.bus) (setOf L.valley.length L.posts))) := by rw [upd_ne nau]; exact i1
            have r2 : (upd (upd H ch (.lst (many L.valley ++ [nv m]))) up (.lst (upsOf L.valley ++ [nv v]))) rd = some (.lst (roadsOf L.valley)) := by rw [upd_ne o.ur.symm, upd_ne o.cr.symm]; exact hP.rd
            refine ⟨_, rfl, a, C, dx, _, _, rfl, i2, Z.cl, Z.rd, vf_rd, .inl ⟨rfl, _, SqL.of r2⟩, _, rfl, rd, _, _, rfl, rfl, r2, sm _ (by unfold roadsOf; rw [List.length_map]; omega), ?_⟩
            generalize hH3 : upd (upd (upd H ch (.lst (many L.valley ++ [nv m]))) up (.lst (upsOf L.valley ++ [nv v]))) rd (.lst (roadsOf L.valley ++ [nv l])) = H3
            have o3 : Own C H0 H3 a { L with valley := L.valley ++ [(⟨v, l, m⟩ : Km457.Village)] } dx ch up rd := by
              rw [<- hH3]
              refine ⟨⟨?_, ?_, ?_, ?_⟩, ((o.same.put o.nch).put o.nup).put o.nrd, o.na, o.nch, o.nup, o.nrd, o.cu, o.cr, o.ur⟩
              . rw [upd_ne nar, i2]
                have e1 : setOf (L.valley ++ [(⟨v, l, m⟩ : Km457.Village)]).length L.bus = setOf L.valley.length L.bus := setOf_wide (by rw [List.length_append]; omega) (canon_lt O.bus)
                have e2 : setOf (L.valley ++ [(⟨v, l, m⟩ : Km457.Village)]).length L.posts = setOf L.valley.length L.posts := setOf_wide (by rw [List.length_append]; omega) (canon_lt O.posts)
                show _ = some (HO.ins C dx (vf ch up rd L.school (setOf (L.valley ++ [(⟨v, l, m⟩ : Km457.Village)]).length L.bus) (setOf (L.valley ++ [(⟨v, l, m⟩ : Km457.Village)]).length L.posts)))
                rw [e1, e2]
              . rw [upd_ne o.cr, upd_ne o.cu, upd_same]
                unfold many
                rw [List.map_append]; rfl
              . rw [upd_ne o.ur, upd_same]
                unfold upsOf
                rw [List.map_append]; rfl
              . rw [upd_same]
                unfold roadsOf
                rw [List.map_append]; rfl
            refine ⟨_, rfl, a, _, _, _, _, rfl, o3.la, _, _, rfl, rfl, (by show 1 <= sizeLine; decide), finC (d' := (⟨L, [], []⟩ : Km462.Desk).become { L with valley := L.valley ++ [(⟨v, l, m⟩ : Km457.Village)] }) (ans := Km462.only ((L.valley.length : Nat) : Int)) k o3 ?_ rfl ?_⟩
            . show (if L.valley.length <= v then _ else if l = 0 \/ 1000 < l \/ 100 < m then _ else if 10 <= L.valley.length then _ else _) = _
              rw [if_neg (by omega), if_neg (by omega), if_neg (by omega)] <;> rfl
            . show [V.int (((L.valley ++ [(⟨v, l, m⟩ : Km457.Village)]).length : Int) - 1)] = [V.int ((L.valley.length : Nat) : Int)]
              rw [List.length_append]
              congr 2
              simp
abbrev s_set_children : Stmt := top 96
theorem sc_set_children : FnScope ["valley", "given", "v", "many", "before"] ["valley", "given"] (defScope s_set_children) := ⟨rfl, rfl, rfl, by decide +kernel, rfl, by decide +kernel, by decide +kernel⟩
theorem d_set_children (T : Txt mg) (Z : Vc K C) (F : Fd K mg "set_children" s_set_children) (D_is_there : Dn P w K mg base 2 "is_there" ["valley", "v"] (sp_is_there C)) (D_is_many : Dn P w K mg base 1 "is_many" ["many"] sp_is_many) :
    Dn P w K mg base 3 "set_children" ["valley", "given"] (sp_chg C 2 (n2 .many)) := by
  refine F.dn sc_set_children (fun _ _ _ _ _ _ us hl => match us, hl with | [_, _], _ => rfl) (fun vs H Q E h => ?_) (fun f cdv A outer s H vs Q E hr h => ?_)
  . obtain ⟨H0, a, L, g, gs, dx, ch, up, rd, rfl, _⟩ := h; rfl
  . obtain ⟨H0, a, L, g, gs, dx, ch, up, rd, rfl, o, O, hg, hn, k⟩ := h
    obtain ⟨v, m, rfl⟩ := ln2 hn
    refine ⟨_, (pss_cons (ps_set (i := 2) sc_set_children.nd rfl (Or.inl rfl) (pe_ix ix_list (pv 1) pe_int (fun _ _ => rfl)))
      (pss_cons (ps_set (i := 3) sc_set_children.nd rfl (Or.inl rfl) (pe_ix ix_list (pv 1) pe_int (fun _ _ => rfl)))
      (pss_cons (ps_if (pt_not (pt_val (pe_dn D_is_there hr (pa_cons (pv 0) (pa_cons (pv 2) pa_nil))))) (pss_one (ps_ret (pe_lst (pa_cons (pe_gi T.NONE_THERE) pa_nil)))) pss_nil)
      (pss_cons (ps_if (pt_not (pt_val (pe_dn D_is_many hr (pa_cons (pv 3) pa_nil)))) (pss_one (ps_ret (pe_lst (pa_cons (pe_gi T.WRONG) pa_nil)))) pss_nil)
      (pss_cons (ps_set (i := 4) sc_set_children.nd rfl (Or.inl rfl) (pe_ix ix_list (pe_fld (pv 0) rfl) (pv 2) (fun _ _ => rfl)))
      (pss_cons (ps_asg (pv 3) (pg_sub (pe_fld (pv 0) rfl) (pv 2) set_list))
      (pss_one (ps_ret (pe_lst (pa_cons (pv 4) pa_nil)))))))))), ?_⟩
    have hg1 := o.same _ _ hg
    have hV := o.la
    have hP := o.at_
    refine ⟨_, rfl, g, _, _, _, rfl, rfl, SqL.of hg1, at_of (j := 0) rfl rfl, ?_⟩
    refine ⟨_, rfl, g, _, _, _, rfl, rfl, SqL.of hg1, at_of (j := 1) rfl rfl, ?_⟩
    refine ⟨_, rfl, _, rfl, a, _, _, _, _, v, rfl, hV, _, rfl, iteB (c := !decide (v < L.valley.length)) rfl (fun hp => ?_) (fun hp => ?_)⟩
    . have hno : ¬ v < L.valley.length := by simpa using hp
      refine ⟨(by show 1 <= sizeLine; decide), finC (d' := ⟨L, [], []⟩) (ans := Km462.only (-2)) k o ?_ rfl rfl⟩
      show (if L.valley.length <= v then _ else _) = _
      rw [if_pos (by omega)] <;> rfl
    . have hy : v < L.valley.length := by simpa using hp
      refine ⟨_, rfl, m, rfl, _, rfl, iteB (c := !decide (m <= 100)) rfl (fun hp2 => ?_) (fun hp2 => ?_)⟩
      . have hm : ¬ m <= 100 := by simpa using hp2
        refine ⟨(by show 1 <= sizeLine; decide), finC (d' := ⟨L, [], []⟩) (ans := Km462.only (-22)) k o ?_ rfl rfl⟩
        show (if L.valley.length <= v then _ else if 100 < m then _ else _) = _
        rw [if_neg (by omega), if_pos (by omega)] <;> rfl
      . have hm : m <= 100 := by simpa using hp2
        obtain ⟨nac, nau, nar⟩ := hP.ne
        refine ⟨_, rfl, a, C, dx, _, _, rfl, hP.ins, Z.cl, Z.ch, vf_ch, _, rfl, ch, _, _, _, rfl, rfl, SqL.of hP.ch, atI_nat (many_at hy), ?_⟩
        refine ⟨_, rfl, _, rfl, a, C, dx, _, _, rfl, hP.ins, Z.cl, Z.ch, vf_ch, _, rfl, ch, _, _, v, rfl, rfl, hP.ch, ixN_nat (by rw [many_len]; exact hy), ?_⟩
        rw [many_set]
        have o3 : Own C H0 (upd H ch (.lst (many (L.valley.set v { at_ L.valley v with many := m })))) a { L with valley := L.valley.set v { at_ L.valley v with many := m } } dx ch up rd := by
          refine ⟨⟨?_, upd_same, ?_, ?_⟩, o.same.put o.nch, o.na, o.nch, o.nup, o.nrd, o.cu, o.cr, o.ur⟩
          . rw [upd_ne nac, hP.ins]
            show _ = some (HO.ins C dx (vf ch up rd L.school (setOf (L.valley.set v _).length L.bus) (setOf (L.valley.set v _).length L.posts)))
            rw [List.length_set]
          . rw [upd_ne o.cu.symm, hP.up]
            unfold upsOf
            rw [List.map_set, set_same (by rw [List.getElem?_map, at_some hy]; rfl)]
          . rw [upd_ne o.cr.symm, hP.rd]
            unfold roadsOf
            rw [List.map_set, set_same (by rw [List.getElem?_map, at_some hy]; rfl)]
        refine ⟨_, rfl, (by show 1 <= sizeLine; decide), finC (d' := (⟨L, [], []⟩ : Km462.Desk).become { L with valley := L.valley.set v { at_ L.valley v with many := m } }) (ans := Km462.only ((Km462.many L.valley v : Nat) : Int)) k o3 ?_ rfl rfl⟩
        show (if L.valley.length <= v then _ else if 100 < m then _ else _) = _
        rw [if_neg (by omega), if_neg (by omega)] <;> rfl
abbrev s_set_road : Stmt := top 97
theorem sc_set_road : FnScope ["valley", "given", "v", "far", "before"] ["valley", "given"] (defScope s_set_road) := ⟨rfl, rfl, rfl, by decide +kernel, rfl, by decide +kernel, by decide +kernel⟩
theorem d_set_road (T : Txt mg) (Z : Vc K C) (F : Fd K mg "set_road" s_set_road) (D_is_there : Dn P w K mg base 2 "is_there" ["valley", "v"] (sp_is_there C)) (D_is_road : Dn P w K mg base 1 "is_road" ["far"] sp_is_road) :
    Dn P w K mg base 3 "set_road" ["valley", "given"] (sp_chg C 2 (n2 .road)) := by
  refine F.dn sc_set_road (fun _ _ _ _ _ _ us hl => match us, hl with | [_, _], _ => rfl) (fun vs H Q E h => ?_) (fun f cdv A outer s H vs Q E hr h => ?_)
  . obtain ⟨H0, a, L, g, gs, dx, ch, up, rd, rfl, _⟩ := h; rfl
  . obtain ⟨H0, a, L, g, gs, dx, ch, up, rd, rfl, o, O, hg, hn, k⟩ := h
    obtain ⟨v, m, rfl⟩ := ln2 hn
    refine ⟨_, (pss_cons (ps_set (i := 2) sc_set_road.nd rfl (Or.inl rfl) (pe_ix ix_list (pv 1) pe_int (fun _ _ => rfl)))
      (pss_cons (ps_set (i := 3) sc_set_road.nd rfl (Or.inl rfl) (pe_ix ix_list (pv 1) pe_int (fun _ _ => rfl)))
      (pss_cons (ps_if (pt_not (pt_val (pe_dn D_is_there hr (pa_cons (pv 0) (pa_cons (pv 2) pa_nil))))) (pss_one (ps_ret (pe_lst (pa_cons (pe_gi T.NONE_THERE) pa_nil)))) pss_nil)
      (pss_cons (ps_if (pt_not (pt_val (pe_dn D_is_road hr (pa_cons (pv 3) pa_nil)))) (pss_one (ps_ret (pe_lst (pa_cons (pe_gi T.WRONG) pa_nil)))) pss_nil)
      (pss_cons (ps_if (pt_cmpR op_eq (pv 2) pe_int (nomark _)) (pss_one (ps_ret (pe_lst (pa_cons (pe_gi T.NOT_THIS_ONE) pa_nil)))) pss_nil)
      (pss_cons (ps_set (i := 4) sc_set_road.nd rfl (Or.inl rfl) (pe_ix ix_list (pe_fld (pv 0) rfl) (pv 2) (fun _ _ => rfl)))
      (pss_cons (ps_asg (pv 3) (pg_sub (pe_fld (pv 0) rfl) (pv 2) set_list))
      (pss_one (ps_ret (pe_lst (pa_cons (pv 4) pa_nil))))))))))), ?_⟩
    have hg1 := o.same _ _ hg
    have hV := o.la
    have hP := o.at_
    refine ⟨_, rfl, g, _, _, _, rfl, rfl, SqL.of hg1, at_of (j := 0) rfl rfl, ?_⟩
    refine ⟨_, rfl, g, _, _, _, rfl, rfl, SqL.of hg1, at_of (j := 1) rfl rfl, ?_⟩
    refine ⟨_, rfl, _, rfl, a, _, _, _, _, v, rfl, hV, _, rfl, iteB (c := !decide (v < L.valley.length)) rfl (fun hp => ?_) (fun hp => ?_)⟩
    . have hno : ¬ v < L.valley.length := by simpa using hp
      refine ⟨(by show 1 <= sizeLine; decide), finC (d' := ⟨L, [], []⟩) (ans := Km462.only (-2)) k o ?_ rfl rfl⟩
      show (if L.valley.length <= v then _ else _) = _
      rw [if_pos (by omega)] <;> rfl
    . have hy : v < L.valley.length := by simpa using hp
      refine ⟨_, rfl, m, rfl, _, rfl, iteB (c := !decide (1 <= m /\ m <= 1000)) rfl (fun hp2 => ?_) (fun hp2 => ?_)⟩
      . have hm : ¬ (1 <= m /\ m <= 1000) := by
          intro z
          rw [decide_eq_true z] at hp2
          cases hp2
        refine ⟨(by show 1 <= sizeLine; decide), finC (d' := ⟨L, [], []⟩) (ans := Km462.only (-22)) k o ?_ rfl rfl⟩
        show (if L.valley.length <= v then _ else if m = 0 \/ 1000 < m then _ else _) = _
        rw [if_neg (by omega), if_pos (by omega)] <;> rfl
      . have hm : 1 <= m /\ m <= 1000 := by simpa using hp2
        refine ⟨_, rfl, rfl, _, rfl, iteB (c := decide (v = 0)) (V.ncast (j := 0)) (fun hp3 => ?_) (fun hp3 => ?_)⟩
        . refine ⟨(by show 1 <= sizeLine; decide), finC (d' := ⟨L, [], []⟩) (ans := Km462.only (-33)) k o ?_ rfl rfl⟩
          show (if L.valley.length <= v then _ else if m = 0 \/ 1000 < m then _ else if v = 0 then _ else _) = _
          rw [if_neg (by omega), if_neg (by omega), if_pos (of_decide_eq_true hp3)] <;> rfl
        . have v0 := of_decide_eq_false hp3
          obtain ⟨nac, nau, nar⟩ := hP.ne
          refine ⟨_, rfl, a, C, dx, _, _, rfl, hP.ins, Z.cl, Z.rd, vf_rd, _, rfl, rd, _, _, _, rfl, rfl, SqL.of hP.rd, atI_nat (roads_at hy), ?_⟩
          refine ⟨_, rfl, _, rfl, a, C, dx, _, _, rfl, hP.ins, Z.cl, Z.rd, vf_rd, _, rfl, rd, _, _, v, rfl, rfl, hP.rd, ixN_nat (by unfold roadsOf; rw [List.length_map]; exact hy), ?_⟩
          have er : (roadsOf L.valley).set v (nv m) = roadsOf (L.valley.set v { at_ L.valley v with long := m }) := by
            unfold roadsOf
            rw [List.map_set]
          rw [er]
          have o3 : Own C H0 (upd H rd (.lst (roadsOf (L.valley.set v { at_ L.valley v with long := m })))) a { L with valley := L.valley.set v { at_ L.valley v with long := m } } dx ch up rd := by
            refine ⟨⟨?_, ?_, ?_, upd_same⟩, o.same.put o.nrd, o.na, o.nch, o.nup, o.nrd, o.cu, o.cr, o.ur⟩
            . rw [upd_ne nar, hP.ins]
              show _ = some (HO.ins C dx (vf ch up rd L.school (setOf (L.valley.set v _).length L.bus) (setOf (L.valley.set v _).length L.posts)))
              rw [List.length_set]
            . rw [upd_ne o.cr, hP.ch]
              unfold many
              rw [List.map_set, set_same (by rw [List.getElem?_map, at_some hy]; rfl)]
            . rw [upd_ne o.ur, hP.up]
              unfold upsOf
              rw [List.map_set, set_same (by rw [List.getElem?_map, at_some hy]; rfl)]
          refine ⟨_, rfl, (by show 1 <= sizeLine; decide), finC (d' := (⟨L, [], []⟩ : Km462.Desk).become { L with valley := L.valley.set v { at_ L.valley v with long := m } }) (ans := Km462.only (((at_ L.valley v).long : Nat) : Int)) k o3 ?_ rfl rfl⟩
          show (if L.valley.length <= v then _ else if m = 0 \/ 1000 < m then _ else if v = 0 then _ else _) = _
          rw [if_neg (by omega), if_neg (by omega), if_neg v0] <;> rfl
end
end VV
namespace VV
open PySem PySem.Spec PyProof.Rows L2
open Km457 (Valley at_)
theorem Own.field {C : Addr} {H0 H : Hp} {a dx ch up rd : Addr} {L L' : Km462.Land} (o : Own C H0 H a L dx ch up rd) (hv : L'.valley = L.valley) {fs : List (Str × V)} (hf : fs = vf ch up rd L'.school (setOf L.valley.length L'.bus) (setOf L.valley.length L'.posts)) : Own C H0 (upd H a (.ins C dx fs)) a L' dx ch up rd := by
  obtain ⟨nac, nau, nar⟩ := o.at_.ne
  refine ⟨⟨by rw [upd_same, hf, hv], ?_, ?_, ?_⟩, o.same.put o.na, o.na, o.nch, o.nup, o.nrd, o.cu, o.cr, o.ur⟩
  . rw [upd_ne nac.symm, hv]; exact o.at_.ch
  . rw [upd_ne nau.symm, hv]; exact o.at_.up
  . rw [upd_ne nar.symm, hv]; exact o.at_.rd
theorem like_ups {s t : Valley} (L : VT.Like s t) : upsOf t = upsOf s := by
  unfold upsOf
  apply List.ext_getElem?
  intro i
  rw [List.getElem?_map, List.getElem?_map]
  by_cases h : i < s.length
  . rw [at_some h, at_some (show i < t.length by rw [L.len]; exact h)]
    show some (nv (at_ t i).up) = some (nv (at_ s i).up)
    rw [L.up]
  . rw [List.getElem?_eq_none (show t.length <= i by rw [L.len]; omega), List.getElem?_eq_none (show s.length <= i by omega)]
theorem like_roads {s t : Valley} (L : VT.Like s t) : roadsOf t = roadsOf s := by
  unfold roadsOf
  apply List.ext_getElem?
  intro i
  rw [List.getElem?_map, List.getElem?_map]
  by_cases h : i < s.length
  . rw [at_some h, at_some (show i < t.length by rw [L.len]; exact h)]
    show some (nv (at_ t i).long) = some (nv (at_ s i).long)
    rw [L.long]
  . rw [List.getElem?_eq_none (show t.length <= i by rw [L.len]; omega), List.getElem?_eq_none (show s.length <= i by omega)]
theorem Own.kids {C : Addr} {H0 H : Hp} {a dx ch up rd : Addr} {L : Km462.Land} {t : Valley} (o : Own C H0 H a L dx ch up rd) (Lk : VT.Like L.valley t) : Own C H0 (upd H ch (.lst (many t))) a { L with valley := t } dx ch up rd := by
  obtain ⟨nac, nau, nar⟩ := o.at_.ne
  refine ⟨⟨?_, upd_same, ?_, ?_⟩, o.same.put o.nch, o.na, o.nch, o.nup, o.nrd, o.cu, o.cr, o.ur⟩
  . rw [upd_ne nac, o.at_.ins]
    show _ = some (HO.ins C dx (vf ch up rd L.school (setOf t.length L.bus) (setOf t.length L.posts)))
    rw [Lk.len]
  . rw [upd_ne o.cu.symm, o.at_.up]
    show _ = some (HO.lst (upsOf t))
    rw [like_ups Lk]
  . rw [upd_ne o.cr.symm, o.at_.rd]
    show _ = some (HO.lst (roadsOf t))
    rw [like_roads Lk]
section
variable {P : Program} {w : World} {K : PySem.W.Frag} {mg : Str -> Option Value} {base : Heap} {C : Addr}
abbrev s_move_child : Stmt := top 98
theorem sc_move_child : FnScope ["valley", "given", "v", "w"] ["valley", "given"] (defScope s_move_child) := ⟨rfl, rfl, rfl, by decide +kernel, rfl, by decide +kernel, by decide +kernel⟩
theorem d_move_child (T : Txt mg) (Z : Vc K C) (F : Fd K mg "move_child" s_move_child) (D_are_there : Dn P w K mg base 3 "are_there" ["valley", "v", "w"] (sp_are_there C)) : Dn P w K mg base 4 "move_child" ["valley", "given"] (sp_chg C 2 (n2 .move)) := by
  refine F.dn sc_move_child (fun _ _ _ _ _ _ us hl => match us, hl with | [_, _], _ => rfl) (fun vs H Q E h => ?_) (fun f cdv A outer s H vs Q E hr h => ?_)
  . obtain ⟨H0, a, L, g, gs, dx, ch, up, rd, rfl, _⟩ := h; rfl
  . obtain ⟨H0, a, L, g, gs, dx, ch, up, rd, rfl, o, O, hg, hn, k⟩ := h
    obtain ⟨v, u, rfl⟩ := ln2 hn
    refine ⟨_, (pss_cons (ps_set (i := 2) sc_move_child.nd rfl (Or.inl rfl) (pe_ix ix_list (pv 1) pe_int (fun _ _ => rfl)))
      (pss_cons (ps_set (i := 3) sc_move_child.nd rfl (Or.inl rfl) (pe_ix ix_list (pv 1) pe_int (fun _ _ => rfl)))
      (pss_cons (ps_if (pt_not (pt_val (pe_dn D_are_there hr (pa_cons (pv 0) (pa_cons (pv 2) (pa_cons (pv 3) pa_nil)))))) (pss_one (ps_ret (pe_lst (pa_cons (pe_gi T.NONE_THERE) pa_nil)))) pss_nil)
      (pss_cons (ps_if (pt_cmpR op_eq (pv 2) (pv 3) (nomark _)) (pss_one (ps_ret (pe_lst (pa_cons (pe_gi T.WRONG) pa_nil)))) pss_nil)
      (pss_cons (ps_if (pt_cmpR op_eq (pe_ix ix_list (pe_fld (pv 0) rfl) (pv 2) (fun _ _ => rfl)) pe_int (nomark _)) (pss_one (ps_ret (pe_lst (pa_cons (pe_gi T.EMPTY) pa_nil)))) pss_nil)
      (pss_cons (ps_if (pt_cmpR op_eq (pe_ix ix_list (pe_fld (pv 0) rfl) (pv 3) (fun _ _ => rfl)) (pe_gi T.MOST_CHILDREN) (nomark _)) (pss_one (ps_ret (pe_lst (pa_cons (pe_gi T.FULL) pa_nil)))) pss_nil)
      (pss_cons (ps_augS (pe_fld (pv 0) rfl) (pv 2) get_list pe_int ip_sub set_list)
      (pss_cons (ps_augS (pe_fld (pv 0) rfl) (pv 3) get_list pe_int ip_add set_list)
      (pss_one (ps_ret (pe_lst (pa_cons (pe_ix ix_list (pe_fld (pv 0) rfl) (pv 2) (fun _ _ => rfl)) (pa_cons (pe_ix ix_list (pe_fld (pv 0) rfl) (pv 3) (fun _ _ => rfl)) pa_nil))))))))))))), ?_⟩
    have hg1 := o.same _ _ hg
    have hV := o.la
    have hP := o.at_
    refine ⟨_, rfl, g, _, _, _, rfl, rfl, SqL.of hg1, at_of (j := 0) rfl rfl, ?_⟩
    refine ⟨_, rfl, g, _, _, _, rfl, rfl, SqL.of hg1, at_of (j := 1) rfl rfl, ?_⟩
    refine ⟨_, rfl, _, rfl, _, rfl, a, _, _, _, _, v, u, rfl, hV, _, rfl, iteB (c := !decide (v < L.valley.length /\ u < L.valley.length)) rfl (fun hp => ?_) (fun hp => ?_)⟩
    . have hno : ¬ (v < L.valley.length /\ u < L.valley.length) := by
        intro z
        rw [decide_eq_true z] at hp
        cases hp
      refine ⟨(by show 1 <= sizeLine; decide), finC (d' := ⟨L, [], []⟩) (ans := Km462.only (-2)) k o ?_ rfl rfl⟩
      show (if L.valley.length <= v \/ L.valley.length <= u then _ else _) = _
      rw [if_pos (by omega)] <;> rfl
    . have hy : v < L.valley.length /\ u < L.valley.length := by simpa using hp
      refine ⟨_, rfl, _, rfl, rfl, _, rfl, iteB (c := decide (v = u)) V.ncast (fun hp2 => ?_) (fun hp2 => ?_)⟩
      . refine ⟨(by show 1 <= sizeLine; decide), finC (d' := ⟨L, [], []⟩) (ans := Km462.only (-22)) k o ?_ rfl rfl⟩
        show (if L.valley.length <= v \/ L.valley.length <= u then _ else if v = u then _ else _) = _
        rw [if_neg (by omega), if_pos (of_decide_eq_true hp2)] <;> rfl
      . have hvu := of_decide_eq_false hp2
        refine ⟨_, rfl, a, C, dx, _, _, rfl, hP.ins, Z.cl, Z.ch, vf_ch, _, rfl, ch, _, _, _, rfl, rfl, SqL.of hP.ch, atI_nat (many_at hy.1), rfl, _, rfl, iteB (c := decide ((at_ L.valley v).many = 0)) (V.ncast (j := 0)) (fun hp3 => ?_) (fun hp3 => ?_)⟩
        . refine ⟨(by show 1 <= sizeLine; decide), finC (d' := ⟨L, [], []⟩) (ans := Km462.only (-6)) k o ?_ rfl rfl⟩
          show (if L.valley.length <= v \/ L.valley.length <= u then _ else if v = u then _ else if Km462.many L.valley v = 0 then _ else _) = _
          rw [if_neg (by omega), if_neg hvu, if_pos (show Km462.many L.valley v = 0 from of_decide_eq_true hp3)] <;> rfl
        . have hm : 0 < (at_ L.valley v).many := by have := of_decide_eq_false hp3; omega
          have hmu := O.good.many u
          refine ⟨_, rfl, a, C, dx, _, _, rfl, hP.ins, Z.cl, Z.ch, vf_ch, _, rfl, ch, _, _, _, rfl, rfl, SqL.of hP.ch, atI_nat (many_at hy.2), rfl, _, rfl, iteB (c := decide ((at_ L.valley u).many = 100)) (V.ncast (j := 100)) (fun hp4 => ?_) (fun hp4 => ?_)⟩
          . refine ⟨(by show 1 <= sizeLine; decide), finC (d' := ⟨L, [], []⟩) (ans := Km462.only (-28)) k o ?_ rfl rfl⟩
            have h4 := of_decide_eq_true hp4
            show (if L.valley.length <= v \/ L.valley.length <= u then _ else if v = u then _ else if Km462.many L.valley v = 0 then _ else if 100 <= Km462.many L.valley u then _ else _) = _
            rw [if_neg (by omega), if_neg hvu, if_neg (show ¬ Km462.many L.valley v = 0 from of_decide_eq_false hp3), if_pos (show 100 <= Km462.many L.valley u from Nat.le_of_eq h4.symm)] <;> rfl
          . have h4 := of_decide_eq_false hp4
            refine ⟨_, rfl, a, C, dx, _, _, rfl, hP.ins, Z.cl, Z.ch, vf_ch, _, rfl, ch, _, v, _, rfl, rfl, SqL.of hP.ch, many_at hy.1, _, _, rfl, rfl, ch, _, _, v, rfl, rfl, hP.ch, ixN_nat (by rw [many_len]; exact hy.1), ?_⟩
            have e1 : ((at_ L.valley v).many : Int) - 1 = ((Km462.many L.valley v - 1 : Nat) : Int) := by unfold Km462.many; omega
            have e2 : (many L.valley).set v (V.int (((at_ L.valley v).many : Int) - 1)) = many (L.valley.set v { at_ L.valley v with many := Km462.many L.valley v - 1 }) := by rw [e1]; exact many_set L.valley v _
            rw [e2]
            have o1 := o.kids ((VT.Like.refl L.valley).set v (Km462.many L.valley v - 1))
            have hP1 := o1.at_
            refine ⟨_, rfl, a, C, dx, _, _, rfl, hP1.ins, Z.cl, Z.ch, vf_ch, _, rfl, ch, _, u, _, rfl, rfl, SqL.of hP1.ch, many_at (by rw [List.length_set]; exact hy.2), _, _, rfl, rfl, ch, _, _, u, rfl, rfl, hP1.ch, ixN_nat (by rw [many_len, List.length_set]; exact hy.2), ?_⟩
            have e3 : (many (L.valley.set v { at_ L.valley v with many := Km462.many L.valley v - 1 })).set u (V.int (((at_ (L.valley.set v { at_ L.valley v with many := Km462.many L.valley v - 1 }) u).many : Int) + 1)) = many (Km462.lied L.valley v u) := many_set _ u (Km462.many (L.valley.set v { at_ L.valley v with many := Km462.many L.valley v - 1 }) u + 1)
            rw [e3]
            rw [upd_upd]
            have o2 := o.kids (VT.like_lied L.valley v u)
            have hP2 := o2.at_
            have ll := (VT.like_lied L.valley v u).len
            have mv : (at_ (Km462.lied L.valley v u) v).many = Km462.many L.valley v - 1 := by
              unfold Km462.lied
              rw [VT.at_set, if_neg (by intro z; exact hvu z.1.symm), VT.at_set, if_pos ⟨rfl, hy.1⟩]
            have mu : (at_ (Km462.lied L.valley v u) u).many = Km462.many L.valley u + 1 := by
              unfold Km462.lied
              rw [VT.at_set, if_pos ⟨rfl, by rw [List.length_set]; exact hy.2⟩]
              show Km462.many (L.valley.set v _) u + 1 = _
              unfold Km462.many
              rw [VT.at_set, if_neg (by intro z; exact hvu z.1)]
            refine ⟨_, rfl, a, C, dx, _, _, rfl, hP2.ins, Z.cl, Z.ch, vf_ch, _, rfl, ch, _, _, _, rfl, rfl, SqL.of hP2.ch, atI_nat (many_at (by rw [ll]; exact hy.1)), _, rfl, a, C, dx, _, _, rfl, hP2.ins, Z.cl, Z.ch, vf_ch, _, rfl, ch, _, _, _, rfl, rfl, SqL.of hP2.ch, atI_nat (many_at (by rw [ll]; exact hy.2)), (by show 2 <= sizeLine; decide), finC (d' := (⟨L, [], []⟩ : Km462.Desk).become { L with valley := Km462.lied L.valley v u }) (ans := ⟨((Km462.many L.valley v - 1 : Nat) : Int), [Km462.many L.valley u + 1]⟩) k o2 ?_ rfl ?_⟩
            . show (if L.valley.length <= v \/ L.valley.length <= u then _ else if v = u then _ else if Km462.many L.valley v = 0 then _ else if 100 <= Km462.many L.valley u then _ else _) = _
              rw [if_neg (by omega), if_neg hvu, if_neg (show ¬ Km462.many L.valley v = 0 from of_decide_eq_false hp3), if_neg (show ¬ 100 <= Km462.many L.valley u by unfold Km462.many; omega)] <;> rfl
            . show [nv (at_ (Km462.lied L.valley v u) v).many, nv (at_ (Km462.lied L.valley v u) u).many] = _
              rw [mv, mu]; rfl
abbrev s_elect_school : Stmt := top 99
theorem sc_elect_school : FnScope ["valley", "given", "before", "wanted"] ["valley", "given"] (defScope s_elect_school) := ⟨rfl, rfl, rfl, by decide +kernel, rfl, by decide +kernel, by decide +kernel⟩
theorem d_elect_school (T : Txt mg) (Z : Vc K C) (F : Fd K mg "elect_school" s_elect_school) (D_chosen : Dn P w K mg base 5 "chosen" ["valley", "children"] (sp_chosen C)) : Dn P w K mg base 6 "elect_school" ["valley", "given"] (sp_chg C 0 fun _ => .elect) := by
  refine F.dn sc_elect_school (fun _ _ _ _ _ _ us hl => match us, hl with | [_, _], _ => rfl) (fun vs H Q E h => ?_) (fun f cdv A outer s H vs Q E hr h => ?_)
  . obtain ⟨H0, a, L, g, gs, dx, ch, up, rd, rfl, _⟩ := h; rfl
  . obtain ⟨H0, a, L, g, gs, dx, ch, up, rd, rfl, o, O, hg, hn, k⟩ := h
    refine ⟨_, (pss_cons (ps_if (pt_cmpR op_eq (pe_callB (cr_sum rfl) rfl T.sum boot_sum (pa_cons (pe_fld (pv 0) rfl) pa_nil)) pe_int (nomark _)) (pss_one (ps_ret (pe_lst (pa_cons (pe_gi T.EMPTY) pa_nil)))) pss_nil)
      (pss_cons (ps_set (i := 2) sc_elect_school.nd rfl (Or.inl rfl) (pe_fld (pv 0) rfl))
      (pss_cons (ps_set (i := 3) sc_elect_school.nd rfl (Or.inl rfl) (pe_dn D_chosen hr (pa_cons (pv 0) (pa_cons (pe_fld (pv 0) rfl) pa_nil))))
      (pss_cons (ps_if (pt_cmpR op_eq (pv 3) (pv 2) (nomark _)) (pss_one (ps_ret (pe_lst (pa_cons (pe_gi T.SO_ALREADY) pa_nil)))) pss_nil)
      (pss_cons (ps_fld (pv 0) (pv 3) rfl)
      (pss_one (ps_ret (pe_lst (pa_cons (pv 3) (pa_cons (pv 2) pa_nil)))))))))), ?_⟩
    have hV := o.la
    have hP := o.at_
    refine ⟨_, rfl, a, C, dx, _, _, rfl, hP.ins, Z.cl, Z.ch, vf_ch, ?_⟩
    delta tNil
    refine sumq (l := L.valley) (f := fun x => x.many) hP.ch ?_
    rw [sum_many]
    refine ⟨rfl, _, rfl, iteB (c := decide (Km457.total L.valley = 0)) (V.ncast (j := 0)) (fun hp => ?_) (fun hp => ?_)⟩
    . refine ⟨(by show 1 <= sizeLine; decide), finC (d' := ⟨L, [], []⟩) (ans := Km462.only (-6)) k o ?_ rfl rfl⟩
      show (if Km457.total L.valley = 0 then _ else _) = _
      rw [if_pos (of_decide_eq_true hp)] <;> rfl
    . refine ⟨_, rfl, a, C, dx, _, _, rfl, hP.ins, Z.cl, Z.sc, vf_sc, ?_⟩
      refine ⟨_, rfl, _, rfl, a, C, dx, _, _, rfl, hP.ins, Z.cl, Z.ch, vf_ch, a, _, _, _, _, ch, L.valley, rfl, hV, O.good, hP.ch, VT.Like.refl _, fun H1 s1 => ?_⟩
      have o1 := o.grow s1
      refine ⟨_, rfl, _, rfl, rfl, _, rfl, iteB (c := decide (Km462.chosen L.valley = L.school)) V.ncast (fun hp2 => ?_) (fun hp2 => ?_)⟩
      . refine ⟨(by show 1 <= sizeLine; decide), finC (d' := ⟨L, [], []⟩) (ans := Km462.only (-17)) k o1 ?_ rfl rfl⟩
        show (if Km457.total L.valley = 0 then _ else if Km462.chosen L.valley = L.school then _ else _) = _
        rw [if_neg (of_decide_eq_false hp), if_pos (of_decide_eq_true hp2)] <;> rfl
      . refine ⟨_, rfl, _, rfl, a, C, dx, _, rfl, o1.at_.ins, Z.cl, Z.sc, (by show 6 < 1000; decide), ?_⟩
        have o2 := o1.field (L' := { L with school := Km462.chosen L.valley }) rfl (fs := putF "school" (nv (Km462.chosen L.valley)) (vf ch up rd L.school (setOf L.valley.length L.bus) (setOf L.valley.length L.posts))) rfl
        refine ⟨_, rfl, _, rfl, (by show 2 <= sizeLine; decide), finC (d' := (⟨L, [], []⟩ : Km462.Desk).become { L with school := Km462.chosen L.valley }) (ans := ⟨((Km462.chosen L.valley : Nat) : Int), [L.school]⟩) k o2 ?_ rfl rfl⟩
        show (if Km457.total L.valley = 0 then _ else if Km462.chosen L.valley = L.school then _ else _) = _
        rw [if_neg (of_decide_eq_false hp), if_neg (of_decide_eq_false hp2)] <;> rfl
abbrev s_set_school : Stmt := top 100
theorem sc_set_school : FnScope ["valley", "given", "v", "before"] ["valley", "given"] (defScope s_set_school) := ⟨rfl, rfl, rfl, by decide +kernel, rfl, by decide +kernel, by decide +kernel⟩
theorem d_set_school (T : Txt mg) (Z : Vc K C) (F : Fd K mg "set_school" s_set_school) (D_is_there : Dn P w K mg base 2 "is_there" ["valley", "v"] (sp_is_there C)) : Dn P w K mg base 3 "set_school" ["valley", "given"] (sp_chg C 1 (n1 .school)) := by
  refine F.dn sc_set_school (fun _ _ _ _ _ _ us hl => match us, hl with | [_, _], _ => rfl) (fun vs H Q E h => ?_) (fun f cdv A outer s H vs Q E hr h => ?_)
  . obtain ⟨H0, a, L, g, gs, dx, ch, up, rd, rfl, _⟩ := h; rfl
  . obtain ⟨H0, a, L, g, gs, dx, ch, up, rd, rfl, o, O, hg, hn, k⟩ := h
    obtain ⟨v, rfl⟩ := ln1 hn
    refine ⟨_, (pss_cons (ps_set (i := 2) sc_set_school.nd rfl (Or.inl rfl) (pe_ix ix_list (pv 1) pe_int (fun _ _ => rfl)))
      (pss_cons (ps_if (pt_not (pt_val (pe_dn D_is_there hr (pa_cons (pv 0) (pa_cons (pv 2) pa_nil))))) (pss_one (ps_ret (pe_lst (pa_cons (pe_gi T.NONE_THERE) pa_nil)))) pss_nil)
      (pss_cons (ps_set (i := 3) sc_set_school.nd rfl (Or.inl rfl) (pe_fld (pv 0) rfl))
      (pss_cons (ps_if (pt_cmpR op_eq (pv 2) (pv 3) (nomark _)) (pss_one (ps_ret (pe_lst (pa_cons (pe_gi T.SO_ALREADY) pa_nil)))) pss_nil)
      (pss_cons (ps_fld (pv 0) (pv 2) rfl)
      (pss_one (ps_ret (pe_lst (pa_cons (pv 3) pa_nil))))))))), ?_⟩
    have hg1 := o.same _ _ hg
    have hV := o.la
    have hP := o.at_
    refine ⟨_, rfl, g, _, _, _, rfl, rfl, SqL.of hg1, at_of (j := 0) rfl rfl, ?_⟩
    refine ⟨_, rfl, _, rfl, a, _, _, _, _, v, rfl, hV, _, rfl, iteB (c := !decide (v < L.valley.length)) rfl (fun hp => ?_) (fun hp => ?_)⟩
    . have hno : ¬ v < L.valley.length := by simpa using hp
      refine ⟨(by show 1 <= sizeLine; decide), finC (d' := ⟨L, [], []⟩) (ans := Km462.only (-2)) k o ?_ rfl rfl⟩
      show (if L.valley.length <= v then _ else _) = _
      rw [if_pos (by omega)] <;> rfl
    . have hy : v < L.valley.length := by simpa using hp
      refine ⟨_, rfl, a, C, dx, _, _, rfl, hP.ins, Z.cl, Z.sc, vf_sc, ?_⟩
      refine ⟨_, rfl, _, rfl, rfl, _, rfl, iteB (c := decide (v = L.school)) V.ncast (fun hp2 => ?_) (fun hp2 => ?_)⟩
      . refine ⟨(by show 1 <= sizeLine; decide), finC (d' := ⟨L, [], []⟩) (ans := Km462.only (-17)) k o ?_ rfl rfl⟩
        show (if L.valley.length <= v then _ else if L.school = v then _ else _) = _
        rw [if_neg (by omega), if_pos (of_decide_eq_true hp2).symm] <;> rfl
      . refine ⟨_, rfl, _, rfl, a, C, dx, _, rfl, hP.ins, Z.cl, Z.sc, (by show 6 < 1000; decide), ?_⟩
        have o2 := o.field (L' := { L with school := v }) rfl (fs := putF "school" (nv v) (vf ch up rd L.school (setOf L.valley.length L.bus) (setOf L.valley.length L.posts))) rfl
        refine ⟨_, rfl, (by show 1 <= sizeLine; decide), finC (d' := (⟨L, [], []⟩ : Km462.Desk).become { L with school := v }) (ans := Km462.only ((L.school : Nat) : Int)) k o2 ?_ rfl rfl⟩
        show (if L.valley.length <= v then _ else if L.school = v then _ else _) = _
        rw [if_neg (by omega), if_neg (fun z => of_decide_eq_false hp2 z.symm)] <;> rfl
end
end VV
namespace VV
open PySem PySem.Spec PyProof.Rows L2
open Km457 (Valley at_)
def refus (n g v o : Nat) : List V := if n <= v then [.int (-2)] else if 1 < o then [.int (-22)] else if g.testBit v = (o == 1) then [.int (-17)] else []
def sp_switch_refusal (C : Addr) : Sp := fun vs H Q _ => ∃ a s c b p, ∃ (g : Nat) (q0 : Addr) (v o : Nat), vs = [.ref a, nv g, .ref q0] /\ VA C H a s c b p /\ H q0 = some (.lst [nv v, nv o]) /\ ∀ H' q, Same H H' -> H q = none -> H' q = some (.lst (refus s.length g v o)) -> Q (.ref q) H'
def swit (g v o : Nat) : Nat := if o = 1 then g ||| 2 ^ v else g - (g &&& 2 ^ v)
def sp_switched : Sp := fun vs H Q _ => ∃ (g : Nat) (q0 : Addr) (v o : Nat), vs = [nv g, .ref q0] /\ H q0 = some (.lst [nv v, nv o]) /\ v <= 1000 /\ Q (nv (swit g v o)) H
theorem put_canon {s : Valley} {l : List Nat} (hl : l = (List.range s.length).filter l.contains) (v o : Nat) : Km462.put l s v o = (List.range s.length).filter (Km462.put l s v o).contains := by
  unfold Km462.put
  by_cases e : o = 1
  . rw [if_pos e]
    unfold Km457.all
    apply List.filter_congr
    intro x hx
    have hx' : x < s.length := by simpa using hx
    rw [Bool.eq_iff_iff]
    simp [hx']
  . rw [if_neg e]
    exact canon_filter hl _
theorem put_swit {s : Valley} {l : List Nat} {v o : Nat} (hv : v < s.length) : swit (setOf s.length l) v o = setOf s.length (Km462.put l s v o) := by
  unfold swit Km462.put
  by_cases e : o = 1
  . rw [if_pos e, if_pos e]
    unfold setOf Km457.all
    rw [VT.mask_one hv, VT.mask_or]
    apply VT.mask_congr
    intro x hx
    rw [Bool.eq_iff_iff]
    simp [hx]
  . rw [if_neg e, if_neg e]
    exact set_but hv
section
variable {P : Program} {w : World} {K : PySem.W.Frag} {mg : Str -> Option Value} {base : Heap} {C : Addr}
abbrev s_switch_refusal : Stmt := top 101
theorem sc_switch_refusal : FnScope ["valley", "group", "given", "v", "switch"] ["valley", "group", "given"] (defScope s_switch_refusal) := ⟨rfl, rfl, rfl, by decide +kernel, rfl, by decide +kernel, by decide +kernel⟩
theorem d_switch_refusal (T : Txt mg) (F : Fd K mg "switch_refusal" s_switch_refusal) (D_is_there : Dn P w K mg base 2 "is_there" ["valley", "v"] (sp_is_there C)) (D_holds : Dn P w K mg base 1 "holds" ["group", "v"] sp_holds) : Dn P w K mg base 3 "switch_refusal" ["valley", "group", "given"] (sp_switch_refusal C) := by
  refine F.dn sc_switch_refusal (fun _ _ _ _ _ _ us hl => match us, hl with | [_, _, _], _ => rfl) (fun vs H Q E h => ?_) (fun f cdv A outer s H vs Q E hr h => ?_)
  . obtain ⟨a, s, c, b, p, g, q0, v, o, rfl, _⟩ := h; rfl
  . obtain ⟨a, s, c, b, p, g, q0, v, o, rfl, hV, hq, k⟩ := h
    refine ⟨_, (pss_cons (ps_set (i := 3) sc_switch_refusal.nd rfl (Or.inl rfl) (pe_ix ix_list (pv 2) pe_int (fun _ _ => rfl)))
      (pss_cons (ps_set (i := 4) sc_switch_refusal.nd rfl (Or.inl rfl) (pe_ix ix_list (pv 2) pe_int (fun _ _ => rfl)))
      (pss_cons (ps_if (pt_not (pt_val (pe_dn D_is_there hr (pa_cons (pv 0) (pa_cons (pv 3) pa_nil))))) (pss_one (ps_ret (pe_lst (pa_cons (pe_gi T.NONE_THERE) pa_nil)))) pss_nil)
      (pss_cons (ps_if (pt_cmpR op_gt (pv 4) pe_int (nomark _)) (pss_one (ps_ret (pe_lst (pa_cons (pe_gi T.WRONG) pa_nil)))) pss_nil)
      (pss_cons (ps_if (pt_cmpR op_eq (pe_dn D_holds hr (pa_cons (pv 1) (pa_cons (pv 3) pa_nil))) (pe_cmpR op_eq (pv 4) pe_int (nomark _)) (nomark _)) (pss_one (ps_ret (pe_lst (pa_cons (pe_gi T.SO_ALREADY) pa_nil)))) pss_nil)
      (pss_one (ps_ret (pe_lst pa_nil)))))))), ?_⟩
    unfold refus at k
    refine ⟨_, rfl, q0, _, _, _, rfl, rfl, SqL.of hq, at_of (j := 0) rfl rfl, ?_⟩
    refine ⟨_, rfl, q0, _, _, _, rfl, rfl, SqL.of hq, at_of (j := 1) rfl rfl, ?_⟩
    refine ⟨_, rfl, _, rfl, a, _, _, _, _, v, rfl, hV, _, rfl, iteB (c := !decide (v < s.length)) rfl (fun hp => ?_) (fun hp => ?_)⟩
    . have hno : ¬ v < s.length := by simpa using hp
      rw [if_pos (by omega)] at k
      exact ⟨(by show 1 <= sizeLine; decide), fin k (Same.refl _) rfl⟩
    . have hy : v < s.length := by simpa using hp
      rw [if_neg (by omega)] at k
      refine ⟨_, rfl, _, _, rfl, rfl, _, rfl, iteB (c := decide (1 < o)) (ilt (i := 1)) (fun hp2 => ?_) (fun hp2 => ?_)⟩
      . rw [if_pos (of_decide_eq_true hp2)] at k
        exact ⟨(by show 1 <= sizeLine; decide), fin k (Same.refl _) rfl⟩
      . rw [if_neg (of_decide_eq_false hp2)] at k
        refine ⟨_, rfl, _, rfl, g, v, rfl, _, rfl, rfl, rfl, _, rfl, iteB (c := decide (g.testBit v = (o == 1))) ?_ (fun hp3 => ?_) (fun hp3 => ?_)⟩
        . show decide (V.bl (g.testBit v) = V.bl (decide (V.int (o : Int) = V.int 1))) = _
          have e1 : decide (V.int (o : Int) = V.int 1) = (o == 1) := by
            have e0 : decide (V.int (o : Int) = V.int 1) = decide (o = 1) := V.ncast (j := 1)
            rw [e0]
            by_cases e : o = 1
            . simp [e]
            . simp [e]
          rw [e1, dec_bl, Bool.beq_eq_decide_eq]
        . rw [if_pos (of_decide_eq_true hp3)] at k
          exact ⟨(by show 1 <= sizeLine; decide), fin k (Same.refl _) rfl⟩
        . rw [if_neg (of_decide_eq_false hp3)] at k
          exact ⟨Nat.zero_le _, fin k (Same.refl _) rfl⟩
abbrev s_switched : Stmt := top 102
theorem sc_switched : FnScope ["group", "given"] ["group", "given"] (defScope s_switched) := ⟨rfl, rfl, rfl, by decide +kernel, rfl, by decide +kernel, by decide +kernel⟩
theorem d_switched (F : Fd K mg "switched" s_switched) (D_one : Dn P w K mg base 1 "one" ["v"] sp_one) (D_without : Dn P w K mg base 1 "without" ["group", "others"] sp_without) : Dn P w K mg base 2 "switched" ["group", "given"] sp_switched := by
  refine F.dn sc_switched (fun _ _ _ _ _ _ us hl => match us, hl with | [_, _], _ => rfl) (fun vs H Q E h => ?_) (fun f cdv A outer s H vs Q E hr h => ?_)
  . obtain ⟨g, q0, v, o, rfl, _⟩ := h; rfl
  . obtain ⟨g, q0, v, o, rfl, hq, hv, k⟩ := h
    refine ⟨_, (pss_cons (ps_if (pt_cmpR op_eq (pe_ix ix_list (pv 1) pe_int (fun _ _ => rfl)) pe_int (nomark _)) (pss_one (ps_ret (pe_op op_or (pv 0) (pe_dn D_one hr (pa_cons (pe_ix ix_list (pv 1) pe_int (fun _ _ => rfl)) pa_nil))))) pss_nil)
      (pss_one (ps_ret (pe_dn D_without hr (pa_cons (pv 0) (pa_cons (pe_dn D_one hr (pa_cons (pe_ix ix_list (pv 1) pe_int (fun _ _ => rfl)) pa_nil)) pa_nil)))))), ?_⟩
    unfold swit at k
    refine ⟨_, rfl, q0, _, _, _, rfl, rfl, SqL.of hq, at_of (j := 1) rfl rfl, rfl, _, rfl, iteB (c := decide (o = 1)) (V.ncast (j := 1)) (fun hp => ?_) (fun hp => ?_)⟩
    . rw [if_pos (of_decide_eq_true hp)] at k
      exact ⟨_, rfl, _, rfl, q0, _, _, _, rfl, rfl, SqL.of hq, at_of (j := 0) rfl rfl, v, rfl, hv, _, _, rfl, rfl, cv k (congrArg V.int (bor _ _))⟩
    . rw [if_neg (of_decide_eq_false hp)] at k
      exact ⟨_, rfl, _, rfl, q0, _, _, _, rfl, rfl, SqL.of hq, at_of (j := 0) rfl rfl, v, rfl, hv, _, _, rfl, k⟩
abbrev s_set_riding : Stmt := top 103
theorem sc_set_riding : FnScope ["valley", "given", "refusal"] ["valley", "given"] (defScope s_set_riding) := ⟨rfl, rfl, rfl, by decide +kernel, rfl, by decide +kernel, by decide +kernel⟩
theorem d_set_riding (T : Txt mg) (Z : Vc K C) (F : Fd K mg "set_riding" s_set_riding) (D_switch_refusal : Dn P w K mg base 3 "switch_refusal" ["valley", "group", "given"] (sp_switch_refusal C)) (D_switched : Dn P w K mg base 2 "switched" ["group", "given"] sp_switched) (D_size : Dn P w K mg base 1 "size" ["group"] sp_size) : Dn P w K mg base 4 "set_riding" ["valley", "given"] (sp_chg C 2 (n2 .bus)) := by
  refine F.dn sc_set_riding (fun _ _ _ _ _ _ us hl => match us, hl with | [_, _], _ => rfl) (fun vs H Q E h => ?_) (fun f cdv A outer s H vs Q E hr h => ?_)
  . obtain ⟨H0, a, L, g, gs, dx, ch, up, rd, rfl, _⟩ := h; rfl
  . obtain ⟨H0, a, L, g, gs, dx, ch, up, rd, rfl, o, O, hg, hn, k⟩ := h
    obtain ⟨v, u, rfl⟩ := ln2 hn
    refine ⟨_, (pss_cons (ps_set (i := 2) sc_set_riding.nd rfl (Or.inl rfl) (pe_dn D_switch_refusal hr (pa_cons (pv 0) (pa_cons (pe_fld (pv 0) rfl) (pa_cons (pv 1) pa_nil)))))
      (pss_cons (ps_if (pt_cmpR op_gt (pe_callB call_len_seq rfl T.len PySem.boot_len (pa_cons (pv 2) pa_nil)) pe_int (nomark _)) (pss_one (ps_ret (pv 2))) pss_nil)
      (pss_cons (ps_fld (pv 0) (pe_dn D_switched hr (pa_cons (pe_fld (pv 0) rfl) (pa_cons (pv 1) pa_nil))) rfl)
      (pss_one (ps_ret (pe_lst (pa_cons (pe_dn D_size hr (pa_cons (pe_fld (pv 0) rfl) pa_nil)) pa_nil))))))), ?_⟩
    have hg1 := o.same _ _ hg
    have hP := o.at_
    have hlen := O.good.len
    have eact : Km462.act ⟨L, [], []⟩ (.bus v u) = if L.valley.length <= v then (⟨L, [], []⟩, Km462.only (-2)) else if 1 < u then (⟨L, [], []⟩, Km462.only (-22)) else if L.bus.contains v = (u == 1) then (⟨L, [], []⟩, Km462.only (-17)) else ((⟨L, [], []⟩ : Km462.Desk).become { L with bus := Km462.put L.bus L.valley v u }, Km462.only (((Km462.put L.bus L.valley v u).length : Nat) : Int)) := rfl
    refine ⟨_, rfl, _, rfl, a, C, dx, _, _, rfl, hP.ins, Z.cl, Z.ri, vf_ri, _, rfl, a, _, _, _, _, _, g, v, u, rfl, o.la, hg1, fun H1 q s1 hq hr1 => ?_⟩
    have o1 := o.grow s1
    have hP1 := o1.at_
    have hg2 := s1 _ _ hg1
    by_cases h1 : L.valley.length <= v
    . rw [if_pos h1] at eact
      unfold refus at hr1
      rw [if_pos h1] at hr1
      refine ⟨_, rfl, q, _, rfl, .inl (SqL.of hr1), _, _, rfl, rfl, _, rfl, iteT ⟨_, rfl, k _ q dx ch up rd ?_ (o.same.free hq) ?_⟩⟩
      . show Own C H0 H1 a (Km462.act ⟨L, [], []⟩ (.bus v u)).1.now dx ch up rd
        rw [eact]; exact o1
      . rw [hr1]
        show _ = some (HO.lst ((Km462Neutral.told (Km462.act ⟨L, [], []⟩ (.bus v u)).2).map V.int))
        rw [eact]; rfl
    . rw [if_neg h1] at eact
      unfold refus at hr1
      rw [if_neg h1] at hr1
      by_cases h2 : 1 < u
      . rw [if_pos h2] at eact hr1
        refine ⟨_, rfl, q, _, rfl, .inl (SqL.of hr1), _, _, rfl, rfl, _, rfl, iteT ⟨_, rfl, k _ q dx ch up rd ?_ (o.same.free hq) ?_⟩⟩
        . show Own C H0 H1 a (Km462.act ⟨L, [], []⟩ (.bus v u)).1.now dx ch up rd
          rw [eact]; exact o1
        . rw [hr1]
          show _ = some (HO.lst ((Km462Neutral.told (Km462.act ⟨L, [], []⟩ (.bus v u)).2).map V.int))
          rw [eact]; rfl
      . rw [if_neg h2] at eact hr1
        have hy : v < L.valley.length := by omega
        rw [setOf_bit hy] at hr1
        by_cases h3 : L.bus.contains v = (u == 1)
        . rw [if_pos h3] at eact hr1
          refine ⟨_, rfl, q, _, rfl, .inl (SqL.of hr1), _, _, rfl, rfl, _, rfl, iteT ⟨_, rfl, k _ q dx ch up rd ?_ (o.same.free hq) ?_⟩⟩
          . show Own C H0 H1 a (Km462.act ⟨L, [], []⟩ (.bus v u)).1.now dx ch up rd
            rw [eact]; exact o1
          . rw [hr1]
            show _ = some (HO.lst ((Km462Neutral.told (Km462.act ⟨L, [], []⟩ (.bus v u)).2).map V.int))
            rw [eact]; rfl
        . rw [if_neg h3] at eact hr1
          refine ⟨_, rfl, q, _, rfl, .inl (SqL.of hr1), _, _, rfl, rfl, _, rfl, iteF ?_⟩
          refine ⟨_, rfl, a, C, dx, _, _, rfl, hP1.ins, Z.cl, Z.ri, vf_ri, _, rfl, _, g, v, u, rfl, hg2, by omega, _, rfl, a, C, dx, _, rfl, hP1.ins, Z.cl, Z.ri, (by show 6 < 1000; decide), ?_⟩
          rw [put_swit hy]
          have o2 := o1.field (L' := { L with bus := Km462.put L.bus L.valley v u }) rfl (fs := putF "riding" (nv (setOf L.valley.length (Km462.put L.bus L.valley v u))) (vf ch up rd L.school (setOf L.valley.length L.bus) (setOf L.valley.length L.posts))) rfl
          have hP2 := o2.at_
          refine ⟨_, rfl, a, C, dx, _, _, rfl, hP2.ins, Z.cl, Z.ri, vf_ri, _, rfl, (by show 1 <= sizeLine; decide), finC k o2 eact rfl ?_⟩
          show [nv (VT.pop (setOf L.valley.length (Km462.put L.bus L.valley v u)))] = [nv (Km462.put L.bus L.valley v u).length]
          rw [pop_setOf (put_canon O.bus v u)]
abbrev s_set_post : Stmt := top 104
theorem sc_set_post : FnScope ["valley", "given", "refusal"] ["valley", "given"] (defScope s_set_post) := ⟨rfl, rfl, rfl, by decide +kernel, rfl, by decide +kernel, by decide +kernel⟩
theorem d_set_post (T : Txt mg) (Z : Vc K C) (F : Fd K mg "set_post" s_set_post) (D_switch_refusal : Dn P w K mg base 3 "switch_refusal" ["valley", "group", "given"] (sp_switch_refusal C)) (D_switched : Dn P w K mg base 2 "switched" ["group", "given"] sp_switched) (D_size : Dn P w K mg base 1 "size" ["group"] sp_size) : Dn P w K mg base 4 "set_post" ["valley", "given"] (sp_chg C 2 (n2 .post)) := by
  refine F.dn sc_set_post (fun _ _ _ _ _ _ us hl => match us, hl with | [_, _], _ => rfl) (fun vs H Q E h => ?_) (fun f cdv A outer s H vs Q E hr h => ?_)
  . obtain ⟨H0, a, L, g, gs, dx, ch, up, rd, rfl, _⟩ := h; rfl
  . obtain ⟨H0, a, L, g, gs, dx, ch, up, rd, rfl, o, O, hg, hn, k⟩ := h
    obtain ⟨v, u, rfl⟩ := ln2 hn
    refine ⟨_, (pss_cons (ps_set (i := 2) sc_set_post.nd rfl (Or.inl rfl) (pe_dn D_switch_refusal hr (pa_cons (pv 0) (pa_cons (pe_fld (pv 0) rfl) (pa_cons (pv 1) pa_nil)))))
      (pss_cons (ps_if (pt_cmpR op_gt (pe_callB call_len_seq rfl T.len PySem.boot_len (pa_cons (pv 2) pa_nil)) pe_int (nomark _)) (pss_one (ps_ret (pv 2))) pss_nil)
      (pss_cons (ps_fld (pv 0) (pe_dn D_switched hr (pa_cons (pe_fld (pv 0) rfl) (pa_cons (pv 1) pa_nil))) rfl)
      (pss_one (ps_ret (pe_lst (pa_cons (pe_dn D_size hr (pa_cons (pe_fld (pv 0) rfl) pa_nil)) pa_nil))))))), ?_⟩
    have hg1 := o.same _ _ hg
    have hP := o.at_
    have hlen := O.good.len
    have eact : Km462.act ⟨L, [], []⟩ (.post v u) = if L.valley.length <= v then (⟨L, [], []⟩, Km462.only (-2)) else if 1 < u then (⟨L, [], []⟩, Km462.only (-22)) else if L.posts.contains v = (u == 1) then (⟨L, [], []⟩, Km462.only (-17)) else ((⟨L, [], []⟩ : Km462.Desk).become { L with posts := Km462.put L.posts L.valley v u }, Km462.only (((Km462.put L.posts L.valley v u).length : Nat) : Int)) := rfl
    refine ⟨_, rfl, _, rfl, a, C, dx, _, _, rfl, hP.ins, Z.cl, Z.po, vf_po, _, rfl, a, _, _, _, _, _, g, v, u, rfl, o.la, hg1, fun H1 q s1 hq hr1 => ?_⟩
    have o1 := o.grow s1
    have hP1 := o1.at_
    have hg2 := s1 _ _ hg1
    by_cases h1 : L.valley.length <= v
    . rw [if_pos h1] at eact
      unfold refus at hr1
      rw [if_pos h1] at hr1
      refine ⟨_, rfl, q, _, rfl, .inl (SqL.of hr1), _, _, rfl, rfl, _, rfl, iteT ⟨_, rfl, k _ q dx ch up rd ?_ (o.same.free hq) ?_⟩⟩
      . show Own C H0 H1 a (Km462.act ⟨L, [], []⟩ (.post v u)).1.now dx ch up rd
        rw [eact]; exact o1
      . rw [hr1]
        show _ = some (HO.lst ((Km462Neutral.told (Km462.act ⟨L, [], []⟩ (.post v u)).2).map V.int))
        rw [eact]; rfl
    . rw [if_neg h1] at eact
      unfold refus at hr1
      rw [if_neg h1] at hr1
      by_cases h2 : 1 < u
      . rw [if_pos h2] at eact hr1
        refine ⟨_, rfl, q, _, rfl, .inl (SqL.of hr1), _, _, rfl, rfl, _, rfl, iteT ⟨_, rfl, k _ q dx ch up rd ?_ (o.same.free hq) ?_⟩⟩
        . show Own C H0 H1 a (Km462.act ⟨L, [], []⟩ (.post v u)).1.now dx ch up rd
          rw [eact]; exact o1
        . rw [hr1]
          show _ = some (HO.lst ((Km462Neutral.told (Km462.act ⟨L, [], []⟩ (.post v u)).2).map V.int))
          rw [eact]; rfl
      . rw [if_neg h2] at eact hr1
        have hy : v < L.valley.length := by omega
        rw [setOf_bit hy] at hr1
        by_cases h3 : L.posts.contains v = (u == 1)
        . rw [if_pos h3] at eact hr1
          refine ⟨_, rfl, q, _, rfl, .inl (SqL.of hr1), _, _, rfl, rfl, _, rfl, iteT ⟨_, rfl, k _ q dx ch up rd ?_ (o.same.free hq) ?_⟩⟩
          . show Own C H0 H1 a (Km462.act ⟨L, [], []⟩ (.post v u)).1.now dx ch up rd
            rw [eact]; exact o1
          . rw [hr1]
            show _ = some (HO.lst ((Km462Neutral.told (Km462.act ⟨L, [], []⟩ (.post v u)).2).map V.int))
            rw [eact]; rfl
        . rw [if_neg h3] at eact hr1
          refine ⟨_, rfl, q, _, rfl, .inl (SqL.of hr1), _, _, rfl, rfl, _, rfl, iteF ?_⟩
          refine ⟨_, rfl, a, C, dx, _, _, rfl, hP1.ins, Z.cl, Z.po, vf_po, _, rfl, _, g, v, u, rfl, hg2, by omega, _, rfl, a, C, dx, _, rfl, hP1.ins, Z.cl, Z.po, (by show 6 < 1000; decide), ?_⟩
          rw [put_swit hy]
          have o2 := o1.field (L' := { L with posts := Km462.put L.posts L.valley v u }) rfl (fs := putF "posts" (nv (setOf L.valley.length (Km462.put L.posts L.valley v u))) (vf ch up rd L.school (setOf L.valley.length L.bus) (setOf L.valley.length L.posts))) rfl
          have hP2 := o2.at_
          refine ⟨_, rfl, a, C, dx, _, _, rfl, hP2.ins, Z.cl, Z.po, vf_po, _, rfl, (by show 1 <= sizeLine; decide), finC k o2 eact rfl ?_⟩
          show [nv (VT.pop (setOf L.valley.length (Km462.put L.posts L.valley v u)))] = [nv (Km462.put L.posts L.valley v u).length]
          rw [pop_setOf (put_canon O.posts v u)]
abbrev s_set_all_posts : Stmt := top 105
theorem sc_set_all_posts : FnScope ["valley", "given", "wanted"] ["valley", "given"] (defScope s_set_all_posts) := ⟨rfl, rfl, rfl, by decide +kernel, rfl, by decide +kernel, by decide +kernel⟩
theorem d_set_all_posts (T : Txt mg) (Z : Vc K C) (F : Fd K mg "set_all_posts" s_set_all_posts) (D_posts_with_schools : Dn P w K mg base 5 "posts_with_schools" ["valley", "r"] (sp_posts_with_schools C)) (D_size : Dn P w K mg base 1 "size" ["group"] sp_size) : Dn P w K mg base 6 "set_all_posts" ["valley", "given"] (sp_chg C 1 (n1 .posts_)) := by
  refine F.dn sc_set_all_posts (fun _ _ _ _ _ _ us hl => match us, hl with | [_, _], _ => rfl) (fun vs H Q E h => ?_) (fun f cdv A outer s H vs Q E hr h => ?_)
  . obtain ⟨H0, a, L, g, gs, dx, ch, up, rd, rfl, _⟩ := h; rfl
  . obtain ⟨H0, a, L, g, gs, dx, ch, up, rd, rfl, o, O, hg, hn, k⟩ := h
    obtain ⟨v, rfl⟩ := ln1 hn
    refine ⟨_, (pss_cons (ps_set (i := 2) sc_set_all_posts.nd rfl (Or.inl rfl) (pe_dn D_posts_with_schools hr (pa_cons (pv 0) (pa_cons (pe_ix ix_list (pv 1) pe_int (fun _ _ => rfl)) pa_nil))))
      (pss_cons (ps_if (pt_cmpR op_eq (pe_fld (pv 0) rfl) (pv 2) (nomark _)) (pss_one (ps_ret (pe_lst (pa_cons (pe_gi T.SO_ALREADY) pa_nil)))) pss_nil)
      (pss_cons (ps_fld (pv 0) (pv 2) rfl)
      (pss_one (ps_ret (pe_lst (pa_cons (pe_dn D_size hr (pa_cons (pv 2) pa_nil)) (pa_cons (pv 2) pa_nil)))))))), ?_⟩
    have hg1 := o.same _ _ hg
    have hP := o.at_
    generalize hl : (Km457.all L.valley).filter (Km462.withSchool L.valley L.school v).contains = l
    have hcan : l = (List.range L.valley.length).filter l.contains := by
      conv => lhs; rw [<- hl]
      unfold Km457.all
      apply List.filter_congr
      intro x hx
      have hx' : x < L.valley.length := by simpa using hx
      rw [<- hl, Bool.eq_iff_iff]
      unfold Km457.all
      simp [hx']
    have es : setOf L.valley.length (Km462.withSchool L.valley L.school v) = setOf L.valley.length l := by
      unfold setOf
      apply VT.mask_congr
      intro x hx
      rw [<- hl, Bool.eq_iff_iff]
      unfold Km457.all
      simp [hx]
    have eact : Km462.act ⟨L, [], []⟩ (.posts_ v) = if L.posts = l then (⟨L, [], []⟩, Km462.only (-17)) else ((⟨L, [], []⟩ : Km462.Desk).become { L with posts := l }, ⟨((l.length : Nat) : Int), [Km462.bits l]⟩) := by
      rw [<- hl]; rfl
    refine ⟨_, rfl, _, rfl, g, _, _, _, rfl, rfl, SqL.of hg1, at_of (j := 0) rfl rfl, a, _, _, _, _, v, rfl, o.la, O.good, O.sch, fun H1 s1 => ?_⟩
    rw [es]
    have o1 := o.grow s1
    have hP1 := o1.at_
    have heq : (setOf L.valley.length L.posts = setOf L.valley.length l) ↔ L.posts = l := by
      constructor
      . intro h
        rw [O.posts, hcan]
        apply List.filter_congr
        intro x hx
        have hx' : x < L.valley.length := by simpa using hx
        rw [<- setOf_bit hx', <- setOf_bit hx', h]
      . intro h; rw [h]
    refine ⟨_, rfl, a, C, dx, _, _, rfl, hP1.ins, Z.cl, Z.po, vf_po, _, rfl, rfl, _, rfl, iteB (c := decide (L.posts = l)) ?_ (fun hp => ?_) (fun hp => ?_)⟩
    . rw [V.ncast, Bool.eq_iff_iff, decide_eq_true_eq, decide_eq_true_eq]
      exact heq
    . rw [if_pos (of_decide_eq_true hp)] at eact
      exact ⟨(by show 1 <= sizeLine; decide), finC k o1 eact rfl rfl⟩
    . rw [if_neg (of_decide_eq_false hp)] at eact
      refine ⟨_, rfl, _, rfl, a, C, dx, _, rfl, hP1.ins, Z.cl, Z.po, (by show 6 < 1000; decide), ?_⟩
      have o2 := o1.field (L' := { L with posts := l }) rfl (fs := putF "posts" (nv (setOf L.valley.length l)) (vf ch up rd L.school (setOf L.valley.length L.bus) (setOf L.valley.length L.posts))) rfl
      refine ⟨_, rfl, _, rfl, _, rfl, (by show 2 <= sizeLine; decide), finC k o2 eact rfl ?_⟩
      show [nv (VT.pop (setOf L.valley.length l)), nv (setOf L.valley.length l)] = [nv l.length, nv (Km462.bits l)]
      rw [pop_setOf hcan, bits_setOf hcan]
end
end VV
namespace VV
open Km457 (Valley at_)
def isChg : Km462.Call -> Bool
  | .village _ _ _ => true
  | .many _ _ => true
  | .road _ _ => true
  | .elect => true
  | .school _ => true
  | .bus _ _ => true
  | .post _ _ => true
  | .posts_ _ => true
  | .move _ _ => true
  | _ => false
theorem act_chg (d : Km462.Desk) (c : Km462.Call) (h : isChg c = true) : Km462.act d c = (if 0 <= (Km462.act ⟨d.now, [], []⟩ c).2.value then d.become (chg d.now c) else d, (Km462.act ⟨d.now, [], []⟩ c).2) := by
  cases c <;> first
    | (exact (Bool.false_ne_true h).elim)
    | (simp only [chg, Km462.act]
       repeat' split
       all_goals first | rfl | (simp_all [Km462.only, Km462.Desk.become]; done) | (simp [Km462.only, Km462.Desk.become] at *; done))
theorem good_set_many {s : Valley} (G : Good s) {v m : Nat} (hm : m <= 100) : Good (s.set v { at_ s v with many := m }) := by
  have L := (VT.Like.refl s).set v m
  refine ⟨L.wf G.wf, by rw [List.length_set]; exact G.len, fun x => by rw [L.long]; exact G.long x, fun x => ?_, by rw [L.up]; exact G.root⟩
  rw [VT.at_set]
  split
  . exact hm
  . exact G.many x
theorem good_lied {s : Valley} (G : Good s) {v w : Nat} (hvw : v ≠ w) (hw : Km462.many s w < 100) : Good (Km462.lied s v w) := by
  have G1 : Good (s.set v { at_ s v with many := Km462.many s v - 1 }) := good_set_many G (by have := G.many v; unfold Km462.many; omega)
  have : Km462.many (s.set v { at_ s v with many := Km462.many s v - 1 }) w + 1 <= 100 := by
    unfold Km462.many at hw ⊢
    rw [VT.at_set, if_neg (by intro z; exact hvw z.1)]
    omega
  exact good_set_many G1 this
theorem good_road {s : Valley} (G : Good s) {v m : Nat} (hv : v ≠ 0) (hm : 1 <= m /\ m <= 1000) : Good (s.set v { at_ s v with long := m }) := by
  have hu : ∀ x, (at_ (s.set v { at_ s v with long := m }) x).up = (at_ s x).up := by
    intro x
    rw [VT.at_set]
    split
    . rename_i h; rw [h.1]
    . rfl
  refine ⟨⟨by rw [List.length_set]; exact G.wf.pos, fun x h0 hx => ?_, fun x h0 hx => ?_⟩, by rw [List.length_set]; exact G.len, fun x => ?_, fun x => ?_, by rw [hu]; exact G.root⟩
  . rw [hu]; rw [List.length_set] at hx; exact G.wf.ups x h0 hx
  . rw [List.length_set] at hx
    rw [VT.at_set]
    split
    . exact hm.1
    . exact G.wf.long x h0 hx
  . rw [VT.at_set]
    split
    . exact hm.2
    . exact G.long x
  . rw [VT.at_set]
    split
    . rename_i h; rw [h.1]; exact G.many x
    . exact G.many x
theorem at_app {s : Valley} {y : Km457.Village} {x : Nat} : at_ (s ++ [y]) x = if x < s.length then at_ s x else if x = s.length then y else ⟨0, 0, 0⟩ := by
  unfold at_
  rw [List.getD_eq_getElem?_getD, List.getD_eq_getElem?_getD]
  by_cases h : x < s.length
  . rw [if_pos h, List.getElem?_append_left h]
  . rw [if_neg h]
    by_cases e : x = s.length
    . subst e
      rw [if_pos rfl, List.getElem?_append_right (Nat.le_refl _)]
      simp
    . rw [if_neg e, List.getElem?_eq_none (by simp; omega)]
      rfl
theorem good_app {s : Valley} (G : Good s) {u l m : Nat} (hu : u < s.length) (hl : 1 <= l /\ l <= 1000) (hm : m <= 100) (hn : s.length < 10) : Good (s ++ [⟨u, l, m⟩]) := by
  have hlen : (s ++ [(⟨u, l, m⟩ : Km457.Village)]).length = s.length + 1 := by simp
  refine ⟨⟨by omega, fun x h0 hx => ?_, fun x h0 hx => ?_⟩, by omega, fun x => ?_, fun x => ?_, ?_⟩
  . rw [at_app]
    by_cases h : x < s.length
    . rw [if_pos h]; exact G.wf.ups x h0 h
    . rw [if_neg h, if_pos (by omega)]; show u < x; omega
  . rw [at_app]
    by_cases h : x < s.length
    . rw [if_pos h]; exact G.wf.long x h0 h
    . rw [if_neg h, if_pos (by omega)]; exact hl.1
  . rw [at_app]
    split
    . exact G.long x
    . split
      . exact hl.2
      . exact Nat.zero_le _
  . rw [at_app]
    split
    . exact G.many x
    . split
      . exact hm
      . exact Nat.zero_le _
  . rw [at_app, if_pos G.wf.pos]; exact G.root
theorem canon_wide {n m : Nat} {l : List Nat} (h : n <= m) (hl : l = (List.range n).filter l.contains) : l = (List.range m).filter l.contains := by
  obtain ⟨d, rfl⟩ : ∃ d, m = n + d := ⟨m - n, by omega⟩
  rw [List.range_add, List.filter_append, <- hl]
  have : ((List.range d).map (n + ·)).filter l.contains = [] := by
    rw [List.filter_eq_nil_iff]
    intro x hx hc
    obtain ⟨y, _, rfl⟩ := List.mem_map.mp hx
    have := canon_lt hl (n + y) (by simpa using hc)
    omega
  rw [this, List.append_nil]
theorem put_canon' {s : Valley} {l : List Nat} (hl : l = (List.range s.length).filter l.contains) (v o : Nat) : Km462.put l s v o = (List.range s.length).filter (Km462.put l s v o).contains := by
  unfold Km462.put
  by_cases e : o = 1
  . rw [if_pos e]
    unfold Km457.all
    apply List.filter_congr
    intro x hx
    have hx' : x < s.length := by simpa using hx
    rw [Bool.eq_iff_iff]
    simp [hx']
  . rw [if_neg e]
    exact canon_filter hl _
theorem lok_chg {L : Km462.Land} (O : LOK L) (c : Km462.Call) (h : isChg c = true) : LOK (chg L c) := by
  have G := O.good
  cases c with
  | village u l m =>
    show LOK (if L.valley.length <= u then ((⟨L, [], []⟩ : Km462.Desk), Km462.only (-2)) else if l = 0 \/ 1000 < l \/ 100 < m then (⟨L, [], []⟩, Km462.only (-22)) else if 10 <= L.valley.length then (⟨L, [], []⟩, Km462.only (-28)) else ((⟨L, [], []⟩ : Km462.Desk).become { L with valley := L.valley ++ [⟨u, l, m⟩] }, Km462.only ((L.valley.length : Nat) : Int))).1.now
    split
    . exact O
    . split
      . exact O
      . split
        . exact O
        . rename_i h1 h2 h3
          have hlen : (L.valley ++ [(⟨u, l, m⟩ : Km457.Village)]).length = L.valley.length + 1 := by simp
          refine ⟨good_app G (by omega) (by omega) (by omega) (by omega), ?_, ?_, ?_⟩
          . show L.school < (L.valley ++ [(⟨u, l, m⟩ : Km457.Village)]).length
            rw [hlen]; have := O.sch; omega
          . exact canon_wide (n := L.valley.length) (m := (L.valley ++ [(⟨u, l, m⟩ : Km457.Village)]).length) (by omega) O.bus
          . exact canon_wide (n := L.valley.length) (m := (L.valley ++ [(⟨u, l, m⟩ : Km457.Village)]).length) (by omega) O.posts
  | many v n =>
    show LOK (if L.valley.length <= v then ((⟨L, [], []⟩ : Km462.Desk), Km462.only (-2)) else if 100 < n then (⟨L, [], []⟩, Km462.only (-22)) else ((⟨L, [], []⟩ : Km462.Desk).become { L with valley := L.valley.set v { at_ L.valley v with many := n } }, Km462.only ((Km462.many L.valley v : Nat) : Int))).1.now
    split
    . exact O
    . split
      . exact O
      . rename_i h1 h2
        refine ⟨good_set_many G (by omega), ?_, ?_, ?_⟩
        . show L.school < (L.valley.set v _).length
          rw [List.length_set]; exact O.sch
        . show L.bus = (List.range (L.valley.set v _).length).filter _
          rw [List.length_set]; exact O.bus
        . show L.posts = (List.range (L.valley.set v _).length).filter _
          rw [List.length_set]; exact O.posts
  | road v n =>
    show LOK (if L.valley.length <= v then ((⟨L, [], []⟩ : Km462.Desk), Km462.only (-2)) else if n = 0 \/ 1000 < n then (⟨L, [], []⟩, Km462.only (-22)) else if v = 0 then (⟨L, [], []⟩, Km462.only (-33)) else ((⟨L, [], []⟩ : Km462.Desk).become { L with valley := L.valley.set v { at_ L.valley v with long := n } }, Km462.only (((at_ L.valley v).long : Nat) : Int))).1.now
    split
    . exact O
    . split
      . exact O
      . split
        . exact O
        . rename_i h1 h2 h3
          refine ⟨good_road G h3 (by omega), ?_, ?_, ?_⟩
          . show L.school < (L.valley.set v _).length
            rw [List.length_set]; exact O.sch
          . show L.bus = (List.range (L.valley.set v _).length).filter _
            rw [List.length_set]; exact O.bus
          . show L.posts = (List.range (L.valley.set v _).length).filter _
            rw [List.length_set]; exact O.posts
  | elect =>
    show LOK (if Km457.total L.valley = 0 then ((⟨L, [], []⟩ : Km462.Desk), Km462.only (-6)) else if Km462.chosen L.valley = L.school then (⟨L, [], []⟩, Km462.only (-17)) else ((⟨L, [], []⟩ : Km462.Desk).become { L with school := Km462.chosen L.valley }, ⟨((Km462.chosen L.valley : Nat) : Int), [L.school]⟩)).1.now
    split
    . exact O
    . split
      . exact O
      . exact ⟨G, (VT.chosen_eq G.wf).2, O.bus, O.posts⟩
  | school v =>
    show LOK (if L.valley.length <= v then ((⟨L, [], []⟩ : Km462.Desk), Km462.only (-2)) else if L.school = v then (⟨L, [], []⟩, Km462.only (-17)) else ((⟨L, [], []⟩ : Km462.Desk).become { L with school := v }, Km462.only ((L.school : Nat) : Int))).1.now
    split
    . exact O
    . split
      . exact O
      . rename_i h1 h2
        exact ⟨G, by show v < L.valley.length; omega, O.bus, O.posts⟩
  | bus v o =>
    show LOK (if L.valley.length <= v then ((⟨L, [], []⟩ : Km462.Desk), Km462.only (-2)) else if 1 < o then (⟨L, [], []⟩, Km462.only (-22)) else if L.bus.contains v = (o == 1) then (⟨L, [], []⟩, Km462.only (-17)) else ((⟨L, [], []⟩ : Km462.Desk).become { L with bus := Km462.put L.bus L.valley v o }, Km462.only (((Km462.put L.bus L.valley v o).length : Nat) : Int))).1.now
    split
    . exact O
    . split
      . exact O
      . split
        . exact O
        . exact ⟨G, O.sch, put_canon' O.bus v o, O.posts⟩
  | post v o =>
    show LOK (if L.valley.length <= v then ((⟨L, [], []⟩ : Km462.Desk), Km462.only (-2)) else if 1 < o then (⟨L, [], []⟩, Km462.only (-22)) else if L.posts.contains v = (o == 1) then (⟨L, [], []⟩, Km462.only (-17)) else ((⟨L, [], []⟩ : Km462.Desk).become { L with posts := Km462.put L.posts L.valley v o }, Km462.only (((Km462.put L.posts L.valley v o).length : Nat) : Int))).1.now
    split
    . exact O
    . split
      . exact O
      . split
        . exact O
        . exact ⟨G, O.sch, O.bus, put_canon' O.posts v o⟩
  | posts_ r =>
    show LOK (if L.posts = (Km457.all L.valley).filter (Km462.withSchool L.valley L.school r).contains then ((⟨L, [], []⟩ : Km462.Desk), Km462.only (-17)) else ((⟨L, [], []⟩ : Km462.Desk).become { L with posts := (Km457.all L.valley).filter (Km462.withSchool L.valley L.school r).contains }, ⟨((((Km457.all L.valley).filter (Km462.withSchool L.valley L.school r).contains).length : Nat) : Int), [Km462.bits ((Km457.all L.valley).filter (Km462.withSchool L.valley L.school r).contains)]⟩)).1.now
    split
    . exact O
    . refine ⟨G, O.sch, O.bus, ?_⟩
      show (Km457.all L.valley).filter (Km462.withSchool L.valley L.school r).contains = (List.range L.valley.length).filter ((Km457.all L.valley).filter (Km462.withSchool L.valley L.school r).contains).contains
      unfold Km457.all
      apply List.filter_congr
      intro x hx
      have hx' : x < L.valley.length := by simpa using hx
      rw [Bool.eq_iff_iff]
      simp [hx']
  | move v w =>
    show LOK (if L.valley.length <= v \/ L.valley.length <= w then ((⟨L, [], []⟩ : Km462.Desk), Km462.only (-2)) else if v = w then (⟨L, [], []⟩, Km462.only (-22)) else if Km462.many L.valley v = 0 then (⟨L, [], []⟩, Km462.only (-6)) else if 100 <= Km462.many L.valley w then (⟨L, [], []⟩, Km462.only (-28)) else ((⟨L, [], []⟩ : Km462.Desk).become { L with valley := Km462.lied L.valley v w }, ⟨((Km462.many L.valley v - 1 : Nat) : Int), [Km462.many L.valley w + 1]⟩)).1.now
    split
    . exact O
    . split
      . exact O
      . split
        . exact O
        . split
          . exact O
          . rename_i h1 h2 h3 h4
            have ll := (VT.like_lied L.valley v w).len
            refine ⟨good_lied G h2 (by omega), ?_, ?_, ?_⟩
            . show L.school < (Km462.lied L.valley v w).length
              rw [ll]; exact O.sch
            . show L.bus = (List.range (Km462.lied L.valley v w).length).filter _
              rw [ll]; exact O.bus
            . show L.posts = (List.range (Km462.lied L.valley v w).length).filter _
              rw [ll]; exact O.posts
  | _ => exact (Bool.false_ne_true h).elim
end VV
namespace VV
open PySem PySem.Spec PyProof.Rows L2
open Km457 (Valley at_)
def TblOk (K : PySem.W.Frag) (mg : Str -> Option Value) (x : Str) (nm : Int -> Option Str) : Prop :=
  ∃ d : Addr, mg x = some (.ref d) /\ (d == sysModules) = false /\ ∀ (P : Program) (w : World) (h : Heap), K.In h -> h.MapOf (PySem.intKind P w) d (fun k => (nm k).bind mg)
def ent (x : Int × Tok × Value) : DictEntry := { hash := hashInt x.1, key := .int x.1 x.2.1, val := x.2.2 }
theorem ent_pairs (P : Program) (w : World) : ∀ ks : List (Int × Tok × Value), Pairs (PySem.intKind P w) (ks.map ent) (ks.map fun x => (x.1, x.2.2))
  | [] => .nil
  | (k, t, v) :: ks => .cons (by show Value.isInt k (.int k t) = true; simp [Value.isInt]) rfl (ent_pairs P w ks)
theorem tbl_map {P : Program} {w : World} {h : Heap} {d : Addr} {o : Obj} {es : Array DictEntry} {ep : Nat} {ks : List (Int × Tok × Value)} (ho : h.get? d = some o) (hx : o.ExactDict) (hd : o.data = .dict es ep) (he : es.toList = ks.map ent) (nd : (ks.map (·.1)).Nodup) :
    h.MapOf (PySem.intKind P w) d (valueAt (ks.map fun x => (x.1, x.2.2))) := by
  have hk : KeysOf (PySem.intKind P w) es := fun e hm => by
    have : e ∈ es.toList := Array.mem_toList_iff.mpr hm
    rw [he] at this
    obtain ⟨⟨k, t, v⟩, _, rfl⟩ := List.mem_map.mp this
    exact ⟨k, by show Value.isInt k (.int k t) = true; simp [Value.isInt], rfl⟩
  have dd : h.DictOf (PySem.intKind P w) d (ks.map fun x => (x.1, x.2.2)) := ⟨o, es, ep, ho, hx, hd, hk, by rw [he]; exact ent_pairs P w ks, by rw [List.map_map]; exact nd⟩
  exact dd.mapOf
section
variable {X : Cx} {x : Str} {p1 p2 pos : Pos} {i e : Expr} {es : List Expr} {ti : TE} {t : TA} {nm : Int -> Option Str} {j : Nat}
def tTab (P : Program) (w : World) (K : PySem.W.Frag) (mg : Str -> Option Value) (base : Heap) (j : Nat) (nm : Int -> Option Str) (ti : TE) (t : TA) : TE := fun σ H Q => ti σ H fun y H1 => ∃ (n : Int) (z : Str) (k : Nat) (ps : List Str) (sp : Sp), y = .int n /\ nm n = some z /\ Dn P w K mg base k z ps sp /\ k <= j /\ t σ H1 fun vs H2 => sp vs H2 Q E0
theorem pe_tab (Tb : TblOk X.K X.mg x nm) (hr : Room j X.A) (hi : PE X i ti) (ha : PA X (e :: es) t) (hs : NoSl i := by intro _ _; rfl) (hg : Gl X x := by rfl) (hdb : (x == ("__debug__" : Str)) = false := by decide)
    (he : starEach (e :: es) X.env = (false, eval e X.env) :: starEach es X.env := by rfl) (hpl : (backTo pos (starEach es X.env)).any (·.1) = false := by rfl)
    (hc : eval (.Call (.Subscript (.Name x p1) i p2) (e :: es) [] pos) X.env = (do callWith pos (<- eval (.Subscript (.Name x p1) i p2) X.env) [] (backTo pos (starEach (e :: es) X.env)) (backToKw pos (keywordEach [] X.env))) := by rfl) :
    PE X (.Call (.Subscript (.Name x p1) i p2) (e :: es) [] pos) (tTab X.prog X.w X.K X.mg X.base j nm ti t) := by
  intro pins s σ H Q I h
  obtain ⟨d, hm, hd, hmap⟩ := Tb
  refine Call_ ?_ hc
  refine subD_of PySem.F.slot_dict_getitem.lookup hs (ld_glob I hg hm (thn (hi pins s σ H _ I h) fun iv s2 ⟨y, H2, I2, ry, n, z, k, ps, sp, ey, ez, D, hk, q⟩ => ?_) hdb)
  subst ey
  obtain ⟨tk, rfl⟩ := ry
  obtain ⟨f, fd, F, hmz, hkp, hb⟩ := D
  have mp := hmap X.prog X.w s2.heap I2.kIn
  refine ⟨mp.typeIs, wpAny_getItem_of (knd := PySem.intKind X.prog X.w) (k := n) (by show Value.isInt n (.int n tk) = true; simp [Value.isInt]) mp (show (nm n).bind X.mg = some (.ref f) by rw [ez]; exact hmz) ?_⟩
  have I3 : Inv X pins σ H2 { s2 with toks := s2.toks + 1 } := I2.tok _
  refine PySem.W.callWith_K (h₀ := X.base) I.ok.mod.kin hkp (thn (ha pos pins _ σ H2 _ I3 q) fun us s4 ⟨vs, H4, I4, r4, q4⟩ => ⟨I4.kIn, ?_⟩) he hpl
  exact run_fn (dvs := []) F (hr.mono hk) hb .nil pass0 I4 r4 (by rw [List.append_nil]; exact q4)
def tTabIn (nm : Int -> Option Str) (mg : Str -> Option Value) (ti : TE) : TE := fun σ H Q => ti σ H fun y H1 => ∃ n : Int, y = .int n /\ Q (.bl ((nm n).bind mg).isSome) H1
theorem pe_tabin (Tb : TblOk X.K X.mg x nm) (hi : PE X i ti) (hg : Gl X x := by rfl) (hdb : (x == ("__debug__" : Str)) = false := by decide) (h1 : behindInMarks .In (.Name x p1) = false := by rfl) : PE X (.Compare i [.In] [.Name x p1] pos) (tTabIn nm X.mg ti) := by
  intro pins s σ H Q I h
  obtain ⟨d, hm, hd, hmap⟩ := Tb
  refine wpAny_Compare1 (thn (hi pins s σ H _ I h) fun iv s1 ⟨y, H1, I1, ry, n, ey, q⟩ => ?_) h1
  subst ey
  obtain ⟨tk, rfl⟩ := ry
  refine ld_glob I1 hg hm ?_ hdb
  have mp := hmap X.prog X.w s1.heap I1.kIn
  exact wpAny_in_of (knd := PySem.intKind X.prog X.w) (k := n) (by show Value.isInt n (.int n tk) = true; simp [Value.isInt]) hd mp ⟨.bl _, H1, I1.tok _, rfl, q⟩
end
end VV
namespace VV
open PySem PySem.Spec PyProof.Rows L2
open Km457 (Valley at_)
structure Tr where
  no : Nat
  ar : Nat
  mc : List Nat -> Km462.Call
  nm : Str
  lv : Nat
def askT : List Tr := [⟨9, 0, fun _ => .chosen, "ask_chosen", 6⟩, ⟨10, 0, fun _ => .unbeaten, "ask_unbeaten", 4⟩, ⟨11, 2, n2 .rather, "ask_rather", 4⟩, ⟨12, 1, n1 .ways, "ask_ways", 4⟩, ⟨13, 0, fun _ => .best, "ask_best", 5⟩, ⟨14, 2, n2 .lie, "ask_lie", 7⟩,
  ⟨16, 0, fun _ => .round, "ask_round", 5⟩, ⟨17, 1, n1 .roundFrom, "ask_from", 5⟩, ⟨18, 1, n1 .halt_, "ask_stop", 16⟩, ⟨19, 1, n1 .pays, "ask_pays", 4⟩, ⟨20, 1, n1 .saves, "ask_saves", 6⟩, ⟨21, 1, n1 .mean, "ask_mean", 7⟩, ⟨22, 1, n1 .joins, "ask_joins", 6⟩,
  ⟨23, 1, n1 .far, "ask_far", 3⟩, ⟨24, 0, fun _ => .farthest, "ask_farthest", 3⟩, ⟨25, 1, n1 .fewest, "ask_fewest", 6⟩, ⟨26, 1, n1 .withSchool, "ask_with", 6⟩, ⟨27, 1, n1 .within, "ask_within", 5⟩, ⟨28, 0, fun _ => .near, "ask_near", 3⟩, ⟨29, 1, n1 .look, "ask_look", 3⟩, ⟨30, 0, fun _ => .sums, "ask_sums", 1⟩]
def chgT : List Tr := [⟨1, 3, fun gs => .village (gs.getD 0 0) (gs.getD 1 0) (gs.getD 2 0), "add_village", 3⟩, ⟨2, 2, n2 .many, "set_children", 3⟩, ⟨3, 2, n2 .road, "set_road", 3⟩, ⟨4, 0, fun _ => .elect, "elect_school", 6⟩, ⟨5, 1, n1 .school, "set_school", 3⟩, ⟨6, 2, n2 .bus, "set_riding", 4⟩, ⟨7, 2, n2 .post, "set_post", 4⟩, ⟨8, 1, n1 .posts_, "set_all_posts", 6⟩, ⟨15, 2, n2 .move, "move_child", 4⟩]
def nmOf (T : List Tr) (k : Int) : Option Str := (T.find? fun r => decide ((r.no : Int) = k)).map Tr.nm
theorem nm_ask : ∀ r ∈ askT, nmOf askT (r.no : Int) = some r.nm /\ r.lv <= 16 := by
  intro r hr
  simp only [askT, List.mem_cons, List.not_mem_nil, or_false] at hr
  rcases hr with h | h | h | h | h | h | h | h | h | h | h | h | h | h | h | h | h | h | h | h | h <;> subst h <;> exact ⟨rfl, by decide⟩
theorem nm_chg : ∀ r ∈ chgT, nmOf chgT (r.no : Int) = some r.nm /\ r.lv <= 6 := by
  intro r hr
  simp only [chgT, List.mem_cons, List.not_mem_nil, or_false] at hr
  rcases hr with h | h | h | h | h | h | h | h | h <;> subst h <;> exact ⟨rfl, by decide⟩
def sp_askAll (C : Addr) : Sp := fun vs H Q E => ∃ r ∈ askT, ∃ x y : V, vs = [nv r.no, x, y] /\ sp_ask C r.ar r.mc [x, y] H Q E
def sp_chgAll (C : Addr) : Sp := fun vs H Q E => ∃ r ∈ chgT, ∃ x y : V, vs = [nv r.no, x, y] /\ sp_chg C r.ar r.mc [x, y] H Q E
def sp_is_change : Sp := fun vs H Q _ => ∃ n : Nat, vs = [nv n] /\ Q (.bl (nmOf chgT (n : Int)).isSome) H
section
variable {P : Program} {w : World} {K : PySem.W.Frag} {mg : Str -> Option Value} {base : Heap} {C : Addr}
abbrev s_ask : Stmt := top 93
theorem sc_ask : FnScope ["number", "valley", "given"] ["number", "valley", "given"] (defScope s_ask) := ⟨rfl, rfl, rfl, by decide +kernel, rfl, by decide +kernel, by decide +kernel⟩
theorem d_ask (F : Fd K mg "ask" s_ask) (B_ASKS : TblOk K mg "ASKS" (nmOf askT)) (D : ∀ r ∈ askT, Dn P w K mg base r.lv r.nm ["valley", "given"] (sp_ask C r.ar r.mc)) : Dn P w K mg base 17 "ask" ["number", "valley", "given"] (sp_askAll C) := by
  refine F.dn sc_ask (fun _ _ _ _ _ _ us hl => match us, hl with | [_, _, _], _ => rfl) (fun vs H Q E h => ?_) (fun f cdv A outer s H vs Q E hr h => ?_)
  . obtain ⟨r, hr, x, y, rfl, _⟩ := h; rfl
  . obtain ⟨r, hr2, x, y, rfl, h⟩ := h
    refine ⟨_, (pss_one (ps_ret (pe_tab B_ASKS hr (pv 0) (pa_cons (pv 1) (pa_cons (pv 2) pa_nil))))), ?_⟩
    exact ⟨_, rfl, _, r.nm, r.lv, _, _, rfl, (nm_ask r hr2).1, D r hr2, (nm_ask r hr2).2, _, rfl, _, rfl, h⟩
abbrev s_change : Stmt := top 108
theorem sc_change : FnScope ["number", "valley", "given"] ["number", "valley", "given"] (defScope s_change) := ⟨rfl, rfl, rfl, by decide +kernel, rfl, by decide +kernel, by decide +kernel⟩
theorem d_change (F : Fd K mg "change" s_change) (B_CHANGES : TblOk K mg "CHANGES" (nmOf chgT)) (D : ∀ r ∈ chgT, Dn P w K mg base r.lv r.nm ["valley", "given"] (sp_chg C r.ar r.mc)) : Dn P w K mg base 7 "change" ["number", "valley", "given"] (sp_chgAll C) := by
  refine F.dn sc_change (fun _ _ _ _ _ _ us hl => match us, hl with | [_, _, _], _ => rfl) (fun vs H Q E h => ?_) (fun f cdv A outer s H vs Q E hr h => ?_)
  . obtain ⟨r, hr, x, y, rfl, _⟩ := h; rfl
  . obtain ⟨r, hr2, x, y, rfl, h⟩ := h
    refine ⟨_, (pss_one (ps_ret (pe_tab B_CHANGES hr (pv 0) (pa_cons (pv 1) (pa_cons (pv 2) pa_nil))))), ?_⟩
    exact ⟨_, rfl, _, r.nm, r.lv, _, _, rfl, (nm_chg r hr2).1, D r hr2, (nm_chg r hr2).2, _, rfl, _, rfl, h⟩
abbrev s_is_change : Stmt := top 107
theorem sc_is_change : FnScope ["number"] ["number"] (defScope s_is_change) := ⟨rfl, rfl, rfl, by decide +kernel, rfl, by decide +kernel, by decide +kernel⟩
theorem d_is_change (F : Fd K mg "is_change" s_is_change) (B_CHANGES : TblOk K mg "CHANGES" (nmOf chgT)) (hall : ∀ r ∈ chgT, (mg r.nm).isSome = true) : Dn P w K mg base 1 "is_change" ["number"] sp_is_change := by
  refine F.dn sc_is_change (fun _ _ _ _ _ _ us hl => match us, hl with | [_], _ => rfl) (fun vs H Q E h => ?_) (fun f cdv A outer s H vs Q E hr h => ?_)
  . obtain ⟨n, rfl, _⟩ := h; rfl
  . obtain ⟨n, rfl, k⟩ := h
    refine ⟨_, (pss_one (ps_ret (pe_tabin B_CHANGES (pv 0)))), ?_⟩
    refine ⟨_, rfl, _, rfl, cv k (congrArg V.bl ?_)⟩
    unfold nmOf
    cases e : chgT.find? fun r => decide ((r.no : Int) = (n : Int)) with
    | none => rfl
    | some r => exact hall r (List.mem_of_find?_eq_some e)
end
end VV
namespace VV
open PySem PySem.Spec PyProof.Rows L2
open Km457 (Valley at_)
def sf (av e l : Addr) : List (Str × V) := [("valley", .ref av), ("earlier", .ref e), ("later", .ref l)]
theorem sf_va {av e l : Addr} : (sf av e l).lookup ("valley" : Str) = some (V.ref av) := rfl
theorem sf_ea {av e l : Addr} : (sf av e l).lookup ("earlier" : Str) = some (V.ref e) := rfl
theorem sf_la {av e l : Addr} : (sf av e l).lookup ("later" : Str) = some (V.ref l) := rfl
structure Sc (K : PySem.W.Frag) (CS : Addr) : Prop where
  cl : Cls K CS
  va : NoAttr K CS "valley"
  ea : NoAttr K CS "earlier"
  la : NoAttr K CS "later"
def Lds (C : Addr) (G : Hp) (as : List Addr) (ls : List Km462.Land) : Prop := as.length = ls.length /\ ∀ (i : Nat) (a : Addr), as[i]? = some a -> ∃ L, ls[i]? = some L /\ LA C G a L /\ LOK L
structure SAt (C CS : Addr) (G : Hp) (S : Addr) (d : Km462.Desk) (dx av e l : Addr) (es ls : List Addr) : Prop where
  ins : G S = some (.ins CS dx (sf av e l))
  now : LA C G av d.now
  ok : LOK d.now
  ear : G e = some (.lst (es.map V.ref))
  lat : G l = some (.lst (ls.map V.ref))
  el : e ≠ l
  past : Lds C G es d.past.reverse
  fut : Lds C G ls d.future.reverse
  len : d.past.length + d.future.length <= 20
def SA (C CS : Addr) (G : Hp) (S : Addr) (d : Km462.Desk) : Prop := ∃ dx av e l es ls, SAt C CS G S d dx av e l es ls
def Keep (G H G' H' : Hp) : Prop := ∀ b o, H b = some o -> G b = none -> H' b = some o /\ G' b = none
def inc (G H H' : Hp) : Hp := fun b => if (H b).isSome = true /\ G b = none then none else H' b
theorem inc_same (G H H' : Hp) : Same (inc G H H') H' := fun b o h => by
  unfold inc at h
  split at h
  . cases h
  . exact h
theorem inc_in {G H H' : Hp} {b : Addr} {o : HO} (h : G b = some o) : inc G H H' b = H' b := by
  unfold inc
  rw [if_neg]
  rintro ⟨_, z⟩
  rw [h] at z; cases z
theorem inc_new {G H H' : Hp} {b : Addr} (h : H b = none) : inc G H H' b = H' b := by
  unfold inc
  rw [if_neg]
  rintro ⟨z, _⟩
  rw [h] at z; cases z
theorem inc_keep {G H H' : Hp} (h : ∀ b o, H b = some o -> G b = none -> H' b = some o) : Keep G H (inc G H H') H' := fun b o hb hg => ⟨h b o hb hg, by
  unfold inc
  rw [if_pos ⟨by rw [hb]; rfl, hg⟩]⟩
theorem refs_ne {es : List Addr} {s : Valley} (h : 0 < s.length) (f : Km457.Village -> Nat) : es.map V.ref ≠ s.map fun x => nv (f x) := by
  intro e
  cases s with
  | nil => cases h
  | cons y s =>
    cases es with
    | nil => cases e
    | cons a es =>
      have := (List.cons.inj e).1
      cases this
theorem LA.keep {C CS : Addr} {G G' : Hp} {S dx av e l a : Addr} {es ls : List Addr} {L : Km462.Land} (hS : G S = some (.ins CS dx (sf av e l))) (he : G e = some (.lst (es.map V.ref))) (hl : G l = some (.lst (ls.map V.ref))) (h : LA C G a L) (O : LOK L)
    (k : ∀ b o, G b = some o -> b ≠ S -> b ≠ e -> b ≠ l -> G' b = some o) : LA C G' a L := by
  obtain ⟨dv, ch, up, rd, hP⟩ := h
  have hpos := O.good.wf.pos
  have lists : ∀ (x : Addr) (f : Km457.Village -> Nat), G x = some (.lst (L.valley.map fun y => nv (f y))) -> G' x = some (.lst (L.valley.map fun y => nv (f y))) := fun x f hx =>
    k x _ hx (ne_of hx hS (by intro z; cases z)) (ne_of hx he (by intro z; exact refs_ne hpos f (HO.lst.inj z).symm)) (ne_of hx hl (by intro z; exact refs_ne hpos f (HO.lst.inj z).symm))
  refine ⟨dv, ch, up, rd, ⟨k a _ hP.ins ?_ ?_ ?_, lists ch _ hP.ch, lists up _ hP.up, lists rd _ hP.rd⟩⟩
  . refine ne_of hP.ins hS ?_
    intro z
    have := (HO.ins.inj z).2.2
    cases this
  . exact ne_of hP.ins he (by intro z; cases z)
  . exact ne_of hP.ins hl (by intro z; cases z)
theorem Lds.keep {C CS : Addr} {G G' : Hp} {S dx av e l : Addr} {es ls as : List Addr} {Ls : List Km462.Land} (hS : G S = some (.ins CS dx (sf av e l))) (he : G e = some (.lst (es.map V.ref))) (hl : G l = some (.lst (ls.map V.ref))) (h : Lds C G as Ls)
    (k : ∀ b o, G b = some o -> b ≠ S -> b ≠ e -> b ≠ l -> G' b = some o) : Lds C G' as Ls := ⟨h.1, fun i a ha => by
  obtain ⟨L, h1, h2, h3⟩ := h.2 i a ha
  exact ⟨L, h1, h2.keep hS he hl h3 k, h3⟩⟩
theorem Lds.snoc {C : Addr} {G : Hp} {as : List Addr} {Ls : List Km462.Land} {a : Addr} {L : Km462.Land} (h : Lds C G as Ls) (ha : LA C G a L) (O : LOK L) : Lds C G (as ++ [a]) (Ls ++ [L]) := by
  refine ⟨by simp [h.1], fun i b hb => ?_⟩
  by_cases hi : i < as.length
  . rw [List.getElem?_append_left hi] at hb
    obtain ⟨M, h1, h2⟩ := h.2 i b hb
    exact ⟨M, by rw [List.getElem?_append_left (by rw [<- h.1]; exact hi)]; exact h1, h2⟩
  . have hi2 := (List.getElem?_eq_some_iff.mp hb).1
    have e : i = as.length := by simp at hi2; omega
    subst e
    rw [List.getElem?_append_right (Nat.le_refl _)] at hb
    have : a = b := by simpa using hb
    subst this
    exact ⟨L, by rw [h.1, List.getElem?_append_right (Nat.le_refl _)]; simp, ha, O⟩
theorem Lds.last {C : Addr} {G : Hp} {as : List Addr} {Ls : List Km462.Land} {L : Km462.Land} (h : Lds C G as (Ls ++ [L])) : ∃ as' a, as = as' ++ [a] /\ LA C G a L /\ LOK L /\ Lds C G as' Ls := by
  have hl : as.length = Ls.length + 1 := by rw [h.1]; simp
  have hne : as ≠ [] := by intro z; rw [z] at hl; simp at hl
  refine ⟨as.dropLast, as.getLast hne, (List.dropLast_concat_getLast hne).symm, ?_⟩
  have hlast : as[Ls.length]? = some (as.getLast hne) := by
    rw [List.getLast_eq_getElem, List.getElem?_eq_getElem (by omega)]
    congr 2
    omega
  obtain ⟨M, h1, h2, h3⟩ := h.2 _ _ hlast
  rw [List.getElem?_append_right (Nat.le_refl _)] at h1
  have : L = M := by simpa using h1
  subst this
  refine ⟨h2, h3, by simp [hl], fun i a ha => ?_⟩
  have hi : i < as.dropLast.length := (List.getElem?_eq_some_iff.mp ha).1
  rw [List.length_dropLast] at hi
  have ha2 : as[i]? = some a := by
    rw [List.getElem?_dropLast, if_pos hi] at ha
    exact ha
  obtain ⟨M, g1, g2⟩ := h.2 i a ha2
  exact ⟨M, by rw [List.getElem?_append_left (by omega)] at g1; exact g1, g2⟩
abbrev toldD (d : Km462.Desk) (c : Km462.Call) : List V := (Km462Neutral.told (Km462.act d c).2).map V.int
def sp_call (C CS : Addr) (us : List V) (c : Km462.Call) : Sp := fun vs H Q _ => ∃ (G : Hp) (S : Addr) (d : Km462.Desk), vs = .ref S :: us /\ SA C CS G S d /\ Same G H /\ ∀ H' G' q, SA C CS G' S (Km462.act d c).1 -> Same G' H' -> Keep G H G' H' -> H q = none -> H' q = some (.lst (toldD d c)) -> Q (.ref q) H'
section
variable {P : Program} {w : World} {K : PySem.W.Frag} {mg : Str -> Option Value} {base : Heap} {C CS : Addr}
abbrev s_Session_state : Stmt := inClass (top 116) 5
theorem sc_Session_state : FnScope ["self"] ["self"] (defScope s_Session_state) := ⟨rfl, rfl, rfl, by decide +kernel, rfl, by decide +kernel, by decide +kernel⟩
theorem d_state (T : Txt mg) (Y : Sc K CS) {f : Addr} {fd : FuncData} (F : Fun K "state" "Session.state" s_Session_state f fd) (D_how_many_villages : Dn P w K mg base 1 "how_many_villages" ["valley"] (sp_how_many_villages C)) : FnOk P w K mg base CX0 2 f fd ["self"] (sp_call C CS [] .state) := by
  refine F.ok sc_Session_state (fun vs H Q E h => ?_) (fun cdv A outer s H vs Q E hr h => ?_)
  . obtain ⟨G, S, d, rfl, _⟩ := h; rfl
  . obtain ⟨G, S, d, rfl, ⟨dx, av, e, l, es, ls, I⟩, sm, k⟩ := h
    refine ⟨_, (pss_one (ps_ret (pe_lst (pa_cons (pe_dn D_how_many_villages hr (pa_cons (pe_fld (pv 0) rfl) pa_nil)) (pa_cons (pe_callB call_len_seq rfl T.len PySem.boot_len (pa_cons (pe_fld (pv 0) rfl) pa_nil)) (pa_cons (pe_callB call_len_seq rfl T.len PySem.boot_len (pa_cons (pe_fld (pv 0) rfl) pa_nil)) pa_nil)))))), ?_⟩
    refine ⟨_, rfl, S, CS, dx, _, _, rfl, sm _ _ I.ins, Y.cl, Y.va, sf_va, av, _, _, _, _, rfl, I.now.same sm, _, rfl, S, CS, dx, _, _, rfl, sm _ _ I.ins, Y.cl, Y.ea, sf_ea, e, _, rfl, .inl (SqL.of (sm _ _ I.ear)), _, rfl, S, CS, dx, _, _, rfl, sm _ _ I.ins, Y.cl, Y.la, sf_la, l, _, rfl, .inl (SqL.of (sm _ _ I.lat)), (by show 3 <= sizeLine; decide), fun q hq => ?_⟩
    refine k _ G q ⟨dx, av, e, l, es, ls, I⟩ (sm.new hq) (fun b o hb hg => ⟨by rw [upd_ne (ne_of_none hb hq)]; exact hb, hg⟩) hq ?_
    rw [upd_same]
    have e1 := I.past.1
    have e2 := I.fut.1
    rw [List.length_reverse] at e1 e2
    show some (HO.lst [nv d.now.valley.length, V.int ((es.map V.ref).length : Int), V.int ((ls.map V.ref).length : Int)]) = some (HO.lst [nv d.now.valley.length, nv d.past.length, nv d.future.length])
    rw [List.length_map, List.length_map, e1, e2]
abbrev s_Session_take_back : Stmt := inClass (top 116) 3
theorem sc_Session_take_back : FnScope ["self"] ["self"] (defScope s_Session_take_back) := ⟨rfl, rfl, rfl, by decide +kernel, rfl, by decide +kernel, by decide +kernel⟩
theorem d_take_back (T : Txt mg) (Y : Sc K CS) {f : Addr} {fd : FuncData} (F : Fun K "take_back" "Session.take_back" s_Session_take_back f fd) : FnOk P w K mg base CX0 1 f fd ["self"] (sp_call C CS [] .back) := by
  refine F.ok sc_Session_take_back (fun vs H Q E h => ?_) (fun cdv A outer s H vs Q E hr h => ?_)
  . obtain ⟨G, S, d, rfl, _⟩ := h; rfl
  . obtain ⟨G, S, d, rfl, ⟨dx, av, e, l, es, ls, I⟩, sm, k⟩ := h
    refine ⟨_, (pss_cons (ps_if (pt_cmpR op_eq (pe_callB call_len_seq rfl T.len PySem.boot_len (pa_cons (pe_fld (pv 0) rfl) pa_nil)) pe_int (nomark _)) (pss_one (ps_ret (pe_lst (pa_cons (pe_gi T.NONE_THERE) pa_nil)))) pss_nil)
      (pss_cons (ps_expr (pe_bm PySem.F.plainAttrs_list PySem.F.slot_list_append PySem.F.type_list_append mt_append (pe_fld (pv 0) rfl) (pa_cons (pe_fld (pv 0) rfl) pa_nil)))
      (pss_cons (ps_fld (pv 0) (pe_bm0 PySem.F.plainAttrs_list PySem.F.slot_list_pop PySem.F.type_list_pop mt_pop (pe_fld (pv 0) rfl)) rfl)
      (pss_one (ps_ret (pe_lst (pa_cons (pe_callB call_len_seq rfl T.len PySem.boot_len (pa_cons (pe_fld (pv 0) rfl) pa_nil)) pa_nil))))))), ?_⟩
    have e1 := I.past.1
    have e2 := I.fut.1
    rw [List.length_reverse] at e1 e2
    refine ⟨_, rfl, S, CS, dx, _, _, rfl, sm _ _ I.ins, Y.cl, Y.ea, sf_ea, e, _, rfl, .inl (SqL.of (sm _ _ I.ear)), rfl, _, rfl, iteB (c := decide (es.length = 0)) (by rw [List.length_map]; exact V.ncast (j := 0)) (fun hp => ?_) (fun hp => ?_)⟩
    . have hpast : d.past = [] := List.eq_nil_of_length_eq_zero (by rw [<- e1]; exact of_decide_eq_true hp)
      have ea : Km462.act d .back = (d, Km462.only (-2)) := by
        show (match d.past with | [] => _ | k :: r => _) = _
        rw [hpast]
      refine ⟨(by show 1 <= sizeLine; decide), fun q hq => ?_⟩
      refine k _ G q ?_ (sm.new hq) (fun b o hb hg => ⟨by rw [upd_ne (ne_of_none hb hq)]; exact hb, hg⟩) hq ?_
      . rw [ea]; exact ⟨dx, av, e, l, es, ls, I⟩
      . rw [upd_same]
        unfold toldD
        rw [ea]; rfl
    . obtain ⟨n, r, hpast⟩ : ∃ n r, d.past = n :: r := by
        cases hd : d.past with
        | nil => rw [hd] at e1; exact absurd e1 (of_decide_eq_false hp)
        | cons n r => exact ⟨n, r, rfl⟩
      have ea : Km462.act d .back = (⟨n, r, d.now :: d.future⟩, Km462.only ((r.length : Nat) : Int)) := by
        show (match d.past with | [] => _ | k :: r => _) = _
        rw [hpast]
      have hp2 := I.past
      rw [hpast, List.reverse_cons] at hp2
      obtain ⟨es', an, rfl, hn1, hn2, hes⟩ := hp2.last
      have nSl : S ≠ l := ne_of I.ins I.lat (by intro z; cases z)
      have nSe : S ≠ e := ne_of I.ins I.ear (by intro z; cases z)
      have hlen := I.len
      have small : ls.length < sizeLine := small_line (by omega)
      refine ⟨_, rfl, S, CS, dx, _, _, rfl, sm _ _ I.ins, Y.cl, Y.la, sf_la, .inl ⟨rfl, _, SqL.of (sm _ _ I.lat)⟩, _, rfl, S, CS, dx, _, _, rfl, sm _ _ I.ins, Y.cl, Y.va, sf_va, l, _, _, rfl, rfl, sm _ _ I.lat, by rw [List.length_map]; exact small, ?_⟩
      have i1 : (upd H l (.lst (ls.map V.ref ++ [V.ref av]))) S = some (.ins CS dx (sf av e l)) := by rw [upd_ne nSl]; exact sm _ _ I.ins
      have e1' : (upd H l (.lst (ls.map V.ref ++ [V.ref av]))) e = some (.lst ((es' ++ [an]).map V.ref)) := by rw [upd_ne I.el]; exact sm _ _ I.ear
      refine ⟨_, rfl, S, CS, dx, _, _, rfl, i1, Y.cl, Y.ea, sf_ea, .inl ⟨rfl, _, SqL.of e1'⟩, e, _, V.ref an, rfl, rfl, e1', by simp, ?_⟩
      have ed : ((es' ++ [an]).map V.ref).dropLast = es'.map V.ref := by simp
      rw [ed]
      have i2 : (upd (upd H l (.lst (ls.map V.ref ++ [V.ref av]))) e (.lst (es'.map V.ref))) S = some (.ins CS dx (sf av e l)) := by rw [upd_ne nSe]; exact i1
      refine ⟨_, rfl, S, CS, dx, _, rfl, i2, Y.cl, Y.va, (by show 3 < 1000; decide), ?_⟩
      have i3 : (upd (upd (upd H l (.lst (ls.map V.ref ++ [V.ref av]))) e (.lst (es'.map V.ref))) S (.ins CS dx (putF "valley" (.ref an) (sf av e l)))) S = some (.ins CS dx (sf an e l)) := by rw [upd_same]; rfl
      have e3 : (upd (upd (upd H l (.lst (ls.map V.ref ++ [V.ref av]))) e (.lst (es'.map V.ref))) S (.ins CS dx (putF "valley" (.ref an) (sf av e l)))) e = some (.lst (es'.map V.ref)) := by rw [upd_ne nSe.symm, upd_same]
      refine ⟨_, rfl, S, CS, dx, _, _, rfl, i3, Y.cl, Y.ea, sf_ea, e, _, rfl, .inl (SqL.of e3), (by show 1 <= sizeLine; decide), fun q hq => ?_⟩
      have kG : ∀ b o, G b = some o -> b ≠ S -> b ≠ e -> b ≠ l -> (upd (upd (upd G l (.lst (ls.map V.ref ++ [V.ref av]))) e (.lst (es'.map V.ref))) S (.ins CS dx (sf an e l))) b = some o := fun b o h h1 h2 h3 => by rw [upd_ne h1, upd_ne h2, upd_ne h3]; exact h
      have hq3 : (upd (upd (upd H l (.lst (ls.map V.ref ++ [V.ref av]))) e (.lst (es'.map V.ref))) S (.ins CS dx (putF "valley" (.ref an) (sf av e l)))) q = none := hq
      have nq1 : q ≠ S := fun z => by rw [z, i3] at hq3; cases hq3
      have nq2 : q ≠ e := fun z => by rw [z, e3] at hq3; cases hq3
      rw [upd_ne nq1, upd_ne nq2] at hq3
      have nq3 : q ≠ l := fun z => by rw [z, upd_same] at hq3; cases hq3
      rw [upd_ne nq3] at hq3
      refine k _ (upd (upd (upd G l (.lst (ls.map V.ref ++ [V.ref av]))) e (.lst (es'.map V.ref))) S (.ins CS dx (sf an e l))) q ?_ ?_ ?_ hq3 ?_
      . rw [ea]
        refine ⟨dx, an, e, l, es', ls ++ [av], ⟨upd_same, hn1.keep I.ins I.ear I.lat hn2 kG, hn2, by rw [upd_ne nSe.symm, upd_same], by rw [upd_ne nSl.symm, upd_ne I.el.symm, upd_same, List.map_append]; rfl, I.el, hes.keep I.ins I.ear I.lat kG, ?_, ?_⟩⟩
        . show Lds C _ (ls ++ [av]) (d.now :: d.future).reverse
          rw [List.reverse_cons]
          exact (I.fut.keep I.ins I.ear I.lat kG).snoc (I.now.keep I.ins I.ear I.lat I.ok kG) I.ok
        . rw [hpast] at hlen
          simp at hlen ⊢
          omega
      . intro b o h
        by_cases b1 : b = S
        . subst b1
          rw [upd_same] at h
          rw [upd_ne (Ne.symm nq1), i3]; exact h
        . rw [upd_ne b1] at h
          by_cases b2 : b = e
          . subst b2
            rw [upd_same] at h
            rw [upd_ne (Ne.symm nq2), e3]; exact h
          . rw [upd_ne b2] at h
            by_cases b3 : b = l
            . subst b3
              rw [upd_same] at h
              rw [upd_ne (Ne.symm nq3), upd_ne b1, upd_ne b2, upd_same]; exact h
            . rw [upd_ne b3] at h
              have hb := sm _ _ h
              rw [upd_ne (ne_of_none hb hq3), upd_ne b1, upd_ne b2, upd_ne b3]; exact hb
      . intro b o hb hg
        have b1 : b ≠ S := fun z => by rw [z, I.ins] at hg; cases hg
        have b2 : b ≠ e := fun z => by rw [z, I.ear] at hg; cases hg
        have b3 : b ≠ l := fun z => by rw [z, I.lat] at hg; cases hg
        exact ⟨by rw [upd_ne (ne_of_none hb hq3), upd_ne b1, upd_ne b2, upd_ne b3]; exact hb, by rw [upd_ne b1, upd_ne b2, upd_ne b3]; exact hg⟩
      . rw [upd_same]
        unfold toldD
        rw [ea]
        show some (HO.lst [V.int ((es'.map V.ref).length : Int)]) = some (HO.lst [nv r.length])
        have := hes.1
        rw [List.length_reverse] at this
        rw [List.length_map, this]
end
end VV
namespace VV
open PySem PySem.Spec PyProof.Rows L2
open Km457 (Valley at_)
theorem lok_opened {m : Nat} (h : m <= 100) : LOK (Km462.opened m) := by
  have hat : ∀ v, at_ [(⟨0, 0, m⟩ : Km457.Village)] v = if v = 0 then ⟨0, 0, m⟩ else ⟨0, 0, 0⟩ := by
    intro v
    cases v with
    | zero => rfl
    | succ v => rfl
  refine ⟨⟨⟨by show 0 < 1; decide, fun v h0 hv => ?_, fun v h0 hv => ?_⟩, by show 1 <= 10; decide, fun v => ?_, fun v => ?_, rfl⟩, by show 0 < 1; decide, rfl, rfl⟩
  . have : v < 1 := hv
    omega
  . have : v < 1 := hv
    omega
  . show (at_ [(⟨0, 0, m⟩ : Km457.Village)] v).long <= 1000
    rw [hat]; split <;> exact Nat.zero_le _
  . show (at_ [(⟨0, 0, m⟩ : Km457.Village)] v).many <= 100
    rw [hat]
    split
    . exact h
    . exact Nat.zero_le _
section
variable {P : Program} {w : World} {K : PySem.W.Frag} {mg : Str -> Option Value} {base : Heap} {C CS : Addr}
abbrev s_Session_do_again : Stmt := inClass (top 116) 4
theorem sc_Session_do_again : FnScope ["self"] ["self"] (defScope s_Session_do_again) := ⟨rfl, rfl, rfl, by decide +kernel, rfl, by decide +kernel, by decide +kernel⟩
theorem d_do_again (T : Txt mg) (Y : Sc K CS) {f : Addr} {fd : FuncData} (F : Fun K "do_again" "Session.do_again" s_Session_do_again f fd) : FnOk P w K mg base CX0 1 f fd ["self"] (sp_call C CS [] .again) := by
  refine F.ok sc_Session_do_again (fun vs H Q E h => ?_) (fun cdv A outer s H vs Q E hr h => ?_)
  . obtain ⟨G, S, d, rfl, _⟩ := h; rfl
  . obtain ⟨G, S, d, rfl, ⟨dx, av, e, l, es, ls, I⟩, sm, k⟩ := h
    refine ⟨_, (pss_cons (ps_if (pt_cmpR op_eq (pe_callB call_len_seq rfl T.len PySem.boot_len (pa_cons (pe_fld (pv 0) rfl) pa_nil)) pe_int (nomark _)) (pss_one (ps_ret (pe_lst (pa_cons (pe_gi T.NONE_THERE) pa_nil)))) pss_nil)
      (pss_cons (ps_expr (pe_bm PySem.F.plainAttrs_list PySem.F.slot_list_append PySem.F.type_list_append mt_append (pe_fld (pv 0) rfl) (pa_cons (pe_fld (pv 0) rfl) pa_nil)))
      (pss_cons (ps_fld (pv 0) (pe_bm0 PySem.F.plainAttrs_list PySem.F.slot_list_pop PySem.F.type_list_pop mt_pop (pe_fld (pv 0) rfl)) rfl)
      (pss_one (ps_ret (pe_lst (pa_cons (pe_callB call_len_seq rfl T.len PySem.boot_len (pa_cons (pe_fld (pv 0) rfl) pa_nil)) pa_nil))))))), ?_⟩
    have e1 := I.past.1
    have e2 := I.fut.1
    rw [List.length_reverse] at e1 e2
    refine ⟨_, rfl, S, CS, dx, _, _, rfl, sm _ _ I.ins, Y.cl, Y.la, sf_la, l, _, rfl, .inl (SqL.of (sm _ _ I.lat)), rfl, _, rfl, iteB (c := decide (ls.length = 0)) (by rw [List.length_map]; exact V.ncast (j := 0)) (fun hp => ?_) (fun hp => ?_)⟩
    . have hfut : d.future = [] := List.eq_nil_of_length_eq_zero (by rw [<- e2]; exact of_decide_eq_true hp)
      have ea : Km462.act d .again = (d, Km462.only (-2)) := by
        show (match d.future with | [] => _ | k :: r => _) = _
        rw [hfut]
      refine ⟨(by show 1 <= sizeLine; decide), fun q hq => ?_⟩
      refine k _ G q ?_ (sm.new hq) (fun b o hb hg => ⟨by rw [upd_ne (ne_of_none hb hq)]; exact hb, hg⟩) hq ?_
      . rw [ea]; exact ⟨dx, av, e, l, es, ls, I⟩
      . rw [upd_same]
        unfold toldD
        rw [ea]; rfl
    . obtain ⟨n, r, hfut⟩ : ∃ n r, d.future = n :: r := by
        cases hd : d.future with
        | nil => rw [hd] at e2; exact absurd e2 (of_decide_eq_false hp)
        | cons n r => exact ⟨n, r, rfl⟩
      have hlen := I.len
      have htake : (d.now :: d.past).take 20 = d.now :: d.past := by
        apply List.take_of_length_le
        rw [hfut] at hlen
        simp at hlen ⊢
        omega
      have ea : Km462.act d .again = (⟨n, d.now :: d.past, r⟩, Km462.only ((r.length : Nat) : Int)) := by
        show (match d.future with | [] => _ | k :: r => ((⟨k, (d.now :: d.past).take 20, r⟩ : Km462.Desk), _)) = _
        rw [hfut, htake]
      have hp2 := I.fut
      rw [hfut, List.reverse_cons] at hp2
      obtain ⟨ls', an, rfl, hn1, hn2, hls⟩ := hp2.last
      have nSl : S ≠ l := ne_of I.ins I.lat (by intro z; cases z)
      have nSe : S ≠ e := ne_of I.ins I.ear (by intro z; cases z)
      have small : es.length < sizeLine := small_line (by omega)
      refine ⟨_, rfl, S, CS, dx, _, _, rfl, sm _ _ I.ins, Y.cl, Y.ea, sf_ea, .inl ⟨rfl, _, SqL.of (sm _ _ I.ear)⟩, _, rfl, S, CS, dx, _, _, rfl, sm _ _ I.ins, Y.cl, Y.va, sf_va, e, _, _, rfl, rfl, sm _ _ I.ear, by rw [List.length_map]; exact small, ?_⟩
      have i1 : (upd H e (.lst (es.map V.ref ++ [V.ref av]))) S = some (.ins CS dx (sf av e l)) := by rw [upd_ne nSe]; exact sm _ _ I.ins
      have e1' : (upd H e (.lst (es.map V.ref ++ [V.ref av]))) l = some (.lst ((ls' ++ [an]).map V.ref)) := by rw [upd_ne I.el.symm]; exact sm _ _ I.lat
      refine ⟨_, rfl, S, CS, dx, _, _, rfl, i1, Y.cl, Y.la, sf_la, .inl ⟨rfl, _, SqL.of e1'⟩, l, _, V.ref an, rfl, rfl, e1', by simp, ?_⟩
      have ed : ((ls' ++ [an]).map V.ref).dropLast = ls'.map V.ref := by simp
      rw [ed]
      have i2 : (upd (upd H e (.lst (es.map V.ref ++ [V.ref av]))) l (.lst (ls'.map V.ref))) S = some (.ins CS dx (sf av e l)) := by rw [upd_ne nSl]; exact i1
      refine ⟨_, rfl, S, CS, dx, _, rfl, i2, Y.cl, Y.va, (by show 3 < 1000; decide), ?_⟩
      have i3 : (upd (upd (upd H e (.lst (es.map V.ref ++ [V.ref av]))) l (.lst (ls'.map V.ref))) S (.ins CS dx (putF "valley" (.ref an) (sf av e l)))) S = some (.ins CS dx (sf an e l)) := by rw [upd_same]; rfl
      have e3 : (upd (upd (upd H e (.lst (es.map V.ref ++ [V.ref av]))) l (.lst (ls'.map V.ref))) S (.ins CS dx (putF "valley" (.ref an) (sf av e l)))) l = some (.lst (ls'.map V.ref)) := by rw [upd_ne nSl.symm, upd_same]
      refine ⟨_, rfl, S, CS, dx, _, _, rfl, i3, Y.cl, Y.la, sf_la, l, _, rfl, .inl (SqL.of e3), (by show 1 <= sizeLine; decide), fun q hq => ?_⟩
      have kG : ∀ b o, G b = some o -> b ≠ S -> b ≠ e -> b ≠ l -> (upd (upd (upd G e (.lst (es.map V.ref ++ [V.ref av]))) l (.lst (ls'.map V.ref))) S (.ins CS dx (sf an e l))) b = some o := fun b o h h1 h2 h3 => by rw [upd_ne h1, upd_ne h3, upd_ne h2]; exact h
      have hq3 : (upd (upd (upd H e (.lst (es.map V.ref ++ [V.ref av]))) l (.lst (ls'.map V.ref))) S (.ins CS dx (putF "valley" (.ref an) (sf av e l)))) q = none := hq
      have nq1 : q ≠ S := fun z => by rw [z, i3] at hq3; cases hq3
      have nq2 : q ≠ l := fun z => by rw [z, e3] at hq3; cases hq3
      rw [upd_ne nq1, upd_ne nq2] at hq3
      have nq3 : q ≠ e := fun z => by rw [z, upd_same] at hq3; cases hq3
      rw [upd_ne nq3] at hq3
      refine k _ (upd (upd (upd G e (.lst (es.map V.ref ++ [V.ref av]))) l (.lst (ls'.map V.ref))) S (.ins CS dx (sf an e l))) q ?_ ?_ ?_ hq3 ?_
      . rw [ea]
        refine ⟨dx, an, e, l, es ++ [av], ls', ⟨upd_same, hn1.keep I.ins I.ear I.lat hn2 kG, hn2, by rw [upd_ne nSe.symm, upd_ne I.el, upd_same, List.map_append]; rfl, by rw [upd_ne nSl.symm, upd_same], I.el, ?_, hls.keep I.ins I.ear I.lat kG, ?_⟩⟩
        . show Lds C _ (es ++ [av]) (d.now :: d.past).reverse
          rw [List.reverse_cons]
          exact (I.past.keep I.ins I.ear I.lat kG).snoc (I.now.keep I.ins I.ear I.lat I.ok kG) I.ok
        . rw [hfut] at hlen
          simp at hlen ⊢
          omega
      . intro b o h
        by_cases b1 : b = S
        . subst b1
          rw [upd_same] at h
          rw [upd_ne (Ne.symm nq1), i3]; exact h
        . rw [upd_ne b1] at h
          by_cases b2 : b = l
          . subst b2
            rw [upd_same] at h
            rw [upd_ne (Ne.symm nq2), e3]; exact h
          . rw [upd_ne b2] at h
            by_cases b3 : b = e
            . subst b3
              rw [upd_same] at h
              rw [upd_ne (Ne.symm nq3), upd_ne b1, upd_ne b2, upd_same]; exact h
            . rw [upd_ne b3] at h
              have hb := sm _ _ h
              rw [upd_ne (ne_of_none hb hq3), upd_ne b1, upd_ne b2, upd_ne b3]; exact hb
      . intro b o hb hg
        have b1 : b ≠ S := fun z => by rw [z, I.ins] at hg; cases hg
        have b2 : b ≠ e := fun z => by rw [z, I.ear] at hg; cases hg
        have b3 : b ≠ l := fun z => by rw [z, I.lat] at hg; cases hg
        exact ⟨by rw [upd_ne (ne_of_none hb hq3), upd_ne b1, upd_ne b3, upd_ne b2]; exact hb, by rw [upd_ne b1, upd_ne b3, upd_ne b2]; exact hg⟩
      . rw [upd_same]
        unfold toldD
        rw [ea]
        show some (HO.lst [V.int ((ls'.map V.ref).length : Int)]) = some (HO.lst [nv r.length])
        have := hls.1
        rw [List.length_reverse] at this
        rw [List.length_map, this]
abbrev s_Session_begin : Stmt := inClass (top 116) 1
theorem sc_Session_begin : FnScope ["self", "many"] ["self", "many"] (defScope s_Session_begin) := ⟨rfl, rfl, rfl, by decide +kernel, rfl, by decide +kernel, by decide +kernel⟩
theorem d_begin (T : Txt mg) (Y : Sc K CS) {f : Addr} {fd : FuncData} (F : Fun K "begin" "Session.begin" s_Session_begin f fd) (D_is_many : Dn P w K mg base 1 "is_many" ["many"] sp_is_many) (D_Valley : Mc P w K mg base C 1 "Valley" ["self", "many"] (spInitV C)) (m : Nat) : FnOk P w K mg base CX0 3 f fd ["self", "many"] (sp_call C CS [nv m] (.start m)) := by
  refine F.ok sc_Session_begin (fun vs H Q E h => ?_) (fun cdv A outer s H vs Q E hr h => ?_)
  . obtain ⟨G, S, d, rfl, _⟩ := h; rfl
  . obtain ⟨G, S, d, rfl, ⟨dx, av, e, l, es, ls, I⟩, sm, k⟩ := h
    refine ⟨_, (pss_cons (ps_if (pt_not (pt_val (pe_dn D_is_many hr (pa_cons (pv 1) pa_nil)))) (pss_one (ps_ret (pe_lst (pa_cons (pe_gi T.WRONG) pa_nil)))) pss_nil)
      (pss_cons (ps_fld (pv 0) (pe_mk D_Valley hr (pa_cons (pv 1) pa_nil)) rfl)
      (pss_cons (ps_fld (pv 0) (pe_lst pa_nil) rfl)
      (pss_cons (ps_fld (pv 0) (pe_lst pa_nil) rfl)
      (pss_one (ps_ret (pe_lst (pa_cons pe_int pa_nil)))))))), ?_⟩
    refine ⟨_, rfl, m, rfl, _, rfl, iteB (c := !decide (m <= 100)) rfl (fun hp => ?_) (fun hp => ?_)⟩
    . have hm : ¬ m <= 100 := by simpa using hp
      have ea : Km462.act d (.start m) = (d, Km462.only (-22)) := by
        show (if 100 < m then _ else _) = _
        rw [if_pos (by omega)]
      refine ⟨(by show 1 <= sizeLine; decide), fun q hq => ?_⟩
      refine k _ G q ?_ (sm.new hq) (fun b o hb hg => ⟨by rw [upd_ne (ne_of_none hb hq)]; exact hb, hg⟩) hq ?_
      . rw [ea]; exact ⟨dx, av, e, l, es, ls, I⟩
      . rw [upd_same]
        unfold toldD
        rw [ea]; rfl
    . have hm : m <= 100 := by simpa using hp
      have ea : Km462.act d (.start m) = (⟨Km462.opened m, [], []⟩, Km462.only 0) := by
        show (if 100 < m then _ else _) = _
        rw [if_neg (by omega)]
      refine ⟨_, rfl, ?_⟩
      intro x dv nx ndv nev
      refine ⟨x, dv, m, rfl, upd_same, fun H1 ch up rd hv hch hup hrd _ _ _ kp => ⟨rfl, ?_⟩⟩
      have s1 : Same H H1 := Same.made nx ndv kp
      have iS : H1 S = some (.ins CS dx (sf av e l)) := s1 _ _ (sm _ _ I.ins)
      refine ⟨_, rfl, S, CS, dx, _, rfl, iS, Y.cl, Y.va, (by show 3 < 1000; decide), ?_⟩
      refine ⟨Nat.zero_le _, fun e' he' => ⟨_, rfl, S, CS, dx, _, rfl, by rw [upd_ne (ne_of_none upd_same he')]; exact upd_same, Y.cl, Y.ea, (by show 3 < 1000; decide), ?_⟩⟩
      refine ⟨Nat.zero_le _, fun l' hl' => ⟨_, rfl, S, CS, dx, _, rfl, by rw [upd_ne (ne_of_none upd_same hl')]; exact upd_same, Y.cl, Y.la, (by show 3 < 1000; decide), ?_⟩⟩
      refine ⟨(by show 1 <= sizeLine; decide), fun q hq => ?_⟩
      have nSe' : e' ≠ S := fun z => by rw [z, upd_same] at he'; cases he'
      rw [upd_ne nSe'] at he'
      have nSl' : l' ≠ S := fun z => by rw [z, upd_same] at hl'; cases hl'
      rw [upd_ne nSl'] at hl'
      have nel' : l' ≠ e' := fun z => by rw [z, upd_same] at hl'; cases hl'
      rw [upd_ne nel', upd_ne nSl'] at hl'
      have nSq : q ≠ S := fun z => by rw [z, upd_same] at hq; cases hq
      rw [upd_ne nSq] at hq
      have nlq : q ≠ l' := fun z => by rw [z, upd_same] at hq; cases hq
      rw [upd_ne nlq, upd_ne nSq] at hq
      have neq : q ≠ e' := fun z => by rw [z, upd_same] at hq; cases hq
      rw [upd_ne neq, upd_ne nSq] at hq
      have hqH : H q = none := s1.free hq
      have heH : H e' = none := s1.free he'
      have hlH : H l' = none := s1.free hl'
      have neh : ∀ {b : Addr} {o : HO}, H1 b = some o -> b ≠ e' /\ b ≠ l' /\ b ≠ q := fun {b o} h => ⟨ne_of_none h he', ne_of_none h hl', ne_of_none h hq⟩
      generalize hH' : upd _ q (HO.lst [V.int 0]) = H'
      have old : ∀ b o, H1 b = some o -> b ≠ S -> H' b = some o := fun b o h hS => by
        obtain ⟨a1, a2, a3⟩ := neh h
        rw [<- hH', upd_ne a3, upd_ne hS, upd_ne a2, upd_ne hS, upd_ne a1, upd_ne hS]; exact h
      have aS : H' S = some (.ins CS dx (sf x e' l')) := by rw [<- hH', upd_ne nSq.symm, upd_same]; rfl
      have ae : H' e' = some (.lst []) := by rw [<- hH', upd_ne neq.symm, upd_ne nSe', upd_ne nel'.symm, upd_ne nSe', upd_same]
      have al : H' l' = some (.lst []) := by rw [<- hH', upd_ne nlq.symm, upd_ne nSl', upd_same]
      have xS : x ≠ S := fun z => by rw [z, sm _ _ I.ins] at nx; cases nx
      have hup1 : (upd (upd H dv (.own x)) x (.ins C dv [])) up = none := hup
      have fresh : ∀ b, (upd (upd H dv (.own x)) x (.ins C dv [])) b = none -> H b = none /\ b ≠ S := fun b hb => by
        have b1 : b ≠ x := fun z => by rw [z, upd_same] at hb; cases hb
        rw [upd_ne b1] at hb
        have b2 : b ≠ dv := fun z => by rw [z, upd_same] at hb; cases hb
        rw [upd_ne b2] at hb
        exact ⟨hb, fun z => by rw [z, sm _ _ I.ins] at hb; cases hb⟩
      refine k H' (inc G H H') q ?_ (inc_same G H H') (inc_keep fun b o hb hg => old b o (s1 _ _ hb) (fun z => by rw [z, I.ins] at hg; cases hg)) hqH ?_
      . rw [ea]
        refine ⟨dx, x, e', l', [], [], ⟨by rw [inc_in I.ins]; exact aS, ⟨dv, ch, up, rd, ⟨?_, ?_, ?_, ?_⟩⟩, lok_opened hm, by rw [inc_new heH]; exact ae, by rw [inc_new hlH]; exact al, nel'.symm, ⟨rfl, fun i a h => by simp at h⟩, ⟨rfl, fun i a h => by simp at h⟩, Nat.zero_le _⟩⟩
        . rw [inc_new nx, old x _ hv.ins xS]
          show _ = some (HO.ins C dv (vf ch up rd 0 (setOf 1 []) (setOf 1 [])))
          rw [setOf_nil]
        . rw [inc_new (fresh ch hch).1, old ch _ hv.ch (fresh ch hch).2]; rfl
        . rw [inc_new (fresh up hup).1, old up _ hv.up (fresh up hup).2]; rfl
        . rw [inc_new (fresh rd hrd).1, old rd _ hv.rd (fresh rd hrd).2]; rfl
      . rw [<- hH', upd_same]
        unfold toldD
        rw [ea]; rfl
end
end VV
namespace VV
open PySem PySem.Spec PyProof.Rows L2
open Km457 (Valley at_)
theorem chg_isChg : ∀ r ∈ chgT, ∀ gs, isChg (r.mc gs) = true := by
  intro r hr gs
  simp only [chgT, List.mem_cons, List.not_mem_nil, or_false] at hr
  rcases hr with h | h | h | h | h | h | h | h | h <;> subst h <;> rfl
theorem cut_last (xs : List V) : cutV xs (some (-20)) none = xs.drop (xs.length - 20) := by
  unfold cutV
  have e1 : HT.sIx xs.length 0 (some (-20)) = xs.length - 20 := by
    show (if (-20 : Int) < 0 then (-20 + (xs.length : Int)).toNat else min (-20 : Int).toNat xs.length) = _
    rw [if_pos (by decide)]
    omega
  rw [e1, HT.sIx_none]
  apply List.take_of_length_le
  rw [List.length_drop]
  exact Nat.le_refl _
theorem Lds.drop {C : Addr} {G : Hp} {as : List Addr} {Ls : List Km462.Land} (h : Lds C G as Ls) (n : Nat) : Lds C G (as.drop n) (Ls.drop n) := by
  refine ⟨by rw [List.length_drop, List.length_drop, h.1], fun i a ha => ?_⟩
  rw [List.getElem?_drop] at ha
  obtain ⟨L, h1, h2⟩ := h.2 _ _ ha
  exact ⟨L, by rw [List.getElem?_drop]; exact h1, h2⟩
theorem take_rev {α : Type} (l : List α) (n : Nat) : (l.take n).reverse = l.reverse.drop (l.length - n) := by
  rw [List.reverse_take]
theorem LA.at {C : Addr} {G G' : Hp} {a : Addr} {L : Km462.Land} (h : LA C G a L) (s : Same G G') : LA C G' a L := VA.same h s
def sp_alter (C CS : Addr) : Sp := fun vs H Q _ => ∃ r ∈ chgT, ∃ (G : Hp) (S : Addr) (d : Km462.Desk) (g : Addr) (gs : List Nat), vs = [.ref S, nv r.no, .ref g] /\ SA C CS G S d /\ Same G H /\ H g = some (.lst (gs.map nv)) /\ gs.length = r.ar /\
  ∀ H' G' q, SA C CS G' S (Km462.act d (r.mc gs)).1 -> Same G' H' -> Keep G H G' H' -> H q = none -> H' q = some (.lst (toldD d (r.mc gs))) -> Q (.ref q) H'
section
variable {P : Program} {w : World} {K : PySem.W.Frag} {mg : Str -> Option Value} {base : Heap} {C CS : Addr}
abbrev s_Session_alter : Stmt := inClass (top 116) 2
theorem sc_Session_alter : FnScope ["self", "number", "given", "tried", "told", "kept"] ["self", "number", "given"] (defScope s_Session_alter) := ⟨rfl, rfl, rfl, by decide +kernel, rfl, by decide +kernel, by decide +kernel⟩
theorem d_alter (T : Txt mg) (Y : Sc K CS) {f : Addr} {fd : FuncData} (F : Fun K "alter" "Session.alter" s_Session_alter f fd) (D_copy_of : Dn P w K mg base 3 "copy_of" ["valley"] (sp_copy_of C)) (D_change : Dn P w K mg base 7 "change" ["number", "valley", "given"] (sp_chgAll C)) : FnOk P w K mg base CX0 8 f fd ["self", "number", "given"] (sp_alter C CS) := by
  refine F.ok sc_Session_alter (fun vs H Q E h => ?_) (fun cdv A outer s H vs Q E hr h => ?_)
  . obtain ⟨r, hr, G, S, d, g, gs, rfl, _⟩ := h; rfl
  . obtain ⟨r, hr2, G, S, d, g, gs, rfl, ⟨dx, av, e, l, es, ls, I⟩, sm, hg, hgs, k⟩ := h
    refine ⟨_, (pss_cons (ps_set (i := 3) sc_Session_alter.nd rfl (Or.inl rfl) (pe_dn D_copy_of hr (pa_cons (pe_fld (pv 0) rfl) pa_nil)))
      (pss_cons (ps_set (i := 4) sc_Session_alter.nd rfl (Or.inl rfl) (pe_dn D_change hr (pa_cons (pv 1) (pa_cons (pv 3) (pa_cons (pv 2) pa_nil)))))
      (pss_cons (ps_if (pt_cmpR op_ge (pe_ix ix_list (pv 4) pe_int (fun _ _ => rfl)) pe_int (nomark _)) (pss_cons (ps_set (i := 5) sc_Session_alter.nd rfl (Or.inl rfl) (pe_op op_cat (pe_fld (pv 0) rfl) (pe_lst (pa_cons (pe_fld (pv 0) rfl) pa_nil))))
      (pss_cons (ps_fld (pv 0) (pe_slice sl_list (pv 5) (po_some (pe_un un_neg (pe_gi T.MOST_TAKEN_BACK))) po_none) rfl)
      (pss_cons (ps_fld (pv 0) (pe_lst pa_nil) rfl)
      (pss_one (ps_fld (pv 0) (pv 3) rfl))))) pss_nil)
      (pss_one (ps_ret (pv 4)))))), ?_⟩
    have hc := chg_isChg r hr2 gs
    have eact := act_chg d (r.mc gs) hc
    have hiS := sm _ _ I.ins
    refine ⟨_, rfl, S, CS, dx, _, _, rfl, hiS, Y.cl, Y.va, sf_va, av, d.now, rfl, I.now.at sm, fun H1 a1 d1 c1 u1 r1 o1 => ?_⟩
    refine ⟨_, rfl, _, rfl, _, rfl, r, hr2, _, _, rfl, H, a1, d.now, g, gs, d1, c1, u1, r1, rfl, o1, I.ok, hg, hgs, fun H2 q d2 c2 u2 r2 o2 hq hq2 => ?_⟩
    have s2 := o2.same
    have hlok := lok_chg I.ok (r.mc gs) hc
    have etold : toldD d (r.mc gs) = told1 d.now (r.mc gs) := by
      unfold toldD told1
      rw [eact]
    have hv0 : (told1 d.now (r.mc gs))[0]? = some (V.int (Km462.act ⟨d.now, [], []⟩ (r.mc gs)).2.value) := rfl
    refine ⟨_, rfl, q, _, _, _, rfl, rfl, SqL.of hq2, at_of (j := 0) rfl hv0, _, _, rfl, rfl, _, rfl, ite2 (fun hp => ?_) (fun hp => ?_)⟩
    . -- it is done
      have hval : 0 <= (Km462.act ⟨d.now, [], []⟩ (r.mc gs)).2.value := of_decide_eq_true hp
      have ea : (Km462.act d (r.mc gs)).1 = d.become (chg d.now (r.mc gs)) := by rw [eact, if_pos hval]
      have i2 := s2 _ _ hiS
      have e2 := s2 _ _ (sm _ _ I.ear)
      have hpl := I.past.1
      rw [List.length_reverse] at hpl
      have hlen := I.len
      refine ⟨_, rfl, S, CS, dx, _, _, rfl, i2, Y.cl, Y.ea, sf_ea, _, rfl, S, CS, dx, _, _, rfl, i2, Y.cl, Y.va, sf_va, (by show 1 <= sizeLine; decide), fun t1 ht1 => ?_⟩
      have e3 : (upd H2 t1 (.lst [V.ref av])) e = some (.lst (es.map V.ref)) := by rw [upd_ne (ne_of_none e2 ht1)]; exact e2
      refine ⟨e, t1, _, _, rfl, rfl, e3, upd_same, ?_, fun t2 ht2 => ?_⟩
      . rw [List.length_map]
        exact Nat.le_of_lt (small_line (by simp; omega))
      have s3 : Same H2 (upd (upd H2 t1 (.lst [V.ref av])) t2 (.lst (es.map V.ref ++ [V.ref av]))) := ((Same.refl H2).new ht1).new ht2
      generalize hH3 : upd (upd H2 t1 (.lst [V.ref av])) t2 (.lst (es.map V.ref ++ [V.ref av])) = H3 at s3
      have ht2v : H3 t2 = some (.lst (es.map V.ref ++ [V.ref av])) := by rw [<- hH3, upd_same]
      refine ⟨_, rfl, _, rfl, _, rfl, t2, _, rfl, SqL.of ht2v, fun e' he' => ⟨_, rfl, S, CS, dx, _, rfl, by rw [upd_ne (ne_of_none (s3 _ _ i2) he')]; exact s3 _ _ i2, Y.cl, Y.ea, (by show 3 < 1000; decide), ?_⟩⟩
      rw [show -(20 : Int) = (-20 : Int) from rfl, cut_last]
      have ees : (es.map V.ref ++ [V.ref av]).drop ((es.map V.ref ++ [V.ref av]).length - 20) = ((es ++ [av]).drop (es.length + 1 - 20)).map V.ref := by
        have h1 : es.map V.ref ++ [V.ref av] = (es ++ [av]).map V.ref := by simp
        rw [h1, List.length_map, List.length_append, List.map_drop]
        rfl
      rw [ees]
      refine ⟨Nat.zero_le _, fun l' hl' => ⟨_, rfl, S, CS, dx, _, rfl, by rw [upd_ne (ne_of_none upd_same hl')]; exact upd_same, Y.cl, Y.la, (by show 3 < 1000; decide), ?_⟩⟩
      refine ⟨_, rfl, _, rfl, S, CS, dx, _, rfl, upd_same, Y.cl, Y.va, (by show 3 < 1000; decide), ?_⟩
      refine ⟨_, rfl, ?_⟩
      have nSe' : e' ≠ S := fun z => by rw [z, s3 _ _ i2] at he'; cases he'
      have nSl' : l' ≠ S := fun z => by rw [z, upd_same] at hl'; cases hl'
      rw [upd_ne nSl'] at hl'
      have nel' : l' ≠ e' := fun z => by rw [z, upd_same] at hl'; cases hl'
      rw [upd_ne nel'] at hl'
      have heH : H e' = none := s2.free (s3.free he')
      have hlH : H l' = none := s2.free (s3.free hl')
      generalize hH' : upd (upd (upd _ l' _) S _) S _ = H'
      have old : ∀ b o, H3 b = some o -> b ≠ S -> H' b = some o := fun b o h hS => by
        rw [<- hH', upd_ne hS, upd_ne hS, upd_ne (ne_of_none h hl'), upd_ne hS, upd_ne (ne_of_none h he')]; exact h
      have aS : H' S = some (.ins CS dx (sf a1 e' l')) := by rw [<- hH', upd_same]; rfl
      have ae : H' e' = some (.lst (((es ++ [av]).drop (es.length + 1 - 20)).map V.ref)) := by rw [<- hH', upd_ne nSe', upd_ne nSe', upd_ne nel'.symm, upd_ne nSe', upd_same]
      have al : H' l' = some (.lst []) := by rw [<- hH', upd_ne nSl', upd_ne nSl', upd_same]
      have keepH : ∀ b o, H b = some o -> b ≠ S -> H' b = some o := fun b o h hS => old b o (s3 _ _ (s2 _ _ h)) hS
      have kG : ∀ b o, G b = some o -> b ≠ S -> b ≠ e -> b ≠ l -> (inc G H H') b = some o := fun b o h h1 _ _ => by rw [inc_in h]; exact keepH b o (sm _ _ h) h1
      have notS : ∀ {b : Addr} {o : HO}, H b = none -> b ≠ S := fun {b _} hb z => by rw [z, hiS] at hb; cases hb
      refine k H' (inc G H H') q ?_ (inc_same G H H') (inc_keep fun b o hb hg => keepH b o hb (fun z => by rw [z, I.ins] at hg; cases hg)) hq ?_
      . rw [ea]
        have hPo := o2.at_
        refine ⟨dx, a1, e', l', (es ++ [av]).drop (es.length + 1 - 20), [], ⟨by rw [inc_in I.ins]; exact aS, ⟨d2, c2, u2, r2, ⟨?_, ?_, ?_, ?_⟩⟩, hlok, by rw [inc_new heH]; exact ae, by rw [inc_new hlH]; exact al, nel'.symm, ?_, ⟨rfl, fun i a h => by simp at h⟩, ?_⟩⟩
        . rw [inc_new o2.na]; exact old _ _ (s3 _ _ hPo.ins) (notS (o := .lst []) o2.na)
        . rw [inc_new o2.nch]; exact old _ _ (s3 _ _ hPo.ch) (notS (o := .lst []) o2.nch)
        . rw [inc_new o2.nup]; exact old _ _ (s3 _ _ hPo.up) (notS (o := .lst []) o2.nup)
        . rw [inc_new o2.nrd]; exact old _ _ (s3 _ _ hPo.rd) (notS (o := .lst []) o2.nrd)
        . show Lds C _ _ ((d.now :: d.past).take 20).reverse
          rw [take_rev, List.reverse_cons, List.length_cons, <- hpl]
          exact ((I.past.keep I.ins I.ear I.lat kG).snoc (I.now.keep I.ins I.ear I.lat I.ok kG) I.ok).drop _
        . show ((d.now :: d.past).take 20).length + ([] : List Km462.Land).length <= 20
          rw [List.length_take]
          simp
          omega
      . rw [etold, <- hq2]
        have hqS : q ≠ S := notS (o := .lst []) hq
        rw [old q _ (s3 _ _ hq2) hqS, hq2]
    . -- it is refused
      have hval : ¬ 0 <= (Km462.act ⟨d.now, [], []⟩ (r.mc gs)).2.value := fun z => hp (decide_eq_true z)
      have ea : (Km462.act d (r.mc gs)).1 = d := by rw [eact, if_neg hval]
      refine ⟨_, rfl, k H2 G q ?_ (sm.trans s2) (fun b o hb hg => ⟨s2 _ _ hb, hg⟩) hq ?_⟩
      . rw [ea]; exact ⟨dx, av, e, l, es, ls, I⟩
      . rw [etold]; exact hq2
end
end VV
namespace VV
open PySem PySem.Spec PyProof.Rows L2
open Km457 (Valley at_)
inductive Cal : Nat -> List Nat -> Km462.Call -> Prop
  | start (m : Nat) : Cal 0 [m] (.start m)
  | back : Cal 31 [] .back
  | again : Cal 32 [] .again
  | state : Cal 33 [] .state
  | chg (r : Tr) (hr : r ∈ chgT) (gs : List Nat) (h : gs.length = r.ar) : Cal r.no gs (r.mc gs)
  | ask (r : Tr) (hr : r ∈ askT) (gs : List Nat) (h : gs.length = r.ar) : Cal r.no gs (r.mc gs)
theorem ask_act : ∀ r ∈ askT, ∀ (d : Km462.Desk) (gs : List Nat), Km462.act d (r.mc gs) = (d, (Km462.act ⟨d.now, [], []⟩ (r.mc gs)).2) := by
  intro r hr d gs
  simp only [askT, List.mem_cons, List.not_mem_nil, or_false] at hr
  rcases hr with h | h | h | h | h | h | h | h | h | h | h | h | h | h | h | h | h | h | h | h | h <;> subst h <;> rfl
theorem no_ask : ∀ r ∈ askT, r.no ≠ 0 /\ r.no ≠ 31 /\ r.no ≠ 32 /\ r.no ≠ 33 /\ (nmOf chgT (r.no : Int)).isSome = false := by
  intro r hr
  simp only [askT, List.mem_cons, List.not_mem_nil, or_false] at hr
  rcases hr with h | h | h | h | h | h | h | h | h | h | h | h | h | h | h | h | h | h | h | h | h <;> subst h <;> exact ⟨by decide, by decide, by decide, by decide, rfl⟩
theorem no_chg : ∀ r ∈ chgT, r.no ≠ 0 /\ r.no ≠ 31 /\ r.no ≠ 32 /\ r.no ≠ 33 /\ (nmOf chgT (r.no : Int)).isSome = true := by
  intro r hr
  simp only [chgT, List.mem_cons, List.not_mem_nil, or_false] at hr
  rcases hr with h | h | h | h | h | h | h | h | h <;> subst h <;> exact ⟨by decide, by decide, by decide, by decide, rfl⟩
def sp_answer (C CS : Addr) : Sp := fun vs H Q _ => ∃ (G : Hp) (S : Addr) (d : Km462.Desk) (g : Addr) (n : Nat) (gs : List Nat) (c : Km462.Call), vs = [.ref S, nv n, .ref g] /\ SA C CS G S d /\ Same G H /\ H g = some (.lst (gs.map nv)) /\ Cal n gs c /\
  ∀ H' G' q, SA C CS G' S (Km462.act d c).1 -> Same G' H' -> Keep G H G' H' -> H q = none -> H' q = some (.lst (toldD d c)) -> Q (.ref q) H'
def spInitS (C CS : Addr) : Sp := fun vs H Q _ => ∃ (p dx : Addr), vs = [.ref p] /\ H p = some (.ins CS dx []) /\ ∀ H' G', SA C CS G' p (Km462.fresh 0) -> Same G' H' -> (∀ b o, H b = some o -> b ≠ p -> H' b = some o /\ G' b = none) -> Q .non H'
section
variable {P : Program} {w : World} {K : PySem.W.Frag} {mg : Str -> Option Value} {base : Heap} {C CS : Addr}
abbrev s_Session_answer : Stmt := inClass (top 116) 6
theorem sc_Session_answer : FnScope ["self", "number", "given"] ["self", "number", "given"] (defScope s_Session_answer) := ⟨rfl, rfl, rfl, by decide +kernel, rfl, by decide +kernel, by decide +kernel⟩
theorem d_answer (T : Txt mg) (Y : Sc K CS) {f : Addr} {fd : FuncData} (F : Fun K "answer" "Session.answer" s_Session_answer f fd) (Db : ∀ m, Mm P w K mg base CS 3 "begin" ["self", "many"] (sp_call C CS [nv m] (.start m))) (D_take_back : Mm P w K mg base CS 1 "take_back" ["self"] (sp_call C CS [] .back)) (D_do_again : Mm P w K mg base CS 1 "do_again" ["self"] (sp_call C CS [] .again)) (D_state : Mm P w K mg base CS 2 "state" ["self"] (sp_call C CS [] .state))
    (D_alter : Mm P w K mg base CS 8 "alter" ["self", "number", "given"] (sp_alter C CS)) (D_is_change : Dn P w K mg base 1 "is_change" ["number"] sp_is_change) (D_ask : Dn P w K mg base 17 "ask" ["number", "valley", "given"] (sp_askAll C)) : FnOk P w K mg base CX0 18 f fd ["self", "number", "given"] (sp_answer C CS) := by
  refine F.ok sc_Session_answer (fun vs H Q E h => ?_) (fun cdv A outer s H vs Q E hr h => ?_)
  . obtain ⟨G, S, d, g, n, gs, c, rfl, _⟩ := h; rfl
  . obtain ⟨G, S, d, g, n, gs, c, rfl, hS, sm, hg, hC, k⟩ := h
    have D_begin := Db (gs.getD 0 0)
    refine ⟨_, (pss_cons (ps_if (pt_cmpR op_eq (pv 1) (pe_gi T.START) (nomark _)) (pss_one (ps_ret (pe_mt (pv 0) Y.cl D_begin hr (pa_cons (pe_ix ix_list (pv 2) pe_int (fun _ _ => rfl)) pa_nil)))) pss_nil)
      (pss_cons (ps_if (pt_cmpR op_eq (pv 1) (pe_gi T.BACK) (nomark _)) (pss_one (ps_ret (pe_mt0 (pv 0) Y.cl D_take_back hr))) pss_nil)
      (pss_cons (ps_if (pt_cmpR op_eq (pv 1) (pe_gi T.AGAIN) (nomark _)) (pss_one (ps_ret (pe_mt0 (pv 0) Y.cl D_do_again hr))) pss_nil)
      (pss_cons (ps_if (pt_cmpR op_eq (pv 1) (pe_gi T.STATE) (nomark _)) (pss_one (ps_ret (pe_mt0 (pv 0) Y.cl D_state hr))) pss_nil)
      (pss_cons (ps_if (pt_val (pe_dn D_is_change hr (pa_cons (pv 1) pa_nil))) (pss_one (ps_ret (pe_mt (pv 0) Y.cl D_alter hr (pa_cons (pv 1) (pa_cons (pv 2) pa_nil))))) pss_nil)
      (pss_one (ps_ret (pe_dn D_ask hr (pa_cons (pv 1) (pa_cons (pe_fld (pv 0) rfl) (pa_cons (pv 2) pa_nil))))))))))), ?_⟩
    obtain ⟨dx, av, e, l, es, ls, I⟩ := id hS
    have hi := sm _ _ I.ins
    have keq : ∀ {i : Int} {j : Nat}, i = (j : Int) -> decide (V.int ((n : Nat) : Int) = V.int i) = decide (n = j) := fun {i j} h => by rw [h]; exact V.ncast
    refine ⟨_, rfl, rfl, _, rfl, iteB (c := decide (n = 0)) (keq rfl) (fun h0 => ?_) (fun h0 => ?_)⟩
    . have n0 := of_decide_eq_true h0
      cases hC with
      | start m => exact ⟨_, rfl, S, dx, _, rfl, hi, rfl, _, rfl, g, _, _, _, rfl, rfl, SqL.of hg, at_of (j := 0) rfl rfl, G, S, d, rfl, hS, sm, k⟩
      | chg r hr2 gs h => exact absurd n0 (no_chg r hr2).1
      | ask r hr2 gs h => exact absurd n0 (no_ask r hr2).1
      | _ => exact absurd n0 (by decide)
    . have n0 := of_decide_eq_false h0
      refine ⟨_, rfl, rfl, _, rfl, iteB (c := decide (n = 31)) (keq rfl) (fun h1 => ?_) (fun h1 => ?_)⟩
      . have n1 := of_decide_eq_true h1
        cases hC with
        | back => exact ⟨_, rfl, S, dx, _, rfl, hi, rfl, G, S, d, rfl, hS, sm, k⟩
        | chg r hr2 gs h => exact absurd n1 (no_chg r hr2).2.1
        | ask r hr2 gs h => exact absurd n1 (no_ask r hr2).2.1
        | _ => exact absurd n1 (by decide)
      . have n1 := of_decide_eq_false h1
        refine ⟨_, rfl, rfl, _, rfl, iteB (c := decide (n = 32)) (keq rfl) (fun h2 => ?_) (fun h2 => ?_)⟩
        . have n2 := of_decide_eq_true h2
          cases hC with
          | again => exact ⟨_, rfl, S, dx, _, rfl, hi, rfl, G, S, d, rfl, hS, sm, k⟩
          | chg r hr2 gs h => exact absurd n2 (no_chg r hr2).2.2.1
          | ask r hr2 gs h => exact absurd n2 (no_ask r hr2).2.2.1
          | _ => exact absurd n2 (by decide)
        . have n2 := of_decide_eq_false h2
          refine ⟨_, rfl, rfl, _, rfl, iteB (c := decide (n = 33)) (keq rfl) (fun h3 => ?_) (fun h3 => ?_)⟩
          . have n3 := of_decide_eq_true h3
            cases hC with
            | state => exact ⟨_, rfl, S, dx, _, rfl, hi, rfl, G, S, d, rfl, hS, sm, k⟩
            | chg r hr2 gs h => exact absurd n3 (no_chg r hr2).2.2.2.1
            | ask r hr2 gs h => exact absurd n3 (no_ask r hr2).2.2.2.1
            | _ => exact absurd n3 (by decide)
          . have n3 := of_decide_eq_false h3
            refine ⟨_, rfl, n, rfl, _, rfl, iteB (c := (nmOf chgT (n : Int)).isSome) rfl (fun h4 => ?_) (fun h4 => ?_)⟩
            . cases hC with
              | chg r hr2 gs h => exact ⟨_, rfl, S, dx, _, rfl, hi, rfl, _, rfl, _, rfl, r, hr2, G, S, d, g, gs, rfl, hS, sm, hg, h, k⟩
              | ask r hr2 gs h => rw [(no_ask r hr2).2.2.2.2] at h4; cases h4
              | start m => exact absurd rfl n0
              | back => exact absurd rfl n1
              | again => exact absurd rfl n2
              | state => exact absurd rfl n3
            . cases hC with
              | ask r hr2 gs h =>
                have ea := ask_act r hr2 d gs
                refine ⟨_, rfl, _, rfl, S, CS, dx, _, _, rfl, hi, Y.cl, Y.va, sf_va, _, rfl, r, hr2, _, _, rfl, av, d.now, g, gs, rfl, I.now.at sm, I.ok, hg, h, fun H' q s1 hq h1 => ?_⟩
                refine k H' G q ?_ (sm.trans s1) (fun b o hb hg => ⟨s1 _ _ hb, hg⟩) hq ?_
                . rw [ea]; exact hS
                . rw [h1]
                  unfold toldD told1
                  rw [ea]
              | chg r hr2 gs h => rw [(no_chg r hr2).2.2.2.2] at h4; cases h4
              | start m => exact absurd rfl n0
              | back => exact absurd rfl n1
              | again => exact absurd rfl n2
              | state => exact absurd rfl n3
abbrev s_Session___init__ : Stmt := inClass (top 116) 0
theorem sc_Session___init__ : FnScope ["self"] ["self"] (defScope s_Session___init__) := ⟨rfl, rfl, rfl, by decide +kernel, rfl, by decide +kernel, by decide +kernel⟩
theorem d_initS (Y : Sc K CS) {f : Addr} {fd : FuncData} (F : Fun K "__init__" "Session.__init__" s_Session___init__ f fd) (D_Valley : Mc P w K mg base C 1 "Valley" ["self", "many"] (spInitV C)) : FnOk P w K mg base CX0 3 f fd ["self"] (spInitS C CS) := by
  refine F.ok sc_Session___init__ (fun vs H Q E h => ?_) (fun cdv A outer s H vs Q E hr h => ?_)
  . obtain ⟨p, dx, rfl, _⟩ := h; rfl
  . obtain ⟨S, dx, rfl, hp, k⟩ := h
    refine ⟨_, (pss_cons (ps_fld (pv 0) (pe_mk D_Valley hr (pa_cons pe_int pa_nil)) rfl)
      (pss_cons (ps_fld (pv 0) (pe_lst pa_nil) rfl)
      (pss_one (ps_fld (pv 0) (pe_lst pa_nil) rfl)))), ?_⟩
    intro x dv nx ndv nev
    refine ⟨x, dv, 0, rfl, upd_same, fun H1 ch up rd hv hch hup hrd _ _ _ kp => ⟨rfl, ?_⟩⟩
    have s1 : Same H H1 := Same.made nx ndv kp
    have iS : H1 S = some (.ins CS dx []) := s1 _ _ hp
    refine ⟨_, rfl, S, CS, dx, _, rfl, iS, Y.cl, Y.va, (by show 0 < 1000; decide), ?_⟩
    refine ⟨Nat.zero_le _, fun e' he' => ⟨_, rfl, S, CS, dx, _, rfl, by rw [upd_ne (ne_of_none upd_same he')]; exact upd_same, Y.cl, Y.ea, (by show 1 < 1000; decide), ?_⟩⟩
    refine ⟨Nat.zero_le _, fun l' hl' => ⟨_, rfl, S, CS, dx, _, rfl, by rw [upd_ne (ne_of_none upd_same hl')]; exact upd_same, Y.cl, Y.la, (by show 2 < 1000; decide), ?_⟩⟩
    have nSe' : e' ≠ S := fun z => by rw [z, upd_same] at he'; cases he'
    rw [upd_ne nSe'] at he'
    have nSl' : l' ≠ S := fun z => by rw [z, upd_same] at hl'; cases hl'
    rw [upd_ne nSl'] at hl'
    have nel' : l' ≠ e' := fun z => by rw [z, upd_same] at hl'; cases hl'
    rw [upd_ne nel', upd_ne nSl'] at hl'
    have heH : H e' = none := s1.free he'
    have hlH : H l' = none := s1.free hl'
    have neh : ∀ {b : Addr} {o : HO}, H1 b = some o -> b ≠ e' /\ b ≠ l' := fun {b o} h => ⟨ne_of_none h he', ne_of_none h hl'⟩
    show Q .non (upd (upd (upd (upd (upd H1 S _) e' _) S _) l' _) S _)
    generalize hH' : upd (upd (upd (upd (upd H1 S _) e' _) S _) l' _) S _ = H'
    have old : ∀ b o, H1 b = some o -> b ≠ S -> H' b = some o := fun b o h hS => by
      obtain ⟨a1, a2⟩ := neh h
      rw [<- hH', upd_ne hS, upd_ne a2, upd_ne hS, upd_ne a1, upd_ne hS]; exact h
    have aS : H' S = some (.ins CS dx (sf x e' l')) := by rw [<- hH', upd_same]; rfl
    have ae : H' e' = some (.lst []) := by rw [<- hH', upd_ne nSe', upd_ne nel'.symm, upd_ne nSe', upd_same]
    have al : H' l' = some (.lst []) := by rw [<- hH', upd_ne nSl', upd_same]
    have xS : x ≠ S := fun z => by rw [z, hp] at nx; cases nx
    have fresh : ∀ b, (upd (upd H dv (.own x)) x (.ins C dv [])) b = none -> H b = none /\ b ≠ S := fun b hb => by
      have b1 : b ≠ x := fun z => by rw [z, upd_same] at hb; cases hb
      rw [upd_ne b1] at hb
      have b2 : b ≠ dv := fun z => by rw [z, upd_same] at hb; cases hb
      rw [upd_ne b2] at hb
      exact ⟨hb, fun z => by rw [z, hp] at hb; cases hb⟩
    have g0 : (upd (fun _ => none) S (HO.ins CS dx [])) S = some (HO.ins CS dx []) := upd_same
    refine k H' (inc (upd (fun _ => none) S (HO.ins CS dx [])) H H') ?_ (inc_same _ H H') (fun b o hb hne => inc_keep (G := upd (fun _ => none) S (HO.ins CS dx [])) (H := H) (H' := H') (fun b o hb hg => old b o (s1 _ _ hb) (fun z => by rw [z, upd_same] at hg; cases hg)) b o hb (by rw [upd_ne hne]))
    refine ⟨dx, x, e', l', [], [], ⟨by rw [inc_in g0]; exact aS, ⟨dv, ch, up, rd, ⟨?_, ?_, ?_, ?_⟩⟩, lok_opened (by decide), by rw [inc_new heH]; exact ae, by rw [inc_new hlH]; exact al, nel'.symm, ⟨rfl, fun i a h => by simp at h⟩, ⟨rfl, fun i a h => by simp at h⟩, Nat.zero_le _⟩⟩
    . rw [inc_new nx, old x _ hv.ins xS]
      show _ = some (HO.ins C dv (vf ch up rd 0 (setOf 1 []) (setOf 1 [])))
      rw [setOf_nil]
    . rw [inc_new (fresh ch hch).1, old ch _ hv.ch (fresh ch hch).2]; rfl
    . rw [inc_new (fresh up hup).1, old up _ hv.up (fresh up hup).2]; rfl
    . rw [inc_new (fresh rd hrd).1, old rd _ hv.rd (fresh rd hrd).2]; rfl
end
end VV
namespace VV
open PySem PySem.Spec PyProof.Rows L2
def TK : List Nat := [1, 3, 2, 2, 0, 1, 2, 2, 1, 0, 0, 2, 1, 0, 2, 2, 0, 1, 1, 1, 1, 1, 1, 1, 0, 1, 1, 1, 0, 1, 0, 0, 0, 0]
theorem shape_nat {p : Int} {n k : Nat} (h : PyKm462.shape p = some (n, k)) : ∃ j : Nat, p = (j : Int) /\ j < 34 := by
  by_cases h0 : 0 <= p /\ p < 34
  . exact ⟨p.toNat, by omega, by omega⟩
  . exfalso
    have key : PyKm462.shape p = none := by
      unfold PyKm462.shape
      iterate 34 rw [if_neg (by omega)]
    rw [key] at h
    cases h
theorem shape_tk : ∀ j : Nat, j < 34 -> ∃ n, PyKm462.shape (j : Int) = some (n, 0) /\ TK[j]? = some n := by
  intro j hj
  have : ∀ j : Fin 34, ∃ n : Fin 4, PyKm462.shape ((j : Nat) : Int) = some ((n : Nat), 0) /\ TK[(j : Nat)]? = some (n : Nat) := by decide +kernel
  obtain ⟨n, h⟩ := this ⟨j, hj⟩
  exact ⟨n, h⟩
theorem nat_of {z : Int} (h : Km462Neutral.natural z 32 = true) : z = (z.toNat : Int) := by
  unfold Km462Neutral.natural at h
  rw [Bool.and_eq_true] at h
  have := of_decide_eq_true h.1
  omega
def okN (b : List Int) : Bool := b.all fun z => Km462Neutral.natural z 32
theorem nats_of : ∀ {b : List Int}, okN b = true -> b = (b.map Int.toNat).map fun (x : Nat) => (x : Int)
  | [], _ => rfl
  | z :: b, h => by
    unfold okN at h
    rw [List.all_cons, Bool.and_eq_true] at h
    have e1 := nat_of h.1
    have e2 := nats_of (b := b) h.2
    show z :: b = (z.toNat : Int) :: _
    rw [<- e2, <- e1]
theorem cal_chg {j : Nat} {gs : List Nat} {c : Km462.Call} (r : Tr) (hr : r ∈ chgT) (e1 : r.no = j) (e2 : gs.length = r.ar) (e3 : r.mc gs = c) : Cal j gs c := by
  subst e1; subst e3
  exact .chg r hr gs e2
theorem cal_ask {j : Nat} {gs : List Nat} {c : Km462.Call} (r : Tr) (hr : r ∈ askT) (e1 : r.no = j) (e2 : gs.length = r.ar) (e3 : r.mc gs = c) : Cal j gs c := by
  subst e1; subst e3
  exact .ask r hr gs e2
theorem mem_at {α : Type} {T : List α} (i : Nat) {r : α} (h : T[i]? = some r) : r ∈ T := List.mem_of_getElem? h
def CallOk (j : Nat) (b : List Int) : Prop := PyKm462.whole [(j : Int) :: b] = [(j : Int) :: b] /\ ∃ c, Km462Neutral.callOf [(j : Int) :: b] = some c /\ Cal j (b.map Int.toNat) c
theorem c0 (b : List Int) (h : b.length = 0) : b = [] := List.eq_nil_of_length_eq_zero h
theorem c1 (b : List Int) (h : b.length = 1) : ∃ x, b = [x] := by
  match b, h with
  | [x], _ => exact ⟨x, rfl⟩
theorem c2 (b : List Int) (h : b.length = 2) : ∃ x y, b = [x, y] := by
  match b, h with
  | [x, y], _ => exact ⟨x, y, rfl⟩
theorem c3 (b : List Int) (h : b.length = 3) : ∃ x y z, b = [x, y, z] := by
  match b, h with
  | [x, y, z], _ => exact ⟨x, y, z, rfl⟩
theorem ok1 {x : Int} (h : Km462Neutral.natural x 32 = true) : okN [x] = true := by
  unfold okN; simp [h]
theorem ok2 {x y : Int} (h : (Km462Neutral.natural x 32 && Km462Neutral.natural y 32) = true) : okN [x, y] = true := by
  unfold okN; simpa using h
theorem ok3 {x y z : Int} (h : (Km462Neutral.natural x 32 && Km462Neutral.natural y 32 && Km462Neutral.natural z 32) = true) : okN [x, y, z] = true := by
  unfold okN
  simp at h ⊢
  exact ⟨h.1.1, h.1.2, h.2⟩
theorem call_ok (j : Nat) (hj : j < 34) (b : List Int) (n : Nat) (hn : TK[j]? = some n) (hb : b.length = n) : CallOk j b := by
  match j, hj with
  | 0, _ =>
    have e : b.length = 1 := hb.trans (Option.some.inj hn).symm
    obtain ⟨x, rfl⟩ := c1 b e
    exact ⟨rfl, _, rfl, .start _⟩
  | 1, _ =>
    have e : b.length = 3 := hb.trans (Option.some.inj hn).symm
    obtain ⟨x, y, z, rfl⟩ := c3 b e
    exact ⟨rfl, _, rfl, cal_chg _ (mem_at 0 rfl) rfl rfl rfl⟩
  | 2, _ =>
    have e : b.length = 2 := hb.trans (Option.some.inj hn).symm
    obtain ⟨x, y, rfl⟩ := c2 b e
    exact ⟨rfl, _, rfl, cal_chg _ (mem_at 1 rfl) rfl rfl rfl⟩
  | 3, _ =>
    have e : b.length = 2 := hb.trans (Option.some.inj hn).symm
    obtain ⟨x, y, rfl⟩ := c2 b e
    exact ⟨rfl, _, rfl, cal_chg _ (mem_at 2 rfl) rfl rfl rfl⟩
  | 4, _ =>
    have e : b.length = 0 := hb.trans (Option.some.inj hn).symm
    obtain rfl := c0 b e
    exact ⟨rfl, _, rfl, cal_chg _ (mem_at 3 rfl) rfl rfl rfl⟩
  | 5, _ =>
    have e : b.length = 1 := hb.trans (Option.some.inj hn).symm
    obtain ⟨x, rfl⟩ := c1 b e
    exact ⟨rfl, _, rfl, cal_chg _ (mem_at 4 rfl) rfl rfl rfl⟩
  | 6, _ =>
    have e : b.length = 2 := hb.trans (Option.some.inj hn).symm
    obtain ⟨x, y, rfl⟩ := c2 b e
    exact ⟨rfl, _, rfl, cal_chg _ (mem_at 5 rfl) rfl rfl rfl⟩
  | 7, _ =>
    have e : b.length = 2 := hb.trans (Option.some.inj hn).symm
    obtain ⟨x, y, rfl⟩ := c2 b e
    exact ⟨rfl, _, rfl, cal_chg _ (mem_at 6 rfl) rfl rfl rfl⟩
  | 8, _ =>
    have e : b.length = 1 := hb.trans (Option.some.inj hn).symm
    obtain ⟨x, rfl⟩ := c1 b e
    exact ⟨rfl, _, rfl, cal_chg _ (mem_at 7 rfl) rfl rfl rfl⟩
  | 9, _ =>
    have e : b.length = 0 := hb.trans (Option.some.inj hn).symm
    obtain rfl := c0 b e
    exact ⟨rfl, _, rfl, cal_ask _ (mem_at 0 rfl) rfl rfl rfl⟩
  | 10, _ =>
    have e : b.length = 0 := hb.trans (Option.some.inj hn).symm
    obtain rfl := c0 b e
    exact ⟨rfl, _, rfl, cal_ask _ (mem_at 1 rfl) rfl rfl rfl⟩
  | 11, _ =>
    have e : b.length = 2 := hb.trans (Option.some.inj hn).symm
    obtain ⟨x, y, rfl⟩ := c2 b e
    exact ⟨rfl, _, rfl, cal_ask _ (mem_at 2 rfl) rfl rfl rfl⟩
  | 12, _ =>
    have e : b.length = 1 := hb.trans (Option.some.inj hn).symm
    obtain ⟨x, rfl⟩ := c1 b e
    exact ⟨rfl, _, rfl, cal_ask _ (mem_at 3 rfl) rfl rfl rfl⟩
  | 13, _ =>
    have e : b.length = 0 := hb.trans (Option.some.inj hn).symm
    obtain rfl := c0 b e
    exact ⟨rfl, _, rfl, cal_ask _ (mem_at 4 rfl) rfl rfl rfl⟩
  | 14, _ =>
    have e : b.length = 2 := hb.trans (Option.some.inj hn).symm
    obtain ⟨x, y, rfl⟩ := c2 b e
    exact ⟨rfl, _, rfl, cal_ask _ (mem_at 5 rfl) rfl rfl rfl⟩
  | 15, _ =>
    have e : b.length = 2 := hb.trans (Option.some.inj hn).symm
    obtain ⟨x, y, rfl⟩ := c2 b e
    exact ⟨rfl, _, rfl, cal_chg _ (mem_at 8 rfl) rfl rfl rfl⟩
  | 16, _ =>
    have e : b.length = 0 := hb.trans (Option.some.inj hn).symm
    obtain rfl := c0 b e
    exact ⟨rfl, _, rfl, cal_ask _ (mem_at 6 rfl) rfl rfl rfl⟩
  | 17, _ =>
    have e : b.length = 1 := hb.trans (Option.some.inj hn).symm
    obtain ⟨x, rfl⟩ := c1 b e
    exact ⟨rfl, _, rfl, cal_ask _ (mem_at 7 rfl) rfl rfl rfl⟩
  | 18, _ =>
    have e : b.length = 1 := hb.trans (Option.some.inj hn).symm
    obtain ⟨x, rfl⟩ := c1 b e
    exact ⟨rfl, _, rfl, cal_ask _ (mem_at 8 rfl) rfl rfl rfl⟩
  | 19, _ =>
    have e : b.length = 1 := hb.trans (Option.some.inj hn).symm
    obtain ⟨x, rfl⟩ := c1 b e
    exact ⟨rfl, _, rfl, cal_ask _ (mem_at 9 rfl) rfl rfl rfl⟩
  | 20, _ =>
    have e : b.length = 1 := hb.trans (Option.some.inj hn).symm
    obtain ⟨x, rfl⟩ := c1 b e
    exact ⟨rfl, _, rfl, cal_ask _ (mem_at 10 rfl) rfl rfl rfl⟩
  | 21, _ =>
    have e : b.length = 1 := hb.trans (Option.some.inj hn).symm
    obtain ⟨x, rfl⟩ := c1 b e
    exact ⟨rfl, _, rfl, cal_ask _ (mem_at 11 rfl) rfl rfl rfl⟩
  | 22, _ =>
    have e : b.length = 1 := hb.trans (Option.some.inj hn).symm
    obtain ⟨x, rfl⟩ := c1 b e
    exact ⟨rfl, _, rfl, cal_ask _ (mem_at 12 rfl) rfl rfl rfl⟩
  | 23, _ =>
    have e : b.length = 1 := hb.trans (Option.some.inj hn).symm
    obtain ⟨x, rfl⟩ := c1 b e
    exact ⟨rfl, _, rfl, cal_ask _ (mem_at 13 rfl) rfl rfl rfl⟩
  | 24, _ =>
    have e : b.length = 0 := hb.trans (Option.some.inj hn).symm
    obtain rfl := c0 b e
    exact ⟨rfl, _, rfl, cal_ask _ (mem_at 14 rfl) rfl rfl rfl⟩
  | 25, _ =>
    have e : b.length = 1 := hb.trans (Option.some.inj hn).symm
    obtain ⟨x, rfl⟩ := c1 b e
    exact ⟨rfl, _, rfl, cal_ask _ (mem_at 15 rfl) rfl rfl rfl⟩
  | 26, _ =>
    have e : b.length = 1 := hb.trans (Option.some.inj hn).symm
    obtain ⟨x, rfl⟩ := c1 b e
    exact ⟨rfl, _, rfl, cal_ask _ (mem_at 16 rfl) rfl rfl rfl⟩
  | 27, _ =>
    have e : b.length = 1 := hb.trans (Option.some.inj hn).symm
    obtain ⟨x, rfl⟩ := c1 b e
    exact ⟨rfl, _, rfl, cal_ask _ (mem_at 17 rfl) rfl rfl rfl⟩
  | 28, _ =>
    have e : b.length = 0 := hb.trans (Option.some.inj hn).symm
    obtain rfl := c0 b e
    exact ⟨rfl, _, rfl, cal_ask _ (mem_at 18 rfl) rfl rfl rfl⟩
  | 29, _ =>
    have e : b.length = 1 := hb.trans (Option.some.inj hn).symm
    obtain ⟨x, rfl⟩ := c1 b e
    exact ⟨rfl, _, rfl, cal_ask _ (mem_at 19 rfl) rfl rfl rfl⟩
  | 30, _ =>
    have e : b.length = 0 := hb.trans (Option.some.inj hn).symm
    obtain rfl := c0 b e
    exact ⟨rfl, _, rfl, cal_ask _ (mem_at 20 rfl) rfl rfl rfl⟩
  | 31, _ =>
    have e : b.length = 0 := hb.trans (Option.some.inj hn).symm
    obtain rfl := c0 b e
    exact ⟨rfl, _, rfl, .back⟩
  | 32, _ =>
    have e : b.length = 0 := hb.trans (Option.some.inj hn).symm
    obtain rfl := c0 b e
    exact ⟨rfl, _, rfl, .again⟩
  | 33, _ =>
    have e : b.length = 0 := hb.trans (Option.some.inj hn).symm
    obtain rfl := c0 b e
    exact ⟨rfl, _, rfl, .state⟩
  | j + 34, hj => exact absurd hj (by omega)
theorem asked_ok (j : Nat) (hj : j < 34) (b : List Int) (n : Nat) (hn : TK[j]? = some n) (hb : b.length = n) (h : Km462Neutral.asked1 [(j : Int) :: b] = true) : okN b = true := by
  match j, hj with
  | 0, _ =>
    have e : b.length = 1 := hb.trans (Option.some.inj hn).symm
    obtain ⟨x, rfl⟩ := c1 b e
    exact ok1 h
  | 1, _ =>
    have e : b.length = 3 := hb.trans (Option.some.inj hn).symm
    obtain ⟨x, y, z, rfl⟩ := c3 b e
    exact ok3 h
  | 2, _ =>
    have e : b.length = 2 := hb.trans (Option.some.inj hn).symm
    obtain ⟨x, y, rfl⟩ := c2 b e
    exact ok2 h
  | 3, _ =>
    have e : b.length = 2 := hb.trans (Option.some.inj hn).symm
    obtain ⟨x, y, rfl⟩ := c2 b e
    exact ok2 h
  | 4, _ =>
    have e : b.length = 0 := hb.trans (Option.some.inj hn).symm
    obtain rfl := c0 b e
    exact rfl
  | 5, _ =>
    have e : b.length = 1 := hb.trans (Option.some.inj hn).symm
    obtain ⟨x, rfl⟩ := c1 b e
    exact ok1 h
  | 6, _ =>
    have e : b.length = 2 := hb.trans (Option.some.inj hn).symm
    obtain ⟨x, y, rfl⟩ := c2 b e
    exact ok2 h
  | 7, _ =>
    have e : b.length = 2 := hb.trans (Option.some.inj hn).symm
    obtain ⟨x, y, rfl⟩ := c2 b e
    exact ok2 h
  | 8, _ =>
    have e : b.length = 1 := hb.trans (Option.some.inj hn).symm
    obtain ⟨x, rfl⟩ := c1 b e
    exact ok1 h
  | 9, _ =>
    have e : b.length = 0 := hb.trans (Option.some.inj hn).symm
    obtain rfl := c0 b e
    exact rfl
  | 10, _ =>
    have e : b.length = 0 := hb.trans (Option.some.inj hn).symm
    obtain rfl := c0 b e
    exact rfl
  | 11, _ =>
    have e : b.length = 2 := hb.trans (Option.some.inj hn).symm
    obtain ⟨x, y, rfl⟩ := c2 b e
    exact ok2 h
  | 12, _ =>
    have e : b.length = 1 := hb.trans (Option.some.inj hn).symm
    obtain ⟨x, rfl⟩ := c1 b e
    exact ok1 h
  | 13, _ =>
    have e : b.length = 0 := hb.trans (Option.some.inj hn).symm
    obtain rfl := c0 b e
    exact rfl
  | 14, _ =>
    have e : b.length = 2 := hb.trans (Option.some.inj hn).symm
    obtain ⟨x, y, rfl⟩ := c2 b e
    exact ok2 h
  | 15, _ =>
    have e : b.length = 2 := hb.trans (Option.some.inj hn).symm
    obtain ⟨x, y, rfl⟩ := c2 b e
    exact ok2 h
  | 16, _ =>
    have e : b.length = 0 := hb.trans (Option.some.inj hn).symm
    obtain rfl := c0 b e
    exact rfl
  | 17, _ =>
    have e : b.length = 1 := hb.trans (Option.some.inj hn).symm
    obtain ⟨x, rfl⟩ := c1 b e
    exact ok1 h
  | 18, _ =>
    have e : b.length = 1 := hb.trans (Option.some.inj hn).symm
    obtain ⟨x, rfl⟩ := c1 b e
    exact ok1 h
  | 19, _ =>
    have e : b.length = 1 := hb.trans (Option.some.inj hn).symm
    obtain ⟨x, rfl⟩ := c1 b e
    exact ok1 h
  | 20, _ =>
    have e : b.length = 1 := hb.trans (Option.some.inj hn).symm
    obtain ⟨x, rfl⟩ := c1 b e
    exact ok1 h
  | 21, _ =>
    have e : b.length = 1 := hb.trans (Option.some.inj hn).symm
    obtain ⟨x, rfl⟩ := c1 b e
    exact ok1 h
  | 22, _ =>
    have e : b.length = 1 := hb.trans (Option.some.inj hn).symm
    obtain ⟨x, rfl⟩ := c1 b e
    exact ok1 h
  | 23, _ =>
    have e : b.length = 1 := hb.trans (Option.some.inj hn).symm
    obtain ⟨x, rfl⟩ := c1 b e
    exact ok1 h
  | 24, _ =>
    have e : b.length = 0 := hb.trans (Option.some.inj hn).symm
    obtain rfl := c0 b e
    exact rfl
  | 25, _ =>
    have e : b.length = 1 := hb.trans (Option.some.inj hn).symm
    obtain ⟨x, rfl⟩ := c1 b e
    exact ok1 h
  | 26, _ =>
    have e : b.length = 1 := hb.trans (Option.some.inj hn).symm
    obtain ⟨x, rfl⟩ := c1 b e
    exact ok1 h
  | 27, _ =>
    have e : b.length = 1 := hb.trans (Option.some.inj hn).symm
    obtain ⟨x, rfl⟩ := c1 b e
    exact ok1 h
  | 28, _ =>
    have e : b.length = 0 := hb.trans (Option.some.inj hn).symm
    obtain rfl := c0 b e
    exact rfl
  | 29, _ =>
    have e : b.length = 1 := hb.trans (Option.some.inj hn).symm
    obtain ⟨x, rfl⟩ := c1 b e
    exact ok1 h
  | 30, _ =>
    have e : b.length = 0 := hb.trans (Option.some.inj hn).symm
    obtain rfl := c0 b e
    exact rfl
  | 31, _ =>
    have e : b.length = 0 := hb.trans (Option.some.inj hn).symm
    obtain rfl := c0 b e
    exact rfl
  | 32, _ =>
    have e : b.length = 0 := hb.trans (Option.some.inj hn).symm
    obtain rfl := c0 b e
    exact rfl
  | 33, _ =>
    have e : b.length = 0 := hb.trans (Option.some.inj hn).symm
    obtain rfl := c0 b e
    exact rfl
  | j + 34, hj => exact absurd hj (by omega)
theorem call_of {c : List (List Int)} (hk : PyFlat.okCall PyKm462.shape c) (ha : Km462Neutral.asked1 (PyKm462.whole c) = true) : ∃ (j : Nat) (gs : List Nat) (x : Km462.Call), PyFlat.put1 c = (j :: gs).map (fun (x : Nat) => (x : Int)) /\ TK[j]? = some gs.length /\ j < 34 /\ Km462Neutral.callOf (PyKm462.whole c) = some x /\ Cal j gs x := by
  obtain ⟨p, b, xs, rfl, hs⟩ := hk
  obtain ⟨j, rfl, hj⟩ := shape_nat hs
  obtain ⟨n, e1, e2⟩ := shape_tk j hj
  rw [e1] at hs
  obtain ⟨h1, h2⟩ := Prod.mk.inj (Option.some.inj hs)
  have : xs = [] := List.eq_nil_of_length_eq_zero h2.symm
  subst this
  obtain ⟨hw, x, hc, hC⟩ := call_ok j hj b n e2 h1.symm
  rw [hw] at ha ⊢
  have hb := nats_of (asked_ok j hj b n e2 h1.symm ha)
  refine ⟨j, b.map Int.toNat, x, ?_, by rw [List.length_map, <- h1]; exact e2, hj, hc, hC⟩
  show ((j : Int) :: b) ++ PyFlat.putRows [] = (j : Int) :: (b.map Int.toNat).map _
  rw [<- hb]
  exact List.append_nil _
theorem start_back {m : Nat} (h : (Km462Neutral.told (Km462.act (Km462.fresh 0) (.start m)).2).headD 0 < 0) : (Km462.act (Km462.fresh 0) (.start m)).1 = Km462.fresh 0 := by
  have e : Km462.act (Km462.fresh 0) (.start m) = if Km462.MANY < m then (Km462.fresh 0, Km462.only (-22)) else (⟨Km462.opened m, [], []⟩, Km462.only 0) := rfl
  rw [e] at h ⊢
  by_cases hm : Km462.MANY < m
  . rw [if_pos hm]
  . rw [if_neg hm] at h
    exact absurd (show (0 : Int) < 0 from h) (by decide)
abbrev dOf (s : Km462Neutral.S) : Km462.Desk := s.getD (Km462.fresh 0)
theorem step_ok {s : Km462Neutral.S} {c : Km462Neutral.Call} {x : Km462.Call} (hc : Km462Neutral.callOf c = some x) (hn : (Km462Neutral.step s c).2.isEmpty = false) : (Km462Neutral.step s c).2 = Km462Neutral.told (Km462.act (dOf s) x).2 /\ dOf (Km462Neutral.step s c).1 = (Km462.act (dOf s) x).1 := by
  cases s with
  | some a =>
    have e : Km462Neutral.step (some a) c = (some (Km462.act a x).1, Km462Neutral.told (Km462.act a x).2) := by
      unfold Km462Neutral.step
      rw [hc]
    rw [e]
    exact ⟨rfl, rfl⟩
  | none =>
    have e : Km462Neutral.step none c = if Km462Neutral.isStart x = true then (if (Km462Neutral.told (Km462.act (Km462.fresh 0) x).2).headD 0 < 0 then none else some (Km462.act (Km462.fresh 0) x).1, Km462Neutral.told (Km462.act (Km462.fresh 0) x).2) else (none, []) := by
      unfold Km462Neutral.step
      rw [hc]
    rw [e] at hn ⊢
    cases x with
    | start m =>
      rw [if_pos (show Km462Neutral.isStart (.start m) = true from rfl)]
      refine ⟨rfl, ?_⟩
      show (if _ then none else some _ : Option Km462.Desk).getD _ = _
      split
      . rename_i h
        exact (start_back h).symm
      . rfl
    | _ => exact absurd (show true = false from hn) (by decide)
end VV
namespace VV
open PySem PySem.Spec PyProof.Rows L2
def spAns (K : PySem.W.Frag) : Sp := fun vs H Q _ => ∃ (a : Addr) (ns : List Int), vs = [.ref a] /\ SqL K H a (ns.map V.int) /\ PyKm462.answers_asked ns = true /\ ∀ H' p, H' p = some (.lst ((PyKm462.answers ns).map V.int)) -> Q (.ref p) H'
theorem cut_mid (xs ys zs : List V) (x : V) : cutV (xs ++ x :: (ys ++ zs)) (some ((xs.length : Int) + 1)) (some ((xs.length : Int) + 1 + (ys.length : Int))) = ys := by
  have e1 : ((xs.length : Int) + 1) = ((xs.length + 1 : Nat) : Int) := by omega
  have e2 : ((xs.length : Int) + 1 + (ys.length : Int)) = ((xs.length + 1 + ys.length : Nat) : Int) := by omega
  unfold cutV
  rw [e2, e1, HT.sIx_nat, HT.sIx_nat]
  have l : (xs ++ x :: (ys ++ zs)).length = xs.length + 1 + ys.length + zs.length := by simp; omega
  rw [l]
  have m1 : min (xs.length + 1) (xs.length + 1 + ys.length + zs.length) = xs.length + 1 := by omega
  have m2 : min (xs.length + 1 + ys.length) (xs.length + 1 + ys.length + zs.length) = xs.length + 1 + ys.length := by omega
  rw [m1, m2]
  have d : (xs ++ x :: (ys ++ zs)).drop (xs.length + 1) = ys ++ zs := by
    rw [List.drop_append]
    simp
  rw [d]
  have : xs.length + 1 + ys.length - (xs.length + 1) = ys.length := by omega
  rw [this]
  exact List.take_left
theorem map_nv (gs : List Nat) : (gs.map fun (x : Nat) => (x : Int)).map V.int = gs.map nv := by rw [List.map_map]; rfl
section
variable {P : Program} {w : World} {K : PySem.W.Frag} {mg : Str -> Option Value} {base : Heap} {C CS : Addr}
abbrev s_answers : Stmt := top 117
theorem sc_answers : FnScope ["calls", "session", "told", "place", "number", "behind", "numbers"] ["calls"] (defScope s_answers) := ⟨rfl, rfl, rfl, by decide +kernel, rfl, by decide +kernel, by decide +kernel⟩
theorem d_answers (T : Txt mg) (Y : Sc K CS) {f : Addr} {fd : FuncData} (F : Fun K "answers" "answers" s_answers f fd) {tk : Addr} (T_TAKES : mg "TAKES" = some (.ref tk)) (hT : ∀ H : Hp, SqT K H tk (TK.map nv)) (D_Session : Mc P w K mg base CS 3 "Session" ["self"] (spInitS C CS)) (D_answer : Mm P w K mg base CS 18 "answer" ["self", "number", "given"] (sp_answer C CS)) : FnOk P w K mg base CX0 19 f fd ["calls"] (spAns K) := by
  refine F.ok sc_answers (fun vs H Q E h => ?_) (fun cdv A outer s H vs Q E hr h => ?_)
  . obtain ⟨a, ns, rfl, _⟩ := h; rfl
  . obtain ⟨a, ns, rfl, hS, hask, k⟩ := h
    refine ⟨_, (pss_cons (ps_set (i := 1) sc_answers.nd rfl (Or.inl rfl) (pe_mk0 D_Session hr))
      (pss_cons (ps_set (i := 2) sc_answers.nd rfl (Or.inl rfl) (pe_lst pa_nil))
      (pss_cons (ps_set (i := 3) sc_answers.nd rfl (Or.inl rfl) pe_int)
      (pss_cons (ps_while PassesOwn.never (pt_cmpR op_lt (pv 3) (pe_callB call_len_seq rfl T.len PySem.boot_len (pa_cons (pv 0) pa_nil)) (nomark _)) (pss_cons (ps_set (i := 4) sc_answers.nd rfl (Or.inl rfl) (pe_ix ix_list (pv 0) (pv 3) (fun _ _ => rfl)))
      (pss_cons (ps_set (i := 5) sc_answers.nd rfl (Or.inl rfl) (pe_op op_add (pe_op op_add (pv 3) pe_int) (pe_ix ix_tup (pe_glob (v := .ref tk) rfl T_TAKES rfl) (pv 4) (fun _ _ => rfl))))
      (pss_cons (ps_set (i := 6) sc_answers.nd rfl (Or.inl rfl) (pe_mt (pv 1) Y.cl D_answer hr (pa_cons (pv 4) (pa_cons (pe_slice sl_list (pv 0) (po_some (pe_op op_add (pv 3) pe_int)) (po_some (pv 5))) pa_nil))))
      (pss_cons (ps_expr (pe_bm PySem.F.plainAttrs_list PySem.F.slot_list_append PySem.F.type_list_append mt_append (pv 2) (pa_cons (pe_callB call_len_seq rfl T.len PySem.boot_len (pa_cons (pv 6) pa_nil)) pa_nil)))
      (pss_cons (ps_expr (pe_bm PySem.F.plainAttrs_list PySem.F.slot_list_extend PySem.F.type_list_extend mt_extend (pv 2) (pa_cons (pv 6) pa_nil)))
      (pss_one (ps_set (i := 3) sc_answers.nd rfl (Or.inl rfl) (pv 5)))))))))
      (pss_one (ps_ret (pv 2))))))), ?_⟩
    obtain ⟨raw, hraw⟩ : ∃ raw, PyFlat.calls PyKm462.shape ns.length ns = some raw := by
      cases e : PyFlat.calls PyKm462.shape ns.length ns with
      | none => unfold PyKm462.answers_asked at hask; rw [e] at hask; cases hask
      | some raw => exact ⟨raw, rfl⟩
    have hq : (!raw.isEmpty && PyFlat.atMost 1000 raw && PyInside.calls PyKm462.bound raw && Km462Neutral.asked (raw.map PyKm462.whole) && PyFlat.short 10000000 (PyKm462.answers ns)) = true := by
      unfold PyKm462.answers_asked at hask
      rw [hraw] at hask
      exact hask
    rw [Bool.and_eq_true, Bool.and_eq_true] at hq
    have hshort : (PyKm462.answers ns).length <= 10000000 := of_decide_eq_true hq.2
    have hA := hq.1.2
    unfold Km462Neutral.asked at hA
    rw [Bool.and_eq_true, Bool.and_eq_true, Bool.and_eq_true] at hA
    have hall := List.all_eq_true.mp hA.2.2.1
    have hmay := hA.2.2.2
    obtain ⟨hput, hok⟩ := PyFlat.put_calls _ _ _ hraw
    have hans : PyKm462.answers ns = PyFlat.told (PyFlat.played Km462Neutral.step Km462Neutral.start (raw.map PyKm462.whole)) := by
      unfold PyKm462.answers PyKm462.calls
      rw [hraw]
    have hline : (10000000 : Nat) < sizeLine := by decide
    intro S dx nS ndx nev
    refine ⟨S, dx, rfl, upd_same, fun H1 G1 A1 sm1 kp => ⟨rfl, ?_⟩⟩
    have s1 : Same H H1 := fun b o h => (kp b o (by rw [upd_ne (ne_of_none h nS), upd_ne (ne_of_none h ndx)]; exact h) (ne_of_none h nS)).1
    have g1 : ∀ b o, H b = some o -> G1 b = none := fun b o h => (kp b o (by rw [upd_ne (ne_of_none h nS), upd_ne (ne_of_none h ndx)]; exact h) (ne_of_none h nS)).2
    refine ⟨Nat.zero_le _, fun t ht => ?_⟩
    have hGt : G1 t = none := sm1.free ht
    refine ⟨fun m σ H' => ∃ (front : List Int) (rest : List (List (List Int))) (st : Km462Neutral.S) (G : Hp) (pre : List Int) (v4 v5 v6 : Option V), m = rest.length /\ σ = [some (.ref a), some (.ref S), some (.ref t), some (nv front.length), v4, v5, v6] /\ ns = front ++ PyFlat.put rest /\ (∀ c ∈ rest, PyFlat.okCall PyKm462.shape c /\ Km462Neutral.asked1 (PyKm462.whole c) = true) /\ SA C CS G S (dOf st) /\ Same G H' /\ Same H H' /\ (∀ b o, H b = some o -> G b = none) /\ G t = none /\ H' t = some (.lst (pre.map V.int)) /\ Km462Neutral.may st (rest.map PyKm462.whole) = true /\ PyKm462.answers ns = pre ++ PyFlat.told (PyFlat.played Km462Neutral.step st (rest.map PyKm462.whole)), ⟨raw.length, [], raw, none, G1, [], none, none, none, rfl, rfl, hput, fun c hc => ⟨hok c hc, hall _ (List.mem_map_of_mem hc)⟩, A1, sm1.new ht, s1.new ht, g1, hGt, upd_same, hmay, hans⟩, ?_⟩
    rintro m σ H2 ⟨front, rest, st, G, pre, v4, v5, v6, rfl, rfl, hns, hrest, hSA, smG, smH, gH, gt, ht2, hmay2, hans2⟩
    have hsq := smH.seq hS
    refine ⟨_, rfl, _, rfl, a, _, rfl, .inl hsq, _, _, rfl, rfl, _, rfl, iteB (c := decide (front.length < ns.length)) (by rw [List.length_map]; exact decide_eq_decide.mpr (by omega)) (fun hlt => ?_) (fun hge => ?_)⟩
    . have hlt := of_decide_eq_true hlt
      cases rest with
      | nil => rw [hns] at hlt; simp [PyFlat.put] at hlt
      | cons c rest =>
        obtain ⟨hc1, hc2⟩ := hrest c List.mem_cons_self
        obtain ⟨j, gs, x, e1, e2, hj, e3, hC⟩ := call_of hc1 hc2
        have ens : ns = front ++ (j : Int) :: ((gs.map fun (x : Nat) => (x : Int)) ++ PyFlat.put rest) := by
          rw [hns]
          show front ++ (PyFlat.put1 c ++ PyFlat.put rest) = _
          rw [e1]; rfl
        have eV : ns.map V.int = front.map V.int ++ nv j :: (gs.map nv ++ (PyFlat.put rest).map V.int) := by
          rw [ens, List.map_append, List.map_cons, List.map_append, map_nv]
        rw [List.map_cons] at hmay2 hans2
        have hm3 : (!((Km462Neutral.step st (PyKm462.whole c)).2.isEmpty) && Km462Neutral.may (Km462Neutral.step st (PyKm462.whole c)).1 (rest.map PyKm462.whole)) = true := hmay2
        rw [Bool.and_eq_true] at hm3
        obtain ⟨t1, t2⟩ := step_ok e3 (by simpa using hm3.1)
        have hans3 : PyKm462.answers ns = pre ++ ((((Km462Neutral.step st (PyKm462.whole c)).2.length : Int) :: (Km462Neutral.step st (PyKm462.whole c)).2) ++ PyFlat.told (PyFlat.played Km462Neutral.step (Km462Neutral.step st (PyKm462.whole c)).1 (rest.map PyKm462.whole))) := hans2
        have hlen3 : pre.length + 1 + (Km462Neutral.step st (PyKm462.whole c)).2.length <= 10000000 := by
          have := congrArg List.length hans3
          simp only [List.length_append, List.length_cons] at this
          omega
        refine ⟨fun σ' H' => ∃ m', m' < rest.length + 1 /\ ∃ (front : List Int) (rest : List (List (List Int))) (st : Km462Neutral.S) (G : Hp) (pre : List Int) (v4 v5 v6 : Option V), m' = rest.length /\ σ' = [some (.ref a), some (.ref S), some (.ref t), some (nv front.length), v4, v5, v6] /\ ns = front ++ PyFlat.put rest /\ (∀ c ∈ rest, PyFlat.okCall PyKm462.shape c /\ Km462Neutral.asked1 (PyKm462.whole c) = true) /\ SA C CS G S (dOf st) /\ Same G H' /\ Same H H' /\ (∀ b o, H b = some o -> G b = none) /\ G t = none /\ H' t = some (.lst (pre.map V.int)) /\ Km462Neutral.may st (rest.map PyKm462.whole) = true /\ PyKm462.answers ns = pre ++ PyFlat.told (PyFlat.played Km462Neutral.step st (rest.map PyKm462.whole)), fun σ' H' h => h, ?_⟩
        refine ⟨_, rfl, _, rfl, a, _, _, nv j, rfl, rfl, hsq, at_of (j := front.length) rfl (by rw [eV, List.getElem?_append_right (by rw [List.length_map]; exact Nat.le_refl _)]; simp), ?_⟩
        refine ⟨_, rfl, _, _, rfl, rfl, _, rfl, tk, _, _, nv gs.length, rfl, rfl, hT _, at_of (j := j) rfl (by rw [List.getElem?_map, e2]; rfl), _, _, rfl, rfl, ?_⟩
        obtain ⟨dx2, av, e, l, es, ls, I⟩ := id hSA
        have hi := smG _ _ I.ins
        refine ⟨_, rfl, S, dx2, _, rfl, hi, rfl, _, rfl, _, rfl, _, rfl, _, _, rfl, rfl, _, rfl, _, rfl, _, rfl, a, _, rfl, hsq, fun p hp => ?_⟩
        have hcut : cutV (ns.map V.int) (some ((front.length : Int) + 1)) (some ((front.length : Int) + 1 + (gs.length : Int))) = gs.map nv := by
          have := cut_mid (front.map V.int) (gs.map nv) ((PyFlat.put rest).map V.int) (nv j)
          rw [<- eV, List.length_map, List.length_map] at this
          exact this
        rw [hcut]
        have hpt : p ≠ t := fun z => by rw [z, ht2] at hp; cases hp
        refine ⟨G, S, dOf st, p, j, gs, x, rfl, hSA, smG.new hp, upd_same, hC, fun H3 G3 q A3 sm3 kp3 hq3 h3 => ?_⟩
        have t3 := kp3 t _ (by rw [upd_ne (Ne.symm hpt)]; exact ht2) gt
        have hqt : q ≠ t := fun z => by rw [z, upd_ne (Ne.symm hpt), ht2] at hq3; cases hq3
        have eT : toldD (dOf st) x = (Km462Neutral.step st (PyKm462.whole c)).2.map V.int := by
          unfold toldD
          rw [<- t1]
        rw [eT] at h3
        refine ⟨_, rfl, .inl ⟨rfl, _, SqL.of t3.1⟩, _, rfl, q, _, rfl, .inl (SqL.of h3), t, _, _, rfl, rfl, t3.1, by rw [List.length_map]; omega, ?_⟩
        refine ⟨_, rfl, .inl ⟨rfl, _, SqL.of upd_same⟩, _, rfl, t, q, _, _, rfl, rfl, upd_same, by rw [upd_ne hqt]; exact h3, by simp only [List.length_append, List.length_map, List.length_cons, List.length_nil]; omega, ?_⟩
        refine ⟨_, rfl, rest.length, Nat.lt_succ_self _, front ++ PyFlat.put1 c, rest, (Km462Neutral.step st (PyKm462.whole c)).1, G3, pre ++ (((Km462Neutral.step st (PyKm462.whole c)).2.length : Int) :: (Km462Neutral.step st (PyKm462.whole c)).2), some (nv j), some (V.int ((front.length : Int) + 1 + (gs.length : Int))), some (V.ref q), rfl, ?_, ?_, fun d hd => hrest d (List.mem_cons_of_mem _ hd), ?_, ?_, ?_, ?_, t3.2, ?_, hm3.2, ?_⟩
        . have el : (nv (front ++ PyFlat.put1 c).length) = V.int ((front.length : Int) + 1 + (gs.length : Int)) := by
            rw [e1, List.length_append, List.length_map, List.length_cons]
            exact congrArg V.int (by rw [Int.natCast_add, Int.natCast_succ]; omega)
          rw [el]
          rfl
        . rw [hns, List.append_assoc]; rfl
        . rw [t2]; exact A3
        . exact (sm3.put t3.2).put t3.2
        . intro b o hb
          have nbt : b ≠ t := fun z => by rw [z] at hb; rw [s1.free ht] at hb; cases hb
          rw [upd_ne nbt, upd_ne nbt]
          exact (kp3 b o (by rw [upd_ne (ne_of_none (smH _ _ hb) hp)]; exact smH _ _ hb) (gH b o hb)).1
        . intro b o hb
          exact (kp3 b o (by rw [upd_ne (ne_of_none (smH _ _ hb) hp)]; exact smH _ _ hb) (gH b o hb)).2
        . rw [upd_same]
          simp
        . rw [hans3, List.append_assoc]
    . have hge := of_decide_eq_false hge
      cases rest with
      | cons c rest =>
        obtain ⟨hc1, hc2⟩ := hrest c List.mem_cons_self
        obtain ⟨j, gs, x, e1, e2, hj, e3, hC⟩ := call_of hc1 hc2
        exfalso
        apply hge
        rw [hns]
        show _ < (front ++ (PyFlat.put1 c ++ PyFlat.put rest)).length
        rw [e1]
        simp
      | nil =>
        refine ⟨_, rfl, k _ t ?_⟩
        rw [ht2, hans2]
        show _ = some (HO.lst ((pre ++ []).map V.int))
        rw [List.append_nil]
end
end VV
namespace VV
open PySem PySem.Spec PyProof.Rows L2
structure Fds (K : PySem.W.Frag) (mg : Str -> Option Value) : Prop where
  one : Fd K mg "one" s_one
  first_villages : Fd K mg "first_villages" s_first_villages
  holds : Fd K mg "holds" s_holds
  without : Fd K mg "without" s_without
  size : Fd K mg "size" s_size
  members : Fd K mg "members" s_members
  subsets : Fd K mg "subsets" s_subsets
  how_many_villages : Fd K mg "how_many_villages" s_how_many_villages
  is_there : Fd K mg "is_there" s_is_there
  are_there : Fd K mg "are_there" s_are_there
  is_many : Fd K mg "is_many" s_is_many
  is_road : Fd K mg "is_road" s_is_road
  road_between : Fd K mg "road_between" s_road_between
  are_beside : Fd K mg "are_beside" s_are_beside
  beside : Fd K mg "beside" s_beside
  distances : Fd K mg "distances" s_distances
  beneath : Fd K mg "beneath" s_beneath
  branches : Fd K mg "branches" s_branches
  riders_over : Fd K mg "riders_over" s_riders_over
  roads_taken : Fd K mg "roads_taken" s_roads_taken
  round_length : Fd K mg "round_length" s_round_length
  all_ways : Fd K mg "all_ways" s_all_ways
  least_ways : Fd K mg "least_ways" s_least_ways
  nearer : Fd K mg "nearer" s_nearer
  rather : Fd K mg "rather" s_rather
  is_unbeaten : Fd K mg "is_unbeaten" s_is_unbeaten
  unbeaten : Fd K mg "unbeaten" s_unbeaten
  made_odd : Fd K mg "made_odd" s_made_odd
  living_in : Fd K mg "living_in" s_living_in
  is_middle : Fd K mg "is_middle" s_is_middle
  chosen : Fd K mg "chosen" s_chosen
  chosen_with_lie : Fd K mg "chosen_with_lie" s_chosen_with_lie
  within : Fd K mg "within" s_within
  reaches : Fd K mg "reaches" s_reaches
  served_by : Fd K mg "served_by" s_served_by
  fewest_with : Fd K mg "fewest_with" s_fewest_with
  fewest_posts : Fd K mg "fewest_posts" s_fewest_posts
  posts_with_schools : Fd K mg "posts_with_schools" s_posts_with_schools
  unserved : Fd K mg "unserved" s_unserved
  parts_paid : Fd K mg "parts_paid" s_parts_paid
  greatest_divisor : Fd K mg "greatest_divisor" s_greatest_divisor
  fraction : Fd K mg "fraction" s_fraction
  orders : Fd K mg "orders" s_orders
  adds : Fd K mg "adds" s_adds
  parts_saved : Fd K mg "parts_saved" s_parts_saved
  added_in_all_orders : Fd K mg "added_in_all_orders" s_added_in_all_orders
  stops_from : Fd K mg "stops_from" s_stops_from
  round_stops : Fd K mg "round_stops" s_round_stops
  gone_at : Fd K mg "gone_at" s_gone_at
  ask_chosen : Fd K mg "ask_chosen" s_ask_chosen
  ask_unbeaten : Fd K mg "ask_unbeaten" s_ask_unbeaten
  ask_rather : Fd K mg "ask_rather" s_ask_rather
  ask_ways : Fd K mg "ask_ways" s_ask_ways
  ask_best : Fd K mg "ask_best" s_ask_best
  ask_round : Fd K mg "ask_round" s_ask_round
  ask_from : Fd K mg "ask_from" s_ask_from
  ask_far : Fd K mg "ask_far" s_ask_far
  ask_fewest : Fd K mg "ask_fewest" s_ask_fewest
  ask_with : Fd K mg "ask_with" s_ask_with
  ask_lie : Fd K mg "ask_lie" s_ask_lie
  ask_stop : Fd K mg "ask_stop" s_ask_stop
  ask_pays : Fd K mg "ask_pays" s_ask_pays
  ask_mean : Fd K mg "ask_mean" s_ask_mean
  ask_joins : Fd K mg "ask_joins" s_ask_joins
  ask_look : Fd K mg "ask_look" s_ask_look
  ask_sums : Fd K mg "ask_sums" s_ask_sums
  ask_within : Fd K mg "ask_within" s_ask_within
  ask_saves : Fd K mg "ask_saves" s_ask_saves
  ask_farthest : Fd K mg "ask_farthest" s_ask_farthest
  ask_near : Fd K mg "ask_near" s_ask_near
  copy_of : Fd K mg "copy_of" s_copy_of
  add_village : Fd K mg "add_village" s_add_village
  set_children : Fd K mg "set_children" s_set_children
  set_road : Fd K mg "set_road" s_set_road
  move_child : Fd K mg "move_child" s_move_child
  elect_school : Fd K mg "elect_school" s_elect_school
  set_school : Fd K mg "set_school" s_set_school
  switch_refusal : Fd K mg "switch_refusal" s_switch_refusal
  switched : Fd K mg "switched" s_switched
  set_riding : Fd K mg "set_riding" s_set_riding
  set_post : Fd K mg "set_post" s_set_post
  set_all_posts : Fd K mg "set_all_posts" s_set_all_posts
  ask : Fd K mg "ask" s_ask
  change : Fd K mg "change" s_change
  is_change : Fd K mg "is_change" s_is_change
def Mf (K : PySem.W.Frag) (C : Addr) (m q : Str) (st : Stmt) : Prop := ∃ f fd, Meth K C m f /\ Fun K m q st f fd
def Ci (K : PySem.W.Frag) (C : Addr) (q : Str) (st : Stmt) : Prop := ∃ f fd, Mk K C f /\ Fun K "__init__" q st f fd
section
variable {K : PySem.W.Frag} {h : Heap} {mg : Str -> Option Value}
theorem fd_mk {x : Str} {st : Stmt} {f : Addr} {oc : Value} {od an : Option Addr} {sl : Array (Option Value)} {kV dc pm cd ct : Value} (X : K.In h) (G : h.Ns mainGlobals mg) (a : PySem.W.nsIn K mainGlobals x = some (some (.ref f)))
    (l : K.lookup f = some ⟨oc, od, .func (PySem.W.fnOf x x (defArgs st) (defBody st) (defScope st) .none kV dc pm an cd ct), sl⟩) (c : PySem.W.codeIn K cd x = true) (k : PySem.W.keepIn K (.ref f) = true) : Fd K mg x st := ⟨f, _, fun_mk l c k, PySem.W.mg_of X G a⟩
theorem mf_mk {C : Addr} {m q : Str} {st : Stmt} {f : Addr} {oc : Value} {od an : Option Addr} {sl : Array (Option Value)} {kV dc pm cd ct : Value} (a : PySem.W.findIn K (.ref C) m = some (some (.ref f))) (i : PySem.W.isFn K (.ref f) = true)
    (l : K.lookup f = some ⟨oc, od, .func (PySem.W.fnOf m q (defArgs st) (defBody st) (defScope st) .none kV dc pm an cd ct), sl⟩) (c : PySem.W.codeIn K cd q = true) (k : PySem.W.keepIn K (.ref f) = true) : Mf K C m q st := ⟨f, _, ⟨a, i, k⟩, fun_mk l c k⟩
theorem ci_mk {C : Addr} {q : Str} {st : Stmt} {f : Addr} {oc : Value} {od an : Option Addr} {sl : Array (Option Value)} {kV dc pm cd ct : Value} (mk : PySem.W.makesIn K C = true) (kc : PySem.W.keepIn K (.ref C) = true) (a : PySem.W.findIn K (.ref C) "__init__" = some (some (.ref f))) (i : PySem.W.isFn K (.ref f) = true)
    (l : K.lookup f = some ⟨oc, od, .func (PySem.W.fnOf "__init__" q (defArgs st) (defBody st) (defScope st) .none kV dc pm an cd ct), sl⟩) (c : PySem.W.codeIn K cd q = true) (k : PySem.W.keepIn K (.ref f) = true) : Ci K C q st := ⟨f, _, ⟨mk, a, i, kc⟩, fun_mk l c k⟩
theorem cls_mk {C : Addr} (pg : PySem.W.plainGet K C Str.empty = true) (hd : PySem.W.hasDictIn K C = true) (po : PySem.W.plainOver K C = true) (sa : PySem.W.findIn K (.ref C) "__setattr__" = some (some (.builtin "object.__setattr__"))) : Cls K C := ⟨pg, hd, po, sa⟩
theorem no_mk {C : Addr} {x : Str} (a : PySem.W.findIn K (.ref C) x = some none) : NoAttr K C x := a
theorem gi_mk {x : Str} {i : Int} {t : Tok} (X : K.In h) (G : h.Ns mainGlobals mg) (a : PySem.W.nsIn K mainGlobals x = some (some (.int i t))) : GI mg x i := ⟨t, PySem.W.mg_of X G a⟩
theorem tbl_fun : ∀ {T : List Tr} {ks : List (Int × Tok × Value)} (k : Int), T.length = ks.length -> (∀ (i : Nat) (r : Tr) (x : Int × Tok × Value), T[i]? = some r -> ks[i]? = some x -> (r.no : Int) = x.1 /\ mg r.nm = some x.2.2) -> valueAt (ks.map fun x => (x.1, x.2.2)) k = (nmOf T k).bind mg
  | [], [], k, _, _ => rfl
  | [], _ :: _, k, h, _ => by cases h
  | _ :: _, [], k, h, _ => by cases h
  | r :: T, x :: ks, k, h, hh => by
    obtain ⟨e1, e2⟩ := hh 0 r x rfl rfl
    have ih := tbl_fun (T := T) (ks := ks) k (by simpa using h) fun i r x a b => hh (i + 1) r x a b
    unfold valueAt nmOf at ih ⊢
    rw [List.map_cons, List.find?_cons, List.find?_cons]
    by_cases hk : x.1 = k
    . have d1 : decide (x.1 = k) = true := decide_eq_true hk
      have d2 : decide ((r.no : Int) = k) = true := decide_eq_true (e1.trans hk)
      simp only [d1, d2]
      exact e2.symm
    . have d1 : decide (x.1 = k) = false := decide_eq_false hk
      have d2 : decide ((r.no : Int) = k) = false := decide_eq_false (fun z => hk (e1.symm.trans z))
      simp only [d1, d2]
      exact ih
theorem tbl_ok {x : Str} {T : List Tr} {ks : List (Int × Tok × Value)} {d : Addr} {o : Obj} {es : Array DictEntry} {ep : Nat} (hm : mg x = some (.ref d)) (hs : (d == sysModules) = false) (ho : K.lookup d = some o) (hx : o.ExactDict) (hd : o.data = .dict es ep) (he : es.toList = ks.map ent) (nd : (ks.map (·.1)).Nodup) (hl : T.length = ks.length)
    (hh : ∀ (i : Nat) (r : Tr) (x : Int × Tok × Value), T[i]? = some r -> ks[i]? = some x -> (r.no : Int) = x.1 /\ mg r.nm = some x.2.2) : TblOk K mg x (nmOf T) := by
  refine ⟨d, hm, hs, fun P w h X => ?_⟩
  have := tbl_map (P := P) (w := w) (X d o ho) hx hd he nd
  rw [show (fun k => (nmOf T k).bind mg) = valueAt (ks.map fun x => (x.1, x.2.2)) from funext fun k => (tbl_fun k hl hh).symm]
  exact this
theorem tb_ASKS {d : Addr} {ep : Nat} {t0 t1 t2 t3 t4 t5 t6 t7 t8 t9 t10 t11 t12 t13 t14 t15 t16 t17 t18 t19 t20 : Tok} {f0 f1 f2 f3 f4 f5 f6 f7 f8 f9 f10 f11 f12 f13 f14 f15 f16 f17 f18 f19 f20 : Addr} (X : K.In h) (G : h.Ns mainGlobals mg) (a : PySem.W.nsIn K mainGlobals "ASKS" = some (some (.ref d))) (l : K.lookup d = some ⟨.type "dict", none, .dict #[⟨9, .int 9 t0, .ref f0⟩, ⟨10, .int 10 t1, .ref f1⟩, ⟨11, .int 11 t2, .ref f2⟩, ⟨12, .int 12 t3, .ref f3⟩, ⟨13, .int 13 t4, .ref f4⟩, ⟨14, .int 14 t5, .ref f5⟩, ⟨16, .int 16 t6, .ref f6⟩, ⟨17, .int 17 t7, .ref f7⟩, ⟨18, .int 18 t8, .ref f8⟩, ⟨19, .int 19 t9, .ref f9⟩, ⟨20, .int 20 t10, .ref f10⟩, ⟨21, .int 21 t11, .ref f11⟩, ⟨22, .int 22 t12, .ref f12⟩, ⟨23, .int 23 t13, .ref f13⟩, ⟨24, .int 24 t14, .ref f14⟩, ⟨25, .int 25 t15, .ref f15⟩, ⟨26, .int 26 t16, .ref f16⟩, ⟨27, .int 27 t17, .ref f17⟩, ⟨28, .int 28 t18, .ref f18⟩, ⟨29, .int 29 t19, .ref f19⟩, ⟨30, .int 30 t20, .ref f20⟩] ep, #[]⟩) (hs : (d == sysModules) = false)
    (n0 : PySem.W.nsIn K mainGlobals "ask_chosen" = some (some (.ref f0)))
    (n1 : PySem.W.nsIn K mainGlobals "ask_unbeaten" = some (some (.ref f1)))
    (n2 : PySem.W.nsIn K mainGlobals "ask_rather" = some (some (.ref f2)))
    (n3 : PySem.W.nsIn K mainGlobals "ask_ways" = some (some (.ref f3)))
    (n4 : PySem.W.nsIn K mainGlobals "ask_best" = some (some (.ref f4)))
    (n5 : PySem.W.nsIn K mainGlobals "ask_lie" = some (some (.ref f5)))
    (n6 : PySem.W.nsIn K mainGlobals "ask_round" = some (some (.ref f6)))
    (n7 : PySem.W.nsIn K mainGlobals "ask_from" = some (some (.ref f7)))
    (n8 : PySem.W.nsIn K mainGlobals "ask_stop" = some (some (.ref f8)))
    (n9 : PySem.W.nsIn K mainGlobals "ask_pays" = some (some (.ref f9)))
    (n10 : PySem.W.nsIn K mainGlobals "ask_saves" = some (some (.ref f10)))
    (n11 : PySem.W.nsIn K mainGlobals "ask_mean" = some (some (.ref f11)))
    (n12 : PySem.W.nsIn K mainGlobals "ask_joins" = some (some (.ref f12)))
    (n13 : PySem.W.nsIn K mainGlobals "ask_far" = some (some (.ref f13)))
    (n14 : PySem.W.nsIn K mainGlobals "ask_farthest" = some (some (.ref f14)))
    (n15 : PySem.W.nsIn K mainGlobals "ask_fewest" = some (some (.ref f15)))
    (n16 : PySem.W.nsIn K mainGlobals "ask_with" = some (some (.ref f16)))
    (n17 : PySem.W.nsIn K mainGlobals "ask_within" = some (some (.ref f17)))
    (n18 : PySem.W.nsIn K mainGlobals "ask_near" = some (some (.ref f18)))
    (n19 : PySem.W.nsIn K mainGlobals "ask_look" = some (some (.ref f19)))
    (n20 : PySem.W.nsIn K mainGlobals "ask_sums" = some (some (.ref f20))) : TblOk K mg "ASKS" (nmOf askT) := by
  refine tbl_ok (ks := [(9, t0, .ref f0), (10, t1, .ref f1), (11, t2, .ref f2), (12, t3, .ref f3), (13, t4, .ref f4), (14, t5, .ref f5), (16, t6, .ref f6), (17, t7, .ref f7), (18, t8, .ref f8), (19, t9, .ref f9), (20, t10, .ref f10), (21, t11, .ref f11), (22, t12, .ref f12), (23, t13, .ref f13), (24, t14, .ref f14), (25, t15, .ref f15), (26, t16, .ref f16), (27, t17, .ref f17), (28, t18, .ref f18), (29, t19, .ref f19), (30, t20, .ref f20)]) (PySem.W.mg_of X G a) hs l ⟨rfl, rfl, rfl⟩ rfl rfl (show ([9, 10, 11, 12, 13, 14, 16, 17, 18, 19, 20, 21, 22, 23, 24, 25, 26, 27, 28, 29, 30] : List Int).Nodup by decide) rfl (fun i r x h1 h2 => ?_)
  match i, h1, h2 with
  | 0, h1, h2 =>
    cases h1; cases h2
    exact ⟨rfl, PySem.W.mg_of X G n0⟩
  | 1, h1, h2 =>
    cases h1; cases h2
    exact ⟨rfl, PySem.W.mg_of X G n1⟩
  | 2, h1, h2 =>
    cases h1; cases h2
    exact ⟨rfl, PySem.W.mg_of X G n2⟩
  | 3, h1, h2 =>
    cases h1; cases h2
    exact ⟨rfl, PySem.W.mg_of X G n3⟩
  | 4, h1, h2 =>
    cases h1; cases h2
    exact ⟨rfl, PySem.W.mg_of X G n4⟩
  | 5, h1, h2 =>
    cases h1; cases h2
    exact ⟨rfl, PySem.W.mg_of X G n5⟩
  | 6, h1, h2 =>
    cases h1; cases h2
    exact ⟨rfl, PySem.W.mg_of X G n6⟩
  | 7, h1, h2 =>
    cases h1; cases h2
    exact ⟨rfl, PySem.W.mg_of X G n7⟩
  | 8, h1, h2 =>
    cases h1; cases h2
    exact ⟨rfl, PySem.W.mg_of X G n8⟩
  | 9, h1, h2 =>
    cases h1; cases h2
    exact ⟨rfl, PySem.W.mg_of X G n9⟩
  | 10, h1, h2 =>
    cases h1; cases h2
    exact ⟨rfl, PySem.W.mg_of X G n10⟩
  | 11, h1, h2 =>
    cases h1; cases h2
    exact ⟨rfl, PySem.W.mg_of X G n11⟩
  | 12, h1, h2 =>
    cases h1; cases h2
    exact ⟨rfl, PySem.W.mg_of X G n12⟩
  | 13, h1, h2 =>
    cases h1; cases h2
    exact ⟨rfl, PySem.W.mg_of X G n13⟩
  | 14, h1, h2 =>
    cases h1; cases h2
    exact ⟨rfl, PySem.W.mg_of X G n14⟩
  | 15, h1, h2 =>
    cases h1; cases h2
    exact ⟨rfl, PySem.W.mg_of X G n15⟩
  | 16, h1, h2 =>
    cases h1; cases h2
    exact ⟨rfl, PySem.W.mg_of X G n16⟩
  | 17, h1, h2 =>
    cases h1; cases h2
    exact ⟨rfl, PySem.W.mg_of X G n17⟩
  | 18, h1, h2 =>
    cases h1; cases h2
    exact ⟨rfl, PySem.W.mg_of X G n18⟩
  | 19, h1, h2 =>
    cases h1; cases h2
    exact ⟨rfl, PySem.W.mg_of X G n19⟩
  | 20, h1, h2 =>
    cases h1; cases h2
    exact ⟨rfl, PySem.W.mg_of X G n20⟩
  | i + 21, h1, h2 => cases h2
theorem tb_CHANGES {d : Addr} {ep : Nat} {t0 t1 t2 t3 t4 t5 t6 t7 t8 : Tok} {f0 f1 f2 f3 f4 f5 f6 f7 f8 : Addr} (X : K.In h) (G : h.Ns mainGlobals mg) (a : PySem.W.nsIn K mainGlobals "CHANGES" = some (some (.ref d))) (l : K.lookup d = some ⟨.type "dict", none, .dict #[⟨1, .int 1 t0, .ref f0⟩, ⟨2, .int 2 t1, .ref f1⟩, ⟨3, .int 3 t2, .ref f2⟩, ⟨4, .int 4 t3, .ref f3⟩, ⟨5, .int 5 t4, .ref f4⟩, ⟨6, .int 6 t5, .ref f5⟩, ⟨7, .int 7 t6, .ref f6⟩, ⟨8, .int 8 t7, .ref f7⟩, ⟨15, .int 15 t8, .ref f8⟩] ep, #[]⟩) (hs : (d == sysModules) = false)
    (n0 : PySem.W.nsIn K mainGlobals "add_village" = some (some (.ref f0)))
    (n1 : PySem.W.nsIn K mainGlobals "set_children" = some (some (.ref f1)))
    (n2 : PySem.W.nsIn K mainGlobals "set_road" = some (some (.ref f2)))
    (n3 : PySem.W.nsIn K mainGlobals "elect_school" = some (some (.ref f3)))
    (n4 : PySem.W.nsIn K mainGlobals "set_school" = some (some (.ref f4)))
    (n5 : PySem.W.nsIn K mainGlobals "set_riding" = some (some (.ref f5)))
    (n6 : PySem.W.nsIn K mainGlobals "set_post" = some (some (.ref f6)))
    (n7 : PySem.W.nsIn K mainGlobals "set_all_posts" = some (some (.ref f7)))
    (n8 : PySem.W.nsIn K mainGlobals "move_child" = some (some (.ref f8))) : TblOk K mg "CHANGES" (nmOf chgT) := by
  refine tbl_ok (ks := [(1, t0, .ref f0), (2, t1, .ref f1), (3, t2, .ref f2), (4, t3, .ref f3), (5, t4, .ref f4), (6, t5, .ref f5), (7, t6, .ref f6), (8, t7, .ref f7), (15, t8, .ref f8)]) (PySem.W.mg_of X G a) hs l ⟨rfl, rfl, rfl⟩ rfl rfl (show ([1, 2, 3, 4, 5, 6, 7, 8, 15] : List Int).Nodup by decide) rfl (fun i r x h1 h2 => ?_)
  match i, h1, h2 with
  | 0, h1, h2 =>
    cases h1; cases h2
    exact ⟨rfl, PySem.W.mg_of X G n0⟩
  | 1, h1, h2 =>
    cases h1; cases h2
    exact ⟨rfl, PySem.W.mg_of X G n1⟩
  | 2, h1, h2 =>
    cases h1; cases h2
    exact ⟨rfl, PySem.W.mg_of X G n2⟩
  | 3, h1, h2 =>
    cases h1; cases h2
    exact ⟨rfl, PySem.W.mg_of X G n3⟩
  | 4, h1, h2 =>
    cases h1; cases h2
    exact ⟨rfl, PySem.W.mg_of X G n4⟩
  | 5, h1, h2 =>
    cases h1; cases h2
    exact ⟨rfl, PySem.W.mg_of X G n5⟩
  | 6, h1, h2 =>
    cases h1; cases h2
    exact ⟨rfl, PySem.W.mg_of X G n6⟩
  | 7, h1, h2 =>
    cases h1; cases h2
    exact ⟨rfl, PySem.W.mg_of X G n7⟩
  | 8, h1, h2 =>
    cases h1; cases h2
    exact ⟨rfl, PySem.W.mg_of X G n8⟩
  | i + 9, h1, h2 => cases h2
theorem tb_TAKES {d : Addr} {n : Nat} {od : Option Addr} {sl : Array (Option Value)} {t0 t1 t2 t3 t4 t5 t6 t7 t8 t9 t10 t11 t12 t13 t14 t15 t16 t17 t18 t19 t20 t21 t22 t23 t24 t25 t26 t27 t28 t29 t30 t31 t32 t33 : Tok} (l : K.lookup d = some ⟨.type "tuple", od, .seq #[.int 1 t0, .int 3 t1, .int 2 t2, .int 2 t3, .int 0 t4, .int 1 t5, .int 2 t6, .int 2 t7, .int 1 t8, .int 0 t9, .int 0 t10, .int 2 t11, .int 1 t12, .int 0 t13, .int 2 t14, .int 2 t15, .int 0 t16, .int 1 t17, .int 1 t18, .int 1 t19, .int 1 t20, .int 1 t21, .int 1 t22, .int 1 t23, .int 0 t24, .int 1 t25, .int 1 t26, .int 1 t27, .int 0 t28, .int 1 t29, .int 0 t30, .int 0 t31, .int 0 t32, .int 0 t33] n, sl⟩) (H : Hp) : SqT K H d (TK.map nv) :=
  .inr ⟨_, _, _, l, rfl, rfl, by show 34 <= sizeLine; decide, .cons ⟨_, rfl⟩ (.cons ⟨_, rfl⟩ (.cons ⟨_, rfl⟩ (.cons ⟨_, rfl⟩ (.cons ⟨_, rfl⟩ (.cons ⟨_, rfl⟩ (.cons ⟨_, rfl⟩ (.cons ⟨_, rfl⟩ (.cons ⟨_, rfl⟩ (.cons ⟨_, rfl⟩ (.cons ⟨_, rfl⟩ (.cons ⟨_, rfl⟩ (.cons ⟨_, rfl⟩ (.cons ⟨_, rfl⟩ (.cons ⟨_, rfl⟩ (.cons ⟨_, rfl⟩ (.cons ⟨_, rfl⟩ (.cons ⟨_, rfl⟩ (.cons ⟨_, rfl⟩ (.cons ⟨_, rfl⟩ (.cons ⟨_, rfl⟩ (.cons ⟨_, rfl⟩ (.cons ⟨_, rfl⟩ (.cons ⟨_, rfl⟩ (.cons ⟨_, rfl⟩ (.cons ⟨_, rfl⟩ (.cons ⟨_, rfl⟩ (.cons ⟨_, rfl⟩ (.cons ⟨_, rfl⟩ (.cons ⟨_, rfl⟩ (.cons ⟨_, rfl⟩ (.cons ⟨_, rfl⟩ (.cons ⟨_, rfl⟩ (.cons ⟨_, rfl⟩ (.nil))))))))))))))))))))))))))))))))))⟩
end
theorem all_ok {K : PySem.W.Frag} {mg : Str -> Option Value} {C CS tk fa : Addr} {fda : FuncData} (T : Txt mg) (Z : Vc K C) (Y : Sc K CS) (f : Fds K mg) (aV : mg "Valley" = some (.ref C)) (aS : mg "Session" = some (.ref CS)) (IV : Ci K C "Valley.__init__" s_Valley___init__) (IS : Ci K CS "Session.__init__" s_Session___init__)
    (M1 : Mf K CS "begin" "Session.begin" s_Session_begin) (M2 : Mf K CS "alter" "Session.alter" s_Session_alter) (M3 : Mf K CS "take_back" "Session.take_back" s_Session_take_back) (M4 : Mf K CS "do_again" "Session.do_again" s_Session_do_again) (M5 : Mf K CS "state" "Session.state" s_Session_state) (M6 : Mf K CS "answer" "Session.answer" s_Session_answer)
    (B_ASKS : TblOk K mg "ASKS" (nmOf askT)) (B_CHANGES : TblOk K mg "CHANGES" (nmOf chgT)) (T_TAKES : mg "TAKES" = some (.ref tk)) (hT : ∀ H : Hp, SqT K H tk (TK.map nv)) (F : Fun K "answers" "answers" s_answers fa fda) (P : Program) (w : World) (base : Heap) : FnOk P w K mg base CX0 19 fa fda ["calls"] (spAns K) := by
  have D_one := d_one (P := P) (w := w) (base := base) f.one
  have D_first_villages := d_first_villages (P := P) (w := w) (base := base) f.first_villages
  have D_holds := d_holds (P := P) (w := w) (base := base) f.holds
  have D_without := d_without (P := P) (w := w) (base := base) f.without
  have D_size := d_size (P := P) (w := w) (base := base) f.size
  have D_members := d_members (P := P) (w := w) (base := base) T f.members D_holds
  have D_subsets := d_subsets (P := P) (w := w) (base := base) T f.subsets D_without
  have D_how_many_villages := d_how_many_villages (P := P) (w := w) (base := base) T Z f.how_many_villages
  have D_is_there := d_is_there (P := P) (w := w) (base := base) f.is_there D_how_many_villages
  have D_are_there := d_are_there (P := P) (w := w) (base := base) f.are_there D_is_there
  have D_is_many := d_is_many (P := P) (w := w) (base := base) T f.is_many
  have D_is_road := d_is_road (P := P) (w := w) (base := base) T f.is_road
  have D_road_between := d_road_between (P := P) (w := w) (base := base) T f.road_between
  have D_are_beside := d_are_beside (P := P) (w := w) (base := base) T Z f.are_beside D_road_between
  have D_beside := d_beside (P := P) (w := w) (base := base) T f.beside D_how_many_villages D_are_beside
  have D_distances := d_distances (P := P) (w := w) (base := base) T Z f.distances D_how_many_villages
  have D_beneath := d_beneath (P := P) (w := w) (base := base) T Z f.beneath D_how_many_villages D_one
  have D_branches := d_branches (P := P) (w := w) (base := base) T Z f.branches D_how_many_villages D_beneath D_without D_first_villages
  have D_riders_over := d_riders_over (P := P) (w := w) (base := base) f.riders_over D_holds D_without
  have D_roads_taken := d_roads_taken (P := P) (w := w) (base := base) T f.roads_taken D_how_many_villages D_beneath D_riders_over D_one
  have D_round_length := d_round_length (P := P) (w := w) (base := base) T Z f.round_length D_how_many_villages D_roads_taken D_holds
  have D_all_ways := d_all_ways (P := P) (w := w) (base := base) T Z f.all_ways D_distances
  have D_least_ways := d_least_ways (P := P) (w := w) (base := base) T f.least_ways D_how_many_villages D_all_ways D_one
  have D_nearer := d_nearer (P := P) (w := w) (base := base) T f.nearer
  have D_rather := d_rather (P := P) (w := w) (base := base) Z f.rather D_distances D_nearer
  have D_is_unbeaten := d_is_unbeaten (P := P) (w := w) (base := base) f.is_unbeaten D_nearer
  have D_unbeaten := d_unbeaten (P := P) (w := w) (base := base) T Z f.unbeaten D_distances D_is_unbeaten D_one
  have D_made_odd := d_made_odd (P := P) (w := w) (base := base) T f.made_odd
  have D_living_in := d_living_in (P := P) (w := w) (base := base) T f.living_in D_holds
  have D_is_middle := d_is_middle (P := P) (w := w) (base := base) T f.is_middle D_branches D_living_in
  have D_chosen := d_chosen (P := P) (w := w) (base := base) T f.chosen D_made_odd D_is_middle
  have D_chosen_with_lie := d_chosen_with_lie (P := P) (w := w) (base := base) T Z f.chosen_with_lie D_chosen
  have D_within := d_within (P := P) (w := w) (base := base) T f.within D_one
  have D_reaches := d_reaches (P := P) (w := w) (base := base) T f.reaches D_distances D_within
  have D_served_by := d_served_by (P := P) (w := w) (base := base) f.served_by D_members
  have D_fewest_with := d_fewest_with (P := P) (w := w) (base := base) T f.fewest_with D_reaches D_served_by D_holds D_one D_first_villages D_size
  have D_fewest_posts := d_fewest_posts (P := P) (w := w) (base := base) f.fewest_posts D_fewest_with
  have D_posts_with_schools := d_posts_with_schools (P := P) (w := w) (base := base) Z f.posts_with_schools D_fewest_with D_one
  have D_unserved := d_unserved (P := P) (w := w) (base := base) Z f.unserved D_how_many_villages D_first_villages D_without D_served_by D_reaches
  have D_parts_paid := d_parts_paid (P := P) (w := w) (base := base) T Z f.parts_paid D_beneath D_how_many_villages D_riders_over D_holds D_size
  have D_greatest_divisor := d_greatest_divisor (P := P) (w := w) (base := base) f.greatest_divisor
  have D_fraction := d_fraction (P := P) (w := w) (base := base) T f.fraction D_greatest_divisor
  have D_orders := d_orders (P := P) (w := w) (base := base) T f.orders
  have D_adds := d_adds (P := P) (w := w) (base := base) Z f.adds D_round_length D_one
  have D_parts_saved := d_parts_saved (P := P) (w := w) (base := base) T Z f.parts_saved D_round_length D_parts_paid D_members
  have D_added_in_all_orders := d_added_in_all_orders (P := P) (w := w) (base := base) Z f.added_in_all_orders D_without D_one D_subsets D_orders D_size D_adds
  have D_stops_from := d_stops_from (P := P) (w := w) (base := base) f.stops_from D_beside D_holds D_road_between 10
  have D_round_stops := d_round_stops (P := P) (w := w) (base := base) Z f.round_stops D_roads_taken D_stops_from
  have D_gone_at := d_gone_at (P := P) (w := w) (base := base) T Z f.gone_at D_road_between
  have D_ask_chosen := d_ask_chosen (P := P) (w := w) (base := base) T Z f.ask_chosen D_chosen D_all_ways
  have D_ask_unbeaten := d_ask_unbeaten (P := P) (w := w) (base := base) f.ask_unbeaten D_unbeaten D_size
  have D_ask_rather := d_ask_rather (P := P) (w := w) (base := base) T f.ask_rather D_are_there D_rather
  have D_ask_ways := d_ask_ways (P := P) (w := w) (base := base) T f.ask_ways D_is_there D_all_ways
  have D_ask_best := d_ask_best (P := P) (w := w) (base := base) f.ask_best D_least_ways
  have D_ask_round := d_ask_round (P := P) (w := w) (base := base) Z f.ask_round D_round_length D_size
  have D_ask_from := d_ask_from (P := P) (w := w) (base := base) T Z f.ask_from D_is_there D_round_length
  have D_ask_far := d_ask_far (P := P) (w := w) (base := base) T Z f.ask_far D_is_there D_distances
  have D_ask_fewest := d_ask_fewest (P := P) (w := w) (base := base) f.ask_fewest D_fewest_posts D_size
  have D_ask_with := d_ask_with (P := P) (w := w) (base := base) f.ask_with D_posts_with_schools D_size
  have D_ask_lie := d_ask_lie (P := P) (w := w) (base := base) T Z f.ask_lie D_are_there D_distances D_chosen_with_lie D_chosen
  have D_ask_stop := d_ask_stop (P := P) (w := w) (base := base) T f.ask_stop D_round_stops D_gone_at
  have D_ask_pays := d_ask_pays (P := P) (w := w) (base := base) T Z f.ask_pays D_is_there D_holds D_fraction D_parts_paid
  have D_ask_mean := d_ask_mean (P := P) (w := w) (base := base) T Z f.ask_mean D_is_there D_holds D_size D_added_in_all_orders D_orders
  have D_ask_joins := d_ask_joins (P := P) (w := w) (base := base) T Z f.ask_joins D_is_there D_holds D_adds D_parts_paid D_one
  have D_ask_look := d_ask_look (P := P) (w := w) (base := base) T Z f.ask_look D_is_there D_holds
  have D_ask_sums := d_ask_sums (P := P) (w := w) (base := base) T Z f.ask_sums
  have D_ask_within := d_ask_within (P := P) (w := w) (base := base) f.ask_within D_unserved
  have D_ask_saves := d_ask_saves (P := P) (w := w) (base := base) T Z f.ask_saves D_without D_first_villages D_how_many_villages D_fraction D_parts_saved
  have D_ask_farthest := d_ask_farthest (P := P) (w := w) (base := base) T Z f.ask_farthest D_distances
  have D_ask_near := d_ask_near (P := P) (w := w) (base := base) T Z f.ask_near D_distances D_members
  have D_Valley : Mc P w K mg base C 1 "Valley" ["self", "many"] (spInitV C) := by
    obtain ⟨g, gd, M, F⟩ := IV
    exact ⟨g, gd, M, aV, d_initV Z F, F.binds fun _ _ _ _ _ _ us hl => match us, hl with | [_, _], _ => rfl⟩
  have D_copy_of := d_copy_of (P := P) (w := w) (base := base) T Z f.copy_of D_Valley
  have D_add_village := d_add_village (P := P) (w := w) (base := base) T Z f.add_village D_is_there D_is_road D_is_many D_how_many_villages
  have D_set_children := d_set_children (P := P) (w := w) (base := base) T Z f.set_children D_is_there D_is_many
  have D_set_road := d_set_road (P := P) (w := w) (base := base) T Z f.set_road D_is_there D_is_road
  have D_move_child := d_move_child (P := P) (w := w) (base := base) T Z f.move_child D_are_there
  have D_elect_school := d_elect_school (P := P) (w := w) (base := base) T Z f.elect_school D_chosen
  have D_set_school := d_set_school (P := P) (w := w) (base := base) T Z f.set_school D_is_there
  have D_switch_refusal := d_switch_refusal (P := P) (w := w) (base := base) T f.switch_refusal D_is_there D_holds
  have D_switched := d_switched (P := P) (w := w) (base := base) f.switched D_one D_without
  have D_set_riding := d_set_riding (P := P) (w := w) (base := base) T Z f.set_riding D_switch_refusal D_switched D_size
  have D_set_post := d_set_post (P := P) (w := w) (base := base) T Z f.set_post D_switch_refusal D_switched D_size
  have D_set_all_posts := d_set_all_posts (P := P) (w := w) (base := base) T Z f.set_all_posts D_posts_with_schools D_size
  have D_ask := d_ask (P := P) (w := w) (base := base) (C := C) f.ask B_ASKS (by
    intro r hr
    simp only [askT, List.mem_cons, List.not_mem_nil, or_false] at hr
    rcases hr with h | h | h | h | h | h | h | h | h | h | h | h | h | h | h | h | h | h | h | h | h
    . subst h; exact D_ask_chosen
    . subst h; exact D_ask_unbeaten
    . subst h; exact D_ask_rather
    . subst h; exact D_ask_ways
    . subst h; exact D_ask_best
    . subst h; exact D_ask_lie
    . subst h; exact D_ask_round
    . subst h; exact D_ask_from
    . subst h; exact D_ask_stop
    . subst h; exact D_ask_pays
    . subst h; exact D_ask_saves
    . subst h; exact D_ask_mean
    . subst h; exact D_ask_joins
    . subst h; exact D_ask_far
    . subst h; exact D_ask_farthest
    . subst h; exact D_ask_fewest
    . subst h; exact D_ask_with
    . subst h; exact D_ask_within
    . subst h; exact D_ask_near
    . subst h; exact D_ask_look
    . subst h; exact D_ask_sums)
  have D_change := d_change (P := P) (w := w) (base := base) (C := C) f.change B_CHANGES (by
    intro r hr
    simp only [chgT, List.mem_cons, List.not_mem_nil, or_false] at hr
    rcases hr with h | h | h | h | h | h | h | h | h
    . subst h; exact D_add_village
    . subst h; exact D_set_children
    . subst h; exact D_set_road
    . subst h; exact D_elect_school
    . subst h; exact D_set_school
    . subst h; exact D_set_riding
    . subst h; exact D_set_post
    . subst h; exact D_set_all_posts
    . subst h; exact D_move_child)
  have D_is_change := d_is_change (P := P) (w := w) (base := base) f.is_change B_CHANGES (by
    intro r hr
    have key : ∀ {x : Str} {st : Stmt}, Fd K mg x st -> (mg x).isSome = true := fun h => by
      obtain ⟨g, gd, _, e⟩ := h
      rw [e]; rfl
    simp only [chgT, List.mem_cons, List.not_mem_nil, or_false] at hr
    rcases hr with h | h | h | h | h | h | h | h | h
    . subst h; exact key f.add_village
    . subst h; exact key f.set_children
    . subst h; exact key f.set_road
    . subst h; exact key f.elect_school
    . subst h; exact key f.set_school
    . subst h; exact key f.set_riding
    . subst h; exact key f.set_post
    . subst h; exact key f.set_all_posts
    . subst h; exact key f.move_child)
  have D_Session : Mc P w K mg base CS 3 "Session" ["self"] (spInitS C CS) := by
    obtain ⟨g, gd, M, F⟩ := IS
    exact ⟨g, gd, M, aS, d_initS Y F D_Valley, F.binds fun _ _ _ _ _ _ us hl => match us, hl with | [_], _ => rfl⟩
  have Db : ∀ m, Mm P w K mg base CS 3 "begin" ["self", "many"] (sp_call C CS [nv m] (.start m)) := by
    obtain ⟨g, gd, M, F⟩ := M1
    exact fun m => ⟨g, gd, M, d_begin T Y F D_is_many D_Valley m, F.binds fun _ _ _ _ _ _ us hl => match us, hl with | [_, _], _ => rfl⟩
  have D_alter : Mm P w K mg base CS 8 "alter" ["self", "number", "given"] (sp_alter C CS) := by
    obtain ⟨g, gd, M, F⟩ := M2
    exact ⟨g, gd, M, d_alter T Y F D_copy_of D_change, F.binds fun _ _ _ _ _ _ us hl => match us, hl with | [_, _, _], _ => rfl⟩
  have D_take_back : Mm P w K mg base CS 1 "take_back" ["self"] (sp_call C CS [] .back) := by
    obtain ⟨g, gd, M, F⟩ := M3
    exact ⟨g, gd, M, d_take_back T Y F, F.binds fun _ _ _ _ _ _ us hl => match us, hl with | [_], _ => rfl⟩
  have D_do_again : Mm P w K mg base CS 1 "do_again" ["self"] (sp_call C CS [] .again) := by
    obtain ⟨g, gd, M, F⟩ := M4
    exact ⟨g, gd, M, d_do_again T Y F, F.binds fun _ _ _ _ _ _ us hl => match us, hl with | [_], _ => rfl⟩
  have D_state : Mm P w K mg base CS 2 "state" ["self"] (sp_call C CS [] .state) := by
    obtain ⟨g, gd, M, F⟩ := M5
    exact ⟨g, gd, M, d_state T Y F D_how_many_villages, F.binds fun _ _ _ _ _ _ us hl => match us, hl with | [_], _ => rfl⟩
  have D_answer : Mm P w K mg base CS 18 "answer" ["self", "number", "given"] (sp_answer C CS) := by
    obtain ⟨g, gd, M, F⟩ := M6
    exact ⟨g, gd, M, d_answer T Y F Db D_take_back D_do_again D_state D_alter D_is_change D_ask, F.binds fun _ _ _ _ _ _ us hl => match us, hl with | [_, _, _], _ => rfl⟩
  exact d_answers T Y F T_TAKES hT D_Session D_answer
theorem last_mk {P : Program} {w : World} {K : PySem.W.Frag} {h : Heap} {mg : Str -> Option Value} {C CS tk fa f : Addr} {oc : Value} {od an : Option Addr} {sl : Array (Option Value)} {kV dc pm cd ct : Value} (X : K.In h) (G : h.Ns mainGlobals mg) (hfa : mg "answers" = some (.ref fa))
    (aV : PySem.W.nsIn K mainGlobals "Valley" = some (some (.ref C))) (aS : PySem.W.nsIn K mainGlobals "Session" = some (some (.ref CS))) (aT : PySem.W.nsIn K mainGlobals "TAKES" = some (some (.ref tk)))
    (a : PySem.W.nsIn K mainGlobals "answers" = some (some (.ref f))) (l : K.lookup f = some ⟨oc, od, .func (PySem.W.fnOf "answers" "answers" (defArgs s_answers) (defBody s_answers) (defScope s_answers) .none kV dc pm an cd ct), sl⟩) (c : PySem.W.codeIn K cd "answers" = true) (k : PySem.W.keepIn K (.ref f) = true)
    (hT : ∀ H : Hp, SqT K H tk (TK.map nv)) (T : Txt mg) (Z : Vc K C) (Y : Sc K CS) (fs : Fds K mg) (IV : Ci K C "Valley.__init__" s_Valley___init__) (IS : Ci K CS "Session.__init__" s_Session___init__)
    (M1 : Mf K CS "begin" "Session.begin" s_Session_begin) (M2 : Mf K CS "alter" "Session.alter" s_Session_alter) (M3 : Mf K CS "take_back" "Session.take_back" s_Session_take_back) (M4 : Mf K CS "do_again" "Session.do_again" s_Session_do_again) (M5 : Mf K CS "state" "Session.state" s_Session_state) (M6 : Mf K CS "answer" "Session.answer" s_Session_answer)
    (bA : TblOk K mg "ASKS" (nmOf askT)) (bC : TblOk K mg "CHANGES" (nmOf chgT)) :
    ∃ fd : FuncData, (∀ (s : Shared) (us : List Value), us.length = (["calls"] : List Str).length -> BindsTo s fd ⟨us, []⟩ ((["calls"] : List Str).zip us)) /\ ∀ base : Heap, K.In base -> base.Ns mainGlobals mg -> FnOk P w K mg base CX0 19 fa fd ["calls"] (spAns K) := by
  have e := hfa.symm.trans (PySem.W.mg_of X G a)
  cases e
  exact ⟨PySem.W.fnOf "answers" "answers" (defArgs s_answers) (defBody s_answers) (defScope s_answers) .none kV dc pm an cd ct, fun s us hu => match us, hu with | [_], _ => .of_eq rfl, fun base _ _ =>
    all_ok T Z Y fs (PySem.W.mg_of X G aV) (PySem.W.mg_of X G aS) IV IS M1 M2 M3 M4 M5 M6 bA bC (PySem.W.mg_of X G aT) hT (fun_mk (st := s_answers) l c k) P w base⟩
end VV
namespace PySem.W.Fast
def tw17027107711171998214:=0
def tw17178629786561012028:=0
def tw593056315041861229:=0
def tw13849517473139392754:=0
def tw5506180589524970423:=0
def tw6433681207538219276:=0
def tw14102020521221536579:=0
def tw1608564850027658228:=0
def tw7937183031233538311:=0
def tw5997169444816586165:=0
def tw12093160942539245089:=0
def tw14429063927256178802:=0
def tw12705135811630036956:=0
def tw13512336592928095041:=0
def tw15327132417951182483:=0
def tw10209626574050271284:=0
def tw15625047292241312233:=0
def tw4158456058272071438:=0
def tw14132414738154395471:=0
def tw10441825991231663882:=0
def tw15058224547688092296:=0
def tw12396537481926830142:=0
def tw6254854985934314157:=0
def tw12961134034851946458:=0
def tw10416781919670451791:=0
def tw16929039263011160260:=0
def tw5521911355445599057:=0
def tw4457015629347853859:=0
def tw16229134560956918571:=0
def tw16831379526434875331:=0
def tw3403901422298461412:=0
def tw4836263615282019937:=0
def tw8319357114391089397:=0
def tw11152285773853603046:=0
def tw4942831146855002482:=0
def tw11578214812923741273:=0
def tw7568378984470794562:=0
def tw6901026766417653243:=0
def tw16743216364611999945:=0
def tw10346875193089119801:=0
def tw2697094350493730126:=0
def tw17505712261340380834:=0
def tw1813768972003753207:=0
def tw12390604177100974985:=0
def tw9549996854226636865:=0
def tw13496548212320735382:=0
def tw5056961547173208346:=0
def tw7731502441467302336:=0
def tw13938988185141512772:=0
def tw16101055702474944641:=0
def tw2358322506558993777:=0
def tw4785808930448555622:=0
def tw4818194781097147582:=0
def tw16325832124265998820:=0
def tw12439445424050718529:=0
def tw8064584298868285938:=0
def tw3069130380168615410:=0
def tw14826693375582429164:=0
def tw13965497341052047257:=0
def tw15706788867677978888:=0
def tw14755458064374850587:=0
def tw8762493792999658478:=0
def tw547415407991085784:=0
def tw16032750509538631603:=0
def tw4345750105792792749:=0
def tw5663439862155627786:=0
def tw13118399831018345986:=0
def tw15674812615746329697:=0
def tw2759196307682409674:=0
def tw2145518680092289778:=0
def tw7479948329105565205:=0
def tw11340175642053141633:=0
def tw13014685084725895069:=0
def tw12856679504666813366:=0
def tw13791810531050768120:=0
def tw9420053447655606552:=0
def tw413116987733615652:=0
def tw7373059792823208123:=0
def tw8333254519711040195:=0
def tw11108696884450312927:=0
def tw14815030042310129980:=0
def tw644609573240246046:=0
def tw4476166514543651149:=0
def tw5558461404139349917:=0
def tw4535570351340519227:=0
def tw7493172822354759785:=0
def tw3486265911524837729:=0
def tw10624002098868659708:=0
def tw6195667990968684492:=0
def tw6579853105347508645:=0
def tw15927938217462941513:=0
def tw14778303818505758850:=0
def tw2261866325479771848:=0
def tw6049217174999018178:=0
def tw16568645712183760313:=0
def tw144683202844110526:=0
def tw2450947555480290581:=0
def tw5467699602269769133:=0
def tw12602603648960750377:=0
def tw5541706519455308085:=0
def tw13443339465206019091:=0
def tw14883113111651705651:=0
def tw13473989152557255180:=0
def tw5622117811049609170:=0
def tw13418049273825015934:=0
def tw18199312330371484984:=0
def tw17951122615634006609:=0
def tw17037381944395671870:=0
def tw8187500778031449217:=0
def tw9023579401076864532:=0
def tw11210856595444492976:=0
def tw15271757889336905422:=0
def tw1444220438860642216:=0
def tw11804556232408980146:=0
def tw7670410264546212231:=0
def tw7483339384820041177:=0
def tw13157924118642666910:=0
def tw18169710284523542505:=0
def tw6351052606280664929:=0
def tw6944486738502154990:=0
def tw17246940089177167654:=0
def tw14333430348034950175:=0
def tw10846147078010283084:=0
def tw301173863098949810:=0
def tw2802013634784262478:=0
def tw18180353896873868995:=0
def tw15187808906374807797:=0
def tw270650987409035854:=0
def tw10856432354712278387:=0
def tw1688436087552909207:=0
def tw5656261109785458535:=0
def tw2501252970773920320:=0
def tw5598489292562634433:=0
def tw3335269384376179367:=0
def tw5478026559231774156:=0
def tw3958207986162611300:=0
def tw8464405813278690815:=0
def tw17144849098688763966:=0
def tw4195681555198739800:=0
def tw12697659091813169197:=0
def tw15744689475046330022:=0
def tw13909827766499328693:=0
def tw8359844082971205869:=0
def tw11811710039380561248:=0
def tw17657088231557584083:=0
def tw13849497268177936086:=0
def tw10640608283312232617:=0
def tw14183243187867696022:=0
def tw17503830453707832591:=0
def tw14316395441843299384:=0
def tw14423664222086896583:=0
def tw8819623544335714875:=0
def tw1948859902956191582:=0
def tw8179884888589872562:=0
def tw1579880614172150557:=0
def tw6193877856998938960:=0
def tw9128831338703418161:=0
def tw13468119420996041689:=0
def tw6076146418686487596:=0
def tw6522493231262152997:=0
def tw3470629816533667766:=0
def tw4008394138883209915:=0
def tw7861068033921203448:=0
def tw13425455451755822542:=0
def tw699816268806267158:=0
def tw8337544608349338769:=0
def tw3569516087573101843:=0
def tw9989610114014311406:=0
def tw2351973076491911419:=0
def tw14877722405833299765:=0
def tw12102272958475763338:=0
def tw3545075502475672534:=0
def tw16241056404943026305:=0
def tw1479064019005660948:=0
def tw15843260349664669823:=0
def tw3947054843944173281:=0
def tw4050010502195177645:=0
def tw7008865948335013776:=0
def tw1356361327359507600:=0
def tw14199610662073466316:=0
def tw1497185147164400430:=0
def tw14708038178464559352:=0
def tw690526956258581702:=0
def tw3710400278110374407:=0
def tw1775311498851930333:=0
def tw1691718574399543635:=0
def tw479897126528422734:=0
def tw16267132314725057841:=0
def tw13253572024575347038:=0
def tw17310633735123457831:=0
def tw4259036110231165828:=0
def tw9758600472452503304:=0
def tw1791432787650491267:=0
def tw6617523597662676486:=0
def tw6811892429034535744:=0
def tw10604737443562826524:=0
def tw2924142999471650549:=0
def tw10405529736859567376:=0
end PySem.W.Fast
open PySem PySem.W PyProof.Rows
set_option maxRecDepth 100000 in
set_option maxHeartbeats 0 in
theorem PySem.Challenge.cw_valleyvotes_s01_answers_holds : PySem.Challenge.rw_valleyvotes_s01_answers.Holds := by
  w_on; k_headS; (case hw => exact ⟨[.list [.int 0, .int 5]], by decide +kernel, by decide +kernel⟩)
  k_fillS
  refine L2.walk_specK (r := PySem.Challenge.rw_valleyvotes_s01_answers) (k := 19) (CX := L2.CX0) (ps := ["calls"]) (sp := VV.spAns) (by decide +kernel) rfl rfl ⟨rfl, by decide, by decide⟩ (fun w h Y => PySem.W.kIn_of Y) ?F ?S (fun _ _ _ _ z => z)
  case F =>
    intro w mg fa h Y KX G hmg
    refine' VV.last_mk KX G hmg ?aV ?aS ?aT ?a ?l ?c ?k ?hT ?T ?Z ?Y ?fs ?IV ?IS ?M1 ?M2 ?M3 ?M4 ?M5 ?M6 ?bA ?bC
    (case aV => k_is); (case aS => k_is); (case aT => k_is); (case a => k_is); (case l => k_is); (case c => k_is); (case k => k_is)
    (case hT => refine' VV.tb_TAKES ?l; (case l => k_is))
    (case T =>
      refine' ⟨?b0, ?b1, ?b2, ?b3, ?b4, ?b5, ?c0, ?c1, ?c2, ?c3, ?c4, ?c5, ?c6, ?c7, ?c8, ?c9, ?c10, ?c11, ?c12, ?c13, ?c14, ?c15, ?c16, ?c17⟩
      (case b0 => refine' PySem.W.mg_none_of KX G ?e; (case e => k_is))
      (case b1 => refine' PySem.W.mg_none_of KX G ?e; (case e => k_is))
      (case b2 => refine' PySem.W.mg_none_of KX G ?e; (case e => k_is))
      (case b3 => refine' PySem.W.mg_none_of KX G ?e; (case e => k_is))
      (case b4 => refine' PySem.W.mg_none_of KX G ?e; (case e => k_is))
      (case b5 => refine' PySem.W.mg_none_of KX G ?e; (case e => k_is))
      (case c0 => refine' VV.gi_mk KX G ?e; (case e => k_is))
      (case c1 => refine' VV.gi_mk KX G ?e; (case e => k_is))
      (case c2 => refine' VV.gi_mk KX G ?e; (case e => k_is))
      (case c3 => refine' VV.gi_mk KX G ?e; (case e => k_is))
      (case c4 => refine' VV.gi_mk KX G ?e; (case e => k_is))
      (case c5 => refine' VV.gi_mk KX G ?e; (case e => k_is))
      (case c6 => refine' VV.gi_mk KX G ?e; (case e => k_is))
      (case c7 => refine' VV.gi_mk KX G ?e; (case e => k_is))
      (case c8 => refine' VV.gi_mk KX G ?e; (case e => k_is))
      (case c9 => refine' VV.gi_mk KX G ?e; (case e => k_is))
      (case c10 => refine' VV.gi_mk KX G ?e; (case e => k_is))
      (case c11 => refine' VV.gi_mk KX G ?e; (case e => k_is))
      (case c12 => refine' VV.gi_mk KX G ?e; (case e => k_is))
      (case c13 => refine' VV.gi_mk KX G ?e; (case e => k_is))
      (case c14 => refine' VV.gi_mk KX G ?e; (case e => k_is))
      (case c15 => refine' VV.gi_mk KX G ?e; (case e => k_is))
      (case c16 => refine' VV.gi_mk KX G ?e; (case e => k_is))
      (case c17 => refine' VV.gi_mk KX G ?e; (case e => k_is)))
    (case Z =>
      refine' ⟨?cl, ?n0, ?n1, ?n2, ?n3, ?n4, ?n5⟩
      (case cl => refine' VV.cls_mk ?pg ?hd ?po ?sa; (case pg => k_is); (case hd => k_is); (case po => k_is); (case sa => k_is))
      (case n0 => refine' VV.no_mk ?e; (case e => k_is))
      (case n1 => refine' VV.no_mk ?e; (case e => k_is))
      (case n2 => refine' VV.no_mk ?e; (case e => k_is))
      (case n3 => refine' VV.no_mk ?e; (case e => k_is))
      (case n4 => refine' VV.no_mk ?e; (case e => k_is))
      (case n5 => refine' VV.no_mk ?e; (case e => k_is)))
    (case Y =>
      refine' ⟨?cl, ?n0, ?n1, ?n2⟩
      (case cl => refine' VV.cls_mk ?pg ?hd ?po ?sa; (case pg => k_is); (case hd => k_is); (case po => k_is); (case sa => k_is))
      (case n0 => refine' VV.no_mk ?e; (case e => k_is))
      (case n1 => refine' VV.no_mk ?e; (case e => k_is))
      (case n2 => refine' VV.no_mk ?e; (case e => k_is)))
    (case fs =>
      refine' ⟨?f0, ?f1, ?f2, ?f3, ?f4, ?f5, ?f6, ?f7, ?f8, ?f9, ?f10, ?f11, ?f12, ?f13, ?f14, ?f15, ?f16, ?f17, ?f18, ?f19, ?f20, ?f21, ?f22, ?f23, ?f24, ?f25, ?f26, ?f27, ?f28, ?f29, ?f30, ?f31, ?f32, ?f33, ?f34, ?f35, ?f36, ?f37, ?f38, ?f39, ?f40, ?f41, ?f42, ?f43, ?f44, ?f45, ?f46, ?f47, ?f48, ?f49, ?f50, ?f51, ?f52, ?f53, ?f54, ?f55, ?f56, ?f57, ?f58, ?f59, ?f60, ?f61, ?f62, ?f63, ?f64, ?f65, ?f66, ?f67, ?f68, ?f69, ?f70, ?f71, ?f72, ?f73, ?f74, ?f75, ?f76, ?f77, ?f78, ?f79, ?f80, ?f81, ?f82, ?f83, ?f84⟩
      (case f0 => refine' VV.fd_mk KX G ?a ?l ?c ?k; (case a => k_is); (case l => k_is); (case c => k_is); (case k => k_is))
      (case f1 => refine' VV.fd_mk KX G ?a ?l ?c ?k; (case a => k_is); (case l => k_is); (case c => k_is); (case k => k_is))
      (case f2 => refine' VV.fd_mk KX G ?a ?l ?c ?k; (case a => k_is); (case l => k_is); (case c => k_is); (case k => k_is))
      (case f3 => refine' VV.fd_mk KX G ?a ?l ?c ?k; (case a => k_is); (case l => k_is); (case c => k_is); (case k => k_is))
      (case f4 => refine' VV.fd_mk KX G ?a ?l ?c ?k; (case a => k_is); (case l => k_is); (case c => k_is); (case k => k_is))
      (case f5 => refine' VV.fd_mk KX G ?a ?l ?c ?k; (case a => k_is); (case l => k_is); (case c => k_is); (case k => k_is))
      (case f6 => refine' VV.fd_mk KX G ?a ?l ?c ?k; (case a => k_is); (case l => k_is); (case c => k_is); (case k => k_is))
      (case f7 => refine' VV.fd_mk KX G ?a ?l ?c ?k; (case a => k_is); (case l => k_is); (case c => k_is); (case k => k_is))
      (case f8 => refine' VV.fd_mk KX G ?a ?l ?c ?k; (case a => k_is); (case l => k_is); (case c => k_is); (case k => k_is))
      (case f9 => refine' VV.fd_mk KX G ?a ?l ?c ?k; (case a => k_is); (case l => k_is); (case c => k_is); (case k => k_is))
      (case f10 => refine' VV.fd_mk KX G ?a ?l ?c ?k; (case a => k_is); (case l => k_is); (case c => k_is); (case k => k_is))
      (case f11 => refine' VV.fd_mk KX G ?a ?l ?c ?k; (case a => k_is); (case l => k_is); (case c => k_is); (case k => k_is))
      (case f12 => refine' VV.fd_mk KX G ?a ?l ?c ?k; (case a => k_is); (case l => k_is); (case c => k_is); (case k => k_is))
      (case f13 => refine' VV.fd_mk KX G ?a ?l ?c ?k; (case a => k_is); (case l => k_is); (case c => k_is); (case k => k_is))
      (case f14 => refine' VV.fd_mk KX G ?a ?l ?c ?k; (case a => k_is); (case l => k_is); (case c => k_is); (case k => k_is))
      (case f15 => refine' VV.fd_mk KX G ?a ?l ?c ?k; (case a => k_is); (case l => k_is); (case c => k_is); (case k => k_is))
      (case f16 => refine' VV.fd_mk KX G ?a ?l ?c ?k; (case a => k_is); (case l => k_is); (case c => k_is); (case k => k_is))
      (case f17 => refine' VV.fd_mk KX G ?a ?l ?c ?k; (case a => k_is); (case l => k_is); (case c => k_is); (case k => k_is))
      (case f18 => refine' VV.fd_mk KX G ?a ?l ?c ?k; (case a => k_is); (case l => k_is); (case c => k_is); (case k => k_is))
      (case f19 => refine' VV.fd_mk KX G ?a ?l ?c ?k; (case a => k_is); (case l => k_is); (case c => k_is); (case k => k_is))
      (case f20 => refine' VV.fd_mk KX G ?a ?l ?c ?k; (case a => k_is); (case l => k_is); (case c => k_is); (case k => k_is))
      (case f21 => refine' VV.fd_mk KX G ?a ?l ?c ?k; (case a => k_is); (case l => k_is); (case c => k_is); (case k => k_is))
      (case f22 => refine' VV.fd_mk KX G ?a ?l ?c ?k; (case a => k_is); (case l => k_is); (case c => k_is); (case k => k_is))
      (case f23 => refine' VV.fd_mk KX G ?a ?l ?c ?k; (case a => k_is); (case l => k_is); (case c => k_is); (case k => k_is))
      (case f24 => refine' VV.fd_mk KX G ?a ?l ?c ?k; (case a => k_is); (case l => k_is); (case c => k_is); (case k => k_is))
      (case f25 => refine' VV.fd_mk KX G ?a ?l ?c ?k; (case a => k_is); (case l => k_is); (case c => k_is); (case k => k_is))
      (case f26 => refine' VV.fd_mk KX G ?a ?l ?c ?k; (case a => k_is); (case l => k_is); (case c => k_is); (case k => k_is))
      (case f27 => refine' VV.fd_mk KX G ?a ?l ?c ?k; (case a => k_is); (case l => k_is); (case c => k_is); (case k => k_is))
      (case f28 => refine' VV.fd_mk KX G ?a ?l ?c ?k; (case a => k_is); (case l => k_is); (case c => k_is); (case k => k_is))
      (case f29 => refine' VV.fd_mk KX G ?a ?l ?c ?k; (case a => k_is); (case l => k_is); (case c => k_is); (case k => k_is))
      (case f30 => refine' VV.fd_mk KX G ?a ?l ?c ?k; (case a => k_is); (case l => k_is); (case c => k_is); (case k => k_is))
      (case f31 => refine' VV.fd_mk KX G ?a ?l ?c ?k; (case a => k_is); (case l => k_is); (case c => k_is); (case k => k_is))
      (case f32 => refine' VV.fd_mk KX G ?a ?l ?c ?k; (case a => k_is); (case l => k_is); (case c => k_is); (case k => k_is))
      (case f33 => refine' VV.fd_mk KX G ?a ?l ?c ?k; (case a => k_is); (case l => k_is); (case c => k_is); (case k => k_is))
      (case f34 => refine' VV.fd_mk KX G ?a ?l ?c ?k; (case a => k_is); (case l => k_is); (case c => k_is); (case k => k_is))
      (case f35 => refine' VV.fd_mk KX G ?a ?l ?c ?k; (case a => k_is); (case l => k_is); (case c => k_is); (case k => k_is))
      (case f36 => refine' VV.fd_mk KX G ?a ?l ?c ?k; (case a => k_is); (case l => k_is); (case c => k_is); (case k => k_is))
      (case f37 => refine' VV.fd_mk KX G ?a ?l ?c ?k; (case a => k_is); (case l => k_is); (case c => k_is); (case k => k_is))
      (case f38 => refine' VV.fd_mk KX G ?a ?l ?c ?k; (case a => k_is); (case l => k_is); (case c => k_is); (case k => k_is))
      (case f39 => refine' VV.fd_mk KX G ?a ?l ?c ?k; (case a => k_is); (case l => k_is); (case c => k_is); (case k => k_is))
      (case f40 => refine' VV.fd_mk KX G ?a ?l ?c ?k; (case a => k_is); (case l => k_is); (case c => k_is); (case k => k_is))
      (case f41 => refine' VV.fd_mk KX G ?a ?l ?c ?k; (case a => k_is); (case l => k_is); (case c => k_is); (case k => k_is))
      (case f42 => refine' VV.fd_mk KX G ?a ?l ?c ?k; (case a => k_is); (case l => k_is); (case c => k_is); (case k => k_is))
      (case f43 => refine' VV.fd_mk KX G ?a ?l ?c ?k; (case a => k_is); (case l => k_is); (case c => k_is); (case k => k_is))
      (case f44 => refine' VV.fd_mk KX G ?a ?l ?c ?k; (case a => k_is); (case l => k_is); (case c => k_is); (case k => k_is))
      (case f45 => refine' VV.fd_mk KX G ?a ?l ?c ?k; (case a => k_is); (case l => k_is); (case c => k_is); (case k => k_is))
      (case f46 => refine' VV.fd_mk KX G ?a ?l ?c ?k; (case a => k_is); (case l => k_is); (case c => k_is); (case k => k_is))
      (case f47 => refine' VV.fd_mk KX G ?a ?l ?c ?k; (case a => k_is); (case l => k_is); (case c => k_is); (case k => k_is))
      (case f48 => refine' VV.fd_mk KX G ?a ?l ?c ?k; (case a => k_is); (case l => k_is); (case c => k_is); (case k => k_is))
      (case f49 => refine' VV.fd_mk KX G ?a ?l ?c ?k; (case a => k_is); (case l => k_is); (case c => k_is); (case k => k_is))
      (case f50 => refine' VV.fd_mk KX G ?a ?l ?c ?k; (case a => k_is); (case l => k_is); (case c => k_is); (case k => k_is))
      (case f51 => refine' VV.fd_mk KX G ?a ?l ?c ?k; (case a => k_is); (case l => k_is); (case c => k_is); (case k => k_is))
      (case f52 => refine' VV.fd_mk KX G ?a ?l ?c ?k; (case a => k_is); (case l => k_is); (case c => k_is); (case k => k_is))
      (case f53 => refine' VV.fd_mk KX G ?a ?l ?c ?k; (case a => k_is); (case l => k_is); (case c => k_is); (case k => k_is))
      (case f54 => refine' VV.fd_mk KX G ?a ?l ?c ?k; (case a => k_is); (case l => k_is); (case c => k_is); (case k => k_is))
      (case f55 => refine' VV.fd_mk KX G ?a ?l ?c ?k; (case a => k_is); (case l => k_is); (case c => k_is); (case k => k_is))
      (case f56 => refine' VV.fd_mk KX G ?a ?l ?c ?k; (case a => k_is); (case l => k_is); (case c => k_is); (case k => k_is))
      (case f57 => refine' VV.fd_mk KX G ?a ?l ?c ?k; (case a => k_is); (case l => k_is); (case c => k_is); (case k => k_is))
      (case f58 => refine' VV.fd_mk KX G ?a ?l ?c ?k; (case a => k_is); (case l => k_is); (case c => k_is); (case k => k_is))
      (case f59 => refine' VV.fd_mk KX G ?a ?l ?c ?k; (case a => k_is); (case l => k_is); (case c => k_is); (case k => k_is))
      (case f60 => refine' VV.fd_mk KX G ?a ?l ?c ?k; (case a => k_is); (case l => k_is); (case c => k_is); (case k => k_is))
      (case f61 => refine' VV.fd_mk KX G ?a ?l ?c ?k; (case a => k_is); (case l => k_is); (case c => k_is); (case k => k_is))
      (case f62 => refine' VV.fd_mk KX G ?a ?l ?c ?k; (case a => k_is); (case l => k_is); (case c => k_is); (case k => k_is))
      (case f63 => refine' VV.fd_mk KX G ?a ?l ?c ?k; (case a => k_is); (case l => k_is); (case c => k_is); (case k => k_is))
      (case f64 => refine' VV.fd_mk KX G ?a ?l ?c ?k; (case a => k_is); (case l => k_is); (case c => k_is); (case k => k_is))
      (case f65 => refine' VV.fd_mk KX G ?a ?l ?c ?k; (case a => k_is); (case l => k_is); (case c => k_is); (case k => k_is))
      (case f66 => refine' VV.fd_mk KX G ?a ?l ?c ?k; (case a => k_is); (case l => k_is); (case c => k_is); (case k => k_is))
      (case f67 => refine' VV.fd_mk KX G ?a ?l ?c ?k; (case a => k_is); (case l => k_is); (case c => k_is); (case k => k_is))
      (case f68 => refine' VV.fd_mk KX G ?a ?l ?c ?k; (case a => k_is); (case l => k_is); (case c => k_is); (case k => k_is))
      (case f69 => refine' VV.fd_mk KX G ?a ?l ?c ?k; (case a => k_is); (case l => k_is); (case c => k_is); (case k => k_is))
      (case f70 => refine' VV.fd_mk KX G ?a ?l ?c ?k; (case a => k_is); (case l => k_is); (case c => k_is); (case k => k_is))
      (case f71 => refine' VV.fd_mk KX G ?a ?l ?c ?k; (case a => k_is); (case l => k_is); (case c => k_is); (case k => k_is))
      (case f72 => refine' VV.fd_mk KX G ?a ?l ?c ?k; (case a => k_is); (case l => k_is); (case c => k_is); (case k => k_is))
      (case f73 => refine' VV.fd_mk KX G ?a ?l ?c ?k; (case a => k_is); (case l => k_is); (case c => k_is); (case k => k_is))
      (case f74 => refine' VV.fd_mk KX G ?a ?l ?c ?k; (case a => k_is); (case l => k_is); (case c => k_is); (case k => k_is))
      (case f75 => refine' VV.fd_mk KX G ?a ?l ?c ?k; (case a => k_is); (case l => k_is); (case c => k_is); (case k => k_is))
      (case f76 => refine' VV.fd_mk KX G ?a ?l ?c ?k; (case a => k_is); (case l => k_is); (case c => k_is); (case k => k_is))
      (case f77 => refine' VV.fd_mk KX G ?a ?l ?c ?k; (case a => k_is); (case l => k_is); (case c => k_is); (case k => k_is))
      (case f78 => refine' VV.fd_mk KX G ?a ?l ?c ?k; (case a => k_is); (case l => k_is); (case c => k_is); (case k => k_is))
      (case f79 => refine' VV.fd_mk KX G ?a ?l ?c ?k; (case a => k_is); (case l => k_is); (case c => k_is); (case k => k_is))
      (case f80 => refine' VV.fd_mk KX G ?a ?l ?c ?k; (case a => k_is); (case l => k_is); (case c => k_is); (case k => k_is))
      (case f81 => refine' VV.fd_mk KX G ?a ?l ?c ?k; (case a => k_is); (case l => k_is); (case c => k_is); (case k => k_is))
      (case f82 => refine' VV.fd_mk KX G ?a ?l ?c ?k; (case a => k_is); (case l => k_is); (case c => k_is); (case k => k_is))
      (case f83 => refine' VV.fd_mk KX G ?a ?l ?c ?k; (case a => k_is); (case l => k_is); (case c => k_is); (case k => k_is))
      (case f84 => refine' VV.fd_mk KX G ?a ?l ?c ?k; (case a => k_is); (case l => k_is); (case c => k_is); (case k => k_is)))
    (case IV => refine' VV.ci_mk ?mk ?kc ?a ?i ?l ?c ?k; (case mk => k_is); (case kc => k_is); (case a => k_is); (case i => k_is); (case l => k_is); (case c => k_is); (case k => k_is))
    (case IS => refine' VV.ci_mk ?mk ?kc ?a ?i ?l ?c ?k; (case mk => k_is); (case kc => k_is); (case a => k_is); (case i => k_is); (case l => k_is); (case c => k_is); (case k => k_is))
    (case M1 => refine' VV.mf_mk ?a ?i ?l ?c ?k; (case a => k_is); (case i => k_is); (case l => k_is); (case c => k_is); (case k => k_is))
    (case M2 => refine' VV.mf_mk ?a ?i ?l ?c ?k; (case a => k_is); (case i => k_is); (case l => k_is); (case c => k_is); (case k => k_is))
    (case M3 => refine' VV.mf_mk ?a ?i ?l ?c ?k; (case a => k_is); (case i => k_is); (case l => k_is); (case c => k_is); (case k => k_is))
    (case M4 => refine' VV.mf_mk ?a ?i ?l ?c ?k; (case a => k_is); (case i => k_is); (case l => k_is); (case c => k_is); (case k => k_is))
    (case M5 => refine' VV.mf_mk ?a ?i ?l ?c ?k; (case a => k_is); (case i => k_is); (case l => k_is); (case c => k_is); (case k => k_is))
    (case M6 => refine' VV.mf_mk ?a ?i ?l ?c ?k; (case a => k_is); (case i => k_is); (case l => k_is); (case c => k_is); (case k => k_is))
    (case bA =>
      refine' VV.tb_ASKS KX G ?a ?l ?hs ?n0 ?n1 ?n2 ?n3 ?n4 ?n5 ?n6 ?n7 ?n8 ?n9 ?n10 ?n11 ?n12 ?n13 ?n14 ?n15 ?n16 ?n17 ?n18 ?n19 ?n20
      (case a => k_is); (case l => k_is); (case hs => rfl)
      (case n0 => k_is); (case n1 => k_is); (case n2 => k_is); (case n3 => k_is); (case n4 => k_is); (case n5 => k_is); (case n6 => k_is); (case n7 => k_is); (case n8 => k_is); (case n9 => k_is); (case n10 => k_is); (case n11 => k_is); (case n12 => k_is); (case n13 => k_is); (case n14 => k_is); (case n15 => k_is); (case n16 => k_is); (case n17 => k_is); (case n18 => k_is); (case n19 => k_is); (case n20 => k_is))
    (case bC =>
      refine' VV.tb_CHANGES KX G ?a ?l ?hs ?n0 ?n1 ?n2 ?n3 ?n4 ?n5 ?n6 ?n7 ?n8
      (case a => k_is); (case l => k_is); (case hs => rfl)
      (case n0 => k_is); (case n1 => k_is); (case n2 => k_is); (case n3 => k_is); (case n4 => k_is); (case n5 => k_is); (case n6 => k_is); (case n7 => k_is); (case n8 => k_is))
  case S =>
    intro K H xs a hO hwi hask hx
    cases hx with
    | cons h1 h2 =>
      cases h2
      cases h1 with
      | lst hs ha =>
        have e := L2.ints_dw a.1 _ ha
        subst e
        exact ⟨_, a.1, rfl, hs, hask, fun H' p hp => .lst (L2.SqL.of hp) (L2.dw_ints _)⟩
#print axioms PySem.Challenge.cw_valleyvotes_s01_answers_holds
