import PyProof.Rows.All
import Wide.All
import OpenK.AllK
import Wide.FinOn
import HandS.ForExc
import HandS.Text
import HandS.FStr
import HandS.RaiseMore
import HandS.IsInst
import HandS.ExcIs
import HandS.Comp
import HandS.Codes
import PySem.Challenge.RW_restruct_k00_signs_of_a_line
set_option Elab.async false
set_option linter.all false
set_option maxRecDepth 100000
set_option maxHeartbeats 4000000
namespace My
open PySem PySem.Spec PyProof.Rows L2
def top (i : Nat) : Stmt := PySem.Challenge.pw_restruct_k00_signs_of_a_line.main.body.getD i (.Pass ⟨0, 0, 0, 0⟩)
abbrev d_signs_of : Stmt := top 11
abbrev d__sign_from : Stmt := top 12
abbrev d__word_from : Stmt := top 13
abbrev d__end_of_run : Stmt := top 14
abbrev d__number_of : Stmt := top 15
abbrev d__law_cell : Stmt := top 17
abbrev d__law_draws : Stmt := top 18
abbrev d__law_stream : Stmt := top 19
abbrev d__law_next : Stmt := top 20
abbrev d__law_number : Stmt := top 21
abbrev d__law_is_integer : Stmt := top 22
abbrev d__law_same : Stmt := top 23
abbrev d__law_piece : Stmt := top 24
abbrev d__law_touches : Stmt := top 25
abbrev d_law : Stmt := top 26
end My

/-! Signs of a line, in plain Lean: what is read at a place, the whole line, and how a line with a space falls apart. -/
namespace Sg
def lets : List Nat := [97, 98, 99, 100, 101, 102, 103, 104, 105, 106, 107, 108, 109, 110, 111, 112, 113, 114, 115, 116, 117, 118, 119, 120, 121, 122]
def digs : List Nat := [48, 49, 50, 51, 52, 53, 54, 55, 56, 57]
def syms : List Nat := [40, 41, 123, 125, 58, 61, 43, 45, 42, 60]
/-- a sign -/
inductive S where
  | word (w : List Nat) | num (n : Nat) | sym (c : Nat)
  deriving DecidableEq
/-- how many codes of one kind stand together at the front -/
def run (cs : List Nat) : List Nat → Nat
  | [] => 0
  | c :: r => if c ∈ cs then run cs r + 1 else 0
def val (ds : List Nat) : Nat := ds.foldl (fun acc c => acc * 10 + (c - 48)) 0
/-- the number that digits stand for: w digits at most -/
def numOf (ds : List Nat) (least most w : Nat) : Option Nat :=
  if ds = [] ∨ w < ds.length then none
  else if ds[0]? = some 48 ∧ 1 < ds.length then none
  else if val ds < least ∨ most < val ds then none
  else some (val ds)
/-- the word at the front, and how many codes it takes -/
def wordAt (l : List Nat) : Option (S × Nat) :=
  if 8 < run lets l then none
  else if l[run lets l]? = some 46 then
    if (numOf ((l.drop (run lets l + 1)).take (run digs (l.drop (run lets l + 1)))) 2 99 2).isNone then none
    else some (.word (l.take (run lets l + 1 + run digs (l.drop (run lets l + 1)))), run lets l + 1 + run digs (l.drop (run lets l + 1)))
  else some (.word (l.take (run lets l)), run lets l)
/-- the sign at the front, and how many codes it takes -/
def signAt : List Nat → Option (S × Nat)
  | [] => none
  | c :: r =>
    if c ∈ lets then wordAt (c :: r)
    else if c ∈ digs then (numOf ((c :: r).take (run digs (c :: r))) 0 1000000 7).map fun v => (.num v, run digs (c :: r))
    else if c ∈ syms then some (.sym c, 1)
    else none
/-- the signs of a line -/
def lexF : Nat → List Nat → Option (List S)
  | 0, _ => none
  | _ + 1, [] => some []
  | k + 1, c :: r =>
    if c = 32 then lexF k r
    else match signAt (c :: r) with
      | none => none
      | some (s, n) => (lexF k ((c :: r).drop n)).map (s :: ·)
def lex (l : List Nat) : Option (List S) := lexF (l.length + 1) l

theorem run_le (cs : List Nat) : ∀ l : List Nat, run cs l ≤ l.length
  | [] => Nat.le_refl _
  | c :: r => by
    have h := run_le cs r
    show (if c ∈ cs then run cs r + 1 else 0) ≤ r.length + 1
    split <;> omega
theorem run_pos {cs : List Nat} {c : Nat} {r : List Nat} (h : c ∈ cs) : run cs (c :: r) = run cs r + 1 := if_pos h
theorem run_zero {cs : List Nat} {c : Nat} {r : List Nat} (h : c ∉ cs) : run cs (c :: r) = 0 := if_neg h
theorem wordAt_bounds {l : List Nat} {s : S} {n : Nat} (h : wordAt l = some (s, n)) : run lets l ≤ n ∧ n ≤ l.length := by
  unfold wordAt at h
  split at h
  · cases h
  · split at h
    · rename_i hd
      split at h
      · cases h
      · have e := Option.some.inj h
        have e2 : run lets l + 1 + run digs (l.drop (run lets l + 1)) = n := congrArg Prod.snd e
        have hr := run_le digs (l.drop (run lets l + 1))
        rw [List.length_drop] at hr
        obtain ⟨hlt, _⟩ := List.getElem?_eq_some_iff.mp hd
        omega
    · have e := Option.some.inj h
      have e2 : run lets l = n := congrArg Prod.snd e
      have hr := run_le lets l
      omega
theorem signAt_cons (c : Nat) (r : List Nat) : signAt (c :: r) = if c ∈ lets then wordAt (c :: r) else if c ∈ digs then (numOf ((c :: r).take (run digs (c :: r))) 0 1000000 7).map (fun v => (S.num v, run digs (c :: r))) else if c ∈ syms then some (.sym c, 1) else none := rfl
theorem signAt_bounds {l : List Nat} {s : S} {n : Nat} (h : signAt l = some (s, n)) : 1 ≤ n ∧ n ≤ l.length := by
  cases l with
  | nil => cases h
  | cons c r =>
    rw [signAt_cons] at h
    split at h
    · rename_i hc
      have b := wordAt_bounds h
      rw [run_pos hc] at b
      omega
    · split at h
      · rename_i hc
        cases e : numOf ((c :: r).take (run digs (c :: r))) 0 1000000 7 with
        | none => rw [e] at h; cases h
        | some v =>
          rw [e] at h
          have e2 : run digs (c :: r) = n := congrArg Prod.snd (Option.some.inj h)
          have hr := run_le digs (c :: r)
          have hp := run_pos (r := r) hc
          omega
      · split at h
        · have e2 : 1 = n := congrArg Prod.snd (Option.some.inj h)
          rw [List.length_cons]
          omega
        · cases h
theorem lexF_more : ∀ (k m : Nat) (l : List Nat), l.length < k → l.length < m → lexF k l = lexF m l
  | 0, _, _, h, _ => absurd h (Nat.not_lt_zero _)
  | _ + 1, 0, _, _, h => absurd h (Nat.not_lt_zero _)
  | k + 1, m + 1, [], _, _ => rfl
  | k + 1, m + 1, c :: r, h1, h2 => by
    rw [List.length_cons] at h1 h2
    show (if c = 32 then lexF k r else match signAt (c :: r) with | none => none | some (s, n) => (lexF k ((c :: r).drop n)).map (s :: ·)) = (if c = 32 then lexF m r else match signAt (c :: r) with | none => none | some (s, n) => (lexF m ((c :: r).drop n)).map (s :: ·))
    split
    · exact lexF_more k m r (by omega) (by omega)
    · cases e : signAt (c :: r) with
      | none => rfl
      | some p =>
        obtain ⟨s, n⟩ := p
        have b := signAt_bounds e
        have hl : ((c :: r).drop n).length < k := by rw [List.length_drop, List.length_cons]; omega
        have hl2 : ((c :: r).drop n).length < m := by rw [List.length_drop, List.length_cons]; omega
        show (lexF k ((c :: r).drop n)).map (s :: ·) = (lexF m ((c :: r).drop n)).map (s :: ·)
        rw [lexF_more k m _ hl hl2]
theorem lex_nil : lex [] = some [] := rfl
theorem lex_space (r : List Nat) : lex (32 :: r) = lex r := by
  show lexF (r.length + 1 + 1) (32 :: r) = lexF (r.length + 1) r
  rfl
theorem lex_bad {c : Nat} {r : List Nat} (hc : c ≠ 32) (h : signAt (c :: r) = none) : lex (c :: r) = none := by
  show (if c = 32 then lexF (r.length + 1) r else match signAt (c :: r) with | none => none | some (s, n) => (lexF (r.length + 1) ((c :: r).drop n)).map (s :: ·)) = none
  rw [if_neg hc, h]
theorem lex_sign {c : Nat} {r : List Nat} {s : S} {n : Nat} (hc : c ≠ 32) (h : signAt (c :: r) = some (s, n)) : lex (c :: r) = (lex ((c :: r).drop n)).map (s :: ·) := by
  show (if c = 32 then lexF (r.length + 1) r else match signAt (c :: r) with | none => none | some (s, n) => (lexF (r.length + 1) ((c :: r).drop n)).map (s :: ·)) = _
  rw [if_neg hc, h]
  have b := signAt_bounds h
  show (lexF (r.length + 1) ((c :: r).drop n)).map (s :: ·) = (lexF (((c :: r).drop n).length + 1) ((c :: r).drop n)).map (s :: ·)
  rw [lexF_more (r.length + 1) (((c :: r).drop n).length + 1) _ (by rw [List.length_drop, List.length_cons]; omega) (by omega)]

/-! ### what follows a sign does not change it, if it does not go on -/
/-- the front of b doesn't go on a run of the kind cs -/
def Stops (cs : List Nat) (b : List Nat) : Prop := ∀ c r, b = c :: r → c ∉ cs
theorem run_app {cs : List Nat} : ∀ {a b : List Nat}, Stops cs b ∨ run cs a < a.length → run cs (a ++ b) = run cs a
  | [], b, h => by
    rcases h with h | h
    · cases b with
      | nil => rfl
      | cons c r => exact run_zero (h c r rfl)
    · exact absurd h (Nat.not_lt_zero _)
  | c :: r, b, h => by
    by_cases hc : c ∈ cs
    · show (if c ∈ cs then run cs (r ++ b) + 1 else 0) = (if c ∈ cs then run cs r + 1 else 0)
      rw [if_pos hc, if_pos hc, run_app (a := r) (b := b)]
      rcases h with h | h
      · exact .inl h
      · rw [run_pos hc, List.length_cons] at h
        exact .inr (by omega)
    · rw [List.cons_append, run_zero hc, run_zero hc]
/-- the word at the front of a, whatever follows a: b goes on neither its letters nor its digits, nor is it a dot -/
theorem wordAt_app {a b : List Nat} (h1 : Stops lets b) (h2 : Stops digs b) (h3 : ∀ r, b ≠ 46 :: r) : wordAt (a ++ b) = wordAt a := by
  have e1 : run lets (a ++ b) = run lets a := run_app (.inl h1)
  have hr := run_le lets a
  have e2 : ((a ++ b)[run lets a]? = some 46) = (a[run lets a]? = some 46) := by
    by_cases hlt : run lets a < a.length
    · rw [List.getElem?_append_left hlt]
    · have e : run lets a = a.length := by omega
      rw [List.getElem?_append_right (by omega), e, Nat.sub_self]
      have n1 : a[a.length]? = none := List.getElem?_eq_none (Nat.le_refl _)
      rw [n1]
      cases b with
      | nil => rfl
      | cons c r =>
        apply propext
        constructor
        · intro z
          have z2 : c = 46 := Option.some.inj z
          exact absurd (by rw [z2]) (h3 r)
        · intro z
          cases z
  unfold wordAt
  rw [e1]
  by_cases hg : 8 < run lets a
  · rw [if_pos hg, if_pos hg]
  · rw [if_neg hg, if_neg hg]
    by_cases hd : a[run lets a]? = some 46
    · have hd' : (a ++ b)[run lets a]? = some 46 := e2 ▸ hd
      rw [if_pos hd, if_pos hd']
      obtain ⟨hlt, _⟩ := List.getElem?_eq_some_iff.mp hd
      have ed : (a ++ b).drop (run lets a + 1) = a.drop (run lets a + 1) ++ b := List.drop_append_of_le_length (by omega)
      have er : run digs (a.drop (run lets a + 1) ++ b) = run digs (a.drop (run lets a + 1)) := run_app (.inl h2)
      have hk := run_le digs (a.drop (run lets a + 1))
      rw [List.length_drop] at hk
      rw [ed, er, List.take_append_of_le_length (by rw [List.length_drop]; omega), List.take_append_of_le_length (by omega)]
    · have hd' : ¬ (a ++ b)[run lets a]? = some 46 := fun z => hd (e2 ▸ z)
      rw [if_neg hd, if_neg hd', List.take_append_of_le_length hr]
theorem signAt_app {a b : List Nat} (ha : a ≠ []) (h1 : Stops lets b) (h2 : Stops digs b) (h3 : ∀ r, b ≠ 46 :: r) : signAt (a ++ b) = signAt a := by
  cases a with
  | nil => exact absurd rfl ha
  | cons c r =>
    rw [List.cons_append, signAt_cons, signAt_cons]
    have ew : wordAt (c :: (r ++ b)) = wordAt (c :: r) := wordAt_app (a := c :: r) h1 h2 h3
    have ed : run digs (c :: (r ++ b)) = run digs (c :: r) := run_app (a := c :: r) (.inl h2)
    have et : (c :: (r ++ b)).take (run digs (c :: r)) = (c :: r).take (run digs (c :: r)) := List.take_append_of_le_length (l₁ := c :: r) (run_le digs (c :: r))
    rw [ew, ed, et]
/-- a space parts a line -/
theorem lex_parts : ∀ (k : Nat) (a b : List Nat), a.length ≤ k → lex (a ++ 32 :: b) = (lex a).bind fun x => (lex b).map (x ++ ·)
  | _, [], b, _ => by
    rw [List.nil_append, lex_space, lex_nil]
    show lex b = (lex b).map ([] ++ ·)
    cases lex b <;> rfl
  | 0, c :: r, _, h => by
    rw [List.length_cons] at h
    omega
  | k + 1, c :: r, b, h => by
    rw [List.length_cons] at h
    by_cases hc : c = 32
    · rw [hc, List.cons_append, lex_space, lex_space]
      exact lex_parts k r b (by omega)
    · have st1 : Stops lets (32 :: b) := fun c' r' e => by
        have z : 32 = c' := (List.cons.inj e).1
        rw [← z]; decide
      have st2 : Stops digs (32 :: b) := fun c' r' e => by
        have z : 32 = c' := (List.cons.inj e).1
        rw [← z]; decide
      have es : signAt ((c :: r) ++ 32 :: b) = signAt (c :: r) := signAt_app (by intro z; cases z) st1 st2 (fun r' e => by have z := (List.cons.inj e).1; omega)
      cases e : signAt (c :: r) with
      | none =>
        rw [e] at es
        rw [lex_bad hc e]
        exact lex_bad hc es
      | some p =>
        obtain ⟨s, n⟩ := p
        have bd := signAt_bounds e
        rw [e] at es
        have e1 := lex_sign hc e
        have e2 : lex ((c :: r) ++ 32 :: b) = (lex (((c :: r) ++ 32 :: b).drop n)).map (s :: ·) := lex_sign hc es
        rw [List.drop_append_of_le_length bd.2] at e2
        have ih := lex_parts k ((c :: r).drop n) b (by rw [List.length_drop, List.length_cons]; omega)
        rw [e2, e1, ih]
        cases lex ((c :: r).drop n) with
        | none => rfl
        | some x =>
          cases lex b with
          | none => rfl
          | some y => rfl
theorem lex_app (a b : List Nat) : lex (a ++ 32 :: b) = (lex a).bind fun x => (lex b).map (x ++ ·) := lex_parts a.length a b (Nat.le_refl _)
end Sg

namespace Sg
/-! a line has at most as many signs as codes; words are short -/
theorem numOf_len {ds : List Nat} {a b w v : Nat} (h : numOf ds a b w = some v) : ds.length ≤ w := by
  unfold numOf at h
  split at h
  · cases h
  · rename_i hn
    omega
def ShortS : S → Prop
  | .word w => w.length ≤ 11
  | _ => True
theorem wordAt_short {l : List Nat} {s : S} {n : Nat} (h : wordAt l = some (s, n)) : ShortS s := by
  unfold wordAt at h
  split at h
  · cases h
  · rename_i h8
    split at h
    · split at h
      · cases h
      · rename_i hd hn
        have e : S.word (l.take (run lets l + 1 + run digs (l.drop (run lets l + 1)))) = s := congrArg Prod.fst (Option.some.inj h)
        rw [← e]
        show (l.take _).length ≤ 11
        cases hv : numOf ((l.drop (run lets l + 1)).take (run digs (l.drop (run lets l + 1)))) 2 99 2 with
        | none => rw [hv] at hn; exact absurd rfl hn
        | some v =>
          have hl := numOf_len hv
          have hr := run_le digs (l.drop (run lets l + 1))
          rw [List.length_take, Nat.min_eq_left hr] at hl
          rw [List.length_take]
          omega
    · have e : S.word (l.take (run lets l)) = s := congrArg Prod.fst (Option.some.inj h)
      rw [← e]
      show (l.take _).length ≤ 11
      rw [List.length_take]
      omega
theorem signAt_short {l : List Nat} {s : S} {n : Nat} (h : signAt l = some (s, n)) : ShortS s := by
  cases l with
  | nil => cases h
  | cons c r =>
    rw [signAt_cons] at h
    split at h
    · exact wordAt_short h
    · split at h
      · cases e : numOf ((c :: r).take (run digs (c :: r))) 0 1000000 7 with
        | none => rw [e] at h; cases h
        | some v =>
          rw [e] at h
          have q : S.num v = s := congrArg Prod.fst (Option.some.inj h)
          rw [← q]
          trivial
      · split at h
        · have q : S.sym c = s := congrArg Prod.fst (Option.some.inj h)
          rw [← q]
          trivial
        · cases h
theorem lex_short : ∀ (k : Nat) (l : List Nat) (ss : List S), l.length ≤ k → lex l = some ss → ss.length ≤ l.length ∧ ∀ s ∈ ss, ShortS s
  | _, [], ss, _, h => by
    rw [lex_nil] at h
    have e := Option.some.inj h
    rw [← e]
    exact ⟨Nat.le_refl _, fun s hs => by cases hs⟩
  | 0, c :: r, ss, hk, _ => by
    rw [List.length_cons] at hk
    omega
  | k + 1, c :: r, ss, hk, h => by
    rw [List.length_cons] at hk
    by_cases hc : c = 32
    · rw [hc, lex_space] at h
      have ih := lex_short k r ss (by omega) h
      rw [List.length_cons]
      exact ⟨by omega, ih.2⟩
    · cases e : signAt (c :: r) with
      | none => rw [lex_bad hc e] at h; cases h
      | some p =>
        obtain ⟨s, n⟩ := p
        have bd := signAt_bounds e
        rw [lex_sign hc e] at h
        cases e2 : lex ((c :: r).drop n) with
        | none => rw [e2] at h; cases h
        | some ys =>
          rw [e2] at h
          have e3 : s :: ys = ss := Option.some.inj h
          have ih := lex_short k ((c :: r).drop n) ys (by rw [List.length_drop, List.length_cons]; omega) e2
          rw [List.length_drop] at ih
          rw [← e3]
          refine ⟨by rw [List.length_cons]; omega, fun x hx => ?_⟩
          rcases List.mem_cons.mp hx with rfl | hx
          · exact signAt_short e
          · exact ih.2 x hx
end Sg
namespace My
open PySem PySem.Spec PyProof.Rows L2

theorem ite_not {c A B : Prop} [Decidable c] (h : ¬ c) (b : B) : if decide c = true then A else B := by
  rw [if_neg fun z => h (of_decide_eq_true z)]
  exact b
theorem ite_yes {c A B : Prop} [Decidable c] (h : c) (a : A) : if decide c = true then A else B := by
  rw [if_pos (decide_eq_true h)]
  exact a
theorem iteT' {c : Bool} {A B : Prop} (hc : c = true) (h : A) : if c = true then A else B := by
  rw [if_pos hc]
  exact h
theorem iteF' {c : Bool} {A B : Prop} (hc : ¬ c = true) (h : B) : if c = true then A else B := by
  rw [if_neg hc]
  exact h
abbrev codes (z : Str) : List Nat := z.cps.toList
theorem len_codes (z : Str) : (codes z).length = z.length := Array.length_toList
section
variable {P : Program} {w : World} {K : PySem.W.Frag} {mg : Str → Option Value} {base : Heap}
/-! ### _end_of_run -/
def spEnd : Sp := fun vs H Q _ => ∃ (z cs : Str) (i : Nat), vs = [.str z, .int (i : Int), .str cs] ∧ z.length ≤ sizeLine ∧ i ≤ z.length ∧ Q (.int ((i + Sg.run (codes cs) ((codes z).drop i) : Nat) : Int)) H
theorem scE : FnScope ["line", "start", "characters", "end"] ["line", "start", "characters"] (defScope d__end_of_run) := ⟨rfl, rfl, rfl, by decide +kernel, rfl, by decide +kernel, by decide +kernel⟩
theorem drop_cons {l : List Nat} {j : Nat} {c : Nat} (h : l[j]? = some c) : l.drop j = c :: l.drop (j + 1) := by
  obtain ⟨hl, e⟩ := List.getElem?_eq_some_iff.mp h
  rw [← e]
  exact List.drop_eq_getElem_cons hl
theorem code_at (z : Str) {j : Nat} (h : j < z.length) : ∃ c, z.cps[j]? = some c ∧ (codes z)[j]? = some c := by
  have hl : j < z.cps.size := h
  refine ⟨z.cps[j], Array.getElem?_eq_getElem hl, ?_⟩
  rw [Array.getElem?_toList]
  exact Array.getElem?_eq_getElem hl
theorem size63 {n : Nat} (h : n ≤ sizeLine) : (n : Int) < 2 ^ 63 := by
  rw [sizeLine_eq] at h
  omega
theorem ok_end {f : Addr} {fd : FuncData} {k : Nat} (F : Fun K "_end_of_run" "_end_of_run" d__end_of_run f fd) (ml : mg "len" = none) : FnOk P w K mg base CX0 (k + 1) f fd ["line", "start", "characters"] spEnd := by
  refine F.ok scE (fun vs H Q E h => ?_) (fun cdv A outer s H vs Q E hr h => ?_)
  · obtain ⟨z, cs, i, rfl, _⟩ := h
    rfl
  obtain ⟨z, cs, i, rfl, hz, hi, q⟩ := h
  refine ⟨_, pss_cons (ps_set (i := 3) scE.nd rfl (.inl rfl) (pv 1))
    (pss_cons (ps_while PassesOwn.never (PW.pt (pw_and (pt_cmpR op_lt (pv 3) (pe_callB call_len_str (by rfl) ml PySem.boot_len (pa_cons (pv 0) pa_nil)) (nomark _)) (pw_and1 (pt_cmpR op_in_sign (pe_item_str (pv 0) (pv 3) (fun _ _ => rfl)) (pv 2) rfl))))
      (pss_one (ps_aug (i := 3) scE.nd rfl (.inl rfl) pe_int ip_add)))
    (pss_one (ps_ret (pv 3)))), ?_⟩
  refine ⟨_, rfl, ?_⟩
  refine ⟨fun m σ H' => ∃ j : Nat, σ = [some (.str z), some (.int (i : Int)), some (.str cs), some (.int (j : Int))] ∧ H' = H ∧ m = z.length - j ∧ i ≤ j ∧ j ≤ z.length ∧ i + Sg.run (codes cs) ((codes z).drop i) = j + Sg.run (codes cs) ((codes z).drop j), ⟨_, i, rfl, rfl, rfl, Nat.le_refl _, hi, rfl⟩, ?_⟩
  rintro m σ H' ⟨j, rfl, rfl, rfl, hij, hj, er⟩
  refine ⟨_, rfl, _, rfl, z, rfl, hz, _, _, rfl, rfl, _, rfl, ite2 (fun c => ?_) (fun c => ?_)⟩
  · have hjl : j < z.length := by
      have := of_decide_eq_true c
      omega
    obtain ⟨a, ha, hb⟩ := code_at z hjl
    refine ⟨_, rfl, _, rfl, z, _, a, rfl, rfl, by omega, size63 (by omega), by omega, ha, _, rfl, a, cs, rfl, rfl, _, rfl, ite2 (fun c2 => ?_) (fun c2 => ?_)⟩
    · have hm : a ∈ codes cs := of_decide_eq_true c2
      refine ⟨fun σ' H2 => σ' = [some (.str z), some (.int (i : Int)), some (.str cs), some (.int ((j + 1 : Nat) : Int))] ∧ H2 = H', fun σ' H2 hN => ?_, ?_⟩
      · obtain ⟨e1, e2⟩ := hN
        refine ⟨z.length - (j + 1), by omega, j + 1, e1, e2, rfl, by omega, by omega, ?_⟩
        rw [er, drop_cons hb, Sg.run_pos hm]
        omega
      · exact ⟨_, rfl, _, _, rfl, rfl, ⟨rfl, rfl⟩⟩
    · have hm : a ∉ codes cs := fun z => c2 (decide_eq_true z)
      refine ⟨_, rfl, ?_⟩
      have e : i + Sg.run (codes cs) ((codes z).drop i) = j := by rw [er, drop_cons hb, Sg.run_zero hm, Nat.add_zero]
      rw [e] at q
      exact q
  · have e : j = z.length := by
      have := of_decide_eq_false (Bool.eq_false_iff.mpr c)
      omega
    refine ⟨_, rfl, ?_⟩
    have e2 : i + Sg.run (codes cs) ((codes z).drop i) = j := by
      rw [er, List.drop_eq_nil_of_le (by rw [len_codes]; omega)]
      rfl
    rw [e2] at q
    exact q
end
end My
namespace My
open PySem PySem.Spec PyProof.Rows L2

theorem k_sn : ¬ V.str (Str.ofString "symbol") = V.str (Str.ofString "number") := by decide +kernel
theorem k_sw : ¬ V.str (Str.ofString "symbol") = V.str (Str.ofString "word") := by decide +kernel
theorem k_ws : ¬ V.str (Str.ofString "word") = V.str (Str.ofString "symbol") := by decide +kernel
theorem k_ns : ¬ V.str (Str.ofString "number") = V.str (Str.ofString "symbol") := by decide +kernel
theorem k_wn : ¬ V.str (Str.ofString "word") = V.str (Str.ofString "number") := by decide +kernel
theorem k_nw : ¬ V.str (Str.ofString "number") = V.str (Str.ofString "word") := by decide +kernel
/-! ### what the top has written -/
def zLet : Str := Str.ofString "abcdefghijklmnopqrstuvwxyz"
def zDig : Str := Str.ofString "0123456789"
def zSym : Str := Str.ofString "(){}:=+-*<"
theorem zLet_codes : codes zLet = Sg.lets := by decide +kernel
theorem zDig_codes : codes zDig = Sg.digs := by decide +kernel
theorem zSym_codes : codes zSym = Sg.syms := by decide +kernel
structure Tx (K : PySem.W.Frag) (mg : Str → Option Value) (CB : Addr) : Prop where
  gB : mg "BadLine" = some (.ref CB)
  xB : PySem.W.excIn K CB [.type "ValueError", .type "Exception", .type "BaseException", .type "object"] "ValueError.__new__" = true
  kB : PySem.W.keepIn K (.ref CB) = true
  bB : PySem.W.subIn K (.ref CB) (.type "BaseException") = some true
  tB : PySem.W.typeIn K (.ref CB) = some (.type "type")
  ml : mg "len" = none
  ms : mg "str" = none
  mi : mg "int" = none
  gLet : ∃ u, mg "LETTERS" = some u ∧ RelV (.str zLet) u
  gDig : ∃ u, mg "DIGITS" = some u ∧ RelV (.str zDig) u
  gSym : ∃ u, mg "SYMBOLS" = some u ∧ RelV (.str zSym) u
  gML : ∃ u, mg "MOST_LETTERS" = some u ∧ RelV (.int 8) u
  gLC : ∃ u, mg "LEAST_COPY" = some u ∧ RelV (.int 2) u
  gMC : ∃ u, mg "MOST_COPY" = some u ∧ RelV (.int 99) u
  gMN : ∃ u, mg "MOST_NUMBER" = some u ∧ RelV (.int 1000000) u
/-! ### a message of several parts -/
/-- e has the value v, the heap stays -/
def Val (t : TE) (σ : L2.St) (H : Hp) (v : V) : Prop := ∀ Q : VK, Q v H → t σ H Q
def Part (t : TE) (σ : L2.St) (H : Hp) : Prop := ∀ Q : VK, (∀ y : Str, y.length ≤ 1000 → Q (.str y) H) → t σ H Q
theorem len_app (a b : Str) : (a ++ b).length = a.length + b.length := by
  show (a.cps ++ b.cps).size = a.cps.size + b.cps.size
  exact Array.size_append
theorem parts_run {σ : L2.St} {H : Hp} {Q : Str → Hp → Prop} (hQ : ∀ out, Q out H) : ∀ (ts : List TE) (acc : Str), (∀ t ∈ ts, Part t σ H) → acc.length + 1000 * ts.length ≤ sizeLine → tJs ts acc σ H Q
  | [], acc, _, _ => hQ acc
  | t :: ts, acc, h, hl => by
    rw [List.length_cons] at hl
    refine h t List.mem_cons_self _ fun y hy => ⟨y, rfl, by rw [len_app]; omega, parts_run hQ ts (acc ++ y) (fun u hu => h u (List.mem_cons_of_mem _ hu)) (by rw [len_app]; omega)⟩
theorem part_str {x : Str} {σ : L2.St} {H : Hp} (h : x.length ≤ 1000) : Part (tC (.str x)) σ H := fun Q q => q x h
theorem part_fmtS {t : TE} {x : Str} {σ : L2.St} {H : Hp} (v : Val t σ H (.str x)) (h : x.length ≤ 1000) : Part (tFmt t) σ H := fun Q q =>
  v _ (.inl ⟨x, rfl, Nat.le_trans h (by decide), q x h⟩)
theorem part_fmtI {t : TE} {n : Int} {σ : L2.St} {H : Hp} (v : Val t σ H (.int n)) (h0 : 0 ≤ n) (h : n < 10 ^ 20) : Part (tFmt t) σ H := fun Q q => by
  refine v _ (.inr ⟨n, rfl, ?_, q _ ?_⟩)
  · have z : n.natAbs < 2 ^ 1920 := by
      have : n.natAbs < 10 ^ 20 := by omega
      exact Nat.lt_trans this (by decide +kernel)
    by_cases e : n.natAbs = 0
    · rw [e]; decide
    · exact (Nat.log2_lt e).mpr z
  · have := PyProof.Rows.toString_length_le h0 (k := 20) (by decide) h
    exact Nat.le_trans this (by decide)
theorem val_var {i : Nat} {v : V} {σ : L2.St} {H : Hp} (h : σ[i]? = some (some v)) : Val (tVar i) σ H v := fun Q q => ⟨v, h, q⟩
theorem msg_of {ts : List TE} {σ : L2.St} {H : Hp} {Q : Str → Hp → Prop} (hQ : ∀ out, Q out H) (h : ∀ t ∈ ts, Part t σ H) (hl : ts.length ≤ 16) : tJs ts Str.empty σ H Q :=
  parts_run hQ ts Str.empty h (by show 0 + 1000 * ts.length ≤ sizeLine; rw [sizeLine_eq]; omega)
theorem all_nil {p : TE → Prop} : ∀ t ∈ ([] : List TE), p t := fun _ h => by cases h
theorem all_cons {p : TE → Prop} {t : TE} {ts : List TE} (h : p t) (r : ∀ t ∈ ts, p t) : ∀ u ∈ t :: ts, p u := fun u hu => by
  rcases List.mem_cons.mp hu with rfl | hu
  · exact h
  · exact r u hu
/-! ### _number_of -/
def Nums (least most w : Nat) : Prop := (least = 0 ∧ most = 1000000 ∧ w = 7) ∨ (least = 2 ∧ most = 99 ∧ w = 2)
theorem Nums.len {least most w : Nat} (h : Nums least most w) : (Str.ofString (toString (most : Int))).length = w := by
  rcases h with ⟨rfl, rfl, rfl⟩ | ⟨rfl, rfl, rfl⟩
  · decide +kernel
  · decide +kernel
theorem Nums.small {least most w : Nat} (h : Nums least most w) : least ≤ 2 ∧ most ≤ 1000000 ∧ w ≤ 7 := by
  rcases h with ⟨rfl, rfl, rfl⟩ | ⟨rfl, rfl, rfl⟩ <;> omega
def spNum (CB : Addr) : Sp := fun vs H Q E => ∃ (z : Str) (least most w : Nat), vs = [.str z, .int (least : Int), .int (most : Int)] ∧ Nums least most w ∧ (∀ c ∈ codes z, c ∈ Sg.digs) ∧ z.length ≤ sizeLine ∧
  (∀ v : Nat, Sg.numOf (codes z) least most w = some v → Q (.int (v : Int)) H) ∧ (Sg.numOf (codes z) least most w = none → E (.ref CB) none H)
theorem digs_mem {c : Nat} (h : c ∈ Sg.digs) : 48 ≤ c ∧ c ≤ 57 := by
  simp only [Sg.digs, List.mem_cons, List.not_mem_nil, or_false] at h
  omega
theorem int_of {z : Str} (h : ∀ c ∈ codes z, c ∈ Sg.digs) (h1 : codes z ≠ []) (h2 : z.length ≤ 640) : PySem.intText? z = some ((Sg.val (codes z) : Nat) : Int) :=
  intText_digits (x := z) (fun c hc => digs_mem (h c hc)) h1 (Nat.le_trans h2 (by decide))
theorem val_lt : ∀ (l : List Nat) (a : Nat), (∀ c ∈ l, c ∈ Sg.digs) → l.foldl (fun acc c => acc * 10 + (c - 48)) a < (a + 1) * 10 ^ l.length
  | [], a, _ => by
    show a < (a + 1) * 10 ^ 0
    omega
  | c :: r, a, h => by
    have hc := digs_mem (h c List.mem_cons_self)
    have ih := val_lt r (a * 10 + (c - 48)) fun d hd => h d (List.mem_cons_of_mem _ hd)
    rw [List.foldl_cons]
    refine Nat.lt_of_lt_of_le ih ?_
    rw [List.length_cons, Nat.pow_succ, Nat.mul_comm (10 ^ r.length) 10, ← Nat.mul_assoc]
    exact Nat.mul_le_mul_right _ (by omega)
theorem scN : FnScope ["digits", "least", "most", "number"] ["digits", "least", "most"] (defScope d__number_of) := ⟨rfl, rfl, rfl, by decide +kernel, rfl, by decide +kernel, by decide +kernel⟩
theorem str_eq_empty {z : Str} : V.str z = V.str (Str.ofString "") ↔ codes z = [] := by
  constructor
  · intro h
    have e : z = Str.ofString "" := V.str.inj h
    rw [e]
    decide +kernel
  · intro h
    refine congrArg V.str (Str.ext' (Array.toList_inj.mp ?_))
    rw [show (Str.ofString "").cps.toList = [] by decide +kernel]
    exact h
theorem one_code {c d : Nat} : V.str ⟨#[c]⟩ = V.str ⟨#[d]⟩ ↔ c = d := by
  constructor
  · intro h
    have e := V.str.inj h
    have e2 := Str.mk.inj e
    have e3 := congrArg Array.toList e2
    exact (List.cons.inj e3).1
  · intro h
    rw [h]
section
variable {P : Program} {w : World} {K : PySem.W.Frag} {mg : Str → Option Value} {base : Heap} {CB : Addr}
theorem ok_num {f : Addr} {fd : FuncData} {k : Nat} (F : Fun K "_number_of" "_number_of" d__number_of f fd) (T : Tx K mg CB) : FnOk P w K mg base (L2.CX P w) (k + 1) f fd ["digits", "least", "most"] (spNum CB) := by
  refine F.okX scN (fun vs H Q E h => ?_) (fun cdv A outer s H vs Q E hr h => ?_)
  · obtain ⟨z, least, most, w, rfl, _⟩ := h
    rfl
  obtain ⟨z, least, most, w, rfl, hn, hd, hz, kS, kN⟩ := h
  refine ⟨_, pss_cons (ps_if (PW.pt (pw_or (pt_cmpR op_eq (pv 0) pe_str (nomark _)) (pw_or1 (pt_cmpR op_gt (pe_callB call_len_str (by rfl) T.ml PySem.boot_len (pa_cons (pv 0) pa_nil)) (pe_callB call_len_str (by rfl) T.ml PySem.boot_len (pa_cons (pe_callTy call_str_int (by rfl) T.ms (by decide +kernel) (pa_cons (pv 2) pa_nil)) pa_nil)) (nomark _)))))
      (pss_one (ps_raise rfl (takes_of rfl rfl rfl rfl) (SkE.pmk_own1 PySem.F.excBase_ValueError T.xB T.gB T.kB (raises_own T.bB T.tB) (by rfl) (pe_joined (.cons pe_str (.cons (pe_fmt (pv 1)) (.cons pe_str (.cons (pe_fmt (pv 2)) (.cons pe_str .nil))))))))) pss_nil)
    (pss_cons (ps_if (PW.pt (pw_and (pt_cmpR op_eq (pe_item_str (pv 0) pe_int (fun _ _ => rfl)) pe_str (nomark _)) (pw_and1 (pt_cmpR op_gt (pe_callB call_len_str (by rfl) T.ml PySem.boot_len (pa_cons (pv 0) pa_nil)) pe_int (nomark _)))))
      (pss_one (ps_raise rfl (takes_of rfl rfl rfl rfl) (pmk_own PySem.F.excBase_ValueError T.xB T.gB T.kB (raises_own T.bB T.tB) (by rfl)))) pss_nil)
    (pss_cons (ps_set (i := 3) scN.nd rfl (.inl rfl) (pe_callTy call_int_str (by rfl) T.mi (by decide +kernel) (pa_cons (pv 0) pa_nil)))
    (pss_cons (ps_if (PW.pt (pw_or (pt_cmpR op_lt (pv 3) (pv 1) (nomark _)) (pw_or1 (pt_cmpR op_gt (pv 3) (pv 2) (nomark _)))))
      (pss_one (ps_raise rfl (takes_of rfl rfl rfl rfl) (SkE.pmk_own1 PySem.F.excBase_ValueError T.xB T.gB T.kB (raises_own T.bB T.tB) (by rfl) (pe_joined (.cons (pe_fmt (pv 3)) (.cons pe_str (.cons (pe_fmt (pv 1)) (.cons pe_str (.cons (pe_fmt (pv 2)) .nil))))))))) pss_nil)
    (pss_one (ps_ret (pv 3)))))), ?_⟩
  have sm := hn.small
  have hcl := len_codes z
  -- digits == ''
  refine ⟨_, rfl, rfl, _, rfl, ite2 (fun c => ?_) (fun c => ?_)⟩
  · have e := str_eq_empty.mp (of_decide_eq_true c)
    refine iteT (msg_of (fun out => ?_) (all_cons (part_str (by decide +kernel)) (all_cons (part_fmtI (val_var rfl) (by omega) (by omega)) (all_cons (part_str (by decide +kernel)) (all_cons (part_fmtI (val_var rfl) (by omega) (by omega)) (all_cons (part_str (by decide +kernel)) all_nil))))) (by decide))
    refine kN ?_
    unfold Sg.numOf
    rw [if_pos (.inl e)]
  have ne : codes z ≠ [] := fun e => c (decide_eq_true (str_eq_empty.mpr e))
  refine ⟨_, rfl, z, rfl, hz, _, rfl, (most : Int), rfl, ?_, _, rfl, ?_, _, _, rfl, rfl, _, rfl, ite2 (fun c2 => ?_) (fun c2 => ?_)⟩
  · have z2 : ((most : Int).natAbs) < 2 ^ 1920 := Nat.lt_of_le_of_lt (show (most : Int).natAbs ≤ 1000000 by omega) (by decide +kernel)
    by_cases e : (most : Int).natAbs = 0
    · rw [e]; decide
    · exact (Nat.log2_lt e).mpr z2
  · rw [hn.len]
    exact Nat.le_trans sm.2.2 (by decide)
  · have h1 := of_decide_eq_true c2
    rw [hn.len] at h1
    refine msg_of (fun out => ?_) (all_cons (part_str (by decide +kernel)) (all_cons (part_fmtI (val_var rfl) (by omega) (by omega)) (all_cons (part_str (by decide +kernel)) (all_cons (part_fmtI (val_var rfl) (by omega) (by omega)) (all_cons (part_str (by decide +kernel)) all_nil))))) (by decide)
    refine kN ?_
    unfold Sg.numOf
    rw [if_pos (.inr (by rw [hcl]; omega))]
  have hw : z.length ≤ w := by
    have h1 := of_decide_eq_false (Bool.eq_false_iff.mpr c2)
    rw [hn.len] at h1
    omega
  have n1 : ¬ (codes z = [] ∨ w < (codes z).length) := fun q => by
    rcases q with q | q
    · exact ne q
    · rw [hcl] at q; omega
  -- digits[0] == '0'
  have hpos : 0 < z.length := by
    have := List.length_pos_iff.mpr ne
    omega
  obtain ⟨a, ha, hb⟩ := code_at z hpos
  have goOn : ¬ ((codes z)[0]? = some 48 ∧ 1 < (codes z).length) → tSeq (tAsg (tCB (fun xs H Q => ∃ a n, xs = [V.str a] ∧ PySem.intText? a = some n ∧ a.length ≤ 640 ∧ Q (.int n) H) (tCons (tVar 0) tNil)) (gName 3)) (fun D σ H => tIfS (tOr (tTest (tOp (rI0 fun i j => .bl (decide (i < j))) (tVar 3) (tVar 1))) (tTest (tOp (rI0 fun i j => .bl (decide (j < i))) (tVar 3) (tVar 2)))) (fun D σ H => tJs [tFmt (tVar 3), tC (.str (Str.ofString " is not from ")), tFmt (tVar 1), tC (.str (Str.ofString " to ")), tFmt (tVar 2)] Str.empty σ H fun out H1 => E (.ref CB) none H1) tNext { D with nx := fun σ H => tRet (tVar 3) D σ H } σ H) { nx := fun _ H' => Q .non H', rt := Q } [some (.str z), some (.int (least : Int)), some (.int (most : Int)), none] H := fun n2 => by
    refine ⟨_, rfl, z, _, rfl, int_of hd ne (by omega), by omega, ?_⟩
    have vl : Sg.val (codes z) < 10 ^ 7 := by
      have h1 := val_lt (codes z) 0 hd
      have h2 : 10 ^ (codes z).length ≤ 10 ^ 7 := Nat.pow_le_pow_right (by decide) (by omega)
      have h3 : Sg.val (codes z) < (0 + 1) * 10 ^ (codes z).length := h1
      omega
    have hp : ∀ t ∈ [tFmt (tVar 3), tC (.str (Str.ofString " is not from ")), tFmt (tVar 1), tC (.str (Str.ofString " to ")), tFmt (tVar 2)], Part t [some (V.str z), some (V.int (least : Int)), some (V.int (most : Int)), some (V.int (Sg.val (codes z) : Nat))] H :=
      all_cons (part_fmtI (val_var rfl) (by omega) (by omega)) (all_cons (part_str (by decide +kernel)) (all_cons (part_fmtI (val_var rfl) (by omega) (by omega)) (all_cons (part_str (by decide +kernel)) (all_cons (part_fmtI (val_var rfl) (by omega) (by omega)) all_nil))))
    have bad : (Sg.val (codes z) < least ∨ most < Sg.val (codes z)) → E (.ref CB) none H := fun q => kN (by unfold Sg.numOf; rw [if_neg n1, if_neg n2, if_pos q])
    refine ⟨_, rfl, _, rfl, _, _, rfl, rfl, _, rfl, ite2 (fun d1 => ?_) (fun d1 => ?_)⟩
    · have h1 := of_decide_eq_true d1
      exact iteT (msg_of (fun out => bad (.inl (by omega))) hp (by decide))
    · have h1 := of_decide_eq_false (Bool.eq_false_iff.mpr d1)
      refine ⟨_, rfl, _, rfl, _, _, rfl, rfl, _, rfl, ite2 (fun d2 => ?_) (fun d2 => ?_)⟩
      · have h2 := of_decide_eq_true d2
        exact msg_of (fun out => bad (.inr (by omega))) hp (by decide)
      · have h2 := of_decide_eq_false (Bool.eq_false_iff.mpr d2)
        refine ⟨_, rfl, kS _ ?_⟩
        unfold Sg.numOf
        rw [if_neg n1, if_neg n2, if_neg (by omega)]
  refine ⟨_, rfl, z, 0, a, rfl, rfl, by omega, by omega, by omega, ha, rfl, _, rfl, ite2 (fun c3 => ?_) (fun c3 => ?_)⟩
  · have ea : a = 48 := one_code.mp (of_decide_eq_true c3)
    refine ⟨_, rfl, z, rfl, hz, _, _, rfl, rfl, _, rfl, ite2 (fun c4 => ?_) (fun c4 => ?_)⟩
    · have h1 := of_decide_eq_true c4
      refine kN ?_
      unfold Sg.numOf
      rw [if_neg n1, if_pos ⟨by rw [hb, ea], by rw [hcl]; omega⟩]
    · have h1 := of_decide_eq_false (Bool.eq_false_iff.mpr c4)
      exact goOn fun q => by
        have := q.2
        rw [hcl] at this
        omega
  · refine iteF (goOn fun q => ?_)
    have := q.1
    rw [hb] at this
    exact c3 (decide_eq_true (one_code.mpr (Option.some.inj this)))
end
end My
namespace My
open PySem PySem.Spec PyProof.Rows L2

/-! ### a def that is called by its name, in short -/
structure CalX (P : Program) (w : World) (K : PySem.W.Frag) (mg : Str → Option Value) (base : Heap) (CX : CXT) (k : Nat) (x : Str) (ps : List Str) (sp : Sp) : Prop where
  ex : ∃ f fd, mg x = some (.ref f) ∧ PySem.W.keepIn K (.ref f) = true ∧ Binds K fd ps [] ∧ FnOk P w K mg base CX k f fd ps sp
theorem CalX.mono {P : Program} {w : World} {K : PySem.W.Frag} {mg : Str → Option Value} {base : Heap} {CX : CXT} {j k : Nat} {x : Str} {ps : List Str} {sp : Sp} (c : CalX P w K mg base CX j x ps sp) (h : j ≤ k) : CalX P w K mg base CX k x ps sp := by
  obtain ⟨f, fd, h1, h2, h3, h4⟩ := c.ex
  exact ⟨f, fd, h1, h2, h3, h4.mono h⟩
theorem pe_cx {X : Cx} {CX : CXT} {k : Nat} {ps : List Str} {sp : Sp} {E : L2.St → XK} {x : Str} {p pos : Pos} {e : Expr} {es : List Expr} {t : TA} (c : CalX X.prog X.w X.K X.mg X.base CX k x ps sp) (hr : Room k X.A) (hg : Gl X x) (hx : ∀ σ, PassesAt CX X σ (E σ))
    (ha : PA X (e :: es) t) (hdb : (x == ("__debug__" : Str)) = false := by decide) (he : starEach (e :: es) X.env = (false, eval e X.env) :: starEach es X.env := by rfl) (hpl : (backTo pos (starEach es X.env)).any (·.1) = false := by rfl) :
    PE X (.Call (.Name x p) (e :: es) [] pos) (tCallS sp E t) := by
  obtain ⟨f, fd, h1, h2, h3, h4⟩ := c.ex
  exact pe_callS h4 hr hg h1 h2 h3 hx ha hdb he hpl
theorem pat0 {X : Cx} : ∀ σ : L2.St, PassesAt CX0 X σ ((fun _ => E0) σ) := fun _ _ _ _ _ _ _ h => h.elim
/-! ### signs in the heap -/
def sgV : Sg.S → List V
  | .word w => [.str (Str.ofString "word"), .str ⟨w.toArray⟩]
  | .num n => [.str (Str.ofString "number"), .int (n : Int)]
  | .sym c => [.str (Str.ofString "symbol"), .str ⟨#[c]⟩]
def SgAt (H : Hp) (a : Addr) (s : Sg.S) : Prop := H a = some (.tup (sgV s))
def SgAll (H : Hp) (as : List Addr) (ss : List Sg.S) : Prop := Paired (SgAt H) as ss
theorem SgAll.same {H H' : Hp} {as : List Addr} {ss : List Sg.S} (h : SgAll H as ss) (e : Same H H') : SgAll H' as ss := Paired.mapP h fun _ _ q => e _ _ q
theorem SgAll.put {H : Hp} {l : Addr} {xs ys : List V} {as : List Addr} {ss : List Sg.S} (h : SgAll H as ss) (hl : H l = some (.lst xs)) : SgAll (upd H l (.lst ys)) as ss :=
  Paired.mapP h fun a s q => by
    show upd H l (.lst ys) a = some (.tup (sgV s))
    rw [upd_ne (ne_of (show H a = some (.tup (sgV s)) from q) hl (by intro z; cases z))]
    exact q
theorem same_new {H : Hp} {p : Addr} (h : H p = none) (o : HO) : Same H (upd H p o) := fun b u q => by rw [upd_ne (ne_of_none q h)]; exact q
theorem str_of_codes (z : Str) : z = ⟨(codes z).toArray⟩ := by
  cases z with
  | mk a =>
    show Str.mk a = Str.mk a.toList.toArray
    rw [Array.toArray_toList]
theorem cut_nat (z : Str) (i j : Nat) : cutS z (some (i : Int)) (some (j : Int)) = ⟨(((codes z).drop (min i z.length)).take (min j z.length - min i z.length)).toArray⟩ := by
  unfold cutS
  rw [HT.sIx_nat, HT.sIx_nat]
theorem cut_in {z : Str} {i n : Nat} (h : i + n ≤ z.length) : cutS z (some (i : Int)) (some ((i + n : Nat) : Int)) = ⟨(((codes z).drop i).take n).toArray⟩ := by
  rw [cut_nat, Nat.min_eq_left (by omega : i ≤ z.length), Nat.min_eq_left h, Nat.add_sub_cancel_left]
theorem cut_one {z : Str} {i : Nat} (h : i ≤ z.length) : cutS z (some (i : Int)) (some ((i + 1 : Nat) : Int)) = ⟨(((codes z).drop i).take 1).toArray⟩ := by
  rw [cut_nat, Nat.min_eq_left h]
  by_cases e : i < z.length
  · rw [Nat.min_eq_left (by omega), Nat.add_sub_cancel_left]
  · have e1 : i = z.length := by omega
    rw [Nat.min_eq_right (by omega), e1, Nat.sub_self, List.drop_eq_nil_of_le (by rw [len_codes]; omega)]
    rfl
theorem dot_iff {l : List Nat} {i : Nat} : V.str ⟨((l.drop i).take 1).toArray⟩ = V.str (Str.ofString ".") ↔ l[i]? = some 46 := by
  have ed : Str.ofString "." = ⟨#[46]⟩ := by decide +kernel
  rw [ed]
  cases e : l[i]? with
  | none =>
    have hl := List.getElem?_eq_none_iff.mp e
    rw [List.drop_eq_nil_of_le hl]
    constructor
    · intro h
      have e3 := congrArg Array.toList (Str.mk.inj (V.str.inj h))
      cases e3
    · intro h
      cases h
  | some c =>
    rw [drop_cons e]
    have et : ((c :: l.drop (i + 1)).take 1).toArray = #[c] := rfl
    rw [et, one_code]
    constructor
    · intro h
      rw [h]
    · intro h
      exact Option.some.inj h
/-! ### _word_from -/
/-- hands back (sign, the place behind it), both new -/
def Gives (z : Str) (i : Nat) (H : Hp) (Q : VK) (p : Option (Sg.S × Nat)) : Prop :=
  ∀ s n, p = some (s, n) → ∀ (H' : Hp) (a b : Addr), Same H H' → H' a = some (.tup [.ref b, .int ((i + n : Nat) : Int)]) → SgAt H' b s → Q (.ref a) H'
def spWord (CB : Addr) : Sp := fun vs H Q E => ∃ (z : Str) (i : Nat), vs = [.str z, .int (i : Int)] ∧ z.length ≤ sizeLine ∧ i ≤ z.length ∧
  Gives z i H Q (Sg.wordAt ((codes z).drop i)) ∧ (Sg.wordAt ((codes z).drop i) = none → E (.ref CB) none H)
def spSign (CB : Addr) : Sp := fun vs H Q E => ∃ (z : Str) (i : Nat), vs = [.str z, .int (i : Int)] ∧ z.length ≤ sizeLine ∧ i < z.length ∧
  Gives z i H Q (Sg.signAt ((codes z).drop i)) ∧ (Sg.signAt ((codes z).drop i) = none → ∀ H', Same H H' → E (.ref CB) none H')
theorem Gives.tups {z : Str} {i : Nat} {H : Hp} {Q : VK} {s : Sg.S} {n : Nat} {p : Option (Sg.S × Nat)} (h : Gives z i H Q p) (e : p = some (s, n)) {xs : List V} (hx : xs = sgV s) {y : V} (hy : y = .int ((i + n : Nat) : Int)) {b : Addr} (hb : H b = none) {a : Addr} (ha : upd H b (.tup xs) a = none) :
    Q (.ref a) (upd (upd H b (.tup xs)) a (.tup [.ref b, y])) := by
  subst hx
  subst hy
  refine h s n e _ a b ((same_new hb _).trans (same_new ha _)) upd_same ?_
  show upd (upd H b (.tup (sgV s))) a _ b = some (.tup (sgV s))
  rw [upd_ne (ne_of_none upd_same ha)]
  exact upd_same
theorem scW : FnScope ["line", "start", "end", "dot"] ["line", "start"] (defScope d__word_from) := ⟨rfl, rfl, rfl, by decide +kernel, rfl, by decide +kernel, by decide +kernel⟩
theorem run_mem {cs : List Nat} : ∀ {l : List Nat}, ∀ c ∈ l.take (Sg.run cs l), c ∈ cs
  | [], c, h => by cases h
  | a :: r, c, h => by
    by_cases ha : a ∈ cs
    · rw [Sg.run_pos ha, List.take_succ_cons] at h
      rcases List.mem_cons.mp h with rfl | h
      · exact ha
      · exact run_mem c h
    · rw [Sg.run_zero ha] at h
      cases h
section
variable {P : Program} {w : World} {K : PySem.W.Frag} {mg : Str → Option Value} {base : Heap} {CB : Addr}
theorem ok_word {f : Addr} {fd : FuncData} {k : Nat} (F : Fun K "_word_from" "_word_from" d__word_from f fd) (T : Tx K mg CB) (cE : CalX P w K mg base CX0 k "_end_of_run" ["line", "start", "characters"] spEnd)
    (cN : CalX P w K mg base (L2.CX P w) k "_number_of" ["digits", "least", "most"] (spNum CB)) : FnOk P w K mg base (L2.CX P w) (k + 1) f fd ["line", "start"] (spWord CB) := by
  refine F.okX scW (fun vs H Q E h => ?_) (fun cdv A outer s H vs Q E hr h => ?_)
  · obtain ⟨z, i, rfl, _⟩ := h
    rfl
  obtain ⟨z, i, rfl, hz, hi, kS, kN⟩ := h
  refine ⟨_, pss_cons (ps_set (i := 2) scW.nd rfl (.inl rfl) (pe_cx cE hr (by rfl) pat0 (pa_cons (pv 0) (pa_cons (pv 1) (pa_cons (C8.pe_gc (by rfl) T.gLet) pa_nil)))))
    (pss_cons (ps_if (pt_cmpR op_gt (pe_op op_sub (pv 2) (pv 1)) (C8.pe_gc (by rfl) T.gML) (nomark _))
      (pss_one (ps_raise rfl (takes_of rfl rfl rfl rfl) (SkE.pmk_own1 PySem.F.excBase_ValueError T.xB T.gB T.kB (raises_own T.bB T.tB) (by rfl) (pe_joined (.cons pe_str (.cons (pe_fmt (C8.pe_gc (by rfl) T.gML)) (.cons pe_str .nil))))))) pss_nil)
    (pss_cons (ps_if (pt_cmpR op_eq (pe_slice sl_str (pv 0) (po_some (pv 2)) (po_some (pe_op op_add (pv 2) pe_int))) pe_str (nomark _))
      (pss_cons (ps_set (i := 3) scW.nd rfl (.inl rfl) (pv 2))
      (pss_cons (ps_set (i := 2) scW.nd rfl (.inl rfl) (pe_cx cE hr (by rfl) pat0 (pa_cons (pv 0) (pa_cons (pe_op op_add (pv 3) pe_int) (pa_cons (C8.pe_gc (by rfl) T.gDig) pa_nil)))))
      (pss_one (ps_expr (pe_cx cN hr (by rfl) (fun σ => passAt (takes_of rfl rfl rfl rfl) σ) (pa_cons (pe_slice sl_str (pv 0) (po_some (pe_op op_add (pv 3) pe_int)) (po_some (pv 2))) (pa_cons (C8.pe_gc (by rfl) T.gLC) (pa_cons (C8.pe_gc (by rfl) T.gMC) pa_nil)))))))) pss_nil)
    (pss_one (ps_ret (pe_tup (pa_cons (pe_tup (pa_cons pe_str (pa_cons (pe_slice sl_str (pv 0) (po_some (pv 1)) (po_some (pv 2))) pa_nil))) (pa_cons (pv 2) pa_nil))))))), ?_⟩
  have hcl := len_codes z
  have hl : ((codes z).drop i).length = z.length - i := by rw [List.length_drop, hcl]
  -- end = _end_of_run(line, start, LETTERS)
  refine ⟨_, rfl, _, rfl, z, zLet, i, rfl, hz, hi, ?_⟩
  rw [zLet_codes]
  have hr1 := Sg.run_le Sg.lets ((codes z).drop i)
  generalize er : Sg.run Sg.lets ((codes z).drop i) = n at *
  -- end - start > MOST_LETTERS
  refine ⟨_, rfl, _, rfl, _, _, rfl, rfl, _, _, rfl, rfl, _, rfl, ite2 (fun c => ?_) (fun c => ?_)⟩
  · have h1 := of_decide_eq_true c
    refine msg_of (fun out => ?_) (all_cons (part_str (by decide +kernel)) (all_cons (part_fmtI (n := 8) (fun Q q => q) (by omega) (by omega)) (all_cons (part_str (by decide +kernel)) all_nil))) (by decide)
    refine kN ?_
    unfold Sg.wordAt
    rw [er, if_pos (by omega)]
  have h8 : ¬ 8 < n := by
    have h1 := of_decide_eq_false (Bool.eq_false_iff.mpr c)
    omega
  -- line[end:end + 1] == '.'
  refine ⟨_, rfl, _, rfl, _, rfl, _, rfl, _, _, rfl, rfl, _, rfl, z, rfl, hz, rfl, _, rfl, ?_⟩
  rw [show ((i + n : Nat) : Int) + 1 = ((i + n + 1 : Nat) : Int) by omega, cut_one (by omega)]
  have eat : ((codes z).drop i)[n]? = (codes z)[i + n]? := List.getElem?_drop
  refine ite2 (fun c2 => ?_) (fun c2 => ?_)
  · have hd := dot_iff.mp (of_decide_eq_true c2)
    have hlt : i + n < z.length := by
      obtain ⟨h1, _⟩ := List.getElem?_eq_some_iff.mp hd
      omega
    refine ⟨_, rfl, _, rfl, _, rfl, _, _, rfl, rfl, z, zDig, i + n + 1, rfl, hz, by omega, ?_⟩
    rw [zDig_codes]
    have hr2 := Sg.run_le Sg.digs ((codes z).drop (i + n + 1))
    rw [List.length_drop, hcl] at hr2
    have ed : ((codes z).drop i).drop (n + 1) = (codes z).drop (i + n + 1) := by rw [List.drop_drop]; rfl
    have mem := run_mem (cs := Sg.digs) (l := (codes z).drop (i + n + 1))
    have ew : Sg.wordAt ((codes z).drop i) = if (Sg.numOf (((codes z).drop (i + n + 1)).take (Sg.run Sg.digs ((codes z).drop (i + n + 1)))) 2 99 2).isNone then none else some (.word (((codes z).drop i).take (n + 1 + Sg.run Sg.digs ((codes z).drop (i + n + 1)))), n + 1 + Sg.run Sg.digs ((codes z).drop (i + n + 1))) := by
      unfold Sg.wordAt
      rw [er, if_neg h8, if_pos (by rw [eat]; exact hd), ed]
    generalize er2 : Sg.run Sg.digs ((codes z).drop (i + n + 1)) = m at *
    refine ⟨_, rfl, _, rfl, _, _, rfl, rfl, _, rfl, _, rfl, _, rfl, z, rfl, hz, ?_⟩
    rw [show ((i + n : Nat) : Int) + 1 = ((i + n + 1 : Nat) : Int) by omega, cut_in (by omega)]
    refine ⟨_, 2, 99, 2, rfl, .inr ⟨rfl, rfl, rfl⟩, fun d hd2 => mem d hd2, ?_, fun v hv => ?_, fun hv => ?_⟩
    · show (((codes z).drop (i + n + 1)).take m).toArray.size ≤ sizeLine
      rw [List.size_toArray, List.length_take, List.length_drop, hcl]
      omega
    · have hv' : Sg.numOf (((codes z).drop (i + n + 1)).take m) 2 99 2 = some v := hv
      rw [hv', if_neg (by simp)] at ew
      refine ⟨_, rfl, _, rfl, _, rfl, _, rfl, _, rfl, z, rfl, hz, (by show 2 ≤ sizeLine; decide), fun b hb => ?_⟩
      refine ⟨_, rfl, (by show 2 ≤ sizeLine; decide), fun a ha => ?_⟩
      refine kS.tups ew ?_ ?_ hb ha
      · rw [show i + n + 1 + m = i + (n + 1 + m) by omega, cut_in (by omega)]
        rfl
      · rw [show i + n + 1 + m = i + (n + 1 + m) by omega]
    · have hv' : Sg.numOf (((codes z).drop (i + n + 1)).take m) 2 99 2 = none := hv
      rw [hv', if_pos (by rfl)] at ew
      exact kN ew
  · have hd : ¬ ((codes z).drop i)[n]? = some 46 := fun q => c2 (decide_eq_true (dot_iff.mpr (by rw [← eat]; exact q)))
    have ew : Sg.wordAt ((codes z).drop i) = some (.word (((codes z).drop i).take n), n) := by
      unfold Sg.wordAt
      rw [er, if_neg h8, if_neg hd]
    refine ⟨_, rfl, _, rfl, _, rfl, _, rfl, _, rfl, z, rfl, hz, (by show 2 ≤ sizeLine; decide), fun b hb => ?_⟩
    refine ⟨_, rfl, (by show 2 ≤ sizeLine; decide), fun a ha => ?_⟩
    refine kS.tups ew ?_ rfl hb ha
    rw [cut_in (by omega)]
    rfl
end
end My
namespace My
open PySem PySem.Spec PyProof.Rows L2

theorem scG : FnScope ["line", "start", "end"] ["line", "start"] (defScope d__sign_from) := ⟨rfl, rfl, rfl, by decide +kernel, rfl, by decide +kernel, by decide +kernel⟩
theorem line_cap {n : Nat} (h : n ≤ sizeLine) : n ≤ 16777216 := by
  rw [sizeLine_eq] at h
  exact h
section
variable {P : Program} {w : World} {K : PySem.W.Frag} {mg : Str → Option Value} {base : Heap} {CB : Addr}
theorem ok_sign {f : Addr} {fd : FuncData} {k : Nat} (F : Fun K "_sign_from" "_sign_from" d__sign_from f fd) (T : Tx K mg CB) (cE : CalX P w K mg base CX0 k "_end_of_run" ["line", "start", "characters"] spEnd)
    (cN : CalX P w K mg base (L2.CX P w) k "_number_of" ["digits", "least", "most"] (spNum CB)) (cW : CalX P w K mg base (L2.CX P w) k "_word_from" ["line", "start"] (spWord CB)) : FnOk P w K mg base (L2.CX P w) (k + 1) f fd ["line", "start"] (spSign CB) := by
  refine F.okX scG (fun vs H Q E h => ?_) (fun cdv A outer s H vs Q E hr h => ?_)
  · obtain ⟨z, i, rfl, _⟩ := h
    rfl
  obtain ⟨z, i, rfl, hz, hi, kS, kN⟩ := h
  refine ⟨_, pss_cons (ps_if (pt_cmpR op_in_sign (pe_item_str (pv 0) (pv 1) (fun _ _ => rfl)) (C8.pe_gc (by rfl) T.gLet) rfl) (pss_one (ps_ret (pe_cx cW hr (by rfl) (fun σ => passAt (takes_of rfl rfl rfl rfl) σ) (pa_cons (pv 0) (pa_cons (pv 1) pa_nil))))) pss_nil)
    (pss_cons (ps_if (pt_cmpR op_in_sign (pe_item_str (pv 0) (pv 1) (fun _ _ => rfl)) (C8.pe_gc (by rfl) T.gDig) rfl)
      (pss_cons (ps_set (i := 2) scG.nd rfl (.inl rfl) (pe_cx cE hr (by rfl) pat0 (pa_cons (pv 0) (pa_cons (pv 1) (pa_cons (C8.pe_gc (by rfl) T.gDig) pa_nil)))))
      (pss_one (ps_ret (pe_tup (pa_cons (pe_tup (pa_cons pe_str (pa_cons (pe_cx cN hr (by rfl) (fun σ => passAt (takes_of rfl rfl rfl rfl) σ) (pa_cons (pe_slice sl_str (pv 0) (po_some (pv 1)) (po_some (pv 2))) (pa_cons pe_int (pa_cons (C8.pe_gc (by rfl) T.gMN) pa_nil)))) pa_nil))) (pa_cons (pv 2) pa_nil)))))) pss_nil)
    (pss_cons (ps_if (pt_cmpR op_in_sign (pe_item_str (pv 0) (pv 1) (fun _ _ => rfl)) (C8.pe_gc (by rfl) T.gSym) rfl)
      (pss_one (ps_ret (pe_tup (pa_cons (pe_tup (pa_cons pe_str (pa_cons (pe_item_str (pv 0) (pv 1) (fun _ _ => rfl)) pa_nil))) (pa_cons (pe_op op_add (pv 1) pe_int) pa_nil))))) pss_nil)
    (pss_one (ps_raise rfl (takes_of rfl rfl rfl rfl) (SkE.pmk_own1 PySem.F.excBase_ValueError T.xB T.gB T.kB (raises_own T.bB T.tB) (by rfl) (pe_joined (.cons pe_str (.cons (pe_fmt (pe_op op_add (pv 1) pe_int)) (.cons pe_str .nil))))))))), ?_⟩
  have hcl := len_codes z
  obtain ⟨a, ha, hb⟩ := code_at z hi
  have ed := drop_cons hb
  have i63 : (i : Int) < 2 ^ 63 := size63 (by omega)
  have i0 : (0 : Int) ≤ (i : Int) := by omega
  have il : (i : Int) < (z.length : Int) := by omega
  have hz2 := line_cap hz
  refine ⟨_, rfl, _, rfl, z, _, a, rfl, rfl, i0, i63, il, ha, a, zLet, rfl, rfl, _, rfl, ite2 (fun c => ?_) (fun c => ?_)⟩
  · have hm : a ∈ Sg.lets := by
      have h1 : a ∈ codes zLet := of_decide_eq_true c
      rw [zLet_codes] at h1
      exact h1
    have es : Sg.signAt ((codes z).drop i) = Sg.wordAt ((codes z).drop i) := by rw [ed, Sg.signAt_cons, if_pos hm]
    rw [es] at kS kN
    exact ⟨_, rfl, _, rfl, z, i, rfl, hz, by omega, kS, fun e => kN e _ (Same.refl _)⟩
  have n1 : a ∉ Sg.lets := fun h => c (decide_eq_true (by rw [show zLet.cps.toList = Sg.lets from zLet_codes]; exact h))
  refine ⟨_, rfl, _, rfl, z, _, a, rfl, rfl, i0, i63, il, ha, a, zDig, rfl, rfl, _, rfl, ite2 (fun c2 => ?_) (fun c2 => ?_)⟩
  · have hm : a ∈ Sg.digs := by
      have h1 : a ∈ codes zDig := of_decide_eq_true c2
      rw [zDig_codes] at h1
      exact h1
    have es : Sg.signAt ((codes z).drop i) = (Sg.numOf (((codes z).drop i).take (Sg.run Sg.digs ((codes z).drop i))) 0 1000000 7).map fun v => (Sg.S.num v, Sg.run Sg.digs ((codes z).drop i)) := by rw [ed, Sg.signAt_cons, if_neg n1, if_pos hm]
    have mem := run_mem (cs := Sg.digs) (l := (codes z).drop i)
    have hr1 := Sg.run_le Sg.digs ((codes z).drop i)
    rw [List.length_drop, hcl] at hr1
    refine ⟨_, rfl, _, rfl, z, zDig, i, rfl, hz, by omega, ?_⟩
    rw [zDig_codes]
    generalize er : Sg.run Sg.digs ((codes z).drop i) = m at *
    refine ⟨_, rfl, _, rfl, _, rfl, _, rfl, _, rfl, z, rfl, hz, ?_⟩
    rw [cut_in (by omega)]
    refine ⟨_, 0, 1000000, 7, rfl, .inl ⟨rfl, rfl, rfl⟩, fun d hd2 => mem d hd2, ?_, fun v hv => ?_, fun hv => ?_⟩
    · show (((codes z).drop i).take m).toArray.size ≤ sizeLine
      rw [List.size_toArray, List.length_take, List.length_drop, hcl]
      omega
    · have hv' : Sg.numOf (((codes z).drop i).take m) 0 1000000 7 = some v := hv
      rw [hv'] at es
      refine ⟨(by show 2 ≤ sizeLine; decide), fun b hb => ?_⟩
      refine ⟨_, rfl, (by show 2 ≤ sizeLine; decide), fun a ha => ?_⟩
      exact kS.tups es rfl rfl hb ha
    · have hv' : Sg.numOf (((codes z).drop i).take m) 0 1000000 7 = none := hv
      rw [hv'] at es
      exact kN es _ (Same.refl _)
  have n2 : a ∉ Sg.digs := fun h => c2 (decide_eq_true (by rw [show zDig.cps.toList = Sg.digs from zDig_codes]; exact h))
  refine ⟨_, rfl, _, rfl, z, _, a, rfl, rfl, i0, i63, il, ha, a, zSym, rfl, rfl, _, rfl, ite2 (fun c3 => ?_) (fun c3 => ?_)⟩
  · have hm : a ∈ Sg.syms := by
      have h1 : a ∈ codes zSym := of_decide_eq_true c3
      rw [zSym_codes] at h1
      exact h1
    have es : Sg.signAt ((codes z).drop i) = some (.sym a, 1) := by rw [ed, Sg.signAt_cons, if_neg n1, if_neg n2, if_pos hm]
    refine ⟨_, rfl, _, rfl, z, _, a, rfl, rfl, i0, i63, il, ha, (by show 2 ≤ sizeLine; decide), fun b hb => ?_⟩
    refine ⟨_, rfl, _, _, rfl, rfl, (by show 2 ≤ sizeLine; decide), fun a ha => ?_⟩
    exact kS.tups es rfl rfl hb ha
  · have n3 : a ∉ Sg.syms := fun h => c3 (decide_eq_true (by rw [show zSym.cps.toList = Sg.syms from zSym_codes]; exact h))
    have es : Sg.signAt ((codes z).drop i) = none := by rw [ed, Sg.signAt_cons, if_neg n1, if_neg n2, if_neg n3]
    refine msg_of (fun out => ?_) (all_cons (part_str (by decide +kernel)) (all_cons (part_fmtI (n := (i : Int) + 1) (fun Q q => ⟨_, rfl, _, _, rfl, rfl, q⟩) (by omega) (by omega)) (all_cons (part_str (by decide +kernel)) all_nil))) (by decide)
    exact kN es _ (Same.refl _)
/-! ### signs_of -/
def SgL (H : Hp) (p : Addr) (ss : List Sg.S) : Prop := ∃ as : List Addr, H p = some (.lst (as.map V.ref)) ∧ SgAll H as ss
def spSigns (CB : Addr) : Sp := fun vs H Q E => ∃ (z : Str), vs = [.str z] ∧ z.length ≤ sizeLine ∧
  (∀ ss, Sg.lex (codes z) = some ss → ∀ (H' : Hp) (p : Addr), Same H H' → H p = none → SgL H' p ss → Q (.ref p) H') ∧ (Sg.lex (codes z) = none → ∀ H', Same H H' → E (.ref CB) none H')
theorem scO : FnScope ["line", "signs", "at", "sign"] ["line"] (defScope d_signs_of) := ⟨rfl, rfl, rfl, by decide +kernel, rfl, by decide +kernel, by decide +kernel⟩
theorem space_iff {a : Nat} : V.str ⟨#[a]⟩ = V.str (Str.ofString " ") ↔ a = 32 := by
  rw [show Str.ofString " " = ⟨#[32]⟩ by decide +kernel]
  exact one_code
theorem map_map_app {o : Option (List Sg.S)} {xs : List Sg.S} {s : Sg.S} : (o.map (s :: ·)).map (xs ++ ·) = o.map ((xs ++ [s]) ++ ·) := by
  cases o with
  | none => rfl
  | some y =>
    show some (xs ++ s :: y) = some ((xs ++ [s]) ++ y)
    rw [List.append_assoc]
    rfl
theorem ok_signs {f : Addr} {fd : FuncData} {k : Nat} (F : Fun K "signs_of" "signs_of" d_signs_of f fd) (T : Tx K mg CB) (cG : CalX P w K mg base (L2.CX P w) k "_sign_from" ["line", "start"] (spSign CB)) : FnOk P w K mg base (L2.CX P w) (k + 1) f fd ["line"] (spSigns CB) := by
  refine F.okX scO (fun vs H Q E h => ?_) (fun cdv A outer s H vs Q E hr h => ?_)
  · obtain ⟨z, rfl, _⟩ := h
    rfl
  obtain ⟨z, rfl, hz, kS, kN⟩ := h
  refine ⟨_, pss_cons (ps_set (i := 1) scO.nd rfl (.inl rfl) (pe_lst pa_nil))
    (pss_cons (ps_set (i := 2) scO.nd rfl (.inl rfl) pe_int)
    (pss_cons (ps_while (passes_of rfl) (pt_cmpR op_lt (pv 2) (pe_callB call_len_str (by rfl) T.ml PySem.boot_len (pa_cons (pv 0) pa_nil)) (nomark _))
      (pss_one (ps_if (pt_cmpR op_eq (pe_item_str (pv 0) (pv 2) (fun _ _ => rfl)) pe_str (nomark _))
        (pss_one (ps_aug (i := 2) scO.nd rfl (.inl rfl) pe_int ip_add))
        (pss_cons (ps_asg (pe_cx cG hr (by rfl) (fun σ => passAt (takes_of rfl rfl rfl rfl) σ) (pa_cons (pv 0) (pa_cons (pv 2) pa_nil))) (pg_tup rfl (pgs_cons (pg_name (i := 3) scO.nd rfl (.inl rfl)) (pgs_cons (pg_name (i := 2) scO.nd rfl (.inl rfl)) pgs_nil))))
        (pss_one (ps_expr (pe_bm PySem.F.plainAttrs_list PySem.F.slot_list_append PySem.F.type_list_append mt_append (pv 1) (pa_cons (pv 3) pa_nil))))))))
    (pss_one (ps_ret (pv 1))))), ?_⟩
  have hcl := len_codes z
  have hz2 := line_cap hz
  refine ⟨Nat.zero_le _, fun l hl => ?_⟩
  refine ⟨fun m σ H' => ∃ (j : Nat) (sv : Option V) (as : List Addr) (ss : List Sg.S), σ = [some (.str z), some (.ref l), some (.int (j : Int)), sv] ∧ m = z.length - j ∧ j ≤ z.length ∧ Same H H' ∧ H' l = some (.lst (as.map V.ref)) ∧ SgAll H' as ss ∧ as.length ≤ j ∧ Sg.lex (codes z) = (Sg.lex ((codes z).drop j)).map (ss ++ ·),
    ⟨_, 0, none, [], [], rfl, rfl, Nat.zero_le _, same_new hl _, upd_same, .nil, Nat.zero_le _, ?_⟩, ?_⟩
  · rw [List.drop_zero]
    cases Sg.lex (codes z) <;> rfl
  rintro m σ H1 ⟨j, sv, as, ss, rfl, rfl, hj, s1, hL, hA, hn, ex⟩
  refine ⟨_, rfl, _, rfl, z, rfl, hz, _, _, rfl, rfl, _, rfl, ite2 (fun c => ?_) (fun c => ?_)⟩
  · have hjl : j < z.length := by
      have := of_decide_eq_true c
      omega
    obtain ⟨a, ha, hb⟩ := code_at z hjl
    have ed := drop_cons hb
    refine ⟨fun σ' H' => ∃ (j' : Nat) (sv : Option V) (as : List Addr) (ss : List Sg.S), σ' = [some (.str z), some (.ref l), some (.int (j' : Int)), sv] ∧ j < j' ∧ j' ≤ z.length ∧ Same H H' ∧ H' l = some (.lst (as.map V.ref)) ∧ SgAll H' as ss ∧ as.length ≤ j' ∧ Sg.lex (codes z) = (Sg.lex ((codes z).drop j')).map (ss ++ ·), fun σ' H' hN => ?_, ?_⟩
    · obtain ⟨j', sv', as', ss', e1, e2, e3, e4, e5, e6, e7, e8⟩ := hN
      exact ⟨z.length - j', by omega, j', sv', as', ss', e1, rfl, e3, e4, e5, e6, e7, e8⟩
    refine ⟨_, rfl, _, rfl, z, _, a, rfl, rfl, by omega, size63 (by omega), by omega, ha, rfl, _, rfl, ite2 (fun c2 => ?_) (fun c2 => ?_)⟩
    · have ea : a = 32 := space_iff.mp (of_decide_eq_true c2)
      rw [ed, ea, Sg.lex_space] at ex
      exact ⟨_, rfl, _, _, rfl, rfl, j + 1, sv, as, ss, rfl, by omega, by omega, s1, hL, hA, by omega, ex⟩
    · have na : a ≠ 32 := fun e => c2 (decide_eq_true (space_iff.mpr e))
      refine ⟨_, rfl, _, rfl, z, j, rfl, hz, hjl, fun sg n e H2 t b s2 ht hb2 => ?_, fun e H2 s2 => ?_⟩
      · -- a sign
        have bd := Sg.signAt_bounds e
        rw [List.length_drop, hcl] at bd
        have e2 : Sg.lex ((codes z).drop j) = (Sg.lex ((codes z).drop (j + n))).map (sg :: ·) := by
          rw [ed] at e
          have := Sg.lex_sign na e
          rw [ed, this, ← ed, List.drop_drop]
        refine ⟨t, _, rfl, .inl (.inl ht), rfl, .ref b, _, rfl, _, [], rfl, rfl, ?_⟩
        have hL2 := s2 _ _ hL
        refine ⟨_, rfl, .inl ⟨rfl, _, .inl (.inl hL2)⟩, .ref b, rfl, l, _, _, rfl, rfl, hL2, ?_, ?_⟩
        · rw [List.length_map, sizeLine_eq]
          omega
        · refine ⟨j + n, some (.ref b), as ++ [b], ss ++ [sg], rfl, by omega, by omega, fun q o hq => ?_, ?_, ?_, ?_, ?_⟩
          · rw [upd_ne (ne_of_none hq hl)]
            exact s2 _ _ (s1 _ _ hq)
          · rw [upd_same, List.map_append]
            rfl
          · exact SgAll.put (Paired.snoc (SgAll.same hA s2) hb2) hL2
          · rw [List.length_append, List.length_singleton]
            omega
          · rw [ex, e2, map_map_app]
      · rw [ed] at e
        have e2 := Sg.lex_bad na e
        rw [ed, e2] at ex
        exact kN ex _ (s1.trans s2)
  · have e : j = z.length := by
      have := of_decide_eq_false (Bool.eq_false_iff.mpr c)
      omega
    refine ⟨_, rfl, ?_⟩
    rw [List.drop_eq_nil_of_le (by omega), Sg.lex_nil] at ex
    have ex2 : Sg.lex (codes z) = some ss := by
      rw [ex]
      show some (ss ++ []) = some ss
      rw [List.append_nil]
    exact kS ss ex2 H1 l s1 hl ⟨as, hL, hA⟩
end
end My
namespace My
open PySem PySem.Spec PyProof.Rows L2

/-! ### the law's draws: a cell, the digits of one, the stream, the next digit -/
/-- built-in names that the draws call -/
structure DrTx (mg : Str → Option Value) : Prop where
  ml : mg "len" = none
  mi : mg "int" = none
  ma : mg "abs" = none
  mr : mg "range" = none
/-- all but what stands at pl is kept -/
def But (pl : Addr) (H H' : Hp) : Prop := ∀ b o, H b = some o → b ≠ pl → H' b = some o
theorem But.refl (pl : Addr) (H : Hp) : But pl H H := fun _ _ e _ => e
theorem But.trans {pl : Addr} {H H1 H2 : Hp} (a : But pl H H1) (b : But pl H1 H2) : But pl H H2 := fun c o e n => b c o (a c o e n) n
theorem But.of {pl : Addr} {H H1 : Hp} (a : Same H H1) : But pl H H1 := fun c o e _ => a c o e
theorem But.same {pl : Addr} {H H1 : Hp} (a : But pl H H1) (h : H pl = none) : Same H H1 := fun c o e => a c o e (ne_of_none e h)
def spCell (K : PySem.W.Frag) : Sp := fun vs H Q _ => ∃ (a : Addr) (ns : List Int) (k : Int), vs = [.ref a, .int k] ∧ SqL K H a (ns.map V.int) ∧ 0 ≤ k ∧ ∀ v : Int, Q (.int v) H
theorem scCell : FnScope ["script", "k"] ["script", "k"] (defScope d__law_cell) := ⟨rfl, rfl, rfl, by decide +kernel, rfl, by decide +kernel, by decide +kernel⟩
theorem cell_item {ns : List Int} {k : Int} (h0 : 0 ≤ k) (h : k < (ns.length : Int)) : ∃ v : Int, atI (ns.map V.int) k = some (.int v) := by
  obtain ⟨j, rfl⟩ : ∃ j : Nat, k = (j : Int) := ⟨k.toNat, by omega⟩
  have hk : j < ns.length := by omega
  refine ⟨ns[j], ?_⟩
  exact atI_nat (by rw [List.getElem?_map, List.getElem?_eq_getElem hk] <;> rfl)
/-- digits from 0 to 59 -/
def Small60 (ds : List Int) : Prop := ∀ d ∈ ds, 0 ≤ d ∧ d < 60
theorem Small60.snoc {ds : List Int} {d : Int} (h : Small60 ds) (h0 : 0 ≤ d) (h1 : d < 60) : Small60 (ds ++ [d]) := fun x hx => by
  rcases List.mem_append.mp hx with hx | hx
  · exact h x hx
  · rw [List.mem_singleton.mp hx]
    exact ⟨h0, h1⟩
theorem Small60.app {ds es : List Int} (h : Small60 ds) (h' : Small60 es) : Small60 (ds ++ es) := fun x hx => by
  rcases List.mem_append.mp hx with hx | hx
  · exact h x hx
  · exact h' x hx
/-- the stream at st: its digits at dl, its place at pl -/
structure StreamAt (H : Hp) (st dl pl : Addr) : Prop where
  str : H st = some (.lst [.ref dl, .ref pl])
  dig : ∃ ds : List Int, H dl = some (.lst (ds.map V.int)) ∧ 0 < ds.length ∧ Small60 ds
  pos : ∃ i : Int, H pl = some (.lst [.int i])
  ns : st ≠ pl
  nd : dl ≠ pl
theorem mod_in {i m : Int} (h : 0 < m) : 0 ≤ i % m ∧ i % m < m := ⟨Int.emod_nonneg i (by omega), Int.emod_lt_of_pos i h⟩
section
variable {P : Program} {w : World} {K : PySem.W.Frag} {mg : Str → Option Value} {base : Heap}
theorem ok_cell {f : Addr} {fd : FuncData} {k : Nat} (F : Fun K "_law_cell" "_law_cell" d__law_cell f fd) (D : DrTx mg) : FnOk P w K mg base CX0 (k + 1) f fd ["script", "k"] (spCell K) := by
  refine F.ok scCell (fun vs H Q E h => ?_) (fun cdv A outer s H vs Q E hr h => ?_)
  · obtain ⟨a, ns, k, rfl, _⟩ := h
    rfl
  obtain ⟨a, ns, k, rfl, hS, h0, q⟩ := h
  refine ⟨_, pss_cons (ps_if (pt_cmpR op_lt (pv 1) (pe_callB call_len_seq (by rfl) D.ml PySem.boot_len (pa_cons (pv 0) pa_nil)) (nomark _))
      (pss_one (ps_ret (pe_callTy call_int1 (by rfl) D.mi (by decide +kernel) (pa_cons (pe_ix ix_list (pv 0) (pv 1) (fun _ _ => rfl)) pa_nil)))) pss_nil)
    (pss_one (ps_ret pe_int)), ?_⟩
  refine ⟨_, rfl, _, rfl, a, _, rfl, .inl hS, _, _, rfl, rfl, _, rfl, ite2 (fun c => ?_) (fun c => q 0)⟩
  have h1 := of_decide_eq_true c
  rw [List.length_map] at h1
  obtain ⟨v, hv⟩ := cell_item (ns := ns) h0 h1
  exact ⟨_, rfl, _, rfl, a, _, k, _, rfl, rfl, hS, hv, .inl ⟨v, rfl, q v⟩⟩
end
end My
namespace My
open PySem PySem.Spec PyProof.Rows L2

def spDraws : Sp := fun vs H Q _ => ∃ (c : Int), vs = [.int c, .int 12] ∧ ∀ (H' : Hp) (p : Addr) (ds : List Int), Same H H' → H p = none → H' p = some (.lst (ds.map V.int)) → ds.length = 12 → Small60 ds → Q (.ref p) H'
theorem scDraws : FnScope ["cell", "count", "number", "great", "found", "k", "mixed"] ["cell", "count"] (defScope d__law_draws) := ⟨rfl, rfl, rfl, by decide +kernel, rfl, by decide +kernel, by decide +kernel⟩
def spStream (K : PySem.W.Frag) : Sp := fun vs H Q _ => ∃ (a : Addr) (ns : List Int) (first n : Nat), vs = [.ref a, .int (first : Int), .int (n : Int)] ∧ SqL K H a (ns.map V.int) ∧ 0 < n ∧ n ≤ 1000 ∧
  ∀ (H' : Hp) (st dl pl : Addr), Same H H' → H pl = none → StreamAt H' st dl pl → Q (.ref st) H'
theorem scStream : FnScope ["script", "first", "count", "found", "k"] ["script", "first", "count"] (defScope d__law_stream) := ⟨rfl, rfl, rfl, by decide +kernel, rfl, by decide +kernel, by decide +kernel⟩
def spNext : Sp := fun vs H Q _ => ∃ (st dl pl : Addr) (many : Int), vs = [.ref st, .int many] ∧ StreamAt H st dl pl ∧ 0 < many ∧ ∀ (v : Int) (H' : Hp), 0 ≤ v → v < many → But pl H H' → StreamAt H' st dl pl → Q (.int v) H'
theorem scNext : FnScope ["stream", "many", "digits", "place", "value"] ["stream", "many"] (defScope d__law_next) := ⟨rfl, rfl, rfl, by decide +kernel, rfl, by decide +kernel, by decide +kernel⟩
section
variable {P : Program} {w : World} {K : PySem.W.Frag} {mg : Str → Option Value} {base : Heap}
theorem ok_draws {f : Addr} {fd : FuncData} {k : Nat} (F : Fun K "_law_draws" "_law_draws" d__law_draws f fd) (D : DrTx mg) : FnOk P w K mg base CX0 (k + 1) f fd ["cell", "count"] spDraws := by
  refine F.ok scDraws (fun vs H Q E h => ?_) (fun cdv A outer s H vs Q E hr h => ?_)
  · obtain ⟨c, rfl, _⟩ := h
    rfl
  obtain ⟨c, rfl, q⟩ := h
  refine ⟨_, pss_cons (ps_set (i := 2) scDraws.nd rfl (.inl rfl) (pe_callB call_abs (by rfl) D.ma (by decide +kernel) (pa_cons (pe_callTy call_int1 (by rfl) D.mi (by decide +kernel) (pa_cons (pv 0) pa_nil)) pa_nil)))
    (pss_cons (ps_set (i := 3) scDraws.nd rfl (.inl rfl) (pe_cmpR op_ge (pv 2) (pe_op op_pow pe_int pe_int) (nomark _)))
    (pss_cons (ps_set (i := 4) scDraws.nd rfl (.inl rfl) (pe_lst pa_nil))
    (pss_cons (ps_for PassesOwn.never rfl (pi_range1 rfl D.mr (pa_cons pe_int pa_nil)) (pg_name (i := 5) scDraws.nd rfl (.inl rfl))
      (pss_one (ps_if (PW.pt (pw_and (pt_cmpR op_lt (pv 5) (pv 1) (nomark _)) (pw_and1 (pt_val (pv 3)))))
        (pss_cons (ps_expr (pe_bm PySem.F.plainAttrs_list PySem.F.slot_list_append PySem.F.type_list_append mt_append (pv 4) (pa_cons (pe_op op_mod (pv 2) pe_int) pa_nil)))
        (pss_one (ps_set (i := 2) scDraws.nd rfl (.inl rfl) (pe_op op_fdiv (pv 2) pe_int))))
        (pss_one (ps_if (pt_cmpR op_lt (pv 5) (pv 1) (nomark _))
          (pss_cons (ps_set (i := 6) scDraws.nd rfl (.inl rfl) (pe_op op_mod (pe_op op_add (pe_op op_add (pe_op op_mul (pe_callTy call_int1 (by rfl) D.mi (by decide +kernel) (pa_cons (pv 2) pa_nil)) pe_int) (pe_op op_mul (pv 5) pe_int)) pe_int) pe_int))
          (pss_cons (ps_set (i := 6) scDraws.nd rfl (.inl rfl) (pe_op op_mod (pe_op op_add (pe_op op_add (pe_op op_mul (pe_callTy call_int1 (by rfl) D.mi (by decide +kernel) (pa_cons (pv 6) pa_nil)) (pe_callTy call_int1 (by rfl) D.mi (by decide +kernel) (pa_cons (pv 6) pa_nil))) (pe_op op_mul (pv 5) pe_int)) pe_int) pe_int))
          (pss_one (ps_expr (pe_bm PySem.F.plainAttrs_list PySem.F.slot_list_append PySem.F.type_list_append mt_append (pv 4) (pa_cons (pe_op op_mod (pe_callTy call_int1 (by rfl) D.mi (by decide +kernel) (pa_cons (pv 6) pa_nil)) pe_int) pa_nil)))))) pss_nil)))))
    (pss_one (ps_ret (pv 4)))))), ?_⟩
  refine ⟨_, rfl, .inl ⟨c, rfl, c, rfl, ?_⟩⟩
  have hn : 0 ≤ (if c < 0 then -c else c) := by split <;> omega
  generalize hN : (if c < 0 then -c else c) = num at *
  refine ⟨_, rfl, _, _, rfl, rfl, ⟨by omega, by omega, by decide⟩, _, _, rfl, rfl, ?_⟩
  refine ⟨Nat.zero_le _, fun l hl => ?_⟩
  refine ⟨60, rfl, by omega, by omega, for_range (lo := 0) (n := 60) (fun i σ H' => ∃ (great : Bool) (num : Int) (kv mv : Option V) (ds : List Int), σ = [some (.int c), some (.int 12), some (.int num), some (.bl great), some (.ref l), kv, mv] ∧ 0 ≤ num ∧ Same H H' ∧ H' l = some (.lst (ds.map V.int)) ∧ ds.length = min i 12 ∧ Small60 ds)
    ⟨_, num, none, none, [], rfl, hn, same_new hl _, upd_same, rfl, fun d hd => by cases hd⟩ ?_ ?_⟩
  · rintro i σ H1 hi ⟨great, num, kv, mv, ds, rfl, hn, s1, hL, hlen, hs⟩
    have room : (ds.map V.int).length < sizeLine := by
      rw [List.length_map, sizeLine_eq, hlen]
      omega
    have next : ∀ (num' : Int) (mv' : Option V) (d : Int), i < 12 → 0 ≤ num' → 0 ≤ d → d < 60 → ∃ (great' : Bool) (num : Int) (kv mv : Option V) (ds' : List Int), ([some (.int c), some (.int 12), some (.int num'), some (.bl great), some (.ref l), some (.int (0 + (i : Int))), mv'] : L2.St) = [some (.int c), some (.int 12), some (.int num), some (.bl great'), some (.ref l), kv, mv] ∧ 0 ≤ num ∧
        Same H (upd H1 l (.lst (ds.map V.int ++ [V.int d]))) ∧ (upd H1 l (.lst (ds.map V.int ++ [V.int d]))) l = some (.lst (ds'.map V.int)) ∧ ds'.length = min (i + 1) 12 ∧ Small60 ds' := fun num' mv' d h12 h1 h2 h3 => by
      refine ⟨great, num', _, mv', ds ++ [d], rfl, h1, fun b o e => ?_, ?_, ?_, hs.snoc h2 h3⟩
      · rw [upd_ne (ne_of_none e hl)]
        exact s1 _ _ e
      · rw [upd_same, List.map_append]
        rfl
      · rw [List.length_append, List.length_singleton, hlen]
        omega
    refine ⟨_, rfl, _, rfl, _, _, rfl, rfl, _, rfl, ite2 (fun c1 => ?_) (fun c1 => ?_)⟩
    · have h12 : i < 12 := by
        have := of_decide_eq_true c1
        omega
      refine ⟨_, rfl, great, rfl, ite2 (fun cg => ?_) (fun cg => ?_)⟩
      · refine ⟨_, rfl, .inl ⟨rfl, _, .inl (.inl hL)⟩, _, rfl, _, _, rfl, rfl, (by show (0 : Int) < 60; decide), l, _, _, rfl, rfl, hL, room, ?_⟩
        refine ⟨_, rfl, _, _, rfl, rfl, ⟨by decide, by decide⟩, ?_⟩
        have m := mod_in (i := num) (m := 60) (by decide)
        exact next (num / 60) mv (num % 60) h12 (Int.ediv_nonneg hn (by decide)) m.1 m.2
      · refine ⟨_, rfl, _, rfl, _, _, rfl, rfl, _, rfl, iteT' c1 ?_⟩
        refine ⟨_, rfl, .inl ⟨num, rfl, ?_⟩⟩
        refine ⟨_, _, rfl, rfl, .inr ⟨by decide, by decide⟩, _, rfl, _, _, rfl, rfl, .inr ⟨by decide, by decide⟩, _, _, rfl, rfl, _, _, rfl, rfl, _, _, rfl, rfl, (by show (0 : Int) < 2147483647; decide), ?_⟩
        have m1 := mod_in (i := num * 48271 + (0 + (i : Int)) * 69621 + 11) (m := 2147483647) (by decide)
        have c2 : CMul ((num * 48271 + (0 + (i : Int)) * 69621 + 11) % 2147483647) ((num * 48271 + (0 + (i : Int)) * 69621 + 11) % 2147483647) := .inr ⟨by omega, by omega⟩
        refine ⟨_, rfl, .inl ⟨_, rfl, ?_⟩⟩
        refine ⟨_, rfl, .inl ⟨_, rfl, ?_⟩⟩
        refine ⟨_, _, rfl, rfl, c2, _, rfl, _, _, rfl, rfl, .inr ⟨by decide, by decide⟩, _, _, rfl, rfl, _, _, rfl, rfl, _, _, rfl, rfl, (by show (0 : Int) < 998244353; decide), ?_⟩
        refine ⟨_, rfl, .inl ⟨rfl, _, .inl (.inl hL)⟩, _, rfl, .inl ⟨_, rfl, _, _, rfl, rfl, (by show (0 : Int) < 60; decide), l, _, _, rfl, rfl, hL, room, ?_⟩⟩
        have m := mod_in (i := ((num * 48271 + (0 + (i : Int)) * 69621 + 11) % 2147483647 * ((num * 48271 + (0 + (i : Int)) * 69621 + 11) % 2147483647) + (0 + (i : Int)) * 7919 + 5) % 998244353) (m := 60) (by decide)
        exact next num _ _ h12 hn m.1 m.2
    · refine ⟨_, rfl, _, rfl, _, _, rfl, rfl, _, rfl, iteF' c1 ?_⟩
      have := of_decide_eq_false (Bool.eq_false_iff.mpr c1)
      exact ⟨great, num, _, mv, ds, rfl, hn, s1, hL, by rw [hlen]; omega, hs⟩
  · rintro σ H1 ⟨great, num, kv, mv, ds, rfl, hn, s1, hL, hlen, hs⟩
    exact ⟨_, rfl, q H1 l ds s1 hl hL hlen hs⟩
theorem ok_stream {f : Addr} {fd : FuncData} {k : Nat} (F : Fun K "_law_stream" "_law_stream" d__law_stream f fd) (D : DrTx mg) (cC : CalX P w K mg base CX0 k "_law_cell" ["script", "k"] (spCell K)) (cD : CalX P w K mg base CX0 k "_law_draws" ["cell", "count"] spDraws) :
    FnOk P w K mg base CX0 (k + 1) f fd ["script", "first", "count"] (spStream K) := by
  refine F.ok scStream (fun vs H Q E h => ?_) (fun cdv A outer s H vs Q E hr h => ?_)
  · obtain ⟨a, ns, first, n, rfl, _⟩ := h
    rfl
  obtain ⟨a, ns, first, n, rfl, hS, h0, h1, q⟩ := h
  refine ⟨_, pss_cons (ps_set (i := 3) scStream.nd rfl (.inl rfl) (pe_lst pa_nil))
    (pss_cons (ps_for PassesOwn.never rfl (pi_range1 rfl D.mr (pa_cons (pv 2) pa_nil)) (pg_name (i := 4) scStream.nd rfl (.inl rfl))
      (pss_one (ps_expr (pe_bm PySem.F.plainAttrs_list PySem.F.slot_list_extend PySem.F.type_list_extend mt_extend (pv 3) (pa_cons (pe_cx cD hr (by rfl) pat0 (pa_cons (pe_cx cC hr (by rfl) pat0 (pa_cons (pv 0) (pa_cons (pe_op op_add (pv 1) (pv 4)) pa_nil))) (pa_cons pe_int pa_nil))) pa_nil)))))
    (pss_one (ps_ret (pe_lst (pa_cons (pv 3) (pa_cons (pe_lst (pa_cons pe_int pa_nil)) pa_nil)))))), ?_⟩
  refine ⟨Nat.zero_le _, fun l hl => ?_⟩
  refine ⟨_, rfl, (n : Int), rfl, by omega, by omega, ?_⟩
  rw [Int.toNat_natCast]
  refine for_range (lo := 0) (n := n) (fun i σ H' => ∃ (kv : Option V) (ds : List Int), σ = [some (.ref a), some (.int (first : Int)), some (.int (n : Int)), some (.ref l), kv] ∧ Same H H' ∧ H' l = some (.lst (ds.map V.int)) ∧ ds.length = 12 * i ∧ Small60 ds)
    ⟨none, [], rfl, same_new hl _, upd_same, rfl, fun d hd => by cases hd⟩ ?_ ?_
  · rintro i σ H1 hi ⟨kv, ds, rfl, s1, hL, hlen, hs⟩
    refine ⟨_, rfl, .inl ⟨rfl, _, .inl (.inl hL)⟩, ?_⟩
    refine ⟨_, rfl, _, rfl, _, rfl, _, _, rfl, rfl, a, ns, (first : Int) + (0 + (i : Int)), rfl, s1.seq hS, by omega, fun v => ?_⟩
    refine ⟨v, rfl, fun H2 p es s2 hp hP hel hes => ?_⟩
    have hL2 := s2 _ _ hL
    refine ⟨l, p, _, _, rfl, rfl, hL2, hP, ?_, ?_⟩
    · rw [List.length_map, List.length_map, sizeLine_eq, hlen, hel]
      omega
    · refine ⟨_, ds ++ es, rfl, fun b o e => ?_, ?_, ?_, hs.app hes⟩
      · rw [upd_ne (ne_of_none e hl)]
        exact s2 _ _ (s1 _ _ e)
      · rw [upd_same, List.map_append]
      · rw [List.length_append, hlen, hel]
        omega
  · rintro σ H1 ⟨kv, ds, rfl, s1, hL, hlen, hs⟩
    refine ⟨_, rfl, (by show 1 ≤ sizeLine; decide), fun pl hp => ?_⟩
    refine ⟨(by show 2 ≤ sizeLine; decide), fun st hst => ?_⟩
    have nlp : l ≠ pl := ne_of_none hL hp
    have npl : pl ≠ st := ne_of_none upd_same hst
    have nls : l ≠ st := ne_of_none (by rw [upd_ne nlp]; exact hL) hst
    refine q _ st l pl ((s1.trans (same_new hp _)).trans (same_new hst _)) (s1.free hp) ⟨upd_same, ⟨ds, ?_, by omega, hs⟩, ⟨0, ?_⟩, npl.symm, nlp⟩
    · rw [upd_ne nls, upd_ne nlp]
      exact hL
    · rw [upd_ne npl]
      exact upd_same
theorem ok_next {f : Addr} {fd : FuncData} {k : Nat} (F : Fun K "_law_next" "_law_next" d__law_next f fd) (D : DrTx mg) : FnOk P w K mg base CX0 (k + 1) f fd ["stream", "many"] spNext := by
  refine F.ok scNext (fun vs H Q E h => ?_) (fun cdv A outer s H vs Q E hr h => ?_)
  · obtain ⟨st, dl, pl, many, rfl, _⟩ := h
    rfl
  obtain ⟨st, dl, pl, many, rfl, ⟨hst, ⟨ds, hd, h0, hs⟩, ⟨i, hp⟩, ns, nd⟩, hm, q⟩ := h
  refine ⟨_, pss_cons (ps_set (i := 2) scNext.nd rfl (.inl rfl) (pe_ix ix_list (pv 0) pe_int (fun _ _ => rfl)))
    (pss_cons (ps_set (i := 3) scNext.nd rfl (.inl rfl) (pe_ix ix_list (pv 0) pe_int (fun _ _ => rfl)))
    (pss_cons (ps_set (i := 4) scNext.nd rfl (.inl rfl) (pe_op op_mod (pe_callTy call_int1 (by rfl) D.mi (by decide +kernel) (pa_cons (pe_ix ix_list (pv 2) (pe_op op_mod (pe_callTy call_int1 (by rfl) D.mi (by decide +kernel) (pa_cons (pe_ix ix_list (pv 3) pe_int (fun _ _ => rfl)) pa_nil)) (pe_callB call_len_seq (by rfl) D.ml PySem.boot_len (pa_cons (pv 2) pa_nil))) (fun _ _ => rfl)) pa_nil)) (pv 1)))
    (pss_cons (ps_asg (pe_op op_add (pe_ix ix_list (pv 3) pe_int (fun _ _ => rfl)) pe_int) (pg_sub (pv 3) pe_int set_list))
    (pss_one (ps_ret (pv 4)))))), ?_⟩
  refine ⟨_, rfl, st, _, 0, .ref dl, rfl, rfl, .inl (.inl hst), atI_nat (j := 0) rfl, ?_⟩
  refine ⟨_, rfl, st, _, 1, .ref pl, rfl, rfl, .inl (.inl hst), atI_nat (j := 1) rfl, ?_⟩
  have m := mod_in (i := i) (m := (ds.length : Int)) (by omega)
  obtain ⟨j, hj⟩ : ∃ j : Nat, i % (ds.length : Int) = (j : Int) := ⟨(i % (ds.length : Int)).toNat, by omega⟩
  have hjl : j < ds.length := by omega
  have hlm : (ds.map V.int).length = ds.length := List.length_map _
  have he : atI (ds.map V.int) (i % (((ds.map V.int).length : Nat) : Int)) = some (.int ds[j]) := by
    rw [hlm, hj]
    exact atI_nat (by rw [List.getElem?_map, List.getElem?_eq_getElem hjl] <;> rfl)
  refine ⟨_, rfl, _, rfl, pl, _, 0, .int i, rfl, rfl, .inl (.inl hp), atI_nat (j := 0) rfl, .inl ⟨i, rfl, _, rfl, dl, _, rfl, .inl (.inl (.inl hd)), _, _, rfl, rfl, (by show (0 : Int) < (((ds.map V.int).length : Nat) : Int); omega), ?_⟩⟩
  refine ⟨dl, _, _, .int ds[j], rfl, rfl, .inl (.inl hd), he, .inl ⟨ds[j], rfl, _, rfl, _, _, rfl, rfl, hm, ?_⟩⟩
  have mm := mod_in (i := ds[j]) (m := many) hm
  refine ⟨_, rfl, pl, _, 0, .int i, rfl, rfl, .inl (.inl hp), atI_nat (j := 0) rfl, _, _, rfl, rfl, _, rfl, pl, _, 0, 0, rfl, rfl, hp, rfl, ?_⟩
  refine ⟨_, rfl, q _ _ mm.1 mm.2 (fun b o e n => by rw [upd_ne n]; exact e) ⟨?_, ⟨ds, ?_, h0, hs⟩, ⟨i + 1, upd_same⟩, ns, nd⟩⟩
  · rw [upd_ne ns]; exact hst
  · rw [upd_ne nd]; exact hd
end
end My
namespace My
open PySem PySem.Spec PyProof.Rows L2

/-! ### streams and texts, more -/
theorem StreamAt.same {H H' : Hp} {st dl pl : Addr} (s : StreamAt H st dl pl) (e : Same H H') : StreamAt H' st dl pl := by
  obtain ⟨h1, ⟨ds, h2, h3⟩, ⟨i, h4⟩, h5, h6⟩ := s
  exact ⟨e _ _ h1, ⟨ds, e _ _ h2, h3⟩, ⟨i, e _ _ h4⟩, h5, h6⟩
/-- another object is stored -/
theorem StreamAt.put {H : Hp} {st dl pl D : Addr} {o : HO} (s : StreamAt H st dl pl) (n1 : st ≠ D) (n2 : dl ≠ D) (n3 : pl ≠ D) : StreamAt (upd H D o) st dl pl := by
  obtain ⟨h1, ⟨ds, h2, h3⟩, ⟨i, h4⟩, h5, h6⟩ := s
  exact ⟨by rw [upd_ne n1]; exact h1, ⟨ds, by rw [upd_ne n2]; exact h2, h3⟩, ⟨i, by rw [upd_ne n3]; exact h4⟩, h5, h6⟩
theorem StreamAt.off {H : Hp} {st dl pl D : Addr} (s : StreamAt H st dl pl) (h : H D = none) : st ≠ D ∧ dl ≠ D ∧ pl ≠ D := by
  obtain ⟨h1, ⟨ds, h2, h3⟩, ⟨i, h4⟩, h5, h6⟩ := s
  exact ⟨ne_of_none h1 h, ne_of_none h2 h, ne_of_none h4 h⟩
/-- a display of written texts -/
def strsOf : List Expr → Option (List Str)
  | [] => some []
  | .Constant (.str x) _ _ :: r => (strsOf r).map (x :: ·)
  | _ => none
theorem pa_strs {X : Cx} : ∀ {es : List Expr} {zs : List Str}, strsOf es = some zs → PA X es (fun _ H Q => Q (zs.map V.str) H)
  | [], zs, h => by
    have e : [] = zs := Option.some.inj h
    subst e
    exact pa_nil
  | .Constant (.str x) j p :: r, zs, h => by
    have h' : (strsOf r).map (x :: ·) = some zs := h
    cases e : strsOf r with
    | none => rw [e] at h'; cases h'
    | some ys =>
      rw [e] at h'
      have e2 : x :: ys = zs := Option.some.inj h'
      subst e2
      exact pa_cons pe_str (pa_strs e)
theorem codes_app (a b : Str) : codes (a ++ b) = codes a ++ codes b := by
  show (a.cps ++ b.cps).toList = a.cps.toList ++ b.cps.toList
  exact Array.toList_append
theorem codes_sp : codes (Str.ofString " ") = [32] := by decide +kernel
/-- two texts with a space between them -/
theorem lex_sp (a b : Str) : Sg.lex (codes ((a ++ Str.ofString " ") ++ b)) = (Sg.lex (codes a)).bind fun x => (Sg.lex (codes b)).map (x ++ ·) := by
  rw [codes_app, codes_app, codes_sp, List.append_assoc]
  exact Sg.lex_app _ _
def Good (z : Str) : Prop := (Sg.lex (codes z)).isSome = true
theorem good_sp {a b : Str} (h1 : Good a) (h2 : Good b) : Good ((a ++ Str.ofString " ") ++ b) := by
  unfold Good at *
  rw [lex_sp]
  obtain ⟨x, hx⟩ := Option.isSome_iff_exists.mp h1
  obtain ⟨y, hy⟩ := Option.isSome_iff_exists.mp h2
  rw [hx, hy]
  rfl
theorem good_join : ∀ ys : List Str, (∀ y ∈ ys, Good y) → Good (Str.join (Str.ofString " ") ys)
  | [], _ => by
    show (Sg.lex (codes Str.empty)).isSome = true
    rfl
  | [x], h => h x List.mem_cons_self
  | x :: y :: r, h => good_sp (h x List.mem_cons_self) (good_join (y :: r) fun z hz => h z (List.mem_cons_of_mem _ hz))
theorem join_eq (sep : Str) (ys : List Str) : Txt.join sep ys = Str.join sep ys := StrLaws.glued_eq_join sep ys
theorem sum_le {ys : List Str} {m : Nat} (h : ∀ y ∈ ys, y.length ≤ m) : (ys.map (·.length)).sum ≤ ys.length * m := by
  induction ys with
  | nil => exact Nat.zero_le _
  | cons a r ih =>
    have h1 := h a List.mem_cons_self
    have h2 := ih fun z hz => h z (List.mem_cons_of_mem _ hz)
    rw [List.map_cons, List.sum_cons, List.length_cons, Nat.succ_mul]
    omega
end My
namespace My
open PySem PySem.Spec PyProof.Rows L2

/-! ### _law_same over data -/
theorem pe_ty {X : Cx} {x : Str} {pos : Pos} (n : String) (hg : Gl X x) (hm : X.mg x = none) (hv : bootBuiltins x = some (.type n)) (hn : x ≠ "__name__" := by decide +kernel) (hd : (x == ("__debug__" : Str)) = false := by decide) : PE X (.Name x pos) (tC (.ty n)) :=
  pe_bltn (v := .ty n) (u := .type n) hg hm hv rfl hn hd
structure SameTx (mg : Str → Option Value) : Prop where
  mI : mg "isinstance" = none
  mb : mg "bool" = none
  mi : mg "int" = none
  ms : mg "str" = none
  mt : mg "tuple" = none
  ml : mg "list" = none
  mn : mg "len" = none
  mr : mg "range" = none
/-- data of depth n at most -/
def Fits : Nat → PyData → Prop
  | 0, _ => False
  | n + 1, d => match d with
    | .none => True
    | .bool _ => True
    | .int _ => True
    | .str _ => True
    | .list ds => ds.length ≤ 1000 ∧ ∀ e ∈ ds, Fits n e
    | .tuple ds => ds.length ≤ 1000 ∧ ∀ e ∈ ds, Fits n e
    | .dict _ => False
theorem tyL {K : PySem.W.Frag} {H : Hp} {a : Addr} {xs : List V} (h : SqL K H a xs) : TyX K H (.ref a) (.type "list") := by
  rcases h with (h | ⟨o, h⟩) | ⟨o, its, n, h, c, _⟩
  · exact .base (.lst h)
  · exact .base (.frz h)
  · exact .kList h c
theorem tyT {K : PySem.W.Frag} {H : Hp} {a : Addr} {xs : List V} (h : SqT K H a xs) : TyX K H (.ref a) (.type "tuple") := by
  rcases h with (h | ⟨o, h⟩) | ⟨o, its, n, h, c, _⟩
  · exact .base (.tup h)
  · exact .fTuple h
  · exact .kTuple h c
theorem dp_len {K : PySem.W.Frag} {H : Hp} : ∀ {xs : List V} {ds : List PyData}, DpAll K H xs ds → xs.length = ds.length
  | _, _, .nil => rfl
  | _, _, .cons _ r => congrArg (· + 1) (dp_len r)
theorem dp_at {K : PySem.W.Frag} {H : Hp} : ∀ {xs : List V} {ds : List PyData}, DpAll K H xs ds → ∀ {i : Nat} {d : PyData}, ds[i]? = some d → ∃ v, xs[i]? = some v ∧ Dp K H v d
  | _, _, .nil, i, d, h => by simp at h
  | _, _, .cons q r, 0, d, h => by
    have e := Option.some.inj h
    subst e
    exact ⟨_, rfl, q⟩
  | _, _, .cons q r, i + 1, d, h => by
    obtain ⟨v, h1, h2⟩ := dp_at r (i := i) (d := d) h
    exact ⟨v, h1, h2⟩
def spIsInt : Sp := fun vs H Q _ => ∃ i : Int, vs = [.int i] ∧ Q (.bl true) H
def spSame (K : PySem.W.Frag) (n : Nat) : Sp := fun vs H Q _ => ∃ (x y : V) (d : PyData), vs = [x, y] ∧ Dp K H x d ∧ Dp K H y d ∧ Fits n d ∧ Q (.bl true) H
theorem scIsInt : FnScope ["actual"] ["actual"] (defScope d__law_is_integer) := ⟨rfl, rfl, rfl, by decide +kernel, rfl, by decide +kernel, by decide +kernel⟩
theorem scSame : FnScope ["actual", "expected", "k"] ["actual", "expected"] (defScope d__law_same) := ⟨rfl, rfl, rfl, by decide +kernel, rfl, by decide +kernel, by decide +kernel⟩
section
variable {P : Program} {w : World} {K : PySem.W.Frag} {mg : Str → Option Value} {base : Heap}
theorem ok_isint {f : Addr} {fd : FuncData} {k : Nat} (F : Fun K "_law_is_integer" "_law_is_integer" d__law_is_integer f fd) (T : SameTx mg) : FnOk P w K mg base CX0 (k + 1) f fd ["actual"] spIsInt := by
  refine F.ok scIsInt (fun vs H Q E h => ?_) (fun cdv A outer s H vs Q E hr h => ?_)
  · obtain ⟨i, rfl, _⟩ := h
    rfl
  obtain ⟨i, rfl, q⟩ := h
  refine ⟨_, pss_one (ps_ret (pe_and (pe_callB call_isi (by rfl) T.mI (by decide +kernel) (pa_cons (pv 0) (pa_cons (pe_ty "int" (by rfl) T.mi (by decide +kernel)) pa_nil)))
    (pe_one (pe_not (pe_callB call_isi (by rfl) T.mI (by decide +kernel) (pa_cons (pv 0) (pa_cons (pe_ty "bool" (by rfl) T.mb (by decide +kernel)) pa_nil))))))), ?_⟩
  refine ⟨_, rfl, _, _, _, _, _, rfl, .ty "int", .base (.int i), kit_ty (by decide +kernel), _, rfl, iteT ?_⟩
  exact ⟨_, rfl, _, _, _, _, false, rfl, .ty "bool", .base (.int i), kit_ty (by decide +kernel), _, rfl, q⟩
theorem ok_same {f g : Addr} {fd gd : FuncData} {n k : Nat} (F : Fun K "_law_same" "_law_same" d__law_same f fd) (T : SameTx mg) (cI : CalX P w K mg base CX0 k "_law_is_integer" ["actual"] spIsInt) (cS : CalX P w K mg base CX0 k "_law_same" ["actual", "expected"] (spSame K n)) :
    FnOk P w K mg base CX0 (k + 1) f fd ["actual", "expected"] (spSame K (n + 1)) := by
  refine F.ok scSame (fun vs H Q E h => ?_) (fun cdv A outer s H vs Q E hr h => ?_)
  · obtain ⟨x, y, d, rfl, _⟩ := h
    rfl
  obtain ⟨x, y, d, rfl, hx, hy, hf, q⟩ := h
  refine ⟨_, pss_cons (ps_if (pt_cmpR op_isN (pv 1) pe_non (nomark _)) (pss_one (ps_ret (pe_cmpR op_isN (pv 0) pe_non (nomark _)))) pss_nil)
    (pss_cons (ps_if (pt_val (pe_callB call_isi (by rfl) T.mI (by decide +kernel) (pa_cons (pv 1) (pa_cons (pe_ty "bool" (by rfl) T.mb (by decide +kernel)) pa_nil)))) (pss_one (ps_ret (pe_and (pe_callB call_isi (by rfl) T.mI (by decide +kernel) (pa_cons (pv 0) (pa_cons (pe_ty "bool" (by rfl) T.mb (by decide +kernel)) pa_nil))) (pe_one (pe_cmpR op_eq (pv 0) (pv 1) (nomark _)))))) pss_nil)
    (pss_cons (ps_if (pt_val (pe_callB call_isi (by rfl) T.mI (by decide +kernel) (pa_cons (pv 1) (pa_cons (pe_ty "int" (by rfl) T.mi (by decide +kernel)) pa_nil)))) (pss_one (ps_ret (pe_and (pe_cx cI hr (by rfl) pat0 (pa_cons (pv 0) pa_nil)) (pe_one (pe_cmpR op_eq (pv 0) (pv 1) (nomark _)))))) pss_nil)
    (pss_cons (ps_if (pt_val (pe_callB call_isi (by rfl) T.mI (by decide +kernel) (pa_cons (pv 1) (pa_cons (pe_ty "str" (by rfl) T.ms (by decide +kernel)) pa_nil)))) (pss_one (ps_ret (pe_and (pe_callB call_isi (by rfl) T.mI (by decide +kernel) (pa_cons (pv 0) (pa_cons (pe_ty "str" (by rfl) T.ms (by decide +kernel)) pa_nil))) (pe_one (pe_cmpR op_eq (pv 0) (pv 1) (nomark _)))))) pss_nil)
    (pss_cons (ps_if (PW.pt (pw_and (pt_val (pe_callB call_isi (by rfl) T.mI (by decide +kernel) (pa_cons (pv 1) (pa_cons (pe_ty "tuple" (by rfl) T.mt (by decide +kernel)) pa_nil)))) (pw_and1 (pt_not (pt_val (pe_callB call_isi (by rfl) T.mI (by decide +kernel) (pa_cons (pv 0) (pa_cons (pe_ty "tuple" (by rfl) T.mt (by decide +kernel)) pa_nil)))))))) (pss_one (ps_ret pe_bl)) pss_nil)
    (pss_cons (ps_if (PW.pt (pw_and (pt_val (pe_callB call_isi (by rfl) T.mI (by decide +kernel) (pa_cons (pv 1) (pa_cons (pe_ty "list" (by rfl) T.ml (by decide +kernel)) pa_nil)))) (pw_and1 (pt_not (pt_val (pe_callB call_isi (by rfl) T.mI (by decide +kernel) (pa_cons (pv 0) (pa_cons (pe_ty "list" (by rfl) T.ml (by decide +kernel)) pa_nil)))))))) (pss_one (ps_ret pe_bl)) pss_nil)
    (pss_cons (ps_if (pt_cmpR op_ne (pe_callB call_len_seq (by rfl) T.mn PySem.boot_len (pa_cons (pv 0) pa_nil)) (pe_callB call_len_seq (by rfl) T.mn PySem.boot_len (pa_cons (pv 1) pa_nil)) (nomark _)) (pss_one (ps_ret pe_bl)) pss_nil)
    (pss_cons (ps_for PassesOwn.never rfl (pi_range1 rfl T.mr (pa_cons (pe_callB call_len_seq (by rfl) T.mn PySem.boot_len (pa_cons (pv 1) pa_nil)) pa_nil)) (pg_name (i := 2) scSame.nd rfl (.inl rfl))
      (pss_one (ps_if (pt_not (pt_val (pe_cx cS hr (by rfl) pat0 (pa_cons (pe_ix ix_seq (pv 0) (pv 2) (fun _ _ => rfl)) (pa_cons (pe_ix ix_seq (pv 1) (pv 2) (fun _ _ => rfl)) pa_nil))))) (pss_one (ps_ret pe_bl)) pss_nil)))
    (pss_one (ps_ret pe_bl))))))))), ?_⟩
  have loop : ∀ (x y : V) (xs ys : List V) (a b : Addr) (ds : List PyData), x = .ref a → y = .ref b → (SqL K H a xs ∨ SqT K H a xs) → (SqL K H b ys ∨ SqT K H b ys) → DpAll K H xs ds → DpAll K H ys ds → (ds.length ≤ 1000 ∧ ∀ e ∈ ds, Fits n e) →
      ∃ W : Nat → Nat → L2.St → Hp → Prop, (∃ m, W 0 m [some x, some y, none] H) ∧ ∀ i m σ H1, W i m σ H1 →
      ((Itr 0 ds.length).stop i H1 ∧ Q (.bl true) H1) ∨ ((Itr 0 ds.length).go i H1 ∧ ∃ N : L2.St → Hp → Prop, (∀ σ' H', N σ' H' → ∃ m', m' < m ∧ W (i + 1) m' σ' H') ∧ ∀ v H', (Itr 0 ds.length).yld i H1 v H' → gName 2 v σ H' fun σ2 H2 => tIfS (tNot (tB (tCallS (spSame K n) (fun _ => E0) (tCons (tOp (rIx K) (tVar 0) (tVar 2)) (tCons (tOp (rIx K) (tVar 1) (tVar 2)) tNil))))) (tRet (tC (.bl false))) tNext { nx := N, ct := N, bk := fun _ H' => Q (.bl true) H', rt := Q } σ2 H2) := by
    rintro x y xs ys a b ds rfl rfl hA hB hXs hYs hF
    refine ⟨fun i m σ H1 => H1 = H ∧ i + m = ds.length ∧ ∃ kv, σ = [some (.ref a), some (.ref b), kv], ⟨ds.length, rfl, by omega, none, rfl⟩, ?_⟩
    rintro i m σ H1 ⟨rfl, hi, kv, rfl⟩
    by_cases hlt : i < ds.length
    · refine .inr ⟨hlt, fun σ' H' => H' = H1 ∧ ∃ kv, σ' = [some (.ref a), some (.ref b), kv], fun σ' H' ⟨e1, e2⟩ => ⟨m - 1, by omega, e1, by omega, e2⟩, ?_⟩
      rintro v H' ⟨rfl, rfl⟩
      obtain ⟨vx, gx, px⟩ := dp_at hXs (List.getElem?_eq_getElem hlt)
      obtain ⟨vy, gy, py⟩ := dp_at hYs (List.getElem?_eq_getElem hlt)
      have ix : ∀ {a : Addr} {xs : List V} {vx : V} {R : VK}, (SqL K H' a xs ∨ SqT K H' a xs) → xs[i]? = some vx → R vx H' → rIx K (.ref a) (.int (0 + (i : Int))) H' R := fun {a xs vx R} h g r => by
        have e : (0 : Int) + (i : Int) = ((i : Nat) : Int) := by omega
        rw [e]
        rcases h with h | h
        · exact .inl ⟨a, xs, _, vx, rfl, rfl, h, atI_nat g, r⟩
        · exact .inr (.inl ⟨a, xs, _, vx, rfl, rfl, h, atI_nat g, r⟩)
      refine ⟨_, rfl, _, rfl, ix hA gx ?_⟩
      refine ⟨_, rfl, _, rfl, ix hB gy ?_⟩
      refine ⟨vx, vy, _, rfl, px, py, hF.2 _ (List.getElem_mem hlt), true, rfl, ?_⟩
      exact ⟨rfl, _, rfl⟩
    · exact .inl ⟨by show ds.length ≤ i; omega, q⟩
  cases hx with
  | non =>
    cases hy
    exact ⟨_, rfl, rfl, _, rfl, ite_yes rfl ⟨_, rfl, rfl, q⟩⟩
  | bl b =>
    cases hy
    refine ⟨_, rfl, rfl, _, rfl, ite_not (by intro z; cases z) ?_⟩
    refine ⟨_, rfl, _, _, _, _, _, rfl, .ty "bool", .base (.bl b), kit_ty (by decide +kernel), _, rfl, iteT ?_⟩
    refine ⟨_, rfl, _, _, _, _, _, rfl, .ty "bool", .base (.bl b), kit_ty (by decide +kernel), _, rfl, iteT ?_⟩
    refine ⟨_, rfl, _, rfl, rfl, ?_⟩
    rw [decide_eq_true rfl]
    exact q
  | int i =>
    cases hy
    refine ⟨_, rfl, rfl, _, rfl, ite_not (by intro z; cases z) ?_⟩
    refine ⟨_, rfl, _, _, _, _, _, rfl, .ty "bool", .base (.int i), kit_ty (by decide +kernel), _, rfl, iteF ?_⟩
    refine ⟨_, rfl, _, _, _, _, _, rfl, .ty "int", .base (.int i), kit_ty (by decide +kernel), _, rfl, iteT ?_⟩
    refine ⟨_, rfl, i, rfl, _, rfl, iteT ?_⟩
    refine ⟨_, rfl, _, rfl, rfl, ?_⟩
    rw [decide_eq_true rfl]
    exact q
  | str z =>
    cases hy
    refine ⟨_, rfl, rfl, _, rfl, ite_not (by intro z; cases z) ?_⟩
    refine ⟨_, rfl, _, _, _, _, _, rfl, .ty "bool", .base (.str z), kit_ty (by decide +kernel), _, rfl, iteF ?_⟩
    refine ⟨_, rfl, _, _, _, _, _, rfl, .ty "int", .base (.str z), kit_ty (by decide +kernel), _, rfl, iteF ?_⟩
    refine ⟨_, rfl, _, _, _, _, _, rfl, .ty "str", .base (.str z), kit_ty (by decide +kernel), _, rfl, iteT ?_⟩
    refine ⟨_, rfl, _, _, _, _, _, rfl, .ty "str", .base (.str z), kit_ty (by decide +kernel), _, rfl, iteT ?_⟩
    refine ⟨_, rfl, _, rfl, rfl, ?_⟩
    rw [decide_eq_true rfl]
    exact q
  | @lst a xs ds hA hXs =>
    cases hy with
    | @lst b ys _ hB hYs =>
    have eA := dp_len hXs
    have eB := dp_len hYs
    refine ⟨_, rfl, rfl, _, rfl, ite_not (by intro z; cases z) ?_⟩
    refine ⟨_, rfl, _, _, _, _, _, rfl, .ty "bool", tyL hB, kit_ty (by decide +kernel), _, rfl, iteF ?_⟩
    refine ⟨_, rfl, _, _, _, _, _, rfl, .ty "int", tyL hB, kit_ty (by decide +kernel), _, rfl, iteF ?_⟩
    refine ⟨_, rfl, _, _, _, _, _, rfl, .ty "str", tyL hB, kit_ty (by decide +kernel), _, rfl, iteF ?_⟩
    refine ⟨_, rfl, _, _, _, _, _, rfl, .ty "tuple", tyL hB, kit_ty (by decide +kernel), _, rfl, iteF ?_⟩
    refine ⟨_, rfl, _, _, _, _, _, rfl, .ty "list", tyL hB, kit_ty (by decide +kernel), _, rfl, iteT ?_⟩
    refine ⟨_, rfl, _, _, _, _, true, rfl, .ty "list", tyL hA, kit_ty (by decide +kernel), _, rfl, ?_⟩
    refine ⟨_, rfl, a, xs, rfl, .inl hA, _, rfl, b, ys, rfl, .inl hB, rfl, _, rfl, ?_⟩
    rw [eA, eB]
    refine iteNS rfl ?_
    refine ⟨_, rfl, b, ys, rfl, .inl hB, _, rfl, by omega, by rw [eB]; have := hf.1; omega, ?_⟩
    have L := loop _ _ xs ys a b ds rfl rfl (.inl hA) (.inl hB) hXs hYs hf
    rw [eB, Int.toNat_natCast]
    exact L
  | @tup a xs ds hA hXs =>
    cases hy with
    | @tup b ys _ hB hYs =>
    have eA := dp_len hXs
    have eB := dp_len hYs
    refine ⟨_, rfl, rfl, _, rfl, ite_not (by intro z; cases z) ?_⟩
    refine ⟨_, rfl, _, _, _, _, _, rfl, .ty "bool", tyT hB, kit_ty (by decide +kernel), _, rfl, iteF ?_⟩
    refine ⟨_, rfl, _, _, _, _, _, rfl, .ty "int", tyT hB, kit_ty (by decide +kernel), _, rfl, iteF ?_⟩
    refine ⟨_, rfl, _, _, _, _, _, rfl, .ty "str", tyT hB, kit_ty (by decide +kernel), _, rfl, iteF ?_⟩
    refine ⟨_, rfl, _, _, _, _, _, rfl, .ty "tuple", tyT hB, kit_ty (by decide +kernel), _, rfl, iteT ?_⟩
    refine ⟨_, rfl, _, _, _, _, true, rfl, .ty "tuple", tyT hA, kit_ty (by decide +kernel), _, rfl, ?_⟩
    refine ⟨_, rfl, _, _, _, _, _, rfl, .ty "list", tyT hB, kit_ty (by decide +kernel), _, rfl, iteF ?_⟩
    refine ⟨_, rfl, a, xs, rfl, .inr hA, _, rfl, b, ys, rfl, .inr hB, rfl, _, rfl, ?_⟩
    rw [eA, eB]
    refine iteNS rfl ?_
    refine ⟨_, rfl, b, ys, rfl, .inr hB, _, rfl, by omega, by rw [eB]; have := hf.1; omega, ?_⟩
    have L := loop _ _ xs ys a b ds rfl rfl (.inr hA) (.inr hB) hXs hYs hf
    rw [eB, Int.toNat_natCast]
    exact L
/-- by induction over the depth -/
theorem all_same {f : Addr} {fd : FuncData} {k : Nat} (F : Fun K "_law_same" "_law_same" d__law_same f fd) (b : Binds K fd ["actual", "expected"] []) (m : mg "_law_same" = some (.ref f)) (T : SameTx mg) (cI : CalX P w K mg base CX0 k "_law_is_integer" ["actual"] spIsInt) :
    ∀ n : Nat, CalX P w K mg base CX0 (k + n) "_law_same" ["actual", "expected"] (spSame K n)
  | 0 => ⟨f, fd, m, F.kp, b, fun vs H Q E h => by obtain ⟨x, y, d, _, _, _, z, _⟩ := h; exact z.elim, fun A outer s H args us vs Q E _ _ _ _ h => by obtain ⟨x, y, d, _, _, _, z, _⟩ := h; exact z.elim⟩
  | n + 1 => ⟨f, fd, m, F.kp, b, ok_same (g := f) (gd := fd) (k := k + n) F T (cI.mono (by omega)) (all_same F b m T cI n)⟩
end
end My
namespace My
open PySem PySem.Spec PyProof.Rows L2

/-! ### _law_number -/
def spNumber : Sp := fun vs H Q _ => ∃ (st dl pl : Addr), vs = [.ref st] ∧ StreamAt H st dl pl ∧ ∀ (v : Int) (H' : Hp), 0 ≤ v → v ≤ 1000000 → But pl H H' → StreamAt H' st dl pl → Q (.int v) H'
theorem scNumber : FnScope ["stream", "kind"] ["stream"] (defScope d__law_number) := ⟨rfl, rfl, rfl, by decide +kernel, rfl, by decide +kernel, by decide +kernel⟩
theorem int_eq_iff {i j : Int} : V.int i = V.int j ↔ i = j := ⟨fun h => V.int.inj h, fun h => by rw [h]⟩
section
variable {P : Program} {w : World} {K : PySem.W.Frag} {mg : Str → Option Value} {base : Heap}
theorem ok_number {f : Addr} {fd : FuncData} {k : Nat} (F : Fun K "_law_number" "_law_number" d__law_number f fd) (cX : CalX P w K mg base CX0 k "_law_next" ["stream", "many"] spNext) : FnOk P w K mg base CX0 (k + 1) f fd ["stream"] spNumber := by
  refine F.ok scNumber (fun vs H Q E h => ?_) (fun cdv A outer s H vs Q E hr h => ?_)
  · obtain ⟨st, dl, pl, rfl, _⟩ := h
    rfl
  obtain ⟨st, dl, pl, rfl, S0, q⟩ := h
  refine ⟨_, pss_cons (ps_set (i := 1) scNumber.nd rfl (.inl rfl) (pe_cx cX hr (by rfl) pat0 (pa_cons (pv 0) (pa_cons pe_int pa_nil))))
    (pss_cons (ps_if (pt_cmpR op_eq (pv 1) pe_int (nomark _)) (pss_one (ps_ret (pe_op op_sub pe_int (pe_op op_mul (pe_cx cX hr (by rfl) pat0 (pa_cons (pv 0) (pa_cons pe_int pa_nil))) (pe_ix ix_list (pe_lst (pa_cons pe_int (pa_cons pe_int pa_nil))) (pe_cx cX hr (by rfl) pat0 (pa_cons (pv 0) (pa_cons pe_int pa_nil))) (fun _ _ => rfl)))))) pss_nil)
    (pss_cons (ps_if (pt_cmpR op_eq (pv 1) pe_int (nomark _)) (pss_one (ps_ret (pe_op op_add (pe_op op_mul (pe_cx cX hr (by rfl) pat0 (pa_cons (pv 0) (pa_cons pe_int pa_nil))) pe_int) (pe_cx cX hr (by rfl) pat0 (pa_cons (pv 0) (pa_cons pe_int pa_nil)))))) pss_nil)
    (pss_one (ps_ret (pe_cx cX hr (by rfl) pat0 (pa_cons (pv 0) (pa_cons pe_int pa_nil))))))), ?_⟩
  refine ⟨_, rfl, st, dl, pl, 4, rfl, S0, by decide, fun kd H1 k0 k1 b1 S1 => ?_⟩
  refine ⟨_, rfl, rfl, _, rfl, ite2 (fun c => ?_) (fun c => ?_)⟩
  · refine ⟨_, rfl, st, dl, pl, 60, rfl, S1, by decide, fun a H2 a0 a1 b2 S2 => ?_⟩
    refine ⟨(by show 2 ≤ sizeLine; decide), fun p hp => ?_⟩
    have o := S2.off hp
    have S3 := S2.same (same_new hp (.lst [.int 1, .int 16949]))
    refine ⟨_, rfl, st, dl, pl, 2, rfl, S3, by decide, fun i H4 i0 i1 b4 S4 => ?_⟩
    have hL : H4 p = some (.lst [.int 1, .int 16949]) := b4 _ _ upd_same o.2.2.symm
    have fin : ∀ m : Int, 0 ≤ m → m ≤ 16949 → Q (.int (1000000 - a * m)) H4 := fun m m0 m1 => by
      have h1 : a * m ≤ 59 * 16949 := Int.mul_le_mul (by omega) m1 m0 (by decide)
      have h2 : 0 ≤ a * m := Int.mul_nonneg a0 m0
      exact q _ H4 (by omega) (by omega) (b1.trans (b2.trans ((But.of (same_new hp _)).trans b4))) S4
    have hi : i = 0 ∨ i = 1 := by omega
    rcases hi with rfl | rfl
    · exact ⟨p, _, 0, .int 1, rfl, rfl, .inl (.inl hL), rfl, _, _, rfl, rfl, .inl ⟨by omega, by omega⟩, _, _, rfl, rfl, fin 1 (by decide) (by decide)⟩
    · exact ⟨p, _, 1, .int 16949, rfl, rfl, .inl (.inl hL), rfl, _, _, rfl, rfl, .inl ⟨by omega, by omega⟩, _, _, rfl, rfl, fin 16949 (by decide) (by decide)⟩
  refine ⟨_, rfl, rfl, _, rfl, ite2 (fun c2 => ?_) (fun c2 => ?_)⟩
  · refine ⟨_, rfl, st, dl, pl, 60, rfl, S1, by decide, fun a H2 a0 a1 b2 S2 => ?_⟩
    refine ⟨_, _, rfl, rfl, .inr ⟨by decide, by decide⟩, ?_⟩
    refine ⟨_, rfl, st, dl, pl, 60, rfl, S2, by decide, fun b H3 b0 b1' b3 S3 => ?_⟩
    exact ⟨_, _, rfl, rfl, q _ H3 (by omega) (by omega) (b1.trans (b2.trans b3)) S3⟩
  · refine ⟨_, rfl, st, dl, pl, 10, rfl, S1, by decide, fun a H2 a0 a1 b2 S2 => ?_⟩
    exact q _ H2 (by omega) (by omega) (b1.trans b2) S2
end
end My
namespace My
open PySem PySem.Spec PyProof.Rows L2

/-! ### a text times a number; str of an int or a text -/
def repS (z : Str) (n : Nat) : Str := ⟨(List.replicate n z.cps).foldl (· ++ ·) #[]⟩
theorem fold_rep (c : Array Nat) : ∀ (n : Nat) (a : Array Nat), ((List.replicate n c).foldl (· ++ ·) a).toList = a.toList ++ (List.replicate n c.toList).flatten
  | 0, a => by
    show a.toList = a.toList ++ []
    rw [List.append_nil]
  | n + 1, a => by
    rw [List.replicate_succ, List.foldl_cons, fold_rep c n, List.replicate_succ, List.flatten_cons, Array.toList_append, List.append_assoc]
theorem codes_rep (z : Str) (n : Nat) : codes (repS z n) = (List.replicate n (codes z)).flatten := by
  show ((List.replicate n z.cps).foldl (· ++ ·) #[]).toList = _
  rw [fold_rep]
  rfl
def rRepS : R2 := fun x y H Q => ∃ (z : Str) (k : Int), x = .str z ∧ y = .int k ∧ 0 ≤ k ∧ k ≤ 1000 ∧ z.length ≤ 1000 ∧ Q (.str (repS z k.toNat)) H
theorem op_rep_str {X : Cx} : OpR X (binaryOp .Mult) rRepS := by
  intro pins s σ H x y v u Q I rx ry h
  obtain ⟨z, k, rfl, rfl, h0, h1, hz, q⟩ := h
  obtain ⟨t, rfl⟩ := rx
  obtain ⟨t', rfl⟩ := ry
  have hsz : z.length * k.toNat ≤ 1000000 := Nat.le_trans (Nat.mul_le_mul hz (show k.toNat ≤ 1000 by omega)) (by decide)
  refine PySem.P.mul_str ?_ ?_ ?_ ?_
  · rw [decide_eq_false (by omega), decide_eq_false (by omega)]; rfl
  · intro n1 _ hgt
    have hk : 0 < k := by omega
    have : (z.length : Int) ≤ (2 ^ 63 - 1) / k := by
      rw [Int.le_ediv_iff_mul_le hk]
      have h2 : (z.length : Int) * k ≤ 1000 * 1000 := Int.mul_le_mul (by omega) h1 h0 (by decide)
      omega
    omega
  · intro _ _
    have e : ¬ z.length * k.toNat > sizeLine := by
      rw [sizeLine_eq]
      omega
    exact decide_eq_false e
  · by_cases c1 : k < 1
    · rw [if_pos c1]
      have e : k.toNat = 0 := by omega
      rw [e] at q
      exact ⟨by decide, .str _, H, I.tok _, ⟨_, rfl⟩, q⟩
    · rw [if_neg c1]
      by_cases c2 : (k == 1 || z.length == 0) = true
      · rw [if_pos c2]
        have e : repS z k.toNat = z := by
          refine Str.ext' (Array.toList_inj.mp ?_)
          show codes (repS z k.toNat) = codes z
          rw [codes_rep]
          rw [Bool.or_eq_true, beq_iff_eq, beq_iff_eq] at c2
          rcases c2 with rfl | c2
          · show codes z ++ [] = codes z
            rw [List.append_nil]
          · have : codes z = [] := List.eq_nil_of_length_eq_zero (by rw [len_codes]; exact c2)
            rw [this]
            induction k.toNat with
            | zero => rfl
            | succ n ih => rw [List.replicate_succ, List.flatten_cons, ih]; rfl
        rw [e] at q
        exact ⟨.str _, H, I, ⟨_, rfl⟩, q⟩
      · rw [if_neg c2]
        refine ⟨?_, .str _, H, I.tok _, ⟨_, rfl⟩, q⟩
        show (repS z k.toNat).length ≤ sizeLine
        rw [← len_codes, codes_rep, sizeLine_eq]
        have e : ((List.replicate k.toNat (codes z)).flatten).length = k.toNat * (codes z).length := by
          rw [List.length_flatten, List.map_replicate, List.sum_replicate_nat]
        rw [e, len_codes, Nat.mul_comm]
        omega
/-- str(x): x an int or a text -/
def rStr : List V → Hp → VK → Prop := fun xs H Q => (∃ i, xs = [.int i] ∧ i.natAbs.log2 < 1920 ∧ Q (.str (Str.ofString (toString i))) H) ∨ ∃ a, xs = [.str a] ∧ Q (.str a) H
theorem call_str_any {X : Cx} : CallR X (.type "str") rStr := by
  intro pins s σ H xs us Q I r h
  rcases h with h | h
  · exact call_str_int pins s σ H xs us Q I r h
  · exact SkE.call_str_str pins s σ H xs us Q I r h
theorem codes_empty : codes (Str.ofString "") = [] := by decide +kernel
theorem log_small {i : Int} (h0 : 0 ≤ i) (h1 : i ≤ 1000000) : i.natAbs.log2 < 1920 := by
  have z : i.natAbs < 2 ^ 1920 := Nat.lt_of_le_of_lt (show i.natAbs ≤ 1000000 by omega) (by decide +kernel)
  by_cases e : i.natAbs = 0
  · rw [e]; decide
  · exact (Nat.log2_lt e).mpr z
theorem num_len {n : Nat} (h : n ≤ 1000000) : (TL.numL n).length ≤ 7 := TL.numL_len (by decide) (by omega)
theorem str_num (n : Nat) : codes (Str.ofString (toString (n : Int))) = TL.numL n := TL.tl_num n
theorem str_codes {z : Str} {l : List Nat} (h : codes z = l) : z = ⟨l.toArray⟩ := by
  rw [← h]
end My
namespace My
open PySem PySem.Spec PyProof.Rows L2

/-! ### signs written, and read back -/
def txt : Sg.S → List Nat
  | .word w => w
  | .num n => TL.numL n
  | .sym c => [c]
def WordOk (w : List Nat) : Prop := ∃ ws : List Nat, ws ≠ [] ∧ ws.length ≤ 8 ∧ (∀ c ∈ ws, c ∈ Sg.lets) ∧ (w = ws ∨ ∃ m : Nat, 2 ≤ m ∧ m ≤ 99 ∧ w = ws ++ 46 :: TL.numL m)
def Valid : Sg.S → Prop
  | .word w => WordOk w
  | .num n => n ≤ 1000000
  | .sym c => c ∈ Sg.syms
/-- what may follow a sign's text -/
def Ext : Sg.S → List Nat → Prop
  | .word w, b => if 46 ∈ w then Sg.Stops Sg.digs b else Sg.Stops Sg.lets b ∧ ∀ r, b ≠ 46 :: r
  | .num _, b => Sg.Stops Sg.digs b
  | .sym _, _ => True
def touch : Sg.S → Sg.S → Bool
  | .sym _, _ => true
  | _, .sym _ => true
  | .num _, .word _ => true
  | .num _, .num _ => false
  | .word w, .word _ => decide (46 ∈ w)
  | .word _, .num _ => false
theorem numL_digs (n : Nat) : ∀ c ∈ TL.numL n, c ∈ Sg.digs := fun c hc => by
  have r := TL.numL_digits n c hc
  have h : ∀ k : Nat, k < 10 → 48 + k ∈ Sg.digs := by decide
  have e : c = 48 + (c - 48) := by omega
  rw [e]
  exact h _ (by omega)
theorem numL_head : ∀ n : Nat, 1 ≤ n → (TL.numL n)[0]? ≠ some 48 := fun n => by
  induction n using Nat.strongRecOn with
  | _ n ih =>
    intro hn
    by_cases h : n < 10
    · rw [TL.numL_lt h]
      intro z
      have e : 48 + n = 48 := Option.some.inj z
      omega
    · rw [TL.numL_step (by omega)]
      have hne := List.length_pos_iff.mpr (TL.numL_ne (n / 10))
      rw [List.getElem?_append_left hne]
      exact ih (n / 10) (by omega) (by omega)
theorem num_read {n least most w : Nat} (h1 : least ≤ n) (h2 : n ≤ most) (hw : 0 < w) (h3 : n < 10 ^ w) : Sg.numOf (TL.numL n) least most w = some n := by
  have hl := TL.numL_len hw h3
  have hv : Sg.val (TL.numL n) = n := TL.numL_val n
  unfold Sg.numOf
  rw [if_neg, if_neg, hv, if_neg (by omega)]
  · rintro ⟨a, b⟩
    by_cases hn : 1 ≤ n
    · exact numL_head n hn a
    · have e : n = 0 := by omega
      rw [e, TL.numL_lt (by decide)] at b
      exact absurd b (by decide)
  · rintro (a | a)
    · exact TL.numL_ne n a
    · omega
theorem run_all {cs : List Nat} : ∀ {a : List Nat}, (∀ c ∈ a, c ∈ cs) → Sg.run cs a = a.length
  | [], _ => rfl
  | c :: r, h => by
    rw [Sg.run_pos (h c List.mem_cons_self), run_all fun d hd => h d (List.mem_cons_of_mem _ hd)]
    rfl
theorem run_front {cs a b : List Nat} (h : ∀ c ∈ a, c ∈ cs) (hb : Sg.Stops cs b) : Sg.run cs (a ++ b) = a.length := by
  rw [Sg.run_app (.inl hb), run_all h]
theorem stops_cons {cs : List Nat} {c : Nat} {r : List Nat} (h : c ∉ cs) : Sg.Stops cs (c :: r) := fun d r' e => by
  have z := (List.cons.inj e).1
  rw [← z]
  exact h
theorem stops_nil {cs : List Nat} : Sg.Stops cs [] := fun d r' e => by cases e
theorem syms_apart : ∀ c ∈ Sg.syms, c ∉ Sg.lets ∧ c ∉ Sg.digs ∧ c ≠ 32 ∧ c ≠ 46 := by decide
theorem digs_apart : ∀ c ∈ Sg.digs, c ∉ Sg.lets ∧ c ≠ 32 ∧ c ≠ 46 := by decide
theorem lets_apart : ∀ c ∈ Sg.lets, c ∉ Sg.digs ∧ c ≠ 32 ∧ c ≠ 46 := by decide
theorem cons_of {l : List Nat} (h : l ≠ []) : ∃ c r, l = c :: r := by
  cases l with
  | nil => exact absurd rfl h
  | cons c r => exact ⟨c, r, rfl⟩
theorem word_read {w b : List Nat} (h : WordOk w) (hx : Ext (.word w) b) : Sg.wordAt (w ++ b) = some (.word w, w.length) := by
  obtain ⟨ws, hne, h8, hl, h | ⟨m, m2, m99, h⟩⟩ := h
  · subst h
    have n46 : 46 ∉ w := fun z => (lets_apart _ (hl _ z)).2.2 rfl
    have hx' : Sg.Stops Sg.lets b ∧ ∀ r, b ≠ 46 :: r := by
      have z : if 46 ∈ w then Sg.Stops Sg.digs b else Sg.Stops Sg.lets b ∧ ∀ r, b ≠ 46 :: r := hx
      rw [if_neg n46] at z
      exact z
    have er := run_front hl hx'.1
    unfold Sg.wordAt
    rw [er, if_neg (by omega), if_neg, List.take_left]
    rw [List.getElem?_append_right (Nat.le_refl _), Nat.sub_self]
    intro z
    cases b with
    | nil => cases z
    | cons c r => exact hx'.2 r (by rw [Option.some.inj z])
  · subst h
    have hx' : Sg.Stops Sg.digs b := by
      have z : if 46 ∈ ws ++ 46 :: TL.numL m then Sg.Stops Sg.digs b else Sg.Stops Sg.lets b ∧ ∀ r, b ≠ 46 :: r := hx
      rw [if_pos (List.mem_append_right _ List.mem_cons_self)] at z
      exact z
    have ea : (ws ++ 46 :: TL.numL m) ++ b = ws ++ (46 :: (TL.numL m ++ b)) := by rw [List.append_assoc]; rfl
    have er : Sg.run Sg.lets (ws ++ (46 :: (TL.numL m ++ b))) = ws.length := run_front hl (stops_cons (by decide))
    have ed : (ws ++ (46 :: (TL.numL m ++ b))).drop (ws.length + 1) = TL.numL m ++ b := by
      rw [← List.drop_drop, List.drop_left]
      rfl
    have er2 : Sg.run Sg.digs (TL.numL m ++ b) = (TL.numL m).length := run_front (numL_digs m) hx'
    have en := num_read (n := m) (least := 2) (most := 99) (w := 2) m2 m99 (by decide) (by omega)
    unfold Sg.wordAt
    rw [ea, er, if_neg (by omega), if_pos, ed, er2, List.take_left, en, if_neg (by simp)]
    · have el : ws.length + 1 + (TL.numL m).length = (ws ++ 46 :: TL.numL m).length := by
        rw [List.length_append, List.length_cons]
        omega
      rw [el, ← ea, List.take_left]
    · rw [List.getElem?_append_right (Nat.le_refl _), Nat.sub_self]
      rfl
theorem word_front {w : List Nat} (h : WordOk w) : ∃ c r, w = c :: r ∧ c ∈ Sg.lets := by
  obtain ⟨ws, hne, h8, hl, h⟩ := h
  obtain ⟨c, r, rfl⟩ := cons_of hne
  rcases h with rfl | ⟨m, _, _, rfl⟩
  · exact ⟨c, r, rfl, hl c List.mem_cons_self⟩
  · exact ⟨c, _, rfl, hl c List.mem_cons_self⟩
/-- the front of a sign's text -/
theorem txt_front {s : Sg.S} (h : Valid s) : ∃ c r, txt s = c :: r ∧ c ≠ 32 := by
  cases s with
  | word w =>
    obtain ⟨c, r, e, hc⟩ := word_front h
    exact ⟨c, r, e, (lets_apart c hc).2.1⟩
  | num n =>
    obtain ⟨c, r, e⟩ := cons_of (TL.numL_ne n)
    exact ⟨c, r, e, (digs_apart c (numL_digs n c (by rw [e]; exact List.mem_cons_self))).2.1⟩
  | sym c => exact ⟨c, [], rfl, (syms_apart c h).2.2.1⟩
theorem sign_read {s : Sg.S} {b : List Nat} (h : Valid s) (hx : Ext s b) : Sg.signAt (txt s ++ b) = some (s, (txt s).length) := by
  cases s with
  | word w =>
    obtain ⟨c, r, e, hc⟩ := word_front h
    have hr := word_read h hx
    show Sg.signAt (w ++ b) = some (.word w, w.length)
    rw [← hr, e, List.cons_append, Sg.signAt_cons, if_pos hc]
  | num n =>
    obtain ⟨c, r, e⟩ := cons_of (TL.numL_ne n)
    have hc := numL_digs n c (by rw [e]; exact List.mem_cons_self)
    have er : Sg.run Sg.digs (TL.numL n ++ b) = (TL.numL n).length := run_front (numL_digs n) hx
    have en := num_read (n := n) (least := 0) (most := 1000000) (w := 7) (Nat.zero_le _) h (by decide) (by have : n ≤ 1000000 := h; omega)
    show Sg.signAt (TL.numL n ++ b) = some (.num n, (TL.numL n).length)
    have e2 : TL.numL n ++ b = c :: (r ++ b) := by rw [e]; rfl
    rw [e2, Sg.signAt_cons, if_neg (digs_apart c hc).1, if_pos hc, ← e2, er, List.take_left, en]
    rfl
  | sym c =>
    have a := syms_apart c h
    show Sg.signAt (c :: b) = some (.sym c, 1)
    rw [Sg.signAt_cons, if_neg a.1, if_neg a.2.1, if_pos (show c ∈ Sg.syms from h)]
theorem lex_txt {s : Sg.S} {b : List Nat} (h : Valid s) (hx : Ext s b) : Sg.lex (txt s ++ b) = (Sg.lex b).map (s :: ·) := by
  obtain ⟨c, r, e, hc⟩ := txt_front h
  have hr := sign_read h hx
  have e2 : txt s ++ b = c :: (r ++ b) := by rw [e]; rfl
  rw [e2] at hr ⊢
  rw [Sg.lex_sign hc hr, ← e2, List.drop_left]
theorem ext_sp (s : Sg.S) (b : List Nat) : Ext s (32 :: b) := by
  cases s with
  | word w =>
    show if 46 ∈ w then _ else _
    split
    · exact stops_cons (by decide)
    · exact ⟨stops_cons (by decide), fun r e => by have := (List.cons.inj e).1; omega⟩
  | num n => exact stops_cons (by decide)
  | sym c => trivial
theorem ext_nil (s : Sg.S) : Ext s [] := by
  cases s with
  | word w =>
    show if 46 ∈ w then _ else _
    split
    · exact stops_nil
    · exact ⟨stops_nil, fun r e => by cases e⟩
  | num n => exact stops_nil
  | sym c => trivial
theorem touch_ext {s1 s2 : Sg.S} (h : Valid s2) (t : touch s1 s2 = true) (b : List Nat) : Ext s1 (txt s2 ++ b) := by
  cases s1 with
  | sym c => trivial
  | num n =>
    cases s2 with
    | sym c => exact stops_cons (syms_apart c h).2.1
    | num m => exact absurd t (by intro z; cases z)
    | word w =>
      obtain ⟨c, r, e, hc⟩ := word_front h
      show Sg.Stops Sg.digs (w ++ b)
      rw [e]
      exact stops_cons (lets_apart c hc).1
  | word u =>
    show if 46 ∈ u then _ else _
    cases s2 with
    | sym c =>
      have a := syms_apart c h
      split
      · exact stops_cons a.2.1
      · exact ⟨stops_cons a.1, fun r e => a.2.2.2 (List.cons.inj e).1⟩
    | num m => exact absurd t (by intro z; cases z)
    | word w =>
      have hu : 46 ∈ u := of_decide_eq_true t
      rw [if_pos hu]
      obtain ⟨c, r, e, hc⟩ := word_front h
      show Sg.Stops Sg.digs (w ++ b)
      rw [e]
      exact stops_cons (lets_apart c hc).1
theorem lex_spaces : ∀ (n : Nat) (b : List Nat), Sg.lex ((List.replicate n 32) ++ b) = Sg.lex b
  | 0, b => rfl
  | n + 1, b => by
    rw [List.replicate_succ, List.cons_append, Sg.lex_space, lex_spaces n b]
/-- a text that reads as ss, whatever may follow its last sign -/
def Reads (t : List Nat) (ss : List Sg.S) (last : Option Sg.S) : Prop := ∀ b, (∀ s, last = some s → Ext s b) → Sg.lex (t ++ b) = (Sg.lex b).map (ss ++ ·)
theorem reads_nil : Reads [] [] none := fun b _ => by
  rw [List.nil_append]
  cases Sg.lex b <;> rfl
theorem Reads.more {t : List Nat} {ss : List Sg.S} {last : Option Sg.S} {s : Sg.S} {n : Nat} (h : Reads t ss last) (hv : Valid s) (hn : 1 ≤ n ∨ ∀ l, last = some l → touch l s = true) : Reads (t ++ (List.replicate n 32 ++ txt s)) (ss ++ [s]) (some s) := fun b hb => by
  have e1 := hb s rfl
  have e2 : Sg.lex (List.replicate n 32 ++ (txt s ++ b)) = (Sg.lex b).map (s :: ·) := by rw [lex_spaces, lex_txt hv e1]
  rw [List.append_assoc, List.append_assoc, h, e2]
  · cases Sg.lex b with
    | none => rfl
    | some y =>
      show some (ss ++ s :: y) = some ((ss ++ [s]) ++ y)
      rw [List.append_assoc]
      rfl
  · intro l hl
    cases n with
    | zero =>
      rcases hn with hn | hn
      · omega
      · exact touch_ext hv (hn l hl) b
    | succ n =>
      rw [List.replicate_succ, List.cons_append]
      exact ext_sp l _
theorem Reads.all {t : List Nat} {ss : List Sg.S} {last : Option Sg.S} {n : Nat} (h : Reads t ss last) : Sg.lex (t ++ List.replicate n 32) = some ss := by
  have e : Sg.lex (List.replicate n 32) = some [] := by
    have := lex_spaces n []
    rw [List.append_nil] at this
    rw [this, Sg.lex_nil]
  rw [h, e]
  · show some (ss ++ []) = some ss
    rw [List.append_nil]
  · intro l hl
    cases n with
    | zero => exact ext_nil l
    | succ n =>
      rw [List.replicate_succ]
      exact ext_sp l _
end My
namespace My
open PySem PySem.Spec PyProof.Rows L2

/-! ### _law_piece, _law_touches -/
def spPiece : Sp := fun vs H Q _ => ∃ (st dl pl : Addr), vs = [.ref st] ∧ StreamAt H st dl pl ∧ ∀ (s : Sg.S) (p : Addr) (H' : Hp), Valid s → But pl H H' → StreamAt H' st dl pl → SgAt H' p s → Q (.ref p) H'
theorem scPiece : FnScope ["stream", "kind", "letters", "word", "k"] ["stream"] (defScope d__law_piece) := ⟨rfl, rfl, rfl, by decide +kernel, rfl, by decide +kernel, by decide +kernel⟩
theorem sym_item {j : Nat} (h : j < 10) : ∃ c, (codes zSym)[j]? = some c ∧ c ∈ Sg.syms := by
  rw [zSym_codes]
  have hl : j < Sg.syms.length := h
  exact ⟨Sg.syms[j], List.getElem?_eq_getElem hl, List.getElem_mem hl⟩
theorem let_item {j : Nat} (h : j < 26) : ∃ c, (codes zLet)[j]? = some c ∧ c ∈ Sg.lets := by
  rw [zLet_codes]
  have hl : j < Sg.lets.length := h
  exact ⟨Sg.lets[j], List.getElem?_eq_getElem hl, List.getElem_mem hl⟩
def one (c : Nat) : Str := ⟨#[c]⟩
theorem join_ones : ∀ cs : List Nat, codes (Str.join (Str.ofString "") (cs.map one)) = cs
  | [] => rfl
  | [c] => rfl
  | c :: d :: r => by
    show codes ((one c ++ Str.ofString "") ++ Str.join (Str.ofString "") ((d :: r).map one)) = c :: d :: r
    rw [codes_app, codes_app, codes_empty, join_ones (d :: r)]
    rfl
theorem sum_ones : ∀ cs : List Nat, ((cs.map one).map (·.length)).sum = cs.length
  | [] => rfl
  | c :: r => by
    rw [List.map_cons, List.map_cons, List.sum_cons, sum_ones r, List.length_cons]
    show 1 + r.length = r.length + 1
    omega
theorem dot_codes : codes (Str.ofString ".") = [46] := by decide +kernel
theorem word_len {w : List Nat} (h : WordOk w) : w.length ≤ 11 := by
  obtain ⟨ws, _, h8, _, h⟩ := h
  rcases h with rfl | ⟨m, m2, m99, rfl⟩
  · omega
  · have := TL.numL_len (n := m) (k := 2) (by decide) (by omega)
    rw [List.length_append, List.length_cons]
    omega
def spTouch : Sp := fun vs H Q _ => ∃ (x : V) (p : Addr) (s : Sg.S) (l : Option Sg.S), vs = [x, .ref p] ∧ SgAt H p s ∧ (match l with | none => x = .non | some t => ∃ q, x = .ref q ∧ SgAt H q t) ∧ Q (.bl (match l with | none => true | some t => touch t s)) H
theorem scTouch : FnScope ["last", "piece"] ["last", "piece"] (defScope d__law_touches) := ⟨rfl, rfl, rfl, by decide +kernel, rfl, by decide +kernel, by decide +kernel⟩
/-- the kind's name -/
def kindZ : Sg.S → Str
  | .word _ => Str.ofString "word"
  | .num _ => Str.ofString "number"
  | .sym _ => Str.ofString "symbol"
def valV : Sg.S → V
  | .word w => .str ⟨w.toArray⟩
  | .num n => .int (n : Int)
  | .sym c => .str ⟨#[c]⟩
theorem sgV_is (s : Sg.S) : sgV s = [.str (kindZ s), valV s] := by cases s <;> rfl
section
variable {P : Program} {w : World} {K : PySem.W.Frag} {mg : Str → Option Value} {base : Heap}
theorem ok_piece {f : Addr} {fd : FuncData} {k : Nat} (F : Fun K "_law_piece" "_law_piece" d__law_piece f fd) (D : DrTx mg) (ms : mg "str" = none) (cX : CalX P w K mg base CX0 k "_law_next" ["stream", "many"] spNext) (cN : CalX P w K mg base CX0 k "_law_number" ["stream"] spNumber) :
    FnOk P w K mg base CX0 (k + 1) f fd ["stream"] spPiece := by
  refine F.ok scPiece (fun vs H Q E h => ?_) (fun cdv A outer s H vs Q E hr h => ?_)
  · obtain ⟨st, dl, pl, rfl, _⟩ := h
    rfl
  obtain ⟨st, dl, pl, rfl, S0, q⟩ := h
  refine ⟨_, pss_cons (ps_set (i := 1) scPiece.nd rfl (.inl rfl) (pe_cx cX hr (by rfl) pat0 (pa_cons (pv 0) (pa_cons pe_int pa_nil))))
    (pss_cons (ps_if (pt_cmpR op_eq (pv 1) pe_int (nomark _)) (pss_one (ps_ret (pe_tup (pa_cons pe_str (pa_cons (pe_ix ix_str pe_str (pe_cx cX hr (by rfl) pat0 (pa_cons (pv 0) (pa_cons pe_int pa_nil))) (fun _ _ => rfl)) pa_nil))))) pss_nil)
    (pss_cons (ps_if (pt_cmpR op_eq (pv 1) pe_int (nomark _)) (pss_one (ps_ret (pe_tup (pa_cons pe_str (pa_cons (pe_cx cN hr (by rfl) pat0 (pa_cons (pv 0) pa_nil)) pa_nil))))) pss_nil)
    (pss_cons (ps_set (i := 2) scPiece.nd rfl (.inr rfl) pe_str)
    (pss_cons (ps_set (i := 3) scPiece.nd rfl (.inl rfl) (pe_join pe_str (pe_lc (own := [("k", 4)]) (g := gName 4) (tt := tYes) (te := tOp rIxS (tVar 2) (tCallS spNext (fun _ => E0) (tCons (tVar 0) (tCons (tC (.int 26)) tNil)))) rfl scPiece.nd
        (pi_range1 rfl D.mr (pa_cons (pe_op op_add pe_int (pe_cx cX hr (by rfl) pat0 (pa_cons (pv 0) (pa_cons pe_int pa_nil)))) pa_nil)) (blkOk_by (N := ["stream", "kind", "letters", "word", "k"]) (sc := defScope d__law_piece) (by decide +kernel))
        (fun _ _ _ _ _ => pg_name (i := 4) scPiece.nd rfl (Or.inl rfl)) (fun _ _ _ _ _ => pts_nil)
        (fun _ _ _ _ _ => pe_ix ix_str (pv 2) (pe_cx cX hr (by rfl) pat0 (pa_cons (pv 0) (pa_cons pe_int pa_nil))) (fun _ _ => rfl)))))
    (pss_cons (ps_if (pt_cmpR op_eq (pe_cx cX hr (by rfl) pat0 (pa_cons (pv 0) (pa_cons pe_int pa_nil))) pe_int (nomark _))
      (pss_one (ps_set (i := 3) scPiece.nd rfl (.inl rfl) (pe_op op_add_str (pe_op op_add_str (pv 3) pe_str) (pe_callTy call_str_int (by rfl) ms (by decide +kernel) (pa_cons (pe_op op_add pe_int (pe_op op_mod (pe_op op_add (pe_op op_mul (pe_cx cX hr (by rfl) pat0 (pa_cons (pv 0) (pa_cons pe_int pa_nil))) pe_int) (pe_cx cX hr (by rfl) pat0 (pa_cons (pv 0) (pa_cons pe_int pa_nil)))) pe_int)) pa_nil))))) pss_nil)
    (pss_one (ps_ret (pe_tup (pa_cons pe_str (pa_cons (pv 3) pa_nil)))))))))), ?_⟩
  refine ⟨_, rfl, st, dl, pl, 3, rfl, S0, by decide, fun kd H1 k0 k1 b1 S1 => ?_⟩
  have give : ∀ (s : Sg.S) (H2 : Hp) (xs : List V), Valid s → But pl H1 H2 → StreamAt H2 st dl pl → xs = sgV s → ∀ p, H2 p = none → Q (.ref p) (upd H2 p (.tup xs)) := fun s H2 xs hv b2 S2 e p hp => by
    subst e
    exact q s p _ hv (b1.trans (b2.trans (But.of (same_new hp _)))) (S2.same (same_new hp _)) upd_same
  refine ⟨_, rfl, rfl, _, rfl, ite2 (fun c => ?_) (fun c => ?_)⟩
  · refine ⟨_, rfl, st, dl, pl, 10, rfl, S1, by decide, fun v H2 v0 v1 b2 S2 => ?_⟩
    obtain ⟨j, rfl⟩ : ∃ j : Nat, v = (j : Int) := ⟨v.toNat, by omega⟩
    obtain ⟨a, ha, hm⟩ := sym_item (j := j) (by omega)
    exact ⟨zSym, _, a, rfl, rfl, (by decide +kernel), atI_nat ha, (by show 2 ≤ sizeLine; decide), give (.sym a) H2 _ hm b2 S2 rfl⟩
  refine ⟨_, rfl, rfl, _, rfl, ite2 (fun c2 => ?_) (fun c2 => ?_)⟩
  · refine ⟨_, rfl, st, dl, pl, rfl, S1, fun v H2 v0 v1 b2 S2 => ?_⟩
    obtain ⟨n, rfl⟩ : ∃ n : Nat, v = (n : Int) := ⟨v.toNat, by omega⟩
    exact ⟨(by show 2 ≤ sizeLine; decide), give (.num n) H2 _ (show n ≤ 1000000 by omega) b2 S2 rfl⟩
  -- word = ''.join(..)
  refine ⟨⟨_, rfl⟩, _, rfl, st, dl, pl, 8, rfl, S1, by decide, fun v H2 v0 v1 b2 S2 => ?_⟩
  obtain ⟨n, hn⟩ : ∃ n : Nat, (1 : Int) + v = (n : Int) := ⟨(1 + v).toNat, by omega⟩
  refine ⟨_, _, rfl, rfl, (1 : Int) + v, rfl, by omega, by omega, fun Dl hD => ?_⟩
  rw [hn, Int.toNat_natCast]
  have o := S2.off hD
  refine lc_range (lo := 0) (n := n) (fun i H' => ∃ cs : List Nat, H' Dl = some (.lst ((cs.map one).map V.str)) ∧ cs.length = i ∧ (∀ c ∈ cs, c ∈ Sg.lets) ∧ But pl H1 H' ∧ StreamAt H' st dl pl)
    ⟨[], upd_same, rfl, (fun c hc => by cases hc), b2.trans (But.of (same_new hD _)), S2.put o.1 o.2.1 o.2.2⟩ ?_ ?_
  · rintro i H3 hi ⟨cs, hL, hlen, hc, b3, S3⟩
    refine ⟨rfl, ?_⟩
    refine ⟨_, rfl, _, rfl, st, dl, pl, 26, rfl, S3, by decide, fun v H4 v0 v1 b4 S4 => ?_⟩
    obtain ⟨j, rfl⟩ : ∃ j : Nat, v = (j : Int) := ⟨v.toNat, by omega⟩
    obtain ⟨a, ha, hm⟩ := let_item (j := j) (by omega)
    have hL4 : H4 Dl = some (.lst ((cs.map one).map V.str)) := b4 _ _ hL o.2.2.symm
    refine ⟨zLet, _, a, rfl, rfl, (by decide +kernel), atI_nat ha, _, hL4, ?_, ?_⟩
    · rw [List.length_map, List.length_map, sizeLine_eq]
      omega
    · refine ⟨cs ++ [a], ?_, ?_, ?_, fun b u e nb => ?_, S4.put o.1 o.2.1 o.2.2⟩
      · rw [upd_same, List.map_append, List.map_append]
        rfl
      · rw [List.length_append, List.length_singleton, hlen]
      · intro x hx
        rcases List.mem_append.mp hx with hx | hx
        · exact hc x hx
        · rw [List.mem_singleton.mp hx]
          exact hm
      · have nD : b ≠ Dl := ne_of_none (b2 _ _ e nb) hD
        rw [upd_ne nD]
        exact b4 _ _ (b3 _ _ e nb) nb
  · rintro H3 ⟨cs, hL, hlen, hc, b3, S3⟩
    have hsum := sum_ones cs
    have e0 : (Str.ofString "").length = 0 := by decide +kernel
    refine ⟨_, Dl, cs.map one, rfl, rfl, .inl (.inl (.inl hL)), ?_, ?_⟩
    · rw [e0, hsum]
      omega
    rw [join_eq]
    have ej := join_ones cs
    generalize Str.join (Str.ofString "") (cs.map one) = z at *
    have zl : z.length = cs.length := by rw [← len_codes, ej]
    have hne : cs ≠ [] := fun e => by rw [e] at hlen; simp at hlen; omega
    -- if _law_next(stream, 3) == 0
    refine ⟨_, rfl, st, dl, pl, 3, rfl, S3, by decide, fun t H4 t0 t1 b4 S4 => ?_⟩
    refine ⟨rfl, _, rfl, ite2 (fun c3 => ?_) (fun c3 => ?_)⟩
    · refine ⟨_, rfl, _, _, rfl, rfl, ?_, ?_⟩
      · rw [show (Str.ofString ".").length = 1 by decide +kernel, sizeLine_eq]
        omega
      refine ⟨_, rfl, st, dl, pl, 60, rfl, S4, by decide, fun a H5 a0 a1 b5 S5 => ?_⟩
      refine ⟨_, _, rfl, rfl, .inr ⟨by decide, by decide⟩, ?_⟩
      refine ⟨_, rfl, st, dl, pl, 60, rfl, S5, by decide, fun b H6 b0 b1' b6 S6 => ?_⟩
      have mm := mod_in (i := a * 60 + b) (m := 98) (by decide)
      obtain ⟨m, hm⟩ : ∃ m : Nat, (2 : Int) + (a * 60 + b) % 98 = (m : Int) := ⟨(2 + (a * 60 + b) % 98).toNat, by omega⟩
      refine ⟨_, _, rfl, rfl, _, _, rfl, rfl, (by show (0 : Int) < 98; decide), _, _, rfl, rfl, _, rfl, log_small (i := (2 : Int) + (a * 60 + b) % 98) (by omega) (by omega), _, _, rfl, rfl, ?_, ?_⟩
      · have hl := num_len (n := m) (by omega)
        rw [← str_num, ← hm] at hl
        rw [len_app, show (Str.ofString ".").length = 1 by decide +kernel, sizeLine_eq]
        have e := len_codes (Str.ofString (toString ((2 : Int) + (a * 60 + b) % 98)))
        have e' : (Str.ofString (toString ((2 : Int) + (a * 60 + b) % 98))).length ≤ 7 := by rw [← e]; exact hl
        show z.length + 1 + (Str.ofString (toString ((2 : Int) + (a * 60 + b) % 98))).length ≤ 16777216
        omega
      · refine ⟨_, rfl, (by show 2 ≤ sizeLine; decide), give (.word (cs ++ 46 :: TL.numL m)) H6 _ ⟨cs, hne, by omega, hc, .inr ⟨m, by omega, by omega, rfl⟩⟩ (b3.trans (b4.trans (b5.trans b6))) S6 ?_⟩
        have ez : ((z ++ Str.ofString ".") ++ Str.ofString (toString ((2 : Int) + (a * 60 + b) % 98))) = ⟨(cs ++ 46 :: TL.numL m).toArray⟩ := by
          refine str_codes ?_
          rw [codes_app, codes_app, dot_codes, hm, str_num, ej, List.append_assoc]
          rfl
        show [V.str (Str.ofString "word"), V.str ((z ++ Str.ofString ".") ++ Str.ofString (toString ((2 : Int) + (a * 60 + b) % 98)))] = _
        rw [ez]
        rfl
    · refine ⟨_, rfl, (by show 2 ≤ sizeLine; decide), give (.word cs) H4 _ ⟨cs, hne, by omega, hc, .inl rfl⟩ (b3.trans b4) S4 ?_⟩
      rw [str_codes ej]
      rfl
theorem dot_one : V.str (Str.ofString ".") = V.str ⟨#[46]⟩ := congrArg V.str (by decide +kernel)
theorem ok_touch {f : Addr} {fd : FuncData} {k : Nat} (F : Fun K "_law_touches" "_law_touches" d__law_touches f fd) : FnOk P w K mg base CX0 (k + 1) f fd ["last", "piece"] spTouch := by
  refine F.ok scTouch (fun vs H Q E h => ?_) (fun cdv A outer s H vs Q E hr h => ?_)
  · obtain ⟨x, p, s, l, rfl, _⟩ := h
    rfl
  obtain ⟨x, p, s, l, rfl, hp, hl, q⟩ := h
  refine ⟨_, pss_cons (ps_if (PW.pt (pw_or (pt_cmpR op_isN (pv 0) pe_non (nomark _)) (pw_or (pt_cmpR op_eq (pe_ix ix_tup (pv 0) pe_int (fun _ _ => rfl)) pe_str (nomark _)) (pw_or1 (pt_cmpR op_eq (pe_ix ix_tup (pv 1) pe_int (fun _ _ => rfl)) pe_str (nomark _)))))) (pss_one (ps_ret pe_bl)) pss_nil)
    (pss_cons (ps_if (pt_cmpR op_eq (pe_ix ix_tup (pv 0) pe_int (fun _ _ => rfl)) pe_str (nomark _)) (pss_one (ps_ret (pe_cmpR op_eq (pe_ix ix_tup (pv 1) pe_int (fun _ _ => rfl)) pe_str (nomark _)))) pss_nil)
    (pss_one (ps_ret (pe_and (pe_cmpR op_eq (pe_ix ix_tup (pv 1) pe_int (fun _ _ => rfl)) pe_str (nomark _)) (pe_one (pe_cmpR op_in_sign pe_str (pe_ix ix_tup (pv 0) pe_int (fun _ _ => rfl)) rfl)))))), ?_⟩
  cases l with
  | none =>
    have e : x = .non := hl
    subst e
    exact ⟨_, rfl, rfl, _, rfl, ite_yes rfl (iteT q)⟩
  | some t =>
    obtain ⟨a, rfl, ha⟩ := hl
    refine ⟨_, rfl, rfl, _, rfl, ite_not (by intro z; cases z) ?_⟩
    have q2 : Q (.bl (touch t s)) H := q
    cases t with
    | sym c => exact ⟨_, rfl, a, _, 0, _, rfl, rfl, .inl (.inl ha), atI_nat (j := 0) rfl, rfl, _, rfl, ite_yes rfl (iteT q2)⟩
    | num n =>
      refine ⟨_, rfl, a, _, 0, _, rfl, rfl, .inl (.inl ha), atI_nat (j := 0) rfl, rfl, _, rfl, ite_not k_ns ?_⟩
      cases s with
      | sym c => exact ⟨_, rfl, p, _, 0, _, rfl, rfl, .inl (.inl hp), atI_nat (j := 0) rfl, rfl, _, rfl, ite_yes rfl q2⟩
      | num m =>
        refine ⟨_, rfl, p, _, 0, _, rfl, rfl, .inl (.inl hp), atI_nat (j := 0) rfl, rfl, _, rfl, ite_not k_ns ?_⟩
        refine ⟨_, rfl, a, _, 0, _, rfl, rfl, .inl (.inl ha), atI_nat (j := 0) rfl, rfl, _, rfl, ite_yes rfl ?_⟩
        refine ⟨_, rfl, p, _, 0, _, rfl, rfl, .inl (.inl hp), atI_nat (j := 0) rfl, rfl, ?_⟩
        rw [decide_eq_false k_nw]
        exact q2
      | word u =>
        refine ⟨_, rfl, p, _, 0, _, rfl, rfl, .inl (.inl hp), atI_nat (j := 0) rfl, rfl, _, rfl, ite_not k_ws ?_⟩
        refine ⟨_, rfl, a, _, 0, _, rfl, rfl, .inl (.inl ha), atI_nat (j := 0) rfl, rfl, _, rfl, ite_yes rfl ?_⟩
        refine ⟨_, rfl, p, _, 0, _, rfl, rfl, .inl (.inl hp), atI_nat (j := 0) rfl, rfl, ?_⟩
        rw [decide_eq_true rfl]
        exact q2
    | word u =>
      refine ⟨_, rfl, a, _, 0, _, rfl, rfl, .inl (.inl ha), atI_nat (j := 0) rfl, rfl, _, rfl, ite_not k_ws ?_⟩
      cases s with
      | sym c => exact ⟨_, rfl, p, _, 0, _, rfl, rfl, .inl (.inl hp), atI_nat (j := 0) rfl, rfl, _, rfl, ite_yes rfl q2⟩
      | num m =>
        refine ⟨_, rfl, p, _, 0, _, rfl, rfl, .inl (.inl hp), atI_nat (j := 0) rfl, rfl, _, rfl, ite_not k_ns ?_⟩
        refine ⟨_, rfl, a, _, 0, _, rfl, rfl, .inl (.inl ha), atI_nat (j := 0) rfl, rfl, _, rfl, ite_not k_wn ?_⟩
        refine ⟨_, rfl, p, _, 0, _, rfl, rfl, .inl (.inl hp), atI_nat (j := 0) rfl, rfl, _, rfl, ite_not k_nw q2⟩
      | word v =>
        refine ⟨_, rfl, p, _, 0, _, rfl, rfl, .inl (.inl hp), atI_nat (j := 0) rfl, rfl, _, rfl, ite_not k_ws ?_⟩
        refine ⟨_, rfl, a, _, 0, _, rfl, rfl, .inl (.inl ha), atI_nat (j := 0) rfl, rfl, _, rfl, ite_not k_wn ?_⟩
        refine ⟨_, rfl, p, _, 0, _, rfl, rfl, .inl (.inl hp), atI_nat (j := 0) rfl, rfl, _, rfl, ite_yes rfl ?_⟩
        exact ⟨_, rfl, a, _, 1, _, rfl, rfl, .inl (.inl ha), atI_nat (j := 1) rfl, 46, _, dot_one, rfl, q2⟩
end
end My
namespace My
open PySem PySem.Spec PyProof.Rows L2

/-! ### law -/
def sgD : Sg.S → PyData
  | .word w => .tuple [.str (Str.ofString "word"), .str ⟨w.toArray⟩]
  | .num n => .tuple [.str (Str.ofString "number"), .int (n : Int)]
  | .sym c => .tuple [.str (Str.ofString "symbol"), .str ⟨#[c]⟩]
theorem sgD_fits (s : Sg.S) : Fits 2 (sgD s) := by
  cases s <;> exact ⟨by show 2 ≤ 1000; decide, fun e he => by
    rcases List.mem_cons.mp he with rfl | he
    · trivial
    · rw [List.mem_singleton.mp he]; trivial⟩
theorem sg_data {K : PySem.W.Frag} {H : Hp} {a : Addr} {s : Sg.S} (h : SgAt H a s) : Dp K H (.ref a) (sgD s) := by
  cases s with
  | word w => exact .tup (.inl (.inl h)) (.cons (.str _) (.cons (.str _) .nil))
  | num n => exact .tup (.inl (.inl h)) (.cons (.str _) (.cons (.int _) .nil))
  | sym c => exact .tup (.inl (.inl h)) (.cons (.str _) (.cons (.str _) .nil))
theorem sg_all {K : PySem.W.Frag} {H : Hp} : ∀ {as : List Addr} {ss : List Sg.S}, SgAll H as ss → DpAll K H (as.map V.ref) (ss.map sgD)
  | _, _, .nil => .nil
  | _, _, .cons q r => .cons (sg_data q) (sg_all r)
theorem StreamAt.sg {H H' : Hp} {st dl pl a : Addr} {s : Sg.S} (S : StreamAt H st dl pl) (h : SgAt H a s) (b : But pl H H') : SgAt H' a s := by
  obtain ⟨i, hi⟩ := S.pos
  exact b _ _ h (ne_of h hi (by intro z; cases z))
theorem StreamAt.sgs {H H' : Hp} {st dl pl : Addr} {as : List Addr} {ss : List Sg.S} (S : StreamAt H st dl pl) (h : SgAll H as ss) (b : But pl H H') : SgAll H' as ss := Paired.mapP h fun _ _ q => S.sg q b
def LastOk (H : Hp) (v : V) (l : Option Sg.S) : Prop := match l with | none => v = .non | some t => ∃ q, v = .ref q ∧ SgAt H q t
theorem LastOk.but {H H' : Hp} {v : V} {l : Option Sg.S} {st dl pl : Addr} (S : StreamAt H st dl pl) (h : LastOk H v l) (b : But pl H H') : LastOk H' v l := by
  cases l with
  | none => exact h
  | some t =>
    obtain ⟨q, e, hq⟩ := h
    exact ⟨q, e, S.sg hq b⟩
theorem str_val {H : Hp} {s : Sg.S} {Q : VK} (hv : Valid s) (q : ∀ y : Str, codes y = txt s → y.length ≤ 11 → Q (.str y) H) : rStr [valV s] H Q := by
  cases s with
  | word w => exact .inr ⟨_, rfl, q _ rfl (word_len hv)⟩
  | num n => exact .inl ⟨_, rfl, log_small (by omega) (by have : n ≤ 1000000 := hv; omega), q _ (str_num n) (by rw [← len_codes, str_num]; exact Nat.le_trans (num_len hv) (by decide))⟩
  | sym c => exact .inr ⟨_, rfl, q _ rfl (by show 1 ≤ 11; decide)⟩
theorem sp_rep (n : Nat) : codes (repS (Str.ofString " ") n) = List.replicate n 32 := by
  rw [codes_rep, codes_sp]
  induction n with
  | zero => rfl
  | succ n ih => rw [List.replicate_succ, List.flatten_cons, ih, List.replicate_succ]; rfl
def rCatS' : R2 := fun x y H Q => ∃ i j, x = .str i ∧ y = .str j ∧ i.length + j.length ≤ sizeLine ∧ Q (.str (i ++ j)) H
def spLaw (K : PySem.W.Frag) : Sp := fun vs H Q _ => ∃ (a : Addr) (ns : List Int), vs = [.ref a] ∧ SqL K H a (ns.map V.int) ∧ ∀ H', Q (.bl true) H'
theorem scLaw : FnScope ["script", "stream", "text", "expected", "last", "k", "piece", "blank"] ["script"] (defScope d_law) := ⟨rfl, rfl, rfl, by decide +kernel, rfl, by decide +kernel, by decide +kernel⟩
theorem patL {X : Cx} : ∀ σ : L2.St, PassesAt (L2.CX X.prog X.w) X σ ((fun _ => E0) σ) := fun σ pins H s e s' I c => passL pins σ H s e s' I c
section
variable {P : Program} {w : World} {K : PySem.W.Frag} {mg : Str → Option Value} {base : Heap} {CB : Addr}
theorem ok_law {f : Addr} {fd : FuncData} {k : Nat} (F : Fun K "law" "law" d_law f fd) (D : DrTx mg) (ms : mg "str" = none) (cS : CalX P w K mg base CX0 k "_law_stream" ["script", "first", "count"] (spStream K)) (cX : CalX P w K mg base CX0 k "_law_next" ["stream", "many"] spNext)
    (cP : CalX P w K mg base CX0 k "_law_piece" ["stream"] spPiece) (cT : CalX P w K mg base CX0 k "_law_touches" ["last", "piece"] spTouch) (cG : CalX P w K mg base (L2.CX P w) k "signs_of" ["line"] (spSigns CB)) (cE : CalX P w K mg base CX0 k "_law_same" ["actual", "expected"] (spSame K 3)) : FnOk P w K mg base CX0 (k + 1) f fd ["script"] (spLaw K) := by
  refine F.ok scLaw (fun vs H Q E h => ?_) (fun cdv A outer s H vs Q E hr h => ?_)
  · obtain ⟨a, ns, rfl, _⟩ := h
    rfl
  obtain ⟨a, ns, rfl, hA, q⟩ := h
  refine ⟨_, pss_cons (ps_set (i := 1) scLaw.nd rfl (.inl rfl) (pe_cx cS hr (by rfl) pat0 (pa_cons (pv 0) (pa_cons pe_int (pa_cons pe_int pa_nil)))))
    (pss_cons (ps_set (i := 2) scLaw.nd rfl (.inl rfl) pe_str)
    (pss_cons (ps_set (i := 3) scLaw.nd rfl (.inl rfl) (pe_lst pa_nil))
    (pss_cons (ps_set (i := 4) scLaw.nd rfl (.inl rfl) pe_non)
    (pss_cons (ps_for PassesOwn.never rfl (pi_range1 rfl D.mr (pa_cons (pe_cx cX hr (by rfl) pat0 (pa_cons (pv 1) (pa_cons pe_int pa_nil))) pa_nil)) (pg_name (i := 5) scLaw.nd rfl (.inl rfl))
      (pss_cons (ps_set (i := 6) scLaw.nd rfl (.inl rfl) (pe_cx cP hr (by rfl) pat0 (pa_cons (pv 1) pa_nil)))
      (pss_cons (ps_set (i := 7) scLaw.nd rfl (.inl rfl) (pe_op op_rep_str pe_str (pe_op op_add pe_int (pe_cx cX hr (by rfl) pat0 (pa_cons (pv 1) (pa_cons pe_int pa_nil))))))
      (pss_cons (ps_if (PW.pt (pw_and (pt_cmpR op_eq (pe_cx cX hr (by rfl) pat0 (pa_cons (pv 1) (pa_cons pe_int pa_nil))) pe_int (nomark _)) (pw_and1 (pt_val (pe_cx cT hr (by rfl) pat0 (pa_cons (pv 4) (pa_cons (pv 6) pa_nil)))))))
        (pss_one (ps_set (i := 7) scLaw.nd rfl (.inl rfl) pe_str)) pss_nil)
      (pss_cons (ps_set (i := 2) scLaw.nd rfl (.inl rfl) (pe_op op_add_str (pe_op op_add_str (pv 2) (pv 7)) (pe_callTy call_str_any (by rfl) ms (by decide +kernel) (pa_cons (pe_ix ix_tup (pv 6) pe_int (fun _ _ => rfl)) pa_nil))))
      (pss_cons (ps_expr (pe_bm PySem.F.plainAttrs_list PySem.F.slot_list_append PySem.F.type_list_append mt_append (pv 3) (pa_cons (pv 6) pa_nil)))
      (pss_one (ps_set (i := 4) scLaw.nd rfl (.inl rfl) (pv 6)))))))))
    (pss_one (ps_ret (pe_cx cE hr (by rfl) pat0 (pa_cons (pe_cx cG hr (by rfl) patL (pa_cons (pe_op op_add_str (pv 2) (pe_op op_rep_str pe_str (pe_cx cX hr (by rfl) pat0 (pa_cons (pv 1) (pa_cons pe_int pa_nil))))) pa_nil)) (pa_cons (pv 3) pa_nil))))))))), ?_⟩
  -- stream
  refine ⟨_, rfl, a, ns, 0, 40, rfl, hA, by omega, by omega, fun H1 st dl pl s1 hp S1 => ?_⟩
  refine ⟨Nat.zero_le _, fun el hel => ?_⟩
  have o := S1.off hel
  have S2 := S1.same (same_new hel (.lst []))
  refine ⟨_, rfl, st, dl, pl, 31, rfl, S2, by decide, fun v H3 v0 v1 b3 S3 => ?_⟩
  obtain ⟨n, rfl⟩ : ∃ n : Nat, v = (n : Int) := ⟨v.toNat, by omega⟩
  have npe : el ≠ pl := o.2.2.symm
  have e1 : (Str.ofString " ").length = 1 := by decide +kernel
  refine ⟨(n : Int), rfl, by omega, by omega, ?_⟩
  rw [Int.toNat_natCast]
  refine for_range (lo := 0) (n := n) (fun i σ H' => ∃ (t : Str) (ss : List Sg.S) (l : Option Sg.S) (lv : V) (kv pv bv : Option V) (as : List Addr), σ = [some (.ref a), some (.ref st), some (.str t), some (.ref el), some lv, kv, pv, bv] ∧
      t.length ≤ 14 * i ∧ ss.length = i ∧ Reads (codes t) ss l ∧ H' el = some (.lst (as.map V.ref)) ∧ SgAll H' as ss ∧ StreamAt H' st dl pl ∧ LastOk H' lv l)
    ⟨_, [], none, _, none, none, none, [], rfl, by decide +kernel, rfl, ?_, b3 _ _ upd_same npe, .nil, S3, rfl⟩ ?_ ?_
  · rw [codes_empty]
    exact reads_nil
  · rintro i σ H4 hi ⟨t, ss, l, lv, kv, pv', bv, as, rfl, ht, hss, hR, hL, hAll, S4, hLast⟩
    -- piece
    refine ⟨_, rfl, st, dl, pl, rfl, S4, fun sg p H5 hv b5 S5 hp5 => ?_⟩
    have hL5 := b5 _ _ hL npe
    have hAll5 := S4.sgs hAll b5
    have hLast5 := LastOk.but S4 hLast b5
    -- blank
    refine ⟨_, rfl, st, dl, pl, 3, rfl, S5, by decide, fun m H6 m0 m1 b6 S6 => ?_⟩
    have hL6 := b6 _ _ hL5 npe
    have hAll6 := S5.sgs hAll5 b6
    have hLast6 := LastOk.but S5 hLast5 b6
    have hp6 := S5.sg hp5 b6
    refine ⟨_, _, rfl, rfl, _, (1 : Int) + m, rfl, rfl, by omega, by omega, (by rw [e1]; decide), ?_⟩
    have go : ∀ (H7 : Hp) (bl : Str) (j : Nat), codes bl = List.replicate j 32 → j ≤ 3 → (1 ≤ j ∨ ∀ l', l = some l' → touch l' sg = true) → H7 el = some (.lst (as.map V.ref)) → SgAll H7 as ss → StreamAt H7 st dl pl → SgAt H7 p sg →
        tSeq (tAsg (tOp rCatS' (tOp rCatS' (tVar 2) (tVar 7)) (tCB rStr (tCons (tOp (rIxT K) (tVar 6) (tC (.int 1))) tNil))) (gName 2))
          (tSeq (tDrop (tBM K "list" rAppend (tVar 3) (tCons (tVar 6) tNil))) (tAsg (tVar 6) (gName 4)))
          { nx := fun σ' H' => ∃ (t : Str) (ss : List Sg.S) (l : Option Sg.S) (lv : V) (kv pv bv : Option V) (as : List Addr), σ' = [some (.ref a), some (.ref st), some (.str t), some (.ref el), some lv, kv, pv, bv] ∧
              t.length ≤ 14 * (i + 1) ∧ ss.length = i + 1 ∧ Reads (codes t) ss l ∧ H' el = some (.lst (as.map V.ref)) ∧ SgAll H' as ss ∧ StreamAt H' st dl pl ∧ LastOk H' lv l, rt := Q }
          [some (.ref a), some (.ref st), some (.str t), some (.ref el), some lv, some (.int (0 + (i : Int))), some (.ref p), some (.str bl)] H7 := fun H7 bl j hbl hj ho hL7 hAll7 S7 hp7 => by
      have bll : bl.length = j := by rw [← len_codes, hbl, List.length_replicate]
      refine ⟨_, rfl, _, rfl, _, _, rfl, rfl, ?_, ?_⟩
      · rw [sizeLine_eq]; omega
      have hp7' : H7 p = some (.tup [.str (kindZ sg), valV sg]) := by
        rw [← sgV_is]
        exact hp7
      refine ⟨_, rfl, p, _, 1, _, rfl, rfl, .inl (.inl hp7'), atI_nat (j := 1) rfl, ?_⟩
      dsimp only [tNil]
      refine str_val hv fun y hy hyl => ?_
      refine ⟨_, _, rfl, rfl, ?_, ?_⟩
      · rw [len_app, sizeLine_eq]; omega
      refine ⟨_, rfl, .inl ⟨rfl, _, .inl (.inl hL7)⟩, _, rfl, el, _, _, rfl, rfl, hL7, ?_, ?_⟩
      · rw [List.length_map, Paired.length hAll7, sizeLine_eq]; omega
      refine ⟨_, rfl, (t ++ bl) ++ y, ss ++ [sg], some sg, _, _, _, _, as ++ [p], rfl, ?_, ?_, ?_, ?_, ?_, ?_, ?_⟩
      · rw [len_app, len_app]; omega
      · rw [List.length_append, List.length_singleton, hss]
      · rw [codes_app, codes_app, hbl, hy, List.append_assoc]
        exact hR.more hv ho
      · rw [upd_same, List.map_append]; rfl
      · exact SgAll.put (Paired.snoc hAll7 hp7) hL7
      · exact S7.put o.1 o.2.1 o.2.2
      · refine ⟨p, rfl, ?_⟩
        show upd H7 el _ p = some (.tup (sgV sg))
        rw [upd_ne (ne_of (show H7 p = some (.tup (sgV sg)) from hp7) hL7 (by intro z; cases z))]
        exact hp7
    -- the touching
    refine ⟨_, rfl, st, dl, pl, 2, rfl, S6, by decide, fun u H7 u0 u1 b7 S7 => ?_⟩
    have hL7 := b7 _ _ hL6 npe
    have hAll7 := S6.sgs hAll6 b7
    have hLast7 := LastOk.but S6 hLast6 b7
    have hp7 := S6.sg hp6 b7
    obtain ⟨j, hj⟩ : ∃ j : Nat, ((1 : Int) + m).toNat = j := ⟨_, rfl⟩
    have wide := go H7 (repS (Str.ofString " ") j) j (sp_rep j) (by omega) (.inl (by omega)) hL7 hAll7 S7 hp7
    rw [hj]
    refine ⟨rfl, _, rfl, ite2 (fun c => ?_) (fun c => iteF wide)⟩
    refine ⟨_, rfl, _, rfl, lv, p, sg, l, rfl, hp7, hLast7, _, rfl, ite2 (fun c2 => ?_) (fun c2 => wide)⟩
    refine go H7 (Str.ofString "") 0 codes_empty (by omega) (.inr fun l' hl' => ?_) hL7 hAll7 S7 hp7
    subst hl'
    exact c2
  · rintro σ H4 ⟨t, ss, l, lv, kv, pv', bv, as, rfl, ht, hss, hR, hL, hAll, S4, hLast⟩
    refine ⟨_, rfl, _, rfl, st, dl, pl, 3, rfl, S4, by decide, fun m H5 m0 m1 b5 S5 => ?_⟩
    have hL5 := b5 _ _ hL npe
    have hAll5 := S4.sgs hAll b5
    obtain ⟨j, hj⟩ : ∃ j : Nat, m.toNat = j := ⟨_, rfl⟩
    refine ⟨_, m, rfl, rfl, m0, by omega, (by rw [e1]; decide), ?_⟩
    rw [hj]
    have bll : (repS (Str.ofString " ") j).length = j := by rw [← len_codes, sp_rep, List.length_replicate]
    refine ⟨_, _, rfl, rfl, ?_, ?_⟩
    · rw [bll, sizeLine_eq]; omega
    have ex : Sg.lex (codes (t ++ repS (Str.ofString " ") j)) = some ss := by
      rw [codes_app, sp_rep]
      exact hR.all
    refine ⟨_, rfl, ?_, fun ss' e H6 p6 s6 _ hg => ?_, fun e => ?_⟩
    · rw [len_app, bll, sizeLine_eq]; omega
    · rw [ex] at e
      have e2 := Option.some.inj e
      subst e2
      obtain ⟨bs, hB, hBs⟩ := hg
      have hAll6 := SgAll.same hAll5 s6
      refine ⟨_, rfl, _, _, .list (ss.map sgD), rfl, .lst (.inl (.inl hB)) (sg_all hBs), .lst (.inl (.inl (s6 _ _ hL5))) (sg_all hAll6), ⟨?_, fun e he => ?_⟩, q H6⟩
      · rw [List.length_map]; omega
      · obtain ⟨s', _, rfl⟩ := List.mem_map.mp he
        exact sgD_fits s'
    · rw [ex] at e
      cases e
end
end My
namespace My
open PySem PySem.Spec PyProof.Rows L2
/-! ### what the top has written, and the law -/
theorem exm_self {K : PySem.W.Frag} {S : Addr} (h1 : PySem.W.subIn K (.ref S) (.type "BaseException") = some true) (h2 : PySem.W.isClsIn K S = true) (h3 : PySem.W.typeIn K (.ref S) = some (.type "type")) (h4 : PySem.W.subIn K (.ref S) (.ref S) = some true) :
    PySem.W.exmOne K (.ref S) (.ref S) = some true := by
  have e1 : (PySem.W.subIn K (.ref S) (.type "BaseException") == some true) = true := by rw [h1] <;> rfl
  have e2 : ((PySem.W.clsIn K S).isSome && PySem.W.typeIn K (.ref S) == some (.type "type")) = true := by
    have h2' : (PySem.W.clsIn K S).isSome = true := h2
    rw [h2', h3] <;> rfl
  show (if (PySem.W.subIn K (.ref S) (.type "BaseException") == some true) = true then (if ((PySem.W.clsIn K S).isSome && PySem.W.typeIn K (.ref S) == some (.type "type")) = true then PySem.W.subIn K (.ref S) (.ref S) else none) else none) = some true
  rw [if_pos e1, if_pos e2]
  exact h4
theorem kit_ref {K : PySem.W.Frag} {t : Value} {C : Addr} (h2 : PySem.W.isClsIn K C = true) (h3 : PySem.W.typeIn K (.ref C) = some (.type "type")) (h4 : PySem.W.subIn K t (.ref C) = some true) : PySem.W.kitOne K t (.ref C) = some true := by
  have e2 : ((PySem.W.clsIn K C).isSome && PySem.W.typeIn K (.ref C) == some (.type "type")) = true := by
    have h2' : (PySem.W.clsIn K C).isSome = true := h2
    rw [h2', h3] <;> rfl
  by_cases e : (t == Value.ref C) = true
  · exact if_pos e
  · refine (if_neg e).trans ?_
    show (if ((PySem.W.clsIn K C).isSome && PySem.W.typeIn K (.ref C) == some (.type "type")) = true then PySem.W.subIn K t (.ref C) else none) = some true
    rw [if_pos e2]
    exact h4
theorem kit_bty {K : PySem.W.Frag} {t : Value} {T : String} (h2 : PySem.W.kitMeta T = true) (h4 : PySem.W.subIn K t (.type T) = some true) : PySem.W.kitOne K t (.type T) = some true := by
  by_cases e : (t == Value.type T) = true
  · exact if_pos e
  · refine (if_neg e).trans ?_
    show (if PySem.W.kitMeta T = true then PySem.W.subIn K t (.type T) else none) = some true
    rw [if_pos h2]
    exact h4
theorem all_mk {P : Program} {w : World} {K : PySem.W.Frag} {h : Heap} {mg : Str → Option Value} {fa : Addr}
    {f__end_of_run : Addr} {od__end_of_run an__end_of_run : Option Addr} {sl__end_of_run : Array (Option Value)} {oc__end_of_run kV__end_of_run dc__end_of_run pm__end_of_run cd__end_of_run ct__end_of_run : Value}
    {f__number_of : Addr} {od__number_of an__number_of : Option Addr} {sl__number_of : Array (Option Value)} {oc__number_of kV__number_of dc__number_of pm__number_of cd__number_of ct__number_of : Value}
    {f__word_from : Addr} {od__word_from an__word_from : Option Addr} {sl__word_from : Array (Option Value)} {oc__word_from kV__word_from dc__word_from pm__word_from cd__word_from ct__word_from : Value}
    {f__sign_from : Addr} {od__sign_from an__sign_from : Option Addr} {sl__sign_from : Array (Option Value)} {oc__sign_from kV__sign_from dc__sign_from pm__sign_from cd__sign_from ct__sign_from : Value}
    {f_signs_of : Addr} {od_signs_of an_signs_of : Option Addr} {sl_signs_of : Array (Option Value)} {oc_signs_of kV_signs_of dc_signs_of pm_signs_of cd_signs_of ct_signs_of : Value}
    {f__law_cell : Addr} {od__law_cell an__law_cell : Option Addr} {sl__law_cell : Array (Option Value)} {oc__law_cell kV__law_cell dc__law_cell pm__law_cell cd__law_cell ct__law_cell : Value}
    {f__law_draws : Addr} {od__law_draws an__law_draws : Option Addr} {sl__law_draws : Array (Option Value)} {oc__law_draws kV__law_draws dc__law_draws pm__law_draws cd__law_draws ct__law_draws : Value}
    {f__law_stream : Addr} {od__law_stream an__law_stream : Option Addr} {sl__law_stream : Array (Option Value)} {oc__law_stream kV__law_stream dc__law_stream pm__law_stream cd__law_stream ct__law_stream : Value}
    {f__law_next : Addr} {od__law_next an__law_next : Option Addr} {sl__law_next : Array (Option Value)} {oc__law_next kV__law_next dc__law_next pm__law_next cd__law_next ct__law_next : Value}
    {f__law_is_integer : Addr} {od__law_is_integer an__law_is_integer : Option Addr} {sl__law_is_integer : Array (Option Value)} {oc__law_is_integer kV__law_is_integer dc__law_is_integer pm__law_is_integer cd__law_is_integer ct__law_is_integer : Value}
    {f__law_same : Addr} {od__law_same an__law_same : Option Addr} {sl__law_same : Array (Option Value)} {oc__law_same kV__law_same dc__law_same pm__law_same cd__law_same ct__law_same : Value}
    {f__law_number : Addr} {od__law_number an__law_number : Option Addr} {sl__law_number : Array (Option Value)} {oc__law_number kV__law_number dc__law_number pm__law_number cd__law_number ct__law_number : Value}
    {f__law_piece : Addr} {od__law_piece an__law_piece : Option Addr} {sl__law_piece : Array (Option Value)} {oc__law_piece kV__law_piece dc__law_piece pm__law_piece cd__law_piece ct__law_piece : Value}
    {f__law_touches : Addr} {od__law_touches an__law_touches : Option Addr} {sl__law_touches : Array (Option Value)} {oc__law_touches kV__law_touches dc__law_touches pm__law_touches cd__law_touches ct__law_touches : Value}
    {f_law : Addr} {od_law an_law : Option Addr} {sl_law : Array (Option Value)} {oc_law kV_law dc_law pm_law cd_law ct_law : Value}
    {t_LETTERS : Tok}
    {t_DIGITS : Tok}
    {t_SYMBOLS : Tok}
    {t_MOST_LETTERS : Tok}
    {t_LEAST_COPY : Tok}
    {t_MOST_COPY : Tok}
    {t_MOST_NUMBER : Tok}
    {C_BadLine : Addr}
    (X : K.In h) (G : h.Ns mainGlobals mg) (hfa : mg "law" = some (.ref fa))
    (a__end_of_run : PySem.W.nsIn K mainGlobals "_end_of_run" = some (some (.ref f__end_of_run))) (l__end_of_run : K.lookup f__end_of_run = some ⟨oc__end_of_run, od__end_of_run, .func (PySem.W.fnOf "_end_of_run" "_end_of_run" (defArgs d__end_of_run) (defBody d__end_of_run) (defScope d__end_of_run) .none kV__end_of_run dc__end_of_run pm__end_of_run an__end_of_run cd__end_of_run ct__end_of_run), sl__end_of_run⟩) (c__end_of_run : PySem.W.codeIn K cd__end_of_run "_end_of_run" = true) (k__end_of_run : PySem.W.keepIn K (.ref f__end_of_run) = true)
    (a__number_of : PySem.W.nsIn K mainGlobals "_number_of" = some (some (.ref f__number_of))) (l__number_of : K.lookup f__number_of = some ⟨oc__number_of, od__number_of, .func (PySem.W.fnOf "_number_of" "_number_of" (defArgs d__number_of) (defBody d__number_of) (defScope d__number_of) .none kV__number_of dc__number_of pm__number_of an__number_of cd__number_of ct__number_of), sl__number_of⟩) (c__number_of : PySem.W.codeIn K cd__number_of "_number_of" = true) (k__number_of : PySem.W.keepIn K (.ref f__number_of) = true)
    (a__word_from : PySem.W.nsIn K mainGlobals "_word_from" = some (some (.ref f__word_from))) (l__word_from : K.lookup f__word_from = some ⟨oc__word_from, od__word_from, .func (PySem.W.fnOf "_word_from" "_word_from" (defArgs d__word_from) (defBody d__word_from) (defScope d__word_from) .none kV__word_from dc__word_from pm__word_from an__word_from cd__word_from ct__word_from), sl__word_from⟩) (c__word_from : PySem.W.codeIn K cd__word_from "_word_from" = true) (k__word_from : PySem.W.keepIn K (.ref f__word_from) = true)
    (a__sign_from : PySem.W.nsIn K mainGlobals "_sign_from" = some (some (.ref f__sign_from))) (l__sign_from : K.lookup f__sign_from = some ⟨oc__sign_from, od__sign_from, .func (PySem.W.fnOf "_sign_from" "_sign_from" (defArgs d__sign_from) (defBody d__sign_from) (defScope d__sign_from) .none kV__sign_from dc__sign_from pm__sign_from an__sign_from cd__sign_from ct__sign_from), sl__sign_from⟩) (c__sign_from : PySem.W.codeIn K cd__sign_from "_sign_from" = true) (k__sign_from : PySem.W.keepIn K (.ref f__sign_from) = true)
    (a_signs_of : PySem.W.nsIn K mainGlobals "signs_of" = some (some (.ref f_signs_of))) (l_signs_of : K.lookup f_signs_of = some ⟨oc_signs_of, od_signs_of, .func (PySem.W.fnOf "signs_of" "signs_of" (defArgs d_signs_of) (defBody d_signs_of) (defScope d_signs_of) .none kV_signs_of dc_signs_of pm_signs_of an_signs_of cd_signs_of ct_signs_of), sl_signs_of⟩) (c_signs_of : PySem.W.codeIn K cd_signs_of "signs_of" = true) (k_signs_of : PySem.W.keepIn K (.ref f_signs_of) = true)
    (a__law_cell : PySem.W.nsIn K mainGlobals "_law_cell" = some (some (.ref f__law_cell))) (l__law_cell : K.lookup f__law_cell = some ⟨oc__law_cell, od__law_cell, .func (PySem.W.fnOf "_law_cell" "_law_cell" (defArgs d__law_cell) (defBody d__law_cell) (defScope d__law_cell) .none kV__law_cell dc__law_cell pm__law_cell an__law_cell cd__law_cell ct__law_cell), sl__law_cell⟩) (c__law_cell : PySem.W.codeIn K cd__law_cell "_law_cell" = true) (k__law_cell : PySem.W.keepIn K (.ref f__law_cell) = true)
    (a__law_draws : PySem.W.nsIn K mainGlobals "_law_draws" = some (some (.ref f__law_draws))) (l__law_draws : K.lookup f__law_draws = some ⟨oc__law_draws, od__law_draws, .func (PySem.W.fnOf "_law_draws" "_law_draws" (defArgs d__law_draws) (defBody d__law_draws) (defScope d__law_draws) .none kV__law_draws dc__law_draws pm__law_draws an__law_draws cd__law_draws ct__law_draws), sl__law_draws⟩) (c__law_draws : PySem.W.codeIn K cd__law_draws "_law_draws" = true) (k__law_draws : PySem.W.keepIn K (.ref f__law_draws) = true)
    (a__law_stream : PySem.W.nsIn K mainGlobals "_law_stream" = some (some (.ref f__law_stream))) (l__law_stream : K.lookup f__law_stream = some ⟨oc__law_stream, od__law_stream, .func (PySem.W.fnOf "_law_stream" "_law_stream" (defArgs d__law_stream) (defBody d__law_stream) (defScope d__law_stream) .none kV__law_stream dc__law_stream pm__law_stream an__law_stream cd__law_stream ct__law_stream), sl__law_stream⟩) (c__law_stream : PySem.W.codeIn K cd__law_stream "_law_stream" = true) (k__law_stream : PySem.W.keepIn K (.ref f__law_stream) = true)
    (a__law_next : PySem.W.nsIn K mainGlobals "_law_next" = some (some (.ref f__law_next))) (l__law_next : K.lookup f__law_next = some ⟨oc__law_next, od__law_next, .func (PySem.W.fnOf "_law_next" "_law_next" (defArgs d__law_next) (defBody d__law_next) (defScope d__law_next) .none kV__law_next dc__law_next pm__law_next an__law_next cd__law_next ct__law_next), sl__law_next⟩) (c__law_next : PySem.W.codeIn K cd__law_next "_law_next" = true) (k__law_next : PySem.W.keepIn K (.ref f__law_next) = true)
    (a__law_is_integer : PySem.W.nsIn K mainGlobals "_law_is_integer" = some (some (.ref f__law_is_integer))) (l__law_is_integer : K.lookup f__law_is_integer = some ⟨oc__law_is_integer, od__law_is_integer, .func (PySem.W.fnOf "_law_is_integer" "_law_is_integer" (defArgs d__law_is_integer) (defBody d__law_is_integer) (defScope d__law_is_integer) .none kV__law_is_integer dc__law_is_integer pm__law_is_integer an__law_is_integer cd__law_is_integer ct__law_is_integer), sl__law_is_integer⟩) (c__law_is_integer : PySem.W.codeIn K cd__law_is_integer "_law_is_integer" = true) (k__law_is_integer : PySem.W.keepIn K (.ref f__law_is_integer) = true)
    (a__law_same : PySem.W.nsIn K mainGlobals "_law_same" = some (some (.ref f__law_same))) (l__law_same : K.lookup f__law_same = some ⟨oc__law_same, od__law_same, .func (PySem.W.fnOf "_law_same" "_law_same" (defArgs d__law_same) (defBody d__law_same) (defScope d__law_same) .none kV__law_same dc__law_same pm__law_same an__law_same cd__law_same ct__law_same), sl__law_same⟩) (c__law_same : PySem.W.codeIn K cd__law_same "_law_same" = true) (k__law_same : PySem.W.keepIn K (.ref f__law_same) = true)
    (a__law_number : PySem.W.nsIn K mainGlobals "_law_number" = some (some (.ref f__law_number))) (l__law_number : K.lookup f__law_number = some ⟨oc__law_number, od__law_number, .func (PySem.W.fnOf "_law_number" "_law_number" (defArgs d__law_number) (defBody d__law_number) (defScope d__law_number) .none kV__law_number dc__law_number pm__law_number an__law_number cd__law_number ct__law_number), sl__law_number⟩) (c__law_number : PySem.W.codeIn K cd__law_number "_law_number" = true) (k__law_number : PySem.W.keepIn K (.ref f__law_number) = true)
    (a__law_piece : PySem.W.nsIn K mainGlobals "_law_piece" = some (some (.ref f__law_piece))) (l__law_piece : K.lookup f__law_piece = some ⟨oc__law_piece, od__law_piece, .func (PySem.W.fnOf "_law_piece" "_law_piece" (defArgs d__law_piece) (defBody d__law_piece) (defScope d__law_piece) .none kV__law_piece dc__law_piece pm__law_piece an__law_piece cd__law_piece ct__law_piece), sl__law_piece⟩) (c__law_piece : PySem.W.codeIn K cd__law_piece "_law_piece" = true) (k__law_piece : PySem.W.keepIn K (.ref f__law_piece) = true)
    (a__law_touches : PySem.W.nsIn K mainGlobals "_law_touches" = some (some (.ref f__law_touches))) (l__law_touches : K.lookup f__law_touches = some ⟨oc__law_touches, od__law_touches, .func (PySem.W.fnOf "_law_touches" "_law_touches" (defArgs d__law_touches) (defBody d__law_touches) (defScope d__law_touches) .none kV__law_touches dc__law_touches pm__law_touches an__law_touches cd__law_touches ct__law_touches), sl__law_touches⟩) (c__law_touches : PySem.W.codeIn K cd__law_touches "_law_touches" = true) (k__law_touches : PySem.W.keepIn K (.ref f__law_touches) = true)
    (a_law : PySem.W.nsIn K mainGlobals "law" = some (some (.ref f_law))) (l_law : K.lookup f_law = some ⟨oc_law, od_law, .func (PySem.W.fnOf "law" "law" (defArgs d_law) (defBody d_law) (defScope d_law) .none kV_law dc_law pm_law an_law cd_law ct_law), sl_law⟩) (c_law : PySem.W.codeIn K cd_law "law" = true) (k_law : PySem.W.keepIn K (.ref f_law) = true)
    (g_LETTERS : PySem.W.nsIn K mainGlobals "LETTERS" = some (some (.str (Str.ofString "abcdefghijklmnopqrstuvwxyz") t_LETTERS)))
    (g_DIGITS : PySem.W.nsIn K mainGlobals "DIGITS" = some (some (.str (Str.ofString "0123456789") t_DIGITS)))
    (g_SYMBOLS : PySem.W.nsIn K mainGlobals "SYMBOLS" = some (some (.str (Str.ofString "(){}:=+-*<") t_SYMBOLS)))
    (g_MOST_LETTERS : PySem.W.nsIn K mainGlobals "MOST_LETTERS" = some (some (.int 8 t_MOST_LETTERS)))
    (g_LEAST_COPY : PySem.W.nsIn K mainGlobals "LEAST_COPY" = some (some (.int 2 t_LEAST_COPY)))
    (g_MOST_COPY : PySem.W.nsIn K mainGlobals "MOST_COPY" = some (some (.int 99 t_MOST_COPY)))
    (g_MOST_NUMBER : PySem.W.nsIn K mainGlobals "MOST_NUMBER" = some (some (.int 1000000 t_MOST_NUMBER)))
    (z_len : PySem.W.nsIn K mainGlobals "len" = some none)
    (z_str : PySem.W.nsIn K mainGlobals "str" = some none)
    (z_int : PySem.W.nsIn K mainGlobals "int" = some none)
    (z_abs : PySem.W.nsIn K mainGlobals "abs" = some none)
    (z_range : PySem.W.nsIn K mainGlobals "range" = some none)
    (z_isinstance : PySem.W.nsIn K mainGlobals "isinstance" = some none)
    (z_bool : PySem.W.nsIn K mainGlobals "bool" = some none)
    (z_tuple : PySem.W.nsIn K mainGlobals "tuple" = some none)
    (z_list : PySem.W.nsIn K mainGlobals "list" = some none)
    (aC_BadLine : PySem.W.nsIn K mainGlobals "BadLine" = some (some (.ref C_BadLine))) (xC_BadLine : PySem.W.excIn K C_BadLine [.type "ValueError", .type "Exception", .type "BaseException", .type "object"] "ValueError.__new__" = true) (kC_BadLine : PySem.W.keepIn K (.ref C_BadLine) = true) (bC_BadLine : PySem.W.subIn K (.ref C_BadLine) (.type "BaseException") = some true) (tC_BadLine : PySem.W.typeIn K (.ref C_BadLine) = some (.type "type")) (iC_BadLine : PySem.W.isClsIn K C_BadLine = true) (sC_BadLine : PySem.W.subIn K (.ref C_BadLine) (.ref C_BadLine) = some true) :
    ∃ fd : FuncData, (∀ (s : Shared) (u : Value), BindsTo s fd ⟨[u], []⟩ [("script", u)]) ∧ ∀ base : Heap, K.In base → base.Ns mainGlobals mg → FnOk P w K mg base CX0 7 fa fd ["script"] (spLaw K) := by
  have e := hfa.symm.trans (PySem.W.mg_of X G a_law)
  cases e
  have F__end_of_run := fun_mk (st := d__end_of_run) l__end_of_run c__end_of_run k__end_of_run
  have m__end_of_run := PySem.W.mg_of X G a__end_of_run
  have b__end_of_run := F__end_of_run.binds (ps := ["line", "start", "characters"]) fun _ _ _ _ _ _ us hl => match us, hl with | [_, _, _], _ => rfl
  have F__number_of := fun_mk (st := d__number_of) l__number_of c__number_of k__number_of
  have m__number_of := PySem.W.mg_of X G a__number_of
  have b__number_of := F__number_of.binds (ps := ["digits", "least", "most"]) fun _ _ _ _ _ _ us hl => match us, hl with | [_, _, _], _ => rfl
  have F__word_from := fun_mk (st := d__word_from) l__word_from c__word_from k__word_from
  have m__word_from := PySem.W.mg_of X G a__word_from
  have b__word_from := F__word_from.binds (ps := ["line", "start"]) fun _ _ _ _ _ _ us hl => match us, hl with | [_, _], _ => rfl
  have F__sign_from := fun_mk (st := d__sign_from) l__sign_from c__sign_from k__sign_from
  have m__sign_from := PySem.W.mg_of X G a__sign_from
  have b__sign_from := F__sign_from.binds (ps := ["line", "start"]) fun _ _ _ _ _ _ us hl => match us, hl with | [_, _], _ => rfl
  have F_signs_of := fun_mk (st := d_signs_of) l_signs_of c_signs_of k_signs_of
  have m_signs_of := PySem.W.mg_of X G a_signs_of
  have b_signs_of := F_signs_of.binds (ps := ["line"]) fun _ _ _ _ _ _ us hl => match us, hl with | [_], _ => rfl
  have F__law_cell := fun_mk (st := d__law_cell) l__law_cell c__law_cell k__law_cell
  have m__law_cell := PySem.W.mg_of X G a__law_cell
  have b__law_cell := F__law_cell.binds (ps := ["script", "k"]) fun _ _ _ _ _ _ us hl => match us, hl with | [_, _], _ => rfl
  have F__law_draws := fun_mk (st := d__law_draws) l__law_draws c__law_draws k__law_draws
  have m__law_draws := PySem.W.mg_of X G a__law_draws
  have b__law_draws := F__law_draws.binds (ps := ["cell", "count"]) fun _ _ _ _ _ _ us hl => match us, hl with | [_, _], _ => rfl
  have F__law_stream := fun_mk (st := d__law_stream) l__law_stream c__law_stream k__law_stream
  have m__law_stream := PySem.W.mg_of X G a__law_stream
  have b__law_stream := F__law_stream.binds (ps := ["script", "first", "count"]) fun _ _ _ _ _ _ us hl => match us, hl with | [_, _, _], _ => rfl
  have F__law_next := fun_mk (st := d__law_next) l__law_next c__law_next k__law_next
  have m__law_next := PySem.W.mg_of X G a__law_next
  have b__law_next := F__law_next.binds (ps := ["stream", "many"]) fun _ _ _ _ _ _ us hl => match us, hl with | [_, _], _ => rfl
  have F__law_is_integer := fun_mk (st := d__law_is_integer) l__law_is_integer c__law_is_integer k__law_is_integer
  have m__law_is_integer := PySem.W.mg_of X G a__law_is_integer
  have b__law_is_integer := F__law_is_integer.binds (ps := ["actual"]) fun _ _ _ _ _ _ us hl => match us, hl with | [_], _ => rfl
  have F__law_same := fun_mk (st := d__law_same) l__law_same c__law_same k__law_same
  have m__law_same := PySem.W.mg_of X G a__law_same
  have b__law_same := F__law_same.binds (ps := ["actual", "expected"]) fun _ _ _ _ _ _ us hl => match us, hl with | [_, _], _ => rfl
  have F__law_number := fun_mk (st := d__law_number) l__law_number c__law_number k__law_number
  have m__law_number := PySem.W.mg_of X G a__law_number
  have b__law_number := F__law_number.binds (ps := ["stream"]) fun _ _ _ _ _ _ us hl => match us, hl with | [_], _ => rfl
  have F__law_piece := fun_mk (st := d__law_piece) l__law_piece c__law_piece k__law_piece
  have m__law_piece := PySem.W.mg_of X G a__law_piece
  have b__law_piece := F__law_piece.binds (ps := ["stream"]) fun _ _ _ _ _ _ us hl => match us, hl with | [_], _ => rfl
  have F__law_touches := fun_mk (st := d__law_touches) l__law_touches c__law_touches k__law_touches
  have m__law_touches := PySem.W.mg_of X G a__law_touches
  have b__law_touches := F__law_touches.binds (ps := ["last", "piece"]) fun _ _ _ _ _ _ us hl => match us, hl with | [_, _], _ => rfl
  have F_law := fun_mk (st := d_law) l_law c_law k_law
  have m_law := PySem.W.mg_of X G a_law
  have b_law := F_law.binds (ps := ["script"]) fun _ _ _ _ _ _ us hl => match us, hl with | [_], _ => rfl
  have n_LETTERS := PySem.W.mg_of X G g_LETTERS
  have n_DIGITS := PySem.W.mg_of X G g_DIGITS
  have n_SYMBOLS := PySem.W.mg_of X G g_SYMBOLS
  have n_MOST_LETTERS := PySem.W.mg_of X G g_MOST_LETTERS
  have n_LEAST_COPY := PySem.W.mg_of X G g_LEAST_COPY
  have n_MOST_COPY := PySem.W.mg_of X G g_MOST_COPY
  have n_MOST_NUMBER := PySem.W.mg_of X G g_MOST_NUMBER
  have y_len := PySem.W.mg_none_of X G z_len
  have y_str := PySem.W.mg_none_of X G z_str
  have y_int := PySem.W.mg_none_of X G z_int
  have y_abs := PySem.W.mg_none_of X G z_abs
  have y_range := PySem.W.mg_none_of X G z_range
  have y_isinstance := PySem.W.mg_none_of X G z_isinstance
  have y_bool := PySem.W.mg_none_of X G z_bool
  have y_tuple := PySem.W.mg_none_of X G z_tuple
  have y_list := PySem.W.mg_none_of X G z_list
  have gC_BadLine := PySem.W.mg_of X G aC_BadLine
  have eC_BadLine := exm_self bC_BadLine iC_BadLine tC_BadLine sC_BadLine
  refine ⟨PySem.W.fnOf "law" "law" (defArgs d_law) (defBody d_law) (defScope d_law) .none kV_law dc_law pm_law an_law cd_law ct_law, fun s u => .of_eq rfl, fun base _ _ => ?_⟩
  have T : Tx K mg C_BadLine := ⟨gC_BadLine, xC_BadLine, kC_BadLine, bC_BadLine, tC_BadLine, y_len, y_str, y_int, ⟨_, n_LETTERS, ⟨_, rfl⟩⟩, ⟨_, n_DIGITS, ⟨_, rfl⟩⟩, ⟨_, n_SYMBOLS, ⟨_, rfl⟩⟩, ⟨_, n_MOST_LETTERS, ⟨_, rfl⟩⟩, ⟨_, n_LEAST_COPY, ⟨_, rfl⟩⟩, ⟨_, n_MOST_COPY, ⟨_, rfl⟩⟩, ⟨_, n_MOST_NUMBER, ⟨_, rfl⟩⟩⟩
  have cE : CalX P w K mg base CX0 1 "_end_of_run" ["line", "start", "characters"] spEnd := ⟨_, _, m__end_of_run, k__end_of_run, b__end_of_run, ok_end F__end_of_run y_len⟩
  have cN : CalX P w K mg base (L2.CX P w) 1 "_number_of" ["digits", "least", "most"] (spNum C_BadLine) := ⟨_, _, m__number_of, k__number_of, b__number_of, ok_num F__number_of T⟩
  have cW : CalX P w K mg base (L2.CX P w) 2 "_word_from" ["line", "start"] (spWord C_BadLine) := ⟨_, _, m__word_from, k__word_from, b__word_from, ok_word F__word_from T cE cN⟩
  have cG : CalX P w K mg base (L2.CX P w) 3 "_sign_from" ["line", "start"] (spSign C_BadLine) := ⟨_, _, m__sign_from, k__sign_from, b__sign_from, ok_sign F__sign_from T (cE.mono (by decide)) (cN.mono (by decide)) cW⟩
  have cS : CalX P w K mg base (L2.CX P w) 4 "signs_of" ["line"] (spSigns C_BadLine) := ⟨_, _, m_signs_of, k_signs_of, b_signs_of, ok_signs F_signs_of T cG⟩
  have D : DrTx mg := ⟨y_len, y_int, y_abs, y_range⟩
  have cC : CalX P w K mg base CX0 1 "_law_cell" ["script", "k"] (spCell K) := ⟨_, _, m__law_cell, k__law_cell, b__law_cell, ok_cell F__law_cell D⟩
  have cD : CalX P w K mg base CX0 1 "_law_draws" ["cell", "count"] spDraws := ⟨_, _, m__law_draws, k__law_draws, b__law_draws, ok_draws F__law_draws D⟩
  have cM : CalX P w K mg base CX0 2 "_law_stream" ["script", "first", "count"] (spStream K) := ⟨_, _, m__law_stream, k__law_stream, b__law_stream, ok_stream F__law_stream D cC cD⟩
  have cX : CalX P w K mg base CX0 1 "_law_next" ["stream", "many"] spNext := ⟨_, _, m__law_next, k__law_next, b__law_next, ok_next F__law_next D⟩
  have TS : SameTx mg := ⟨y_isinstance, y_bool, y_int, y_str, y_tuple, y_list, y_len, y_range⟩
  have cI : CalX P w K mg base CX0 1 "_law_is_integer" ["actual"] spIsInt := ⟨_, _, m__law_is_integer, k__law_is_integer, b__law_is_integer, ok_isint F__law_is_integer TS⟩
  have cQ := all_same (P := P) (w := w) (base := base) F__law_same b__law_same m__law_same TS cI 3
  have cU : CalX P w K mg base CX0 2 "_law_number" ["stream"] spNumber := ⟨_, _, m__law_number, k__law_number, b__law_number, ok_number F__law_number cX⟩
  have cP : CalX P w K mg base CX0 3 "_law_piece" ["stream"] spPiece := ⟨_, _, m__law_piece, k__law_piece, b__law_piece, ok_piece F__law_piece D y_str (cX.mono (by decide)) cU⟩
  have cT : CalX P w K mg base CX0 1 "_law_touches" ["last", "piece"] spTouch := ⟨_, _, m__law_touches, k__law_touches, b__law_touches, ok_touch F__law_touches⟩
  exact ok_law (k := 6) F_law D y_str (cM.mono (by decide)) (cX.mono (by decide)) (cP.mono (by decide)) (cT.mono (by decide)) (cS.mono (by decide)) (cQ.mono (by decide))
theorem walk {l : PySem.W.OpenLaw} {q : Program} {loose : List Str} {XP : (Str → Option Value) → Heap → Prop} {YP : World → Heap → Prop} {d : DefRec} {K : Params → PySem.W.Frag} (hn : l.most = some 63) (hdf : d.params.defaults = [])
    (hY : ∀ (w : World) (h : Heap), YP w h → (K w.params).In h)
    (F : ∀ (w : World) (mg : Str → Option Value) (fa : Addr) (h : Heap), (K w.params).In h → h.Ns mainGlobals mg → mg d.name = some (.ref fa) →
      ∃ fd : FuncData, (∀ (s : Shared) (u : Value), BindsTo s fd ⟨[u], []⟩ [("script", u)]) ∧ ∀ base : Heap, (K w.params).In base → base.Ns mainGlobals mg → FnOk l.prog w (K w.params) mg base CX0 7 fa fd ["script"] (spLaw (K w.params))) :
    PySem.W.WalkO q loose XP YP l.row.toRowW d [] (fun f vs => PySem.call f vs) :=
  L2.walk_of (n := 63) (k := 7) (x := "script") (CX := fun _ => CX0) (sp := fun w => spLaw (K w.params)) hn (by decide) hdf ⟨rfl, by decide, by decide⟩ hY F (fun _ _ a ns hl _ hS => ⟨a, ns, rfl, hS, fun _ => rfl⟩) fun _ _ _ _ _ z => z
end My
open PySem PySem.W PyProof.Rows
set_option maxHeartbeats 0 in
theorem PySem.Challenge.cw_restruct_k00_signs_of_a_line_holds : PySem.Challenge.rw_restruct_k00_signs_of_a_line.Holds := by
  w_on; o_law; k_head; (case hw => w_witness2)
  k_fill
  refine My.walk (l := PySem.Challenge.rw_restruct_k00_signs_of_a_line) rfl rfl (fun w h Y => PySem.W.kIn_of Y) ?F
  case F =>
    intro w mg fa h KX G hmg
    refine' My.all_mk KX G hmg ?a__end_of_run ?l__end_of_run ?c__end_of_run ?k__end_of_run ?a__number_of ?l__number_of ?c__number_of ?k__number_of ?a__word_from ?l__word_from ?c__word_from ?k__word_from ?a__sign_from ?l__sign_from ?c__sign_from ?k__sign_from ?a_signs_of ?l_signs_of ?c_signs_of ?k_signs_of ?a__law_cell ?l__law_cell ?c__law_cell ?k__law_cell ?a__law_draws ?l__law_draws ?c__law_draws ?k__law_draws ?a__law_stream ?l__law_stream ?c__law_stream ?k__law_stream ?a__law_next ?l__law_next ?c__law_next ?k__law_next ?a__law_is_integer ?l__law_is_integer ?c__law_is_integer ?k__law_is_integer ?a__law_same ?l__law_same ?c__law_same ?k__law_same ?a__law_number ?l__law_number ?c__law_number ?k__law_number ?a__law_piece ?l__law_piece ?c__law_piece ?k__law_piece ?a__law_touches ?l__law_touches ?c__law_touches ?k__law_touches ?a_law ?l_law ?c_law ?k_law ?g_LETTERS ?g_DIGITS ?g_SYMBOLS ?g_MOST_LETTERS ?g_LEAST_COPY ?g_MOST_COPY ?g_MOST_NUMBER ?z_len ?z_str ?z_int ?z_abs ?z_range ?z_isinstance ?z_bool ?z_tuple ?z_list ?aC_BadLine ?xC_BadLine ?kC_BadLine ?bC_BadLine ?tC_BadLine ?iC_BadLine ?sC_BadLine
    (case a__end_of_run => k_is)
    (case l__end_of_run => k_is)
    (case c__end_of_run => k_is)
    (case k__end_of_run => k_is)
    (case a__number_of => k_is)
    (case l__number_of => k_is)
    (case c__number_of => k_is)
    (case k__number_of => k_is)
    (case a__word_from => k_is)
    (case l__word_from => k_is)
    (case c__word_from => k_is)
    (case k__word_from => k_is)
    (case a__sign_from => k_is)
    (case l__sign_from => k_is)
    (case c__sign_from => k_is)
    (case k__sign_from => k_is)
    (case a_signs_of => k_is)
    (case l_signs_of => k_is)
    (case c_signs_of => k_is)
    (case k_signs_of => k_is)
    (case a__law_cell => k_is)
    (case l__law_cell => k_is)
    (case c__law_cell => k_is)
    (case k__law_cell => k_is)
    (case a__law_draws => k_is)
    (case l__law_draws => k_is)
    (case c__law_draws => k_is)
    (case k__law_draws => k_is)
    (case a__law_stream => k_is)
    (case l__law_stream => k_is)
    (case c__law_stream => k_is)
    (case k__law_stream => k_is)
    (case a__law_next => k_is)
    (case l__law_next => k_is)
    (case c__law_next => k_is)
    (case k__law_next => k_is)
    (case a__law_is_integer => k_is)
    (case l__law_is_integer => k_is)
    (case c__law_is_integer => k_is)
    (case k__law_is_integer => k_is)
    (case a__law_same => k_is)
    (case l__law_same => k_is)
    (case c__law_same => k_is)
    (case k__law_same => k_is)
    (case a__law_number => k_is)
    (case l__law_number => k_is)
    (case c__law_number => k_is)
    (case k__law_number => k_is)
    (case a__law_piece => k_is)
    (case l__law_piece => k_is)
    (case c__law_piece => k_is)
    (case k__law_piece => k_is)
    (case a__law_touches => k_is)
    (case l__law_touches => k_is)
    (case c__law_touches => k_is)
    (case k__law_touches => k_is)
    (case a_law => k_is)
    (case l_law => k_is)
    (case c_law => k_is)
    (case k_law => k_is)
    (case g_LETTERS => k_is)
    (case g_DIGITS => k_is)
    (case g_SYMBOLS => k_is)
    (case g_MOST_LETTERS => k_is)
    (case g_LEAST_COPY => k_is)
    (case g_MOST_COPY => k_is)
    (case g_MOST_NUMBER => k_is)
    (case z_len => k_is)
    (case z_str => k_is)
    (case z_int => k_is)
    (case z_abs => k_is)
    (case z_range => k_is)
    (case z_isinstance => k_is)
    (case z_bool => k_is)
    (case z_tuple => k_is)
    (case z_list => k_is)
    (case aC_BadLine => k_is)
    (case xC_BadLine => k_exc)
    (case kC_BadLine => k_is)
    (case bC_BadLine => k_is)
    (case tC_BadLine => k_is)
    (case iC_BadLine => k_is)
    (case sC_BadLine => first | rfl | k_is)
namespace My
end My
