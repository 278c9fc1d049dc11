import PyProof.Rows.All
import Wide.All
import OpenK.AllK
import Wide.FinOn
import HandS.ForExc
import HandS.Text
import HandS.FStr
import HandS.RaiseMore
import HandS.IsInst
import HandS.ExcIs
import HandS.Comp
import HandS.Codes
import PySem.Challenge.RW_restruct_k01_wrong_lines
set_option Elab.async false
set_option linter.all false
set_option maxRecDepth 100000
set_option maxHeartbeats 4000000
namespace My
open PySem PySem.Spec PyProof.Rows L2
def top (i : Nat) : Stmt := PySem.Challenge.pw_restruct_k01_wrong_lines.main.body.getD i (.Pass ⟨0, 0, 0, 0⟩)
abbrev d_signs_of : Stmt := top 11
abbrev d__sign_from : Stmt := top 12
abbrev d__word_from : Stmt := top 13
abbrev d__end_of_run : Stmt := top 14
abbrev d__number_of : Stmt := top 15
abbrev d__law_cell : Stmt := top 17
abbrev d__law_draws : Stmt := top 18
abbrev d__law_stream : Stmt := top 19
abbrev d__law_next : Stmt := top 20
abbrev d__law_plain : Stmt := top 21
abbrev d__law_is_bad : Stmt := top 22
abbrev d_law : Stmt := top 23
end My

/-! Signs of a line, in plain Lean: what is read at a place, the whole line, and how a line with a space falls apart. -/
namespace Sg
def lets : List Nat := [97, 98, 99, 100, 101, 102, 103, 104, 105, 106, 107, 108, 109, 110, 111, 112, 113, 114, 115, 116, 117, 118, 119, 120, 121, 122]
def digs : List Nat := [48, 49, 50, 51, 52, 53, 54, 55, 56, 57]
def syms : List Nat := [40, 41, 123, 125, 58, 61, 43, 45, 42, 60]
/-- a sign -/
inductive S where
  | word (w : List Nat) | num (n : Nat) | sym (c : Nat)
  deriving DecidableEq
/-- how many codes of one kind stand together at the front -/
def run (cs : List Nat) : List Nat → Nat
  | [] => 0
  | c :: r => if c ∈ cs then run cs r + 1 else 0
def val (ds : List Nat) : Nat := ds.foldl (fun acc c => acc * 10 + (c - 48)) 0
/-- the number that digits stand for: w digits at most -/
def numOf (ds : List Nat) (least most w : Nat) : Option Nat :=
  if ds = [] ∨ w < ds.length then none
  else if ds[0]? = some 48 ∧ 1 < ds.length then none
  else if val ds < least ∨ most < val ds then none
  else some (val ds)
/-- the word at the front, and how many codes it takes -/
def wordAt (l : List Nat) : Option (S × Nat) :=
  if 8 < run lets l then none
  else if l[run lets l]? = some 46 then
    if (numOf ((l.drop (run lets l + 1)).take (run digs (l.drop (run lets l + 1)))) 2 99 2).isNone then none
    else some (.word (l.take (run lets l + 1 + run digs (l.drop (run lets l + 1)))), run lets l + 1 + run digs (l.drop (run lets l + 1)))
  else some (.word (l.take (run lets l)), run lets l)
/-- the sign at the front, and how many codes it takes -/
def signAt : List Nat → Option (S × Nat)
  | [] => none
  | c :: r =>
    if c ∈ lets then wordAt (c :: r)
    else if c ∈ digs then (numOf ((c :: r).take (run digs (c :: r))) 0 1000000 7).map fun v => (.num v, run digs (c :: r))
    else if c ∈ syms then some (.sym c, 1)
    else none
/-- the signs of a line -/
def lexF : Nat → List Nat → Option (List S)
  | 0, _ => none
  | _ + 1, [] => some []
  | k + 1, c :: r =>
    if c = 32 then lexF k r
    else match signAt (c :: r) with
      | none => none
      | some (s, n) => (lexF k ((c :: r).drop n)).map (s :: ·)
def lex (l : List Nat) : Option (List S) := lexF (l.length + 1) l

theorem run_le (cs : List Nat) : ∀ l : List Nat, run cs l ≤ l.length
  | [] => Nat.le_refl _
  | c :: r => by
    have h := run_le cs r
    show (if c ∈ cs then run cs r + 1 else 0) ≤ r.length + 1
    split <;> omega
theorem run_pos {cs : List Nat} {c : Nat} {r : List Nat} (h : c ∈ cs) : run cs (c :: r) = run cs r + 1 := if_pos h
theorem run_zero {cs : List Nat} {c : Nat} {r : List Nat} (h : c ∉ cs) : run cs (c :: r) = 0 := if_neg h
theorem wordAt_bounds {l : List Nat} {s : S} {n : Nat} (h : wordAt l = some (s, n)) : run lets l ≤ n ∧ n ≤ l.length := by
  unfold wordAt at h
  split at h
  · cases h
  · split at h
    · rename_i hd
      split at h
      · cases h
      · have e := Option.some.inj h
        have e2 : run lets l + 1 + run digs (l.drop (run lets l + 1)) = n := congrArg Prod.snd e
        have hr := run_le digs (l.drop (run lets l + 1))
        rw [List.length_drop] at hr
        obtain ⟨hlt, _⟩ := List.getElem?_eq_some_iff.mp hd
        omega
    · have e := Option.some.inj h
      have e2 : run lets l = n := congrArg Prod.snd e
      have hr := run_le lets l
      omega
theorem signAt_cons (c : Nat) (r : List Nat) : signAt (c :: r) = if c ∈ lets then wordAt (c :: r) else if c ∈ digs then (numOf ((c :: r).take (run digs (c :: r))) 0 1000000 7).map (fun v => (S.num v, run digs (c :: r))) else if c ∈ syms then some (.sym c, 1) else none := rfl
theorem signAt_bounds {l : List Nat} {s : S} {n : Nat} (h : signAt l = some (s, n)) : 1 ≤ n ∧ n ≤ l.length := by
  cases l with
  | nil => cases h
  | cons c r =>
    rw [signAt_cons] at h
    split at h
    · rename_i hc
      have b := wordAt_bounds h
      rw [run_pos hc] at b
      omega
    · split at h
      · rename_i hc
        cases e : numOf ((c :: r).take (run digs (c :: r))) 0 1000000 7 with
        | none => rw [e] at h; cases h
        | some v =>
          rw [e] at h
          have e2 : run digs (c :: r) = n := congrArg Prod.snd (Option.some.inj h)
          have hr := run_le digs (c :: r)
          have hp := run_pos (r := r) hc
          omega
      · split at h
        · have e2 : 1 = n := congrArg Prod.snd (Option.some.inj h)
          rw [List.length_cons]
          omega
        · cases h
theorem lexF_more : ∀ (k m : Nat) (l : List Nat), l.length < k → l.length < m → lexF k l = lexF m l
  | 0, _, _, h, _ => absurd h (Nat.not_lt_zero _)
  | _ + 1, 0, _, _, h => absurd h (Nat.not_lt_zero _)
  | k + 1, m + 1, [], _, _ => rfl
  | k + 1, m + 1, c :: r, h1, h2 => by
    rw [List.length_cons] at h1 h2
    show (if c = 32 then lexF k r else match signAt (c :: r) with | none => none | some (s, n) => (lexF k ((c :: r).drop n)).map (s :: ·)) = (if c = 32 then lexF m r else match signAt (c :: r) with | none => none | some (s, n) => (lexF m ((c :: r).drop n)).map (s :: ·))
    split
    · exact lexF_more k m r (by omega) (by omega)
    · cases e : signAt (c :: r) with
      | none => rfl
      | some p =>
        obtain ⟨s, n⟩ := p
        have b := signAt_bounds e
        have hl : ((c :: r).drop n).length < k := by rw [List.length_drop, List.length_cons]; omega
        have hl2 : ((c :: r).drop n).length < m := by rw [List.length_drop, List.length_cons]; omega
        show (lexF k ((c :: r).drop n)).map (s :: ·) = (lexF m ((c :: r).drop n)).map (s :: ·)
        rw [lexF_more k m _ hl hl2]
theorem lex_nil : lex [] = some [] := rfl
theorem lex_space (r : List Nat) : lex (32 :: r) = lex r := by
  show lexF (r.length + 1 + 1) (32 :: r) = lexF (r.length + 1) r
  rfl
theorem lex_bad {c : Nat} {r : List Nat} (hc : c ≠ 32) (h : signAt (c :: r) = none) : lex (c :: r) = none := by
  show (if c = 32 then lexF (r.length + 1) r else match signAt (c :: r) with | none => none | some (s, n) => (lexF (r.length + 1) ((c :: r).drop n)).map (s :: ·)) = none
  rw [if_neg hc, h]
theorem lex_sign {c : Nat} {r : List Nat} {s : S} {n : Nat} (hc : c ≠ 32) (h : signAt (c :: r) = some (s, n)) : lex (c :: r) = (lex ((c :: r).drop n)).map (s :: ·) := by
  show (if c = 32 then lexF (r.length + 1) r else match signAt (c :: r) with | none => none | some (s, n) => (lexF (r.length + 1) ((c :: r).drop n)).map (s :: ·)) = _
  rw [if_neg hc, h]
  have b := signAt_bounds h
  show (lexF (r.length + 1) ((c :: r).drop n)).map (s :: ·) = (lexF (((c :: r).drop n).length + 1) ((c :: r).drop n)).map (s :: ·)
  rw [lexF_more (r.length + 1) (((c :: r).drop n).length + 1) _ (by rw [List.length_drop, List.length_cons]; omega) (by omega)]

/-! ### what follows a sign does not change it, if it does not go on -/
/-- the front of b doesn't go on a run of the kind cs -/
def Stops (cs : List Nat) (b : List Nat) : Prop := ∀ c r, b = c :: r → c ∉ cs
theorem run_app {cs : List Nat} : ∀ {a b : List Nat}, Stops cs b ∨ run cs a < a.length → run cs (a ++ b) = run cs a
  | [], b, h => by
    rcases h with h | h
    · cases b with
      | nil => rfl
      | cons c r => exact run_zero (h c r rfl)
    · exact absurd h (Nat.not_lt_zero _)
  | c :: r, b, h => by
    by_cases hc : c ∈ cs
    · show (if c ∈ cs then run cs (r ++ b) + 1 else 0) = (if c ∈ cs then run cs r + 1 else 0)
      rw [if_pos hc, if_pos hc, run_app (a := r) (b := b)]
      rcases h with h | h
      · exact .inl h
      · rw [run_pos hc, List.length_cons] at h
        exact .inr (by omega)
    · rw [List.cons_append, run_zero hc, run_zero hc]
/-- the word at the front of a, whatever follows a: b goes on neither its letters nor its digits, nor is it a dot -/
theorem wordAt_app {a b : List Nat} (h1 : Stops lets b) (h2 : Stops digs b) (h3 : ∀ r, b ≠ 46 :: r) : wordAt (a ++ b) = wordAt a := by
  have e1 : run lets (a ++ b) = run lets a := run_app (.inl h1)
  have hr := run_le lets a
  have e2 : ((a ++ b)[run lets a]? = some 46) = (a[run lets a]? = some 46) := by
    by_cases hlt : run lets a < a.length
    · rw [List.getElem?_append_left hlt]
    · have e : run lets a = a.length := by omega
      rw [List.getElem?_append_right (by omega), e, Nat.sub_self]
      have n1 : a[a.length]? = none := List.getElem?_eq_none (Nat.le_refl _)
      rw [n1]
      cases b with
      | nil => rfl
      | cons c r =>
        apply propext
        constructor
        · intro z
          have z2 : c = 46 := Option.some.inj z
          exact absurd (by rw [z2]) (h3 r)
        · intro z
          cases z
  unfold wordAt
  rw [e1]
  by_cases hg : 8 < run lets a
  · rw [if_pos hg, if_pos hg]
  · rw [if_neg hg, if_neg hg]
    by_cases hd : a[run lets a]? = some 46
    · have hd' : (a ++ b)[run lets a]? = some 46 := e2 ▸ hd
      rw [if_pos hd, if_pos hd']
      obtain ⟨hlt, _⟩ := List.getElem?_eq_some_iff.mp hd
      have ed : (a ++ b).drop (run lets a + 1) = a.drop (run lets a + 1) ++ b := List.drop_append_of_le_length (by omega)
      have er : run digs (a.drop (run lets a + 1) ++ b) = run digs (a.drop (run lets a + 1)) := run_app (.inl h2)
      have hk := run_le digs (a.drop (run lets a + 1))
      rw [List.length_drop] at hk
      rw [ed, er, List.take_append_of_le_length (by rw [List.length_drop]; omega), List.take_append_of_le_length (by omega)]
    · have hd' : ¬ (a ++ b)[run lets a]? = some 46 := fun z => hd (e2 ▸ z)
      rw [if_neg hd, if_neg hd', List.take_append_of_le_length hr]
theorem signAt_app {a b : List Nat} (ha : a ≠ []) (h1 : Stops lets b) (h2 : Stops digs b) (h3 : ∀ r, b ≠ 46 :: r) : signAt (a ++ b) = signAt a := by
  cases a with
  | nil => exact absurd rfl ha
  | cons c r =>
    rw [List.cons_append, signAt_cons, signAt_cons]
    have ew : wordAt (c :: (r ++ b)) = wordAt (c :: r) := wordAt_app (a := c :: r) h1 h2 h3
    have ed : run digs (c :: (r ++ b)) = run digs (c :: r) := run_app (a := c :: r) (.inl h2)
    have et : (c :: (r ++ b)).take (run digs (c :: r)) = (c :: r).take (run digs (c :: r)) := List.take_append_of_le_length (l₁ := c :: r) (run_le digs (c :: r))
    rw [ew, ed, et]
/-- a space parts a line -/
theorem lex_parts : ∀ (k : Nat) (a b : List Nat), a.length ≤ k → lex (a ++ 32 :: b) = (lex a).bind fun x => (lex b).map (x ++ ·)
  | _, [], b, _ => by
    rw [List.nil_append, lex_space, lex_nil]
    show lex b = (lex b).map ([] ++ ·)
    cases lex b <;> rfl
  | 0, c :: r, _, h => by
    rw [List.length_cons] at h
    omega
  | k + 1, c :: r, b, h => by
    rw [List.length_cons] at h
    by_cases hc : c = 32
    · rw [hc, List.cons_append, lex_space, lex_space]
      exact lex_parts k r b (by omega)
    · have st1 : Stops lets (32 :: b) := fun c' r' e => by
        have z : 32 = c' := (List.cons.inj e).1
        rw [← z]; decide
      have st2 : Stops digs (32 :: b) := fun c' r' e => by
        have z : 32 = c' := (List.cons.inj e).1
        rw [← z]; decide
      have es : signAt ((c :: r) ++ 32 :: b) = signAt (c :: r) := signAt_app (by intro z; cases z) st1 st2 (fun r' e => by have z := (List.cons.inj e).1; omega)
      cases e : signAt (c :: r) with
      | none =>
        rw [e] at es
        rw [lex_bad hc e]
        exact lex_bad hc es
      | some p =>
        obtain ⟨s, n⟩ := p
        have bd := signAt_bounds e
        rw [e] at es
        have e1 := lex_sign hc e
        have e2 : lex ((c :: r) ++ 32 :: b) = (lex (((c :: r) ++ 32 :: b).drop n)).map (s :: ·) := lex_sign hc es
        rw [List.drop_append_of_le_length bd.2] at e2
        have ih := lex_parts k ((c :: r).drop n) b (by rw [List.length_drop, List.length_cons]; omega)
        rw [e2, e1, ih]
        cases lex ((c :: r).drop n) with
        | none => rfl
        | some x =>
          cases lex b with
          | none => rfl
          | some y => rfl
theorem lex_app (a b : List Nat) : lex (a ++ 32 :: b) = (lex a).bind fun x => (lex b).map (x ++ ·) := lex_parts a.length a b (Nat.le_refl _)
end Sg

namespace Sg
/-! a line has at most as many signs as codes; words are short -/
theorem numOf_len {ds : List Nat} {a b w v : Nat} (h : numOf ds a b w = some v) : ds.length ≤ w := by
  unfold numOf at h
  split at h
  · cases h
  · rename_i hn
    omega
def ShortS : S → Prop
  | .word w => w.length ≤ 11
  | _ => True
theorem wordAt_short {l : List Nat} {s : S} {n : Nat} (h : wordAt l = some (s, n)) : ShortS s := by
  unfold wordAt at h
  split at h
  · cases h
  · rename_i h8
    split at h
    · split at h
      · cases h
      · rename_i hd hn
        have e : S.word (l.take (run lets l + 1 + run digs (l.drop (run lets l + 1)))) = s := congrArg Prod.fst (Option.some.inj h)
        rw [← e]
        show (l.take _).length ≤ 11
        cases hv : numOf ((l.drop (run lets l + 1)).take (run digs (l.drop (run lets l + 1)))) 2 99 2 with
        | none => rw [hv] at hn; exact absurd rfl hn
        | some v =>
          have hl := numOf_len hv
          have hr := run_le digs (l.drop (run lets l + 1))
          rw [List.length_take, Nat.min_eq_left hr] at hl
          rw [List.length_take]
          omega
    · have e : S.word (l.take (run lets l)) = s := congrArg Prod.fst (Option.some.inj h)
      rw [← e]
      show (l.take _).length ≤ 11
      rw [List.length_take]
      omega
theorem signAt_short {l : List Nat} {s : S} {n : Nat} (h : signAt l = some (s, n)) : ShortS s := by
  cases l with
  | nil => cases h
  | cons c r =>
    rw [signAt_cons] at h
    split at h
    · exact wordAt_short h
    · split at h
      · cases e : numOf ((c :: r).take (run digs (c :: r))) 0 1000000 7 with
        | none => rw [e] at h; cases h
        | some v =>
          rw [e] at h
          have q : S.num v = s := congrArg Prod.fst (Option.some.inj h)
          rw [← q]
          trivial
      · split at h
        · have q : S.sym c = s := congrArg Prod.fst (Option.some.inj h)
          rw [← q]
          trivial
        · cases h
theorem lex_short : ∀ (k : Nat) (l : List Nat) (ss : List S), l.length ≤ k → lex l = some ss → ss.length ≤ l.length ∧ ∀ s ∈ ss, ShortS s
  | _, [], ss, _, h => by
    rw [lex_nil] at h
    have e := Option.some.inj h
    rw [← e]
    exact ⟨Nat.le_refl _, fun s hs => by cases hs⟩
  | 0, c :: r, ss, hk, _ => by
    rw [List.length_cons] at hk
    omega
  | k + 1, c :: r, ss, hk, h => by
    rw [List.length_cons] at hk
    by_cases hc : c = 32
    · rw [hc, lex_space] at h
      have ih := lex_short k r ss (by omega) h
      rw [List.length_cons]
      exact ⟨by omega, ih.2⟩
    · cases e : signAt (c :: r) with
      | none => rw [lex_bad hc e] at h; cases h
      | some p =>
        obtain ⟨s, n⟩ := p
        have bd := signAt_bounds e
        rw [lex_sign hc e] at h
        cases e2 : lex ((c :: r).drop n) with
        | none => rw [e2] at h; cases h
        | some ys =>
          rw [e2] at h
          have e3 : s :: ys = ss := Option.some.inj h
          have ih := lex_short k ((c :: r).drop n) ys (by rw [List.length_drop, List.length_cons]; omega) e2
          rw [List.length_drop] at ih
          rw [← e3]
          refine ⟨by rw [List.length_cons]; omega, fun x hx => ?_⟩
          rcases List.mem_cons.mp hx with rfl | hx
          · exact signAt_short e
          · exact ih.2 x hx
end Sg
namespace My
open PySem PySem.Spec PyProof.Rows L2

theorem ite_not {c A B : Prop} [Decidable c] (h : ¬ c) (b : B) : if decide c = true then A else B := by
  rw [if_neg fun z => h (of_decide_eq_true z)]
  exact b
theorem ite_yes {c A B : Prop} [Decidable c] (h : c) (a : A) : if decide c = true then A else B := by
  rw [if_pos (decide_eq_true h)]
  exact a
theorem iteT' {c : Bool} {A B : Prop} (hc : c = true) (h : A) : if c = true then A else B := by
  rw [if_pos hc]
  exact h
theorem iteF' {c : Bool} {A B : Prop} (hc : ¬ c = true) (h : B) : if c = true then A else B := by
  rw [if_neg hc]
  exact h
abbrev codes (z : Str) : List Nat := z.cps.toList
theorem len_codes (z : Str) : (codes z).length = z.length := Array.length_toList
section
variable {P : Program} {w : World} {K : PySem.W.Frag} {mg : Str → Option Value} {base : Heap}
/-! ### _end_of_run -/
def spEnd : Sp := fun vs H Q _ => ∃ (z cs : Str) (i : Nat), vs = [.str z, .int (i : Int), .str cs] ∧ z.length ≤ sizeLine ∧ i ≤ z.length ∧ Q (.int ((i + Sg.run (codes cs) ((codes z).drop i) : Nat) : Int)) H
theorem scE : FnScope ["line", "start", "characters", "end"] ["line", "start", "characters"] (defScope d__end_of_run) := ⟨rfl, rfl, rfl, by decide +kernel, rfl, by decide +kernel, by decide +kernel⟩
theorem drop_cons {l : List Nat} {j : Nat} {c : Nat} (h : l[j]? = some c) : l.drop j = c :: l.drop (j + 1) := by
  obtain ⟨hl, e⟩ := List.getElem?_eq_some_iff.mp h
  rw [← e]
  exact List.drop_eq_getElem_cons hl
theorem code_at (z : Str) {j : Nat} (h : j < z.length) : ∃ c, z.cps[j]? = some c ∧ (codes z)[j]? = some c := by
  have hl : j < z.cps.size := h
  refine ⟨z.cps[j], Array.getElem?_eq_getElem hl, ?_⟩
  rw [Array.getElem?_toList]
  exact Array.getElem?_eq_getElem hl
theorem size63 {n : Nat} (h : n ≤ sizeLine) : (n : Int) < 2 ^ 63 := by
  rw [sizeLine_eq] at h
  omega
theorem ok_end {f : Addr} {fd : FuncData} {k : Nat} (F : Fun K "_end_of_run" "_end_of_run" d__end_of_run f fd) (ml : mg "len" = none) : FnOk P w K mg base CX0 (k + 1) f fd ["line", "start", "characters"] spEnd := by
  refine F.ok scE (fun vs H Q E h => ?_) (fun cdv A outer s H vs Q E hr h => ?_)
  · obtain ⟨z, cs, i, rfl, _⟩ := h
    rfl
  obtain ⟨z, cs, i, rfl, hz, hi, q⟩ := h
  refine ⟨_, pss_cons (ps_set (i := 3) scE.nd rfl (.inl rfl) (pv 1))
    (pss_cons (ps_while PassesOwn.never (PW.pt (pw_and (pt_cmpR op_lt (pv 3) (pe_callB call_len_str (by rfl) ml PySem.boot_len (pa_cons (pv 0) pa_nil)) (nomark _)) (pw_and1 (pt_cmpR op_in_sign (pe_item_str (pv 0) (pv 3) (fun _ _ => rfl)) (pv 2) rfl))))
      (pss_one (ps_aug (i := 3) scE.nd rfl (.inl rfl) pe_int ip_add)))
    (pss_one (ps_ret (pv 3)))), ?_⟩
  refine ⟨_, rfl, ?_⟩
  refine ⟨fun m σ H' => ∃ j : Nat, σ = [some (.str z), some (.int (i : Int)), some (.str cs), some (.int (j : Int))] ∧ H' = H ∧ m = z.length - j ∧ i ≤ j ∧ j ≤ z.length ∧ i + Sg.run (codes cs) ((codes z).drop i) = j + Sg.run (codes cs) ((codes z).drop j), ⟨_, i, rfl, rfl, rfl, Nat.le_refl _, hi, rfl⟩, ?_⟩
  rintro m σ H' ⟨j, rfl, rfl, rfl, hij, hj, er⟩
  refine ⟨_, rfl, _, rfl, z, rfl, hz, _, _, rfl, rfl, _, rfl, ite2 (fun c => ?_) (fun c => ?_)⟩
  · have hjl : j < z.length := by
      have := of_decide_eq_true c
      omega
    obtain ⟨a, ha, hb⟩ := code_at z hjl
    refine ⟨_, rfl, _, rfl, z, _, a, rfl, rfl, by omega, size63 (by omega), by omega, ha, _, rfl, a, cs, rfl, rfl, _, rfl, ite2 (fun c2 => ?_) (fun c2 => ?_)⟩
    · have hm : a ∈ codes cs := of_decide_eq_true c2
      refine ⟨fun σ' H2 => σ' = [some (.str z), some (.int (i : Int)), some (.str cs), some (.int ((j + 1 : Nat) : Int))] ∧ H2 = H', fun σ' H2 hN => ?_, ?_⟩
      · obtain ⟨e1, e2⟩ := hN
        refine ⟨z.length - (j + 1), by omega, j + 1, e1, e2, rfl, by omega, by omega, ?_⟩
        rw [er, drop_cons hb, Sg.run_pos hm]
        omega
      · exact ⟨_, rfl, _, _, rfl, rfl, ⟨rfl, rfl⟩⟩
    · have hm : a ∉ codes cs := fun z => c2 (decide_eq_true z)
      refine ⟨_, rfl, ?_⟩
      have e : i + Sg.run (codes cs) ((codes z).drop i) = j := by rw [er, drop_cons hb, Sg.run_zero hm, Nat.add_zero]
      rw [e] at q
      exact q
  · have e : j = z.length := by
      have := of_decide_eq_false (Bool.eq_false_iff.mpr c)
      omega
    refine ⟨_, rfl, ?_⟩
    have e2 : i + Sg.run (codes cs) ((codes z).drop i) = j := by
      rw [er, List.drop_eq_nil_of_le (by rw [len_codes]; omega)]
      rfl
    rw [e2] at q
    exact q
end
end My
namespace My
open PySem PySem.Spec PyProof.Rows L2

theorem k_sn : ¬ V.str (Str.ofString "symbol") = V.str (Str.ofString "number") := by decide +kernel
theorem k_sw : ¬ V.str (Str.ofString "symbol") = V.str (Str.ofString "word") := by decide +kernel
theorem k_ws : ¬ V.str (Str.ofString "word") = V.str (Str.ofString "symbol") := by decide +kernel
theorem k_ns : ¬ V.str (Str.ofString "number") = V.str (Str.ofString "symbol") := by decide +kernel
theorem k_wn : ¬ V.str (Str.ofString "word") = V.str (Str.ofString "number") := by decide +kernel
theorem k_nw : ¬ V.str (Str.ofString "number") = V.str (Str.ofString "word") := by decide +kernel
/-! ### what the top has written -/
def zLet : Str := Str.ofString "abcdefghijklmnopqrstuvwxyz"
def zDig : Str := Str.ofString "0123456789"
def zSym : Str := Str.ofString "(){}:=+-*<"
theorem zLet_codes : codes zLet = Sg.lets := by decide +kernel
theorem zDig_codes : codes zDig = Sg.digs := by decide +kernel
theorem zSym_codes : codes zSym = Sg.syms := by decide +kernel
structure Tx (K : PySem.W.Frag) (mg : Str → Option Value) (CB : Addr) : Prop where
  gB : mg "BadLine" = some (.ref CB)
  xB : PySem.W.excIn K CB [.type "ValueError", .type "Exception", .type "BaseException", .type "object"] "ValueError.__new__" = true
  kB : PySem.W.keepIn K (.ref CB) = true
  bB : PySem.W.subIn K (.ref CB) (.type "BaseException") = some true
  tB : PySem.W.typeIn K (.ref CB) = some (.type "type")
  ml : mg "len" = none
  ms : mg "str" = none
  mi : mg "int" = none
  gLet : ∃ u, mg "LETTERS" = some u ∧ RelV (.str zLet) u
  gDig : ∃ u, mg "DIGITS" = some u ∧ RelV (.str zDig) u
  gSym : ∃ u, mg "SYMBOLS" = some u ∧ RelV (.str zSym) u
  gML : ∃ u, mg "MOST_LETTERS" = some u ∧ RelV (.int 8) u
  gLC : ∃ u, mg "LEAST_COPY" = some u ∧ RelV (.int 2) u
  gMC : ∃ u, mg "MOST_COPY" = some u ∧ RelV (.int 99) u
  gMN : ∃ u, mg "MOST_NUMBER" = some u ∧ RelV (.int 1000000) u
/-! ### a message of several parts -/
/-- e has the value v, the heap stays -/
def Val (t : TE) (σ : L2.St) (H : Hp) (v : V) : Prop := ∀ Q : VK, Q v H → t σ H Q
def Part (t : TE) (σ : L2.St) (H : Hp) : Prop := ∀ Q : VK, (∀ y : Str, y.length ≤ 1000 → Q (.str y) H) → t σ H Q
theorem len_app (a b : Str) : (a ++ b).length = a.length + b.length := by
  show (a.cps ++ b.cps).size = a.cps.size + b.cps.size
  exact Array.size_append
theorem parts_run {σ : L2.St} {H : Hp} {Q : Str → Hp → Prop} (hQ : ∀ out, Q out H) : ∀ (ts : List TE) (acc : Str), (∀ t ∈ ts, Part t σ H) → acc.length + 1000 * ts.length ≤ sizeLine → tJs ts acc σ H Q
  | [], acc, _, _ => hQ acc
  | t :: ts, acc, h, hl => by
    rw [List.length_cons] at hl
    refine h t List.mem_cons_self _ fun y hy => ⟨y, rfl, by rw [len_app]; omega, parts_run hQ ts (acc ++ y) (fun u hu => h u (List.mem_cons_of_mem _ hu)) (by rw [len_app]; omega)⟩
theorem part_str {x : Str} {σ : L2.St} {H : Hp} (h : x.length ≤ 1000) : Part (tC (.str x)) σ H := fun Q q => q x h
theorem part_fmtS {t : TE} {x : Str} {σ : L2.St} {H : Hp} (v : Val t σ H (.str x)) (h : x.length ≤ 1000) : Part (tFmt t) σ H := fun Q q =>
  v _ (.inl ⟨x, rfl, Nat.le_trans h (by decide), q x h⟩)
theorem part_fmtI {t : TE} {n : Int} {σ : L2.St} {H : Hp} (v : Val t σ H (.int n)) (h0 : 0 ≤ n) (h : n < 10 ^ 20) : Part (tFmt t) σ H := fun Q q => by
  refine v _ (.inr ⟨n, rfl, ?_, q _ ?_⟩)
  · have z : n.natAbs < 2 ^ 1920 := by
      have : n.natAbs < 10 ^ 20 := by omega
      exact Nat.lt_trans this (by decide +kernel)
    by_cases e : n.natAbs = 0
    · rw [e]; decide
    · exact (Nat.log2_lt e).mpr z
  · have := PyProof.Rows.toString_length_le h0 (k := 20) (by decide) h
    exact Nat.le_trans this (by decide)
theorem val_var {i : Nat} {v : V} {σ : L2.St} {H : Hp} (h : σ[i]? = some (some v)) : Val (tVar i) σ H v := fun Q q => ⟨v, h, q⟩
theorem msg_of {ts : List TE} {σ : L2.St} {H : Hp} {Q : Str → Hp → Prop} (hQ : ∀ out, Q out H) (h : ∀ t ∈ ts, Part t σ H) (hl : ts.length ≤ 16) : tJs ts Str.empty σ H Q :=
  parts_run hQ ts Str.empty h (by show 0 + 1000 * ts.length ≤ sizeLine; rw [sizeLine_eq]; omega)
theorem all_nil {p : TE → Prop} : ∀ t ∈ ([] : List TE), p t := fun _ h => by cases h
theorem all_cons {p : TE → Prop} {t : TE} {ts : List TE} (h : p t) (r : ∀ t ∈ ts, p t) : ∀ u ∈ t :: ts, p u := fun u hu => by
  rcases List.mem_cons.mp hu with rfl | hu
  · exact h
  · exact r u hu
/-! ### _number_of -/
def Nums (least most w : Nat) : Prop := (least = 0 ∧ most = 1000000 ∧ w = 7) ∨ (least = 2 ∧ most = 99 ∧ w = 2)
theorem Nums.len {least most w : Nat} (h : Nums least most w) : (Str.ofString (toString (most : Int))).length = w := by
  rcases h with ⟨rfl, rfl, rfl⟩ | ⟨rfl, rfl, rfl⟩
  · decide +kernel
  · decide +kernel
theorem Nums.small {least most w : Nat} (h : Nums least most w) : least ≤ 2 ∧ most ≤ 1000000 ∧ w ≤ 7 := by
  rcases h with ⟨rfl, rfl, rfl⟩ | ⟨rfl, rfl, rfl⟩ <;> omega
def spNum (CB : Addr) : Sp := fun vs H Q E => ∃ (z : Str) (least most w : Nat), vs = [.str z, .int (least : Int), .int (most : Int)] ∧ Nums least most w ∧ (∀ c ∈ codes z, c ∈ Sg.digs) ∧ z.length ≤ sizeLine ∧
  (∀ v : Nat, Sg.numOf (codes z) least most w = some v → Q (.int (v : Int)) H) ∧ (Sg.numOf (codes z) least most w = none → E (.ref CB) none H)
theorem digs_mem {c : Nat} (h : c ∈ Sg.digs) : 48 ≤ c ∧ c ≤ 57 := by
  simp only [Sg.digs, List.mem_cons, List.not_mem_nil, or_false] at h
  omega
theorem int_of {z : Str} (h : ∀ c ∈ codes z, c ∈ Sg.digs) (h1 : codes z ≠ []) (h2 : z.length ≤ 640) : PySem.intText? z = some ((Sg.val (codes z) : Nat) : Int) :=
  intText_digits (x := z) (fun c hc => digs_mem (h c hc)) h1 (Nat.le_trans h2 (by decide))
theorem val_lt : ∀ (l : List Nat) (a : Nat), (∀ c ∈ l, c ∈ Sg.digs) → l.foldl (fun acc c => acc * 10 + (c - 48)) a < (a + 1) * 10 ^ l.length
  | [], a, _ => by
    show a < (a + 1) * 10 ^ 0
    omega
  | c :: r, a, h => by
    have hc := digs_mem (h c List.mem_cons_self)
    have ih := val_lt r (a * 10 + (c - 48)) fun d hd => h d (List.mem_cons_of_mem _ hd)
    rw [List.foldl_cons]
    refine Nat.lt_of_lt_of_le ih ?_
    rw [List.length_cons, Nat.pow_succ, Nat.mul_comm (10 ^ r.length) 10, ← Nat.mul_assoc]
    exact Nat.mul_le_mul_right _ (by omega)
theorem scN : FnScope ["digits", "least", "most", "number"] ["digits", "least", "most"] (defScope d__number_of) := ⟨rfl, rfl, rfl, by decide +kernel, rfl, by decide +kernel, by decide +kernel⟩
theorem str_eq_empty {z : Str} : V.str z = V.str (Str.ofString "") ↔ codes z = [] := by
  constructor
  · intro h
    have e : z = Str.ofString "" := V.str.inj h
    rw [e]
    decide +kernel
  · intro h
    refine congrArg V.str (Str.ext' (Array.toList_inj.mp ?_))
    rw [show (Str.ofString "").cps.toList = [] by decide +kernel]
    exact h
theorem one_code {c d : Nat} : V.str ⟨#[c]⟩ = V.str ⟨#[d]⟩ ↔ c = d := by
  constructor
  · intro h
    have e := V.str.inj h
    have e2 := Str.mk.inj e
    have e3 := congrArg Array.toList e2
    exact (List.cons.inj e3).1
  · intro h
    rw [h]
section
variable {P : Program} {w : World} {K : PySem.W.Frag} {mg : Str → Option Value} {base : Heap} {CB : Addr}
theorem ok_num {f : Addr} {fd : FuncData} {k : Nat} (F : Fun K "_number_of" "_number_of" d__number_of f fd) (T : Tx K mg CB) : FnOk P w K mg base (L2.CX P w) (k + 1) f fd ["digits", "least", "most"] (spNum CB) := by
  refine F.okX scN (fun vs H Q E h => ?_) (fun cdv A outer s H vs Q E hr h => ?_)
  · obtain ⟨z, least, most, w, rfl, _⟩ := h
    rfl
  obtain ⟨z, least, most, w, rfl, hn, hd, hz, kS, kN⟩ := h
  refine ⟨_, pss_cons (ps_if (PW.pt (pw_or (pt_cmpR op_eq (pv 0) pe_str (nomark _)) (pw_or1 (pt_cmpR op_gt (pe_callB call_len_str (by rfl) T.ml PySem.boot_len (pa_cons (pv 0) pa_nil)) (pe_callB call_len_str (by rfl) T.ml PySem.boot_len (pa_cons (pe_callTy call_str_int (by rfl) T.ms (by decide +kernel) (pa_cons (pv 2) pa_nil)) pa_nil)) (nomark _)))))
      (pss_one (ps_raise rfl (takes_of rfl rfl rfl rfl) (SkE.pmk_own1 PySem.F.excBase_ValueError T.xB T.gB T.kB (raises_own T.bB T.tB) (by rfl) (pe_joined (.cons pe_str (.cons (pe_fmt (pv 1)) (.cons pe_str (.cons (pe_fmt (pv 2)) (.cons pe_str .nil))))))))) pss_nil)
    (pss_cons (ps_if (PW.pt (pw_and (pt_cmpR op_eq (pe_item_str (pv 0) pe_int (fun _ _ => rfl)) pe_str (nomark _)) (pw_and1 (pt_cmpR op_gt (pe_callB call_len_str (by rfl) T.ml PySem.boot_len (pa_cons (pv 0) pa_nil)) pe_int (nomark _)))))
      (pss_one (ps_raise rfl (takes_of rfl rfl rfl rfl) (pmk_own PySem.F.excBase_ValueError T.xB T.gB T.kB (raises_own T.bB T.tB) (by rfl)))) pss_nil)
    (pss_cons (ps_set (i := 3) scN.nd rfl (.inl rfl) (pe_callTy call_int_str (by rfl) T.mi (by decide +kernel) (pa_cons (pv 0) pa_nil)))
    (pss_cons (ps_if (PW.pt (pw_or (pt_cmpR op_lt (pv 3) (pv 1) (nomark _)) (pw_or1 (pt_cmpR op_gt (pv 3) (pv 2) (nomark _)))))
      (pss_one (ps_raise rfl (takes_of rfl rfl rfl rfl) (SkE.pmk_own1 PySem.F.excBase_ValueError T.xB T.gB T.kB (raises_own T.bB T.tB) (by rfl) (pe_joined (.cons (pe_fmt (pv 3)) (.cons pe_str (.cons (pe_fmt (pv 1)) (.cons pe_str (.cons (pe_fmt (pv 2)) .nil))))))))) pss_nil)
    (pss_one (ps_ret (pv 3)))))), ?_⟩
  have sm := hn.small
  have hcl := len_codes z
  -- digits == ''
  refine ⟨_, rfl, rfl, _, rfl, ite2 (fun c => ?_) (fun c => ?_)⟩
  · have e := str_eq_empty.mp (of_decide_eq_true c)
    refine iteT (msg_of (fun out => ?_) (all_cons (part_str (by decide +kernel)) (all_cons (part_fmtI (val_var rfl) (by omega) (by omega)) (all_cons (part_str (by decide +kernel)) (all_cons (part_fmtI (val_var rfl) (by omega) (by omega)) (all_cons (part_str (by decide +kernel)) all_nil))))) (by decide))
    refine kN ?_
    unfold Sg.numOf
    rw [if_pos (.inl e)]
  have ne : codes z ≠ [] := fun e => c (decide_eq_true (str_eq_empty.mpr e))
  refine ⟨_, rfl, z, rfl, hz, _, rfl, (most : Int), rfl, ?_, _, rfl, ?_, _, _, rfl, rfl, _, rfl, ite2 (fun c2 => ?_) (fun c2 => ?_)⟩
  · have z2 : ((most : Int).natAbs) < 2 ^ 1920 := Nat.lt_of_le_of_lt (show (most : Int).natAbs ≤ 1000000 by omega) (by decide +kernel)
    by_cases e : (most : Int).natAbs = 0
    · rw [e]; decide
    · exact (Nat.log2_lt e).mpr z2
  · rw [hn.len]
    exact Nat.le_trans sm.2.2 (by decide)
  · have h1 := of_decide_eq_true c2
    rw [hn.len] at h1
    refine msg_of (fun out => ?_) (all_cons (part_str (by decide +kernel)) (all_cons (part_fmtI (val_var rfl) (by omega) (by omega)) (all_cons (part_str (by decide +kernel)) (all_cons (part_fmtI (val_var rfl) (by omega) (by omega)) (all_cons (part_str (by decide +kernel)) all_nil))))) (by decide)
    refine kN ?_
    unfold Sg.numOf
    rw [if_pos (.inr (by rw [hcl]; omega))]
  have hw : z.length ≤ w := by
    have h1 := of_decide_eq_false (Bool.eq_false_iff.mpr c2)
    rw [hn.len] at h1
    omega
  have n1 : ¬ (codes z = [] ∨ w < (codes z).length) := fun q => by
    rcases q with q | q
    · exact ne q
    · rw [hcl] at q; omega
  -- digits[0] == '0'
  have hpos : 0 < z.length := by
    have := List.length_pos_iff.mpr ne
    omega
  obtain ⟨a, ha, hb⟩ := code_at z hpos
  have goOn : ¬ ((codes z)[0]? = some 48 ∧ 1 < (codes z).length) → tSeq (tAsg (tCB (fun xs H Q => ∃ a n, xs = [V.str a] ∧ PySem.intText? a = some n ∧ a.length ≤ 640 ∧ Q (.int n) H) (tCons (tVar 0) tNil)) (gName 3)) (fun D σ H => tIfS (tOr (tTest (tOp (rI0 fun i j => .bl (decide (i < j))) (tVar 3) (tVar 1))) (tTest (tOp (rI0 fun i j => .bl (decide (j < i))) (tVar 3) (tVar 2)))) (fun D σ H => tJs [tFmt (tVar 3), tC (.str (Str.ofString " is not from ")), tFmt (tVar 1), tC (.str (Str.ofString " to ")), tFmt (tVar 2)] Str.empty σ H fun out H1 => E (.ref CB) none H1) tNext { D with nx := fun σ H => tRet (tVar 3) D σ H } σ H) { nx := fun _ H' => Q .non H', rt := Q } [some (.str z), some (.int (least : Int)), some (.int (most : Int)), none] H := fun n2 => by
    refine ⟨_, rfl, z, _, rfl, int_of hd ne (by omega), by omega, ?_⟩
    have vl : Sg.val (codes z) < 10 ^ 7 := by
      have h1 := val_lt (codes z) 0 hd
      have h2 : 10 ^ (codes z).length ≤ 10 ^ 7 := Nat.pow_le_pow_right (by decide) (by omega)
      have h3 : Sg.val (codes z) < (0 + 1) * 10 ^ (codes z).length := h1
      omega
    have hp : ∀ t ∈ [tFmt (tVar 3), tC (.str (Str.ofString " is not from ")), tFmt (tVar 1), tC (.str (Str.ofString " to ")), tFmt (tVar 2)], Part t [some (V.str z), some (V.int (least : Int)), some (V.int (most : Int)), some (V.int (Sg.val (codes z) : Nat))] H :=
      all_cons (part_fmtI (val_var rfl) (by omega) (by omega)) (all_cons (part_str (by decide +kernel)) (all_cons (part_fmtI (val_var rfl) (by omega) (by omega)) (all_cons (part_str (by decide +kernel)) (all_cons (part_fmtI (val_var rfl) (by omega) (by omega)) all_nil))))
    have bad : (Sg.val (codes z) < least ∨ most < Sg.val (codes z)) → E (.ref CB) none H := fun q => kN (by unfold Sg.numOf; rw [if_neg n1, if_neg n2, if_pos q])
    refine ⟨_, rfl, _, rfl, _, _, rfl, rfl, _, rfl, ite2 (fun d1 => ?_) (fun d1 => ?_)⟩
    · have h1 := of_decide_eq_true d1
      exact iteT (msg_of (fun out => bad (.inl (by omega))) hp (by decide))
    · have h1 := of_decide_eq_false (Bool.eq_false_iff.mpr d1)
      refine ⟨_, rfl, _, rfl, _, _, rfl, rfl, _, rfl, ite2 (fun d2 => ?_) (fun d2 => ?_)⟩
      · have h2 := of_decide_eq_true d2
        exact msg_of (fun out => bad (.inr (by omega))) hp (by decide)
      · have h2 := of_decide_eq_false (Bool.eq_false_iff.mpr d2)
        refine ⟨_, rfl, kS _ ?_⟩
        unfold Sg.numOf
        rw [if_neg n1, if_neg n2, if_neg (by omega)]
  refine ⟨_, rfl, z, 0, a, rfl, rfl, by omega, by omega, by omega, ha, rfl, _, rfl, ite2 (fun c3 => ?_) (fun c3 => ?_)⟩
  · have ea : a = 48 := one_code.mp (of_decide_eq_true c3)
    refine ⟨_, rfl, z, rfl, hz, _, _, rfl, rfl, _, rfl, ite2 (fun c4 => ?_) (fun c4 => ?_)⟩
    · have h1 := of_decide_eq_true c4
      refine kN ?_
      unfold Sg.numOf
      rw [if_neg n1, if_pos ⟨by rw [hb, ea], by rw [hcl]; omega⟩]
    · have h1 := of_decide_eq_false (Bool.eq_false_iff.mpr c4)
      exact goOn fun q => by
        have := q.2
        rw [hcl] at this
        omega
  · refine iteF (goOn fun q => ?_)
    have := q.1
    rw [hb] at this
    exact c3 (decide_eq_true (one_code.mpr (Option.some.inj this)))
end
end My
namespace My
open PySem PySem.Spec PyProof.Rows L2

/-! ### a def that is called by its name, in short -/
structure CalX (P : Program) (w : World) (K : PySem.W.Frag) (mg : Str → Option Value) (base : Heap) (CX : CXT) (k : Nat) (x : Str) (ps : List Str) (sp : Sp) : Prop where
  ex : ∃ f fd, mg x = some (.ref f) ∧ PySem.W.keepIn K (.ref f) = true ∧ Binds K fd ps [] ∧ FnOk P w K mg base CX k f fd ps sp
theorem CalX.mono {P : Program} {w : World} {K : PySem.W.Frag} {mg : Str → Option Value} {base : Heap} {CX : CXT} {j k : Nat} {x : Str} {ps : List Str} {sp : Sp} (c : CalX P w K mg base CX j x ps sp) (h : j ≤ k) : CalX P w K mg base CX k x ps sp := by
  obtain ⟨f, fd, h1, h2, h3, h4⟩ := c.ex
  exact ⟨f, fd, h1, h2, h3, h4.mono h⟩
theorem pe_cx {X : Cx} {CX : CXT} {k : Nat} {ps : List Str} {sp : Sp} {E : L2.St → XK} {x : Str} {p pos : Pos} {e : Expr} {es : List Expr} {t : TA} (c : CalX X.prog X.w X.K X.mg X.base CX k x ps sp) (hr : Room k X.A) (hg : Gl X x) (hx : ∀ σ, PassesAt CX X σ (E σ))
    (ha : PA X (e :: es) t) (hdb : (x == ("__debug__" : Str)) = false := by decide) (he : starEach (e :: es) X.env = (false, eval e X.env) :: starEach es X.env := by rfl) (hpl : (backTo pos (starEach es X.env)).any (·.1) = false := by rfl) :
    PE X (.Call (.Name x p) (e :: es) [] pos) (tCallS sp E t) := by
  obtain ⟨f, fd, h1, h2, h3, h4⟩ := c.ex
  exact pe_callS h4 hr hg h1 h2 h3 hx ha hdb he hpl
theorem pat0 {X : Cx} : ∀ σ : L2.St, PassesAt CX0 X σ ((fun _ => E0) σ) := fun _ _ _ _ _ _ _ h => h.elim
/-! ### signs in the heap -/
def sgV : Sg.S → List V
  | .word w => [.str (Str.ofString "word"), .str ⟨w.toArray⟩]
  | .num n => [.str (Str.ofString "number"), .int (n : Int)]
  | .sym c => [.str (Str.ofString "symbol"), .str ⟨#[c]⟩]
def SgAt (H : Hp) (a : Addr) (s : Sg.S) : Prop := H a = some (.tup (sgV s))
def SgAll (H : Hp) (as : List Addr) (ss : List Sg.S) : Prop := Paired (SgAt H) as ss
theorem SgAll.same {H H' : Hp} {as : List Addr} {ss : List Sg.S} (h : SgAll H as ss) (e : Same H H') : SgAll H' as ss := Paired.mapP h fun _ _ q => e _ _ q
theorem SgAll.put {H : Hp} {l : Addr} {xs ys : List V} {as : List Addr} {ss : List Sg.S} (h : SgAll H as ss) (hl : H l = some (.lst xs)) : SgAll (upd H l (.lst ys)) as ss :=
  Paired.mapP h fun a s q => by
    show upd H l (.lst ys) a = some (.tup (sgV s))
    rw [upd_ne (ne_of (show H a = some (.tup (sgV s)) from q) hl (by intro z; cases z))]
    exact q
theorem same_new {H : Hp} {p : Addr} (h : H p = none) (o : HO) : Same H (upd H p o) := fun b u q => by rw [upd_ne (ne_of_none q h)]; exact q
theorem str_of_codes (z : Str) : z = ⟨(codes z).toArray⟩ := by
  cases z with
  | mk a =>
    show Str.mk a = Str.mk a.toList.toArray
    rw [Array.toArray_toList]
theorem cut_nat (z : Str) (i j : Nat) : cutS z (some (i : Int)) (some (j : Int)) = ⟨(((codes z).drop (min i z.length)).take (min j z.length - min i z.length)).toArray⟩ := by
  unfold cutS
  rw [HT.sIx_nat, HT.sIx_nat]
theorem cut_in {z : Str} {i n : Nat} (h : i + n ≤ z.length) : cutS z (some (i : Int)) (some ((i + n : Nat) : Int)) = ⟨(((codes z).drop i).take n).toArray⟩ := by
  rw [cut_nat, Nat.min_eq_left (by omega : i ≤ z.length), Nat.min_eq_left h, Nat.add_sub_cancel_left]
theorem cut_one {z : Str} {i : Nat} (h : i ≤ z.length) : cutS z (some (i : Int)) (some ((i + 1 : Nat) : Int)) = ⟨(((codes z).drop i).take 1).toArray⟩ := by
  rw [cut_nat, Nat.min_eq_left h]
  by_cases e : i < z.length
  · rw [Nat.min_eq_left (by omega), Nat.add_sub_cancel_left]
  · have e1 : i = z.length := by omega
    rw [Nat.min_eq_right (by omega), e1, Nat.sub_self, List.drop_eq_nil_of_le (by rw [len_codes]; omega)]
    rfl
theorem dot_iff {l : List Nat} {i : Nat} : V.str ⟨((l.drop i).take 1).toArray⟩ = V.str (Str.ofString ".") ↔ l[i]? = some 46 := by
  have ed : Str.ofString "." = ⟨#[46]⟩ := by decide +kernel
  rw [ed]
  cases e : l[i]? with
  | none =>
    have hl := List.getElem?_eq_none_iff.mp e
    rw [List.drop_eq_nil_of_le hl]
    constructor
    · intro h
      have e3 := congrArg Array.toList (Str.mk.inj (V.str.inj h))
      cases e3
    · intro h
      cases h
  | some c =>
    rw [drop_cons e]
    have et : ((c :: l.drop (i + 1)).take 1).toArray = #[c] := rfl
    rw [et, one_code]
    constructor
    · intro h
      rw [h]
    · intro h
      exact Option.some.inj h
/-! ### _word_from -/
/-- hands back (sign, the place behind it), both new -/
def Gives (z : Str) (i : Nat) (H : Hp) (Q : VK) (p : Option (Sg.S × Nat)) : Prop :=
  ∀ s n, p = some (s, n) → ∀ (H' : Hp) (a b : Addr), Same H H' → H' a = some (.tup [.ref b, .int ((i + n : Nat) : Int)]) → SgAt H' b s → Q (.ref a) H'
def spWord (CB : Addr) : Sp := fun vs H Q E => ∃ (z : Str) (i : Nat), vs = [.str z, .int (i : Int)] ∧ z.length ≤ sizeLine ∧ i ≤ z.length ∧
  Gives z i H Q (Sg.wordAt ((codes z).drop i)) ∧ (Sg.wordAt ((codes z).drop i) = none → E (.ref CB) none H)
def spSign (CB : Addr) : Sp := fun vs H Q E => ∃ (z : Str) (i : Nat), vs = [.str z, .int (i : Int)] ∧ z.length ≤ sizeLine ∧ i < z.length ∧
  Gives z i H Q (Sg.signAt ((codes z).drop i)) ∧ (Sg.signAt ((codes z).drop i) = none → ∀ H', Same H H' → E (.ref CB) none H')
theorem Gives.tups {z : Str} {i : Nat} {H : Hp} {Q : VK} {s : Sg.S} {n : Nat} {p : Option (Sg.S × Nat)} (h : Gives z i H Q p) (e : p = some (s, n)) {xs : List V} (hx : xs = sgV s) {y : V} (hy : y = .int ((i + n : Nat) : Int)) {b : Addr} (hb : H b = none) {a : Addr} (ha : upd H b (.tup xs) a = none) :
    Q (.ref a) (upd (upd H b (.tup xs)) a (.tup [.ref b, y])) := by
  subst hx
  subst hy
  refine h s n e _ a b ((same_new hb _).trans (same_new ha _)) upd_same ?_
  show upd (upd H b (.tup (sgV s))) a _ b = some (.tup (sgV s))
  rw [upd_ne (ne_of_none upd_same ha)]
  exact upd_same
theorem scW : FnScope ["line", "start", "end", "dot"] ["line", "start"] (defScope d__word_from) := ⟨rfl, rfl, rfl, by decide +kernel, rfl, by decide +kernel, by decide +kernel⟩
theorem run_mem {cs : List Nat} : ∀ {l : List Nat}, ∀ c ∈ l.take (Sg.run cs l), c ∈ cs
  | [], c, h => by cases h
  | a :: r, c, h => by
    by_cases ha : a ∈ cs
    · rw [Sg.run_pos ha, List.take_succ_cons] at h
      rcases List.mem_cons.mp h with rfl | h
      · exact ha
      · exact run_mem c h
    · rw [Sg.run_zero ha] at h
      cases h
section
variable {P : Program} {w : World} {K : PySem.W.Frag} {mg : Str → Option Value} {base : Heap} {CB : Addr}
theorem ok_word {f : Addr} {fd : FuncData} {k : Nat} (F : Fun K "_word_from" "_word_from" d__word_from f fd) (T : Tx K mg CB) (cE : CalX P w K mg base CX0 k "_end_of_run" ["line", "start", "characters"] spEnd)
    (cN : CalX P w K mg base (L2.CX P w) k "_number_of" ["digits", "least", "most"] (spNum CB)) : FnOk P w K mg base (L2.CX P w) (k + 1) f fd ["line", "start"] (spWord CB) := by
  refine F.okX scW (fun vs H Q E h => ?_) (fun cdv A outer s H vs Q E hr h => ?_)
  · obtain ⟨z, i, rfl, _⟩ := h
    rfl
  obtain ⟨z, i, rfl, hz, hi, kS, kN⟩ := h
  refine ⟨_, pss_cons (ps_set (i := 2) scW.nd rfl (.inl rfl) (pe_cx cE hr (by rfl) pat0 (pa_cons (pv 0) (pa_cons (pv 1) (pa_cons (C8.pe_gc (by rfl) T.gLet) pa_nil)))))
    (pss_cons (ps_if (pt_cmpR op_gt (pe_op op_sub (pv 2) (pv 1)) (C8.pe_gc (by rfl) T.gML) (nomark _))
      (pss_one (ps_raise rfl (takes_of rfl rfl rfl rfl) (SkE.pmk_own1 PySem.F.excBase_ValueError T.xB T.gB T.kB (raises_own T.bB T.tB) (by rfl) (pe_joined (.cons pe_str (.cons (pe_fmt (C8.pe_gc (by rfl) T.gML)) (.cons pe_str .nil))))))) pss_nil)
    (pss_cons (ps_if (pt_cmpR op_eq (pe_slice sl_str (pv 0) (po_some (pv 2)) (po_some (pe_op op_add (pv 2) pe_int))) pe_str (nomark _))
      (pss_cons (ps_set (i := 3) scW.nd rfl (.inl rfl) (pv 2))
      (pss_cons (ps_set (i := 2) scW.nd rfl (.inl rfl) (pe_cx cE hr (by rfl) pat0 (pa_cons (pv 0) (pa_cons (pe_op op_add (pv 3) pe_int) (pa_cons (C8.pe_gc (by rfl) T.gDig) pa_nil)))))
      (pss_one (ps_expr (pe_cx cN hr (by rfl) (fun σ => passAt (takes_of rfl rfl rfl rfl) σ) (pa_cons (pe_slice sl_str (pv 0) (po_some (pe_op op_add (pv 3) pe_int)) (po_some (pv 2))) (pa_cons (C8.pe_gc (by rfl) T.gLC) (pa_cons (C8.pe_gc (by rfl) T.gMC) pa_nil)))))))) pss_nil)
    (pss_one (ps_ret (pe_tup (pa_cons (pe_tup (pa_cons pe_str (pa_cons (pe_slice sl_str (pv 0) (po_some (pv 1)) (po_some (pv 2))) pa_nil))) (pa_cons (pv 2) pa_nil))))))), ?_⟩
  have hcl := len_codes z
  have hl : ((codes z).drop i).length = z.length - i := by rw [List.length_drop, hcl]
  -- end = _end_of_run(line, start, LETTERS)
  refine ⟨_, rfl, _, rfl, z, zLet, i, rfl, hz, hi, ?_⟩
  rw [zLet_codes]
  have hr1 := Sg.run_le Sg.lets ((codes z).drop i)
  generalize er : Sg.run Sg.lets ((codes z).drop i) = n at *
  -- end - start > MOST_LETTERS
  refine ⟨_, rfl, _, rfl, _, _, rfl, rfl, _, _, rfl, rfl, _, rfl, ite2 (fun c => ?_) (fun c => ?_)⟩
  · have h1 := of_decide_eq_true c
    refine msg_of (fun out => ?_) (all_cons (part_str (by decide +kernel)) (all_cons (part_fmtI (n := 8) (fun Q q => q) (by omega) (by omega)) (all_cons (part_str (by decide +kernel)) all_nil))) (by decide)
    refine kN ?_
    unfold Sg.wordAt
    rw [er, if_pos (by omega)]
  have h8 : ¬ 8 < n := by
    have h1 := of_decide_eq_false (Bool.eq_false_iff.mpr c)
    omega
  -- line[end:end + 1] == '.'
  refine ⟨_, rfl, _, rfl, _, rfl, _, rfl, _, _, rfl, rfl, _, rfl, z, rfl, hz, rfl, _, rfl, ?_⟩
  rw [show ((i + n : Nat) : Int) + 1 = ((i + n + 1 : Nat) : Int) by omega, cut_one (by omega)]
  have eat : ((codes z).drop i)[n]? = (codes z)[i + n]? := List.getElem?_drop
  refine ite2 (fun c2 => ?_) (fun c2 => ?_)
  · have hd := dot_iff.mp (of_decide_eq_true c2)
    have hlt : i + n < z.length := by
      obtain ⟨h1, _⟩ := List.getElem?_eq_some_iff.mp hd
      omega
    refine ⟨_, rfl, _, rfl, _, rfl, _, _, rfl, rfl, z, zDig, i + n + 1, rfl, hz, by omega, ?_⟩
    rw [zDig_codes]
    have hr2 := Sg.run_le Sg.digs ((codes z).drop (i + n + 1))
    rw [List.length_drop, hcl] at hr2
    have ed : ((codes z).drop i).drop (n + 1) = (codes z).drop (i + n + 1) := by rw [List.drop_drop]; rfl
    have mem := run_mem (cs := Sg.digs) (l := (codes z).drop (i + n + 1))
    have ew : Sg.wordAt ((codes z).drop i) = if (Sg.numOf (((codes z).drop (i + n + 1)).take (Sg.run Sg.digs ((codes z).drop (i + n + 1)))) 2 99 2).isNone then none else some (.word (((codes z).drop i).take (n + 1 + Sg.run Sg.digs ((codes z).drop (i + n + 1)))), n + 1 + Sg.run Sg.digs ((codes z).drop (i + n + 1))) := by
      unfold Sg.wordAt
      rw [er, if_neg h8, if_pos (by rw [eat]; exact hd), ed]
    generalize er2 : Sg.run Sg.digs ((codes z).drop (i + n + 1)) = m at *
    refine ⟨_, rfl, _, rfl, _, _, rfl, rfl, _, rfl, _, rfl, _, rfl, z, rfl, hz, ?_⟩
    rw [show ((i + n : Nat) : Int) + 1 = ((i + n + 1 : Nat) : Int) by omega, cut_in (by omega)]
    refine ⟨_, 2, 99, 2, rfl, .inr ⟨rfl, rfl, rfl⟩, fun d hd2 => mem d hd2, ?_, fun v hv => ?_, fun hv => ?_⟩
    · show (((codes z).drop (i + n + 1)).take m).toArray.size ≤ sizeLine
      rw [List.size_toArray, List.length_take, List.length_drop, hcl]
      omega
    · have hv' : Sg.numOf (((codes z).drop (i + n + 1)).take m) 2 99 2 = some v := hv
      rw [hv', if_neg (by simp)] at ew
      refine ⟨_, rfl, _, rfl, _, rfl, _, rfl, _, rfl, z, rfl, hz, (by show 2 ≤ sizeLine; decide), fun b hb => ?_⟩
      refine ⟨_, rfl, (by show 2 ≤ sizeLine; decide), fun a ha => ?_⟩
      refine kS.tups ew ?_ ?_ hb ha
      · rw [show i + n + 1 + m = i + (n + 1 + m) by omega, cut_in (by omega)]
        rfl
      · rw [show i + n + 1 + m = i + (n + 1 + m) by omega]
    · have hv' : Sg.numOf (((codes z).drop (i + n + 1)).take m) 2 99 2 = none := hv
      rw [hv', if_pos (by rfl)] at ew
      exact kN ew
  · have hd : ¬ ((codes z).drop i)[n]? = some 46 := fun q => c2 (decide_eq_true (dot_iff.mpr (by rw [← eat]; exact q)))
    have ew : Sg.wordAt ((codes z).drop i) = some (.word (((codes z).drop i).take n), n) := by
      unfold Sg.wordAt
      rw [er, if_neg h8, if_neg hd]
    refine ⟨_, rfl, _, rfl, _, rfl, _, rfl, _, rfl, z, rfl, hz, (by show 2 ≤ sizeLine; decide), fun b hb => ?_⟩
    refine ⟨_, rfl, (by show 2 ≤ sizeLine; decide), fun a ha => ?_⟩
    refine kS.tups ew ?_ rfl hb ha
    rw [cut_in (by omega)]
    rfl
end
end My
namespace My
open PySem PySem.Spec PyProof.Rows L2

theorem scG : FnScope ["line", "start", "end"] ["line", "start"] (defScope d__sign_from) := ⟨rfl, rfl, rfl, by decide +kernel, rfl, by decide +kernel, by decide +kernel⟩
theorem line_cap {n : Nat} (h : n ≤ sizeLine) : n ≤ 16777216 := by
  rw [sizeLine_eq] at h
  exact h
section
variable {P : Program} {w : World} {K : PySem.W.Frag} {mg : Str → Option Value} {base : Heap} {CB : Addr}
theorem ok_sign {f : Addr} {fd : FuncData} {k : Nat} (F : Fun K "_sign_from" "_sign_from" d__sign_from f fd) (T : Tx K mg CB) (cE : CalX P w K mg base CX0 k "_end_of_run" ["line", "start", "characters"] spEnd)
    (cN : CalX P w K mg base (L2.CX P w) k "_number_of" ["digits", "least", "most"] (spNum CB)) (cW : CalX P w K mg base (L2.CX P w) k "_word_from" ["line", "start"] (spWord CB)) : FnOk P w K mg base (L2.CX P w) (k + 1) f fd ["line", "start"] (spSign CB) := by
  refine F.okX scG (fun vs H Q E h => ?_) (fun cdv A outer s H vs Q E hr h => ?_)
  · obtain ⟨z, i, rfl, _⟩ := h
    rfl
  obtain ⟨z, i, rfl, hz, hi, kS, kN⟩ := h
  refine ⟨_, pss_cons (ps_if (pt_cmpR op_in_sign (pe_item_str (pv 0) (pv 1) (fun _ _ => rfl)) (C8.pe_gc (by rfl) T.gLet) rfl) (pss_one (ps_ret (pe_cx cW hr (by rfl) (fun σ => passAt (takes_of rfl rfl rfl rfl) σ) (pa_cons (pv 0) (pa_cons (pv 1) pa_nil))))) pss_nil)
    (pss_cons (ps_if (pt_cmpR op_in_sign (pe_item_str (pv 0) (pv 1) (fun _ _ => rfl)) (C8.pe_gc (by rfl) T.gDig) rfl)
      (pss_cons (ps_set (i := 2) scG.nd rfl (.inl rfl) (pe_cx cE hr (by rfl) pat0 (pa_cons (pv 0) (pa_cons (pv 1) (pa_cons (C8.pe_gc (by rfl) T.gDig) pa_nil)))))
      (pss_one (ps_ret (pe_tup (pa_cons (pe_tup (pa_cons pe_str (pa_cons (pe_cx cN hr (by rfl) (fun σ => passAt (takes_of rfl rfl rfl rfl) σ) (pa_cons (pe_slice sl_str (pv 0) (po_some (pv 1)) (po_some (pv 2))) (pa_cons pe_int (pa_cons (C8.pe_gc (by rfl) T.gMN) pa_nil)))) pa_nil))) (pa_cons (pv 2) pa_nil)))))) pss_nil)
    (pss_cons (ps_if (pt_cmpR op_in_sign (pe_item_str (pv 0) (pv 1) (fun _ _ => rfl)) (C8.pe_gc (by rfl) T.gSym) rfl)
      (pss_one (ps_ret (pe_tup (pa_cons (pe_tup (pa_cons pe_str (pa_cons (pe_item_str (pv 0) (pv 1) (fun _ _ => rfl)) pa_nil))) (pa_cons (pe_op op_add (pv 1) pe_int) pa_nil))))) pss_nil)
    (pss_one (ps_raise rfl (takes_of rfl rfl rfl rfl) (SkE.pmk_own1 PySem.F.excBase_ValueError T.xB T.gB T.kB (raises_own T.bB T.tB) (by rfl) (pe_joined (.cons pe_str (.cons (pe_fmt (pe_op op_add (pv 1) pe_int)) (.cons pe_str .nil))))))))), ?_⟩
  have hcl := len_codes z
  obtain ⟨a, ha, hb⟩ := code_at z hi
  have ed := drop_cons hb
  have i63 : (i : Int) < 2 ^ 63 := size63 (by omega)
  have i0 : (0 : Int) ≤ (i : Int) := by omega
  have il : (i : Int) < (z.length : Int) := by omega
  have hz2 := line_cap hz
  refine ⟨_, rfl, _, rfl, z, _, a, rfl, rfl, i0, i63, il, ha, a, zLet, rfl, rfl, _, rfl, ite2 (fun c => ?_) (fun c => ?_)⟩
  · have hm : a ∈ Sg.lets := by
      have h1 : a ∈ codes zLet := of_decide_eq_true c
      rw [zLet_codes] at h1
      exact h1
    have es : Sg.signAt ((codes z).drop i) = Sg.wordAt ((codes z).drop i) := by rw [ed, Sg.signAt_cons, if_pos hm]
    rw [es] at kS kN
    exact ⟨_, rfl, _, rfl, z, i, rfl, hz, by omega, kS, fun e => kN e _ (Same.refl _)⟩
  have n1 : a ∉ Sg.lets := fun h => c (decide_eq_true (by rw [show zLet.cps.toList = Sg.lets from zLet_codes]; exact h))
  refine ⟨_, rfl, _, rfl, z, _, a, rfl, rfl, i0, i63, il, ha, a, zDig, rfl, rfl, _, rfl, ite2 (fun c2 => ?_) (fun c2 => ?_)⟩
  · have hm : a ∈ Sg.digs := by
      have h1 : a ∈ codes zDig := of_decide_eq_true c2
      rw [zDig_codes] at h1
      exact h1
    have es : Sg.signAt ((codes z).drop i) = (Sg.numOf (((codes z).drop i).take (Sg.run Sg.digs ((codes z).drop i))) 0 1000000 7).map fun v => (Sg.S.num v, Sg.run Sg.digs ((codes z).drop i)) := by rw [ed, Sg.signAt_cons, if_neg n1, if_pos hm]
    have mem := run_mem (cs := Sg.digs) (l := (codes z).drop i)
    have hr1 := Sg.run_le Sg.digs ((codes z).drop i)
    rw [List.length_drop, hcl] at hr1
    refine ⟨_, rfl, _, rfl, z, zDig, i, rfl, hz, by omega, ?_⟩
    rw [zDig_codes]
    generalize er : Sg.run Sg.digs ((codes z).drop i) = m at *
    refine ⟨_, rfl, _, rfl, _, rfl, _, rfl, _, rfl, z, rfl, hz, ?_⟩
    rw [cut_in (by omega)]
    refine ⟨_, 0, 1000000, 7, rfl, .inl ⟨rfl, rfl, rfl⟩, fun d hd2 => mem d hd2, ?_, fun v hv => ?_, fun hv => ?_⟩
    · show (((codes z).drop i).take m).toArray.size ≤ sizeLine
      rw [List.size_toArray, List.length_take, List.length_drop, hcl]
      omega
    · have hv' : Sg.numOf (((codes z).drop i).take m) 0 1000000 7 = some v := hv
      rw [hv'] at es
      refine ⟨(by show 2 ≤ sizeLine; decide), fun b hb => ?_⟩
      refine ⟨_, rfl, (by show 2 ≤ sizeLine; decide), fun a ha => ?_⟩
      exact kS.tups es rfl rfl hb ha
    · have hv' : Sg.numOf (((codes z).drop i).take m) 0 1000000 7 = none := hv
      rw [hv'] at es
      exact kN es _ (Same.refl _)
  have n2 : a ∉ Sg.digs := fun h => c2 (decide_eq_true (by rw [show zDig.cps.toList = Sg.digs from zDig_codes]; exact h))
  refine ⟨_, rfl, _, rfl, z, _, a, rfl, rfl, i0, i63, il, ha, a, zSym, rfl, rfl, _, rfl, ite2 (fun c3 => ?_) (fun c3 => ?_)⟩
  · have hm : a ∈ Sg.syms := by
      have h1 : a ∈ codes zSym := of_decide_eq_true c3
      rw [zSym_codes] at h1
      exact h1
    have es : Sg.signAt ((codes z).drop i) = some (.sym a, 1) := by rw [ed, Sg.signAt_cons, if_neg n1, if_neg n2, if_pos hm]
    refine ⟨_, rfl, _, rfl, z, _, a, rfl, rfl, i0, i63, il, ha, (by show 2 ≤ sizeLine; decide), fun b hb => ?_⟩
    refine ⟨_, rfl, _, _, rfl, rfl, (by show 2 ≤ sizeLine; decide), fun a ha => ?_⟩
    exact kS.tups es rfl rfl hb ha
  · have n3 : a ∉ Sg.syms := fun h => c3 (decide_eq_true (by rw [show zSym.cps.toList = Sg.syms from zSym_codes]; exact h))
    have es : Sg.signAt ((codes z).drop i) = none := by rw [ed, Sg.signAt_cons, if_neg n1, if_neg n2, if_neg n3]
    refine msg_of (fun out => ?_) (all_cons (part_str (by decide +kernel)) (all_cons (part_fmtI (n := (i : Int) + 1) (fun Q q => ⟨_, rfl, _, _, rfl, rfl, q⟩) (by omega) (by omega)) (all_cons (part_str (by decide +kernel)) all_nil))) (by decide)
    exact kN es _ (Same.refl _)
/-! ### signs_of -/
def SgL (H : Hp) (p : Addr) (ss : List Sg.S) : Prop := ∃ as : List Addr, H p = some (.lst (as.map V.ref)) ∧ SgAll H as ss
def spSigns (CB : Addr) : Sp := fun vs H Q E => ∃ (z : Str), vs = [.str z] ∧ z.length ≤ sizeLine ∧
  (∀ ss, Sg.lex (codes z) = some ss → ∀ (H' : Hp) (p : Addr), Same H H' → H p = none → SgL H' p ss → Q (.ref p) H') ∧ (Sg.lex (codes z) = none → ∀ H', Same H H' → E (.ref CB) none H')
theorem scO : FnScope ["line", "signs", "at", "sign"] ["line"] (defScope d_signs_of) := ⟨rfl, rfl, rfl, by decide +kernel, rfl, by decide +kernel, by decide +kernel⟩
theorem space_iff {a : Nat} : V.str ⟨#[a]⟩ = V.str (Str.ofString " ") ↔ a = 32 := by
  rw [show Str.ofString " " = ⟨#[32]⟩ by decide +kernel]
  exact one_code
theorem map_map_app {o : Option (List Sg.S)} {xs : List Sg.S} {s : Sg.S} : (o.map (s :: ·)).map (xs ++ ·) = o.map ((xs ++ [s]) ++ ·) := by
  cases o with
  | none => rfl
  | some y =>
    show some (xs ++ s :: y) = some ((xs ++ [s]) ++ y)
    rw [List.append_assoc]
    rfl
theorem ok_signs {f : Addr} {fd : FuncData} {k : Nat} (F : Fun K "signs_of" "signs_of" d_signs_of f fd) (T : Tx K mg CB) (cG : CalX P w K mg base (L2.CX P w) k "_sign_from" ["line", "start"] (spSign CB)) : FnOk P w K mg base (L2.CX P w) (k + 1) f fd ["line"] (spSigns CB) := by
  refine F.okX scO (fun vs H Q E h => ?_) (fun cdv A outer s H vs Q E hr h => ?_)
  · obtain ⟨z, rfl, _⟩ := h
    rfl
  obtain ⟨z, rfl, hz, kS, kN⟩ := h
  refine ⟨_, pss_cons (ps_set (i := 1) scO.nd rfl (.inl rfl) (pe_lst pa_nil))
    (pss_cons (ps_set (i := 2) scO.nd rfl (.inl rfl) pe_int)
    (pss_cons (ps_while (passes_of rfl) (pt_cmpR op_lt (pv 2) (pe_callB call_len_str (by rfl) T.ml PySem.boot_len (pa_cons (pv 0) pa_nil)) (nomark _))
      (pss_one (ps_if (pt_cmpR op_eq (pe_item_str (pv 0) (pv 2) (fun _ _ => rfl)) pe_str (nomark _))
        (pss_one (ps_aug (i := 2) scO.nd rfl (.inl rfl) pe_int ip_add))
        (pss_cons (ps_asg (pe_cx cG hr (by rfl) (fun σ => passAt (takes_of rfl rfl rfl rfl) σ) (pa_cons (pv 0) (pa_cons (pv 2) pa_nil))) (pg_tup rfl (pgs_cons (pg_name (i := 3) scO.nd rfl (.inl rfl)) (pgs_cons (pg_name (i := 2) scO.nd rfl (.inl rfl)) pgs_nil))))
        (pss_one (ps_expr (pe_bm PySem.F.plainAttrs_list PySem.F.slot_list_append PySem.F.type_list_append mt_append (pv 1) (pa_cons (pv 3) pa_nil))))))))
    (pss_one (ps_ret (pv 1))))), ?_⟩
  have hcl := len_codes z
  have hz2 := line_cap hz
  refine ⟨Nat.zero_le _, fun l hl => ?_⟩
  refine ⟨fun m σ H' => ∃ (j : Nat) (sv : Option V) (as : List Addr) (ss : List Sg.S), σ = [some (.str z), some (.ref l), some (.int (j : Int)), sv] ∧ m = z.length - j ∧ j ≤ z.length ∧ Same H H' ∧ H' l = some (.lst (as.map V.ref)) ∧ SgAll H' as ss ∧ as.length ≤ j ∧ Sg.lex (codes z) = (Sg.lex ((codes z).drop j)).map (ss ++ ·),
    ⟨_, 0, none, [], [], rfl, rfl, Nat.zero_le _, same_new hl _, upd_same, .nil, Nat.zero_le _, ?_⟩, ?_⟩
  · rw [List.drop_zero]
    cases Sg.lex (codes z) <;> rfl
  rintro m σ H1 ⟨j, sv, as, ss, rfl, rfl, hj, s1, hL, hA, hn, ex⟩
  refine ⟨_, rfl, _, rfl, z, rfl, hz, _, _, rfl, rfl, _, rfl, ite2 (fun c => ?_) (fun c => ?_)⟩
  · have hjl : j < z.length := by
      have := of_decide_eq_true c
      omega
    obtain ⟨a, ha, hb⟩ := code_at z hjl
    have ed := drop_cons hb
    refine ⟨fun σ' H' => ∃ (j' : Nat) (sv : Option V) (as : List Addr) (ss : List Sg.S), σ' = [some (.str z), some (.ref l), some (.int (j' : Int)), sv] ∧ j < j' ∧ j' ≤ z.length ∧ Same H H' ∧ H' l = some (.lst (as.map V.ref)) ∧ SgAll H' as ss ∧ as.length ≤ j' ∧ Sg.lex (codes z) = (Sg.lex ((codes z).drop j')).map (ss ++ ·), fun σ' H' hN => ?_, ?_⟩
    · obtain ⟨j', sv', as', ss', e1, e2, e3, e4, e5, e6, e7, e8⟩ := hN
      exact ⟨z.length - j', by omega, j', sv', as', ss', e1, rfl, e3, e4, e5, e6, e7, e8⟩
    refine ⟨_, rfl, _, rfl, z, _, a, rfl, rfl, by omega, size63 (by omega), by omega, ha, rfl, _, rfl, ite2 (fun c2 => ?_) (fun c2 => ?_)⟩
    · have ea : a = 32 := space_iff.mp (of_decide_eq_true c2)
      rw [ed, ea, Sg.lex_space] at ex
      exact ⟨_, rfl, _, _, rfl, rfl, j + 1, sv, as, ss, rfl, by omega, by omega, s1, hL, hA, by omega, ex⟩
    · have na : a ≠ 32 := fun e => c2 (decide_eq_true (space_iff.mpr e))
      refine ⟨_, rfl, _, rfl, z, j, rfl, hz, hjl, fun sg n e H2 t b s2 ht hb2 => ?_, fun e H2 s2 => ?_⟩
      · -- a sign
        have bd := Sg.signAt_bounds e
        rw [List.length_drop, hcl] at bd
        have e2 : Sg.lex ((codes z).drop j) = (Sg.lex ((codes z).drop (j + n))).map (sg :: ·) := by
          rw [ed] at e
          have := Sg.lex_sign na e
          rw [ed, this, ← ed, List.drop_drop]
        refine ⟨t, _, rfl, .inl (.inl ht), rfl, .ref b, _, rfl, _, [], rfl, rfl, ?_⟩
        have hL2 := s2 _ _ hL
        refine ⟨_, rfl, .inl ⟨rfl, _, .inl (.inl hL2)⟩, .ref b, rfl, l, _, _, rfl, rfl, hL2, ?_, ?_⟩
        · rw [List.length_map, sizeLine_eq]
          omega
        · refine ⟨j + n, some (.ref b), as ++ [b], ss ++ [sg], rfl, by omega, by omega, fun q o hq => ?_, ?_, ?_, ?_, ?_⟩
          · rw [upd_ne (ne_of_none hq hl)]
            exact s2 _ _ (s1 _ _ hq)
          · rw [upd_same, List.map_append]
            rfl
          · exact SgAll.put (Paired.snoc (SgAll.same hA s2) hb2) hL2
          · rw [List.length_append, List.length_singleton]
            omega
          · rw [ex, e2, map_map_app]
      · rw [ed] at e
        have e2 := Sg.lex_bad na e
        rw [ed, e2] at ex
        exact kN ex _ (s1.trans s2)
  · have e : j = z.length := by
      have := of_decide_eq_false (Bool.eq_false_iff.mpr c)
      omega
    refine ⟨_, rfl, ?_⟩
    rw [List.drop_eq_nil_of_le (by omega), Sg.lex_nil] at ex
    have ex2 : Sg.lex (codes z) = some ss := by
      rw [ex]
      show some (ss ++ []) = some ss
      rw [List.append_nil]
    exact kS ss ex2 H1 l s1 hl ⟨as, hL, hA⟩
end
end My
namespace My
open PySem PySem.Spec PyProof.Rows L2

/-! ### the law's draws: a cell, the digits of one, the stream, the next digit -/
/-- built-in names that the draws call -/
structure DrTx (mg : Str → Option Value) : Prop where
  ml : mg "len" = none
  mi : mg "int" = none
  ma : mg "abs" = none
  mr : mg "range" = none
/-- all but what stands at pl is kept -/
def But (pl : Addr) (H H' : Hp) : Prop := ∀ b o, H b = some o → b ≠ pl → H' b = some o
theorem But.refl (pl : Addr) (H : Hp) : But pl H H := fun _ _ e _ => e
theorem But.trans {pl : Addr} {H H1 H2 : Hp} (a : But pl H H1) (b : But pl H1 H2) : But pl H H2 := fun c o e n => b c o (a c o e n) n
theorem But.of {pl : Addr} {H H1 : Hp} (a : Same H H1) : But pl H H1 := fun c o e _ => a c o e
theorem But.same {pl : Addr} {H H1 : Hp} (a : But pl H H1) (h : H pl = none) : Same H H1 := fun c o e => a c o e (ne_of_none e h)
def spCell (K : PySem.W.Frag) : Sp := fun vs H Q _ => ∃ (a : Addr) (ns : List Int) (k : Int), vs = [.ref a, .int k] ∧ SqL K H a (ns.map V.int) ∧ 0 ≤ k ∧ ∀ v : Int, Q (.int v) H
theorem scCell : FnScope ["script", "k"] ["script", "k"] (defScope d__law_cell) := ⟨rfl, rfl, rfl, by decide +kernel, rfl, by decide +kernel, by decide +kernel⟩
theorem cell_item {ns : List Int} {k : Int} (h0 : 0 ≤ k) (h : k < (ns.length : Int)) : ∃ v : Int, atI (ns.map V.int) k = some (.int v) := by
  obtain ⟨j, rfl⟩ : ∃ j : Nat, k = (j : Int) := ⟨k.toNat, by omega⟩
  have hk : j < ns.length := by omega
  refine ⟨ns[j], ?_⟩
  exact atI_nat (by rw [List.getElem?_map, List.getElem?_eq_getElem hk] <;> rfl)
/-- digits from 0 to 59 -/
def Small60 (ds : List Int) : Prop := ∀ d ∈ ds, 0 ≤ d ∧ d < 60
theorem Small60.snoc {ds : List Int} {d : Int} (h : Small60 ds) (h0 : 0 ≤ d) (h1 : d < 60) : Small60 (ds ++ [d]) := fun x hx => by
  rcases List.mem_append.mp hx with hx | hx
  · exact h x hx
  · rw [List.mem_singleton.mp hx]
    exact ⟨h0, h1⟩
theorem Small60.app {ds es : List Int} (h : Small60 ds) (h' : Small60 es) : Small60 (ds ++ es) := fun x hx => by
  rcases List.mem_append.mp hx with hx | hx
  · exact h x hx
  · exact h' x hx
/-- the stream at st: its digits at dl, its place at pl -/
structure StreamAt (H : Hp) (st dl pl : Addr) : Prop where
  str : H st = some (.lst [.ref dl, .ref pl])
  dig : ∃ ds : List Int, H dl = some (.lst (ds.map V.int)) ∧ 0 < ds.length ∧ Small60 ds
  pos : ∃ i : Int, H pl = some (.lst [.int i])
  ns : st ≠ pl
  nd : dl ≠ pl
theorem mod_in {i m : Int} (h : 0 < m) : 0 ≤ i % m ∧ i % m < m := ⟨Int.emod_nonneg i (by omega), Int.emod_lt_of_pos i h⟩
section
variable {P : Program} {w : World} {K : PySem.W.Frag} {mg : Str → Option Value} {base : Heap}
theorem ok_cell {f : Addr} {fd : FuncData} {k : Nat} (F : Fun K "_law_cell" "_law_cell" d__law_cell f fd) (D : DrTx mg) : FnOk P w K mg base CX0 (k + 1) f fd ["script", "k"] (spCell K) := by
  refine F.ok scCell (fun vs H Q E h => ?_) (fun cdv A outer s H vs Q E hr h => ?_)
  · obtain ⟨a, ns, k, rfl, _⟩ := h
    rfl
  obtain ⟨a, ns, k, rfl, hS, h0, q⟩ := h
  refine ⟨_, pss_cons (ps_if (pt_cmpR op_lt (pv 1) (pe_callB call_len_seq (by rfl) D.ml PySem.boot_len (pa_cons (pv 0) pa_nil)) (nomark _))
      (pss_one (ps_ret (pe_callTy call_int1 (by rfl) D.mi (by decide +kernel) (pa_cons (pe_ix ix_list (pv 0) (pv 1) (fun _ _ => rfl)) pa_nil)))) pss_nil)
    (pss_one (ps_ret pe_int)), ?_⟩
  refine ⟨_, rfl, _, rfl, a, _, rfl, .inl hS, _, _, rfl, rfl, _, rfl, ite2 (fun c => ?_) (fun c => q 0)⟩
  have h1 := of_decide_eq_true c
  rw [List.length_map] at h1
  obtain ⟨v, hv⟩ := cell_item (ns := ns) h0 h1
  exact ⟨_, rfl, _, rfl, a, _, k, _, rfl, rfl, hS, hv, .inl ⟨v, rfl, q v⟩⟩
end
end My
namespace My
open PySem PySem.Spec PyProof.Rows L2

def spDraws : Sp := fun vs H Q _ => ∃ (c : Int), vs = [.int c, .int 12] ∧ ∀ (H' : Hp) (p : Addr) (ds : List Int), Same H H' → H p = none → H' p = some (.lst (ds.map V.int)) → ds.length = 12 → Small60 ds → Q (.ref p) H'
theorem scDraws : FnScope ["cell", "count", "number", "great", "found", "k", "mixed"] ["cell", "count"] (defScope d__law_draws) := ⟨rfl, rfl, rfl, by decide +kernel, rfl, by decide +kernel, by decide +kernel⟩
def spStream (K : PySem.W.Frag) : Sp := fun vs H Q _ => ∃ (a : Addr) (ns : List Int) (first n : Nat), vs = [.ref a, .int (first : Int), .int (n : Int)] ∧ SqL K H a (ns.map V.int) ∧ 0 < n ∧ n ≤ 1000 ∧
  ∀ (H' : Hp) (st dl pl : Addr), Same H H' → H pl = none → StreamAt H' st dl pl → Q (.ref st) H'
theorem scStream : FnScope ["script", "first", "count", "found", "k"] ["script", "first", "count"] (defScope d__law_stream) := ⟨rfl, rfl, rfl, by decide +kernel, rfl, by decide +kernel, by decide +kernel⟩
def spNext : Sp := fun vs H Q _ => ∃ (st dl pl : Addr) (many : Int), vs = [.ref st, .int many] ∧ StreamAt H st dl pl ∧ 0 < many ∧ ∀ (v : Int) (H' : Hp), 0 ≤ v → v < many → But pl H H' → StreamAt H' st dl pl → Q (.int v) H'
theorem scNext : FnScope ["stream", "many", "digits", "place", "value"] ["stream", "many"] (defScope d__law_next) := ⟨rfl, rfl, rfl, by decide +kernel, rfl, by decide +kernel, by decide +kernel⟩
section
variable {P : Program} {w : World} {K : PySem.W.Frag} {mg : Str → Option Value} {base : Heap}
theorem ok_draws {f : Addr} {fd : FuncData} {k : Nat} (F : Fun K "_law_draws" "_law_draws" d__law_draws f fd) (D : DrTx mg) : FnOk P w K mg base CX0 (k + 1) f fd ["cell", "count"] spDraws := by
  refine F.ok scDraws (fun vs H Q E h => ?_) (fun cdv A outer s H vs Q E hr h => ?_)
  · obtain ⟨c, rfl, _⟩ := h
    rfl
  obtain ⟨c, rfl, q⟩ := h
  refine ⟨_, pss_cons (ps_set (i := 2) scDraws.nd rfl (.inl rfl) (pe_callB call_abs (by rfl) D.ma (by decide +kernel) (pa_cons (pe_callTy call_int1 (by rfl) D.mi (by decide +kernel) (pa_cons (pv 0) pa_nil)) pa_nil)))
    (pss_cons (ps_set (i := 3) scDraws.nd rfl (.inl rfl) (pe_cmpR op_ge (pv 2) (pe_op op_pow pe_int pe_int) (nomark _)))
    (pss_cons (ps_set (i := 4) scDraws.nd rfl (.inl rfl) (pe_lst pa_nil))
    (pss_cons (ps_for PassesOwn.never rfl (pi_range1 rfl D.mr (pa_cons pe_int pa_nil)) (pg_name (i := 5) scDraws.nd rfl (.inl rfl))
      (pss_one (ps_if (PW.pt (pw_and (pt_cmpR op_lt (pv 5) (pv 1) (nomark _)) (pw_and1 (pt_val (pv 3)))))
        (pss_cons (ps_expr (pe_bm PySem.F.plainAttrs_list PySem.F.slot_list_append PySem.F.type_list_append mt_append (pv 4) (pa_cons (pe_op op_mod (pv 2) pe_int) pa_nil)))
        (pss_one (ps_set (i := 2) scDraws.nd rfl (.inl rfl) (pe_op op_fdiv (pv 2) pe_int))))
        (pss_one (ps_if (pt_cmpR op_lt (pv 5) (pv 1) (nomark _))
          (pss_cons (ps_set (i := 6) scDraws.nd rfl (.inl rfl) (pe_op op_mod (pe_op op_add (pe_op op_add (pe_op op_mul (pe_callTy call_int1 (by rfl) D.mi (by decide +kernel) (pa_cons (pv 2) pa_nil)) pe_int) (pe_op op_mul (pv 5) pe_int)) pe_int) pe_int))
          (pss_cons (ps_set (i := 6) scDraws.nd rfl (.inl rfl) (pe_op op_mod (pe_op op_add (pe_op op_add (pe_op op_mul (pe_callTy call_int1 (by rfl) D.mi (by decide +kernel) (pa_cons (pv 6) pa_nil)) (pe_callTy call_int1 (by rfl) D.mi (by decide +kernel) (pa_cons (pv 6) pa_nil))) (pe_op op_mul (pv 5) pe_int)) pe_int) pe_int))
          (pss_one (ps_expr (pe_bm PySem.F.plainAttrs_list PySem.F.slot_list_append PySem.F.type_list_append mt_append (pv 4) (pa_cons (pe_op op_mod (pe_callTy call_int1 (by rfl) D.mi (by decide +kernel) (pa_cons (pv 6) pa_nil)) pe_int) pa_nil)))))) pss_nil)))))
    (pss_one (ps_ret (pv 4)))))), ?_⟩
  refine ⟨_, rfl, .inl ⟨c, rfl, c, rfl, ?_⟩⟩
  have hn : 0 ≤ (if c < 0 then -c else c) := by split <;> omega
  generalize hN : (if c < 0 then -c else c) = num at *
  refine ⟨_, rfl, _, _, rfl, rfl, ⟨by omega, by omega, by decide⟩, _, _, rfl, rfl, ?_⟩
  refine ⟨Nat.zero_le _, fun l hl => ?_⟩
  refine ⟨60, rfl, by omega, by omega, for_range (lo := 0) (n := 60) (fun i σ H' => ∃ (great : Bool) (num : Int) (kv mv : Option V) (ds : List Int), σ = [some (.int c), some (.int 12), some (.int num), some (.bl great), some (.ref l), kv, mv] ∧ 0 ≤ num ∧ Same H H' ∧ H' l = some (.lst (ds.map V.int)) ∧ ds.length = min i 12 ∧ Small60 ds)
    ⟨_, num, none, none, [], rfl, hn, same_new hl _, upd_same, rfl, fun d hd => by cases hd⟩ ?_ ?_⟩
  · rintro i σ H1 hi ⟨great, num, kv, mv, ds, rfl, hn, s1, hL, hlen, hs⟩
    have room : (ds.map V.int).length < sizeLine := by
      rw [List.length_map, sizeLine_eq, hlen]
      omega
    have next : ∀ (num' : Int) (mv' : Option V) (d : Int), i < 12 → 0 ≤ num' → 0 ≤ d → d < 60 → ∃ (great' : Bool) (num : Int) (kv mv : Option V) (ds' : List Int), ([some (.int c), some (.int 12), some (.int num'), some (.bl great), some (.ref l), some (.int (0 + (i : Int))), mv'] : L2.St) = [some (.int c), some (.int 12), some (.int num), some (.bl great'), some (.ref l), kv, mv] ∧ 0 ≤ num ∧
        Same H (upd H1 l (.lst (ds.map V.int ++ [V.int d]))) ∧ (upd H1 l (.lst (ds.map V.int ++ [V.int d]))) l = some (.lst (ds'.map V.int)) ∧ ds'.length = min (i + 1) 12 ∧ Small60 ds' := fun num' mv' d h12 h1 h2 h3 => by
      refine ⟨great, num', _, mv', ds ++ [d], rfl, h1, fun b o e => ?_, ?_, ?_, hs.snoc h2 h3⟩
      · rw [upd_ne (ne_of_none e hl)]
        exact s1 _ _ e
      · rw [upd_same, List.map_append]
        rfl
      · rw [List.length_append, List.length_singleton, hlen]
        omega
    refine ⟨_, rfl, _, rfl, _, _, rfl, rfl, _, rfl, ite2 (fun c1 => ?_) (fun c1 => ?_)⟩
    · have h12 : i < 12 := by
        have := of_decide_eq_true c1
        omega
      refine ⟨_, rfl, great, rfl, ite2 (fun cg => ?_) (fun cg => ?_)⟩
      · refine ⟨_, rfl, .inl ⟨rfl, _, .inl (.inl hL)⟩, _, rfl, _, _, rfl, rfl, (by show (0 : Int) < 60; decide), l, _, _, rfl, rfl, hL, room, ?_⟩
        refine ⟨_, rfl, _, _, rfl, rfl, ⟨by decide, by decide⟩, ?_⟩
        have m := mod_in (i := num) (m := 60) (by decide)
        exact next (num / 60) mv (num % 60) h12 (Int.ediv_nonneg hn (by decide)) m.1 m.2
      · refine ⟨_, rfl, _, rfl, _, _, rfl, rfl, _, rfl, iteT' c1 ?_⟩
        refine ⟨_, rfl, .inl ⟨num, rfl, ?_⟩⟩
        refine ⟨_, _, rfl, rfl, .inr ⟨by decide, by decide⟩, _, rfl, _, _, rfl, rfl, .inr ⟨by decide, by decide⟩, _, _, rfl, rfl, _, _, rfl, rfl, _, _, rfl, rfl, (by show (0 : Int) < 2147483647; decide), ?_⟩
        have m1 := mod_in (i := num * 48271 + (0 + (i : Int)) * 69621 + 11) (m := 2147483647) (by decide)
        have c2 : CMul ((num * 48271 + (0 + (i : Int)) * 69621 + 11) % 2147483647) ((num * 48271 + (0 + (i : Int)) * 69621 + 11) % 2147483647) := .inr ⟨by omega, by omega⟩
        refine ⟨_, rfl, .inl ⟨_, rfl, ?_⟩⟩
        refine ⟨_, rfl, .inl ⟨_, rfl, ?_⟩⟩
        refine ⟨_, _, rfl, rfl, c2, _, rfl, _, _, rfl, rfl, .inr ⟨by decide, by decide⟩, _, _, rfl, rfl, _, _, rfl, rfl, _, _, rfl, rfl, (by show (0 : Int) < 998244353; decide), ?_⟩
        refine ⟨_, rfl, .inl ⟨rfl, _, .inl (.inl hL)⟩, _, rfl, .inl ⟨_, rfl, _, _, rfl, rfl, (by show (0 : Int) < 60; decide), l, _, _, rfl, rfl, hL, room, ?_⟩⟩
        have m := mod_in (i := ((num * 48271 + (0 + (i : Int)) * 69621 + 11) % 2147483647 * ((num * 48271 + (0 + (i : Int)) * 69621 + 11) % 2147483647) + (0 + (i : Int)) * 7919 + 5) % 998244353) (m := 60) (by decide)
        exact next num _ _ h12 hn m.1 m.2
    · refine ⟨_, rfl, _, rfl, _, _, rfl, rfl, _, rfl, iteF' c1 ?_⟩
      have := of_decide_eq_false (Bool.eq_false_iff.mpr c1)
      exact ⟨great, num, _, mv, ds, rfl, hn, s1, hL, by rw [hlen]; omega, hs⟩
  · rintro σ H1 ⟨great, num, kv, mv, ds, rfl, hn, s1, hL, hlen, hs⟩
    exact ⟨_, rfl, q H1 l ds s1 hl hL hlen hs⟩
theorem ok_stream {f : Addr} {fd : FuncData} {k : Nat} (F : Fun K "_law_stream" "_law_stream" d__law_stream f fd) (D : DrTx mg) (cC : CalX P w K mg base CX0 k "_law_cell" ["script", "k"] (spCell K)) (cD : CalX P w K mg base CX0 k "_law_draws" ["cell", "count"] spDraws) :
    FnOk P w K mg base CX0 (k + 1) f fd ["script", "first", "count"] (spStream K) := by
  refine F.ok scStream (fun vs H Q E h => ?_) (fun cdv A outer s H vs Q E hr h => ?_)
  · obtain ⟨a, ns, first, n, rfl, _⟩ := h
    rfl
  obtain ⟨a, ns, first, n, rfl, hS, h0, h1, q⟩ := h
  refine ⟨_, pss_cons (ps_set (i := 3) scStream.nd rfl (.inl rfl) (pe_lst pa_nil))
    (pss_cons (ps_for PassesOwn.never rfl (pi_range1 rfl D.mr (pa_cons (pv 2) pa_nil)) (pg_name (i := 4) scStream.nd rfl (.inl rfl))
      (pss_one (ps_expr (pe_bm PySem.F.plainAttrs_list PySem.F.slot_list_extend PySem.F.type_list_extend mt_extend (pv 3) (pa_cons (pe_cx cD hr (by rfl) pat0 (pa_cons (pe_cx cC hr (by rfl) pat0 (pa_cons (pv 0) (pa_cons (pe_op op_add (pv 1) (pv 4)) pa_nil))) (pa_cons pe_int pa_nil))) pa_nil)))))
    (pss_one (ps_ret (pe_lst (pa_cons (pv 3) (pa_cons (pe_lst (pa_cons pe_int pa_nil)) pa_nil)))))), ?_⟩
  refine ⟨Nat.zero_le _, fun l hl => ?_⟩
  refine ⟨_, rfl, (n : Int), rfl, by omega, by omega, ?_⟩
  rw [Int.toNat_natCast]
  refine for_range (lo := 0) (n := n) (fun i σ H' => ∃ (kv : Option V) (ds : List Int), σ = [some (.ref a), some (.int (first : Int)), some (.int (n : Int)), some (.ref l), kv] ∧ Same H H' ∧ H' l = some (.lst (ds.map V.int)) ∧ ds.length = 12 * i ∧ Small60 ds)
    ⟨none, [], rfl, same_new hl _, upd_same, rfl, fun d hd => by cases hd⟩ ?_ ?_
  · rintro i σ H1 hi ⟨kv, ds, rfl, s1, hL, hlen, hs⟩
    refine ⟨_, rfl, .inl ⟨rfl, _, .inl (.inl hL)⟩, ?_⟩
    refine ⟨_, rfl, _, rfl, _, rfl, _, _, rfl, rfl, a, ns, (first : Int) + (0 + (i : Int)), rfl, s1.seq hS, by omega, fun v => ?_⟩
    refine ⟨v, rfl, fun H2 p es s2 hp hP hel hes => ?_⟩
    have hL2 := s2 _ _ hL
    refine ⟨l, p, _, _, rfl, rfl, hL2, hP, ?_, ?_⟩
    · rw [List.length_map, List.length_map, sizeLine_eq, hlen, hel]
      omega
    · refine ⟨_, ds ++ es, rfl, fun b o e => ?_, ?_, ?_, hs.app hes⟩
      · rw [upd_ne (ne_of_none e hl)]
        exact s2 _ _ (s1 _ _ e)
      · rw [upd_same, List.map_append]
      · rw [List.length_append, hlen, hel]
        omega
  · rintro σ H1 ⟨kv, ds, rfl, s1, hL, hlen, hs⟩
    refine ⟨_, rfl, (by show 1 ≤ sizeLine; decide), fun pl hp => ?_⟩
    refine ⟨(by show 2 ≤ sizeLine; decide), fun st hst => ?_⟩
    have nlp : l ≠ pl := ne_of_none hL hp
    have npl : pl ≠ st := ne_of_none upd_same hst
    have nls : l ≠ st := ne_of_none (by rw [upd_ne nlp]; exact hL) hst
    refine q _ st l pl ((s1.trans (same_new hp _)).trans (same_new hst _)) (s1.free hp) ⟨upd_same, ⟨ds, ?_, by omega, hs⟩, ⟨0, ?_⟩, npl.symm, nlp⟩
    · rw [upd_ne nls, upd_ne nlp]
      exact hL
    · rw [upd_ne npl]
      exact upd_same
theorem ok_next {f : Addr} {fd : FuncData} {k : Nat} (F : Fun K "_law_next" "_law_next" d__law_next f fd) (D : DrTx mg) : FnOk P w K mg base CX0 (k + 1) f fd ["stream", "many"] spNext := by
  refine F.ok scNext (fun vs H Q E h => ?_) (fun cdv A outer s H vs Q E hr h => ?_)
  · obtain ⟨st, dl, pl, many, rfl, _⟩ := h
    rfl
  obtain ⟨st, dl, pl, many, rfl, ⟨hst, ⟨ds, hd, h0, hs⟩, ⟨i, hp⟩, ns, nd⟩, hm, q⟩ := h
  refine ⟨_, pss_cons (ps_set (i := 2) scNext.nd rfl (.inl rfl) (pe_ix ix_list (pv 0) pe_int (fun _ _ => rfl)))
    (pss_cons (ps_set (i := 3) scNext.nd rfl (.inl rfl) (pe_ix ix_list (pv 0) pe_int (fun _ _ => rfl)))
    (pss_cons (ps_set (i := 4) scNext.nd rfl (.inl rfl) (pe_op op_mod (pe_callTy call_int1 (by rfl) D.mi (by decide +kernel) (pa_cons (pe_ix ix_list (pv 2) (pe_op op_mod (pe_callTy call_int1 (by rfl) D.mi (by decide +kernel) (pa_cons (pe_ix ix_list (pv 3) pe_int (fun _ _ => rfl)) pa_nil)) (pe_callB call_len_seq (by rfl) D.ml PySem.boot_len (pa_cons (pv 2) pa_nil))) (fun _ _ => rfl)) pa_nil)) (pv 1)))
    (pss_cons (ps_asg (pe_op op_add (pe_ix ix_list (pv 3) pe_int (fun _ _ => rfl)) pe_int) (pg_sub (pv 3) pe_int set_list))
    (pss_one (ps_ret (pv 4)))))), ?_⟩
  refine ⟨_, rfl, st, _, 0, .ref dl, rfl, rfl, .inl (.inl hst), atI_nat (j := 0) rfl, ?_⟩
  refine ⟨_, rfl, st, _, 1, .ref pl, rfl, rfl, .inl (.inl hst), atI_nat (j := 1) rfl, ?_⟩
  have m := mod_in (i := i) (m := (ds.length : Int)) (by omega)
  obtain ⟨j, hj⟩ : ∃ j : Nat, i % (ds.length : Int) = (j : Int) := ⟨(i % (ds.length : Int)).toNat, by omega⟩
  have hjl : j < ds.length := by omega
  have hlm : (ds.map V.int).length = ds.length := List.length_map _
  have he : atI (ds.map V.int) (i % (((ds.map V.int).length : Nat) : Int)) = some (.int ds[j]) := by
    rw [hlm, hj]
    exact atI_nat (by rw [List.getElem?_map, List.getElem?_eq_getElem hjl] <;> rfl)
  refine ⟨_, rfl, _, rfl, pl, _, 0, .int i, rfl, rfl, .inl (.inl hp), atI_nat (j := 0) rfl, .inl ⟨i, rfl, _, rfl, dl, _, rfl, .inl (.inl (.inl hd)), _, _, rfl, rfl, (by show (0 : Int) < (((ds.map V.int).length : Nat) : Int); omega), ?_⟩⟩
  refine ⟨dl, _, _, .int ds[j], rfl, rfl, .inl (.inl hd), he, .inl ⟨ds[j], rfl, _, rfl, _, _, rfl, rfl, hm, ?_⟩⟩
  have mm := mod_in (i := ds[j]) (m := many) hm
  refine ⟨_, rfl, pl, _, 0, .int i, rfl, rfl, .inl (.inl hp), atI_nat (j := 0) rfl, _, _, rfl, rfl, _, rfl, pl, _, 0, 0, rfl, rfl, hp, rfl, ?_⟩
  refine ⟨_, rfl, q _ _ mm.1 mm.2 (fun b o e n => by rw [upd_ne n]; exact e) ⟨?_, ⟨ds, ?_, h0, hs⟩, ⟨i + 1, upd_same⟩, ns, nd⟩⟩
  · rw [upd_ne ns]; exact hst
  · rw [upd_ne nd]; exact hd
end
end My
namespace My
open PySem PySem.Spec PyProof.Rows L2

/-! ### streams and texts, more -/
theorem StreamAt.same {H H' : Hp} {st dl pl : Addr} (s : StreamAt H st dl pl) (e : Same H H') : StreamAt H' st dl pl := by
  obtain ⟨h1, ⟨ds, h2, h3⟩, ⟨i, h4⟩, h5, h6⟩ := s
  exact ⟨e _ _ h1, ⟨ds, e _ _ h2, h3⟩, ⟨i, e _ _ h4⟩, h5, h6⟩
/-- another object is stored -/
theorem StreamAt.put {H : Hp} {st dl pl D : Addr} {o : HO} (s : StreamAt H st dl pl) (n1 : st ≠ D) (n2 : dl ≠ D) (n3 : pl ≠ D) : StreamAt (upd H D o) st dl pl := by
  obtain ⟨h1, ⟨ds, h2, h3⟩, ⟨i, h4⟩, h5, h6⟩ := s
  exact ⟨by rw [upd_ne n1]; exact h1, ⟨ds, by rw [upd_ne n2]; exact h2, h3⟩, ⟨i, by rw [upd_ne n3]; exact h4⟩, h5, h6⟩
theorem StreamAt.off {H : Hp} {st dl pl D : Addr} (s : StreamAt H st dl pl) (h : H D = none) : st ≠ D ∧ dl ≠ D ∧ pl ≠ D := by
  obtain ⟨h1, ⟨ds, h2, h3⟩, ⟨i, h4⟩, h5, h6⟩ := s
  exact ⟨ne_of_none h1 h, ne_of_none h2 h, ne_of_none h4 h⟩
/-- a display of written texts -/
def strsOf : List Expr → Option (List Str)
  | [] => some []
  | .Constant (.str x) _ _ :: r => (strsOf r).map (x :: ·)
  | _ => none
theorem pa_strs {X : Cx} : ∀ {es : List Expr} {zs : List Str}, strsOf es = some zs → PA X es (fun _ H Q => Q (zs.map V.str) H)
  | [], zs, h => by
    have e : [] = zs := Option.some.inj h
    subst e
    exact pa_nil
  | .Constant (.str x) j p :: r, zs, h => by
    have h' : (strsOf r).map (x :: ·) = some zs := h
    cases e : strsOf r with
    | none => rw [e] at h'; cases h'
    | some ys =>
      rw [e] at h'
      have e2 : x :: ys = zs := Option.some.inj h'
      subst e2
      exact pa_cons pe_str (pa_strs e)
theorem codes_app (a b : Str) : codes (a ++ b) = codes a ++ codes b := by
  show (a.cps ++ b.cps).toList = a.cps.toList ++ b.cps.toList
  exact Array.toList_append
theorem codes_sp : codes (Str.ofString " ") = [32] := by decide +kernel
/-- two texts with a space between them -/
theorem lex_sp (a b : Str) : Sg.lex (codes ((a ++ Str.ofString " ") ++ b)) = (Sg.lex (codes a)).bind fun x => (Sg.lex (codes b)).map (x ++ ·) := by
  rw [codes_app, codes_app, codes_sp, List.append_assoc]
  exact Sg.lex_app _ _
def Good (z : Str) : Prop := (Sg.lex (codes z)).isSome = true
theorem good_sp {a b : Str} (h1 : Good a) (h2 : Good b) : Good ((a ++ Str.ofString " ") ++ b) := by
  unfold Good at *
  rw [lex_sp]
  obtain ⟨x, hx⟩ := Option.isSome_iff_exists.mp h1
  obtain ⟨y, hy⟩ := Option.isSome_iff_exists.mp h2
  rw [hx, hy]
  rfl
theorem good_join : ∀ ys : List Str, (∀ y ∈ ys, Good y) → Good (Str.join (Str.ofString " ") ys)
  | [], _ => by
    show (Sg.lex (codes Str.empty)).isSome = true
    rfl
  | [x], h => h x List.mem_cons_self
  | x :: y :: r, h => good_sp (h x List.mem_cons_self) (good_join (y :: r) fun z hz => h z (List.mem_cons_of_mem _ hz))
theorem join_eq (sep : Str) (ys : List Str) : Txt.join sep ys = Str.join sep ys := StrLaws.glued_eq_join sep ys
theorem sum_le {ys : List Str} {m : Nat} (h : ∀ y ∈ ys, y.length ≤ m) : (ys.map (·.length)).sum ≤ ys.length * m := by
  induction ys with
  | nil => exact Nat.zero_le _
  | cons a r ih =>
    have h1 := h a List.mem_cons_self
    have h2 := ih fun z hz => h z (List.mem_cons_of_mem _ hz)
    rw [List.map_cons, List.sum_cons, List.length_cons, Nat.succ_mul]
    omega
end My
namespace My
open PySem PySem.Spec PyProof.Rows L2

/-! ### _law_plain -/
def plainW : List Str := [Str.ofString "a", Str.ofString "loop", Str.ofString "xyz.2", Str.ofString "17", Str.ofString "(", Str.ofString "}", Str.ofString "=", Str.ofString "1000000", Str.ofString "*", Str.ofString "goto"]
theorem plainW_good : ∀ y ∈ plainW, Good y ∧ y.length ≤ 7 := by
  unfold Good
  decide +kernel
def spPlain : Sp := fun vs H Q _ => ∃ (st dl pl : Addr) (n : Nat), vs = [.ref st, .int (n : Int)] ∧ n ≤ 8 ∧ StreamAt H st dl pl ∧ ∀ (z : Str) (H' : Hp), Good z → z.length ≤ 1000 → But pl H H' → StreamAt H' st dl pl → Q (.str z) H'
theorem scPlain : FnScope ["stream", "count", "words", "k"] ["stream", "count"] (defScope d__law_plain) := ⟨rfl, rfl, rfl, by decide +kernel, rfl, by decide +kernel, by decide +kernel⟩
section
variable {P : Program} {w : World} {K : PySem.W.Frag} {mg : Str → Option Value} {base : Heap} {CB CW : Addr}
theorem ok_plain {f : Addr} {fd : FuncData} {k : Nat} (F : Fun K "_law_plain" "_law_plain" d__law_plain f fd) (D : DrTx mg) (cN : CalX P w K mg base CX0 k "_law_next" ["stream", "many"] spNext) : FnOk P w K mg base CX0 (k + 1) f fd ["stream", "count"] spPlain := by
  refine F.ok scPlain (fun vs H Q E h => ?_) (fun cdv A outer s H vs Q E hr h => ?_)
  · obtain ⟨st, dl, pl, n, rfl, _⟩ := h
    rfl
  obtain ⟨st, dl, pl, n, rfl, hn, hS, q⟩ := h
  refine ⟨_, pss_cons (ps_set (i := 2) scPlain.nd rfl (.inr rfl) (pe_lst (pa_strs (zs := plainW) rfl)))
    (pss_one (ps_ret (pe_join pe_str (pe_lc (own := [("k", 3)]) (g := gName 3) (tt := tYes) (te := tOp (rIxL K) (tVar 2) (tCallS spNext (fun _ => E0) (tCons (tVar 0) (tCons (tC (.int 10)) tNil)))) rfl scPlain.nd (pi_range1 rfl D.mr (pa_cons (pv 1) pa_nil)) (blkOk_by (N := ["stream", "count", "words", "k"]) (sc := defScope d__law_plain) (by decide +kernel))
      (fun _ _ _ _ _ => pg_name (i := 3) scPlain.nd rfl (Or.inl rfl)) (fun _ _ _ _ _ => pts_nil)
      (fun _ _ _ _ _ => pe_ix ix_list (pv 2) (pe_cx cN hr (by rfl) pat0 (pa_cons (pv 0) (pa_cons pe_int pa_nil))) (fun _ _ => rfl)))))), ?_⟩
  refine ⟨(by show 10 ≤ sizeLine; decide), fun wl hw => ?_⟩
  have o1 := hS.off hw
  have hS1 := hS.same (same_new hw (.lst (plainW.map V.str)))
  refine ⟨⟨_, rfl⟩, _, rfl, (n : Int), rfl, by omega, by omega, fun Dl hD => ?_⟩
  rw [Int.toNat_natCast]
  have o2 := hS1.off hD
  have nwD : wl ≠ Dl := ne_of_none upd_same hD
  refine lc_range (lo := 0) (n := n) (fun i H' => ∃ ys : List Str, H' Dl = some (.lst (ys.map V.str)) ∧ ys.length = i ∧ (∀ y ∈ ys, y ∈ plainW) ∧ But pl H H' ∧ StreamAt H' st dl pl ∧ H' wl = some (.lst (plainW.map V.str)))
    ⟨[], upd_same, rfl, (fun y hy => by cases hy), .of ((same_new hw _).trans (same_new hD _)), hS1.put o2.1 o2.2.1 o2.2.2, by rw [upd_ne nwD]; exact upd_same⟩ ?_ ?_
  · rintro i H2 hi ⟨ys, hL, hlen, hy, b2, s2, w2⟩
    refine ⟨rfl, ?_⟩
    refine ⟨_, rfl, _, rfl, st, dl, pl, 10, rfl, s2, by decide, fun v H3 v0 v1 b3 s3 => ?_⟩
    obtain ⟨j, rfl⟩ : ∃ j : Nat, v = (j : Int) := ⟨v.toNat, by omega⟩
    have hj : j < plainW.length := by
      show j < 10
      omega
    have w3 : H3 wl = some (.lst (plainW.map V.str)) := b3 _ _ w2 o1.2.2.symm
    have hL3 : H3 Dl = some (.lst (ys.map V.str)) := b3 _ _ hL o2.2.2.symm
    refine ⟨wl, _, (j : Int), .str plainW[j], rfl, rfl, .inl (.inl w3), atI_nat (by rw [List.getElem?_map, List.getElem?_eq_getElem hj] <;> rfl), _, hL3, ?_, ?_⟩
    · rw [List.length_map, sizeLine_eq]
      omega
    · refine ⟨ys ++ [plainW[j]], ?_, ?_, ?_, fun b o e nb => ?_, s3.put o2.1 o2.2.1 o2.2.2, ?_⟩
      · rw [upd_same, List.map_append]
        rfl
      · rw [List.length_append, List.length_singleton, hlen]
      · intro y hm
        rcases List.mem_append.mp hm with hm | hm
        · exact hy y hm
        · rw [List.mem_singleton.mp hm]
          exact List.getElem_mem hj
      · have nD : b ≠ Dl := ne_of_none (same_new hw (.lst (plainW.map V.str)) _ _ e) hD
        rw [upd_ne nD]
        exact b3 _ _ (b2 _ _ e nb) nb
      · rw [upd_ne nwD]
        exact w3
  · rintro H2 ⟨ys, hL, hlen, hy, b2, s2, w2⟩
    have g := fun y hm => plainW_good y (hy y hm)
    have hsum := sum_le (ys := ys) (m := 7) fun y hm => (g y hm).2
    have e1 : (Str.ofString " ").length = 1 := by decide +kernel
    refine ⟨_, Dl, ys, rfl, rfl, .inl (.inl (.inl hL)), ?_, ?_⟩
    · rw [e1]
      omega
    · rw [join_eq]
      refine q _ H2 (good_join ys fun y hm => (g y hm).1) ?_ b2 s2
      have := StrLaws.join_length_le (Str.ofString " ") ys
      rw [e1] at this
      omega
/-! ### _law_is_bad -/
structure BadTx (K : PySem.W.Frag) (mg : Str → Option Value) (CB CW : Addr) : Prop where
  gB : mg "BadLine" = some (.ref CB)
  gW : mg "WorkError" = some (.ref CW)
  gV : mg "ValueError" = none
  mI : mg "isinstance" = none
  eB : PySem.W.exmOne K (.ref CB) (.ref CB) = some true
  ex : ExcC K CB
  kW : PySem.W.kitOne K (.ref CB) (.ref CW) = some true
  kV : PySem.W.kitOne K (.ref CB) (.type "ValueError") = some true
def spBad : Sp := fun vs H Q _ => ∃ (z : Str), vs = [.str z] ∧ z.length ≤ sizeLine ∧ ∀ H', Same H H' → Q (.bl (Sg.lex (codes z)).isNone) H'
theorem scBad : FnScope ["line", "e"] ["line"] (defScope d__law_is_bad) := ⟨rfl, rfl, rfl, by decide +kernel, rfl, by decide +kernel, by decide +kernel⟩
/-- a reading with a side condition -/
def tIf1 (p : Prop) (t : TS) : TS := fun D σ H => p ∧ t D σ H
theorem pss_if1 {X : Cx} {st : List Stmt} {p : Prop} {t : TS} (h : p → PSs X st t) : PSs X st (tIf1 p t) := ⟨fun pins s σ H D I q => (h q.1).run pins s σ H D I q.2⟩
theorem ok_bad {f : Addr} {fd : FuncData} {k : Nat} (F : Fun K "_law_is_bad" "_law_is_bad" d__law_is_bad f fd) (T : BadTx K mg CB CW) (cS : CalX P w K mg base (L2.CX P w) k "signs_of" ["line"] (spSigns CB)) : FnOk P w K mg base CX0 (k + 1) f fd ["line"] spBad := by
  refine F.ok scBad (fun vs H Q E h => ?_) (fun cdv A outer s H vs Q E hr h => ?_)
  · obtain ⟨z, rfl, _⟩ := h
    rfl
  obtain ⟨z, rfl, hz, q⟩ := h
  refine ⟨_, pss_cons (ps_try_as (i := 1) (tb := fun W => tDrop (tCallS (spSigns CB) (WE W) (tCons (tVar 0) tNil)))
        (ts := fun a cls d => tIf1 (cls = .ref CB ∧ d = none) (tRet (tAndV (tCB (rIsE K CB a) (tCons (tVar 1) (tCons (tC (.ref CW)) tNil))) (tCB (rIsE K CB a) (tCons (tVar 1) (tCons (tC (.ty "ValueError")) tNil))))))
        (Wout := fun _ _ _ _ => False) rfl rfl scBad.nd rfl rfl ⟨rfl, by decide, Or.inl T.gB⟩ takes0
      (fun W pn xe tk _ => pss_one (ps_expr (pe_cx cS hr (by rfl) (fun σ => passAt tk σ) (pa_cons (pv 0) pa_nil))))
      (fun a oe cls d pn hz hf => pss_if1 fun hc => by
        obtain ⟨rfl, rfl⟩ := hc
        exact pss_one (ps_ret (pe_and (pe_callB (call_isE T.ex hz hf) (by rfl) T.mI (by decide +kernel) (pa_cons (pv 1) (pa_cons (pe_glob (by rfl) T.gW rfl) pa_nil)))
          (pe_one (pe_callB (call_isE T.ex hz hf) (by rfl) T.mI (by decide +kernel) (pa_cons (pv 1) (pa_cons (pe_bltn (by rfl) T.gV (by decide +kernel) rfl) pa_nil))))))))
    (pss_one (ps_ret pe_bl)), ?_⟩
  refine ⟨_, rfl, z, rfl, hz, fun ss e H1 p s1 _ _ => ?_, fun e H1 s1 => ?_⟩
  · have h := q H1 s1
    rw [e] at h
    exact h
  · refine ⟨true, T.eB, fun _ a na => ⟨⟨rfl, rfl⟩, ?_⟩, fun z => by cases z⟩
    have h := q H1 s1
    rw [e] at h
    refine ⟨_, rfl, _, _, true, rfl, (fun u r => r), T.kW, true, rfl, iteT ?_⟩
    exact ⟨_, rfl, _, _, true, rfl, (fun u r => r), T.kV, h⟩
end
end My
namespace My
open PySem PySem.Spec PyProof.Rows L2

/-! ### law -/
def badW1 : List Str := [Str.ofString "abcdefghi", Str.ofString "a.", Str.ofString "a.1", Str.ofString "a.100", Str.ofString "a.02", Str.ofString "a. 2", Str.ofString ".2", Str.ofString "2.2", Str.ofString "01", Str.ofString "1000001", Str.ofString "00", Str.ofString "A", Str.ofString "x_y", Str.ofString ">", Str.ofString "a.b"]
def badW2 : List Str := [Str.ofString "\t", Str.ofString "\n", Str.ofString "[", Str.ofString ",", Str.ofString "\"", Str.ofString "x.2.3", Str.ofString "99999999999999999999"]
theorem bad_all : ∀ y ∈ badW1 ++ badW2, Sg.lex (codes y) = none ∧ y.length ≤ 30 := by decide +kernel
theorem bad_line {a b c : Str} (h : Sg.lex (codes b) = none) : Sg.lex (codes ((((a ++ Str.ofString " ") ++ b) ++ Str.ofString " ") ++ c)) = none := by
  rw [lex_sp, lex_sp, h]
  cases Sg.lex (codes a) <;> rfl
def spLaw (K : PySem.W.Frag) : Sp := fun vs H Q _ => ∃ (a : Addr) (ns : List Int), vs = [.ref a] ∧ SqL K H a (ns.map V.int) ∧ ∀ H', Q (.bl true) H'
theorem scLaw : FnScope ["script", "stream", "wrong", "before", "behind", "bad"] ["script"] (defScope d_law) := ⟨rfl, rfl, rfl, by decide +kernel, rfl, by decide +kernel, by decide +kernel⟩
section
variable {P : Program} {w : World} {K : PySem.W.Frag} {mg : Str → Option Value} {base : Heap} {CB CW : Addr}
theorem ok_law {f : Addr} {fd : FuncData} {k : Nat} (F : Fun K "law" "law" d_law f fd) (D : DrTx mg) (cS : CalX P w K mg base CX0 k "_law_stream" ["script", "first", "count"] (spStream K)) (cN : CalX P w K mg base CX0 k "_law_next" ["stream", "many"] spNext)
    (cP : CalX P w K mg base CX0 k "_law_plain" ["stream", "count"] spPlain) (cB : CalX P w K mg base CX0 k "_law_is_bad" ["line"] spBad) : FnOk P w K mg base CX0 (k + 1) f fd ["script"] (spLaw K) := by
  refine F.ok scLaw (fun vs H Q E h => ?_) (fun cdv A outer s H vs Q E hr h => ?_)
  · obtain ⟨a, ns, rfl, _⟩ := h
    rfl
  obtain ⟨a, ns, rfl, hA, q⟩ := h
  refine ⟨_, pss_cons (ps_set (i := 1) scLaw.nd rfl (.inl rfl) (pe_cx cS hr (by rfl) pat0 (pa_cons (pv 0) (pa_cons pe_int (pa_cons pe_int pa_nil)))))
    (pss_cons (ps_set (i := 2) scLaw.nd rfl (.inl rfl) (pe_lst (pa_strs (zs := badW1) rfl)))
    (pss_cons (ps_set (i := 2) scLaw.nd rfl (.inl rfl) (pe_op op_cat (pv 2) (pe_lst (pa_strs (zs := badW2) rfl))))
    (pss_cons (ps_set (i := 3) scLaw.nd rfl (.inl rfl) (pe_cx cP hr (by rfl) pat0 (pa_cons (pv 1) (pa_cons (pe_cx cN hr (by rfl) pat0 (pa_cons (pv 1) (pa_cons pe_int pa_nil))) pa_nil))))
    (pss_cons (ps_set (i := 4) scLaw.nd rfl (.inl rfl) (pe_cx cP hr (by rfl) pat0 (pa_cons (pv 1) (pa_cons (pe_cx cN hr (by rfl) pat0 (pa_cons (pv 1) (pa_cons pe_int pa_nil))) pa_nil))))
    (pss_cons (ps_set (i := 5) scLaw.nd rfl (.inl rfl) (pe_ix ix_list (pv 2) (pe_op op_mod (pe_cx cN hr (by rfl) pat0 (pa_cons (pv 1) (pa_cons pe_int pa_nil))) (pe_callB call_len_seq (by rfl) D.ml PySem.boot_len (pa_cons (pv 2) pa_nil))) (fun _ _ => rfl)))
    (pss_cons (ps_if (pt_not (pt_val (pe_cx cB hr (by rfl) pat0 (pa_cons (pe_op op_add_str (pe_op op_add_str (pe_op op_add_str (pe_op op_add_str (pv 3) pe_str) (pv 5)) pe_str) (pv 4)) pa_nil)))) (pss_one (ps_ret pe_bl)) pss_nil)
    (pss_one (ps_ret (pe_not (pe_cx cB hr (by rfl) pat0 (pa_cons (pe_op op_add_str (pe_op op_add_str (pv 3) pe_str) (pv 4)) pa_nil))))))))))), ?_⟩
  -- stream
  refine ⟨_, rfl, a, ns, 0, 8, rfl, hA, by omega, by omega, fun H1 st dl pl s1 hp S1 => ?_⟩
  -- wrong
  refine ⟨(by show 15 ≤ sizeLine; decide), fun w1 hw1 => ?_⟩
  have S2 := S1.same (same_new hw1 (.lst (badW1.map V.str)))
  refine ⟨_, rfl, (by show 7 ≤ sizeLine; decide), fun w2 hw2 => ?_⟩
  have S3 := S2.same (same_new hw2 (.lst (badW2.map V.str)))
  refine ⟨w1, w2, badW1.map V.str, badW2.map V.str, rfl, rfl, same_new hw2 _ _ _ upd_same, upd_same, (by show 15 + 7 ≤ sizeLine; decide), fun w3 hw3 => ?_⟩
  have o3 := S3.off hw3
  have S4 := S3.same (same_new hw3 (.lst (badW1.map V.str ++ badW2.map V.str)))
  have L4 : upd (upd (upd H1 w1 (.lst (badW1.map V.str))) w2 (.lst (badW2.map V.str))) w3 (.lst (badW1.map V.str ++ badW2.map V.str)) w3 = some (.lst ((badW1 ++ badW2).map V.str)) := by
    rw [upd_same, List.map_append]
  generalize upd (upd (upd H1 w1 (.lst (badW1.map V.str))) w2 (.lst (badW2.map V.str))) w3 (.lst (badW1.map V.str ++ badW2.map V.str)) = H4 at *
  -- before
  refine ⟨_, rfl, _, rfl, st, dl, pl, 9, rfl, S4, by decide, fun v H5 v0 v1 b5 S5 => ?_⟩
  obtain ⟨n, rfl⟩ : ∃ n : Nat, v = (n : Int) := ⟨v.toNat, by omega⟩
  refine ⟨st, dl, pl, n, rfl, by omega, S5, fun x1 H6 g1 z1 b6 S6 => ?_⟩
  -- behind
  refine ⟨_, rfl, _, rfl, st, dl, pl, 9, rfl, S6, by decide, fun v' H7 v0' v1' b7 S7 => ?_⟩
  obtain ⟨n', rfl⟩ : ∃ n : Nat, v' = (n : Int) := ⟨v'.toNat, by omega⟩
  refine ⟨st, dl, pl, n', rfl, by omega, S7, fun x2 H8 g2 z2 b8 S8 => ?_⟩
  -- bad
  have n3 : w3 ≠ pl := o3.2.2.symm
  have L8 : H8 w3 = some (.lst ((badW1 ++ badW2).map V.str)) := b8 _ _ (b7 _ _ (b6 _ _ (b5 _ _ L4 n3) n3) n3) n3
  refine ⟨_, rfl, _, rfl, st, dl, pl, 60, rfl, S8, by decide, fun v2 H9 v20 v21 b9 S9 => ?_⟩
  have L9 : H9 w3 = some (.lst ((badW1 ++ badW2).map V.str)) := b9 _ _ L8 n3
  have m := mod_in (i := v2) (m := 22) (by decide)
  obtain ⟨j, hj⟩ : ∃ j : Nat, v2 % 22 = (j : Int) := ⟨(v2 % 22).toNat, by omega⟩
  have hjl : j < (badW1 ++ badW2).length := by
    show j < 22
    omega
  have he : atI ((badW1 ++ badW2).map V.str) (v2 % ((((badW1 ++ badW2).map V.str).length : Nat) : Int)) = some (.str (badW1 ++ badW2)[j]) := by
    rw [show ((((badW1 ++ badW2).map V.str).length : Nat) : Int) = 22 from rfl, hj]
    exact atI_nat (by rw [List.getElem?_map, List.getElem?_eq_getElem hjl] <;> rfl)
  refine ⟨_, rfl, w3, _, rfl, .inl (.inl (.inl L9)), _, _, rfl, rfl, (by show (0 : Int) < 22; decide), ?_⟩
  refine ⟨w3, _, _, _, rfl, rfl, .inl (.inl L9), he, ?_⟩
  have hb := bad_all _ (List.getElem_mem hjl)
  generalize (badW1 ++ badW2)[j] = bd at *
  have e1 : (Str.ofString " ").length = 1 := by decide +kernel
  -- the first test
  refine ⟨_, rfl, _, _, rfl, rfl, ?_, _, rfl, _, _, rfl, rfl, ?_, _, _, rfl, rfl, ?_, _, rfl, _, _, rfl, rfl, ?_, _, rfl, ?_, fun H10 s10 => ?_⟩
  · rw [e1, sizeLine_eq]; omega
  · rw [len_app, e1, sizeLine_eq]; omega
  · rw [len_app, len_app, e1, sizeLine_eq]; omega
  · rw [len_app, len_app, len_app, e1, sizeLine_eq]; omega
  · rw [len_app, len_app, len_app, len_app, e1, sizeLine_eq]; omega
  refine ⟨_, rfl, ?_⟩
  rw [bad_line hb.1]
  refine iteF ?_
  refine ⟨_, rfl, _, _, rfl, rfl, ?_, _, rfl, _, _, rfl, rfl, ?_, _, rfl, ?_, fun H11 s11 => ?_⟩
  · rw [e1, sizeLine_eq]; omega
  · rw [len_app, e1, sizeLine_eq]; omega
  · rw [len_app, len_app, e1, sizeLine_eq]; omega
  refine ⟨_, rfl, ?_⟩
  have g := good_sp g1 g2
  unfold Good at g
  obtain ⟨ss, hs⟩ := Option.isSome_iff_exists.mp g
  rw [hs]
  exact q H11
end
end My
namespace My
open PySem PySem.Spec PyProof.Rows L2
/-! ### what the top has written, and the law -/
theorem exm_self {K : PySem.W.Frag} {S : Addr} (h1 : PySem.W.subIn K (.ref S) (.type "BaseException") = some true) (h2 : PySem.W.isClsIn K S = true) (h3 : PySem.W.typeIn K (.ref S) = some (.type "type")) (h4 : PySem.W.subIn K (.ref S) (.ref S) = some true) :
    PySem.W.exmOne K (.ref S) (.ref S) = some true := by
  have e1 : (PySem.W.subIn K (.ref S) (.type "BaseException") == some true) = true := by rw [h1] <;> rfl
  have e2 : ((PySem.W.clsIn K S).isSome && PySem.W.typeIn K (.ref S) == some (.type "type")) = true := by
    have h2' : (PySem.W.clsIn K S).isSome = true := h2
    rw [h2', h3] <;> rfl
  show (if (PySem.W.subIn K (.ref S) (.type "BaseException") == some true) = true then (if ((PySem.W.clsIn K S).isSome && PySem.W.typeIn K (.ref S) == some (.type "type")) = true then PySem.W.subIn K (.ref S) (.ref S) else none) else none) = some true
  rw [if_pos e1, if_pos e2]
  exact h4
theorem kit_ref {K : PySem.W.Frag} {t : Value} {C : Addr} (h2 : PySem.W.isClsIn K C = true) (h3 : PySem.W.typeIn K (.ref C) = some (.type "type")) (h4 : PySem.W.subIn K t (.ref C) = some true) : PySem.W.kitOne K t (.ref C) = some true := by
  have e2 : ((PySem.W.clsIn K C).isSome && PySem.W.typeIn K (.ref C) == some (.type "type")) = true := by
    have h2' : (PySem.W.clsIn K C).isSome = true := h2
    rw [h2', h3] <;> rfl
  by_cases e : (t == Value.ref C) = true
  · exact if_pos e
  · refine (if_neg e).trans ?_
    show (if ((PySem.W.clsIn K C).isSome && PySem.W.typeIn K (.ref C) == some (.type "type")) = true then PySem.W.subIn K t (.ref C) else none) = some true
    rw [if_pos e2]
    exact h4
theorem kit_bty {K : PySem.W.Frag} {t : Value} {T : String} (h2 : PySem.W.kitMeta T = true) (h4 : PySem.W.subIn K t (.type T) = some true) : PySem.W.kitOne K t (.type T) = some true := by
  by_cases e : (t == Value.type T) = true
  · exact if_pos e
  · refine (if_neg e).trans ?_
    show (if PySem.W.kitMeta T = true then PySem.W.subIn K t (.type T) else none) = some true
    rw [if_pos h2]
    exact h4
theorem all_mk {P : Program} {w : World} {K : PySem.W.Frag} {h : Heap} {mg : Str → Option Value} {fa : Addr}
    {f__end_of_run : Addr} {od__end_of_run an__end_of_run : Option Addr} {sl__end_of_run : Array (Option Value)} {oc__end_of_run kV__end_of_run dc__end_of_run pm__end_of_run cd__end_of_run ct__end_of_run : Value}
    {f__number_of : Addr} {od__number_of an__number_of : Option Addr} {sl__number_of : Array (Option Value)} {oc__number_of kV__number_of dc__number_of pm__number_of cd__number_of ct__number_of : Value}
    {f__word_from : Addr} {od__word_from an__word_from : Option Addr} {sl__word_from : Array (Option Value)} {oc__word_from kV__word_from dc__word_from pm__word_from cd__word_from ct__word_from : Value}
    {f__sign_from : Addr} {od__sign_from an__sign_from : Option Addr} {sl__sign_from : Array (Option Value)} {oc__sign_from kV__sign_from dc__sign_from pm__sign_from cd__sign_from ct__sign_from : Value}
    {f_signs_of : Addr} {od_signs_of an_signs_of : Option Addr} {sl_signs_of : Array (Option Value)} {oc_signs_of kV_signs_of dc_signs_of pm_signs_of cd_signs_of ct_signs_of : Value}
    {f__law_cell : Addr} {od__law_cell an__law_cell : Option Addr} {sl__law_cell : Array (Option Value)} {oc__law_cell kV__law_cell dc__law_cell pm__law_cell cd__law_cell ct__law_cell : Value}
    {f__law_draws : Addr} {od__law_draws an__law_draws : Option Addr} {sl__law_draws : Array (Option Value)} {oc__law_draws kV__law_draws dc__law_draws pm__law_draws cd__law_draws ct__law_draws : Value}
    {f__law_stream : Addr} {od__law_stream an__law_stream : Option Addr} {sl__law_stream : Array (Option Value)} {oc__law_stream kV__law_stream dc__law_stream pm__law_stream cd__law_stream ct__law_stream : Value}
    {f__law_next : Addr} {od__law_next an__law_next : Option Addr} {sl__law_next : Array (Option Value)} {oc__law_next kV__law_next dc__law_next pm__law_next cd__law_next ct__law_next : Value}
    {f__law_plain : Addr} {od__law_plain an__law_plain : Option Addr} {sl__law_plain : Array (Option Value)} {oc__law_plain kV__law_plain dc__law_plain pm__law_plain cd__law_plain ct__law_plain : Value}
    {f__law_is_bad : Addr} {od__law_is_bad an__law_is_bad : Option Addr} {sl__law_is_bad : Array (Option Value)} {oc__law_is_bad kV__law_is_bad dc__law_is_bad pm__law_is_bad cd__law_is_bad ct__law_is_bad : Value}
    {f_law : Addr} {od_law an_law : Option Addr} {sl_law : Array (Option Value)} {oc_law kV_law dc_law pm_law cd_law ct_law : Value}
    {t_LETTERS : Tok}
    {t_DIGITS : Tok}
    {t_SYMBOLS : Tok}
    {t_MOST_LETTERS : Tok}
    {t_LEAST_COPY : Tok}
    {t_MOST_COPY : Tok}
    {t_MOST_NUMBER : Tok}
    {C_BadLine : Addr}
    {C_WorkError : Addr}
    (X : K.In h) (G : h.Ns mainGlobals mg) (hfa : mg "law" = some (.ref fa))
    (a__end_of_run : PySem.W.nsIn K mainGlobals "_end_of_run" = some (some (.ref f__end_of_run))) (l__end_of_run : K.lookup f__end_of_run = some ⟨oc__end_of_run, od__end_of_run, .func (PySem.W.fnOf "_end_of_run" "_end_of_run" (defArgs d__end_of_run) (defBody d__end_of_run) (defScope d__end_of_run) .none kV__end_of_run dc__end_of_run pm__end_of_run an__end_of_run cd__end_of_run ct__end_of_run), sl__end_of_run⟩) (c__end_of_run : PySem.W.codeIn K cd__end_of_run "_end_of_run" = true) (k__end_of_run : PySem.W.keepIn K (.ref f__end_of_run) = true)
    (a__number_of : PySem.W.nsIn K mainGlobals "_number_of" = some (some (.ref f__number_of))) (l__number_of : K.lookup f__number_of = some ⟨oc__number_of, od__number_of, .func (PySem.W.fnOf "_number_of" "_number_of" (defArgs d__number_of) (defBody d__number_of) (defScope d__number_of) .none kV__number_of dc__number_of pm__number_of an__number_of cd__number_of ct__number_of), sl__number_of⟩) (c__number_of : PySem.W.codeIn K cd__number_of "_number_of" = true) (k__number_of : PySem.W.keepIn K (.ref f__number_of) = true)
    (a__word_from : PySem.W.nsIn K mainGlobals "_word_from" = some (some (.ref f__word_from))) (l__word_from : K.lookup f__word_from = some ⟨oc__word_from, od__word_from, .func (PySem.W.fnOf "_word_from" "_word_from" (defArgs d__word_from) (defBody d__word_from) (defScope d__word_from) .none kV__word_from dc__word_from pm__word_from an__word_from cd__word_from ct__word_from), sl__word_from⟩) (c__word_from : PySem.W.codeIn K cd__word_from "_word_from" = true) (k__word_from : PySem.W.keepIn K (.ref f__word_from) = true)
    (a__sign_from : PySem.W.nsIn K mainGlobals "_sign_from" = some (some (.ref f__sign_from))) (l__sign_from : K.lookup f__sign_from = some ⟨oc__sign_from, od__sign_from, .func (PySem.W.fnOf "_sign_from" "_sign_from" (defArgs d__sign_from) (defBody d__sign_from) (defScope d__sign_from) .none kV__sign_from dc__sign_from pm__sign_from an__sign_from cd__sign_from ct__sign_from), sl__sign_from⟩) (c__sign_from : PySem.W.codeIn K cd__sign_from "_sign_from" = true) (k__sign_from : PySem.W.keepIn K (.ref f__sign_from) = true)
    (a_signs_of : PySem.W.nsIn K mainGlobals "signs_of" = some (some (.ref f_signs_of))) (l_signs_of : K.lookup f_signs_of = some ⟨oc_signs_of, od_signs_of, .func (PySem.W.fnOf "signs_of" "signs_of" (defArgs d_signs_of) (defBody d_signs_of) (defScope d_signs_of) .none kV_signs_of dc_signs_of pm_signs_of an_signs_of cd_signs_of ct_signs_of), sl_signs_of⟩) (c_signs_of : PySem.W.codeIn K cd_signs_of "signs_of" = true) (k_signs_of : PySem.W.keepIn K (.ref f_signs_of) = true)
    (a__law_cell : PySem.W.nsIn K mainGlobals "_law_cell" = some (some (.ref f__law_cell))) (l__law_cell : K.lookup f__law_cell = some ⟨oc__law_cell, od__law_cell, .func (PySem.W.fnOf "_law_cell" "_law_cell" (defArgs d__law_cell) (defBody d__law_cell) (defScope d__law_cell) .none kV__law_cell dc__law_cell pm__law_cell an__law_cell cd__law_cell ct__law_cell), sl__law_cell⟩) (c__law_cell : PySem.W.codeIn K cd__law_cell "_law_cell" = true) (k__law_cell : PySem.W.keepIn K (.ref f__law_cell) = true)
    (a__law_draws : PySem.W.nsIn K mainGlobals "_law_draws" = some (some (.ref f__law_draws))) (l__law_draws : K.lookup f__law_draws = some ⟨oc__law_draws, od__law_draws, .func (PySem.W.fnOf "_law_draws" "_law_draws" (defArgs d__law_draws) (defBody d__law_draws) (defScope d__law_draws) .none kV__law_draws dc__law_draws pm__law_draws an__law_draws cd__law_draws ct__law_draws), sl__law_draws⟩) (c__law_draws : PySem.W.codeIn K cd__law_draws "_law_draws" = true) (k__law_draws : PySem.W.keepIn K (.ref f__law_draws) = true)
    (a__law_stream : PySem.W.nsIn K mainGlobals "_law_stream" = some (some (.ref f__law_stream))) (l__law_stream : K.lookup f__law_stream = some ⟨oc__law_stream, od__law_stream, .func (PySem.W.fnOf "_law_stream" "_law_stream" (defArgs d__law_stream) (defBody d__law_stream) (defScope d__law_stream) .none kV__law_stream dc__law_stream pm__law_stream an__law_stream cd__law_stream ct__law_stream), sl__law_stream⟩) (c__law_stream : PySem.W.codeIn K cd__law_stream "_law_stream" = true) (k__law_stream : PySem.W.keepIn K (.ref f__law_stream) = true)
    (a__law_next : PySem.W.nsIn K mainGlobals "_law_next" = some (some (.ref f__law_next))) (l__law_next : K.lookup f__law_next = some ⟨oc__law_next, od__law_next, .func (PySem.W.fnOf "_law_next" "_law_next" (defArgs d__law_next) (defBody d__law_next) (defScope d__law_next) .none kV__law_next dc__law_next pm__law_next an__law_next cd__law_next ct__law_next), sl__law_next⟩) (c__law_next : PySem.W.codeIn K cd__law_next "_law_next" = true) (k__law_next : PySem.W.keepIn K (.ref f__law_next) = true)
    (a__law_plain : PySem.W.nsIn K mainGlobals "_law_plain" = some (some (.ref f__law_plain))) (l__law_plain : K.lookup f__law_plain = some ⟨oc__law_plain, od__law_plain, .func (PySem.W.fnOf "_law_plain" "_law_plain" (defArgs d__law_plain) (defBody d__law_plain) (defScope d__law_plain) .none kV__law_plain dc__law_plain pm__law_plain an__law_plain cd__law_plain ct__law_plain), sl__law_plain⟩) (c__law_plain : PySem.W.codeIn K cd__law_plain "_law_plain" = true) (k__law_plain : PySem.W.keepIn K (.ref f__law_plain) = true)
    (a__law_is_bad : PySem.W.nsIn K mainGlobals "_law_is_bad" = some (some (.ref f__law_is_bad))) (l__law_is_bad : K.lookup f__law_is_bad = some ⟨oc__law_is_bad, od__law_is_bad, .func (PySem.W.fnOf "_law_is_bad" "_law_is_bad" (defArgs d__law_is_bad) (defBody d__law_is_bad) (defScope d__law_is_bad) .none kV__law_is_bad dc__law_is_bad pm__law_is_bad an__law_is_bad cd__law_is_bad ct__law_is_bad), sl__law_is_bad⟩) (c__law_is_bad : PySem.W.codeIn K cd__law_is_bad "_law_is_bad" = true) (k__law_is_bad : PySem.W.keepIn K (.ref f__law_is_bad) = true)
    (a_law : PySem.W.nsIn K mainGlobals "law" = some (some (.ref f_law))) (l_law : K.lookup f_law = some ⟨oc_law, od_law, .func (PySem.W.fnOf "law" "law" (defArgs d_law) (defBody d_law) (defScope d_law) .none kV_law dc_law pm_law an_law cd_law ct_law), sl_law⟩) (c_law : PySem.W.codeIn K cd_law "law" = true) (k_law : PySem.W.keepIn K (.ref f_law) = true)
    (g_LETTERS : PySem.W.nsIn K mainGlobals "LETTERS" = some (some (.str (Str.ofString "abcdefghijklmnopqrstuvwxyz") t_LETTERS)))
    (g_DIGITS : PySem.W.nsIn K mainGlobals "DIGITS" = some (some (.str (Str.ofString "0123456789") t_DIGITS)))
    (g_SYMBOLS : PySem.W.nsIn K mainGlobals "SYMBOLS" = some (some (.str (Str.ofString "(){}:=+-*<") t_SYMBOLS)))
    (g_MOST_LETTERS : PySem.W.nsIn K mainGlobals "MOST_LETTERS" = some (some (.int 8 t_MOST_LETTERS)))
    (g_LEAST_COPY : PySem.W.nsIn K mainGlobals "LEAST_COPY" = some (some (.int 2 t_LEAST_COPY)))
    (g_MOST_COPY : PySem.W.nsIn K mainGlobals "MOST_COPY" = some (some (.int 99 t_MOST_COPY)))
    (g_MOST_NUMBER : PySem.W.nsIn K mainGlobals "MOST_NUMBER" = some (some (.int 1000000 t_MOST_NUMBER)))
    (z_len : PySem.W.nsIn K mainGlobals "len" = some none)
    (z_str : PySem.W.nsIn K mainGlobals "str" = some none)
    (z_int : PySem.W.nsIn K mainGlobals "int" = some none)
    (z_abs : PySem.W.nsIn K mainGlobals "abs" = some none)
    (z_range : PySem.W.nsIn K mainGlobals "range" = some none)
    (z_isinstance : PySem.W.nsIn K mainGlobals "isinstance" = some none)
    (z_ValueError : PySem.W.nsIn K mainGlobals "ValueError" = some none)
    (aC_BadLine : PySem.W.nsIn K mainGlobals "BadLine" = some (some (.ref C_BadLine))) (xC_BadLine : PySem.W.excIn K C_BadLine [.type "ValueError", .type "Exception", .type "BaseException", .type "object"] "ValueError.__new__" = true) (kC_BadLine : PySem.W.keepIn K (.ref C_BadLine) = true) (bC_BadLine : PySem.W.subIn K (.ref C_BadLine) (.type "BaseException") = some true) (tC_BadLine : PySem.W.typeIn K (.ref C_BadLine) = some (.type "type")) (iC_BadLine : PySem.W.isClsIn K C_BadLine = true) (sC_BadLine : PySem.W.subIn K (.ref C_BadLine) (.ref C_BadLine) = some true)
    (aC_WorkError : PySem.W.nsIn K mainGlobals "WorkError" = some (some (.ref C_WorkError))) (xC_WorkError : PySem.W.excIn K C_WorkError [.type "ValueError", .type "Exception", .type "BaseException", .type "object"] "ValueError.__new__" = true) (kC_WorkError : PySem.W.keepIn K (.ref C_WorkError) = true) (bC_WorkError : PySem.W.subIn K (.ref C_WorkError) (.type "BaseException") = some true) (tC_WorkError : PySem.W.typeIn K (.ref C_WorkError) = some (.type "type")) (iC_WorkError : PySem.W.isClsIn K C_WorkError = true) (sC_WorkError : PySem.W.subIn K (.ref C_WorkError) (.ref C_WorkError) = some true)
    (hg_E : PySem.W.findIn K (.ref C_BadLine) "__getattribute__" = some (some (.builtin "BaseException.__getattribute__")))
    (hk_E : PySem.W.findIn K (.ref C_BadLine) "__getattr__" = some none)
    (hd_E : PySem.W.hasDictIn K C_BadLine = true)
    (ha_E : PySem.W.findIn K (.ref C_BadLine) "__class__" = some (some (.builtin "object.__class__")))
    (hn_E : PySem.W.specialIn K (.builtin "object.__class__") "__get__" = some (some (.builtin "getset_descriptor.__get__")))
    (ht_E : PySem.W.takesIn K (.builtin "object.__class__") = some true)
    (hm_E : PySem.W.mroIn K C_BadLine (.type "object") = some true)
    (kW_E : PySem.W.subIn K (.ref C_BadLine) (.ref C_WorkError) = some true)
    (kV_E : PySem.W.subIn K (.ref C_BadLine) (.type "ValueError") = some true) :
    ∃ fd : FuncData, (∀ (s : Shared) (u : Value), BindsTo s fd ⟨[u], []⟩ [("script", u)]) ∧ ∀ base : Heap, K.In base → base.Ns mainGlobals mg → FnOk P w K mg base CX0 6 fa fd ["script"] (spLaw K) := by
  have e := hfa.symm.trans (PySem.W.mg_of X G a_law)
  cases e
  have F__end_of_run := fun_mk (st := d__end_of_run) l__end_of_run c__end_of_run k__end_of_run
  have m__end_of_run := PySem.W.mg_of X G a__end_of_run
  have b__end_of_run := F__end_of_run.binds (ps := ["line", "start", "characters"]) fun _ _ _ _ _ _ us hl => match us, hl with | [_, _, _], _ => rfl
  have F__number_of := fun_mk (st := d__number_of) l__number_of c__number_of k__number_of
  have m__number_of := PySem.W.mg_of X G a__number_of
  have b__number_of := F__number_of.binds (ps := ["digits", "least", "most"]) fun _ _ _ _ _ _ us hl => match us, hl with | [_, _, _], _ => rfl
  have F__word_from := fun_mk (st := d__word_from) l__word_from c__word_from k__word_from
  have m__word_from := PySem.W.mg_of X G a__word_from
  have b__word_from := F__word_from.binds (ps := ["line", "start"]) fun _ _ _ _ _ _ us hl => match us, hl with | [_, _], _ => rfl
  have F__sign_from := fun_mk (st := d__sign_from) l__sign_from c__sign_from k__sign_from
  have m__sign_from := PySem.W.mg_of X G a__sign_from
  have b__sign_from := F__sign_from.binds (ps := ["line", "start"]) fun _ _ _ _ _ _ us hl => match us, hl with | [_, _], _ => rfl
  have F_signs_of := fun_mk (st := d_signs_of) l_signs_of c_signs_of k_signs_of
  have m_signs_of := PySem.W.mg_of X G a_signs_of
  have b_signs_of := F_signs_of.binds (ps := ["line"]) fun _ _ _ _ _ _ us hl => match us, hl with | [_], _ => rfl
  have F__law_cell := fun_mk (st := d__law_cell) l__law_cell c__law_cell k__law_cell
  have m__law_cell := PySem.W.mg_of X G a__law_cell
  have b__law_cell := F__law_cell.binds (ps := ["script", "k"]) fun _ _ _ _ _ _ us hl => match us, hl with | [_, _], _ => rfl
  have F__law_draws := fun_mk (st := d__law_draws) l__law_draws c__law_draws k__law_draws
  have m__law_draws := PySem.W.mg_of X G a__law_draws
  have b__law_draws := F__law_draws.binds (ps := ["cell", "count"]) fun _ _ _ _ _ _ us hl => match us, hl with | [_, _], _ => rfl
  have F__law_stream := fun_mk (st := d__law_stream) l__law_stream c__law_stream k__law_stream
  have m__law_stream := PySem.W.mg_of X G a__law_stream
  have b__law_stream := F__law_stream.binds (ps := ["script", "first", "count"]) fun _ _ _ _ _ _ us hl => match us, hl with | [_, _, _], _ => rfl
  have F__law_next := fun_mk (st := d__law_next) l__law_next c__law_next k__law_next
  have m__law_next := PySem.W.mg_of X G a__law_next
  have b__law_next := F__law_next.binds (ps := ["stream", "many"]) fun _ _ _ _ _ _ us hl => match us, hl with | [_, _], _ => rfl
  have F__law_plain := fun_mk (st := d__law_plain) l__law_plain c__law_plain k__law_plain
  have m__law_plain := PySem.W.mg_of X G a__law_plain
  have b__law_plain := F__law_plain.binds (ps := ["stream", "count"]) fun _ _ _ _ _ _ us hl => match us, hl with | [_, _], _ => rfl
  have F__law_is_bad := fun_mk (st := d__law_is_bad) l__law_is_bad c__law_is_bad k__law_is_bad
  have m__law_is_bad := PySem.W.mg_of X G a__law_is_bad
  have b__law_is_bad := F__law_is_bad.binds (ps := ["line"]) fun _ _ _ _ _ _ us hl => match us, hl with | [_], _ => rfl
  have F_law := fun_mk (st := d_law) l_law c_law k_law
  have m_law := PySem.W.mg_of X G a_law
  have b_law := F_law.binds (ps := ["script"]) fun _ _ _ _ _ _ us hl => match us, hl with | [_], _ => rfl
  have n_LETTERS := PySem.W.mg_of X G g_LETTERS
  have n_DIGITS := PySem.W.mg_of X G g_DIGITS
  have n_SYMBOLS := PySem.W.mg_of X G g_SYMBOLS
  have n_MOST_LETTERS := PySem.W.mg_of X G g_MOST_LETTERS
  have n_LEAST_COPY := PySem.W.mg_of X G g_LEAST_COPY
  have n_MOST_COPY := PySem.W.mg_of X G g_MOST_COPY
  have n_MOST_NUMBER := PySem.W.mg_of X G g_MOST_NUMBER
  have y_len := PySem.W.mg_none_of X G z_len
  have y_str := PySem.W.mg_none_of X G z_str
  have y_int := PySem.W.mg_none_of X G z_int
  have y_abs := PySem.W.mg_none_of X G z_abs
  have y_range := PySem.W.mg_none_of X G z_range
  have y_isinstance := PySem.W.mg_none_of X G z_isinstance
  have y_ValueError := PySem.W.mg_none_of X G z_ValueError
  have gC_BadLine := PySem.W.mg_of X G aC_BadLine
  have eC_BadLine := exm_self bC_BadLine iC_BadLine tC_BadLine sC_BadLine
  have gC_WorkError := PySem.W.mg_of X G aC_WorkError
  have eC_WorkError := exm_self bC_WorkError iC_WorkError tC_WorkError sC_WorkError
  refine ⟨PySem.W.fnOf "law" "law" (defArgs d_law) (defBody d_law) (defScope d_law) .none kV_law dc_law pm_law an_law cd_law ct_law, fun s u => .of_eq rfl, fun base _ _ => ?_⟩
  have T : Tx K mg C_BadLine := ⟨gC_BadLine, xC_BadLine, kC_BadLine, bC_BadLine, tC_BadLine, y_len, y_str, y_int, ⟨_, n_LETTERS, ⟨_, rfl⟩⟩, ⟨_, n_DIGITS, ⟨_, rfl⟩⟩, ⟨_, n_SYMBOLS, ⟨_, rfl⟩⟩, ⟨_, n_MOST_LETTERS, ⟨_, rfl⟩⟩, ⟨_, n_LEAST_COPY, ⟨_, rfl⟩⟩, ⟨_, n_MOST_COPY, ⟨_, rfl⟩⟩, ⟨_, n_MOST_NUMBER, ⟨_, rfl⟩⟩⟩
  have cE : CalX P w K mg base CX0 1 "_end_of_run" ["line", "start", "characters"] spEnd := ⟨_, _, m__end_of_run, k__end_of_run, b__end_of_run, ok_end F__end_of_run y_len⟩
  have cN : CalX P w K mg base (L2.CX P w) 1 "_number_of" ["digits", "least", "most"] (spNum C_BadLine) := ⟨_, _, m__number_of, k__number_of, b__number_of, ok_num F__number_of T⟩
  have cW : CalX P w K mg base (L2.CX P w) 2 "_word_from" ["line", "start"] (spWord C_BadLine) := ⟨_, _, m__word_from, k__word_from, b__word_from, ok_word F__word_from T cE cN⟩
  have cG : CalX P w K mg base (L2.CX P w) 3 "_sign_from" ["line", "start"] (spSign C_BadLine) := ⟨_, _, m__sign_from, k__sign_from, b__sign_from, ok_sign F__sign_from T (cE.mono (by decide)) (cN.mono (by decide)) cW⟩
  have cS : CalX P w K mg base (L2.CX P w) 4 "signs_of" ["line"] (spSigns C_BadLine) := ⟨_, _, m_signs_of, k_signs_of, b_signs_of, ok_signs F_signs_of T cG⟩
  have D : DrTx mg := ⟨y_len, y_int, y_abs, y_range⟩
  have cC : CalX P w K mg base CX0 1 "_law_cell" ["script", "k"] (spCell K) := ⟨_, _, m__law_cell, k__law_cell, b__law_cell, ok_cell F__law_cell D⟩
  have cD : CalX P w K mg base CX0 1 "_law_draws" ["cell", "count"] spDraws := ⟨_, _, m__law_draws, k__law_draws, b__law_draws, ok_draws F__law_draws D⟩
  have cM : CalX P w K mg base CX0 2 "_law_stream" ["script", "first", "count"] (spStream K) := ⟨_, _, m__law_stream, k__law_stream, b__law_stream, ok_stream F__law_stream D cC cD⟩
  have cX : CalX P w K mg base CX0 1 "_law_next" ["stream", "many"] spNext := ⟨_, _, m__law_next, k__law_next, b__law_next, ok_next F__law_next D⟩
  have TB : BadTx K mg C_BadLine C_WorkError := ⟨gC_BadLine, gC_WorkError, y_ValueError, y_isinstance, eC_BadLine, ⟨hg_E, hk_E, bC_BadLine, hd_E, ha_E, hn_E, ht_E, hm_E⟩, kit_ref iC_WorkError tC_WorkError kW_E, kit_bty (by decide +kernel) kV_E⟩
  have cP : CalX P w K mg base CX0 2 "_law_plain" ["stream", "count"] spPlain := ⟨_, _, m__law_plain, k__law_plain, b__law_plain, ok_plain F__law_plain D cX⟩
  have cB : CalX P w K mg base CX0 5 "_law_is_bad" ["line"] spBad := ⟨_, _, m__law_is_bad, k__law_is_bad, b__law_is_bad, ok_bad F__law_is_bad TB cS⟩
  exact ok_law (k := 5) F_law D (cM.mono (by decide)) (cX.mono (by decide)) (cP.mono (by decide)) cB
theorem walk {l : PySem.W.OpenLaw} {q : Program} {loose : List Str} {XP : (Str → Option Value) → Heap → Prop} {YP : World → Heap → Prop} {d : DefRec} {K : Params → PySem.W.Frag} (hn : l.most = some 63) (hdf : d.params.defaults = [])
    (hY : ∀ (w : World) (h : Heap), YP w h → (K w.params).In h)
    (F : ∀ (w : World) (mg : Str → Option Value) (fa : Addr) (h : Heap), (K w.params).In h → h.Ns mainGlobals mg → mg d.name = some (.ref fa) →
      ∃ fd : FuncData, (∀ (s : Shared) (u : Value), BindsTo s fd ⟨[u], []⟩ [("script", u)]) ∧ ∀ base : Heap, (K w.params).In base → base.Ns mainGlobals mg → FnOk l.prog w (K w.params) mg base CX0 6 fa fd ["script"] (spLaw (K w.params))) :
    PySem.W.WalkO q loose XP YP l.row.toRowW d [] (fun f vs => PySem.call f vs) :=
  L2.walk_of (n := 63) (k := 6) (x := "script") (CX := fun _ => CX0) (sp := fun w => spLaw (K w.params)) hn (by decide) hdf ⟨rfl, by decide, by decide⟩ hY F (fun _ _ a ns hl _ hS => ⟨a, ns, rfl, hS, fun _ => rfl⟩) fun _ _ _ _ _ z => z
end My
open PySem PySem.W PyProof.Rows
set_option maxHeartbeats 0 in
theorem PySem.Challenge.cw_restruct_k01_wrong_lines_holds : PySem.Challenge.rw_restruct_k01_wrong_lines.Holds := by
  w_on; o_law; k_head; (case hw => w_witness2)
  k_fill
  refine My.walk (l := PySem.Challenge.rw_restruct_k01_wrong_lines) rfl rfl (fun w h Y => PySem.W.kIn_of Y) ?F
  case F =>
    intro w mg fa h KX G hmg
    refine' My.all_mk KX G hmg ?a__end_of_run ?l__end_of_run ?c__end_of_run ?k__end_of_run ?a__number_of ?l__number_of ?c__number_of ?k__number_of ?a__word_from ?l__word_from ?c__word_from ?k__word_from ?a__sign_from ?l__sign_from ?c__sign_from ?k__sign_from ?a_signs_of ?l_signs_of ?c_signs_of ?k_signs_of ?a__law_cell ?l__law_cell ?c__law_cell ?k__law_cell ?a__law_draws ?l__law_draws ?c__law_draws ?k__law_draws ?a__law_stream ?l__law_stream ?c__law_stream ?k__law_stream ?a__law_next ?l__law_next ?c__law_next ?k__law_next ?a__law_plain ?l__law_plain ?c__law_plain ?k__law_plain ?a__law_is_bad ?l__law_is_bad ?c__law_is_bad ?k__law_is_bad ?a_law ?l_law ?c_law ?k_law ?g_LETTERS ?g_DIGITS ?g_SYMBOLS ?g_MOST_LETTERS ?g_LEAST_COPY ?g_MOST_COPY ?g_MOST_NUMBER ?z_len ?z_str ?z_int ?z_abs ?z_range ?z_isinstance ?z_ValueError ?aC_BadLine ?xC_BadLine ?kC_BadLine ?bC_BadLine ?tC_BadLine ?iC_BadLine ?sC_BadLine ?aC_WorkError ?xC_WorkError ?kC_WorkError ?bC_WorkError ?tC_WorkError ?iC_WorkError ?sC_WorkError ?hg_E ?hk_E ?hd_E ?ha_E ?hn_E ?ht_E ?hm_E ?kW_E ?kV_E
    (case a__end_of_run => k_is)
    (case l__end_of_run => k_is)
    (case c__end_of_run => k_is)
    (case k__end_of_run => k_is)
    (case a__number_of => k_is)
    (case l__number_of => k_is)
    (case c__number_of => k_is)
    (case k__number_of => k_is)
    (case a__word_from => k_is)
    (case l__word_from => k_is)
    (case c__word_from => k_is)
    (case k__word_from => k_is)
    (case a__sign_from => k_is)
    (case l__sign_from => k_is)
    (case c__sign_from => k_is)
    (case k__sign_from => k_is)
    (case a_signs_of => k_is)
    (case l_signs_of => k_is)
    (case c_signs_of => k_is)
    (case k_signs_of => k_is)
    (case a__law_cell => k_is)
    (case l__law_cell => k_is)
    (case c__law_cell => k_is)
    (case k__law_cell => k_is)
    (case a__law_draws => k_is)
    (case l__law_draws => k_is)
    (case c__law_draws => k_is)
    (case k__law_draws => k_is)
    (case a__law_stream => k_is)
    (case l__law_stream => k_is)
    (case c__law_stream => k_is)
    (case k__law_stream => k_is)
    (case a__law_next => k_is)
    (case l__law_next => k_is)
    (case c__law_next => k_is)
    (case k__law_next => k_is)
    (case a__law_plain => k_is)
    (case l__law_plain => k_is)
    (case c__law_plain => k_is)
    (case k__law_plain => k_is)
    (case a__law_is_bad => k_is)
    (case l__law_is_bad => k_is)
    (case c__law_is_bad => k_is)
    (case k__law_is_bad => k_is)
    (case a_law => k_is)
    (case l_law => k_is)
    (case c_law => k_is)
    (case k_law => k_is)
    (case g_LETTERS => k_is)
    (case g_DIGITS => k_is)
    (case g_SYMBOLS => k_is)
    (case g_MOST_LETTERS => k_is)
    (case g_LEAST_COPY => k_is)
    (case g_MOST_COPY => k_is)
    (case g_MOST_NUMBER => k_is)
    (case z_len => k_is)
    (case z_str => k_is)
    (case z_int => k_is)
    (case z_abs => k_is)
    (case z_range => k_is)
    (case z_isinstance => k_is)
    (case z_ValueError => k_is)
    (case aC_BadLine => k_is)
    (case xC_BadLine => k_exc)
    (case kC_BadLine => k_is)
    (case bC_BadLine => k_is)
    (case tC_BadLine => k_is)
    (case iC_BadLine => k_is)
    (case sC_BadLine => first | rfl | k_is)
    (case aC_WorkError => k_is)
    (case xC_WorkError => k_exc)
    (case kC_WorkError => k_is)
    (case bC_WorkError => k_is)
    (case tC_WorkError => k_is)
    (case iC_WorkError => k_is)
    (case sC_WorkError => first | rfl | k_is)
    (case hg_E => k_is)
    (case hk_E => k_is)
    (case hd_E => k_is)
    (case ha_E => k_is)
    (case hn_E => k_is)
    (case ht_E => k_is)
    (case hm_E => k_is)
    (case kW_E => k_is)
    (case kV_E => k_is)
namespace My
end My
