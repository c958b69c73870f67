import PyProof.Rows.All
import Wide.All
import OpenK.AllK
import Wide.FinOn
import PyProof.EqAt
import PyProof.EqKinds
import PyProof.TupleCall
import Open.SpecLaws
import KE.OsGo
import KE.DataMinMax
import PySem.Challenge.RW_sharesregrets_s01_answers
import HandS.ForSpec
import HandS.ForMost
import HandS.FStr
import HandS.StrMore
import HandS.Zip
import HandS.TupLen
import HandS.Strs
import HandS.Conv
import HandS.Deep
import HandS.ExcField
import HandS.ExcSuper
import HandS.Walk
import HandS.SortKw
import HandS.Codes
import HandS.Set
import HandS.More
import KE.DatumOrd
import HandS.SetFor
import KE.GoesMore
set_option Elab.async false
set_option linter.all false
/-! The lexer, as the program goes: gaps, then a token. -/
namespace SR
open VamvsBase
/-- how many bytes of blanks and remarks stand ahead (true: within a remark) -/
def gap : Bool → Bytes → Nat
  | _, [] => 0
  | true, b :: r => if b = 10 then 1 + gap false r else 1 + gap true r
  | false, b :: r => if isBlank b = true then 1 + gap false r else if b = 35 then 1 + gap true r else 0
theorem gap_le : ∀ (k : Bool) (l : Bytes), gap k l ≤ l.length
  | true, [] => Nat.le_refl 0
  | false, [] => Nat.le_refl 0
  | true, b :: r => by
    have h1 := gap_le true r
    have h2 := gap_le false r
    simp only [gap, List.length_cons]
    split <;> omega
  | false, b :: r => by
    have h1 := gap_le true r
    have h2 := gap_le false r
    simp only [gap, List.length_cons]
    split
    · omega
    · split <;> omega
theorem gap_rem : ∀ (r : Bytes), gap true r = (r.takeWhile (· != 10)).length + gap false (r.dropWhile (· != 10))
  | [] => rfl
  | b :: r => by
    by_cases h : b = 10
    · subst h
      have e : ((10 : UInt8) != 10) = false := rfl
      simp only [List.takeWhile_cons, List.dropWhile_cons, e, Bool.false_eq_true, if_false, List.length_nil, Nat.zero_add]
      have hb : isBlank 10 = true := rfl
      simp only [gap, hb, if_true]
    · have e : (b != 10) = true := by simpa using h
      simp only [List.takeWhile_cons, List.dropWhile_cons, e, if_true, List.length_cons, gap, h, if_false]
      rw [gap_rem r]
      omega
theorem lex_nil (n at_ : Nat) : lex n at_ [] = .ok [⟨at_, .last⟩] := by
  cases n <;> rfl
theorem drop_takeWhile_length (p : UInt8 → Bool) : ∀ l : Bytes, l.drop (l.takeWhile p).length = l.dropWhile p
  | [] => rfl
  | b :: r => by
    by_cases h : p b = true
    · simp only [List.takeWhile_cons, List.dropWhile_cons, h, if_true, List.length_cons, List.drop_succ_cons]
      exact drop_takeWhile_length p r
    · simp only [List.takeWhile_cons, List.dropWhile_cons, h, if_false, List.length_nil, List.drop_zero, Bool.false_eq_true]
theorem takeWhile_le (p : UInt8 → Bool) : ∀ l : Bytes, (l.takeWhile p).length ≤ l.length
  | [] => Nat.le_refl 0
  | b :: r => by
    have := takeWhile_le p r
    by_cases h : p b = true
    · simp only [List.takeWhile_cons, h, if_true, List.length_cons]; omega
    · simp only [List.takeWhile_cons, h, if_false, List.length_nil, Bool.false_eq_true]; omega
theorem dropWhile_le (p : UInt8 → Bool) : ∀ l : Bytes, (l.dropWhile p).length ≤ l.length
  | [] => Nat.le_refl 0
  | b :: r => by
    have := dropWhile_le p r
    by_cases h : p b = true
    · simp only [List.dropWhile_cons, h, if_true, List.length_cons]; omega
    · simp only [List.dropWhile_cons, h, if_false, Bool.false_eq_true]; omega
theorem token_pos {l : Bytes} {x : Tok × Nat} (h : token l = some x) : 1 ≤ x.2 ∧ x.2 ≤ l.length := by
  cases l with
  | nil => cases h
  | cons b r =>
    simp only [token] at h
    split at h
    · rename_i hl
      split at h
      · cases h
      · cases h
        refine ⟨?_, takeWhile_le _ _⟩
        simp only [List.takeWhile_cons, hl, Bool.true_or, if_true, List.length_cons]
        omega
    · split at h
      · rename_i hd
        cases e : numberOf ((b :: r).takeWhile isDigit) with
        | none => rw [e] at h; cases h
        | some n =>
          rw [e] at h
          cases h
          refine ⟨?_, takeWhile_le _ _⟩
          simp only [List.takeWhile_cons, hd, if_true, List.length_cons]
          omega
      · split at h
        · cases h
          refine ⟨Nat.le_refl 1, ?_⟩
          simp only [List.length_cons]
          omega
        · cases h
/-- the fuel doesn't matter where it is more than the bytes -/
theorem lex_fuel : ∀ (n m : Nat) (l : Bytes) (at_ : Nat), l.length < n → l.length < m → lex n at_ l = lex m at_ l
  | 0, _, _, _, h, _ => absurd h (Nat.not_lt_zero _)
  | _, 0, _, _, _, h => absurd h (Nat.not_lt_zero _)
  | n + 1, m + 1, [], _, _, _ => rfl
  | n + 1, m + 1, b :: r, at_, hn, hm => by
    simp only [List.length_cons] at hn hm
    simp only [lex]
    split
    · exact lex_fuel n m r _ (by omega) (by omega)
    · split
      · have := dropWhile_le (· != 10) r
        exact lex_fuel n m _ _ (by omega) (by omega)
      · cases e : token (b :: r) with
        | none => rfl
        | some x =>
          have hx := token_pos e
          have hl : ((b :: r).drop x.2).length < n := by simp only [List.length_drop, List.length_cons]; omega
          have hl2 : ((b :: r).drop x.2).length < m := by simp only [List.length_drop, List.length_cons]; omega
          simp only [lex_fuel n m _ _ hl hl2]
/-- all tokens of a text from a place on -/
def lexM (at_ : Nat) (l : Bytes) : Except Fault Toks := lex (l.length + 1) at_ l
theorem lexM_nil (at_ : Nat) : lexM at_ [] = .ok [⟨at_, .last⟩] := rfl
theorem lexM_gap : ∀ (n : Nat) (l : Bytes) (at_ : Nat), l.length ≤ n → lexM at_ l = lexM (at_ + gap false l) (l.drop (gap false l))
  | _, [], _, _ => rfl
  | 0, _ :: _, _, h => absurd h (by simp)
  | n + 1, b :: r, at_, h => by
    simp only [List.length_cons] at h
    by_cases hb : isBlank b = true
    · have e1 : gap false (b :: r) = 1 + gap false r := by simp only [gap, hb, if_true]
      have e2 : lexM at_ (b :: r) = lexM (at_ + 1) r := by
        show lex (r.length + 1 + 1) at_ (b :: r) = _
        simp only [lex, hb, if_true, lexM]
      rw [e2, e1, lexM_gap n r (at_ + 1) (by omega), Nat.add_comm 1 (gap false r), List.drop_succ_cons]
      congr 1
      omega
    · by_cases h35 : b = 35
      · subst h35
        have e1 : gap false (35 :: r) = 1 + gap true r := rfl
        have e2 : lexM at_ (35 :: r) = lexM (at_ + 1 + (r.takeWhile (· != 10)).length) (r.dropWhile (· != 10)) := by
          show lex (r.length + 1 + 1) at_ (35 :: r) = lex _ _ _
          have hb2 : isBlank 35 = false := rfl
          have hb3 : ((35 : UInt8) == 35) = true := rfl
          simp only [lex, hb2, hb3, if_true, Bool.false_eq_true, if_false]
          have := dropWhile_le (· != 10) r
          exact lex_fuel _ _ _ _ (by omega) (by omega)
        have hle := dropWhile_le (· != 10) r
        rw [e2, e1, lexM_gap n _ _ (by omega), gap_rem, ← drop_takeWhile_length, List.drop_drop, Nat.add_comm 1, List.drop_succ_cons]
        congr 1
        omega
      · have e1 : gap false (b :: r) = 0 := by simp only [gap, hb, if_false, h35, Bool.false_eq_true]
        rw [e1]
        rfl
/-- where a gap ends no gap begins -/
theorem gap_end : ∀ (k : Bool) (l : Bytes), ∀ b r, l.drop (gap k l) = b :: r → isBlank b = false ∧ b ≠ 35
  | true, [], b, r, h => by cases h
  | false, [], b, r, h => by cases h
  | true, c :: l, b, r, h => by
    simp only [gap] at h
    split at h
    · rw [Nat.add_comm, List.drop_succ_cons] at h
      exact gap_end _ _ _ _ h
    · rw [Nat.add_comm, List.drop_succ_cons] at h
      exact gap_end _ _ _ _ h
  | false, c :: l, b, r, h => by
    simp only [gap] at h
    split at h
    · rw [Nat.add_comm, List.drop_succ_cons] at h
      exact gap_end _ _ _ _ h
    · split at h
      · rw [Nat.add_comm, List.drop_succ_cons] at h
        exact gap_end _ _ _ _ h
      · rename_i h1 h2
        cases h
        exact ⟨by simpa using h1, h2⟩
theorem lexM_tok {at_ : Nat} {b : UInt8} {r : Bytes} (h1 : isBlank b = false) (h2 : b ≠ 35) :
    lexM at_ (b :: r) = match token (b :: r) with
      | none => .error ⟨2, at_⟩
      | some x => (lexM (at_ + x.2) ((b :: r).drop x.2)).map fun l => ⟨at_, x.1⟩ :: l := by
  have e : (b == 35) = false := by simpa using h2
  show lex (r.length + 1 + 1) at_ (b :: r) = _
  simp only [lex, h1, e, Bool.false_eq_true, if_false]
  cases et : token (b :: r) with
  | none => rfl
  | some x =>
    have hx := token_pos et
    have hl : ((b :: r).drop x.2).length < r.length + 1 := by simp only [List.length_drop, List.length_cons]; omega
    simp only [lexM, lex_fuel (r.length + 1) _ _ (at_ + x.2) hl (Nat.lt_succ_self _)]
/-! ### the program's way to a token -/
def isAlnum (b : UInt8) : Bool := isLetter b || isDigit b
/-- how long the token is that begins here; none: none does -/
def tokLen (l : Bytes) : Option Nat := match l with
  | [] => none
  | b :: r =>
    if SIGNS.contains b = true then some 1
    else if isDigit b = true then some (1 + (r.takeWhile isDigit).length)
    else if isLetter b = true then some (1 + (r.takeWhile isAlnum).length)
    else none
/-- the token that a piece is; none: too long, too great, a needless zero -/
def tokOf (p : Bytes) : Option Tok := match p with
  | [] => none
  | b :: r =>
    if isDigit b = true then (if 10 < (b :: r).length ∨ (b = 48 ∧ 1 < (b :: r).length) then none else if NUMBER < decimal (b :: r) then none else some (.num (decimal (b :: r))))
    else if RESERVED.contains (b :: r) = true then some (.name (b :: r))
    else if SIGNS.contains b = true then some (.sign b.toNat)
    else if NAME < (b :: r).length then none else some (.name (b :: r))
theorem classes : ∀ b : UInt8, (SIGNS.contains b = true → isDigit b = false ∧ isLetter b = false) ∧ (isDigit b = true → isLetter b = false) := by
  have h : ∀ n : Fin 256, (SIGNS.contains (UInt8.ofNat n.val) = true → isDigit (UInt8.ofNat n.val) = false ∧ isLetter (UInt8.ofNat n.val) = false) ∧ (isDigit (UInt8.ofNat n.val) = true → isLetter (UInt8.ofNat n.val) = false) := by decide +kernel
  intro b
  have := h ⟨b.toNat, b.toNat_lt⟩
  simpa using this
theorem reserved_head : ∀ (b : UInt8) (r : Bytes), RESERVED.contains (b :: r) = true → isLetter b = true ∧ (b :: r).length ≤ 16 := by
  intro b r h
  have h' : (b :: r) ∈ RESERVED := by simpa using h
  have e : RESERVED = [[99, 111, 108, 117, 109, 110, 115], [114, 111, 119], [97, 115, 107], [116, 105, 109, 101, 115]] := by decide +kernel
  rw [e] at h'
  simp only [List.mem_cons, List.not_mem_nil, or_false] at h'
  rcases h' with h' | h' | h' | h' <;> (injection h' with h1 h2; subst h1 h2; decide)
theorem token_mirror (b : UInt8) (r : Bytes) : token (b :: r) = (tokLen (b :: r)).bind fun n => (tokOf ((b :: r).take n)).map fun t => (t, n) := by
  obtain ⟨c1, c2⟩ := classes b
  have htake : ∀ p : UInt8 → Bool, r.take (r.takeWhile p).length = r.takeWhile p := by
    intro p
    induction r with
    | nil => rfl
    | cons x s ih =>
      by_cases h : p x = true
      · simp only [List.takeWhile_cons, h, if_true, List.length_cons, List.take_succ_cons, ih]
      · simp only [List.takeWhile_cons, h, if_false, List.length_nil, List.take_zero, Bool.false_eq_true]
  by_cases hs : SIGNS.contains b = true
  · obtain ⟨d1, d2⟩ := c1 hs
    have hr : RESERVED.contains [b] = false := by
      cases e : RESERVED.contains [b] with
      | false => rfl
      | true => rw [(reserved_head b [] e).1] at d2; cases d2
    simp only [token, tokLen, tokOf, hs, d1, d2, hr, if_true, Bool.false_eq_true, if_false, Option.bind_some, List.take_succ_cons, List.take_zero, Option.map_some]
  · by_cases hd : isDigit b = true
    · have d2 := c2 hd
      simp only [token, tokLen, tokOf, hs, hd, d2, if_true, Bool.false_eq_true, if_false, Option.bind_some, Nat.add_comm 1, List.take_succ_cons, htake, List.takeWhile_cons, List.length_cons]
      unfold numberOf
      simp only [reduceCtorEq, false_or, List.length_cons, List.head?_cons, Option.some.injEq]
      by_cases h1 : 10 < (r.takeWhile isDigit).length + 1
      · simp only [h1, true_or, if_true, Option.map_none]
      · by_cases h2 : b = 48 ∧ 1 < (r.takeWhile isDigit).length + 1
        · have h2' : 1 < (r.takeWhile isDigit).length + 1 ∧ b = 48 := ⟨h2.2, h2.1⟩
          simp only [h2, h2', true_or, or_true, if_true, Option.map_none, and_self]
        · have h2' : ¬ (1 < (r.takeWhile isDigit).length + 1 ∧ b = 48) := fun z => h2 ⟨z.2, z.1⟩
          simp only [h1, h2, h2', false_or, if_false]
          by_cases h3 : NUMBER < decimal (b :: r.takeWhile isDigit)
          · simp only [h3, if_true, Option.map_none]
          · simp only [h3, if_false, Option.map_some]
    · by_cases hl : isLetter b = true
      · have e : (fun c => isLetter c || isDigit c) = isAlnum := rfl
        simp only [token, tokLen, tokOf, hs, hd, hl, if_true, Bool.false_eq_true, if_false, Option.bind_some, Nat.add_comm 1, List.take_succ_cons, htake, List.takeWhile_cons, List.length_cons, e]
        have ea : isAlnum b = true := by simp only [isAlnum, hl, Bool.true_or]
        simp only [ea, if_true, List.length_cons]
        by_cases hr : RESERVED.contains (b :: r.takeWhile isAlnum) = true
        · have := (reserved_head _ _ hr).2
          simp only [List.length_cons] at this
          have h16 : ¬ NAME < (r.takeWhile isAlnum).length + 1 := by unfold NAME; omega
          simp only [hr, if_true, h16, if_false, Option.map_some]
        · by_cases h16 : NAME < (r.takeWhile isAlnum).length + 1
          · simp only [hr, h16, if_true, if_false, Bool.false_eq_true, Option.map_none]
          · simp only [hr, h16, if_false, Bool.false_eq_true, Option.map_some]
      · simp only [token, tokLen, hs, hd, hl, Bool.false_eq_true, if_false, Option.bind_none]
/-- one turn of the program's loop -/
theorem lexM_turn {at_ : Nat} {b : UInt8} {r : Bytes} (h1 : isBlank b = false) (h2 : b ≠ 35) :
    lexM at_ (b :: r) = match tokLen (b :: r) with
      | none => .error ⟨2, at_⟩
      | some n => match tokOf ((b :: r).take n) with
        | none => .error ⟨2, at_⟩
        | some t => (lexM (at_ + n + gap false ((b :: r).drop n)) ((b :: r).drop (n + gap false ((b :: r).drop n)))).map fun l => ⟨at_, t⟩ :: l := by
  rw [lexM_tok h1 h2, token_mirror]
  cases tokLen (b :: r) with
  | none => rfl
  | some n =>
    simp only [Option.bind_some]
    cases tokOf ((b :: r).take n) with
    | none => rfl
    | some t =>
      simp only [Option.map_some]
      rw [lexM_gap ((b :: r).drop n).length _ (at_ + n) (Nat.le_refl _), List.drop_drop]
theorem tokLen_pos {l : Bytes} {n : Nat} (h : tokLen l = some n) : 1 ≤ n ∧ n ≤ l.length := by
  cases l with
  | nil => cases h
  | cons b r =>
    have h1 := takeWhile_le isDigit r
    have h2 := takeWhile_le isAlnum r
    simp only [tokLen] at h
    simp only [List.length_cons]
    split at h
    · cases h; omega
    · split at h
      · cases h; omega
      · split at h
        · cases h; omega
        · cases h
/-- behind the last token stands the end -/
theorem lexM_last : ∀ (n : Nat) (l : Bytes) (at_ : Nat) (ts : Toks), l.length ≤ n → lexM at_ l = .ok ts → ∃ us p, ts = us ++ [⟨p, .last⟩] ∧ ∀ u ∈ us, u.tok ≠ .last := by
  intro n
  induction n with
  | zero =>
    intro l at_ ts hl h
    cases l with
    | nil => cases h; exact ⟨[], at_, rfl, by simp⟩
    | cons b r => exact absurd hl (by simp)
  | succ n ih =>
    intro l at_ ts hl h
    rw [lexM_gap l.length l at_ (Nat.le_refl _)] at h
    cases e : l.drop (gap false l) with
    | nil =>
      rw [e] at h
      cases h
      exact ⟨[], _, rfl, by simp⟩
    | cons b r =>
      obtain ⟨h1, h2⟩ := gap_end _ _ _ _ e
      rw [e, lexM_turn h1 h2] at h
      cases et : tokLen (b :: r) with
      | none => rw [et] at h; cases h
      | some k =>
        rw [et] at h
        simp only at h
        cases eo : tokOf ((b :: r).take k) with
        | none => rw [eo] at h; cases h
        | some t =>
          rw [eo] at h
          simp only at h
          generalize hq : lexM (at_ + gap false l + k + gap false ((b :: r).drop k)) ((b :: r).drop (k + gap false ((b :: r).drop k))) = q at h
          cases q with
          | error f => cases h
          | ok us =>
            cases h
            have hk := tokLen_pos et
            have hlen : (b :: r).length ≤ l.length := by rw [← e, List.length_drop]; omega
            have : ((b :: r).drop (k + gap false ((b :: r).drop k))).length ≤ n := by
              rw [List.length_drop]; omega
            obtain ⟨vs, p, e2, hv⟩ := ih _ _ _ this hq
            refine ⟨⟨_, t⟩ :: vs, p, by rw [e2]; rfl, ?_⟩
            intro u hu
            rcases List.mem_cons.mp hu with hu | hu
            · subst hu
              intro z
              simp only at z
              subst z
              cases hpk : (b :: r).take k with
              | nil => rw [hpk] at eo; cases eo
              | cons c s =>
                rw [hpk] at eo
                simp only [tokOf] at eo
                repeat' split at eo
                all_goals cases eo
            · exact hv u hu
end SR
/-! The parser, as the program goes: take a token of some kinds, or fault 3. -/
namespace SR
open VamvsBase
open Vamvsa (Row Ask Table Grouping)
inductive Kd where
  | columns | row | ask | times | comma | colon | semi | minus | name | number | last
deriving DecidableEq
def wCols : Bytes := [99, 111, 108, 117, 109, 110, 115]
def wRow : Bytes := [114, 111, 119]
def wAsk : Bytes := [97, 115, 107]
def wTimes : Bytes := [116, 105, 109, 101, 115]
theorem word_cols : word "columns" = wCols := by decide +kernel
theorem word_row : word "row" = wRow := by decide +kernel
theorem word_ask : word "ask" = wAsk := by decide +kernel
theorem word_times : word "times" = wTimes := by decide +kernel
theorem reserved_eq : RESERVED = [wCols, wRow, wAsk, wTimes] := by decide +kernel
def kd : Tok → Kd
  | .name b => if b = wCols then .columns else if b = wRow then .row else if b = wAsk then .ask else if b = wTimes then .times else .name
  | .num _ => .number
  | .sign c => if c = 44 then .comma else if c = 58 then .colon else if c = 59 then .semi else .minus
  | .last => .last
/-- the tokens that there are: a sign is one of the four, a number at most the greatest -/
def okTok : Tok → Prop
  | .sign c => c = 44 ∨ c = 58 ∨ c = 59 ∨ c = 45
  | _ => True
def okToks (l : Toks) : Prop := ∀ t ∈ l, okTok t.tok
theorem okToks.tail {t : PTok} {l : Toks} (h : okToks (t :: l)) : okToks l := fun u hu => h u (List.mem_cons_of_mem _ hu)
theorem okToks.drop {l : Toks} (h : okToks l) : okToks (l.drop 1) := by
  cases l with
  | nil => exact h
  | cons t r => exact h.tail
def take (ks : List Kd) (l : Toks) : Except Fault (PTok × Toks) := match l with
  | [] => .error ⟨3, 0⟩
  | t :: r => if kd t.tok ∈ ks then .ok (t, r) else .error ⟨3, t.place⟩
/-- the number of a token -/
def numTok : Tok → Nat
  | .num n => n
  | _ => 0
def nameTok : Tok → Bytes
  | .name b => b
  | _ => []
def numWithin (t : PTok) (lo hi : Nat) : Except Fault Nat := if numTok t.tok < lo ∨ hi < numTok t.tok then .error ⟨7, t.place⟩ else .ok (numTok t.tok)
def takeNum (lo hi : Nat) (l : Toks) : Except Fault (Nat × Toks) := (take [.number] l).bind fun x => (numWithin x.1 lo hi).map fun n => (n, x.2)
/-- the columns' loop; the number only sees to an end -/
def colsLoop : Nat → List Bytes → Toks → Except Fault (List Bytes × Toks)
  | 0, _, _ => .error ⟨3, 0⟩
  | n + 1, cs, l => (take [.name] l).bind fun x =>
      if cs.length = 4 then .error ⟨4, x.1.place⟩
      else if nameTok x.1.tok ∈ cs then .error ⟨5, x.1.place⟩
      else (take [.comma, .semi] x.2).bind fun y => if kd y.1.tok = .comma then colsLoop n (cs ++ [nameTok x.1.tok]) y.2 else .ok (cs ++ [nameTok x.1.tok], y.2)
def readCols (l : Toks) : Except Fault (List Bytes × Toks) := (take [.columns] l).bind fun x => colsLoop (x.2.length + 1) [] x.2
def valsLoop : Nat → List Nat → Toks → Except Fault (List Nat × Toks)
  | 0, vs, l => .ok (vs, l)
  | n + 1, vs, l => (take [.comma] l).bind fun x => (takeNum 0 9 x.2).bind fun y => valsLoop n (vs ++ [y.1]) y.2
def readSummed (l : Toks) : Except Fault (Int × Toks) := (take [.minus, .number] l).bind fun x =>
  if kd x.1.tok = .minus then (takeNum 0 1000 x.2).map fun y => (-(y.1 : Int), y.2) else (numWithin x.1 0 1000).map fun n => ((n : Int), x.2)
/-- a row of so many columns and one -/
def readRow (n : Nat) (l : Toks) : Except Fault (Row × Toks) := (takeNum 0 9 l).bind fun x => (valsLoop n [x.1] x.2).bind fun y => (take [.colon] y.2).bind fun z => (readSummed z.2).bind fun s => (take [.semi] s.2).map fun e => (⟨y.1, s.1⟩, e.2)
def bitOf (cs : List Bytes) (g : Grouping) (t : PTok) : Except Fault Nat := match cs.findIdx? fun c => c == nameTok t.tok with
  | none => .error ⟨8, t.place⟩
  | some i => if g / 2 ^ i % 2 = 1 then .error ⟨6, t.place⟩ else .ok (2 ^ i)
/-- a question's columns, from a token on: the first token that is no name, what is behind it -/
def askLoop (cs : List Bytes) : Nat → Grouping → PTok → Toks → Except Fault (Grouping × PTok × Toks)
  | 0, _, _, _ => .error ⟨3, 0⟩
  | n + 1, g, t, l => if kd t.tok = .name then (bitOf cs g t).bind fun b => (take [.comma, .times, .semi] l).bind fun x =>
      if kd x.1.tok = .comma then (take [.name] x.2).bind fun y => askLoop cs n (g + b) y.1 y.2 else askLoop cs n (g + b) x.1 x.2
    else .ok (g, t, l)
def readAsk (cs : List Bytes) (l : Toks) : Except Fault (Ask × Toks) := (take [.name, .times, .semi] l).bind fun x => (askLoop cs (l.length + 2) 0 x.1 x.2).bind fun y =>
  if kd y.2.1.tok = .times then (takeNum 1 99 y.2.2).bind fun k => (take [.semi] k.2).map fun e => (⟨y.1, k.1⟩, e.2) else .ok (⟨y.1, 1⟩, y.2.2)
/-- the lines' loop, from a token on -/
def linesLoop : Nat → Table → PTok → Toks → Except Fault Table
  | 0, _, _, _ => .error ⟨3, 0⟩
  | n + 1, tb, t, l => if kd t.tok = .last then .ok tb
    else if kd t.tok = .row then (if tb.rows.length = 16 then .error ⟨4, t.place⟩ else (readRow (tb.cols.length - 1) l).bind fun r => (take [.row, .ask, .last] r.2).bind fun x => linesLoop n { tb with rows := tb.rows ++ [r.1] } x.1 x.2)
    else (if tb.asks.length = 8 then .error ⟨4, t.place⟩ else (readAsk tb.cols l).bind fun a => (take [.row, .ask, .last] a.2).bind fun x => linesLoop n { tb with asks := tb.asks ++ [a.1] } x.1 x.2)
def readToks (l : Toks) : Except Fault Table := (readCols l).bind fun c => (take [.row, .ask, .last] c.2).bind fun x => linesLoop (c.2.length + 1) ⟨c.1, [], []⟩ x.1 x.2
def readM (b : Bytes) : Except Fault Table := if 4096 < b.length then .error ⟨1, 4096⟩ else (lexM 0 b).bind readToks
/-! ### kinds and the specification's tests -/
theorem kd_name {t : Tok} (h : kd t = .name) : ∃ b, t = .name b ∧ RESERVED.contains b = false := by
  cases t with
  | name b =>
    refine ⟨b, rfl, ?_⟩
    simp only [kd] at h
    rw [reserved_eq]
    split at h <;> try cases h
    split at h <;> try cases h
    split at h <;> try cases h
    split at h <;> try cases h
    rename_i h1 h2 h3 h4
    simp [h1, h2, h3, h4]
  | num n => cases h
  | sign c =>
    simp only [kd] at h
    repeat' split at h
    all_goals cases h
  | last => cases h
theorem kd_name_of {b : Bytes} (h : RESERVED.contains b = false) : kd (.name b) = .name := by
  rw [reserved_eq] at h
  simp only [List.contains_cons, List.contains_nil, Bool.or_false, Bool.or_eq_false_iff, beq_eq_false_iff_ne, ne_eq] at h
  obtain ⟨h1, h2, h3, h4⟩ := h
  simp only [kd, h1, h2, h3, h4, if_false]
theorem kd_number {t : Tok} (h : kd t = .number) : ∃ n, t = .num n := by
  cases t with
  | name b =>
    simp only [kd] at h
    repeat' split at h
    all_goals cases h
  | num n => exact ⟨n, rfl⟩
  | sign c =>
    simp only [kd] at h
    repeat' split at h
    all_goals cases h
  | last => cases h
theorem kd_last {t : Tok} : kd t = .last ↔ t = .last := by
  constructor
  · intro h
    cases t with
    | name b =>
      simp only [kd] at h
      repeat' split at h
      all_goals cases h
    | num n => cases h
    | sign c =>
      simp only [kd] at h
      repeat' split at h
      all_goals cases h
    | last => rfl
  · intro h
    subst h
    rfl
theorem next_word {s : String} {w : Bytes} {k : Kd} (hw : word s = w) (hk : ∀ b, kd (.name b) = k ↔ b = w) (h1 : ∀ n, kd (.num n) ≠ k) (h2 : ∀ c, kd (.sign c) ≠ k) (h3 : kd .last ≠ k) (t : PTok) (r : Toks) :
    nextWord s (t :: r) = decide (kd t.tok = k) := by
  unfold nextWord next
  rw [hw]
  obtain ⟨p, t⟩ := t
  cases t with
  | name b =>
    simp only [tokEq, hk]
    by_cases h : b = w <;> simp [h]
  | num n => simp [tokEq, h1]
  | sign c => simp [tokEq, h2]
  | last => simp [tokEq, h3]
theorem sign_kd (c : Nat) : kd (.sign c) = .comma ∨ kd (.sign c) = .colon ∨ kd (.sign c) = .semi ∨ kd (.sign c) = .minus := by
  simp only [kd]
  repeat' split
  all_goals simp
theorem kd_row (b : Bytes) : kd (.name b) = .row ↔ b = wRow := by
  simp only [kd]
  constructor
  · intro h
    repeat' split at h
    all_goals first | assumption | cases h
  · intro h; subst h; decide
theorem kd_ask (b : Bytes) : kd (.name b) = .ask ↔ b = wAsk := by
  simp only [kd]
  constructor
  · intro h
    repeat' split at h
    all_goals first | assumption | cases h
  · intro h; subst h; decide
theorem kd_times (b : Bytes) : kd (.name b) = .times ↔ b = wTimes := by
  simp only [kd]
  constructor
  · intro h
    repeat' split at h
    all_goals first | assumption | cases h
  · intro h; subst h; decide
theorem kd_columns (b : Bytes) : kd (.name b) = .columns ↔ b = wCols := by
  simp only [kd]
  constructor
  · intro h
    repeat' split at h
    all_goals first | assumption | cases h
  · intro h; subst h; decide
theorem next_row (t : PTok) (r : Toks) : nextWord "row" (t :: r) = decide (kd t.tok = .row) :=
  next_word word_row kd_row (by simp [kd]) (fun c => by rcases sign_kd c with h | h | h | h <;> rw [h] <;> decide) (by decide) t r
theorem next_ask (t : PTok) (r : Toks) : nextWord "ask" (t :: r) = decide (kd t.tok = .ask) :=
  next_word word_ask kd_ask (by simp [kd]) (fun c => by rcases sign_kd c with h | h | h | h <;> rw [h] <;> decide) (by decide) t r
theorem next_times (t : PTok) (r : Toks) : nextWord "times" (t :: r) = decide (kd t.tok = .times) :=
  next_word word_times kd_times (by simp [kd]) (fun c => by rcases sign_kd c with h | h | h | h <;> rw [h] <;> decide) (by decide) t r
theorem next_columns (t : PTok) (r : Toks) : nextWord "columns" (t :: r) = decide (kd t.tok = .columns) :=
  next_word word_cols kd_columns (by simp [kd]) (fun c => by rcases sign_kd c with h | h | h | h <;> rw [h] <;> decide) (by decide) t r
theorem name_kd (b : Bytes) : kd (.name b) = .columns ∨ kd (.name b) = .row ∨ kd (.name b) = .ask ∨ kd (.name b) = .times ∨ kd (.name b) = .name := by
  simp only [kd]
  repeat' split
  all_goals simp
theorem next_sign {c : Nat} {k : Kd} (hc : kd (.sign c) = k) (hn : k = .comma ∨ k = .colon ∨ k = .semi ∨ k = .minus) (hi : ∀ d, okTok (.sign d) → (kd (.sign d) = k ↔ d = c)) (t : PTok) (r : Toks) (ok : okTok t.tok) :
    next (.sign c) (t :: r) = decide (kd t.tok = k) := by
  unfold next
  obtain ⟨p, t⟩ := t
  cases t with
  | name b =>
    have : kd (.name b) ≠ k := by
      rcases name_kd b with h | h | h | h | h <;> rcases hn with e | e | e | e <;> rw [h, e] <;> decide
    simp [tokEq, this]
  | num n =>
    have : kd (.num n) ≠ k := by
      rcases hn with e | e | e | e <;> rw [e] <;> simp [kd]
    simp [tokEq, this]
  | sign d =>
    simp only [tokEq, hi d ok]
    by_cases h : d = c <;> simp [h]
  | last =>
    have : kd .last ≠ k := by
      rcases hn with e | e | e | e <;> rw [e] <;> decide
    simp [tokEq, this]
theorem next_comma (t : PTok) (r : Toks) (ok : okTok t.tok) : next (.sign 44) (t :: r) = decide (kd t.tok = .comma) :=
  next_sign rfl (by decide) (fun d h => by rcases h with h | h | h | h <;> subst h <;> decide) t r ok
theorem next_colon (t : PTok) (r : Toks) (ok : okTok t.tok) : next (.sign 58) (t :: r) = decide (kd t.tok = .colon) :=
  next_sign rfl (by decide) (fun d h => by rcases h with h | h | h | h <;> subst h <;> decide) t r ok
theorem next_semi (t : PTok) (r : Toks) (ok : okTok t.tok) : next (.sign 59) (t :: r) = decide (kd t.tok = .semi) :=
  next_sign rfl (by decide) (fun d h => by rcases h with h | h | h | h <;> subst h <;> decide) t r ok
theorem next_minus (t : PTok) (r : Toks) (ok : okTok t.tok) : next (.sign 45) (t :: r) = decide (kd t.tok = .minus) :=
  next_sign rfl (by decide) (fun d h => by rcases h with h | h | h | h <;> subst h <;> decide) t r ok
theorem next_last (t : PTok) (r : Toks) : next .last (t :: r) = decide (kd t.tok = .last) := by
  unfold next
  obtain ⟨p, t⟩ := t
  cases t with
  | name b =>
    rcases name_kd b with h | h | h | h | h <;> simp [tokEq, h]
  | num n => simp [tokEq, kd]
  | sign d =>
    rcases sign_kd d with h | h | h | h <;> simp [tokEq, h]
  | last => simp [tokEq, kd]
theorem taken_take {t : Tok} {k : Kd} (h : ∀ (x : PTok) (r : Toks), okTok x.tok → next t (x :: r) = decide (kd x.tok = k)) (l : Toks) (ok : okToks l) : taken t l = (take [k] l).map (·.2) := by
  cases l with
  | nil => rfl
  | cons x r =>
    unfold taken take
    rw [h x r (ok x (List.mem_cons_self ..))]
    by_cases e : kd x.tok = k
    · simp only [e, decide_true, if_true, List.drop_succ_cons, List.drop_zero, List.mem_singleton, Except.map]
    · have : ¬ (decide (kd x.tok = k) = true) := by simpa using e
      simp only [e, decide_false, Bool.false_eq_true, if_false, List.mem_singleton, Except.map]
      rfl
theorem take_columns (l : Toks) (ok : okToks l) : takeWord "columns" l = (take [.columns] l).map (·.2) := taken_take (fun x r _ => next_columns x r) l ok
theorem take_ask (l : Toks) (ok : okToks l) : takeWord "ask" l = (take [.ask] l).map (·.2) := taken_take (fun x r _ => next_ask x r) l ok
theorem take_comma (l : Toks) (ok : okToks l) : takeSign 44 l = (take [.comma] l).map (·.2) := taken_take next_comma l ok
theorem take_colon (l : Toks) (ok : okToks l) : takeSign 58 l = (take [.colon] l).map (·.2) := taken_take next_colon l ok
theorem take_semi (l : Toks) (ok : okToks l) : takeSign 59 l = (take [.semi] l).map (·.2) := taken_take next_semi l ok
theorem take_name (l : Toks) : takeName l = (take [.name] l).map fun x => (⟨x.1.place, nameTok x.1.tok⟩, x.2) := by
  cases l with
  | nil => rfl
  | cons x r =>
    obtain ⟨p, t⟩ := x
    cases t with
    | name b =>
      by_cases h : RESERVED.contains b = true
      · have hk : kd (.name b) ≠ .name := fun z => by
          obtain ⟨b', e, h'⟩ := kd_name z
          cases e
          rw [h] at h'
          cases h'
        simp only [takeName, h, if_true, take, List.mem_singleton, hk, if_false, Except.map]
        rfl
      · have hk := kd_name_of (Bool.eq_false_iff.mpr h)
        simp only [takeName, h, Bool.false_eq_true, if_false, take, hk, List.mem_singleton, if_true, Except.map, nameTok]
    | num n => rfl
    | sign c =>
      have hk : kd (.sign c) ≠ .name := by rcases sign_kd c with h | h | h | h <;> rw [h] <;> decide
      simp only [takeName, take, List.mem_singleton, hk, if_false, Except.map]
      rfl
    | last => rfl
theorem take_nat (m : Nat) (l : Toks) : Vamvsa.takeNat m l = takeNum 0 m l := by
  cases l with
  | nil => rfl
  | cons x r =>
    obtain ⟨p, t⟩ := x
    cases t with
    | num n =>
      have hk : kd (.num n) = .number := rfl
      simp only [Vamvsa.takeNat, takeNum, take, hk, List.mem_singleton, if_true, Except.bind, numWithin, numTok, Nat.not_lt_zero, false_or]
      split <;> rfl
    | name b =>
      have hk : kd (.name b) ≠ .number := by rcases name_kd b with h | h | h | h | h <;> rw [h] <;> decide
      simp only [Vamvsa.takeNat, takeNum, take, List.mem_singleton, hk, if_false, Except.bind]
      rfl
    | sign c =>
      have hk : kd (.sign c) ≠ .number := by rcases sign_kd c with h | h | h | h <;> rw [h] <;> decide
      simp only [Vamvsa.takeNat, takeNum, take, List.mem_singleton, hk, if_false, Except.bind]
      rfl
    | last => rfl
/-! ### what is taken is behind -/
theorem take_ok {ks : List Kd} {l : Toks} {x : PTok × Toks} (h : take ks l = .ok x) : l = x.1 :: x.2 ∧ kd x.1.tok ∈ ks := by
  cases l with
  | nil => cases h
  | cons t r =>
    simp only [take] at h
    split at h
    · cases h
      exact ⟨rfl, by assumption⟩
    · cases h
theorem takeNum_ok {lo hi : Nat} {l : Toks} {x : Nat × Toks} (h : takeNum lo hi l = .ok x) : ∃ t, l = t :: x.2 ∧ t.tok = .num x.1 ∧ lo ≤ x.1 ∧ x.1 ≤ hi := by
  unfold takeNum at h
  cases e : take [.number] l with
  | error f => rw [e] at h; cases h
  | ok y =>
    rw [e] at h
    obtain ⟨hl, hk⟩ := take_ok e
    obtain ⟨n, hn⟩ := kd_number (List.mem_singleton.mp hk)
    simp only [Except.bind, numWithin] at h
    split at h
    · cases h
    · rename_i hb
      cases h
      refine ⟨y.1, hl, by rw [hn]; rfl, ?_, ?_⟩
      · show lo ≤ numTok y.1.tok
        omega
      · show numTok y.1.tok ≤ hi
        omega
theorem colsLoop_eq : ∀ (n m : Nat) (cs : List Bytes) (l : Toks), okToks l → l.length < n → l.length < m → cs.length ≤ 4 → Vamvsa.takeColumns n cs l = colsLoop m cs l
  | 0, _, _, _, _, h, _, _ => absurd h (Nat.not_lt_zero _)
  | _, 0, _, _, _, _, h, _ => absurd h (Nat.not_lt_zero _)
  | n + 1, m + 1, cs, l, ok, hn, hm, h4 => by
    simp only [Vamvsa.takeColumns, colsLoop, take_name]
    cases e : take [.name] l with
    | error f => rfl
    | ok x =>
      obtain ⟨hl, hk⟩ := take_ok e
      simp only [Except.map, Except.bind]
      have hc : Vamvsa.COLUMNS ≤ cs.length ↔ cs.length = 4 := by unfold Vamvsa.COLUMNS; omega
      by_cases h1 : cs.length = 4
      · rw [if_pos (hc.mpr h1), if_pos h1]
      · have hc' : ¬ Vamvsa.COLUMNS ≤ cs.length := fun z => h1 (hc.mp z)
        simp only [hc', h1, if_false]
        by_cases h2 : nameTok x.1.tok ∈ cs
        · have : cs.contains (nameTok x.1.tok) = true := by simpa using h2
          simp only [this, h2, if_true]
        · have : ¬ (cs.contains (nameTok x.1.tok) = true) := by simpa using h2
          simp only [this, h2, if_false]
          have okx : okToks x.2 := by rw [hl] at ok; exact ok.tail
          cases hx : x.2 with
          | nil => simp only [next, Bool.false_eq_true, if_false, take, takeSign, taken, wrong, here]
          | cons y r =>
            rw [hx] at okx
            rw [next_comma y r (okx y (List.mem_cons_self ..)), take_semi _ okx]
            have hlen : l.length = r.length + 2 := by rw [hl, hx]; rfl
            by_cases hy : kd y.tok = .comma
            · simp only [hy, decide_true, if_true, take, List.drop_succ_cons, List.drop_zero]
              have hmem : Kd.comma ∈ [Kd.comma, Kd.semi] := by decide
              simp only [hmem, if_true, hy]
              exact colsLoop_eq n m _ r okx.tail (by omega) (by omega) (by simp only [List.length_append, List.length_cons, List.length_nil]; omega)
            · by_cases hs : kd y.tok = .semi
              · have hm1 : Kd.semi ∈ [Kd.comma, Kd.semi] := by decide
                have hm2 : Kd.semi ∈ [Kd.semi] := by decide
                have hne : Kd.semi ≠ Kd.comma := by decide
                simp only [hs, hne, decide_false, Bool.false_eq_true, if_false, take, hm1, hm2, if_true, Except.map]
              · have hm1 : kd y.tok ∉ [Kd.comma, Kd.semi] := by simp [hy, hs]
                have hm2 : kd y.tok ∉ [Kd.semi] := by simp [hs]
                simp only [hy, decide_false, Bool.false_eq_true, if_false, take, hm1, hm2, Except.map]
theorem readCols_eq (l : Toks) (ok : okToks l) : ((takeWord "columns" l).bind fun r => Vamvsa.takeColumns (r.length + 1) [] r) = readCols l := by
  unfold readCols
  rw [take_columns l ok]
  cases e : take [.columns] l with
  | error f => rfl
  | ok x =>
    obtain ⟨hl, _⟩ := take_ok e
    simp only [Except.map, Except.bind]
    exact colsLoop_eq _ _ _ _ (by rw [hl] at ok; exact ok.tail) (Nat.lt_succ_self _) (Nat.lt_succ_self _) (by simp)
theorem valsLoop_eq : ∀ (n : Nat) (vs : List Nat) (l : Toks), okToks l → vs ≠ [] → Vamvsa.takeValues n vs l = valsLoop n vs l
  | 0, _, _, _, _ => rfl
  | n + 1, vs, l, ok, hv => by
    have he : ¬ (vs.isEmpty = true) := by simpa using hv
    simp only [Vamvsa.takeValues, valsLoop, he, if_false, take_comma l ok]
    cases e : take [.comma] l with
    | error f => rfl
    | ok x =>
      obtain ⟨hl, _⟩ := take_ok e
      have okx : okToks x.2 := by rw [hl] at ok; exact ok.tail
      simp only [Except.map, Except.bind, take_nat]
      show (takeNum 0 9 x.2).bind _ = _
      cases e2 : takeNum 0 9 x.2 with
      | error f => rfl
      | ok y =>
        obtain ⟨t, hl2, _⟩ := takeNum_ok e2
        simp only [Except.bind]
        exact valsLoop_eq n _ _ (by rw [hl2] at okx; exact okx.tail) (by simp)
theorem vals_eq (n : Nat) (l : Toks) (ok : okToks l) : Vamvsa.takeValues (n + 1) [] l = (takeNum 0 9 l).bind fun x => valsLoop n [x.1] x.2 := by
  simp only [Vamvsa.takeValues, List.isEmpty_nil, if_true, Except.bind, take_nat]
  show (takeNum 0 9 l).bind _ = _
  cases e2 : takeNum 0 9 l with
  | error f => rfl
  | ok y =>
    obtain ⟨t, hl2, _⟩ := takeNum_ok e2
    simp only [Except.bind, List.nil_append]
    exact valsLoop_eq n _ _ (by rw [hl2] at ok; exact ok.tail) (by simp)
theorem valsLoop_ok : ∀ (n : Nat) (vs : List Nat) (l : Toks) (y : List Nat × Toks), okToks l → valsLoop n vs l = .ok y → okToks y.2
  | 0, _, _, _, ok, h => by cases h; exact ok
  | n + 1, vs, l, y, ok, h => by
    simp only [valsLoop] at h
    cases e : take [.comma] l with
    | error f => rw [e] at h; cases h
    | ok x =>
      obtain ⟨hl, _⟩ := take_ok e
      have okx : okToks x.2 := by rw [hl] at ok; exact ok.tail
      rw [e] at h
      simp only [Except.bind] at h
      cases e2 : takeNum 0 9 x.2 with
      | error f => rw [e2] at h; cases h
      | ok z =>
        obtain ⟨t, hl2, _⟩ := takeNum_ok e2
        rw [e2] at h
        simp only at h
        exact valsLoop_ok n _ _ _ (by rw [hl2] at okx; exact okx.tail) h
theorem summed_eq (l : Toks) (ok : okToks l) : Vamvsa.takeInt l = readSummed l := by
  unfold Vamvsa.takeInt readSummed
  cases l with
  | nil => rfl
  | cons t r =>
    simp only [next_minus t r (ok t (List.mem_cons_self ..)), take_nat]
    show (takeNum 0 1000 _).map _ = _
    by_cases h : kd t.tok = .minus
    · have hm : Kd.minus ∈ [Kd.minus, Kd.number] := by decide
      simp only [h, decide_true, if_true, List.drop_succ_cons, List.drop_zero, take, hm, Except.bind]
    · by_cases h2 : kd t.tok = .number
      · have hm : Kd.number ∈ [Kd.minus, Kd.number] := by decide
        have hm2 : Kd.number ∈ [Kd.number] := by decide
        have hne : Kd.number ≠ Kd.minus := by decide
        simp only [h2, hne, decide_false, Bool.false_eq_true, if_false, take, takeNum, hm, hm2, if_true, Except.bind]
        cases numWithin t 0 1000 <;> rfl
      · have hm : kd t.tok ∉ [Kd.minus, Kd.number] := by simp [h, h2]
        have hm2 : kd t.tok ∉ [Kd.number] := by simp [h2]
        simp only [h, decide_false, Bool.false_eq_true, if_false, take, takeNum, hm, hm2, Except.bind, Except.map]
theorem summed_ok {l : Toks} {y : Int × Toks} (ok : okToks l) (h : readSummed l = .ok y) : okToks y.2 := by
  unfold readSummed at h
  cases e : take [.minus, .number] l with
  | error f => rw [e] at h; cases h
  | ok x =>
    obtain ⟨hl, _⟩ := take_ok e
    have okx : okToks x.2 := by rw [hl] at ok; exact ok.tail
    rw [e] at h
    simp only [Except.bind] at h
    split at h
    · cases e2 : takeNum 0 1000 x.2 with
      | error f => rw [e2] at h; cases h
      | ok z =>
        obtain ⟨t, hl2, _⟩ := takeNum_ok e2
        rw [e2] at h
        cases h
        rw [hl2] at okx
        exact okx.tail
    · cases e2 : numWithin x.1 0 1000 with
      | error f => rw [e2] at h; cases h
      | ok z => rw [e2] at h; cases h; exact okx
theorem row_eq (n : Nat) (l : Toks) (ok : okToks l) :
    ((Vamvsa.takeValues (n + 1) [] l).bind fun v => (takeSign 58 v.2).bind fun r => (Vamvsa.takeInt r).bind fun x => (takeSign 59 x.2).map fun m => ((⟨v.1, x.1⟩ : Row), m)) = readRow n l := by
  unfold readRow
  rw [vals_eq n l ok]
  cases e1 : takeNum 0 9 l with
  | error f => rfl
  | ok x =>
    obtain ⟨t, hl1, _⟩ := takeNum_ok e1
    have ok1 : okToks x.2 := by rw [hl1] at ok; exact ok.tail
    simp only [Except.bind]
    cases e2 : valsLoop n [x.1] x.2 with
    | error f => rfl
    | ok y =>
      have ok2 := valsLoop_ok _ _ _ _ ok1 e2
      simp only [take_colon _ ok2]
      cases e3 : take [.colon] y.2 with
      | error f => rfl
      | ok z =>
        obtain ⟨hl3, _⟩ := take_ok e3
        have ok3 : okToks z.2 := by rw [hl3] at ok2; exact ok2.tail
        simp only [Except.map, summed_eq _ ok3]
        cases e4 : readSummed z.2 with
        | error f => rfl
        | ok s =>
          have ok4 := summed_ok ok3 e4
          simp only [take_semi _ ok4]
          cases take [.semi] s.2 <;> rfl
/-- read a row: it is a row of so many numbers, each at most 9; the tokens go on behind -/
theorem valsLoop_len : ∀ (n : Nat) (vs : List Nat) (l : Toks) (y : List Nat × Toks), valsLoop n vs l = .ok y → (∀ v ∈ vs, v ≤ 9) → y.1.length = vs.length + n ∧ (∀ v ∈ y.1, v ≤ 9) ∧ y.2.length ≤ l.length ∧ ∃ k, y.2 = l.drop k
  | 0, _, _, _, h, hv => by cases h; exact ⟨rfl, hv, Nat.le_refl _, 0, rfl⟩
  | n + 1, vs, l, y, h, hv => by
    simp only [valsLoop] at h
    cases e : take [.comma] l with
    | error f => rw [e] at h; cases h
    | ok x =>
      obtain ⟨hl, _⟩ := take_ok e
      rw [e] at h
      simp only [Except.bind] at h
      cases e2 : takeNum 0 9 x.2 with
      | error f => rw [e2] at h; cases h
      | ok z =>
        obtain ⟨t, hl2, _, _, h9⟩ := takeNum_ok e2
        rw [e2] at h
        simp only at h
        obtain ⟨h1, h2, h3, k, h4⟩ := valsLoop_len n _ _ _ h (fun v hm => by
          rcases List.mem_append.mp hm with hm | hm
          · exact hv v hm
          · rw [List.mem_singleton.mp hm]; exact h9)
        refine ⟨by rw [h1, List.length_append]; simp only [List.length_cons, List.length_nil]; omega, h2, ?_, k + 2, ?_⟩
        · rw [hl, hl2]; simp only [List.length_cons]; omega
        · rw [h4, hl, hl2]; rfl
theorem bit_eq (cs : List Bytes) (g : Grouping) (t : PTok) : bitOf cs g t = match cs.findIdx? fun c => c == nameTok t.tok with
    | none => .error ⟨8, t.place⟩
    | some i => if g / 2 ^ i % 2 = 1 then .error ⟨6, t.place⟩ else .ok (2 ^ i) := rfl
/-- a token that is no name ends the loop -/
theorem askLoop_end {cs : List Bytes} {n : Nat} {g : Grouping} {t : PTok} {l : Toks} (h : kd t.tok ≠ .name) (hn : 0 < n) : askLoop cs n g t l = .ok (g, t, l) := by
  cases n with
  | zero => exact absurd hn (Nat.lt_irrefl _)
  | succ n => simp only [askLoop, h, if_false]
/-- the specification's two ways behind a question's columns, by the token that stands there -/
def askEnd (cs : List Bytes) (g : Grouping) (l : Toks) : Except Fault (Ask × Toks) := (Vamvsa.takeTimes l).bind fun k => (takeSign 59 k.2).map fun m => (⟨g, k.1⟩, m)
def askTail (y : Grouping × PTok × Toks) : Except Fault (Ask × Toks) :=
  if kd y.2.1.tok = .times then (takeNum 1 99 y.2.2).bind fun k => (take [.semi] k.2).map fun e => (⟨y.1, k.1⟩, e.2) else .ok (⟨y.1, 1⟩, y.2.2)
theorem ask_end (cs : List Bytes) (g : Grouping) (l : Toks) (ok : okToks l) : askEnd cs g l = (take [.times, .semi] l).bind fun x => askTail (g, x.1, x.2) := by
  unfold askEnd
  cases l with
  | nil => rfl
  | cons t r =>
    unfold Vamvsa.takeTimes
    simp only [next_times t r]
    have okr := ok.tail
    by_cases h : kd t.tok = .times
    · have hm : Kd.times ∈ [Kd.times, Kd.semi] := by decide
      simp only [h, decide_true, if_true, List.drop_succ_cons, List.drop_zero, take, hm, Except.bind, askTail]
      cases r with
      | nil => rfl
      | cons u s =>
        obtain ⟨p, u⟩ := u
        cases u with
        | num n =>
          have hk : kd (.num n) = .number := rfl
          have hmn : Kd.number ∈ [Kd.number] := by decide
          simp only [takeNum, take, hk, hmn, if_true, Except.bind, numWithin, numTok, Vamvsa.TIMES]
          by_cases hb : n < 1 ∨ 99 < n
          · simp only [hb, if_true]
            rfl
          · simp only [hb, if_false, Except.map]
            rw [take_semi _ okr.tail]
            cases s with
            | nil => rfl
            | cons v s =>
              by_cases hv : kd v.tok ∈ [Kd.semi]
              · simp only [take, hv, if_true, Except.map]
              · simp only [take, hv, if_false, Except.map]
        | name b =>
          have hk : kd (.name b) ≠ .number := by rcases name_kd b with h | h | h | h | h <;> rw [h] <;> decide
          simp only [takeNum, take, List.mem_singleton, hk, if_false, Except.bind]
          rfl
        | sign c =>
          have hk : kd (.sign c) ≠ .number := by rcases sign_kd c with h | h | h | h <;> rw [h] <;> decide
          simp only [takeNum, take, List.mem_singleton, hk, if_false, Except.bind]
          rfl
        | last => rfl
    · simp only [h, decide_false, Bool.false_eq_true, if_false, Except.bind, take_semi _ ok]
      by_cases h2 : kd t.tok = .semi
      · have hm : Kd.semi ∈ [Kd.times, Kd.semi] := by decide
        have hm2 : Kd.semi ∈ [Kd.semi] := by decide
        have hne : Kd.semi ≠ Kd.times := by decide
        simp only [take, h2, hm, hm2, if_true, Except.map, askTail, hne, if_false]
      · have hm : kd t.tok ∉ [Kd.times, Kd.semi] := by simp [h, h2]
        have hm2 : kd t.tok ∉ [Kd.semi] := by simp [h2]
        simp only [take, hm, hm2, if_false, Except.map]
theorem asked_loop (cs : List Bytes) : ∀ (n m : Nat) (g : Grouping) (t : PTok) (l : Toks), okToks (t :: l) → l.length + 1 < n → l.length + 1 < m → kd t.tok = .name →
    ((Vamvsa.takeAsked cs n g (t :: l)).bind fun x => askEnd cs x.1 x.2) = (askLoop cs m g t l).bind askTail
  | 0, _, _, _, _, _, h, _, _ => absurd h (Nat.not_lt_zero _)
  | _, 0, _, _, _, _, _, h, _ => absurd h (Nat.not_lt_zero _)
  | n + 1, m + 1, g, t, l, ok, hn, hm, hk => by
    have hmem : Kd.name ∈ [Kd.name] := by decide
    have okl := ok.tail
    simp only [Vamvsa.takeAsked, take_name, take, hmem, if_true, Except.map, Except.bind, askLoop, hk, bitOf]
    cases hf : cs.findIdx? fun c => c == nameTok t.tok with
    | none => rfl
    | some i =>
      simp only
      by_cases hb : g / 2 ^ i % 2 = 1
      · simp only [hb, if_true]
      · simp only [hb, if_false]
        cases l with
        | nil =>
          simp only [next, Bool.false_eq_true, if_false, take]
          rw [ask_end cs _ _ okl]
          rfl
        | cons u r =>
          simp only [List.length_cons] at hn hm
          rw [next_comma u r (okl u (List.mem_cons_self ..))]
          by_cases hu : kd u.tok = .comma
          · have hmem2 : Kd.comma ∈ [Kd.comma, Kd.times, Kd.semi] := by decide
            simp only [hu, decide_true, if_true, List.drop_succ_cons, List.drop_zero, take, hmem2]
            cases r with
            | nil =>
              have : ∀ k, 0 < k → Vamvsa.takeAsked cs k (g + 2 ^ i) [] = .error ⟨3, 0⟩ := by
                intro k hk0
                cases k with
                | zero => exact absurd hk0 (Nat.lt_irrefl _)
                | succ k => rfl
              rw [this n (by omega)]
            | cons v s =>
              by_cases hv : kd v.tok = .name
              · have hmem3 : kd v.tok ∈ [Kd.name] := by simp [hv]
                simp only [hmem3, if_true]
                exact asked_loop cs n m (g + 2 ^ i) v s okl.tail (by simp only [List.length_cons] at hn; omega) (by simp only [List.length_cons] at hm; omega) hv
              · have hmem3 : kd v.tok ∉ [Kd.name] := by simp [hv]
                cases n with
                | zero => exact absurd hn (by omega)
                | succ n =>
                  simp only [Vamvsa.takeAsked, take_name, take, hmem3, if_false, Except.map, Except.bind]
          · simp only [hu, decide_false, Bool.false_eq_true, if_false]
            rw [ask_end cs _ _ okl]
            by_cases hx : kd u.tok ∈ [Kd.times, Kd.semi]
            · have hx2 : kd u.tok ∈ [Kd.comma, Kd.times, Kd.semi] := List.mem_cons_of_mem _ hx
              have hnn : kd u.tok ≠ .name := fun z => by rw [z] at hx; revert hx; decide
              simp only [take, hx, hx2, if_true, Except.bind, hu, if_false]
              rw [askLoop_end hnn (by omega)]
            · have hx2 : kd u.tok ∉ [Kd.comma, Kd.times, Kd.semi] := by
                intro z
                rcases List.mem_cons.mp z with z | z
                · exact hu z
                · exact hx z
              simp only [take, hx, hx2, if_false, Except.bind]
theorem readAsk_eq (cs : List Bytes) (l : Toks) (ok : okToks l) : Vamvsa.takeAsk cs l = readAsk cs l := by
  have e0 : ∀ (x : Except Fault (Grouping × Toks)), (x.bind fun g => (Vamvsa.takeTimes g.2).bind fun k => (takeSign 59 k.2).map fun m => ((⟨g.1, k.1⟩ : Ask), m)) = x.bind fun g => askEnd cs g.1 g.2 := fun x => rfl
  unfold Vamvsa.takeAsk readAsk
  rw [e0]
  have e1 : ∀ (x : Except Fault (Grouping × PTok × Toks)), (x.bind fun y => if kd y.2.1.tok = .times then (takeNum 1 99 y.2.2).bind fun k => (take [.semi] k.2).map fun e => ((⟨y.1, k.1⟩ : Ask), e.2) else .ok (⟨y.1, 1⟩, y.2.2)) = x.bind askTail := fun x => rfl
  cases l with
  | nil => rfl
  | cons t r =>
    simp only [next_times t r, next_semi t r (ok t (List.mem_cons_self ..)), decide_eq_true_eq]
    by_cases h : kd t.tok = .times ∨ kd t.tok = .semi
    · have hx : kd t.tok ∈ [Kd.times, Kd.semi] := by simpa using h
      have hx2 : kd t.tok ∈ [Kd.name, Kd.times, Kd.semi] := List.mem_cons_of_mem _ hx
      have hnn : kd t.tok ≠ .name := fun z => by rw [z] at hx; revert hx; decide
      simp only [h, if_true, Except.bind]
      rw [ask_end cs _ _ ok]
      simp only [take, hx, hx2, if_true, Except.bind]
      rw [askLoop_end hnn (by omega)]
      rfl
    · simp only [h, if_false]
      have h' : kd t.tok ≠ .times ∧ kd t.tok ≠ .semi := ⟨fun z => h (.inl z), fun z => h (.inr z)⟩
      by_cases hk : kd t.tok = .name
      · have hx2 : kd t.tok ∈ [Kd.name, Kd.times, Kd.semi] := by simp [hk]
        rw [asked_loop cs _ ((t :: r).length + 2) 0 t r ok (by simp only [List.length_cons]; omega) (by simp only [List.length_cons]; omega) hk]
        simp only [take, hx2, if_true, Except.bind]
        rfl
      · have hx2 : kd t.tok ∉ [Kd.name, Kd.times, Kd.semi] := by simp [hk, h']
        have hx3 : kd t.tok ∉ [Kd.name] := by simp [hk]
        simp only [Vamvsa.takeAsked, take_name, take, hx2, hx3, if_false, Except.map, Except.bind]
/-! ### what is left behind a question -/
theorem askLoop_ok (cs : List Bytes) : ∀ (n : Nat) (g : Grouping) (t : PTok) (l : Toks) (y : Grouping × PTok × Toks), askLoop cs n g t l = .ok y →
    (∃ k, y.2.2 = l.drop k) ∧ (kd t.tok = .name → y.2.2.length < l.length) ∧ (kd t.tok ≠ .last → kd y.2.1.tok ≠ .last) ∧ (cs.length ≤ 4 → g < 2 ^ cs.length → y.1 < 2 ^ cs.length)
  | 0, _, _, _, _, h => by cases h
  | n + 1, g, t, l, y, h => by
    simp only [askLoop] at h
    split at h
    · rename_i hk
      cases e : bitOf cs g t with
      | error f => rw [e] at h; cases h
      | ok b =>
        rw [e] at h
        simp only [Except.bind] at h
        have hb : cs.length ≤ 4 → g < 2 ^ cs.length → g + b < 2 ^ cs.length := by
          intro h4 hg
          unfold bitOf at e
          cases hf : cs.findIdx? fun c => c == nameTok t.tok with
          | none => rw [hf] at e; cases e
          | some i =>
            rw [hf] at e
            simp only at e
            split at e
            · cases e
            · rename_i hbit
              cases e
              have hi : i < cs.length := by
                obtain ⟨h1, _⟩ := List.findIdx?_eq_some_iff_getElem.mp hf
                exact h1
              have key : ∀ m, m ≤ 4 → ∀ i < m, ∀ g < 2 ^ m, ¬ g / 2 ^ i % 2 = 1 → g + 2 ^ i < 2 ^ m := by decide
              exact key _ h4 i hi g hg hbit
        cases ex : take [.comma, .times, .semi] l with
        | error f => rw [ex] at h; cases h
        | ok x =>
          obtain ⟨hl, hkx⟩ := take_ok ex
          rw [ex] at h
          simp only at h
          split at h
          · cases ey : take [.name] x.2 with
            | error f => rw [ey] at h; cases h
            | ok z =>
              obtain ⟨hl2, hkz⟩ := take_ok ey
              rw [ey] at h
              simp only at h
              obtain ⟨⟨k, h1⟩, h2, h3, h4⟩ := askLoop_ok cs n _ _ _ _ h
              have hzn := List.mem_singleton.mp hkz
              refine ⟨⟨k + 2, by rw [h1, hl, hl2]; rfl⟩, fun _ => ?_, fun _ => h3 (by rw [hzn]; decide), fun c hg => h4 c (hb c hg)⟩
              have := h2 hzn
              rw [hl, hl2]; simp only [List.length_cons]; omega
          · obtain ⟨⟨k, h1⟩, h2, h3, h4⟩ := askLoop_ok cs n _ _ _ _ h
            refine ⟨⟨k + 1, by rw [h1, hl]; rfl⟩, fun _ => ?_, fun _ => h3 (by intro z; rw [z] at hkx; revert hkx; decide), fun c hg => h4 c (hb c hg)⟩
            rw [h1, List.length_drop, hl]; simp only [List.length_cons]; omega
    · rename_i hk
      cases h
      exact ⟨⟨0, rfl⟩, fun z => absurd z hk, fun z => z, fun _ hg => hg⟩
theorem drop_ok {l : Toks} (ok : okToks l) (k : Nat) : okToks (l.drop k) := fun t ht => ok t (List.mem_of_mem_drop ht)
theorem readAsk_ok {cs : List Bytes} {l : Toks} {a : Ask × Toks} (h : readAsk cs l = .ok a) : (∃ k, a.2 = l.drop k) ∧ a.2.length < l.length ∧ (cs.length ≤ 4 → a.1.g < 2 ^ cs.length) ∧ 1 ≤ a.1.k ∧ a.1.k ≤ 99 := by
  unfold readAsk at h
  cases e : take [.name, .times, .semi] l with
  | error f => rw [e] at h; cases h
  | ok x =>
    obtain ⟨hl, hkx⟩ := take_ok e
    rw [e] at h
    simp only [Except.bind] at h
    cases e2 : askLoop cs (l.length + 2) 0 x.1 x.2 with
    | error f => rw [e2] at h; cases h
    | ok y =>
      obtain ⟨⟨k, h1⟩, h2, _, h4⟩ := askLoop_ok cs _ _ _ _ _ e2
      rw [e2] at h
      simp only at h
      have hg : cs.length ≤ 4 → y.1 < 2 ^ cs.length := fun c => h4 c (Nat.two_pow_pos _)
      split at h
      · cases e3 : takeNum 1 99 y.2.2 with
        | error f => rw [e3] at h; cases h
        | ok z =>
          obtain ⟨t, hl3, _, hlo, hhi⟩ := takeNum_ok e3
          rw [e3] at h
          simp only at h
          cases e4 : take [.semi] z.2 with
          | error f => rw [e4] at h; cases h
          | ok u =>
            obtain ⟨hl4, _⟩ := take_ok e4
            rw [e4] at h
            cases h
            have hd : u.2 = x.2.drop (k + 2) := by
              rw [← List.drop_drop, ← h1, hl3, hl4]; rfl
            refine ⟨⟨k + 3, by rw [hl]; exact hd⟩, ?_, hg, hlo, hhi⟩
            show u.2.length < l.length
            rw [hd, hl, List.length_drop]; simp only [List.length_cons]; omega
      · cases h
        refine ⟨⟨k + 1, by rw [hl, h1]; rfl⟩, ?_, hg, Nat.le_refl 1, (by decide : 1 ≤ 99)⟩
        show y.2.2.length < l.length
        rw [h1, hl, List.length_drop]; simp only [List.length_cons]; omega
theorem readRow_ok {n : Nat} {l : Toks} {r : Row × Toks} (h : readRow n l = .ok r) : (∃ k, r.2 = l.drop k) ∧ r.2.length < l.length ∧ r.1.vs.length = n + 1 ∧ (∀ v ∈ r.1.vs, v ≤ 9) ∧ -1000 ≤ r.1.m ∧ r.1.m ≤ 1000 := by
  unfold readRow at h
  cases e1 : takeNum 0 9 l with
  | error f => rw [e1] at h; cases h
  | ok x =>
    obtain ⟨t, hl1, _, _, h9⟩ := takeNum_ok e1
    rw [e1] at h
    simp only [Except.bind] at h
    cases e2 : valsLoop n [x.1] x.2 with
    | error f => rw [e2] at h; cases h
    | ok y =>
      obtain ⟨hy1, hy2, hy3, k, hy4⟩ := valsLoop_len _ _ _ _ e2 (fun v hv => by rw [List.mem_singleton.mp hv]; exact h9)
      rw [e2] at h
      simp only at h
      cases e3 : take [.colon] y.2 with
      | error f => rw [e3] at h; cases h
      | ok z =>
        obtain ⟨hl3, _⟩ := take_ok e3
        rw [e3] at h
        simp only at h
        cases e4 : readSummed z.2 with
        | error f => rw [e4] at h; cases h
        | ok s =>
          have hs : (∃ k, s.2 = z.2.drop k) ∧ -1000 ≤ s.1 ∧ s.1 ≤ 1000 := by
            unfold readSummed at e4
            cases e5 : take [.minus, .number] z.2 with
            | error f => rw [e5] at e4; cases e4
            | ok u =>
              obtain ⟨hl5, _⟩ := take_ok e5
              rw [e5] at e4
              simp only [Except.bind] at e4
              split at e4
              · cases e6 : takeNum 0 1000 u.2 with
                | error f => rw [e6] at e4; cases e4
                | ok v =>
                  obtain ⟨t, hl6, _, _, hv⟩ := takeNum_ok e6
                  rw [e6] at e4
                  cases e4
                  refine ⟨⟨2, by rw [hl5, hl6]; rfl⟩, ?_, ?_⟩
                  · show (-1000 : Int) ≤ -(v.1 : Int)
                    omega
                  · show -(v.1 : Int) ≤ (1000 : Int)
                    omega
              · unfold numWithin at e4
                split at e4
                · cases e4
                · rename_i hb
                  cases e4
                  refine ⟨⟨1, by rw [hl5]; rfl⟩, ?_, ?_⟩
                  · show (-1000 : Int) ≤ ((numTok u.1.tok : Nat) : Int)
                    omega
                  · show ((numTok u.1.tok : Nat) : Int) ≤ 1000
                    omega
          obtain ⟨⟨k2, hs1⟩, hs2, hs3⟩ := hs
          rw [e4] at h
          simp only at h
          cases e7 : take [.semi] s.2 with
          | error f => rw [e7] at h; cases h
          | ok u =>
            obtain ⟨hl7, _⟩ := take_ok e7
            rw [e7] at h
            cases h
            have hd : u.2 = l.drop (1 + k + 1 + k2 + 1) := by
              have a1 : l.drop 1 = x.2 := by rw [hl1]; rfl
              have a2 : l.drop (1 + k) = y.2 := by rw [← List.drop_drop, a1, hy4]
              have a3 : l.drop (1 + k + 1) = z.2 := by rw [← List.drop_drop, a2, hl3]; rfl
              have a4 : l.drop (1 + k + 1 + k2) = s.2 := by rw [← List.drop_drop, a3, hs1]
              rw [← List.drop_drop, a4, hl7]; rfl
            refine ⟨⟨_, hd⟩, ?_, by show y.1.length = n + 1; rw [hy1]; simp only [List.length_cons, List.length_nil]; omega, hy2, hs2, hs3⟩
            show u.2.length < l.length
            rw [hd, List.length_drop]
            rw [hl1]; simp only [List.length_cons]; omega
theorem lines_eq : ∀ (n m : Nat) (tb : Table) (l : Toks), okToks l → l.length < n → l.length ≤ m → tb.rows.length ≤ 16 → tb.asks.length ≤ 8 → 1 ≤ tb.cols.length →
    Vamvsa.takeLines n tb l = (take [.row, .ask, .last] l).bind fun x => linesLoop m tb x.1 x.2
  | 0, _, _, _, _, h, _, _, _, _ => absurd h (Nat.not_lt_zero _)
  | n + 1, m, tb, [], ok, hn, hm, h16, h8, h1 => rfl
  | n + 1, 0, tb, t :: l, ok, hn, hm, h16, h8, h1 => absurd hm (by simp)
  | n + 1, m + 1, tb, t :: l, ok, hn, hm, h16, h8, h1 => by
    have okl := ok.tail
    simp only [List.length_cons] at hn hm
    simp only [Vamvsa.takeLines, next_last, next_row]
    by_cases hL : kd t.tok = .last
    · have hmem : Kd.last ∈ [Kd.row, Kd.ask, Kd.last] := by decide
      simp only [hL, decide_true, if_true, take, hmem, Except.bind, linesLoop]
    · by_cases hR : kd t.tok = .row
      · have hmem : Kd.row ∈ [Kd.row, Kd.ask, Kd.last] := by decide
        have hne : Kd.row ≠ Kd.last := by decide
        simp only [hR, hne, decide_true, decide_false, Bool.false_eq_true, if_false, if_true, take, hmem, Except.bind, linesLoop, List.drop_succ_cons, List.drop_zero, here]
        have hc : Vamvsa.ROWS ≤ tb.rows.length ↔ tb.rows.length = 16 := by unfold Vamvsa.ROWS; omega
        by_cases hq : tb.rows.length = 16
        · rw [if_pos (hc.mpr hq), if_pos hq]
        · have hc' : ¬ Vamvsa.ROWS ≤ tb.rows.length := fun z => hq (hc.mp z)
          simp only [hc', hq, if_false]
          obtain ⟨c, hcl⟩ : ∃ c, tb.cols.length = c + 1 := ⟨tb.cols.length - 1, by omega⟩
          have hr := row_eq c l okl
          have split3 : ∀ (k : Row → Toks → Except Fault Table), ((Vamvsa.takeValues (c + 1) [] l).bind fun v => (takeSign 58 v.2).bind fun r => (Vamvsa.takeInt r).bind fun x => (takeSign 59 x.2).bind fun m => k ⟨v.1, x.1⟩ m) =
              (readRow c l).bind fun r => k r.1 r.2 := by
            intro k
            rw [← hr]
            cases Vamvsa.takeValues (c + 1) [] l with
            | error f => rfl
            | ok v =>
              simp only [Except.bind]
              cases takeSign 58 v.2 with
              | error f => rfl
              | ok r =>
                simp only
                cases Vamvsa.takeInt r with
                | error f => rfl
                | ok x =>
                  simp only
                  cases takeSign 59 x.2 <;> rfl
          rw [hcl]
          have := split3 fun r m => Vamvsa.takeLines n { tb with rows := tb.rows ++ [r] } m
          simp only [Except.bind] at this
          rw [this]
          simp only [Nat.add_sub_cancel]
          cases e : readRow c l with
          | error f => rfl
          | ok r =>
            obtain ⟨⟨k, hk⟩, hlt, hlen, _⟩ := readRow_ok e
            simp only
            have := lines_eq n m { tb with rows := tb.rows ++ [r.1] } r.2 (by rw [hk]; exact drop_ok okl k) (by omega) (by omega) (by simp only [List.length_append, List.length_cons, List.length_nil]; omega) h8 h1
            rw [this]
            rfl
      · simp only [hL, hR, decide_false, Bool.false_eq_true, if_false]
        rw [take_ask _ ok]
        by_cases hA : kd t.tok = .ask
        · have hmem : Kd.ask ∈ [Kd.row, Kd.ask, Kd.last] := by decide
          have hmem2 : Kd.ask ∈ [Kd.ask] := by decide
          have hne : Kd.ask ≠ Kd.last := by decide
          have hne2 : Kd.ask ≠ Kd.row := by decide
          simp only [take, hA, hmem, hmem2, if_true, Except.map, Except.bind, linesLoop, hne, hne2, if_false, here]
          have hc : Vamvsa.ASKS ≤ tb.asks.length ↔ tb.asks.length = 8 := by unfold Vamvsa.ASKS; omega
          by_cases hq : tb.asks.length = 8
          · rw [if_pos (hc.mpr hq), if_pos hq]
          · have hc' : ¬ Vamvsa.ASKS ≤ tb.asks.length := fun z => hq (hc.mp z)
            simp only [hc', hq, if_false, readAsk_eq _ _ okl]
            cases e : readAsk tb.cols l with
            | error f => rfl
            | ok a =>
              obtain ⟨⟨k, hk⟩, hlt, _⟩ := readAsk_ok e
              simp only
              have := lines_eq n m { tb with asks := tb.asks ++ [a.1] } a.2 (by rw [hk]; exact drop_ok okl k) (by omega) (by omega) h16 (by simp only [List.length_append, List.length_cons, List.length_nil]; omega) h1
              rw [this]
              rfl
        · have hmem : kd t.tok ∉ [Kd.row, Kd.ask, Kd.last] := by simp [hL, hR, hA]
          have hmem2 : kd t.tok ∉ [Kd.ask] := by simp [hA]
          simp only [take, hmem, hmem2, if_false, Except.map, Except.bind]
theorem colsLoop_ok : ∀ (n : Nat) (cs : List Bytes) (l : Toks) (y : List Bytes × Toks), colsLoop n cs l = .ok y → (cs.length ≤ 4 → y.1.length ≤ 4) ∧ 1 ≤ y.1.length ∧ (∃ k, y.2 = l.drop k) ∧ (cs.Nodup → y.1.Nodup) ∧
    ((∀ c ∈ cs, c.length ≤ 16) → (∀ t ∈ l, (nameTok t.tok).length ≤ 16) → ∀ c ∈ y.1, c.length ≤ 16)
  | 0, _, _, _, h => by cases h
  | n + 1, cs, l, y, h => by
    simp only [colsLoop] at h
    cases e : take [.name] l with
    | error f => rw [e] at h; cases h
    | ok x =>
      obtain ⟨hl, _⟩ := take_ok e
      rw [e] at h
      simp only [Except.bind] at h
      split at h
      · cases h
      · rename_i h4
        split at h
        · cases h
        · rename_i hmem
          have hnd : cs.Nodup → (cs ++ [nameTok x.1.tok]).Nodup := by
            intro hc
            rw [List.nodup_append]
            exact ⟨hc, by simp, by intro a ha b hb; rw [List.mem_singleton.mp hb]; intro z; exact hmem (z ▸ ha)⟩
          have hlen : (cs ++ [nameTok x.1.tok]).length = cs.length + 1 := by simp
          have h16 : (∀ c ∈ cs, c.length ≤ 16) → (∀ t ∈ l, (nameTok t.tok).length ≤ 16) → ∀ c ∈ cs ++ [nameTok x.1.tok], c.length ≤ 16 := by
            intro h1 h2 c hc
            rcases List.mem_append.mp hc with hc | hc
            · exact h1 c hc
            · rw [List.mem_singleton.mp hc]; exact h2 _ (by rw [hl]; exact List.mem_cons_self ..)
          cases e2 : take [.comma, .semi] x.2 with
          | error f => rw [e2] at h; cases h
          | ok z =>
            obtain ⟨hl2, _⟩ := take_ok e2
            rw [e2] at h
            simp only at h
            split at h
            · obtain ⟨a1, a2, ⟨k, a3⟩, a4, a5⟩ := colsLoop_ok n _ _ _ h
              refine ⟨fun h => a1 (by omega), a2, ⟨k + 2, by rw [a3, hl, hl2]; rfl⟩, fun h => a4 (hnd h), fun h1 h2 => a5 (h16 h1 h2) fun t ht => h2 t ?_⟩
              rw [hl, hl2]; exact List.mem_cons_of_mem _ (List.mem_cons_of_mem _ ht)
            · cases h
              exact ⟨fun _ => by show (cs ++ [nameTok x.1.tok]).length ≤ 4; omega, by show 1 ≤ (cs ++ [nameTok x.1.tok]).length; omega, ⟨2, by rw [hl, hl2]; rfl⟩, hnd, h16⟩
theorem readToks_eq (l : Toks) (ok : okToks l) : ((takeWord "columns" l).bind fun r => (Vamvsa.takeColumns (r.length + 1) [] r).bind fun x => Vamvsa.takeLines (x.2.length + 1) ⟨x.1, [], []⟩ x.2) = readToks l := by
  unfold readToks
  rw [← readCols_eq l ok]
  cases e : takeWord "columns" l with
  | error f => rfl
  | ok r =>
    have hr : readCols l = Vamvsa.takeColumns (r.length + 1) [] r := by
      rw [← readCols_eq l ok, e]; rfl
    simp only [Except.bind]
    cases e2 : Vamvsa.takeColumns (r.length + 1) [] r with
    | error f => rfl
    | ok x =>
      simp only
      rw [e2] at hr
      unfold readCols at hr
      cases e3 : take [.columns] l with
      | error f => rw [e3] at hr; cases hr
      | ok u =>
        rw [e3] at hr
        obtain ⟨hl3, _⟩ := take_ok e3
        simp only [Except.bind] at hr
        obtain ⟨_, h1, ⟨k, hk⟩, _⟩ := colsLoop_ok _ _ _ _ hr
        have okx : okToks x.2 := by rw [hk]; exact drop_ok (by rw [hl3] at ok; exact ok.tail) k
        exact lines_eq (x.2.length + 1) (x.2.length + 1) _ x.2 okx (by omega) (by omega) (by simp) (by simp) h1
/-- the tokens that the lexer gives -/
theorem tokOf_ok {p : Bytes} {t : Tok} (h : tokOf p = some t) : okTok t ∧ (nameTok t).length ≤ 16 ∧ numTok t ≤ 1000000000 := by
  cases p with
  | nil => cases h
  | cons b r =>
    simp only [tokOf] at h
    split at h
    · split at h
      · cases h
      · split at h
        · cases h
        · rename_i hn
          cases h
          exact ⟨trivial, by simp [nameTok], by unfold NUMBER at hn; simp only [numTok]; omega⟩
    · split at h
      · rename_i hr
        cases h
        exact ⟨trivial, (reserved_head b r hr).2, by simp [numTok]⟩
      · split at h
        · rename_i hs
          cases h
          refine ⟨?_, by simp [nameTok], by simp [numTok]⟩
          have : b ∈ SIGNS := by simpa using hs
          unfold SIGNS at this
          simp only [List.mem_cons, List.not_mem_nil, or_false] at this
          rcases this with h | h | h | h <;> subst h
          · exact .inl rfl
          · exact .inr (.inl rfl)
          · exact .inr (.inr (.inl rfl))
          · exact .inr (.inr (.inr rfl))
        · split at h
          · cases h
          · rename_i hn
            cases h
            exact ⟨trivial, by unfold NAME at hn; simp only [nameTok]; omega, by simp [numTok]⟩
theorem lexM_ok : ∀ (n : Nat) (l : Bytes) (at_ : Nat) (ts : Toks), l.length ≤ n → lexM at_ l = .ok ts → ∀ t ∈ ts, okTok t.tok ∧ (nameTok t.tok).length ≤ 16 ∧ numTok t.tok ≤ 1000000000 ∧ t.place ≤ at_ + l.length := by
  intro n
  induction n with
  | zero =>
    intro l at_ ts hl h
    cases l with
    | nil => cases h; intro t ht; rw [List.mem_singleton.mp ht]; exact ⟨trivial, by simp [nameTok], by simp [numTok], by simp⟩
    | cons b r => exact absurd hl (by simp)
  | succ n ih =>
    intro l at_ ts hl h
    have hg := gap_le false l
    rw [lexM_gap l.length l at_ (Nat.le_refl _)] at h
    cases e : l.drop (gap false l) with
    | nil =>
      rw [e] at h
      cases h
      intro t ht
      rw [List.mem_singleton.mp ht]
      exact ⟨trivial, by simp [nameTok], by simp [numTok], by simp only; omega⟩
    | cons b r =>
      obtain ⟨h1, h2⟩ := gap_end _ _ _ _ e
      rw [e, lexM_turn h1 h2] at h
      cases et : tokLen (b :: r) with
      | none => rw [et] at h; cases h
      | some k =>
        rw [et] at h
        simp only at h
        cases eo : tokOf ((b :: r).take k) with
        | none => rw [eo] at h; cases h
        | some t =>
          rw [eo] at h
          simp only at h
          generalize hq : lexM (at_ + gap false l + k + gap false ((b :: r).drop k)) ((b :: r).drop (k + gap false ((b :: r).drop k))) = q at h
          cases q with
          | error f => cases h
          | ok us =>
            cases h
            have hk := tokLen_pos et
            have hlen : (b :: r).length = l.length - gap false l := by rw [← e, List.length_drop]
            have hg2 := gap_le false ((b :: r).drop k)
            have hd2 : ((b :: r).drop k).length = (b :: r).length - k := List.length_drop ..
            have hd3 : ((b :: r).drop (k + gap false ((b :: r).drop k))).length = (b :: r).length - (k + gap false ((b :: r).drop k)) := List.length_drop ..
            intro u hu
            rcases List.mem_cons.mp hu with hu | hu
            · subst hu
              obtain ⟨o1, o2, o3⟩ := tokOf_ok eo
              exact ⟨o1, o2, o3, by show at_ + gap false l ≤ at_ + l.length; omega⟩
            · obtain ⟨o1, o2, o3, o4⟩ := ih _ _ _ (by omega) hq u hu
              exact ⟨o1, o2, o3, by omega⟩
theorem read_eq (b : Bytes) : Vamvsa.read b = readM b := by
  unfold Vamvsa.read readM tokens TEXT
  by_cases h : 4096 < b.length
  · simp only [h, if_true]
    rfl
  · simp only [h, if_false]
    show (lexM 0 b).bind _ = _
    cases e : lexM 0 b with
    | error f => rfl
    | ok l => exact readToks_eq l fun t ht => (lexM_ok b.length b 0 l (Nat.le_refl _) e t ht).1
/-- what a right table is like -/
structure Right (t : Table) : Prop where
  cols : 1 ≤ t.cols.length ∧ t.cols.length ≤ 4
  nodup : t.cols.Nodup
  short : ∀ c ∈ t.cols, c.length ≤ 16
  rows : t.rows.length ≤ 16
  width : ∀ r ∈ t.rows, r.vs.length = t.cols.length ∧ (∀ v ∈ r.vs, v ≤ 9) ∧ -1000 ≤ r.m ∧ r.m ≤ 1000
  asks : t.asks.length ≤ 8
  in_ : ∀ a ∈ t.asks, a.g < 2 ^ t.cols.length ∧ 1 ≤ a.k ∧ a.k ≤ 99
theorem linesLoop_ok : ∀ (n : Nat) (tb : Table) (t : PTok) (l : Toks) (z : Table), Right tb → linesLoop n tb t l = .ok z → Right z
  | 0, _, _, _, _, _, h => by cases h
  | n + 1, tb, t, l, z, R, h => by
    have hR := R
    obtain ⟨⟨c1, c2⟩, nd, sh, r16, wd, a8, ain⟩ := R
    simp only [linesLoop] at h
    split at h
    · cases h; exact hR
    · split at h
      · split at h
        · cases h
        · rename_i hq
          cases e : readRow (tb.cols.length - 1) l with
          | error f => rw [e] at h; cases h
          | ok r =>
            obtain ⟨_, _, q1, q2, q3, q4⟩ := readRow_ok e
            rw [e] at h
            simp only [Except.bind] at h
            cases e2 : take [.row, .ask, .last] r.2 with
            | error f => rw [e2] at h; cases h
            | ok x =>
              rw [e2] at h
              simp only at h
              refine linesLoop_ok n { tb with rows := tb.rows ++ [r.1] } _ _ _ ⟨⟨c1, c2⟩, nd, sh, ?_, ?_, a8, ain⟩ h
              · simp only [List.length_append, List.length_cons, List.length_nil]; omega
              · intro u hu
                rcases List.mem_append.mp hu with hu | hu
                · exact wd u hu
                · rw [List.mem_singleton.mp hu]
                  exact ⟨by rw [q1]; show tb.cols.length - 1 + 1 = tb.cols.length; omega, q2, q3, q4⟩
      · split at h
        · cases h
        · rename_i hq
          cases e : readAsk tb.cols l with
          | error f => rw [e] at h; cases h
          | ok a =>
            obtain ⟨_, _, q1, q2, q3⟩ := readAsk_ok e
            rw [e] at h
            simp only [Except.bind] at h
            cases e2 : take [.row, .ask, .last] a.2 with
            | error f => rw [e2] at h; cases h
            | ok x =>
              rw [e2] at h
              simp only at h
              refine linesLoop_ok n { tb with asks := tb.asks ++ [a.1] } _ _ _ ⟨⟨c1, c2⟩, nd, sh, r16, wd, ?_, ?_⟩ h
              · simp only [List.length_append, List.length_cons, List.length_nil]; omega
              · intro u hu
                rcases List.mem_append.mp hu with hu | hu
                · exact ain u hu
                · rw [List.mem_singleton.mp hu]
                  exact ⟨q1 c2, q2, q3⟩
theorem readM_right {b : Bytes} {t : Table} (h : readM b = .ok t) : Right t := by
  unfold readM at h
  split at h
  · cases h
  · cases e : lexM 0 b with
    | error f => rw [e] at h; cases h
    | ok l =>
      have hok := lexM_ok b.length b 0 l (Nat.le_refl _) e
      rw [e] at h
      simp only [Except.bind, readToks] at h
      unfold readCols at h
      cases e1 : take [.columns] l with
      | error f => rw [e1] at h; cases h
      | ok x =>
        obtain ⟨hl1, _⟩ := take_ok e1
        rw [e1] at h
        simp only [Except.bind] at h
        cases e2 : colsLoop (x.2.length + 1) [] x.2 with
        | error f => rw [e2] at h; cases h
        | ok c =>
          obtain ⟨q1, q2, q3, q4, q5⟩ := colsLoop_ok _ _ _ _ e2
          rw [e2] at h
          simp only at h
          cases e3 : take [.row, .ask, .last] c.2 with
          | error f => rw [e3] at h; cases h
          | ok y =>
            rw [e3] at h
            simp only at h
            refine linesLoop_ok _ _ _ _ _ ⟨⟨q2, q1 (by simp)⟩, q4 (by simp), ?_, by simp, by simp, by simp, by simp⟩ h
            exact q5 (by simp) fun t ht => (hok t (by rw [hl1]; exact List.mem_cons_of_mem _ ht)).2.1
end SR
/-! Sizes: a grouping's size is how many unlike keys there are; it grows with the grouping. -/
namespace SR
open VamvsBase
open Vamvsa (Row Ask Table Grouping Group)
/-- a list without doubles that lies in another is no longer -/
theorem nodup_le {α : Type} [DecidableEq α] : ∀ (a b : List α), a.Nodup → (∀ x ∈ a, x ∈ b) → a.length ≤ b.length
  | [], _, _, _ => Nat.zero_le _
  | x :: a, b, nd, h => by
    obtain ⟨hx, nd'⟩ := List.nodup_cons.mp nd
    have hb := h x (List.mem_cons_self ..)
    have := nodup_le a (b.erase x) nd' fun y hy => by
      have : y ≠ x := fun z => hx (z ▸ hy)
      exact (List.mem_erase_of_ne this).mpr (h y (List.mem_cons_of_mem _ hy))
    rw [List.length_erase_of_mem hb] at this
    have hpos : 0 < b.length := List.length_pos_of_mem hb
    simp only [List.length_cons]
    omega
/-- put behind, if it isn't there -/
def putK {α : Type} [DecidableEq α] (ks : List α) (k : α) : List α := if k ∈ ks then ks else ks ++ [k]
def uniq {α : Type} [DecidableEq α] (l : List α) : List α := l.foldl putK []
theorem foldl_putK {α : Type} [DecidableEq α] : ∀ (l ks : List α), ks.Nodup → (l.foldl putK ks).Nodup ∧ ∀ x, x ∈ l.foldl putK ks ↔ x ∈ ks ∨ x ∈ l
  | [], ks, h => ⟨h, fun x => by simp⟩
  | k :: l, ks, h => by
    have hn : (putK ks k).Nodup := by
      unfold putK
      split
      · exact h
      · rename_i hk
        rw [List.nodup_append]
        exact ⟨h, by simp, by intro a ha b hb; rw [List.mem_singleton.mp hb]; intro z; exact hk (z ▸ ha)⟩
    obtain ⟨h1, h2⟩ := foldl_putK l (putK ks k) hn
    refine ⟨h1, fun x => ?_⟩
    rw [List.foldl_cons, h2]
    have : x ∈ putK ks k ↔ x ∈ ks ∨ x = k := by
      unfold putK
      split
      · rename_i hk
        constructor
        · exact .inl
        · rintro (z | z)
          · exact z
          · rw [z]; exact hk
      · simp
    rw [this, List.mem_cons]
    constructor
    · rintro ((z | z) | z)
      · exact .inl z
      · exact .inr (.inl z)
      · exact .inr (.inr z)
    · rintro (z | z | z)
      · exact .inl (.inl z)
      · exact .inl (.inr z)
      · exact .inr z
theorem uniq_nodup {α : Type} [DecidableEq α] (l : List α) : (uniq l).Nodup := (foldl_putK l [] List.nodup_nil).1
theorem mem_uniq {α : Type} [DecidableEq α] (l : List α) (x : α) : x ∈ uniq l ↔ x ∈ l := by
  unfold uniq
  rw [(foldl_putK l [] List.nodup_nil).2]
  simp
/-! ### keys in order -/
theorem lex_irr : ∀ a : List Nat, Vamvsa.lexLess a a = false
  | [] => rfl
  | a :: r => by simp [Vamvsa.lexLess, lex_irr r]
theorem lex_tri : ∀ a b : List Nat, a.length = b.length → a ≠ b → Vamvsa.lexLess a b = false → Vamvsa.lexLess b a = true
  | [], [], _, h, _ => absurd rfl h
  | [], _ :: _, h, _, _ => by cases h
  | _ :: _, [], h, _, _ => by cases h
  | a :: r, b :: s, h, hn, hl => by
    simp only [Vamvsa.lexLess, Bool.or_eq_false_iff, decide_eq_false_iff_not, Bool.and_eq_false_iff, beq_eq_false_iff_ne] at hl
    simp only [Vamvsa.lexLess, Bool.or_eq_true, decide_eq_true_eq, Bool.and_eq_true, beq_iff_eq]
    by_cases e : a = b
    · subst e
      refine .inr ⟨rfl, lex_tri r s (by simpa using h) (fun z => hn (by rw [z])) ?_⟩
      rcases hl.2 with z | z
      · exact absurd rfl z
      · exact z
    · left
      omega
theorem lex_trans : ∀ a b c : List Nat, Vamvsa.lexLess a b = true → Vamvsa.lexLess b c = true → Vamvsa.lexLess a c = true
  | [], _, _, h, _ => by simp [Vamvsa.lexLess] at h
  | _ :: _, [], _, h, _ => by simp [Vamvsa.lexLess] at h
  | _ :: _, _ :: _, [], _, h => by simp [Vamvsa.lexLess] at h
  | a :: r, b :: s, c :: t, h1, h2 => by
    simp only [Vamvsa.lexLess, Bool.or_eq_true, decide_eq_true_eq, Bool.and_eq_true, beq_iff_eq] at h1 h2 ⊢
    rcases h1 with h1 | ⟨h1, h1'⟩
    · rcases h2 with h2 | ⟨h2, _⟩
      · left; omega
      · left; omega
    · rcases h2 with h2 | ⟨h2, h2'⟩
      · left; omega
      · right
        exact ⟨by omega, lex_trans r s t h1' h2'⟩
def Sorted (l : List Group) : Prop := l.Pairwise fun x y => Vamvsa.lexLess x.key y.key = true
theorem put_keys (n : Nat) (x : Group) : ∀ (l : List Group), Sorted l → x.key.length = n → (∀ y ∈ l, y.key.length = n) →
    Sorted (Vamvsa.putGroup x l) ∧ (∀ k, k ∈ (Vamvsa.putGroup x l).map (·.key) ↔ k = x.key ∨ k ∈ l.map (·.key))
  | [], _, _, _ => ⟨by simp [Vamvsa.putGroup, Sorted], by simp [Vamvsa.putGroup]⟩
  | y :: r, hs, hx, hy => by
    obtain ⟨hy1, hs'⟩ := List.pairwise_cons.mp hs
    have hyn := hy y (List.mem_cons_self ..)
    have hrn : ∀ z ∈ r, z.key.length = n := fun z hz => hy z (List.mem_cons_of_mem _ hz)
    unfold Vamvsa.putGroup
    by_cases e : x.key = y.key
    · rw [if_pos e]
      refine ⟨List.pairwise_cons.mpr ⟨fun z hz => hy1 z hz, hs'⟩, fun k => ?_⟩
      simp only [List.map_cons, List.mem_cons]
      rw [e]
      constructor
      · exact .inr
      · rintro (z | z)
        · exact .inl z
        · exact z
    · rw [if_neg e]
      by_cases hl : Vamvsa.lexLess x.key y.key = true
      · rw [if_pos hl]
        refine ⟨List.pairwise_cons.mpr ⟨fun z hz => ?_, hs⟩, fun k => by simp only [List.map_cons, List.mem_cons]⟩
        rcases List.mem_cons.mp hz with hz | hz
        · rw [hz]; exact hl
        · exact lex_trans _ _ _ hl (hy1 z hz)
      · rw [if_neg hl]
        obtain ⟨h1, h2⟩ := put_keys n x r hs' hx hrn
        refine ⟨List.pairwise_cons.mpr ⟨fun z hz => ?_, h1⟩, fun k => ?_⟩
        · have hk : z.key ∈ (Vamvsa.putGroup x r).map (·.key) := List.mem_map.mpr ⟨z, hz, rfl⟩
          rcases (h2 _).mp hk with q | q
          · rw [q]
            exact lex_tri _ _ (by rw [hx, hyn]) e (Bool.eq_false_iff.mpr hl)
          · obtain ⟨u, hu, hq⟩ := List.mem_map.mp q
            rw [← hq]
            exact hy1 u hu
        · simp only [List.map_cons, List.mem_cons, h2]
          constructor
          · rintro (z | z | z)
            · exact .inr (.inl z)
            · exact .inl z
            · exact .inr (.inr z)
          · rintro (z | z | z)
            · exact .inr (.inl z)
            · exact .inl z
            · exact .inr (.inr z)
theorem sorted_nodup {l : List Group} (h : Sorted l) : (l.map (·.key)).Nodup := by
  unfold List.Nodup
  rw [List.pairwise_map]
  refine List.Pairwise.imp ?_ h
  intro a b hab z
  rw [z, lex_irr] at hab
  cases hab
theorem collect_keys (n : Nat) : ∀ (l acc : List Group), Sorted acc → (∀ y ∈ acc, y.key.length = n) → (∀ y ∈ l, y.key.length = n) →
    Sorted (l.foldl (fun r x => Vamvsa.putGroup x r) acc) ∧ ∀ k, k ∈ (l.foldl (fun r x => Vamvsa.putGroup x r) acc).map (·.key) ↔ k ∈ acc.map (·.key) ∨ k ∈ l.map (·.key)
  | [], acc, hs, _, _ => ⟨hs, by simp⟩
  | x :: l, acc, hs, ha, hl => by
    obtain ⟨h1, h2⟩ := put_keys n x acc hs (hl x (List.mem_cons_self ..)) ha
    obtain ⟨h3, h4⟩ := collect_keys n l (Vamvsa.putGroup x acc) h1 (fun y hy => by
      have hk : y.key ∈ (Vamvsa.putGroup x acc).map (·.key) := List.mem_map.mpr ⟨y, hy, rfl⟩
      rcases (h2 _).mp hk with q | q
      · rw [q]; exact hl x (List.mem_cons_self ..)
      · obtain ⟨u, hu, hq⟩ := List.mem_map.mp q
        rw [← hq]; exact ha u hu) (fun y hy => hl y (List.mem_cons_of_mem _ hy))
    refine ⟨h3, fun k => ?_⟩
    rw [List.foldl_cons, h4, h2, List.map_cons, List.mem_cons]
    constructor
    · rintro ((z | z) | z)
      · exact .inr (.inl z)
      · exact .inl z
      · exact .inr (.inr z)
    · rintro (z | z | z)
      · exact .inl (.inr z)
      · exact .inl (.inl z)
      · exact .inr z
def keyLen (n g : Nat) : Nat := (Vamvsa.columnsOf n g).length
/-- the keys of all rows -/
def keysOf (t : Table) (g : Grouping) : List (List Nat) := t.rows.map fun r => Vamvsa.keyOf t.cols.length g r.vs
theorem size_uniq (t : Table) (g : Grouping) : Vamvsa.sizeOf_ t g = (uniq (keysOf t g)).length := by
  unfold Vamvsa.sizeOf_ Vamvsa.groupsOf Vamvsa.collect
  obtain ⟨h1, h2⟩ := collect_keys (keyLen t.cols.length g) (t.rows.map fun r => (⟨Vamvsa.keyOf (Vamvsa.width t) g r.vs, r.m, 1⟩ : Group)) [] (by simp [Sorted]) (by simp) (by
    intro y hy
    obtain ⟨r, _, hr⟩ := List.mem_map.mp hy
    rw [← hr]
    show (Vamvsa.keyOf (Vamvsa.width t) g r.vs).length = _
    unfold Vamvsa.keyOf keyLen Vamvsa.width
    rw [List.length_map])
  have hm : ∀ k, k ∈ (List.foldl (fun r x => Vamvsa.putGroup x r) [] (t.rows.map fun r => (⟨Vamvsa.keyOf (Vamvsa.width t) g r.vs, r.m, 1⟩ : Group))).map (·.key) ↔ k ∈ uniq (keysOf t g) := by
    intro k
    rw [h2, mem_uniq]
    simp only [List.map_nil, List.not_mem_nil, false_or, List.map_map]
    rfl
  have nd1 := sorted_nodup h1
  have nd2 := uniq_nodup (keysOf t g)
  have a := nodup_le _ _ nd1 fun x hx => (hm x).mp hx
  have b := nodup_le _ _ nd2 fun x hx => (hm x).mpr hx
  rw [List.length_map] at a b
  exact Nat.le_antisymm a b
theorem mem_columnsOf {n g i : Nat} : i ∈ Vamvsa.columnsOf n g ↔ i < n ∧ g / 2 ^ i % 2 = 1 := by
  unfold Vamvsa.columnsOf
  simp
theorem columns_sub {n big small : Nat} (h : Vamvsa.canFrom n big small = true) : ∀ i, i ∈ Vamvsa.columnsOf n small → i ∈ Vamvsa.columnsOf n big := by
  intro i hi
  unfold Vamvsa.canFrom at h
  have := List.all_eq_true.mp h i hi
  simpa using this
theorem key_factor {n big small : Nat} (h : Vamvsa.canFrom n big small = true) {u v : List Nat} (e : Vamvsa.keyOf n big u = Vamvsa.keyOf n big v) : Vamvsa.keyOf n small u = Vamvsa.keyOf n small v := by
  unfold Vamvsa.keyOf at e ⊢
  have hi : ∀ i ∈ Vamvsa.columnsOf n big, u.getD i 0 = v.getD i 0 := by
    generalize Vamvsa.columnsOf n big = l at e
    induction l with
    | nil => intro i hi; cases hi
    | cons j r ih =>
      simp only [List.map_cons, List.cons.injEq] at e
      intro i hi
      rcases List.mem_cons.mp hi with q | q
      · rw [q]; exact e.1
      · exact ih e.2 i q
  apply List.map_congr_left
  intro i h1
  exact hi i (columns_sub h i h1)
/-- each kept answer from which another one can be worked out is no smaller -/
theorem size_mono (t : Table) {g v : Grouping} (h : Vamvsa.canFrom (Vamvsa.width t) v g = true) : Vamvsa.sizeOf_ t g ≤ Vamvsa.sizeOf_ t v := by
  rw [size_uniq, size_uniq]
  have reps : ∃ rs : List Row, uniq (keysOf t v) = rs.map fun r => Vamvsa.keyOf t.cols.length v r.vs := by
    have hsub : ∀ k ∈ uniq (keysOf t v), ∃ r ∈ t.rows, Vamvsa.keyOf t.cols.length v r.vs = k := fun k hk => List.mem_map.mp ((mem_uniq _ _).mp hk)
    generalize uniq (keysOf t v) = l at hsub
    induction l with
    | nil => exact ⟨[], rfl⟩
    | cons k l ih =>
      obtain ⟨rs, hrs⟩ := ih fun x hx => hsub x (List.mem_cons_of_mem _ hx)
      obtain ⟨r, _, hr⟩ := hsub k (List.mem_cons_self ..)
      exact ⟨r :: rs, by rw [hrs, List.map_cons, hr]⟩
  obtain ⟨rs, hrs⟩ := reps
  have hlen : (uniq (keysOf t v)).length = rs.length := by rw [hrs, List.length_map]
  rw [hlen, ← List.length_map (f := fun r : Row => Vamvsa.keyOf t.cols.length g r.vs)]
  refine nodup_le _ _ (uniq_nodup _) fun k hk => ?_
  obtain ⟨r, hr, e⟩ := List.mem_map.mp ((mem_uniq _ _).mp hk)
  have hv : Vamvsa.keyOf t.cols.length v r.vs ∈ uniq (keysOf t v) := (mem_uniq _ _).mpr (List.mem_map.mpr ⟨r, hr, rfl⟩)
  rw [hrs] at hv
  obtain ⟨r', hr', e'⟩ := List.mem_map.mp hv
  exact List.mem_map.mpr ⟨r', hr', by rw [← e]; exact key_factor (n := t.cols.length) h e'⟩
theorem uniq_length_le {α : Type} [DecidableEq α] (l : List α) : (uniq l).length ≤ l.length := nodup_le _ _ (uniq_nodup l) fun x hx => (mem_uniq l x).mp hx
theorem size_le_rows (t : Table) (g : Grouping) : Vamvsa.sizeOf_ t g ≤ t.rows.length := by
  rw [size_uniq]
  have := uniq_length_le (keysOf t g)
  unfold keysOf at this ⊢
  rw [List.length_map] at this
  exact this
/-- whether one grouping has all columns of another -/
def has (big small : Nat) : Bool := decide (big &&& small = small)
theorem canFrom_has : ∀ n ≤ 4, ∀ b < 2 ^ n, ∀ s < 2 ^ n, Vamvsa.canFrom n b s = has b s := by decide +kernel
end SR
/-! What a set of questions costs at least: by parts, and by all sets that can help. -/
namespace SR
open VamvsBase
open Vamvsa (Row Ask Table Grouping Group)
theorem has_iff {b s : Nat} : has b s = true ↔ ∀ i, s.testBit i = true → b.testBit i = true := by
  unfold has
  rw [decide_eq_true_eq]
  constructor
  · intro h i hi
    have : (b &&& s).testBit i = true := by rw [h]; exact hi
    rw [Nat.testBit_and, Bool.and_eq_true] at this
    exact this.1
  · intro h
    apply Nat.eq_of_testBit_eq
    intro i
    rw [Nat.testBit_and]
    cases hs : s.testBit i with
    | false => simp
    | true => rw [h i hs]; rfl
theorem has_or {v a b : Nat} (h1 : has v a = true) (h2 : has v b = true) : has v (a ||| b) = true := by
  rw [has_iff] at *
  intro i hi
  rw [Nat.testBit_or, Bool.or_eq_true] at hi
  rcases hi with h | h
  · exact h1 i h
  · exact h2 i h
theorem has_left {v a b : Nat} (h : has v a = true) : has (v ||| b) a = true := by
  rw [has_iff] at *
  intro i hi
  rw [Nat.testBit_or, h i hi, Bool.true_or]
theorem has_right {v a b : Nat} (h : has b a = true) : has (v ||| b) a = true := by
  rw [has_iff] at *
  intro i hi
  rw [Nat.testBit_or, h i hi, Bool.or_true]
theorem has_self (a : Nat) : has a a = true := has_iff.mpr fun _ h => h
theorem has_zero (a : Nat) : has a 0 = true := has_iff.mpr fun i h => by simp at h
/-! ### what a question reads -/
section
variable (rows : Nat) (S : Nat → Nat) (U : Nat)
def rd (K : List Nat) (g : Nat) : Nat := K.foldl (fun m v => if has v g = true then Nat.min m (S v) else m) rows
theorem rd_fold : ∀ (K : List Nat) (g m : Nat), K.foldl (fun m v => if has v g = true then Nat.min m (S v) else m) m = Nat.min m (K.foldl (fun m v => if has v g = true then Nat.min m (S v) else m) m) := by
  intro K g
  induction K with
  | nil => intro m; exact (Nat.min_self m).symm
  | cons v K ih =>
    intro m
    simp only [List.foldl_cons]
    split
    · rw [ih (Nat.min m (S v))]
      have h1 : ∀ a b c : Nat, Nat.min (Nat.min a b) c = Nat.min a (Nat.min (Nat.min a b) c) := by
        intro a b c
        show min (min a b) c = min a (min (min a b) c)
        omega
      exact h1 _ _ _
    · exact ih m
theorem fold_le : ∀ (K : List Nat) (g m : Nat), K.foldl (fun m v => if has v g = true then Nat.min m (S v) else m) m ≤ m := by
  intro K g m
  rw [rd_fold]
  exact Nat.min_le_left _ _
theorem fold_mem : ∀ (K : List Nat) (g m v : Nat), v ∈ K → has v g = true → K.foldl (fun m v => if has v g = true then Nat.min m (S v) else m) m ≤ S v := by
  intro K g
  induction K with
  | nil => intro m v h; cases h
  | cons u K ih =>
    intro m v hv hg
    simp only [List.foldl_cons]
    rcases List.mem_cons.mp hv with h | h
    · subst h
      rw [if_pos hg]
      exact Nat.le_trans (fold_le S K g _) (Nat.min_le_right _ _)
    · exact ih _ v h hg
theorem fold_att : ∀ (K : List Nat) (g m : Nat), K.foldl (fun m v => if has v g = true then Nat.min m (S v) else m) m = m ∨ ∃ v ∈ K, has v g = true ∧ K.foldl (fun m v => if has v g = true then Nat.min m (S v) else m) m = S v := by
  intro K g
  induction K with
  | nil => intro m; exact .inl rfl
  | cons u K ih =>
    intro m
    simp only [List.foldl_cons]
    by_cases hu : has u g = true
    · rw [if_pos hu]
      rcases ih (Nat.min m (S u)) with h | ⟨v, hv, h1, h2⟩
      · rw [h]
        rcases Nat.le_total m (S u) with q | q
        · exact .inl (Nat.min_eq_left q)
        · exact .inr ⟨u, List.mem_cons_self .., hu, Nat.min_eq_right q⟩
      · exact .inr ⟨v, List.mem_cons_of_mem _ hv, h1, h2⟩
    · rw [if_neg hu]
      rcases ih m with h | ⟨v, hv, h1, h2⟩
      · exact .inl h
      · exact .inr ⟨v, List.mem_cons_of_mem _ hv, h1, h2⟩
theorem rd_rows (K : List Nat) (g : Nat) : rd rows S K g ≤ rows := fold_le S K g rows
theorem rd_mem {K : List Nat} {g v : Nat} (h : v ∈ K) (hg : has v g = true) : rd rows S K g ≤ S v := fold_mem S K g rows v h hg
theorem rd_att (K : List Nat) (g : Nat) : rd rows S K g = rows ∨ ∃ v ∈ K, has v g = true ∧ rd rows S K g = S v := fold_att S K g rows
/-- reading is no dearer where each that is read has one no dearer -/
theorem rd_le {K K' : List Nat} {g : Nat} (h : ∀ v ∈ K, has v g = true → rd rows S K' g ≤ S v) : rd rows S K' g ≤ rd rows S K g := by
  rcases rd_att rows S K g with e | ⟨v, hv, hg, e⟩
  · rw [e]; exact rd_rows rows S K' g
  · rw [e]; exact h v hv hg
theorem rd_sub {K K' : List Nat} {g : Nat} (h : ∀ v ∈ K, v ∈ K') : rd rows S K' g ≤ rd rows S K g := rd_le rows S fun v hv hg => rd_mem rows S (h v hv) hg
/-! ### what questions cost with a set -/
def costK (Q : List Ask) (K : List Nat) : Nat := U * K.length + (Q.map fun a => a.k * rd rows S K a.g).sum
/-- x is the least that the questions cost, of all sets of groupings below W -/
structure IsMin (W : Nat) (Q : List Ask) (x : Nat) : Prop where
  lo : ∀ K : List Nat, (∀ v ∈ K, v < W) → x ≤ costK rows S U Q K
  hi : ∃ K : List Nat, (∀ v ∈ K, v < W) ∧ costK rows S U Q K ≤ x
theorem IsMin.same {W : Nat} {Q : List Ask} {x y : Nat} (h1 : IsMin rows S U W Q x) (h2 : IsMin rows S U W Q y) : x = y := by
  obtain ⟨K1, v1, e1⟩ := h1.hi
  obtain ⟨K2, v2, e2⟩ := h2.hi
  have a := h1.lo K2 v2
  have b := h2.lo K1 v1
  omega
def often (Q : List Ask) : Nat := (Q.map (·.k)).sum
def together (Q : List Ask) : Nat := Q.foldl (fun g a => g ||| a.g) 0
/-- what questions cost that read the same -/
def partCost (Q : List Ask) : Nat := Nat.min (often Q * rows) (often Q * S (together Q) + U)
theorem together_fold : ∀ (Q : List Ask) (g : Nat), (∀ a ∈ Q, has (Q.foldl (fun g a => g ||| a.g) g) a.g = true) ∧ has (Q.foldl (fun g a => g ||| a.g) g) g = true ∧
    (∀ v, has v g = true → (∀ a ∈ Q, has v a.g = true) → has v (Q.foldl (fun g a => g ||| a.g) g) = true) ∧ (∀ n, g < 2 ^ n → (∀ a ∈ Q, a.g < 2 ^ n) → Q.foldl (fun g a => g ||| a.g) g < 2 ^ n)
  | [], g => ⟨by simp, has_self g, fun v h _ => h, fun n h _ => h⟩
  | a :: Q, g => by
    obtain ⟨h1, h2, h3, h4⟩ := together_fold Q (g ||| a.g)
    have hg : has (Q.foldl (fun g a => g ||| a.g) (g ||| a.g)) g = true ∧ has (Q.foldl (fun g a => g ||| a.g) (g ||| a.g)) a.g = true := by
      rw [has_iff] at h2
      constructor
      · rw [has_iff]; intro i hi; exact h2 i (by rw [Nat.testBit_or, hi, Bool.true_or])
      · rw [has_iff]; intro i hi; exact h2 i (by rw [Nat.testBit_or, hi, Bool.or_true])
    refine ⟨fun b hb => ?_, hg.1, fun v hv hQ => ?_, fun n hn hQ => ?_⟩
    · rcases List.mem_cons.mp hb with e | e
      · rw [e]; exact hg.2
      · exact h1 b e
    · exact h3 v (has_or hv (hQ a (List.mem_cons_self ..))) fun b hb => hQ b (List.mem_cons_of_mem _ hb)
    · exact h4 n (Nat.or_lt_two_pow hn (hQ a (List.mem_cons_self ..))) fun b hb => hQ b (List.mem_cons_of_mem _ hb)
theorem together_has {Q : List Ask} {a : Ask} (h : a ∈ Q) : has (together Q) a.g = true := (together_fold Q 0).1 a h
theorem together_in {Q : List Ask} {v : Nat} (h : ∀ a ∈ Q, has v a.g = true) : has v (together Q) = true := (together_fold Q 0).2.2.1 v (has_zero v) h
theorem together_lt {Q : List Ask} {n : Nat} (h : ∀ a ∈ Q, a.g < 2 ^ n) : together Q < 2 ^ n := (together_fold Q 0).2.2.2 n (Nat.two_pow_pos n) h
theorem sum_le {α : Type} {f g : α → Nat} : ∀ {l : List α}, (∀ a ∈ l, f a ≤ g a) → (l.map f).sum ≤ (l.map g).sum
  | [], _ => Nat.le_refl _
  | a :: l, h => by
    simp only [List.map_cons, List.sum_cons]
    exact Nat.add_le_add (h a (List.mem_cons_self ..)) (sum_le fun b hb => h b (List.mem_cons_of_mem _ hb))
theorem sum_mul {l : List Ask} {c : Nat} : (l.map fun a => a.k * c).sum = often l * c := by
  unfold often
  induction l with
  | nil => simp
  | cons a l ih =>
    simp only [List.map_cons, List.sum_cons, ih, Nat.add_mul]
theorem sum_split {f : Ask → Nat} (p : Ask → Bool) : ∀ (l : List Ask), (l.map f).sum = ((l.filter p).map f).sum + ((l.filter fun a => !p a).map f).sum
  | [] => rfl
  | a :: l => by
    have ih := sum_split (f := f) p l
    by_cases h : p a = true
    · simp only [List.filter_cons, h, if_true, List.map_cons, List.sum_cons, Bool.not_true, Bool.false_eq_true, if_false]
      omega
    · simp only [List.filter_cons, h, if_false, List.map_cons, List.sum_cons, Bool.not_eq_true] at *
      simp only [h, Bool.not_false, if_true, Bool.false_eq_true, if_false, List.map_cons, List.sum_cons]
      omega
/-- a part put to what the rest costs is no less than all cost with some set -/
theorem part_hi {n : Nat} {Q : List Ask} {p : Ask → Bool} {x : Nat} (hQ : ∀ a ∈ Q, a.g < 2 ^ n) (h : IsMin rows S U (2 ^ n) (Q.filter fun a => !p a) x) :
    ∃ K : List Nat, (∀ v ∈ K, v < 2 ^ n) ∧ costK rows S U Q K ≤ partCost rows S U (Q.filter p) + x := by
  obtain ⟨K, hK, hc⟩ := h.hi
  unfold partCost
  rcases Nat.le_total (often (Q.filter p) * rows) (often (Q.filter p) * S (together (Q.filter p)) + U) with e | e
  · rw [show Nat.min (often (Q.filter p) * rows) (often (Q.filter p) * S (together (Q.filter p)) + U) = _ from Nat.min_eq_left e]
    refine ⟨K, hK, ?_⟩
    unfold costK at hc ⊢
    rw [sum_split p Q]
    have h1 : ((Q.filter p).map fun a => a.k * rd rows S K a.g).sum ≤ ((Q.filter p).map fun a => a.k * rows).sum := sum_le fun a _ => Nat.mul_le_mul_left _ (rd_rows rows S K a.g)
    rw [sum_mul] at h1
    omega
  · rw [show Nat.min (often (Q.filter p) * rows) (often (Q.filter p) * S (together (Q.filter p)) + U) = _ from Nat.min_eq_right e]
    refine ⟨together (Q.filter p) :: K, ?_, ?_⟩
    · intro v hv
      rcases List.mem_cons.mp hv with e | e
      · rw [e]; exact together_lt fun a ha => hQ a (List.mem_filter.mp ha).1
      · exact hK v e
    · unfold costK at hc ⊢
      rw [sum_split p Q]
      have h1 : ((Q.filter p).map fun a => a.k * rd rows S (together (Q.filter p) :: K) a.g).sum ≤ ((Q.filter p).map fun a => a.k * S (together (Q.filter p))).sum :=
        sum_le fun a ha => Nat.mul_le_mul_left _ (rd_mem rows S (List.mem_cons_self ..) (together_has ha))
      rw [sum_mul] at h1
      have h2 : ((Q.filter fun a => !p a).map fun a => a.k * rd rows S (together (Q.filter p) :: K) a.g).sum ≤ ((Q.filter fun a => !p a).map fun a => a.k * rd rows S K a.g).sum :=
        sum_le fun a _ => Nat.mul_le_mul_left _ (rd_sub rows S fun v hv => List.mem_cons_of_mem _ hv)
      have h3 : U * (together (Q.filter p) :: K).length = U * K.length + U := by rw [List.length_cons, Nat.mul_add, Nat.mul_one]
      omega
/-- with any set, those that read what the first one reads make a part -/
theorem part_lo (hS : ∀ g v, has v g = true → S g ≤ S v) {W : Nat} {a0 : Ask} {r : List Ask} {K : List Nat} (hK : ∀ v ∈ K, v < W) :
    ∃ (p : Ask → Bool) (K' : List Nat), p a0 = true ∧ (∀ v ∈ K', v < W) ∧ partCost rows S U ((a0 :: r).filter p) + costK rows S U ((a0 :: r).filter fun a => !p a) K' ≤ costK rows S U (a0 :: r) K := by
  rcases rd_att rows S K a0.g with e | ⟨v, hv, hg, e⟩
  · refine ⟨fun a => decide (rd rows S K a.g = rows), K, by simp [e], hK, ?_⟩
    unfold costK partCost
    have h0 := sum_split (f := fun a => a.k * rd rows S K a.g) (fun a => decide (rd rows S K a.g = rows)) (a0 :: r)
    dsimp only at h0 ⊢
    rw [h0]
    have h1 : (((a0 :: r).filter fun a => decide (rd rows S K a.g = rows)).map fun a => a.k * rows).sum ≤ (((a0 :: r).filter fun a => decide (rd rows S K a.g = rows)).map fun a => a.k * rd rows S K a.g).sum :=
      sum_le fun a ha => by
        have := of_decide_eq_true (List.mem_filter.mp ha).2
        rw [this]
        exact Nat.le_refl _
    rw [sum_mul] at h1
    have h2 := Nat.min_le_left (often ((a0 :: r).filter fun a => decide (rd rows S K a.g = rows)) * rows) (often ((a0 :: r).filter fun a => decide (rd rows S K a.g = rows)) * S (together ((a0 :: r).filter fun a => decide (rd rows S K a.g = rows))) + U)
    have h3 : ∀ a b, Nat.min a b = min a b := fun _ _ => rfl
    rw [← h3] at h2
    omega
  · let p : Ask → Bool := fun a => has v a.g && decide (rd rows S K a.g = S v)
    refine ⟨p, K.filter (fun u => u != v), by simp [p, hg, e], fun u hu => hK u (List.mem_filter.mp hu).1, ?_⟩
    unfold costK partCost
    rw [sum_split (f := fun a => a.k * rd rows S K a.g) p (a0 :: r)]
    have h1 : (((a0 :: r).filter p).map fun a => a.k * S (together ((a0 :: r).filter p))).sum ≤ (((a0 :: r).filter p).map fun a => a.k * rd rows S K a.g).sum :=
      sum_le fun a ha => by
        have hp := (List.mem_filter.mp ha).2
        simp only [p, Bool.and_eq_true, decide_eq_true_eq] at hp
        rw [hp.2]
        exact Nat.mul_le_mul_left _ (hS _ _ (together_in fun b hb => by
          have hq := (List.mem_filter.mp hb).2
          simp only [p, Bool.and_eq_true] at hq
          exact hq.1))
    rw [sum_mul] at h1
    have h2 : (((a0 :: r).filter fun a => !p a).map fun a => a.k * rd rows S (K.filter fun u => u != v) a.g).sum ≤ (((a0 :: r).filter fun a => !p a).map fun a => a.k * rd rows S K a.g).sum :=
      sum_le fun a ha => Nat.mul_le_mul_left _ (by
        have hp := (List.mem_filter.mp ha).2
        rcases rd_att rows S K a.g with q | ⟨u, hu, hug, q⟩
        · rw [q]; exact rd_rows rows S _ _
        · rw [q]
          refine rd_mem rows S (List.mem_filter.mpr ⟨hu, ?_⟩) hug
          rw [bne_iff_ne]
          intro z
          subst z
          simp [p, hug, q] at hp)
    have h3 : U * (K.filter fun u => u != v).length + U ≤ U * K.length := by
      have hlt : (K.filter fun u => u != v).length < K.length := by
        have h4 := List.length_filter_lt_length_iff_exists (p := fun u => u != v) (l := K)
        exact h4.mpr ⟨v, hv, by simp⟩
      have h5 : U * ((K.filter fun u => u != v).length + 1) ≤ U * K.length := Nat.mul_le_mul_left _ hlt
      rw [Nat.mul_add, Nat.mul_one] at h5
      exact h5
    have h4 := Nat.min_le_right (often ((a0 :: r).filter p) * rows) (often ((a0 :: r).filter p) * S (together ((a0 :: r).filter p)) + U)
    have h5 : ∀ a b, Nat.min a b = min a b := fun _ _ => rfl
    rw [← h5] at h4
    omega
end
/-! ### sets of questions as numbers -/
def sel : Nat → List Ask → List Ask
  | _, [] => []
  | m, a :: r => if m % 2 = 1 then a :: sel (m / 2) r else sel (m / 2) r
/-- the number of those of a set that a test takes -/
def mk : Nat → List Ask → (Ask → Bool) → Nat
  | _, [], _ => 0
  | m, a :: r, p => (if m % 2 = 1 ∧ p a = true then 1 else 0) + 2 * mk (m / 2) r p
theorem and_mod (a b : Nat) : (a &&& b) % 2 = if a % 2 = 1 ∧ b % 2 = 1 then 1 else 0 := by
  have h : ∀ x : Nat, x % 2 = 1 ↔ x.testBit 0 = true := fun x => by simp [Nat.testBit_zero]
  have e := h (a &&& b)
  rw [Nat.testBit_and, Bool.and_eq_true, ← h, ← h] at e
  split
  · rename_i q; exact e.mpr q
  · rename_i q
    rcases Nat.mod_two_eq_zero_or_one (a &&& b) with z | z
    · exact z
    · exact absurd (e.mp z) q
theorem xor_mod (a b : Nat) : (a ^^^ b) % 2 = if a % 2 = b % 2 then 0 else 1 := by
  have h : ∀ x : Nat, x % 2 = 1 ↔ x.testBit 0 = true := fun x => by simp [Nat.testBit_zero]
  have e := h (a ^^^ b)
  rw [Nat.testBit_xor] at e
  rcases Nat.mod_two_eq_zero_or_one a with p | p <;> rcases Nat.mod_two_eq_zero_or_one b with q | q
  · have ha : a.testBit 0 = false := by cases z : a.testBit 0 with | false => rfl | true => have := (h a).mpr z; omega
    have hb : b.testBit 0 = false := by cases z : b.testBit 0 with | false => rfl | true => have := (h b).mpr z; omega
    rw [ha, hb] at e
    simp only [p, q, if_true]
    rcases Nat.mod_two_eq_zero_or_one (a ^^^ b) with z | z
    · exact z
    · exact absurd (e.mp z) (by decide)
  · have ha : a.testBit 0 = false := by cases z : a.testBit 0 with | false => rfl | true => have := (h a).mpr z; omega
    have hb := (h b).mp q
    rw [ha, hb] at e
    simp only [p, q]
    exact e.mpr rfl
  · have ha := (h a).mp p
    have hb : b.testBit 0 = false := by cases z : b.testBit 0 with | false => rfl | true => have := (h b).mpr z; omega
    rw [ha, hb] at e
    simp only [p, q]
    exact e.mpr rfl
  · have ha := (h a).mp p
    have hb := (h b).mp q
    rw [ha, hb] at e
    simp only [p, q, if_true]
    rcases Nat.mod_two_eq_zero_or_one (a ^^^ b) with z | z
    · exact z
    · exact absurd (e.mp z) (by decide)
theorem and_half (a b : Nat) : (a &&& b) / 2 = (a / 2) &&& (b / 2) := Nat.and_div_two
theorem xor_half (a b : Nat) : (a ^^^ b) / 2 = (a / 2) ^^^ (b / 2) := Nat.xor_div_two
theorem mk_sel : ∀ (Q : List Ask) (m : Nat) (p : Ask → Bool), sel (mk m Q p) Q = (sel m Q).filter p ∧ (m < 2 ^ Q.length → sel (m ^^^ mk m Q p) Q = (sel m Q).filter (fun a => !p a) ∧ mk m Q p &&& m = mk m Q p ∧ mk m Q p ≤ m)
  | [], m, p => by
    refine ⟨rfl, fun h => ⟨rfl, by simp [mk], Nat.zero_le _⟩⟩
  | a :: Q, m, p => by
    obtain ⟨h1, h2⟩ := mk_sel Q (m / 2) p
    have hm2 : m % 2 = 0 ∨ m % 2 = 1 := Nat.mod_two_eq_zero_or_one m
    have hmod : (mk m (a :: Q) p) % 2 = (if m % 2 = 1 ∧ p a = true then 1 else 0) := by
      simp only [mk]
      split <;> omega
    have hdiv : (mk m (a :: Q) p) / 2 = mk (m / 2) Q p := by
      simp only [mk]
      split <;> omega
    refine ⟨?_, fun hlt => ?_⟩
    · rw [sel, hmod, hdiv, h1, sel]
      by_cases hm : m % 2 = 1
      · by_cases hp : p a = true
        · simp [hm, hp]
        · simp [hm, hp]
      · simp [hm]
    · have hlt2 : m / 2 < 2 ^ Q.length := by
        rw [List.length_cons, Nat.pow_succ] at hlt
        omega
      obtain ⟨h3, h4, h5⟩ := h2 hlt2
      refine ⟨?_, ?_, ?_⟩
      · rw [sel, xor_half, hdiv, h3, xor_mod, hmod, sel]
        by_cases hm : m % 2 = 1
        · by_cases hp : p a = true
          · simp [hm, hp]
          · simp [hm, hp]
        · have : m % 2 = 0 := by omega
          simp [this]
      · have e1 : (mk m (a :: Q) p &&& m) / 2 = (mk m (a :: Q) p) / 2 := by rw [and_half, hdiv, h4]
        have e2 : (mk m (a :: Q) p &&& m) % 2 = (mk m (a :: Q) p) % 2 := by
          rw [and_mod, hmod]
          by_cases hm : m % 2 = 1
          · by_cases hp : p a = true
            · simp [hm, hp]
            · simp [hm, hp]
          · simp [hm]
        omega
      · have : mk m (a :: Q) p = (if m % 2 = 1 ∧ p a = true then 1 else 0) + 2 * mk (m / 2) Q p := rfl
        rw [this]
        split <;> omega
theorem sel_sub : ∀ (Q : List Ask) (m : Nat), ∀ a ∈ sel m Q, a ∈ Q
  | [], _, _, h => h
  | b :: Q, m, a, h => by
    rw [sel] at h
    split at h
    · rcases List.mem_cons.mp h with e | e
      · rw [e]; exact List.mem_cons_self ..
      · exact List.mem_cons_of_mem _ (sel_sub Q _ a e)
    · exact List.mem_cons_of_mem _ (sel_sub Q _ a h)
theorem sel_zero : ∀ Q : List Ask, sel 0 Q = []
  | [] => rfl
  | _ :: Q => sel_zero Q
/-! ### all sets within one, from above -/
/-- the next one down -/
def down (o r : Nat) : Nat := (r - 1) &&& o
theorem down_max : ∀ (n o c r : Nat), o < 2 ^ n → c &&& o = c → r &&& o = r → r < c → r ≤ down o c
  | 0, o, c, r, ho, hc, hr, h => by
    have : o = 0 := by simpa using ho
    subst this
    rw [Nat.and_zero] at hc
    omega
  | n + 1, o, c, r, ho, hc, hr, h => by
    have ho2 : o / 2 < 2 ^ n := by rw [Nat.pow_succ] at ho; omega
    have hc2 : c / 2 &&& o / 2 = c / 2 := by rw [← and_half, hc]
    have hr2 : r / 2 &&& o / 2 = r / 2 := by rw [← and_half, hr]
    have hcm := and_mod c o
    have hrm := and_mod r o
    rw [hc] at hcm
    rw [hr] at hrm
    have hdm := and_mod (c - 1) o
    have hdd := and_half (c - 1) o
    unfold down
    by_cases c1 : c % 2 = 1
    · have e1 : (c - 1) / 2 = c / 2 := by omega
      rw [e1, hc2] at hdd
      omega
    · have e1 : (c - 1) / 2 = c / 2 - 1 := by omega
      have e2 : (c - 1) % 2 = 1 := by omega
      rw [e1] at hdd
      have ih := down_max n (o / 2) (c / 2) (r / 2) ho2 hc2 hr2 (by omega)
      unfold down at ih
      rw [← hdd] at ih
      rw [e2] at hdm
      by_cases o1 : o % 2 = 1
      · rw [if_pos ⟨rfl, o1⟩] at hdm
        omega
      · have hr0 : r % 2 = 0 := by
          rw [hrm]
          rw [if_neg (fun z => o1 z.2)]
        omega
theorem down_lt {o c : Nat} (h : 0 < c) : down o c < c := by
  unfold down
  have := Nat.and_le_left (n := c - 1) (m := o)
  omega
theorem down_in (o c : Nat) : down o c &&& o = down o c := by
  unfold down
  rw [Nat.and_assoc, Nat.and_self]
/-- the least over all sets r > 0 within o from one on; the first number sees to an end -/
def restLoop (o : Nat) (f : Nat → Nat) : Nat → Nat → Nat → Nat
  | 0, _, best => best
  | n + 1, r, best => if 0 < r then restLoop o f n (down o r) (Nat.min best (f r)) else best
theorem restLoop_le (o : Nat) (f : Nat → Nat) : ∀ (n r best : Nat), restLoop o f n r best ≤ best
  | 0, _, best => Nat.le_refl best
  | n + 1, r, best => by
    rw [restLoop]
    split
    · exact Nat.le_trans (restLoop_le o f n _ _) (Nat.min_le_left _ _)
    · exact Nat.le_refl _
theorem restLoop_mem (o : Nat) (f : Nat → Nat) (w : Nat) (ho : o < 2 ^ w) : ∀ (n c best r : Nat), c ≤ n → c &&& o = c → r &&& o = r → 0 < r → r ≤ c → restLoop o f n c best ≤ f r
  | 0, c, best, r, hn, _, _, h0, hr => by omega
  | n + 1, c, best, r, hn, hc, hro, h0, hr => by
    rw [restLoop, if_pos (by omega)]
    by_cases e : r = c
    · subst e
      exact Nat.le_trans (restLoop_le o f n _ _) (Nat.min_le_right _ _)
    · have hlt := down_lt (o := o) (c := c) (by omega)
      exact restLoop_mem o f w ho n (down o c) _ r (by omega) (down_in o c) hro h0 (down_max w o c r ho hc hro (by omega))
theorem restLoop_att (o : Nat) (f : Nat → Nat) : ∀ (n c best : Nat), c &&& o = c → restLoop o f n c best = best ∨ ∃ r, 0 < r ∧ r ≤ c ∧ r &&& o = r ∧ restLoop o f n c best = f r
  | 0, _, _, _ => .inl rfl
  | n + 1, c, best, hc => by
    rw [restLoop]
    split
    · rename_i h0
      rcases restLoop_att o f n (down o c) (Nat.min best (f c)) (down_in o c) with h | ⟨r, h1, h2, h3, h4⟩
      · rw [h]
        rcases Nat.le_total best (f c) with q | q
        · exact .inl (Nat.min_eq_left q)
        · exact .inr ⟨c, h0, Nat.le_refl c, hc, Nat.min_eq_right q⟩
      · exact .inr ⟨r, h1, Nat.le_trans h2 (Nat.le_of_lt (down_lt h0)), h3, h4⟩
    · exact .inl rfl
/-- one set's least, from those before it -/
def leastParted (m : Nat) (costs least : List Nat) : Nat := restLoop (m &&& (m - 1)) (fun r => costs.getD (m ^^^ r) 0 + least.getD r 0) m (m &&& (m - 1)) (costs.getD m 0)
def leastUpTo (costs : List Nat) : Nat → List Nat
  | 0 => [0]
  | n + 1 => leastUpTo costs n ++ [leastParted (n + 1) costs (leastUpTo costs n)]
def leastCosts (costs : List Nat) : List Nat := leastUpTo costs (costs.length - 1)
theorem leastUpTo_len (costs : List Nat) : ∀ n, (leastUpTo costs n).length = n + 1
  | 0 => rfl
  | n + 1 => by rw [leastUpTo, List.length_append, leastUpTo_len costs n]; rfl
/-- without the lowest bit -/
theorem low_off : ∀ (n m : Nat), m < 2 ^ n → 0 < m → ∃ b, 0 < b ∧ m = (m &&& (m - 1)) + b ∧ (∀ r, r &&& (m &&& (m - 1)) = r ↔ r &&& m = r ∧ r &&& b = 0) ∧ (∀ p, p &&& m = p → p &&& b = b → (m ^^^ p) &&& m = m ^^^ p ∧ (m ^^^ p) &&& b = 0)
  | 0, m, h, h0 => by simp at h; omega
  | n + 1, m, h, h0 => by
    by_cases m1 : m % 2 = 1
    · refine ⟨1, by omega, ?_, fun r => ?_, fun p hp hb => ?_⟩
      · have e1 := and_half m (m - 1)
        have e2 := and_mod m (m - 1)
        rw [show (m - 1) / 2 = m / 2 by omega, Nat.and_self] at e1
        rw [if_neg (by omega)] at e2
        omega
      · have hh := and_half r (m &&& (m - 1))
        have hh2 := and_half r m
        have hm := and_mod r (m &&& (m - 1))
        have hm2 := and_mod r m
        have e1 := and_half m (m - 1)
        have e2 := and_mod m (m - 1)
        rw [show (m - 1) / 2 = m / 2 by omega, Nat.and_self] at e1
        rw [if_neg (by omega)] at e2
        rw [e1] at hh
        rw [e2] at hm
        have hb1 := and_half r 1
        have hb2 := and_mod r 1
        rw [show (1 : Nat) / 2 = 0 from rfl, Nat.and_zero] at hb1
        simp only [show ¬ ((0 : Nat) = 1) by decide, and_false, if_false] at hm
        simp only [m1, and_true] at hm2
        simp only [and_true] at hb2
        constructor
        · intro q
          constructor
          · split at hm2 <;> omega
          · split at hb2 <;> omega
        · intro ⟨q1, q2⟩
          have : r % 2 = 0 := by
            split at hb2 <;> omega
          split at hm2 <;> omega
      · have a1 := xor_mod m p
        have a2 := xor_half m p
        have pm := and_mod p m
        have ph := and_half p m
        rw [hp] at pm ph
        have b1 := and_mod p 1
        rw [hb] at b1
        have p1 : p % 2 = 1 := by
          by_cases z : p % 2 = 1
          · exact z
          · rw [if_neg (fun q => z q.1)] at b1
            omega
        rw [m1, p1] at a1
        simp only [if_true] at a1
        constructor
        · apply Nat.eq_of_testBit_eq
          intro i
          have hpi : p.testBit i = true → m.testBit i = true := fun z => by
            have : (p &&& m).testBit i = true := by rw [hp]; exact z
            rw [Nat.testBit_and, Bool.and_eq_true] at this
            exact this.2
          rw [Nat.testBit_and, Nat.testBit_xor]
          cases h2 : p.testBit i with
          | true => rw [hpi h2]; rfl
          | false => cases m.testBit i <;> rfl
        · have c1 := and_mod (m ^^^ p) 1
          have c2 := and_half (m ^^^ p) 1
          rw [show (1 : Nat) / 2 = 0 from rfl, Nat.and_zero] at c2
          rw [a1, if_neg (by omega)] at c1
          omega
    · have hlt : m / 2 < 2 ^ n := by rw [Nat.pow_succ] at h; omega
      obtain ⟨b, b0, hb, hr, hp⟩ := low_off n (m / 2) hlt (by omega)
      have e1 := and_half m (m - 1)
      have e2 := and_mod m (m - 1)
      rw [show (m - 1) / 2 = m / 2 - 1 by omega] at e1
      rw [if_neg (by omega)] at e2
      have hbm : (2 * b) % 2 = 0 := by omega
      have hbh : (2 * b) / 2 = b := by omega
      refine ⟨2 * b, by omega, by omega, fun r => ?_, fun p q1 q2 => ?_⟩
      · have x1 := and_half r (m &&& (m - 1))
        have x2 := and_mod r (m &&& (m - 1))
        rw [e1] at x1
        rw [e2] at x2
        simp only [show ¬ ((0 : Nat) = 1) by decide, and_false, if_false] at x2
        have y1 := and_half r m
        have y2 := and_mod r m
        rw [if_neg (fun z => m1 z.2)] at y2
        have z1 := and_half r (2 * b)
        have z2 := and_mod r (2 * b)
        rw [hbh] at z1
        rw [hbm] at z2
        simp only [show ¬ ((0 : Nat) = 1) by decide, and_false, if_false] at z2
        have hr' := hr (r / 2)
        constructor
        · intro q
          rw [q] at x1 x2
          obtain ⟨w1, w2⟩ := hr'.mp x1.symm
          constructor
          · omega
          · omega
        · intro ⟨q1, q2⟩
          rw [q1] at y1 y2
          rw [q2] at z1
          have := hr'.mpr ⟨y1.symm, z1.symm⟩
          omega
      · have pm := and_mod p m
        have ph := and_half p m
        rw [q1] at pm ph
        rw [if_neg (fun z => m1 z.2)] at pm
        have bh := and_half p (2 * b)
        rw [q2, hbh] at bh
        obtain ⟨w1, w2⟩ := hp (p / 2) ph.symm bh.symm
        have a1 := xor_mod m p
        have a2 := xor_half m p
        rw [if_pos (by omega)] at a1
        constructor
        · have c1 := and_half (m ^^^ p) m
          have c2 := and_mod (m ^^^ p) m
          rw [a2, w1] at c1
          rw [if_neg (fun z => m1 z.2)] at c2
          omega
        · have c1 := and_half (m ^^^ p) (2 * b)
          have c2 := and_mod (m ^^^ p) (2 * b)
          rw [a2, hbh, w2] at c1
          rw [hbm] at c2
          simp only [show ¬ ((0 : Nat) = 1) by decide, and_false, if_false] at c2
          omega
theorem sel_nil_iff : ∀ (Q : List Ask) (m : Nat), m < 2 ^ Q.length → 0 < m → ∃ a r, sel m Q = a :: r ∧ ∀ p : Ask → Bool, p a = true → ∀ b, m = (m &&& (m - 1)) + b → mk m Q p &&& b = b
  | [], m, h, h0 => by simp at h; omega
  | a :: Q, m, h, h0 => by
    rw [List.length_cons, Nat.pow_succ] at h
    by_cases m1 : m % 2 = 1
    · refine ⟨a, sel (m / 2) Q, by rw [sel, if_pos m1], fun p hp b hb => ?_⟩
      have e1 := and_half m (m - 1)
      have e2 := and_mod m (m - 1)
      rw [show (m - 1) / 2 = m / 2 by omega, Nat.and_self] at e1
      rw [if_neg (by omega)] at e2
      have b1 : b = 1 := by omega
      subst b1
      have hmk : (mk m (a :: Q) p) % 2 = 1 := by
        rw [mk, if_pos ⟨m1, hp⟩]
        omega
      have x1 := and_mod (mk m (a :: Q) p) 1
      have x2 := and_half (mk m (a :: Q) p) 1
      rw [show (1 : Nat) / 2 = 0 from rfl, Nat.and_zero] at x2
      rw [if_pos ⟨hmk, rfl⟩] at x1
      omega
    · obtain ⟨c, r, hs, hk⟩ := sel_nil_iff Q (m / 2) (by omega) (by omega)
      refine ⟨c, r, by rw [sel, if_neg m1, hs], fun p hp b hb => ?_⟩
      have e1 := and_half m (m - 1)
      have e2 := and_mod m (m - 1)
      rw [show (m - 1) / 2 = m / 2 - 1 by omega] at e1
      rw [if_neg (by omega)] at e2
      have hb0 : b % 2 = 0 := by omega
      have hk' := hk p hp (b / 2) (by omega)
      have hmk : mk m (a :: Q) p = 2 * mk (m / 2) Q p := by
        rw [mk, if_neg (fun z => m1 z.1)]
        omega
      have x1 := and_mod (mk m (a :: Q) p) b
      have x2 := and_half (mk m (a :: Q) p) b
      rw [hmk, show 2 * mk (m / 2) Q p / 2 = mk (m / 2) Q p by omega, hk'] at x2
      rw [if_neg (by omega)] at x1
      rw [hmk] at x1 ⊢
      omega
section
variable (rows : Nat) (S : Nat → Nat) (U : Nat)
theorem costK_nil (K : List Nat) : costK rows S U [] K = U * K.length := by simp [costK]
theorem least_min (hS : ∀ g v, has v g = true → S g ≤ S v) (n : Nat) (Q : List Ask) (hQ : ∀ a ∈ Q, a.g < 2 ^ n) (costs : List Nat) (hlen : costs.length = 2 ^ Q.length) (hcost : ∀ m, m < 2 ^ Q.length → costs.getD m 0 = partCost rows S U (sel m Q)) :
    ∀ k, k < 2 ^ Q.length → ∀ m ≤ k, IsMin rows S U (2 ^ n) (sel m Q) ((leastUpTo costs k).getD m 0)
  | 0, _, m, hm => by
    have : m = 0 := by omega
    subst this
    rw [sel_zero]
    exact ⟨fun K _ => Nat.zero_le _, ⟨[], by simp, by simp [costK, leastUpTo]⟩⟩
  | k + 1, hk, m, hm => by
    have ih := least_min hS n Q hQ costs hlen hcost k (by omega)
    have hl := leastUpTo_len costs k
    rw [leastUpTo]
    by_cases e : m ≤ k
    · rw [List.getD_eq_getElem?_getD, List.getElem?_append_left (by omega), ← List.getD_eq_getElem?_getD]
      exact ih m e
    · have em : m = k + 1 := by omega
      subst em
      rw [List.getD_eq_getElem?_getD, List.getElem?_append_right (by omega), hl, Nat.sub_self]
      simp only [List.getElem?_cons_zero, Option.getD_some]
      obtain ⟨b, b0, hb, hr, hp⟩ := low_off Q.length (k + 1) hk (by omega)
      have hQs : ∀ a ∈ sel (k + 1) Q, a.g < 2 ^ n := fun a ha => hQ a (sel_sub Q _ a ha)
      have hor : ((k + 1) &&& (k + 1 - 1)) < k + 1 := by omega
      unfold leastParted
      constructor
      · intro K hK
        obtain ⟨a0, r, hs, hkk⟩ := sel_nil_iff Q (k + 1) hk (by omega)
        rw [hs]
        obtain ⟨p, K', hp0, hK', hle⟩ := part_lo rows S U hS (a0 := a0) (r := r) hK
        rw [← hs] at hle ⊢
        obtain ⟨h1, h2⟩ := mk_sel Q (k + 1) p
        obtain ⟨h3, h4, h5⟩ := h2 hk
        have hbit := hkk p hp0 b hb
        refine Nat.le_trans ?_ hle
        rw [← h1, ← h3]
        by_cases e : (k + 1) ^^^ mk (k + 1) Q p = 0
        · have e' : mk (k + 1) Q p = k + 1 := by
            have : ((k + 1) ^^^ mk (k + 1) Q p) ^^^ mk (k + 1) Q p = mk (k + 1) Q p := by rw [e, Nat.zero_xor]
            rw [Nat.xor_assoc, Nat.xor_self, Nat.xor_zero] at this
            exact this.symm
          rw [e', ← hcost _ hk]
          exact Nat.le_trans (restLoop_le _ _ _ _ _) (Nat.le_add_right _ _)
        · obtain ⟨w1, w2⟩ := hp _ h4 hbit
          have hin := (hr ((k + 1) ^^^ mk (k + 1) Q p)).mpr ⟨w1, w2⟩
          have hle2 : (k + 1) ^^^ mk (k + 1) Q p ≤ (k + 1) &&& (k + 1 - 1) := by
            rw [← hin]
            exact Nat.and_le_right
          have hlt : ((k + 1) &&& (k + 1 - 1)) < 2 ^ Q.length := by omega
          refine Nat.le_trans (restLoop_mem _ _ Q.length hlt (k + 1) _ _ ((k + 1) ^^^ mk (k + 1) Q p) (by omega) (Nat.and_self _) hin (by omega) hle2) ?_
          have hx : (k + 1) ^^^ ((k + 1) ^^^ mk (k + 1) Q p) = mk (k + 1) Q p := by rw [← Nat.xor_assoc, Nat.xor_self, Nat.zero_xor]
          rw [hx, hcost _ (by omega)]
          have hmin := (ih ((k + 1) ^^^ mk (k + 1) Q p) (by omega)).lo K' hK'
          exact Nat.add_le_add_left hmin _
      · rcases restLoop_att ((k + 1) &&& (k + 1 - 1)) (fun r => costs.getD ((k + 1) ^^^ r) 0 + (leastUpTo costs k).getD r 0) (k + 1) ((k + 1) &&& (k + 1 - 1)) (costs.getD (k + 1) 0) (Nat.and_self _) with h | ⟨r, h1, h2, h3, h4⟩
        · rw [h, hcost _ hk]
          have hnil : IsMin rows S U (2 ^ n) ((sel (k + 1) Q).filter fun a => !(fun _ => true) a) 0 := by
            have : (sel (k + 1) Q).filter (fun a => !(fun _ => true) a) = [] := by simp
            rw [this]
            exact ⟨fun K _ => Nat.zero_le _, ⟨[], by simp, by simp [costK]⟩⟩
          obtain ⟨K, hK, hc⟩ := part_hi rows S U (p := fun _ => true) hQs hnil
          have : (sel (k + 1) Q).filter (fun _ => true) = sel (k + 1) Q := List.filter_eq_self.mpr fun _ _ => rfl
          rw [this] at hc
          exact ⟨K, hK, hc⟩
        · rw [h4]
          obtain ⟨w1, w2⟩ := (hr r).mp h3
          have hxle : (k + 1) ^^^ r ≤ k + 1 := by
            have : ((k + 1) ^^^ r) &&& (k + 1) = (k + 1) ^^^ r := by
              apply Nat.eq_of_testBit_eq
              intro i
              have hpi : r.testBit i = true → (k + 1).testBit i = true := fun z => by
                have : (r &&& (k + 1)).testBit i = true := by rw [w1]; exact z
                rw [Nat.testBit_and, Bool.and_eq_true] at this
                exact this.2
              rw [Nat.testBit_and, Nat.testBit_xor]
              cases q2 : r.testBit i with
              | true => rw [hpi q2]; rfl
              | false => cases (k + 1).testBit i <;> rfl
            rw [← this]
            exact Nat.and_le_right
          rw [hcost _ (by omega)]
          -- the two sets of questions, whatever stands at which place
          have hsplit : ∀ (Q : List Ask) (m r : Nat), r &&& m = r → ∀ f : Ask → Nat, ((sel m Q).map f).sum = ((sel (m ^^^ r) Q).map f).sum + ((sel r Q).map f).sum := by
            intro Q
            induction Q with
            | nil => intro m r _ f; rfl
            | cons a Q ihQ =>
              intro m r hrm f
              have i1 := ihQ (m / 2) (r / 2) (by rw [← and_half, hrm]) f
              have x1 := and_mod r m
              rw [hrm] at x1
              rw [sel, sel, sel, xor_half, xor_mod]
              by_cases m1 : m % 2 = 1
              · by_cases r1 : r % 2 = 1
                · simp only [m1, r1, if_true, List.map_cons, List.sum_cons, Nat.zero_ne_one, if_false]
                  omega
                · have r0 : r % 2 = 0 := by omega
                  simp only [m1, r0, if_true, List.map_cons, List.sum_cons, Nat.zero_ne_one, if_false, Nat.one_ne_zero]
                  omega
              · have m0 : m % 2 = 0 := by omega
                have r0 : r % 2 = 0 := by rw [if_neg (fun z => m1 z.2)] at x1; exact x1
                simp only [m0, r0, if_true, Nat.zero_ne_one, if_false]
                omega
          obtain ⟨K, hK, hc⟩ := (ih r (by omega)).hi
          generalize hP : sel ((k + 1) ^^^ r) Q = P
          have hPg : ∀ a ∈ P, a.g < 2 ^ n := fun a ha => hQ a (sel_sub Q ((k + 1) ^^^ r) a (by rw [hP]; exact ha))
          have hs := hsplit Q (k + 1) r w1
          rw [hP] at hs
          unfold partCost
          unfold costK at hc
          rcases Nat.le_total (often P * rows) (often P * S (together P) + U) with q | q
          · rw [show Nat.min (often P * rows) (often P * S (together P) + U) = _ from Nat.min_eq_left q]
            refine ⟨K, hK, ?_⟩
            unfold costK
            rw [hs]
            have h1 : (P.map fun a => a.k * rd rows S K a.g).sum ≤ (P.map fun a => a.k * rows).sum := sum_le fun a _ => Nat.mul_le_mul_left _ (rd_rows rows S K a.g)
            rw [sum_mul] at h1
            omega
          · rw [show Nat.min (often P * rows) (often P * S (together P) + U) = _ from Nat.min_eq_right q]
            refine ⟨together P :: K, ?_, ?_⟩
            · intro v hv
              rcases List.mem_cons.mp hv with e | e
              · rw [e]; exact together_lt hPg
              · exact hK v e
            · unfold costK
              rw [hs]
              have h1 : (P.map fun a => a.k * rd rows S (together P :: K) a.g).sum ≤ (P.map fun a => a.k * S (together P)).sum :=
                sum_le fun a ha => Nat.mul_le_mul_left _ (rd_mem rows S (List.mem_cons_self ..) (together_has ha))
              rw [sum_mul] at h1
              have h2 : ((sel r Q).map fun a => a.k * rd rows S (together P :: K) a.g).sum ≤ ((sel r Q).map fun a => a.k * rd rows S K a.g).sum :=
                sum_le fun a _ => Nat.mul_le_mul_left _ (rd_sub rows S fun v hv => List.mem_cons_of_mem _ hv)
              have h3 : U * (together P :: K).length = U * K.length + U := by rw [List.length_cons, Nat.mul_add, Nat.mul_one]
              omega
end
end SR
/-! What each group pays alone: the program's parts against the specification's walk over the sets that can help. -/
namespace SR
open VamvsBase
open Vamvsa (Row Ask Table Grouping Group)
open Vamvsb (Item State)
theorem div_bit (g i : Nat) : g / 2 ^ i % 2 = 1 ↔ g.testBit i = true := by
  rw [Nat.testBit_eq_decide_div_mod_eq, decide_eq_true_eq]
theorem canFrom_of {n b s : Nat} (h : has b s = true) : Vamvsa.canFrom n b s = true := by
  unfold Vamvsa.canFrom
  refine List.all_eq_true.mpr fun i hi => ?_
  obtain ⟨h1, h2⟩ := mem_columnsOf.mp hi
  have : i ∈ Vamvsa.columnsOf n b := mem_columnsOf.mpr ⟨h1, (div_bit b i).mpr (has_iff.mp h i ((div_bit s i).mp h2))⟩
  simpa using this
theorem size_has (t : Table) (g v : Nat) (h : has v g = true) : Vamvsa.sizeOf_ t g ≤ Vamvsa.sizeOf_ t v := size_mono t (canFrom_of h)
/-! ### states -/
def itemOf (t : Table) (g : Nat) : Item := ⟨g, Vamvsa.sizeOf_ t g, t.asks.map fun a => Vamvsa.canFrom (Vamvsa.width t) g a.g⟩
theorem items_eq (t : Table) : Vamvsb.items t = (List.range (2 ^ t.cols.length)).map (itemOf t) := rfl
theorem item_of {t : Table} {x : Item} (h : x ∈ Vamvsb.items t) : x = itemOf t x.g ∧ x.g < 2 ^ t.cols.length := by
  rw [items_eq] at h
  obtain ⟨g, hg, e⟩ := List.mem_map.mp h
  subst e
  exact ⟨rfl, List.mem_range.mp hg⟩
theorem items_nodup (t : Table) : (Vamvsb.items t).Nodup := by
  rw [items_eq]
  unfold List.Nodup
  rw [List.pairwise_map]
  refine List.Pairwise.imp ?_ List.nodup_range
  intro a b hab z
  exact hab (congrArg Item.g z)
theorem useful_sub {t : Table} {x : Item} (h : x ∈ Vamvsf.useful t) : x ∈ Vamvsb.items t := (List.mem_filter.mp h).1
theorem useful_nodup (t : Table) : (Vamvsf.useful t).Nodup := List.Nodup.sublist List.filter_sublist (items_nodup t)
structure Fits (t : Table) : Prop where
  n4 : t.cols.length ≤ 4
  q8 : t.asks.length ≤ 8
  lt : ∀ a ∈ t.asks, a.g < 2 ^ t.cols.length
theorem Right.fits {t : Table} (h : Right t) : Fits t := ⟨h.cols.2, h.asks, fun a ha => (h.in_ a ha).1⟩
theorem Fits.can {t : Table} (F : Fits t) {v : Nat} (hv : v < 2 ^ t.cols.length) {a : Ask} (ha : a ∈ t.asks) : Vamvsa.canFrom (Vamvsa.width t) v a.g = has v a.g :=
  canFrom_has _ F.n4 v hv _ (F.lt a ha)
def stateOf (t : Table) (ks : List Item) : State := ks.foldl Vamvsb.add (Vamvsb.firstState t)
theorem state_gen (t : Table) (F : Fits t) : ∀ (ks : List Item) (s : State) (φ : Ask → Nat), (∀ x ∈ ks, x ∈ Vamvsb.items t) → s.reads = t.asks.map φ →
    (ks.foldl Vamvsb.add s).kept = s.kept ++ ks.map (·.g) ∧ (ks.foldl Vamvsb.add s).reads = t.asks.map fun a => (ks.map (·.g)).foldl (fun m v => if has v a.g = true then Nat.min m (Vamvsa.sizeOf_ t v) else m) (φ a)
  | [], s, φ, _, h => ⟨by simp, h⟩
  | x :: ks, s, φ, hk, h => by
    have hx := hk x (List.mem_cons_self ..)
    obtain ⟨ex, hlt⟩ := item_of hx
    have h2 : (Vamvsb.add s x).reads = t.asks.map fun a => if has x.g a.g = true then Nat.min (φ a) (Vamvsa.sizeOf_ t x.g) else φ a := by
      show (s.reads.zip x.can).map _ = _
      rw [h, ex]
      show ((t.asks.map φ).zip (t.asks.map fun a => Vamvsa.canFrom (Vamvsa.width t) x.g a.g)).map (fun y => if y.2 = true then Nat.min y.1 (itemOf t x.g).size else y.1) = _
      rw [List.zip_map', List.map_map]
      apply List.map_congr_left
      intro a ha
      show (if Vamvsa.canFrom (Vamvsa.width t) x.g a.g = true then Nat.min (φ a) (Vamvsa.sizeOf_ t x.g) else φ a) = _
      rw [F.can hlt ha]
      rfl
    obtain ⟨h3, h4⟩ := state_gen t F ks (Vamvsb.add s x) _ (fun y hy => hk y (List.mem_cons_of_mem _ hy)) h2
    refine ⟨?_, ?_⟩
    · rw [List.foldl_cons, h3]
      show (s.kept ++ [x.g]) ++ _ = _
      rw [List.append_assoc]
      rfl
    · rw [List.foldl_cons, h4]
      rfl
theorem stateOf_eq (t : Table) (F : Fits t) {ks : List Item} (hk : ∀ x ∈ ks, x ∈ Vamvsb.items t) :
    (stateOf t ks).kept = ks.map (·.g) ∧ (stateOf t ks).reads = t.asks.map fun a => rd t.rows.length (Vamvsa.sizeOf_ t) (ks.map (·.g)) a.g := by
  obtain ⟨h1, h2⟩ := state_gen t F ks (Vamvsb.firstState t) (fun _ => t.rows.length) hk rfl
  exact ⟨by rw [stateOf, h1]; rfl, h2⟩
/-! ### a group's questions -/
def maskOf : List Nat → Nat → Nat
  | [], _ => 0
  | w :: r, g => (if Vamvsf.inGroup g w = true then 1 else 0) + 2 * maskOf r g
theorem sel_mask : ∀ (Q : List Ask) (who : List Nat) (g : Nat), who.length = Q.length → sel (maskOf who g) Q = ((Q.zip who).filter fun p => Vamvsf.inGroup g p.2).map (·.1)
  | [], who, g, h => by
    cases who with
    | nil => rfl
    | cons w r => cases h
  | a :: Q, [], g, h => by cases h
  | a :: Q, w :: who, g, h => by
    have ih := sel_mask Q who g (by simpa using h)
    rw [sel, maskOf, List.zip_cons_cons]
    by_cases hg : Vamvsf.inGroup g w = true
    · simp only [hg, if_true, List.filter_cons, List.map_cons]
      rw [if_pos (by omega), show (1 + 2 * maskOf who g) / 2 = maskOf who g by omega, ih]
    · simp only [hg, if_false, List.filter_cons, Bool.false_eq_true]
      rw [if_neg (by omega), show (0 + 2 * maskOf who g) / 2 = maskOf who g by omega, ih]
theorem mask_lt : ∀ (who : List Nat) (g : Nat), maskOf who g < 2 ^ who.length
  | [], _ => by simp [maskOf]
  | w :: r, g => by
    have := mask_lt r g
    rw [maskOf, List.length_cons, Nat.pow_succ]
    split <;> omega
/-! ### what the groups' questions cost in a state -/
def perReader (φ : Ask → Nat) (l : List (Ask × Nat)) (r : Nat) : Nat := (l.map fun p => if p.2 = r then p.1.k * φ p.1 else 0).sum
theorem addAt_fold (φ : Ask → Nat) : ∀ (l : List (Ask × Nat)) (c0 c1 c2 c3 : Nat), (∀ p ∈ l, p.2 < 4) →
    l.foldl (fun acc p => Vamvsf.addAt acc p.2 (p.1.k * φ p.1)) [c0, c1, c2, c3] = [c0 + perReader φ l 0, c1 + perReader φ l 1, c2 + perReader φ l 2, c3 + perReader φ l 3]
  | [], c0, c1, c2, c3, _ => by simp [perReader]
  | p :: l, c0, c1, c2, c3, h => by
    have h4 := h p (List.mem_cons_self ..)
    have hl : ∀ q ∈ l, q.2 < 4 := fun q hq => h q (List.mem_cons_of_mem _ hq)
    have e : ∀ r, perReader φ (p :: l) r = (if p.2 = r then p.1.k * φ p.1 else 0) + perReader φ l r := fun r => by
      simp only [perReader, List.map_cons, List.sum_cons]
    rw [List.foldl_cons, e, e, e, e]
    obtain ⟨a, w⟩ := p
    simp only at h4 ⊢
    have hw : w = 0 ∨ w = 1 ∨ w = 2 ∨ w = 3 := by omega
    rcases hw with hw | hw | hw | hw <;> subst hw <;> simp only [Vamvsf.addAt] <;> rw [addAt_fold φ l _ _ _ _ hl] <;> simp [Nat.add_assoc]
theorem zip_swap (φ : Ask → Nat) : ∀ (Q : List Ask) (who : List Nat) (acc : List Nat), (((Q.map φ).zip Q).zip who).foldl (fun l x => Vamvsf.addAt l x.2 (x.1.2.k * x.1.1)) acc = (Q.zip who).foldl (fun l p => Vamvsf.addAt l p.2 (p.1.k * φ p.1)) acc
  | [], _, _ => by simp
  | _ :: _, [], _ => by simp
  | a :: Q, w :: who, acc => by
    simp only [List.map_cons, List.zip_cons_cons, List.foldl_cons]
    exact zip_swap φ Q who _
def bitV (g r c : Nat) : Nat := if Vamvsf.inGroup g r = true then c else 0
theorem sums_at (up c0 c1 c2 c3 : Nat) : (Vamvsf.sums up [c0, c1, c2, c3]).length = 16 ∧ ∀ g < 16, (Vamvsf.sums up [c0, c1, c2, c3]).getD g 0 = up + bitV g 0 c0 + bitV g 1 c1 + bitV g 2 c2 + bitV g 3 c3 := by
  refine ⟨rfl, fun g hg => ?_⟩
  have key : g = 0 ∨ g = 1 ∨ g = 2 ∨ g = 3 ∨ g = 4 ∨ g = 5 ∨ g = 6 ∨ g = 7 ∨ g = 8 ∨ g = 9 ∨ g = 10 ∨ g = 11 ∨ g = 12 ∨ g = 13 ∨ g = 14 ∨ g = 15 := by omega
  rcases key with h | h | h | h | h | h | h | h | h | h | h | h | h | h | h | h <;> subst h <;> simp [Vamvsf.sums, bitV, Vamvsf.inGroup]
theorem group_sum (φ : Ask → Nat) (g : Nat) : ∀ (l : List (Ask × Nat)), (∀ p ∈ l, p.2 < 4) →
    bitV g 0 (perReader φ l 0) + bitV g 1 (perReader φ l 1) + bitV g 2 (perReader φ l 2) + bitV g 3 (perReader φ l 3) = (((l.filter fun p => Vamvsf.inGroup g p.2).map (·.1)).map fun a => a.k * φ a).sum
  | [], _ => by simp [perReader, bitV]
  | (a, w) :: l, h => by
    have h4 := h (a, w) (List.mem_cons_self ..)
    have ih := group_sum φ g l fun q hq => h q (List.mem_cons_of_mem _ hq)
    have e : ∀ r, perReader φ ((a, w) :: l) r = (if w = r then a.k * φ a else 0) + perReader φ l r := fun r => by
      simp only [perReader, List.map_cons, List.sum_cons]
    have hb : ∀ r x y, bitV g r (x + y) = bitV g r x + bitV g r y := fun r x y => by
      unfold bitV; split <;> rfl
    rw [e, e, e, e, hb, hb, hb, hb]
    simp only at h4
    have hw : w = 0 ∨ w = 1 ∨ w = 2 ∨ w = 3 := by omega
    have z : ∀ r, bitV g r 0 = 0 := fun r => by unfold bitV; split <;> rfl
    by_cases hg : Vamvsf.inGroup g w = true
    · simp only [List.filter_cons, hg, if_true, List.map_cons, List.sum_cons, ← ih]
      have q : ∀ x, bitV g w x = x := fun x => if_pos hg
      rcases hw with hw | hw | hw | hw <;> subst hw <;> simp [z, q] <;> omega
    · simp only [List.filter_cons, hg, if_false, Bool.false_eq_true, ← ih]
      have q : ∀ x, bitV g w x = 0 := fun x => if_neg hg
      rcases hw with hw | hw | hw | hw <;> subst hw <;> simp [z, q]
theorem zip_mem_right {α β : Type} {P : β → Prop} {l : List α} {m : List β} (h : ∀ x ∈ m, P x) : ∀ p ∈ l.zip m, P p.2 := fun p hp => h _ (List.of_mem_zip hp).2
theorem leaf_eq (t : Table) (F : Fits t) {who : List Nat} (hl : who.length = t.asks.length) (hw : ∀ w ∈ who, w < 4) (c : Nat) {ks : List Item} (hk : ∀ x ∈ ks, x ∈ Vamvsb.items t) :
    (Vamvsf.leafCosts t who c (stateOf t ks)).length = 16 ∧ ∀ g < 16, (Vamvsf.leafCosts t who c (stateOf t ks)).getD g 0 = costK t.rows.length (Vamvsa.sizeOf_ t) (2 * c) (sel (maskOf who g) t.asks) (ks.map (·.g)) := by
  obtain ⟨h1, h2⟩ := stateOf_eq t F hk
  unfold Vamvsf.leafCosts Vamvsf.readerCosts
  rw [h1, h2, zip_swap]
  show (Vamvsf.sums _ ((t.asks.zip who).foldl _ [0, 0, 0, 0])).length = 16 ∧ _
  have h4 : ∀ p ∈ t.asks.zip who, p.2 < 4 := zip_mem_right hw
  have e : (t.asks.zip who).foldl (fun l p => Vamvsf.addAt l p.2 (p.1.k * rd t.rows.length (Vamvsa.sizeOf_ t) (ks.map (·.g)) p.1.g)) [0, 0, 0, 0] = _ := addAt_fold (fun a => rd t.rows.length (Vamvsa.sizeOf_ t) (ks.map (·.g)) a.g) (t.asks.zip who) 0 0 0 0 h4
  constructor
  · rw [e]
    exact (sums_at _ _ _ _ _).1
  · intro g hg
    show (Vamvsf.sums _ ((t.asks.zip who).foldl _ [0, 0, 0, 0])).getD g 0 = _
    rw [e, (sums_at _ _ _ _ _).2 g hg]
    unfold costK
    rw [sel_mask t.asks who g hl, ← group_sum (fun a => rd t.rows.length (Vamvsa.sizeOf_ t) (ks.map (·.g)) a.g) g (t.asks.zip who) h4]
    unfold Vamvsf.upkeep Vamvsb.PER
    simp only [Nat.zero_add]
    omega
/-! ### the walk over all sets -/
theorem walk_min {leaf : State → List Nat} : ∀ (is : List Item) (s : State) (a : List Nat), a.length = 16 → (∀ ks : List Item, ks.Sublist is → (leaf (ks.foldl Vamvsb.add s)).length = 16) →
    let r := Vamvsb.walk (fun (a : List Nat) s => List.zipWith Nat.min a (leaf s)) is s a
    r.length = 16 ∧ ∀ g < 16, r.getD g 0 ≤ a.getD g 0 ∧ (∀ ks : List Item, ks.Sublist is → r.getD g 0 ≤ (leaf (ks.foldl Vamvsb.add s)).getD g 0) ∧
      (r.getD g 0 = a.getD g 0 ∨ ∃ ks : List Item, ks.Sublist is ∧ r.getD g 0 = (leaf (ks.foldl Vamvsb.add s)).getD g 0)
  | [], s, a, ha, hleaf => by
    have hl := hleaf [] (List.Sublist.refl _)
    simp only [List.foldl_nil] at hl
    show (List.zipWith Nat.min a (leaf s)).length = 16 ∧ _
    refine ⟨by rw [List.length_zipWith, ha, hl]; rfl, fun g hg => ?_⟩
    have e : (List.zipWith Nat.min a (leaf s)).getD g 0 = Nat.min (a.getD g 0) ((leaf s).getD g 0) := by
      simp only [List.getD_eq_getElem?_getD, List.getElem?_zipWith]
      rw [List.getElem?_eq_getElem (by omega), List.getElem?_eq_getElem (by omega)]
      rfl
    show (List.zipWith Nat.min a (leaf s)).getD g 0 ≤ _ ∧ (∀ ks : List Item, ks.Sublist [] → (List.zipWith Nat.min a (leaf s)).getD g 0 ≤ _) ∧ ((List.zipWith Nat.min a (leaf s)).getD g 0 = _ ∨ ∃ ks : List Item, ks.Sublist [] ∧ (List.zipWith Nat.min a (leaf s)).getD g 0 = _)
    rw [e]
    refine ⟨Nat.min_le_left _ _, fun ks hks => ?_, ?_⟩
    · rw [List.sublist_nil.mp hks]
      exact Nat.min_le_right _ _
    · rcases Nat.le_total (a.getD g 0) ((leaf s).getD g 0) with q | q
      · exact .inl (Nat.min_eq_left q)
      · exact .inr ⟨[], List.Sublist.refl _, Nat.min_eq_right q⟩
  | x :: is, s, a, ha, hleaf => by
    have h1 := walk_min is s a ha fun ks hks => hleaf ks (List.Sublist.cons x hks)
    have h2 := walk_min is (Vamvsb.add s x) _ h1.1 fun ks hks => hleaf (x :: ks) (List.Sublist.cons_cons x hks)
    refine ⟨h2.1, fun g hg => ?_⟩
    obtain ⟨a1, a2, a3⟩ := h1.2 g hg
    obtain ⟨b1, b2, b3⟩ := h2.2 g hg
    refine ⟨Nat.le_trans b1 a1, fun ks hks => ?_, ?_⟩
    · cases hks with
      | cons _ h => exact Nat.le_trans b1 (a2 ks h)
      | cons_cons _ h => exact b2 _ h
    · rcases b3 with q | ⟨ks, hks, q⟩
      · rcases a3 with p | ⟨ks, hks, p⟩
        · exact .inl (q.trans p)
        · exact .inr ⟨ks, List.Sublist.cons x hks, q.trans p⟩
      · exact .inr ⟨x :: ks, List.Sublist.cons_cons x hks, q⟩
/-! ### groupings that can't help -/
def trues (l : List Bool) : Nat := (l.map fun b => if b = true then 1 else 0).sum
theorem trues_le : ∀ l : List Bool, trues l ≤ l.length
  | [] => Nat.le_refl 0
  | b :: l => by
    have := trues_le l
    simp only [trues, List.map_cons, List.sum_cons, List.length_cons] at this ⊢
    split <;> omega
theorem trues_lt : ∀ (l m : List Bool), l.length = m.length → (l.zip m).all (fun z => !z.1 || z.2) = true → trues l ≤ trues m ∧ (l ≠ m → trues l < trues m)
  | [], [], _, _ => ⟨Nat.le_refl _, fun h => absurd rfl h⟩
  | [], _ :: _, h, _ => by cases h
  | _ :: _, [], h, _ => by cases h
  | a :: l, b :: m, h, hz => by
    simp only [List.zip_cons_cons, List.all_cons, Bool.and_eq_true] at hz
    obtain ⟨h1, h2⟩ := trues_lt l m (by simpa using h) hz.2
    have h0 := hz.1
    simp only [trues, List.map_cons, List.sum_cons] at h1 h2 ⊢
    cases a <;> cases b
    · simp only [Bool.false_eq_true, if_false, List.cons.injEq, true_and, ne_eq]
      exact ⟨by omega, fun q => by have := h2 q; omega⟩
    · simp only [Bool.false_eq_true, if_false, if_true]
      exact ⟨by omega, fun _ => by omega⟩
    · simp at h0
    · simp only [if_true, List.cons.injEq, true_and, ne_eq]
      exact ⟨by omega, fun q => by have := h2 q; omega⟩
/-- an item's way down to one that can help, or to none -/
theorem rep_of (t : Table) (F : Fits t) : ∀ (n : Nat) (x : Item), x ∈ Vamvsb.items t → x.size * 144 + (8 - trues x.can) * 16 + x.g ≤ n →
    (∀ a ∈ t.asks, has x.g a.g = true → t.rows.length ≤ Vamvsa.sizeOf_ t x.g) ∨ ∃ y ∈ Vamvsf.useful t, Vamvsa.sizeOf_ t y.g ≤ Vamvsa.sizeOf_ t x.g ∧ ∀ a ∈ t.asks, has x.g a.g = true → has y.g a.g = true := by
  intro n
  induction n with
  | zero =>
    intro x hx hn
    have hxi := item_of hx
    by_cases hu : Vamvsf.useless t.rows.length (Vamvsb.items t) x = true
    · -- size 0: no rows
      left
      intro a ha hh
      have hs : Vamvsa.sizeOf_ t x.g = 0 := by
        have : x.size = Vamvsa.sizeOf_ t x.g := by rw [hxi.1]; rfl
        omega
      -- no lines, so no rows
      unfold Vamvsf.useless at hu
      simp only [Bool.or_eq_true, decide_eq_true_eq] at hu
      rcases hu with h | h | h
      · have : x.size = Vamvsa.sizeOf_ t x.g := by rw [hxi.1]; rfl
        omega
      · exfalso
        have hc : x.can.any (fun b => b) = true := by
          rw [hxi.1]
          show (t.asks.map fun a => Vamvsa.canFrom (Vamvsa.width t) x.g a.g).any _ = true
          rw [List.any_map]
          refine List.any_eq_true.mpr ⟨a, ha, ?_⟩
          show Vamvsa.canFrom (Vamvsa.width t) x.g a.g = true
          rw [F.can hxi.2 ha]; exact hh
        rw [hc] at h
        cases h
      · obtain ⟨y, hy, hyx⟩ := List.any_eq_true.mp h
        simp only [Bool.and_eq_true, decide_eq_true_eq, Bool.or_eq_true, bne_iff_ne, ne_eq] at hyx
        obtain ⟨hsz, hcan, hstr⟩ := hyx
        obtain ⟨ey, hyl⟩ := item_of hy
        have hlen : x.can.length = y.can.length := by rw [hxi.1, ey]; simp [itemOf]
        obtain ⟨q1, q2⟩ := trues_lt _ _ hlen hcan
        have hb := trues_le y.can
        have hb2 : y.can.length ≤ 8 := by rw [ey]; simp only [itemOf, List.length_map]; exact F.q8
        have gx : ∀ a b : Grouping, a < b → @LT.lt Nat instLTNat a b := fun _ _ h => h
        rcases hstr with h1 | h1 | h1
        · omega
        · have := q2 h1; omega
        · have := gx _ _ h1; omega
    · right
      exact ⟨x, List.mem_filter.mpr ⟨hx, by simp [hu]⟩, Nat.le_refl _, fun a _ h => h⟩
  | succ n ih =>
    intro x hx hn
    have hxi := item_of hx
    by_cases hu : Vamvsf.useless t.rows.length (Vamvsb.items t) x = true
    · have hxs : x.size = Vamvsa.sizeOf_ t x.g := by rw [hxi.1]; rfl
      unfold Vamvsf.useless at hu
      simp only [Bool.or_eq_true, decide_eq_true_eq] at hu
      rcases hu with h | h | h
      · left
        intro a _ _
        omega
      · left
        intro a ha hh
        exfalso
        have hc : x.can.any (fun b => b) = true := by
          rw [hxi.1]
          show (t.asks.map fun a => Vamvsa.canFrom (Vamvsa.width t) x.g a.g).any _ = true
          rw [List.any_map]
          refine List.any_eq_true.mpr ⟨a, ha, ?_⟩
          show Vamvsa.canFrom (Vamvsa.width t) x.g a.g = true
          rw [F.can hxi.2 ha]; exact hh
        rw [hc] at h
        cases h
      · obtain ⟨y, hy, hyx⟩ := List.any_eq_true.mp h
        simp only [Bool.and_eq_true, decide_eq_true_eq, Bool.or_eq_true, bne_iff_ne, ne_eq] at hyx
        obtain ⟨hsz, hcan, hstr⟩ := hyx
        obtain ⟨ey, hyl⟩ := item_of hy
        have hys : y.size = Vamvsa.sizeOf_ t y.g := by rw [ey]; rfl
        have hlen : x.can.length = y.can.length := by rw [hxi.1, ey]; simp [itemOf]
        obtain ⟨q1, q2⟩ := trues_lt _ _ hlen hcan
        have hb := trues_le y.can
        have hb2 : y.can.length ≤ 8 := by rw [ey]; simp only [itemOf, List.length_map]; exact F.q8
        have p4 : 2 ^ t.cols.length ≤ 16 := by
          have : 2 ^ t.cols.length ≤ 2 ^ 4 := Nat.pow_le_pow_right (by decide) F.n4
          exact this
        have hmeas : y.size * 144 + (8 - trues y.can) * 16 + y.g ≤ n := by
          have gx : ∀ a b : Grouping, a < b → @LT.lt Nat instLTNat a b := fun _ _ h => h
          have hyl' := gx _ _ hyl
          rcases hstr with h1 | h1 | h1
          · omega
          · have := q2 h1; omega
          · have h1' := gx _ _ h1
            by_cases e : x.can = y.can
            · have e2 : trues x.can = trues y.can := by rw [e]
              omega
            · have := q2 e; omega
        have hcov : ∀ a ∈ t.asks, has x.g a.g = true → has y.g a.g = true := by
          intro a ha hh
          rw [hxi.1, ey] at hcan
          simp only [itemOf, List.zip_map', List.all_map] at hcan
          have := List.all_eq_true.mp hcan a ha
          simp only [Function.comp] at this
          rw [F.can hxi.2 ha, F.can hyl ha, hh] at this
          simpa using this
        rcases ih y hy hmeas with q | ⟨z, hz, z1, z2⟩
        · left
          intro a ha hh
          have := q a ha (hcov a ha hh)
          omega
        · right
          exact ⟨z, hz, by omega, fun a ha hh => z2 a ha (hcov a ha hh)⟩
    · right
      exact ⟨x, List.mem_filter.mpr ⟨hx, by simp [hu]⟩, Nat.le_refl _, fun a _ h => h⟩
theorem filterMap_le {α β : Type} (f : α → Option β) : ∀ l : List α, (l.filterMap f).length ≤ l.length
  | [] => Nat.le_refl 0
  | a :: l => by
    have := filterMap_le f l
    rw [List.filterMap_cons]
    split
    · simp only [List.length_cons]; omega
    · simp only [List.length_cons]; omega
/-- some set of groupings that can help costs no more -/
theorem useful_cover (t : Table) (F : Fits t) (U : Nat) (Q : List Ask) (hQ : ∀ a ∈ Q, a ∈ t.asks) {K : List Nat} (hK : ∀ v ∈ K, v < 2 ^ t.cols.length) :
    ∃ ks : List Item, ks.Sublist (Vamvsf.useful t) ∧ costK t.rows.length (Vamvsa.sizeOf_ t) U Q (ks.map (·.g)) ≤ costK t.rows.length (Vamvsa.sizeOf_ t) U Q K := by
  have hrep : ∃ rep : Nat → Option Item, ∀ v < 2 ^ t.cols.length, (rep v = none → ∀ a ∈ t.asks, has v a.g = true → t.rows.length ≤ Vamvsa.sizeOf_ t v) ∧
      (∀ y, rep v = some y → y ∈ Vamvsf.useful t ∧ Vamvsa.sizeOf_ t y.g ≤ Vamvsa.sizeOf_ t v ∧ ∀ a ∈ t.asks, has v a.g = true → has y.g a.g = true) := by
    refine ⟨fun v => open Classical in if h : ∃ y ∈ Vamvsf.useful t, Vamvsa.sizeOf_ t y.g ≤ Vamvsa.sizeOf_ t v ∧ ∀ a ∈ t.asks, has v a.g = true → has y.g a.g = true then some (Classical.choose h) else none, fun v hv => ⟨fun h => ?_, fun y h => ?_⟩⟩
    · have hi : itemOf t v ∈ Vamvsb.items t := by rw [items_eq]; exact List.mem_map.mpr ⟨v, List.mem_range.mpr hv, rfl⟩
      rcases rep_of t F _ (itemOf t v) hi (Nat.le_refl _) with q | q
      · exact q
      · exfalso
        have q' : ∃ y ∈ Vamvsf.useful t, Vamvsa.sizeOf_ t y.g ≤ Vamvsa.sizeOf_ t v ∧ ∀ a ∈ t.asks, has v a.g = true → has y.g a.g = true := q
        simp only at h
        rw [dif_pos q'] at h
        cases h
    · simp only at h
      split at h
      · rename_i q
        cases h
        obtain ⟨h1, h2⟩ := Classical.choose_spec q
        exact ⟨h1, h2⟩
      · cases h
  obtain ⟨rep, hrep⟩ := hrep
  refine ⟨(Vamvsf.useful t).filter fun y => decide (y ∈ K.filterMap rep), List.filter_sublist, ?_⟩
  unfold costK
  have hlen : (((Vamvsf.useful t).filter fun y => decide (y ∈ K.filterMap rep)).map (·.g)).length ≤ K.length := by
    rw [List.length_map]
    refine Nat.le_trans (nodup_le _ (K.filterMap rep) (List.Nodup.sublist List.filter_sublist (useful_nodup t)) fun y hy => ?_) (filterMap_le rep K)
    exact of_decide_eq_true (List.mem_filter.mp hy).2
  refine Nat.add_le_add (Nat.mul_le_mul_left _ hlen) (sum_le fun a ha => Nat.mul_le_mul_left _ (rd_le _ _ fun v hv hh => ?_))
  obtain ⟨r1, r2⟩ := hrep v (hK v hv)
  cases e : rep v with
  | none => exact Nat.le_trans (rd_rows _ _ _ _) (r1 e a (hQ a ha) hh)
  | some y =>
    obtain ⟨y1, y2, y3⟩ := r2 y e
    refine Nat.le_trans (rd_mem _ _ (v := y.g) ?_ (y3 a (hQ a ha) hh)) y2
    refine List.mem_map.mpr ⟨y, List.mem_filter.mpr ⟨y1, ?_⟩, rfl⟩
    rw [decide_eq_true_eq]
    exact List.mem_filterMap.mpr ⟨v, hv, e⟩
/-- the specification's groups, at their least -/
theorem group_min (t : Table) (F : Fits t) {who : List Nat} (hl : who.length = t.asks.length) (hw : ∀ w ∈ who, w < 4) (c : Nat) :
    (Vamvsf.groupCosts t who c).length = 16 ∧ ∀ g < 16, IsMin t.rows.length (Vamvsa.sizeOf_ t) (2 * c) (2 ^ t.cols.length) (sel (maskOf who g) t.asks) ((Vamvsf.groupCosts t who c).getD g 0) := by
  have hsub : ∀ {ks : List Item}, ks.Sublist (Vamvsf.useful t) → ∀ x ∈ ks, x ∈ Vamvsb.items t := fun h x hx => useful_sub (h.subset hx)
  have h0 := leaf_eq t F hl hw c (ks := []) (by simp)
  have hW := walk_min (leaf := Vamvsf.leafCosts t who c) (Vamvsf.useful t) (Vamvsb.firstState t) (Vamvsf.leafCosts t who c (Vamvsb.firstState t)) h0.1
    fun ks hks => (leaf_eq t F hl hw c (hsub hks)).1
  refine ⟨hW.1, fun g hg => ?_⟩
  obtain ⟨w1, w2, w3⟩ := hW.2 g hg
  constructor
  · intro K hK
    obtain ⟨ks, hks, hc⟩ := useful_cover t F (2 * c) (sel (maskOf who g) t.asks) (sel_sub _ _) hK
    refine Nat.le_trans (w2 ks hks) ?_
    have := (leaf_eq t F hl hw c (hsub hks)).2 g hg
    unfold stateOf at this
    rw [this]
    exact hc
  · rcases w3 with q | ⟨ks, hks, q⟩
    · refine ⟨[], by simp, ?_⟩
      have := h0.2 g hg
      unfold stateOf at this
      simp only [List.foldl_nil, List.map_nil] at this
      rw [← this]
      exact Nat.le_of_eq q.symm
    · refine ⟨ks.map (·.g), fun v hv => ?_, ?_⟩
      · obtain ⟨x, hx, e⟩ := List.mem_map.mp hv
        rw [← e]
        exact (item_of (hsub hks x hx)).2
      · have := (leaf_eq t F hl hw c (hsub hks)).2 g hg
        unfold stateOf at this
        rw [← this]
        exact Nat.le_of_eq q.symm
/-! ### the program's -/
def partCosts (t : Table) (c : Nat) : List Nat := (List.range (2 ^ t.asks.length)).map fun m => partCost t.rows.length (Vamvsa.sizeOf_ t) (2 * c) (sel m t.asks)
def aloneM (t : Table) (who : List Nat) (c : Nat) : List Nat := (List.range 16).map fun g => (leastCosts (partCosts t c)).getD (maskOf who g) 0
theorem getD_range_map (f : Nat → Nat) {n m : Nat} (h : m < n) : ((List.range n).map f).getD m 0 = f m := by
  rw [List.getD_eq_getElem?_getD, List.getElem?_map, List.getElem?_range h]
  rfl
theorem alone_min (t : Table) (F : Fits t) {who : List Nat} (hl : who.length = t.asks.length) (c : Nat) :
    ∀ g, IsMin t.rows.length (Vamvsa.sizeOf_ t) (2 * c) (2 ^ t.cols.length) (sel (maskOf who g) t.asks) ((leastCosts (partCosts t c)).getD (maskOf who g) 0) := by
  intro g
  have hlen : (partCosts t c).length = 2 ^ t.asks.length := by simp [partCosts]
  have hm := mask_lt who g
  rw [hl] at hm
  have hp : 0 < 2 ^ t.asks.length := Nat.two_pow_pos _
  unfold leastCosts
  refine least_min t.rows.length (Vamvsa.sizeOf_ t) (2 * c) (size_has t) t.cols.length t.asks F.lt (partCosts t c) hlen (fun m h => getD_range_map _ h) _ (by omega) _ (by omega)
theorem alone_eq (t : Table) (F : Fits t) {who : List Nat} (hl : who.length = t.asks.length) (hw : ∀ w ∈ who, w < 4) (c : Nat) : Vamvsf.groupCosts t who c = aloneM t who c := by
  obtain ⟨h1, h2⟩ := group_min t F hl hw c
  apply List.ext_getElem?
  intro i
  by_cases hi : i < 16
  · have a := h2 i hi
    have b := alone_min t F hl c i
    have e := a.same _ _ _ b
    unfold aloneM
    rw [List.getElem?_map, List.getElem?_range hi, Option.map_some, ← e, List.getD_eq_getElem?_getD, List.getElem?_eq_getElem (by omega)]
    rfl
  · rw [List.getElem?_eq_none (by omega), List.getElem?_eq_none (by simp [aloneM]; omega)]
/-- more readers pay no less -/
theorem alone_mono (t : Table) (F : Fits t) {who : List Nat} (hl : who.length = t.asks.length) (c : Nat) {g g' : Nat} (hg : g' < 16) (hg0 : g < 16) (h : ∀ w, Vamvsf.inGroup g w = true → Vamvsf.inGroup g' w = true) : (aloneM t who c).getD g 0 ≤ (aloneM t who c).getD g' 0 := by
  have a := alone_min t F hl c g
  have b := alone_min t F hl c g'
  unfold aloneM
  rw [getD_range_map _ hg, getD_range_map _ hg0]
  obtain ⟨K, hK, hc⟩ := b.hi
  refine Nat.le_trans (a.lo K hK) (Nat.le_trans ?_ hc)
  unfold costK
  refine Nat.add_le_add_left ?_ _
  rw [sel_mask _ _ _ hl, sel_mask _ _ _ hl]
  generalize t.asks.zip who = l
  induction l with
  | nil => exact Nat.le_refl _
  | cons p l ih =>
    by_cases q : Vamvsf.inGroup g p.2 = true
    · simp only [List.filter_cons, q, h _ q, if_true, List.map_cons, List.sum_cons]
      omega
    · by_cases q' : Vamvsf.inGroup g' p.2 = true
      · simp only [List.filter_cons, q, q', if_true, if_false, List.map_cons, List.sum_cons, Bool.false_eq_true]
        omega
      · simp only [List.filter_cons, q, q', if_false, Bool.false_eq_true]
        exact ih
end SR
/-! Shares and unhappy groups. -/
namespace SR
open VamvsBase
open Vamvsa (Row Ask Table Grouping Group)
/-- what a reader adds in all orders together -/
def added (cs : List Nat) (r : Nat) : Int := (((List.range 16).filter fun s => !Vamvsf.inGroup s r).map fun s => ((Vamvsf.weight (Vamvsf.members s) : Nat) : Int) * (((cs.getD (s + 2 ^ r) 0 : Nat) : Int) - ((cs.getD s 0 : Nat) : Int))).sum
theorem share_eq (cs : List Nat) (r : Nat) : Vamvsf.share cs r = frac (added cs r) 24 := rfl
theorem shares_eq (cs : List Nat) : Vamvsf.shares cs = [frac (added cs 0) 24, frac (added cs 1) 24, frac (added cs 2) 24, frac (added cs 3) 24] := rfl
theorem sum_nonneg : ∀ {l : List Int}, (∀ x ∈ l, 0 ≤ x) → 0 ≤ l.sum
  | [], _ => by simp
  | a :: l, h => by
    rw [List.sum_cons]
    have h1 := h a (List.mem_cons_self ..)
    have h2 := sum_nonneg fun x hx => h x (List.mem_cons_of_mem _ hx)
    omega
theorem in_more : ∀ r < 4, ∀ s < 16, Vamvsf.inGroup s r = false → s + 2 ^ r < 16 ∧ ∀ w < 4, Vamvsf.inGroup s w = true → Vamvsf.inGroup (s + 2 ^ r) w = true := by decide
theorem inGroup_lt {s w : Nat} (hs : s < 16) (h : Vamvsf.inGroup s w = true) : w < 4 := by
  unfold Vamvsf.inGroup at h
  by_cases q : w < 4
  · exact q
  · exfalso
    have : s < 2 ^ w := Nat.lt_of_lt_of_le hs (show 2 ^ 4 ≤ 2 ^ w from Nat.pow_le_pow_right (by decide : 2 > 0) (by omega : 4 ≤ w))
    rw [Nat.div_eq_of_lt this] at h
    simp at h
theorem added_nonneg (t : Table) (F : Fits t) {who : List Nat} (hl : who.length = t.asks.length) (c : Nat) {r : Nat} (hr : r < 4) : 0 ≤ added (aloneM t who c) r := by
  unfold added
  refine sum_nonneg fun x hx => ?_
  obtain ⟨s, hs, e⟩ := List.mem_map.mp hx
  obtain ⟨h1, h2⟩ := List.mem_filter.mp hs
  have hs16 : s < 16 := List.mem_range.mp h1
  have hin : Vamvsf.inGroup s r = false := by simpa using h2
  obtain ⟨q1, q2⟩ := in_more r hr s hs16 hin
  have := alone_mono t F hl c q1 hs16 fun w hw => q2 w (inGroup_lt hs16 hw) hw
  rw [← e]
  refine Int.mul_nonneg (Int.natCast_nonneg _) ?_
  omega
/-! ### lowest terms -/
/-- the program's way to the greatest common divisor; the first number sees to an end -/
def gcdLoop : Nat → Nat → Nat → Nat
  | 0, c, _ => c
  | n + 1, c, r => if 0 < r then gcdLoop n r (c % r) else c
theorem gcdLoop_eq : ∀ (n c r : Nat), r < n → gcdLoop n c r = Nat.gcd r c
  | 0, _, _, h => absurd h (Nat.not_lt_zero _)
  | n + 1, c, r, h => by
    rw [gcdLoop]
    by_cases h0 : 0 < r
    · rw [if_pos h0, gcdLoop_eq n r (c % r) (by have := Nat.mod_lt c h0; omega)]
      exact (Nat.gcd_rec r c).symm
    · have : r = 0 := by omega
      subst this
      rw [if_neg h0, Nat.gcd_zero_left]
theorem frac_nat (a b : Nat) (hb : 0 < b) : frac (a : Int) b = ⟨((a / Nat.gcd a b : Nat) : Int), b / Nat.gcd a b⟩ := by
  unfold frac
  have hg : Nat.gcd a b ≠ 0 := fun z => by
    have := Nat.eq_zero_of_gcd_eq_zero_right z
    omega
  simp only [Int.natAbs_natCast, hg, if_false]
  rfl
/-! ### fractions by their worth -/
def worth (f : Frac) (A : Int) : Prop := f.num * 24 = A * (f.den : Int) ∧ 0 < f.den
theorem frac_val (a : Int) (b : Nat) (hb : 0 < b) : (frac a b).num * (b : Int) = a * ((frac a b).den : Int) ∧ 0 < (frac a b).den := by
  unfold frac
  have hg : Nat.gcd a.natAbs b ≠ 0 := fun z => by
    have := Nat.eq_zero_of_gcd_eq_zero_right z
    omega
  simp only [hg, if_false]
  have hgp : 0 < Nat.gcd a.natAbs b := Nat.pos_of_ne_zero hg
  have d1 : ((Nat.gcd a.natAbs b : Nat) : Int) ∣ a := Int.ofNat_dvd_left.mpr (Nat.gcd_dvd_left _ _)
  obtain ⟨k, hk⟩ := d1
  obtain ⟨m, hm⟩ := Nat.gcd_dvd_right a.natAbs b
  have e1 : a / ((Nat.gcd a.natAbs b : Nat) : Int) = k := by
    have hne : ((Nat.gcd a.natAbs b : Nat) : Int) ≠ 0 := by omega
    have e := Int.mul_ediv_cancel_left k hne
    rw [← hk] at e
    exact e
  have e2 : b / Nat.gcd a.natAbs b = m := by
    have e := Nat.mul_div_cancel_left m hgp
    rw [← hm] at e
    exact e
  constructor
  · rw [e1, e2]
    generalize Nat.gcd a.natAbs b = g at *
    rw [hm, hk, Int.natCast_mul]
    grind
  · rw [e2]
    rcases Nat.eq_zero_or_pos m with z | z
    · rw [z, Nat.mul_zero] at hm
      omega
    · exact z
theorem worth_frac (a : Int) : worth (frac a 24) a := frac_val a 24 (by decide)
theorem worth_zero : worth (whole 0) 0 := ⟨rfl, by decide⟩
theorem worth_plus {f g : Frac} {A B : Int} (h1 : worth f A) (h2 : worth g B) : worth (plus f g) (A + B) := by
  obtain ⟨a1, a2⟩ := h1
  obtain ⟨b1, b2⟩ := h2
  obtain ⟨v1, v2⟩ := frac_val (f.num * (g.den : Int) + g.num * (f.den : Int)) (f.den * g.den) (Nat.mul_pos a2 b2)
  refine ⟨?_, v2⟩
  unfold plus
  generalize frac (f.num * (g.den : Int) + g.num * (f.den : Int)) (f.den * g.den) = q at *
  rw [Int.natCast_mul] at v1
  have hpos : ((f.den : Int) * (g.den : Int)) ≠ 0 := Int.mul_ne_zero (by omega) (by omega)
  apply Int.eq_of_mul_eq_mul_right hpos
  have e1 : q.num * 24 * ((f.den : Int) * (g.den : Int)) = (q.num * ((f.den : Int) * (g.den : Int))) * 24 := by grind
  rw [e1, v1]
  grind
theorem less_worth {f : Frac} {A : Int} (h : worth f A) (c : Nat) : less (whole (c : Int)) f = decide (24 * (c : Int) < A) := by
  obtain ⟨h1, h2⟩ := h
  unfold less whole
  have hd : (0 : Int) < (f.den : Int) := by omega
  simp only [Int.natCast_one, Int.mul_one]
  congr 1
  apply propext
  constructor
  · intro q
    have q2 : (c : Int) * (f.den : Int) * 24 < f.num * 24 := Int.mul_lt_mul_of_pos_right q (by decide)
    rw [h1] at q2
    have e : (c : Int) * (f.den : Int) * 24 = (24 * (c : Int)) * (f.den : Int) := by grind
    rw [e] at q2
    exact Int.lt_of_mul_lt_mul_right q2 (Int.le_of_lt hd)
  · intro q
    have q2 : (24 * (c : Int)) * (f.den : Int) < A * (f.den : Int) := Int.mul_lt_mul_of_pos_right q hd
    rw [← h1] at q2
    have e : (24 * (c : Int)) * (f.den : Int) = (c : Int) * (f.den : Int) * 24 := by grind
    rw [e] at q2
    exact Int.lt_of_mul_lt_mul_right q2 (by decide)
/-- what a group's shares come to, times 24 -/
def groupAdded (cs : List Nat) (s : Nat) : Int := (((List.range 4).filter fun r => Vamvsf.inGroup s r).map fun r => added cs r).sum
theorem worth_if {b : Bool} {f : Frac} {A : Int} (h : worth f A) : worth (if b = true then f else whole 0) (if b = true then A else 0) := by
  split
  · exact h
  · exact worth_zero
theorem groupAdded_eq (cs : List Nat) (s : Nat) : groupAdded cs s = (if Vamvsf.inGroup s 0 = true then added cs 0 else 0) + (if Vamvsf.inGroup s 1 = true then added cs 1 else 0) + (if Vamvsf.inGroup s 2 = true then added cs 2 else 0) + (if Vamvsf.inGroup s 3 = true then added cs 3 else 0) := by
  unfold groupAdded
  have e : List.range 4 = [0, 1, 2, 3] := rfl
  rw [e]
  simp only [List.filter_cons, List.filter_nil]
  cases Vamvsf.inGroup s 0 <;> cases Vamvsf.inGroup s 1 <;> cases Vamvsf.inGroup s 2 <;> cases Vamvsf.inGroup s 3 <;> simp <;> omega
theorem group_worth (cs : List Nat) (s : Nat) : worth (Vamvsf.groupShare (Vamvsf.shares cs) s) (groupAdded cs s) := by
  rw [groupAdded_eq]
  have e : (0 : Int) + (if Vamvsf.inGroup s 0 = true then added cs 0 else 0) = (if Vamvsf.inGroup s 0 = true then added cs 0 else 0) := Int.zero_add _
  rw [← e]
  exact worth_plus (worth_plus (worth_plus (worth_plus worth_zero (worth_if (worth_frac _))) (worth_if (worth_frac _))) (worth_if (worth_frac _))) (worth_if (worth_frac _))
def unhappyM (cs : List Nat) : List Nat := (List.range 16).filter fun s => decide (24 * ((cs.getD s 0 : Nat) : Int) < groupAdded cs s)
theorem unhappy_eq (cs : List Nat) : Vamvsf.unhappy cs = unhappyM cs := by
  unfold Vamvsf.unhappy unhappyM
  show (List.range 16).filter _ = _
  apply List.filter_congr
  intro s _
  exact less_worth (group_worth cs s) _
end SR
/-! Sets of at most two groupings, and regrets. -/
namespace SR
open VamvsBase
open Vamvsa (Row Ask Table Grouping Group Kept)
/-- none; each alone; each two -/
def setsM (n : Nat) : List (List Nat) := [[]] ++ (List.range n).map (fun g => [g]) ++ (List.range n).flatMap fun l => (List.range' (l + 1) (n - (l + 1))).map fun g => [l, g]
def fewN (n : Nat) : List (List Nat) := [[]] ++ ((List.range n).map (fun g => [g]) ++ (List.range n).flatMap fun g => ((List.range n).filter fun u => decide (g < u)).map fun u => [g, u])
theorem few_sets : ∀ w ≤ 4, fewN (2 ^ w) = setsM (2 ^ w) ∧ (setsM (2 ^ w)).length ≤ 137 ∧ 0 < (setsM (2 ^ w)).length ∧ (setsM (2 ^ w)).all (fun k => decide (k.length ≤ 2) && (k.all (fun v => decide (v < 2 ^ w)) && ((List.range (2 ^ w)).filter k.contains == k))) = true := by decide +kernel
theorem few_eq (t : Table) (h : t.cols.length ≤ 4) : Vamvsf.few t = setsM (2 ^ t.cols.length) := (few_sets _ h).1
theorem sets_good {w : Nat} (h : w ≤ 4) {k : List Nat} (hk : k ∈ setsM (2 ^ w)) : k.length ≤ 2 ∧ (∀ v ∈ k, v < 2 ^ w) ∧ (List.range (2 ^ w)).filter k.contains = k := by
  have := List.all_eq_true.mp (few_sets w h).2.2.2 k hk
  simp only [Bool.and_eq_true, decide_eq_true_eq, beq_iff_eq] at this
  exact ⟨this.1, fun v hv => of_decide_eq_true (List.all_eq_true.mp this.2.1 v hv), this.2.2⟩
/-! ### what a question reads -/
structure Reads (rows : Nat) (l : List Nat) (x : Nat) : Prop where
  none : l = [] → x = rows
  some : l ≠ [] → x ∈ l ∧ ∀ y ∈ l, x ≤ y
theorem Reads.same {rows : Nat} {l : List Nat} {x y : Nat} (h1 : Reads rows l x) (h2 : Reads rows l y) : x = y := by
  by_cases e : l = []
  · rw [h1.none e, h2.none e]
  · exact Nat.le_antisymm ((h1.some e).2 y (h2.some e).1) ((h2.some e).2 x (h1.some e).1)
def usable (t : Table) (k : Kept) (g : Nat) : List Nat := (k.filter fun v => has v g).map (Vamvsa.sizeOf_ t)
def valO (t : Table) (o : Option Nat) : Nat := match o with
  | none => t.rows.length
  | some v => Vamvsa.sizeOf_ t v
theorem better_fold (t : Table) (h4 : t.cols.length ≤ 4) (g : Nat) (hg : g < 2 ^ t.cols.length) : ∀ (k : List Nat) (b : Option Nat), (∀ v ∈ k, v < 2 ^ t.cols.length) →
    (b = none → Reads t.rows.length (usable t k g) (valO t (k.foldl (Vamvsa.better t g) b))) ∧
    (∀ u, b = some u → Reads t.rows.length (Vamvsa.sizeOf_ t u :: usable t k g) (valO t (k.foldl (Vamvsa.better t g) b)))
  | [], b, _ => ⟨fun e => by subst e; exact ⟨fun _ => rfl, fun h => absurd rfl h⟩, fun u e => by subst e; exact ⟨(fun h => nomatch h), fun _ => ⟨List.mem_cons_self .., fun y hy => by rw [List.mem_singleton.mp hy]; exact Nat.le_refl _⟩⟩⟩
  | v :: k, b, hk => by
    have hv := hk v (List.mem_cons_self ..)
    have hc : Vamvsa.canFrom (Vamvsa.width t) v g = has v g := canFrom_has _ h4 v hv g hg
    have ih := fun b => better_fold t h4 g hg k b fun u hu => hk u (List.mem_cons_of_mem _ hu)
    rw [List.foldl_cons]
    by_cases hh : has v g = true
    · have eu : usable t (v :: k) g = Vamvsa.sizeOf_ t v :: usable t k g := by simp [usable, List.filter_cons, hh]
      have hb : ∀ b, Vamvsa.better t g b v = match b with
          | none => some v
          | some u => if Vamvsa.sizeOf_ t v < Vamvsa.sizeOf_ t u then some v else some u := fun b => by
        unfold Vamvsa.better
        rw [hc, hh]
        rfl
      refine ⟨fun e => ?_, fun u e => ?_⟩
      · subst e
        rw [eu, hb]
        exact (ih (some v)).2 v rfl
      · subst e
        rw [eu, hb]
        simp only
        by_cases hl : Vamvsa.sizeOf_ t v < Vamvsa.sizeOf_ t u
        · rw [if_pos hl]
          have := (ih (some v)).2 v rfl
          obtain ⟨m1, m2⟩ := this.some (by simp)
          refine ⟨(fun h => nomatch h), fun _ => ⟨List.mem_cons_of_mem _ m1, fun y hy => ?_⟩⟩
          rcases List.mem_cons.mp hy with q | q
          · have := m2 _ (List.mem_cons_self ..)
            omega
          · exact m2 y q
        · rw [if_neg hl]
          have := (ih (some u)).2 u rfl
          obtain ⟨m1, m2⟩ := this.some (by simp)
          refine ⟨(fun h => nomatch h), fun _ => ⟨?_, fun y hy => ?_⟩⟩
          · rcases List.mem_cons.mp m1 with q | q
            · rw [q]; exact List.mem_cons_self ..
            · exact List.mem_cons_of_mem _ (List.mem_cons_of_mem _ q)
          · rcases List.mem_cons.mp hy with q | q
            · rw [q]; exact m2 _ (List.mem_cons_self ..)
            · rcases List.mem_cons.mp q with p | p
              · have := m2 _ (List.mem_cons_self ..)
                omega
              · exact m2 y (List.mem_cons_of_mem _ p)
    · have hh' : has v g = false := Bool.eq_false_iff.mpr hh
      have eu : usable t (v :: k) g = usable t k g := by simp [usable, List.filter_cons, hh']
      have hb : ∀ b, Vamvsa.better t g b v = b := fun b => by
        unfold Vamvsa.better
        rw [hc, hh']
        rfl
      rw [hb, eu]
      exact ih b
theorem cost_reads (t : Table) (h4 : t.cols.length ≤ 4) {g : Nat} (hg : g < 2 ^ t.cols.length) {k : Kept} (hk : k ∈ setsM (2 ^ t.cols.length)) : Reads t.rows.length (usable t k g) (Vamvsa.costOf t k g) := by
  obtain ⟨_, h2, h3⟩ := sets_good h4 hk
  have := (better_fold t h4 g hg k none h2).1 rfl
  unfold Vamvsa.costOf Vamvsa.reader Vamvsa.sortedKept Vamvsa.groupings
  show Reads _ _ (valO t (((List.range (2 ^ t.cols.length)).filter fun g => k.contains g).foldl (Vamvsa.better t g) none))
  have e : ((List.range (2 ^ t.cols.length)).filter fun g => k.contains g) = k := h3
  rw [e]
  exact this
/-! ### regrets -/
abbrev Fam := List (Kept × List Nat)
/-- by how much dearer for some questions -/
def dearer : List Nat → List Nat → List Nat → List Nat → Int
  | a :: xs, b :: ys, l :: lo, h :: hi => (let d : Int := (a : Int) - (b : Int); if 0 < d then d * (h : Int) else d * (l : Int)) + dearer xs ys lo hi
  | _, _, _, _ => 0
theorem worse_eq (c : Nat) (lo hi : List Nat) (x y : Kept × List Nat) : Vamvsf.worseBy c ⟨lo, hi⟩ x y = ((2 * c * x.1.length : Nat) : Int) - ((2 * c * y.1.length : Nat) : Int) + dearer x.2 y.2 lo hi := by
  unfold Vamvsf.worseBy Vamvsf.upkeep Vamvsb.PER
  simp only
  obtain ⟨x1, x2⟩ := x
  obtain ⟨y1, y2⟩ := y
  simp only
  have key : ∀ (xs ys lo hi : List Nat), (((xs.zip ys).zip (lo.zip hi)).map fun z => let d : Int := (z.1.1 : Int) - (z.1.2 : Int); if 0 ≤ d then d * (z.2.2 : Int) else d * (z.2.1 : Int)).sum = dearer xs ys lo hi := by
    intro xs
    induction xs with
    | nil => intro ys lo hi; simp [dearer]
    | cons a xs ih =>
      intro ys lo hi
      cases ys with
      | nil => simp [dearer]
      | cons b ys =>
        cases lo with
        | nil => simp [dearer]
        | cons l lo =>
          cases hi with
          | nil => simp [dearer]
          | cons h hi =>
            simp only [List.zip_cons_cons, List.map_cons, List.sum_cons, ih, dearer]
            congr 1
            by_cases e : (a : Int) - (b : Int) = 0
            · rw [e]; simp
            · by_cases q : 0 < (a : Int) - (b : Int)
              · rw [if_pos q, if_pos (by omega)]
              · rw [if_neg q, if_neg (by omega)]
  rw [key]
  omega
theorem dearer_self : ∀ (xs lo hi : List Nat), dearer xs xs lo hi = 0
  | [], _, _ => rfl
  | _ :: _, [], _ => rfl
  | _ :: _, _ :: _, [] => rfl
  | a :: xs, l :: lo, h :: hi => by
    simp only [dearer, Int.sub_self, Int.lt_irrefl, if_false, Int.zero_mul, dearer_self xs lo hi, Int.add_zero]
theorem worse_self (c : Nat) (lo hi : List Nat) (x : Kept × List Nat) : Vamvsf.worseBy c ⟨lo, hi⟩ x x = 0 := by
  rw [worse_eq, dearer_self]
  omega
/-- the program's walk over all others, by their places: the greatest, and to which -/
def regStep (W : Nat → Int) (s : Int × Nat) (o : Nat) : Int × Nat := if s.1 < W o then (W o, o) else s
def regWalk (W : Nat → Int) (own n : Nat) : Int × Nat := (List.range n).foldl (regStep W) (0, own)
theorem regWalk_spec (c : Nat) (b : Vamvsf.Bounds) (fam : Fam) (own : Nat) (x : Kept × List Nat) (hx : fam[own]? = some x) (h0 : Vamvsf.worseBy c b x x = 0) (W : Nat → Int) (hW : ∀ o y, fam[o]? = some y → W o = Vamvsf.worseBy c b x y) :
    ∃ y, fam[(regWalk W own fam.length).2]? = some y ∧ y.1 = (Vamvsf.regret c b fam x).2 ∧ (regWalk W own fam.length).1 = (Vamvsf.regret c b fam x).1 ∧ W (regWalk W own fam.length).2 = (Vamvsf.regret c b fam x).1 := by
  have key : ∀ n, n ≤ fam.length → ∃ y, fam[((List.range n).foldl (regStep W) (0, own)).2]? = some y ∧ y.1 = ((fam.take n).foldl (fun (m : Int × Kept) y => let d := Vamvsf.worseBy c b x y; if m.1 < d then (d, y.1) else m) (0, x.1)).2 ∧
      ((List.range n).foldl (regStep W) (0, own)).1 = ((fam.take n).foldl (fun (m : Int × Kept) y => let d := Vamvsf.worseBy c b x y; if m.1 < d then (d, y.1) else m) (0, x.1)).1 ∧
      W ((List.range n).foldl (regStep W) (0, own)).2 = ((fam.take n).foldl (fun (m : Int × Kept) y => let d := Vamvsf.worseBy c b x y; if m.1 < d then (d, y.1) else m) (0, x.1)).1 := by
    intro n
    induction n with
    | zero =>
      intro _
      exact ⟨x, hx, rfl, rfl, (hW own x hx).trans h0⟩
    | succ n ih =>
      intro hn
      obtain ⟨y, h1, h2, h3, h4⟩ := ih (by omega)
      have hz : fam[n]? = some fam[n] := List.getElem?_eq_getElem (by omega)
      have ht : fam.take (n + 1) = fam.take n ++ [fam[n]] := by rw [List.take_add_one, hz]; rfl
      rw [List.range_succ, List.foldl_append, ht, List.foldl_append]
      simp only [List.foldl_cons, List.foldl_nil]
      generalize (List.range n).foldl (regStep W) (0, own) = s at *
      generalize (fam.take n).foldl (fun (m : Int × Kept) y => let d := Vamvsf.worseBy c b x y; if m.1 < d then (d, y.1) else m) (0, x.1) = m at *
      unfold regStep
      rw [hW n _ hz]
      simp only [← h3]
      by_cases q : s.1 < Vamvsf.worseBy c b x fam[n]
      · rw [if_pos q, if_pos q]
        exact ⟨fam[n], hz, rfl, rfl, hW n _ hz⟩
      · rw [if_neg q, if_neg q]
        exact ⟨y, h1, h2, h3, h4⟩
  obtain ⟨y, h1, h2, h3, h4⟩ := key fam.length (Nat.le_refl _)
  rw [List.take_length] at h2 h3 h4
  exact ⟨y, h1, h2, h3, h4⟩
/-- the first place with a least number -/
structure First (l : List Int) (i : Nat) : Prop where
  lt : i < l.length
  le : ∀ j < l.length, l.getD i 0 ≤ l.getD j 0
  first : ∀ j < i, l.getD i 0 < l.getD j 0
theorem First.same {l : List Int} {i j : Nat} (h1 : First l i) (h2 : First l j) : i = j := by
  rcases Nat.lt_trichotomy i j with h | h | h
  · have a := h2.first i h
    have b := h1.le j h2.lt
    omega
  · exact h
  · have a := h1.first j h
    have b := h2.le i h1.lt
    omega
/-- the first set whose greatest regret is least -/
theorem least_first (c : Nat) (b : Vamvsf.Bounds) (fam : Fam) {i : Nat} {x : Kept × List Nat} (hx : fam[i]? = some x) (h : First (fam.map fun x => (Vamvsf.regret c b fam x).1) i) :
    Vamvsf.leastRegret c b fam = some (x, (Vamvsf.regret c b fam x).1) := by
  unfold Vamvsf.leastRegret
  generalize hf : (fun x => (Vamvsf.regret c b fam x).1) = f at h
  have hf' : ∀ x, (Vamvsf.regret c b fam x).1 = f x := fun x => congrFun hf x
  simp only [hf']
  have gd : ∀ j y, fam[j]? = some y → (fam.map f).getD j 0 = f y := fun j y hy => by
    rw [List.getD_eq_getElem?_getD, List.getElem?_map, hy]
    rfl
  -- the walk so far holds the first least so far
  have key : ∀ n, n ≤ fam.length → (n = 0 ∧ ((fam.take n).foldl (fun (m : Option ((Kept × List Nat) × Int)) x => let d := f x; match m with
      | none => some (x, d)
      | some z => if d < z.2 then some (x, d) else some z) none) = none) ∨ ∃ j y, j < n ∧ fam[j]? = some y ∧ (fam.take n).foldl (fun (m : Option ((Kept × List Nat) × Int)) x => let d := f x; match m with
      | none => some (x, d)
      | some z => if d < z.2 then some (x, d) else some z) none = some (y, f y) ∧ (∀ k z, k < n → fam[k]? = some z → f y ≤ f z) ∧ (∀ k z, k < j → fam[k]? = some z → f y < f z) := by
    intro n
    induction n with
    | zero => intro _; exact .inl ⟨rfl, rfl⟩
    | succ n ih =>
      intro hn
      have hz : fam[n]? = some fam[n] := List.getElem?_eq_getElem (by omega)
      have ht : fam.take (n + 1) = fam.take n ++ [fam[n]] := by rw [List.take_add_one, hz]; rfl
      right
      rw [ht, List.foldl_append]
      simp only [List.foldl_cons, List.foldl_nil]
      rcases ih (by omega) with ⟨e, h0⟩ | ⟨j, y, hj, hy, hm, h1, h2⟩
      · subst e
        rw [h0]
        refine ⟨0, fam[0], by omega, hz, rfl, fun k z hk hkz => ?_, fun k z hk => absurd hk (Nat.not_lt_zero _)⟩
        have : k = 0 := by omega
        subst this
        rw [hz] at hkz
        cases hkz
        exact Int.le_refl _
      · rw [hm]
        simp only
        by_cases q : f fam[n] < f y
        · rw [if_pos q]
          refine ⟨n, fam[n], by omega, hz, rfl, fun k z hk hkz => ?_, fun k z hk hkz => ?_⟩
          · by_cases e : k = n
            · subst e
              rw [hz] at hkz
              cases hkz
              exact Int.le_refl _
            · have := h1 k z (by omega) hkz
              omega
          · have := h1 k z hk hkz
            omega
        · rw [if_neg q]
          refine ⟨j, y, by omega, hy, rfl, fun k z hk hkz => ?_, h2⟩
          by_cases e : k = n
          · subst e
            rw [hz] at hkz
            cases hkz
            omega
          · exact h1 k z (by omega) hkz
  have hi : i < fam.length := by
    rcases Nat.lt_or_ge i fam.length with q | q
    · exact q
    · rw [List.getElem?_eq_none q] at hx; cases hx
  rcases key fam.length (Nat.le_refl _) with ⟨e, _⟩ | ⟨j, y, hj, hy, hm, h1, h2⟩
  · omega
  · rw [List.take_length] at hm
    have hfj : First (fam.map f) j := by
      refine ⟨by rw [List.length_map]; exact hj, fun k hk => ?_, fun k hk => ?_⟩
      · rw [List.length_map] at hk
        have hkz : fam[k]? = some fam[k] := List.getElem?_eq_getElem hk
        rw [gd j y hy, gd k _ hkz]
        exact h1 k _ hk hkz
      · have hk2 : k < fam.length := by omega
        have hkz : fam[k]? = some fam[k] := List.getElem?_eq_getElem hk2
        rw [gd j y hy, gd k _ hkz]
        exact h2 k _ hk hkz
    have e := h.same hfj
    subst e
    rw [hx] at hy
    cases hy
    exact hm
end SR
/-! What the program's loops want of the mathematics. -/
namespace SR
open VamvsBase
open Vamvsa (Row Ask Table Grouping Group)
theorem mask_append : ∀ (l : List Nat) (w g : Nat), maskOf (l ++ [w]) g = maskOf l g + 2 ^ l.length * (if Vamvsf.inGroup g w = true then 1 else 0)
  | [], w, g => by simp [maskOf]
  | x :: l, w, g => by
    rw [List.cons_append, maskOf, mask_append l w g, maskOf, List.length_cons, Nat.pow_succ]
    have : 2 * (2 ^ l.length * (if Vamvsf.inGroup g w = true then 1 else 0)) = 2 ^ l.length * 2 * (if Vamvsf.inGroup g w = true then 1 else 0) := by
      rw [Nat.mul_comm (2 ^ l.length) 2, Nat.mul_assoc]
    omega
theorem inGroup_bit (g w : Nat) : (if Vamvsf.inGroup g w = true then 1 else 0) = g / 2 ^ w % 2 := by
  unfold Vamvsf.inGroup
  rcases Nat.mod_two_eq_zero_or_one (g / 2 ^ w) with h | h <;> rw [h] <;> rfl
theorem sel_append : ∀ (l : List Ask) (a : Ask) (m : Nat), sel m (l ++ [a]) = sel m l ++ (if m / 2 ^ l.length % 2 = 1 then [a] else [])
  | [], a, m => by
    simp only [List.nil_append, sel, List.length_nil, Nat.pow_zero, Nat.div_one]
  | x :: l, a, m => by
    rw [List.cons_append, sel, sel, sel_append l a (m / 2), Nat.div_div_eq_div_mul, List.length_cons, Nat.pow_succ, Nat.mul_comm 2]
    split <;> simp
theorem together_append (l : List Ask) (a : Ask) : together (l ++ [a]) = together l ||| a.g := by
  unfold together
  rw [List.foldl_append]
  rfl
theorem often_append (l : List Ask) (a : Ask) : often (l ++ [a]) = often l + a.k := by
  unfold often
  simp
theorem often_le {Q : List Ask} (h : ∀ a ∈ Q, a.k ≤ 99) : often Q ≤ Q.length * 99 := by
  induction Q with
  | nil => exact Nat.le_refl 0
  | cons a Q ih =>
    have h1 := h a (List.mem_cons_self ..)
    have h2 := ih fun b hb => h b (List.mem_cons_of_mem _ hb)
    unfold often at h2 ⊢
    simp only [List.map_cons, List.sum_cons, List.length_cons]
    omega
theorem sel_length : ∀ (Q : List Ask) (m : Nat), (sel m Q).length ≤ Q.length
  | [], _ => Nat.le_refl 0
  | a :: Q, m => by
    have := sel_length Q (m / 2)
    rw [sel]
    split <;> simp only [List.length_cons] <;> omega
theorem restLoop_fuel (o : Nat) (f : Nat → Nat) : ∀ (n m r b : Nat), r ≤ n → r ≤ m → restLoop o f n r b = restLoop o f m r b
  | 0, 0, _, _, _, _ => rfl
  | 0, m + 1, r, b, h, _ => by
    have : r = 0 := by omega
    subst this
    rw [restLoop, restLoop, if_neg (by omega)]
  | n + 1, 0, r, b, _, h => by
    have : r = 0 := by omega
    subst this
    rw [restLoop, restLoop, if_neg (by omega)]
  | n + 1, m + 1, r, b, h1, h2 => by
    rw [restLoop, restLoop]
    split
    · rename_i h0
      have := down_lt (o := o) (c := r) h0
      exact restLoop_fuel o f n m _ _ (by omega) (by omega)
    · rfl
theorem leastUpTo_pos (costs : List Nat) (n : Nat) : 0 < (leastUpTo costs n).length := by rw [leastUpTo_len]; omega
theorem partCosts_len (t : Table) (c : Nat) : (partCosts t c).length = 2 ^ t.asks.length := by simp [partCosts]
theorem leastCosts_len (t : Table) (c : Nat) : (leastCosts (partCosts t c)).length = 2 ^ t.asks.length := by
  unfold leastCosts
  rw [leastUpTo_len, partCosts_len]
  have : 0 < 2 ^ t.asks.length := Nat.two_pow_pos _
  omega
end SR
set_option Elab.async false
set_option linter.all false
set_option maxRecDepth 100000
set_option maxHeartbeats 2000000
/-! Rules that the layer lacks: min(xs, default=d); set(xs) of a list of whole numbers. -/
namespace SR
open PySem PySem.Spec PyProof.Rows L2
section
variable {X : Cx}
/-- min(xs, default=d): the least of a list of whole numbers, d where there is none -/
def rMinD (K : PySem.W.Frag) : List V → List V → Hp → VK → Prop := fun vs zs H Q => ∃ (a : Addr) (ns : List Int) (d : V), vs = [V.ref a] ∧ zs = [d] ∧ SqL K H a (ns.map V.int) ∧
  (ns = [] → Q d H) ∧ (∀ m ∈ ns, (∀ y ∈ ns, m ≤ y) → Q (.int m) H)
theorem holdAll_ints {h : Heap} : ∀ {us : List Value} {ns : List Int}, IntsAre us ns → PySem.W.HoldAll h us ns := by
  intro us ns hi
  induction hi with
  | nil => exact ⟨_, .nil⟩
  | cons n t _ ih =>
    obtain ⟨as, r⟩ := ih
    exact ⟨_, .cons (.int n t) r⟩
theorem minOf_least : ∀ (x : Int) (xs : List Int), PySem.W.minOf x xs ∈ x :: xs ∧ ∀ y ∈ x :: xs, PySem.W.minOf x xs ≤ y := by
  intro x xs
  induction xs generalizing x with
  | nil => exact ⟨List.mem_cons_self .., fun y hy => by rw [List.mem_singleton.mp hy]; exact Int.le_refl _⟩
  | cons z zs ih =>
    have e : PySem.W.minOf x (z :: zs) = PySem.W.minOf (if PySem.W.DatumOrd.lt z x = true then z else x) zs := rfl
    rw [e]
    have hl : PySem.W.DatumOrd.lt z x = decide (z < x) := rfl
    obtain ⟨h1, h2⟩ := ih (if PySem.W.DatumOrd.lt z x = true then z else x)
    by_cases q : z < x
    · rw [hl, if_pos (decide_eq_true q)] at h1 h2 ⊢
      refine ⟨List.mem_cons_of_mem _ h1, fun y hy => ?_⟩
      rcases List.mem_cons.mp hy with r | r
      · have := h2 z (List.mem_cons_self ..)
        omega
      · exact h2 y r
    · rw [hl, if_neg (by simpa using q)] at h1 h2 ⊢
      refine ⟨?_, fun y hy => ?_⟩
      · rcases List.mem_cons.mp h1 with r | r
        · rw [r]; exact List.mem_cons_self ..
        · exact List.mem_cons_of_mem _ (List.mem_cons_of_mem _ r)
      · rcases List.mem_cons.mp hy with r | r
        · rw [r]; exact h2 x (List.mem_cons_self ..)
        · rcases List.mem_cons.mp r with r | r
          · have := h2 x (List.mem_cons_self ..)
            omega
          · exact h2 y (List.mem_cons_of_mem _ r)
theorem cr_minD (hc : X.calm = true) (hu : X.A.units + 1 + PySem.W.Datum.depth Int < cLine) : CallRK X (.builtin "min") [Str.ofString "default"] (rMinD X.K) := by
  intro pins s σ H vs zs us ws Q I r rz h
  obtain ⟨a, ns, d, rfl, rfl, hs, q0, q1⟩ := h
  obtain rfl := Vals.ref1 r
  obtain ⟨w1, rfl, rd⟩ := vals1 rz
  obtain ⟨its, rv, hl, hz⟩ := I.list hs
  have hi := rv.ints
  refine PySem.W.min_list_datum_default (α := Int) (I.ok.hd hc) hl.isList (by simpa using holdAll_ints hi) hu (fun e h' tk k => ⟨d, H, I.kept k, rd, q0 e⟩) fun y ys i v h' tk e hv hh k => ?_
  obtain ⟨m1, m2⟩ := minOf_least y ys
  rw [← e] at m1 m2
  refine ⟨.int (PySem.W.minOf y ys), H, I.kept k, ?_, q1 _ m1 m2⟩
  obtain ⟨bs, hr⟩ := hh
  cases hr
  exact ⟨_, rfl⟩
end
end SR
set_option Elab.async false
set_option linter.all false
set_option maxRecDepth 100000
set_option maxHeartbeats 3200000
namespace SR
open PySem PySem.Spec PyProof.Rows L2
/-- what set() makes, empty -/
abbrev emptySet (w : World) : Obj := { cls := .type "set", dict := none, data := .set #[] 0 (.fresh 0 0 (!w.params.followText "set-order")) }
section
variable {P : Program} {w : World} {A : Around} {E : Value → Shared → Prop} {s : Shared}
/-- set.__init__ on the new set, of a list of whole numbers -/
theorem set_init_ints {l : Addr} {its : Array Value} (ns : List Int) (R : Result → Shared → Prop) (hh : A.handled = none) (hl : s.heap.IsList l its) (hi : IntsAre its.toList ns) (hb : ns.length + 1 < scanBound)
    (hq : ∀ (h' : Heap) (tk c : Nat), SetR w h' s.heap.objs.size (fun j => decide (j ∈ ns)) c → c ≤ ns.length → (∀ b o, s.heap.get? b = some o → h'.get? b = some o) → R (.ok (.ret .none)) { s with heap := h', toks := tk }) :
    codeAny (model P w) A (.call (.builtin "set.__init__") ⟨[.ref s.heap.objs.size, .ref l], []⟩) R { s with heap := s.heap.push (emptySet w) } := by
  have nlen : its.size = ns.length := by rw [← Array.length_toList]; exact IntsAre.length hi
  have hS : (s.heap.push (emptySet w)).get? s.heap.objs.size = some (emptySet w) := Heap.get?_push_size _ rfl
  have hT : Shared.TypeIs { s with heap := s.heap.push (emptySet w) } (.ref s.heap.objs.size) "set" := ⟨_, hS, rfl⟩
  refine codeAny_call_builtin PySem.F.called_set.init.plain PySem.F.entry_set_init (check_set_init_1 hT ?_)
  obtain ⟨⟨c0, d0, dat, sl⟩, hol, hcl, nl, hdl⟩ := hl
  simp only at hcl hdl
  subst hcl hdl
  have hol' : (s.heap.push (emptySet w)).get? l = some ⟨.type "list", d0, .seq its nl, sl⟩ := Heap.get?_push_of_some _ hol
  have no1 := PySem.F.sub_list_set
  have no2 := PySem.F.sub_list_frozenset
  have no3 : (Value.type "list" == Value.type "dict") = false := by decide
  have hl1 : (s.heap.push (emptySet w)).IsList l its := ⟨_, hol', rfl, nl, rfl⟩
  unfold Builtin.«set.__init__» noKeywords Builtin.Frozenset.updateFrom
  generalize hPI : pyIter = PI
  wp_walk
  subst hPI
  refine wpAny_pyIter_list hl1 (wpAny_bind (wpAny_runValue ?_))
  have below : l < s.heap.objs.size := Heap.lt_size hol
  have top : (s.heap.push (emptySet w)).objs.size = s.heap.objs.size + 1 := Heap.size_push ..
  have calm3 : A.in1.in1.handled = none := by simp [hh]
  have apart : l ≠ (s.heap.push (emptySet w)).objs.size := by rw [top]; exact Nat.ne_of_lt (Nat.lt_succ_of_lt below)
  have out : s.heap.objs.size ∉ [(s.heap.push (emptySet w)).objs.size, l] := by
    rw [top]
    simp only [List.mem_cons, List.not_mem_nil, or_false, not_or]
    exact ⟨Nat.ne_of_lt (Nat.lt_succ_self _), Nat.ne_of_gt below⟩
  have val : ∀ (i : Nat) (v : Value), its[i]? = some v → ∃ k t, ns[i]? = some k ∧ v = .int k t := fun i v hv => by
    have lt : i < ns.length := by rw [← nlen]; exact (Array.getElem?_eq_some_iff.mp hv).1
    obtain ⟨t, e⟩ := IntsAre.int_at hi i v (by rw [Array.getElem?_toList]; exact hv)
    exact ⟨ns[i], t, List.getElem?_eq_getElem lt, by rw [e, List.getD_eq_getElem?_getD, List.getElem?_eq_getElem lt] <;> rfl⟩
  refine set_update_ints ((Walks.list calm3 _ l apart its).toS) s.heap.objs.size out ns nlen hb val (its.size - 0) 0 _ (by omega) (Nat.zero_le _) ⟨⟨_, Heap.get?_push_size _ rfl, rfl, rfl⟩, (hl1.push _)⟩
    ⟨0, Nat.le_refl 0, setR_new_at (Heap.get?_push_of_some _ hS)⟩ ?_
  intro s' c' hm hc' hS'
  obtain ⟨h', g2, d', tk', os'⟩ := s'
  obtain rfl : g2 = s.gens := hm.gens
  obtain rfl : d' = s.drawn := hm.drawn
  obtain rfl : os' = s.os := hm.os
  show wpAny _ _ _ _ _ _
  refine wpAny_pure ?_
  show wpAny _ _ (ret Value.none) _ _ _
  rw [nlen] at hc'
  refine wpAny_pure (hq h' tk' c' hS' hc' fun b o e => ?_)
  have lt : b < s.heap.objs.size := Heap.lt_size e
  refine hm.heap b o ?_ (Heap.get?_push_of_some _ (Heap.get?_push_of_some _ e))
  rw [top]
  simp only [List.mem_cons, List.not_mem_nil, or_false, not_or]
  exact ⟨Nat.ne_of_lt lt, Nat.ne_of_lt (Nat.lt_succ_of_lt lt)⟩
theorem set_of_ints {l : Addr} {its : Array Value} (ns : List Int) {Q : Value → Shared → Prop} (hh : A.handled = none) (hl : s.heap.IsList l its) (hi : IntsAre its.toList ns) (hb : ns.length + 1 < scanBound)
    (hq : ∀ (h' : Heap) (tk c : Nat), SetR w h' s.heap.objs.size (fun j => decide (j ∈ ns)) c → c ≤ ns.length → (∀ b o, s.heap.get? b = some o → h'.get? b = some o) → Q (.ref s.heap.objs.size) { s with heap := h', toks := tk }) :
    wpAny (model P w) A (call (.type "set") [.ref l]) Q E s := by
  obtain ⟨c, tl, hmro⟩ := PySem.F.called_set.mro
  have f1 := PySem.F.called_set.made
  have f2 := PySem.F.called_set.sub
  have f3 := PySem.F.called_set.notType
  have f4 := PySem.F.called_set.canCreate
  have f5 := PySem.F.typeCall_set_1 (.ref l)
  refine wpAny_call (codeAny_of_tree ?_)
  show wpAny _ _ (callAny (.type "set") _) _ _ _
  refine wpAny_pure ⟨Code.quiet_builtin _ (by decide +kernel), codeAny_builtin PySem.F.entry_type_call ?_⟩
  rw [Around.under_plain (weight_type_call_type "set" [.ref l] []) rfl]
  repeat (any_goals (first | assumption | wp_step))
  refine codeAny_mono (code_set_led1 (.ref l) (E := E) (Q₁ := fun obj s₁ => obj = .ref s.heap.objs.size ∧ s₁ = { s with heap := s.heap.push (emptySet w) }) ⟨rfl, rfl⟩) fun r s₁ hr => ?_
  cases r with
  | error e => exact hr
  | ok fl =>
    cases fl with
    | ret obj =>
      obtain ⟨rfl, rfl⟩ := hr
      have hS : (s.heap.push (emptySet w)).get? s.heap.objs.size = some (emptySet w) := Heap.get?_push_size _ rfl
      have hT : Shared.TypeIs { s with heap := s.heap.push (emptySet w) } (.ref s.heap.objs.size) "set" := ⟨_, hS, rfl⟩
      have g1 := PySem.F.called_set.init.lookup
      have g2 := PySem.F.called_set.init.bind (.ref s.heap.objs.size)
      repeat (any_goals (first | assumption | wp_step))
      refine codeAny_mono (set_init_ints (P := P) ns (wants (fun r s₂ => r = .none ∧ ∃ h' tk c, s₂ = { s with heap := h', toks := tk } ∧ SetR w h' s.heap.objs.size (fun j => decide (j ∈ ns)) c ∧ c ≤ ns.length ∧ (∀ b o, s.heap.get? b = some o → h'.get? b = some o)) E)
        (by simp [hh]) hl hi hb fun h' tk c a1 a2 a3 => ⟨rfl, h', tk, c, rfl, a1, a2, a3⟩) fun r₂ s₂ hr₂ => ?_
      cases r₂ with
      | error e => exact hr₂
      | ok fl₂ =>
        cases fl₂ with
        | ret r =>
          obtain ⟨rfl, h', tk, c', rfl, hS', hc', hk'⟩ := hr₂
          repeat (any_goals (first | assumption | wp_step))
          exact hq _ _ _ hS' hc' hk'
        | _ => exact hr₂.elim
    | _ => exact hr.elim
end
section
variable {X : Cx}
/-- set(xs), xs a list of whole numbers -/
def rSetI (K : PySem.W.Frag) (w : World) : List V → Hp → VK → Prop := fun vs H Q => ∃ (a : Addr) (ns : List Int), vs = [V.ref a] ∧ SqL K H a (ns.map V.int) ∧ ns.length + 1 < scanBound ∧ ∀ (p : Addr) (n : Nat), H p = none → n ≤ ns.length → Q (.ref p) (upd H p (SetO w p (fun j => decide (j ∈ ns)) n))
theorem cr_setI (hc : X.calm = true) : CallR X (.type "set") (rSetI X.K X.w) := by
  intro pins s σ H vs us Q I r h
  obtain ⟨a, ns, rfl, hs, hb, q⟩ := h
  obtain rfl := Vals.ref1 r
  obtain ⟨its, rv, hl, hz⟩ := I.list hs
  refine set_of_ints (P := X.prog) ns (I.ok.hd hc) hl.isList (by simpa using rv.ints) hb fun h' tk c hR hcn k => ?_
  exact ⟨.ref _, _, I.laid (t' := tk) k (Nat.le_refl _) (setO_new hR), rfl, q _ c (I.hok.fresh (Nat.le_refl _)) hcn⟩
end
end SR
set_option Elab.async false
set_option linter.all false
set_option maxRecDepth 100000
set_option maxHeartbeats 2000000
/-! TableFault: an own error whose __init__ calls Exception.__init__ and sets two fields. -/
namespace SR
namespace FX
open PySem PySem.W PySem.Calls PyProof.Rows PySem.HandSPX
abbrev excTail : List Value := [.type "Exception", .type "BaseException", .type "object"]
def iA : Arguments := { posonlyargs := [], args := [{ arg := "self", annotation := none, pos := ⟨142, 17, 142, 21⟩ }, { arg := "code", annotation := none, pos := ⟨142, 23, 142, 27⟩ }, { arg := "place", annotation := none, pos := ⟨142, 29, 142, 34⟩ }], vararg := none, kwonlyargs := [], kw_defaults := [], kwarg := none, defaults := [] }
def iB : List Stmt := [.Expr (.Call (.Attribute (.Name "Exception" ⟨143, 8, 143, 17⟩) "__init__" ⟨143, 8, 143, 26⟩) [.Name "self" ⟨143, 27, 143, 31⟩] [] ⟨143, 8, 143, 32⟩) ⟨143, 8, 143, 32⟩,
  .Assign [.Attribute (.Name "self" ⟨144, 8, 144, 12⟩) "code" ⟨144, 8, 144, 17⟩] (.Name "code" ⟨144, 20, 144, 24⟩) ⟨144, 8, 144, 24⟩, .Assign [.Attribute (.Name "self" ⟨145, 8, 145, 12⟩) "place" ⟨145, 8, 145, 18⟩] (.Name "place" ⟨145, 21, 145, 26⟩) ⟨145, 8, 145, 26⟩]
def iS : Scope := { kind := .function, names := [(PySem.Str.ofString "self", .local), (PySem.Str.ofString "code", .local), (PySem.Str.ofString "place", .local), (PySem.Str.ofString "Exception", .globalImplicit)], isGenerator := false, isCoroutine := false, more := [] }
/-- what the written part says of the class at C, and of its __init__ at fI -/
structure FaultTxt (K : Frag) (mg : Str → Option Value) (C fI : Addr) : Prop where
  gC : mg "TableFault" = some (.ref C)
  gE : mg "Exception" = none
  cls : ∃ nm q N bs sn sub ab col dd k0 k1 k2 k3 k5, K.lookup C = some (excClassObj nm q C N bs excTail true sn sub ab col dd k0 k1 k2 k3 k5 "Exception.__new__")
  sa : findIn K (.ref C) "__setattr__" = some (some (.builtin "object.__setattr__"))
  ga : findIn K (.ref C) "__getattribute__" = some (some (.builtin "BaseException.__getattribute__"))
  gg : findIn K (.ref C) "__getattr__" = some none
  n1 : findIn K (.ref C) "code" = some none
  n2 : findIn K (.ref C) "place" = some none
  iC : findIn K (.ref C) "__init__" = some (some (.ref fI))
  tC : typeIn K (.ref fI) = some (.type "function")
  kC : keepIn K (.ref C) = true
  exC : subIn K (.ref C) (.type "BaseException") = some true
  tyC : typeIn K (.ref C) = some (.type "type")
  hdC : hasDictIn K C = true
  te : exmOne K (.ref C) (.ref C) = some true
  fn : ∃ (oc : Value) (od : Option Addr) (doc pm : Value) (an : Option Addr) (cdv ct : Value) (osl : Array (Option Value)),
    K.lookup fI = some ⟨oc, od, .func (fnOf "__init__" "TableFault.__init__" iA iB iS .none .none doc pm an cdv ct), osl⟩ ∧ codeIn K cdv "TableFault.__init__" = true
theorem two_size (v v2 : Value) : [v, v2].length ≤ sizeLine := by
  rw [sizeLine_eq]
  exact (by decide : 2 ≤ 16777216)
theorem ldC {M : Model} {s : Shared} {name : Str} {scope : Scope} {L a : Addr} {cd : Value} {m : Str → Option Value} {x : Str} {pos : Pos} {v : Value} {Q : Value → Shared → Prop} {A : Around} {E : Value → Shared → Prop} (hn : s.heap.Ns L m) (hv : m x = some v) (h : Q v s)
    (hk : scope.kind = .function := by rfl) (hl : (envOfC name scope L a cd).kindOf x = some .local := by rfl) (hd : (x == ("__debug__" : Str)) = false := by decide) :
    wpAny M A (eval (.Name x pos) (envOfC name scope L a cd)) Q E s := wpAny_Name (wpAny_loadName_local hk hl hn hv h) hd
theorem typ_Exc : typeOf (.type "Exception") = pure (.type "type") := by kernel_rfl
theorem find_init (K : Frag) : findCls K (.type "Exception") (.type "type") "__init__" = some (.val (.builtin "Exception.__init__")) := by kernel_rfl
/-- the names of the module and Python's own, in a heap -/
structure Names (mg : Str → Option Value) (h : Heap) : Prop where
  glob : h.Ns mainGlobals mg
  blt : ∃ mb, h.Ns builtinsNs mb ∧ ∀ x : Str, x ≠ "__name__" → mb x = bootBuiltins x
theorem Names.keeps {mg : Str → Option Value} {h h' : Heap} (n : Names mg h) (k : ∀ b o, h.get? b = some o → h'.get? b = some o) : Names mg h' := by
  obtain ⟨g, mb, h1, h2⟩ := n
  exact ⟨g.keeps k, mb, h1.keeps k, h2⟩
/-- what __init__ leaves of a fresh exception at x -/
structure InitEnd (h h' : Heap) (x C dx t1 : Addr) (v v2 : Value) : Prop where
  keep : ∀ b o, b ≠ x → h.get? b = some o → h'.get? b = some o
  obj : h'.get? x = some { cls := .ref C, dict := some dx, data := .fields #[.ref t1, .none, .none, .none, .bool false, .none] }
  dbig : h.objs.size ≤ dx
  dne : dx ≠ x
  ns : h'.Ns1 dx (fun y => if y = "place" then some v2 else if y = "code" then some v else none)
structure OwnMade (h h' : Heap) (e C d : Addr) (v v2 : Value) : Prop where
  keep : ∀ b o, h.get? b = some o → h'.get? b = some o
  new : h.objs.size ≤ e
  obj : ∃ oe vs, h'.get? e = some oe ∧ oe.cls = .ref C ∧ oe.dict = some d ∧ oe.data = .fields vs ∧ vs[1]? = some .none
  dbig : h.objs.size ≤ d
  dne : d ≠ e
  ns : h'.Ns1 d (fun y => if y = "place" then some v2 else if y = "code" then some v else none)
section
variable {prog : Program} {w : World} {A : Around} {E : Value → Shared → Prop} {R : Result → Shared → Prop} {s : Shared} {K : Frag} {mg : Str → Option Value} {C fI : Addr}
theorem fault_init (T : FaultTxt K mg C fI) {x t0 : Addr} {v v2 : Value} (X : K.In s.heap) (NM : Names mg s.heap) (hlim : s.heap.NoLimit) (hx : s.heap.get? x = some (excO C t0)) (hnx : K.lookup x = none) (hroom : A.depth < recursionLimit)
    (hq : ∀ h' tk dx t1, InitEnd s.heap h' x C dx t1 v v2 → R (.ok (.ret .none)) { s with heap := h', toks := tk }) :
    codeAny (model prog w) A (.call (.ref fI) ⟨[.ref x, v, v2], []⟩) R s := by
  obtain ⟨oc, od, doc, pm, an, cdv, ct, osl, ho, hcd⟩ := T.fn
  obtain ⟨nm, q, N, bs, sn, sub, ab, col, dd, k0, k1, k2, k3, k5, hC⟩ := T.cls
  have hcl : clsIn K C = some { name := nm, bases := bs, mro := .ref C :: excTail, ns := N, qualname := q, hasDict := true, slotNames := sn, subclasses := sub, abstract := ab, collection := col, hasDel := false } := by unfold clsIn; rw [hC] <;> rfl
  refine Att.call_fn (binds := [("self", .ref x), ("code", v), ("place", v2)]) X hlim ho hcd hroom (BindsTo.of_eq (by first | rfl | with_unfolding_all rfl)) (by first | rfl | decide | with_unfolding_all rfl) (fun s₁ IC => ?_) rfl rfl rfl
  obtain ⟨h₁, tk₁, rfl⟩ := IC.toInCall.same
  have k : ∀ b o, s.heap.get? b = some o → h₁.get? b = some o := IC.toInCall.keep
  have hn := IC.toInCall.ns
  have hxL : s.heap.objs.size ≠ x := Nat.ne_of_gt (Heap.lt_size hx)
  have X₁ : K.In h₁ := X.keeps k
  have hx₁ := k _ _ hx
  have F₁ : Fr s.heap s.heap.objs.size h₁ _ := ⟨hn, k, Nat.le_refl _⟩
  -- Exception.__init__(self)
  show wpAny _ _ (execs _ _) _ _ _
  refine wpAny_execs_cons (wpAny_Expr ?_)
  have N₁ := NM.keeps k
  obtain ⟨mb, hb1, hb2⟩ := N₁.blt
  refine methodCall_KW (apos := ⟨143, 8, 143, 26⟩) (Calls.Name_function_global rfl rfl (Calls.loadGlobal_builtin N₁.glob T.gE hb1 ((hb2 "Exception" (by decide)).trans PyProof.Rows.Boot.«Exception») ?_)) (by rfl)
  refine method_type F₁ X typ_Exc (by decide +kernel) (find_init K) (by decide +kernel) ?_
  refine callWith_method1 (e := Expr.Name "self" ⟨143, 27, 143, 31⟩) (rest := []) (first := []) (spliced_more (ldC (v := .ref x) hn (by first | rfl | with_unfolding_all rfl | kernel_rfl) (spliced_none ?_)) rfl) rfl rfl
  refine wpAny_call (init_base F.excBase_Exception (fun _ => rfl) (X₁ _ _ hC) hx₁ (by rw [sizeLine_eq]; exact Nat.zero_le _) fun h₂ t2 k₂ hx₂ => ?_)
  have X₂ : K.In h₂ := fun a o e => k₂ a o (fun z => by rw [z, hnx] at e; cases e) (X₁ a o e)
  have hn₂ : h₂.Ns s.heap.objs.size _ := hn.at fun o e => k₂ _ o hxL e
  -- self.code = code
  show wpAny _ _ (execs _ _) _ _ _
  refine wpAny_execs_cons (plainObj_wpAny_Assign_Attribute ?_)
  refine ldC (v := v) hn₂ (by first | rfl | with_unfolding_all rfl | kernel_rfl) (ldC (v := .ref x) hn₂ (by first | rfl | with_unfolding_all rfl | kernel_rfl) ?_)
  refine set_plain X₂ (ox := excO C t2) (od := none) ⟨hx₂, rfl, rfl, trivial⟩ T.sa ?_
  refine ESX.osa_new X₂ hx₂ hcl rfl rfl T.n1 (fun h₃ tk₃ dx k₃ dn dne hx₃ hn₃ => ?_)
  have X₃ : K.In h₃ := fun a o e => k₃ a o (fun z => by rw [z, hnx] at e; cases e) (X₂ a o e)
  have hlt : s.heap.objs.size < h₂.objs.size := hn₂.lt
  have hn₃' : h₃.Ns s.heap.objs.size _ := hn₂.at fun o e => k₃ _ o hxL e
  -- self.place = place
  show wpAny _ _ (execs _ _) _ _ _
  refine wpAny_execs_cons (plainObj_wpAny_Assign_Attribute ?_)
  refine ldC (v := v2) hn₃' (by first | rfl | with_unfolding_all rfl | kernel_rfl) (ldC (v := .ref x) hn₃' (by first | rfl | with_unfolding_all rfl | kernel_rfl) ?_)
  have hdo : ∃ o, h₃.get? dx = some o := by
    obtain ⟨o, es, ep, e1, _⟩ := hn₃
    exact ⟨o, e1⟩
  obtain ⟨oD, hoD⟩ := hdo
  refine set_plain X₃ (ox := { cls := .ref C, dict := some dx, data := .fields #[.ref t2, .none, .none, .none, .bool false, .none] }) (od := some oD) ⟨hx₃, rfl, rfl, hoD⟩ T.sa ?_
  have hw : Within (fun y => if y = ("code" : Str) then some v else none) ["code"] := fun y hy => by
    by_cases e : y = "code"
    · rw [e]; exact List.mem_cons_self ..
    · simp [e] at hy
  refine ESX.osa_old X₃ hx₃ hn₃ hw (by decide) hcl rfl rfl T.n2 (fun h₄ tk₄ k₄ hn₄ => ?_)
  show wpAny _ _ (execs _ _) _ _ _
  refine wpAny_execs_nil (hq h₄ tk₄ dx t2 ⟨fun b o hb e => k₄ b o ?_ (k₃ b o hb (k₂ b o hb (k b o e))), k₄ x _ (Ne.symm dne) hx₃, Nat.le_of_lt (Nat.lt_of_lt_of_le hlt dn), dne, hn₄⟩)
  intro z
  have : b < s.heap.objs.size := Heap.lt_size e
  rw [z] at this
  exact absurd (Nat.lt_of_lt_of_le (Nat.lt_trans this hlt) dn) (Nat.lt_irrefl _)
theorem fault_made (T : FaultTxt K mg C fI) {v v2 : Value} (X : K.In s.heap) (NM : Names mg s.heap) (hlim : s.heap.NoLimit) (hroom : A.depth + 1 < recursionLimit)
    (hq : ∀ h' tk e d, OwnMade s.heap h' e C d v v2 → R (.ok (.ret (.ref e))) { s with heap := h', toks := tk }) :
    codeAny (model prog w) A (.call (.ref C) ⟨[v, v2], []⟩) R s := by
  obtain ⟨nm, q, N, bs, sn, sub, ab, col, dd, k0, k1, k2, k3, k5, hC⟩ := T.cls
  obtain ⟨hp, g, dr, tk, os⟩ := s
  have k : ∀ b o, hp.get? b = some o → ((hp.push (kdv_tup [v, v2])).push (excO C hp.objs.size)).get? b = some o := fun b o e => Heap.get?_push_of_some _ (Heap.get?_push_of_some _ e)
  have hget : ((hp.push (kdv_tup [v, v2])).push (excO C hp.objs.size)).get? (hp.objs.size + 1) = some (excO C hp.objs.size) := by heap_get
  have hnx : K.lookup (hp.objs.size + 1) = none := by
    cases e : K.lookup (hp.objs.size + 1) with
    | none => rfl
    | some o =>
      have z : hp.get? (hp.objs.size + 1) = some o := X _ _ e
      exact absurd (Nat.lt_of_succ_lt (Heap.lt_size z)) (Nat.lt_irrefl _)
  refine call_own F.excBase_Exception (fun _ => rfl) (X _ _ hC) (looks_findIn X T.iC) (fun self => bind_fn X self T.tC) (two_size v v2) ?_
  refine fault_init (s := ⟨(hp.push (kdv_tup [v, v2])).push (excO C hp.objs.size), g, dr, tk, os⟩) T (X.keeps k) (NM.keeps k) (hlim.keeps k) hget hnx ?_ fun h' tk' dx t1 ⟨k', hx, dn, dne, hns⟩ => ?_
  · show A.depth + 1 < recursionLimit
    exact hroom
  · have old : ∀ b o, hp.get? b = some o → h'.get? b = some o := fun b o e => k' b o (Nat.ne_of_lt (Nat.lt_succ_of_lt (Heap.lt_size e))) (k b o e)
    have z : hp.objs.size + 1 + 1 ≤ dx := by
      first
        | (simpa only [Heap.size_push] using dn)
        | exact dn
        | (have q := dn; rw [Heap.size_push, Heap.size_push] at q; exact q)
    exact ⟨rfl, hq h' tk' (hp.objs.size + 1) dx ⟨old, Nat.le_succ _, ⟨_, _, hx, rfl, rfl, rfl, rfl⟩, Nat.le_trans (Nat.le_trans (Nat.le_succ _) (Nat.le_succ _)) z, dne, hns⟩⟩
end
end FX
open PySem PySem.Spec PyProof.Rows L2
/-- the fields of a fault -/
def faultF (v v2 : V) : List (Str × V) := [("place", v2), ("code", v)]
theorem relO_fault {v v2 : V} {u u2 : Value} (r : RelV v u) (r2 : RelV v2 u2) (f : Str) : RelO (List.lookup f (faultF v v2)) (if f = "place" then some u2 else if f = "code" then some u else none) := by
  unfold faultF
  by_cases h : f = "place"
  · subst h
    rw [if_pos rfl]
    have q : List.lookup ("place" : Str) [(("place" : Str), v2), ("code", v)] = some v2 := by simp [List.lookup]
    rw [q]
    exact r2
  · rw [if_neg h]
    have e1 : (f == ("place" : Str)) = false := by simpa using h
    by_cases h2 : f = "code"
    · subst h2
      rw [if_pos rfl]
      have q : List.lookup ("code" : Str) [(("place" : Str), v2), ("code", v)] = some v := by simp [List.lookup, e1]
      rw [q]
      exact r
    · rw [if_neg h2]
      have e2 : (f == ("code" : Str)) = false := by simpa using h2
      have q : List.lookup f [(("place" : Str), v2), ("code", v)] = none := by simp [List.lookup, e1, e2]
      rw [q]
      trivial
section
variable {X : Cx} {C fI : Addr}
/-- TableFault(code, place) -/
def tMkFault (C : Addr) (ta : TA) : L2.St → Hp → XK → Prop := fun σ H Q => ta σ H fun vs H1 => ∃ v v2, vs = [v, v2] ∧ ∀ d, H1 d = none → Q (.ref C) (some d) (upd H1 d (.xd (faultF v v2)))
theorem pmk_fault {a b : Expr} {ta : TA} {p pos : Pos} {k : Nat} (T : FX.FaultTxt X.K X.mg C fI) (hr : Room k X.A) (ha : PA X [a, b] ta) (hg : Gl X "TableFault" := by rfl)
    (he : starEach (a :: [b]) X.env = (false, eval a X.env) :: starEach [b] X.env := by rfl) (hpl : (backTo pos (starEach [b] X.env)).any (·.1) = false := by rfl) :
    PMk X (.Call (.Name "TableFault" p) [a, b] [] pos) (tMkFault C ta) := by
  intro pins s σ H Q I h
  refine wpAny_Call_Name_kw (ld_glob I hg T.gC ?_)
  refine PySem.W.callWith_K (h₀ := X.base) I.ok.mod.kin T.kC (thn (ha.run pos pins s σ H _ I h) fun us s1 hh => ?_) he hpl
  obtain ⟨vs, H1, I1, r1, v, v2, ev, q1⟩ := hh
  subst ev
  refine ⟨I1.kIn, ?_⟩
  obtain ⟨v', v2', rfl, rv, rv2⟩ := vals2 r1
  show wpAny _ _ (call (.ref C) [v', v2']) _ _ _
  have hlim := I1.nolimit
  obtain ⟨mb, hb1, hb2⟩ := I1.mod.blt
  have NM : FX.Names X.mg s1.heap := ⟨I1.mod.glob.keeps I1.bk, mb, hb1.keeps I1.bk, hb2⟩
  obtain ⟨hp, g, dr, tk, os⟩ := s1
  refine wpAny_call (FX.fault_made T I1.kIn NM hlim (by have := hr.dp; omega) fun h' tk' e d M => ?_)
  show MkP X pins σ Q (.ref e) ⟨h', g, dr, tk', os⟩
  obtain ⟨oe, fv, hoe, hc, hd, hdat, h1⟩ := M.obj
  have hns := M.ns
  obtain ⟨G', g1, g2⟩ := restrict h' fun b => decide (b ≠ e)
  have gk : ∀ b, b ≠ e → G'.get? b = h'.get? b := fun b hb => g1 b (decide_eq_true hb)
  have ge : G'.get? e = none := g2 e (by simp)
  have old : ∀ b o, hp.get? b = some o → G'.get? b = some o := fun b o q => (gk b (Nat.ne_of_lt (Nat.lt_of_lt_of_le (Heap.lt_size q) M.new))).trans (M.keep b o q)
  have ob : ObjOk X.prog X.w (upd H1 d (.xd (faultF v v2))) G' d (.xd (faultF v v2)) :=
    ⟨_, hns.at (fun o q => (gk d M.dne).trans q), fun f => relO_fault rv rv2 f⟩
  have J : Inv X pins σ (upd H1 d (.xd (faultF v v2))) ⟨G', g, dr, tk', os⟩ := I1.laid (t' := tk') old M.dbig ob
  refine ⟨e, oe, fv, ⟨G', g, dr, tk', os⟩, _, .ref C, some d, rfl, J, fun b o q => ?_, ge, hoe, ⟨hc, hd⟩, hdat, h1, ?_, rfl, I1.bare, raises_own T.exC T.tyC, q1 d (I1.hok.fresh M.dbig)⟩
  · by_cases hb : b = e
    · have q' : G'.get? b = some o := q
      rw [hb, ge] at q'; cases q'
    · exact (gk b hb).symm.trans q
  · rw [upd_ne (Ne.symm M.dne)]
    exact I1.hok.fresh M.new
/-- raise TableFault(code, place) -/
def tRaiseFault (C : Addr) (W : WX) (ta : TA) : TS := fun _ σ H => tMkFault C ta σ H fun cls d H' => W cls d σ H'
theorem ps_raiseFault {a b : Expr} {ta : TA} {W : WX} {p pos pos2 : Pos} {k : Nat} (hc : X.calm = true) (T : FX.FaultTxt X.K X.mg C fI) (hr : Room k X.A) (tk : Takes X W) (ha : PA X [a, b] ta) (hg : Gl X "TableFault" := by rfl)
    (he : starEach (a :: [b]) X.env = (false, eval a X.env) :: starEach [b] X.env := by rfl) (hpl : (backTo pos (starEach [b] X.env)).any (·.1) = false := by rfl) :
    PS X (.Raise (some (.Call (.Name "TableFault" p) [a, b] [] pos)) none pos2) (tRaiseFault C W ta) := ps_raise hc tk (pmk_fault T hr ha hg he hpl)
theorem FX.FaultTxt.xf {K : PySem.W.Frag} {mg : Str → Option Value} (T : FX.FaultTxt K mg C fI) : XfC K C := ⟨T.ga, T.gg, T.exC, T.hdC⟩
end
end SR
set_option Elab.async false
set_option linter.all false
set_option maxRecDepth 100000
set_option maxHeartbeats 2000000
/-! The program's text by places, and what its top has written. -/
namespace SR
open PySem PySem.Spec PyProof.Rows L2
/-- the i-th statement of the program -/
def top (i : Nat) : Stmt := PySem.Challenge.pw_sharesregrets_s01_answers.main.body.getD i (.Pass ⟨0, 0, 0, 0⟩)
section
variable (P : Program) (w : World) (K : PySem.W.Frag) (mg : Str → Option Value) (base : Heap)
/-- a def of the top that keeps a promise, as its callers need it -/
def Def (CX : CXT) (k : Nat) (name : Str) (ps : List Str) (sp : Sp) : Prop :=
  ∃ f fd, FnOk P w K mg base CX k f fd ps sp ∧ Binds K fd ps [] ∧ mg name = some (.ref f) ∧ PySem.W.keepIn K (.ref f) = true
/-- a method of the class at C -/
def MethOk (CX : CXT) (k : Nat) (C : Addr) (name : Str) (ps : List Str) (sp : Sp) : Prop :=
  ∃ f fd, FnOk P w K mg base CX k f fd ps sp ∧ Binds K fd ps [] ∧ Meth K C name f
/-- a class that is made by its __init__ -/
def MakeOk (k : Nat) (name : Str) (C : Addr) (ps : List Str) (sp : Sp) : Prop :=
  ∃ f fd, FnOk P w K mg base CX0 k f fd ps sp ∧ Binds K fd ps [] ∧ Mk K C f ∧ mg name = some (.ref C)
end
/-- a def of the top, as it stands in the written part -/
def FunG (K : PySem.W.Frag) (mg : Str → Option Value) (name : Str) (st : Stmt) : Prop := ∃ f fd, Fun K name name st f fd ∧ mg name = some (.ref f)
def FunM (K : PySem.W.Frag) (C : Addr) (name qual : Str) (st : Stmt) : Prop := ∃ f fd, Fun K name qual st f fd ∧ Meth K C name f
def FunI (K : PySem.W.Frag) (mg : Str → Option Value) (C : Addr) (cname qual : Str) (st : Stmt) : Prop := ∃ f fd, Fun K "__init__" qual st f fd ∧ Mk K C f ∧ mg cname = some (.ref C)
section
variable {P : Program} {w : World} {K : PySem.W.Frag} {mg : Str → Option Value} {base : Heap}
theorem FunG.def {CX : CXT} {name : Str} {st : Stmt} {ps : List Str} {sp : Sp} {k : Nat} (F : FunG K mg name st)
    (hb : ∀ (kV doc pm : Value) (an : Option Addr) (cdv ct : Value) (us : List Value), us.length = ps.length → bindArgs (PySem.W.fnOf name name (defArgs st) (defBody st) (defScope st) .none kV doc pm an cdv ct) ⟨us, []⟩ = pure (ps.zip us))
    (h : ∀ f fd, Fun K name name st f fd → FnOk P w K mg base CX k f fd ps sp) : Def P w K mg base CX k name ps sp := by
  obtain ⟨f, fd, F, hm⟩ := F
  exact ⟨f, fd, h f fd F, F.binds hb, hm, F.kp⟩
theorem FunM.def {CX : CXT} {C : Addr} {name qual : Str} {st : Stmt} {ps : List Str} {sp : Sp} {k : Nat} (F : FunM K C name qual st)
    (hb : ∀ (kV doc pm : Value) (an : Option Addr) (cdv ct : Value) (us : List Value), us.length = ps.length → bindArgs (PySem.W.fnOf name qual (defArgs st) (defBody st) (defScope st) .none kV doc pm an cdv ct) ⟨us, []⟩ = pure (ps.zip us))
    (h : ∀ f fd, Fun K name qual st f fd → FnOk P w K mg base CX k f fd ps sp) : MethOk P w K mg base CX k C name ps sp := by
  obtain ⟨f, fd, F, hm⟩ := F
  exact ⟨f, fd, h f fd F, F.binds hb, hm⟩
theorem FunI.def {C : Addr} {cname qual : Str} {st : Stmt} {ps : List Str} {sp : Sp} {k : Nat} (F : FunI K mg C cname qual st)
    (hb : ∀ (kV doc pm : Value) (an : Option Addr) (cdv ct : Value) (us : List Value), us.length = ps.length → bindArgs (PySem.W.fnOf "__init__" qual (defArgs st) (defBody st) (defScope st) .none kV doc pm an cdv ct) ⟨us, []⟩ = pure (ps.zip us))
    (h : ∀ f fd, Fun K "__init__" qual st f fd → FnOk P w K mg base CX0 k f fd ps sp) : MakeOk P w K mg base k cname C ps sp := by
  obtain ⟨f, fd, F, hm, g⟩ := F
  exact ⟨f, fd, h f fd F, F.binds hb, hm, g⟩
end
section
variable {X : Cx} {CX : CXT} {k : Nat} {C : Addr} {ps : List Str} {sp : Sp} {E : XK} {x m : Str} {p pos apos : Pos} {e o : Expr} {es : List Expr} {ta : TE} {t : TA}
/-- f(e, ..) -/
theorem cl (D : Def X.prog X.w X.K X.mg X.base CX k x ps sp) (hr : Room k X.A) (hx : Passes CX X E) (ha : PA X (e :: es) t) (hg : Gl X x := by rfl)
    (hdb : (x == ("__debug__" : Str)) = false := by decide) (he : starEach (e :: es) X.env = (false, eval e X.env) :: starEach es X.env := by rfl) (hpl : (backTo pos (starEach es X.env)).any (·.1) = false := by rfl) :
    PE X (.Call (.Name x p) (e :: es) [] pos) (tCall sp [] E t) := by
  obtain ⟨f, fd, G, b, hm, hk⟩ := D
  exact pe_call G hr hg hm hk b .nil hx ha hdb he hpl
/-- C(e, ..) and C() -/
theorem mk1 (D : MakeOk X.prog X.w X.K X.mg X.base k x C ps sp) (hr : Room (k + 1) X.A) (ha : PA X (e :: es) t) (hg : Gl X x := by rfl)
    (hdb : (x == ("__debug__" : Str)) = false := by decide) (he : starEach (e :: es) X.env = (false, eval e X.env) :: starEach es X.env := by rfl) (hpl : (backTo pos (starEach es X.env)).any (·.1) = false := by rfl) :
    PE X (.Call (.Name x p) (e :: es) [] pos) (tMake C sp [] E0 t) := by
  obtain ⟨f, fd, G, b, M, hm⟩ := D
  exact pe_make M G hr hg hm b .nil pass0 ha hdb he hpl
theorem mk0 (D : MakeOk X.prog X.w X.K X.mg X.base k x C ps sp) (hr : Room (k + 1) X.A) (hg : Gl X x := by rfl)
    (hdb : (x == ("__debug__" : Str)) = false := by decide) : PE X (.Call (.Name x p) [] [] pos) (tMake C sp [] E0 tNil) := by
  obtain ⟨f, fd, G, b, M, hm⟩ := D
  exact pe_make0 M G hr hg hm b .nil pass0 hdb
/-- o.m(e, ..) and o.m() -/
theorem me1 {pl : Sem Bool} (he : PE X o ta) (c : Cls X.K C) (D : MethOk X.prog X.w X.K X.mg X.base CX k C m ps sp) (hr : Room k X.A) (hx : Passes CX X E) (ha : PA X (e :: es) t)
    (hst : starEach (e :: es) X.env = (false, eval e X.env) :: starEach es X.env := by rfl) (hpl : (backTo pos (starEach es X.env)).any (·.1) = false := by rfl)
    (ht : eval (.Call (.Attribute o m apos) (e :: es) [] pos) X.env = (do
      let ov ← eval o X.env
      standAt apos.atName
      let (f, first) ← holding [ov] (getMethod ov m pl)
      callWith pos f first (backTo pos (starEach (e :: es) X.env)) (backToKw pos (keywordEach [] X.env))) := by rfl) :
    PE X (.Call (.Attribute o m apos) (e :: es) [] pos) (tMeth C m sp [] E ta t) := by
  obtain ⟨f, fd, G, b, M⟩ := D
  exact pe_meth he c M G hr b .nil hx ha hst hpl ht
theorem me0 {pl : Sem Bool} (he : PE X o ta) (c : Cls X.K C) (D : MethOk X.prog X.w X.K X.mg X.base CX k C m ps sp) (hr : Room k X.A) (hx : Passes CX X E)
    (ht : eval (.Call (.Attribute o m apos) [] [] pos) X.env = (do
      let ov ← eval o X.env
      standAt apos.atName
      let (f, first) ← holding [ov] (getMethod ov m pl)
      callWith pos f first (backTo pos (starEach [] X.env)) (backToKw pos (keywordEach [] X.env))) := by rfl) :
    PE X (.Call (.Attribute o m apos) [] [] pos) (tMeth C m sp [] E ta tNil) := by
  obtain ⟨f, fd, G, b, M⟩ := D
  exact pe_meth0 he c M G hr b .nil hx ht
/-- a module's constant: a whole number, a text -/
def GInt (mg : Str → Option Value) (x : Str) (i : Int) : Prop := ∃ t, mg x = some (.int i t)
def GStr (mg : Str → Option Value) (x : Str) (s : Str) : Prop := ∃ t, mg x = some (.str s t)
theorem gi {i : Int} (h : GInt X.mg x i) (hg : Gl X x := by rfl) (hd : (x == ("__debug__" : Str)) = false := by decide) : PE X (.Name x pos) (tC (.int i)) := by
  obtain ⟨t, h⟩ := h
  exact pe_glob hg h ⟨t, rfl⟩ hd
theorem gs {i : Str} (h : GStr X.mg x i) (hg : Gl X x := by rfl) (hd : (x == ("__debug__" : Str)) = false := by decide) : PE X (.Name x pos) (tC (.str i)) := by
  obtain ⟨t, h⟩ := h
  exact pe_glob hg h ⟨t, rfl⟩ hd
theorem gref {a : Addr} (h : X.mg x = some (.ref a)) (hg : Gl X x := by rfl) (hd : (x == ("__debug__" : Str)) = false := by decide) : PE X (.Name x pos) (tC (.ref a)) := pe_glob hg h rfl hd
end
/-- Python's own names as they are -/
structure Bn (mg : Str → Option Value) : Prop where
  len : mg "len" = none
  range : mg "range" = none
  tuple : mg "tuple" = none
  enumerate : mg "enumerate" = none
  min : mg "min" = none
  sum : mg "sum" = none
  ord : mg "ord" = none
  str : mg "str" = none
  int : mg "int" = none
  sorted : mg "sorted" = none
  set : mg "set" = none
  zip : mg "zip" = none
  list : mg "list" = none
end SR
set_option Elab.async false
set_option linter.all false
set_option maxRecDepth 100000
set_option maxHeartbeats 2000000
/-! Heaps, lists of numbers, loops: what the bodies want again and again. -/
namespace SR
open PySem PySem.Spec PyProof.Rows L2
/-! ### numbers -/
theorem bAnd (a b : Nat) : Builtin.bitAnd (a : Int) (b : Int) = ((a &&& b : Nat) : Int) := by
  unfold Builtin.bitAnd
  rw [decide_eq_true (Int.natCast_nonneg a), decide_eq_true (Int.natCast_nonneg b)]
  rfl
theorem bOr (a b : Nat) : Builtin.bitOr (a : Int) (b : Int) = ((a ||| b : Nat) : Int) := Bits.bitOr_pp (Int.natCast_nonneg a) (Int.natCast_nonneg b)
theorem bXor (a b : Nat) : Builtin.bitXor (a : Int) (b : Int) = ((a ^^^ b : Nat) : Int) := Bits.bitXor_pp (Int.natCast_nonneg a) (Int.natCast_nonneg b)
theorem shr_nat (a j : Nat) : (a : Int) / 2 ^ ((j : Int)).toNat = ((a / 2 ^ j : Nat) : Int) := by
  rw [Int.toNat_natCast]
  rw [Int.natCast_ediv]
  simp
theorem shl_nat (a j : Nat) : (a : Int) * 2 ^ ((j : Int)).toNat = ((a * 2 ^ j : Nat) : Int) := by
  rw [Int.toNat_natCast]
  simp
/-- a >> j & 1 -/
theorem bit_nat (a j : Nat) : Builtin.bitAnd ((a : Int) / 2 ^ ((j : Int)).toNat) 1 = ((a / 2 ^ j % 2 : Nat) : Int) := by
  rw [shr_nat]
  have := bAnd (a / 2 ^ j) 1
  rw [Nat.and_one_is_mod] at this
  exact this
theorem bit_truth (a j : Nat) : (((a / 2 ^ j % 2 : Nat) : Int) != 0) = decide (a / 2 ^ j % 2 = 1) := by
  rcases Nat.mod_two_eq_zero_or_one (a / 2 ^ j) with h | h <;> rw [h] <;> rfl
theorem line_eq : (sizeLine : Nat) = 16777216 := sizeLine_eq
theorem min_ints (a b : Nat) : (if ((b : Nat) : Int) < ((a : Nat) : Int) then ((b : Nat) : Int) else ((a : Nat) : Int)) = ((Nat.min a b : Nat) : Int) := by
  show _ = ((min a b : Nat) : Int)
  split <;> omega
/-! ### heaps -/
theorem _root_.L2.Same.put {H H' : Hp} {p : Addr} {o : HO} (e : Same H H') (h : H p = none) : Same H (upd H' p o) := fun b u q => by
  rw [upd_ne (ne_of_none q h)]
  exact e b u q
theorem _root_.L2.Same.new {H : Hp} {p : Addr} {o : HO} (h : H p = none) : Same H (upd H p o) := (Same.refl H).put h
theorem _root_.L2.Same.put2 {H H' : Hp} {p : Addr} {o : HO} (e : Same H H') (h : H' p = none) : Same H (upd H' p o) := e.put (e.free h)
theorem _root_.L2.Same.tup {K : PySem.W.Frag} {H H' : Hp} {a : Addr} {xs : List V} (e : Same H H') (h : SqT K H a xs) : SqT K H' a xs := by
  rcases h with (h | ⟨o, h⟩) | h
  · exact .inl (.inl (e _ _ h))
  · exact .inl (.inr ⟨o, e _ _ h⟩)
  · exact .inr h
/-! ### lists of numbers -/
abbrev iv (l : List Nat) : List V := l.map fun n => V.int (n : Nat)
theorem iv_int (l : List Nat) : iv l = (l.map fun n => ((n : Nat) : Int)).map V.int := by
  rw [List.map_map]
  rfl
theorem iv_get {l : List Nat} {i : Nat} (h : i < l.length) : atI (iv l) (i : Int) = some (V.int ((l.getD i 0 : Nat) : Int)) := by
  refine at_of rfl ?_
  rw [List.getElem?_map, List.getElem?_eq_getElem h, List.getD_eq_getElem?_getD, List.getElem?_eq_getElem h]
  rfl
theorem iv_at {l : List Nat} {i : Nat} {x : V} (h : (iv l)[i]? = some x) : i < l.length ∧ x = V.int ((l.getD i 0 : Nat) : Int) := by
  rw [List.getElem?_map] at h
  rw [List.getD_eq_getElem?_getD]
  cases e : l[i]? with
  | none => rw [e] at h; cases h
  | some n =>
    rw [e] at h
    cases h
    exact ⟨(List.getElem?_eq_some_iff.mp e).1, rfl⟩
theorem refs_at {l : List Addr} {i : Nat} {x : V} (h : (l.map V.ref)[i]? = some x) : ∃ p, l[i]? = some p ∧ x = .ref p := by
  rw [List.getElem?_map] at h
  cases e : l[i]? with
  | none => rw [e] at h; cases h
  | some n =>
    rw [e] at h
    cases h
    exact ⟨n, rfl, rfl⟩
theorem take_succ' {α : Type} {l : List α} {i : Nat} {x : α} (h : l[i]? = some x) : l.take (i + 1) = l.take i ++ [x] := by
  rw [List.take_add_one, h]
  rfl
/-! ### a comprehension: after i turns the new list holds r i, all else stands -/
def LcP (H : Hp) (D : Addr) (r : Nat → List V) (i : Nat) (H' : Hp) : Prop := Same H H' ∧ H' D = some (.lst (r i))
section
variable {J : It} {n : Nat} {G : Hp → Prop} {Y : Nat → Hp → V → Hp → Prop} {H H' H'' : Hp} {D : Addr} {r : Nat → List V} {i : Nat} {y : V}
theorem lc_go (wk : Walk J n G Y) (r : Nat → List V) (h0 : r 0 = []) (hD : H D = none) (hG : ∀ H', Same H H' → G H') {g : TG} {tt : TT} {te : TE} {vs : List Nat} {σ : L2.St} {Qd : Hp → Prop}
    (hs : ∀ i x H' H'', i < n → LcP H D r i H' → Y i H' x H'' → g x (wipe σ vs) H'' fun σ2 H2 => wipe σ2 vs = wipe σ vs ∧ tt σ2 H2 fun b H3 =>
      if b = true then te σ2 H3 fun y H4 => ∃ acc, H4 D = some (.lst acc) ∧ acc.length < sizeLine ∧ LcP H D r (i + 1) (upd H4 D (.lst (acc ++ [y]))) else LcP H D r (i + 1) H3) (hd : ∀ H', LcP H D r n H' → Qd H') :
    ∃ W : Nat → Nat → Hp → Prop, (∃ m, W 0 m (upd H D (.lst []))) ∧ ∀ i m H, W i m H →
      (J.stop i H ∧ Qd H) ∨ (J.go i H ∧ ∃ Nx : Hp → Prop, (∀ H', Nx H' → ∃ m', m' < m ∧ W (i + 1) m' H') ∧ ∀ x H', J.yld i H x H' → g x (wipe σ vs) H' fun σ2 H2 => wipe σ2 vs = wipe σ vs ∧ tt σ2 H2 fun b H3 =>
        if b = true then te σ2 H3 fun y H4 => ∃ acc, H4 D = some (.lst acc) ∧ acc.length < sizeLine ∧ Nx (upd H4 D (.lst (acc ++ [y]))) else Nx H3) :=
  lc_it wk (LcP H D r) ⟨Same.new hD, by rw [upd_same, h0]⟩ (fun i H' _ h => hG H' h.1) hs hd
/-- one item more -/
theorem lc_put (hD : H D = none) (h : LcP H D r i H') (e : Same H' H'') (hr : r (i + 1) = r i ++ [y]) (hl : (r i).length < sizeLine) :
    ∃ acc, H'' D = some (.lst acc) ∧ acc.length < sizeLine ∧ LcP H D r (i + 1) (upd H'' D (.lst (acc ++ [y]))) :=
  ⟨r i, e _ _ h.2, hl, (h.1.trans e).put hD, by rw [upd_same, hr]⟩
theorem lc_skip (h : LcP H D r i H') (e : Same H' H'') (hr : r (i + 1) = r i) : LcP H D r (i + 1) H'' := ⟨h.1.trans e, by rw [hr]; exact e _ _ h.2⟩
end
/-- the first i of f 0, f 1, .. -/
def upTo (f : Nat → V) (i : Nat) : List V := (List.range i).map f
theorem upTo_succ (f : Nat → V) (i : Nat) : upTo f (i + 1) = upTo f i ++ [f i] := by
  unfold upTo
  rw [List.range_succ, List.map_append]
  rfl
theorem upTo_len (f : Nat → V) (i : Nat) : (upTo f i).length = i := by simp [upTo]
/-- those of the first i that a test takes -/
def someOf (b : Nat → Bool) (f : Nat → V) (i : Nat) : List V := ((List.range i).filter b).map f
theorem someOf_yes {b : Nat → Bool} {f : Nat → V} {i : Nat} (h : b i = true) : someOf b f (i + 1) = someOf b f i ++ [f i] := by
  unfold someOf
  rw [List.range_succ, List.filter_append, List.map_append]
  simp [h]
theorem someOf_no {b : Nat → Bool} {f : Nat → V} {i : Nat} (h : b i = false) : someOf b f (i + 1) = someOf b f i := by
  unfold someOf
  rw [List.range_succ, List.filter_append, List.map_append]
  simp [h]
theorem someOf_len (b : Nat → Bool) (f : Nat → V) (i : Nat) : (someOf b f i).length ≤ i := by
  unfold someOf
  rw [List.length_map]
  exact Nat.le_trans (List.length_filter_le _ _) (by simp)
/-! ### tests -/
theorem if_t {c : Bool} {A B : Prop} (hc : c = true) (h : A) : if c = true then A else B := by
  rw [if_pos hc]
  exact h
theorem if_f {c : Bool} {A B : Prop} (hc : c = false) (h : B) : if c = true then A else B := by
  rw [hc, if_neg Bool.false_ne_true]
  exact h
theorem if_b {c : Bool} {A B : Prop} (h1 : c = true → A) (h2 : c = false → B) : if c = true then A else B := by
  cases c with
  | true => exact if_t rfl (h1 rfl)
  | false => exact if_f rfl (h2 rfl)
theorem if_d {c : Prop} [Decidable c] {A B : Prop} (h1 : c → A) (h2 : ¬ c → B) : if decide c = true then A else B :=
  if_b (fun h => h1 (of_decide_eq_true h)) (fun h => h2 (of_decide_eq_false h))
/-! ### the table in the heap -/
/-- a text of bytes -/
def tx (b : VamvsBase.Bytes) : Str := ⟨(b.map (·.toNat)).toArray⟩
def RowAt (H : Hp) (p : Addr) (r : Vamvsa.Row) : Prop := ∃ tp, H p = some (.tup [.ref tp, .int r.m]) ∧ H tp = some (.tup (iv r.vs))
def AskAt (H : Hp) (p : Addr) (a : Vamvsa.Ask) : Prop := H p = some (.tup [.int (a.g : Nat), .int (a.k : Nat)])
structure AllAt {α : Type} (A : Hp → Addr → α → Prop) (H : Hp) (ps : List Addr) (l : List α) : Prop where
  len : ps.length = l.length
  at_ : ∀ (i : Nat) (p : Addr) (x : α), ps[i]? = some p → l[i]? = some x → A H p x
def tabF (c r q : Addr) : List (Str × V) := [("columns", .ref c), ("rows", .ref r), ("questions", .ref q)]
structure TblAt (CT : Addr) (H : Hp) (a : Addr) (t : Vamvsa.Table) : Prop where
  ex : ∃ (dx c r q : Addr) (rs qs : List Addr), H a = some (.ins CT dx (tabF c r q)) ∧ H c = some (.lst (t.cols.map fun b => .str (tx b))) ∧ H r = some (.lst (rs.map V.ref)) ∧ H q = some (.lst (qs.map V.ref)) ∧
    AllAt RowAt H rs t.rows ∧ AllAt AskAt H qs t.asks
theorem AllAt.same {α : Type} {A : Hp → Addr → α → Prop} (hA : ∀ H H' p x, Same H H' → A H p x → A H' p x) {H H' : Hp} {ps : List Addr} {l : List α} (e : Same H H') (h : AllAt A H ps l) : AllAt A H' ps l :=
  ⟨h.len, fun i p x h1 h2 => hA H H' p x e (h.at_ i p x h1 h2)⟩
theorem RowAt.same (H H' : Hp) (p : Addr) (r : Vamvsa.Row) (e : Same H H') (h : RowAt H p r) : RowAt H' p r := by
  obtain ⟨tp, h1, h2⟩ := h
  exact ⟨tp, e _ _ h1, e _ _ h2⟩
theorem AskAt.same (H H' : Hp) (p : Addr) (r : Vamvsa.Ask) (e : Same H H') (h : AskAt H p r) : AskAt H' p r := e _ _ h
theorem TblAt.same {CT : Addr} {H H' : Hp} {a : Addr} {t : Vamvsa.Table} (e : Same H H') (h : TblAt CT H a t) : TblAt CT H' a t := by
  obtain ⟨dx, c, r, q, rs, qs, h1, h2, h3, h4, h5, h6⟩ := h.ex
  exact ⟨dx, c, r, q, rs, qs, e _ _ h1, e _ _ h2, e _ _ h3, e _ _ h4, h5.same RowAt.same e, h6.same AskAt.same e⟩
theorem lk_here {k : Str} {v : V} {r : List (Str × V)} : List.lookup k ((k, v) :: r) = some v := by
  have e : (k == k) = true := beq_self_eq_true k
  simp only [List.lookup, e]
theorem lk_past {k g : Str} {v : V} {r : List (Str × V)} (h : (k == g) = false) : List.lookup k ((g, v) :: r) = List.lookup k r := by
  simp only [List.lookup, h]
theorem put_here {f : Str} {v x : V} {r : List (Str × V)} : putF f v ((f, x) :: r) = (f, v) :: r := if_pos rfl
theorem put_past {f g : Str} {v x : V} {r : List (Str × V)} (h : ¬ g = f) : putF f v ((g, x) :: r) = (g, x) :: putF f v r := if_neg h
theorem tabF_c (c r q : Addr) : (tabF c r q).lookup ("columns" : Str) = some (.ref c) := lk_here
theorem tabF_r (c r q : Addr) : (tabF c r q).lookup ("rows" : Str) = some (.ref r) := (lk_past (by decide +kernel)).trans lk_here
theorem tabF_q (c r q : Addr) : (tabF c r q).lookup ("questions" : Str) = some (.ref q) := (lk_past (by decide +kernel)).trans ((lk_past (by decide +kernel)).trans lk_here)
/-- what the top has written of Table -/
structure TabC (K : PySem.W.Frag) (CT : Addr) : Prop where
  cl : Cls K CT
  nc : NoAttr K CT "columns"
  nr : NoAttr K CT "rows"
  nq : NoAttr K CT "questions"
/-! ### shorter readings -/
theorem _root_.L2.PE.weak {X : Cx} {e : Expr} {t t' : TE} (h : PE X e t) (k : ∀ σ H Q, t' σ H Q → t σ H Q) : PE X e t' := ⟨fun pins s σ H Q I q => h.run pins s σ H Q I (k σ H Q q)⟩
theorem _root_.L2.PT.weak {X : Cx} {e : Expr} {t t' : TT} (h : PT X e t) (k : ∀ σ H Q, t' σ H Q → t σ H Q) : PT X e t' := ⟨fun pins s σ H Q I q => h.run pins s σ H Q I (k σ H Q q)⟩
/-- x >> y & 1 of two names that hold whole numbers, not below 0 -/
def tBit (i j : Nat) : TE := fun σ H Q => ∃ g k : Nat, σ[i]? = some (some (.int (g : Nat))) ∧ σ[j]? = some (some (.int (k : Nat))) ∧ Q (.int ((g / 2 ^ k % 2 : Nat) : Int)) H
def tBitT (i j : Nat) : TT := fun σ H Q => ∃ g k : Nat, σ[i]? = some (some (.int (g : Nat))) ∧ σ[j]? = some (some (.int (k : Nat))) ∧ Q (decide (g / 2 ^ k % 2 = 1)) H
section
variable {X : Cx}
theorem pe_bit (i j : Nat) {x y : Str} {p1 p2 p3 p4 p5 : Pos} {q : Nat} (hx : PE X (.Name x p1) (tVar i)) (hy : PE X (.Name y p2) (tVar j)) : PE X (.BinOp (.BinOp (.Name x p1) .RShift (.Name y p2) p3) .BitAnd (.Constant (.int 1) q p4) p5) (tBit i j) :=
  (pe_op op_and (pe_op op_shr hx hy) pe_int).weak fun σ H Q ⟨g, k, h1, h2, h3⟩ => ⟨_, h1, _, h2, (g : Int), (k : Int), rfl, rfl, Int.natCast_nonneg k, _, 1, rfl, rfl, by show Q (.int (Builtin.bitAnd ((g : Int) / 2 ^ ((k : Int)).toNat) 1)) H; rw [bit_nat]; exact h3⟩
theorem pt_bit (i j : Nat) {x y : Str} {p1 p2 p3 p4 p5 : Pos} {q : Nat} (hx : PE X (.Name x p1) (tVar i)) (hy : PE X (.Name y p2) (tVar j)) : PT X (.BinOp (.BinOp (.Name x p1) .RShift (.Name y p2) p3) .BitAnd (.Constant (.int 1) q p4) p5) (tBitT i j) :=
  (pt_truth (pe_bit i j hx hy) (by intro _; rfl)).weak fun σ H Q ⟨g, k, h1, h2, h3⟩ => ⟨g, k, h1, h2, _, (bit_truth g k).symm, h3⟩
end
end SR
set_option Elab.async false
set_option linter.all false
set_option maxRecDepth 100000
set_option maxHeartbeats 2000000
/-! enumerate of a tuple. -/
namespace SR
open PySem PySem.Spec PyProof.Rows L2
open AutoSeq1 (wpAny_loadPart')
theorem enum_new_tup (t : Addr) (its : Array Value) (n : Nat) (dd : Option Addr) (sl : Array (Option Value)) :
    Meets (Builtin.«enumerate.__new__» ⟨[.type "enumerate", .ref t], []⟩) (fun _ R s => s.heap.get? t = some ⟨.type "tuple", dd, .seq its n, sl⟩ ∧
      R (.ok (.ret (.ref (s.heap.push { cls := .type "tuple_iterator", data := .fields #[.ref t, .int 0 0] }).objs.size)))
        { s with heap := (s.heap.push { cls := .type "tuple_iterator", data := .fields #[.ref t, .int 0 0] }).push { cls := .type "enumerate", data := .fields #[.none, .bool false, .ref s.heap.objs.size, rawInt 0, .none, .none] } }) := by
  refine .of_wp fun prog w A R s h => ?_
  obtain ⟨hp, g, d, tk, os⟩ := s
  obtain ⟨ht, h⟩ := h
  have se := sub_enumerate
  have hT : Heap.IsTuple (Shared.heap ⟨hp, g, d, tk, os⟩) t its := ⟨_, ht, rfl, n, rfl⟩
  wp_walk using wpAny_loadPart' ht
  refine wpAny_stack_any fun st => wpAny_pure ?_
  split
  case h_1 c _ _ _ _ _ =>
    cases (c == Value.type "enumerate") <;> (wp_walk using wpAny_loadPart' ht, wpAny_pyIter_tuple hT; exact ⟨_, rfl, h⟩)
  case h_2 =>
    wp_walk using wpAny_loadPart' ht, wpAny_pyIter_tuple hT
    exact ⟨_, rfl, h⟩
section
variable {prog : Program} {w : World} {A : Around} {E : Value → Shared → Prop} {s : Shared}
theorem call_enum_tup {t : Addr} {its : Array Value} {Q : Value → Shared → Prop} (hT : s.heap.IsTuple t its)
    (h : ∀ h', IsEnum h' (s.heap.objs.size + 1) s.heap.objs.size 0 .none → h'.IsTupleIter s.heap.objs.size t 0 → (∀ b o, s.heap.get? b = some o → h'.get? b = some o) → Q (.ref (s.heap.objs.size + 1)) { s with heap := h' }) :
    wpAny (model prog w) A (call (.type "enumerate") [.ref t]) Q E s := by
  obtain ⟨⟨c, dd, dt, sl⟩, ht, hc, n, hd⟩ := hT
  simp only at hc hd
  subst hc hd
  refine callType_new F.called_enumerate (by decide) (F.typeCall_enumerate_1 _) (F.newCall_enumerate_1 _) (fun obj => F.args_object_init_2 obj _) F.entry_enumerate_new (enum_new_tup t its n dd sl) ⟨ht, ?_⟩
  generalize hg : s.heap.push { cls := .type "tuple_iterator", data := .fields #[.ref t, .int 0 0] } = g1
  have hz : g1.objs.size = s.heap.objs.size + 1 := by rw [← hg]; exact Heap.size_push ..
  have hi : g1.get? s.heap.objs.size = some { cls := .type "tuple_iterator", data := .fields #[.ref t, .int 0 0] } := by rw [← hg]; exact Heap.get?_push_size _ rfl
  have hk : ∀ b o, s.heap.get? b = some o → g1.get? b = some o := fun b o x => by rw [← hg]; exact Heap.get?_push_of_some _ x
  show _ ∧ _
  rw [hz]
  have he : IsEnum (g1.push { cls := .type "enumerate", data := .fields #[.none, .bool false, .ref s.heap.objs.size, rawInt 0, .none, .none] }) (s.heap.objs.size + 1) s.heap.objs.size 0 .none := by
    have q := Heap.get?_push_size g1 (o := { cls := .type "enumerate", data := .fields #[.none, .bool false, .ref s.heap.objs.size, rawInt 0, .none, .none] }) rfl
    rw [hz] at q
    exact q
  exact ⟨⟨_, he, rfl⟩, h _ he ⟨_, Heap.get?_push_of_some _ hi, rfl, rfl⟩ fun b o x => Heap.get?_push_of_some _ (hk b o x)⟩
end
/-- the tuple at a, each item in a new pair -/
def Itet (K : PySem.W.Frag) (a : Addr) : It :=
  ⟨fun i H => ∃ (xs : List V) (x : V), SqT K H a xs ∧ xs[i]? = some x, fun i H v H' => ∃ T x, v = .ref T ∧ H T = none ∧ H' = upd H T (.tup [.int (i : Nat), x]) ∧ ∀ xs, SqT K H a xs → xs[i]? = some x, fun i H => ∃ xs : List V, SqT K H a xs ∧ xs.length ≤ i⟩
theorem tup_apart {h : Heap} {a b : Addr} {its : Array Value} {o : Obj} (ht : h.IsTuple a its) (hb : h.get? b = some o) (hc : o.cls ≠ .type "tuple") : b ≠ a := fun z => by
  obtain ⟨o', e, c, _⟩ := ht
  rw [z, e] at hb
  exact hc (by rw [← Option.some.inj hb]; exact c)
theorem turn_enum_tup {P : Program} {w : World} {K : PySem.W.Frag} {elts : List Expr} {kk : Nat} {tpos : Pos} (a e it : Addr) :
    Turn P w K (.Tuple elts kk tpos) (Itet K a) [e, it] e (fun i h => (∃ old, IsEnum h e it ((i : Nat) : Int) old) ∧ h.IsTupleIter it a i ∧ e ≠ it) where
  mem := List.mem_cons_self ..
  obj := fun i h st b hb => by
    obtain ⟨⟨old, he⟩, ⟨o, ho, hc, hd⟩, _⟩ := st
    rcases List.mem_cons.mp hb with z | z
    · rw [z]; exact ⟨_, he, fun v q => nomatch q⟩
    · rw [List.mem_singleton.mp z]; exact ⟨o, ho, fun v q => by rw [hd] at q; cases q⟩
  keep := fun i h h' st k => let ⟨⟨old, he⟩, hi, hne⟩ := st; ⟨⟨old, k e (by simp) _ he⟩, hi.at fun o q => k it (by simp) o q, hne⟩
  item := by
    intro X hP hw hK hc i pins s σ H E I hf st hg
    subst hP hw hK
    obtain ⟨⟨old, he⟩, hit, hne⟩ := st
    obtain ⟨xs, x, hq, hx⟩ := hg
    obtain ⟨its, rv, p, hz⟩ := I.tuple hq
    have pt : s.heap.IsTuple a its.toArray := p
    obtain ⟨u, hu, ru⟩ := rv.get hx
    have hel : e < s.heap.objs.size := Heap.lt_size he
    have hil : it < s.heap.objs.size := by obtain ⟨_, q, _⟩ := hit; exact Heap.lt_size q
    have ea : e ≠ a := tup_apart pt he (show Value.type "enumerate" ≠ Value.type "tuple" by decide)
    have ia : it ≠ a := by
      obtain ⟨o, ho, hc2, _⟩ := hit
      exact tup_apart pt ho (by rw [hc2]; decide)
    have hi : i < its.toArray.size := by simpa using (List.getElem?_eq_some_iff.mp hu).1
    refine wpAny_pyNext_enum_itemD (Draws.tuple (A := X.A.in1) (show X.A.handled = none from I.ok.hd hc) it a (Ne.symm ia) its.toArray) he ⟨hit, pt⟩ hi hne (by simp [hne, ea]) fun u2 h' tk hP2 ho hst hT hsz hk => ?_
    obtain rfl : u = u2 := by
      rw [List.getElem?_toArray, hu] at hP2
      exact Option.some.inj hP2
    refine ⟨_, rfl, wpAny_letOwnedTupleGo_enum (s := { s with heap := h', toks := tk + 1 }) ho fun h'' he' sb => ?_⟩
    have hT2 : h''.get? s.heap.objs.size = some { cls := .type "tuple", data := .seq #[.int i tk, u] } := (sb.2 _ (Nat.ne_of_gt hel)).trans hT
    have new : ObjOk X.prog X.w (upd H s.heap.objs.size (.tup [.int (i : Nat), x])) h'' s.heap.objs.size (.tup [.int (i : Nat), x]) :=
      ⟨by show 2 ≤ sizeLine; decide, [.int i tk, u], .cons ⟨_, rfl⟩ (.cons ru .nil), ⟨_, hT2, rfl, _, rfl⟩⟩
    have I1 : Inv X pins σ (upd H s.heap.objs.size (.tup [.int (i : Nat), x])) { s with heap := h'', toks := tk + 1 } :=
      I.turnedNew (ch := [e, it]) (fun b ob hb q => (sb.2 b (fun z => hb (by simp [z]))).trans (hk b ob (fun z => hb (by simp [z])) (fun z => hb (by simp [z])) q)) hf (Nat.le_refl _) new
    refine ⟨.ref s.heap.objs.size, _, I1, rfl, ⟨_, x, rfl, I.hok.fresh (Nat.le_refl _), rfl, fun ys hy => by rw [I.tuple_inj hy hq]; exact hx⟩, ⟨⟨u, ?_⟩, hst.1.at fun o q => (sb.2 it (Ne.symm hne)).trans q, hne⟩, fun b hb => ?_⟩
    · have e1 : ((i + 1 : Nat) : Int) = (i : Int) + 1 := by omega
      rw [e1]
      exact he'
    · have hb' : b < s.heap.objs.size := by
        rcases List.mem_cons.mp hb with z | z
        · rw [z]; exact hel
        · rw [List.mem_singleton.mp z]; exact hil
      rw [upd_ne (Nat.ne_of_lt hb')]
      exact (hf b hb).1
  done := by
    intro X hP hw hK hc i pins s σ H E I hf st hg
    subst hP hw hK
    obtain ⟨⟨old, he⟩, hit, hne⟩ := st
    obtain ⟨xs, hq, hx⟩ := hg
    obtain ⟨its, rv, p, hz⟩ := I.tuple hq
    have pt : s.heap.IsTuple a its.toArray := p
    obtain ⟨f0, f1, f2, f3, f4, f5⟩ := hf it (by simp)
    have hl := rv.length
    have ia : it ≠ a := by
      obtain ⟨o, ho, hc2, _⟩ := hit
      exact tup_apart pt ho (by rw [hc2]; decide)
    have hT : s.TypeIs (.ref e) "enumerate" := ⟨_, he, rfl⟩
    unfold pyNext
    refine wpAny_bind (wpAny_attempt (wpAny_callSpecial?_slot (name := Str.ofString "__next__") hT F.slot_enumerate_next (wpAny_call_entry F.slot_enumerate_next hT F.entry_enumerate_next ?_ (F.args_enumerate_next_1 _))))
    show wpAny _ _ (field (.ref e) 2 >>= _) _ _ _
    refine wpAny_bind (wpAny_field he rfl (x := .ref it) rfl (wpAny_bind (wpAny_nextOf_tuple_end (A := X.A.in1) (show X.A.handled = none from I.ok.hd hc) hit pt (by simp; omega) fun h' x eb hx' => ?_)))
    obtain ⟨o, ho, hc'⟩ := hx'
    refine wpAny_bind (wpAny_isInstance (T := "StopIteration") (b := true) ⟨o, ho, hc'⟩ isSubtype_stop (wpAny_pure ?_))
    exact ⟨rfl, I.turned (t' := s.toks) (fun b o hb q => eb b o hb q) f0 f1 f3 f4 f5⟩
  self := fun A i s Q E st h => let ⟨⟨_, he⟩, _⟩ := st; wpAny_pyIter_enum he h
def iEnumT (K : PySem.W.Frag) (ta : TA) : TI := fun σ H R => ta σ H fun vs H1 => ∃ a xs, vs = [.ref a] ∧ SqT K H1 a xs ∧ R (Itet K a) H1
theorem pi_enumT {X : Cx} {e : Expr} {ta : TA} {p pos tpos : Pos} {elts : List Expr} {kk : Nat} (hg : Gl X "enumerate") (hm : X.mg "enumerate" = none) (ha : PA X [e] ta) (hs : starEach [e] X.env = [(false, eval e X.env)] := by rfl) :
    PI X (.Tuple elts kk tpos) (.Call (.Name "enumerate" p) [e] [] pos) (iEnumT X.K ta) := by
  refine ⟨fun pins s σ H R I h => Call_ (ld_blt I hg hm boot_enumerate (PyProof.Rows.callWith_type1 (thn (ha.run pos pins s σ H _ I h) fun us s1 ⟨vs, H1, I1, r1, q1⟩ => ?_) hs rfl))⟩
  obtain ⟨a, xs, rfl, hq, q⟩ := q1
  obtain rfl := Vals.ref1 r1
  obtain ⟨its, rv, p', hz⟩ := I1.tuple hq
  refine call_enum_tup (show s1.heap.IsTuple a its.toArray from p') fun h' he hit hk => wpAny_pyIter_enum he ?_
  have I2 : Inv X pins σ H1 { s1 with heap := h' } := I1.kept (t' := s1.toks) hk
  refine ⟨s1.heap.objs.size + 1, [s1.heap.objs.size + 1, s1.heap.objs.size], _, _, H1, rfl, I2, turn_enum_tup a (s1.heap.objs.size + 1) s1.heap.objs.size, ⟨⟨.none, he⟩, hit, Nat.succ_ne_self _⟩, fun b hb => ?_, q⟩
  have hle : s1.heap.objs.size ≤ b := by
    rcases List.mem_cons.mp hb with z | z
    · rw [z]; exact Nat.le_add_right _ _
    · rw [List.mem_singleton.mp z]; exact Nat.le_refl _
  exact I1.fpOk hle (I1.hok.fresh hle)
theorem walk_enumT {K : PySem.W.Frag} {a : Addr} {xs : List V} : Walk (Itet K a) xs.length (fun H => SqT K H a xs) (YPair (fun i => some (.int (i : Nat))) (fun i => xs[i]?)) := by
  refine ⟨fun i _ hi q => ⟨xs, xs[i], q, by simp [hi]⟩, fun _ q => ⟨xs, q, Nat.le_refl _⟩, fun i H v H' _ q y => ?_⟩
  obtain ⟨T, x, h1, h2, h3, h4⟩ := y
  exact ⟨T, .int (i : Nat), x, h1, h2, h3, rfl, h4 xs q⟩
end SR
set_option Elab.async false
set_option linter.all false
set_option maxRecDepth 100000
set_option maxHeartbeats 2000000
/-! Operators on whole numbers that are not below 0. -/
namespace SR
open PySem PySem.Spec PyProof.Rows L2
section
variable {X : Cx}
theorem OpR.weak {f : Value → Value → Sem Value} {r r' : R2} (h : OpR X f r) (k : ∀ x y H Q, r' x y H Q → r x y H Q) : OpR X f r' := fun pins s σ H x y v u Q I rx ry q => h pins s σ H x y v u Q I rx ry (k x y H Q q)
theorem n_and : OpR X (binaryOp .BitAnd) (fun x y H Q => ∃ a b : Nat, x = .int (a : Nat) ∧ y = .int (b : Nat) ∧ Q (.int ((a &&& b : Nat) : Int)) H) := OpR.weak op_and fun x y H Q ⟨a, b, h1, h2, q⟩ => ⟨_, _, h1, h2, by show Q (.int (Builtin.bitAnd (a : Int) (b : Int))) H; rw [bAnd]; exact q⟩
theorem n_or : OpR X (binaryOp .BitOr) (fun x y H Q => ∃ a b : Nat, x = .int (a : Nat) ∧ y = .int (b : Nat) ∧ Q (.int ((a ||| b : Nat) : Int)) H) := OpR.weak op_or fun x y H Q ⟨a, b, h1, h2, q⟩ => ⟨_, _, h1, h2, by show Q (.int (Builtin.bitOr (a : Int) (b : Int))) H; rw [bOr]; exact q⟩
theorem n_xor : OpR X (binaryOp .BitXor) (fun x y H Q => ∃ a b : Nat, x = .int (a : Nat) ∧ y = .int (b : Nat) ∧ Q (.int ((a ^^^ b : Nat) : Int)) H) := OpR.weak op_xor fun x y H Q ⟨a, b, h1, h2, q⟩ => ⟨_, _, h1, h2, by show Q (.int (Builtin.bitXor (a : Int) (b : Int))) H; rw [bXor]; exact q⟩
theorem n_ior : OpR X (inplaceOp .BitOr) (fun x y H Q => ∃ a b : Nat, x = .int (a : Nat) ∧ y = .int (b : Nat) ∧ Q (.int ((a ||| b : Nat) : Int)) H) := OpR.weak iop_or fun x y H Q ⟨a, b, h1, h2, q⟩ => ⟨_, _, h1, h2, by show Q (.int (Builtin.bitOr (a : Int) (b : Int))) H; rw [bOr]; exact q⟩
theorem n_sub : OpR X (binaryOp .Sub) (fun x y H Q => ∃ a b : Nat, x = .int (a : Nat) ∧ y = .int (b : Nat) ∧ (b ≤ a) ∧ Q (.int ((a - b : Nat) : Int)) H) := OpR.weak op_sub fun x y H Q ⟨a, b, h1, h2, hc, q⟩ => ⟨_, _, h1, h2, by
  show Q (.int ((a : Int) - (b : Int))) H
  have e : (a : Int) - (b : Int) = ((a - b : Nat) : Int) := by omega
  rw [e]
  exact q⟩
theorem n_add : OpR X (binaryOp .Add) (fun x y H Q => ∃ a b : Nat, x = .int (a : Nat) ∧ y = .int (b : Nat) ∧ Q (.int ((a + b : Nat) : Int)) H) := OpR.weak op_add fun x y H Q ⟨a, b, h1, h2, q⟩ => ⟨_, _, h1, h2, q⟩
theorem n_iadd : OpR X (inplaceOp .Add) (fun x y H Q => ∃ a b : Nat, x = .int (a : Nat) ∧ y = .int (b : Nat) ∧ Q (.int ((a + b : Nat) : Int)) H) := OpR.weak iop_add fun x y H Q ⟨a, b, h1, h2, q⟩ => ⟨_, _, h1, h2, q⟩
theorem n_mul : OpR X (binaryOp .Mult) (fun x y H Q => ∃ a b : Nat, x = .int (a : Nat) ∧ y = .int (b : Nat) ∧ (a < 2 ^ 63) ∧ Q (.int ((a * b : Nat) : Int)) H) := OpR.weak op_mul fun x y H Q ⟨a, b, h1, h2, hc, q⟩ => ⟨_, _, h1, h2, .inl ⟨by omega, by omega⟩, by
  show Q (.int ((a : Int) * (b : Int))) H
  rw [← Int.natCast_mul]
  exact q⟩
theorem n_mod : OpR X (binaryOp .Mod) (fun x y H Q => ∃ a b : Nat, x = .int (a : Nat) ∧ y = .int (b : Nat) ∧ (0 < b) ∧ Q (.int ((a % b : Nat) : Int)) H) := OpR.weak op_modN fun x y H Q ⟨a, b, h1, h2, hc, q⟩ => ⟨_, _, h1, h2, by omega, by
  show Q (.int (Int.fmod (a : Int) (b : Int))) H
  rw [Int.fmod_eq_emod_of_nonneg _ (Int.natCast_nonneg b), ← Int.natCast_emod]
  exact q⟩
theorem n_div : OpR X (binaryOp .FloorDiv) (fun x y H Q => ∃ a b : Nat, x = .int (a : Nat) ∧ y = .int (b : Nat) ∧ (0 < b ∧ b < 1000000) ∧ Q (.int ((a / b : Nat) : Int)) H) := OpR.weak op_fdivN fun x y H Q ⟨a, b, h1, h2, hc, q⟩ => ⟨_, _, h1, h2, ⟨by omega, by rw [Int.natAbs_natCast]; omega⟩, by
  show Q (.int (Int.fdiv (a : Int) (b : Int))) H
  rw [Int.fdiv_eq_ediv_of_nonneg _ (Int.natCast_nonneg b), ← Int.natCast_ediv]
  exact q⟩
theorem n_shl : OpR X (binaryOp .LShift) (fun x y H Q => ∃ a b : Nat, x = .int (a : Nat) ∧ y = .int (b : Nat) ∧ (a < 2 ^ 63 ∧ b ≤ 1000000) ∧ Q (.int ((a * 2 ^ b : Nat) : Int)) H) := OpR.weak op_shl fun x y H Q ⟨a, b, h1, h2, hc, q⟩ => ⟨_, _, h1, h2, ⟨Int.natCast_nonneg b, by omega, by rw [Int.natAbs_natCast]; omega⟩, by
  show Q (.int ((a : Int) * 2 ^ ((b : Int)).toNat)) H
  rw [shl_nat]
  exact q⟩
theorem n_lt : OpR X (compareOp .Lt) (fun x y H Q => ∃ a b : Nat, x = .int (a : Nat) ∧ y = .int (b : Nat) ∧ Q (.bl (decide (a < b))) H) := OpR.weak op_lt fun x y H Q ⟨a, b, h1, h2, q⟩ => ⟨_, _, h1, h2, by
  show Q (.bl (decide ((a : Int) < (b : Int)))) H
  have e : decide ((a : Int) < (b : Int)) = decide (a < b) := by congr 1; exact propext (by omega)
  rw [e]
  exact q⟩
theorem n_gt : OpR X (compareOp .Gt) (fun x y H Q => ∃ a b : Nat, x = .int (a : Nat) ∧ y = .int (b : Nat) ∧ Q (.bl (decide (b < a))) H) := OpR.weak op_gt fun x y H Q ⟨a, b, h1, h2, q⟩ => ⟨_, _, h1, h2, by
  show Q (.bl (decide ((b : Int) < (a : Int)))) H
  have e : decide ((b : Int) < (a : Int)) = decide (b < a) := by congr 1; exact propext (by omega)
  rw [e]
  exact q⟩
theorem n_eq : OpR X (compareOp .Eq) (fun x y H Q => ∃ a b : Nat, x = .int (a : Nat) ∧ y = .int (b : Nat) ∧ Q (.bl (decide (a = b))) H) := OpR.weak op_eq fun x y H Q ⟨a, b, h1, h2, q⟩ => by
  subst h1 h2
  refine ⟨rfl, ?_⟩
  have e : decide (V.int (a : Int) = V.int (b : Int)) = decide (a = b) := by
    congr 1
    exact propext ⟨fun z => by injection z with z; omega, fun z => by rw [z]⟩
  rw [e]
  exact q
/-- a numbered list of numbers, by a number's place -/
theorem n_ix {K : PySem.W.Frag} (hK : X.K = K := by rfl) : IxR X (fun x y H Q => ∃ (p : Addr) (l : List Nat) (i : Nat), x = .ref p ∧ y = .int (i : Nat) ∧ SqL K H p (iv l) ∧ i < l.length ∧ Q (.int ((l.getD i 0 : Nat) : Int)) H) := fun a b pins s σ H x y v u Q I rx ry ⟨p, l, i, h1, h2, h3, h4, q⟩ hs =>
  ix_list a b pins s σ H x y v u Q I rx ry ⟨p, _, _, _, h1, h2, by rw [hK]; exact h3, iv_get h4, q⟩ hs
theorem n_ixI {K : PySem.W.Frag} (hK : X.K = K := by rfl) : IxR X (fun x y H Q => ∃ (p : Addr) (l : List Int) (i : Nat), x = .ref p ∧ y = .int (i : Nat) ∧ SqL K H p (l.map V.int) ∧ i < l.length ∧ Q (.int (l.getD i 0)) H) := fun a b pins s σ H x y v u Q I rx ry ⟨p, l, i, h1, h2, h3, h4, q⟩ hs =>
  ix_list a b pins s σ H x y v u Q I rx ry ⟨p, _, _, _, h1, h2, by rw [hK]; exact h3, at_of rfl (by rw [List.getElem?_map, List.getElem?_eq_getElem h4, List.getD_eq_getElem?_getD, List.getElem?_eq_getElem h4]; rfl), q⟩ hs
/-- a written tuple of numbers -/
theorem n_ixT {K : PySem.W.Frag} (hK : X.K = K := by rfl) : IxR X (fun x y H Q => ∃ (p : Addr) (l : List Nat) (i : Nat), x = .ref p ∧ y = .int (i : Nat) ∧ SqT K H p (iv l) ∧ i < l.length ∧ Q (.int ((l.getD i 0 : Nat) : Int)) H) := fun a b pins s σ H x y v u Q I rx ry ⟨p, l, i, h1, h2, h3, h4, q⟩ hs =>
  ix_tup a b pins s σ H x y v u Q I rx ry ⟨p, _, _, _, h1, h2, by rw [hK]; exact h3, iv_get h4, q⟩ hs
/-- min of two -/
theorem n_min (hc : X.calm = true) : CallR X (.builtin "min") (fun xs H Q => ∃ a b : Nat, xs = [.int (a : Nat), .int (b : Nat)] ∧ Q (.int ((Nat.min a b : Nat) : Int)) H) := fun pins s σ H xs us Q I r ⟨a, b, h1, q⟩ =>
  call_min2 hc pins s σ H xs us Q I r ⟨_, _, h1, by rw [min_ints]; exact q⟩
/-- len of a list or tuple -/
theorem n_len : CallR X (.builtin "len") (fun xs H Q => ∃ p ys, xs = [.ref p] ∧ (SqL X.K H p ys ∨ SqT X.K H p ys) ∧ Q (.int ((ys.length : Nat) : Int)) H) := call_len_seq
theorem walk_n {n : Nat} : Walk (Itr 0 n) n (fun _ => True) (YFn fun i => .int ((i : Nat) : Int)) := walk_range.mono (fun _ h => h) (fun i H x H' _ _ ⟨a, b⟩ => ⟨a, by rw [b]; show V.int (0 + (i : Int)) = _; rw [Int.zero_add]⟩)
theorem walk_r {lo n : Nat} : Walk (Itr ((lo : Nat) : Int) n) n (fun _ => True) (YFn fun i => .int ((lo + i : Nat) : Int)) := walk_range.mono (fun _ h => h) (fun i H x H' _ _ ⟨a, b⟩ => ⟨a, by rw [b]; show V.int (((lo : Nat) : Int) + (i : Int)) = _; rw [← Int.natCast_add]⟩)
/-- a test over two numbers: monotone -/
theorem mono_test {r : R2} {i : Nat} {v : V} (hr : ∀ x y H Q Q', (∀ z H1, Q z H1 → Q' z H1) → r x y H Q → r x y H Q') : ∀ (σ : L2.St) (H : Hp) (Q Q' : Bool → Hp → Prop), (∀ b H1, Q b H1 → Q' b H1) → tTest (tOp r (tVar i) (tC v)) σ H Q → tTest (tOp r (tVar i) (tC v)) σ H Q' := by
  intro σ H Q Q' hQ ⟨x, h1, h2⟩
  exact ⟨x, h1, hr _ _ _ _ _ (fun z H1 ⟨k, e, q⟩ => ⟨k, e, hQ _ _ q⟩) h2⟩
end
end SR
set_option Elab.async false
set_option linter.all false
set_option maxRecDepth 100000
set_option maxHeartbeats 2000000
namespace SR
open PySem PySem.Spec PyProof.Rows L2
section
variable {P : Program} {w : World} {K : PySem.W.Frag} {mg : Str → Option Value} {base : Heap} {CT : Addr}
/-! ### size_of -/
abbrev sSizeOf : Stmt := top 3
abbrev nSizeOf : List Str := ["table", "grouping", "unlike", "numbers", "summed", "place", "number"]
def spSizeOf (CT : Addr) : Sp := fun vs H Q _ => ∃ (a : Addr) (t : Vamvsa.Table) (g : Nat), vs = [.ref a, .int (g : Nat)] ∧ TblAt CT H a t ∧ (∀ r ∈ t.rows, r.vs.length = t.cols.length) ∧ t.cols.length < 1000 ∧ t.rows.length < 1000 ∧
  ∀ H', Same H H' → Q (.int (Vamvsa.sizeOf_ t g : Nat)) H'
abbrev keyK (k : List Nat) : List Key := k.map fun (n : Nat) => Sum.inl ((n : Nat) : Int)
abbrev kvsOf (ks : List (List Nat)) : List (List Key × V) := ks.map fun k => (keyK k, .bl true)
theorem keyK_inj : ∀ {a b : List Nat}, keyK a = keyK b → a = b
  | [], [], _ => rfl
  | [], _ :: _, h => by cases h
  | _ :: _, [], h => by cases h
  | a :: r, b :: s, h => by
    simp only [keyK, List.map_cons, List.cons.injEq, Sum.inl.injEq] at h
    have e : a = b := by omega
    rw [e, keyK_inj h.2]
theorem keyK_kV (k : List Nat) : (keyK k).map kV = iv k := by
  simp only [keyK, iv, List.map_map]
  rfl
theorem kvs_put (ks : List (List Nat)) (k : List Nat) : L2.putK (kvsOf ks) (keyK k) (.bl true) = kvsOf (SR.putK ks k) := by
  unfold L2.putK SR.putK
  have hany : ((kvsOf ks).any fun kv => decide (kv.1 = keyK k)) = decide (k ∈ ks) := by
    induction ks with
    | nil => rfl
    | cons x r ih =>
      simp only [kvsOf, List.map_cons, List.any_cons] at ih ⊢
      rw [ih]
      by_cases e : x = k
      · subst e; simp
      · have h1 : decide (keyK x = keyK k) = false := decide_eq_false fun z => e (keyK_inj z)
        have e2 : ¬ k = x := fun z => e z.symm
        rw [h1]
        simp [e2]
  by_cases h : k ∈ ks
  · rw [hany, if_pos (decide_eq_true h), if_pos h]
    have : (kvsOf ks).map (fun kv => if kv.1 = keyK k then (kv.1, V.bl true) else kv) = (kvsOf ks).map id := by
      apply List.map_congr_left
      intro kv hkv
      obtain ⟨x, _, e⟩ := List.mem_map.mp hkv
      rw [← e]
      simp
    rw [this, List.map_id]
  · rw [hany, if_neg (by simpa using h), if_neg h]
    simp [kvsOf]
/-- what the comprehension picks of a row's numbers -/
theorem pick_key (n g : Nat) (vs : List Nat) (h : vs.length = n) : someOf (fun i => decide (g / 2 ^ i % 2 = 1)) (fun i => V.int ((vs.getD i 0 : Nat) : Int)) n = iv (Vamvsa.keyOf n g vs) := by
  unfold someOf Vamvsa.keyOf Vamvsa.columnsOf iv
  rw [List.map_map]
  rfl
theorem scSizeOf : FnScope nSizeOf ["table", "grouping"] (defScope sSizeOf) := ⟨rfl, rfl, rfl, by decide +kernel, rfl, by decide +kernel, by decide +kernel⟩
theorem ok_size_of (B : Bn mg) (TC : TabC K CT) (F : FunG K mg "size_of" sSizeOf) : Def P w K mg base CX0 1 "size_of" ["table", "grouping"] (spSizeOf CT) := by
  refine F.def (fun _ _ _ _ _ _ us hl => match us, hl with | [_, _], _ => rfl) fun f fd F => ?_
  have nd := scSizeOf.nd
  refine F.ok scSizeOf (fun vs H Q E h => ?_) (fun cdv A outer s H vs Q E hr h => ⟨_, pss_cons (ps_set (i := 2) nd rfl (Or.inl rfl) pe_dnewT)
    (pss_cons (ps_for PassesOwn.never rfl (pi_list (pe_fld (pv 0) rfl)) (pg_tup rfl (pgs_cons (pg_name (i := 3) nd rfl (Or.inl rfl)) (pgs_cons (pg_name (i := 4) nd rfl (Or.inl rfl)) pgs_nil)))
      (pss_one (ps_dput (hu_of hr) (pv 2) (pe_callTy call_tuple_of (by rfl) B.tuple (by decide +kernel) (pa_cons
        (pe_lc (own := [("place", 5), ("number", 6)]) (g := gTup K 2 (gCons (gName 5) (gCons (gName 6) gNil))) (tt := tBitT 1 5) rfl nd (pi_enumT (by rfl) B.enumerate (pa_cons (pv 3) pa_nil)) (blkOk_by (own := [("place", 5), ("number", 6)]) (N := nSizeOf) (sc := defScope sSizeOf) (by decide +kernel))
          (fun _ _ _ _ _ => pg_tup rfl (pgs_cons (pg_name (i := 5) nd rfl (Or.inl rfl)) (pgs_cons (pg_name (i := 6) nd rfl (Or.inl rfl)) pgs_nil)))
          (fun _ _ _ _ _ => pts_one (pt_bit 1 5 (pv 1) (pv 5))) (fun _ _ _ _ _ => pv 6)) pa_nil)) pe_bl (by rfl))))
    (pss_one (ps_ret (pe_callB call_len_dT (by rfl) B.len PySem.boot_len (pa_cons (pv 2) pa_nil))))), ?_⟩)
  · obtain ⟨a, t, g, rfl, _⟩ := h
    rfl
  · obtain ⟨a, t, g, rfl, hT, hw, hc, hrl, k⟩ := h
    obtain ⟨dx, c, r, q, rs, qs, h1, h2, h3, h4, h5, h6⟩ := hT.ex
    intro d hd
    have s0 : Same H (upd H d (.dT [])) := Same.new hd
    refine ⟨_, rfl, a, CT, dx, _, _, rfl, s0 _ _ h1, TC.cl, TC.nr, tabF_r c r q, r, rfl, ⟨_, SqL.of (s0 _ _ h3)⟩, for_it (walk_list (K := K) (a := r) (xs := rs.map V.ref))
      (fun i σ H' => ∃ x3 x4 : Option V, σ = [some (.ref a), some (.int (g : Nat)), some (.ref d), x3, x4, none, none] ∧ Same H H' ∧ H' d = some (.dT (kvsOf (uniq ((keysOf t g).take i)))))
      ⟨none, none, rfl, s0, upd_same⟩ (fun i σ H' _ ⟨_, _, _, e, _⟩ => SqL.of (e _ _ h3)) ?_ ?_⟩
    · rintro i x σ H' H'' hi ⟨x3, x4, rfl, e, hd'⟩ ⟨rfl, hx⟩
      obtain ⟨p, hp, rfl⟩ := refs_at hx
      have hil : i < t.rows.length := by rw [← h5.len]; exact (List.getElem?_eq_some_iff.mp hp).1
      obtain ⟨tp, hr1, hr2⟩ := h5.at_ i p _ hp (List.getElem?_eq_getElem hil)
      have hwr := hw t.rows[i] (List.getElem_mem hil)
      refine ⟨p, _, rfl, SqT.of (e _ _ hr1), rfl, _, _, rfl, _, _, rfl, rfl, ?_⟩
      have e1 : Same H H'' := e
      refine ⟨_, rfl, _, rfl, tp, iv t.rows[i].vs, rfl, SqT.of (e _ _ hr2), fun D hD => lc_go (walk_enumT (K := K) (a := tp) (xs := iv t.rows[i].vs)) (someOf (fun j => decide (g / 2 ^ j % 2 = 1)) (fun j => V.int ((t.rows[i].vs.getD j 0 : Nat) : Int))) rfl hD (fun H' s' => SqT.of (s' _ _ (e _ _ hr2))) ?_ ?_⟩
      · rintro j y H1 H2 hj hP ⟨T, u, v, rfl, hT, rfl, hu, hv⟩
        cases hu
        obtain ⟨hjl, rfl⟩ := iv_at hv
        refine ⟨T, _, rfl, SqT.of upd_same, rfl, _, _, rfl, _, _, rfl, rfl, rfl, g, j, rfl, rfl, if_d (fun hb => ?_) fun hb => ?_⟩
        · exact ⟨_, rfl, lc_put hD hP (Same.new hT) (someOf_yes (decide_eq_true hb)) (Nat.lt_of_le_of_lt (someOf_len _ _ _) (by rw [line_eq]; omega))⟩
        · exact lc_skip hP (Same.new hT) (someOf_no (decide_eq_false hb))
      · rintro H3 ⟨s3, hD3⟩
        rw [List.length_map, hwr, pick_key _ _ _ hwr] at hD3
        refine ⟨D, _, rfl, .inl ⟨SqL.of hD3, fun l hl => ?_⟩⟩
        have hd3 : H3 d = some (.dT (kvsOf (uniq ((keysOf t g).take i)))) := s3 _ _ hd'
        have hdl : l ≠ d := fun z => by rw [z, hd3] at hl; cases hl
        have hlen : (kvsOf (uniq ((keysOf t g).take i))).length < sizeLine := by
          have h1 := uniq_length_le ((keysOf t g).take i)
          rw [List.length_map, line_eq]
          rw [List.length_take] at h1
          omega
        refine ⟨d, _, rfl, DPut.t (k := keyK (Vamvsa.keyOf t.cols.length g t.rows[i].vs)) (by rw [upd_ne (Ne.symm hdl)]; exact hd3) (by rw [upd_same, keyK_kV]) hlen, ?_⟩
        refine ⟨_, _, rfl, ((e.trans s3).put2 hl).put hd, ?_⟩
        rw [upd_same, kvs_put]
        have hk : (keysOf t g)[i]? = some (Vamvsa.keyOf t.cols.length g t.rows[i].vs) := by
          unfold keysOf
          rw [List.getElem?_map, List.getElem?_eq_getElem hil]
          rfl
        rw [take_succ' hk]
        unfold uniq
        rw [List.foldl_append]
        rfl
    · rintro σ H' ⟨x3, x4, rfl, e, hd'⟩
      refine ⟨_, rfl, d, _, rfl, hd', ?_⟩
      have hlen : (rs.map V.ref).length = (keysOf t g).length := by
        unfold keysOf
        rw [List.length_map, List.length_map, h5.len]
      rw [hlen, List.take_length, List.length_map, ← size_uniq]
      exact k _ e
end
end SR
set_option Elab.async false
set_option linter.all false
set_option maxRecDepth 100000
set_option maxHeartbeats 2000000
namespace SR
open PySem PySem.Spec PyProof.Rows L2
section
variable {P : Program} {w : World} {K : PySem.W.Frag} {mg : Str → Option Value} {base : Heap} {CT : Addr}
theorem shl1 (n : Nat) : (1 : Int) * 2 ^ ((n : Int)).toNat = ((2 ^ n : Nat) : Int) := by
  have := shl_nat 1 n
  simpa using this
theorem rng {n : Nat} (h : n ≤ 1000000) : -(2 ^ 62) ≤ ((n : Nat) : Int) ∧ ((n : Nat) : Int) < 2 ^ 62 := by omega
theorem two_le {n : Nat} (h : n ≤ 8) : 2 ^ n ≤ 256 := by
  have : 2 ^ n ≤ 2 ^ 8 := Nat.pow_le_pow_right (by decide) h
  exact this
theorem iv_range (f : Nat → Nat) (n : Nat) : upTo (fun i => V.int ((f i : Nat) : Int)) n = iv ((List.range n).map f) := by
  unfold upTo iv
  rw [List.map_map]
  rfl
/-- a new list of numbers -/
def newList (H : Hp) (l : List Nat) (Q : VK) : Prop := ∀ (H' : Hp) (p : Addr), Same H H' → H p = none → H' p = some (.lst (iv l)) → Q (.ref p) H'
/-! ### all_sizes -/
abbrev sAllSizes : Stmt := top 4
abbrev nAllSizes : List Str := ["table", "grouping"]
def sizesM (t : Vamvsa.Table) : List Nat := (List.range (2 ^ t.cols.length)).map (Vamvsa.sizeOf_ t)
def spAllSizes (CT : Addr) : Sp := fun vs H Q _ => ∃ (a : Addr) (t : Vamvsa.Table), vs = [.ref a] ∧ TblAt CT H a t ∧ Right t ∧ newList H (sizesM t) Q
theorem scAllSizes : FnScope nAllSizes ["table"] (defScope sAllSizes) := ⟨rfl, rfl, rfl, by decide +kernel, rfl, by decide +kernel, by decide +kernel⟩
theorem ok_all_sizes (B : Bn mg) (TC : TabC K CT) (D1 : Def P w K mg base CX0 1 "size_of" ["table", "grouping"] (spSizeOf CT)) (F : FunG K mg "all_sizes" sAllSizes) : Def P w K mg base CX0 2 "all_sizes" ["table"] (spAllSizes CT) := by
  refine F.def (fun _ _ _ _ _ _ us hl => match us, hl with | [_], _ => rfl) fun f fd F => ?_
  have nd := scAllSizes.nd
  refine F.ok scAllSizes (fun vs H Q E h => ?_) (fun cdv A outer s H vs Q E hr h => ⟨_, pss_one (ps_ret
    (pe_lc (own := [("grouping", 1)]) (g := gName 1) (tt := tYes) rfl nd (pi_range1 (by rfl) B.range (pa_cons (pe_op op_shl pe_int (pe_callB call_len_seq (by rfl) B.len PySem.boot_len (pa_cons (pe_fld (pv 0) rfl) pa_nil))) pa_nil))
      (blkOk_by (own := [("grouping", 1)]) (N := nAllSizes) (sc := defScope sAllSizes) (by decide +kernel)) (fun _ _ _ _ _ => pg_name (i := 1) nd rfl (Or.inl rfl)) (fun _ _ _ _ _ => pts_nil)
      (fun _ _ _ _ _ => cl D1 hr pass0 (pa_cons (pv 0) (pa_cons (pv 1) pa_nil))))), ?_⟩)
  · obtain ⟨a, t, rfl, _⟩ := h
    rfl
  · obtain ⟨a, t, rfl, hT, R, k⟩ := h
    obtain ⟨dx, c, r, q, rs, qs, h1, h2, h3, h4, h5, h6⟩ := hT.ex
    refine ⟨_, rfl, a, CT, dx, _, _, rfl, h1, TC.cl, TC.nc, tabF_c c r q, c, _, rfl, .inl (SqL.of h2), 1, (t.cols.length : Nat), rfl, by rw [List.length_map], ⟨by omega, by have := R.cols; omega, by decide⟩, _, rfl, ?_⟩
    rw [shl1]
    have h2p := two_le (n := t.cols.length) (by have := R.cols; omega)
    refine ⟨(rng (by omega)).1, (rng (by omega)).2, fun D hD => lc_go (walk_range (lo := 0)) (upTo fun i => V.int ((Vamvsa.sizeOf_ t i : Nat) : Int)) rfl hD (fun _ _ => trivial) ?_ ?_⟩
    · rintro i x H1 H2 hi hP ⟨rfl, rfl⟩
      refine ⟨rfl, _, rfl, _, rfl, a, t, i, by show [V.ref a, V.int (0 + ((i : Nat) : Int))] = _; rw [Int.zero_add], hT.same hP.1, fun r hr => (R.width r hr).1, by have := R.cols; omega, by have := R.rows; omega, fun H3 s3 => ?_⟩
      rw [Int.toNat_natCast] at hi
      exact lc_put hD hP s3 (upTo_succ _ _) (by rw [upTo_len, line_eq]; omega)
    · rintro H1 ⟨s1, hD1⟩
      rw [Int.toNat_natCast, iv_range] at hD1
      exact k _ _ s1 hD hD1
/-! ### questions_of -/
abbrev sQuestionsOf : Stmt := top 6
abbrev nQuestionsOf : List Str := ["readers", "group", "chosen", "place", "reader"]
def spQuestionsOf (K : PySem.W.Frag) : Sp := fun vs H Q _ => ∃ (a : Addr) (who : List Nat) (g : Nat), vs = [.ref a, .int (g : Nat)] ∧ SqL K H a (iv who) ∧ who.length ≤ 8 ∧ (∀ x ∈ who, x < 4) ∧
  ∀ H', Same H H' → Q (.int (maskOf who g : Nat)) H'
theorem scQuestionsOf : FnScope nQuestionsOf ["readers", "group"] (defScope sQuestionsOf) := ⟨rfl, rfl, rfl, by decide +kernel, rfl, by decide +kernel, by decide +kernel⟩
theorem ok_questions_of (B : Bn mg) (F : FunG K mg "questions_of" sQuestionsOf) : Def P w K mg base CX0 1 "questions_of" ["readers", "group"] (spQuestionsOf K) := by
  refine F.def (fun _ _ _ _ _ _ us hl => match us, hl with | [_, _], _ => rfl) fun f fd F => ?_
  have nd := scQuestionsOf.nd
  refine F.ok scQuestionsOf (fun vs H Q E h => ?_) (fun cdv A outer s H vs Q E hr h => ⟨_, pss_cons (ps_set (i := 2) nd rfl (Or.inl rfl) pe_int)
    (pss_cons (ps_for PassesOwn.never rfl (pi_enum (by rfl) B.enumerate (pa_cons (pv 0) pa_nil)) (pg_tup rfl (pgs_cons (pg_name (i := 3) nd rfl (Or.inl rfl)) (pgs_cons (pg_name (i := 4) nd rfl (Or.inl rfl)) pgs_nil)))
      (pss_one (ps_aug (i := 2) nd rfl (Or.inl rfl) (pe_op op_shl (pe_bit 1 4 (pv 1) (pv 4)) (pv 3)) iop_or)))
    (pss_one (ps_ret (pv 2)))), ?_⟩)
  · obtain ⟨a, who, g, rfl, _⟩ := h
    rfl
  · obtain ⟨a, who, g, rfl, hS, hl, hw, k⟩ := h
    refine ⟨_, rfl, a, _, rfl, hS, for_it (walk_enum (K := K) (a := a) (xs := iv who))
      (fun i σ H' => ∃ x3 x4 : Option V, σ = [some (.ref a), some (.int (g : Nat)), some (.int (maskOf (who.take i) g : Nat)), x3, x4] ∧ Same H H')
      ⟨none, none, rfl, Same.refl H⟩ (fun i σ H' _ ⟨_, _, _, e⟩ => e.seq hS) ?_ ?_⟩
    · rintro i x σ H1 H2 hi ⟨x3, x4, rfl, e⟩ ⟨T, u, v, rfl, hT, rfl, hu, hv⟩
      cases hu
      obtain ⟨hil, rfl⟩ := iv_at hv
      have hwi : who[i]? = some who[i] := List.getElem?_eq_getElem hil
      have hd : who.getD i 0 = who[i] := by rw [List.getD_eq_getElem?_getD, hwi]; rfl
      have hlt := hw _ (List.getElem_mem hil)
      have hb2 : g / 2 ^ who.getD i 0 % 2 ≤ 1 := by
        have := Nat.mod_lt (g / 2 ^ who.getD i 0) (by decide : 0 < 2)
        omega
      refine ⟨T, _, rfl, SqT.of upd_same, rfl, _, _, rfl, _, _, rfl, rfl, _, rfl, g, who.getD i 0, rfl, rfl, _, rfl, _, _, rfl, rfl, ⟨by omega, by omega, ?_⟩, _, _, rfl, rfl, ?_⟩
      · rw [Int.natAbs_natCast]
        omega
      · refine ⟨some (.int (i : Nat)), some (.int (who.getD i 0 : Nat)), ?_, e.put2 hT⟩
        rw [take_succ' hwi, mask_append, inGroup_bit, List.length_take, Nat.min_eq_left (by omega), ← hd]
        have hm := mask_lt (who.take i) g
        rw [List.length_take, Nat.min_eq_left (by omega)] at hm
        have hj : Builtin.bitOr ((maskOf (who.take i) g : Nat) : Int) ((g / 2 ^ who.getD i 0 % 2 * 2 ^ i : Nat) : Int) = ((maskOf (who.take i) g + 2 ^ i * (g / 2 ^ who.getD i 0 % 2) : Nat) : Int) := by
          rw [bOr]
          congr 1
          rw [Nat.mul_comm _ (2 ^ i), Nat.or_comm, ← Nat.two_pow_add_eq_or_of_lt hm, Nat.add_comm]
        show [_, _, some (V.int (Builtin.bitOr _ (((g / 2 ^ who.getD i 0 % 2 : Nat) : Int) * 2 ^ ((i : Nat) : Int).toNat))), _, _] = _
        rw [shl_nat, hj]
    · rintro σ H' ⟨x3, x4, rfl, e⟩
      refine ⟨_, rfl, ?_⟩
      rw [List.length_map, List.take_length]
      exact k _ e
end
end SR
set_option Elab.async false
set_option linter.all false
set_option maxRecDepth 100000
set_option maxHeartbeats 2000000
namespace SR
open PySem PySem.Spec PyProof.Rows L2
section
variable {P : Program} {w : World} {K : PySem.W.Frag} {mg : Str → Option Value} {base : Heap} {CT : Addr}
theorem iv_snoc (l : List Nat) (n : Nat) : iv (l ++ [n]) = iv l ++ [V.int (n : Nat)] := by
  rw [iv, List.map_append]
  rfl
theorem min_cost (o r z c : Nat) : (if (o : Int) * (z : Int) + 2 * (c : Int) < (o : Int) * (r : Int) then (o : Int) * (z : Int) + 2 * (c : Int) else (o : Int) * (r : Int)) = ((Nat.min (o * r) (o * z + 2 * c) : Nat) : Int) := by
  rw [← min_ints]
  simp only [Int.natCast_add, Int.natCast_mul]
  rfl
/-! ### part_costs -/
abbrev sPartCosts : Stmt := top 7
abbrev nPartCosts : List Str := ["table", "changes", "sizes", "costs", "part", "together", "often", "place", "grouping", "times", "kept"]
def spPartCosts (CT : Addr) : Sp := fun vs H Q _ => ∃ (a : Addr) (t : Vamvsa.Table) (c : Nat), vs = [.ref a, .int (c : Nat)] ∧ TblAt CT H a t ∧ Right t ∧ c ≤ 1000 ∧ newList H (partCosts t c) Q
theorem scPartCosts : FnScope nPartCosts ["table", "changes"] (defScope sPartCosts) := ⟨rfl, rfl, rfl, by decide +kernel, rfl, by decide +kernel, by decide +kernel⟩
theorem ok_part_costs (B : Bn mg) (TC : TabC K CT) (GC : GInt mg "CHANGE_COST" 2) (D1 : Def P w K mg base CX0 2 "all_sizes" ["table"] (spAllSizes CT)) (F : FunG K mg "part_costs" sPartCosts) : Def P w K mg base CX0 3 "part_costs" ["table", "changes"] (spPartCosts CT) := by
  refine F.def (fun _ _ _ _ _ _ us hl => match us, hl with | [_, _], _ => rfl) fun f fd F => ?_
  have nd := scPartCosts.nd
  refine F.ok scPartCosts (fun vs H Q E h => ?_) (fun cdv A outer s H vs Q E hr h => ⟨_, pss_cons (ps_set (i := 2) nd rfl (Or.inl rfl) (cl D1 hr pass0 (pa_cons (pv 0) pa_nil)))
    (pss_cons (ps_set (i := 3) nd rfl (Or.inl rfl) (pe_lst pa_nil))
    (pss_cons (ps_for PassesOwn.never rfl (pi_range1 (by rfl) B.range (pa_cons (pe_op op_shl pe_int (pe_callB call_len_seq (by rfl) B.len PySem.boot_len (pa_cons (pe_fld (pv 0) rfl) pa_nil))) pa_nil)) (pg_name (i := 4) nd rfl (Or.inl rfl))
      (pss_cons (ps_set (i := 5) nd rfl (Or.inl rfl) pe_int)
      (pss_cons (ps_set (i := 6) nd rfl (Or.inl rfl) pe_int)
      (pss_cons (ps_for PassesOwn.never rfl (pi_enum (by rfl) B.enumerate (pa_cons (pe_fld (pv 0) rfl) pa_nil)) (pg_tup rfl (pgs_cons (pg_name (i := 7) nd rfl (Or.inl rfl)) (pgs_cons (pg_tup rfl (pgs_cons (pg_name (i := 8) nd rfl (Or.inl rfl)) (pgs_cons (pg_name (i := 9) nd rfl (Or.inl rfl)) pgs_nil))) pgs_nil)))
        (pss_one (ps_if (pt_bit 4 7 (pv 4) (pv 7)) (pss_cons (ps_aug (i := 5) nd rfl (Or.inl rfl) (pv 8) iop_or) (pss_one (ps_aug (i := 6) nd rfl (Or.inl rfl) (pv 9) ip_add))) pss_nil)))
      (pss_cons (ps_set (i := 10) nd rfl (Or.inl rfl) (pe_op op_add (pe_op op_mul (pv 6) (pe_ix ix_list (pv 2) (pv 5) (fun _ _ => rfl))) (pe_op op_mul (gi GC) (pv 1))))
      (pss_one (ps_expr (pe_bm PySem.F.plainAttrs_list PySem.F.slot_list_append PySem.F.type_list_append mt_append (pv 3) (pa_cons (pe_callB (call_min2 rfl) (by rfl) B.min (by decide +kernel) (pa_cons (pe_op op_mul (pv 6) (pe_callB call_len_seq (by rfl) B.len PySem.boot_len (pa_cons (pe_fld (pv 0) rfl) pa_nil))) (pa_cons (pv 10) pa_nil))) pa_nil)))))))))
    (pss_one (ps_ret (pv 3))))), ?_⟩)
  · obtain ⟨a, t, c, rfl, _⟩ := h
    rfl
  · obtain ⟨a, t, ch, rfl, hT, R, hc, k⟩ := h
    obtain ⟨dx, c, r, q, rs, qs, h1, h2, h3, h4, h5, h6⟩ := hT.ex
    refine ⟨_, rfl, a, t, rfl, hT, R, fun H1 z s1 hz hzs => ?_⟩
    refine ⟨by decide, fun L hL => ?_⟩
    have s2 : Same H (upd H1 L (.lst [])) := s1.put2 hL
    have hz2 : (upd H1 L (.lst [])) z = some (.lst (iv (sizesM t))) := by rw [upd_ne (ne_of_none hzs hL)]; exact hzs
    refine ⟨_, rfl, a, CT, dx, _, _, rfl, s2 _ _ h1, TC.cl, TC.nq, tabF_q c r q, q, _, rfl, .inl (SqL.of (s2 _ _ h4)), 1, (t.asks.length : Nat), rfl, by rw [List.length_map, h6.len], ⟨by omega, by have := R.asks; omega, by decide⟩, _, rfl, ?_⟩
    rw [shl1]
    have h2p := two_le (n := t.asks.length) R.asks
    refine ⟨(rng (by omega)).1, (rng (by omega)).2, for_it (walk_range (lo := 0))
      (fun i σ H' => ∃ x4 x5 x6 x7 x8 x9 x10 : Option V, σ = [some (.ref a), some (.int (ch : Nat)), some (.ref z), some (.ref L), x4, x5, x6, x7, x8, x9, x10] ∧ Same H H' ∧ H' z = some (.lst (iv (sizesM t))) ∧ H' L = some (.lst (iv ((partCosts t ch).take i))))
      ⟨_, _, _, _, _, _, _, rfl, s2, hz2, upd_same⟩ (fun _ _ _ _ _ => trivial) ?_ ?_⟩
    · rintro m x σ H2 H3 hm ⟨x4, x5, x6, x7, x8, x9, x10, rfl, e, hz3, hL3⟩ ⟨rfl, rfl⟩
      rw [Int.toNat_natCast] at hm
      refine ⟨_, rfl, a, CT, dx, _, _, rfl, e _ _ h1, TC.cl, TC.nq, tabF_q c r q, q, _, rfl, SqL.of (e _ _ h4), ?_⟩
      refine for_it (walk_enum (K := K) (a := q) (xs := qs.map V.ref))
        (fun i σ H' => ∃ x7 x8 x9 : Option V, σ = [some (.ref a), some (.int (ch : Nat)), some (.ref z), some (.ref L), some (.int (m : Nat)), some (.int (together (sel m (t.asks.take i)) : Nat)), some (.int (often (sel m (t.asks.take i)) : Nat)), x7, x8, x9, x10] ∧ Same H3 H')
        ⟨x7, x8, x9, by simp [sel, together, often], Same.refl _⟩ (fun i σ H' _ ⟨_, _, _, _, e'⟩ => SqL.of (e' _ _ (e _ _ h4))) ?_ ?_
      · rintro i x σ H4 H5 hi ⟨x7, x8, x9, rfl, e'⟩ ⟨T, u, v, rfl, hT', rfl, hu, hv⟩
        cases hu
        obtain ⟨p, hp, rfl⟩ := refs_at hv
        have hil : i < t.asks.length := by rw [← h6.len]; exact (List.getElem?_eq_some_iff.mp hp).1
        have hask : t.asks[i]? = some t.asks[i] := List.getElem?_eq_getElem hil
        have hA := h6.at_ i p _ hp hask
        have e2 : Same H3 (upd H4 T (.tup [.int (i : Nat), .ref p])) := e'.put2 hT'
        have hA2 := e2 _ _ (e _ _ hA)
        refine ⟨T, _, rfl, SqT.of upd_same, rfl, _, _, rfl, _, _, rfl, ⟨p, _, rfl, SqT.of hA2, rfl, _, _, rfl, _, _, rfl, rfl, ?_⟩⟩
        refine ⟨rfl, m, i, rfl, rfl, if_d (fun hb => ?_) fun hb => ?_⟩
        · refine ⟨_, rfl, _, rfl, _, _, rfl, rfl, _, rfl, _, rfl, _, _, rfl, rfl, ?_⟩
          refine ⟨some (.int (i : Nat)), some (.int (t.asks[i].g : Nat)), some (.int (t.asks[i].k : Nat)), ?_, e2⟩
          rw [take_succ' hask, sel_append, List.length_take, Nat.min_eq_left (by omega), if_pos hb, together_append, often_append]
          show [_, _, _, _, _, some (V.int (Builtin.bitOr _ _)), some (V.int _), _, _, _, _] = _
          rw [bOr]
          rfl
        · refine ⟨some (.int (i : Nat)), some (.int (t.asks[i].g : Nat)), some (.int (t.asks[i].k : Nat)), ?_, e2⟩
          rw [take_succ' hask, sel_append, List.length_take, Nat.min_eq_left (by omega), if_neg hb, List.append_nil]
          rfl
      · rintro σ H4 ⟨x7, x8, x9, rfl, e'⟩
        have e4 : Same H H4 := e.trans e'
        have hal : (qs.map V.ref).length = t.asks.length := by rw [List.length_map, h6.len]
        rw [hal, List.take_length]
        have hof := often_le (Q := sel m t.asks) fun b hb => (R.in_ b (sel_sub _ _ b hb)).2.2
        have hsl := sel_length t.asks m
        have ha8 := R.asks
        have hr16 := R.rows
        have htl : together (sel m t.asks) < 2 ^ t.cols.length := together_lt fun b hb => (R.in_ b (sel_sub _ _ b hb)).1
        have hsz : (sizesM t).getD (together (sel m t.asks)) 0 = Vamvsa.sizeOf_ t (together (sel m t.asks)) := getD_range_map _ htl
        refine ⟨_, rfl, _, rfl, _, rfl, z, _, _, _, rfl, rfl, SqL.of (e' _ _ hz3), iv_get (by simp [sizesM]; exact htl), _, _, rfl, rfl, .inl ⟨by omega, by omega⟩, _, rfl, 2, (ch : Nat), rfl, rfl, .inl ⟨by decide, by decide⟩, _, _, rfl, rfl, ?_⟩
        rw [hsz]
        refine ⟨_, rfl, .inl ⟨rfl, _, SqL.of (e' _ _ hL3)⟩, _, rfl, _, rfl, a, CT, dx, _, _, rfl, e4 _ _ h1, TC.cl, TC.nr, tabF_r c r q, r, _, rfl, .inl (SqL.of (e4 _ _ h3)), _, (t.rows.length : Nat), rfl, by rw [List.length_map, h5.len], .inl ⟨by omega, by omega⟩, _, rfl, _, _, rfl, ?_⟩
        refine ⟨L, _, _, rfl, rfl, e' _ _ hL3, ?_, ?_⟩
        · rw [List.length_map, List.length_take, partCosts_len, line_eq]
          omega
        · have hzL : z ≠ L := ne_of_none hzs hL
          refine ⟨_, _, _, _, _, _, _, rfl, e4.put (s1.free hL), by rw [upd_ne hzL]; exact e' _ _ hz3, ?_⟩
          have hpc : (partCosts t ch)[m]? = some (partCost t.rows.length (Vamvsa.sizeOf_ t) (2 * ch) (sel m t.asks)) := by
            unfold partCosts
            rw [List.getElem?_map, List.getElem?_range hm]
            rfl
          rw [upd_same, take_succ' hpc, iv_snoc, min_cost]
          rfl
    · rintro σ H2 ⟨x4, x5, x6, x7, x8, x9, x10, rfl, e, hz3, hL3⟩
      rw [Int.toNat_natCast, ← partCosts_len t ch, List.take_length] at hL3
      exact ⟨_, rfl, k _ _ e (s1.free hL) hL3⟩
/-! ### least_parted -/
abbrev sLeastParted : Stmt := top 9
abbrev nLeastParted : List Str := ["chosen", "costs", "least", "others", "best", "rest"]
def spLeastParted (K : PySem.W.Frag) : Sp := fun vs H Q _ => ∃ (m q : Nat) (a b : Addr) (cs ls : List Nat), vs = [.int (m : Nat), .ref a, .ref b] ∧ SqL K H a (iv cs) ∧ SqL K H b (iv ls) ∧ cs.length = 2 ^ q ∧ 0 < m ∧ m < 2 ^ q ∧ m ≤ ls.length ∧
  Q (.int (leastParted m cs ls : Nat)) H
theorem scLeastParted : FnScope nLeastParted ["chosen", "costs", "least"] (defScope sLeastParted) := ⟨rfl, rfl, rfl, by decide +kernel, rfl, by decide +kernel, by decide +kernel⟩
theorem ok_least_parted (B : Bn mg) (F : FunG K mg "least_parted" sLeastParted) : Def P w K mg base CX0 1 "least_parted" ["chosen", "costs", "least"] (spLeastParted K) := by
  refine F.def (fun _ _ _ _ _ _ us hl => match us, hl with | [_, _, _], _ => rfl) fun f fd F => ?_
  have nd := scLeastParted.nd
  refine F.ok scLeastParted (fun vs H Q E h => ?_) (fun cdv A outer s H vs Q E hr h => ⟨_, pss_cons (ps_set (i := 3) nd rfl (Or.inl rfl) (pe_op n_and (pv 0) (pe_op n_sub (pv 0) pe_int)))
    (pss_cons (ps_set (i := 4) nd rfl (Or.inl rfl) (pe_ix (n_ix (K := K)) (pv 1) (pv 0) (fun _ _ => rfl)))
    (pss_cons (ps_set (i := 5) nd rfl (Or.inl rfl) (pv 3))
    (pss_cons (ps_while PassesOwn.never (pt_cmpR n_gt (pv 5) pe_int (nomark _))
      (pss_cons (ps_set (i := 4) nd rfl (Or.inl rfl) (pe_callB (n_min rfl) (by rfl) B.min (by decide +kernel) (pa_cons (pv 4) (pa_cons (pe_op n_add (pe_ix (n_ix (K := K)) (pv 1) (pe_op n_xor (pv 0) (pv 5)) (fun _ _ => rfl)) (pe_ix (n_ix (K := K)) (pv 2) (pv 5) (fun _ _ => rfl))) pa_nil))))
      (pss_one (ps_set (i := 5) nd rfl (Or.inl rfl) (pe_op n_and (pe_op n_sub (pv 5) pe_int) (pv 3))))))
    (pss_one (ps_ret (pv 4)))))), ?_⟩)
  · obtain ⟨m, q, a, b, cs, ls, rfl, _⟩ := h
    rfl
  · obtain ⟨m, q, a, b, cs, ls, rfl, hA, hB, hcl, hm0, hmq, hml, k⟩ := h
    refine ⟨_, rfl, _, rfl, m, 1, rfl, rfl, hm0, m, m - 1, rfl, rfl, ?_⟩
    have hR : leastParted m cs ls = restLoop (m &&& (m - 1)) (fun r => cs.getD (m ^^^ r) 0 + ls.getD r 0) m (m &&& (m - 1)) (cs.getD m 0) := rfl
    have ho : m &&& (m - 1) ≤ m - 1 := Nat.and_le_right
    have hoo : (m &&& (m - 1)) &&& (m &&& (m - 1)) = m &&& (m - 1) := Nat.and_self _
    generalize m &&& (m - 1) = o at *
    refine ⟨_, rfl, _, rfl, a, _, m, rfl, rfl, hA, by omega, _, rfl, ?_⟩
    refine while_by (fun σ H' => ∃ r bst : Nat, σ = [some (.int (m : Nat)), some (.ref a), some (.ref b), some (.int (o : Nat)), some (.int (bst : Nat)), some (.int (r : Nat))] ∧ H' = H ∧ r ≤ o ∧ restLoop o (fun r => cs.getD (m ^^^ r) 0 + ls.getD r 0) m r bst = leastParted m cs ls)
      (fun σ _ => match σ with | [_, _, _, _, _, some (.int r)] => r.toNat | _ => 0) ⟨o, cs.getD m 0, rfl, rfl, Nat.le_refl _, hR.symm⟩ ?_ (mono_test fun x y H Q Q' hQ ⟨a, b, h1, h2, h3⟩ => ⟨a, b, h1, h2, hQ _ _ h3⟩)
    rintro σ H' ⟨r, bst, rfl, rfl, hro, hres⟩
    refine ⟨_, rfl, r, 0, rfl, rfl, _, rfl, if_d (fun h0 => ?_) fun h0 => ?_⟩
    · have hx : m ^^^ r < 2 ^ q := Nat.xor_lt_two_pow hmq (by omega)
      refine ⟨_, rfl, _, rfl, _, rfl, _, rfl, m, r, rfl, rfl, a, _, m ^^^ r, rfl, rfl, hA, by omega, _, rfl, _, rfl, b, _, r, rfl, rfl, hB, by omega, _, _, rfl, rfl, bst, _, rfl, ?_⟩
      refine ⟨_, rfl, r, 1, rfl, rfl, h0, _, rfl, r - 1, o, rfl, rfl, ⟨⟨(r - 1) &&& o, _, rfl, rfl, Nat.and_le_right, ?_⟩, ?_⟩⟩
      · rw [← hres]
        have hm' : m = (m - 1) + 1 := by omega
        have e1 : restLoop o (fun r => cs.getD (m ^^^ r) 0 + ls.getD r 0) m r bst = restLoop o (fun r => cs.getD (m ^^^ r) 0 + ls.getD r 0) (m - 1) (down o r) (Nat.min bst (cs.getD (m ^^^ r) 0 + ls.getD r 0)) := by
          rw [hm', restLoop, if_pos h0, ← hm']
        rw [e1]
        have hd := down_lt (o := o) (c := r) h0
        exact restLoop_fuel o _ _ _ _ _ (by show down o r ≤ m; omega) (by show down o r ≤ m - 1; omega)
      · show (((r - 1 &&& o : Nat) : Int)).toNat < ((r : Nat) : Int).toNat
        rw [Int.toNat_natCast, Int.toNat_natCast]
        exact down_lt h0
    · have : r = 0 := by omega
      subst this
      refine ⟨_, rfl, ?_⟩
      have e1 : restLoop o (fun r => cs.getD (m ^^^ r) 0 + ls.getD r 0) m 0 bst = bst := by
        have hm' : m = (m - 1) + 1 := by omega
        rw [hm', restLoop, if_neg (by omega)]
      rw [e1] at hres
      rw [hres]
      exact k
/-! ### least_costs -/
abbrev sLeastCosts : Stmt := top 8
abbrev nLeastCosts : List Str := ["costs", "least", "chosen"]
def spLeastCosts (K : PySem.W.Frag) : Sp := fun vs H Q _ => ∃ (a : Addr) (q : Nat) (cs : List Nat), vs = [.ref a] ∧ SqL K H a (iv cs) ∧ cs.length = 2 ^ q ∧ q ≤ 8 ∧ newList H (leastCosts cs) Q
theorem scLeastCosts : FnScope nLeastCosts ["costs"] (defScope sLeastCosts) := ⟨rfl, rfl, rfl, by decide +kernel, rfl, by decide +kernel, by decide +kernel⟩
theorem ok_least_costs (B : Bn mg) (D1 : Def P w K mg base CX0 1 "least_parted" ["chosen", "costs", "least"] (spLeastParted K)) (F : FunG K mg "least_costs" sLeastCosts) : Def P w K mg base CX0 2 "least_costs" ["costs"] (spLeastCosts K) := by
  refine F.def (fun _ _ _ _ _ _ us hl => match us, hl with | [_], _ => rfl) fun f fd F => ?_
  have nd := scLeastCosts.nd
  refine F.ok scLeastCosts (fun vs H Q E h => ?_) (fun cdv A outer s H vs Q E hr h => ⟨_, pss_cons (ps_set (i := 1) nd rfl (Or.inl rfl) (pe_lst (pa_cons pe_int pa_nil)))
    (pss_cons (ps_for PassesOwn.never rfl (pi_range2 (by rfl) B.range (pa_cons pe_int (pa_cons (pe_callB n_len (by rfl) B.len PySem.boot_len (pa_cons (pv 0) pa_nil)) pa_nil))) (pg_name (i := 2) nd rfl (Or.inl rfl))
      (pss_one (ps_expr (pe_bm PySem.F.plainAttrs_list PySem.F.slot_list_append PySem.F.type_list_append mt_append (pv 1) (pa_cons (cl D1 hr pass0 (pa_cons (pv 2) (pa_cons (pv 0) (pa_cons (pv 1) pa_nil)))) pa_nil)))))
    (pss_one (ps_ret (pv 1)))), ?_⟩)
  · obtain ⟨a, q, cs, rfl, _⟩ := h
    rfl
  · obtain ⟨a, q, cs, rfl, hA, hl, hq, k⟩ := h
    have h2p := two_le hq
    have hpos : 0 < 2 ^ q := Nat.two_pow_pos q
    refine ⟨by decide, fun L hL => ?_⟩
    have s1 : Same H (upd H L (.lst [.int 0])) := Same.new hL
    refine ⟨_, rfl, a, _, rfl, .inl (s1.seq hA), 1, (cs.length : Nat), by rw [List.length_map], ⟨by decide, by decide, (rng (by omega)).1, (rng (by omega)).2⟩, ?_⟩
    have hn : ((cs.length : Int) - 1).toNat = cs.length - 1 := by omega
    rw [hn]
    refine for_it (walk_range (lo := 1)) (fun i σ H' => ∃ x2 : Option V, σ = [some (.ref a), some (.ref L), x2] ∧ Same H H' ∧ H' L = some (.lst (iv (leastUpTo cs i)))) ⟨none, rfl, s1, upd_same⟩ (fun _ _ _ _ _ => trivial) ?_ ?_
    · rintro i x σ H1 H2 hi ⟨x2, rfl, e, hL1⟩ ⟨rfl, rfl⟩
      have hc : (1 : Int) + (i : Int) = ((i + 1 : Nat) : Int) := by omega
      have hll := leastUpTo_len cs i
      refine ⟨_, rfl, .inl ⟨rfl, _, SqL.of hL1⟩, _, rfl, _, rfl, _, rfl, ?_⟩
      refine ⟨i + 1, q, a, L, cs, leastUpTo cs i, ?_, e.seq hA, SqL.of hL1, hl, by omega, by omega, by omega, ?_⟩
      · show [V.int (1 + (i : Int)), V.ref a, V.ref L] = _
        rw [hc]
      · refine ⟨L, _, _, rfl, rfl, hL1, by rw [List.length_map, hll, line_eq]; omega, ⟨some (.int (1 + (i : Int))), rfl, e.put hL, ?_⟩⟩
        rw [upd_same, leastUpTo, iv_snoc]
    · rintro σ H1 ⟨x2, rfl, e, hL1⟩
      exact ⟨_, rfl, k _ _ e hL hL1⟩
/-! ### all_alone -/
abbrev sAllAlone : Stmt := top 5
abbrev nAllAlone : List Str := ["table", "readers", "changes", "least", "group"]
def spAllAlone (K : PySem.W.Frag) (CT : Addr) : Sp := fun vs H Q _ => ∃ (a b : Addr) (t : Vamvsa.Table) (who : List Nat) (c : Nat), vs = [.ref a, .ref b, .int (c : Nat)] ∧ TblAt CT H a t ∧ Right t ∧ SqL K H b (iv who) ∧ who.length = t.asks.length ∧ (∀ x ∈ who, x < 4) ∧ c ≤ 1000 ∧
  newList H (aloneM t who c) Q
theorem scAllAlone : FnScope nAllAlone ["table", "readers", "changes"] (defScope sAllAlone) := ⟨rfl, rfl, rfl, by decide +kernel, rfl, by decide +kernel, by decide +kernel⟩
theorem ok_all_alone (B : Bn mg) (GR : GInt mg "READER_COUNT" 4) (D1 : Def P w K mg base CX0 3 "part_costs" ["table", "changes"] (spPartCosts CT)) (D2 : Def P w K mg base CX0 2 "least_costs" ["costs"] (spLeastCosts K))
    (D3 : Def P w K mg base CX0 1 "questions_of" ["readers", "group"] (spQuestionsOf K)) (F : FunG K mg "all_alone" sAllAlone) : Def P w K mg base CX0 4 "all_alone" ["table", "readers", "changes"] (spAllAlone K CT) := by
  refine F.def (fun _ _ _ _ _ _ us hl => match us, hl with | [_, _, _], _ => rfl) fun f fd F => ?_
  have nd := scAllAlone.nd
  refine F.ok scAllAlone (fun vs H Q E h => ?_) (fun cdv A outer s H vs Q E hr h => ⟨_, pss_cons (ps_set (i := 3) nd rfl (Or.inr rfl) (cl D2 (hr.mono (by decide)) pass0 (pa_cons (cl D1 hr pass0 (pa_cons (pv 0) (pa_cons (pv 2) pa_nil))) pa_nil)))
    (pss_one (ps_ret (pe_lc (own := [("group", 4)]) (g := gName 4) (tt := tYes) rfl nd (pi_range1 (by rfl) B.range (pa_cons (pe_op op_shl pe_int (gi GR)) pa_nil))
      (blkOk_by (own := [("group", 4)]) (N := nAllAlone) (sc := defScope sAllAlone) (by decide +kernel)) (fun _ _ _ _ _ => pg_name (i := 4) nd rfl (Or.inl rfl)) (fun _ _ _ _ _ => pts_nil)
      (fun _ _ _ _ _ => pe_ix (n_ix (K := K)) (pv 3) (cl D3 (hr.mono (by decide)) pass0 (pa_cons (pv 1) (pa_cons (pv 4) pa_nil))) (fun _ _ => rfl))))), ?_⟩)
  · obtain ⟨a, b, t, who, c, rfl, _⟩ := h
    rfl
  · obtain ⟨a, b, t, who, c, rfl, hT, R, hW, hl, hw4, hc, k⟩ := h
    refine ⟨_, rfl, _, rfl, a, t, c, rfl, hT, R, hc, fun H1 p1 s1 n1 hp1 => ?_⟩
    refine ⟨p1, t.asks.length, _, rfl, SqL.of hp1, partCosts_len t c, R.asks, fun H2 p2 s2 n2 hp2 => ?_⟩
    have s12 := s1.trans s2
    refine ⟨1, 4, rfl, rfl, ⟨by decide, by decide, by decide⟩, _, rfl, by decide, by decide, fun D hD => lc_go (walk_range (lo := 0)) (upTo fun g => V.int (((leastCosts (partCosts t c)).getD (maskOf who g) 0 : Nat) : Int)) rfl hD (fun _ _ => trivial) ?_ ?_⟩
    · rintro g x H3 H4 hg hP ⟨rfl, rfl⟩
      have hm := mask_lt who g
      refine ⟨rfl, _, rfl, _, rfl, _, rfl, b, who, g, by show [V.ref b, V.int (0 + (g : Int))] = _; rw [Int.zero_add], (s12.trans hP.1).seq hW, by rw [hl]; exact R.asks, hw4, fun H5 s5 => ?_⟩
      refine ⟨p2, _, maskOf who g, rfl, rfl, SqL.of (s5 _ _ (hP.1 _ _ hp2)), by rw [leastCosts_len, ← hl]; exact hm, ?_⟩
      have hg16 : g < 16 := hg
      exact lc_put hD hP s5 (upTo_succ _ _) (by rw [upTo_len, line_eq]; omega)
    · rintro H3 ⟨s3, hD3⟩
      refine k _ _ (s12.trans s3) (s12.free hD) ?_
      rw [hD3]
      exact congrArg (fun l => some (HO.lst l)) (iv_range _ 16)
end
end SR
set_option Elab.async false
set_option linter.all false
set_option maxRecDepth 100000
set_option maxHeartbeats 2000000
namespace SR
open PySem PySem.Spec PyProof.Rows L2
section
variable {P : Program} {w : World} {K : PySem.W.Frag} {mg : Str → Option Value} {base : Heap} {CT : Addr}
/-- a written tuple -/
def GTup (K : PySem.W.Frag) (mg : Str → Option Value) (x : Str) (l : List V) : Prop := ∃ a, mg x = some (.ref a) ∧ ∀ H, SqT K H a l
/-! ### readers_in -/
abbrev sReadersIn : Stmt := top 15
abbrev nReadersIn : List Str := ["group", "reader"]
def spReadersIn : Sp := fun vs H Q _ => ∃ (g : Nat), vs = [.int (g : Nat)] ∧ g < 16 ∧ ∀ H', Same H H' → Q (.int (Vamvsf.members g : Nat)) H'
theorem members_bits : ∀ g < 16, ((List.range 4).map fun r => ((g / 2 ^ r % 2 : Nat) : Int)).sum = ((Vamvsf.members g : Nat) : Int) := by decide
theorem scReadersIn : FnScope nReadersIn ["group"] (defScope sReadersIn) := ⟨rfl, rfl, rfl, by decide +kernel, rfl, by decide +kernel, by decide +kernel⟩
theorem ok_readers_in (B : Bn mg) (GR : GInt mg "READER_COUNT" 4) (F : FunG K mg "readers_in" sReadersIn) : Def P w K mg base CX0 1 "readers_in" ["group"] spReadersIn := by
  refine F.def (fun _ _ _ _ _ _ us hl => match us, hl with | [_], _ => rfl) fun f fd F => ?_
  have nd := scReadersIn.nd
  refine F.ok scReadersIn (fun vs H Q E h => ?_) (fun cdv A outer s H vs Q E hr h => ⟨_, pss_one (ps_ret (pe_callB (cr_sum rfl) (by rfl) B.sum (by decide +kernel) (pa_cons
    (pe_lc (own := [("reader", 1)]) (g := gName 1) (tt := tYes) rfl nd (pi_range1 (by rfl) B.range (pa_cons (gi GR) pa_nil))
      (blkOk_by (own := [("reader", 1)]) (N := nReadersIn) (sc := defScope sReadersIn) (by decide +kernel)) (fun _ _ _ _ _ => pg_name (i := 1) nd rfl (Or.inl rfl)) (fun _ _ _ _ _ => pts_nil)
      (fun _ _ _ _ _ => pe_bit 0 1 (pv 0) (pv 1))) pa_nil))), ?_⟩)
  · obtain ⟨g, rfl, _⟩ := h
    rfl
  · obtain ⟨g, rfl, hg, k⟩ := h
    refine ⟨4, rfl, by decide, by decide, fun D hD => lc_go walk_n (upTo fun r => V.int ((g / 2 ^ r % 2 : Nat) : Int)) rfl hD (fun _ _ => trivial) ?_ ?_⟩
    · rintro i x H1 H2 hi hP ⟨rfl, rfl⟩
      have hi4 : i < 4 := hi
      exact ⟨rfl, g, i, rfl, rfl, lc_put hD hP (Same.refl _) (upTo_succ _ _) (by rw [upTo_len, line_eq]; omega)⟩
    · rintro H1 ⟨s1, hD1⟩
      refine ⟨D, (List.range 4).map fun r => ((g / 2 ^ r % 2 : Nat) : Int), rfl, SqL.of ?_, ?_⟩
      · rw [hD1]
        unfold upTo
        rw [List.map_map]
        rfl
      · rw [members_bits g hg]
        exact k _ s1
/-! ### added_in_orders -/
abbrev sAddedInOrders : Stmt := top 13
abbrev nAddedInOrders : List Str := ["alone", "reader", "bit", "together", "before"]
def spAddedInOrders (K : PySem.W.Frag) : Sp := fun vs H Q _ => ∃ (a : Addr) (cs : List Nat) (r : Nat), vs = [.ref a, .int (r : Nat)] ∧ SqL K H a (iv cs) ∧ cs.length = 16 ∧ r < 4 ∧ ∀ H', Same H H' → Q (.int (added cs r)) H'
def addedUpTo (cs : List Nat) (r i : Nat) : Int := (((List.range i).filter fun s => !Vamvsf.inGroup s r).map fun s => ((Vamvsf.weight (Vamvsf.members s) : Nat) : Int) * (((cs.getD (s + 2 ^ r) 0 : Nat) : Int) - ((cs.getD s 0 : Nat) : Int))).sum
theorem addedUpTo_yes {cs : List Nat} {r i : Nat} (h : Vamvsf.inGroup i r = false) : addedUpTo cs r (i + 1) = addedUpTo cs r i + ((Vamvsf.weight (Vamvsf.members i) : Nat) : Int) * (((cs.getD (i + 2 ^ r) 0 : Nat) : Int) - ((cs.getD i 0 : Nat) : Int)) := by
  unfold addedUpTo
  rw [List.range_succ, List.filter_append, List.map_append, List.sum_append]
  simp [h]
theorem addedUpTo_no {cs : List Nat} {r i : Nat} (h : Vamvsf.inGroup i r = true) : addedUpTo cs r (i + 1) = addedUpTo cs r i := by
  unfold addedUpTo
  rw [List.range_succ, List.filter_append, List.map_append, List.sum_append]
  simp [h]
theorem scAddedInOrders : FnScope nAddedInOrders ["alone", "reader"] (defScope sAddedInOrders) := ⟨rfl, rfl, rfl, by decide +kernel, rfl, by decide +kernel, by decide +kernel⟩
theorem bits_in : ∀ r < 4, ∀ s < 16, (decide (s &&& 1 * 2 ^ r = 0) = !Vamvsf.inGroup s r) := by decide
theorem bits_or : ∀ r < 4, ∀ s < 16, Vamvsf.inGroup s r = false → (s ||| 1 * 2 ^ r) = s + 2 ^ r ∧ s + 2 ^ r < 16 ∧ Vamvsf.members s < 4 := by decide
theorem behind_eq (n : Nat) (h : n < 4) : [6, 2, 2, 6].getD n 0 = Vamvsf.weight n ∧ Vamvsf.weight n ≤ 6 := by
  have : n = 0 ∨ n = 1 ∨ n = 2 ∨ n = 3 := by omega
  rcases this with h | h | h | h <;> subst h <;> decide
theorem ok_added_in_orders (B : Bn mg) (GB : GTup K mg "ORDERS_BEHIND" (iv [6, 2, 2, 6])) (D1 : Def P w K mg base CX0 1 "readers_in" ["group"] spReadersIn) (F : FunG K mg "added_in_orders" sAddedInOrders) :
    Def P w K mg base CX0 2 "added_in_orders" ["alone", "reader"] (spAddedInOrders K) := by
  refine F.def (fun _ _ _ _ _ _ us hl => match us, hl with | [_, _], _ => rfl) fun f fd F => ?_
  have nd := scAddedInOrders.nd
  obtain ⟨aO, gO, tO⟩ := GB
  refine F.ok scAddedInOrders (fun vs H Q E h => ?_) (fun cdv A outer s H vs Q E hr h => ⟨_, pss_cons (ps_set (i := 2) nd rfl (Or.inl rfl) (pe_op n_shl pe_int (pv 1)))
    (pss_cons (ps_set (i := 3) nd rfl (Or.inl rfl) pe_int)
    (pss_cons (ps_for PassesOwn.never rfl (pi_range1 (by rfl) B.range (pa_cons (pe_callB n_len (by rfl) B.len PySem.boot_len (pa_cons (pv 0) pa_nil)) pa_nil)) (pg_name (i := 4) nd rfl (Or.inl rfl))
      (pss_one (ps_if (pt_cmpR n_eq (pe_op n_and (pv 4) (pv 2)) pe_int (nomark _))
        (pss_one (ps_aug (i := 3) nd rfl (Or.inl rfl) (pe_op op_mul (pe_ix (n_ixT (K := K)) (gref gO) (cl D1 hr pass0 (pa_cons (pv 4) pa_nil)) (fun _ _ => rfl)) (pe_op op_sub (pe_ix (n_ix (K := K)) (pv 0) (pe_op n_or (pv 4) (pv 2)) (fun _ _ => rfl)) (pe_ix (n_ix (K := K)) (pv 0) (pv 4) (fun _ _ => rfl)))) ip_add)) pss_nil)))
    (pss_one (ps_ret (pv 3))))), ?_⟩)
  · obtain ⟨a, cs, r, rfl, _⟩ := h
    rfl
  · obtain ⟨a, cs, r, rfl, hA, hl, hr4, k⟩ := h
    refine ⟨_, rfl, 1, r, rfl, rfl, ⟨by omega, by omega⟩, _, rfl, a, _, rfl, .inl hA, ((iv cs).length : Nat), rfl, (rng (by rw [List.length_map]; omega)).1, (rng (by rw [List.length_map]; omega)).2, ?_⟩
    rw [Int.toNat_natCast, List.length_map, hl]
    refine for_it walk_n (fun i σ H' => ∃ x4 : Option V, σ = [some (.ref a), some (.int (r : Nat)), some (.int ((1 * 2 ^ r : Nat) : Int)), some (.int (addedUpTo cs r i)), x4] ∧ Same H H') ⟨none, rfl, Same.refl H⟩ (fun _ _ _ _ _ => trivial) ?_ ?_
    · rintro i x σ H1 H2 hi ⟨x4, rfl, e⟩ ⟨rfl, rfl⟩
      refine ⟨_, rfl, _, rfl, i, 1 * 2 ^ r, rfl, rfl, _, 0, rfl, rfl, _, rfl, ?_⟩
      rw [bits_in r hr4 i hi]
      refine if_b (fun hb => ?_) fun hb => ?_
      · have hin : Vamvsf.inGroup i r = false := by simpa using hb
        obtain ⟨o1, o2, o3⟩ := bits_or r hr4 i hi hin
        obtain ⟨w1, w2⟩ := behind_eq _ o3
        refine ⟨_, rfl, _, rfl, i, rfl, hi, fun H3 s3 => ?_⟩
        have s13 := e.trans s3
        refine ⟨aO, _, Vamvsf.members i, rfl, rfl, tO _, o3, _, rfl, _, rfl, _, rfl, i, 1 * 2 ^ r, rfl, rfl, ?_⟩
        rw [o1, w1]
        refine ⟨a, _, _, rfl, rfl, s13.seq hA, by rw [hl]; exact o2, _, rfl, _, rfl, a, _, _, rfl, rfl, s13.seq hA, by omega, _, _, rfl, rfl, _, _, rfl, rfl, .inl ⟨by omega, by omega⟩, _, _, rfl, rfl, some (.int (i : Nat)), ?_, s13⟩
        rw [addedUpTo_yes hin]
        rfl
      · have hin : Vamvsf.inGroup i r = true := by simpa using hb
        refine ⟨some (.int (i : Nat)), ?_, e⟩
        rw [addedUpTo_no hin]
        rfl
    · rintro σ H1 ⟨x4, rfl, e⟩
      exact ⟨_, rfl, k _ e⟩
/-! ### all_added -/
abbrev sAllAdded : Stmt := top 14
abbrev nAllAdded : List Str := ["alone", "reader"]
def addedL (cs : List Nat) : List Int := (List.range 4).map (added cs)
def spAllAdded (K : PySem.W.Frag) : Sp := fun vs H Q _ => ∃ (a : Addr) (cs : List Nat), vs = [.ref a] ∧ SqL K H a (iv cs) ∧ cs.length = 16 ∧ ∀ (H' : Hp) (p : Addr), Same H H' → H p = none → H' p = some (.lst ((addedL cs).map V.int)) → Q (.ref p) H'
theorem scAllAdded : FnScope nAllAdded ["alone"] (defScope sAllAdded) := ⟨rfl, rfl, rfl, by decide +kernel, rfl, by decide +kernel, by decide +kernel⟩
theorem ok_all_added (B : Bn mg) (GR : GInt mg "READER_COUNT" 4) (D1 : Def P w K mg base CX0 2 "added_in_orders" ["alone", "reader"] (spAddedInOrders K)) (F : FunG K mg "all_added" sAllAdded) :
    Def P w K mg base CX0 3 "all_added" ["alone"] (spAllAdded K) := by
  refine F.def (fun _ _ _ _ _ _ us hl => match us, hl with | [_], _ => rfl) fun f fd F => ?_
  have nd := scAllAdded.nd
  refine F.ok scAllAdded (fun vs H Q E h => ?_) (fun cdv A outer s H vs Q E hr h => ⟨_, pss_one (ps_ret
    (pe_lc (own := [("reader", 1)]) (g := gName 1) (tt := tYes) rfl nd (pi_range1 (by rfl) B.range (pa_cons (gi GR) pa_nil))
      (blkOk_by (own := [("reader", 1)]) (N := nAllAdded) (sc := defScope sAllAdded) (by decide +kernel)) (fun _ _ _ _ _ => pg_name (i := 1) nd rfl (Or.inl rfl)) (fun _ _ _ _ _ => pts_nil)
      (fun _ _ _ _ _ => cl D1 hr pass0 (pa_cons (pv 0) (pa_cons (pv 1) pa_nil))))), ?_⟩)
  · obtain ⟨a, cs, rfl, _⟩ := h
    rfl
  · obtain ⟨a, cs, rfl, hA, hl, k⟩ := h
    refine ⟨4, rfl, by decide, by decide, fun D hD => lc_go walk_n (upTo fun r => V.int (added cs r)) rfl hD (fun _ _ => trivial) ?_ ?_⟩
    · rintro i x H1 H2 hi hP ⟨rfl, rfl⟩
      have hi4 : i < 4 := hi
      refine ⟨rfl, _, rfl, _, rfl, a, cs, i, rfl, hP.1.seq hA, hl, hi4, fun H3 s3 => ?_⟩
      exact lc_put hD hP s3 (upTo_succ _ _) (by rw [upTo_len, line_eq]; omega)
    · rintro H1 ⟨s1, hD1⟩
      refine k _ _ s1 hD ?_
      rw [hD1]
      unfold upTo addedL
      rw [List.map_map]
      rfl
/-! ### in_lowest_terms -/
abbrev sLowest : Stmt := top 17
abbrev nLowest : List Str := ["numerator", "denominator", "common", "rest", "left"]
def spLowest : Sp := fun vs H Q _ => ∃ (n d : Nat), vs = [.int (n : Nat), .int (d : Nat)] ∧ 0 < d ∧ d < 1000000 ∧
  ∀ (H' : Hp) (p : Addr), Same H H' → H p = none → H' p = some (.tup [.int ((n / Nat.gcd n d : Nat) : Int), .int ((d / Nat.gcd n d : Nat) : Int)]) → Q (.ref p) H'
theorem scLowest : FnScope nLowest ["numerator", "denominator"] (defScope sLowest) := ⟨rfl, rfl, rfl, by decide +kernel, rfl, by decide +kernel, by decide +kernel⟩
theorem ok_lowest (F : FunG K mg "in_lowest_terms" sLowest) : Def P w K mg base CX0 1 "in_lowest_terms" ["numerator", "denominator"] spLowest := by
  refine F.def (fun _ _ _ _ _ _ us hl => match us, hl with | [_, _], _ => rfl) fun f fd F => ?_
  have nd := scLowest.nd
  refine F.ok scLowest (fun vs H Q E h => ?_) (fun cdv A outer s H vs Q E hr h => ⟨_, pss_cons (ps_set (i := 2) nd rfl (Or.inl rfl) (pv 1))
    (pss_cons (ps_set (i := 3) nd rfl (Or.inl rfl) (pv 0))
    (pss_cons (ps_while PassesOwn.never (pt_cmpR n_gt (pv 3) pe_int (nomark _)) (pss_cons (ps_set (i := 4) nd rfl (Or.inl rfl) (pe_op n_mod (pv 2) (pv 3))) (pss_cons (ps_set (i := 2) nd rfl (Or.inl rfl) (pv 3)) (pss_one (ps_set (i := 3) nd rfl (Or.inl rfl) (pv 4))))))
    (pss_one (ps_ret (pe_tup (pa_cons (pe_op n_div (pv 0) (pv 2)) (pa_cons (pe_op n_div (pv 1) (pv 2)) pa_nil))))))), ?_⟩)
  · obtain ⟨n, d, rfl, _⟩ := h
    rfl
  · obtain ⟨n, d, rfl, h0, hd, k⟩ := h
    refine ⟨_, rfl, _, rfl, while_by (fun σ H' => ∃ (c r : Nat) (x4 : Option V), σ = [some (.int (n : Nat)), some (.int (d : Nat)), some (.int (c : Nat)), some (.int (r : Nat)), x4] ∧ H' = H ∧ Nat.gcd r c = Nat.gcd n d)
      (fun σ _ => match σ with | [_, _, _, some (.int r), _] => r.toNat | _ => 0) ⟨d, n, none, rfl, rfl, rfl⟩ ?_ (mono_test fun x y H Q Q' hQ ⟨a, b, h1, h2, h3⟩ => ⟨a, b, h1, h2, hQ _ _ h3⟩)⟩
    rintro σ H' ⟨c, r, x4, rfl, rfl, hg⟩
    refine ⟨_, rfl, r, 0, rfl, rfl, _, rfl, if_d (fun hr0 => ?_) fun hr0 => ?_⟩
    · refine ⟨_, rfl, _, rfl, c, r, rfl, rfl, hr0, _, rfl, _, rfl, ⟨r, c % r, some (.int ((c % r : Nat) : Int)), rfl, rfl, ?_⟩, ?_⟩
      · rw [← hg]
        exact (Nat.gcd_rec r c).symm
      · show (((c % r : Nat) : Int)).toNat < ((r : Nat) : Int).toNat
        rw [Int.toNat_natCast, Int.toNat_natCast]
        exact Nat.mod_lt _ hr0
    · have : r = 0 := by omega
      subst this
      rw [Nat.gcd_zero_left] at hg
      have hgp : 0 < Nat.gcd n d := Nat.gcd_pos_of_pos_right n h0
      have hgl : Nat.gcd n d ≤ d := Nat.gcd_le_right n h0
      rw [← hg] at hgp hgl
      refine ⟨_, rfl, _, rfl, n, c, rfl, rfl, ⟨hgp, by omega⟩, _, rfl, _, rfl, d, c, rfl, rfl, ⟨hgp, by omega⟩, by show 2 ≤ sizeLine; decide, fun p hp => ?_⟩
      refine k _ p (Same.new hp) hp ?_
      rw [upd_same, ← hg]
/-! ### all_shares -/
abbrev sAllShares : Stmt := top 16
abbrev nAllShares : List Str := ["alone", "added"]
def FracAt (H : Hp) (p : Addr) (f : VamvsBase.Frac) : Prop := H p = some (.tup [.int f.num, .int (f.den : Nat)])
def spAllShares (K : PySem.W.Frag) : Sp := fun vs H Q _ => ∃ (a : Addr) (cs : List Nat), vs = [.ref a] ∧ SqL K H a (iv cs) ∧ cs.length = 16 ∧ (∀ r < 4, 0 ≤ added cs r) ∧
  ∀ (H' : Hp) (p : Addr) (ps : List Addr), Same H H' → H p = none → H' p = some (.lst (ps.map V.ref)) → AllAt FracAt H' ps (Vamvsf.shares cs) → Q (.ref p) H'
theorem AllAt.snoc {α : Type} {A : Hp → Addr → α → Prop} {H : Hp} {ps : List Addr} {l : List α} {p : Addr} {x : α} (h : AllAt A H ps l) (hx : A H p x) : AllAt A H (ps ++ [p]) (l ++ [x]) := by
  refine ⟨by rw [List.length_append, List.length_append, h.len]; rfl, fun i q y h1 h2 => ?_⟩
  by_cases hi : i < ps.length
  · rw [List.getElem?_append_left hi] at h1
    rw [List.getElem?_append_left (by rw [← h.len]; exact hi)] at h2
    exact h.at_ i q y h1 h2
  · have hil : i = ps.length := by
      rcases Nat.lt_or_ge i (ps.length + 1) with z | z
      · omega
      · rw [List.getElem?_eq_none (by simp; omega)] at h1
        cases h1
    subst hil
    rw [List.getElem?_append_right (Nat.le_refl _), Nat.sub_self] at h1
    rw [h.len, List.getElem?_append_right (Nat.le_refl _), Nat.sub_self] at h2
    cases h1
    cases h2
    exact hx
theorem AllAt.nil {α : Type} {A : Hp → Addr → α → Prop} {H : Hp} : AllAt A H [] ([] : List α) := ⟨rfl, fun i p x h1 => by simp at h1⟩
theorem scAllShares : FnScope nAllShares ["alone"] (defScope sAllShares) := ⟨rfl, rfl, rfl, by decide +kernel, rfl, by decide +kernel, by decide +kernel⟩
theorem ok_all_shares (GO : GInt mg "ORDERS" 24) (D1 : Def P w K mg base CX0 3 "all_added" ["alone"] (spAllAdded K)) (D2 : Def P w K mg base CX0 1 "in_lowest_terms" ["numerator", "denominator"] spLowest) (F : FunG K mg "all_shares" sAllShares) :
    Def P w K mg base CX0 4 "all_shares" ["alone"] (spAllShares K) := by
  refine F.def (fun _ _ _ _ _ _ us hl => match us, hl with | [_], _ => rfl) fun f fd F => ?_
  have nd := scAllShares.nd
  refine F.ok scAllShares (fun vs H Q E h => ?_) (fun cdv A outer s H vs Q E hr h => ⟨_, pss_one (ps_ret
    (pe_lc (own := [("added", 1)]) (g := gName 1) (tt := tYes) rfl nd (pi_list (cl D1 hr pass0 (pa_cons (pv 0) pa_nil)))
      (blkOk_by (own := [("added", 1)]) (N := nAllShares) (sc := defScope sAllShares) (by decide +kernel)) (fun _ _ _ _ _ => pg_name (i := 1) nd rfl (Or.inl rfl)) (fun _ _ _ _ _ => pts_nil)
      (fun _ _ _ _ _ => cl D2 (hr.mono (by decide)) pass0 (pa_cons (pv 1) (pa_cons (gi GO) pa_nil))))), ?_⟩)
  · obtain ⟨a, cs, rfl, _⟩ := h
    rfl
  · obtain ⟨a, cs, rfl, hA, hl, hpos, k⟩ := h
    refine ⟨_, rfl, a, cs, rfl, hA, hl, fun H1 q s1 nq hq => ?_⟩
    refine ⟨q, rfl, ⟨_, SqL.of hq⟩, fun D hD => lc_it (walk_list (K := K) (a := q) (xs := (addedL cs).map V.int))
      (fun i H' => Same H1 H' ∧ ∃ ps, H' D = some (.lst (ps.map V.ref)) ∧ AllAt FracAt H' ps ((Vamvsf.shares cs).take i)) ⟨Same.new hD, [], upd_same, AllAt.nil⟩ (fun i H' _ h => SqL.of (h.1 _ _ hq)) ?_ ?_⟩
    · rintro i x H2 H3 hi ⟨s2, ps, hps, hall⟩ ⟨rfl, hx⟩
      have hi4 : i < 4 := hi
      obtain ⟨n, hn⟩ := Int.eq_ofNat_of_zero_le (hpos i hi4)
      have hxe : x = V.int (added cs i) := by
        have : ((addedL cs).map V.int)[i]? = some (V.int (added cs i)) := by
          unfold addedL
          rw [List.map_map, List.getElem?_map, List.getElem?_range hi4]
          rfl
        rw [this] at hx
        exact (Option.some.inj hx).symm
      subst hxe
      have hsh : (Vamvsf.shares cs)[i]? = some (VamvsBase.frac (added cs i) 24) := by
        unfold Vamvsf.shares
        rw [List.getElem?_map, show Vamvsf.READERS = 4 from rfl, List.getElem?_range hi4]
        rfl
      refine ⟨rfl, _, rfl, n, 24, by show [V.int (added cs i), V.int 24] = _; rw [hn]; rfl, by decide, by decide, fun H4 p s4 np hp => ?_⟩
      have hpl : ps.length ≤ 4 := by rw [hall.len, List.length_take]; omega
      have hpD : p ≠ D := fun z => by rw [z, hps] at np; cases np
      refine ⟨_, s4 _ _ hps, by rw [List.length_map, line_eq]; omega, (s2.trans s4).put hD, ps ++ [p], by rw [upd_same, List.map_append]; rfl, ?_⟩
      rw [take_succ' hsh]
      have hfr : ∀ H H' p (f : VamvsBase.Frac), Same H H' → FracAt H p f → FracAt H' p f := fun _ _ _ _ e h => e _ _ h
      have a1 : AllAt FracAt H4 ps ((Vamvsf.shares cs).take i) := hall.same hfr s4
      have a2 : AllAt FracAt H4 (ps ++ [p]) ((Vamvsf.shares cs).take i ++ [VamvsBase.frac (added cs i) 24]) := a1.snoc (by
        show H4 p = _
        rw [hp, hn, frac_nat n 24 (by decide)])
      refine ⟨a2.len, fun j r y h1 h2 => ?_⟩
      have h3 : H4 r = some (.tup [.int y.num, .int (y.den : Nat)]) := a2.at_ j r y h1 h2
      show upd H4 D _ r = _
      rw [upd_ne (fun z => by
        have h4 : H4 D = some (.lst (ps.map V.ref)) := s4 _ _ hps
        rw [← z] at h4
        rw [h4] at h3
        cases h3)]
      exact h3
    · rintro H2 ⟨s2, ps, hps, hall⟩
      have hlen : ((addedL cs).map V.int).length = (Vamvsf.shares cs).length := rfl
      rw [hlen, List.take_length] at hall
      exact k _ _ ps (s1.trans s2) (s1.free hD) hps hall
/-! ### unhappy_groups -/
abbrev sUnhappy : Stmt := top 18
abbrev nUnhappy : List Str := ["alone", "added", "unhappy", "group", "together", "reader"]
def spUnhappy (K : PySem.W.Frag) : Sp := fun vs H Q _ => ∃ (a : Addr) (cs : List Nat), vs = [.ref a] ∧ SqL K H a (iv cs) ∧ cs.length = 16 ∧ (∀ c ∈ cs, c < 1000000) ∧ newList H (unhappyM cs) Q
theorem group_list (cs : List Nat) (g : Nat) : someOf (fun r => decide (g / 2 ^ r % 2 = 1)) (fun r => V.int (added cs r)) 4 = (((List.range 4).filter fun r => Vamvsf.inGroup g r).map fun r => added cs r).map V.int := by
  unfold someOf
  rw [List.map_map]
  have : (fun r => decide (g / 2 ^ r % 2 = 1)) = fun r => Vamvsf.inGroup g r := by
    funext r
    unfold Vamvsf.inGroup
    rcases Nat.mod_two_eq_zero_or_one (g / 2 ^ r) with h | h <;> rw [h] <;> rfl
  rw [this]
  rfl
theorem scUnhappy : FnScope nUnhappy ["alone"] (defScope sUnhappy) := ⟨rfl, rfl, rfl, by decide +kernel, rfl, by decide +kernel, by decide +kernel⟩
theorem ok_unhappy (B : Bn mg) (GR : GInt mg "READER_COUNT" 4) (GO : GInt mg "ORDERS" 24) (D1 : Def P w K mg base CX0 3 "all_added" ["alone"] (spAllAdded K)) (F : FunG K mg "unhappy_groups" sUnhappy) :
    Def P w K mg base CX0 4 "unhappy_groups" ["alone"] (spUnhappy K) := by
  refine F.def (fun _ _ _ _ _ _ us hl => match us, hl with | [_], _ => rfl) fun f fd F => ?_
  have nd := scUnhappy.nd
  refine F.ok scUnhappy (fun vs H Q E h => ?_) (fun cdv A outer s H vs Q E hr h => ⟨_, pss_cons (ps_set (i := 1) nd rfl (Or.inr rfl) (cl D1 hr pass0 (pa_cons (pv 0) pa_nil)))
    (pss_cons (ps_set (i := 2) nd rfl (Or.inl rfl) (pe_lst pa_nil))
    (pss_cons (ps_for PassesOwn.never rfl (pi_range1 (by rfl) B.range (pa_cons (pe_callB n_len (by rfl) B.len PySem.boot_len (pa_cons (pv 0) pa_nil)) pa_nil)) (pg_name (i := 3) nd rfl (Or.inr rfl))
      (pss_cons (ps_set (i := 4) nd rfl (Or.inl rfl) (pe_callB (cr_sum rfl) (by rfl) B.sum (by decide +kernel) (pa_cons
        (pe_lc (own := [("reader", 5)]) (g := gName 5) (tt := tBitT 3 5) rfl nd (pi_range1 (by rfl) B.range (pa_cons (gi GR) pa_nil))
          (blkOk_by (own := [("reader", 5)]) (N := nUnhappy) (sc := defScope sUnhappy) (by decide +kernel)) (fun _ _ _ _ _ => pg_name (i := 5) nd rfl (Or.inl rfl)) (fun _ _ _ _ _ => pts_one (pt_bit 3 5 (pv 3) (pv 5)))
          (fun _ _ _ _ _ => pe_ix (n_ixI (K := K)) (pv 1) (pv 5) (fun _ _ => rfl))) pa_nil)))
      (pss_one (ps_if (pt_cmpR op_gt (pv 4) (pe_op n_mul (gi GO) (pe_ix (n_ix (K := K)) (pv 0) (pv 3) (fun _ _ => rfl))) (nomark _))
        (pss_one (ps_expr (pe_bm PySem.F.plainAttrs_list PySem.F.slot_list_append PySem.F.type_list_append mt_append (pv 2) (pa_cons (pv 3) pa_nil)))) pss_nil))))
    (pss_one (ps_ret (pv 2))))), ?_⟩)
  · obtain ⟨a, cs, rfl, _⟩ := h
    rfl
  · obtain ⟨a, cs, rfl, hA, hl, hcs, k⟩ := h
    refine ⟨_, rfl, a, cs, rfl, hA, hl, fun H1 q s1 nq hq => ?_⟩
    refine ⟨by decide, fun L hL => ?_⟩
    have s2 : Same H1 (upd H1 L (.lst [])) := Same.new hL
    refine ⟨_, rfl, a, _, rfl, .inl ((s1.trans s2).seq hA), ((iv cs).length : Nat), rfl, (rng (by rw [List.length_map]; omega)).1, (rng (by rw [List.length_map]; omega)).2, ?_⟩
    rw [Int.toNat_natCast, List.length_map, hl]
    refine for_it walk_n (fun i σ H' => ∃ x3 x4 : Option V, σ = [some (.ref a), some (.ref q), some (.ref L), x3, x4, none] ∧ Same H1 H' ∧ H' L = some (.lst (iv ((List.range i).filter fun s => decide (24 * ((cs.getD s 0 : Nat) : Int) < groupAdded cs s)))))
      ⟨none, none, rfl, s2, upd_same⟩ (fun _ _ _ _ _ => trivial) ?_ ?_
    · rintro g x σ H2 H3 hg ⟨x3, x4, rfl, e, hL2⟩ ⟨rfl, rfl⟩
      have hgl : g < cs.length := by omega
      have hcg : cs.getD g 0 < 1000000 := by
        have e1 : cs.getD g 0 = cs[g] := by rw [List.getD_eq_getElem?_getD, List.getElem?_eq_getElem hgl]; rfl
        rw [e1]
        exact hcs _ (List.getElem_mem hgl)
      refine ⟨4, rfl, by decide, by decide, fun D hD => lc_go walk_n (someOf (fun r => decide (g / 2 ^ r % 2 = 1)) (fun r => V.int (added cs r))) rfl hD (fun _ _ => trivial) ?_ ?_⟩
      · rintro r x H4 H5 hr4 hP ⟨rfl, rfl⟩
        have hr4' : r < 4 := hr4
        refine ⟨rfl, g, r, rfl, rfl, if_d (fun hb => ?_) fun hb => ?_⟩
        · refine ⟨_, rfl, _, rfl, q, _, r, rfl, rfl, SqL.of (hP.1 _ _ (e _ _ hq)), by simp [addedL]; exact hr4', ?_⟩
          have e1 : (addedL cs).getD r 0 = added cs r := by
            unfold addedL
            rw [List.getD_eq_getElem?_getD, List.getElem?_map, List.getElem?_range hr4']
            rfl
          rw [e1]
          exact lc_put hD hP (Same.refl _) (someOf_yes (decide_eq_true hb)) (Nat.lt_of_le_of_lt (someOf_len _ _ _) (by rw [line_eq]; omega))
        · exact lc_skip hP (Same.refl _) (someOf_no (decide_eq_false hb))
      · rintro H4 ⟨s4, hD4⟩
        have hD5 : H4 D = some (.lst ((((List.range 4).filter fun r => Vamvsf.inGroup g r).map fun r => added cs r).map V.int)) := by
          rw [hD4]
          exact congrArg (fun l => some (HO.lst l)) (group_list cs g)
        have e4 := e.trans s4
        refine ⟨D, _, rfl, SqL.of hD5, ?_⟩
        refine ⟨_, rfl, _, rfl, _, rfl, a, _, g, rfl, rfl, (s1.trans e4).seq hA, hgl, 24, _, rfl, rfl, by decide, _, _, rfl, rfl, _, rfl, ?_⟩
        have hc : ((24 * cs.getD g 0 : Nat) : Int) = 24 * ((cs.getD g 0 : Nat) : Int) := by omega
        rw [hc]
        refine if_b (fun hb => ?_) fun hb => ?_
        · refine ⟨_, rfl, .inl ⟨rfl, _, SqL.of (s4 _ _ hL2)⟩, _, rfl, L, _, _, rfl, rfl, s4 _ _ hL2, ?_, ?_⟩
          · have := List.length_filter_le (fun s => decide (24 * ((cs.getD s 0 : Nat) : Int) < groupAdded cs s)) (List.range g)
            rw [List.length_map, line_eq]
            rw [List.length_range] at this
            omega
          · refine ⟨_, _, rfl, e4.put hL, ?_⟩
            have hb' : decide (24 * ((cs.getD g 0 : Nat) : Int) < groupAdded cs g) = true := hb
            rw [upd_same, List.range_succ, List.filter_append, List.filter_cons, hb']
            simp only [if_true, List.filter_nil]
            rw [iv_snoc]
        · refine ⟨_, _, rfl, e4, ?_⟩
          have hb' : decide (24 * ((cs.getD g 0 : Nat) : Int) < groupAdded cs g) = false := hb
          rw [List.range_succ, List.filter_append, List.filter_cons, hb']
          simp only [Bool.false_eq_true, if_false, List.filter_nil, List.append_nil]
          exact s4 _ _ hL2
    · rintro σ H2 ⟨x3, x4, rfl, e, hL2⟩
      exact ⟨_, rfl, k _ _ (s1.trans e) (s1.free hL) hL2⟩
end
end SR
set_option Elab.async false
set_option linter.all false
set_option maxRecDepth 100000
set_option maxHeartbeats 2000000
namespace SR
open PySem PySem.Spec PyProof.Rows L2
/-! ### lists of lists of numbers -/
def LstAt (H : Hp) (p : Addr) (l : List Nat) : Prop := H p = some (.lst (iv l))
theorem LstAt.same (H H' : Hp) (p : Addr) (l : List Nat) (e : Same H H') (h : LstAt H p l) : LstAt H' p l := e _ _ h
/-- at L: a list of these lists -/
def LoL (H : Hp) (L : Addr) (l : List (List Nat)) : Prop := ∃ ps : List Addr, H L = some (.lst (ps.map V.ref)) ∧ AllAt LstAt H ps l
theorem LoL.same {H H' : Hp} {L : Addr} {l : List (List Nat)} (e : Same H H') (h : LoL H L l) : LoL H' L l := by
  obtain ⟨ps, h1, h2⟩ := h
  exact ⟨ps, e _ _ h1, h2.same LstAt.same e⟩
theorem lst_ne {H : Hp} {L q : Addr} {ps : List Addr} {l : List Nat} (hL : H L = some (.lst (ps.map V.ref))) (hq : LstAt H q l) (hm : q ∈ ps) : q ≠ L := fun z => by
  unfold LstAt at hq
  rw [z, hL] at hq
  have e : ps.map V.ref = iv l := by injection (Option.some.inj hq)
  cases ps with
  | nil => cases hm
  | cons p r =>
    cases l with
    | nil => cases e
    | cons n m =>
      simp only [iv, List.map_cons, List.cons.injEq] at e
      cases e.1
theorem LoL.push {H : Hp} {L p : Addr} {ps : List Addr} {l : List (List Nat)} {x : List Nat} (hL : H L = some (.lst (ps.map V.ref))) (h : AllAt LstAt H ps l) (hp : H p = some (.lst (iv x))) (hne : p ≠ L) : LoL (upd H L (.lst (ps.map V.ref ++ [.ref p]))) L (l ++ [x]) := by
  refine ⟨ps ++ [p], by rw [upd_same, List.map_append]; rfl, ?_⟩
  have a2 : AllAt LstAt H (ps ++ [p]) (l ++ [x]) := h.snoc hp
  refine ⟨a2.len, fun i q y h1 h2 => ?_⟩
  have h3 := a2.at_ i q y h1 h2
  have hq : q ≠ L := by
    by_cases hi : i < ps.length
    · rw [List.getElem?_append_left hi] at h1
      exact lst_ne hL h3 (List.mem_of_getElem? h1)
    · have hil : i = ps.length := by
        rcases Nat.lt_or_ge i (ps.length + 1) with z | z
        · omega
        · rw [List.getElem?_eq_none (by simp; omega)] at h1
          cases h1
      subst hil
      rw [List.getElem?_append_right (Nat.le_refl _), Nat.sub_self] at h1
      cases h1
      exact hne
  unfold LstAt at h3 ⊢
  rw [upd_ne hq]
  exact h3
theorem LoL.len {H : Hp} {ps : List Addr} {l : List (List Nat)} (h : AllAt LstAt H ps l) : (ps.map V.ref).length = l.length := by rw [List.length_map, h.len]
section
variable {P : Program} {w : World} {K : PySem.W.Frag} {mg : Str → Option Value} {base : Heap} {CT CS : Addr}
/-! ### sets_in_order -/
abbrev sSetsInOrder : Stmt := top 21
abbrev nSetsInOrder : List Str := ["grouping_count", "sets", "grouping", "lesser", "greater"]
def spSetsInOrder : Sp := fun vs H Q _ => ∃ (n : Nat), vs = [.int (n : Nat)] ∧ n ≤ 16 ∧ ∀ (H' : Hp) (p : Addr), Same H H' → H p = none → LoL H' p (setsM n) → Q (.ref p) H'
theorem scSetsInOrder : FnScope nSetsInOrder ["grouping_count"] (defScope sSetsInOrder) := ⟨rfl, rfl, rfl, by decide +kernel, rfl, by decide +kernel, by decide +kernel⟩
theorem ok_sets_in_order (B : Bn mg) (F : FunG K mg "sets_in_order" sSetsInOrder) : Def P w K mg base CX0 1 "sets_in_order" ["grouping_count"] spSetsInOrder := by
  refine F.def (fun _ _ _ _ _ _ us hl => match us, hl with | [_], _ => rfl) fun f fd F => ?_
  have nd := scSetsInOrder.nd
  refine F.ok scSetsInOrder (fun vs H Q E h => ?_) (fun cdv A outer s H vs Q E hr h => ⟨_, pss_cons (ps_set (i := 1) nd rfl (Or.inl rfl) (pe_lst (pa_cons (pe_lst pa_nil) pa_nil)))
    (pss_cons (ps_for PassesOwn.never rfl (pi_range1 (by rfl) B.range (pa_cons (pv 0) pa_nil)) (pg_name (i := 2) nd rfl (Or.inl rfl))
      (pss_one (ps_expr (pe_bm PySem.F.plainAttrs_list PySem.F.slot_list_append PySem.F.type_list_append mt_append (pv 1) (pa_cons (pe_lst (pa_cons (pv 2) pa_nil)) pa_nil)))))
    (pss_cons (ps_for PassesOwn.never rfl (pi_range1 (by rfl) B.range (pa_cons (pv 0) pa_nil)) (pg_name (i := 3) nd rfl (Or.inl rfl))
      (pss_one (ps_for PassesOwn.never rfl (pi_range2 (by rfl) B.range (pa_cons (pe_op n_add (pv 3) pe_int) (pa_cons (pv 0) pa_nil))) (pg_name (i := 4) nd rfl (Or.inl rfl))
        (pss_one (ps_expr (pe_bm PySem.F.plainAttrs_list PySem.F.slot_list_append PySem.F.type_list_append mt_append (pv 1) (pa_cons (pe_lst (pa_cons (pv 3) (pa_cons (pv 4) pa_nil))) pa_nil)))))))
    (pss_one (ps_ret (pv 1))))), ?_⟩)
  · obtain ⟨n, rfl, _⟩ := h
    rfl
  · obtain ⟨n, rfl, hn, k⟩ := h
    refine ⟨by decide, fun e0 he0 => ⟨by show 1 ≤ sizeLine; decide, fun L hL => ?_⟩⟩
    have nL : H L = none := (Same.new (o := .lst []) he0).free hL
    have hne0 : e0 ≠ L := fun z => by rw [← z, upd_same] at hL; cases hL
    have L0 : LoL (upd (upd H e0 (.lst [])) L (.lst [.ref e0])) L [[]] := ⟨[e0], upd_same, ⟨rfl, fun i p x h1 h2 => by
      match i, h1, h2 with
      | 0, h1, h2 =>
        cases h1
        cases h2
        show _ = _
        rw [upd_ne hne0, upd_same]
        rfl⟩⟩
    have s0 : Same H (upd (upd H e0 (.lst [])) L (.lst [.ref e0])) := (Same.new he0).put nL
    refine ⟨_, rfl, (n : Nat), rfl, (rng (by omega)).1, (rng (by omega)).2, ?_⟩
    rw [Int.toNat_natCast]
    refine for_it walk_n (fun i σ H' => ∃ x2 : Option V, σ = [some (.int (n : Nat)), some (.ref L), x2, none, none] ∧ Same H H' ∧ LoL H' L ([[]] ++ (List.range i).map fun g => [g])) ⟨none, rfl, s0, L0⟩ (fun _ _ _ _ _ => trivial) ?_ ?_
    · rintro i x σ H1 H2 hi ⟨x2, rfl, e, ps, hL1, hA⟩ ⟨rfl, rfl⟩
      refine ⟨_, rfl, .inl ⟨rfl, _, SqL.of hL1⟩, _, rfl, by show 1 ≤ sizeLine; decide, fun p hp => ?_⟩
      have hpL : p ≠ L := fun z => by rw [z, hL1] at hp; cases hp
      have s3 : Same H2 (upd H2 p (.lst [.int (i : Nat)])) := Same.new hp
      refine ⟨L, _, _, rfl, rfl, s3 _ _ hL1, ?_, _, rfl, (e.trans s3).put nL, ?_⟩
      · rw [LoL.len hA, List.length_append, List.length_map, List.length_range, line_eq]
        simp only [List.length_cons, List.length_nil]
        omega
      · have hpush := LoL.push (p := p) (x := [i]) (s3 _ _ hL1) (hA.same LstAt.same s3) (upd_same (H := H2) (a := p)) hpL
        rw [List.range_succ, List.map_append, ← List.append_assoc]
        exact hpush
    · rintro σ H1 ⟨x2, rfl, e, hA⟩
      refine ⟨_, rfl, (n : Nat), rfl, (rng (by omega)).1, (rng (by omega)).2, ?_⟩
      rw [Int.toNat_natCast]
      refine for_it walk_n (fun i σ H' => ∃ x3 x4 : Option V, σ = [some (.int (n : Nat)), some (.ref L), x2, x3, x4] ∧ Same H H' ∧ LoL H' L ([[]] ++ (List.range n).map (fun g => [g]) ++ (List.range i).flatMap fun l => (List.range' (l + 1) (n - (l + 1))).map fun g => [l, g]))
        ⟨none, none, rfl, e, by simpa using hA⟩ (fun _ _ _ _ _ => trivial) ?_ ?_
      · rintro l x σ H2 H3 hl ⟨x3, x4, rfl, e2, hB⟩ ⟨rfl, rfl⟩
        refine ⟨_, rfl, l, 1, rfl, rfl, _, rfl, _, (n : Nat), rfl, ⟨(rng (by omega)).1, (rng (by omega)).2, (rng (by omega)).1, (rng (by omega)).2⟩, ?_⟩
        have hnn : ((n : Int) - ((l + 1 : Nat) : Int)).toNat = n - (l + 1) := by omega
        rw [hnn]
        refine for_it (walk_r (lo := l + 1)) (fun j σ H' => ∃ x4 : Option V, σ = [some (.int (n : Nat)), some (.ref L), x2, some (.int (l : Nat)), x4] ∧ Same H H' ∧ LoL H' L (([[]] ++ (List.range n).map (fun g => [g]) ++ (List.range l).flatMap fun l => (List.range' (l + 1) (n - (l + 1))).map fun g => [l, g]) ++ (List.range' (l + 1) j).map fun g => [l, g]))
          ⟨x4, rfl, e2, by simpa using hB⟩ (fun _ _ _ _ _ => trivial) ?_ ?_
        · rintro j x σ H4 H5 hj ⟨x4, rfl, e4, ps, hL4, hA4⟩ ⟨rfl, rfl⟩
          refine ⟨_, rfl, .inl ⟨rfl, _, SqL.of hL4⟩, _, rfl, _, rfl, by show 2 ≤ sizeLine; decide, fun p hp => ?_⟩
          have hpL : p ≠ L := fun z => by rw [z, hL4] at hp; cases hp
          have s5 : Same H5 (upd H5 p (.lst [.int (l : Nat), .int ((l + 1 + j : Nat) : Int)])) := Same.new hp
          refine ⟨L, _, _, rfl, rfl, s5 _ _ hL4, ?_, _, rfl, (e4.trans s5).put nL, ?_⟩
          · rw [LoL.len hA4, line_eq]
            have hfl : ∀ i ≤ n, ((List.range i).flatMap fun l => (List.range' (l + 1) (n - (l + 1))).map fun g => [l, g]).length ≤ i * 16 := by
              intro i hi
              induction i with
              | zero => simp
              | succ i ih =>
                have := ih (by omega)
                rw [List.range_succ, List.flatMap_append, List.length_append]
                simp only [List.flatMap_cons, List.flatMap_nil, List.append_nil, List.length_map, List.length_range']
                omega
            have := hfl l (by omega)
            simp only [List.length_append, List.length_map, List.length_range, List.length_range', List.length_cons, List.length_nil]
            omega
          · have hpush := LoL.push (p := p) (x := [l, l + 1 + j]) (s5 _ _ hL4) (hA4.same LstAt.same s5) upd_same hpL
            rw [List.range'_concat, List.map_append, ← List.append_assoc, Nat.one_mul]
            exact hpush
        · rintro σ H4 ⟨x4, rfl, e4, hA4⟩
          refine ⟨_, _, rfl, e4, ?_⟩
          rw [List.range_succ, List.flatMap_append, ← List.append_assoc]
          simpa using hA4
      · rintro σ H2 ⟨x3, x4, rfl, e2, hB⟩
        exact ⟨_, rfl, k _ _ e2 nL hB⟩
/-! ### all_reads -/
abbrev sAllReads : Stmt := top 22
abbrev nAllReads : List Str := ["table", "sizes", "kept", "reads", "grouping", "times", "usable", "other"]
def spAllReads (K : PySem.W.Frag) (CT : Addr) : Sp := fun vs H Q _ => ∃ (a z kk : Addr) (t : Vamvsa.Table) (kp : List Nat), vs = [.ref a, .ref z, .ref kk] ∧ TblAt CT H a t ∧ Right t ∧ SqL K H z (iv (sizesM t)) ∧ SqL K H kk (iv kp) ∧ kp ∈ setsM (2 ^ t.cols.length) ∧
  newList H (Vamvsf.rowCosts t kp) Q
/-- x & y == y -/
def tHas (i j : Nat) : TT := fun σ H Q => ∃ v g : Nat, σ[i]? = some (some (.int (v : Nat))) ∧ σ[j]? = some (some (.int (g : Nat))) ∧ Q (has v g) H
theorem pt_has {X : Cx} (i j : Nat) {x y : Str} {p1 p2 p3 p4 p5 : Pos} (hx : PE X (.Name x p1) (tVar i)) (hy : PE X (.Name y p2) (tVar j)) (hy2 : PE X (.Name y p4) (tVar j)) : PT X (.Compare (.BinOp (.Name x p1) .BitAnd (.Name y p2) p3) [.Eq] [.Name y p4] p5) (tHas i j) :=
  (pt_cmpR n_eq (pe_op n_and hx hy) hy2 (nomark _)).weak fun σ H Q ⟨v, g, h1, h2, h3⟩ => ⟨_, h1, _, h2, v, g, rfl, rfl, _, h2, v &&& g, g, rfl, rfl, _, rfl, h3⟩
theorem scAllReads : FnScope nAllReads ["table", "sizes", "kept"] (defScope sAllReads) := ⟨rfl, rfl, rfl, by decide +kernel, rfl, by decide +kernel, by decide +kernel⟩
/-- what the comprehension picks -/
def pickFrom (l : List Nat) (p : Nat → Bool) (f : Nat → Nat) (i : Nat) : List V := iv (((l.take i).filter p).map f)
theorem pick_yes {l : List Nat} {p : Nat → Bool} {f : Nat → Nat} {i n : Nat} (h : l[i]? = some n) (hp : p n = true) : pickFrom l p f (i + 1) = pickFrom l p f i ++ [V.int (f n : Nat)] := by
  unfold pickFrom
  rw [take_succ' h, List.filter_append, List.map_append, iv, List.map_append]
  simp [hp]
theorem pick_no {l : List Nat} {p : Nat → Bool} {f : Nat → Nat} {i n : Nat} (h : l[i]? = some n) (hp : p n = false) : pickFrom l p f (i + 1) = pickFrom l p f i := by
  unfold pickFrom
  rw [take_succ' h, List.filter_append]
  simp [hp]
theorem ok_all_reads (B : Bn mg) (TC : TabC K CT) (F : FunG K mg "all_reads" sAllReads) : Def P w K mg base CX0 1 "all_reads" ["table", "sizes", "kept"] (spAllReads K CT) := by
  refine F.def (fun _ _ _ _ _ _ us hl => match us, hl with | [_, _, _], _ => rfl) fun f fd F => ?_
  have nd := scAllReads.nd
  refine F.ok scAllReads (fun vs H Q E h => ?_) (fun cdv A outer s H vs Q E hr h => ⟨_, pss_cons (ps_set (i := 3) nd rfl (Or.inl rfl) (pe_lst pa_nil))
    (pss_cons (ps_for PassesOwn.never rfl (pi_list (pe_fld (pv 0) rfl)) (pg_tup rfl (pgs_cons (pg_name (i := 4) nd rfl (Or.inr rfl)) (pgs_cons (pg_name (i := 5) nd rfl (Or.inl rfl)) pgs_nil)))
      (pss_cons (ps_setLc (i := 6) (own := [("other", 7)]) (g := gName 7) (tt := tHas 7 4) rfl nd rfl rfl (sw_true rfl rfl rfl (by decide +kernel)) (pi_list (pv 2)) (blkOk_by (own := [("other", 7)]) (N := nAllReads) (sc := defScope sAllReads) (by decide +kernel))
          (fun _ _ _ _ _ => pg_name (i := 7) nd rfl (Or.inl rfl)) (fun _ _ _ _ _ => pts_one (pt_has 7 4 (pv 7) (pv 4) (pv 4))) (fun _ _ _ _ _ => pe_ix (n_ix (K := K)) (pv 1) (pv 7) (fun _ _ => rfl)))
      (pss_one (ps_expr (pe_bm PySem.F.plainAttrs_list PySem.F.slot_list_append PySem.F.type_list_append mt_append (pv 3) (pa_cons
        (pe_callBK (cr_minD rfl (by have := hr.un; exact (show (A.deeper (envOfC "all_reads" (defScope sAllReads) s.heap.objs.size f cdv)).units + 1 + 0 < cLine by omega))) (by rfl) B.min (by decide +kernel) (pa_cons (pv 6) pa_nil) (pk_cons (pe_callB n_len (by rfl) B.len PySem.boot_len (pa_cons (pe_fld (pv 0) rfl) pa_nil)) pk_nil)) pa_nil))))))
    (pss_one (ps_ret (pv 3)))), ?_⟩)
  · obtain ⟨a, z, kk, t, kp, rfl, _⟩ := h
    rfl
  · obtain ⟨a, z, kk, t, kp, rfl, hT, R, hZ, hK, hkp, k⟩ := h
    obtain ⟨dx, c, r, q, rs, qs, h1, h2, h3, h4, h5, h6⟩ := hT.ex
    refine ⟨by decide, fun L hL => ?_⟩
    have s0 : Same H (upd H L (.lst [])) := Same.new hL
    refine ⟨_, rfl, a, CT, dx, _, _, rfl, s0 _ _ h1, TC.cl, TC.nq, tabF_q c r q, q, rfl, ⟨_, SqL.of (s0 _ _ h4)⟩, for_it (walk_list (K := K) (a := q) (xs := qs.map V.ref))
      (fun i σ H' => ∃ x4 x5 x6 : Option V, σ = [some (.ref a), some (.ref z), some (.ref kk), some (.ref L), x4, x5, x6, none] ∧ Same H H' ∧ H' L = some (.lst (iv ((Vamvsf.rowCosts t kp).take i))))
      ⟨none, none, none, rfl, s0, upd_same⟩ (fun i σ H' _ ⟨_, _, _, _, e, _⟩ => SqL.of (e _ _ h4)) ?_ ?_⟩
    · rintro i x σ H1 H2 hi ⟨x4, x5, x6, rfl, e, hL1⟩ ⟨rfl, hx⟩
      obtain ⟨p, hp, rfl⟩ := refs_at hx
      have hil : i < t.asks.length := by rw [← h6.len]; exact (List.getElem?_eq_some_iff.mp hp).1
      have hask : t.asks[i]? = some t.asks[i] := List.getElem?_eq_getElem hil
      have hA := h6.at_ i p _ hp hask
      have hg := (R.in_ _ (List.getElem_mem hil)).1
      obtain ⟨k2, kv, _⟩ := sets_good R.cols.2 hkp
      have hrc : (Vamvsf.rowCosts t kp)[i]? = some (Vamvsa.costOf t kp t.asks[i].g) := by
        unfold Vamvsf.rowCosts
        rw [List.getElem?_map, hask]
        rfl
      have hreads := cost_reads t R.cols.2 hg hkp
      refine ⟨p, _, rfl, SqT.of (e _ _ hA), rfl, _, _, rfl, _, _, rfl, rfl, ?_⟩
      refine ⟨_, rfl, kk, rfl, ⟨_, e.seq hK⟩, fun D hD => lc_go (walk_list (K := K) (a := kk) (xs := iv kp)) (pickFrom kp (fun v => has v t.asks[i].g) (Vamvsa.sizeOf_ t)) rfl hD (fun H' s' => (e.trans s').seq hK) ?_ ?_⟩
      · rintro j y H3 H4 hj hP ⟨rfl, hy⟩
        obtain ⟨hjl, rfl⟩ := iv_at hy
        have hkj : kp[j]? = some kp[j] := List.getElem?_eq_getElem hjl
        have hgd : kp.getD j 0 = kp[j] := by rw [List.getD_eq_getElem?_getD, hkj]; rfl
        rw [hgd]
        have hv := kv _ (List.getElem_mem hjl)
        refine ⟨rfl, kp[j], t.asks[i].g, rfl, rfl, if_b (fun hb => ?_) fun hb => ?_⟩
        · refine ⟨_, rfl, _, rfl, z, _, kp[j], rfl, rfl, (e.trans hP.1).seq hZ, by simp [sizesM]; exact hv, ?_⟩
          have hsz : (sizesM t).getD kp[j] 0 = Vamvsa.sizeOf_ t kp[j] := getD_range_map _ hv
          rw [hsz]
          refine lc_put hD hP (Same.refl _) (pick_yes hkj hb) ?_
          unfold pickFrom
          rw [List.length_map, List.length_map, line_eq]
          have := List.length_filter_le (fun v => has v t.asks[i].g) (kp.take j)
          rw [List.length_take] at this
          omega
        · exact lc_skip hP (Same.refl _) (pick_no hkj hb)
      · rintro H3 ⟨s3, hD3⟩
        have hpl : (iv kp).length = kp.length := List.length_map ..
        rw [hpl] at hD3
        have e3 := e.trans s3
        unfold pickFrom at hD3
        rw [List.take_length] at hD3
        have hD4 : H3 D = some (.lst (((usable t kp t.asks[i].g).map fun n => ((n : Nat) : Int)).map V.int)) := by
          rw [hD3, iv_int]
          rfl
        refine ⟨_, rfl, .inl ⟨rfl, _, SqL.of (s3 _ _ hL1)⟩, _, rfl, _, rfl, a, CT, dx, _, _, rfl, e3 _ _ h1, TC.cl, TC.nr, tabF_r c r q, r, _, rfl, .inl (SqL.of (e3 _ _ h3)), ?_⟩
        have fin : ∀ x : Nat, x = Vamvsa.costOf t kp t.asks[i].g → rAppend (V.ref L) [V.int (x : Nat)] H3 fun _ H4 => ∃ x4' x5' x6' : Option V, ([some (.ref a), some (.ref z), some (.ref kk), some (.ref L), some (.int (t.asks[i].g : Nat)), some (.int (t.asks[i].k : Nat)), some (.ref D), none] : L2.St) = [some (.ref a), some (.ref z), some (.ref kk), some (.ref L), x4', x5', x6', none] ∧ Same H H4 ∧ H4 L = some (.lst (iv ((Vamvsf.rowCosts t kp).take (i + 1)))) := by
          rintro x rfl
          refine ⟨L, _, _, rfl, rfl, s3 _ _ hL1, ?_, _, _, _, rfl, e3.put hL, ?_⟩
          · rw [List.length_map, List.length_take, line_eq]
            have := R.asks
            omega
          · rw [upd_same, take_succ' hrc, iv_snoc]
        refine ⟨D, _, _, rfl, rfl, SqL.of hD4, fun he => ?_, fun m hm hmin => ?_⟩
        · have hu : usable t kp t.asks[i].g = [] := List.map_eq_nil_iff.mp he
          have hrl : (rs.map V.ref).length = t.rows.length := by rw [List.length_map, h5.len]
          rw [hrl]
          exact fin _ (hreads.none hu).symm
        · obtain ⟨n, hn, rfl⟩ := List.mem_map.mp hm
          refine fin n ?_
          have hne : usable t kp t.asks[i].g ≠ [] := fun z => by rw [z] at hn; cases hn
          obtain ⟨c1, c2⟩ := hreads.some hne
          have c3 := c2 n hn
          have c4 := hmin _ (List.mem_map.mpr ⟨_, c1, rfl⟩)
          have c5 : ((n : Nat) : Int) ≤ ((Vamvsa.costOf t kp t.asks[i].g : Nat) : Int) := c4
          omega
    · rintro σ H1 ⟨x4, x5, x6, rfl, e, hL1⟩
      refine ⟨_, rfl, k _ _ e hL ?_⟩
      rw [hL1]
      have : (qs.map V.ref).length = (Vamvsf.rowCosts t kp).length := by
        unfold Vamvsf.rowCosts
        rw [List.length_map, List.length_map, h6.len]
      rw [this, List.take_length]
end
end SR
set_option Elab.async false
set_option linter.all false
set_option maxRecDepth 100000
set_option maxHeartbeats 2000000
namespace SR
open PySem PySem.Spec PyProof.Rows L2
def smF (l h s r u : Addr) : List (Str × V) := [("low", .ref l), ("high", .ref h), ("sets", .ref s), ("reads", .ref r), ("upkeep", .ref u)]
theorem smF_l (l h s r u : Addr) : (smF l h s r u).lookup ("low" : Str) = some (.ref l) := lk_here
theorem smF_h (l h s r u : Addr) : (smF l h s r u).lookup ("high" : Str) = some (.ref h) := (lk_past (by decide +kernel)).trans lk_here
theorem smF_s (l h s r u : Addr) : (smF l h s r u).lookup ("sets" : Str) = some (.ref s) := (lk_past (by decide +kernel)).trans ((lk_past (by decide +kernel)).trans lk_here)
theorem smF_r (l h s r u : Addr) : (smF l h s r u).lookup ("reads" : Str) = some (.ref r) := (lk_past (by decide +kernel)).trans ((lk_past (by decide +kernel)).trans ((lk_past (by decide +kernel)).trans lk_here))
theorem smF_u (l h s r u : Addr) : (smF l h s r u).lookup ("upkeep" : Str) = some (.ref u) := (lk_past (by decide +kernel)).trans ((lk_past (by decide +kernel)).trans ((lk_past (by decide +kernel)).trans ((lk_past (by decide +kernel)).trans lk_here)))
def sf1 (l : Addr) : List (Str × V) := [("low", .ref l)]
def sf2 (l h : Addr) : List (Str × V) := [("low", .ref l), ("high", .ref h)]
def sf3 (l h s : Addr) : List (Str × V) := [("low", .ref l), ("high", .ref h), ("sets", .ref s)]
def sf4 (l h s r : Addr) : List (Str × V) := [("low", .ref l), ("high", .ref h), ("sets", .ref s), ("reads", .ref r)]
theorem sf1_put (l : Addr) : putF "low" (V.ref l) [] = sf1 l := rfl
theorem sf2_put (l h : Addr) : putF "high" (V.ref h) (sf1 l) = sf2 l h := (put_past (by decide +kernel)).trans rfl
theorem sf3_put (l h s : Addr) : putF "sets" (V.ref s) (sf2 l h) = sf3 l h s := (put_past (by decide +kernel)).trans (congrArg _ ((put_past (by decide +kernel)).trans rfl))
theorem sf4_put (l h s r : Addr) : putF "reads" (V.ref r) (sf3 l h s) = sf4 l h s r := (put_past (by decide +kernel)).trans (congrArg _ ((put_past (by decide +kernel)).trans (congrArg _ ((put_past (by decide +kernel)).trans rfl))))
theorem smF_put (l h s r u : Addr) : putF "upkeep" (V.ref u) (sf4 l h s r) = smF l h s r u :=
  (put_past (by decide +kernel)).trans (congrArg _ ((put_past (by decide +kernel)).trans (congrArg _ ((put_past (by decide +kernel)).trans (congrArg _ ((put_past (by decide +kernel)).trans rfl))))))
theorem sf3_s (l h s : Addr) : (sf3 l h s).lookup ("sets" : Str) = some (.ref s) := (lk_past (by decide +kernel)).trans ((lk_past (by decide +kernel)).trans lk_here)
theorem sf4_s (l h s r : Addr) : (sf4 l h s r).lookup ("sets" : Str) = some (.ref s) := (lk_past (by decide +kernel)).trans ((lk_past (by decide +kernel)).trans lk_here)
structure SmallC (K : PySem.W.Frag) (CS : Addr) : Prop where
  cl : Cls K CS
  nl : NoAttr K CS "low"
  nh : NoAttr K CS "high"
  ns : NoAttr K CS "sets"
  nr : NoAttr K CS "reads"
  nu : NoAttr K CS "upkeep"
def upkeeps (t : Vamvsa.Table) (c : Nat) : List Nat := (setsM (2 ^ t.cols.length)).map fun k => 2 * c * k.length
structure SmallAt (K : PySem.W.Frag) (CS : Addr) (H : Hp) (a : Addr) (t : Vamvsa.Table) (c : Nat) (lo hi : List Nat) : Prop where
  ex : ∃ (dx l h s r u : Addr), H a = some (.ins CS dx (smF l h s r u)) ∧ SqL K H l (iv lo) ∧ SqL K H h (iv hi) ∧ LoL H s (setsM (2 ^ t.cols.length)) ∧ LoL H r ((setsM (2 ^ t.cols.length)).map (Vamvsf.rowCosts t)) ∧ H u = some (.lst (iv (upkeeps t c)))
theorem SmallAt.same {K : PySem.W.Frag} {CS : Addr} {H H' : Hp} {a : Addr} {t : Vamvsa.Table} {c : Nat} {lo hi : List Nat} (e : Same H H') (h : SmallAt K CS H a t c lo hi) : SmallAt K CS H' a t c lo hi := by
  obtain ⟨dx, l, h', s, r, u, h1, h2, h3, h4, h5, h6⟩ := h.ex
  exact ⟨dx, l, h', s, r, u, e _ _ h1, e.seq h2, e.seq h3, h4.same e, h5.same e, e _ _ h6⟩
/-- one item of such a list -/
theorem LoL.get {H : Hp} {ps : List Addr} {l : List (List Nat)} (h : AllAt LstAt H ps l) {i : Nat} (hi : i < l.length) : ∃ p, ps[i]? = some p ∧ atI (ps.map V.ref) (i : Int) = some (.ref p) ∧ H p = some (.lst (iv l[i])) := by
  have hip : i < ps.length := by rw [h.len]; exact hi
  refine ⟨ps[i], List.getElem?_eq_getElem hip, at_of rfl (by rw [List.getElem?_map, List.getElem?_eq_getElem hip]; rfl), h.at_ i _ _ (List.getElem?_eq_getElem hip) (List.getElem?_eq_getElem hi)⟩
section
variable {P : Program} {w : World} {K : PySem.W.Frag} {mg : Str → Option Value} {base : Heap} {CT CS : Addr}
/-! ### SmallSets.__init__ -/
abbrev sSmallInit : Stmt := inClass (top 20) 0
abbrev nSmallInit : List Str := ["self", "table", "changes", "low", "high", "sizes", "kept"]
def spSmallInit (K : PySem.W.Frag) (CT CS : Addr) : Sp := fun vs H Q _ => ∃ (p dx a l h : Addr) (H0 : Hp) (t : Vamvsa.Table) (c : Nat) (lo hi : List Nat), vs = [.ref p, .ref a, .int (c : Nat), .ref l, .ref h] ∧
  H = upd (upd H0 dx (.own p)) p (.ins CS dx []) ∧ H0 p = none ∧ H0 dx = none ∧ dx ≠ p ∧ TblAt CT H0 a t ∧ Right t ∧ c ≤ 1000 ∧ SqL K H0 l (iv lo) ∧ SqL K H0 h (iv hi) ∧
  ∀ H', Same H0 H' → SmallAt K CS H' p t c lo hi → Q .non H'
theorem scSmallInit : FnScope nSmallInit ["self", "table", "changes", "low", "high"] (defScope sSmallInit) := ⟨rfl, rfl, rfl, by decide +kernel, rfl, by decide +kernel, by decide +kernel⟩
theorem ok_small_init (B : Bn mg) (SC : SmallC K CS) (GC : GInt mg "CHANGE_COST" 2) (D1 : Def P w K mg base CX0 2 "all_sizes" ["table"] (spAllSizes CT)) (D2 : Def P w K mg base CX0 1 "sets_in_order" ["grouping_count"] spSetsInOrder)
    (D3 : Def P w K mg base CX0 1 "all_reads" ["table", "sizes", "kept"] (spAllReads K CT)) (F : FunI K mg CS "SmallSets" "SmallSets.__init__" sSmallInit) :
    MakeOk P w K mg base 3 "SmallSets" CS ["self", "table", "changes", "low", "high"] (spSmallInit K CT CS) := by
  refine F.def (fun _ _ _ _ _ _ us hl => match us, hl with | [_, _, _, _, _], _ => rfl) fun f fd F => ?_
  have nd := scSmallInit.nd
  refine F.ok scSmallInit (fun vs H Q E h => ?_) (fun cdv A outer s H vs Q E hr h => ⟨_, pss_cons (ps_set (i := 5) nd rfl (Or.inr rfl) (cl D1 hr pass0 (pa_cons (pv 1) pa_nil)))
    (pss_cons (ps_fld (pv 0) (pv 3) rfl) (pss_cons (ps_fld (pv 0) (pv 4) rfl)
    (pss_cons (ps_fld (pv 0) (cl D2 (hr.mono (by decide)) pass0 (pa_cons (pe_callB n_len (by rfl) B.len PySem.boot_len (pa_cons (pv 5) pa_nil)) pa_nil)) rfl)
    (pss_cons (ps_fld (pv 0) (pe_lc (own := [("kept", 6)]) (g := gName 6) (tt := tYes) rfl nd (pi_list (pe_fld (pv 0) rfl)) (blkOk_by (own := [("kept", 6)]) (N := nSmallInit) (sc := defScope sSmallInit) (by decide +kernel))
        (fun _ _ _ _ _ => pg_name (i := 6) nd rfl (Or.inl rfl)) (fun _ _ _ _ _ => pts_nil) (fun _ _ _ _ _ => cl D3 (hr.mono (by decide)) pass0 (pa_cons (pv 1) (pa_cons (pv 5) (pa_cons (pv 6) pa_nil))))) rfl)
    (pss_one (ps_fld (pv 0) (pe_lc (own := [("kept", 6)]) (g := gName 6) (tt := tYes) (te := tOp (fun x y H Q => ∃ a b : Nat, x = .int (a : Nat) ∧ y = .int (b : Nat) ∧ (a < 2 ^ 63) ∧ Q (.int ((a * b : Nat) : Int)) H) (tOp (fun x y H Q => ∃ a b : Nat, x = .int (a : Nat) ∧ y = .int (b : Nat) ∧ (a < 2 ^ 63) ∧ Q (.int ((a * b : Nat) : Int)) H) (tC (.int 2)) (tVar 2)) (tCB (fun xs H Q => ∃ p ys, xs = [.ref p] ∧ (SqL K H p ys ∨ SqT K H p ys) ∧ Q (.int ((ys.length : Nat) : Int)) H) (tCons (tVar 6) tNil)))
        rfl nd (pi_list (pe_fld (pv 0) rfl)) (blkOk_by (own := [("kept", 6)]) (N := nSmallInit) (sc := defScope sSmallInit) (by decide +kernel))
        (fun _ _ _ _ _ => pg_name (i := 6) nd rfl (Or.inl rfl)) (fun _ _ _ _ _ => pts_nil) (fun _ _ _ _ _ => pe_op n_mul (pe_op n_mul (gi GC) (pv 2)) (pe_callB n_len (by rfl) B.len PySem.boot_len (pa_cons (pv 6) pa_nil)))) rfl)))))), ?_⟩)
  · obtain ⟨p, dx, a, l, h, H0, t, c, lo, hi, rfl, _⟩ := h
    rfl
  · obtain ⟨p, dx, a, l, h, H0, t, c, lo, hi, rfl, rfl, hp, hd, hne, hT, R, hc, hl, hh, k⟩ := h
    have e0 : Same H0 (upd (upd H0 dx (.own p)) p (.ins CS dx [])) := (Same.new hd).put hp
    refine ⟨_, rfl, a, t, rfl, hT.same e0, R, fun H1 z s1 nz hz => ?_⟩
    have e1 := e0.trans s1
    have hp1 : H1 p = some (.ins CS dx []) := s1 _ _ upd_same
    have hzp : z ≠ p := fun q => by rw [q, hp1] at hz; cases hz
    have e2 : Same H0 (upd H1 p (.ins CS dx (sf1 l))) := e1.put hp
    refine ⟨_, rfl, _, rfl, p, CS, dx, [], rfl, hp1, SC.cl, SC.nl, by show 0 < 1000; decide, ?_⟩
    rw [sf1_put]
    have e3 : Same H0 (upd (upd H1 p (.ins CS dx (sf1 l))) p (.ins CS dx (sf2 l h))) := e2.put hp
    refine ⟨_, rfl, _, rfl, p, CS, dx, _, rfl, upd_same, SC.cl, SC.nh, by show 1 < 1000; decide, ?_⟩
    rw [sf2_put]
    generalize hG2 : upd (upd H1 p (.ins CS dx (sf1 l))) p (.ins CS dx (sf2 l h)) = H2 at *
    have hp2 : H2 p = some (.ins CS dx (sf2 l h)) := by rw [← hG2]; exact upd_same
    have hz2 : H2 z = some (.lst (iv (sizesM t))) := by rw [← hG2, upd_ne hzp, upd_ne hzp]; exact hz
    have hw := R.cols
    have h2p : 2 ^ t.cols.length ≤ 16 := by
      have : 2 ^ t.cols.length ≤ 2 ^ 4 := Nat.pow_le_pow_right (by decide) hw.2
      exact this
    refine ⟨_, rfl, z, _, rfl, .inl (SqL.of hz2), (iv (sizesM t)).length, rfl, by rw [List.length_map]; simp [sizesM]; exact h2p, fun H3 q s3 nq hq => ?_⟩
    have hsl : (iv (sizesM t)).length = 2 ^ t.cols.length := by rw [List.length_map]; simp [sizesM]
    rw [hsl] at hq
    have e4 := e3.trans s3
    have hp3 := s3 _ _ hp2
    have hqp : q ≠ p := fun z => by rw [z, hp2] at nq; cases nq
    refine ⟨_, rfl, p, CS, dx, _, rfl, hp3, SC.cl, SC.ns, by show 2 < 1000; decide, ?_⟩
    rw [sf3_put]
    have e5 : Same H0 (upd H3 p (.ins CS dx (sf3 l h q))) := e4.put hp
    have keep : ∀ {x : Addr} {o : HO}, x ≠ p → H3 x = some o → upd H3 p (.ins CS dx (sf3 l h q)) x = some o := fun hx ho => by rw [upd_ne hx]; exact ho
    have hz4 := keep hzp (s3 _ _ hz2)
    have hq4 : LoL (upd H3 p (.ins CS dx (sf3 l h q))) q (setsM (2 ^ t.cols.length)) := by
      obtain ⟨ps, g1, g2⟩ := hq
      refine ⟨ps, keep hqp g1, g2.len, fun i r x h1 h2 => ?_⟩
      have h3 := g2.at_ i r x h1 h2
      refine keep (fun z => ?_) h3
      unfold LstAt at h3
      rw [z, hp3] at h3
      cases h3
    generalize hG4 : upd H3 p (.ins CS dx (sf3 l h q)) = H4 at *
    have hp4 : H4 p = some (.ins CS dx (sf3 l h q)) := by rw [← hG4]; exact upd_same
    obtain ⟨ps, g1, g2⟩ := hq4
    have lk3 := sf3_s l h q
    refine ⟨_, rfl, p, CS, dx, _, _, rfl, hp4, SC.cl, SC.ns, lk3, q, rfl, ⟨_, SqL.of g1⟩, fun D hD => lc_it (walk_list (K := K) (a := q) (xs := ps.map V.ref))
      (fun i H' => Same H4 H' ∧ LoL H' D (((setsM (2 ^ t.cols.length)).map (Vamvsf.rowCosts t)).take i)) ⟨Same.new hD, [], upd_same, AllAt.nil⟩ (fun i H' _ h => SqL.of (h.1 _ _ g1)) ?_ ?_⟩
    · rintro i x H5 H6 hi ⟨s5, ds, hds, hda⟩ ⟨rfl, hx⟩
      obtain ⟨r, hr', rfl⟩ := refs_at hx
      have hil : i < (setsM (2 ^ t.cols.length)).length := by rw [← g2.len]; exact (List.getElem?_eq_some_iff.mp hr').1
      have hk := g2.at_ i r _ hr' (List.getElem?_eq_getElem hil)
      refine ⟨rfl, _, rfl, _, rfl, _, rfl, a, z, r, t, (setsM (2 ^ t.cols.length))[i], rfl, (hT.same e5).same s5, R, SqL.of (s5 _ _ hz4), SqL.of (s5 _ _ hk), List.getElem_mem hil, fun H7 o s7 no ho => ?_⟩
      have hoD : o ≠ D := fun z => by rw [z, hds] at no; cases no
      have hsl2 := (few_sets t.cols.length hw.2).2.1
      refine ⟨_, s7 _ _ hds, ?_, (s5.trans s7).put hD, ?_⟩
      · rw [LoL.len hda, List.length_take, List.length_map, line_eq]
        omega
      · have hsucc : ((setsM (2 ^ t.cols.length)).map (Vamvsf.rowCosts t))[i]? = some (Vamvsf.rowCosts t (setsM (2 ^ t.cols.length))[i]) := by
          rw [List.getElem?_map, List.getElem?_eq_getElem hil]
          rfl
        rw [take_succ' hsucc]
        exact LoL.push (p := o) (s7 _ _ hds) (hda.same LstAt.same s7) ho hoD
    · rintro H5 ⟨s5, hLD⟩
      have hlen : (ps.map V.ref).length = ((setsM (2 ^ t.cols.length)).map (Vamvsf.rowCosts t)).length := by rw [List.length_map, g2.len, List.length_map]
      rw [hlen, List.take_length] at hLD
      have hp5 := s5 _ _ hp4
      have hDp : D ≠ p := fun z => by rw [z, hp4] at hD; cases hD
      refine ⟨_, rfl, p, CS, dx, _, rfl, hp5, SC.cl, SC.nr, by show 3 < 1000; decide, ?_⟩
      rw [sf4_put]
      have e6 : Same H0 (upd H5 p (.ins CS dx (sf4 l h q D))) := (e5.trans s5).put hp
      have keep5 : ∀ {x : Addr} {o : HO}, x ≠ p → H5 x = some o → upd H5 p (.ins CS dx (sf4 l h q D)) x = some o := fun hx ho => by rw [upd_ne hx]; exact ho
      have keepL : ∀ {x : Addr} {m : List (List Nat)}, x ≠ p → LoL H5 x m → LoL (upd H5 p (.ins CS dx (sf4 l h q D))) x m := fun {x m} hx ⟨ps, f1, f2⟩ => ⟨ps, keep5 hx f1, f2.len, fun i r y h1 h2 => by
        have h3 := f2.at_ i r y h1 h2
        refine keep5 (fun z => ?_) h3
        unfold LstAt at h3
        rw [z, hp5] at h3
        cases h3⟩
      have hR6 := keepL hDp hLD
      have hS6 := keepL hqp (LoL.same s5 ⟨ps, g1, g2⟩)
      generalize hG6 : upd H5 p (.ins CS dx (sf4 l h q D)) = H6 at *
      have hp6 : H6 p = some (.ins CS dx (sf4 l h q D)) := by rw [← hG6]; exact upd_same
      obtain ⟨ps6, f1, f2⟩ := hS6
      have lk4 := sf4_s l h q D
      refine ⟨_, rfl, p, CS, dx, _, _, rfl, hp6, SC.cl, SC.ns, lk4, q, rfl, ⟨_, SqL.of f1⟩, fun U hU => lc_go (walk_list (K := K) (a := q) (xs := ps6.map V.ref)) (fun i => iv ((upkeeps t c).take i)) rfl hU (fun H' s' => SqL.of (s' _ _ f1)) ?_ ?_⟩
      · rintro i x H7 H8 hi hP ⟨rfl, hx⟩
        obtain ⟨r, hr', rfl⟩ := refs_at hx
        have hil : i < (setsM (2 ^ t.cols.length)).length := by rw [← f2.len]; exact (List.getElem?_eq_some_iff.mp hr').1
        have hk := f2.at_ i r _ hr' (List.getElem?_eq_getElem hil)
        refine ⟨rfl, _, rfl, 2, c, rfl, rfl, by decide, _, rfl, r, _, rfl, .inl (SqL.of (hP.1 _ _ hk)), 2 * c, _, rfl, rfl, by omega, ?_⟩
        rw [List.length_map]
        have hsucc : (upkeeps t c)[i]? = some (2 * c * (setsM (2 ^ t.cols.length))[i].length) := by
          unfold upkeeps
          rw [List.getElem?_map, List.getElem?_eq_getElem hil]
          rfl
        have hsl2 := (few_sets t.cols.length hw.2).2.1
        refine lc_put hU hP (Same.refl _) (by show iv _ = _; rw [take_succ' hsucc, iv_snoc]) ?_
        rw [List.length_map, List.length_take, line_eq]
        unfold upkeeps
        rw [List.length_map]
        omega
      · rintro H7 ⟨s7, hU7⟩
        have hul : (ps6.map V.ref).length = (upkeeps t c).length := by rw [List.length_map, f2.len]; unfold upkeeps; rw [List.length_map]
        have hU7 : H7 U = some (.lst (iv ((upkeeps t c).take (ps6.map V.ref).length))) := hU7
        rw [hul, List.take_length] at hU7
        have hp7 := s7 _ _ hp6
        have hUp : U ≠ p := fun z => by rw [z, hp6] at hU; cases hU
        refine ⟨_, rfl, p, CS, dx, _, rfl, hp7, SC.cl, SC.nu, by show 4 < 1000; decide, ?_⟩
        rw [smF_put]
        have e8 : Same H0 (upd H7 p (.ins CS dx (smF l h q D U))) := (e6.trans s7).put hp
        have keep7 : ∀ {x : Addr} {o : HO}, x ≠ p → H7 x = some o → upd H7 p (.ins CS dx (smF l h q D U)) x = some o := fun hx ho => by rw [upd_ne hx]; exact ho
        have keepL7 : ∀ {x : Addr} {m : List (List Nat)}, x ≠ p → LoL H7 x m → LoL (upd H7 p (.ins CS dx (smF l h q D U))) x m := fun {x m} hx ⟨ps, f1, f2⟩ => ⟨ps, keep7 hx f1, f2.len, fun i r y h1 h2 => by
          have h3 := f2.at_ i r y h1 h2
          refine keep7 (fun z => ?_) h3
          unfold LstAt at h3
          rw [z, hp7] at h3
          cases h3⟩
        exact k _ e8 ⟨dx, l, h, q, D, U, upd_same, e8.seq hl, e8.seq hh, keepL7 hqp (LoL.same s7 ⟨ps6, f1, f2⟩), keepL7 hDp (hR6.same s7), keep7 hUp hU7⟩
end
end SR
set_option Elab.async false
set_option linter.all false
set_option maxRecDepth 100000
set_option maxHeartbeats 2000000
namespace SR
open PySem PySem.Spec PyProof.Rows L2
/-- all sets with what the questions read, in order -/
def famM (t : Vamvsa.Table) : Fam := (setsM (2 ^ t.cols.length)).map fun k => (k, Vamvsf.rowCosts t k)
theorem fam_get (t : Vamvsa.Table) {i : Nat} (hi : i < (setsM (2 ^ t.cols.length)).length) : (famM t)[i]? = some ((setsM (2 ^ t.cols.length))[i], Vamvsf.rowCosts t (setsM (2 ^ t.cols.length))[i]) := by
  unfold famM
  rw [List.getElem?_map, List.getElem?_eq_getElem hi]
  rfl
theorem fam_len (t : Vamvsa.Table) : (famM t).length = (setsM (2 ^ t.cols.length)).length := List.length_map ..
/-- how much dearer one is than another, by their places -/
def worseAt (t : Vamvsa.Table) (c : Nat) (lo hi : List Nat) (i j : Nat) : Int := Vamvsf.worseBy c ⟨lo, hi⟩ ((famM t).getD i ([], [])) ((famM t).getD j ([], []))
theorem dearer_snoc : ∀ (xs ys lo hi : List Nat) (a b l h : Nat), xs.length = ys.length → lo.length = xs.length → hi.length = xs.length →
    dearer (xs ++ [a]) (ys ++ [b]) (lo ++ [l]) (hi ++ [h]) = dearer xs ys lo hi + (if 0 < (a : Int) - (b : Int) then ((a : Int) - (b : Int)) * (h : Int) else ((a : Int) - (b : Int)) * (l : Int))
  | [], [], [], [], a, b, l, h, _, _, _ => by simp [dearer]
  | x :: xs, y :: ys, z :: lo, w :: hi, a, b, l, h, h1, h2, h3 => by
    have ih := dearer_snoc xs ys lo hi a b l h (by simpa using h1) (by simpa using h2) (by simpa using h3)
    simp only [List.cons_append, dearer, ih]
    omega
  | [], _ :: _, _, _, _, _, _, _, h, _, _ => by cases h
  | _ :: _, [], _, _, _, _, _, _, h, _, _ => by cases h
  | [], [], _ :: _, _, _, _, _, _, _, h, _ => by cases h
  | [], [], [], _ :: _, _, _, _, _, _, _, h => by cases h
  | _ :: _, _ :: _, [], _, _, _, _, _, _, h, _ => by cases h
  | _ :: _, _ :: _, _ :: _, [], _, _, _, _, _, _, h => by cases h
section
variable {P : Program} {w : World} {K : PySem.W.Frag} {mg : Str → Option Value} {base : Heap} {CT CS : Addr}
/-- what a small-sets object stands for -/
structure SmArgs (t : Vamvsa.Table) (c : Nat) (lo hi : List Nat) : Prop where
  right : Right t
  few : c ≤ 1000
  lo : lo.length = t.asks.length
  hi : hi.length = t.asks.length
/-! ### most_dearer -/
abbrev sMostDearer : Stmt := inClass (top 20) 1
abbrev nMostDearer : List Str := ["self", "own", "other", "dearer", "place", "reads", "more", "often"]
def spMostDearer (K : PySem.W.Frag) (CS : Addr) : Sp := fun vs H Q _ => ∃ (p : Addr) (i j : Nat) (t : Vamvsa.Table) (c : Nat) (lo hi : List Nat), vs = [.ref p, .int (i : Nat), .int (j : Nat)] ∧ SmallAt K CS H p t c lo hi ∧ SmArgs t c lo hi ∧
  i < (setsM (2 ^ t.cols.length)).length ∧ j < (setsM (2 ^ t.cols.length)).length ∧ ∀ H', Same H H' → Q (.int (worseAt t c lo hi i j)) H'
theorem scMostDearer : FnScope nMostDearer ["self", "own", "other"] (defScope sMostDearer) := ⟨rfl, rfl, rfl, by decide +kernel, rfl, by decide +kernel, by decide +kernel⟩
theorem ix_lol {X : Cx} {K : PySem.W.Frag} (hK : X.K = K := by rfl) : IxR X (fun x y H Q => ∃ (p : Addr) (l : List (List Nat)) (i : Nat), x = .ref p ∧ y = .int (i : Nat) ∧ LoL H p l ∧ i < l.length ∧ ∀ q, H q = some (.lst (iv (l.getD i []))) → Q (.ref q) H) := fun a b pins s σ H x y v u Q I rx ry ⟨p, l, i, h1, h2, ⟨ps, f1, f2⟩, h4, q⟩ hs => by
  obtain ⟨r, e1, e2, e3⟩ := LoL.get f2 h4
  refine ix_list a b pins s σ H x y v u Q I rx ry ⟨p, _, _, _, h1, h2, SqL.of f1, e2, q r ?_⟩ hs
  rw [List.getD_eq_getElem?_getD, List.getElem?_eq_getElem h4]
  exact e3
theorem ok_most_dearer (B : Bn mg) (SC : SmallC K CS) (F : FunM K CS "most_dearer" "SmallSets.most_dearer" sMostDearer) : MethOk P w K mg base CX0 1 CS "most_dearer" ["self", "own", "other"] (spMostDearer K CS) := by
  refine F.def (fun _ _ _ _ _ _ us hl => match us, hl with | [_, _, _], _ => rfl) fun f fd F => ?_
  have nd := scMostDearer.nd
  refine F.ok scMostDearer (fun vs H Q E h => ?_) (fun cdv A outer s H vs Q E hr h => ⟨_, pss_cons (ps_set (i := 3) nd rfl (Or.inl rfl) (pe_op op_sub (pe_ix (n_ix (K := K)) (pe_fld (pv 0) rfl) (pv 1) (fun _ _ => rfl)) (pe_ix (n_ix (K := K)) (pe_fld (pv 0) rfl) (pv 2) (fun _ _ => rfl))))
    (pss_cons (ps_for PassesOwn.never rfl (pi_enum (by rfl) B.enumerate (pa_cons (pe_ix (ix_lol (K := K)) (pe_fld (pv 0) rfl) (pv 1) (fun _ _ => rfl)) pa_nil)) (pg_tup rfl (pgs_cons (pg_name (i := 4) nd rfl (Or.inl rfl)) (pgs_cons (pg_name (i := 5) nd rfl (Or.inl rfl)) pgs_nil)))
      (pss_cons (ps_set (i := 6) nd rfl (Or.inl rfl) (pe_op op_sub (pv 5) (pe_ix (n_ix (K := K)) (pe_ix (ix_lol (K := K)) (pe_fld (pv 0) rfl) (pv 2) (fun _ _ => rfl)) (pv 4) (fun _ _ => rfl))))
      (pss_cons (ps_set (i := 7) nd rfl (Or.inl rfl) (pe_ifExp (pt_cmpR op_gt (pv 6) pe_int (nomark _)) (pe_ix (n_ix (K := K)) (pe_fld (pv 0) rfl) (pv 4) (fun _ _ => rfl)) (pe_ix (n_ix (K := K)) (pe_fld (pv 0) rfl) (pv 4) (fun _ _ => rfl))))
      (pss_one (ps_aug (i := 3) nd rfl (Or.inl rfl) (pe_op op_mul (pv 6) (pv 7)) ip_add)))))
    (pss_one (ps_ret (pv 3)))), ?_⟩)
  · obtain ⟨p, i, j, t, c, lo, hi, rfl, _⟩ := h
    rfl
  · obtain ⟨p, i, j, t, c, lo, hi, rfl, hS, hA, hi1, hj1, k⟩ := h
    obtain ⟨dx, l, h', s', r, u, h1, h2, h3, h4, h5, h6⟩ := hS.ex
    have hul : (upkeeps t c).length = (setsM (2 ^ t.cols.length)).length := by unfold upkeeps; rw [List.length_map]
    have hrl : ((setsM (2 ^ t.cols.length)).map (Vamvsf.rowCosts t)).length = (setsM (2 ^ t.cols.length)).length := List.length_map ..
    refine ⟨_, rfl, p, CS, dx, _, _, rfl, h1, SC.cl, SC.nu, smF_u l h' s' r u, _, rfl, u, _, i, rfl, rfl, SqL.of h6, by rw [hul]; exact hi1, _, rfl, p, CS, dx, _, _, rfl, h1, SC.cl, SC.nu, smF_u l h' s' r u, _, rfl, u, _, j, rfl, rfl, SqL.of h6, by rw [hul]; exact hj1, _, _, rfl, rfl, ?_⟩
    refine ⟨_, rfl, p, CS, dx, _, _, rfl, h1, SC.cl, SC.nr, smF_r l h' s' r u, _, rfl, r, _, i, rfl, rfl, h5, by rw [hrl]; exact hi1, fun q hq => ?_⟩
    have hxs : ((setsM (2 ^ t.cols.length)).map (Vamvsf.rowCosts t)).getD i [] = Vamvsf.rowCosts t (setsM (2 ^ t.cols.length))[i] := by
      rw [List.getD_eq_getElem?_getD, List.getElem?_map, List.getElem?_eq_getElem hi1]
      rfl
    have hys : ((setsM (2 ^ t.cols.length)).map (Vamvsf.rowCosts t)).getD j [] = Vamvsf.rowCosts t (setsM (2 ^ t.cols.length))[j] := by
      rw [List.getD_eq_getElem?_getD, List.getElem?_map, List.getElem?_eq_getElem hj1]
      rfl
    rw [hxs] at hq
    have hui : (upkeeps t c).getD i 0 = 2 * c * (setsM (2 ^ t.cols.length))[i].length := by
      unfold upkeeps
      rw [List.getD_eq_getElem?_getD, List.getElem?_map, List.getElem?_eq_getElem hi1]
      rfl
    have huj : (upkeeps t c).getD j 0 = 2 * c * (setsM (2 ^ t.cols.length))[j].length := by
      unfold upkeeps
      rw [List.getD_eq_getElem?_getD, List.getElem?_map, List.getElem?_eq_getElem hj1]
      rfl
    rw [hui, huj]
    have hlx : ∀ k, (Vamvsf.rowCosts t k).length = t.asks.length := fun k => by unfold Vamvsf.rowCosts; rw [List.length_map]
    have hwx := hlx (setsM (2 ^ t.cols.length))[i]
    have hwy := hlx (setsM (2 ^ t.cols.length))[j]
    have hle : ∀ (k : Nat) (hk : k < (setsM (2 ^ t.cols.length)).length) (m : Nat), (Vamvsf.rowCosts t (setsM (2 ^ t.cols.length))[k]).getD m 0 ≤ 16 := by
      intro k hk m
      by_cases hm : m < t.asks.length
      · have e : (Vamvsf.rowCosts t (setsM (2 ^ t.cols.length))[k]).getD m 0 = Vamvsa.costOf t (setsM (2 ^ t.cols.length))[k] t.asks[m].g := by
          unfold Vamvsf.rowCosts
          rw [List.getD_eq_getElem?_getD, List.getElem?_map, List.getElem?_eq_getElem hm]
          rfl
        rw [e]
        have hr := cost_reads t hA.right.cols.2 (hA.right.in_ _ (List.getElem_mem hm)).1 (List.getElem_mem hk)
        have hr16 := hA.right.rows
        by_cases hu : usable t (setsM (2 ^ t.cols.length))[k] t.asks[m].g = []
        · rw [hr.none hu]; exact hr16
        · obtain ⟨v, _, ev⟩ := List.mem_map.mp (hr.some hu).1
          rw [← ev]
          exact Nat.le_trans (size_le_rows t v) hr16
      · rw [List.getD_eq_getElem?_getD, List.getElem?_eq_none (by rw [hlx]; omega)]
        exact Nat.zero_le _
    generalize hxe : Vamvsf.rowCosts t (setsM (2 ^ t.cols.length))[i] = xs at *
    generalize hye : Vamvsf.rowCosts t (setsM (2 ^ t.cols.length))[j] = ys at *
    refine ⟨q, _, rfl, SqL.of hq, for_it (walk_enum (K := K) (a := q) (xs := iv xs))
      (fun m σ H' => ∃ x4 x5 x6 x7 : Option V, σ = [some (.ref p), some (.int (i : Nat)), some (.int (j : Nat)), some (.int (((2 * c * (setsM (2 ^ t.cols.length))[i].length : Nat) : Int) - ((2 * c * (setsM (2 ^ t.cols.length))[j].length : Nat) : Int) + dearer (xs.take m) (ys.take m) (lo.take m) (hi.take m))), x4, x5, x6, x7] ∧ Same H H')
      ⟨none, none, none, none, by simp only [List.take_zero, dearer, Int.add_zero]; rfl, Same.refl H⟩ (fun m σ H' _ ⟨_, _, _, _, _, e⟩ => SqL.of (e _ _ hq)) ?_ ?_⟩
    · rintro m x σ H1 H2 hm ⟨x4, x5, x6, x7, rfl, e⟩ ⟨T, a, b, rfl, hT, rfl, ha, hb⟩
      cases ha
      obtain ⟨hml, rfl⟩ := iv_at hb
      have e2 := e.put2 (o := .tup [V.int (m : Nat), V.int ((xs.getD m 0 : Nat) : Int)]) hT
      have hma : m < t.asks.length := by rw [← hwx]; exact hml
      refine ⟨T, _, rfl, SqT.of upd_same, rfl, _, _, rfl, _, _, rfl, rfl, ?_⟩
      refine ⟨_, rfl, _, rfl, p, CS, dx, _, _, rfl, e2 _ _ h1, SC.cl, SC.nr, smF_r l h' s' r u, _, rfl, r, _, j, rfl, rfl, h5.same e2, by rw [hrl]; exact hj1, fun q2 hq2 => ?_⟩
      rw [hys] at hq2
      refine ⟨_, rfl, q2, _, m, rfl, rfl, SqL.of hq2, by rw [hwy]; exact hma, _, _, rfl, rfl, ?_⟩
      have hxm : xs.getD m 0 ≤ 16 := by rw [← hxe]; exact hle i hi1 m
      have hym : ys.getD m 0 ≤ 16 := by rw [← hye]; exact hle j hj1 m
      have tk : ∀ (l : List Nat), m < l.length → l.take (m + 1) = l.take m ++ [l.getD m 0] := fun l hl => by
        rw [take_succ' (List.getElem?_eq_getElem hl), List.getD_eq_getElem?_getD, List.getElem?_eq_getElem hl]
        rfl
      have step := dearer_snoc (xs.take m) (ys.take m) (lo.take m) (hi.take m) (xs.getD m 0) (ys.getD m 0) (lo.getD m 0) (hi.getD m 0) (by rw [List.length_take, List.length_take, hwx, hwy]) (by rw [List.length_take, List.length_take, hwx, hA.lo]) (by rw [List.length_take, List.length_take, hwx, hA.hi])
      rw [← tk xs hml, ← tk ys (by rw [hwy]; exact hma), ← tk lo (by rw [hA.lo]; exact hma), ← tk hi (by rw [hA.hi]; exact hma)] at step
      refine ⟨_, rfl, _, _, rfl, rfl, _, rfl, if_d (fun hpos => ?_) fun hneg => ?_⟩
      · refine ⟨_, rfl, p, CS, dx, _, _, rfl, e2 _ _ h1, SC.cl, SC.nh, smF_h l h' s' r u, _, rfl, h', _, m, rfl, rfl, e2.seq h3, by rw [hA.hi]; exact hma, ?_⟩
        refine ⟨_, rfl, _, rfl, _, rfl, _, _, rfl, rfl, .inl ⟨by omega, by omega⟩, _, _, rfl, rfl, some (.int (m : Nat)), some (.int ((xs.getD m 0 : Nat) : Int)), some (.int (((xs.getD m 0 : Nat) : Int) - ((ys.getD m 0 : Nat) : Int))), some (.int ((hi.getD m 0 : Nat) : Int)), ?_, e2⟩
        rw [step, if_pos hpos, ← Int.add_assoc]
        rfl
      · refine ⟨_, rfl, p, CS, dx, _, _, rfl, e2 _ _ h1, SC.cl, SC.nl, smF_l l h' s' r u, _, rfl, l, _, m, rfl, rfl, e2.seq h2, by rw [hA.lo]; exact hma, ?_⟩
        refine ⟨_, rfl, _, rfl, _, rfl, _, _, rfl, rfl, .inl ⟨by omega, by omega⟩, _, _, rfl, rfl, some (.int (m : Nat)), some (.int ((xs.getD m 0 : Nat) : Int)), some (.int (((xs.getD m 0 : Nat) : Int) - ((ys.getD m 0 : Nat) : Int))), some (.int ((lo.getD m 0 : Nat) : Int)), ?_, e2⟩
        rw [step, if_neg hneg, ← Int.add_assoc]
        rfl
    · rintro σ H1 ⟨x4, x5, x6, x7, rfl, e⟩
      refine ⟨_, rfl, ?_⟩
      have hlen : (iv xs).length = t.asks.length := by rw [List.length_map, hwx]
      have tl : ∀ (l : List Nat), l.length = t.asks.length → l.take t.asks.length = l := fun l hl => by rw [← hl, List.take_length]
      rw [hlen, tl xs hwx, tl ys hwy, tl lo hA.lo, tl hi hA.hi]
      have hwo : worseAt t c lo hi i j = ((2 * c * (setsM (2 ^ t.cols.length))[i].length : Nat) : Int) - ((2 * c * (setsM (2 ^ t.cols.length))[j].length : Nat) : Int) + dearer xs ys lo hi := by
        unfold worseAt
        rw [List.getD_eq_getElem?_getD, List.getD_eq_getElem?_getD, fam_get t hi1, fam_get t hj1, Option.getD_some, Option.getD_some, worse_eq, hxe, hye]
      rw [← hwo]
      exact k _ e
/-! ### regretted, greatest_regret -/
abbrev sRegretted : Stmt := inClass (top 20) 2
abbrev nRegretted : List Str := ["self", "own", "greatest", "to", "other", "dearer"]
def spRegretted (K : PySem.W.Frag) (CS : Addr) : Sp := fun vs H Q _ => ∃ (p : Addr) (i : Nat) (t : Vamvsa.Table) (c : Nat) (lo hi : List Nat), vs = [.ref p, .int (i : Nat)] ∧ SmallAt K CS H p t c lo hi ∧ SmArgs t c lo hi ∧
  i < (setsM (2 ^ t.cols.length)).length ∧ ∀ H', Same H H' → Q (.int ((regWalk (worseAt t c lo hi i) i (setsM (2 ^ t.cols.length)).length).2 : Nat)) H'
theorem scRegretted : FnScope nRegretted ["self", "own"] (defScope sRegretted) := ⟨rfl, rfl, rfl, by decide +kernel, rfl, by decide +kernel, by decide +kernel⟩
theorem ok_regretted (B : Bn mg) (SC : SmallC K CS) (D1 : MethOk P w K mg base CX0 1 CS "most_dearer" ["self", "own", "other"] (spMostDearer K CS)) (F : FunM K CS "regretted" "SmallSets.regretted" sRegretted) :
    MethOk P w K mg base CX0 2 CS "regretted" ["self", "own"] (spRegretted K CS) := by
  refine F.def (fun _ _ _ _ _ _ us hl => match us, hl with | [_, _], _ => rfl) fun f fd F => ?_
  have nd := scRegretted.nd
  refine F.ok scRegretted (fun vs H Q E h => ?_) (fun cdv A outer s H vs Q E hr h => ⟨_, pss_cons (ps_set (i := 2) nd rfl (Or.inl rfl) pe_int) (pss_cons (ps_set (i := 3) nd rfl (Or.inl rfl) (pv 1))
    (pss_cons (ps_for PassesOwn.never rfl (pi_range1 (by rfl) B.range (pa_cons (pe_callB n_len (by rfl) B.len PySem.boot_len (pa_cons (pe_fld (pv 0) rfl) pa_nil)) pa_nil)) (pg_name (i := 4) nd rfl (Or.inl rfl))
      (pss_cons (ps_set (i := 5) nd rfl (Or.inl rfl) (me1 (pv 0) SC.cl D1 hr pass0 (pa_cons (pv 1) (pa_cons (pv 4) pa_nil))))
      (pss_one (ps_if (pt_cmpR op_gt (pv 5) (pv 2) (nomark _)) (pss_cons (ps_set (i := 2) nd rfl (Or.inl rfl) (pv 5)) (pss_one (ps_set (i := 3) nd rfl (Or.inl rfl) (pv 4)))) pss_nil))))
    (pss_one (ps_ret (pv 3))))), ?_⟩)
  · obtain ⟨p, i, t, c, lo, hi, rfl, _⟩ := h
    rfl
  · obtain ⟨p, i, t, c, lo, hi, rfl, hS, hA, hi1, k⟩ := h
    obtain ⟨dx, l, h', s', r, u, h1, h2, h3, h4, h5, h6⟩ := hS.ex
    obtain ⟨ps, f1, f2⟩ := h4
    have hn := (few_sets t.cols.length hA.right.cols.2).2.1
    have hpl : (ps.map V.ref).length = (setsM (2 ^ t.cols.length)).length := by rw [List.length_map, f2.len]
    refine ⟨_, rfl, _, rfl, p, CS, dx, _, _, rfl, h1, SC.cl, SC.ns, smF_s l h' s' r u, s', _, rfl, .inl (SqL.of f1), _, rfl, (rng (by omega)).1, (rng (by omega)).2, ?_⟩
    rw [Int.toNat_natCast, hpl]
    refine for_it walk_n (fun n σ H' => ∃ x4 x5 : Option V, σ = [some (.ref p), some (.int (i : Nat)), some (.int ((List.range n).foldl (regStep (worseAt t c lo hi i)) (0, i)).1), some (.int (((List.range n).foldl (regStep (worseAt t c lo hi i)) (0, i)).2 : Nat)), x4, x5] ∧ Same H H')
      ⟨none, none, rfl, Same.refl H⟩ (fun _ _ _ _ _ => trivial) ?_ ?_
    · rintro n x σ H1 H2 hnl ⟨x4, x5, rfl, e⟩ ⟨rfl, rfl⟩
      rw [List.range_succ, List.foldl_append, List.foldl_cons, List.foldl_nil]
      generalize (List.range n).foldl (regStep (worseAt t c lo hi i)) (0, i) = st
      refine ⟨_, rfl, p, dx, _, rfl, e _ _ h1, rfl, _, rfl, _, rfl, p, i, n, t, c, lo, hi, rfl, hS.same e, hA, hi1, hnl, fun H3 s3 => ?_⟩
      refine ⟨_, rfl, _, rfl, _, _, rfl, rfl, _, rfl, ?_⟩
      unfold regStep
      refine if_d (fun hb => ?_) fun hb => ?_
      · rw [if_pos hb]
        exact ⟨_, rfl, _, rfl, some (.int (n : Nat)), some (.int (worseAt t c lo hi i n)), rfl, e.trans s3⟩
      · rw [if_neg hb]
        exact ⟨some (.int (n : Nat)), some (.int (worseAt t c lo hi i n)), rfl, e.trans s3⟩
    · rintro σ H1 ⟨x4, x5, rfl, e⟩
      exact ⟨_, rfl, k _ e⟩
theorem regWalk_lt (W : Nat → Int) (own n : Nat) (h : own < n) : (regWalk W own n).2 < n := by
  unfold regWalk
  have key : ∀ m, m ≤ n → ((List.range m).foldl (regStep W) (0, own)).2 < n := by
    intro m
    induction m with
    | zero => intro _; exact h
    | succ m ih =>
      intro hm
      rw [List.range_succ, List.foldl_append, List.foldl_cons, List.foldl_nil]
      have := ih (by omega)
      unfold regStep at this ⊢
      split
      · exact hm
      · exact this
  exact key n (Nat.le_refl n)
/-- a set's greatest regret, by its place -/
def greatestAt (t : Vamvsa.Table) (c : Nat) (lo hi : List Nat) (i : Nat) : Int := worseAt t c lo hi i (regWalk (worseAt t c lo hi i) i (setsM (2 ^ t.cols.length)).length).2
abbrev sGreatest : Stmt := inClass (top 20) 3
abbrev nGreatest : List Str := ["self", "own"]
def spGreatest (K : PySem.W.Frag) (CS : Addr) : Sp := fun vs H Q _ => ∃ (p : Addr) (i : Nat) (t : Vamvsa.Table) (c : Nat) (lo hi : List Nat), vs = [.ref p, .int (i : Nat)] ∧ SmallAt K CS H p t c lo hi ∧ SmArgs t c lo hi ∧
  i < (setsM (2 ^ t.cols.length)).length ∧ ∀ H', Same H H' → Q (.int (greatestAt t c lo hi i)) H'
theorem scGreatest : FnScope nGreatest ["self", "own"] (defScope sGreatest) := ⟨rfl, rfl, rfl, by decide +kernel, rfl, by decide +kernel, by decide +kernel⟩
theorem ok_greatest (SC : SmallC K CS) (D1 : MethOk P w K mg base CX0 1 CS "most_dearer" ["self", "own", "other"] (spMostDearer K CS)) (D2 : MethOk P w K mg base CX0 2 CS "regretted" ["self", "own"] (spRegretted K CS)) (F : FunM K CS "greatest_regret" "SmallSets.greatest_regret" sGreatest) :
    MethOk P w K mg base CX0 3 CS "greatest_regret" ["self", "own"] (spGreatest K CS) := by
  refine F.def (fun _ _ _ _ _ _ us hl => match us, hl with | [_, _], _ => rfl) fun f fd F => ?_
  have nd := scGreatest.nd
  refine F.ok scGreatest (fun vs H Q E h => ?_) (fun cdv A outer s H vs Q E hr h => ⟨_, pss_one (ps_ret (me1 (pv 0) SC.cl D1 (hr.mono (by decide)) pass0 (pa_cons (pv 1) (pa_cons (me1 (pv 0) SC.cl D2 hr pass0 (pa_cons (pv 1) pa_nil)) pa_nil)))), ?_⟩)
  · obtain ⟨p, i, t, c, lo, hi, rfl, _⟩ := h
    rfl
  · obtain ⟨p, i, t, c, lo, hi, rfl, hS, hA, hi1, k⟩ := h
    obtain ⟨dx, l, h', s', r, u, h1, h2, h3, h4, h5, h6⟩ := hS.ex
    refine ⟨_, rfl, p, dx, _, rfl, h1, rfl, _, rfl, _, rfl, p, dx, _, rfl, h1, rfl, _, rfl, p, i, t, c, lo, hi, rfl, hS, hA, hi1, fun H1 s1 => ?_⟩
    exact ⟨p, i, _, t, c, lo, hi, rfl, hS.same s1, hA, hi1, regWalk_lt _ _ _ hi1, fun H2 s2 => k _ (s1.trans s2)⟩
/-! ### least -/
abbrev sLeast : Stmt := inClass (top 20) 4
abbrev nLeast : List Str := ["self", "greatest", "own"]
def greatestL (t : Vamvsa.Table) (c : Nat) (lo hi : List Nat) : List Int := (List.range (setsM (2 ^ t.cols.length)).length).map (greatestAt t c lo hi)
def spLeast (K : PySem.W.Frag) (CS : Addr) : Sp := fun vs H Q _ => ∃ (p : Addr) (t : Vamvsa.Table) (c : Nat) (lo hi : List Nat), vs = [.ref p] ∧ SmallAt K CS H p t c lo hi ∧ SmArgs t c lo hi ∧
  ∀ (H' : Hp) (j : Nat), Same H H' → First (greatestL t c lo hi) j → Q (.int (j : Nat)) H'
theorem scLeast : FnScope nLeast ["self"] (defScope sLeast) := ⟨rfl, rfl, rfl, by decide +kernel, rfl, by decide +kernel, by decide +kernel⟩
/-- the first place of a number -/
theorem first_place : ∀ (l : List Int) (m : Int), m ∈ l → ∃ j : Nat, l[j]? = some m ∧ ∀ i : Nat, i < j → l[i]? ≠ some m
  | [], _, h => by cases h
  | x :: l, m, h => by
    by_cases e : x = m
    · exact ⟨0, by rw [e]; rfl, fun i hi => absurd hi (Nat.not_lt_zero i)⟩
    · rcases List.mem_cons.mp h with h | h
      · exact absurd h.symm e
      · obtain ⟨j, h1, h2⟩ := first_place l m h
        refine ⟨j + 1, h1, fun i hi => ?_⟩
        cases i with
        | zero => intro z; exact e (Option.some.inj z)
        | succ i => exact h2 i (by omega)
theorem ok_least (B : Bn mg) (SC : SmallC K CS) (D1 : MethOk P w K mg base CX0 3 CS "greatest_regret" ["self", "own"] (spGreatest K CS)) (F : FunM K CS "least" "SmallSets.least" sLeast) :
    MethOk P w K mg base CX0 4 CS "least" ["self"] (spLeast K CS) := by
  refine F.def (fun _ _ _ _ _ _ us hl => match us, hl with | [_], _ => rfl) fun f fd F => ?_
  have nd := scLeast.nd
  refine F.ok scLeast (fun vs H Q E h => ?_) (fun cdv A outer s H vs Q E hr h => ⟨_,
    pss_cons (ps_setLc (i := 1) (own := [("own", 2)]) (g := gName 2) (tt := tYes) rfl nd rfl rfl (sw_true rfl rfl rfl (by decide +kernel)) (pi_range1 (by rfl) B.range (pa_cons (pe_callB n_len (by rfl) B.len PySem.boot_len (pa_cons (pe_fld (pv 0) rfl) pa_nil)) pa_nil))
      (blkOk_by (own := [("own", 2)]) (N := nLeast) (sc := defScope sLeast) (by decide +kernel)) (fun _ _ _ _ _ => pg_name (i := 2) nd rfl (Or.inl rfl)) (fun _ _ _ _ _ => pts_nil) (fun _ _ _ _ _ => me1 (pv 0) SC.cl D1 hr pass0 (pa_cons (pv 2) pa_nil)))
    (pss_one (ps_ret (pe_bm PySem.F.plainAttrs_list PySem.F.slot_list_index PySem.F.type_list_index mt_index (pv 1) (pa_cons (pe_callB (cr_min rfl) (by rfl) B.min (by decide +kernel) (pa_cons (pv 1) pa_nil)) pa_nil)))), ?_⟩)
  · obtain ⟨p, t, c, lo, hi, rfl, _⟩ := h
    rfl
  · obtain ⟨p, t, c, lo, hi, rfl, hS, hA, k⟩ := h
    obtain ⟨dx, l, h', s', r, u, h1, h2, h3, h4, h5, h6⟩ := hS.ex
    obtain ⟨ps, f1, f2⟩ := h4
    have hn := (few_sets t.cols.length hA.right.cols.2).2
    have hpl : (ps.map V.ref).length = (setsM (2 ^ t.cols.length)).length := by rw [List.length_map, f2.len]
    refine ⟨_, rfl, p, CS, dx, _, _, rfl, h1, SC.cl, SC.ns, smF_s l h' s' r u, s', _, rfl, .inl (SqL.of f1), _, rfl, (rng (by omega)).1, (rng (by omega)).2, fun D hD => lc_go walk_n (upTo fun i => V.int (greatestAt t c lo hi i)) rfl hD (fun _ _ => trivial) ?_ ?_⟩
    · rintro i x H1 H2 hil hP ⟨rfl, rfl⟩
      rw [Int.toNat_natCast, hpl] at hil
      refine ⟨rfl, _, rfl, p, dx, _, rfl, hP.1 _ _ h1, rfl, _, rfl, p, i, t, c, lo, hi, rfl, hS.same hP.1, hA, hil, fun H3 s3 => ?_⟩
      exact lc_put hD hP s3 (upTo_succ _ _) (by rw [upTo_len, line_eq]; omega)
    · rintro H1 ⟨s1, hD1⟩
      rw [Int.toNat_natCast, hpl] at hD1
      have hD2 : H1 D = some (.lst ((greatestL t c lo hi).map V.int)) := by
        rw [hD1]
        unfold upTo greatestL
        rw [List.map_map]
        rfl
      have hgl : (greatestL t c lo hi).length = (setsM (2 ^ t.cols.length)).length := by simp [greatestL]
      refine ⟨_, rfl, .inl ⟨rfl, _, SqL.of hD2⟩, _, rfl, D, greatestL t c lo hi, rfl, SqL.of hD2, by rw [hgl]; exact hn.2.1, fun m hm hle => ?_⟩
      obtain ⟨j, j1, j2⟩ := first_place _ m hm
      have hjl : j < (greatestL t c lo hi).length := (List.getElem?_eq_some_iff.mp j1).1
      refine ⟨D, _, _, j, .int m, rfl, rfl, SqL.of hD2, rfl, ?_, by rw [List.getElem?_map, j1]; rfl, by show (m == m) = true; exact beq_self_eq_true m, fun i z' hij hz => ?_, ?_⟩
      · rw [List.all_eq_true]
        intro x hx
        obtain ⟨y, _, e⟩ := List.mem_map.mp hx
        rw [← e]
        rfl
      · rw [List.getElem?_map] at hz
        cases e : (greatestL t c lo hi)[i]? with
        | none => rw [e] at hz; cases hz
        | some y =>
          rw [e] at hz
          cases hz
          show (y == m) = false
          rw [beq_eq_false_iff_ne]
          intro z
          exact j2 i hij (by rw [e, z])
      · have gd : ∀ i y, (greatestL t c lo hi)[i]? = some y → (greatestL t c lo hi).getD i 0 = y := fun i y h => by rw [List.getD_eq_getElem?_getD, h]; rfl
        refine k _ j s1 ⟨hjl, fun i hil => ?_, fun i hij => ?_⟩
        · have hy : (greatestL t c lo hi)[i]? = some (greatestL t c lo hi)[i] := List.getElem?_eq_getElem hil
          rw [gd j m j1, gd i _ hy]
          exact hle _ (List.getElem_mem hil)
        · have hil : i < (greatestL t c lo hi).length := by omega
          have hy : (greatestL t c lo hi)[i]? = some (greatestL t c lo hi)[i] := List.getElem?_eq_getElem hil
          rw [gd j m j1, gd i _ hy]
          have h1 := hle _ (List.getElem_mem hil)
          have h2 : (greatestL t c lo hi)[i] ≠ m := fun z => j2 i hij (by rw [hy, z])
          omega
end
end SR
set_option Elab.async false
set_option linter.all false
set_option maxRecDepth 100000
set_option maxHeartbeats 2000000
/-! Signs: what the program makes of bytes. -/
namespace SR
open PySem PySem.Spec PyProof.Rows L2
open VamvsBase (Bytes Toks Tok PTok Fault isBlank isDigit isLetter)
theorem byteAll {p : UInt8 → Prop} (h : ∀ n : Fin 256, p (UInt8.ofNat n.val)) : ∀ c, p c := fun c => by
  have := h ⟨c.toNat, c.toNat_lt⟩
  simpa using this
def sgv (c : UInt8) : Nat := if (isBlank c || c == 35 || VamvsBase.SIGNS.contains c || isDigit c || isLetter c) = true then c.toNat else 63
def tsg (b : Bytes) : Str := SX.S (b.map sgv)
def isGap (c : UInt8) : Bool := isBlank c || c == 35
abbrev cGaps : Str := Str.ofString " \t\n#"
abbrev cSigns : Str := Str.ofString ",:;-"
abbrev cDigits : Str := Str.ofString "0123456789"
abbrev cLetters : Str := Str.ofString "ABCDEFGHIJKLMNOPQRSTUVWXYZabcdefghijklmnopqrstuvwxyz"
theorem sg_gap : ∀ c, decide (sgv c ∈ cGaps.cps.toList) = isGap c := byteAll (by decide +kernel)
theorem sg_hash : ∀ c, decide (sgv c = 35) = (c == 35) := byteAll (by decide +kernel)
theorem sg_nl : ∀ c, decide (sgv c = 10) = (c == 10) := byteAll (by decide +kernel)
theorem sg_sign : ∀ c, decide (sgv c ∈ cSigns.cps.toList) = VamvsBase.SIGNS.contains c := byteAll (by decide +kernel)
theorem sg_digit : ∀ c, Txt.isdigit ⟨#[sgv c]⟩ = isDigit c := byteAll (by decide +kernel)
theorem sg_alpha : ∀ c, Txt.isalpha ⟨#[sgv c]⟩ = isLetter c := byteAll (by decide +kernel)
theorem sg_alnum : ∀ c, Txt.isalnum ⟨#[sgv c]⟩ = isAlnum c := byteAll (by decide +kernel)
theorem sg_same : ∀ c, (VamvsBase.SIGNS.contains c || isDigit c || isLetter c) = true → sgv c = c.toNat := byteAll (by decide +kernel)
theorem dec_str (a b : Str) : decide (V.str a = V.str b) = decide (a = b) := by
  congr 1
  exact propext ⟨fun z => by injection z, fun z => by rw [z]⟩
theorem hash_eq (n : Nat) : decide (V.str ⟨#[n]⟩ = V.str (Str.ofString "#")) = decide (n = 35) := by
  have e : (Str.ofString "#" : Str) = ⟨#[35]⟩ := by decide +kernel
  rw [dec_str, e]
  congr 1
  exact propext ⟨fun z => by injection z with z; simpa using z, fun z => by rw [z]⟩
theorem tsg_at {b : Bytes} {p : Nat} {c : UInt8} {r : Bytes} (h : b.drop p = c :: r) : atI (tsg b).cps.toList (p : Int) = some (sgv c) := by
  refine atI_nat ?_
  show (b.map sgv)[p]? = _
  have e : b[p]? = some c := by
    have : (b.drop p)[0]? = b[p + 0]? := List.getElem?_drop
    rw [h] at this
    simpa using this.symm
  rw [List.getElem?_map, e]
  rfl
theorem tsg_len (b : Bytes) : (tsg b).length = b.length := by
  show (SX.S (b.map sgv)).length = _
  rw [SX.S_len, List.length_map]
/-- a test of the byte at a place -/
def atB (f : UInt8 → Bool) : Bytes → Bool
  | [] => false
  | c :: _ => f c
theorem drop_lt {b : Bytes} {p : Nat} (h : p < b.length) : ∃ c r, b.drop p = c :: r := by
  cases e : b.drop p with
  | nil =>
    have := congrArg List.length e
    simp at this
    omega
  | cons c r => exact ⟨c, r, rfl⟩
theorem drop_ge {b : Bytes} {p : Nat} (h : ¬ p < b.length) : b.drop p = [] := List.drop_eq_nil_of_le (by omega)
/-! ### the readings -/
/-- text[place] -/
def tItem (i j : Nat) : TE := fun σ H Q => ∃ (b : Bytes) (p : Nat) (c : UInt8) (r : Bytes), σ[i]? = some (some (.str (tsg b))) ∧ σ[j]? = some (some (.int (p : Nat))) ∧ b.length ≤ 4096 ∧ b.drop p = c :: r ∧ Q (.str ⟨#[sgv c]⟩) H
/-- len(text) -/
def tLenT (i : Nat) : TE := fun σ H Q => ∃ b : Bytes, σ[i]? = some (some (.str (tsg b))) ∧ b.length ≤ 4096 ∧ Q (.int ((b.length : Nat) : Int)) H
/-- place < len(text) and f(text[place]) -/
def tAtB (f : UInt8 → Bool) (i j : Nat) : TT := fun σ H Q => ∃ (b : Bytes) (p : Nat), σ[i]? = some (some (.str (tsg b))) ∧ σ[j]? = some (some (.int (p : Nat))) ∧ b.length ≤ 4096 ∧ Q (atB f (b.drop p)) H
theorem tAtB_mono {f : UInt8 → Bool} {i j : Nat} : ∀ (σ : L2.St) (H : Hp) (Q Q' : Bool → Hp → Prop), (∀ b H1, Q b H1 → Q' b H1) → tAtB f i j σ H Q → tAtB f i j σ H Q' :=
  fun σ H Q Q' hQ ⟨b, p, h1, h2, h3, h4⟩ => ⟨b, p, h1, h2, h3, hQ _ _ h4⟩
/-- f(text[place]) -/
def tOneB (f : UInt8 → Bool) (i j : Nat) : TT := fun σ H Q => ∃ (b : Bytes) (p : Nat) (c : UInt8) (r : Bytes), σ[i]? = some (some (.str (tsg b))) ∧ σ[j]? = some (some (.int (p : Nat))) ∧ b.length ≤ 4096 ∧ b.drop p = c :: r ∧ Q (f c) H
theorem str_line {b : Bytes} (h : b.length ≤ 4096) : (tsg b).length ≤ sizeLine := by rw [tsg_len, line_eq]; omega
section
variable {X : Cx}
theorem pe_item {i j : Nat} {x y : Str} {p1 p2 p3 : Pos} (hx : PE X (.Name x p1) (tVar i)) (hy : PE X (.Name y p2) (tVar j)) : PE X (.Subscript (.Name x p1) (.Name y p2) p3) (tItem i j) :=
  (pe_ix ix_str hx hy (fun _ _ => rfl)).weak fun σ H Q ⟨b, p, c, r, h1, h2, h3, h4, h5⟩ => ⟨_, h1, _, h2, _, _, _, rfl, rfl, str_line h3, tsg_at h4, h5⟩
theorem pe_lenT {i : Nat} {x : Str} {p1 p2 p3 : Pos} (B : Bn X.mg) (hx : PE X (.Name x p1) (tVar i)) (hg : Gl X "len" := by rfl) (he : starEach [Expr.Name x p1] X.env = [(false, eval (.Name x p1) X.env)] := by rfl) (hpl : (backTo p3 (starEach [] X.env)).any (·.1) = false := by rfl) : PE X (.Call (.Name "len" p2) [.Name x p1] [] p3) (tLenT i) :=
  (pe_callB call_len_str hg B.len PySem.boot_len (pa_cons hx pa_nil he)).weak fun σ H Q ⟨b, h1, h2, h3⟩ => ⟨_, h1, _, rfl, str_line h2, by rw [tsg_len]; exact h3⟩
/-- text[place] in GAPS, SIGNS -/
theorem pt_inS {i j : Nat} {x y z : Str} {p1 p2 p3 p4 p5 : Pos} {cs : Str} {f : UInt8 → Bool} (hf : ∀ c, decide (sgv c ∈ cs.cps.toList) = f c) (hx : PE X (.Name x p1) (tVar i)) (hy : PE X (.Name y p2) (tVar j)) (hz : PE X (.Name z p4) (tC (.str cs)))
    (hm : behindInMarks .In (.Name z p4) = false := by rfl) : PT X (.Compare (.Subscript (.Name x p1) (.Name y p2) p3) [.In] [.Name z p4] p5) (tOneB f i j) :=
  (pt_cmpR op_in_sign (pe_item hx hy) hz hm).weak fun σ H Q ⟨b, p, c, r, h1, h2, h3, h4, h5⟩ => ⟨b, p, c, r, h1, h2, h3, h4, _, _, rfl, rfl, _, rfl, by rw [hf]; exact h5⟩
theorem pt_meth {i j : Nat} {x y m : Str} {p1 p2 p3 apos pos : Pos} {id : String} {f : UInt8 → Bool} {g : Str → Bool} (slot : Slot "str" m id) (ty : typeOf (.builtin id) = pure (.type "method_descriptor")) (rule : MtR X id (fun x xs H Q => ∃ a, x = .str a ∧ xs = [] ∧ True ∧ Q (.bl (g a)) H))
    (hf : ∀ c, g ⟨#[sgv c]⟩ = f c) (hx : PE X (.Name x p1) (tVar i)) (hy : PE X (.Name y p2) (tVar j))
    (hbase : attributeBase (.Subscript (.Name x p1) (.Name y p2) p3) m X.env (eval (.Subscript (.Name x p1) (.Name y p2) p3) X.env) = eval (.Subscript (.Name x p1) (.Name y p2) p3) X.env := by rfl) (hline : (apos.endLine == pos.line) = true := by rfl)
    (he : ∀ whole, isTrue (.Call (.Attribute (.Subscript (.Name x p1) (.Name y p2) p3) m apos) [] [] pos) X.env whole = (do let v ← whole; standAt (Expr.Call (.Attribute (.Subscript (.Name x p1) (.Name y p2) p3) m apos) [] [] pos).pos; holding [v] (truthy v)) := by intro _; rfl) :
    PT X (.Call (.Attribute (.Subscript (.Name x p1) (.Name y p2) p3) m apos) [] [] pos) (tOneB f i j) :=
  (pt_val (pe_m0 slot ty rule (pe_item hx hy) hbase hline) he).weak fun σ H Q ⟨b, p, c, r, h1, h2, h3, h4, h5⟩ => ⟨b, p, c, r, h1, h2, h3, h4, ⟨_, rfl⟩, _, rfl, rfl, trivial, _, rfl, by rw [hf]; exact h5⟩
/-- place < len(text) and .. -/
theorem pt_andB {i j : Nat} {x y : Str} {p1 p2 p3 p4 p5 p6 : Pos} {e : Expr} {f : UInt8 → Bool} (B : Bn X.mg) (hx : PE X (.Name x p1) (tVar i)) (hy : PE X (.Name y p2) (tVar j)) (he : PT X e (tOneB f i j)) (hg : Gl X "len" := by rfl) (hs : starEach [Expr.Name x p1] X.env = [(false, eval (.Name x p1) X.env)] := by rfl) (hpl : (backTo p4 (starEach [] X.env)).any (·.1) = false := by rfl) :
    PT X (.BoolOp .And [.Compare (.Name y p2) [.Lt] [.Call (.Name "len" p3) [.Name x p1] [] p4] p5, e] p6) (tAtB f i j) :=
  (PW.pt (pw_and (pt_cmpR n_lt hy (pe_lenT B hx hg hs hpl) (nomark _)) (pw_and1 he))).weak fun σ H Q ⟨b, p, h1, h2, h3, h4⟩ => by
    refine ⟨_, h2, b, h1, h3, p, b.length, rfl, rfl, _, rfl, if_d (fun hl => ?_) fun hl => ?_⟩
    · obtain ⟨c, r, hd⟩ := drop_lt hl
      rw [hd] at h4
      exact ⟨b, p, c, r, h1, h2, h3, hd, h4⟩
    · rw [drop_ge hl] at h4
      exact h4
end
end SR
set_option Elab.async false
set_option linter.all false
set_option maxRecDepth 100000
set_option maxHeartbeats 2000000
namespace SR
open PySem PySem.Spec PyProof.Rows L2
open VamvsBase (Bytes Toks Tok PTok Fault isBlank isDigit isLetter)
/-! ### find of one sign -/
theorem occ_full (s sub : Str) (hi : Nat) : ∀ (l : List Nat) (st : Array Nat × Nat), 1 ≤ st.fst.size → (forIn l st (PySem.StrLaws.occBody s sub hi 1)).run.fst = st.fst
  | [], st, h => rfl
  | a :: l, st, h => by
    rw [List.forIn_cons]
    unfold PySem.StrLaws.occBody
    rw [if_neg (by omega)]
    exact occ_full s sub hi l st h
theorem occ_first (s sub : Str) (hi : Nat) : ∀ (n lo free : Nat), free ≤ lo → (forIn (List.range' lo n) ((#[] : Array Nat), free) (PySem.StrLaws.occBody s sub hi 1)).run.fst =
    match (List.range' lo n).find? (fun i => decide (i + sub.length ≤ hi ∧ Builtin.Str.subAt s sub i = true)) with | some i => #[i] | none => #[]
  | 0, lo, free, h => rfl
  | n + 1, lo, free, h => by
    rw [List.range'_succ, List.forIn_cons, List.find?_cons]
    by_cases hc : lo + sub.length ≤ hi ∧ Builtin.Str.subAt s sub lo = true
    · rw [decide_eq_true hc]
      unfold PySem.StrLaws.occBody
      rw [if_pos ⟨⟨⟨by simp, h⟩, hc.1⟩, hc.2⟩]
      exact occ_full s sub hi _ _ (by simp)
    · rw [decide_eq_false hc]
      unfold PySem.StrLaws.occBody
      rw [if_neg (fun z => hc ⟨z.1.2, z.2⟩)]
      exact occ_first s sub hi n (lo + 1) free (by omega)
theorem find_nl (b : Bytes) : ∀ (n lo : Nat), lo + n = b.length + 1 → (List.range' lo n).find? (fun i => decide (i + (⟨#[10]⟩ : Str).length ≤ (tsg b).length ∧ Builtin.Str.subAt (tsg b) ⟨#[10]⟩ i = true)) =
    if lo + ((b.drop lo).takeWhile (· != 10)).length < b.length then some (lo + ((b.drop lo).takeWhile (· != 10)).length) else none
  | 0, lo, h => by
    have := takeWhile_le (· != 10) (b.drop lo)
    rw [List.length_drop] at this
    rw [List.range'_zero, List.find?_nil, if_neg (by omega)]
  | n + 1, lo, h => by
    rw [List.range'_succ, List.find?_cons]
    have key : decide (lo + (⟨#[10]⟩ : Str).length ≤ (tsg b).length ∧ Builtin.Str.subAt (tsg b) ⟨#[10]⟩ lo = true) = decide ((b.map sgv)[lo]? = some 10) := by
      congr 1
      exact propext (PySem.StrLaws.subAt_one (tsg b) 10 lo)
    rw [key, find_nl b n (lo + 1) (by omega)]
    by_cases hl : lo < b.length
    · obtain ⟨c, r, hd⟩ := drop_lt hl
      have hc : b[lo]? = some c := by
        have : (b.drop lo)[0]? = b[lo + 0]? := List.getElem?_drop
        rw [hd] at this
        simpa using this.symm
      have hd2 : b.drop (lo + 1) = r := by
        rw [← List.drop_drop, hd]
        rfl
      rw [List.getElem?_map, hc, hd, hd2]
      have e : decide ((some c).map sgv = some 10) = (c == 10) := by
        rw [← sg_nl c]
        congr 1
        simp
      rw [e, List.takeWhile_cons]
      by_cases h10 : c = 10
      · subst h10
        simp [hl]
      · have e1 : (c == 10) = false := by simpa using h10
        have e2 : (c != 10) = true := by simpa using h10
        rw [e1, e2, if_pos rfl, List.length_cons]
        have e3 : lo + ((r.takeWhile (· != 10)).length + 1) = lo + 1 + (r.takeWhile (· != 10)).length := by omega
        rw [e3]
    · have e1 : (b.map sgv)[lo]? = none := by rw [List.getElem?_eq_none]; simp; omega
      rw [e1, drop_ge hl, drop_ge (by omega : ¬ lo + 1 < b.length), List.takeWhile_nil, List.length_nil, if_neg (by omega), if_neg (by omega)]
      rfl
theorem find_is (b : Bytes) (p : Nat) (h : p ≤ b.length) : Txt.find3 (tsg b) ⟨#[10]⟩ (p : Int) =
    if p + ((b.drop p).takeWhile (· != 10)).length < b.length then ((p + ((b.drop p).takeWhile (· != 10)).length : Nat) : Int) else -1 := by
  unfold Txt.find3
  have e0 : PySem.fromIndex (tsg b).length (p : Int) = p := by
    unfold PySem.fromIndex
    rw [if_neg (by omega)]
    omega
  rw [e0, PySem.StrLaws.occ_eq, occ_first _ _ _ _ _ _ (Nat.le_refl _), tsg_len]
  have hfn := find_nl b (b.length + 1 - p) p (by omega)
  rw [tsg_len] at hfn
  rw [hfn]
  by_cases hlt : p + ((b.drop p).takeWhile (· != 10)).length < b.length
  · rw [if_pos hlt, if_pos hlt]
  · rw [if_neg hlt, if_neg hlt]
section
variable {P : Program} {w : World} {K : PySem.W.Frag} {mg : Str → Option Value} {base : Heap} {CF fI CTok : Addr}
/-! ### remark_end -/
abbrev sRemarkEnd : Stmt := top 41
abbrev nRemarkEnd : List Str := ["text", "place", "end"]
def spRemarkEnd : Sp := fun vs H Q _ => ∃ (b : Bytes) (p : Nat), vs = [.str (tsg b), .int (p : Nat)] ∧ p ≤ b.length ∧ b.length ≤ 4096 ∧ Q (.int ((p + ((b.drop p).takeWhile (· != 10)).length : Nat) : Int)) H
theorem scRemarkEnd : FnScope nRemarkEnd ["text", "place"] (defScope sRemarkEnd) := ⟨rfl, rfl, rfl, by decide +kernel, rfl, by decide +kernel, by decide +kernel⟩
theorem nl_str : (Str.ofString "\n" : Str) = ⟨#[10]⟩ := by decide +kernel
theorem ok_remark_end (B : Bn mg) (F : FunG K mg "remark_end" sRemarkEnd) : Def P w K mg base CX0 1 "remark_end" ["text", "place"] spRemarkEnd := by
  refine F.def (fun _ _ _ _ _ _ us hl => match us, hl with | [_, _], _ => rfl) fun f fd F => ?_
  have nd := scRemarkEnd.nd
  refine F.ok scRemarkEnd (fun vs H Q E h => ?_) (fun cdv A outer s H vs Q E hr h => ⟨_, pss_cons (ps_set (i := 2) nd rfl (Or.inl rfl) (pe_bm PySem.F.plainAttrs_str PySem.F.slot_str_find PySem.F.type_str_find mt_find3 (pv 0) (pa_cons pe_str (pa_cons (pv 1) pa_nil))))
    (pss_one (ps_ret (pe_ifExp (pt_cmpR op_lt (pv 2) pe_int (nomark _)) (pe_lenT B (pv 0)) (pv 2)))), ?_⟩)
  · obtain ⟨b, p, rfl, _⟩ := h
    rfl
  · obtain ⟨b, p, rfl, hp, hb, k⟩ := h
    refine ⟨_, rfl, rfl, _, rfl, _, _, _, rfl, rfl, ?_⟩
    have hle := takeWhile_le (· != 10) (b.drop p)
    rw [List.length_drop] at hle
    rw [nl_str, find_is b p hp]
    by_cases hlt : p + ((b.drop p).takeWhile (· != 10)).length < b.length
    · rw [if_pos hlt]
      exact ⟨_, rfl, _, _, rfl, rfl, _, rfl, if_f (by rw [decide_eq_false]; omega) ⟨_, rfl, k⟩⟩
    · rw [if_neg hlt]
      have e : p + ((b.drop p).takeWhile (· != 10)).length = b.length := by omega
      rw [e] at k
      exact ⟨_, rfl, _, _, rfl, rfl, _, rfl, if_t (by decide) ⟨b, rfl, hb, k⟩⟩
/-! ### skip_gap -/
abbrev sSkipGap : Stmt := top 40
abbrev nSkipGap : List Str := ["text", "place"]
def spSkipGap : Sp := fun vs H Q _ => ∃ (b : Bytes) (p : Nat), vs = [.str (tsg b), .int (p : Nat)] ∧ p ≤ b.length ∧ b.length ≤ 4096 ∧ Q (.int ((p + gap false (b.drop p) : Nat) : Int)) H
theorem scSkipGap : FnScope nSkipGap ["text", "place"] (defScope sSkipGap) := ⟨rfl, rfl, rfl, by decide +kernel, rfl, by decide +kernel, by decide +kernel⟩
theorem drop_succ {b : Bytes} {p : Nat} {c : UInt8} {r : Bytes} (h : b.drop p = c :: r) : b.drop (p + 1) = r := by
  rw [← List.drop_drop, h]
  rfl
theorem drop_lt' {b : Bytes} {p : Nat} {c : UInt8} {r : Bytes} (h : b.drop p = c :: r) : p < b.length := by
  rcases Nat.lt_or_ge p b.length with z | z
  · exact z
  · rw [List.drop_eq_nil_of_le z] at h
    cases h
theorem ok_skip_gap (B : Bn mg) (G : GStr mg "GAPS" cGaps) (D : Def P w K mg base CX0 1 "remark_end" ["text", "place"] spRemarkEnd) (F : FunG K mg "skip_gap" sSkipGap) : Def P w K mg base CX0 2 "skip_gap" ["text", "place"] spSkipGap := by
  refine F.def (fun _ _ _ _ _ _ us hl => match us, hl with | [_, _], _ => rfl) fun f fd F => ?_
  have nd := scSkipGap.nd
  refine F.ok scSkipGap (fun vs H Q E h => ?_) (fun cdv A outer s H vs Q E hr h => ⟨_, pss_cons (ps_while PassesOwn.never (pt_andB (f := isGap) B (pv 0) (pv 1) (pt_inS sg_gap (pv 0) (pv 1) (gs G)))
      (pss_one (ps_if (pt_cmpR op_eq (pe_item (pv 0) (pv 1)) pe_str (nomark _)) (pss_one (ps_set (i := 1) nd rfl (Or.inl rfl) (cl D hr pass0 (pa_cons (pv 0) (pa_cons (pv 1) pa_nil)))))
        (pss_one (ps_aug (i := 1) nd rfl (Or.inl rfl) pe_int ip_add)))))
    (pss_one (ps_ret (pv 1))), ?_⟩)
  · obtain ⟨b, p, rfl, _⟩ := h
    rfl
  · obtain ⟨b, p, rfl, hp, hb, k⟩ := h
    refine while_by (fun σ H' => ∃ q : Nat, σ = [some (.str (tsg b)), some (.int (q : Nat))] ∧ H' = H ∧ q ≤ b.length ∧ q + gap false (b.drop q) = p + gap false (b.drop p)) (fun σ _ => match σ with | [_, some (.int q)] => b.length - q.toNat | _ => 0) ⟨p, rfl, rfl, hp, rfl⟩ ?_ tAtB_mono
    rintro σ H' ⟨q, rfl, rfl, hq, hg⟩
    refine ⟨b, q, rfl, rfl, hb, if_b (fun ht => ?_) fun ht => ?_⟩
    · cases hd : b.drop q with
      | nil => rw [hd] at ht; cases ht
      | cons c r =>
        rw [hd] at ht hg
        have hql := drop_lt' hd
        refine ⟨b, q, c, r, rfl, rfl, hb, hd, rfl, _, rfl, ?_⟩
        rw [hash_eq, sg_hash]
        refine if_b (fun h35 => ?_) fun h35 => ?_
        · refine ⟨_, rfl, _, rfl, b, q, rfl, hq, hb, ?_⟩
          have e35 : c = 35 := by simpa using h35
          subst e35
          have hle := takeWhile_le (· != 10) (b.drop q)
          rw [List.length_drop] at hle
          have htw : ((b.drop q).takeWhile (· != 10)).length = 1 + (r.takeWhile (· != 10)).length := by
            rw [hd, List.takeWhile_cons, if_pos (by decide), List.length_cons]
            omega
          have hdd : b.drop (q + ((b.drop q).takeWhile (· != 10)).length) = r.dropWhile (· != 10) := by
            rw [htw, ← drop_takeWhile_length, ← drop_succ hd, List.drop_drop]
            congr 1
            omega
          have hgap : gap false (35 :: r) = 1 + gap true r := rfl
          rw [gap_rem] at hgap
          refine ⟨⟨_, rfl, rfl, by omega, ?_⟩, ?_⟩
          · rw [hdd, htw]
            omega
          · show b.length - ((q + ((b.drop q).takeWhile (· != 10)).length : Nat) : Int).toNat < b.length - (q : Int).toNat
            omega
        · refine ⟨_, rfl, q, 1, rfl, rfl, ⟨q + 1, rfl, rfl, by omega, ?_⟩, ?_⟩
          · have hb1 : isBlank c = true := by
              simp only [atB, isGap, h35, Bool.or_false] at ht
              exact ht
            have hgap : gap false (c :: r) = 1 + gap false r := by simp only [gap, hb1, if_true]
            rw [drop_succ hd]
            omega
          · show b.length - ((q + 1 : Nat) : Int).toNat < b.length - (q : Int).toNat
            omega
    · have h0 : gap false (b.drop q) = 0 := by
        cases hd : b.drop q with
        | nil => rfl
        | cons c r =>
          rw [hd] at ht
          simp only [atB, isGap, Bool.or_eq_false_iff, beq_eq_false_iff_ne, ne_eq] at ht
          simp only [gap, ht.1, Bool.false_eq_true, if_false, ht.2]
      rw [h0] at hg
      have e : q = p + gap false (b.drop p) := by omega
      exact ⟨_, rfl, by rw [e]; exact k⟩
end
end SR
set_option Elab.async false
set_option linter.all false
set_option maxRecDepth 100000
set_option maxHeartbeats 2000000
namespace SR
open PySem PySem.Spec PyProof.Rows L2
open VamvsBase (Bytes Toks Tok PTok Fault isBlank isDigit isLetter)
abbrev cMeaningless : Str := Str.ofString "?"
abbrev cAll : Str := cGaps ++ cSigns ++ cDigits ++ cLetters
def dctM (l : List Nat) : List (Key × V) := l.foldl (fun k c => L2.putK k (Sum.inl ((c : Nat) : Int)) (.str ⟨#[c]⟩)) []
theorem dctM_len (l : List Nat) : (dctM l).length ≤ l.length := by
  have key : ∀ (l : List Nat) (k : List (Key × V)), (l.foldl (fun k c => L2.putK k (Sum.inl ((c : Nat) : Int)) (V.str ⟨#[c]⟩)) k).length ≤ k.length + l.length := by
    intro l
    induction l with
    | nil => intro k; exact Nat.le_refl _
    | cons c l ih =>
      intro k
      have h1 := ih (L2.putK k (Sum.inl ((c : Nat) : Int)) (.str ⟨#[c]⟩))
      have h2 : (L2.putK k (Sum.inl ((c : Nat) : Int)) (V.str ⟨#[c]⟩)).length ≤ k.length + 1 := by
        unfold L2.putK
        split <;> simp
      rw [List.foldl_cons, List.length_cons]
      omega
  unfold dctM
  simpa using key l []
def tblB : List (Key × V) := dctM cAll.cps.toList
def chkB (c : UInt8) : Bool := match valV tblB (Sum.inl ((c.toNat : Nat) : Int)) with
  | some (.str s) => s == (⟨#[sgv c]⟩ : Str)
  | some _ => false
  | none => cMeaningless == (⟨#[sgv c]⟩ : Str)
theorem chk_all : ∀ c, chkB c = true := byteAll (by decide +kernel)
theorem chk_get (c : UInt8) : (valV tblB (Sum.inl ((c.toNat : Nat) : Int))).getD (.str cMeaningless) = .str ⟨#[sgv c]⟩ := by
  have h := chk_all c
  unfold chkB at h
  split at h
  · rename_i s e
    rw [e]
    have : s = ⟨#[sgv c]⟩ := by simpa using h
    rw [this]
    rfl
  · cases h
  · rename_i e
    rw [e]
    have : cMeaningless = ⟨#[sgv c]⟩ := by simpa using h
    rw [this]
    rfl
theorem join_ones (l : List Nat) : Txt.join (Str.ofString "") (l.map fun c => (⟨#[c]⟩ : Str)) = SX.S l := by
  have e : (Str.ofString "" : Str) = SX.S [] := by decide +kernel
  have e2 : (l.map fun c => (⟨#[c]⟩ : Str)) = (l.map fun c => [c]).map SX.S := by
    rw [List.map_map]
    rfl
  rw [e, e2, SX.join_S]
  congr 1
  have key : ∀ l : List Nat, TL.joinL [] (l.map fun c => [c]) = l := by
    intro l
    induction l with
    | nil => rfl
    | cons c l ih =>
      cases l with
      | nil => rfl
      | cons d l =>
        show [c] ++ [] ++ TL.joinL [] ((d :: l).map fun c => [c]) = _
        rw [ih]
        rfl
  rw [key]
theorem ones_len (b : Bytes) : (b.map ((fun x : Str => x.length) ∘ fun c => (⟨#[sgv c]⟩ : Str))).sum = b.length := by
  induction b with
  | nil => rfl
  | cons c b ih => rw [List.map_cons, List.sum_cons, ih, List.length_cons]; show 1 + _ = _; omega
theorem S_catL (a b : List Nat) : SX.S a ++ SX.S b = SX.S (a ++ b) := SX.S_cat a b
section
variable {P : Program} {w : World} {K : PySem.W.Frag} {mg : Str → Option Value} {base : Heap} {CF fI CTok : Addr}
abbrev bv (b : Bytes) : List V := b.map fun c => V.int ((c.toNat : Nat) : Int)
abbrev sTextOf : Stmt := top 39
abbrev nTextOf : List Str := ["text", "signs", "sign", "byte"]
def spTextOf (K : PySem.W.Frag) : Sp := fun vs H Q _ => ∃ (p : Addr) (b : Bytes), vs = [.ref p] ∧ SqL K H p (bv b) ∧ b.length ≤ 4096 ∧ ∀ H', Same H H' → Q (.str (tsg b)) H'
theorem scTextOf : FnScope nTextOf ["text"] (defScope sTextOf) := ⟨rfl, rfl, rfl, by decide +kernel, rfl, by decide +kernel, by decide +kernel⟩
theorem bv_at {b : Bytes} {i : Nat} {x : V} (h : (bv b)[i]? = some x) : ∃ c, b[i]? = some c ∧ x = .int ((c.toNat : Nat) : Int) := by
  rw [List.getElem?_map] at h
  cases e : b[i]? with
  | none => rw [e] at h; cases h
  | some c =>
    rw [e] at h
    cases h
    exact ⟨c, rfl, rfl⟩
theorem ok_text_of (B : Bn mg) (G1 : GStr mg "GAPS" cGaps) (G2 : GStr mg "SIGNS" cSigns) (G3 : GStr mg "DIGITS" cDigits) (G4 : GStr mg "LETTERS" cLetters) (G5 : GStr mg "MEANINGLESS" cMeaningless) (F : FunG K mg "text_of_bytes" sTextOf) :
    Def P w K mg base CX0 1 "text_of_bytes" ["text"] (spTextOf K) := by
  refine F.def (fun _ _ _ _ _ _ us hl => match us, hl with | [_], _ => rfl) fun f fd F => ?_
  have nd := scTextOf.nd
  refine F.ok scTextOf (fun vs H Q E h => ?_) (fun cdv A outer s H vs Q E hr h => ⟨_, pss_cons (ps_set (i := 1) nd rfl (Or.inr rfl) pe_dnewK)
    (pss_cons (ps_for PassesOwn.never rfl (pi_str (pe_op op_add_str (pe_op op_add_str (pe_op op_add_str (gs G1) (gs G2)) (gs G3)) (gs G4))) (pg_name (i := 2) nd rfl (Or.inl rfl))
      (pss_one (ps_dput (hu_of hr) (pv 1) (pe_callB call_ord (by rfl) B.ord (by decide +kernel) (pa_cons (pv 2) pa_nil)) (pv 2) rfl)))
    (pss_one (ps_ret (pe_join pe_str (pe_lc (own := [("byte", 3)]) (g := gName 3) (tt := tYes) (te := tDGet2 (tVar 1) (tVar 3) (tC (.str cMeaningless))) rfl nd (pi_list (pv 0)) (blkOk_by (own := [("byte", 3)]) (N := nTextOf) (sc := defScope sTextOf) (by decide +kernel))
        (fun _ _ _ _ _ => pg_name (i := 3) nd rfl (Or.inl rfl)) (fun _ _ _ _ _ => pts_nil) (fun _ _ _ _ _ => pe_dget2 (hu_of hr) (pv 1) (pv 3) (gs G5) ⟨rfl, rfl, rfl, rfl⟩)))))), ?_⟩)
  · obtain ⟨p, b, rfl, _⟩ := h
    rfl
  · obtain ⟨p, b, rfl, hS, hb, k⟩ := h
    refine fun D hD => ⟨_, _, rfl, rfl, by decide +kernel, _, _, rfl, rfl, by decide +kernel, _, _, rfl, rfl, by decide +kernel, cAll, rfl, ?_⟩
    refine for_it (walk_str (z := cAll)) (fun i σ H' => ∃ x2 : Option V, σ = [some (.ref p), some (.ref D), x2, none] ∧ Same H H' ∧ H' D = some (.dK (dctM (cAll.cps.toList.take i)))) ⟨none, rfl, Same.new hD, upd_same⟩ (fun _ _ _ _ _ => trivial) ?_ ?_
    · rintro i x σ H1 H2 hi ⟨x2, rfl, e, hd⟩ ⟨rfl, c, hc, rfl⟩
      refine ⟨_, rfl, _, rfl, _, rfl, _, rfl, rfl, D, _, rfl, DPut.k (k := Sum.inl ((c : Nat) : Int)) hd ?_, _, rfl, e.put hD, ?_⟩
      · refine Nat.lt_of_le_of_lt (dctM_len _) ?_
        rw [List.length_take, line_eq]
        have : cAll.cps.toList.length = 70 := by decide +kernel
        omega
      · rw [upd_same]
        have hc' : cAll.cps.toList[i]? = some c := by rw [Array.getElem?_toList]; exact hc
        rw [take_succ' hc']
        unfold dctM
        rw [List.foldl_append]
        rfl
    · rintro σ H1 ⟨x2, rfl, e, hd⟩
      have hsz : cAll.cps.toList.take cAll.cps.size = cAll.cps.toList := by
        rw [← Array.length_toList, List.take_length]
      rw [hsz] at hd
      refine ⟨⟨_, rfl⟩, _, rfl, p, rfl, ⟨_, e.seq hS⟩, fun L hL => lc_go (walk_list (K := K) (a := p) (xs := bv b)) (fun i => (b.take i).map fun c => V.str ⟨#[sgv c]⟩) rfl hL (fun H' s' => (e.trans s').seq hS) ?_ ?_⟩
      · rintro i x H3 H4 hi hP ⟨rfl, hx⟩
        obtain ⟨c, hc, rfl⟩ := bv_at hx
        refine ⟨rfl, _, rfl, D, rfl, .inl ⟨_, .inl (hP.1 _ _ hd)⟩, _, rfl, _, DGet.k (k := Sum.inl ((c.toNat : Nat) : Int)) (hP.1 _ _ hd), ?_⟩
        have := chk_get c
        unfold tblB at this
        rw [this]
        refine lc_put hL hP (Same.refl _) (by rw [take_succ' hc, List.map_append]; rfl) ?_
        rw [List.length_map, List.length_take, line_eq]
        omega
      · rintro H3 ⟨s3, hL3⟩
        have hlen : b.take (bv b).length = b := by rw [List.length_map, List.take_length]
        have hL3 : H3 L = some (.lst ((b.take (bv b).length).map fun c => V.str ⟨#[sgv c]⟩)) := hL3
        rw [hlen] at hL3
        refine ⟨_, L, b.map fun c => (⟨#[sgv c]⟩ : Str), rfl, rfl, .inl (SqL.of ?_), ?_, ?_⟩
        · rw [hL3, List.map_map]
          rfl
        · have e0 : (Str.ofString "" : Str).length = 0 := by decide +kernel
          rw [e0, List.map_map]
          have := ones_len b
          rw [this]
          omega
        · have ej := join_ones (b.map sgv)
          rw [List.map_map] at ej
          have ej2 : Txt.join (Str.ofString "") (b.map fun c => (⟨#[sgv c]⟩ : Str)) = tsg b := ej
          rw [ej2]
          exact k _ (e.trans s3)
end
end SR
set_option Elab.async false
set_option linter.all false
set_option maxRecDepth 100000
set_option maxHeartbeats 2000000
namespace SR
open PySem PySem.Spec PyProof.Rows L2
open VamvsBase (Bytes Toks Tok PTok Fault isBlank isDigit isLetter)
/-- a fault is let out: its own dict d is new -/
def FltK (CF : Addr) (E : XK) (f : Fault) (H : Hp) : Prop := ∀ (H' : Hp) (d : Addr), Same H H' → H' d = none → E (.ref CF) (some d) (upd H' d (.xd (faultF (.int (f.code : Nat)) (.int (f.place : Nat)))))
section
variable {P : Program} {w : World} {K : PySem.W.Frag} {mg : Str → Option Value} {base : Heap} {CF fI CTok : Addr}
/-! ### token_end -/
abbrev sTokenEnd : Stmt := top 42
abbrev nTokenEnd : List Str := ["text", "place", "end"]
def spTokenEnd (CF : Addr) : Sp := fun vs H Q E => ∃ (b : Bytes) (p : Nat), vs = [.str (tsg b), .int (p : Nat)] ∧ p < b.length ∧ b.length ≤ 4096 ∧
  match tokLen (b.drop p) with
  | some n => Q (.int ((p + n : Nat) : Int)) H
  | none => FltK CF E ⟨2, p⟩ H
theorem scTokenEnd : FnScope nTokenEnd ["text", "place"] (defScope sTokenEnd) := ⟨rfl, rfl, rfl, by decide +kernel, rfl, by decide +kernel, by decide +kernel⟩
/-- a run of bytes of a kind -/
theorem run_go {f : UInt8 → Bool} {b : Bytes} {q n : Nat} (h : q + ((b.drop q).takeWhile f).length = n) (ht : atB f (b.drop q) = true) : q < b.length ∧ q + 1 + ((b.drop (q + 1)).takeWhile f).length = n := by
  cases hd : b.drop q with
  | nil => rw [hd] at ht; cases ht
  | cons c r =>
    rw [hd] at h ht
    have ht : f c = true := ht
    rw [List.takeWhile_cons, if_pos ht, List.length_cons] at h
    refine ⟨drop_lt' hd, ?_⟩
    rw [drop_succ hd]
    omega
theorem run_end {f : UInt8 → Bool} {b : Bytes} {q n : Nat} (h : q + ((b.drop q).takeWhile f).length = n) (ht : atB f (b.drop q) = false) : q = n := by
  cases hd : b.drop q with
  | nil => rw [hd] at h; exact h
  | cons c r =>
    rw [hd] at h ht
    have ht : f c = false := ht
    rw [List.takeWhile_cons, ht] at h
    simpa using h
theorem ok_token_end (B : Bn mg) (T : FX.FaultTxt K mg CF fI) (G2 : GStr mg "SIGNS" cSigns) (GN : GInt mg "NO_TOKEN" 2) (F : FunG K mg "token_end" sTokenEnd) : Def P w K mg base (L2.CX P w) 3 "token_end" ["text", "place"] (spTokenEnd CF) := by
  refine F.def (fun _ _ _ _ _ _ us hl => match us, hl with | [_, _], _ => rfl) fun f fd F => ?_
  have nd := scTokenEnd.nd
  refine F.okX scTokenEnd (fun vs H Q E h => ?_) (fun cdv A outer s H vs Q E hr h => ⟨_, pss_cons (ps_set (i := 2) nd rfl (Or.inl rfl) (pe_op n_add (pv 1) pe_int))
    (pss_cons (ps_if (pt_inS (i := 0) (j := 1) sg_sign (pv 0) (pv 1) (gs G2)) (pss_one (ps_ret (pv 2))) pss_nil)
    (pss_cons (ps_if (pt_meth (i := 0) (j := 1) PySem.F.slot_str_isdigit PySem.F.type_str_isdigit mt_isdigit sg_digit (pv 0) (pv 1))
      (pss_cons (ps_while (passes_of rfl) (pt_andB B (pv 0) (pv 2) (pt_meth (i := 0) (j := 2) PySem.F.slot_str_isdigit PySem.F.type_str_isdigit mt_isdigit sg_digit (pv 0) (pv 2))) (pss_one (ps_aug (i := 2) nd rfl (Or.inl rfl) pe_int ip_add))) (pss_one (ps_ret (pv 2)))) pss_nil)
    (pss_cons (ps_if (pt_meth (i := 0) (j := 1) PySem.F.slot_str_isalpha PySem.F.type_str_isalpha mt_isalpha sg_alpha (pv 0) (pv 1))
      (pss_cons (ps_while (passes_of rfl) (pt_andB B (pv 0) (pv 2) (pt_meth (i := 0) (j := 2) PySem.F.slot_str_isalnum PySem.F.type_str_isalnum mt_isalnum sg_alnum (pv 0) (pv 2))) (pss_one (ps_aug (i := 2) nd rfl (Or.inl rfl) pe_int ip_add))) (pss_one (ps_ret (pv 2)))) pss_nil)
    (pss_one (ps_raiseFault rfl T hr (takes_of rfl rfl rfl rfl) (by exact (pa_cons (gi GN) (pa_cons (pv 1) pa_nil)))))))), ?_⟩)
  · obtain ⟨b, p, rfl, _⟩ := h
    rfl
  · obtain ⟨b, p, rfl, hp, hb, k⟩ := h
    obtain ⟨c, r, hd⟩ := drop_lt hp
    rw [hd] at k
    refine ⟨_, rfl, p, 1, rfl, rfl, ⟨b, p, c, r, rfl, rfl, hb, hd, if_b (fun h1 => ?_) fun h1 => ?_⟩⟩
    · have e : tokLen (c :: r) = some 1 := by simp only [tokLen, h1, if_true]
      rw [e] at k
      exact ⟨_, rfl, k⟩
    · refine ⟨b, p, c, r, rfl, rfl, hb, hd, if_b (fun h2 => ?_) fun h2 => ?_⟩
      · have e : tokLen (c :: r) = some (1 + (r.takeWhile isDigit).length) := by simp only [tokLen, h1, h2, Bool.false_eq_true, if_false, if_true]
        rw [e] at k
        refine while_by (fun σ H' => ∃ q : Nat, σ = [some (.str (tsg b)), some (.int (p : Nat)), some (.int (q : Nat))] ∧ H' = H ∧ q + ((b.drop q).takeWhile isDigit).length = p + (1 + (r.takeWhile isDigit).length)) (fun σ _ => match σ with | [_, _, some (.int q)] => b.length - q.toNat | _ => 0) ⟨p + 1, rfl, rfl, by rw [drop_succ hd]; omega⟩ ?_ tAtB_mono
        rintro σ H' ⟨q, rfl, rfl, hq⟩
        refine ⟨b, q, rfl, rfl, hb, if_b (fun ht => ?_) fun ht => ?_⟩
        · obtain ⟨hl, hq2⟩ := run_go hq ht
          refine ⟨_, rfl, q, 1, rfl, rfl, ⟨q + 1, rfl, rfl, hq2⟩, ?_⟩
          show b.length - ((q + 1 : Nat) : Int).toNat < b.length - (q : Int).toNat
          omega
        · have := run_end hq ht
          have k : Q (.int ((p + (1 + (r.takeWhile isDigit).length) : Nat) : Int)) H' := k
          rw [← this] at k
          exact ⟨_, rfl, k⟩
      · refine ⟨b, p, c, r, rfl, rfl, hb, hd, if_b (fun h3 => ?_) fun h3 => ?_⟩
        · have e : tokLen (c :: r) = some (1 + (r.takeWhile isAlnum).length) := by simp only [tokLen, h1, h2, h3, Bool.false_eq_true, if_false, if_true]
          rw [e] at k
          refine while_by (fun σ H' => ∃ q : Nat, σ = [some (.str (tsg b)), some (.int (p : Nat)), some (.int (q : Nat))] ∧ H' = H ∧ q + ((b.drop q).takeWhile isAlnum).length = p + (1 + (r.takeWhile isAlnum).length)) (fun σ _ => match σ with | [_, _, some (.int q)] => b.length - q.toNat | _ => 0) ⟨p + 1, rfl, rfl, by rw [drop_succ hd]; omega⟩ ?_ tAtB_mono
          rintro σ H' ⟨q, rfl, rfl, hq⟩
          refine ⟨b, q, rfl, rfl, hb, if_b (fun ht => ?_) fun ht => ?_⟩
          · obtain ⟨hl, hq2⟩ := run_go hq ht
            refine ⟨_, rfl, q, 1, rfl, rfl, ⟨q + 1, rfl, rfl, hq2⟩, ?_⟩
            show b.length - ((q + 1 : Nat) : Int).toNat < b.length - (q : Int).toNat
            omega
          · have := run_end hq ht
            have k : Q (.int ((p + (1 + (r.takeWhile isAlnum).length) : Nat) : Int)) H' := k
            rw [← this] at k
            exact ⟨_, rfl, k⟩
        · have e : tokLen (c :: r) = none := by simp only [tokLen, h1, h2, h3, Bool.false_eq_true, if_false]
          rw [e] at k
          exact ⟨_, rfl, _, _, rfl, fun d hd => k H d (Same.refl _) hd⟩
end
end SR
set_option Elab.async false
set_option linter.all false
set_option maxRecDepth 100000
set_option maxHeartbeats 2000000
namespace SR
open PySem PySem.Spec PyProof.Rows L2
open VamvsBase (Bytes Toks Tok PTok Fault isBlank isDigit isLetter RESERVED)
/-! ### tokens in the heap -/
def kdS : Kd → Str
  | .columns => Str.ofString "columns"
  | .row => Str.ofString "row"
  | .ask => Str.ofString "ask"
  | .times => Str.ofString "times"
  | .comma => Str.ofString ","
  | .colon => Str.ofString ":"
  | .semi => Str.ofString ";"
  | .minus => Str.ofString "-"
  | .name => Str.ofString "name"
  | .number => Str.ofString "number"
  | .last => Str.ofString "end"
theorem kdS_inj : ∀ {a b : Kd}, kdS a = kdS b → a = b := by
  intro a b
  cases a <;> cases b <;> first | (intro _; rfl) | (intro h; exact absurd h (by decide +kernel))
def ctV : VamvsBase.Tok → V
  | .name b => .str (tx b)
  | .num n => .int (n : Nat)
  | .sign c => .str ⟨#[c]⟩
  | .last => .str (Str.ofString "")
def tokL (k c pl : V) : List (Str × V) := [("kind", k), ("content", c), ("place", pl)]
def tokF (t : PTok) : List (Str × V) := tokL (.str (kdS (kd t.tok))) (ctV t.tok) (.int (t.place : Nat))
def TokAt (CTok : Addr) (H : Hp) (a : Addr) (t : PTok) : Prop := ∃ dx, H a = some (.ins CTok dx (tokF t))
theorem TokAt.same {CTok : Addr} (H H' : Hp) (a : Addr) (t : PTok) (e : Same H H') (h : TokAt CTok H a t) : TokAt CTok H' a t := by
  obtain ⟨dx, h⟩ := h
  exact ⟨dx, e _ _ h⟩
theorem tokL_k (k c pl : V) : (tokL k c pl).lookup ("kind" : Str) = some k := lk_here
theorem tokL_c (k c pl : V) : (tokL k c pl).lookup ("content" : Str) = some c := (lk_past (by decide +kernel)).trans lk_here
theorem tokL_p (k c pl : V) : (tokL k c pl).lookup ("place" : Str) = some pl := (lk_past (by decide +kernel)).trans ((lk_past (by decide +kernel)).trans lk_here)
def tk1 (k : V) : List (Str × V) := [("kind", k)]
def tk2 (k c : V) : List (Str × V) := [("kind", k), ("content", c)]
theorem tk1_put (k : V) : putF "kind" k [] = tk1 k := rfl
theorem tk2_put (k c : V) : putF "content" c (tk1 k) = tk2 k c := (put_past (by decide +kernel)).trans rfl
theorem tokL_put (k c pl : V) : putF "place" pl (tk2 k c) = tokL k c pl := (put_past (by decide +kernel)).trans (congrArg _ ((put_past (by decide +kernel)).trans rfl))
structure TokC (K : PySem.W.Frag) (C : Addr) : Prop where
  cl : Cls K C
  nk : NoAttr K C "kind"
  nc : NoAttr K C "content"
  np : NoAttr K C "place"
/-! ### pieces -/
theorem tx_inj {a b : Bytes} (h : tx a = tx b) : a = b := by
  have h2 : a.map (·.toNat) = b.map (·.toNat) := SX.S_inj h
  have key : ∀ (a b : Bytes), a.map (·.toNat) = b.map (·.toNat) → a = b := by
    intro a
    induction a with
    | nil => intro b h; cases b with
      | nil => rfl
      | cons _ _ => cases h
    | cons c a ih =>
      intro b h
      cases b with
      | nil => cases h
      | cons d b =>
        simp only [List.map_cons, List.cons.injEq] at h
        rw [UInt8.toNat_inj.mp h.1, ih b h.2]
  exact key a b h2
theorem tx_len (b : Bytes) : (tx b).length = b.length := by
  show (SX.S (b.map (·.toNat))).length = _
  rw [SX.S_len, List.length_map]
theorem tx_at {b : Bytes} {p : Nat} {c : UInt8} (h : b[p]? = some c) : atI (tx b).cps.toList (p : Int) = some c.toNat := by
  refine atI_nat ?_
  show (b.map (·.toNat))[p]? = _
  rw [List.getElem?_map, h]
  rfl
/-- a piece: a sign alone, digits, or a letter and what may follow -/
structure PieceOk (w : Bytes) : Prop where
  all : ∀ c ∈ w, sgv c = c.toNat
  dig : ∀ c r, w = c :: r → isDigit c = true → w.all isDigit = true
  sig : ∀ c r, w = c :: r → VamvsBase.SIGNS.contains c = true → r = []
  ne : w ≠ []
theorem take_tw (p : UInt8 → Bool) : ∀ r : Bytes, r.take (r.takeWhile p).length = r.takeWhile p
  | [] => rfl
  | x :: s => by
    by_cases h : p x = true
    · simp only [List.takeWhile_cons, h, if_true, List.length_cons, List.take_succ_cons, take_tw p s]
    · simp only [List.takeWhile_cons, h, if_false, List.length_nil, List.take_zero, Bool.false_eq_true]
theorem mem_tw (p : UInt8 → Bool) : ∀ (r : Bytes) (c : UInt8), c ∈ r.takeWhile p → p c = true
  | [], c, h => by cases h
  | x :: s, c, h => by
    rw [List.takeWhile_cons] at h
    by_cases hx : p x = true
    · rw [if_pos hx] at h
      rcases List.mem_cons.mp h with h | h
      · rw [h]; exact hx
      · exact mem_tw p s c h
    · rw [if_neg hx] at h
      cases h
theorem pieceOk {l : Bytes} {n : Nat} (h : tokLen l = some n) : PieceOk (l.take n) := by
  cases l with
  | nil => cases h
  | cons b r =>
    obtain ⟨c1, c2⟩ := classes b
    simp only [tokLen] at h
    split at h
    · rename_i hs
      cases h
      refine ⟨fun c hc => ?_, fun c r' e hd => ?_, fun c r' e _ => ?_, by simp⟩
      · rw [List.take_succ_cons, List.take_zero, List.mem_singleton] at hc
        subst hc
        exact sg_same c (by rw [hs]; rfl)
      · rw [List.take_succ_cons, List.take_zero] at e
        cases e
        rw [(c1 hs).1] at hd
        cases hd
      · rw [List.take_succ_cons, List.take_zero] at e
        cases e
        rfl
    · rename_i hs
      split at h
      · rename_i hd
        cases h
        rw [Nat.add_comm, List.take_succ_cons, take_tw]
        refine ⟨fun c hc => ?_, fun c r' e _ => ?_, fun c r' e hs2 => ?_, by simp⟩
        · rcases List.mem_cons.mp hc with hc | hc
          · subst hc
            exact sg_same c (by rw [hd]; simp)
          · exact sg_same c (by rw [mem_tw _ _ _ hc]; simp)
        · rw [List.all_cons, hd, Bool.true_and, List.all_eq_true]
          exact fun c hc => mem_tw _ _ _ hc
        · cases e
          exact absurd hs2 hs
      · rename_i hd
        split at h
        · rename_i hl
          cases h
          rw [Nat.add_comm, List.take_succ_cons, take_tw]
          refine ⟨fun c hc => ?_, fun c r' e hd2 => ?_, fun c r' e hs2 => ?_, by simp⟩
          · rcases List.mem_cons.mp hc with hc | hc
            · subst hc
              exact sg_same c (by rw [hl]; simp)
            · have := mem_tw _ _ _ hc
              unfold isAlnum at this
              refine sg_same c ?_
              cases e1 : isLetter c <;> cases e2 : isDigit c <;> rw [e1, e2] at this <;> simp at this ⊢
          · cases e
            exact absurd hd2 hd
          · cases e
            exact absurd hs2 hs
        · cases h
theorem piece_tx {b : Bytes} {p n : Nat} (h : ∀ c ∈ (b.drop p).take n, sgv c = c.toNat) : SX.S (((b.map sgv).drop p).take n) = tx ((b.drop p).take n) := by
  show _ = SX.S (((b.drop p).take n).map (·.toNat))
  congr 1
  rw [← List.map_drop, ← List.map_take]
  exact List.map_congr_left h
theorem cut_piece {b : Bytes} {p n : Nat} (hn : p + n ≤ b.length) : cutS (tsg b) (some ((p : Nat) : Int)) (some ((p + n : Nat) : Int)) = SX.S (((b.map sgv).drop p).take n) := by
  unfold cutS
  rw [HT.sIx_nat, HT.sIx_nat, tsg_len]
  have e1 : min p b.length = p := by omega
  have e2 : min (p + n) b.length - p = n := by omega
  rw [e1, e2]
  rfl
/-! ### words and signs -/
def cWords : List V := [.str (Str.ofString "columns"), .str (Str.ofString "row"), .str (Str.ofString "ask"), .str (Str.ofString "times")]
theorem words_tx : cWords = RESERVED.map fun b => V.str (tx b) := by
  rw [reserved_eq]
  have e1 : (Str.ofString "columns" : Str) = tx wCols := by decide +kernel
  have e2 : (Str.ofString "row" : Str) = tx wRow := by decide +kernel
  have e3 : (Str.ofString "ask" : Str) = tx wAsk := by decide +kernel
  have e4 : (Str.ofString "times" : Str) = tx wTimes := by decide +kernel
  unfold cWords
  rw [e1, e2, e3, e4]
  rfl
theorem in_words (w : Bytes) : inV (.str (tx w)) cWords = RESERVED.contains w := by
  rw [words_tx]
  unfold inV
  rw [List.any_map, Bool.eq_iff_iff, List.any_eq_true, List.contains_iff_mem]
  constructor
  · rintro ⟨b, hb, h⟩
    have : tx b = tx w := by simpa [eqV] using h
    rw [← tx_inj this]
    exact hb
  · intro h
    exact ⟨w, h, by simp [eqV]⟩
theorem in_signs {c : UInt8} {r : Bytes} (h : VamvsBase.SIGNS.contains c = true → r = []) : (!(Builtin.Str.occurrences cSigns (tx (c :: r)) 0 cSigns.length 1).isEmpty) = VamvsBase.SIGNS.contains c := by
  cases hs : VamvsBase.SIGNS.contains c with
  | true =>
    have hr := h hs
    subst hr
    have e : tx [c] = ⟨#[c.toNat]⟩ := rfl
    have e2 := sg_sign c
    rw [sg_same c (by rw [hs]; rfl), hs] at e2
    rw [e, PySem.StrLaws.found_one, e2]
  | false =>
    cases hf : (!(Builtin.Str.occurrences cSigns (tx (c :: r)) 0 cSigns.length 1).isEmpty) with
    | false => rfl
    | true =>
      obtain ⟨i, h1, h2⟩ := (PySem.StrLaws.found_iff _ _).mp hf
      rw [PySem.StrLaws.subAt_eq] at h2
      have h3 : (cSigns.cps.toList.drop i).take (tx (c :: r)).length = c.toNat :: r.map (·.toNat) := (beq_iff_eq.mp h2).trans (by show (c :: r).map (·.toNat) = _; rfl)
      have hm : c.toNat ∈ cSigns.cps.toList := List.mem_of_mem_drop (List.mem_of_mem_take (by rw [h3]; exact List.mem_cons_self ..))
      exfalso
      have key : ∀ c : UInt8, c.toNat ∈ cSigns.cps.toList → VamvsBase.SIGNS.contains c = true := byteAll (by decide +kernel)
      rw [key c hm] at hs
      cases hs
/-- a word's kind is the word -/
theorem word_kind {w : Bytes} (h : RESERVED.contains w = true) : kdS (kd (.name w)) = tx w := by
  rw [reserved_eq] at h
  have h' : w ∈ [wCols, wRow, wAsk, wTimes] := by simpa using h
  simp only [List.mem_cons, List.not_mem_nil, or_false] at h'
  rcases h' with h' | h' | h' | h' <;> (subst h'; decide +kernel)
theorem sign_kind {c : UInt8} (h : VamvsBase.SIGNS.contains c = true) : kdS (kd (.sign c.toNat)) = ⟨#[c.toNat]⟩ := by
  have key : ∀ c : UInt8, VamvsBase.SIGNS.contains c = true → kdS (kd (.sign c.toNat)) = ⟨#[c.toNat]⟩ := byteAll (by decide +kernel)
  exact key c h
theorem digits_val : ∀ (w : Bytes), NumText.digitsVal (w.map (·.toNat)) = VamvsBase.decimal w := by
  intro w
  unfold NumText.digitsVal VamvsBase.decimal
  rw [List.foldl_map]
  congr 1
  funext a c
  rw [Nat.mul_comm]
theorem int_tx {w : Bytes} (h : w.all isDigit = true) (hne : w ≠ []) (hl : w.length ≤ 4300) : PySem.intText? (tx w) = some ((VamvsBase.decimal w : Nat) : Int) := by
  have := SX.int_S (a := w.map (·.toNat)) (by
    rw [List.all_map, List.all_eq_true]
    intro c hc
    have h1 := List.all_eq_true.mp h c hc
    unfold isDigit at h1
    simpa using h1) (by simpa using hne) (by rw [List.length_map]; exact hl)
  rw [digits_val] at this
  exact this
theorem zero_eq (c : UInt8) : decide (V.str ⟨#[c.toNat]⟩ = V.str (Str.ofString "0")) = decide (c = 48) := by
  have e : (Str.ofString "0" : Str) = ⟨#[48]⟩ := by decide +kernel
  rw [dec_str, e]
  congr 1
  refine propext ⟨fun z => ?_, fun z => by rw [z]; rfl⟩
  injection z with z
  have z : c.toNat = 48 := by simpa using z
  exact UInt8.toNat_inj.mp z
end SR
set_option Elab.async false
set_option linter.all false
set_option maxRecDepth 100000
set_option maxHeartbeats 2000000
namespace SR
open PySem PySem.Spec PyProof.Rows L2
open VamvsBase (Bytes Toks PTok Fault isBlank isDigit isLetter RESERVED)
section
variable {P : Program} {w : World} {K : PySem.W.Frag} {mg : Str → Option Value} {base : Heap} {CF fI CTok : Addr}
/-! ### Token.__init__ -/
abbrev sTokInit : Stmt := inClass (top 38) 0
abbrev nTokInit : List Str := ["self", "kind", "content", "place"]
def spTokInit (CTok : Addr) : Sp := fun vs H Q _ => ∃ (p dx : Addr) (k c pl : V) (H0 : Hp), vs = [.ref p, k, c, pl] ∧ H = upd (upd H0 dx (.own p)) p (.ins CTok dx []) ∧ H0 p = none ∧ H0 dx = none ∧ dx ≠ p ∧
  ∀ H', Same H0 H' → H' p = some (.ins CTok dx (tokL k c pl)) → Q .non H'
theorem scTokInit : FnScope nTokInit ["self", "kind", "content", "place"] (defScope sTokInit) := ⟨rfl, rfl, rfl, by decide +kernel, rfl, by decide +kernel, by decide +kernel⟩
theorem ok_tok_init (TC : TokC K CTok) (F : FunI K mg CTok "Token" "Token.__init__" sTokInit) : MakeOk P w K mg base 1 "Token" CTok ["self", "kind", "content", "place"] (spTokInit CTok) := by
  refine F.def (fun _ _ _ _ _ _ us hl => match us, hl with | [_, _, _, _], _ => rfl) fun f fd F => ?_
  have nd := scTokInit.nd
  refine F.ok scTokInit (fun vs H Q E h => ?_) (fun cdv A outer s H vs Q E hr h => ⟨_, pss_cons (ps_fld (pv 0) (pv 1) rfl) (pss_cons (ps_fld (pv 0) (pv 2) rfl) (pss_one (ps_fld (pv 0) (pv 3) rfl))), ?_⟩)
  · obtain ⟨p, dx, k, c, pl, H0, rfl, _⟩ := h
    rfl
  · obtain ⟨p, dx, k, c, pl, H0, rfl, rfl, hp, hd, hne, hk⟩ := h
    have e0 : Same H0 (upd (upd H0 dx (.own p)) p (.ins CTok dx [])) := (Same.new hd).put hp
    refine ⟨_, rfl, _, rfl, p, CTok, dx, [], rfl, upd_same, TC.cl, TC.nk, by show 0 < 1000; decide, ?_⟩
    rw [tk1_put]
    refine ⟨_, rfl, _, rfl, p, CTok, dx, _, rfl, upd_same, TC.cl, TC.nc, by show 1 < 1000; decide, ?_⟩
    rw [tk2_put]
    refine ⟨_, rfl, _, rfl, p, CTok, dx, _, rfl, upd_same, TC.cl, TC.np, by show 2 < 1000; decide, ?_⟩
    rw [tokL_put]
    exact hk _ (((e0.put hp).put hp).put hp) upd_same
/-! ### number_token -/
/-- what a piece gives -/
def TokRes (CF CTok : Addr) (w : Bytes) (p : Nat) (H : Hp) (Q : VK) (E : XK) : Prop := match tokOf w with
  | some t => ∀ (H' : Hp) (a : Addr), Same H H' → H a = none → TokAt CTok H' a ⟨p, t⟩ → Q (.ref a) H'
  | none => FltK CF E ⟨2, p⟩ H
abbrev sNumTok : Stmt := top 43
abbrev nNumTok : List Str := ["digits", "place", "number"]
def spNumTok (CF CTok : Addr) : Sp := fun vs H Q E => ∃ (c : UInt8) (r : Bytes) (p : Nat), vs = [.str (tx (c :: r)), .int (p : Nat)] ∧ isDigit c = true ∧ (c :: r).all isDigit = true ∧ r.length ≤ 4096 ∧ TokRes CF CTok (c :: r) p H Q E
theorem scNumTok : FnScope nNumTok ["digits", "place"] (defScope sNumTok) := ⟨rfl, rfl, rfl, by decide +kernel, rfl, by decide +kernel, by decide +kernel⟩
theorem tx_line {b : Bytes} (h : b.length ≤ 4097) : (tx b).length ≤ sizeLine := by rw [tx_len, line_eq]; omega
/-- making a token, from a list of arguments -/
theorem make_tok {H : Hp} {Q : VK} {E : XK} {k c pl : V} (h : ∀ (H' : Hp) (a dx : Addr), Same H H' → H a = none → H' a = some (.ins CTok dx (tokL k c pl)) → Q (.ref a) H') :
    ∀ x dx, H x = none → H dx = none → dx ≠ x → spTokInit CTok (.ref x :: ([k, c, pl] ++ [])) (upd (upd H dx (.own x)) x (.ins CTok dx [])) (fun v H2 => v = .non ∧ Q (.ref x) H2) E :=
  fun x dx hx hdx hne => ⟨x, dx, k, c, pl, H, rfl, rfl, hx, hdx, hne, fun H' e hH => ⟨rfl, h H' x dx e hx hH⟩⟩
theorem ok_number_token (B : Bn mg) (T : FX.FaultTxt K mg CF fI) (G1 : GInt mg "MOST_NUMBER_DIGITS" 10) (G2 : GInt mg "MOST_NUMBER" 1000000000) (G3 : GStr mg "NUMBER" (Str.ofString "number")) (GN : GInt mg "NO_TOKEN" 2)
    (DT : MakeOk P w K mg base 1 "Token" CTok ["self", "kind", "content", "place"] (spTokInit CTok)) (F : FunG K mg "number_token" sNumTok) : Def P w K mg base (L2.CX P w) 3 "number_token" ["digits", "place"] (spNumTok CF CTok) := by
  refine F.def (fun _ _ _ _ _ _ us hl => match us, hl with | [_, _], _ => rfl) fun f fd F => ?_
  have nd := scNumTok.nd
  refine F.okX scNumTok (fun vs H Q E h => ?_) (fun cdv A outer s H vs Q E hr h => ⟨_, pss_cons (ps_if (PW.pt (pw_or (pt_cmpR op_gt (pe_callB call_len_str (by rfl) B.len PySem.boot_len (pa_cons (pv 0) pa_nil)) (gi G1) (nomark _))
        (pw_or1 (PW.pt (pw_and (pt_cmpR op_eq (pe_ix ix_str (pv 0) pe_int (fun _ _ => rfl)) pe_str (nomark _)) (pw_and1 (pt_cmpR op_gt (pe_callB call_len_str (by rfl) B.len PySem.boot_len (pa_cons (pv 0) pa_nil)) pe_int (nomark _))))))))
      (pss_one (ps_raiseFault rfl T hr (takes_of rfl rfl rfl rfl) (by exact (pa_cons (gi GN) (pa_cons (pv 1) pa_nil))))) pss_nil)
    (pss_cons (ps_set (i := 2) nd rfl (Or.inl rfl) (pe_callTy call_int_str (by rfl) B.int (by decide +kernel) (pa_cons (pv 0) pa_nil)))
    (pss_cons (ps_if (pt_cmpR n_gt (pv 2) (gi G2) (nomark _)) (pss_one (ps_raiseFault rfl T hr (takes_of rfl rfl rfl rfl) (by exact (pa_cons (gi GN) (pa_cons (pv 1) pa_nil))))) pss_nil)
    (pss_one (ps_ret (mk1 DT hr (pa_cons (gs G3) (pa_cons (pv 2) (pa_cons (pv 1) pa_nil)))))))), ?_⟩)
  · obtain ⟨c, r, p, rfl, _⟩ := h
    rfl
  · obtain ⟨c, r, p, rfl, hd, hall, hl, k⟩ := h
    unfold TokRes at k
    have hlen : (tx (c :: r)).length = r.length + 1 := by rw [tx_len]; rfl
    have bad : 10 < (c :: r).length ∨ (c = 48 ∧ 1 < (c :: r).length) → FltK CF E ⟨2, p⟩ H := fun hb => by
      have e : tokOf (c :: r) = none := by simp only [tokOf, hd, if_true, hb]
      rw [e] at k
      exact k
    refine ⟨_, rfl, _, rfl, tx_line (by simp; omega), _, _, rfl, rfl, _, rfl, if_d (fun h10 => ?_) fun h10 => ?_⟩
    · refine ⟨_, rfl, _, _, rfl, fun d hd => bad (.inl ?_) H d (Same.refl _) hd⟩
      rw [hlen] at h10
      rw [List.length_cons]
      omega
    · refine ⟨_, rfl, _, _, _, rfl, rfl, tx_line (by simp; omega), tx_at (p := 0) (b := c :: r) rfl, rfl, _, rfl, ?_⟩
      rw [zero_eq]
      have go : ¬ (10 < (c :: r).length ∨ (c = 48 ∧ 1 < (c :: r).length)) → tSeq (tAsg (tCB (fun xs H Q => ∃ a n, xs = [.str a] ∧ PySem.intText? a = some n ∧ a.length ≤ 640 ∧ Q (.int n) H) (tCons (tVar 0) tNil)) (gName 2)) (tSeq (tIfS (tTest (tOp (fun x y H Q => ∃ a b : Nat, x = .int (a : Nat) ∧ y = .int (b : Nat) ∧ Q (.bl (decide (b < a))) H) (tVar 2) (tC (.int 1000000000)))) (tRaiseFault CF (fun cls d _ H => E cls d H) (tCons (tC (.int 2)) (tCons (tVar 1) tNil))) tNext)
          (tRet (tMake CTok (spTokInit CTok) [] E0 (tCons (tC (.str (Str.ofString "number"))) (tCons (tVar 2) (tCons (tVar 1) tNil)))))) { nx := fun _ H' => Q .non H', rt := Q } [some (.str (tx (c :: r))), some (.int (p : Nat)), none] H := fun hb => by
        have hl10 : ¬ 10 < (c :: r).length := fun z => hb (.inl z)
        refine ⟨_, rfl, _, _, rfl, int_tx hall (by simp) (by omega), by rw [tx_len]; omega, _, rfl, VamvsBase.decimal (c :: r), 1000000000, rfl, rfl, _, rfl, if_d (fun hN => ?_) fun hN => ?_⟩
        · have e : tokOf (c :: r) = none := by
            have hN : VamvsBase.NUMBER < VamvsBase.decimal (c :: r) := hN
            simp only [tokOf, hd, if_true, hb, if_false, hN]
          rw [e] at k
          exact ⟨_, rfl, _, _, rfl, fun d hd => k H d (Same.refl _) hd⟩
        · have e : tokOf (c :: r) = some (.num (VamvsBase.decimal (c :: r))) := by
            have hN : ¬ VamvsBase.NUMBER < VamvsBase.decimal (c :: r) := hN
            simp only [tokOf, hd, if_true, hb, if_false, hN]
          rw [e] at k
          exact ⟨_, rfl, _, rfl, make_tok fun H' a dx e1 ha h1 => k H' a e1 ha ⟨dx, h1⟩⟩
      have h10' : ¬ 10 < (c :: r).length := by
        rw [hlen] at h10
        rw [List.length_cons]
        omega
      refine if_d (fun h48 => ?_) fun h48 => ?_
      · refine ⟨_, rfl, _, rfl, tx_line (by simp; omega), _, _, rfl, rfl, _, rfl, if_d (fun h1 => ?_) fun h1 => ?_⟩
        · refine ⟨_, rfl, _, _, rfl, fun d hd => bad (.inr ⟨h48, ?_⟩) H d (Same.refl _) hd⟩
          rw [hlen] at h1
          rw [List.length_cons]
          omega
        · refine go fun hz => ?_
          rcases hz with hz | ⟨_, hz⟩
          · exact h10' hz
          · rw [hlen] at h1
            rw [List.length_cons] at hz
            omega
      · refine go fun hz => ?_
        rcases hz with hz | ⟨hz, _⟩
        · exact h10' hz
        · exact h48 hz
end
end SR
set_option Elab.async false
set_option linter.all false
set_option maxRecDepth 100000
set_option maxHeartbeats 2000000
namespace SR
open PySem PySem.Spec PyProof.Rows L2
open VamvsBase (Bytes Toks PTok Fault isBlank isDigit isLetter RESERVED)
section
variable {P : Program} {w : World} {K : PySem.W.Frag} {mg : Str → Option Value} {base : Heap} {CF fI CTok : Addr}
/-! ### token_of -/
abbrev sTokenOf : Stmt := top 44
abbrev nTokenOf : List Str := ["piece", "place"]
def spTokenOf (CF CTok : Addr) : Sp := fun vs H Q E => ∃ (b : Bytes) (p : Nat), vs = [.str (tx b), .int (p : Nat)] ∧ PieceOk b ∧ b.length ≤ 4096 ∧ TokRes CF CTok b p H Q E
theorem scTokenOf : FnScope nTokenOf ["piece", "place"] (defScope sTokenOf) := ⟨rfl, rfl, rfl, by decide +kernel, rfl, by decide +kernel, by decide +kernel⟩
theorem ok_token_of (B : Bn mg) (T : FX.FaultTxt K mg CF fI) (GW : GTup K mg "WORDS" cWords) (G2 : GStr mg "SIGNS" cSigns) (G3 : GInt mg "MOST_NAME_BYTES" 16) (G4 : GStr mg "NAME" (Str.ofString "name")) (GN : GInt mg "NO_TOKEN" 2)
    (DT : MakeOk P w K mg base 1 "Token" CTok ["self", "kind", "content", "place"] (spTokInit CTok)) (D : Def P w K mg base (L2.CX P w) 3 "number_token" ["digits", "place"] (spNumTok CF CTok)) (F : FunG K mg "token_of" sTokenOf) :
    Def P w K mg base (L2.CX P w) 4 "token_of" ["piece", "place"] (spTokenOf CF CTok) := by
  obtain ⟨aW, gW, hW⟩ := GW
  refine F.def (fun _ _ _ _ _ _ us hl => match us, hl with | [_, _], _ => rfl) fun f fd F => ?_
  have nd := scTokenOf.nd
  refine F.okX scTokenOf (fun vs H Q E h => ?_) (fun cdv A outer s H vs Q E hr h => ⟨_, pss_cons (ps_if (pt_val (pe_m0 PySem.F.slot_str_isdigit PySem.F.type_str_isdigit mt_isdigit (pe_ix ix_str (pv 0) pe_int (fun _ _ => rfl))))
      (pss_one (ps_ret (cl D hr (passes_call (takes_of rfl rfl rfl rfl) (fun _ _ _ _ h => h)) (pa_cons (pv 0) (pa_cons (pv 1) pa_nil))))) pss_nil)
    (pss_cons (ps_if (PW.pt (pw_or (pt_cmpR op_in_seq (pv 0) (gref gW) rfl) (pw_or1 (pt_cmpR op_in_str (pv 0) (gs G2) rfl))))
      (pss_one (ps_ret (mk1 DT (hr.mono (by decide)) (pa_cons (pv 0) (pa_cons (pv 0) (pa_cons (pv 1) pa_nil)))))) pss_nil)
    (pss_cons (ps_if (pt_cmpR op_gt (pe_callB call_len_str (by rfl) B.len PySem.boot_len (pa_cons (pv 0) pa_nil)) (gi G3) (nomark _))
      (pss_one (ps_raiseFault rfl T hr (takes_of rfl rfl rfl rfl) (by exact (pa_cons (gi GN) (pa_cons (pv 1) pa_nil))))) pss_nil)
    (pss_one (ps_ret (mk1 DT (hr.mono (by decide)) (pa_cons (gs G4) (pa_cons (pv 0) (pa_cons (pv 1) pa_nil)))))))), ?_⟩)
  · obtain ⟨b, p, rfl, _⟩ := h
    rfl
  · obtain ⟨b, p, rfl, ok, hl, k⟩ := h
    cases b with
    | nil => exact absurd rfl ok.ne
    | cons c r =>
      have hsg : sgv c = c.toNat := ok.all c (List.mem_cons_self ..)
      have hdg : Txt.isdigit ⟨#[c.toNat]⟩ = isDigit c := by rw [← hsg]; exact sg_digit c
      simp only [List.length_cons] at hl
      have hln : (tx (c :: r)).length ≤ sizeLine := tx_line (by simp; omega)
      refine ⟨_, rfl, _, _, _, rfl, rfl, hln, tx_at (p := 0) (b := c :: r) rfl, ⟨_, rfl⟩, _, rfl, rfl, trivial, _, rfl, ?_⟩
      rw [hdg]
      refine if_b (fun hd => ?_) fun hd => ?_
      · exact ⟨_, rfl, _, rfl, c, r, p, rfl, hd, ok.dig c r rfl hd, by omega, k⟩
      · have asWord : RESERVED.contains (c :: r) = true → ∀ (H' : Hp) (a dx : Addr), Same H H' → H a = none → H' a = some (.ins CTok dx (tokL (.str (tx (c :: r))) (.str (tx (c :: r))) (.int (p : Nat)))) → Q (.ref a) H' := fun hw H' a dx e ha h1 => by
          have ht : tokOf (c :: r) = some (.name (c :: r)) := by simp only [tokOf, hd, Bool.false_eq_true, if_false, hw, if_true]
          unfold TokRes at k
          rw [ht] at k
          refine k H' a e ha ⟨dx, ?_⟩
          rw [h1]
          unfold tokF
          rw [word_kind hw]
          rfl
        refine ⟨_, rfl, aW, cWords, rfl, .inr (hW _), rfl, by decide +kernel, _, rfl, ?_⟩
        have hiw : (if false = true then !inV (V.str (tx (c :: r))) cWords else inV (V.str (tx (c :: r))) cWords) = RESERVED.contains (c :: r) := by rw [if_neg Bool.false_ne_true, in_words]
        rw [hiw]
        refine if_b (fun hw => ?_) fun hw => ?_
        · exact ⟨_, rfl, _, rfl, _, rfl, make_tok fun H' a dx e ha h1 => asWord hw H' a dx e ha h1⟩
        · refine ⟨_, rfl, _, _, rfl, rfl, _, rfl, ?_⟩
          rw [in_signs (ok.sig c r rfl)]
          refine if_b (fun hs => ?_) fun hs => ?_
          · have hr' := ok.sig c r rfl hs
            subst hr'
            have ht : tokOf [c] = some (.sign c.toNat) := by simp only [tokOf, hd, Bool.false_eq_true, if_false, hw, hs, if_true]
            unfold TokRes at k
            rw [ht] at k
            refine ⟨_, rfl, _, rfl, _, rfl, make_tok fun H' a dx e ha h1 => k H' a e ha ⟨dx, ?_⟩⟩
            rw [h1]
            unfold tokF
            rw [sign_kind hs]
            rfl
          · refine ⟨_, rfl, _, rfl, hln, _, _, rfl, rfl, _, rfl, ?_⟩
            rw [tx_len]
            unfold TokRes at k
            refine if_d (fun h16 => ?_) fun h16 => ?_
            · have ht : tokOf (c :: r) = none := by
                have h16 : VamvsBase.NAME < (c :: r).length := by
                  unfold VamvsBase.NAME
                  omega
                simp only [tokOf, hd, Bool.false_eq_true, if_false, hw, hs, h16, if_true]
              rw [ht] at k
              exact ⟨_, rfl, _, _, rfl, fun d hd => k H d (Same.refl _) hd⟩
            · have ht : tokOf (c :: r) = some (.name (c :: r)) := by
                have h16 : ¬ VamvsBase.NAME < (c :: r).length := by
                  unfold VamvsBase.NAME
                  omega
                simp only [tokOf, hd, Bool.false_eq_true, if_false, hw, hs, h16]
              rw [ht] at k
              refine ⟨_, rfl, _, rfl, make_tok fun H' a dx e ha h1 => k H' a e ha ⟨dx, ?_⟩⟩
              rw [h1]
              unfold tokF
              rw [kd_name_of hw]
              rfl
/-! ### tokens_of -/
abbrev sTokensOf : Stmt := top 45
abbrev nTokensOf : List Str := ["text", "signs", "tokens", "place", "end"]
def spTokensOf (K : PySem.W.Frag) (CF CTok : Addr) : Sp := fun vs H Q E => ∃ (p : Addr) (b : Bytes), vs = [.ref p] ∧ SqL K H p (bv b) ∧ b.length ≤ 4096 ∧ match lexM 0 b with
  | .ok ts => ∀ (H' : Hp) (L : Addr) (ps : List Addr), Same H H' → H' L = some (.lst (ps.map V.ref)) → AllAt (TokAt CTok) H' ps ts → ts.length ≤ 4097 → Q (.ref L) H'
  | .error f => FltK CF E f H
theorem scTokensOf : FnScope nTokensOf ["text"] (defScope sTokensOf) := ⟨rfl, rfl, rfl, by decide +kernel, rfl, by decide +kernel, by decide +kernel⟩
def tLtLen (i j : Nat) : TT := fun σ H Q => ∃ (b : Bytes) (p : Nat), σ[i]? = some (some (.str (tsg b))) ∧ σ[j]? = some (some (.int (p : Nat))) ∧ b.length ≤ 4096 ∧ Q (decide (p < b.length)) H
theorem pt_ltLen {X : Cx} {i j : Nat} {x y : Str} {p1 p2 p3 p4 p5 : Pos} (B : Bn X.mg) (hx : PE X (.Name x p1) (tVar i)) (hy : PE X (.Name y p2) (tVar j)) (hg : Gl X "len" := by rfl) (hs : starEach [Expr.Name x p1] X.env = [(false, eval (.Name x p1) X.env)] := by rfl) (hpl : (backTo p4 (starEach [] X.env)).any (·.1) = false := by rfl) :
    PT X (.Compare (.Name y p2) [.Lt] [.Call (.Name "len" p3) [.Name x p1] [] p4] p5) (tLtLen i j) :=
  (pt_cmpR n_lt hy (pe_lenT B hx hg hs hpl) (nomark _)).weak fun σ H Q ⟨b, p, h1, h2, h3, h4⟩ => ⟨_, h2, b, h1, h3, p, b.length, rfl, rfl, _, rfl, h4⟩
theorem tLtLen_mono {i j : Nat} : ∀ (σ : L2.St) (H : Hp) (Q Q' : Bool → Hp → Prop), (∀ b H1, Q b H1 → Q' b H1) → tLtLen i j σ H Q → tLtLen i j σ H Q' :=
  fun σ H Q Q' hQ ⟨b, p, h1, h2, h3, h4⟩ => ⟨b, p, h1, h2, h3, hQ _ _ h4⟩
theorem AllAt.nil' {α : Type} {A : Hp → Addr → α → Prop} {H : Hp} : AllAt A H [] [] := ⟨rfl, fun i p x h => by simp at h⟩
theorem AllAt.push {α : Type} {A : Hp → Addr → α → Prop} {H : Hp} {ps : List Addr} {l : List α} {p : Addr} {x : α} (h : AllAt A H ps l) (hp : A H p x) : AllAt A H (ps ++ [p]) (l ++ [x]) := by
  refine ⟨by simp [h.len], fun i q y h1 h2 => ?_⟩
  by_cases hi : i < ps.length
  · rw [List.getElem?_append_left hi] at h1
    rw [List.getElem?_append_left (by rw [← h.len]; exact hi)] at h2
    exact h.at_ i q y h1 h2
  · have hi' : i = ps.length := by
      have := (List.getElem?_eq_some_iff.mp h1).1
      simp at this
      omega
    subst hi'
    rw [List.getElem?_append_right (Nat.le_refl _), Nat.sub_self] at h1
    rw [h.len, List.getElem?_append_right (Nat.le_refl _), Nat.sub_self] at h2
    cases h1
    cases h2
    exact hp
/-- all else stands where a list is stored anew -/
theorem AllAt.store {CTok : Addr} {H : Hp} {ps : List Addr} {l : Toks} {L : Addr} {xs ys : List V} (h : AllAt (TokAt CTok) H ps l) (hL : H L = some (.lst xs)) : AllAt (TokAt CTok) (upd H L (.lst ys)) ps l :=
  ⟨h.len, fun i p x h1 h2 => by
    obtain ⟨dx, h3⟩ := h.at_ i p x h1 h2
    refine ⟨dx, ?_⟩
    rw [upd_ne (fun z => by rw [z, hL] at h3; cases h3)]
    exact h3⟩
end
end SR
set_option Elab.async false
set_option linter.all false
set_option maxRecDepth 100000
set_option maxHeartbeats 2000000
namespace SR
open PySem PySem.Spec PyProof.Rows L2
open VamvsBase (Bytes Toks PTok Fault isBlank isDigit isLetter RESERVED)
theorem FltK.mono {CF : Addr} {E : XK} {f : Fault} {H H' : Hp} (e : Same H H') (h : FltK CF E f H) : FltK CF E f H' := fun H2 d s hd => h H2 d (e.trans s) hd
section
variable {P : Program} {w : World} {K : PySem.W.Frag} {mg : Str → Option Value} {base : Heap} {CF fI CTok : Addr}
theorem ok_tokens_of (B : Bn mg) (G : GStr mg "END" (Str.ofString "end")) (DT : MakeOk P w K mg base 1 "Token" CTok ["self", "kind", "content", "place"] (spTokInit CTok))
    (D1 : Def P w K mg base CX0 1 "text_of_bytes" ["text"] (spTextOf K)) (D2 : Def P w K mg base CX0 2 "skip_gap" ["text", "place"] spSkipGap) (D3 : Def P w K mg base (L2.CX P w) 3 "token_end" ["text", "place"] (spTokenEnd CF))
    (D4 : Def P w K mg base (L2.CX P w) 4 "token_of" ["piece", "place"] (spTokenOf CF CTok)) (F : FunG K mg "tokens_of" sTokensOf) : Def P w K mg base (L2.CX P w) 5 "tokens_of" ["text"] (spTokensOf K CF CTok) := by
  refine F.def (fun _ _ _ _ _ _ us hl => match us, hl with | [_], _ => rfl) fun f fd F => ?_
  have nd := scTokensOf.nd
  refine F.okX scTokensOf (fun vs H Q E h => ?_) (fun cdv A outer s H vs Q E hr h => ⟨_, pss_cons (ps_set (i := 1) nd rfl (Or.inl rfl) (cl D1 (hr.mono (by decide)) pass0 (pa_cons (pv 0) pa_nil)))
    (pss_cons (ps_set (i := 2) nd rfl (Or.inl rfl) (pe_lst pa_nil))
    (pss_cons (ps_set (i := 3) nd rfl (Or.inl rfl) (cl D2 (hr.mono (by decide)) pass0 (pa_cons (pv 1) (pa_cons pe_int pa_nil))))
    (pss_cons (ps_while (passes_of rfl) (pt_ltLen (i := 1) (j := 3) B (pv 1) (pv 3))
      (pss_cons (ps_set (i := 4) nd rfl (Or.inl rfl) (cl D3 (hr.mono (by decide)) (passes_call (takes_of rfl rfl rfl rfl) (fun _ _ _ _ h => h)) (pa_cons (pv 1) (pa_cons (pv 3) pa_nil))))
      (pss_cons (ps_expr (pe_bm PySem.F.plainAttrs_list PySem.F.slot_list_append PySem.F.type_list_append mt_append (pv 2) (pa_cons (cl D4 hr (passes_call (takes_of rfl rfl rfl rfl) (fun _ _ _ _ h => h)) (pa_cons (pe_slice sl_str (pv 1) (po_some (pv 3)) (po_some (pv 4))) (pa_cons (pv 3) pa_nil))) pa_nil)))
      (pss_one (ps_set (i := 3) nd rfl (Or.inl rfl) (cl D2 (hr.mono (by decide)) pass0 (pa_cons (pv 1) (pa_cons (pv 4) pa_nil))))))))
    (pss_cons (ps_expr (pe_bm PySem.F.plainAttrs_list PySem.F.slot_list_append PySem.F.type_list_append mt_append (pv 2) (pa_cons (mk1 DT (hr.mono (by decide)) (pa_cons (gs G) (pa_cons pe_str (pa_cons (pe_lenT (i := 1) B (pv 1)) pa_nil)))) pa_nil)))
    (pss_one (ps_ret (pv 2))))))), ?_⟩)
  · obtain ⟨p, b, rfl, _⟩ := h
    rfl
  · obtain ⟨p, b, rfl, hS, hb, k⟩ := h
    refine ⟨_, rfl, p, b, rfl, hS, hb, fun H1 e1 => ?_⟩
    refine ⟨by decide, fun L hL => ?_⟩
    have e2 := e1.put2 (o := .lst []) hL
    refine ⟨_, rfl, b, 0, rfl, Nat.zero_le _, hb, ?_⟩
    rw [List.drop_zero, Nat.zero_add]
    have hgl := gap_le false b
    refine while_by (fun σ H' => ∃ (q : Nat) (us : Toks) (ps : List Addr) (x4 : Option V), σ = [some (.ref p), some (.str (tsg b)), some (.ref L), some (.int (q : Nat)), x4] ∧ Same H H' ∧ H' L = some (.lst (ps.map V.ref)) ∧ AllAt (TokAt CTok) H' ps us ∧ q ≤ b.length ∧ us.length ≤ q ∧
        (∀ c r, b.drop q = c :: r → isBlank c = false ∧ c ≠ 35) ∧ lexM 0 b = (lexM q (b.drop q)).map (us ++ ·))
      (fun σ _ => match σ with | [_, _, _, some (.int q), _] => b.length - q.toNat | _ => 0)
      ⟨gap false b, [], [], none, rfl, e2, upd_same, AllAt.nil', hgl, Nat.zero_le _, fun c r h => gap_end false b c r h, ?_⟩ ?_ tLtLen_mono
    · have := lexM_gap b.length b 0 (Nat.le_refl _)
      rw [Nat.zero_add] at this
      rw [this]
      cases lexM (gap false b) (b.drop (gap false b)) <;> rfl
    · rintro σ H2 ⟨q, us, ps, x4, rfl, e, hl, ha, hq, hus, hst, hlex⟩
      refine ⟨b, q, rfl, rfl, hb, if_d (fun hlt => ?_) fun hlt => ?_⟩
      · obtain ⟨c, r, hd⟩ := drop_lt hlt
        obtain ⟨h1, h2⟩ := hst c r hd
        have turn := lexM_turn (at_ := q) (r := r) h1 h2
        rw [← hd] at turn
        refine ⟨_, rfl, _, rfl, b, q, rfl, hlt, hb, ?_⟩
        cases hn : tokLen (b.drop q) with
        | none =>
          rw [hn] at turn
          rw [turn] at hlex
          rw [hlex] at k
          exact FltK.mono e k
        | some n =>
          rw [hn] at turn
          obtain ⟨n1, n2⟩ := tokLen_pos hn
          rw [List.length_drop] at n2
          have ok := pieceOk hn
          refine ⟨_, rfl, .inl ⟨rfl, _, SqL.of hl⟩, _, rfl, _, rfl, _, rfl, _, rfl, _, rfl, _, rfl, str_line hb, _, rfl, (b.drop q).take n, q, ?_, ok, by rw [List.length_take, List.length_drop]; omega, ?_⟩
          · rw [cut_piece (by omega), piece_tx ok.all]
            rfl
          · unfold TokRes
            cases ht : tokOf ((b.drop q).take n) with
            | none =>
              simp only [ht] at turn
              rw [turn] at hlex
              rw [hlex] at k
              exact FltK.mono e k
            | some t =>
              simp only [ht] at turn
              intro H3 a e3 ha0 hat
              have hl3 := e3 _ _ hl
              refine ⟨L, _, _, rfl, rfl, hl3, ?_, ?_⟩
              · rw [List.length_map, ha.len, line_eq]
                omega
              · have hpush := ((ha.same TokAt.same e3).push hat).store (ys := ps.map V.ref ++ [.ref a]) hl3
                have hgl2 := gap_le false (b.drop (q + n))
                rw [List.length_drop] at hgl2
                refine ⟨_, rfl, _, rfl, b, q + n, rfl, by omega, hb, ?_⟩
                refine ⟨⟨q + n + gap false (b.drop (q + n)), us ++ [⟨q, t⟩], ps ++ [a], _, rfl, (e.trans e3).put (e1.free hL), by rw [upd_same, List.map_append]; rfl, hpush, by omega, by rw [List.length_append]; show us.length + 1 ≤ _; omega, fun c r h => ?_, ?_⟩, ?_⟩
                · rw [← List.drop_drop] at h
                  exact gap_end false _ c r h
                · rw [hlex, turn, List.drop_drop, List.drop_drop]
                  have ed : q + (n + gap false (b.drop (q + n))) = q + n + gap false (b.drop (q + n)) := by omega
                  rw [ed]
                  cases lexM (q + n + gap false (b.drop (q + n))) (b.drop (q + n + gap false (b.drop (q + n)))) with
                  | error f => rfl
                  | ok ts =>
                    show Except.ok (us ++ (⟨q, t⟩ :: ts)) = Except.ok (us ++ [⟨q, t⟩] ++ ts)
                    rw [List.append_assoc]
                    rfl
                · show b.length - ((q + n + gap false (b.drop (q + n)) : Nat) : Int).toNat < b.length - (q : Int).toNat
                  omega
      · have hqe : q = b.length := by omega
        subst hqe
        rw [List.drop_length] at hlex
        have hlex : lexM 0 b = .ok (us ++ [⟨b.length, .last⟩]) := hlex
        rw [hlex] at k
        refine ⟨_, rfl, .inl ⟨rfl, _, SqL.of hl⟩, b, rfl, hb, fun a dx ha0 hdx hne => ⟨a, dx, _, _, _, H2, rfl, rfl, ha0, hdx, hne, fun H3 e3 hat => ⟨rfl, ?_⟩⟩⟩
        have hl3 := e3 _ _ hl
        refine ⟨L, _, _, rfl, rfl, hl3, ?_, ?_⟩
        · rw [List.length_map, ha.len, line_eq]
          omega
        · have hpush := ((ha.same TokAt.same e3).push (x := ⟨b.length, .last⟩) ⟨dx, hat⟩).store (ys := ps.map V.ref ++ [.ref a]) hl3
          refine ⟨_, rfl, k _ _ (ps ++ [a]) ((e.trans e3).put (e1.free hL)) (by rw [upd_same, List.map_append]; rfl) hpush (by rw [List.length_append]; show us.length + 1 ≤ _; omega)⟩
end
end SR
set_option Elab.async false
set_option linter.all false
set_option maxRecDepth 100000
set_option maxHeartbeats 2000000
namespace SR
open PySem PySem.Spec PyProof.Rows L2
open VamvsBase (Bytes Toks PTok Fault isBlank isDigit isLetter RESERVED)
/-! ### all but one object stands -/
def SameX (a : Addr) (H H' : Hp) : Prop := ∀ b o, b ≠ a → H b = some o → H' b = some o
section
variable {a : Addr} {H H' H'' : Hp}
theorem SameX.refl (a : Addr) (H : Hp) : SameX a H H := fun _ _ _ h => h
theorem SameX.of (e : Same H H') : SameX a H H' := fun b o _ h => e b o h
theorem SameX.trans (e : SameX a H H') (e2 : SameX a H' H'') : SameX a H H'' := fun b o hb h => e2 b o hb (e b o hb h)
theorem SameX.put {p : Addr} {o : HO} (e : SameX a H H') (h : H p = none) : SameX a H (upd H' p o) := fun b u hb q => by
  rw [upd_ne (ne_of_none q h)]
  exact e b u hb q
theorem SameX.putA {o : HO} (e : SameX a H H') : SameX a H (upd H' a o) := fun b u hb q => by
  rw [upd_ne hb]
  exact e b u hb q
theorem SameX.same (e : SameX a H H') (h : H a = none) : Same H H' := fun b u q => e b u (ne_of_none q h) q
theorem SameX.seq {K : PySem.W.Frag} {p : Addr} {xs : List V} {C dx : Addr} {fs : List (Str × V)} (e : SameX a H H') (ha : H a = some (.ins C dx fs)) (h : SqL K H p xs) : SqL K H' p xs := by
  rcases h with (h | ⟨o, h⟩) | h
  · exact .inl (.inl (e _ _ (fun z => by rw [z, ha] at h; cases h) h))
  · exact .inl (.inr ⟨o, e _ _ (fun z => by rw [z, ha] at h; cases h) h⟩)
  · exact .inr h
theorem SameX.lst {p : Addr} {xs : List V} {C dx : Addr} {fs : List (Str × V)} (e : SameX a H H') (ha : H a = some (.ins C dx fs)) (h : H p = some (.lst xs)) : H' p = some (.lst xs) := e _ _ (fun z => by rw [z, ha] at h; cases h) h
theorem SameX.tup {p : Addr} {xs : List V} {C dx : Addr} {fs : List (Str × V)} (e : SameX a H H') (ha : H a = some (.ins C dx fs)) (h : H p = some (.tup xs)) : H' p = some (.tup xs) := e _ _ (fun z => by rw [z, ha] at h; cases h) h
end
/-- a fault, whatever became of the walk at a -/
def FltX (a CF : Addr) (E : XK) (f : Fault) (H : Hp) : Prop := ∀ (H' : Hp) (d : Addr), SameX a H H' → H' d = none → E (.ref CF) (some d) (upd H' d (.xd (faultF (.int (f.code : Nat)) (.int (f.place : Nat)))))
theorem FltX.mono {a CF : Addr} {E : XK} {f : Fault} {H H' : Hp} (e : SameX a H H') (h : FltX a CF E f H) : FltX a CF E f H' := fun H2 d s hd => h H2 d (e.trans s) hd
theorem FltX.k {a CF : Addr} {E : XK} {f : Fault} {H : Hp} (h : FltX a CF E f H) : FltK CF E f H := fun H2 d s hd => h H2 d (SameX.of s) hd
/-! ### the walk over the tokens -/
def GoodL (l : Toks) : Prop := ∃ us p, l = us ++ [⟨p, .last⟩] ∧ ∀ u ∈ us, u.tok ≠ .last
theorem GoodL.ne {l : Toks} (h : GoodL l) : l ≠ [] := by
  obtain ⟨us, p, rfl, _⟩ := h
  simp
theorem GoodL.tail {t : PTok} {r : Toks} (h : GoodL (t :: r)) (ht : kd t.tok ≠ .last) : GoodL r := by
  obtain ⟨us, p, e, hu⟩ := h
  cases us with
  | nil =>
    cases e
    exact absurd rfl ht
  | cons u us =>
    cases e
    exact ⟨us, p, rfl, fun v hv => hu v (List.mem_cons_of_mem _ hv)⟩
theorem GoodL.took {ks : List Kd} {l : Toks} {x : PTok × Toks} (h : GoodL l) (e : take ks l = .ok x) (hk : .last ∉ ks) : GoodL x.2 := by
  obtain ⟨e1, e2⟩ := take_ok e
  rw [e1] at h
  exact h.tail fun z => hk (z ▸ e2)
def walkF (L : Addr) (i : Nat) : List (Str × V) := [("tokens", .ref L), ("taken", .int (i : Nat))]
theorem walkF_t (L : Addr) (i : Nat) : (walkF L i).lookup ("tokens" : Str) = some (.ref L) := lk_here
theorem walkF_k (L : Addr) (i : Nat) : (walkF L i).lookup ("taken" : Str) = some (.int (i : Nat)) := (lk_past (by decide +kernel)).trans lk_here
def wk1 (L : Addr) : List (Str × V) := [("tokens", .ref L)]
theorem wk1_put (L : Addr) : putF "tokens" (.ref L) [] = wk1 L := rfl
theorem walkF_put (L : Addr) : putF "taken" (.int 0) (wk1 L) = walkF L 0 := (put_past (by decide +kernel)).trans rfl
theorem walkF_next (L : Addr) (i : Nat) : putF "taken" (.int ((i : Int) + 1)) (walkF L i) = walkF L (i + 1) := (put_past (by decide +kernel)).trans (congrArg _ put_here)
structure WalkC (K : PySem.W.Frag) (C : Addr) : Prop where
  cl : Cls K C
  nt : NoAttr K C "tokens"
  nk : NoAttr K C "taken"
  mt : NoAttr K C "tokens"
/-- the walk at a has l still to take -/
structure WalkAt (CW CTok : Addr) (H : Hp) (a L : Addr) (l : Toks) : Prop where
  ex : ∃ (dx : Addr) (ps : List Addr) (ts : Toks) (i : Nat), H a = some (.ins CW dx (walkF L i)) ∧ H L = some (.lst (ps.map V.ref)) ∧ AllAt (TokAt CTok) H ps ts ∧ l = ts.drop i ∧ ts.length ≤ 4097
theorem TokAt.ne {CW CTok : Addr} {H : Hp} {a p L dx : Addr} {i : Nat} {t : PTok} (h : TokAt CTok H p t) (ha : H a = some (.ins CW dx (walkF L i))) : p ≠ a := fun z => by
  obtain ⟨d2, h⟩ := h
  rw [z, ha] at h
  have e : walkF L i = tokF t := by injection (Option.some.inj h)
  have := congrArg List.length e
  cases this
theorem WalkAt.ins {CW CTok : Addr} {H : Hp} {a L : Addr} {l : Toks} (h : WalkAt CW CTok H a L l) : ∃ dx fs, H a = some (.ins CW dx fs) := by
  obtain ⟨dx, ps, ts, i, h1, _⟩ := h.ex
  exact ⟨dx, _, h1⟩
theorem WalkAt.tokX {CW CTok : Addr} {H H' : Hp} {a p L : Addr} {l : Toks} {t : PTok} (h : WalkAt CW CTok H a L l) (e : SameX a H H') (ht : TokAt CTok H p t) : TokAt CTok H' p t := by
  obtain ⟨dx, ps, ts, i, h1, _⟩ := h.ex
  have hne := ht.ne h1
  obtain ⟨d2, ht⟩ := ht
  exact ⟨d2, e _ _ hne ht⟩
theorem WalkAt.same {CW CTok : Addr} {H H' : Hp} {a L : Addr} {l : Toks} (e : Same H H') (h : WalkAt CW CTok H a L l) : WalkAt CW CTok H' a L l := by
  obtain ⟨dx, ps, ts, i, h1, h2, h3, h4, h5⟩ := h.ex
  exact ⟨dx, ps, ts, i, e _ _ h1, e _ _ h2, h3.same TokAt.same e, h4, h5⟩
/-- a list that is not the walk's is stored anew -/
theorem WalkAt.put {CW CTok : Addr} {H : Hp} {a q L : Addr} {l : Toks} {o : HO} (h : WalkAt CW CTok H a L l) (n1 : q ≠ a) (n2 : q ≠ L) (ht : ∀ t, ¬ TokAt CTok H q t) : WalkAt CW CTok (upd H q o) a L l := by
  obtain ⟨dx, ps, ts, i, h1, h2, h3, h4, h5⟩ := h.ex
  refine ⟨dx, ps, ts, i, by rw [upd_ne (Ne.symm n1)]; exact h1, by rw [upd_ne (Ne.symm n2)]; exact h2, ⟨h3.len, fun j p x g1 g2 => ?_⟩, h4, h5⟩
  have h6 := h3.at_ j p x g1 g2
  have hp : p ≠ q := fun z => ht x (z ▸ h6)
  obtain ⟨d2, h6⟩ := h6
  exact ⟨d2, by rw [upd_ne hp]; exact h6⟩
section
variable {P : Program} {w : World} {K : PySem.W.Frag} {mg : Str → Option Value} {base : Heap} {CF fI CTok CW : Addr}
/-! ### TokenWalk.__init__ -/
abbrev sWalkInit : Stmt := inClass (top 62) 0
abbrev nWalkInit : List Str := ["self", "tokens"]
def spWalkInit (CW CTok : Addr) : Sp := fun vs H Q _ => ∃ (p dx L : Addr) (ps : List Addr) (ts : Toks) (H0 : Hp), vs = [.ref p, .ref L] ∧ H = upd (upd H0 dx (.own p)) p (.ins CW dx []) ∧ H0 p = none ∧ H0 dx = none ∧ dx ≠ p ∧
  H0 L = some (.lst (ps.map V.ref)) ∧ AllAt (TokAt CTok) H0 ps ts ∧ ts.length ≤ 4097 ∧ ∀ H', Same H0 H' → WalkAt CW CTok H' p L ts → Q .non H'
theorem scWalkInit : FnScope nWalkInit ["self", "tokens"] (defScope sWalkInit) := ⟨rfl, rfl, rfl, by decide +kernel, rfl, by decide +kernel, by decide +kernel⟩
theorem ok_walk_init (WC : WalkC K CW) (F : FunI K mg CW "TokenWalk" "TokenWalk.__init__" sWalkInit) : MakeOk P w K mg base 1 "TokenWalk" CW ["self", "tokens"] (spWalkInit CW CTok) := by
  refine F.def (fun _ _ _ _ _ _ us hl => match us, hl with | [_, _], _ => rfl) fun f fd F => ?_
  have nd := scWalkInit.nd
  refine F.ok scWalkInit (fun vs H Q E h => ?_) (fun cdv A outer s H vs Q E hr h => ⟨_, pss_cons (ps_fld (pv 0) (pv 1) rfl) (pss_one (ps_fld (pv 0) pe_int rfl)), ?_⟩)
  · obtain ⟨p, dx, L, ps, ts, H0, rfl, _⟩ := h
    rfl
  · obtain ⟨p, dx, L, ps, ts, H0, rfl, rfl, hp, hd, hne, hL, ha, hl, hk⟩ := h
    have e0 : Same H0 (upd (upd H0 dx (.own p)) p (.ins CW dx [])) := (Same.new hd).put hp
    refine ⟨_, rfl, _, rfl, p, CW, dx, [], rfl, upd_same, WC.cl, WC.nt, by show 0 < 1000; decide, ?_⟩
    rw [wk1_put]
    refine ⟨_, rfl, p, CW, dx, _, rfl, upd_same, WC.cl, WC.nk, by show 1 < 1000; decide, ?_⟩
    have hw := walkF_put L
    rw [hw]
    have e1 := (e0.put (o := .ins CW dx (wk1 L)) hp).put (o := .ins CW dx (walkF L 0)) hp
    exact hk _ e1 ⟨dx, ps, ts, 0, upd_same, e1 _ _ hL, ha.same TokAt.same e1, rfl, hl⟩
/-! ### TokenWalk.take -/
abbrev sTake : Stmt := inClass (top 62) 1
abbrev nTake : List Str := ["self", "kinds", "token"]
abbrev kv (ks : List Kd) : List V := ks.map fun k => V.str (kdS k)
def spTake (K : PySem.W.Frag) (CF CTok CW : Addr) : Sp := fun vs H Q E => ∃ (a kp L : Addr) (l : Toks) (ks : List Kd), vs = [.ref a, .ref kp] ∧ WalkAt CW CTok H a L l ∧ l ≠ [] ∧ SqT K H kp (kv ks) ∧ match take ks l with
  | .ok x => ∀ (H' : Hp) (pt : Addr), SameX a H H' → WalkAt CW CTok H' a L x.2 → TokAt CTok H' pt x.1 → Q (.ref pt) H'
  | .error f => FltX a CF E f H
theorem scTake : FnScope nTake ["self", "kinds"] (defScope sTake) := ⟨rfl, rfl, rfl, by decide +kernel, rfl, by decide +kernel, by decide +kernel⟩
theorem in_kinds (k : Kd) (ks : List Kd) : inV (.str (kdS k)) (kv ks) = decide (k ∈ ks) := by
  unfold inV
  rw [List.any_map, Bool.eq_iff_iff, List.any_eq_true, decide_eq_true_eq]
  constructor
  · rintro ⟨b, hb, h⟩
    have : kdS b = kdS k := by simpa [eqV] using h
    rw [← kdS_inj this]
    exact hb
  · intro h
    exact ⟨k, h, by simp [eqV]⟩
theorem flat_kinds (ks : List Kd) : (kv ks).all flatV = true := by
  rw [List.all_map, List.all_eq_true]
  intro k _
  rfl
theorem ok_take (WC : WalkC K CW) (TC : TokC K CTok) (T : FX.FaultTxt K mg CF fI) (GN : GInt mg "NOT_ALLOWED" 3) (F : FunM K CW "take" "TokenWalk.take" sTake) : MethOk P w K mg base (L2.CX P w) 3 CW "take" ["self", "kinds"] (spTake K CF CTok CW) := by
  refine F.def (fun _ _ _ _ _ _ us hl => match us, hl with | [_, _], _ => rfl) fun f fd F => ?_
  have nd := scTake.nd
  refine F.okX scTake (fun vs H Q E h => ?_) (fun cdv A outer s H vs Q E hr h => ⟨_, pss_cons (ps_set (i := 2) nd rfl (Or.inl rfl) (pe_ix ix_list (pe_fld (pv 0) rfl) (pe_fld (pv 0) rfl) (fun _ _ => rfl)))
    (pss_cons (ps_if (pt_cmpR op_notIn_seq (pe_fld (pv 2) rfl) (pv 1) rfl) (pss_one (ps_raiseFault rfl T hr (takes_of rfl rfl rfl rfl) (by exact (pa_cons (gi GN) (pa_cons (pe_fld (pv 2) rfl) pa_nil))))) pss_nil)
    (pss_cons (ps_fldaug (pv 0) pe_int in_add) (pss_one (ps_ret (pv 2))))), ?_⟩)
  · obtain ⟨a, kp, L, l, ks, rfl, _⟩ := h
    rfl
  · obtain ⟨a, kp, L, l, ks, rfl, hw, hne, hk, k⟩ := h
    obtain ⟨dx, ps, ts, i, h1, h2, h3, h4, h5⟩ := hw.ex
    subst h4
    cases hl : ts.drop i with
    | nil => exact absurd hl hne
    | cons t r =>
      rw [hl] at k
      have hi : i < ts.length := by
        rcases Nat.lt_or_ge i ts.length with z | z
        · exact z
        · rw [List.drop_eq_nil_of_le z] at hl
          cases hl
      have hti : ts[i]? = some t := by
        have : (ts.drop i)[0]? = ts[i + 0]? := List.getElem?_drop
        rw [hl] at this
        simpa using this.symm
      have hr2 : ts.drop (i + 1) = r := by
        rw [← List.drop_drop, hl]
        rfl
      have hip : i < ps.length := by rw [h3.len]; exact hi
      have hpi : ps[i]? = some ps[i] := List.getElem?_eq_getElem hip
      have hT := h3.at_ i _ _ hpi hti
      obtain ⟨dt, hTo⟩ := hT
      refine ⟨_, rfl, a, CW, dx, _, _, rfl, h1, WC.cl, WC.nt, walkF_t L i, ?_⟩
      refine ⟨_, rfl, a, CW, dx, _, _, rfl, h1, WC.cl, WC.nk, walkF_k L i, ?_⟩
      refine ⟨L, _, _, _, rfl, rfl, SqL.of h2, atI_nat (by rw [List.getElem?_map, hpi]; rfl), ?_⟩
      refine ⟨_, rfl, ps[i], CTok, dt, _, _, rfl, hTo, TC.cl, TC.nk, tokL_k _ _ _, ?_⟩
      refine ⟨_, rfl, kp, _, rfl, .inr hk, rfl, flat_kinds ks, _, rfl, ?_⟩
      rw [if_pos rfl, in_kinds]
      have hnot : (!decide (kd t.tok ∈ ks)) = decide (¬ kd t.tok ∈ ks) := by simp
      rw [hnot]
      simp only [take] at k
      refine if_d (fun hin => ?_) fun hin => ?_
      · rw [if_neg hin] at k
        exact ⟨_, rfl, ps[i], CTok, dt, _, _, rfl, hTo, TC.cl, TC.np, tokL_p _ _ _, _, _, rfl, fun d hd => k H d (SameX.refl _ _) hd⟩
      · have hin : kd t.tok ∈ ks := Classical.not_not.mp hin
        rw [if_pos hin] at k
        refine ⟨_, rfl, a, CW, dx, _, _, rfl, h1, WC.cl, WC.nk, walkF_k L i, i, 1, rfl, rfl, dx, _, h1, by show 2 < 1000; decide, ?_⟩
        have hw := walkF_next L i
        rw [hw]
        have e1 : SameX a H (upd H a (.ins CW dx (walkF L (i + 1)))) := (SameX.refl a H).putA
        have hLa : L ≠ a := fun z => by rw [z, h1] at h2; cases h2
        refine ⟨_, rfl, k _ ps[i] e1 ⟨dx, ps, ts, i + 1, upd_same, by rw [upd_ne hLa]; exact h2, ⟨h3.len, fun j p x g1 g2 => ?_⟩, hr2.symm, h5⟩ ?_⟩
        · have h6 := h3.at_ j p x g1 g2
          have hp := h6.ne h1
          obtain ⟨d2, h6⟩ := h6
          exact ⟨d2, by rw [upd_ne hp]; exact h6⟩
        · have hp := (show TokAt CTok H ps[i] t from ⟨dt, hTo⟩).ne h1
          exact ⟨dt, by rw [upd_ne hp]; exact hTo⟩
end
end SR
set_option Elab.async false
set_option linter.all false
set_option maxRecDepth 100000
set_option maxHeartbeats 2000000
namespace SR
open PySem PySem.Spec PyProof.Rows L2
open VamvsBase (Bytes Toks PTok Fault isBlank isDigit isLetter RESERVED)
theorem walkF_take (L : Addr) (i : Nat) : (walkF L i).lookup ("take" : Str) = none := (lk_past (by decide +kernel)).trans ((lk_past (by decide +kernel)).trans rfl)
theorem walkF_num (L : Addr) (i : Nat) : (walkF L i).lookup ("take_number" : Str) = none := (lk_past (by decide +kernel)).trans ((lk_past (by decide +kernel)).trans rfl)
section
variable {K : PySem.W.Frag} {CF CTok CW : Addr}
/-- walk.take((..)) -/
theorem take_read {i : Nat} {σ : L2.St} {H : Hp} {Q : VK} {E : XK} {ta : TA} {a L : Addr} {l : Toks} {ks : List Kd} (hta : ∀ σ H R, R (kv ks) H → ta σ H R) (hs : σ[i]? = some (some (.ref a))) (hw : WalkAt CW CTok H a L l) (hne : l ≠ []) (hlen : (kv ks).length ≤ sizeLine)
    (h1 : ∀ x, take ks l = .ok x → ∀ (H' : Hp) (pt : Addr), SameX a H H' → WalkAt CW CTok H' a L x.2 → TokAt CTok H' pt x.1 → Q (.ref pt) H') (h2 : ∀ f, take ks l = .error f → FltX a CF E f H) :
    tMeth CW "take" (spTake K CF CTok CW) [] E (tVar i) (tCons (tTup ta) tNil) σ H Q := by
  obtain ⟨dx, ps, ts, j, g1, g2, g3, g4, g5⟩ := hw.ex
  refine ⟨_, hs, a, dx, _, rfl, g1, walkF_take L j, hta _ _ _ ⟨hlen, fun p hp => ?_⟩⟩
  have e1 : Same H (upd H p (.tup (kv ks))) := Same.new hp
  refine ⟨a, p, L, l, ks, rfl, hw.same e1, hne, SqT.of upd_same, ?_⟩
  cases ht : take ks l with
  | ok x => exact fun H' pt s1 s2 s3 => h1 x ht H' pt ((SameX.of e1).trans s1) s2 s3
  | error f => exact FltX.mono (SameX.of e1) (h2 f ht)
def tKind (CTok : Addr) (k : Kd) (i : Nat) : TT := fun σ H Q => ∃ (pt : Addr) (t : PTok), σ[i]? = some (some (.ref pt)) ∧ TokAt CTok H pt t ∧ Q (decide (kd t.tok = k)) H
theorem tKind_mono {k : Kd} {i : Nat} : ∀ (σ : L2.St) (H : Hp) (Q Q' : Bool → Hp → Prop), (∀ b H1, Q b H1 → Q' b H1) → tKind CTok k i σ H Q → tKind CTok k i σ H Q' :=
  fun σ H Q Q' hQ ⟨p, t, h1, h2, h3⟩ => ⟨p, t, h1, h2, hQ _ _ h3⟩
theorem dec_kind (a b : Kd) : decide (V.str (kdS a) = V.str (kdS b)) = decide (a = b) := by
  rw [dec_str]
  congr 1
  exact propext ⟨kdS_inj, fun z => by rw [z]⟩
theorem pt_kind {X : Cx} (TC : TokC X.K CTok) {i : Nat} {k : Kd} {x : Str} {e : Expr} {p1 p2 p3 : Pos} (hx : PE X (.Name x p1) (tVar i)) (he : PE X e (tC (.str (kdS k)))) (hm : behindInMarks .Eq e = false := by exact nomark _)
    (hb : attributeBase (.Name x p1) "kind" X.env (eval (.Name x p1) X.env) = eval (.Name x p1) X.env := by rfl) : PT X (.Compare (.Attribute (.Name x p1) "kind" p2) [.Eq] [e] p3) (tKind CTok k i) :=
  (pt_cmpR op_eq (pe_fld hx hb) he hm).weak fun σ H Q ⟨pt, t, h1, ⟨dt, h2⟩, h3⟩ => ⟨_, h1, pt, CTok, dt, _, _, rfl, h2, TC.cl, TC.nk, tokL_k _ _ _, rfl, _, rfl, by rw [dec_kind]; exact h3⟩
end
section
variable {P : Program} {w : World} {K : PySem.W.Frag} {mg : Str → Option Value} {base : Heap} {CF fI CTok CW : Addr}
/-! ### number_within -/
abbrev sNumWithin : Stmt := top 63
abbrev nNumWithin : List Str := ["token", "least", "most"]
def spNumWithin (CF CTok : Addr) : Sp := fun vs H Q E => ∃ (pt : Addr) (t : PTok) (n lo hi : Nat), vs = [.ref pt, .int (lo : Nat), .int (hi : Nat)] ∧ TokAt CTok H pt t ∧ t.tok = .num n ∧ match numWithin t lo hi with
  | .ok n => Q (.int (n : Nat)) H
  | .error f => FltK CF E f H
theorem scNumWithin : FnScope nNumWithin ["token", "least", "most"] (defScope sNumWithin) := ⟨rfl, rfl, rfl, by decide +kernel, rfl, by decide +kernel, by decide +kernel⟩
theorem ok_number_within (TC : TokC K CTok) (T : FX.FaultTxt K mg CF fI) (GN : GInt mg "OUT_OF_RANGE" 7) (F : FunG K mg "number_within" sNumWithin) : Def P w K mg base (L2.CX P w) 3 "number_within" ["token", "least", "most"] (spNumWithin CF CTok) := by
  refine F.def (fun _ _ _ _ _ _ us hl => match us, hl with | [_, _, _], _ => rfl) fun f fd F => ?_
  have nd := scNumWithin.nd
  refine F.okX scNumWithin (fun vs H Q E h => ?_) (fun cdv A outer s H vs Q E hr h => ⟨_, pss_cons (ps_if (PW.pt (pw_or (pt_cmpR n_lt (pe_fld (pv 0) rfl) (pv 1) (nomark _)) (pw_or1 (pt_cmpR n_gt (pe_fld (pv 0) rfl) (pv 2) (nomark _)))))
      (pss_one (ps_raiseFault rfl T hr (takes_of rfl rfl rfl rfl) (by exact (pa_cons (gi GN) (pa_cons (pe_fld (pv 0) rfl) pa_nil))))) pss_nil)
    (pss_one (ps_ret (pe_fld (pv 0) rfl))), ?_⟩)
  · obtain ⟨pt, t, n, lo, hi, rfl, _⟩ := h
    rfl
  · obtain ⟨pt, t, n, lo, hi, rfl, ⟨dt, ht⟩, hn, k⟩ := h
    have hc : (tokF t).lookup ("content" : Str) = some (.int (n : Nat)) := by
      have := tokL_c (.str (kdS (kd t.tok))) (ctV t.tok) (.int (t.place : Nat))
      rw [hn] at this
      unfold tokF
      rw [hn]
      exact this
    have hnum : numTok t.tok = n := by rw [hn]; rfl
    unfold numWithin at k
    rw [hnum] at k
    refine ⟨_, rfl, pt, CTok, dt, _, _, rfl, ht, TC.cl, TC.nc, hc, _, rfl, n, lo, rfl, rfl, _, rfl, if_d (fun h1 => ?_) fun h1 => ?_⟩
    · rw [if_pos (.inl h1)] at k
      exact ⟨_, rfl, pt, CTok, dt, _, _, rfl, ht, TC.cl, TC.np, tokL_p _ _ _, _, _, rfl, fun d hd => k H d (Same.refl _) hd⟩
    · refine ⟨_, rfl, pt, CTok, dt, _, _, rfl, ht, TC.cl, TC.nc, hc, _, rfl, n, hi, rfl, rfl, _, rfl, if_d (fun h2 => ?_) fun h2 => ?_⟩
      · rw [if_pos (.inr h2)] at k
        exact ⟨_, rfl, pt, CTok, dt, _, _, rfl, ht, TC.cl, TC.np, tokL_p _ _ _, _, _, rfl, fun d hd => k H d (Same.refl _) hd⟩
      · rw [if_neg (by omega)] at k
        exact ⟨_, rfl, pt, CTok, dt, _, _, rfl, ht, TC.cl, TC.nc, hc, k⟩
/-! ### refuse_beyond -/
abbrev sRefuse : Stmt := top 65
abbrev nRefuse : List Str := ["told", "most", "token"]
def spRefuse (K : PySem.W.Frag) (CF CTok : Addr) : Sp := fun vs H Q E => ∃ (L pt : Addr) (xs : List V) (m : Nat) (t : PTok), vs = [.ref L, .int (m : Nat), .ref pt] ∧ SqL K H L xs ∧ TokAt CTok H pt t ∧ (xs.length = m → FltK CF E ⟨4, t.place⟩ H) ∧ (xs.length ≠ m → Q .non H)
theorem scRefuse : FnScope nRefuse ["told", "most", "token"] (defScope sRefuse) := ⟨rfl, rfl, rfl, by decide +kernel, rfl, by decide +kernel, by decide +kernel⟩
theorem ok_refuse (B : Bn mg) (TC : TokC K CTok) (T : FX.FaultTxt K mg CF fI) (GN : GInt mg "TOO_MANY" 4) (F : FunG K mg "refuse_beyond" sRefuse) : Def P w K mg base (L2.CX P w) 3 "refuse_beyond" ["told", "most", "token"] (spRefuse K CF CTok) := by
  refine F.def (fun _ _ _ _ _ _ us hl => match us, hl with | [_, _, _], _ => rfl) fun f fd F => ?_
  have nd := scRefuse.nd
  refine F.okX scRefuse (fun vs H Q E h => ?_) (fun cdv A outer s H vs Q E hr h => ⟨_, pss_one (ps_if (pt_cmpR n_eq (pe_callB n_len (by rfl) B.len PySem.boot_len (pa_cons (pv 0) pa_nil)) (pv 1) (nomark _))
      (pss_one (ps_raiseFault rfl T hr (takes_of rfl rfl rfl rfl) (by exact (pa_cons (gi GN) (pa_cons (pe_fld (pv 2) rfl) pa_nil))))) pss_nil), ?_⟩)
  · obtain ⟨L, pt, xs, m, t, rfl, _⟩ := h
    rfl
  · obtain ⟨L, pt, xs, m, t, rfl, hL, ⟨dt, ht⟩, k1, k2⟩ := h
    refine ⟨_, rfl, L, xs, rfl, .inl hL, _, rfl, xs.length, m, rfl, rfl, _, rfl, if_d (fun h1 => ?_) fun h1 => k2 h1⟩
    exact ⟨_, rfl, pt, CTok, dt, _, _, rfl, ht, TC.cl, TC.np, tokL_p _ _ _, _, _, rfl, fun d hd => k1 h1 H d (Same.refl _) hd⟩
/-! ### TokenWalk.take_number -/
abbrev sTakeNum : Stmt := inClass (top 62) 2
abbrev nTakeNum : List Str := ["self", "least", "most"]
def spTakeNum (CF CTok CW : Addr) : Sp := fun vs H Q E => ∃ (a L : Addr) (l : Toks) (lo hi : Nat), vs = [.ref a, .int (lo : Nat), .int (hi : Nat)] ∧ WalkAt CW CTok H a L l ∧ GoodL l ∧ match takeNum lo hi l with
  | .ok x => ∀ (H' : Hp), SameX a H H' → WalkAt CW CTok H' a L x.2 → GoodL x.2 → Q (.int (x.1 : Nat)) H'
  | .error f => FltX a CF E f H
theorem scTakeNum : FnScope nTakeNum ["self", "least", "most"] (defScope sTakeNum) := ⟨rfl, rfl, rfl, by decide +kernel, rfl, by decide +kernel, by decide +kernel⟩
theorem ok_take_number (WC : WalkC K CW) (G3 : GStr mg "NUMBER" (Str.ofString "number")) (D1 : MethOk P w K mg base (L2.CX P w) 3 CW "take" ["self", "kinds"] (spTake K CF CTok CW)) (D2 : Def P w K mg base (L2.CX P w) 3 "number_within" ["token", "least", "most"] (spNumWithin CF CTok))
    (F : FunM K CW "take_number" "TokenWalk.take_number" sTakeNum) : MethOk P w K mg base (L2.CX P w) 4 CW "take_number" ["self", "least", "most"] (spTakeNum CF CTok CW) := by
  refine F.def (fun _ _ _ _ _ _ us hl => match us, hl with | [_, _, _], _ => rfl) fun f fd F => ?_
  have nd := scTakeNum.nd
  refine F.okX scTakeNum (fun vs H Q E h => ?_) (fun cdv A outer s H vs Q E hr h => ⟨_, pss_one (ps_ret (cl D2 hr (passes_call (takes_of rfl rfl rfl rfl) (fun _ _ _ _ h => h)) (pa_cons (me1 (pv 0) WC.cl D1 hr (passes_call (takes_of rfl rfl rfl rfl) (fun _ _ _ _ h => h)) (pa_cons (pe_tup (pa_cons (gs G3) pa_nil)) pa_nil)) (pa_cons (pv 1) (pa_cons (pv 2) pa_nil))))), ?_⟩)
  · obtain ⟨a, L, l, lo, hi, rfl, _⟩ := h
    rfl
  · obtain ⟨a, L, l, lo, hi, rfl, hw, hg, k⟩ := h
    unfold takeNum at k
    refine take_read (ks := [.number]) (fun _ _ _ h => h) rfl hw hg.ne (by show 1 ≤ sizeLine; decide) (fun x ht H' pt s1 s2 s3 => ?_) fun f ht => ?_
    · rw [ht] at k
      obtain ⟨e1, e2⟩ := take_ok ht
      obtain ⟨n, hn⟩ := kd_number (by simpa using e2)
      have hg2 := hg.took ht (by decide)
      refine ⟨_, rfl, _, rfl, pt, x.1, n, lo, hi, rfl, s3, hn, ?_⟩
      have k : match (numWithin x.1 lo hi).map fun n => (n, x.2) with
        | .ok x => ∀ (H' : Hp), SameX a H H' → WalkAt CW CTok H' a L x.2 → GoodL x.2 → Q (.int (x.1 : Nat)) H'
        | .error f => FltX a CF E f H := k
      cases hw2 : numWithin x.1 lo hi with
      | ok n => rw [hw2] at k; exact k H' s1 s2 hg2
      | error f => rw [hw2] at k; exact FltX.k (FltX.mono s1 k)
    · rw [ht] at k
      exact k
end
end SR
set_option Elab.async false
set_option linter.all false
set_option maxRecDepth 100000
set_option maxHeartbeats 2000000
namespace SR
open PySem PySem.Spec PyProof.Rows L2
open VamvsBase (Bytes Toks PTok Fault isBlank isDigit isLetter RESERVED)
section
variable {K : PySem.W.Frag} {CF CTok CW : Addr}
/-- walk.take_number(lo, hi) -/
theorem num_read {i : Nat} {σ : L2.St} {H : Hp} {Q : VK} {E : XK} {a L : Addr} {l : Toks} {lo hi : Nat} (hs : σ[i]? = some (some (.ref a))) (hw : WalkAt CW CTok H a L l) (hg : GoodL l)
    (h1 : ∀ x, takeNum lo hi l = .ok x → ∀ (H' : Hp), SameX a H H' → WalkAt CW CTok H' a L x.2 → GoodL x.2 → Q (.int (x.1 : Nat)) H') (h2 : ∀ f, takeNum lo hi l = .error f → FltX a CF E f H) :
    tMeth CW "take_number" (spTakeNum CF CTok CW) [] E (tVar i) (tCons (tC (.int (lo : Nat))) (tCons (tC (.int (hi : Nat))) tNil)) σ H Q := by
  obtain ⟨dx, ps, ts, j, g1, g2, g3, g4, g5⟩ := hw.ex
  refine ⟨_, hs, a, dx, _, rfl, g1, walkF_num L j, a, L, l, lo, hi, rfl, hw, hg, ?_⟩
  cases ht : takeNum lo hi l with
  | ok x => exact fun H' s1 s2 s3 => h1 x ht H' s1 s2 s3
  | error f => exact h2 f ht
end
section
variable {P : Program} {w : World} {K : PySem.W.Frag} {mg : Str → Option Value} {base : Heap} {CF fI CTok CW : Addr}
/-! ### read_summed -/
abbrev sReadSummed : Stmt := top 68
abbrev nReadSummed : List Str := ["walk", "token"]
def spReadSummed (CF CTok CW : Addr) : Sp := fun vs H Q E => ∃ (a L : Addr) (l : Toks), vs = [.ref a] ∧ WalkAt CW CTok H a L l ∧ GoodL l ∧ match readSummed l with
  | .ok x => ∀ (H' : Hp), SameX a H H' → WalkAt CW CTok H' a L x.2 → GoodL x.2 → Q (.int x.1) H'
  | .error f => FltX a CF E f H
theorem scReadSummed : FnScope nReadSummed ["walk"] (defScope sReadSummed) := ⟨rfl, rfl, rfl, by decide +kernel, rfl, by decide +kernel, by decide +kernel⟩
theorem ok_read_summed (WC : WalkC K CW) (TC : TokC K CTok) (G3 : GStr mg "NUMBER" (Str.ofString "number")) (G4 : GInt mg "MOST_SUMMED" 1000) (D1 : MethOk P w K mg base (L2.CX P w) 3 CW "take" ["self", "kinds"] (spTake K CF CTok CW)) (D2 : Def P w K mg base (L2.CX P w) 3 "number_within" ["token", "least", "most"] (spNumWithin CF CTok))
    (D3 : MethOk P w K mg base (L2.CX P w) 4 CW "take_number" ["self", "least", "most"] (spTakeNum CF CTok CW)) (F : FunG K mg "read_summed" sReadSummed) : Def P w K mg base (L2.CX P w) 5 "read_summed" ["walk"] (spReadSummed CF CTok CW) := by
  refine F.def (fun _ _ _ _ _ _ us hl => match us, hl with | [_], _ => rfl) fun f fd F => ?_
  have nd := scReadSummed.nd
  refine F.okX scReadSummed (fun vs H Q E h => ?_) (fun cdv A outer s H vs Q E hr h => ⟨_, pss_cons (ps_set (i := 1) nd rfl (Or.inl rfl) (me1 (pv 0) WC.cl D1 (hr.mono (by decide)) (passes_call (takes_of rfl rfl rfl rfl) (fun _ _ _ _ h => h)) (pa_cons (pe_tup (pa_cons pe_str (pa_cons (gs G3) pa_nil))) pa_nil)))
    (pss_cons (ps_if (pt_kind (i := 1) (k := .minus) TC (pv 1) pe_str) (pss_one (ps_ret (pe_un un_neg (me1 (pv 0) WC.cl D3 hr (passes_call (takes_of rfl rfl rfl rfl) (fun _ _ _ _ h => h)) (pa_cons pe_int (pa_cons (gi G4) pa_nil)))))) pss_nil)
    (pss_one (ps_ret (cl D2 (hr.mono (by decide)) (passes_call (takes_of rfl rfl rfl rfl) (fun _ _ _ _ h => h)) (pa_cons (pv 1) (pa_cons pe_int (pa_cons (gi G4) pa_nil))))))), ?_⟩)
  · obtain ⟨a, L, l, rfl, _⟩ := h
    rfl
  · obtain ⟨a, L, l, rfl, hw, hg, k⟩ := h
    unfold readSummed at k
    refine take_read (ks := [.minus, .number]) (fun _ _ _ h => h) rfl hw hg.ne (by show 2 ≤ sizeLine; decide) (fun x ht H' pt s1 s2 s3 => ?_) fun f ht => ?_
    · rw [ht] at k
      obtain ⟨e1, e2⟩ := take_ok ht
      have hg2 := hg.took ht (by decide)
      have k : match (if kd x.1.tok = .minus then (takeNum 0 1000 x.2).map fun y => (-(y.1 : Int), y.2) else (numWithin x.1 0 1000).map fun n => ((n : Int), x.2)) with
        | .ok x => ∀ (H' : Hp), SameX a H H' → WalkAt CW CTok H' a L x.2 → GoodL x.2 → Q (.int x.1) H'
        | .error f => FltX a CF E f H := k
      refine ⟨pt, x.1, rfl, s3, if_d (fun h1 => ?_) fun h1 => ?_⟩
      · rw [if_pos h1] at k
        refine num_read (lo := 0) (hi := 1000) rfl s2 hg2 (fun y hy H2 t1 t2 t3 => ?_) fun f hy => ?_
        · rw [hy] at k
          exact ⟨_, rfl, k H2 (s1.trans t1) t2 t3⟩
        · rw [hy] at k
          exact FltX.mono s1 k
      · rw [if_neg h1] at k
        have hk : kd x.1.tok = .number := by
          simp only [List.mem_cons, List.not_mem_nil, or_false] at e2
          exact e2.resolve_left h1
        obtain ⟨n, hn⟩ := kd_number hk
        refine ⟨_, rfl, pt, x.1, n, 0, 1000, rfl, s3, hn, ?_⟩
        cases hw2 : numWithin x.1 0 1000 with
        | ok n => rw [hw2] at k; exact k H' s1 s2 hg2
        | error f => rw [hw2] at k; exact FltX.k (FltX.mono s1 k)
    · rw [ht] at k
      exact k
/-! ### read_row -/
abbrev sReadRow : Stmt := top 67
abbrev nReadRow : List Str := ["walk", "column_count", "numbers", "summed"]
def spReadRow (CF CTok CW : Addr) : Sp := fun vs H Q E => ∃ (a L : Addr) (l : Toks) (m : Nat), vs = [.ref a, .int ((m + 1 : Nat) : Int)] ∧ m ≤ 16 ∧ WalkAt CW CTok H a L l ∧ GoodL l ∧ match readRow m l with
  | .ok x => ∀ (H' : Hp) (p : Addr), SameX a H H' → WalkAt CW CTok H' a L x.2 → GoodL x.2 → RowAt H' p x.1 → H p = none → Q (.ref p) H'
  | .error f => FltX a CF E f H
theorem scReadRow : FnScope nReadRow ["walk", "column_count"] (defScope sReadRow) := ⟨rfl, rfl, rfl, by decide +kernel, rfl, by decide +kernel, by decide +kernel⟩
/-- len(numbers) < column_count -/
def tShort (K : PySem.W.Frag) (i j : Nat) : TT := fun σ H Q => ∃ (L : Addr) (xs : List V) (n : Nat), σ[i]? = some (some (.ref L)) ∧ σ[j]? = some (some (.int (n : Nat))) ∧ SqL K H L xs ∧ Q (decide (xs.length < n)) H
theorem tShort_mono {i j : Nat} : ∀ (σ : L2.St) (H : Hp) (Q Q' : Bool → Hp → Prop), (∀ b H1, Q b H1 → Q' b H1) → tShort K i j σ H Q → tShort K i j σ H Q' :=
  fun σ H Q Q' hQ ⟨L, xs, n, h1, h2, h3, h4⟩ => ⟨L, xs, n, h1, h2, h3, hQ _ _ h4⟩
theorem pt_short {X : Cx} {i j : Nat} {x y : Str} {p1 p2 p3 p4 p5 : Pos} (B : Bn X.mg) (hx : PE X (.Name x p1) (tVar i)) (hy : PE X (.Name y p2) (tVar j)) (hg : Gl X "len" := by rfl) (hs : starEach [Expr.Name x p1] X.env = [(false, eval (.Name x p1) X.env)] := by rfl) (hpl : (backTo p4 (starEach [] X.env)).any (·.1) = false := by rfl) :
    PT X (.Compare (.Call (.Name "len" p3) [.Name x p1] [] p4) [.Lt] [.Name y p2] p5) (tShort X.K i j) :=
  (pt_cmpR n_lt (pe_callB n_len hg B.len PySem.boot_len (pa_cons hx pa_nil hs)) hy (nomark _)).weak fun σ H Q ⟨L, xs, n, h1, h2, h3, h4⟩ => ⟨_, h1, L, xs, rfl, .inl h3, _, h2, xs.length, n, rfl, rfl, _, rfl, h4⟩
end
end SR
set_option Elab.async false
set_option linter.all false
set_option maxRecDepth 100000
set_option maxHeartbeats 2000000
namespace SR
open PySem PySem.Spec PyProof.Rows L2
open VamvsBase (Bytes Toks PTok Fault isBlank isDigit isLetter RESERVED)
theorem WalkAt.free {CW CTok : Addr} {H H' : Hp} {a L p : Addr} {l l' : Toks} (h : WalkAt CW CTok H a L l) (h' : WalkAt CW CTok H' a L l') (e : SameX a H H') (hp : H' p = none) : H p = none ∧ p ≠ a ∧ p ≠ L := by
  obtain ⟨dx, ps, ts, i, h1, h2, _⟩ := h'.ex
  obtain ⟨dx', ps', ts', i', g1, g2, _⟩ := h.ex
  have na : p ≠ a := fun z => by rw [z, h1] at hp; cases hp
  have nL : p ≠ L := fun z => by rw [z, h2] at hp; cases hp
  refine ⟨?_, na, nL⟩
  cases e2 : H p with
  | none => rfl
  | some o => rw [e p o na e2] at hp; cases hp
theorem WalkAt.store {CW CTok : Addr} {H : Hp} {a L q : Addr} {l : Toks} {xs : List V} {o : HO} (h : WalkAt CW CTok H a L l) (n1 : q ≠ a) (n2 : q ≠ L) (hq : H q = some (.lst xs)) : WalkAt CW CTok (upd H q o) a L l :=
  h.put n1 n2 fun t ⟨dx, ht⟩ => by rw [ht] at hq; cases hq
theorem bind_ok {α β : Type} {x : α} {f : α → Except Fault β} : (Except.ok x : Except Fault α).bind f = f x := rfl
theorem bind_err {α β : Type} {e : Fault} {f : α → Except Fault β} : (Except.error e : Except Fault α).bind f = .error e := rfl
theorem map_okk {α β : Type} {x : α} {f : α → β} : (Except.ok x : Except Fault α).map f = .ok (f x) := rfl
theorem map_err {α β : Type} {e : Fault} {f : α → β} : (Except.error e : Except Fault α).map f = .error e := rfl
section
variable {P : Program} {w : World} {K : PySem.W.Frag} {mg : Str → Option Value} {base : Heap} {CF fI CTok CW : Addr}
theorem ok_read_row (B : Bn mg) (WC : WalkC K CW) (TC : TokC K CTok) (GV : GInt mg "MOST_VALUE" 9) (D1 : MethOk P w K mg base (L2.CX P w) 3 CW "take" ["self", "kinds"] (spTake K CF CTok CW))
    (D3 : MethOk P w K mg base (L2.CX P w) 4 CW "take_number" ["self", "least", "most"] (spTakeNum CF CTok CW)) (D4 : Def P w K mg base (L2.CX P w) 5 "read_summed" ["walk"] (spReadSummed CF CTok CW))
    (F : FunG K mg "read_row" sReadRow) : Def P w K mg base (L2.CX P w) 6 "read_row" ["walk", "column_count"] (spReadRow CF CTok CW) := by
  refine F.def (fun _ _ _ _ _ _ us hl => match us, hl with | [_, _], _ => rfl) fun f fd F => ?_
  have nd := scReadRow.nd
  refine F.okX scReadRow (fun vs H Q E h => ?_) (fun cdv A outer s H vs Q E hr h => ⟨_, pss_cons (ps_set (i := 2) nd rfl (Or.inl rfl) (pe_lst (pa_cons (me1 (pv 0) WC.cl D3 (hr.mono (by decide)) (passes_call (takes_of rfl rfl rfl rfl) (fun _ _ _ _ h => h)) (pa_cons pe_int (pa_cons (gi GV) pa_nil))) pa_nil)))
    (pss_cons (ps_while (passes_of rfl) (pt_short (i := 2) (j := 1) B (pv 2) (pv 1))
      (pss_cons (ps_expr (me1 (pv 0) WC.cl D1 (hr.mono (by decide)) (passes_call (takes_of rfl rfl rfl rfl) (fun _ _ _ _ h => h)) (pa_cons (pe_tup (pa_cons pe_str pa_nil)) pa_nil)))
      (pss_one (ps_expr (pe_bm PySem.F.plainAttrs_list PySem.F.slot_list_append PySem.F.type_list_append mt_append (pv 2) (pa_cons (me1 (pv 0) WC.cl D3 (hr.mono (by decide)) (passes_call (takes_of rfl rfl rfl rfl) (fun _ _ _ _ h => h)) (pa_cons pe_int (pa_cons (gi GV) pa_nil))) pa_nil))))))
    (pss_cons (ps_expr (me1 (pv 0) WC.cl D1 (hr.mono (by decide)) (passes_call (takes_of rfl rfl rfl rfl) (fun _ _ _ _ h => h)) (pa_cons (pe_tup (pa_cons pe_str pa_nil)) pa_nil)))
    (pss_cons (ps_set (i := 3) nd rfl (Or.inl rfl) (cl D4 hr (passes_call (takes_of rfl rfl rfl rfl) (fun _ _ _ _ h => h)) (pa_cons (pv 0) pa_nil)))
    (pss_cons (ps_expr (me1 (pv 0) WC.cl D1 (hr.mono (by decide)) (passes_call (takes_of rfl rfl rfl rfl) (fun _ _ _ _ h => h)) (pa_cons (pe_tup (pa_cons pe_str pa_nil)) pa_nil)))
    (pss_one (ps_ret (pe_tup (pa_cons (pe_callTy call_tuple_of (by rfl) B.tuple (by decide +kernel) (pa_cons (pv 2) pa_nil)) (pa_cons (pv 3) pa_nil)))))))))
    , ?_⟩)
  · obtain ⟨a, L, l, m, rfl, _⟩ := h
    rfl
  · obtain ⟨a, L, l, m, rfl, hm, hw, hg, k⟩ := h
    unfold readRow at k
    refine num_read (lo := 0) (hi := 9) rfl hw hg (fun x hx H1 e1 w1 g1 => ?_) fun f hx => ?_
    · rw [hx, bind_ok] at k
      refine ⟨by show 1 ≤ sizeLine; decide, fun N hN => ?_⟩
      obtain ⟨hN0, nNa, nNL⟩ := hw.free w1 e1 hN
      have hN2 : SameX a H (upd H1 N (.lst [.int (x.1 : Nat)])) := e1.put hN0
      refine while_by (fun σ H' => ∃ (vs : List Nat) (l' : Toks), σ = [some (.ref a), some (.int ((m + 1 : Nat) : Int)), some (.ref N), none] ∧ SameX a H H' ∧ WalkAt CW CTok H' a L l' ∧ GoodL l' ∧ H' N = some (.lst (iv vs)) ∧ 1 ≤ vs.length ∧ vs.length ≤ m + 1 ∧
          (valsLoop m [x.1] x.2) = valsLoop (m + 1 - vs.length) vs l')
        (fun _ H' => match H' N with | some (.lst xs) => m + 1 - xs.length | _ => 0)
        ⟨[x.1], x.2, rfl, hN2, w1.same (Same.new hN), g1, upd_same, Nat.le_refl 1, by show 1 ≤ m + 1; omega, by show _ = valsLoop (m + 1 - 1) _ _; rfl⟩ ?_ tShort_mono
      rintro σ H2 ⟨vs, l', rfl, e2, w2, g2, hn2, hv1, hv2, hres⟩
      refine ⟨N, iv vs, m + 1, rfl, rfl, SqL.of hn2, ?_⟩
      rw [List.length_map]
      refine if_d (fun hlt => ?_) fun hlt => ?_
      · have hsub : m + 1 - vs.length = (m - vs.length) + 1 := by omega
        rw [hsub] at hres
        simp only [valsLoop] at hres
        rw [hres] at k
        refine take_read (ks := [.comma]) (fun _ _ _ h => h) rfl w2 g2.ne (by show 1 ≤ sizeLine; decide) (fun y hy H3 pt s1 s2 s3 => ?_) fun f hy => ?_
        · rw [hy, bind_ok] at k hres
          have g3 := g2.took hy (by decide)
          have hn3 : H3 N = some (.lst (iv vs)) := s1 _ _ nNa hn2
          refine ⟨_, rfl, .inl ⟨rfl, _, SqL.of hn3⟩, num_read (lo := 0) (hi := 9) rfl s2 g3 (fun z hz H4 t1 t2 t3 => ?_) fun f hz => ?_⟩
          · rw [hz, bind_ok] at k hres
            have hn4 : H4 N = some (.lst (iv vs)) := t1 _ _ nNa hn3
            have e4 := (e2.trans s1).trans t1
            refine ⟨N, _, _, rfl, rfl, hn4, by rw [List.length_map, line_eq]; omega, ⟨vs ++ [z.1], z.2, rfl, e4.put hN0, t2.store nNa nNL hn4, t3, by rw [upd_same, iv_snoc], by simp, by rw [List.length_append]; show vs.length + 1 ≤ _; omega, ?_⟩, ?_⟩
            · rw [hres, List.length_append]
              have : m + 1 - (vs.length + [z.1].length) = m - vs.length := by simp
              rw [this]
            · rw [upd_same, hn2]
              show m + 1 - (iv vs ++ [_]).length < m + 1 - (iv vs).length
              rw [List.length_append, List.length_map]
              show m + 1 - (vs.length + 1) < m + 1 - vs.length
              omega
          · rw [hz, bind_err, bind_err] at k
            exact FltX.mono (e2.trans s1) k
        · rw [hy, bind_err, bind_err] at k
          exact FltX.mono e2 k
      · have hvl : vs.length = m + 1 := by omega
        rw [hvl, Nat.sub_self] at hres
        have hres : valsLoop m [x.1] x.2 = .ok (vs, l') := hres
        rw [hres, bind_ok] at k
        refine take_read (ks := [.colon]) (fun _ _ _ h => h) rfl w2 g2.ne (by show 1 ≤ sizeLine; decide) (fun y hy H3 pt s1 s2 s3 => ?_) fun f hy => ?_
        · rw [hy, bind_ok] at k
          have g3 := g2.took hy (by decide)
          refine ⟨_, rfl, a, L, y.2, rfl, s2, g3, ?_⟩
          cases hz : readSummed y.2 with
          | error f =>
            rw [hz, bind_err] at k
            exact FltX.mono (e2.trans s1) k
          | ok z =>
            rw [hz, bind_ok] at k
            intro H4 t1 t2 t3
            refine take_read (ks := [.semi]) (fun _ _ _ h => h) rfl t2 t3.ne (by show 1 ≤ sizeLine; decide) (fun u hu H5 pt2 u1 u2 u3 => ?_) fun f hu => ?_
            · rw [hu] at k
              have g5 := t3.took hu (by decide)
              have hn5 : H5 N = some (.lst (iv vs)) := u1 _ _ nNa (t1 _ _ nNa (s1 _ _ nNa hn2))
              have e5 := ((e2.trans s1).trans t1).trans u1
              refine ⟨_, rfl, N, _, rfl, .inl ⟨SqL.of hn5, fun tp htp => ⟨_, rfl, by show 2 ≤ sizeLine; decide, fun p hp => ?_⟩⟩⟩
              have k : ∀ (H' : Hp) (p : Addr), SameX a H H' → WalkAt CW CTok H' a L u.2 → GoodL u.2 → RowAt H' p ⟨vs, z.1⟩ → H p = none → Q (.ref p) H' := k
              have sT : Same H5 (upd H5 tp (.tup (iv vs))) := Same.new htp
              have sP : Same H5 (upd (upd H5 tp (.tup (iv vs))) p (.tup [.ref tp, .int z.1])) := sT.put2 hp
              have hpn : H5 p = none := sT.free hp
              refine k _ p (e5.trans (SameX.of sP)) (u2.same sP) g5 ⟨tp, upd_same, ?_⟩ (hw.free u2 e5 hpn).1
              have htpp : tp ≠ p := fun z => by rw [← z, upd_same] at hp; cases hp
              rw [upd_ne htpp, upd_same]
            · rw [hu] at k
              exact FltX.mono ((e2.trans s1).trans t1) k
        · rw [hy, bind_err] at k
          exact FltX.mono e2 k
    · rw [hx, bind_err] at k
      exact k
end
end SR
set_option Elab.async false
set_option linter.all false
set_option maxRecDepth 100000
set_option maxHeartbeats 2000000
namespace SR
open PySem PySem.Spec PyProof.Rows L2
open VamvsBase (Bytes Toks PTok Fault isBlank isDigit isLetter RESERVED)
theorem while_m {c : TT} {tb : TS} {D : Ends} {σ : L2.St} {H : Hp} (Pv : Nat → L2.St → Hp → Prop) (m0 : Nat) (h0 : Pv m0 σ H)
    (hs : ∀ m σ H, Pv m σ H → c σ H fun b H1 => if b = true then tb { D with nx := fun σ' H' => ∃ m', m' < m ∧ Pv m' σ' H', ct := fun σ' H' => ∃ m', m' < m ∧ Pv m' σ' H', bk := D.nx } σ H1 else D.nx σ H1)
    (mono : ∀ σ H Q Q', (∀ b H1, Q b H1 → Q' b H1) → c σ H Q → c σ H Q') : tWhile c tb D σ H := by
  refine ⟨Pv, ⟨m0, h0⟩, fun m σ H p => ?_⟩
  refine mono σ H _ _ (fun b H1 q => ?_) (hs m σ H p)
  cases b with
  | true => exact ⟨_, fun σ' H' h => h, q⟩
  | false => exact q
theorem and_bit (g j : Nat) (hg : g < 16) (hj : j < 4) : (((g &&& (1 * 2 ^ j) : Nat) : Int) != 0) = decide (g / 2 ^ j % 2 = 1) := by
  have key : ∀ (g : Fin 16) (j : Fin 4), (((g.val &&& (1 * 2 ^ j.val) : Nat) : Int) != 0) = decide (g.val / 2 ^ j.val % 2 = 1) := by decide +kernel
  exact key ⟨g, hg⟩ ⟨j, hj⟩
theorem or_bit (g j : Nat) (hg : g < 16) (hj : j < 4) (h : ¬ g / 2 ^ j % 2 = 1) : g ||| 2 ^ j = g + 2 ^ j ∧ g + 2 ^ j < 16 := by
  have key : ∀ (g : Fin 16) (j : Fin 4), ¬ g.val / 2 ^ j.val % 2 = 1 → g.val ||| 2 ^ j.val = g.val + 2 ^ j.val ∧ g.val + 2 ^ j.val < 16 := by decide +kernel
  exact key ⟨g, hg⟩ ⟨j, hj⟩ h
/-- the names of the columns -/
abbrev nv (cs : List Bytes) : List V := cs.map fun b => V.str (tx b)
theorem in_names (b : Bytes) (cs : List Bytes) : inV (.str (tx b)) (nv cs) = decide (b ∈ cs) := by
  unfold inV
  rw [List.any_map, Bool.eq_iff_iff, List.any_eq_true, decide_eq_true_eq]
  constructor
  · rintro ⟨c, hc, h⟩
    have : tx c = tx b := by simpa [eqV] using h
    rw [← tx_inj this]
    exact hc
  · intro h
    exact ⟨b, h, by simp [eqV]⟩
theorem flat_names (cs : List Bytes) : (nv cs).all flatV = true := by
  rw [List.all_map, List.all_eq_true]
  intro k _
  rfl
section
variable {P : Program} {w : World} {K : PySem.W.Frag} {mg : Str → Option Value} {base : Heap} {CF fI CTok CW : Addr}
/-! ### asked_bit -/
abbrev sAskedBit : Stmt := top 70
abbrev nAskedBit : List Str := ["token", "columns", "grouping", "bit"]
def spAskedBit (K : PySem.W.Frag) (CF CTok : Addr) : Sp := fun vs H Q E => ∃ (pt c : Addr) (t : PTok) (b : Bytes) (cs : List Bytes) (g : Nat), vs = [.ref pt, .ref c, .int (g : Nat)] ∧ TokAt CTok H pt t ∧ t.tok = .name b ∧ SqL K H c (nv cs) ∧ cs.length ≤ 4 ∧ g < 16 ∧ match bitOf cs g t with
  | .ok n => Q (.int (n : Nat)) H
  | .error f => FltK CF E f H
theorem scAskedBit : FnScope nAskedBit ["token", "columns", "grouping"] (defScope sAskedBit) := ⟨rfl, rfl, rfl, by decide +kernel, rfl, by decide +kernel, by decide +kernel⟩
theorem ok_asked_bit (TC : TokC K CTok) (T : FX.FaultTxt K mg CF fI) (G1 : GInt mg "NO_COLUMN" 8) (G2 : GInt mg "ASKED_AGAIN" 6) (F : FunG K mg "asked_bit" sAskedBit) : Def P w K mg base (L2.CX P w) 3 "asked_bit" ["token", "columns", "grouping"] (spAskedBit K CF CTok) := by
  refine F.def (fun _ _ _ _ _ _ us hl => match us, hl with | [_, _, _], _ => rfl) fun f fd F => ?_
  have nd := scAskedBit.nd
  refine F.okX scAskedBit (fun vs H Q E h => ?_) (fun cdv A outer s H vs Q E hr h => ⟨_, pss_cons (ps_if (pt_cmpR op_notIn_seq (pe_fld (pv 0) rfl) (pv 1) rfl)
      (pss_one (ps_raiseFault rfl T hr (takes_of rfl rfl rfl rfl) (by exact (pa_cons (gi G1) (pa_cons (pe_fld (pv 0) rfl) pa_nil))))) pss_nil)
    (pss_cons (ps_set (i := 3) nd rfl (Or.inl rfl) (pe_op n_shl pe_int (pe_bm PySem.F.plainAttrs_list PySem.F.slot_list_index PySem.F.type_list_index mt_index (pv 1) (pa_cons (pe_fld (pv 0) rfl) pa_nil))))
    (pss_cons (ps_if (pt_truth (pe_op n_and (pv 2) (pv 3)) (by intro _; rfl))
      (pss_one (ps_raiseFault rfl T hr (takes_of rfl rfl rfl rfl) (by exact (pa_cons (gi G2) (pa_cons (pe_fld (pv 0) rfl) pa_nil))))) pss_nil)
    (pss_one (ps_ret (pv 3))))), ?_⟩)
  · obtain ⟨pt, c, t, b, cs, g, rfl, _⟩ := h
    rfl
  · obtain ⟨pt, c, t, b, cs, g, rfl, ⟨dt, ht⟩, hb, hc, hl, hg, k⟩ := h
    have hct : (tokF t).lookup ("content" : Str) = some (.str (tx b)) := by
      have := tokL_c (.str (kdS (kd t.tok))) (ctV t.tok) (.int (t.place : Nat))
      unfold tokF
      rw [hb] at this ⊢
      exact this
    have hnm : nameTok t.tok = b := by rw [hb]; rfl
    unfold bitOf at k
    rw [hnm] at k
    refine ⟨_, rfl, pt, CTok, dt, _, _, rfl, ht, TC.cl, TC.nc, hct, _, rfl, c, _, rfl, .inl hc, rfl, flat_names cs, _, rfl, ?_⟩
    rw [if_pos rfl, in_names]
    have hnot : (!decide (b ∈ cs)) = decide (¬ b ∈ cs) := by simp
    rw [hnot]
    refine if_d (fun hin => ?_) fun hin => ?_
    · have e : cs.findIdx? (fun c => c == b) = none := by
        rw [List.findIdx?_eq_none_iff]
        intro x hx
        exact beq_false_of_ne fun z => hin (z ▸ hx)
      rw [e] at k
      exact ⟨_, rfl, pt, CTok, dt, _, _, rfl, ht, TC.cl, TC.np, tokL_p _ _ _, _, _, rfl, fun d hd => k H d (Same.refl _) hd⟩
    · have hin : b ∈ cs := Classical.not_not.mp hin
      cases e : cs.findIdx? (fun c => c == b) with
      | none =>
        rw [List.findIdx?_eq_none_iff] at e
        have := e b hin
        simp at this
      | some j =>
        rw [e] at k
        obtain ⟨hjl, hj1, hj2⟩ := List.findIdx?_eq_some_iff_getElem.mp e
        have hj1 : cs[j] = b := by simpa using hj1
        refine ⟨_, rfl, .inl ⟨rfl, _, hc⟩, _, rfl, pt, CTok, dt, _, _, rfl, ht, TC.cl, TC.nc, hct, c, nv cs, _, j, .str (tx b), rfl, rfl, hc, rfl, flat_names cs, ?_, by simp [eqV], fun m z hm hz => ?_, 1, j, rfl, rfl, ⟨by decide, by omega⟩, ?_⟩
        · rw [List.getElem?_map, List.getElem?_eq_getElem hjl, hj1]
          rfl
        · rw [List.getElem?_map, List.getElem?_eq_getElem (by omega)] at hz
          cases hz
          have := hj2 m hm
          have hne : ¬ cs[m] = b := by simpa using this
          show (tx cs[m] == tx b) = false
          exact beq_false_of_ne fun z => hne (tx_inj z)
        · refine ⟨_, rfl, _, rfl, g, 1 * 2 ^ j, rfl, rfl, _, (and_bit g j hg (by omega)).symm, if_d (fun h1 => ?_) fun h1 => ?_⟩
          · have k : FltK CF E ⟨6, t.place⟩ H := by
              have k := k
              simp only [h1, if_true] at k
              exact k
            exact ⟨_, rfl, pt, CTok, dt, _, _, rfl, ht, TC.cl, TC.np, tokL_p _ _ _, _, _, rfl, fun d hd => k H d (Same.refl _) hd⟩
          · have k : Q (.int ((2 ^ j : Nat) : Int)) H := by
              have k := k
              simp only [h1, if_false] at k
              exact k
            exact ⟨_, rfl, by rw [Nat.one_mul]; exact k⟩
end
end SR
set_option Elab.async false
set_option linter.all false
set_option maxRecDepth 100000
set_option maxHeartbeats 2000000
namespace SR
open PySem PySem.Spec PyProof.Rows L2
open VamvsBase (Bytes Toks PTok Fault isBlank isDigit isLetter RESERVED)
section
variable {P : Program} {w : World} {K : PySem.W.Frag} {mg : Str → Option Value} {base : Heap} {CF fI CTok CW : Addr}
theorem WalkAt.seq {H H' : Hp} {a L p : Addr} {l : Toks} {xs : List V} (h : WalkAt CW CTok H a L l) (e : SameX a H H') (hs : SqL K H p xs) : SqL K H' p xs := by
  obtain ⟨dx, ps, ts, i, h1, _⟩ := h.ex
  exact e.seq h1 hs
/-! ### read_question -/
abbrev sReadAsk : Stmt := top 69
abbrev nReadAsk : List Str := ["walk", "columns", "grouping", "times", "token"]
def spReadAsk (K : PySem.W.Frag) (CF CTok CW : Addr) : Sp := fun vs H Q E => ∃ (a c L : Addr) (l : Toks) (cs : List Bytes), vs = [.ref a, .ref c] ∧ WalkAt CW CTok H a L l ∧ GoodL l ∧ SqL K H c (nv cs) ∧ cs.length ≤ 4 ∧ match readAsk cs l with
  | .ok x => ∀ (H' : Hp) (p : Addr), SameX a H H' → WalkAt CW CTok H' a L x.2 → GoodL x.2 → AskAt H' p x.1 → H p = none → Q (.ref p) H'
  | .error f => FltX a CF E f H
theorem scReadAsk : FnScope nReadAsk ["walk", "columns"] (defScope sReadAsk) := ⟨rfl, rfl, rfl, by decide +kernel, rfl, by decide +kernel, by decide +kernel⟩
theorem ok_read_question (WC : WalkC K CW) (TC : TokC K CTok) (GN : GStr mg "NAME" (Str.ofString "name")) (GT : GInt mg "MOST_TIMES" 99) (D1 : MethOk P w K mg base (L2.CX P w) 3 CW "take" ["self", "kinds"] (spTake K CF CTok CW))
    (D3 : MethOk P w K mg base (L2.CX P w) 4 CW "take_number" ["self", "least", "most"] (spTakeNum CF CTok CW)) (D5 : Def P w K mg base (L2.CX P w) 3 "asked_bit" ["token", "columns", "grouping"] (spAskedBit K CF CTok))
    (F : FunG K mg "read_question" sReadAsk) : Def P w K mg base (L2.CX P w) 5 "read_question" ["walk", "columns"] (spReadAsk K CF CTok CW) := by
  refine F.def (fun _ _ _ _ _ _ us hl => match us, hl with | [_, _], _ => rfl) fun f fd F => ?_
  have nd := scReadAsk.nd
  refine F.okX scReadAsk (fun vs H Q E h => ?_) (fun cdv A outer s H vs Q E hr h => ⟨_, pss_cons (ps_set (i := 2) nd rfl (Or.inl rfl) pe_int) (pss_cons (ps_set (i := 3) nd rfl (Or.inl rfl) pe_int)
    (pss_cons (ps_set (i := 4) nd rfl (Or.inl rfl) (me1 (pv 0) WC.cl D1 (hr.mono (by decide)) (passes_call (takes_of rfl rfl rfl rfl) (fun _ _ _ _ h => h)) (pa_cons (pe_tup (pa_cons (gs GN) (pa_cons pe_str (pa_cons pe_str pa_nil)))) pa_nil)))
    (pss_cons (ps_while (passes_of rfl) (pt_kind (i := 4) (k := .name) TC (pv 4) (gs GN))
      (pss_cons (ps_aug (i := 2) nd rfl (Or.inl rfl) (cl D5 (hr.mono (by decide)) (passes_call (takes_of rfl rfl rfl rfl) (fun _ _ _ _ h => h)) (pa_cons (pv 4) (pa_cons (pv 1) (pa_cons (pv 2) pa_nil)))) n_ior)
      (pss_cons (ps_set (i := 4) nd rfl (Or.inl rfl) (me1 (pv 0) WC.cl D1 (hr.mono (by decide)) (passes_call (takes_of rfl rfl rfl rfl) (fun _ _ _ _ h => h)) (pa_cons (pe_tup (pa_cons pe_str (pa_cons pe_str (pa_cons pe_str pa_nil)))) pa_nil)))
      (pss_one (ps_if (pt_kind (i := 4) (k := .comma) TC (pv 4) pe_str) (pss_one (ps_set (i := 4) nd rfl (Or.inl rfl) (me1 (pv 0) WC.cl D1 (hr.mono (by decide)) (passes_call (takes_of rfl rfl rfl rfl) (fun _ _ _ _ h => h)) (pa_cons (pe_tup (pa_cons (gs GN) pa_nil)) pa_nil)))) pss_nil)))))
    (pss_cons (ps_if (pt_kind (i := 4) (k := .times) TC (pv 4) pe_str)
      (pss_cons (ps_set (i := 3) nd rfl (Or.inl rfl) (me1 (pv 0) WC.cl D3 hr (passes_call (takes_of rfl rfl rfl rfl) (fun _ _ _ _ h => h)) (pa_cons pe_int (pa_cons (gi GT) pa_nil))))
        (pss_one (ps_expr (me1 (pv 0) WC.cl D1 (hr.mono (by decide)) (passes_call (takes_of rfl rfl rfl rfl) (fun _ _ _ _ h => h)) (pa_cons (pe_tup (pa_cons pe_str pa_nil)) pa_nil))))) pss_nil)
    (pss_one (ps_ret (pe_tup (pa_cons (pv 2) (pa_cons (pv 3) pa_nil))))))))), ?_⟩)
  · obtain ⟨a, c, L, l, cs, rfl, _⟩ := h
    rfl
  · obtain ⟨a, c, L, l, cs, rfl, hw, hg, hc, hl, k⟩ := h
    unfold readAsk at k
    refine take_read (ks := [.name, .times, .semi]) (fun _ _ _ h => h) rfl hw hg.ne (by show 3 ≤ sizeLine; decide) (fun x hx H1 pt e1 w1 t1 => ?_) fun f hx => ?_
    · rw [hx, bind_ok] at k
      have g1 := hg.took hx (by decide)
      obtain ⟨hlx, hkx⟩ := take_ok hx
      have hx2 : x.2.length < l.length + 2 := by rw [hlx, List.length_cons]; omega
      generalize hR : askLoop cs (l.length + 2) 0 x.1 x.2 = R at k
      refine while_m (fun m σ H' => ∃ (g n : Nat) (t : PTok) (l' : Toks) (pt : Addr), m = l'.length ∧ σ = [some (.ref a), some (.ref c), some (.int (g : Nat)), some (.int 1), some (.ref pt)] ∧ SameX a H H' ∧ WalkAt CW CTok H' a L l' ∧ GoodL l' ∧ TokAt CTok H' pt t ∧ g < 16 ∧
          l'.length < n ∧ R = askLoop cs n g t l') x.2.length ⟨0, l.length + 2, x.1, x.2, pt, rfl, rfl, e1, w1, g1, t1, by decide, hx2, hR.symm⟩ ?_ tKind_mono
      rintro m σ H2 ⟨g, n, t, l', pt2, rfl, rfl, e2, w2, g2, t2, hg16, hn, hres⟩
      cases n with
      | zero => exact absurd hn (Nat.not_lt_zero _)
      | succ n =>
        simp only [askLoop] at hres
        refine ⟨pt2, t, rfl, t2, if_d (fun hk => ?_) fun hk => ?_⟩
        · rw [if_pos hk] at hres
          obtain ⟨b, hb, _⟩ := kd_name hk
          have hc2 := hw.seq e2 hc
          refine ⟨_, rfl, _, rfl, _, rfl, _, rfl, pt2, c, t, b, cs, g, rfl, t2, hb, hc2, hl, hg16, ?_⟩
          cases hbit : bitOf cs g t with
          | error f =>
            rw [hbit, bind_err] at hres
            rw [hres, bind_err] at k
            exact FltX.k (FltX.mono e2 k)
          | ok bn =>
            rw [hbit, bind_ok] at hres
            have hgo : g ||| bn = g + bn ∧ g + bn < 16 := by
              unfold bitOf at hbit
              cases hf : cs.findIdx? (fun c => c == nameTok t.tok) with
              | none => rw [hf] at hbit; cases hbit
              | some j =>
                rw [hf] at hbit
                have hj := (List.findIdx?_eq_some_iff_getElem.mp hf).1
                by_cases hb1 : g / 2 ^ j % 2 = 1
                · simp only [hb1, if_true] at hbit
                  cases hbit
                · simp only [hb1, if_false] at hbit
                  cases hbit
                  exact or_bit g j hg16 (by omega) hb1
            refine ⟨g, bn, rfl, rfl, ?_⟩
            rw [hgo.1]
            refine take_read (ks := [.comma, .times, .semi]) (fun _ _ _ h => h) rfl w2 g2.ne (by show 3 ≤ sizeLine; decide) (fun y hy H3 pt3 s1 s2 s3 => ?_) fun f hy => ?_
            · rw [hy, bind_ok] at hres
              have g3 := g2.took hy (by decide)
              obtain ⟨hly, hky⟩ := take_ok hy
              have hlen : l'.length = y.2.length + 1 := by rw [hly]; rfl
              refine ⟨pt3, y.1, rfl, s3, if_d (fun hc1 => ?_) fun hc1 => ?_⟩
              · rw [if_pos hc1] at hres
                refine take_read (ks := [.name]) (fun _ _ _ h => h) rfl s2 g3.ne (by show 1 ≤ sizeLine; decide) (fun z hz H4 pt4 u1 u2 u3 => ?_) fun f hz => ?_
                · rw [hz, bind_ok] at hres
                  have g4 := g3.took hz (by decide)
                  obtain ⟨hlz, _⟩ := take_ok hz
                  have hlen2 : y.2.length = z.2.length + 1 := by
                    have := congrArg List.length hlz
                    simpa using this
                  exact ⟨z.2.length, by omega, g + bn, n, z.1, z.2, pt4, rfl, rfl, (e2.trans s1).trans u1, u2, g4, u3, hgo.2, by omega, hres⟩
                · rw [hz, bind_err] at hres
                  rw [hres, bind_err] at k
                  exact FltX.mono (e2.trans s1) k
              · rw [if_neg hc1] at hres
                exact ⟨y.2.length, by omega, g + bn, n, y.1, y.2, pt3, rfl, rfl, e2.trans s1, s2, g3, s3, hgo.2, by omega, hres⟩
            · rw [hy, bind_err] at hres
              rw [hres, bind_err] at k
              exact FltX.mono e2 k
        · rw [if_neg hk] at hres
          rw [hres, bind_ok] at k
          have k : match (if kd t.tok = .times then (takeNum 1 99 l').bind fun k => (take [.semi] k.2).map fun e => ((⟨g, k.1⟩ : Vamvsa.Ask), e.2) else .ok (⟨g, 1⟩, l')) with
            | .ok x => ∀ (H' : Hp) (p : Addr), SameX a H H' → WalkAt CW CTok H' a L x.2 → GoodL x.2 → AskAt H' p x.1 → H p = none → Q (.ref p) H'
            | .error f => FltX a CF E f H := k
          refine ⟨pt2, t, rfl, t2, if_d (fun hk2 => ?_) fun hk2 => ?_⟩
          · rw [if_pos hk2] at k
            refine num_read (lo := 1) (hi := 99) rfl w2 g2 (fun y hy H3 s1 s2 s3 => ?_) fun f hy => ?_
            · rw [hy, bind_ok] at k
              refine take_read (ks := [.semi]) (fun _ _ _ h => h) rfl s2 s3.ne (by show 1 ≤ sizeLine; decide) (fun z hz H4 pt4 u1 u2 u3 => ?_) fun f hz => ?_
              · rw [hz, map_okk] at k
                have g4 := s3.took hz (by decide)
                have e4 := (e2.trans s1).trans u1
                refine ⟨_, rfl, _, rfl, by show 2 ≤ sizeLine; decide, fun p hp => ?_⟩
                have sP : Same H4 (upd H4 p (.tup [.int (g : Nat), .int (y.1 : Nat)])) := Same.new hp
                exact k _ p (e4.trans (SameX.of sP)) (u2.same sP) g4 upd_same (hw.free u2 e4 hp).1
              · rw [hz, map_err] at k
                exact FltX.mono (e2.trans s1) k
            · rw [hy, bind_err] at k
              exact FltX.mono e2 k
          · rw [if_neg hk2] at k
            refine ⟨_, rfl, _, rfl, by show 2 ≤ sizeLine; decide, fun p hp => ?_⟩
            have sP : Same H2 (upd H2 p (.tup [.int (g : Nat), .int 1])) := Same.new hp
            exact k _ p (e2.trans (SameX.of sP)) (w2.same sP) g2 upd_same (hw.free w2 e2 hp).1
    · rw [hx, bind_err] at k
      exact k
end
end SR
set_option Elab.async false
set_option linter.all false
set_option maxRecDepth 100000
set_option maxHeartbeats 2000000
namespace SR
open PySem PySem.Spec PyProof.Rows L2
open VamvsBase (Bytes Toks PTok Fault isBlank isDigit isLetter RESERVED)
def tIsK (k : Kd) (i : Nat) : TT := fun σ H Q => ∃ k', σ[i]? = some (some (.str (kdS k'))) ∧ Q (decide (k' = k)) H
theorem tIsK_mono {k : Kd} {i : Nat} : ∀ (σ : L2.St) (H : Hp) (Q Q' : Bool → Hp → Prop), (∀ b H1, Q b H1 → Q' b H1) → tIsK k i σ H Q → tIsK k i σ H Q' :=
  fun σ H Q Q' hQ ⟨k', h1, h2⟩ => ⟨k', h1, hQ _ _ h2⟩
theorem pt_isK {X : Cx} {i : Nat} {k : Kd} {x : Str} {e : Expr} {p1 p3 : Pos} (hx : PE X (.Name x p1) (tVar i)) (he : PE X e (tC (.str (kdS k)))) (hm : behindInMarks .Eq e = false := by exact nomark _) : PT X (.Compare (.Name x p1) [.Eq] [e] p3) (tIsK k i) :=
  (pt_cmpR op_eq hx he hm).weak fun σ H Q ⟨k', h1, h2⟩ => ⟨_, h1, rfl, _, rfl, by rw [dec_kind]; exact h2⟩
section
variable {P : Program} {w : World} {K : PySem.W.Frag} {mg : Str → Option Value} {base : Heap} {CF fI CTok CW CT : Addr}
/-! ### read_columns -/
abbrev sReadCols : Stmt := top 66
abbrev nReadCols : List Str := ["walk", "columns", "sign", "token"]
def spReadCols (CF CTok CW : Addr) : Sp := fun vs H Q E => ∃ (a L : Addr) (l : Toks), vs = [.ref a] ∧ WalkAt CW CTok H a L l ∧ GoodL l ∧ match readCols l with
  | .ok x => ∀ (H' : Hp) (c : Addr), SameX a H H' → WalkAt CW CTok H' a L x.2 → GoodL x.2 → H' c = some (.lst (nv x.1)) → H c = none → c ≠ L → c ≠ a → Q (.ref c) H'
  | .error f => FltX a CF E f H
theorem scReadCols : FnScope nReadCols ["walk"] (defScope sReadCols) := ⟨rfl, rfl, rfl, by decide +kernel, rfl, by decide +kernel, by decide +kernel⟩
theorem ok_read_columns (WC : WalkC K CW) (TC : TokC K CTok) (T : FX.FaultTxt K mg CF fI) (GN : GStr mg "NAME" (Str.ofString "name")) (G1 : GInt mg "MOST_COLUMNS" 4) (G2 : GInt mg "COLUMN_AGAIN" 5)
    (D1 : MethOk P w K mg base (L2.CX P w) 3 CW "take" ["self", "kinds"] (spTake K CF CTok CW)) (D6 : Def P w K mg base (L2.CX P w) 3 "refuse_beyond" ["told", "most", "token"] (spRefuse K CF CTok))
    (F : FunG K mg "read_columns" sReadCols) : Def P w K mg base (L2.CX P w) 4 "read_columns" ["walk"] (spReadCols CF CTok CW) := by
  refine F.def (fun _ _ _ _ _ _ us hl => match us, hl with | [_], _ => rfl) fun f fd F => ?_
  have nd := scReadCols.nd
  refine F.okX scReadCols (fun vs H Q E h => ?_) (fun cdv A outer s H vs Q E hr h => ⟨_, pss_cons (ps_expr (me1 (pv 0) WC.cl D1 hr (passes_call (takes_of rfl rfl rfl rfl) (fun _ _ _ _ h => h)) (pa_cons (pe_tup (pa_cons pe_str pa_nil)) pa_nil)))
    (pss_cons (ps_set (i := 1) nd rfl (Or.inl rfl) (pe_lst pa_nil)) (pss_cons (ps_set (i := 2) nd rfl (Or.inl rfl) pe_str)
    (pss_cons (ps_while (passes_of rfl) (pt_isK (i := 2) (k := .comma) (pv 2) pe_str)
      (pss_cons (ps_set (i := 3) nd rfl (Or.inl rfl) (me1 (pv 0) WC.cl D1 hr (passes_call (takes_of rfl rfl rfl rfl) (fun _ _ _ _ h => h)) (pa_cons (pe_tup (pa_cons (gs GN) pa_nil)) pa_nil)))
      (pss_cons (ps_expr (cl D6 hr (passes_call (takes_of rfl rfl rfl rfl) (fun _ _ _ _ h => h)) (pa_cons (pv 1) (pa_cons (gi G1) (pa_cons (pv 3) pa_nil)))))
      (pss_cons (ps_if (pt_cmpR op_in_seq (pe_fld (pv 3) rfl) (pv 1) rfl) (pss_one (ps_raiseFault rfl T hr (takes_of rfl rfl rfl rfl) (by exact (pa_cons (gi G2) (pa_cons (pe_fld (pv 3) rfl) pa_nil))))) pss_nil)
      (pss_cons (ps_expr (pe_bm PySem.F.plainAttrs_list PySem.F.slot_list_append PySem.F.type_list_append mt_append (pv 1) (pa_cons (pe_fld (pv 3) rfl) pa_nil)))
      (pss_one (ps_set (i := 2) nd rfl (Or.inl rfl) (pe_fld (me1 (pv 0) WC.cl D1 hr (passes_call (takes_of rfl rfl rfl rfl) (fun _ _ _ _ h => h)) (pa_cons (pe_tup (pa_cons pe_str (pa_cons pe_str pa_nil))) pa_nil)) rfl)))))))
    ) (pss_one (ps_ret (pv 1)))))), ?_⟩)
  · obtain ⟨a, L, l, rfl, _⟩ := h
    rfl
  · obtain ⟨a, L, l, rfl, hw, hg, k⟩ := h
    unfold readCols at k
    refine take_read (ks := [.columns]) (fun _ _ _ h => h) rfl hw hg.ne (by show 1 ≤ sizeLine; decide) (fun x hx H1 pt e1 w1 t1 => ?_) fun f hx => ?_
    · rw [hx, bind_ok] at k
      have g1 := hg.took hx (by decide)
      refine ⟨by decide, fun c hc => ?_⟩
      obtain ⟨hc0, nca, ncL⟩ := hw.free w1 e1 hc
      generalize hR : colsLoop (x.2.length + 1) [] x.2 = R at k
      refine while_m (fun m σ H' => ∃ (cs : List Bytes) (n : Nat) (k' : Kd) (l' : Toks) (x3 : Option V), m = l'.length ∧ σ = [some (.ref a), some (.ref c), some (.str (kdS k')), x3] ∧ SameX a H H' ∧ WalkAt CW CTok H' a L l' ∧ GoodL l' ∧ H' c = some (.lst (nv cs)) ∧ cs.length ≤ 4 ∧
          l'.length < n ∧ R = if k' = .comma then colsLoop n cs l' else .ok (cs, l')) x.2.length
        ⟨[], x.2.length + 1, .comma, x.2, none, rfl, rfl, e1.put hc0, w1.same (Same.new hc), g1, upd_same, Nat.zero_le _, Nat.lt_succ_self _, by rw [if_pos rfl]; exact hR.symm⟩ ?_ tIsK_mono
      rintro m σ H2 ⟨cs, n, k', l', x3, rfl, rfl, e2, w2, g2, hc2, hcs, hn, hres⟩
      refine ⟨k', rfl, if_d (fun hk => ?_) fun hk => ?_⟩
      · rw [if_pos hk] at hres
        cases n with
        | zero => exact absurd hn (Nat.not_lt_zero _)
        | succ n =>
          rw [colsLoop] at hres
          refine take_read (ks := [.name]) (fun _ _ _ h => h) rfl w2 g2.ne (by show 1 ≤ sizeLine; decide) (fun y hy H3 pt3 s1 s2 s3 => ?_) fun f hy => ?_
          · rw [hy, bind_ok] at hres
            have g3 := g2.took hy (by decide)
            obtain ⟨hly, hky⟩ := take_ok hy
            obtain ⟨b, hb, _⟩ := kd_name (by simpa using hky)
            have hnm : nameTok y.1.tok = b := by rw [hb]; rfl
            rw [hnm] at hres
            have e3 := e2.trans s1
            have hc3 : H3 c = some (.lst (nv cs)) := s1 _ _ nca hc2
            obtain ⟨dt, ht⟩ := s3
            have hct : (tokF y.1).lookup ("content" : Str) = some (.str (tx b)) := by
              have := tokL_c (.str (kdS (kd y.1.tok))) (ctV y.1.tok) (.int (y.1.place : Nat))
              unfold tokF
              rw [hb] at this ⊢
              exact this
            refine ⟨_, rfl, _, rfl, c, pt3, nv cs, 4, y.1, rfl, SqL.of hc3, ⟨dt, ht⟩, fun h4 => ?_, fun h4 => ?_⟩
            · rw [List.length_map] at h4
              rw [if_pos h4] at hres
              rw [hres] at k
              exact FltX.k (FltX.mono e3 k)
            · rw [List.length_map] at h4
              rw [if_neg h4] at hres
              refine ⟨_, rfl, pt3, CTok, dt, _, _, rfl, ht, TC.cl, TC.nc, hct, _, rfl, c, _, rfl, .inl (SqL.of hc3), rfl, flat_names cs, _, rfl, ?_⟩
              rw [if_neg Bool.false_ne_true, in_names]
              refine if_d (fun hin => ?_) fun hin => ?_
              · rw [if_pos hin] at hres
                rw [hres] at k
                exact ⟨_, rfl, pt3, CTok, dt, _, _, rfl, ht, TC.cl, TC.np, tokL_p _ _ _, _, _, rfl, fun d hd => (FltX.mono e3 k) H3 d (SameX.refl _ _) hd⟩
              · rw [if_neg hin] at hres
                refine ⟨_, rfl, .inl ⟨rfl, _, SqL.of hc3⟩, _, rfl, pt3, CTok, dt, _, _, rfl, ht, TC.cl, TC.nc, hct, c, _, _, rfl, rfl, hc3, by rw [List.length_map, line_eq]; omega, ?_⟩
                have hst : H3 c = some (.lst (nv cs)) := hc3
                have w4 := s2.store (o := .lst (nv cs ++ [.str (tx b)])) nca ncL hc3
                have e4 : SameX a H (upd H3 c (.lst (nv cs ++ [.str (tx b)]))) := e3.put hc0
                refine take_read (ks := [.comma, .semi]) (fun _ _ _ h => h) rfl w4 g3.ne (by show 2 ≤ sizeLine; decide) (fun z hz H5 pt5 u1 u2 u3 => ?_) fun f hz => ?_
                · rw [hz, bind_ok] at hres
                  have g5 := g3.took hz (by decide)
                  obtain ⟨hlz, hkz⟩ := take_ok hz
                  obtain ⟨dz, hz5⟩ := u3
                  have hl1 : l'.length = y.2.length + 1 := by rw [hly]; rfl
                  have hl2 : y.2.length = z.2.length + 1 := by
                    have := congrArg List.length hlz
                    simpa using this
                  refine ⟨pt5, CTok, dz, _, _, rfl, hz5, TC.cl, TC.nk, tokL_k _ _ _, z.2.length, by omega, cs ++ [b], n, kd z.1.tok, z.2, _, rfl, rfl, e4.trans u1, u2, g5, ?_, by rw [List.length_append]; show cs.length + 1 ≤ 4; omega, by omega, hres⟩
                  rw [u1 _ _ nca upd_same]
                  show some (HO.lst (cs.map (fun b => V.str (tx b)) ++ [.str (tx b)])) = some (HO.lst ((cs ++ [b]).map fun b => V.str (tx b)))
                  rw [List.map_append]
                  rfl
                · rw [hz, bind_err] at hres
                  rw [hres] at k
                  exact FltX.mono e4 k
          · rw [hy, bind_err] at hres
            rw [hres] at k
            exact FltX.mono e2 k
      · rw [if_neg hk] at hres
        rw [hres] at k
        exact ⟨_, rfl, k H2 c e2 w2 g2 hc2 hc0 ncL nca⟩
    · rw [hx, bind_err] at k
      exact k
end
end SR
set_option Elab.async false
set_option linter.all false
set_option maxRecDepth 100000
set_option maxHeartbeats 2000000
namespace SR
open PySem PySem.Spec PyProof.Rows L2
open VamvsBase (Bytes Toks PTok Fault isBlank isDigit isLetter RESERVED)
/-- all but what stands at G -/
def Off (G : Addr) (H : Hp) : Hp := fun b => if b = G then none else H b
theorem off_of {G b : Addr} {H : Hp} {o : HO} (h : Off G H b = some o) : H b = some o ∧ b ≠ G := by
  unfold Off at h
  by_cases e : b = G
  · rw [if_pos e] at h; cases h
  · rw [if_neg e] at h; exact ⟨h, e⟩
theorem off_at {G b : Addr} {H : Hp} {o : HO} (h : H b = some o) (hb : b ≠ G) : Off G H b = some o := by
  unfold Off
  rw [if_neg hb]
  exact h
theorem off_same {G : Addr} {H : Hp} : Same (Off G H) H := fun b o h => (off_of h).1
theorem _root_.L2.Same.off {G : Addr} {H H' : Hp} (e : Same H H') : Same (Off G H) (Off G H') := fun b o h => off_at (e b o (off_of h).1) (off_of h).2
theorem SameX.off {a G : Addr} {H H' : Hp} (e : SameX a H H') : SameX a (Off G H) (Off G H') := fun b o hb h => off_at (e b o hb (off_of h).1) (off_of h).2
theorem readCols_len {l : Toks} {x : List Bytes × Toks} (h : readCols l = .ok x) : 1 ≤ x.1.length ∧ x.1.length ≤ 4 := by
  unfold readCols at h
  cases e : take [.columns] l with
  | error f => rw [e] at h; cases h
  | ok y =>
    rw [e] at h
    obtain ⟨h1, h2, _⟩ := colsLoop_ok _ _ _ _ (show colsLoop (y.2.length + 1) [] y.2 = .ok x from h)
    exact ⟨h2, h1 (Nat.zero_le _)⟩
theorem RowAt.store {H : Hp} {q p : Addr} {xs : List V} {o : HO} {r : Vamvsa.Row} (hq : H q = some (.lst xs)) (h : RowAt H p r) : RowAt (upd H q o) p r := by
  obtain ⟨tp, h1, h2⟩ := h
  exact ⟨tp, by rw [upd_ne (fun z => by rw [z, hq] at h1; cases h1)]; exact h1, by rw [upd_ne (fun z => by rw [z, hq] at h2; cases h2)]; exact h2⟩
theorem AskAt.store {H : Hp} {q p : Addr} {xs : List V} {o : HO} {r : Vamvsa.Ask} (hq : H q = some (.lst xs)) (h : AskAt H p r) : AskAt (upd H q o) p r := by
  unfold AskAt at h ⊢
  rw [upd_ne (fun z => by rw [z, hq] at h; cases h)]
  exact h
theorem RowAt.sameX {H H' : Hp} {a C dx p : Addr} {fs : List (Str × V)} {r : Vamvsa.Row} (e : SameX a H H') (ha : H a = some (.ins C dx fs)) (h : RowAt H p r) : RowAt H' p r := by
  obtain ⟨tp, h1, h2⟩ := h
  exact ⟨tp, e.tup ha h1, e.tup ha h2⟩
theorem AskAt.sameX {H H' : Hp} {a C dx p : Addr} {fs : List (Str × V)} {r : Vamvsa.Ask} (e : SameX a H H') (ha : H a = some (.ins C dx fs)) (h : AskAt H p r) : AskAt H' p r := e.tup ha h
theorem AllAt.map {α : Type} {A A' : Hp → Addr → α → Prop} {H H' : Hp} {ps : List Addr} {l : List α} (h : AllAt A H ps l) (k : ∀ p x, A H p x → A' H' p x) : AllAt A' H' ps l := ⟨h.len, fun i p x h1 h2 => k p x (h.at_ i p x h1 h2)⟩
def tKindN (CTok : Addr) (k : Kd) (i : Nat) : TT := fun σ H Q => ∃ (pt : Addr) (t : PTok), σ[i]? = some (some (.ref pt)) ∧ TokAt CTok H pt t ∧ Q (decide (¬ kd t.tok = k)) H
theorem tKindN_mono {CTok : Addr} {k : Kd} {i : Nat} : ∀ (σ : L2.St) (H : Hp) (Q Q' : Bool → Hp → Prop), (∀ b H1, Q b H1 → Q' b H1) → tKindN CTok k i σ H Q → tKindN CTok k i σ H Q' :=
  fun σ H Q Q' hQ ⟨p, t, h1, h2, h3⟩ => ⟨p, t, h1, h2, hQ _ _ h3⟩
theorem pt_kindN {X : Cx} {CTok : Addr} (TC : TokC X.K CTok) {i : Nat} {k : Kd} {x : Str} {e : Expr} {p1 p2 p3 : Pos} (hx : PE X (.Name x p1) (tVar i)) (he : PE X e (tC (.str (kdS k)))) (hm : behindInMarks .NotEq e = false := by exact nomark _)
    (hb : attributeBase (.Name x p1) "kind" X.env (eval (.Name x p1) X.env) = eval (.Name x p1) X.env := by rfl) : PT X (.Compare (.Attribute (.Name x p1) "kind" p2) [.NotEq] [e] p3) (tKindN CTok k i) :=
  (pt_cmpR op_ne (pe_fld hx hb) he hm).weak fun σ H Q ⟨pt, t, h1, ⟨dt, h2⟩, h3⟩ => ⟨_, h1, pt, CTok, dt, _, _, rfl, h2, TC.cl, TC.nk, tokL_k _ _ _, rfl, _, rfl, by
    have e : (!decide (V.str (kdS (kd t.tok)) = V.str (kdS k))) = decide (¬ kd t.tok = k) := by rw [dec_kind]; simp
    rw [e]
    exact h3⟩
def tb1 (c : Addr) : List (Str × V) := [("columns", .ref c)]
def tb2 (c r : Addr) : List (Str × V) := [("columns", .ref c), ("rows", .ref r)]
theorem tb1_put (c : Addr) : putF "columns" (.ref c) [] = tb1 c := rfl
theorem tb2_put (c r : Addr) : putF "rows" (.ref r) (tb1 c) = tb2 c r := (put_past (by decide +kernel)).trans rfl
theorem tabF_put (c r q : Addr) : putF "questions" (.ref q) (tb2 c r) = tabF c r q := (put_past (by decide +kernel)).trans (congrArg _ ((put_past (by decide +kernel)).trans rfl))
section
variable {P : Program} {w : World} {K : PySem.W.Frag} {mg : Str → Option Value} {base : Heap} {CF fI CTok CW CT : Addr}
/-! ### Table.__init__ -/
abbrev sTabInit : Stmt := inClass (top 61) 0
abbrev nTabInit : List Str := ["self", "columns"]
def spTabInit (CT : Addr) : Sp := fun vs H Q _ => ∃ (p dx c : Addr) (H0 : Hp), vs = [.ref p, .ref c] ∧ H = upd (upd H0 dx (.own p)) p (.ins CT dx []) ∧ H0 p = none ∧ H0 dx = none ∧ dx ≠ p ∧
  ∀ (H' : Hp) (r q : Addr), Same H0 H' → H' p = some (.ins CT dx (tabF c r q)) → H' r = some (.lst []) → H' q = some (.lst []) → H0 r = none → H0 q = none → r ≠ q → Q .non H'
theorem scTabInit : FnScope nTabInit ["self", "columns"] (defScope sTabInit) := ⟨rfl, rfl, rfl, by decide +kernel, rfl, by decide +kernel, by decide +kernel⟩
theorem ok_tab_init (TC : TabC K CT) (F : FunI K mg CT "Table" "Table.__init__" sTabInit) : MakeOk P w K mg base 1 "Table" CT ["self", "columns"] (spTabInit CT) := by
  refine F.def (fun _ _ _ _ _ _ us hl => match us, hl with | [_, _], _ => rfl) fun f fd F => ?_
  have nd := scTabInit.nd
  refine F.ok scTabInit (fun vs H Q E h => ?_) (fun cdv A outer s H vs Q E hr h => ⟨_, pss_cons (ps_fld (pv 0) (pv 1) rfl) (pss_cons (ps_fld (pv 0) (pe_lst pa_nil) rfl) (pss_one (ps_fld (pv 0) (pe_lst pa_nil) rfl))), ?_⟩)
  · obtain ⟨p, dx, c, H0, rfl, _⟩ := h
    rfl
  · obtain ⟨p, dx, c, H0, rfl, rfl, hp, hd, hne, hk⟩ := h
    have e0 : Same H0 (upd (upd H0 dx (.own p)) p (.ins CT dx [])) := (Same.new hd).put hp
    refine ⟨_, rfl, _, rfl, p, CT, dx, [], rfl, upd_same, TC.cl, TC.nc, by show 0 < 1000; decide, ?_⟩
    rw [tb1_put]
    have e1 := e0.put (o := .ins CT dx (tb1 c)) hp
    refine ⟨by decide, fun r hr' => ?_⟩
    have hrp : r ≠ p := fun z => by rw [z, upd_same] at hr'; cases hr'
    have hr0 : H0 r = none := e1.free hr'
    have e2 := e1.put (o := .lst []) hr0
    refine ⟨_, rfl, p, CT, dx, _, rfl, by rw [upd_ne (Ne.symm hrp), upd_same], TC.cl, TC.nr, by show 1 < 1000; decide, ?_⟩
    rw [tb2_put]
    have e3 := e2.put (o := .ins CT dx (tb2 c r)) hp
    refine ⟨by decide, fun q hq' => ?_⟩
    have hqp : q ≠ p := fun z => by rw [z, upd_same] at hq'; cases hq'
    have hrq : r ≠ q := fun z => by rw [← z, upd_ne hrp, upd_same] at hq'; cases hq'
    have hq0 : H0 q = none := e3.free hq'
    have e4 := e3.put (o := .lst []) hq0
    refine ⟨_, rfl, p, CT, dx, _, rfl, by rw [upd_ne (Ne.symm hqp), upd_same], TC.cl, TC.nq, by show 2 < 1000; decide, ?_⟩
    rw [tabF_put]
    exact hk _ r q (e4.put hp) upd_same (by rw [upd_ne hrp, upd_ne hrq, upd_ne hrp, upd_same]) (by rw [upd_ne hqp, upd_same]) hr0 hq0 hrq
end
end SR
set_option Elab.async false
set_option linter.all false
set_option maxRecDepth 100000
set_option maxHeartbeats 2000000
namespace SR
open PySem PySem.Spec PyProof.Rows L2
open VamvsBase (Bytes Toks PTok Fault isBlank isDigit isLetter RESERVED)
theorem GoodL.tookL {ks : List Kd} {l : Toks} {x : PTok × Toks} (h : GoodL l) (e : take ks l = .ok x) : kd x.1.tok ≠ .last → GoodL x.2 := fun hk => by
  obtain ⟨e1, e2⟩ := take_ok e
  rw [e1] at h
  exact h.tail hk
theorem TokAt.store {CTok : Addr} {H : Hp} {q p : Addr} {xs : List V} {o : HO} {t : PTok} (hq : H q = some (.lst xs)) (h : TokAt CTok H p t) : TokAt CTok (upd H q o) p t := by
  obtain ⟨dx, h⟩ := h
  exact ⟨dx, by rw [upd_ne (fun z => by rw [z, hq] at h; cases h)]; exact h⟩
section
variable {P : Program} {w : World} {K : PySem.W.Frag} {mg : Str → Option Value} {base : Heap} {CF fI CTok CW CT : Addr}
/-! ### read_table -/
abbrev sReadTable : Stmt := top 64
abbrev nReadTable : List Str := ["text", "walk", "table", "token"]
def spReadTable (K : PySem.W.Frag) (CF CT : Addr) : Sp := fun vs H Q E => ∃ (p : Addr) (b : Bytes), vs = [.ref p] ∧ SqL K H p (bv b) ∧ match readM b with
  | .ok t => ∀ (H' : Hp) (ta : Addr), Same H H' → TblAt CT H' ta t → (∀ G xs, H G = some (.lst xs) → TblAt CT (Off G H') ta t) → H ta = none → Q (.ref ta) H'
  | .error f => FltK CF E f H
theorem scReadTable : FnScope nReadTable ["text"] (defScope sReadTable) := ⟨rfl, rfl, rfl, by decide +kernel, rfl, by decide +kernel, by decide +kernel⟩
/-- the table as it grows: r its rows' list, q its questions' -/
structure Grow (CT : Addr) (H : Hp) (ta c r q dx : Addr) (tb : Vamvsa.Table) : Prop where
  o : H ta = some (.ins CT dx (tabF c r q))
  c : H c = some (.lst (nv tb.cols))
  rows : ∃ rs : List Addr, H r = some (.lst (rs.map V.ref)) ∧ AllAt RowAt H rs tb.rows
  asks : ∃ qs : List Addr, H q = some (.lst (qs.map V.ref)) ∧ AllAt AskAt H qs tb.asks
theorem Grow.x {H H' : Hp} {ta c r q dx a C da : Addr} {fs : List (Str × V)} {tb : Vamvsa.Table} (g : Grow CT H ta c r q dx tb) (e : SameX a H H') (ha : H a = some (.ins C da fs)) (hne : ta ≠ a) : Grow CT H' ta c r q dx tb := by
  obtain ⟨rs, h1, h2⟩ := g.rows
  obtain ⟨qs, h3, h4⟩ := g.asks
  exact ⟨e _ _ hne g.o, e.lst ha g.c, ⟨rs, e.lst ha h1, h2.map fun p x h => h.sameX e ha⟩, ⟨qs, e.lst ha h3, h4.map fun p x h => h.sameX e ha⟩⟩
theorem ok_read_table (B : Bn mg) (WC : WalkC K CW) (TC : TokC K CTok) (TBC : TabC K CT) (T : FX.FaultTxt K mg CF fI) (GE : GStr mg "END" (Str.ofString "end")) (G1 : GInt mg "MOST_BYTES" 4096) (G2 : GInt mg "TOO_LONG" 1) (G3 : GInt mg "MOST_ROWS" 16) (G4 : GInt mg "MOST_QUESTIONS" 8)
    (D0 : Def P w K mg base (L2.CX P w) 5 "tokens_of" ["text"] (spTokensOf K CF CTok)) (DW : MakeOk P w K mg base 1 "TokenWalk" CW ["self", "tokens"] (spWalkInit CW CTok)) (DT : MakeOk P w K mg base 1 "Table" CT ["self", "columns"] (spTabInit CT))
    (D1 : MethOk P w K mg base (L2.CX P w) 3 CW "take" ["self", "kinds"] (spTake K CF CTok CW)) (D2 : Def P w K mg base (L2.CX P w) 4 "read_columns" ["walk"] (spReadCols CF CTok CW)) (D3 : Def P w K mg base (L2.CX P w) 6 "read_row" ["walk", "column_count"] (spReadRow CF CTok CW))
    (D4 : Def P w K mg base (L2.CX P w) 5 "read_question" ["walk", "columns"] (spReadAsk K CF CTok CW)) (D6 : Def P w K mg base (L2.CX P w) 3 "refuse_beyond" ["told", "most", "token"] (spRefuse K CF CTok))
    (F : FunG K mg "read_table" sReadTable) : Def P w K mg base (L2.CX P w) 7 "read_table" ["text"] (spReadTable K CF CT) := by
  refine F.def (fun _ _ _ _ _ _ us hl => match us, hl with | [_], _ => rfl) fun f fd F => ?_
  have nd := scReadTable.nd
  refine F.okX scReadTable (fun vs H Q E h => ?_) (fun cdv A outer s H vs Q E hr h => ⟨_, pss_cons (ps_if (pt_cmpR n_gt (pe_callB n_len (by rfl) B.len PySem.boot_len (pa_cons (pv 0) pa_nil)) (gi G1) (nomark _))
        (pss_one (ps_raiseFault rfl T hr (takes_of rfl rfl rfl rfl) (by exact (pa_cons (gi G2) (pa_cons (gi G1) pa_nil))))) pss_nil)
    (pss_cons (ps_set (i := 1) nd rfl (Or.inl rfl) (mk1 DW (hr.mono (by decide)) (pa_cons (cl D0 (hr.mono (by decide)) (passes_call (takes_of rfl rfl rfl rfl) (fun _ _ _ _ h => h)) (pa_cons (pv 0) pa_nil)) pa_nil)))
    (pss_cons (ps_set (i := 2) nd rfl (Or.inl rfl) (mk1 DT (hr.mono (by decide)) (pa_cons (cl D2 (hr.mono (by decide)) (passes_call (takes_of rfl rfl rfl rfl) (fun _ _ _ _ h => h)) (pa_cons (pv 1) pa_nil)) pa_nil)))
    (pss_cons (ps_set (i := 3) nd rfl (Or.inl rfl) (me1 (pv 1) WC.cl D1 (hr.mono (by decide)) (passes_call (takes_of rfl rfl rfl rfl) (fun _ _ _ _ h => h)) (pa_cons (pe_tup (pa_cons pe_str (pa_cons pe_str (pa_cons (gs GE) pa_nil)))) pa_nil)))
    (pss_cons (ps_while (passes_of rfl) (pt_kindN (i := 3) (k := .last) TC (pv 3) (gs GE))
      (pss_cons (ps_if (pt_kind (i := 3) (k := .row) TC (pv 3) pe_str)
          (pss_cons (ps_expr (cl D6 (hr.mono (by decide)) (passes_call (takes_of rfl rfl rfl rfl) (fun _ _ _ _ h => h)) (pa_cons (pe_fld (pv 2) rfl) (pa_cons (gi G3) (pa_cons (pv 3) pa_nil)))))
          (pss_one (ps_expr (pe_bm PySem.F.plainAttrs_list PySem.F.slot_list_append PySem.F.type_list_append mt_append (pe_fld (pv 2) rfl) (pa_cons (cl D3 hr (passes_call (takes_of rfl rfl rfl rfl) (fun _ _ _ _ h => h)) (pa_cons (pv 1) (pa_cons (pe_callB n_len (by rfl) B.len PySem.boot_len (pa_cons (pe_fld (pv 2) rfl) pa_nil)) pa_nil))) pa_nil)))))
          (pss_cons (ps_expr (cl D6 (hr.mono (by decide)) (passes_call (takes_of rfl rfl rfl rfl) (fun _ _ _ _ h => h)) (pa_cons (pe_fld (pv 2) rfl) (pa_cons (gi G4) (pa_cons (pv 3) pa_nil)))))
          (pss_one (ps_expr (pe_bm PySem.F.plainAttrs_list PySem.F.slot_list_append PySem.F.type_list_append mt_append (pe_fld (pv 2) rfl) (pa_cons (cl D4 (hr.mono (by decide)) (passes_call (takes_of rfl rfl rfl rfl) (fun _ _ _ _ h => h)) (pa_cons (pv 1) (pa_cons (pe_fld (pv 2) rfl) pa_nil))) pa_nil))))))
      (pss_one (ps_set (i := 3) nd rfl (Or.inl rfl) (me1 (pv 1) WC.cl D1 (hr.mono (by decide)) (passes_call (takes_of rfl rfl rfl rfl) (fun _ _ _ _ h => h)) (pa_cons (pe_tup (pa_cons pe_str (pa_cons pe_str (pa_cons (gs GE) pa_nil)))) pa_nil))))))
    (pss_one (ps_ret (pv 2))))))), ?_⟩)
  · obtain ⟨p, b, rfl, _⟩ := h
    rfl
  · obtain ⟨p, b, rfl, hS, k⟩ := h
    unfold readM at k
    refine ⟨_, rfl, p, _, rfl, .inl hS, (bv b).length, 4096, rfl, rfl, _, rfl, ?_⟩
    rw [List.length_map]
    refine if_d (fun hlong => ?_) fun hlong => ?_
    · rw [if_pos hlong] at k
      exact ⟨_, _, rfl, fun d hd => k H d (Same.refl _) hd⟩
    · rw [if_neg hlong] at k
      refine ⟨_, rfl, p, b, rfl, hS, by omega, ?_⟩
      cases hlex : lexM 0 b with
      | error f =>
        rw [hlex, bind_err] at k
        exact k
      | ok ts =>
        rw [hlex, bind_ok] at k
        intro H1 Lt ps e1 hL1 hA1 hts
        have hgood : GoodL ts := by
          obtain ⟨us, q, h1, h2⟩ := lexM_last b.length b 0 ts (Nat.le_refl _) hlex
          exact ⟨us, q, h1, h2⟩
        refine fun a dxa ha0 hdxa hne => ⟨a, dxa, Lt, ps, ts, H1, rfl, rfl, ha0, hdxa, hne, hL1, hA1, hts, fun H2 e2 w2 => ⟨rfl, ?_⟩⟩
        have haH : H a = none := e1.free ha0
        have hLa : Lt ≠ a := fun z => by rw [z, ha0] at hL1; cases hL1
        have e12 := e1.trans e2
        unfold readToks at k
        refine ⟨_, rfl, a, Lt, ts, rfl, w2, hgood, ?_⟩
        cases hcols : readCols ts with
        | error f =>
          rw [hcols, bind_err] at k
          intro H' d s hd
          refine k H' d ?_ hd
          exact ((SameX.of e12).trans s).same haH
        | ok x =>
          rw [hcols, bind_ok] at k
          obtain ⟨hc1, hc4⟩ := readCols_len hcols
          intro H3 c e3 w3 g3 hc3 hc2 hcL hca
          have x3 : SameX a H H3 := (SameX.of e12).trans e3
          refine fun ta dxt hta0 hdxt hnet => ⟨ta, dxt, c, H3, rfl, rfl, hta0, hdxt, hnet, fun H4 r q e4 ho4 hr4 hq4 hr0 hq0 hrq => ⟨rfl, ?_⟩⟩
          have x4 : SameX a H H4 := x3.trans (SameX.of e4)
          have w4 := w3.same e4
          have hc4' := e4 _ _ hc3
          have hcr : c ≠ r := fun z => by rw [← z, hc3] at hr0; cases hr0
          have hcq : c ≠ q := fun z => by rw [← z, hc3] at hq0; cases hq0
          obtain ⟨hrH, hra, hrL⟩ := w2.free w3 e3 hr0
          obtain ⟨hqH, hqa, hqL⟩ := w2.free w3 e3 hq0
          obtain ⟨htH, htaa, htaL⟩ := w2.free w3 e3 hta0
          have hcH := e12.free hc2
          have hrH := e12.free hrH
          have hqH := e12.free hqH
          have htH := e12.free htH
          have gr0 : Grow CT H4 ta c r q dxt ⟨x.1, [], []⟩ := ⟨ho4, hc4', ⟨[], hr4, AllAt.nil'⟩, ⟨[], hq4, AllAt.nil'⟩⟩
          have toE : ∀ {f : Fault} {H5 : Hp}, SameX a H H5 → FltK CF E f H → FltX a CF E f H5 := fun s5 h H' d s hd => h H' d ((s5.trans s).same haH) hd
          refine take_read (ks := [.row, .ask, .last]) (fun _ _ _ h => h) rfl w4 g3.ne (by show 3 ≤ sizeLine; decide) (fun y hy H5 pt s1 s2 s3 => ?_) fun f hy => ?_
          · rw [hy, bind_ok] at k
            obtain ⟨da, fsa, hins⟩ := w4.ins
            obtain ⟨hly, _⟩ := take_ok hy
            have hlen5 : y.2.length < x.2.length + 1 := by rw [hly, List.length_cons]; omega
            generalize hR : linesLoop (x.2.length + 1) ⟨x.1, [], []⟩ y.1 y.2 = R at k
            refine while_m (fun m σ H' => ∃ (tb : Vamvsa.Table) (n : Nat) (t : PTok) (l' : Toks) (pt : Addr), m = l'.length ∧ σ = [some (.ref p), some (.ref a), some (.ref ta), some (.ref pt)] ∧ SameX a H H' ∧ WalkAt CW CTok H' a Lt l' ∧ (kd t.tok ≠ .last → GoodL l') ∧ TokAt CTok H' pt t ∧
                Grow CT H' ta c r q dxt tb ∧ tb.cols = x.1 ∧ tb.rows.length ≤ 16 ∧ tb.asks.length ≤ 8 ∧ l'.length < n ∧ R = linesLoop n tb t l') y.2.length
              ⟨⟨x.1, [], []⟩, _, y.1, y.2, pt, rfl, rfl, x4.trans s1, s2, g3.tookL hy, s3, gr0.x s1 hins htaa, rfl, Nat.zero_le _, Nat.zero_le _, hlen5, hR.symm⟩ ?_ tKindN_mono
            rintro m σ H6 ⟨tb, n, t, l', pt6, rfl, rfl, e6, w6, g6, t6, gr6, htc, hrl, hal, hn, hres⟩
            obtain ⟨da6, fs6, hins6⟩ := w6.ins
            refine ⟨pt6, t, rfl, t6, if_d (fun hk => ?_) fun hk => ?_⟩
            · cases n with
              | zero => exact absurd hn (Nat.not_lt_zero _)
              | succ n =>
                rw [linesLoop, if_neg hk] at hres
                have g6 := g6 hk
                obtain ⟨rs, hr6, hA6⟩ := gr6.rows
                obtain ⟨qs, hq6, hB6⟩ := gr6.asks
                refine ⟨pt6, t, rfl, t6, if_d (fun hrow => ?_) fun hrow => ?_⟩
                · rw [if_pos hrow] at hres
                  refine ⟨_, rfl, ta, CT, dxt, _, _, rfl, gr6.o, TBC.cl, TBC.nr, tabF_r c r q, _, rfl, r, pt6, _, 16, t, rfl, SqL.of hr6, t6, fun h16 => ?_, fun h16 => ?_⟩
                  · rw [List.length_map, hA6.len] at h16
                    rw [if_pos h16] at hres
                    rw [hres] at k
                    exact FltX.k (toE e6 k)
                  · rw [List.length_map, hA6.len] at h16
                    rw [if_neg h16] at hres
                    refine ⟨_, rfl, ta, CT, dxt, _, _, rfl, gr6.o, TBC.cl, TBC.nr, tabF_r c r q, .inl ⟨rfl, _, SqL.of hr6⟩, _, rfl, _, rfl, ta, CT, dxt, _, _, rfl, gr6.o, TBC.cl, TBC.nc, tabF_c c r q, c, _, rfl, .inl (SqL.of gr6.c), a, Lt, l', tb.cols.length - 1, ?_, by rw [htc]; omega, w6, g6, ?_⟩
                    · rw [List.length_map, htc]
                      have : x.1.length = x.1.length - 1 + 1 := by omega
                      rw [← this]
                      rfl
                    · cases hrr : readRow (tb.cols.length - 1) l' with
                      | error f =>
                        rw [hrr, bind_err] at hres
                        rw [hres] at k
                        exact toE e6 k
                      | ok z =>
                        rw [hrr, bind_ok] at hres
                        intro H7 pr e7 w7 g7 hrow7 hpr
                        have gr7 := gr6.x e7 hins6 htaa
                        have hr7 : H7 r = some (.lst (rs.map V.ref)) := e7.lst hins6 hr6
                        have hA7 : AllAt RowAt H7 rs tb.rows := hA6.map fun p x h => h.sameX e7 hins6
                        refine ⟨r, _, _, rfl, rfl, hr7, by rw [List.length_map, hA6.len, line_eq]; omega, ?_⟩
                        have x8 : SameX a H (upd H7 r (.lst (rs.map V.ref ++ [.ref pr]))) := (e6.trans e7).put hrH
                        have w8 := w7.store (o := .lst (rs.map V.ref ++ [.ref pr])) hra hrL hr7
                        have htar : ta ≠ r := fun z => by have := gr7.o; rw [z, hr7] at this; cases this
                        obtain ⟨qs7, hq7, hB7⟩ := gr7.asks
                        have gr8 : Grow CT (upd H7 r (.lst (rs.map V.ref ++ [.ref pr]))) ta c r q dxt { tb with rows := tb.rows ++ [z.1] } :=
                          ⟨by rw [upd_ne htar]; exact gr7.o, by rw [upd_ne hcr]; exact gr7.c, ⟨rs ++ [pr], by rw [upd_same, List.map_append]; rfl, (hA7.push hrow7).map fun p x h => h.store hr7⟩,
                           ⟨qs7, by rw [upd_ne (Ne.symm hrq)]; exact hq7, hB7.map fun p x h => h.store hr7⟩⟩
                        obtain ⟨hz1, hz2, _⟩ := readRow_ok hrr
                        refine take_read (ks := [.row, .ask, .last]) (fun _ _ _ h => h) rfl w8 g7.ne (by show 3 ≤ sizeLine; decide) (fun u hu H9 pt9 u1 u2 u3 => ?_) fun f hu => ?_
                        · rw [hu, bind_ok] at hres
                          obtain ⟨hlu, _⟩ := take_ok hu
                          have hlu : z.2.length = u.2.length + 1 := by rw [hlu]; rfl
                          obtain ⟨da8, fs8, hins8⟩ := w8.ins
                          exact ⟨u.2.length, by omega, _, n, u.1, u.2, pt9, rfl, rfl, x8.trans u1, u2, g7.tookL hu, u3, gr8.x u1 hins8 htaa, htc, by show (tb.rows ++ [z.1]).length ≤ 16; rw [List.length_append]; show tb.rows.length + 1 ≤ 16; omega, hal, by omega, hres⟩
                        · rw [hu, bind_err] at hres
                          rw [hres] at k
                          exact toE x8 k
                · rw [if_neg hrow] at hres
                  refine ⟨_, rfl, ta, CT, dxt, _, _, rfl, gr6.o, TBC.cl, TBC.nq, tabF_q c r q, _, rfl, q, pt6, _, 8, t, rfl, SqL.of hq6, t6, fun h16 => ?_, fun h16 => ?_⟩
                  · rw [List.length_map, hB6.len] at h16
                    rw [if_pos h16] at hres
                    rw [hres] at k
                    exact FltX.k (toE e6 k)
                  · rw [List.length_map, hB6.len] at h16
                    rw [if_neg h16] at hres
                    refine ⟨_, rfl, ta, CT, dxt, _, _, rfl, gr6.o, TBC.cl, TBC.nq, tabF_q c r q, .inl ⟨rfl, _, SqL.of hq6⟩, _, rfl, _, rfl, ta, CT, dxt, _, _, rfl, gr6.o, TBC.cl, TBC.nc, tabF_c c r q, a, c, Lt, l', tb.cols, rfl, w6, g6, SqL.of gr6.c, by rw [htc]; exact hc4, ?_⟩
                    cases hrr : readAsk tb.cols l' with
                    | error f =>
                      rw [hrr, bind_err] at hres
                      rw [hres] at k
                      exact toE e6 k
                    | ok z =>
                      rw [hrr, bind_ok] at hres
                      intro H7 pr e7 w7 g7 hrow7 hpr
                      have gr7 := gr6.x e7 hins6 htaa
                      have hq7 : H7 q = some (.lst (qs.map V.ref)) := e7.lst hins6 hq6
                      have hB7 : AllAt AskAt H7 qs tb.asks := hB6.map fun p x h => h.sameX e7 hins6
                      refine ⟨q, _, _, rfl, rfl, hq7, by rw [List.length_map, hB6.len, line_eq]; omega, ?_⟩
                      have x8 : SameX a H (upd H7 q (.lst (qs.map V.ref ++ [.ref pr]))) := (e6.trans e7).put hqH
                      have w8 := w7.store (o := .lst (qs.map V.ref ++ [.ref pr])) hqa hqL hq7
                      have htaq : ta ≠ q := fun z => by have := gr7.o; rw [z, hq7] at this; cases this
                      obtain ⟨rs7, hr7, hA7⟩ := gr7.rows
                      have gr8 : Grow CT (upd H7 q (.lst (qs.map V.ref ++ [.ref pr]))) ta c r q dxt { tb with asks := tb.asks ++ [z.1] } :=
                        ⟨by rw [upd_ne htaq]; exact gr7.o, by rw [upd_ne hcq]; exact gr7.c, ⟨rs7, by rw [upd_ne hrq]; exact hr7, hA7.map fun p x h => h.store hq7⟩,
                         ⟨qs ++ [pr], by rw [upd_same, List.map_append]; rfl, (hB7.push hrow7).map fun p x h => h.store hq7⟩⟩
                      obtain ⟨hz1, hz2, _⟩ := readAsk_ok hrr
                      refine take_read (ks := [.row, .ask, .last]) (fun _ _ _ h => h) rfl w8 g7.ne (by show 3 ≤ sizeLine; decide) (fun u hu H9 pt9 u1 u2 u3 => ?_) fun f hu => ?_
                      · rw [hu, bind_ok] at hres
                        obtain ⟨hlu, _⟩ := take_ok hu
                        have hlu : z.2.length = u.2.length + 1 := by rw [hlu]; rfl
                        obtain ⟨da8, fs8, hins8⟩ := w8.ins
                        exact ⟨u.2.length, by omega, _, n, u.1, u.2, pt9, rfl, rfl, x8.trans u1, u2, g7.tookL hu, u3, gr8.x u1 hins8 htaa, htc, hrl, by show (tb.asks ++ [z.1]).length ≤ 8; rw [List.length_append]; show tb.asks.length + 1 ≤ 8; omega, by omega, hres⟩
                      · rw [hu, bind_err] at hres
                        rw [hres] at k
                        exact toE x8 k
            · have hk : kd t.tok = .last := Classical.not_not.mp hk
              cases n with
              | zero => exact absurd hn (Nat.not_lt_zero _)
              | succ n =>
                rw [linesLoop, if_pos hk] at hres
                rw [hres] at k
                obtain ⟨rs, hr6, hA6⟩ := gr6.rows
                obtain ⟨qs, hq6, hB6⟩ := gr6.asks
                have s6 := e6.same haH
                refine ⟨_, rfl, k H6 ta s6 ⟨dxt, c, r, q, rs, qs, gr6.o, gr6.c, hr6, hq6, hA6, hB6⟩ (fun G xs hG => ?_) htH⟩
                have hG6 := s6 _ _ hG
                have nt : ta ≠ G := fun z => by rw [← z, htH] at hG; cases hG
                have nc : c ≠ G := fun z => by rw [← z, hcH] at hG; cases hG
                have nr : r ≠ G := fun z => by rw [← z, hrH] at hG; cases hG
                have nq : q ≠ G := fun z => by rw [← z, hqH] at hG; cases hG
                have tupG : ∀ (p : Addr) (ys : List V), H6 p = some (.tup ys) → p ≠ G := fun p ys hp z => by rw [z, hG6] at hp; cases hp
                exact ⟨dxt, c, r, q, rs, qs, off_at gr6.o nt, off_at gr6.c nc, off_at hr6 nr, off_at hq6 nq, hA6.map fun p x ⟨tp, h1, h2⟩ => ⟨tp, off_at h1 (tupG _ _ h1), off_at h2 (tupG _ _ h2)⟩, hB6.map fun p x h1 => off_at h1 (tupG _ _ h1)⟩
          · rw [hy, bind_err] at k
            exact toE x4 k
end
end SR
set_option Elab.async false
set_option linter.all false
set_option maxRecDepth 100000
set_option maxHeartbeats 2000000
/-! The one form as the program writes it. -/
namespace SR
open PySem PySem.Spec PyProof.Rows L2
open VamvsBase (Bytes word joined showNat showInt)
theorem tx_app (a b : Bytes) : tx a ++ tx b = tx (a ++ b) := by
  show SX.S (a.map (·.toNat)) ++ SX.S (b.map (·.toNat)) = SX.S ((a ++ b).map (·.toNat))
  rw [SX.S_cat, List.map_append]
theorem joinL_tx (sep : Bytes) : ∀ l : List Bytes, TL.joinL (sep.map (·.toNat)) (l.map fun b => b.map (·.toNat)) = (joined sep l).map (·.toNat)
  | [] => rfl
  | [x] => rfl
  | x :: y :: r => by
    show x.map (·.toNat) ++ (sep.map (·.toNat) ++ TL.joinL (sep.map (·.toNat)) ((y :: r).map fun b => b.map (·.toNat))) = (x ++ sep ++ joined sep (y :: r)).map (·.toNat)
    rw [joinL_tx sep (y :: r), List.map_append, List.map_append, List.append_assoc]
theorem join_tx (sep : Bytes) (l : List Bytes) : Txt.join (tx sep) (l.map tx) = tx (joined sep l) := by
  have e : l.map tx = (l.map fun b => b.map (·.toNat)).map SX.S := by
    rw [List.map_map]
    rfl
  show Txt.join (SX.S (sep.map (·.toNat))) _ = SX.S _
  rw [e, SX.join_S, joinL_tx]
theorem dig_toNat {c : Char} (h : c.toNat < 256) : (UInt8.ofNat c.toNat).toNat = c.toNat := by
  rw [UInt8.toNat_ofNat']
  exact Nat.mod_eq_of_lt h
theorem num_tx (n : Nat) : Str.ofString (toString ((n : Nat) : Int)) = tx (showNat n) := by
  rw [SX.num_S]
  show SX.S (TL.numL n) = SX.S ((showNat n).map (·.toNat))
  congr 1
  unfold TL.numL showNat
  rw [List.map_map]
  refine List.map_congr_left fun c hc => ?_
  have hd := TL.numL_digits n c.toNat (by unfold TL.numL; exact List.mem_map_of_mem hc)
  show c.toNat = (UInt8.ofNat c.toNat).toNat
  rw [dig_toNat (by omega)]
theorem int_tx2 (i : Int) : Str.ofString (toString i) = tx (showInt i) := by
  unfold showInt
  by_cases h : i < 0
  · rw [if_pos h]
    obtain ⟨n, rfl⟩ : ∃ n : Nat, i = Int.negSucc n := by
      cases i with
      | ofNat n => exact absurd h (by simp)
      | negSucc n => exact ⟨n, rfl⟩
    have e : toString (Int.negSucc n) = "-" ++ toString ((n + 1 : Nat) : Int) := rfl
    have e2 : (Int.negSucc n).natAbs = n + 1 := rfl
    rw [e, e2]
    have e3 : Str.ofString ("-" ++ toString ((n + 1 : Nat) : Int)) = Str.ofString "-" ++ Str.ofString (toString ((n + 1 : Nat) : Int)) := by
      rw [Str.ofString_eq_toList, Str.ofString_eq_toList, Str.ofString_eq_toList, String.toList_append, List.map_append]
      exact (SX.S_cat _ _).symm
    rw [e3, num_tx]
    have e4 : Str.ofString "-" = tx [45] := by decide +kernel
    rw [e4, tx_app]
    rfl
  · rw [if_neg h]
    obtain ⟨n, rfl⟩ : ∃ n : Nat, i = (n : Int) := ⟨i.toNat, by omega⟩
    exact num_tx n
/-- the form's line of a row, of a question; the whole -/
def rowB (r : Vamvsa.Row) : Bytes := word "row " ++ joined (word ", ") (r.vs.map showNat) ++ word " : " ++ showInt r.m ++ word " ;\n"
def askB (cs : List Bytes) (a : Vamvsa.Ask) : Bytes :=
  word "ask " ++ (if 0 < a.g then joined (word ", ") ((Vamvsa.columnsOf cs.length a.g).map fun i => cs.getD i []) ++ word " " else []) ++ (if 1 < a.k then word "times " ++ showNat a.k ++ word " " else []) ++ word ";\n"
def formB (t : Vamvsa.Table) : List Bytes := [word "columns " ++ joined (word ", ") t.cols ++ word " ;\n"] ++ t.rows.map rowB ++ t.asks.map (askB t.cols)
theorem w_end : word " ;\n" = word " ;" ++ [10] := by decide +kernel
theorem rowB_eq (r : Vamvsa.Row) : rowB r = Vamvsa.showRow r := by
  unfold rowB Vamvsa.showRow Vamvsa.line Vamvsa.commas
  rw [w_end]
  simp only [List.append_assoc]
theorem askB_eq (cs : List Bytes) (a : Vamvsa.Ask) (hk : 1 ≤ a.k) : askB cs a = Vamvsa.showAsk cs a := by
  unfold askB Vamvsa.showAsk Vamvsa.line Vamvsa.commas
  have e1 : word "ask " = word "ask" ++ word " " := by decide +kernel
  have e2 : word ";\n" = word ";" ++ [10] := by decide +kernel
  have e3 : word " times " = word " " ++ word "times " := by decide +kernel
  have e4 : word " ;" = word " " ++ word ";" := by decide +kernel
  rw [e1, e2, e3, e4]
  by_cases hg : a.g = 0
  · by_cases h1 : a.k = 1
    · rw [if_neg (by rw [hg]; decide), if_neg (by rw [h1]; decide), if_pos hg, if_pos h1]
      simp only [List.append_assoc, List.nil_append, List.append_nil]
    · rw [if_neg (by rw [hg]; decide), if_pos (Nat.lt_of_le_of_ne hk (Ne.symm h1)), if_pos hg, if_neg h1]
      simp only [List.append_assoc, List.nil_append, List.append_nil]
  · by_cases h1 : a.k = 1
    · rw [if_pos (Nat.pos_of_ne_zero hg), if_neg (by rw [h1]; decide), if_neg hg, if_pos h1]
      simp only [List.append_assoc, List.nil_append, List.append_nil]
    · rw [if_pos (Nat.pos_of_ne_zero hg), if_pos (Nat.lt_of_le_of_ne hk (Ne.symm h1)), if_neg hg, if_neg h1]
      simp only [List.append_assoc, List.nil_append, List.append_nil]
theorem joined_nil : ∀ l : List Bytes, joined [] l = l.flatten
  | [] => rfl
  | [x] => by simp [joined]
  | x :: y :: r => by
    show x ++ [] ++ joined [] (y :: r) = _
    rw [joined_nil (y :: r), List.append_nil]
    rfl
theorem formB_eq (t : Vamvsa.Table) (R : Right t) : joined [] (formB t) = Vamvsa.shown t := by
  rw [joined_nil]
  unfold formB Vamvsa.shown
  rw [List.flatten_append, List.flatten_append]
  have e1 : (t.rows.map rowB).flatten = t.rows.flatMap Vamvsa.showRow := by
    rw [List.flatMap_def]
    congr 1
    exact List.map_congr_left fun r _ => rowB_eq r
  have e2 : (t.asks.map (askB t.cols)).flatten = t.asks.flatMap (Vamvsa.showAsk t.cols) := by
    rw [List.flatMap_def]
    congr 1
    exact List.map_congr_left fun a ha => askB_eq t.cols a (R.in_ a ha).2.1
  rw [e1, e2, List.append_assoc]
  congr 1
  unfold Vamvsa.line Vamvsa.commas
  rw [w_end]
  simp only [List.flatten_cons, List.flatten_nil, List.append_nil, List.append_assoc]
end SR
set_option Elab.async false
set_option linter.all false
set_option maxRecDepth 100000
set_option maxHeartbeats 2000000
namespace SR
open PySem PySem.Spec PyProof.Rows L2
open VamvsBase (Bytes word joined showNat showInt)
theorem joined_len {sep : Bytes} {m : Nat} : ∀ l : List Bytes, (∀ x ∈ l, x.length ≤ m) → (joined sep l).length ≤ l.length * (m + sep.length)
  | [], _ => Nat.zero_le _
  | [x], h => by
    have := h x (List.mem_cons_self ..)
    show x.length ≤ 1 * (m + sep.length)
    omega
  | x :: y :: r, h => by
    have h1 := h x (List.mem_cons_self ..)
    have ih := joined_len (sep := sep) (m := m) (y :: r) (fun z hz => h z (List.mem_cons_of_mem _ hz))
    show (x ++ sep ++ joined sep (y :: r)).length ≤ (r.length + 1 + 1) * (m + sep.length)
    rw [List.length_append, List.length_append, Nat.add_mul _ 1, Nat.one_mul]
    rw [List.length_cons] at ih
    omega
theorem sum_tx {m : Nat} : ∀ l : List Bytes, (∀ x ∈ l, x.length ≤ m) → ((l.map tx).map (·.length)).sum ≤ l.length * m
  | [], _ => Nat.zero_le _
  | x :: r, h => by
    have h1 := h x (List.mem_cons_self ..)
    have ih := sum_tx (m := m) r (fun z hz => h z (List.mem_cons_of_mem _ hz))
    rw [List.map_cons, List.map_cons, List.sum_cons, tx_len, List.length_cons, Nat.add_mul, Nat.one_mul]
    omega
theorem showNat_len {n : Nat} (h : n ≤ 1000) : (showNat n).length ≤ 4 := by
  have key : ∀ n : Fin 1001, (showNat n.val).length ≤ 4 := by decide +kernel
  exact key ⟨n, by omega⟩
theorem showInt_len {i : Int} (h1 : -1000 ≤ i) (h2 : i ≤ 1000) : (showInt i).length ≤ 5 := by
  have := showNat_len (n := i.natAbs) (by omega)
  unfold showInt
  split
  · rw [List.length_cons]; omega
  · omega
theorem c_ask : (Str.ofString "ask " : Str) = tx (word "ask ") := by decide +kernel
theorem c_times : (Str.ofString "times " : Str) = tx (word "times ") := by decide +kernel
theorem c_sp : (Str.ofString " " : Str) = tx (word " ") := by decide +kernel
theorem c_cs : (Str.ofString ", " : Str) = tx (word ", ") := by decide +kernel
theorem c_end : (Str.ofString ";\n" : Str) = tx (word ";\n") := by decide +kernel
theorem c_cols : (Str.ofString "columns " : Str) = tx (word "columns ") := by decide +kernel
theorem c_end2 : (Str.ofString " ;\n" : Str) = tx (word " ;\n") := by decide +kernel
theorem c_row : (Str.ofString "row " : Str) = tx (word "row ") := by decide +kernel
theorem c_col : (Str.ofString " : " : Str) = tx (word " : ") := by decide +kernel
theorem c_nil : (Str.ofString "" : Str) = tx [] := by decide +kernel
theorem c_emp : (Str.empty : Str) = tx [] := rfl
/-- the columns that a question tells -/
def asked_ (cs : List Bytes) (g : Nat) : List Bytes := (Vamvsa.columnsOf cs.length g).map fun i => cs.getD i []
theorem asked_len (cs : List Bytes) (g : Nat) : (asked_ cs g).length ≤ cs.length := by
  unfold asked_ Vamvsa.columnsOf
  rw [List.length_map]
  refine Nat.le_trans (List.length_filter_le _ _) ?_
  rw [List.length_range]
  exact Nat.le_refl _
theorem asked_short {cs : List Bytes} {g : Nat} (h : ∀ c ∈ cs, c.length ≤ 16) : ∀ x ∈ asked_ cs g, x.length ≤ 16 := by
  intro x hx
  unfold asked_ Vamvsa.columnsOf at hx
  obtain ⟨i, hi, rfl⟩ := List.mem_map.mp hx
  have hi := (List.mem_filter.mp hi).1
  rw [List.mem_range] at hi
  rw [List.getD_eq_getElem?_getD, List.getElem?_eq_getElem hi]
  exact h _ (List.getElem_mem hi)
theorem pick_asked (cs : List Bytes) (g : Nat) : someOf (fun i => decide (g / 2 ^ i % 2 = 1)) (fun i => V.str (tx (cs.getD i []))) cs.length = (asked_ cs g).map fun b => V.str (tx b) := by
  unfold someOf asked_ Vamvsa.columnsOf
  rw [List.map_map]
  rfl
theorem nv_at {cs : List Bytes} {i : Nat} {x : V} (h : (nv cs)[i]? = some x) : i < cs.length ∧ x = V.str (tx (cs.getD i [])) := by
  rw [List.getElem?_map] at h
  rw [List.getD_eq_getElem?_getD]
  cases e : cs[i]? with
  | none => rw [e] at h; cases h
  | some n =>
    rw [e] at h
    cases h
    exact ⟨(List.getElem?_eq_some_iff.mp e).1, rfl⟩
theorem small_log {n : Nat} (h : n ≤ 100000) : n.log2 < 1920 := by
  rcases Nat.eq_zero_or_pos n with z | z
  · subst z; decide
  · refine (Nat.log2_lt (by omega)).mpr (Nat.lt_of_le_of_lt h ?_)
    refine Nat.lt_of_lt_of_le (by decide : 100000 < 2 ^ 17) (Nat.pow_le_pow_right (by decide) (by decide))
section
variable {P : Program} {w : World} {K : PySem.W.Frag} {mg : Str → Option Value} {base : Heap} {CT : Addr}
/-! ### question_line -/
abbrev sQLine : Stmt := top 72
abbrev nQLine : List Str := ["columns", "grouping", "times", "line", "place", "name"]
def spQLine (K : PySem.W.Frag) : Sp := fun vs H Q _ => ∃ (c : Addr) (cs : List Bytes) (g k : Nat), vs = [.ref c, .int (g : Nat), .int (k : Nat)] ∧ SqL K H c (nv cs) ∧ cs.length ≤ 4 ∧ (∀ x ∈ cs, x.length ≤ 16) ∧ k ≤ 99 ∧ ∀ H', Same H H' → Q (.str (tx (askB cs ⟨g, k⟩))) H'
theorem scQLine : FnScope nQLine ["columns", "grouping", "times"] (defScope sQLine) := ⟨rfl, rfl, rfl, by decide +kernel, rfl, by decide +kernel, by decide +kernel⟩
theorem ok_question_line (B : Bn mg) (F : FunG K mg "question_line" sQLine) : Def P w K mg base CX0 1 "question_line" ["columns", "grouping", "times"] (spQLine K) := by
  refine F.def (fun _ _ _ _ _ _ us hl => match us, hl with | [_, _, _], _ => rfl) fun f fd F => ?_
  have nd := scQLine.nd
  refine F.ok scQLine (fun vs H Q E h => ?_) (fun cdv A outer s H vs Q E hr h => ⟨_, pss_cons (ps_set (i := 3) nd rfl (Or.inl rfl) pe_str)
    (pss_cons (ps_if (pt_cmpR n_gt (pv 1) pe_int (nomark _)) (pss_one (ps_aug (i := 3) nd rfl (Or.inl rfl) (pe_op op_add_str (pe_join pe_str
        (pe_lc (own := [("place", 4), ("name", 5)]) (g := gTup K 2 (gCons (gName 4) (gCons (gName 5) gNil))) (tt := tBitT 1 4) rfl nd (pi_enum (by rfl) B.enumerate (pa_cons (pv 0) pa_nil)) (blkOk_by (own := [("place", 4), ("name", 5)]) (N := nQLine) (sc := defScope sQLine) (by decide +kernel))
          (fun _ _ _ _ _ => pg_tup rfl (pgs_cons (pg_name (i := 4) nd rfl (Or.inl rfl)) (pgs_cons (pg_name (i := 5) nd rfl (Or.inl rfl)) pgs_nil)))
          (fun _ _ _ _ _ => pts_one (pt_bit 1 4 (pv 1) (pv 4))) (fun _ _ _ _ _ => pv 5))) pe_str) iop_add_str)) pss_nil)
    (pss_cons (ps_if (pt_cmpR n_gt (pv 2) pe_int (nomark _)) (pss_one (ps_aug (i := 3) nd rfl (Or.inl rfl) (pe_joined (.cons pe_str (.cons (pe_fmt (pv 2)) (.cons pe_str .nil)))) iop_add_str)) pss_nil)
    (pss_one (ps_ret (pe_op op_add_str (pv 3) pe_str))))), ?_⟩)
  · obtain ⟨c, cs, g, k, rfl, _⟩ := h
    rfl
  · obtain ⟨c, cs, g, k, rfl, hc, hl, hsh, hk, kk⟩ := h
    -- behind the first if: the line holds what the columns give
    have tail : ∀ (u : Bytes) (H' : Hp), Same H H' → u.length ≤ 1000 → u = word "ask " ++ (if 0 < g then joined (word ", ") (asked_ cs g) ++ word " " else []) →
        tSeq (tIfS (tTest (tOp (fun x y H Q => ∃ a b : Nat, x = .int (a : Nat) ∧ y = .int (b : Nat) ∧ Q (.bl (decide (b < a))) H) (tVar 2) (tC (.int 1)))) (tAug 3 (fun σ H Q => tJs [tC (.str (Str.ofString "times ")), tFmt (tVar 2), tC (.str (Str.ofString " "))] Str.empty σ H fun out H1 => Q (.str out) H1) (fun x y H Q => ∃ i j, x = .str i ∧ y = .str j ∧ i.length + j.length ≤ sizeLine ∧ Q (.str (i ++ j)) H)) tNext)
          (tRet (tOp (fun x y H Q => ∃ i j, x = .str i ∧ y = .str j ∧ i.length + j.length ≤ sizeLine ∧ Q (.str (i ++ j)) H) (tVar 3) (tC (.str (Str.ofString ";\n")))))
          { nx := fun _ H' => Q .non H', rt := Q } [some (.ref c), some (.int (g : Nat)), some (.int (k : Nat)), some (.str (tx u)), none, none] H' := fun u H' e hu hue => by
      refine ⟨_, rfl, k, 1, rfl, rfl, _, rfl, if_d (fun h1 => ?_) fun h1 => ?_⟩
      · have hn := showNat_len (n := k) (by omega)
        have hz : ∀ b : Bytes, b.length ≤ 2000 → (tx b).length ≤ sizeLine := fun b hb => by rw [tx_len, line_eq]; omega
        refine ⟨_, rfl, _, rfl, ?_, _, rfl, .inr ⟨(k : Int), rfl, small_log (by rw [Int.natAbs_natCast]; omega), _, rfl, ?_, _, rfl, ?_, _, _, rfl, rfl, ?_, ?_⟩⟩
        · rw [c_emp, c_times, tx_app]
          exact hz _ (by decide)
        · rw [c_emp, c_times, tx_app]
          show (tx _ ++ Str.ofString (toString ((k : Nat) : Int))).length ≤ sizeLine
          rw [num_tx, tx_app]
          refine hz _ ?_
          simp only [List.length_append]
          have : (word "times ").length = 6 := by decide +kernel
          simp only [List.length_nil]
          omega
        · rw [c_emp, c_times, tx_app]
          show (tx _ ++ Str.ofString (toString ((k : Nat) : Int)) ++ _).length ≤ sizeLine
          rw [num_tx, tx_app, c_sp, tx_app]
          refine hz _ ?_
          simp only [List.length_append]
          have : (word "times ").length = 6 := by decide +kernel
          have : (word " ").length = 1 := by decide +kernel
          simp only [List.length_nil]
          omega
        · rw [c_emp, c_times, tx_app]
          show (tx u).length + (tx _ ++ Str.ofString (toString ((k : Nat) : Int)) ++ _).length ≤ sizeLine
          rw [num_tx, tx_app, c_sp, tx_app, tx_len, tx_len, line_eq]
          simp only [List.length_append]
          have : (word "times ").length = 6 := by decide +kernel
          have : (word " ").length = 1 := by decide +kernel
          simp only [List.length_nil]
          omega
        · rw [c_emp, c_times, tx_app]
          have ek : Str.ofString (toString ((k : Nat) : Int)) = tx (showNat k) := num_tx k
          refine ⟨_, rfl, _, _, rfl, rfl, ?_, ?_⟩
          · show ((tx u ++ (tx _ ++ Str.ofString (toString ((k : Nat) : Int)) ++ _)).length + _ ≤ sizeLine)
            rw [ek, tx_app, c_sp, tx_app, tx_app, c_end, tx_len, tx_len, line_eq]
            simp only [List.length_append]
            have : (word "times ").length = 6 := by decide +kernel
            have : (word " ").length = 1 := by decide +kernel
            have : (word ";\n").length = 2 := by decide +kernel
            simp only [List.length_nil]
            omega
          · show Q (.str ((tx u ++ (tx _ ++ Str.ofString (toString ((k : Nat) : Int)) ++ _)) ++ _)) H'
            rw [ek, tx_app, c_sp, tx_app, tx_app, c_end, tx_app]
            have := kk H' e
            unfold askB at this
            rw [if_pos (show 1 < k from h1)] at this
            rw [hue]
            exact this
      · have hk1 : ¬ 1 < k := h1
        refine ⟨_, rfl, _, _, rfl, rfl, ?_, ?_⟩
        · rw [c_end, tx_len, tx_len, line_eq]
          have : (word ";\n").length = 2 := by decide +kernel
          omega
        · rw [c_end, tx_app]
          have := kk H' e
          unfold askB at this
          rw [if_neg (show ¬ 1 < k from hk1), List.append_nil] at this
          rw [hue]
          exact this
    refine ⟨_, rfl, g, 0, rfl, rfl, _, rfl, if_d (fun hg => ?_) fun hg => ?_⟩
    · refine ⟨_, rfl, ⟨_, rfl⟩, _, rfl, c, _, rfl, hc, fun D hD => lc_go (walk_enum (K := K) (a := c) (xs := nv cs)) (someOf (fun j => decide (g / 2 ^ j % 2 = 1)) (fun j => V.str (tx (cs.getD j [])))) rfl hD (fun H' s' => s'.seq hc) ?_ ?_⟩
      · rintro j y H1 H2 hj hP ⟨T, u, v, rfl, hT, rfl, hu, hv⟩
        cases hu
        obtain ⟨hjl, rfl⟩ := nv_at hv
        refine ⟨T, _, rfl, SqT.of upd_same, rfl, _, _, rfl, _, _, rfl, rfl, rfl, g, j, rfl, rfl, if_d (fun hb => ?_) fun hb => ?_⟩
        · exact ⟨_, rfl, lc_put hD hP (Same.new hT) (someOf_yes (decide_eq_true hb)) (Nat.lt_of_le_of_lt (someOf_len _ _ _) (by rw [line_eq]; omega))⟩
        · exact lc_skip hP (Same.new hT) (someOf_no (decide_eq_false hb))
      · rintro H3 ⟨s3, hD3⟩
        rw [List.length_map, pick_asked] at hD3
        have hal := asked_len cs g
        have has := asked_short (g := g) hsh
        have hsum := sum_tx _ has
        refine ⟨_, D, (asked_ cs g).map tx, rfl, rfl, .inl (SqL.of (by rw [hD3, List.map_map]; rfl)), ?_, ?_⟩
        · rw [List.length_map]
          have : (Str.ofString ", " : Str).length = 2 := by decide +kernel
          rw [this]
          omega
        · rw [c_cs, join_tx]
          have hj := joined_len (sep := word ", ") _ has
          have h2 : (word ", ").length = 2 := by decide +kernel
          have h3 : (word "ask ").length = 4 := by decide +kernel
          have h4 : (word " ").length = 1 := by decide +kernel
          rw [h2] at hj
          have hj2 : (joined (word ", ") (asked_ cs g)).length ≤ 72 := Nat.le_trans hj (by omega)
          refine ⟨_, _, rfl, rfl, ?_, _, _, rfl, rfl, ?_, ?_⟩
          · rw [c_sp, tx_len, tx_len, line_eq]
            omega
          · rw [c_ask, c_sp, tx_app, tx_len, tx_len, line_eq, List.length_append]
            omega
          · rw [c_ask, c_sp, tx_app, tx_app]
            refine tail _ H3 s3 ?_ ?_
            · rw [List.length_append, List.length_append]
              omega
            · rw [if_pos hg]
    · have h3 : (word "ask ").length = 4 := by decide +kernel
      show tSeq _ _ _ _ _
      have hT := tail (word "ask ") H (Same.refl H) (by omega) (by rw [if_neg hg, List.append_nil])
      rw [← c_ask] at hT
      exact hT
end
end SR
set_option Elab.async false
set_option linter.all false
set_option maxRecDepth 100000
set_option maxHeartbeats 2000000
namespace SR
open PySem PySem.Spec PyProof.Rows L2
open VamvsBase (Bytes word joined showNat showInt)
def headB (t : Vamvsa.Table) : Bytes := word "columns " ++ joined (word ", ") t.cols ++ word " ;\n"
abbrev sv (l : List Bytes) : List V := l.map fun b => V.str (tx b)
theorem w2 : (word ", ").length = 2 := by decide +kernel
theorem head_len {t : Vamvsa.Table} (R : Right t) : (headB t).length ≤ 100 := by
  have h1 : (word "columns ").length = 8 := by decide +kernel
  have h2 : (word " ;\n").length = 3 := by decide +kernel
  have hj := joined_len (sep := word ", ") t.cols R.short
  rw [w2] at hj
  have hc := R.cols
  have hj2 : (joined (word ", ") t.cols).length ≤ 72 := Nat.le_trans hj (by omega)
  unfold headB
  rw [List.length_append, List.length_append]
  omega
theorem told_len {r : Vamvsa.Row} (h4 : r.vs.length ≤ 4) (h9 : ∀ v ∈ r.vs, v ≤ 9) : (joined (word ", ") (r.vs.map showNat)).length ≤ 24 := by
  have hj := joined_len (sep := word ", ") (m := 4) (r.vs.map showNat) (fun x hx => by
    obtain ⟨v, hv, rfl⟩ := List.mem_map.mp hx
    exact showNat_len (by have := h9 v hv; omega))
  rw [w2, List.length_map] at hj
  exact Nat.le_trans hj (by omega)
theorem row_len {t : Vamvsa.Table} (R : Right t) {r : Vamvsa.Row} (hr : r ∈ t.rows) : (rowB r).length ≤ 100 := by
  obtain ⟨h1, h2, h3, h4⟩ := R.width r hr
  have hc := R.cols
  have := told_len (r := r) (by omega) h2
  have := showInt_len h3 h4
  have e1 : (word "row ").length = 4 := by decide +kernel
  have e2 : (word " : ").length = 3 := by decide +kernel
  have e3 : (word " ;\n").length = 3 := by decide +kernel
  unfold rowB
  simp only [List.length_append]
  omega
theorem askB_len {t : Vamvsa.Table} (R : Right t) {a : Vamvsa.Ask} (ha : a ∈ t.asks) : (askB t.cols a).length ≤ 100 := by
  obtain ⟨h1, h2, h3⟩ := R.in_ a ha
  have hc := R.cols
  have hal := asked_len t.cols a.g
  have hj := joined_len (sep := word ", ") (m := 16) (asked_ t.cols a.g) (asked_short R.short)
  rw [w2] at hj
  have hj2 : (joined (word ", ") (asked_ t.cols a.g)).length ≤ 72 := Nat.le_trans hj (by omega)
  have hn := showNat_len (n := a.k) (by omega)
  have e1 : (word "ask ").length = 4 := by decide +kernel
  have e2 : (word " ").length = 1 := by decide +kernel
  have e3 : (word "times ").length = 6 := by decide +kernel
  have e4 : (word ";\n").length = 2 := by decide +kernel
  unfold askB
  have e5 : ((Vamvsa.columnsOf t.cols.length a.g).map fun i => t.cols.getD i []) = asked_ t.cols a.g := rfl
  rw [e5]
  simp only [List.length_append]
  have b1 : (if 0 < a.g then joined (word ", ") (asked_ t.cols a.g) ++ word " " else []).length ≤ 73 := by
    split
    · rw [List.length_append]; omega
    · exact Nat.zero_le _
  have b2 : (if 1 < a.k then word "times " ++ showNat a.k ++ word " " else []).length ≤ 11 := by
    split
    · simp only [List.length_append]; omega
    · exact Nat.zero_le _
  omega
theorem form_lines {t : Vamvsa.Table} (R : Right t) : (∀ x ∈ formB t, x.length ≤ 100) ∧ (formB t).length ≤ 25 := by
  have h1 := R.rows
  have h2 := R.asks
  refine ⟨fun x hx => ?_, ?_⟩
  · unfold formB at hx
    rw [List.mem_append, List.mem_append] at hx
    rcases hx with (hx | hx) | hx
    · rw [List.mem_singleton] at hx
      subst hx
      exact head_len R
    · obtain ⟨r, hr, rfl⟩ := List.mem_map.mp hx
      exact row_len R hr
    · obtain ⟨a, ha, rfl⟩ := List.mem_map.mp hx
      exact askB_len R ha
  · unfold formB
    rw [List.length_append, List.length_append, List.length_map, List.length_map]
    show 1 + _ + _ ≤ 25
    omega
theorem shown_len {t : Vamvsa.Table} (R : Right t) : (Vamvsa.shown t).length ≤ 2500 := by
  obtain ⟨h1, h2⟩ := form_lines R
  have := joined_len (sep := []) (m := 100) (formB t) h1
  rw [formB_eq t R] at this
  refine Nat.le_trans this ?_
  show (formB t).length * (100 + 0) ≤ 2500
  omega
section
variable {P : Program} {w : World} {K : PySem.W.Frag} {mg : Str → Option Value} {base : Heap} {CT : Addr}
/-! ### one_form -/
abbrev sOneForm : Stmt := top 71
abbrev nOneForm : List Str := ["table", "lines", "numbers", "summed", "told", "grouping", "times", "number", "sign"]
def spOneForm (CT : Addr) : Sp := fun vs H Q _ => ∃ (a : Addr) (t : Vamvsa.Table), vs = [.ref a] ∧ TblAt CT H a t ∧ Right t ∧ ∀ (H' : Hp) (p : Addr), Same H H' → H p = none → H' p = some (.lst (bv (Vamvsa.shown t))) → Q (.ref p) H'
theorem scOneForm : FnScope nOneForm ["table"] (defScope sOneForm) := ⟨rfl, rfl, rfl, by decide +kernel, rfl, by decide +kernel, by decide +kernel⟩
theorem ok_one_form (B : Bn mg) (TC : TabC K CT) (D : Def P w K mg base CX0 1 "question_line" ["columns", "grouping", "times"] (spQLine K)) (F : FunG K mg "one_form" sOneForm) : Def P w K mg base CX0 2 "one_form" ["table"] (spOneForm CT) := by
  refine F.def (fun _ _ _ _ _ _ us hl => match us, hl with | [_], _ => rfl) fun f fd F => ?_
  have nd := scOneForm.nd
  refine F.ok scOneForm (fun vs H Q E h => ?_) (fun cdv A outer s H vs Q E hr h => ⟨_, pss_cons (ps_set (i := 1) nd rfl (Or.inl rfl) (pe_lst (pa_cons (pe_op op_add_str (pe_op op_add_str pe_str (pe_join pe_str (pe_fld (pv 0) rfl))) pe_str) pa_nil)))
    (pss_cons (ps_for PassesOwn.never rfl (pi_list (pe_fld (pv 0) rfl)) (pg_tup rfl (pgs_cons (pg_name (i := 2) nd rfl (Or.inl rfl)) (pgs_cons (pg_name (i := 3) nd rfl (Or.inl rfl)) pgs_nil)))
      (pss_cons (ps_set (i := 4) nd rfl (Or.inl rfl) (pe_join pe_str (pe_lc (own := [("number", 7)]) (g := gName 7) (tt := tYes) (te := tCB (fun xs H Q => ∃ i : Int, xs = [.int i] ∧ i.natAbs.log2 < 1920 ∧ Q (.str (toString i)) H) (tCons (tVar 7) tNil)) rfl nd (pi_tup (pv 2)) (blkOk_by (own := [("number", 7)]) (N := nOneForm) (sc := defScope sOneForm) (by decide +kernel))
          (fun _ _ _ _ _ => pg_name (i := 7) nd rfl (Or.inl rfl)) (fun _ _ _ _ _ => pts_nil) (fun _ _ _ _ _ => pe_callTy call_str_int (by rfl) B.str (by decide +kernel) (pa_cons (pv 7) pa_nil)))))
      (pss_one (ps_expr (pe_bm PySem.F.plainAttrs_list PySem.F.slot_list_append PySem.F.type_list_append mt_append (pv 1) (pa_cons (pe_joined (.cons pe_str (.cons (pe_fmt (pv 4)) (.cons pe_str (.cons (pe_fmt (pv 3)) (.cons pe_str .nil)))))) pa_nil))))))
    (pss_cons (ps_for PassesOwn.never rfl (pi_list (pe_fld (pv 0) rfl)) (pg_tup rfl (pgs_cons (pg_name (i := 5) nd rfl (Or.inl rfl)) (pgs_cons (pg_name (i := 6) nd rfl (Or.inl rfl)) pgs_nil)))
      (pss_one (ps_expr (pe_bm PySem.F.plainAttrs_list PySem.F.slot_list_append PySem.F.type_list_append mt_append (pv 1) (pa_cons (cl D hr pass0 (pa_cons (pe_fld (pv 0) rfl) (pa_cons (pv 5) (pa_cons (pv 6) pa_nil)))) pa_nil)))))
    (pss_one (ps_ret (pe_lc (own := [("sign", 8)]) (g := gName 8) (tt := tYes) (te := tCB (fun xs H Q => ∃ x, xs = [.str x] ∧ x.length = 1 ∧ Q (.int (x.cps.getD 0 0 : Nat)) H) (tCons (tVar 8) tNil)) rfl nd (pi_str (pe_join pe_str (pv 1))) (blkOk_by (own := [("sign", 8)]) (N := nOneForm) (sc := defScope sOneForm) (by decide +kernel))
          (fun _ _ _ _ _ => pg_name (i := 8) nd rfl (Or.inl rfl)) (fun _ _ _ _ _ => pts_nil) (fun _ _ _ _ _ => pe_callB call_ord (by rfl) B.ord (by decide +kernel) (pa_cons (pv 8) pa_nil))))))), ?_⟩)
  · obtain ⟨a, t, rfl, _⟩ := h
    rfl
  · obtain ⟨a, t, rfl, hT, R, k⟩ := h
    obtain ⟨dx, c, r, q, rs, qs, h1, h2, h3, h4, h5, h6⟩ := hT.ex
    have hc := R.cols
    have hsum := sum_tx t.cols R.short
    have hj := joined_len (sep := word ", ") t.cols R.short
    rw [w2] at hj
    have hj2 : (joined (word ", ") t.cols).length ≤ 72 := Nat.le_trans hj (by omega)
    have l1 : (word "columns ").length = 8 := by decide +kernel
    have l2 : (word " ;\n").length = 3 := by decide +kernel
    refine ⟨⟨_, rfl⟩, _, rfl, a, CT, dx, _, _, rfl, h1, TC.cl, TC.nc, tabF_c c r q, _, c, t.cols.map tx, rfl, rfl, .inl (SqL.of (by rw [h2, List.map_map]; rfl)), ?_, _, _, rfl, rfl, ?_, _, _, rfl, rfl, ?_, by show 1 ≤ sizeLine; decide, fun L hL => ?_⟩
    · have : (Str.ofString ", " : Str).length = 2 := by decide +kernel
      rw [this, List.length_map]
      omega
    · rw [c_cs, join_tx, c_cols, tx_len, tx_len, line_eq]
      omega
    · rw [c_cs, join_tx, c_cols, tx_app, c_end2, tx_len, tx_len, line_eq, List.length_append]
      omega
    have ev : (Str.ofString "columns " ++ Txt.join (Str.ofString ", ") (t.cols.map tx) ++ Str.ofString " ;\n" : Str) = tx (headB t) := by
      rw [c_cs, join_tx, c_cols, tx_app, c_end2, tx_app]
      rfl
    rw [ev]
    have s0 : Same H (upd H L (.lst (sv [headB t]))) := Same.new hL
    refine ⟨_, rfl, a, CT, dx, _, _, rfl, s0 _ _ h1, TC.cl, TC.nr, tabF_r c r q, r, rfl, ⟨_, SqL.of (s0 _ _ h3)⟩, for_it (walk_list (K := K) (a := r) (xs := rs.map V.ref))
      (fun i σ H' => ∃ x2 x3 x4 : Option V, σ = [some (.ref a), some (.ref L), x2, x3, x4, none, none, none, none] ∧ Same H H' ∧ H' L = some (.lst (sv ([headB t] ++ (t.rows.take i).map rowB))))
      ⟨none, none, none, rfl, s0, by rw [upd_same]; rfl⟩ (fun i σ H' _ ⟨_, _, _, _, e, _⟩ => SqL.of (e _ _ h3)) ?_ ?_⟩
    · rintro i x σ H1 H2 hi ⟨x2, x3, x4, rfl, e, hL1⟩ ⟨rfl, hx⟩
      obtain ⟨p, hp, rfl⟩ := refs_at hx
      have hil : i < t.rows.length := by rw [← h5.len]; exact (List.getElem?_eq_some_iff.mp hp).1
      have hrow : t.rows[i]? = some t.rows[i] := List.getElem?_eq_getElem hil
      obtain ⟨tp, hr1, hr2⟩ := h5.at_ i p _ hp hrow
      obtain ⟨w1, w9, wm1, wm2⟩ := R.width _ (List.getElem_mem hil)
      refine ⟨p, _, rfl, SqT.of (e _ _ hr1), rfl, _, _, rfl, _, _, rfl, rfl, ?_⟩
      refine ⟨⟨_, rfl⟩, _, rfl, tp, rfl, ⟨_, SqT.of (e _ _ hr2)⟩, fun D hD => lc_go (walk_tup (K := K) (a := tp) (xs := iv t.rows[i].vs)) (fun j => (t.rows[i].vs.take j).map fun v => V.str (tx (showNat v))) rfl hD (fun H' s' => SqT.of (s' _ _ (e _ _ hr2))) ?_ ?_⟩
      · rintro j y H3 H4 hj hP ⟨rfl, hy⟩
        obtain ⟨hjl, rfl⟩ := iv_at hy
        have hvj : t.rows[i].vs[j]? = some t.rows[i].vs[j] := List.getElem?_eq_getElem hjl
        have hgd : t.rows[i].vs.getD j 0 = t.rows[i].vs[j] := by rw [List.getD_eq_getElem?_getD, hvj]; rfl
        rw [hgd]
        have h9 := w9 _ (List.getElem_mem hjl)
        refine ⟨rfl, _, rfl, _, rfl, small_log (by rw [Int.natAbs_natCast]; omega), ?_⟩
        show ∃ acc, _ ∧ _ ∧ LcP _ _ _ _ (upd _ _ (.lst (acc ++ [.str (Str.ofString (toString ((t.rows[i].vs[j] : Nat) : Int)))])))
        rw [num_tx]
        refine lc_put hD hP (Same.refl _) (by rw [take_succ' hvj, List.map_append]; rfl) ?_
        rw [List.length_map, List.length_take, line_eq]
        omega
      · rintro H3 ⟨s3, hD3⟩
        have hD3 : H3 D = some (.lst ((t.rows[i].vs.take (iv t.rows[i].vs).length).map fun v => V.str (tx (showNat v)))) := hD3
        rw [List.length_map, List.take_length] at hD3
        have htl := told_len (r := t.rows[i]) (by omega) w9
        have hs := sum_tx (m := 4) (t.rows[i].vs.map showNat) (fun x hx => by
          obtain ⟨v, hv, rfl⟩ := List.mem_map.mp hx
          exact showNat_len (by have := w9 v hv; omega))
        rw [List.length_map] at hs
        refine ⟨_, D, (t.rows[i].vs.map showNat).map tx, rfl, rfl, .inl (SqL.of (by rw [hD3, List.map_map, List.map_map]; rfl)), ?_, ?_⟩
        · have : (Str.ofString ", " : Str).length = 2 := by decide +kernel
          rw [this, List.length_map, List.length_map]
          omega
        · have ej : Txt.join (Str.ofString ", ") ((t.rows[i].vs.map showNat).map tx) = tx (joined (word ", ") (t.rows[i].vs.map showNat)) := by rw [c_cs, join_tx]
          rw [ej]
          have e3 := e.trans s3
          have hL3 := s3 _ _ hL1
          have li := showInt_len wm1 wm2
          have l4 : (word "row ").length = 4 := by decide +kernel
          have l5 : (word " : ").length = 3 := by decide +kernel
          have hz : ∀ b : Bytes, b.length ≤ 2000 → (tx b).length ≤ sizeLine := fun b hb => by rw [tx_len, line_eq]; omega
          have ei : Str.ofString (toString t.rows[i].m) = tx (showInt t.rows[i].m) := int_tx2 _
          refine ⟨_, rfl, .inl ⟨rfl, _, SqL.of hL3⟩, _, rfl, ?_, _, rfl, .inl ⟨_, rfl, hz _ (by omega), _, rfl, ?_, _, rfl, ?_, _, rfl, .inr ⟨t.rows[i].m, rfl, small_log (by omega), _, rfl, ?_, _, rfl, ?_, ?_⟩⟩⟩
          · rw [c_emp, c_row, tx_app]
            exact hz _ (by rw [List.length_append, List.length_nil]; omega)
          · rw [c_emp, c_row, tx_app, tx_app]
            exact hz _ (by simp only [List.length_append, List.length_nil]; omega)
          · rw [c_emp, c_row, tx_app, tx_app, c_col, tx_app]
            exact hz _ (by simp only [List.length_append, List.length_nil]; omega)
          · rw [c_emp, c_row, tx_app, tx_app, c_col, tx_app]
            show (tx _ ++ Str.ofString (toString t.rows[i].m)).length ≤ sizeLine
            rw [ei, tx_app]
            exact hz _ (by simp only [List.length_append, List.length_nil]; omega)
          · rw [c_emp, c_row, tx_app, tx_app, c_col, tx_app]
            show (tx _ ++ Str.ofString (toString t.rows[i].m) ++ _).length ≤ sizeLine
            rw [ei, tx_app, c_end2, tx_app]
            exact hz _ (by simp only [List.length_append, List.length_nil]; omega)
          · rw [c_emp, c_row, tx_app, tx_app, c_col, tx_app]
            have R16 := R.rows
            have evr : (tx ([] ++ word "row " ++ joined (word ", ") (t.rows[i].vs.map showNat) ++ word " : ") ++ Str.ofString (toString t.rows[i].m) ++ Str.ofString " ;\n" : Str) = tx (rowB t.rows[i]) := by
              rw [ei, tx_app, c_end2, tx_app]
              unfold rowB
              rw [List.nil_append]
            rw [evr]
            refine ⟨L, _, _, rfl, rfl, hL3, ?_, _, _, _, rfl, e3.put hL, ?_⟩
            · rw [List.length_map, List.length_append, List.length_map, List.length_take, line_eq]
              show 1 + _ < _
              omega
            · rw [upd_same, take_succ' hrow, List.map_append, ← List.append_assoc]
              show _ = some (HO.lst (List.map _ (_ ++ [rowB t.rows[i]])))
              rw [List.map_append]
              rfl
    · rintro σ H1 ⟨x2, x3, x4, rfl, e, hL1⟩
      rw [List.length_map, h5.len, List.take_length] at hL1
      refine ⟨_, rfl, a, CT, dx, _, _, rfl, e _ _ h1, TC.cl, TC.nq, tabF_q c r q, q, rfl, ⟨_, SqL.of (e _ _ h4)⟩, for_it (walk_list (K := K) (a := q) (xs := qs.map V.ref))
        (fun i σ H' => ∃ x5 x6 : Option V, σ = [some (.ref a), some (.ref L), x2, x3, x4, x5, x6, none, none] ∧ Same H H' ∧ H' L = some (.lst (sv ([headB t] ++ t.rows.map rowB ++ (t.asks.take i).map (askB t.cols)))))
        ⟨none, none, rfl, e, by rw [hL1]; simp⟩ (fun i σ H' _ ⟨_, _, _, e, _⟩ => SqL.of (e _ _ h4)) ?_ ?_⟩
      · rintro i x σ H2 H3 hi ⟨x5, x6, rfl, e2, hL2⟩ ⟨rfl, hx⟩
        obtain ⟨p, hp, rfl⟩ := refs_at hx
        have hil : i < t.asks.length := by rw [← h6.len]; exact (List.getElem?_eq_some_iff.mp hp).1
        have hask : t.asks[i]? = some t.asks[i] := List.getElem?_eq_getElem hil
        have hA := h6.at_ i p _ hp hask
        obtain ⟨k1, k2, k3⟩ := R.in_ _ (List.getElem_mem hil)
        refine ⟨p, _, rfl, SqT.of (e2 _ _ hA), rfl, _, _, rfl, _, _, rfl, rfl, ?_⟩
        refine ⟨_, rfl, .inl ⟨rfl, _, SqL.of hL2⟩, _, rfl, a, CT, dx, _, _, rfl, e2 _ _ h1, TC.cl, TC.nc, tabF_c c r q, _, rfl, _, rfl, c, t.cols, t.asks[i].g, t.asks[i].k, rfl, SqL.of (e2 _ _ h2), hc.2, R.short, k3, fun H4 s4 => ?_⟩
        have R16 := R.rows
        have R8 := R.asks
        refine ⟨L, _, _, rfl, rfl, s4 _ _ hL2, ?_, _, _, rfl, (e2.trans s4).put hL, ?_⟩
        · rw [List.length_map, List.length_append, List.length_append, List.length_map, List.length_map, List.length_take, line_eq]
          show 1 + _ + _ < _
          omega
        · rw [upd_same, take_succ' hask, List.map_append, ← List.append_assoc]
          show _ = some (HO.lst (List.map _ (_ ++ [askB t.cols t.asks[i]])))
          rw [List.map_append]
          rfl
      · rintro σ H2 ⟨x5, x6, rfl, e2, hL2⟩
        rw [List.length_map, h6.len, List.take_length] at hL2
        have hL2 : H2 L = some (.lst (sv (formB t))) := hL2
        obtain ⟨f1, f2⟩ := form_lines R
        have fs := sum_tx _ f1
        have hsl := shown_len R
        refine ⟨⟨_, rfl⟩, _, rfl, _, L, (formB t).map tx, rfl, rfl, .inl (SqL.of (by rw [hL2, List.map_map]; rfl)), ?_, _, rfl, ?_⟩
        · have : (Str.ofString "" : Str).length = 0 := by decide +kernel
          rw [this, List.length_map]
          omega
        · have en : Txt.join (Str.ofString "") ((formB t).map tx) = tx (Vamvsa.shown t) := by rw [c_nil, join_tx, formB_eq t R]
          rw [en]
          refine fun D hD => lc_go (walk_str (z := tx (Vamvsa.shown t))) (fun j => bv ((Vamvsa.shown t).take j)) rfl hD (fun _ _ => trivial) ?_ ?_
          · rintro j y H3 H4 hj hP ⟨rfl, v, hv, rfl⟩
            have hv : ((Vamvsa.shown t).map (·.toNat))[j]? = some v := by
              rw [← hv]
              show _ = ((((Vamvsa.shown t).map (·.toNat)).toArray)[j]?)
              rw [List.getElem?_toArray]
            rw [List.getElem?_map] at hv
            cases hb : (Vamvsa.shown t)[j]? with
            | none => rw [hb] at hv; cases hv
            | some b =>
              rw [hb] at hv
              cases hv
              refine ⟨rfl, _, rfl, _, rfl, rfl, ?_⟩
              refine lc_put hD hP (Same.refl _) (by show bv _ = bv _ ++ _; rw [take_succ' hb, bv, List.map_append]; rfl) ?_
              rw [List.length_map, List.length_take, line_eq]
              omega
          · rintro H3 ⟨s3, hD3⟩
            have hD3 : H3 D = some (.lst (bv ((Vamvsa.shown t).take (tx (Vamvsa.shown t)).cps.size))) := hD3
            have hsz : (tx (Vamvsa.shown t)).cps.size = (Vamvsa.shown t).length := tx_len _
            rw [hsz, List.take_length] at hD3
            exact k H3 D (e2.trans s3) (e2.free hD) hD3
end
end SR
set_option Elab.async false
set_option linter.all false
set_option maxRecDepth 100000
set_option maxHeartbeats 2000000
namespace SR
open PySem PySem.Spec PyProof.Rows L2
/-! ### what groups pay is small -/
theorem alone_small (t : Vamvsa.Table) (R : Right t) {who : List Nat} (hl : who.length = t.asks.length) (c : Nat) : ∀ x ∈ aloneM t who c, x < 1000000 := by
  intro x hx
  unfold aloneM at hx
  obtain ⟨g, hg, rfl⟩ := List.mem_map.mp hx
  have h := alone_min t R.fits hl c g
  have h0 := h.lo [] (by simp)
  refine Nat.lt_of_le_of_lt h0 ?_
  unfold costK
  have hs : ∀ Q : List Vamvsa.Ask, (∀ a ∈ Q, a.k ≤ 99) → (Q.map fun a => a.k * rd t.rows.length (Vamvsa.sizeOf_ t) [] a.g).sum ≤ Q.length * (99 * 16) := by
    intro Q
    induction Q with
    | nil => intro _; exact Nat.zero_le _
    | cons a Q ih =>
      intro hQ
      have h1 := hQ a (List.mem_cons_self ..)
      have h2 := ih fun b hb => hQ b (List.mem_cons_of_mem _ hb)
      have hr := R.rows
      have e : rd t.rows.length (Vamvsa.sizeOf_ t) [] a.g = t.rows.length := rfl
      have h3 : a.k * t.rows.length ≤ 99 * 16 := Nat.mul_le_mul h1 hr
      rw [List.map_cons, List.sum_cons, List.length_cons, e, Nat.add_mul, Nat.one_mul]
      omega
  have hsel := sel_length t.asks (maskOf who g)
  have ha := R.asks
  have hmem : ∀ a ∈ sel (maskOf who g) t.asks, a ∈ t.asks := by
    have key : ∀ (Q : List Vamvsa.Ask) (m : Nat), ∀ a ∈ sel m Q, a ∈ Q := by
      intro Q
      induction Q with
      | nil => intro m a h; cases h
      | cons b Q ih =>
        intro m a h
        simp only [sel] at h
        split at h
        · rcases List.mem_cons.mp h with h | h
          · rw [h]; exact List.mem_cons_self ..
          · exact List.mem_cons_of_mem _ (ih _ a h)
        · exact List.mem_cons_of_mem _ (ih _ a h)
    exact key _ _
  have := hs (sel (maskOf who g) t.asks) fun a h => (R.in_ a (hmem a h)).2.2
  show _ + _ < _
  simp only [List.length_nil, Nat.mul_zero, Nat.zero_add]
  omega
end SR
set_option Elab.async false
set_option linter.all false
set_option maxRecDepth 100000
set_option maxHeartbeats 2000000
namespace SR
open PySem PySem.Spec PyProof.Rows L2
open VamvsBase (Bytes word joined showNat showInt Answer)
abbrev zv (l : List Int) : List V := l.map V.int
theorem zv_iv (l : List Nat) : zv (Vamvsf.nats l) = iv l := by
  unfold Vamvsf.nats
  rw [zv, List.map_map]
  rfl
/-- a new list of whole numbers -/
def newInts (H : Hp) (l : List Int) (Q : VK) : Prop := ∀ (H' : Hp) (p : Addr), Same H H' → H p = none → H' p = some (.lst (zv l)) → Q (.ref p) H'
def encode (a : Answer) : List Int := a.value :: a.rest
/-! ### what is held -/
def heldF (tv : V) (r : Addr) (c : Int) (l h : Addr) : List (Str × V) := [("table", tv), ("readers", .ref r), ("changes", .int c), ("low", .ref l), ("high", .ref h)]
section
variable (tv : V) (r l h : Addr) (c : Int)
theorem heldF_t : (heldF tv r c l h).lookup ("table" : Str) = some tv := lk_here
theorem heldF_r : (heldF tv r c l h).lookup ("readers" : Str) = some (.ref r) := (lk_past (by decide +kernel)).trans lk_here
theorem heldF_c : (heldF tv r c l h).lookup ("changes" : Str) = some (.int c) := (lk_past (by decide +kernel)).trans ((lk_past (by decide +kernel)).trans lk_here)
theorem heldF_l : (heldF tv r c l h).lookup ("low" : Str) = some (.ref l) := (lk_past (by decide +kernel)).trans ((lk_past (by decide +kernel)).trans ((lk_past (by decide +kernel)).trans lk_here))
theorem heldF_h : (heldF tv r c l h).lookup ("high" : Str) = some (.ref h) := (lk_past (by decide +kernel)).trans ((lk_past (by decide +kernel)).trans ((lk_past (by decide +kernel)).trans ((lk_past (by decide +kernel)).trans lk_here)))
theorem heldF_pt (v : V) : putF "table" v (heldF tv r c l h) = heldF v r c l h := put_here
theorem heldF_pr (a : Addr) : putF "readers" (.ref a) (heldF tv r c l h) = heldF tv a c l h := (put_past (by decide +kernel)).trans (congrArg _ put_here)
theorem heldF_pc (i : Int) : putF "changes" (.int i) (heldF tv r c l h) = heldF tv r i l h := (put_past (by decide +kernel)).trans (congrArg _ ((put_past (by decide +kernel)).trans (congrArg _ put_here)))
theorem heldF_pl (a : Addr) : putF "low" (.ref a) (heldF tv r c l h) = heldF tv r c a h := (put_past (by decide +kernel)).trans (congrArg _ ((put_past (by decide +kernel)).trans (congrArg _ ((put_past (by decide +kernel)).trans (congrArg _ put_here)))))
theorem heldF_ph (a : Addr) : putF "high" (.ref a) (heldF tv r c l h) = heldF tv r c l a := (put_past (by decide +kernel)).trans (congrArg _ ((put_past (by decide +kernel)).trans (congrArg _ ((put_past (by decide +kernel)).trans (congrArg _ ((put_past (by decide +kernel)).trans (congrArg _ put_here)))))))
end
structure HeldC (K : PySem.W.Frag) (C : Addr) : Prop where
  cl : Cls K C
  nt : NoAttr K C "table"
  nr : NoAttr K C "readers"
  nc : NoAttr K C "changes"
  nl : NoAttr K C "low"
  nh : NoAttr K C "high"
structure HeldOk (d : Vamvsf.Held) : Prop where
  right : Right d.t
  who : d.who.length = d.t.asks.length
  four : ∀ x ∈ d.who, x < 4
  few : d.c ≤ 1000
  lo : d.b.low.length = d.t.asks.length
  hi : d.b.high.length = d.t.asks.length
/-- a table is held -/
structure HasAt (K : PySem.W.Frag) (CH CT : Addr) (H : Hp) (h : Addr) (d : Vamvsf.Held) : Prop where
  ok : HeldOk d
  ex : ∃ (dx ta r l g : Addr), H h = some (.ins CH dx (heldF (.ref ta) r (d.c : Nat) l g)) ∧ TblAt CT H ta d.t ∧ SqL K H r (iv d.who) ∧ SqL K H l (iv d.b.low) ∧ SqL K H g (iv d.b.high)
def NoneAt (CH : Addr) (H : Hp) (h : Addr) : Prop := ∃ (dx r l g : Addr) (c : Int), H h = some (.ins CH dx (heldF .non r c l g))
def HeldAt (K : PySem.W.Frag) (CH CT : Addr) (H : Hp) (h : Addr) (o : Vamvsf.Obj) : Prop := match o with
  | none => NoneAt CH H h
  | some d => HasAt K CH CT H h d
theorem HasAt.same {K : PySem.W.Frag} {CH CT h : Addr} {H H' : Hp} {d : Vamvsf.Held} (e : Same H H') (x : HasAt K CH CT H h d) : HasAt K CH CT H' h d := by
  obtain ⟨dx, ta, r, l, g, h1, h2, h3, h4, h5⟩ := x.ex
  exact ⟨x.ok, dx, ta, r, l, g, e _ _ h1, h2.same e, e.seq h3, e.seq h4, e.seq h5⟩
theorem TblAt.sameX {CT CH h a dx : Addr} {H H' : Hp} {t : Vamvsa.Table} {tv : V} {r l g : Addr} {c : Int} (e : SameX h H H') (hh : H h = some (.ins CH dx (heldF tv r c l g))) (x : TblAt CT H a t) : TblAt CT H' a t := by
  obtain ⟨dt, c', r', q, rs, qs, h1, h2, h3, h4, h5, h6⟩ := x.ex
  have hne : a ≠ h := fun z => by
    rw [z, hh] at h1
    have e2 : heldF tv r c l g = tabF c' r' q := by injection (Option.some.inj h1)
    have := congrArg List.length e2
    cases this
  exact ⟨dt, c', r', q, rs, qs, e _ _ hne h1, e.lst hh h2, e.lst hh h3, e.lst hh h4, h5.map fun p x h => h.sameX e hh, h6.map fun p x h => h.sameX e hh⟩
section
variable {P : Program} {w : World} {K : PySem.W.Frag} {mg : Str → Option Value} {base : Heap} {CT CH : Addr}
/-! ### refusal, told_set -/
abbrev sRefusal : Stmt := top 100
def spRefusal : Sp := fun vs H Q _ => ∃ (c : Int), vs = [.int c] ∧ newInts H [-c] Q
theorem scRefusal : FnScope ["code"] ["code"] (defScope sRefusal) := ⟨rfl, rfl, rfl, by decide +kernel, rfl, by decide +kernel, by decide +kernel⟩
theorem ok_refusal (F : FunG K mg "refusal" sRefusal) : Def P w K mg base CX0 1 "refusal" ["code"] spRefusal := by
  refine F.def (fun _ _ _ _ _ _ us hl => match us, hl with | [_], _ => rfl) fun f fd F => ?_
  refine F.ok scRefusal (fun vs H Q E h => ?_) (fun cdv A outer s H vs Q E hr h => ⟨_, pss_one (ps_ret (pe_lst (pa_cons (pe_un un_neg (pv 0)) pa_nil))), ?_⟩)
  · obtain ⟨c, rfl, _⟩ := h
    rfl
  · obtain ⟨c, rfl, k⟩ := h
    exact ⟨_, rfl, c, rfl, by show 1 ≤ sizeLine; decide, fun p hp => k _ p (Same.new hp) hp upd_same⟩
abbrev sToldSet : Stmt := top 109
def spToldSet : Sp := fun vs H Q _ => ∃ (a : Addr) (xs : List Int), vs = [.ref a] ∧ H a = some (.lst (zv xs)) ∧ xs.length ≤ 1000 ∧ newInts H ((xs.length : Int) :: xs) Q
theorem scToldSet : FnScope ["members"] ["members"] (defScope sToldSet) := ⟨rfl, rfl, rfl, by decide +kernel, rfl, by decide +kernel, by decide +kernel⟩
theorem ok_told_set (B : Bn mg) (F : FunG K mg "told_set" sToldSet) : Def P w K mg base CX0 1 "told_set" ["members"] spToldSet := by
  refine F.def (fun _ _ _ _ _ _ us hl => match us, hl with | [_], _ => rfl) fun f fd F => ?_
  refine F.ok scToldSet (fun vs H Q E h => ?_) (fun cdv A outer s H vs Q E hr h => ⟨_, pss_one (ps_ret (pe_op op_cat (pe_lst (pa_cons (pe_callB n_len (by rfl) B.len PySem.boot_len (pa_cons (pv 0) pa_nil)) pa_nil)) (pv 0))), ?_⟩)
  · obtain ⟨a, xs, rfl, _⟩ := h
    rfl
  · obtain ⟨a, xs, rfl, ha, hl, k⟩ := h
    refine ⟨_, rfl, a, _, rfl, .inl (SqL.of ha), by show 1 ≤ sizeLine; decide, fun L hL => ⟨_, rfl, L, a, _, _, rfl, rfl, upd_same, (Same.new hL) _ _ ha, ?_, fun p hp => ?_⟩⟩
    · rw [List.length_map, line_eq]
      show 1 + _ ≤ _
      omega
    · have e := (Same.new (H := H) (o := .lst [.int ((zv xs).length : Nat)]) hL).put2 (o := .lst ([.int ((zv xs).length : Nat)] ++ zv xs)) hp
      refine k _ p e ((Same.new hL).free hp) ?_
      rw [upd_same, List.length_map]
      rfl
/-! ### answer_shown -/
abbrev sAnsShown : Stmt := top 102
abbrev nAnsShown : List Str := ["held", "form"]
def spAnsShown (K : PySem.W.Frag) (CH CT : Addr) : Sp := fun vs H Q _ => ∃ (h : Addr) (d : Vamvsf.Held), vs = [.ref h] ∧ HasAt K CH CT H h d ∧ newInts H (encode (Vamvsf.looked d .shown)) Q
theorem scAnsShown : FnScope nAnsShown ["held"] (defScope sAnsShown) := ⟨rfl, rfl, rfl, by decide +kernel, rfl, by decide +kernel, by decide +kernel⟩
theorem bv_zv (b : Bytes) : bv b = zv (b.map fun c => (c.toNat : Int)) := by
  rw [zv, List.map_map]
  rfl
theorem ok_answer_shown (B : Bn mg) (HC : HeldC K CH) (D : Def P w K mg base CX0 2 "one_form" ["table"] (spOneForm CT)) (F : FunG K mg "answer_shown" sAnsShown) : Def P w K mg base CX0 3 "answer_shown" ["held"] (spAnsShown K CH CT) := by
  refine F.def (fun _ _ _ _ _ _ us hl => match us, hl with | [_], _ => rfl) fun f fd F => ?_
  have nd := scAnsShown.nd
  refine F.ok scAnsShown (fun vs H Q E h => ?_) (fun cdv A outer s H vs Q E hr h => ⟨_, pss_cons (ps_set (i := 1) nd rfl (Or.inl rfl) (cl D hr pass0 (pa_cons (pe_fld (pv 0) rfl) pa_nil)))
    (pss_one (ps_ret (pe_op op_cat (pe_lst (pa_cons (pe_callB n_len (by rfl) B.len PySem.boot_len (pa_cons (pv 1) pa_nil)) pa_nil)) (pv 1)))), ?_⟩)
  · obtain ⟨h, d, rfl, _⟩ := h
    rfl
  · obtain ⟨h, d, rfl, hh, k⟩ := h
    obtain ⟨dx, ta, r, l, g, h1, h2, h3, h4, h5⟩ := hh.ex
    refine ⟨_, rfl, h, CH, dx, _, _, rfl, h1, HC.cl, HC.nt, heldF_t _ _ _ _ _, ta, d.t, rfl, h2, hh.ok.right, fun H1 q e1 nq hq => ?_⟩
    have hsl := shown_len hh.ok.right
    refine ⟨_, rfl, q, _, rfl, .inl (SqL.of hq), by show 1 ≤ sizeLine; decide, fun L hL => ⟨_, rfl, L, q, _, _, rfl, rfl, upd_same, (Same.new hL) _ _ hq, ?_, fun p hp => ?_⟩⟩
    · rw [List.length_map, line_eq]
      show 1 + _ ≤ _
      omega
    · have e := (Same.new (H := H1) (o := .lst [.int ((bv (Vamvsa.shown d.t)).length : Nat)]) hL).put2 (o := .lst ([.int ((bv (Vamvsa.shown d.t)).length : Nat)] ++ bv (Vamvsa.shown d.t))) hp
      refine k _ p (e1.trans e) (e1.free ((Same.new hL).free hp)) ?_
      rw [upd_same, List.length_map, bv_zv]
      rfl
/-! ### answer_changes -/
abbrev sAnsChanges : Stmt := top 104
abbrev nAnsChanges : List Str := ["held", "changes"]
/-- an answer, and what is held then -/
def AnsK (K : PySem.W.Frag) (CH CT h G : Addr) (H : Hp) (Q : VK) (r : Vamvsf.Obj × Answer) : Prop := ∀ (H' : Hp) (p : Addr), SameX h H H' → HeldAt K CH CT (Off G H') h r.1 → H p = none → H' p = some (.lst (zv (encode r.2))) → Q (.ref p) H'
def spAnsChanges (K : PySem.W.Frag) (CH CT : Addr) : Sp := fun vs H Q _ => ∃ (h G : Addr) (d : Vamvsf.Held) (c : Int), vs = [.ref h, .int c] ∧ HasAt K CH CT (Off G H) h d ∧ AnsK K CH CT h G H Q (Vamvsf.step (some d) (.changes c))
theorem scAnsChanges : FnScope nAnsChanges ["held", "changes"] (defScope sAnsChanges) := ⟨rfl, rfl, rfl, by decide +kernel, rfl, by decide +kernel, by decide +kernel⟩
theorem ok_answer_changes (HC : HeldC K CH) (G1 : GInt mg "MOST_CHANGES" 1000) (G2 : GInt mg "WRONG_CHANGES" 4) (D : Def P w K mg base CX0 1 "refusal" ["code"] spRefusal) (F : FunG K mg "answer_changes" sAnsChanges) : Def P w K mg base CX0 2 "answer_changes" ["held", "changes"] (spAnsChanges K CH CT) := by
  refine F.def (fun _ _ _ _ _ _ us hl => match us, hl with | [_, _], _ => rfl) fun f fd F => ?_
  have nd := scAnsChanges.nd
  refine F.ok scAnsChanges (fun vs H Q E h => ?_) (fun cdv A outer s H vs Q E hr h => ⟨_, pss_cons (ps_if (PW.pt (pw_or (pt_cmpR op_lt (pv 1) pe_int (nomark _)) (pw_or1 (pt_cmpR op_gt (pv 1) (gi G1) (nomark _)))))
      (pss_one (ps_ret (cl D hr pass0 (pa_cons (gi G2) pa_nil)))) pss_nil)
    (pss_cons (ps_fld (pv 0) (pv 1) rfl) (pss_one (ps_ret (pe_lst (pa_cons pe_int pa_nil))))), ?_⟩)
  · obtain ⟨h, G, d, c, rfl, _⟩ := h
    rfl
  · obtain ⟨h, G, d, c, rfl, hh, k⟩ := h
    obtain ⟨dx, ta, r, l, g, h1, h2, h3, h4, h5⟩ := hh.ex
    obtain ⟨h1', hG⟩ := off_of h1
    have bad : (c < 0 ∨ 1000 < c) → newInts H [-4] Q := fun hb => by
      intro H' p e np hp
      have e2 : Vamvsf.step (some d) (.changes c) = (some d, VamvsBase.one (-4)) := if_pos hb
      rw [e2] at k
      exact k H' p (SameX.of e) (hh.same e.off) np hp
    have go : ¬ (c < 0 ∨ 1000 < c) → ∃ v, [some (V.ref h), some (V.int c)][1]? = some (some v) ∧ sFld K (tVar 0) (tVar 1) "changes" { nx := fun σ H => tRet (tLst (tCons (tC (.int 1)) tNil)) { nx := fun _ H' => Q .non H', rt := Q } σ H, rt := Q } [some (.ref h), some (.int c)] H := fun hb => by
      refine ⟨_, rfl, ?_⟩
      have e2 : Vamvsf.step (some d) (.changes c) = (some { d with c := c.toNat }, VamvsBase.one 1) := if_neg hb
      rw [e2] at k
      refine ⟨_, rfl, _, rfl, h, CH, dx, _, rfl, h1', HC.cl, HC.nc, by show 5 < 1000; decide, ?_⟩
      rw [heldF_pc]
      refine ⟨by show 1 ≤ sizeLine; decide, fun p hp => ?_⟩
      have x1 : SameX h H (upd H h (.ins CH dx (heldF (.ref ta) r c l g))) := (SameX.refl h H).putA
      have hph : p ≠ h := fun z => by rw [z, upd_same] at hp; cases hp
      have hp0 : H p = none := by rw [upd_ne hph] at hp; exact hp
      have x2 := x1.put (o := .lst [.int 1]) hp0
      refine k _ p x2 ?_ hp0 upd_same
      have hcn : ((c.toNat : Nat) : Int) = c := by omega
      refine ⟨⟨hh.ok.right, hh.ok.who, hh.ok.four, by show c.toNat ≤ 1000; omega, hh.ok.lo, hh.ok.hi⟩, dx, ta, r, l, g, ?_, h2.sameX x2.off h1, x2.off.seq h1 h3, x2.off.seq h1 h4, x2.off.seq h1 h5⟩
      refine off_at ?_ hG
      rw [upd_ne (Ne.symm hph), upd_same]
      show some (HO.ins CH dx (heldF (.ref ta) r c l g)) = some (HO.ins CH dx (heldF (.ref ta) r ((c.toNat : Nat) : Int) l g))
      rw [hcn]
    refine ⟨_, rfl, _, _, rfl, rfl, _, rfl, if_d (fun hc => ?_) fun hc => ?_⟩
    · exact ⟨_, rfl, bad (.inl hc)⟩
    · refine ⟨_, rfl, _, _, rfl, rfl, _, rfl, if_d (fun hc2 => ?_) fun hc2 => ?_⟩
      · exact ⟨_, rfl, bad (.inr hc2)⟩
      · obtain ⟨v, _, hgo⟩ := go (fun z => z.elim hc hc2)
        exact hgo
end
end SR
set_option Elab.async false
set_option linter.all false
set_option maxRecDepth 100000
set_option maxHeartbeats 2000000
namespace SR
open PySem PySem.Spec PyProof.Rows L2
open VamvsBase (Bytes word joined showNat showInt Answer)
theorem costs_eq {d : Vamvsf.Held} (ok : HeldOk d) : Vamvsf.costsOf d = aloneM d.t d.who d.c := alone_eq d.t ok.right.fits ok.who ok.four d.c
theorem alone_len (t : Vamvsa.Table) (who : List Nat) (c : Nat) : (aloneM t who c).length = 16 := by simp [aloneM]
section
variable {P : Program} {w : World} {K : PySem.W.Frag} {mg : Str → Option Value} {base : Heap} {CT CH : Addr}
/-! ### groups_alone, answer_alone -/
abbrev sGroupsAlone : Stmt := top 106
def spGroupsAlone (K : PySem.W.Frag) (CH CT : Addr) : Sp := fun vs H Q _ => ∃ (h : Addr) (d : Vamvsf.Held), vs = [.ref h] ∧ HasAt K CH CT H h d ∧ newList H (aloneM d.t d.who d.c) Q
theorem scGroupsAlone : FnScope ["held"] ["held"] (defScope sGroupsAlone) := ⟨rfl, rfl, rfl, by decide +kernel, rfl, by decide +kernel, by decide +kernel⟩
theorem ok_groups_alone (HC : HeldC K CH) (D : Def P w K mg base CX0 4 "all_alone" ["table", "readers", "changes"] (spAllAlone K CT)) (F : FunG K mg "groups_alone" sGroupsAlone) : Def P w K mg base CX0 5 "groups_alone" ["held"] (spGroupsAlone K CH CT) := by
  refine F.def (fun _ _ _ _ _ _ us hl => match us, hl with | [_], _ => rfl) fun f fd F => ?_
  refine F.ok scGroupsAlone (fun vs H Q E h => ?_) (fun cdv A outer s H vs Q E hr h => ⟨_, pss_one (ps_ret (cl D hr pass0 (pa_cons (pe_fld (pv 0) rfl) (pa_cons (pe_fld (pv 0) rfl) (pa_cons (pe_fld (pv 0) rfl) pa_nil))))), ?_⟩)
  · obtain ⟨h, d, rfl, _⟩ := h
    rfl
  · obtain ⟨h, d, rfl, hh, k⟩ := h
    obtain ⟨dx, ta, r, l, g, h1, h2, h3, h4, h5⟩ := hh.ex
    exact ⟨_, rfl, h, CH, dx, _, _, rfl, h1, HC.cl, HC.nt, heldF_t _ _ _ _ _, _, rfl, h, CH, dx, _, _, rfl, h1, HC.cl, HC.nr, heldF_r _ _ _ _ _, _, rfl, h, CH, dx, _, _, rfl, h1, HC.cl, HC.nc, heldF_c _ _ _ _ _,
      ta, r, d.t, d.who, d.c, rfl, h2, hh.ok.right, h3, hh.ok.who, hh.ok.four, hh.ok.few, k⟩
abbrev sAnsAlone : Stmt := top 105
def spAnsAlone (K : PySem.W.Frag) (CH CT : Addr) : Sp := fun vs H Q _ => ∃ (h : Addr) (d : Vamvsf.Held) (s : Int), vs = [.ref h, .int s] ∧ HasAt K CH CT H h d ∧ newInts H (encode (Vamvsf.looked d (.alone s))) Q
theorem scAnsAlone : FnScope ["held", "group"] ["held", "group"] (defScope sAnsAlone) := ⟨rfl, rfl, rfl, by decide +kernel, rfl, by decide +kernel, by decide +kernel⟩
theorem ok_answer_alone (G1 : GInt mg "MOST_GROUP" 15) (G2 : GInt mg "NO_GROUP" 2) (D1 : Def P w K mg base CX0 1 "refusal" ["code"] spRefusal) (D : Def P w K mg base CX0 5 "groups_alone" ["held"] (spGroupsAlone K CH CT)) (F : FunG K mg "answer_alone" sAnsAlone) :
    Def P w K mg base CX0 6 "answer_alone" ["held", "group"] (spAnsAlone K CH CT) := by
  refine F.def (fun _ _ _ _ _ _ us hl => match us, hl with | [_, _], _ => rfl) fun f fd F => ?_
  refine F.ok scAnsAlone (fun vs H Q E h => ?_) (fun cdv A outer s H vs Q E hr h => ⟨_, pss_cons (ps_if (PW.pt (pw_or (pt_cmpR op_lt (pv 1) pe_int (nomark _)) (pw_or1 (pt_cmpR op_gt (pv 1) (gi G1) (nomark _)))))
      (pss_one (ps_ret (cl D1 (hr.mono (by decide)) pass0 (pa_cons (gi G2) pa_nil)))) pss_nil)
    (pss_one (ps_ret (pe_lst (pa_cons (pe_ix (n_ix (K := K)) (cl D hr pass0 (pa_cons (pv 0) pa_nil)) (pv 1) (fun _ _ => rfl)) pa_nil)))), ?_⟩)
  · obtain ⟨h, d, s, rfl, _⟩ := h
    rfl
  · obtain ⟨h, d, z, rfl, hh, k⟩ := h
    have bad : ¬ (0 ≤ z ∧ z < 16) → newInts H [-2] Q := fun hb => by
      have e : Vamvsf.looked d (.alone z) = VamvsBase.one (-2) := by
        have ei : VamvsBase.index z Vamvsf.GROUPS = none := if_neg hb
        simp only [Vamvsf.looked, ei]
      rw [e] at k
      exact k
    refine ⟨_, rfl, _, _, rfl, rfl, _, rfl, if_d (fun hc => ?_) fun hc => ?_⟩
    · exact ⟨_, rfl, bad (by omega)⟩
    · refine ⟨_, rfl, _, _, rfl, rfl, _, rfl, if_d (fun hc2 => ?_) fun hc2 => ?_⟩
      · exact ⟨_, rfl, bad (by omega)⟩
      · obtain ⟨n, rfl⟩ : ∃ n : Nat, z = (n : Int) := ⟨z.toNat, by omega⟩
        have e : Vamvsf.looked d (.alone (n : Int)) = VamvsBase.one ((aloneM d.t d.who d.c).getD n 0 : Nat) := by
          have ei : VamvsBase.index (n : Int) Vamvsf.GROUPS = some n := (if_pos ⟨by omega, by show (n : Int) < 16; omega⟩).trans (by rw [Int.toNat_natCast])
          simp only [Vamvsf.looked, ei, costs_eq hh.ok]
        rw [e] at k
        refine ⟨_, rfl, h, d, rfl, hh, fun H1 q e1 nq hq => ?_⟩
        refine ⟨_, rfl, q, _, n, rfl, rfl, SqL.of hq, by rw [alone_len]; omega, by show 1 ≤ sizeLine; decide, fun p hp => ?_⟩
        exact k _ p (e1.put2 hp) (e1.free hp) upd_same
/-! ### answer_shares -/
abbrev sAnsShares : Stmt := top 107
abbrev nAnsShares : List Str := ["held", "alone", "answer", "numerator", "denominator"]
def spAnsShares (K : PySem.W.Frag) (CH CT : Addr) : Sp := fun vs H Q _ => ∃ (h : Addr) (d : Vamvsf.Held), vs = [.ref h] ∧ HasAt K CH CT H h d ∧ newInts H (encode (Vamvsf.looked d .shares)) Q
theorem scAnsShares : FnScope nAnsShares ["held"] (defScope sAnsShares) := ⟨rfl, rfl, rfl, by decide +kernel, rfl, by decide +kernel, by decide +kernel⟩
theorem ok_answer_shares (G1 : GInt mg "MOST_GROUP" 15) (D : Def P w K mg base CX0 5 "groups_alone" ["held"] (spGroupsAlone K CH CT)) (D2 : Def P w K mg base CX0 4 "all_shares" ["alone"] (spAllShares K)) (F : FunG K mg "answer_shares" sAnsShares) :
    Def P w K mg base CX0 6 "answer_shares" ["held"] (spAnsShares K CH CT) := by
  refine F.def (fun _ _ _ _ _ _ us hl => match us, hl with | [_], _ => rfl) fun f fd F => ?_
  have nd := scAnsShares.nd
  refine F.ok scAnsShares (fun vs H Q E h => ?_) (fun cdv A outer s H vs Q E hr h => ⟨_, pss_cons (ps_set (i := 1) nd rfl (Or.inl rfl) (cl D hr pass0 (pa_cons (pv 0) pa_nil)))
    (pss_cons (ps_set (i := 2) nd rfl (Or.inl rfl) (pe_lst (pa_cons (pe_ix (n_ix (K := K)) (pv 1) (gi G1) (fun _ _ => rfl)) pa_nil)))
    (pss_cons (ps_for PassesOwn.never rfl (pi_list (cl D2 (hr.mono (by decide)) pass0 (pa_cons (pv 1) pa_nil))) (pg_tup rfl (pgs_cons (pg_name (i := 3) nd rfl (Or.inl rfl)) (pgs_cons (pg_name (i := 4) nd rfl (Or.inl rfl)) pgs_nil)))
      (pss_cons (ps_expr (pe_bm PySem.F.plainAttrs_list PySem.F.slot_list_append PySem.F.type_list_append mt_append (pv 2) (pa_cons (pv 3) pa_nil)))
      (pss_one (ps_expr (pe_bm PySem.F.plainAttrs_list PySem.F.slot_list_append PySem.F.type_list_append mt_append (pv 2) (pa_cons (pv 4) pa_nil))))))
    (pss_one (ps_ret (pv 2))))), ?_⟩)
  · obtain ⟨h, d, rfl, _⟩ := h
    rfl
  · obtain ⟨h, d, rfl, hh, k⟩ := h
    have e : encode (Vamvsf.looked d .shares) = (((aloneM d.t d.who d.c).getD 15 0 : Nat) : Int) :: (Vamvsf.shares (aloneM d.t d.who d.c)).flatMap VamvsBase.fracRow := by
      simp only [Vamvsf.looked, encode, costs_eq hh.ok]
      rfl
    rw [e] at k
    refine ⟨_, rfl, h, d, rfl, hh, fun H1 q e1 nq hq => ?_⟩
    refine ⟨_, rfl, q, _, 15, rfl, rfl, SqL.of hq, by rw [alone_len]; decide, by show 1 ≤ sizeLine; decide, fun L hL => ?_⟩
    have e2 : Same H1 (upd H1 L (.lst [.int (((aloneM d.t d.who d.c).getD 15 0 : Nat) : Int)])) := Same.new hL
    refine ⟨_, rfl, q, _, rfl, SqL.of (e2 _ _ hq), alone_len _ _ _, fun r hr => added_nonneg d.t hh.ok.right.fits hh.ok.who d.c hr, fun H2 z ps e3 nz hz hA => ?_⟩
    have hsl : (Vamvsf.shares (aloneM d.t d.who d.c)).length = 4 := by rw [shares_eq]; rfl
    have hL2 := e3 _ _ (upd_same (H := H1) (a := L) (o := .lst [.int (((aloneM d.t d.who d.c).getD 15 0 : Nat) : Int)]))
    have hzL : z ≠ L := fun x => by rw [x, upd_same] at nz; cases nz
    have e12 := e1.trans e2
    have hLH : H L = none := e1.free hL
    refine ⟨z, rfl, ⟨_, SqL.of hz⟩, for_it (walk_list (K := K) (a := z) (xs := ps.map V.ref))
      (fun i σ H' => ∃ x3 x4 : Option V, σ = [some (.ref h), some (.ref q), some (.ref L), x3, x4] ∧ Same H H' ∧ H' z = some (.lst (ps.map V.ref)) ∧ AllAt FracAt H' ps (Vamvsf.shares (aloneM d.t d.who d.c)) ∧ H' L = some (.lst (zv ((((aloneM d.t d.who d.c).getD 15 0 : Nat) : Int) :: ((Vamvsf.shares (aloneM d.t d.who d.c)).take i).flatMap VamvsBase.fracRow))))
      ⟨none, none, rfl, e12.trans e3, hz, hA, hL2⟩ (fun i σ H' _ ⟨_, _, _, _, hz', _, _⟩ => SqL.of hz') ?_ ?_⟩
    · rintro i x σ H3 H4 hi ⟨x3, x4, rfl, e4, hz4, hA4, hL4⟩ ⟨rfl, hx⟩
      obtain ⟨p, hp, rfl⟩ := refs_at hx
      have hil : i < (Vamvsf.shares (aloneM d.t d.who d.c)).length := by rw [← hA4.len]; exact (List.getElem?_eq_some_iff.mp hp).1
      have hfi := List.getElem?_eq_getElem hil
      have hF := hA4.at_ i p _ hp hfi
      have flen : ∀ j, (((Vamvsf.shares (aloneM d.t d.who d.c)).take j).flatMap VamvsBase.fracRow).length ≤ 8 := fun j => by
        have key : ∀ l : List VamvsBase.Frac, (l.flatMap VamvsBase.fracRow).length = 2 * l.length := by
          intro l
          induction l with
          | nil => rfl
          | cons f l ih => rw [List.flatMap_cons, List.length_append, ih, List.length_cons]; show 2 + _ = _; omega
        rw [key, List.length_take, hsl]
        omega
      have hfl := flen i
      refine ⟨p, _, rfl, SqT.of hF, rfl, _, _, rfl, _, _, rfl, rfl, ?_⟩
      refine ⟨_, rfl, .inl ⟨rfl, _, SqL.of hL4⟩, _, rfl, L, _, _, rfl, rfl, hL4, by rw [List.length_map, List.length_cons, line_eq]; omega, ?_⟩
      refine ⟨_, rfl, .inl ⟨rfl, _, SqL.of upd_same⟩, _, rfl, L, _, _, rfl, rfl, upd_same, by rw [List.length_append, List.length_map, List.length_cons, line_eq]; show _ + 1 < _; omega, _, _, rfl, (e4.put hLH).put hLH, ?_, ?_, ?_⟩
      · rw [upd_ne hzL, upd_ne hzL]
        exact hz4
      · refine hA4.map fun p x hpx => ?_
        unfold FracAt at hpx ⊢
        have hne : p ≠ L := fun y => by rw [y, hL4] at hpx; cases hpx
        rw [upd_ne hne, upd_ne hne]
        exact hpx
      · rw [upd_same, take_succ' hfi, List.flatMap_append]
        rw [List.flatMap_cons, List.flatMap_nil, List.append_nil]
        simp only [zv, List.map_cons, List.map_append, VamvsBase.fracRow, List.map_nil, List.cons_append, List.append_assoc, List.nil_append]
    · rintro σ H3 ⟨x3, x4, rfl, e4, hz4, hA4, hL4⟩
      rw [List.length_map, hA4.len, List.take_length] at hL4
      exact ⟨_, rfl, k H3 L e4 hLH hL4⟩
/-! ### answer_unhappy -/
abbrev sAnsUnhappy : Stmt := top 108
def spAnsUnhappy (K : PySem.W.Frag) (CH CT : Addr) : Sp := fun vs H Q _ => ∃ (h : Addr) (d : Vamvsf.Held), vs = [.ref h] ∧ HasAt K CH CT H h d ∧ newInts H (encode (Vamvsf.looked d .unhappy)) Q
theorem scAnsUnhappy : FnScope ["held"] ["held"] (defScope sAnsUnhappy) := ⟨rfl, rfl, rfl, by decide +kernel, rfl, by decide +kernel, by decide +kernel⟩
theorem ok_answer_unhappy (D : Def P w K mg base CX0 5 "groups_alone" ["held"] (spGroupsAlone K CH CT)) (D2 : Def P w K mg base CX0 4 "unhappy_groups" ["alone"] (spUnhappy K)) (D3 : Def P w K mg base CX0 1 "told_set" ["members"] spToldSet) (F : FunG K mg "answer_unhappy" sAnsUnhappy) :
    Def P w K mg base CX0 6 "answer_unhappy" ["held"] (spAnsUnhappy K CH CT) := by
  refine F.def (fun _ _ _ _ _ _ us hl => match us, hl with | [_], _ => rfl) fun f fd F => ?_
  refine F.ok scAnsUnhappy (fun vs H Q E h => ?_) (fun cdv A outer s H vs Q E hr h => ⟨_, pss_one (ps_ret (cl D3 (hr.mono (by decide)) pass0 (pa_cons (cl D2 (hr.mono (by decide)) pass0 (pa_cons (cl D hr pass0 (pa_cons (pv 0) pa_nil)) pa_nil)) pa_nil))), ?_⟩)
  · obtain ⟨h, d, rfl, _⟩ := h
    rfl
  · obtain ⟨h, d, rfl, hh, k⟩ := h
    have e : encode (Vamvsf.looked d .unhappy) = ((Vamvsf.nats (unhappyM (aloneM d.t d.who d.c))).length : Int) :: Vamvsf.nats (unhappyM (aloneM d.t d.who d.c)) := by
      simp only [Vamvsf.looked, encode, costs_eq hh.ok, unhappy_eq]
      rw [Vamvsf.nats, List.length_map]
    rw [e] at k
    refine ⟨_, rfl, h, d, rfl, hh, fun H1 q e1 nq hq => ?_⟩
    refine ⟨q, _, rfl, SqL.of hq, alone_len _ _ _, alone_small d.t hh.ok.right hh.ok.who d.c, fun H2 z e2 nz hz => ?_⟩
    refine ⟨z, Vamvsf.nats (unhappyM (aloneM d.t d.who d.c)), rfl, by rw [zv_iv]; exact hz, ?_, fun H3 p e3 np hp => k H3 p ((e1.trans e2).trans e3) ((e1.trans e2).free np) hp⟩
    have : (unhappyM (aloneM d.t d.who d.c)).length ≤ 16 := by
      unfold unhappyM
      refine Nat.le_trans (List.length_filter_le _ _) ?_
      simp
    rw [Vamvsf.nats, List.length_map]
    omega
end
end SR
set_option Elab.async false
set_option linter.all false
set_option maxRecDepth 100000
set_option maxHeartbeats 2000000
namespace SR
open PySem PySem.Spec PyProof.Rows L2
open VamvsBase (Bytes word joined showNat showInt Answer)
theorem n_ne {X : Cx} : OpR X (compareOp .NotEq) (fun x y H Q => ∃ a b : Nat, x = .int (a : Nat) ∧ y = .int (b : Nat) ∧ Q (.bl (decide (a ≠ b))) H) := OpR.weak op_ne fun x y H Q ⟨a, b, h1, h2, q⟩ => by
  subst h1 h2
  refine ⟨rfl, ?_⟩
  have e : (!decide (V.int (a : Int) = V.int (b : Int))) = decide (a ≠ b) := by
    rw [← decide_not]
    congr 1
    exact propext ⟨fun z y => z (by rw [y]), fun z y => z (by injection y with y; omega)⟩
  rw [e]
  exact q
theorem zv_at {l : List Int} {i : Nat} {x : V} (h : (zv l)[i]? = some x) : ∃ z, l[i]? = some z ∧ x = .int z := by
  rw [List.getElem?_map] at h
  cases e : l[i]? with
  | none => rw [e] at h; cases h
  | some z =>
    rw [e] at h
    cases h
    exact ⟨z, rfl, rfl⟩
theorem zv_nats {l : List Int} (h : ∀ z ∈ l, 0 ≤ z) : zv l = iv (l.map fun z => z.toNat) := by
  rw [iv, List.map_map]
  refine List.map_congr_left fun z hz => ?_
  have := h z hz
  show V.int z = V.int ((z.toNat : Nat) : Int)
  rw [Int.toNat_of_nonneg this]
section
variable {P : Program} {w : World} {K : PySem.W.Frag} {mg : Str → Option Value} {base : Heap} {CT CH : Addr}
/-! ### answer_readers -/
abbrev sAnsReaders : Stmt := top 103
abbrev nAnsReaders : List Str := ["held", "readers", "reader"]
def spAnsReaders (K : PySem.W.Frag) (CH CT : Addr) : Sp := fun vs H Q _ => ∃ (h rp G : Addr) (d : Vamvsf.Held) (l : List Int), vs = [.ref h, .ref rp] ∧ HasAt K CH CT (Off G H) h d ∧ SqL K (Off G H) rp (zv l) ∧ AnsK K CH CT h G H Q (Vamvsf.step (some d) (.readers l))
theorem scAnsReaders : FnScope nAnsReaders ["held", "readers"] (defScope sAnsReaders) := ⟨rfl, rfl, rfl, by decide +kernel, rfl, by decide +kernel, by decide +kernel⟩
theorem ok_answer_readers (B : Bn mg) (HC : HeldC K CH) (TC : TabC K CT) (G1 : GInt mg "MOST_READER" 3) (G2 : GInt mg "WRONG_LIST" 3) (D : Def P w K mg base CX0 1 "refusal" ["code"] spRefusal) (F : FunG K mg "answer_readers" sAnsReaders) : Def P w K mg base CX0 2 "answer_readers" ["held", "readers"] (spAnsReaders K CH CT) := by
  refine F.def (fun _ _ _ _ _ _ us hl => match us, hl with | [_, _], _ => rfl) fun f fd F => ?_
  have nd := scAnsReaders.nd
  refine F.ok scAnsReaders (fun vs H Q E h => ?_) (fun cdv A outer s H vs Q E hr h => ⟨_, pss_cons (ps_if (pt_cmpR n_ne (pe_callB n_len (by rfl) B.len PySem.boot_len (pa_cons (pv 1) pa_nil)) (pe_callB n_len (by rfl) B.len PySem.boot_len (pa_cons (pe_fld (pe_fld (pv 0) rfl) rfl) pa_nil)) (nomark _))
      (pss_one (ps_ret (cl D hr pass0 (pa_cons (gi G2) pa_nil)))) pss_nil)
    (pss_cons (ps_for PassesOwn.never rfl (pi_list (pv 1)) (pg_name (i := 2) nd rfl (Or.inl rfl))
      (pss_one (ps_if (PW.pt (pw_or (pt_cmpR op_lt (pv 2) pe_int (nomark _)) (pw_or1 (pt_cmpR op_gt (pv 2) (gi G1) (nomark _))))) (pss_one (ps_ret (cl D hr pass0 (pa_cons (gi G2) pa_nil)))) pss_nil)))
    (pss_cons (ps_fld (pv 0) (pv 1) rfl) (pss_one (ps_ret (pe_lst (pa_cons pe_int pa_nil)))))), ?_⟩)
  · obtain ⟨h, rp, G, d, l, rfl, _⟩ := h
    rfl
  · obtain ⟨h, rp, G, d, l, rfl, hh, hlo, k⟩ := h
    have hl := off_same.seq hlo
    obtain ⟨dx, ta, r, lw, g, h1o, h2o, h3o, h4o, h5o⟩ := hh.ex
    obtain ⟨h1, hG⟩ := off_of h1o
    have h2 := h2o.same off_same
    obtain ⟨dt, c', r', q, rs, qs, t1, t2, t3, t4, t5, t6⟩ := h2.ex
    have bad : (l.length ≠ d.t.asks.length ∨ l.any (fun z => (VamvsBase.index z Vamvsf.READERS).isNone) = true) → newInts H [-3] Q := fun hb => by
      intro H' p e np hp
      have e2 : Vamvsf.step (some d) (.readers l) = (some d, VamvsBase.one (-3)) := if_pos hb
      rw [e2] at k
      exact k H' p (SameX.of e) (hh.same e.off) np hp
    refine ⟨_, rfl, rp, _, rfl, .inl hl, _, rfl, h, CH, dx, _, _, rfl, h1, HC.cl, HC.nt, heldF_t _ _ _ _ _, ta, CT, dt, _, _, rfl, t1, TC.cl, TC.nq, tabF_q c' r' q, q, _, rfl, .inl (SqL.of t4), _, _, rfl, rfl, _, rfl, ?_⟩
    rw [List.length_map, List.length_map, t6.len]
    refine if_d (fun hc => ?_) fun hc => ?_
    · exact ⟨_, rfl, bad (.inl hc)⟩
    · have hc : l.length = d.t.asks.length := Classical.not_not.mp hc
      have one_bad : ∀ (i : Nat) (z : Int), l[i]? = some z → ¬ (0 ≤ z ∧ z < 4) → newInts H [-3] Q := fun i z hz hn => by
        refine bad (.inr ?_)
        rw [List.any_eq_true]
        refine ⟨z, List.mem_of_getElem? hz, ?_⟩
        have : VamvsBase.index z Vamvsf.READERS = none := if_neg hn
        rw [this]
        rfl
      refine ⟨_, rfl, rp, rfl, ⟨_, hl⟩, for_it (walk_list (K := K) (a := rp) (xs := zv l))
        (fun i σ H' => ∃ x2 : Option V, σ = [some (.ref h), some (.ref rp), x2] ∧ H' = H ∧ ∀ (j : Nat) (z : Int), j < i → l[j]? = some z → 0 ≤ z ∧ z < 4)
        ⟨none, rfl, rfl, fun _ _ hj => absurd hj (Nat.not_lt_zero _)⟩ (fun i σ H' _ ⟨_, _, e, _⟩ => by rw [e]; exact hl) ?_ ?_⟩
      · rintro i x σ H1 H2 hi ⟨x2, rfl, rfl, hok⟩ ⟨rfl, hx⟩
        obtain ⟨z, hz, rfl⟩ := zv_at hx
        refine ⟨_, rfl, _, _, rfl, rfl, _, rfl, if_d (fun hc1 => ?_) fun hc1 => ?_⟩
        · exact ⟨_, rfl, one_bad i z hz (by omega)⟩
        · refine ⟨_, rfl, _, _, rfl, rfl, _, rfl, if_d (fun hc2 => ?_) fun hc2 => ?_⟩
          · exact ⟨_, rfl, one_bad i z hz (by omega)⟩
          · refine ⟨_, rfl, rfl, fun j y hj hy => ?_⟩
            by_cases hji : j = i
            · subst hji
              rw [hz] at hy
              cases hy
              omega
            · exact hok j y (by omega) hy
      · rintro σ H1 ⟨x2, rfl, rfl, hok⟩
        rw [List.length_map] at hok
        have hall : ∀ z ∈ l, 0 ≤ z ∧ z < 4 := fun z hz => by
          obtain ⟨j, hj, e⟩ := List.getElem_of_mem hz
          exact hok j z hj (by rw [List.getElem?_eq_getElem hj, e])
        have hgood : ¬ (l.length ≠ d.t.asks.length ∨ l.any (fun z => (VamvsBase.index z Vamvsf.READERS).isNone) = true) := fun hz => by
          rcases hz with hz | hz
          · exact hz hc
          · rw [List.any_eq_true] at hz
            obtain ⟨z, h1, h2⟩ := hz
            have e : VamvsBase.index z Vamvsf.READERS = some z.toNat := if_pos (hall z h1)
            rw [e] at h2
            cases h2
        have e2 : Vamvsf.step (some d) (.readers l) = (some { d with who := l.map fun z => z.toNat }, VamvsBase.one 1) := if_neg hgood
        rw [e2] at k
        refine ⟨_, rfl, _, rfl, h, CH, dx, _, rfl, h1, HC.cl, HC.nr, by show 5 < 1000; decide, ?_⟩
        rw [heldF_pr]
        refine ⟨by show 1 ≤ sizeLine; decide, fun p hp => ?_⟩
        have x1 : SameX h H1 (upd H1 h (.ins CH dx (heldF (.ref ta) rp (d.c : Nat) lw g))) := (SameX.refl h H1).putA
        have hph : p ≠ h := fun z => by rw [z, upd_same] at hp; cases hp
        have hp0 : H1 p = none := by rw [upd_ne hph] at hp; exact hp
        have x2 := x1.put (o := .lst [.int 1]) hp0
        refine k _ p x2 ?_ hp0 upd_same
        refine ⟨⟨hh.ok.right, by show (l.map _).length = _; rw [List.length_map]; exact hc, fun x hx => ?_, hh.ok.few, hh.ok.lo, hh.ok.hi⟩, dx, ta, rp, lw, g, off_at (by rw [upd_ne (Ne.symm hph), upd_same]) hG, h2o.sameX x2.off h1o, ?_, x2.off.seq h1o h4o, x2.off.seq h1o h5o⟩
        · obtain ⟨z, hz, rfl⟩ := List.mem_map.mp hx
          have := hall z hz
          show z.toNat < 4
          omega
        · have := x2.off.seq h1o hlo
          rw [zv_nats fun z hz => (hall z hz).1] at this
          exact this
/-! ### answer_bounds -/
abbrev sAnsBounds : Stmt := top 110
abbrev nAnsBounds : List Str := ["held", "low", "high", "count", "least", "most"]
def spAnsBounds (K : PySem.W.Frag) (CH CT : Addr) : Sp := fun vs H Q _ => ∃ (h lp gp G : Addr) (d : Vamvsf.Held) (lo hi : List Int), vs = [.ref h, .ref lp, .ref gp] ∧ HasAt K CH CT (Off G H) h d ∧ SqL K (Off G H) lp (zv lo) ∧ SqL K (Off G H) gp (zv hi) ∧ AnsK K CH CT h G H Q (Vamvsf.step (some d) (.bounds lo hi))
theorem scAnsBounds : FnScope nAnsBounds ["held", "low", "high"] (defScope sAnsBounds) := ⟨rfl, rfl, rfl, by decide +kernel, rfl, by decide +kernel, by decide +kernel⟩
theorem ok_answer_bounds (B : Bn mg) (HC : HeldC K CH) (TC : TabC K CT) (G1 : GInt mg "MOST_OFTEN" 99) (G2 : GInt mg "WRONG_LIST" 3) (D : Def P w K mg base CX0 1 "refusal" ["code"] spRefusal) (F : FunG K mg "answer_bounds" sAnsBounds) : Def P w K mg base CX0 2 "answer_bounds" ["held", "low", "high"] (spAnsBounds K CH CT) := by
  refine F.def (fun _ _ _ _ _ _ us hl => match us, hl with | [_, _, _], _ => rfl) fun f fd F => ?_
  have nd := scAnsBounds.nd
  refine F.ok scAnsBounds (fun vs H Q E h => ?_) (fun cdv A outer s H vs Q E hr h => ⟨_, pss_cons (ps_set (i := 3) nd rfl (Or.inl rfl) (pe_callB n_len (by rfl) B.len PySem.boot_len (pa_cons (pe_fld (pe_fld (pv 0) rfl) rfl) pa_nil)))
    (pss_cons (ps_if (PW.pt (pw_or (pt_cmpR n_ne (pe_callB n_len (by rfl) B.len PySem.boot_len (pa_cons (pv 1) pa_nil)) (pv 3) (nomark _)) (pw_or1 (pt_cmpR n_ne (pe_callB n_len (by rfl) B.len PySem.boot_len (pa_cons (pv 2) pa_nil)) (pv 3) (nomark _)))))
      (pss_one (ps_ret (cl D hr pass0 (pa_cons (gi G2) pa_nil)))) pss_nil)
    (pss_cons (ps_for PassesOwn.never rfl (pi_zip (by rfl) B.zip (pa_cons (pv 1) (pa_cons (pv 2) pa_nil))) (pg_tup rfl (pgs_cons (pg_name (i := 4) nd rfl (Or.inl rfl)) (pgs_cons (pg_name (i := 5) nd rfl (Or.inl rfl)) pgs_nil)))
      (pss_one (ps_if (PW.pt (pw_or (pt_cmpR op_lt (pv 4) pe_int (nomark _)) (pw_or (pt_cmpR op_gt (pv 5) (gi G1) (nomark _)) (pw_or1 (pt_cmpR op_gt (pv 4) (pv 5) (nomark _)))))) (pss_one (ps_ret (cl D hr pass0 (pa_cons (gi G2) pa_nil)))) pss_nil)))
    (pss_cons (ps_fld (pv 0) (pv 1) rfl) (pss_cons (ps_fld (pv 0) (pv 2) rfl) (pss_one (ps_ret (pe_lst (pa_cons pe_int pa_nil)))))))), ?_⟩)
  · obtain ⟨h, lp, gp, G, d, lo, hi, rfl, _⟩ := h
    rfl
  · obtain ⟨h, lp, gp, G, d, lo, hi, rfl, hh, hlO, hgO, k⟩ := h
    have hl := off_same.seq hlO
    have hg := off_same.seq hgO
    obtain ⟨dx, ta, r, lw, g, h1o, h2o, h3o, h4o, h5o⟩ := hh.ex
    obtain ⟨h1, hG⟩ := off_of h1o
    have h2 := h2o.same off_same
    obtain ⟨dt, c', r', q, rs, qs, t1, t2, t3, t4, t5, t6⟩ := h2.ex
    have bad : (lo.length ≠ d.t.asks.length ∨ hi.length ≠ d.t.asks.length ∨ (lo.zip hi).any (fun z => decide (z.1 < 0 ∨ z.2 < z.1 ∨ (Vamvsa.TIMES : Int) < z.2)) = true) → ∀ H', Same H H' → newInts H' [-3] Q := fun hb => by
      intro H1 e1 H' p e np hp
      have e2 : Vamvsf.boundsOf d lo hi = none := if_pos hb
      have e3 : Vamvsf.step (some d) (.bounds lo hi) = (some d, VamvsBase.one (-3)) := by
        simp only [Vamvsf.step, e2]
      rw [e3] at k
      exact k H' p (SameX.of (e1.trans e)) (hh.same (e1.trans e).off) (e1.free np) hp
    refine ⟨_, rfl, h, CH, dx, _, _, rfl, h1, HC.cl, HC.nt, heldF_t _ _ _ _ _, ta, CT, dt, _, _, rfl, t1, TC.cl, TC.nq, tabF_q c' r' q, q, _, rfl, .inl (SqL.of t4), ?_⟩
    rw [List.length_map, t6.len]
    refine ⟨_, rfl, lp, _, rfl, .inl hl, _, rfl, _, _, rfl, rfl, _, rfl, ?_⟩
    rw [List.length_map]
    refine if_d (fun hc => ?_) fun hc => ?_
    · exact ⟨_, rfl, bad (.inl hc) H (Same.refl H)⟩
    have hc : lo.length = d.t.asks.length := Classical.not_not.mp hc
    refine ⟨_, rfl, gp, _, rfl, .inl hg, _, rfl, _, _, rfl, rfl, _, rfl, ?_⟩
    rw [List.length_map]
    refine if_d (fun hd => ?_) fun hd => ?_
    · exact ⟨_, rfl, bad (.inr (.inl hd)) H (Same.refl H)⟩
    have hd : hi.length = d.t.asks.length := Classical.not_not.mp hd
    have one_bad : ∀ (i : Nat) (y z : Int), lo[i]? = some y → hi[i]? = some z → (y < 0 ∨ z < y ∨ 99 < z) → ∀ H', Same H H' → newInts H' [-3] Q := fun i y z hy hz hn => by
      refine bad (.inr (.inr ?_))
      rw [List.any_eq_true]
      refine ⟨(y, z), List.mem_of_getElem? (i := i) ?_, decide_eq_true hn⟩
      rw [List.getElem?_zip_eq_some]
      exact ⟨hy, hz⟩
    refine ⟨_, rfl, _, rfl, lp, gp, _, _, rfl, hl, hg, for_it (walk_zip (K := K) (a := lp) (b := gp) (xs := zv lo) (ys := zv hi) (n := d.t.asks.length) (by rw [List.length_map, List.length_map, hc, hd, Nat.min_self]))
      (fun i σ H' => ∃ x4 x5 : Option V, σ = [some (.ref h), some (.ref lp), some (.ref gp), some (.int (d.t.asks.length : Nat)), x4, x5] ∧ Same H H' ∧ ∀ (j : Nat) (y z : Int), j < i → lo[j]? = some y → hi[j]? = some z → 0 ≤ y ∧ y ≤ z ∧ z ≤ 99)
      ⟨none, none, rfl, Same.refl H, fun _ _ _ hj => absurd hj (Nat.not_lt_zero _)⟩ (fun i σ H' _ ⟨_, _, _, e, _⟩ => ⟨e.seq hl, e.seq hg⟩) ?_ ?_⟩
    · rintro i x σ H1 H2 hi' ⟨x4, x5, rfl, e, hok⟩ ⟨T, u, v, rfl, hT, rfl, hu, hv⟩
      obtain ⟨y, hy, rfl⟩ := zv_at hu
      obtain ⟨z, hz, rfl⟩ := zv_at hv
      have e2 := e.put2 (o := .tup [.int y, .int z]) hT
      refine ⟨T, _, rfl, SqT.of upd_same, rfl, _, _, rfl, _, _, rfl, rfl, ?_⟩
      refine ⟨_, rfl, _, _, rfl, rfl, _, rfl, if_d (fun hc1 => ?_) fun hc1 => ?_⟩
      · exact ⟨_, rfl, one_bad i y z hy hz (.inl hc1) _ e2⟩
      · refine ⟨_, rfl, _, _, rfl, rfl, _, rfl, if_d (fun hc2 => ?_) fun hc2 => ?_⟩
        · exact ⟨_, rfl, one_bad i y z hy hz (.inr (.inr hc2)) _ e2⟩
        · refine ⟨_, rfl, _, rfl, _, _, rfl, rfl, _, rfl, if_d (fun hc3 => ?_) fun hc3 => ?_⟩
          · exact ⟨_, rfl, one_bad i y z hy hz (.inr (.inl hc3)) _ e2⟩
          · refine ⟨_, _, rfl, e2, fun j y' z' hj hy' hz' => ?_⟩
            by_cases hji : j = i
            · subst hji
              rw [hy] at hy'
              rw [hz] at hz'
              cases hy'
              cases hz'
              omega
            · exact hok j y' z' (by omega) hy' hz'
    · rintro σ H1 ⟨x4, x5, rfl, e, hok⟩
      have hall : ∀ z ∈ lo.zip hi, 0 ≤ z.1 ∧ z.1 ≤ z.2 ∧ z.2 ≤ 99 := fun z hz => by
        obtain ⟨j, hj, ez⟩ := List.getElem_of_mem hz
        have hjz : (lo.zip hi)[j]? = some z := by rw [List.getElem?_eq_getElem hj, ez]
        rw [List.getElem?_zip_eq_some] at hjz
        rw [List.length_zip, hc, hd, Nat.min_self] at hj
        exact hok j z.1 z.2 hj hjz.1 hjz.2
      have hgood : ¬ (lo.length ≠ d.t.asks.length ∨ hi.length ≠ d.t.asks.length ∨ (lo.zip hi).any (fun z => decide (z.1 < 0 ∨ z.2 < z.1 ∨ (Vamvsa.TIMES : Int) < z.2)) = true) := fun hz => by
        rcases hz with hz | hz | hz
        · exact hz hc
        · exact hz hd
        · rw [List.any_eq_true] at hz
          obtain ⟨z, h1, h2⟩ := hz
          have h3 := of_decide_eq_true h2
          have h4 := hall z h1
          have : (Vamvsa.TIMES : Int) = 99 := rfl
          omega
      have e2 : Vamvsf.boundsOf d lo hi = some ⟨lo.map fun z => z.toNat, hi.map fun z => z.toNat⟩ := if_neg hgood
      have e3 : Vamvsf.step (some d) (.bounds lo hi) = (some { d with b := ⟨lo.map fun z => z.toNat, hi.map fun z => z.toNat⟩ }, VamvsBase.one 1) := by
        simp only [Vamvsf.step, e2]
      rw [e3] at k
      have hlo : ∀ y ∈ lo, 0 ≤ y := fun y hy => by
        obtain ⟨j, hj, ey⟩ := List.getElem_of_mem hy
        have hjh : j < hi.length := by omega
        exact (hok j y hi[j] (by omega) (by rw [List.getElem?_eq_getElem hj, ey]) (List.getElem?_eq_getElem hjh)).1
      have hhi : ∀ y ∈ hi, 0 ≤ y := fun y hy => by
        obtain ⟨j, hj, ey⟩ := List.getElem_of_mem hy
        have hjh : j < lo.length := by omega
        have := hok j lo[j] y (by omega) (List.getElem?_eq_getElem hjh) (by rw [List.getElem?_eq_getElem hj, ey])
        omega
      have h1' := e _ _ h1
      refine ⟨_, rfl, _, rfl, h, CH, dx, _, rfl, h1', HC.cl, HC.nl, by show 5 < 1000; decide, ?_⟩
      rw [heldF_pl]
      refine ⟨_, rfl, _, rfl, h, CH, dx, _, rfl, upd_same, HC.cl, HC.nh, by show 5 < 1000; decide, ?_⟩
      rw [heldF_ph]
      refine ⟨by show 1 ≤ sizeLine; decide, fun p hp => ?_⟩
      have x1 : SameX h H (upd (upd H1 h (.ins CH dx (heldF (.ref ta) r (d.c : Nat) lp g))) h (.ins CH dx (heldF (.ref ta) r (d.c : Nat) lp gp))) := ((SameX.of e).putA).putA
      have hph : p ≠ h := fun z => by rw [z, upd_same] at hp; cases hp
      have hp1 : H1 p = none := by rw [upd_ne hph, upd_ne hph] at hp; exact hp
      have hp0 : H p = none := e.free hp1
      have x2 := x1.put (o := .lst [.int 1]) hp0
      refine k _ p x2 ?_ hp0 upd_same
      refine ⟨⟨hh.ok.right, hh.ok.who, hh.ok.four, hh.ok.few, by show (lo.map _).length = _; rw [List.length_map]; exact hc, by show (hi.map _).length = _; rw [List.length_map]; exact hd⟩, dx, ta, r, lp, gp, off_at (by rw [upd_ne (Ne.symm hph), upd_same]) hG, h2o.sameX x2.off h1o, x2.off.seq h1o h3o, ?_, ?_⟩
      · have := x2.off.seq h1o hlO
        rw [zv_nats hlo] at this
        exact this
      · have := x2.off.seq h1o hgO
        rw [zv_nats hhi] at this
        exact this
end
end SR
set_option Elab.async false
set_option linter.all false
set_option maxRecDepth 100000
set_option maxHeartbeats 2000000
namespace SR
open PySem PySem.Spec PyProof.Rows L2
def setD (k : List Nat) : PyData := .list (k.map fun v => .int ((v : Nat) : Int))
theorem eqv_ints : ∀ a b : List Nat, PyData.eqvAll (a.map fun v => PyData.int ((v : Nat) : Int)) (b.map fun v => PyData.int ((v : Nat) : Int)) = decide (a = b)
  | [], [] => rfl
  | [], _ :: _ => rfl
  | _ :: _, [] => rfl
  | x :: a, y :: b => by
    have ih := eqv_ints a b
    show ((x : Int) == (y : Int) && PyData.eqvAll (a.map _) (b.map _)) = _
    rw [ih, Bool.eq_iff_iff, Bool.and_eq_true, beq_iff_eq, decide_eq_true_eq, decide_eq_true_eq, List.cons.injEq]
    exact ⟨fun ⟨h1, h2⟩ => ⟨by omega, h2⟩, fun ⟨h1, h2⟩ => ⟨by omega, h2⟩⟩
theorem eqv_set (a b : List Nat) : PyData.eqv (setD a) (setD b) = decide (a = b) := eqv_ints a b
theorem sets_shaped : ∀ w ≤ 4, SeqAt.shaped (.list ((setsM (2 ^ w)).map setD)) = true ∧ (setsM (2 ^ w)).all (fun k => SeqAt.shaped (setD k)) = true := by decide +kernel
/-- a small set is among the sets -/
theorem few_mem {n : Nat} {k : List Nat} (hs : k.Pairwise (· < ·)) (hn : ∀ v ∈ k, v < n) (hl : k.length ≤ 2) : k ∈ setsM n := by
  unfold setsM
  match k, hl with
  | [], _ => simp
  | [g], _ =>
    have := hn g (by simp)
    simp [this]
  | [a, b], _ =>
    have h1 := hn b (by simp)
    have h2 : a < b := by simpa using hs
    rw [List.mem_append]
    right
    rw [List.mem_flatMap]
    refine ⟨a, List.mem_range.mpr (by omega), ?_⟩
    rw [List.mem_map]
    exact ⟨b, by rw [List.mem_range'_1]; omega, rfl⟩
/-- two growing lists with the same items are one -/
theorem grow_unique : ∀ (a b : List Int), a.Pairwise (· < ·) → b.Pairwise (· < ·) → (∀ k, k ∈ a ↔ k ∈ b) → a = b
  | [], [], _, _, _ => rfl
  | [], y :: b, _, _, h => absurd ((h y).mpr (List.mem_cons_self ..)) (by simp)
  | x :: a, [], _, _, h => absurd ((h x).mp (List.mem_cons_self ..)) (by simp)
  | x :: a, y :: b, ha, hb, h => by
    rw [List.pairwise_cons] at ha hb
    have hxy : x = y := by
      have h1 := (h x).mp (List.mem_cons_self ..)
      have h2 := (h y).mpr (List.mem_cons_self ..)
      rcases List.mem_cons.mp h1 with h1 | h1
      · exact h1
      · rcases List.mem_cons.mp h2 with h2 | h2
        · exact h2.symm
        · have := hb.1 x h1
          have := ha.1 y h2
          omega
    subst hxy
    congr 1
    refine grow_unique a b ha.2 hb.2 fun k => ?_
    constructor
    · intro hk
      rcases List.mem_cons.mp ((h k).mp (List.mem_cons_of_mem _ hk)) with e | e
      · have := ha.1 k hk
        omega
      · exact e
    · intro hk
      rcases List.mem_cons.mp ((h k).mpr (List.mem_cons_of_mem _ hk)) with e | e
      · have := hb.1 k hk
        omega
      · exact e
/-- the set that a list of numbers tells -/
def keptM (w : Nat) (l : List Int) : List Nat := (List.range (2 ^ w)).filter fun g => l.contains (g : Int)
theorem kept_grows (w : Nat) (l : List Int) : (keptM w l).Pairwise (· < ·) := List.Pairwise.sublist List.filter_sublist List.pairwise_lt_range
theorem kept_lt {w : Nat} {l : List Int} : ∀ v ∈ keptM w l, v < 2 ^ w := fun v hv => List.mem_range.mp (List.mem_filter.mp hv).1
theorem kept_mem {w : Nat} {l : List Int} (h : ∀ z ∈ l, 0 ≤ z ∧ z < (2 ^ w : Nat)) (k : Int) : k ∈ (keptM w l).map (fun v => ((v : Nat) : Int)) ↔ k ∈ l := by
  rw [List.mem_map]
  constructor
  · rintro ⟨v, hv, rfl⟩
    have := (List.mem_filter.mp hv).2
    simpa using this
  · intro hk
    obtain ⟨h1, h2⟩ := h k hk
    refine ⟨k.toNat, List.mem_filter.mpr ⟨List.mem_range.mpr (by omega), ?_⟩, by omega⟩
    have e : ((k.toNat : Nat) : Int) = k := by omega
    rw [e]
    simpa using hk
theorem kept_len (w : Nat) (hw : w ≤ 4) (l : List Int) : (keptM w l).length ≤ 16 := by
  refine Nat.le_trans (List.length_filter_le _ _) ?_
  rw [List.length_range]
  exact Nat.pow_le_pow_right (by decide : 0 < 2) hw
theorem kept_int_grows (w : Nat) (l : List Int) : ((keptM w l).map fun v => ((v : Nat) : Int)).Pairwise (· < ·) := by
  rw [List.pairwise_map]
  exact (kept_grows w l).imp fun h => by omega
end SR
set_option Elab.async false
set_option linter.all false
set_option maxRecDepth 100000
set_option maxHeartbeats 2000000
namespace SR
open PySem PySem.Spec PyProof.Rows L2
open VamvsBase (Bytes word joined showNat showInt Answer)
section
variable {X : Cx}
/-- set(xs), xs a list of whole numbers: so many unlike ones -/
def rSetI2 (K : PySem.W.Frag) (w : World) : List V → Hp → VK → Prop := fun vs H Q => ∃ (a : Addr) (ns : List Int), vs = [V.ref a] ∧ SqL K H a (ns.map V.int) ∧ ns.length + 1 < scanBound ∧ ∀ (p : Addr) (n : Nat), H p = none → (∃ ms : List Int, ms.Nodup ∧ ms.length = n ∧ ∀ k, k ∈ ms ↔ k ∈ ns) → Q (.ref p) (upd H p (SetO w p (fun j => decide (j ∈ ns)) n))
theorem cr_setI2 (hc : X.calm = true) : CallR X (.type "set") (rSetI2 X.K X.w) := by
  intro pins s σ H vs us Q I r h
  obtain ⟨a, ns, rfl, hs, hb, q⟩ := h
  obtain rfl := Vals.ref1 r
  obtain ⟨its, rv, hl, hz⟩ := I.list hs
  refine set_of_ints (P := X.prog) ns (I.ok.hd hc) hl.isList (by simpa using rv.ints) hb fun h' tk c hR hcn k => ?_
  have hR2 := hR
  obtain ⟨o, es, ep, t, ho, hex, hd, g, nd, hm, hb2, hf, hn, hr, hl2⟩ := hR2
  exact ⟨.ref _, _, I.laid (t' := tk) k (Nat.le_refl _) (setO_new hR), rfl, q _ c (I.hok.fresh (Nat.le_refl _)) ⟨_, nd, by rw [List.length_map, Array.length_toList]; exact hn, fun k => by rw [← hm k, decide_eq_true_eq]⟩⟩
end
/-- unlike numbers among so many are no more -/
theorem nodup_len_le : ∀ (a b : List Int), a.Nodup → (∀ k ∈ a, k ∈ b) → a.length ≤ b.length
  | [], b, _, _ => Nat.zero_le _
  | x :: a, b, nd, h => by
    rw [List.nodup_cons] at nd
    have hx := h x (List.mem_cons_self ..)
    have ih := nodup_len_le a (b.erase x) nd.2 fun k hk => by
      have hne : k ≠ x := fun z => nd.1 (z ▸ hk)
      exact (List.mem_erase_of_ne hne).mpr (h k (List.mem_cons_of_mem _ hk))
    rw [List.length_erase_of_mem hx] at ih
    have := List.length_pos_of_mem hx
    rw [List.length_cons]
    omega
section
variable {P : Program} {w : World} {K : PySem.W.Frag} {mg : Str → Option Value} {base : Heap} {CT CH CS : Addr}
/-! ### small_sets -/
abbrev sSmallSets : Stmt := top 111
def spSmallSets (K : PySem.W.Frag) (CH CT CS : Addr) : Sp := fun vs H Q _ => ∃ (h : Addr) (d : Vamvsf.Held), vs = [.ref h] ∧ HasAt K CH CT H h d ∧ ∀ (H' : Hp) (p : Addr), Same H H' → H p = none → SmallAt K CS H' p d.t d.c d.b.low d.b.high → Q (.ref p) H'
theorem scSmallSets : FnScope ["held"] ["held"] (defScope sSmallSets) := ⟨rfl, rfl, rfl, by decide +kernel, rfl, by decide +kernel, by decide +kernel⟩
theorem ok_small_sets (HC : HeldC K CH) (D : MakeOk P w K mg base 3 "SmallSets" CS ["self", "table", "changes", "low", "high"] (spSmallInit K CT CS)) (F : FunG K mg "small_sets" sSmallSets) : Def P w K mg base CX0 5 "small_sets" ["held"] (spSmallSets K CH CT CS) := by
  refine F.def (fun _ _ _ _ _ _ us hl => match us, hl with | [_], _ => rfl) fun f fd F => ?_
  refine F.ok scSmallSets (fun vs H Q E h => ?_) (fun cdv A outer s H vs Q E hr h => ⟨_, pss_one (ps_ret (mk1 D hr (pa_cons (pe_fld (pv 0) rfl) (pa_cons (pe_fld (pv 0) rfl) (pa_cons (pe_fld (pv 0) rfl) (pa_cons (pe_fld (pv 0) rfl) pa_nil)))))), ?_⟩)
  · obtain ⟨h, d, rfl, _⟩ := h
    rfl
  · obtain ⟨h, d, rfl, hh, k⟩ := h
    obtain ⟨dx, ta, r, l, g, h1, h2, h3, h4, h5⟩ := hh.ex
    refine ⟨_, rfl, h, CH, dx, _, _, rfl, h1, HC.cl, HC.nt, heldF_t _ _ _ _ _, _, rfl, h, CH, dx, _, _, rfl, h1, HC.cl, HC.nc, heldF_c _ _ _ _ _, _, rfl, h, CH, dx, _, _, rfl, h1, HC.cl, HC.nl, heldF_l _ _ _ _ _, _, rfl, h, CH, dx, _, _, rfl, h1, HC.cl, HC.nh, heldF_h _ _ _ _ _, ?_⟩
    exact fun x dxs hx hdx hne => ⟨x, dxs, ta, l, g, H, d.t, d.c, d.b.low, d.b.high, rfl, rfl, hx, hdx, hne, h2, hh.ok.right, hh.ok.few, h4, h5, fun H' e hs => ⟨rfl, k H' x e hx hs⟩⟩
theorem HeldOk.args {d : Vamvsf.Held} (ok : HeldOk d) : SmArgs d.t d.c d.b.low d.b.high := ⟨ok.right, ok.few, ok.lo, ok.hi⟩
/-- the regret that the law tells, at a place of the sets -/
theorem regret_at {d : Vamvsf.Held} (ok : HeldOk d) {i : Nat} {x : Vamvsa.Kept × List Nat} (hx : (famM d.t)[i]? = some x) :
    greatestAt d.t d.c d.b.low d.b.high i = (Vamvsf.regret d.c d.b (famM d.t) x).1 ∧ (setsM (2 ^ d.t.cols.length))[(regWalk (worseAt d.t d.c d.b.low d.b.high i) i (setsM (2 ^ d.t.cols.length)).length).2]? = some (Vamvsf.regret d.c d.b (famM d.t) x).2 := by
  obtain ⟨y, h1, h2, h3, h4⟩ := regWalk_spec d.c d.b (famM d.t) i x hx (worse_self _ _ _ _) (worseAt d.t d.c d.b.low d.b.high i) (fun o y hy => by
    unfold worseAt
    rw [List.getD_eq_getElem?_getD, List.getD_eq_getElem?_getD, hx, hy]
    rfl)
  rw [fam_len] at h1 h3 h4
  refine ⟨h4, ?_⟩
  rw [← h2]
  have : (famM d.t)[(regWalk (worseAt d.t d.c d.b.low d.b.high i) i (setsM (2 ^ d.t.cols.length)).length).2]? = some y := h1
  unfold famM at this
  rw [List.getElem?_map] at this
  cases e : (setsM (2 ^ d.t.cols.length))[(regWalk (worseAt d.t d.c d.b.low d.b.high i) i (setsM (2 ^ d.t.cols.length)).length).2]? with
  | none => rw [e] at this; cases this
  | some kk =>
    rw [e] at this
    cases this
    rfl
theorem family_eq {d : Vamvsf.Held} (ok : HeldOk d) : Vamvsf.family d.t = famM d.t := by
  unfold Vamvsf.family famM
  rw [few_eq d.t ok.right.cols.2]
end
end SR
set_option Elab.async false
set_option linter.all false
set_option maxRecDepth 100000
set_option maxHeartbeats 2000000
namespace SR
open PySem PySem.Spec PyProof.Rows L2
open VamvsBase (Bytes word joined showNat showInt Answer)
theorem smF_none {m : Str} (h1 : (m == ("low" : Str)) = false) (h2 : (m == ("high" : Str)) = false) (h3 : (m == ("sets" : Str)) = false) (h4 : (m == ("reads" : Str)) = false) (h5 : (m == ("upkeep" : Str)) = false) (l h s r u : Addr) : (smF l h s r u).lookup m = none :=
  (lk_past h1).trans ((lk_past h2).trans ((lk_past h3).trans ((lk_past h4).trans ((lk_past h5).trans rfl))))
theorem smF_gr (l h s r u : Addr) : (smF l h s r u).lookup ("greatest_regret" : Str) = none := smF_none (by decide +kernel) (by decide +kernel) (by decide +kernel) (by decide +kernel) (by decide +kernel) ..
theorem smF_rg (l h s r u : Addr) : (smF l h s r u).lookup ("regretted" : Str) = none := smF_none (by decide +kernel) (by decide +kernel) (by decide +kernel) (by decide +kernel) (by decide +kernel) ..
theorem smF_ls (l h s r u : Addr) : (smF l h s r u).lookup ("least" : Str) = none := smF_none (by decide +kernel) (by decide +kernel) (by decide +kernel) (by decide +kernel) (by decide +kernel) ..
theorem dp_ints {K : PySem.W.Frag} {H : Hp} : ∀ k : List Nat, DpAll K H (iv k) (k.map fun v => PyData.int ((v : Nat) : Int))
  | [] => .nil
  | v :: k => .cons (.int _) (dp_ints k)
theorem dp_sets {K : PySem.W.Frag} {H : Hp} : ∀ (ps : List Addr) (l : List (List Nat)), AllAt LstAt H ps l → DpAll K H (ps.map V.ref) (l.map setD)
  | [], [], _ => .nil
  | [], _ :: _, h => by have := h.len; cases this
  | _ :: _, [], h => by have := h.len; cases this
  | p :: ps, k :: l, h => by
    have h0 : LstAt H p k := h.at_ 0 p k rfl rfl
    refine .cons (.lst (SqL.of h0) (dp_ints k)) (dp_sets ps l ⟨by have := h.len; simpa using this, fun i q x h1 h2 => h.at_ (i + 1) q x h1 h2⟩)
/-- the first place of a thing in a list -/
theorem first_at {α : Type} [DecidableEq α] : ∀ (l : List α) (x : α), x ∈ l → ∃ j : Nat, l[j]? = some x ∧ ∀ m : Nat, m < j → l[m]? ≠ some x
  | [], x, h => by cases h
  | y :: l, x, h => by
    by_cases e : y = x
    · subst e
      exact ⟨0, rfl, fun m hm => absurd hm (Nat.not_lt_zero _)⟩
    · have h' : x ∈ l := by
        rcases List.mem_cons.mp h with h | h
        · exact absurd h.symm e
        · exact h
      obtain ⟨j, h1, h2⟩ := first_at l x h'
      refine ⟨j + 1, h1, fun m hm => ?_⟩
      cases m with
      | zero => intro z; exact e (Option.some.inj z)
      | succ m => exact h2 m (by omega)
section
variable {P : Program} {w : World} {K : PySem.W.Frag} {mg : Str → Option Value} {base : Heap} {CT CH CS : Addr}
/-! ### answer_regret -/
abbrev sAnsRegret : Stmt := top 112
abbrev nAnsRegret : List Str := ["held", "groupings", "grouping", "kept", "small", "own"]
def spAnsRegret (K : PySem.W.Frag) (CH CT : Addr) : Sp := fun vs H Q _ => ∃ (h gp : Addr) (d : Vamvsf.Held) (l : List Int), vs = [.ref h, .ref gp] ∧ HasAt K CH CT H h d ∧ SqL K H gp (zv l) ∧ l.length ≤ 2000 ∧ newInts H (encode (Vamvsf.looked d (.regret l))) Q
theorem scAnsRegret : FnScope nAnsRegret ["held", "groupings"] (defScope sAnsRegret) := ⟨rfl, rfl, rfl, by decide +kernel, rfl, by decide +kernel, by decide +kernel⟩
theorem set_at {d : Vamvsf.Held} (ok : HeldOk d) {i : Nat} {kk : List Nat} (hi : (setsM (2 ^ d.t.cols.length))[i]? = some kk) : (famM d.t)[i]? = some (kk, Vamvsf.rowCosts d.t kk) := by
  unfold famM
  rw [List.getElem?_map, hi]
  rfl
theorem ok_answer_regret (B : Bn mg) (HC : HeldC K CH) (TC : TabC K CT) (SC : SmallC K CS) (G1 : GInt mg "NO_GROUPING" 2) (G2 : GInt mg "MOST_KEPT" 2) (G3 : GInt mg "TOO_MANY_KEPT" 5) (D1 : Def P w K mg base CX0 1 "refusal" ["code"] spRefusal) (D2 : Def P w K mg base CX0 5 "small_sets" ["held"] (spSmallSets K CH CT CS))
    (D3 : Def P w K mg base CX0 1 "told_set" ["members"] spToldSet) (M1 : MethOk P w K mg base CX0 3 CS "greatest_regret" ["self", "own"] (spGreatest K CS)) (M2 : MethOk P w K mg base CX0 2 CS "regretted" ["self", "own"] (spRegretted K CS)) (F : FunG K mg "answer_regret" sAnsRegret) :
    Def P w K mg base CX0 6 "answer_regret" ["held", "groupings"] (spAnsRegret K CH CT) := by
  refine F.def (fun _ _ _ _ _ _ us hl => match us, hl with | [_, _], _ => rfl) fun f fd F => ?_
  have nd := scAnsRegret.nd
  refine F.ok scAnsRegret (fun vs H Q E h => ?_) (fun cdv A outer s H vs Q E hr h => ⟨_, pss_cons (ps_for PassesOwn.never rfl (pi_list (pv 1)) (pg_name (i := 2) nd rfl (Or.inl rfl))
      (pss_one (ps_if (PW.pt (pw_or (pt_cmpR op_lt (pv 2) pe_int (nomark _)) (pw_or1 (pt_cmpR op_ge (pv 2) (pe_op n_shl pe_int (pe_callB n_len (by rfl) B.len PySem.boot_len (pa_cons (pe_fld (pe_fld (pv 0) rfl) rfl) pa_nil))) (nomark _))))) (pss_one (ps_ret (cl D1 (hr.mono (by decide)) pass0 (pa_cons (gi G1) pa_nil)))) pss_nil)))
    (pss_cons (ps_set (i := 3) nd rfl (Or.inl rfl) (pe_callB (cr_sortedSet rfl) (by rfl) B.sorted (by decide +kernel) (pa_cons (pe_callTy (cr_setI2 rfl) (by rfl) B.set (by decide +kernel) (pa_cons (pv 1) pa_nil)) pa_nil)))
    (pss_cons (ps_if (pt_cmpR n_gt (pe_callB n_len (by rfl) B.len PySem.boot_len (pa_cons (pv 3) pa_nil)) (gi G2) (nomark _)) (pss_one (ps_ret (cl D1 (hr.mono (by decide)) pass0 (pa_cons (gi G3) pa_nil)))) pss_nil)
    (pss_cons (ps_set (i := 4) nd rfl (Or.inl rfl) (cl D2 hr pass0 (pa_cons (pv 0) pa_nil)))
    (pss_cons (ps_set (i := 5) nd rfl (Or.inl rfl) (pe_bm PySem.F.plainAttrs_list PySem.F.slot_list_index PySem.F.type_list_index (mt_indexD (by have := hr.un; exact (show (A.deeper (envOfC "answer_regret" (defScope sAnsRegret) s.heap.objs.size f cdv)).units + 65 < cLine by omega))) (pe_fld (pv 4) rfl) (pa_cons (pv 3) pa_nil)))
    (pss_one (ps_ret (pe_op op_cat (pe_lst (pa_cons (me1 (pv 4) SC.cl M1 (hr.mono (by decide)) pass0 (pa_cons (pv 5) pa_nil)) pa_nil)) (cl D3 (hr.mono (by decide)) pass0 (pa_cons (pe_ix (ix_lol (K := K)) (pe_fld (pv 4) rfl) (me1 (pv 4) SC.cl M2 (hr.mono (by decide)) pass0 (pa_cons (pv 5) pa_nil)) (fun _ _ => rfl)) pa_nil))))))))), ?_⟩)
  · obtain ⟨h, gp, d, l, rfl, _⟩ := h
    rfl
  · obtain ⟨h, gp, d, l, rfl, hh, hl, hlen, k⟩ := h
    obtain ⟨dx, ta, r, lw, g, h1, h2, h3, h4, h5⟩ := hh.ex
    obtain ⟨dt, c', r', q, rs, qs, t1, t2, t3, t4, t5, t6⟩ := h2.ex
    have hw4 := hh.ok.right.cols.2
    have bad : l.any (fun z => (VamvsBase.index z (2 ^ Vamvsa.width d.t)).isNone) = true → newInts H [-2] Q := fun hb => by
      have e2 : Vamvsb.keptOf d.t l = none := if_pos hb
      have e3 : Vamvsf.looked d (.regret l) = VamvsBase.one (-2) := by simp only [Vamvsf.looked, e2]
      rw [e3] at k
      exact k
    have one_bad : ∀ (i : Nat) (z : Int), l[i]? = some z → ¬ (0 ≤ z ∧ z < (2 ^ d.t.cols.length : Nat)) → newInts H [-2] Q := fun i z hz hn => by
      refine bad ?_
      rw [List.any_eq_true]
      refine ⟨z, List.mem_of_getElem? hz, ?_⟩
      have : VamvsBase.index z (2 ^ Vamvsa.width d.t) = none := if_neg hn
      rw [this]
      rfl
    refine ⟨_, rfl, gp, rfl, ⟨_, hl⟩, for_it (walk_list (K := K) (a := gp) (xs := zv l))
      (fun i σ H' => ∃ x2 : Option V, σ = [some (.ref h), some (.ref gp), x2, none, none, none] ∧ H' = H ∧ ∀ (j : Nat) (z : Int), j < i → l[j]? = some z → 0 ≤ z ∧ z < (2 ^ d.t.cols.length : Nat))
      ⟨none, rfl, rfl, fun _ _ hj => absurd hj (Nat.not_lt_zero _)⟩ (fun i σ H' _ ⟨_, _, e, _⟩ => by rw [e]; exact hl) ?_ ?_⟩
    · rintro i x σ H1 H2 hi ⟨x2, rfl, rfl, hok⟩ ⟨rfl, hx⟩
      obtain ⟨z, hz, rfl⟩ := zv_at hx
      refine ⟨_, rfl, _, _, rfl, rfl, _, rfl, if_d (fun hc1 => ?_) fun hc1 => ?_⟩
      · exact ⟨_, rfl, one_bad i z hz (by omega)⟩
      · refine ⟨_, rfl, _, rfl, h, CH, dx, _, _, rfl, h1, HC.cl, HC.nt, heldF_t _ _ _ _ _, ta, CT, dt, _, _, rfl, t1, TC.cl, TC.nc, tabF_c c' r' q, c', _, rfl, .inl (SqL.of t2), 1, d.t.cols.length, rfl, by rw [List.length_map], ⟨by decide, by omega⟩, _, _, rfl, rfl, _, rfl, ?_⟩
        rw [Nat.one_mul]
        refine if_d (fun hc2 => ?_) fun hc2 => ?_
        · exact ⟨_, rfl, one_bad i z hz (by omega)⟩
        · refine ⟨_, rfl, rfl, fun j y hj hy => ?_⟩
          by_cases hji : j = i
          · subst hji
            rw [hz] at hy
            cases hy
            omega
          · exact hok j y (by omega) hy
    · rintro σ H1 ⟨x2, rfl, rfl, hok⟩
      rw [List.length_map] at hok
      have hall : ∀ z ∈ l, 0 ≤ z ∧ z < (2 ^ d.t.cols.length : Nat) := fun z hz => by
        obtain ⟨j, hj, e⟩ := List.getElem_of_mem hz
        exact hok j z hj (by rw [List.getElem?_eq_getElem hj, e])
      have hkept : Vamvsb.keptOf d.t l = some (keptM d.t.cols.length l) := by
        refine if_neg fun hz => ?_
        rw [List.any_eq_true] at hz
        obtain ⟨z, h1, h2⟩ := hz
        have e : VamvsBase.index z (2 ^ Vamvsa.width d.t) = some z.toNat := if_pos (hall z h1)
        rw [e] at h2
        cases h2
      have hkl := kept_len d.t.cols.length hw4 l
      refine ⟨_, rfl, gp, l, rfl, hl, by show l.length + 1 < 4096; omega, fun sp n hsp hms => ?_⟩
      obtain ⟨ms, ms1, ms2, ms3⟩ := hms
      have hn16 : n ≤ 16 := by
        rw [← ms2]
        have := nodup_len_le ms ((keptM d.t.cols.length l).map fun v => ((v : Nat) : Int)) ms1 fun k hk => (kept_mem hall k).mpr ((ms3 k).mp hk)
        rw [List.length_map] at this
        omega
      have e1 : Same H1 (upd H1 sp (SetO w sp (fun j => decide (j ∈ l)) n)) := Same.new hsp
      refine ⟨sp, _, n, rfl, upd_same, by omega, fun ns kp hns1 hns2 hns3 hkp => ?_⟩
      have hns : ns = (keptM d.t.cols.length l).map fun v => ((v : Nat) : Int) := grow_unique ns _ hns1 (kept_int_grows _ l) fun k => by
        rw [hns2 k, decide_eq_true_eq, kept_mem hall k]
      subst hns
      rw [← iv_int]
      have e2 := e1.put2 (o := .lst (iv (keptM d.t.cols.length l))) hkp
      refine ⟨_, rfl, kp, _, rfl, .inl (SqL.of upd_same), _, _, rfl, rfl, _, rfl, ?_⟩
      rw [List.length_map]
      refine if_d (fun hmany => ?_) fun hmany => ?_
      · have e3 : Vamvsf.looked d (.regret l) = VamvsBase.one (-5) := by
          simp only [Vamvsf.looked, hkept]
          exact if_pos hmany
        rw [e3] at k
        exact ⟨_, rfl, fun H' p e np hp => k H' p (e2.trans e) (e2.free np) hp⟩
      · have hmem := few_mem (kept_grows d.t.cols.length l) kept_lt (Nat.not_lt.mp hmany)
        have hmem2 := hmem
        generalize hkk : keptM d.t.cols.length l = kk at *
        obtain ⟨j, hj1, hj2⟩ := first_at _ kk hmem
        obtain ⟨sh1, sh2⟩ := sets_shaped _ hw4
        have e3 : encode (Vamvsf.looked d (.regret l)) = (Vamvsf.regret d.c d.b (famM d.t) (kk, Vamvsf.rowCosts d.t kk)).1 :: Vamvsf.listRow (Vamvsf.regret d.c d.b (famM d.t) (kk, Vamvsf.rowCosts d.t kk)).2 := by
          simp only [Vamvsf.looked, hkept, family_eq hh.ok]
          rw [if_neg (show ¬ Vamvsf.FEW < kk.length from hmany)]
          rfl
        rw [e3] at k
        obtain ⟨r1, r2⟩ := regret_at hh.ok (set_at hh.ok hj1)
        generalize hreg : Vamvsf.regret d.c d.b (famM d.t) (kk, Vamvsf.rowCosts d.t kk) = R at *
        have hjl : j < (setsM (2 ^ d.t.cols.length)).length := (List.getElem?_eq_some_iff.mp hj1).1
        refine ⟨_, rfl, h, d, rfl, hh.same e2, fun H3 sm e4 nsm hsm => ?_⟩
        have e24 := e2.trans e4
        obtain ⟨dxs, ll, hg, ss, rr, uu, s1, s2, s3, s4, s5, s6⟩ := hsm.ex
        obtain ⟨ps, s41, s42⟩ := s4
        have hkp3 : H3 kp = some (.lst (iv kk)) := e4 _ _ upd_same
        refine ⟨_, rfl, sm, CS, dxs, _, _, rfl, s1, SC.cl, SC.ns, smF_s ll hg ss rr uu, .inl ⟨rfl, _, SqL.of s41⟩, _, rfl, ss, .ref kp, setD kk, (setsM (2 ^ d.t.cols.length)).map setD, j, setD kk, rfl, rfl, .lst (SqL.of s41) (dp_sets ps _ s42), .lst (SqL.of hkp3) (dp_ints kk), sh1, List.all_eq_true.mp sh2 kk hmem2,
          by rw [List.getElem?_map, hj1]; rfl, by rw [eqv_set]; exact decide_eq_true rfl, fun m z hm hz => ?_, ?_⟩
        · rw [List.getElem?_map] at hz
          cases hm2 : (setsM (2 ^ d.t.cols.length))[m]? with
          | none => rw [hm2] at hz; cases hz
          | some km =>
            rw [hm2] at hz
            cases hz
            rw [eqv_set]
            exact decide_eq_false fun z => hj2 m hm (by rw [hm2, z])
        · refine ⟨_, rfl, sm, dxs, _, rfl, s1, smF_gr ll hg ss rr uu, _, rfl, sm, j, d.t, d.c, d.b.low, d.b.high, rfl, hsm, hh.ok.args, hjl, fun H4 e5 => ?_⟩
          have hsm4 := hsm.same e5
          refine ⟨by show 1 ≤ sizeLine; decide, fun L1 hL1 => ?_⟩
          have e6 : Same H4 (upd H4 L1 (.lst [.int (greatestAt d.t d.c d.b.low d.b.high j)])) := Same.new hL1
          have e56 := e5.trans e6
          refine ⟨_, rfl, sm, CS, dxs, _, _, rfl, e56 _ _ s1, SC.cl, SC.ns, smF_s ll hg ss rr uu, ?_⟩
          refine ⟨_, rfl, sm, dxs, _, rfl, e56 _ _ s1, smF_rg ll hg ss rr uu, _, rfl, sm, j, d.t, d.c, d.b.low, d.b.high, rfl, hsm.same e56, hh.ok.args, hjl, fun H5 e7 => ?_⟩
          have e57 := e56.trans e7
          refine ⟨ss, setsM (2 ^ d.t.cols.length), _, rfl, rfl, LoL.same e57 ⟨ps, s41, s42⟩, (List.getElem?_eq_some_iff.mp r2).1, fun z hz => ?_⟩
          have hgd : (setsM (2 ^ d.t.cols.length)).getD (regWalk (worseAt d.t d.c d.b.low d.b.high j) j (setsM (2 ^ d.t.cols.length)).length).2 [] = R.2 := by
            rw [List.getD_eq_getElem?_getD, r2]
            rfl
          rw [hgd] at hz
          have hR2 : R.2 ∈ setsM (2 ^ d.t.cols.length) := List.mem_of_getElem? r2
          have hR2l := (sets_good hw4 hR2).1
          refine ⟨z, Vamvsf.nats R.2, rfl, by rw [zv_iv]; exact hz, by rw [Vamvsf.nats, List.length_map]; omega, fun H6 tp e8 ntp htp => ?_⟩
          have hL6 : H6 L1 = some (.lst [.int (greatestAt d.t d.c d.b.low d.b.high j)]) := e8 _ _ (e7 _ _ upd_same)
          refine ⟨L1, tp, _, _, rfl, rfl, hL6, htp, ?_, fun p hp => ?_⟩
          · rw [line_eq]
            simp only [Vamvsf.nats, List.length_map, List.length_cons, List.length_nil]
            omega
          · have eA := e24.trans (e57.trans e8)
            refine k _ p (eA.put2 hp) (eA.free hp) ?_
            rw [upd_same, r1]
            unfold Vamvsf.listRow
            rw [Vamvsf.nats, List.length_map]
            rfl
/-! ### answer_least -/
abbrev sAnsLeast : Stmt := top 113
abbrev nAnsLeast : List Str := ["held", "small", "own"]
def spAnsLeast (K : PySem.W.Frag) (CH CT : Addr) : Sp := fun vs H Q _ => ∃ (h : Addr) (d : Vamvsf.Held), vs = [.ref h] ∧ HasAt K CH CT H h d ∧ newInts H (encode (Vamvsf.looked d .least)) Q
theorem scAnsLeast : FnScope nAnsLeast ["held"] (defScope sAnsLeast) := ⟨rfl, rfl, rfl, by decide +kernel, rfl, by decide +kernel, by decide +kernel⟩
theorem greatest_list {d : Vamvsf.Held} (ok : HeldOk d) : greatestL d.t d.c d.b.low d.b.high = (famM d.t).map fun x => (Vamvsf.regret d.c d.b (famM d.t) x).1 := by
  apply List.ext_getElem?
  intro i
  unfold greatestL
  rw [List.getElem?_map, List.getElem?_map]
  by_cases hi : i < (setsM (2 ^ d.t.cols.length)).length
  · have hg := fam_get d.t hi
    rw [List.getElem?_range hi, hg, Option.map_some, Option.map_some, (regret_at ok hg).1]
  · rw [List.getElem?_eq_none (by rw [List.length_range]; omega), List.getElem?_eq_none (by rw [fam_len]; omega)]
    rfl
theorem ok_answer_least (SC : SmallC K CS) (D2 : Def P w K mg base CX0 5 "small_sets" ["held"] (spSmallSets K CH CT CS))
    (D3 : Def P w K mg base CX0 1 "told_set" ["members"] spToldSet) (M1 : MethOk P w K mg base CX0 3 CS "greatest_regret" ["self", "own"] (spGreatest K CS)) (M2 : MethOk P w K mg base CX0 2 CS "regretted" ["self", "own"] (spRegretted K CS)) (M3 : MethOk P w K mg base CX0 4 CS "least" ["self"] (spLeast K CS)) (F : FunG K mg "answer_least" sAnsLeast) :
    Def P w K mg base CX0 6 "answer_least" ["held"] (spAnsLeast K CH CT) := by
  refine F.def (fun _ _ _ _ _ _ us hl => match us, hl with | [_], _ => rfl) fun f fd F => ?_
  have nd := scAnsLeast.nd
  refine F.ok scAnsLeast (fun vs H Q E h => ?_) (fun cdv A outer s H vs Q E hr h => ⟨_, pss_cons (ps_set (i := 1) nd rfl (Or.inl rfl) (cl D2 hr pass0 (pa_cons (pv 0) pa_nil)))
    (pss_cons (ps_set (i := 2) nd rfl (Or.inl rfl) (me0 (pv 1) SC.cl M3 (hr.mono (by decide)) pass0))
    (pss_one (ps_ret (pe_op op_cat (pe_op op_cat (pe_lst (pa_cons (me1 (pv 1) SC.cl M1 (hr.mono (by decide)) pass0 (pa_cons (pv 2) pa_nil)) pa_nil)) (cl D3 (hr.mono (by decide)) pass0 (pa_cons (pe_ix (ix_lol (K := K)) (pe_fld (pv 1) rfl) (pv 2) (fun _ _ => rfl)) pa_nil)))
      (cl D3 (hr.mono (by decide)) pass0 (pa_cons (pe_ix (ix_lol (K := K)) (pe_fld (pv 1) rfl) (me1 (pv 1) SC.cl M2 (hr.mono (by decide)) pass0 (pa_cons (pv 2) pa_nil)) (fun _ _ => rfl)) pa_nil)))))), ?_⟩)
  · obtain ⟨h, d, rfl, _⟩ := h
    rfl
  · obtain ⟨h, d, rfl, hh, k⟩ := h
    have hw4 := hh.ok.right.cols.2
    refine ⟨_, rfl, h, d, rfl, hh, fun H3 sm e4 nsm hsm => ?_⟩
    obtain ⟨dxs, ll, hg, ss, rr, uu, s1, s2, s3, s4, s5, s6⟩ := hsm.ex
    refine ⟨_, rfl, sm, dxs, _, rfl, s1, smF_ls ll hg ss rr uu, sm, d.t, d.c, d.b.low, d.b.high, rfl, hsm, hh.ok.args, fun H4 j e5 hF => ?_⟩
    have hjl : j < (setsM (2 ^ d.t.cols.length)).length := by
      have := hF.lt
      unfold greatestL at this
      simpa using this
    have hfj := fam_get d.t hjl
    have hL := least_first d.c d.b (famM d.t) hfj (by rw [← greatest_list hh.ok]; exact hF)
    obtain ⟨r1, r2⟩ := regret_at hh.ok hfj
    have hj1 : (setsM (2 ^ d.t.cols.length))[j]? = some (setsM (2 ^ d.t.cols.length))[j] := List.getElem?_eq_getElem hjl
    generalize hkk : (setsM (2 ^ d.t.cols.length))[j] = kk at *
    have e3 : encode (Vamvsf.looked d .least) = (Vamvsf.regret d.c d.b (famM d.t) (kk, Vamvsf.rowCosts d.t kk)).1 :: (Vamvsf.listRow kk ++ Vamvsf.listRow (Vamvsf.regret d.c d.b (famM d.t) (kk, Vamvsf.rowCosts d.t kk)).2) := by
      simp only [Vamvsf.looked, family_eq hh.ok, hL]
      rfl
    rw [e3] at k
    generalize hreg : Vamvsf.regret d.c d.b (famM d.t) (kk, Vamvsf.rowCosts d.t kk) = R at *
    have hkm : kk ∈ setsM (2 ^ d.t.cols.length) := List.mem_of_getElem? hj1
    have hkl := (sets_good hw4 hkm).1
    have hR2 : R.2 ∈ setsM (2 ^ d.t.cols.length) := List.mem_of_getElem? r2
    have hR2l := (sets_good hw4 hR2).1
    have e45 := e4.trans e5
    refine ⟨_, rfl, sm, dxs, _, rfl, e5 _ _ s1, smF_gr ll hg ss rr uu, _, rfl, sm, j, d.t, d.c, d.b.low, d.b.high, rfl, hsm.same e5, hh.ok.args, hjl, fun H5 e6 => ?_⟩
    refine ⟨by show 1 ≤ sizeLine; decide, fun L1 hL1 => ?_⟩
    have e7 : Same H5 (upd H5 L1 (.lst [.int (greatestAt d.t d.c d.b.low d.b.high j)])) := Same.new hL1
    have e37 := (e5.trans e6).trans e7
    refine ⟨_, rfl, sm, CS, dxs, _, _, rfl, e37 _ _ s1, SC.cl, SC.ns, smF_s ll hg ss rr uu, _, rfl, ss, setsM (2 ^ d.t.cols.length), j, rfl, rfl, LoL.same e37 s4, hjl, fun z hz => ?_⟩
    have hgd1 : (setsM (2 ^ d.t.cols.length)).getD j [] = kk := by
      rw [List.getD_eq_getElem?_getD, hj1]
      rfl
    rw [hgd1] at hz
    refine ⟨z, Vamvsf.nats kk, rfl, by rw [zv_iv]; exact hz, by rw [Vamvsf.nats, List.length_map]; omega, fun H6 tp e8 ntp htp => ?_⟩
    have hL6 : H6 L1 = some (.lst [.int (greatestAt d.t d.c d.b.low d.b.high j)]) := e8 _ _ upd_same
    refine ⟨L1, tp, _, _, rfl, rfl, hL6, htp, ?_, fun p1 hp1 => ?_⟩
    · rw [line_eq]
      simp only [Vamvsf.nats, List.length_map, List.length_cons, List.length_nil]
      omega
    have e9 : Same H6 (upd H6 p1 (.lst ([.int (greatestAt d.t d.c d.b.low d.b.high j)] ++ zv (((Vamvsf.nats kk).length : Int) :: Vamvsf.nats kk)))) := Same.new hp1
    have e39 := (e37.trans e8).trans e9
    refine ⟨_, rfl, sm, CS, dxs, _, _, rfl, e39 _ _ s1, SC.cl, SC.ns, smF_s ll hg ss rr uu, ?_⟩
    refine ⟨_, rfl, sm, dxs, _, rfl, e39 _ _ s1, smF_rg ll hg ss rr uu, _, rfl, sm, j, d.t, d.c, d.b.low, d.b.high, rfl, hsm.same e39, hh.ok.args, hjl, fun H7 e10 => ?_⟩
    have e310 := e39.trans e10
    refine ⟨ss, setsM (2 ^ d.t.cols.length), _, rfl, rfl, LoL.same e310 s4, (List.getElem?_eq_some_iff.mp r2).1, fun z2 hz2 => ?_⟩
    have hgd : (setsM (2 ^ d.t.cols.length)).getD (regWalk (worseAt d.t d.c d.b.low d.b.high j) j (setsM (2 ^ d.t.cols.length)).length).2 [] = R.2 := by
      rw [List.getD_eq_getElem?_getD, r2]
      rfl
    rw [hgd] at hz2
    refine ⟨z2, Vamvsf.nats R.2, rfl, by rw [zv_iv]; exact hz2, by rw [Vamvsf.nats, List.length_map]; omega, fun H8 tp2 e11 ntp2 htp2 => ?_⟩
    have hp8 : H8 p1 = some (.lst ([.int (greatestAt d.t d.c d.b.low d.b.high j)] ++ zv (((Vamvsf.nats kk).length : Int) :: Vamvsf.nats kk))) := e11 _ _ (e10 _ _ upd_same)
    refine ⟨p1, tp2, _, _, rfl, rfl, hp8, htp2, ?_, fun p hp => ?_⟩
    · rw [line_eq]
      simp only [Vamvsf.nats, List.length_append, List.length_map, List.length_cons, List.length_nil]
      omega
    · have eA := e4.trans (e310.trans e11)
      refine k _ p (eA.put2 hp) (eA.free hp) ?_
      rw [upd_same, r1]
      unfold Vamvsf.listRow
      rw [Vamvsf.nats, Vamvsf.nats, List.length_map, List.length_map]
      simp [zv, Vamvsf.nats]
end
end SR
set_option Elab.async false
set_option linter.all false
set_option maxRecDepth 100000
set_option maxHeartbeats 2000000
namespace SR
open PySem PySem.Spec PyProof.Rows L2
open VamvsBase (Bytes word joined showNat showInt Answer Fault)
theorem step_load (o : Vamvsf.Obj) (b : Bytes) : Vamvsf.step o (.load b) = match readM b with
    | .ok t => (some (Vamvsf.heldOf t), ⟨1, Vamvsf.nats [t.cols.length, t.rows.length, t.asks.length]⟩)
    | .error f => (o, VamvsBase.faulty f) := by
  rw [← read_eq]
  cases o <;> rfl
theorem held_ok {t : Vamvsa.Table} (R : Right t) : HeldOk (Vamvsf.heldOf t) := by
  refine ⟨R, ?_, fun x hx => ?_, Nat.zero_le _, ?_, ?_⟩
  · show (t.asks.map _).length = _
    rw [List.length_map]
    rfl
  · obtain ⟨a, _, rfl⟩ := List.mem_map.mp hx
    decide
  · show (t.asks.map _).length = _
    rw [List.length_map]
    rfl
  · show (t.asks.map _).length = _
    rw [List.length_map]
    rfl
theorem HeldAt.same {K : PySem.W.Frag} {CH CT h : Addr} {H H' : Hp} {o : Vamvsf.Obj} (e : Same H H') (x : HeldAt K CH CT H h o) : HeldAt K CH CT H' h o := by
  cases o with
  | none =>
    obtain ⟨dx, r, l, g, c, h1⟩ := x
    exact ⟨dx, r, l, g, c, e _ _ h1⟩
  | some d => exact HasAt.same e x
theorem HeldAt.ins {K : PySem.W.Frag} {CH CT h : Addr} {H : Hp} {o : Vamvsf.Obj} (x : HeldAt K CH CT H h o) : ∃ dx tv r c l g, H h = some (.ins CH dx (heldF tv r c l g)) := by
  cases o with
  | none =>
    obtain ⟨dx, r, l, g, c, h1⟩ := x
    exact ⟨dx, _, r, c, l, g, h1⟩
  | some d =>
    obtain ⟨dx, ta, r, l, g, h1, _⟩ := x.ex
    exact ⟨dx, _, r, _, l, g, h1⟩
section
variable {P : Program} {w : World} {K : PySem.W.Frag} {mg : Str → Option Value} {base : Heap} {CT CH CF fI : Addr}
/-! ### Held.__init__ -/
abbrev sHeldInit : Stmt := inClass (top 95) 0
def spHeldInit (CH : Addr) : Sp := fun vs H Q _ => ∃ (p dx : Addr) (H0 : Hp), vs = [.ref p] ∧ H = upd (upd H0 dx (.own p)) p (.ins CH dx []) ∧ H0 p = none ∧ H0 dx = none ∧ dx ≠ p ∧ ∀ H', Same H0 H' → NoneAt CH H' p → Q .non H'
theorem scHeldInit : FnScope ["self"] ["self"] (defScope sHeldInit) := ⟨rfl, rfl, rfl, by decide +kernel, rfl, by decide +kernel, by decide +kernel⟩
def hf1 : List (Str × V) := [("table", .non)]
def hf2 (r : Addr) : List (Str × V) := [("table", .non), ("readers", .ref r)]
def hf3 (r : Addr) : List (Str × V) := [("table", .non), ("readers", .ref r), ("changes", .int 0)]
def hf4 (r l : Addr) : List (Str × V) := [("table", .non), ("readers", .ref r), ("changes", .int 0), ("low", .ref l)]
theorem hf1_put : putF "table" V.non [] = hf1 := rfl
theorem hf2_put (r : Addr) : putF "readers" (.ref r) hf1 = hf2 r := (put_past (by decide +kernel)).trans rfl
theorem hf3_put (r : Addr) : putF "changes" (.int 0) (hf2 r) = hf3 r := (put_past (by decide +kernel)).trans (congrArg _ ((put_past (by decide +kernel)).trans rfl))
theorem hf4_put (r l : Addr) : putF "low" (.ref l) (hf3 r) = hf4 r l := (put_past (by decide +kernel)).trans (congrArg _ ((put_past (by decide +kernel)).trans (congrArg _ ((put_past (by decide +kernel)).trans rfl))))
theorem hf5_put (r l g : Addr) : putF "high" (.ref g) (hf4 r l) = heldF .non r 0 l g := (put_past (by decide +kernel)).trans (congrArg _ ((put_past (by decide +kernel)).trans (congrArg _ ((put_past (by decide +kernel)).trans (congrArg _ ((put_past (by decide +kernel)).trans rfl))))))
theorem ok_held_init (HC : HeldC K CH) (F : FunI K mg CH "Held" "Held.__init__" sHeldInit) : MakeOk P w K mg base 1 "Held" CH ["self"] (spHeldInit CH) := by
  refine F.def (fun _ _ _ _ _ _ us hl => match us, hl with | [_], _ => rfl) fun f fd F => ?_
  refine F.ok scHeldInit (fun vs H Q E h => ?_) (fun cdv A outer s H vs Q E hr h => ⟨_, pss_cons (ps_fld (pv 0) pe_non rfl) (pss_cons (ps_fld (pv 0) (pe_lst pa_nil) rfl) (pss_cons (ps_fld (pv 0) pe_int rfl) (pss_cons (ps_fld (pv 0) (pe_lst pa_nil) rfl) (pss_one (ps_fld (pv 0) (pe_lst pa_nil) rfl))))), ?_⟩)
  · obtain ⟨p, dx, H0, rfl, _⟩ := h
    rfl
  · obtain ⟨p, dx, H0, rfl, rfl, hp, hd, hne, hk⟩ := h
    have e0 : Same H0 (upd (upd H0 dx (.own p)) p (.ins CH dx [])) := (Same.new hd).put hp
    refine ⟨_, rfl, p, CH, dx, [], rfl, upd_same, HC.cl, HC.nt, by show 0 < 1000; decide, ?_⟩
    rw [hf1_put]
    have e1 := e0.put (o := .ins CH dx hf1) hp
    refine ⟨by decide, fun r hr' => ?_⟩
    have hrp : r ≠ p := fun z => by rw [z, upd_same] at hr'; cases hr'
    have e2 := e1.put (o := .lst []) (e1.free hr')
    refine ⟨_, rfl, p, CH, dx, _, rfl, by rw [upd_ne (Ne.symm hrp), upd_same], HC.cl, HC.nr, by show 1 < 1000; decide, ?_⟩
    rw [hf2_put]
    have e3 := e2.put (o := .ins CH dx (hf2 r)) hp
    refine ⟨_, rfl, p, CH, dx, _, rfl, upd_same, HC.cl, HC.nc, by show 2 < 1000; decide, ?_⟩
    rw [hf3_put]
    have e4 := e3.put (o := .ins CH dx (hf3 r)) hp
    refine ⟨by decide, fun l hl => ?_⟩
    have hlp : l ≠ p := fun z => by rw [z, upd_same] at hl; cases hl
    have e5 := e4.put (o := .lst []) (e4.free hl)
    refine ⟨_, rfl, p, CH, dx, _, rfl, by rw [upd_ne (Ne.symm hlp), upd_same], HC.cl, HC.nl, by show 3 < 1000; decide, ?_⟩
    rw [hf4_put]
    have e6 := e5.put (o := .ins CH dx (hf4 r l)) hp
    refine ⟨by decide, fun g hg => ?_⟩
    have hgp : g ≠ p := fun z => by rw [z, upd_same] at hg; cases hg
    have e7 := e6.put (o := .lst []) (e6.free hg)
    refine ⟨_, rfl, p, CH, dx, _, rfl, by rw [upd_ne (Ne.symm hgp), upd_same], HC.cl, HC.nh, by show 4 < 1000; decide, ?_⟩
    rw [hf5_put]
    exact hk _ (e7.put hp) ⟨dx, r, l, g, 0, upd_same⟩
end
end SR
set_option Elab.async false
set_option linter.all false
set_option maxRecDepth 100000
set_option maxHeartbeats 2000000
namespace SR
open PySem PySem.Spec PyProof.Rows L2
open VamvsBase (Bytes word joined showNat showInt Answer Fault)
theorem faultF_c (v v2 : V) : (faultF v v2).lookup ("code" : Str) = some v := (lk_past (by decide +kernel)).trans lk_here
theorem faultF_p (v v2 : V) : (faultF v v2).lookup ("place" : Str) = some v2 := lk_here
theorem rep_zeros (n : Nat) : (List.replicate n [V.int 0]).flatten = iv (List.replicate n 0) := by
  induction n with
  | zero => rfl
  | succ n ih =>
    rw [List.replicate_succ, List.flatten_cons, ih, List.replicate_succ]
    rfl
section
variable {P : Program} {w : World} {K : PySem.W.Frag} {mg : Str → Option Value} {base : Heap} {CT CH CF fI : Addr}
/-! ### answer_load -/
abbrev sAnsLoad : Stmt := top 101
abbrev nAnsLoad : List Str := ["held", "text", "table", "fault", "grouping", "times"]
def spAnsLoad (K : PySem.W.Frag) (CH CT : Addr) : Sp := fun vs H Q _ => ∃ (h tp G : Addr) (o : Vamvsf.Obj) (b : Bytes) (gs : List V), vs = [.ref h, .ref tp] ∧ HeldAt K CH CT (Off G H) h o ∧ H G = some (.lst gs) ∧ SqL K H tp (bv b) ∧ AnsK K CH CT h G H Q (Vamvsf.step o (.load b))
theorem scAnsLoad : FnScope nAnsLoad ["held", "text"] (defScope sAnsLoad) := ⟨rfl, rfl, rfl, by decide +kernel, rfl, by decide +kernel, by decide +kernel⟩
/-- return [0, fault.code, fault.place] -/
def tLoadSuite (CF : Addr) : Addr → Value → Option Addr → TS := fun a cls d => tRet (tLst (tCons (tC (.int 0)) (tCons (tXf a cls d CF "code" (tVar 3)) (tCons (tXf a cls d CF "place" (tVar 3)) tNil))))
theorem ok_answer_load (B : Bn mg) (HC : HeldC K CH) (TC : TabC K CT) (T : FX.FaultTxt K mg CF fI) (D : Def P w K mg base (L2.CX P w) 7 "read_table" ["text"] (spReadTable K CF CT)) (F : FunG K mg "answer_load" sAnsLoad) : Def P w K mg base CX0 9 "answer_load" ["held", "text"] (spAnsLoad K CH CT) := by
  refine F.def (fun _ _ _ _ _ _ us hl => match us, hl with | [_, _], _ => rfl) fun f fd F => ?_
  have nd := scAnsLoad.nd
  obtain ⟨fr, fdr, GR, bR, gR, kR⟩ := D
  refine F.ok scAnsLoad (fun vs H Q E h => ?_) (fun cdv A outer s H vs Q E hr h => ⟨_, pss_cons (ps_try_as (i := 3) (tb := fun W => tAsg (tCallS (spReadTable K CF CT) (WE W) (tCons (tVar 1) tNil)) (gName 2)) (ts := tLoadSuite CF) (Wout := fun _ _ _ _ => False) rfl rfl nd rfl rfl ⟨rfl, by decide, Or.inl T.gC⟩ takes0
        (fun W pn xe tk _ => pss_one (ps_set (i := 2) nd rfl (Or.inl rfl) (by exact (pe_callS GR (hr.mono (by decide)) rfl gR kR bR (fun σ => passAt tk σ) (by exact (pa_cons (pv 1) pa_nil))))))
        (fun a oe cls d pn hz hf => pss_one (ps_ret (by exact (pe_lst (pa_cons pe_int (pa_cons (pe_xf T.xf T.n1 hz hf (pv 3)) (pa_cons (pe_xf T.xf T.n2 hz hf (pv 3)) pa_nil))))))))
    (pss_cons (ps_fld (pv 0) (pv 2) rfl)
    (pss_cons (ps_fld (pv 0) (pe_op op_rep (pe_lst (pa_cons pe_int pa_nil)) (pe_callB n_len (by rfl) B.len PySem.boot_len (pa_cons (pe_fld (pv 2) rfl) pa_nil))) rfl)
    (pss_cons (ps_fld (pv 0) pe_int rfl)
    (pss_cons (ps_fld (pv 0) (pe_lc (own := [("grouping", 4), ("times", 5)]) (g := gTup K 2 (gCons (gName 4) (gCons (gName 5) gNil))) (tt := tYes) (te := tVar 5) rfl nd (pi_list (pe_fld (pv 2) rfl)) (blkOk_by (own := [("grouping", 4), ("times", 5)]) (N := nAnsLoad) (sc := defScope sAnsLoad) (by decide +kernel))
          (fun _ _ _ _ _ => pg_tup rfl (pgs_cons (pg_name (i := 4) nd rfl (Or.inl rfl)) (pgs_cons (pg_name (i := 5) nd rfl (Or.inl rfl)) pgs_nil))) (fun _ _ _ _ _ => pts_nil) (fun _ _ _ _ _ => pv 5)) rfl)
    (pss_cons (ps_fld (pv 0) (pe_callTy call_list_of (by rfl) B.list (by decide +kernel) (pa_cons (pe_fld (pv 0) rfl) pa_nil)) rfl)
    (pss_one (ps_ret (pe_lst (pa_cons pe_int (pa_cons (pe_callB n_len (by rfl) B.len PySem.boot_len (pa_cons (pe_fld (pv 2) rfl) pa_nil)) (pa_cons (pe_callB n_len (by rfl) B.len PySem.boot_len (pa_cons (pe_fld (pv 2) rfl) pa_nil)) (pa_cons (pe_callB n_len (by rfl) B.len PySem.boot_len (pa_cons (pe_fld (pv 2) rfl) pa_nil)) pa_nil)))))))))))), ?_⟩)
  · obtain ⟨h, tp, G0, o, b, gs, rfl, _⟩ := h
    rfl
  · obtain ⟨h, tp, G0, o, b, gs, rfl, hh, hG0, hS, k⟩ := h
    rw [step_load] at k
    refine ⟨_, rfl, tp, b, rfl, hS, ?_⟩
    cases hb : readM b with
    | error f =>
      rw [hb] at k
      intro H1 d e1 hd
      refine ⟨true, T.te, fun _ a0 _ => ?_, fun q => Bool.noConfusion q⟩
      have e2 := e1.put2 (o := .xd (faultF (.int (f.code : Nat)) (.int (f.place : Nat)))) hd
      refine ⟨_, rfl, rfl, rfl, d, _, _, rfl, upd_same, faultF_c _ _, _, rfl, rfl, rfl, d, _, _, rfl, upd_same, faultF_p _ _, by show 3 ≤ sizeLine; decide, fun p hp => ?_⟩
      exact k _ p (SameX.of (e2.put2 hp)) (hh.same (e2.put2 hp).off) (e2.free hp) upd_same
    | ok t =>
      rw [hb] at k
      have R := readM_right hb
      have R8 := R.asks
      intro H1 ta e1 hT hTo' hta0
      have hTo := hTo' G0 gs hG0
      obtain ⟨dx, tv, r, c, l, g, hins0o⟩ := hh.ins
      obtain ⟨hins0, hhG⟩ := off_of hins0o
      have hG1 := e1 _ _ hG0
      have hins := e1 _ _ hins0
      have x1 : SameX h H H1 := SameX.of e1
      -- held.table = table
      refine ⟨_, rfl, _, rfl, h, CH, dx, _, rfl, hins, HC.cl, HC.nt, by show 5 < 1000; decide, ?_⟩
      rw [heldF_pt]
      have y2 : SameX h H1 (upd H1 h (.ins CH dx (heldF (.ref ta) r c l g))) := (SameX.refl h H1).putA
      have hT2 := hT.sameX y2 hins
      have hG2 := y2 _ _ (Ne.symm hhG) hG1
      generalize hH2 : upd H1 h (.ins CH dx (heldF (.ref ta) r c l g)) = H2 at *
      have hins2 : H2 h = some (.ins CH dx (heldF (.ref ta) r c l g)) := by rw [← hH2]; exact upd_same
      -- held.readers = [0] * len(table.questions)
      obtain ⟨dt, c', r', q, rs, qs, t1, t2, t3, t4, t5, t6⟩ := hT2.ex
      refine ⟨by show 1 ≤ sizeLine; decide, fun z hz => ?_⟩
      have s3 : Same H2 (upd H2 z (.lst [.int 0])) := Same.new hz
      refine ⟨_, rfl, ta, CT, dt, _, _, rfl, s3 _ _ t1, TC.cl, TC.nq, tabF_q c' r' q, q, _, rfl, .inl (SqL.of (s3 _ _ t4)), z, _, _, rfl, rfl, upd_same, ?_⟩
      rw [List.length_map, t6.len]
      refine ⟨by omega, by omega, by rw [Int.toNat_natCast, line_eq]; show 1 * _ ≤ _; omega, fun u hu => ?_⟩
      rw [Int.toNat_natCast, rep_zeros]
      have s4 : Same H2 (upd (upd H2 z (.lst [.int 0])) u (.lst (iv (List.replicate t.asks.length 0)))) := s3.put2 hu
      refine ⟨_, rfl, h, CH, dx, _, rfl, s4 _ _ hins2, HC.cl, HC.nr, by show 5 < 1000; decide, ?_⟩
      rw [heldF_pr]
      generalize hH4 : upd (upd H2 z (.lst [.int 0])) u (.lst (iv (List.replicate t.asks.length 0))) = H4 at *
      have hu4 : H4 u = some (.lst (iv (List.replicate t.asks.length 0))) := by rw [← hH4]; exact upd_same
      have hG4 := s4 _ _ hG2
      have huG : u ≠ G0 := fun x => by
        rw [x] at hu
        have := s3 _ _ hG2
        rw [this] at hu
        cases hu
      have huh : u ≠ h := fun x => by rw [x, s4 _ _ hins2] at hu4; cases hu4
      have y5 : SameX h H4 (upd H4 h (.ins CH dx (heldF (.ref ta) u c l g))) := (SameX.refl h H4).putA
      -- held.changes = 0
      refine ⟨_, rfl, h, CH, dx, _, rfl, upd_same, HC.cl, HC.nc, by show 5 < 1000; decide, ?_⟩
      rw [heldF_pc]
      have y6 : SameX h H4 (upd (upd H4 h (.ins CH dx (heldF (.ref ta) u c l g))) h (.ins CH dx (heldF (.ref ta) u 0 l g))) := y5.putA
      generalize hH6 : upd (upd H4 h (.ins CH dx (heldF (.ref ta) u c l g))) h (.ins CH dx (heldF (.ref ta) u 0 l g)) = H6 at *
      have hins6 : H6 h = some (.ins CH dx (heldF (.ref ta) u 0 l g)) := by rw [← hH6]; exact upd_same
      have hG6 := y6 _ _ (Ne.symm hhG) hG4
      have hT6 : TblAt CT H6 ta t := (hT2.same s4).sameX y6 (s4 _ _ hins2)
      have hu6 : H6 u = some (.lst (iv (List.replicate t.asks.length 0))) := y6 _ _ huh hu4
      obtain ⟨dt, c', r', q, rs, qs, t1, t2, t3, t4, t5, t6⟩ := hT6.ex
      have x6 : SameX h H H6 := ((x1.trans y2).trans (SameX.of s4)).trans y6
      -- held.low = [times for ..]
      refine ⟨_, rfl, ta, CT, dt, _, _, rfl, t1, TC.cl, TC.nq, tabF_q c' r' q, q, rfl, ⟨_, SqL.of t4⟩, fun D hD => lc_go (walk_list (K := K) (a := q) (xs := qs.map V.ref)) (fun i => (t.asks.take i).map fun a => V.int (a.k : Nat)) rfl hD (fun H' s' => SqL.of (s' _ _ t4)) ?_ ?_⟩
      · rintro i x H7 H8 hi hP ⟨rfl, hx⟩
        obtain ⟨p, hp, rfl⟩ := refs_at hx
        have hil : i < t.asks.length := by rw [← t6.len]; exact (List.getElem?_eq_some_iff.mp hp).1
        have hask : t.asks[i]? = some t.asks[i] := List.getElem?_eq_getElem hil
        have hA := t6.at_ i p _ hp hask
        refine ⟨p, _, rfl, SqT.of (hP.1 _ _ hA), rfl, _, _, rfl, _, _, rfl, rfl, rfl, _, rfl, ?_⟩
        refine lc_put hD hP (Same.refl _) (by rw [take_succ' hask, List.map_append]; rfl) ?_
        rw [List.length_map, List.length_take, line_eq]
        omega
      · rintro H7 ⟨s7, hD7⟩
        have hD7 : H7 D = some (.lst ((t.asks.take (qs.map V.ref).length).map fun a => V.int (a.k : Nat))) := hD7
        rw [List.length_map, t6.len, List.take_length] at hD7
        have hks : (t.asks.map fun a => V.int ((a.k : Nat) : Int)) = iv (t.asks.map fun a => a.k) := by
          rw [iv, List.map_map]
          rfl
        rw [hks] at hD7
        have hins7 := s7 _ _ hins6
        have hDh : D ≠ h := fun z => by rw [z, hins6] at hD; cases hD
        have hDG : D ≠ G0 := fun z => by rw [z, hG6] at hD; cases hD
        have hG7 := s7 _ _ hG6
        refine ⟨_, rfl, h, CH, dx, _, rfl, hins7, HC.cl, HC.nl, by show 5 < 1000; decide, ?_⟩
        rw [heldF_pl]
        have y8 : SameX h H7 (upd H7 h (.ins CH dx (heldF (.ref ta) u 0 D g))) := (SameX.refl h H7).putA
        generalize hH8 : upd H7 h (.ins CH dx (heldF (.ref ta) u 0 D g)) = H8 at *
        have hins8 : H8 h = some (.ins CH dx (heldF (.ref ta) u 0 D g)) := by rw [← hH8]; exact upd_same
        have hG8 := y8 _ _ (Ne.symm hhG) hG7
        have hD8 : H8 D = some (.lst (iv (t.asks.map fun a => a.k))) := y8 _ _ hDh hD7
        -- held.high = list(held.low)
        refine ⟨_, rfl, h, CH, dx, _, _, rfl, hins8, HC.cl, HC.nl, heldF_l _ _ _ _ _, D, _, rfl, .inl (SqL.of hD8), fun G hG => ?_⟩
        have s9 : Same H8 (upd H8 G (.lst (iv (t.asks.map fun a => a.k)))) := Same.new hG
        refine ⟨_, rfl, h, CH, dx, _, rfl, s9 _ _ hins8, HC.cl, HC.nh, by show 5 < 1000; decide, ?_⟩
        rw [heldF_ph]
        have hGG : G ≠ G0 := fun z => by rw [z, hG8] at hG; cases hG
        have hGh : G ≠ h := fun z => by rw [z, hins8] at hG; cases hG
        have y10 : SameX h H8 (upd (upd H8 G (.lst (iv (t.asks.map fun a => a.k)))) h (.ins CH dx (heldF (.ref ta) u 0 D G))) := (SameX.of s9).putA
        have hG10 : (upd (upd H8 G (.lst (iv (t.asks.map fun a => a.k)))) h (.ins CH dx (heldF (.ref ta) u 0 D G))) G = some (.lst (iv (t.asks.map fun a => a.k))) := by rw [upd_ne hGh, upd_same]
        have hins10 : (upd (upd H8 G (.lst (iv (t.asks.map fun a => a.k)))) h (.ins CH dx (heldF (.ref ta) u 0 D G))) h = some (.ins CH dx (heldF (.ref ta) u 0 D G)) := upd_same
        generalize upd (upd H8 G (.lst (iv (t.asks.map fun a => a.k)))) h (.ins CH dx (heldF (.ref ta) u 0 D G)) = H10 at *
        have hT10 : TblAt CT H10 ta t := ((hT6.same s7).sameX y8 hins7).sameX y10 hins8
        have hu10 : H10 u = some (.lst (iv (List.replicate t.asks.length 0))) := y10 _ _ huh (y8 _ _ huh (s7 _ _ hu6))
        have hD10 : H10 D = some (.lst (iv (t.asks.map fun a => a.k))) := y10 _ _ hDh hD8
        have x10 : SameX h H H10 := ((x6.trans (SameX.of s7)).trans y8).trans y10
        obtain ⟨dt, c', r', q, rs, qs, t1, t2, t3, t4, t5, t6⟩ := hT10.ex
        refine ⟨_, rfl, ta, CT, dt, _, _, rfl, t1, TC.cl, TC.nc, tabF_c c' r' q, c', _, rfl, .inl (SqL.of t2), _, rfl, ta, CT, dt, _, _, rfl, t1, TC.cl, TC.nr, tabF_r c' r' q, r', _, rfl, .inl (SqL.of t3), _, rfl, ta, CT, dt, _, _, rfl, t1, TC.cl, TC.nq, tabF_q c' r' q, q, _, rfl, .inl (SqL.of t4), by show 4 ≤ sizeLine; decide, fun p hp => ?_⟩
        have sp := Same.new (H := H10) (o := .lst [.int 1, .int ((t.cols.map fun b => V.str (tx b)).length : Nat), .int ((rs.map V.ref).length : Nat), .int ((qs.map V.ref).length : Nat)]) hp
        have hph : p ≠ h := fun z => by rw [z, hins10] at hp; cases hp
        have hp0 : H p = none := by
          cases e : H p with
          | none => rfl
          | some o' => rw [x10 _ _ hph e] at hp; cases hp
        have xT : SameX h H1 (upd H10 p (.lst [.int 1, .int ((t.cols.map fun b => V.str (tx b)).length : Nat), .int ((rs.map V.ref).length : Nat), .int ((qs.map V.ref).length : Nat)])) := (((((y2.trans (SameX.of s4)).trans y6).trans (SameX.of s7)).trans y8).trans y10).trans (SameX.of sp)
        refine k _ p (x10.trans (SameX.of sp)) ⟨held_ok R, dx, ta, u, D, G, off_at (sp _ _ hins10) hhG, hTo.sameX xT.off (off_at hins hhG), ?_, SqL.of (off_at (sp _ _ hD10) hDG), SqL.of (off_at (sp _ _ hG10) hGG)⟩ hp0 ?_
        · have hw : (Vamvsf.heldOf t).who = List.replicate t.asks.length 0 := by
            show (t.asks.map fun _ => 0) = _
            rw [List.map_const']
          rw [hw]
          exact SqL.of (off_at (sp _ _ hu10) huG)
        · rw [upd_same, List.length_map, List.length_map, List.length_map, t5.len, t6.len]
          rfl
end
end SR
set_option Elab.async false
set_option linter.all false
set_option maxRecDepth 100000
set_option maxHeartbeats 2000000
/-! The calls, as the program takes them off the one list. -/
namespace SR
open PySem PySem.Spec PyProof.Rows L2
inductive Arg where
  | one (z : Int)
  | lst (l : List Int)
/-- a call's arguments: true a list, false a number -/
def formB_ : Nat → List Bool
  | 0 => [true] | 1 => [] | 2 => [true] | 3 => [false] | 4 => [false] | 5 => [] | 6 => [] | 7 => [true, true] | 8 => [true] | _ => []
def takeArgs : List Bool → List Int → Option (List Arg × List Int)
  | [], r => some ([], r)
  | true :: f, n :: r => if 0 ≤ n ∧ n.toNat ≤ r.length then (takeArgs f (r.drop n.toNat)).map fun x => (.lst (r.take n.toNat) :: x.1, x.2) else none
  | false :: f, z :: r => (takeArgs f r).map fun x => (.one z :: x.1, x.2)
  | _ :: _, [] => none
def toCall : Nat → List Arg → Option Vamvsf.Call
  | 0, [.lst b] => some (.load (VamvsfNeutral.bytesOf b))
  | 1, [] => some .shown
  | 2, [.lst l] => some (.readers l)
  | 3, [.one c] => some (.changes c)
  | 4, [.one s] => some (.alone s)
  | 5, [] => some .shares
  | 6, [] => some .unhappy
  | 7, [.lst a, .lst b] => some (.bounds a b)
  | 8, [.lst l] => some (.regret l)
  | 9, [] => some .least
  | _, _ => none
/-- what the document's bounds tell of the arguments -/
def okArgs (n : Nat) (as : List Arg) : Prop := (n = 0 → ∀ b, as = [.lst b] → ∀ z ∈ b, 0 ≤ z ∧ z ≤ 255) ∧ (n = 8 → ∀ l, as = [.lst l] → l.length ≤ 2000)
/-- from a state: the calls still to come, what they answer in one list -/
inductive Plays : Vamvsf.Obj → List Int → List Int → Prop
  | nil (o : Vamvsf.Obj) : Plays o [] []
  | cons {o : Vamvsf.Obj} {n : Nat} {r t : List Int} {as : List Arg} {c : Vamvsf.Call} {out : List Int} (hn : n < 10) (ha : takeArgs (formB_ n) r = some (as, t)) (hc : toCall n as = some c) (ok : okArgs n as) (h : Plays (Vamvsf.step o c).1 t out) :
      Plays o ((n : Int) :: r) (((encode (Vamvsf.step o c).2).length : Int) :: (encode (Vamvsf.step o c).2 ++ out))
theorem whole_id (c : List (List Int)) : PyVamvsf.whole c = c := by
  unfold PyVamvsf.whole
  split <;> rfl
theorem row_take {r x t : List Int} (h : PyFlat.row r = some (x, t)) (f : List Bool) : takeArgs (true :: f) r = (takeArgs f t).map fun y => (.lst x :: y.1, y.2) := by
  cases r with
  | nil => cases h
  | cons n r =>
    simp only [PyFlat.row] at h
    simp only [takeArgs]
    split at h
    · rename_i hc
      cases h
      rw [if_pos hc]
    · cases h
theorem rows1 {r t : List Int} {xs : List (List Int)} (h : PyFlat.rows 1 r = some (xs, t)) : ∃ x, xs = [x] ∧ PyFlat.row r = some (x, t) := by
  simp only [PyFlat.rows] at h
  cases e : PyFlat.row r with
  | none => rw [e] at h; cases h
  | some y =>
    rw [e] at h
    cases h
    exact ⟨y.1, rfl, rfl⟩
theorem rows2 {r t : List Int} {xs : List (List Int)} (h : PyFlat.rows 2 r = some (xs, t)) : ∃ x y s, xs = [x, y] ∧ PyFlat.row r = some (x, s) ∧ PyFlat.row s = some (y, t) := by
  rw [show (2 : Nat) = 1 + 1 from rfl] at h
  rw [PyFlat.rows] at h
  cases e : PyFlat.row r with
  | none => rw [e] at h; cases h
  | some y =>
    rw [e] at h
    simp only at h
    cases e2 : PyFlat.rows 1 y.2 with
    | none => rw [e2] at h; cases h
    | some z =>
      rw [e2] at h
      cases h
      obtain ⟨x2, h1, h2⟩ := rows1 (show PyFlat.rows 1 y.2 = some (z.1, z.2) from e2)
      exact ⟨y.1, x2, y.2, by rw [h1], rfl, h2⟩
/-- one call off the list -/
theorem call_off {p : Int} {r t : List Int} {c : List (List Int)} (h : PyFlat.call PyVamvsf.shape (p :: r) = some (c, t)) (hb : PyInside.call PyVamvsf.bound c = true) :
    ∃ (n : Nat) (as : List Arg) (k : Vamvsf.Call), p = (n : Int) ∧ n < 10 ∧ takeArgs (formB_ n) r = some (as, t) ∧ toCall n as = some k ∧ okArgs n as ∧ VamvsfNeutral.callOf c = some k := by
  simp only [PyFlat.call] at h
  have hp : ∀ q : Nat × Nat, PyVamvsf.shape p = some q → p = 0 ∨ p = 1 ∨ p = 2 ∨ p = 3 ∨ p = 4 ∨ p = 5 ∨ p = 6 ∨ p = 7 ∨ p = 8 ∨ p = 9 := by
    intro q hq
    unfold PyVamvsf.shape at hq
    repeat' (split at hq)
    all_goals first | (exfalso; cases hq; done) | (rename_i hh; simp only [hh, true_or, or_true])
  have none_ : ∀ (m : Nat), PyVamvsf.shape p = some (0, 0) → p = (m : Int) → c = [[(m : Int)]] ∧ t = r := by
    intro m hs hpm
    rw [hs] at h
    simp only [PyFlat.rows, Nat.not_lt_zero, if_false, List.take_zero, List.drop_zero] at h
    cases h
    rw [hpm]
    exact ⟨rfl, rfl⟩
  have one_ : ∀ (m : Nat), PyVamvsf.shape p = some (1, 0) → p = (m : Int) → ∃ z, c = [[(m : Int), z]] ∧ r = z :: t := by
    intro m hs hpm
    rw [hs] at h
    cases r with
    | nil => cases h
    | cons z r =>
      simp only [PyFlat.rows, List.length_cons, List.take_succ_cons, List.take_zero, List.drop_succ_cons, List.drop_zero] at h
      rw [if_neg (by omega)] at h
      cases h
      rw [hpm]
      exact ⟨z, rfl, rfl⟩
  have lst_ : ∀ (m : Nat), PyVamvsf.shape p = some (0, 1) → p = (m : Int) → ∃ x, c = [[(m : Int)], x] ∧ PyFlat.row r = some (x, t) := by
    intro m hs hpm
    rw [hs] at h
    simp only [Nat.not_lt_zero, if_false, List.take_zero, List.drop_zero] at h
    cases e : PyFlat.rows 1 r with
    | none => rw [e] at h; cases h
    | some y =>
      rw [e] at h
      cases h
      obtain ⟨x, h1, h2⟩ := rows1 (show PyFlat.rows 1 r = some (y.1, y.2) from e)
      rw [hpm, h1]
      exact ⟨x, rfl, h2⟩
  have two_ : ∀ (m : Nat), PyVamvsf.shape p = some (0, 2) → p = (m : Int) → ∃ x y s, c = [[(m : Int)], x, y] ∧ PyFlat.row r = some (x, s) ∧ PyFlat.row s = some (y, t) := by
    intro m hs hpm
    rw [hs] at h
    simp only [Nat.not_lt_zero, if_false, List.take_zero, List.drop_zero] at h
    cases e : PyFlat.rows 2 r with
    | none => rw [e] at h; cases h
    | some y =>
      rw [e] at h
      cases h
      obtain ⟨x, y', s, h1, h2, h3⟩ := rows2 (show PyFlat.rows 2 r = some (y.1, y.2) from e)
      rw [hpm, h1]
      exact ⟨x, y', s, rfl, h2, h3⟩
  cases hs : PyVamvsf.shape p with
  | none => rw [hs] at h; cases h
  | some q =>
    rcases hp q hs with e | e | e | e | e | e | e | e | e | e
    · subst e
      obtain ⟨x, rfl, hr⟩ := lst_ 0 rfl rfl
      have hall : ∀ z ∈ x, 0 ≤ z ∧ z ≤ 255 := by
        have hb2 : (PyInside.each [] [] && PyInside.lists [((0 : Int), (255 : Int), 0, 8192)] [x]) = true := hb
        simp only [PyInside.lists, Bool.and_eq_true, List.all_eq_true] at hb2
        intro z hz
        have := hb2.2.1.2 z hz
        unfold PyInside.within at this
        simpa using this
      refine ⟨0, [.lst x], .load (VamvsfNeutral.bytesOf x), rfl, by decide, by rw [formB_, row_take hr]; rfl, rfl, ⟨fun _ b hb => by cases hb; exact hall, fun h => by cases h⟩, ?_⟩
      have hbt : NeutralIO.bytes x = true := by
        unfold NeutralIO.bytes
        rw [List.all_eq_true]
        intro z hz
        have := hall z hz
        simpa using this
      show (if NeutralIO.bytes x = true then _ else none) = _
      rw [if_pos hbt]
    · subst e
      obtain ⟨rfl, rfl⟩ := none_ 1 rfl rfl
      exact ⟨1, [], .shown, rfl, by decide, rfl, rfl, ⟨fun h => (by cases h), fun h => (by cases h)⟩, rfl⟩
    · subst e
      obtain ⟨x, rfl, hr⟩ := lst_ 2 rfl rfl
      exact ⟨2, [.lst x], .readers x, rfl, by decide, by rw [formB_, row_take hr]; rfl, rfl, ⟨fun h => (by cases h), fun h => (by cases h)⟩, rfl⟩
    · subst e
      obtain ⟨z, rfl, rfl⟩ := one_ 3 rfl rfl
      exact ⟨3, [.one z], .changes z, rfl, by decide, rfl, rfl, ⟨fun h => (by cases h), fun h => (by cases h)⟩, rfl⟩
    · subst e
      obtain ⟨z, rfl, rfl⟩ := one_ 4 rfl rfl
      exact ⟨4, [.one z], .alone z, rfl, by decide, rfl, rfl, ⟨fun h => (by cases h), fun h => (by cases h)⟩, rfl⟩
    · subst e
      obtain ⟨rfl, rfl⟩ := none_ 5 rfl rfl
      exact ⟨5, [], .shares, rfl, by decide, rfl, rfl, ⟨fun h => (by cases h), fun h => (by cases h)⟩, rfl⟩
    · subst e
      obtain ⟨rfl, rfl⟩ := none_ 6 rfl rfl
      exact ⟨6, [], .unhappy, rfl, by decide, rfl, rfl, ⟨fun h => (by cases h), fun h => (by cases h)⟩, rfl⟩
    · subst e
      obtain ⟨x, y, s, rfl, hr, hr2⟩ := two_ 7 rfl rfl
      exact ⟨7, [.lst x, .lst y], .bounds x y, rfl, by decide, by rw [formB_, row_take hr, row_take hr2]; rfl, rfl, ⟨fun h => (by cases h), fun h => (by cases h)⟩, rfl⟩
    · subst e
      obtain ⟨x, rfl, hr⟩ := lst_ 8 rfl rfl
      have hlen : x.length ≤ 2000 := by
        have hb2 : (PyInside.each [] [] && PyInside.lists [((-1000000000000000000 : Int), (1000000000000000000 : Int), 0, 2000)] [x]) = true := hb
        simp only [PyInside.lists, Bool.and_eq_true, decide_eq_true_eq] at hb2
        exact hb2.2.1.1.2
      exact ⟨8, [.lst x], .regret x, rfl, by decide, by rw [formB_, row_take hr]; rfl, rfl, ⟨fun h => (by cases h), fun _ l hl => by cases hl; exact hlen⟩, rfl⟩
    · subst e
      obtain ⟨rfl, rfl⟩ := none_ 9 rfl rfl
      exact ⟨9, [], .least, rfl, by decide, rfl, rfl, ⟨fun h => (by cases h), fun h => (by cases h)⟩, rfl⟩
theorem plays_of : ∀ (f : Nat) (l : List Int) (cs : List (List (List Int))) (o : Vamvsf.Obj), PyFlat.calls PyVamvsf.shape f l = some cs → PyInside.calls PyVamvsf.bound cs = true → Plays o l (PyFlat.told (PyFlat.played VamvsfNeutral.step o cs))
  | f, [], cs, o, h, _ => by
    have : cs = [] := by cases f <;> (cases h; rfl)
    subst this
    exact .nil o
  | 0, p :: r, cs, o, h, _ => by cases h
  | f + 1, p :: r, cs, o, h, hb => by
    rw [PyFlat.calls] at h
    cases e : PyFlat.call PyVamvsf.shape (p :: r) with
    | none => rw [e] at h; cases h
    | some x =>
      obtain ⟨c, t⟩ := x
      rw [e] at h
      simp only at h
      cases e2 : PyFlat.calls PyVamvsf.shape f t with
      | none => rw [e2] at h; cases h
      | some cs' =>
        rw [e2] at h
        cases h
        simp only [PyInside.calls, List.all_cons, Bool.and_eq_true] at hb
        obtain ⟨n, as, k, rfl, hn, ha, hk, ok, hc⟩ := call_off e hb.1
        have hstep : VamvsfNeutral.step o c = ((Vamvsf.step o k).1, encode (Vamvsf.step o k).2) := by
          unfold VamvsfNeutral.step
          rw [hc]
          rfl
        have ih := plays_of f t cs' (Vamvsf.step o k).1 e2 hb.2
        have := Plays.cons hn ha hk ok ih
        have e3 : PyFlat.told (PyFlat.played VamvsfNeutral.step o (c :: cs')) = ((encode (Vamvsf.step o k).2).length : Int) :: (encode (Vamvsf.step o k).2 ++ PyFlat.told (PyFlat.played VamvsfNeutral.step (Vamvsf.step o k).1 cs')) := by
          show ((VamvsfNeutral.step o c).2.length : Int) :: (VamvsfNeutral.step o c).2 ++ PyFlat.told (PyFlat.played VamvsfNeutral.step (VamvsfNeutral.step o c).1 cs') = _
          rw [hstep]
          rfl
        rw [e3]
        exact this
theorem asked_plays {l : List Int} (h : PyVamvsf.answers_asked l = true) : Plays none l (PyVamvsf.answers l) ∧ (PyVamvsf.answers l).length ≤ 10000000 := by
  unfold PyVamvsf.answers_asked at h
  cases e : PyFlat.calls PyVamvsf.shape l.length l with
  | none => rw [e] at h; cases h
  | some raw =>
    rw [e] at h
    simp only [Bool.and_eq_true] at h
    have hw : raw.map PyVamvsf.whole = raw := by
      rw [show PyVamvsf.whole = id from funext whole_id, List.map_id]
    refine ⟨?_, ?_⟩
    · have := plays_of l.length l raw none e h.1.1.2
      unfold PyVamvsf.answers PyVamvsf.calls
      rw [e]
      simp only [hw]
      exact this
    · have := h.2
      unfold PyFlat.short at this
      simpa using this
end SR
set_option Elab.async false
set_option linter.all false
set_option maxRecDepth 100000
set_option maxHeartbeats 2000000
namespace SR
open PySem PySem.Spec PyProof.Rows L2
def cwF (C : Addr) (i : Nat) : List (Str × V) := [("calls", .ref C), ("walked", .int (i : Nat))]
theorem cwF_c (C : Addr) (i : Nat) : (cwF C i).lookup ("calls" : Str) = some (.ref C) := lk_here
theorem cwF_w (C : Addr) (i : Nat) : (cwF C i).lookup ("walked" : Str) = some (.int (i : Nat)) := (lk_past (by decide +kernel)).trans lk_here
def cw1 (C : Addr) : List (Str × V) := [("calls", .ref C)]
theorem cw1_put (C : Addr) : putF "calls" (.ref C) [] = cw1 C := rfl
theorem cwF_put (C : Addr) : putF "walked" (.int 0) (cw1 C) = cwF C 0 := (put_past (by decide +kernel)).trans rfl
theorem cwF_next (C : Addr) (i n : Nat) : putF "walked" (.int ((i : Int) + (n : Int))) (cwF C i) = cwF C (i + n) := (put_past (by decide +kernel)).trans (congrArg _ put_here)
theorem cwF_none {m : Str} (h1 : (m == ("calls" : Str)) = false) (h2 : (m == ("walked" : Str)) = false) (C : Addr) (i : Nat) : (cwF C i).lookup m = none := (lk_past h1).trans ((lk_past h2).trans rfl)
structure CwC (K : PySem.W.Frag) (C : Addr) : Prop where
  cl : Cls K C
  nc : NoAttr K C "calls"
  nw : NoAttr K C "walked"
/-- the walk over the calls at a has r still to take of l -/
structure CwAt (K : PySem.W.Frag) (CC : Addr) (H : Hp) (a C : Addr) (l r : List Int) : Prop where
  ex : ∃ (dx : Addr) (i : Nat), H a = some (.ins CC dx (cwF C i)) ∧ SqL K H C (zv l) ∧ r = l.drop i ∧ i ≤ l.length ∧ True
theorem CwAt.same {K : PySem.W.Frag} {CC a C : Addr} {H H' : Hp} {l r : List Int} (e : Same H H') (h : CwAt K CC H a C l r) : CwAt K CC H' a C l r := by
  obtain ⟨dx, i, h1, h2, h3⟩ := h.ex
  exact ⟨dx, i, e _ _ h1, e.seq h2, h3⟩
section
variable {P : Program} {w : World} {K : PySem.W.Frag} {mg : Str → Option Value} {base : Heap} {CC : Addr}
/-! ### CallWalk -/
abbrev sCwInit : Stmt := inClass (top 96) 0
def spCwInit (K : PySem.W.Frag) (CC : Addr) : Sp := fun vs H Q _ => ∃ (p dx C : Addr) (l : List Int) (H0 : Hp), vs = [.ref p, .ref C] ∧ H = upd (upd H0 dx (.own p)) p (.ins CC dx []) ∧ H0 p = none ∧ H0 dx = none ∧ dx ≠ p ∧ SqL K H0 C (zv l) ∧ True ∧ ∀ H', Same H0 H' → CwAt K CC H' p C l l → Q .non H'
theorem scCwInit : FnScope ["self", "calls"] ["self", "calls"] (defScope sCwInit) := ⟨rfl, rfl, rfl, by decide +kernel, rfl, by decide +kernel, by decide +kernel⟩
theorem ok_cw_init (WC : CwC K CC) (F : FunI K mg CC "CallWalk" "CallWalk.__init__" sCwInit) : MakeOk P w K mg base 1 "CallWalk" CC ["self", "calls"] (spCwInit K CC) := by
  refine F.def (fun _ _ _ _ _ _ us hl => match us, hl with | [_, _], _ => rfl) fun f fd F => ?_
  refine F.ok scCwInit (fun vs H Q E h => ?_) (fun cdv A outer s H vs Q E hr h => ⟨_, pss_cons (ps_fld (pv 0) (pv 1) rfl) (pss_one (ps_fld (pv 0) pe_int rfl)), ?_⟩)
  · obtain ⟨p, dx, C, l, H0, rfl, _⟩ := h
    rfl
  · obtain ⟨p, dx, C, l, H0, rfl, rfl, hp, hd, hne, hC, hll, hk⟩ := h
    have e0 : Same H0 (upd (upd H0 dx (.own p)) p (.ins CC dx [])) := (Same.new hd).put hp
    refine ⟨_, rfl, _, rfl, p, CC, dx, [], rfl, upd_same, WC.cl, WC.nc, by show 0 < 1000; decide, ?_⟩
    rw [cw1_put]
    have e1 := e0.put (o := .ins CC dx (cw1 C)) hp
    refine ⟨_, rfl, p, CC, dx, _, rfl, upd_same, WC.cl, WC.nw, by show 1 < 1000; decide, ?_⟩
    have hw := cwF_put C
    rw [hw]
    have e2 := e1.put (o := .ins CC dx (cwF C 0)) hp
    exact hk _ e2 ⟨dx, 0, upd_same, e2.seq hC, rfl, Nat.zero_le _, hll⟩
abbrev sAtEnd : Stmt := inClass (top 96) 1
def spAtEnd (K : PySem.W.Frag) (CC : Addr) : Sp := fun vs H Q _ => ∃ (a C : Addr) (l r : List Int), vs = [.ref a] ∧ CwAt K CC H a C l r ∧ Q (.bl (decide (r = []))) H
theorem scAtEnd : FnScope ["self"] ["self"] (defScope sAtEnd) := ⟨rfl, rfl, rfl, by decide +kernel, rfl, by decide +kernel, by decide +kernel⟩
theorem ok_at_end (B : Bn mg) (WC : CwC K CC) (F : FunM K CC "at_end" "CallWalk.at_end" sAtEnd) : MethOk P w K mg base CX0 1 CC "at_end" ["self"] (spAtEnd K CC) := by
  refine F.def (fun _ _ _ _ _ _ us hl => match us, hl with | [_], _ => rfl) fun f fd F => ?_
  refine F.ok scAtEnd (fun vs H Q E h => ?_) (fun cdv A outer s H vs Q E hr h => ⟨_, pss_one (ps_ret (pe_cmpR n_eq (pe_fld (pv 0) rfl) (pe_callB n_len (by rfl) B.len PySem.boot_len (pa_cons (pe_fld (pv 0) rfl) pa_nil)) (nomark _))), ?_⟩)
  · obtain ⟨a, C, l, r, rfl, _⟩ := h
    rfl
  · obtain ⟨a, C, l, r, rfl, hw, k⟩ := h
    obtain ⟨dx, i, h1, h2, h3, h4, h5⟩ := hw.ex
    refine ⟨_, rfl, a, CC, dx, _, _, rfl, h1, WC.cl, WC.nw, cwF_w C i, _, rfl, a, CC, dx, _, _, rfl, h1, WC.cl, WC.nc, cwF_c C i, C, _, rfl, .inl h2, i, _, rfl, rfl, ?_⟩
    rw [List.length_map]
    have e : decide (i = l.length) = decide (r = []) := by
      congr 1
      refine propext ?_
      rw [h3]
      constructor
      · intro z
        rw [z, List.drop_length]
      · intro z
        have := congrArg List.length z
        rw [List.length_drop] at this
        simp only [List.length_nil] at this
        omega
    rw [e]
    exact k
abbrev sTakeOne : Stmt := inClass (top 96) 2
abbrev nTakeOne : List Str := ["self", "number"]
def spTakeOne (K : PySem.W.Frag) (CC : Addr) : Sp := fun vs H Q _ => ∃ (a C : Addr) (l r : List Int) (z : Int), vs = [.ref a] ∧ CwAt K CC H a C l (z :: r) ∧ ∀ H', SameX a H H' → CwAt K CC H' a C l r → Q (.int z) H'
theorem scTakeOne : FnScope nTakeOne ["self"] (defScope sTakeOne) := ⟨rfl, rfl, rfl, by decide +kernel, rfl, by decide +kernel, by decide +kernel⟩
theorem drop_at {l r : List Int} {i : Nat} {z : Int} (h : z :: r = l.drop i) : l[i]? = some z ∧ r = l.drop (i + 1) ∧ i < l.length := by
  have hi : i < l.length := by
    rcases Nat.lt_or_ge i l.length with y | y
    · exact y
    · rw [List.drop_eq_nil_of_le y] at h
      cases h
  have h0 : (l.drop i)[0]? = l[i + 0]? := List.getElem?_drop
  rw [← h] at h0
  refine ⟨h0.symm, ?_, hi⟩
  rw [← List.drop_drop, ← h]
  rfl
theorem ok_take_one (WC : CwC K CC) (F : FunM K CC "take_one" "CallWalk.take_one" sTakeOne) : MethOk P w K mg base CX0 1 CC "take_one" ["self"] (spTakeOne K CC) := by
  refine F.def (fun _ _ _ _ _ _ us hl => match us, hl with | [_], _ => rfl) fun f fd F => ?_
  have nd := scTakeOne.nd
  refine F.ok scTakeOne (fun vs H Q E h => ?_) (fun cdv A outer s H vs Q E hr h => ⟨_, pss_cons (ps_set (i := 1) nd rfl (Or.inl rfl) (pe_ix ix_list (pe_fld (pv 0) rfl) (pe_fld (pv 0) rfl) (fun _ _ => rfl)))
    (pss_cons (ps_fldaug (pv 0) pe_int in_add) (pss_one (ps_ret (pv 1)))), ?_⟩)
  · obtain ⟨a, C, l, r, z, rfl, _⟩ := h
    rfl
  · obtain ⟨a, C, l, r, z, rfl, hw, k⟩ := h
    obtain ⟨dx, i, h1, h2, h3, h4, h5⟩ := hw.ex
    obtain ⟨g1, g2, g3⟩ := drop_at h3
    refine ⟨_, rfl, a, CC, dx, _, _, rfl, h1, WC.cl, WC.nc, cwF_c C i, _, rfl, a, CC, dx, _, _, rfl, h1, WC.cl, WC.nw, cwF_w C i, C, _, _, _, rfl, rfl, h2, atI_nat (by rw [List.getElem?_map, g1]; rfl), ?_⟩
    refine ⟨_, rfl, a, CC, dx, _, _, rfl, h1, WC.cl, WC.nw, cwF_w C i, i, 1, rfl, rfl, dx, _, h1, by show 2 < 1000; decide, ?_⟩
    have hn := cwF_next C i 1
    have hn : putF "walked" (.int ((i : Int) + 1)) (cwF C i) = cwF C (i + 1) := hn
    rw [hn]
    have x1 : SameX a H (upd H a (.ins CC dx (cwF C (i + 1)))) := (SameX.refl a H).putA
    exact ⟨_, rfl, k _ x1 ⟨dx, i + 1, upd_same, x1.seq h1 h2, g2, by omega, h5⟩⟩
abbrev sTakeList : Stmt := inClass (top 96) 3
abbrev nTakeList : List Str := ["self", "count", "begin"]
def spTakeList (K : PySem.W.Frag) (CC : Addr) : Sp := fun vs H Q _ => ∃ (a C : Addr) (l r : List Int) (n : Nat), vs = [.ref a] ∧ CwAt K CC H a C l ((n : Int) :: r) ∧ n ≤ r.length ∧ ∀ (H' : Hp) (p : Addr), SameX a H H' → CwAt K CC H' a C l (r.drop n) → H' p = some (.lst (zv (r.take n))) → H p = none → Q (.ref p) H'
theorem scTakeList : FnScope nTakeList ["self"] (defScope sTakeList) := ⟨rfl, rfl, rfl, by decide +kernel, rfl, by decide +kernel, by decide +kernel⟩
theorem ok_take_list (WC : CwC K CC) (D : MethOk P w K mg base CX0 1 CC "take_one" ["self"] (spTakeOne K CC)) (F : FunM K CC "take_list" "CallWalk.take_list" sTakeList) : MethOk P w K mg base CX0 2 CC "take_list" ["self"] (spTakeList K CC) := by
  refine F.def (fun _ _ _ _ _ _ us hl => match us, hl with | [_], _ => rfl) fun f fd F => ?_
  have nd := scTakeList.nd
  refine F.ok scTakeList (fun vs H Q E h => ?_) (fun cdv A outer s H vs Q E hr h => ⟨_, pss_cons (ps_set (i := 1) nd rfl (Or.inl rfl) (me0 (pv 0) WC.cl D hr pass0))
    (pss_cons (ps_set (i := 2) nd rfl (Or.inl rfl) (pe_fld (pv 0) rfl))
    (pss_cons (ps_fldaug (pv 0) (pv 1) in_add) (pss_one (ps_ret (pe_slice sl_list (pe_fld (pv 0) rfl) (po_some (pv 2)) (po_some (pe_fld (pv 0) rfl))))))), ?_⟩)
  · obtain ⟨a, C, l, r, n, rfl, _⟩ := h
    rfl
  · obtain ⟨a, C, l, r, n, rfl, hw, hn, k⟩ := h
    obtain ⟨dx, i, h1, h2, h3, h4, h5⟩ := hw.ex
    refine ⟨_, rfl, a, dx, _, rfl, h1, cwF_none (by decide +kernel) (by decide +kernel) C i, a, C, l, r, n, rfl, hw, fun H1 x1 w1 => ?_⟩
    obtain ⟨dx1, i1, g1, g2, g3, g4, g5⟩ := w1.ex
    refine ⟨_, rfl, a, CC, dx1, _, _, rfl, g1, WC.cl, WC.nw, cwF_w C i1, ?_⟩
    refine ⟨_, rfl, a, CC, dx1, _, _, rfl, g1, WC.cl, WC.nw, cwF_w C i1, _, rfl, i1, n, rfl, rfl, dx1, _, g1, by show 2 < 1000; decide, ?_⟩
    rw [cwF_next C i1 n]
    have x2 : SameX a H1 (upd H1 a (.ins CC dx1 (cwF C (i1 + n)))) := (SameX.refl a H1).putA
    have hrl : r.length = l.length - i1 := by rw [g3, List.length_drop]
    have hg2 := x2.seq g1 g2
    refine ⟨_, rfl, a, CC, dx1, _, _, rfl, upd_same, WC.cl, WC.nc, cwF_c C _, _, rfl, _, rfl, _, rfl, a, CC, dx1, _, _, rfl, upd_same, WC.cl, WC.nw, cwF_w C _, _, rfl, C, _, rfl, hg2, fun p hp => ?_⟩
    have hpa : p ≠ a := fun z => by rw [z, upd_same] at hp; cases hp
    have hp1 : H1 p = none := by rw [upd_ne hpa] at hp; exact hp
    have hp0 : H p = none := by
      cases e : H p with
      | none => rfl
      | some o => rw [x1 _ _ hpa e] at hp1; cases hp1
    have sp := Same.new (H := upd H1 a (.ins CC dx1 (cwF C (i1 + n)))) (o := .lst (cutV (zv l) (some ((i1 : Nat) : Int)) (some ((i1 + n : Nat) : Int)))) hp
    refine k _ p ((x1.trans x2).trans (SameX.of sp)) ⟨dx1, i1 + n, sp _ _ upd_same, sp.seq hg2, by rw [g3, List.drop_drop], by omega, h5⟩ ?_ hp0
    rw [upd_same]
    unfold cutV
    rw [HT.sIx_nat, HT.sIx_nat, List.length_map]
    have e1 : min i1 l.length = i1 := by omega
    have e2 : min (i1 + n) l.length - i1 = n := by omega
    rw [e1, e2, g3, zv, zv, List.map_take, List.map_drop]
end
end SR
set_option Elab.async false
set_option linter.all false
set_option maxRecDepth 100000
set_option maxHeartbeats 2000000
namespace SR
open PySem PySem.Spec PyProof.Rows L2
open VamvsBase (Bytes Answer)
def ArgAt (H : Hp) (A : Addr → Prop) (v : V) : Arg → Prop
  | .one z => v = .int z
  | .lst l => ∃ p, v = .ref p ∧ A p ∧ H p = some (.lst (zv l))
def ArgsAt (H : Hp) (A : Addr → Prop) : List V → List Arg → Prop
  | [], [] => True
  | v :: vs, a :: as => ArgAt H A v a ∧ ArgsAt H A vs as
  | _, _ => False
theorem ArgAt.keep {H H' : Hp} {A B : Addr → Prop} {v : V} {a : Arg} (h : ArgAt H A v a) (k : ∀ p l, A p → H p = some (.lst (zv l)) → B p ∧ H' p = some (.lst (zv l))) : ArgAt H' B v a := by
  cases a with
  | one z => exact h
  | lst l =>
    obtain ⟨p, h1, h2, h3⟩ := h
    exact ⟨p, h1, (k p l h2 h3).1, (k p l h2 h3).2⟩
theorem ArgsAt.keep {H H' : Hp} {A B : Addr → Prop} (k : ∀ p l, A p → H p = some (.lst (zv l)) → B p ∧ H' p = some (.lst (zv l))) : ∀ {vs : List V} {as : List Arg}, ArgsAt H A vs as → ArgsAt H' B vs as
  | [], [], _ => trivial
  | [], _ :: _, h => h.elim
  | _ :: _, [], h => h.elim
  | v :: vs, a :: as, h => ⟨h.1.keep k, ArgsAt.keep k h.2⟩
theorem ArgsAt.snoc {H : Hp} {A : Addr → Prop} {v : V} {a : Arg} (hv : ArgAt H A v a) : ∀ {vs : List V} {as : List Arg}, ArgsAt H A vs as → ArgsAt H A (vs ++ [v]) (as ++ [a])
  | [], [], _ => ⟨hv, trivial⟩
  | [], _ :: _, h => h.elim
  | _ :: _, [], h => h.elim
  | w :: vs, b :: as, h => ⟨h.1, ArgsAt.snoc hv h.2⟩
theorem ArgsAt.len {H : Hp} {A : Addr → Prop} : ∀ {vs : List V} {as : List Arg}, ArgsAt H A vs as → vs.length = as.length
  | [], [], _ => rfl
  | [], _ :: _, h => h.elim
  | _ :: _, [], h => h.elim
  | w :: vs, b :: as, h => congrArg (· + 1) (ArgsAt.len h.2)
def kindV (b : Bool) : V := if b = true then .str (Str.ofString "list") else .str (Str.ofString "number")
/-- the forms that the program has written -/
def GForms (K : PySem.W.Frag) (mg : Str → Option Value) : Prop := ∃ (a : Addr) (fs : List Addr), mg "FORMS" = some (.ref a) ∧ fs.length = 10 ∧ (∀ H, SqT K H a (fs.map V.ref)) ∧ ∀ (i : Nat) (f : Addr), fs[i]? = some f → ∀ H, SqT K H f ((formB_ i).map kindV)
theorem form_len : ∀ n < 10, (formB_ n).length ≤ 2 := by decide
theorem kind_is (b : Bool) : decide (kindV b = V.str (Str.ofString "list")) = b := by
  cases b with
  | true => exact decide_eq_true rfl
  | false =>
    show decide (V.str (Str.ofString "number") = V.str (Str.ofString "list")) = false
    rw [dec_str]
    decide +kernel
section
variable {P : Program} {w : World} {K : PySem.W.Frag} {mg : Str → Option Value} {base : Heap} {CC : Addr}
/-! ### take_arguments -/
abbrev sTakeArgs : Stmt := top 98
abbrev nTakeArgs : List Str := ["walk", "number", "arguments", "kind"]
def spTakeArgs (K : PySem.W.Frag) (CC : Addr) : Sp := fun vs H Q _ => ∃ (a C : Addr) (l r : List Int) (n : Nat) (as : List Arg) (t : List Int), vs = [.ref a, .int (n : Nat)] ∧ n < 10 ∧ CwAt K CC H a C l r ∧ takeArgs (formB_ n) r = some (as, t) ∧
  ∀ (H' : Hp) (A : Addr) (us : List V), SameX a H H' → CwAt K CC H' a C l t → H' A = some (.lst us) → ArgsAt H' (fun p => p ≠ A ∧ H p = none) us as → H A = none → Q (.ref A) H'
theorem scTakeArgs : FnScope nTakeArgs ["walk", "number"] (defScope sTakeArgs) := ⟨rfl, rfl, rfl, by decide +kernel, rfl, by decide +kernel, by decide +kernel⟩
theorem CwAt.ins {H : Hp} {a C : Addr} {l r : List Int} (h : CwAt K CC H a C l r) : ∃ dx fs, H a = some (.ins CC dx fs) := by
  obtain ⟨dx, i, h1, _⟩ := h.ex
  exact ⟨dx, _, h1⟩
theorem SameX.free {H H' : Hp} {a p : Addr} (e : SameX a H H') (hp : H' p = none) (hpa : p ≠ a) : H p = none := by
  cases e2 : H p with
  | none => rfl
  | some o => rw [e _ _ hpa e2] at hp; cases hp
theorem ok_take_arguments (WC : CwC K CC) (GF : GForms K mg) (D1 : MethOk P w K mg base CX0 1 CC "take_one" ["self"] (spTakeOne K CC)) (D2 : MethOk P w K mg base CX0 2 CC "take_list" ["self"] (spTakeList K CC)) (F : FunG K mg "take_arguments" sTakeArgs) :
    Def P w K mg base CX0 3 "take_arguments" ["walk", "number"] (spTakeArgs K CC) := by
  obtain ⟨aF, fs, gF, hfl, hF, hf⟩ := GF
  refine F.def (fun _ _ _ _ _ _ us hl => match us, hl with | [_, _], _ => rfl) fun f fd F => ?_
  have nd := scTakeArgs.nd
  refine F.ok scTakeArgs (fun vs H Q E h => ?_) (fun cdv A outer s H vs Q E hr h => ⟨_, pss_cons (ps_set (i := 2) nd rfl (Or.inl rfl) (pe_lst pa_nil))
    (pss_cons (ps_for PassesOwn.never rfl (pi_tup (pe_ix ix_tup (gref gF) (pv 1) (fun _ _ => rfl))) (pg_name (i := 3) nd rfl (Or.inl rfl))
      (pss_one (ps_if (pt_cmpR op_eq (pv 3) pe_str (nomark _))
        (pss_one (ps_expr (pe_bm PySem.F.plainAttrs_list PySem.F.slot_list_append PySem.F.type_list_append mt_append (pv 2) (pa_cons (me0 (pv 0) WC.cl D2 hr pass0) pa_nil))))
        (pss_one (ps_expr (pe_bm PySem.F.plainAttrs_list PySem.F.slot_list_append PySem.F.type_list_append mt_append (pv 2) (pa_cons (me0 (pv 0) WC.cl D1 (hr.mono (by decide)) pass0) pa_nil)))))))
    (pss_one (ps_ret (pv 2)))), ?_⟩)
  · obtain ⟨a, C, l, r, n, as, t, rfl, _⟩ := h
    rfl
  · obtain ⟨a, C, l, r, n, as, t, rfl, hn, hw, ht, k⟩ := h
    obtain ⟨da, fsa, hins⟩ := hw.ins
    have hfn : n < fs.length := by omega
    have hfi : fs[n]? = some fs[n] := List.getElem?_eq_getElem hfn
    have hk := hf n _ hfi
    have h2 := form_len n hn
    refine ⟨by decide, fun L hL => ?_⟩
    have hLa : L ≠ a := fun z => by rw [z, hins] at hL; cases hL
    refine ⟨_, rfl, aF, _, _, _, rfl, rfl, hF _, atI_nat (by rw [List.getElem?_map, hfi]; rfl), fs[n], rfl, ⟨_, hk _⟩, for_it (walk_tup (K := K) (a := fs[n]) (xs := (formB_ n).map kindV))
      (fun i σ H' => ∃ (x3 : Option V) (us : List V) (done more : List Arg) (r' : List Int), σ = [some (.ref a), some (.int (n : Nat)), some (.ref L), x3] ∧ SameX a H H' ∧ CwAt K CC H' a C l r' ∧ H' L = some (.lst us) ∧ ArgsAt H' (fun p => p ≠ L ∧ H p = none) us done ∧ done.length = i ∧ as = done ++ more ∧ takeArgs ((formB_ n).drop i) r' = some (more, t))
      ⟨none, [], [], as, r, rfl, (SameX.refl a H).put hL, hw.same (Same.new hL), upd_same, trivial, rfl, rfl, by rw [List.drop_zero]; exact ht⟩ (fun i σ H' _ _ => hk H') ?_ ?_⟩
    · rintro i x σ H1 H2 hi ⟨x3, us, done, more, r', rfl, e, w1, hL1, hA, hdl, has, htk⟩ ⟨rfl, hx⟩
      rw [List.length_map] at hi
      have hfi2 : (formB_ n)[i]? = some (formB_ n)[i] := List.getElem?_eq_getElem hi
      rw [List.getElem?_map, hfi2] at hx
      cases hx
      have hd : (formB_ n).drop i = (formB_ n)[i] :: (formB_ n).drop (i + 1) := List.drop_eq_getElem_cons hi
      rw [hd] at htk
      obtain ⟨da1, fs1, hins1⟩ := w1.ins
      have huL := hA.len
      refine ⟨_, rfl, by cases (formB_ n)[i] <;> rfl, _, rfl, ?_⟩
      rw [kind_is]
      cases hb : (formB_ n)[i] with
      | true =>
        rw [hb] at htk
        refine if_t rfl ?_
        cases r' with
        | nil => cases htk
        | cons c r2 =>
          simp only [takeArgs] at htk
          split at htk
          · rename_i hc
            cases hm : takeArgs ((formB_ n).drop (i + 1)) (r2.drop c.toNat) with
            | none => rw [hm] at htk; cases htk
            | some y =>
              rw [hm] at htk
              cases htk
              obtain ⟨dxw, iw, q1, q2⟩ := w1.ex
              have hcn : ((c.toNat : Nat) : Int) = c := by omega
              refine ⟨_, rfl, .inl ⟨rfl, _, SqL.of hL1⟩, _, rfl, a, dxw, _, rfl, q1, cwF_none (by decide +kernel) (by decide +kernel) C iw, a, C, l, r2, c.toNat, rfl, by rw [hcn]; exact w1, hc.2, fun H3 p x2 w3 hp3 hp0 => ?_⟩
              have hL3 : H3 L = some (.lst us) := x2 _ _ hLa hL1
              have hpL : p ≠ L := fun z => by rw [z, hL1] at hp0; cases hp0
              refine ⟨L, _, _, rfl, rfl, hL3, by rw [huL, hdl, line_eq]; omega, _, us ++ [.ref p], done ++ [.lst (r2.take c.toNat)], y.1, r2.drop c.toNat, rfl, (e.trans x2).put hL, ?_, upd_same, ?_, by rw [List.length_append, hdl]; rfl, by rw [has, List.append_assoc]; rfl, hm⟩
              · obtain ⟨dx3, i3, v1, v2, v3⟩ := w3.ex
                have hCL : SqL K (upd H3 L (.lst (us ++ [.ref p]))) C (zv l) := by
                  have hC0 : SqL K H C (zv l) := by
                    obtain ⟨dx0, i0, u1, u2, u3⟩ := hw.ex
                    exact u2
                  exact ((e.trans x2).put hL).seq hins hC0
                exact ⟨dx3, i3, by rw [upd_ne (Ne.symm hLa)]; exact v1, hCL, v3⟩
              · have hpa : p ≠ a := fun z => by rw [z, hins1] at hp0; cases hp0
                have hnew : ArgAt (upd H3 L (.lst (us ++ [.ref p]))) (fun p => p ≠ L ∧ H p = none) (.ref p) (.lst (r2.take c.toNat)) := ⟨p, rfl, ⟨hpL, e.free hp0 hpa⟩, by rw [upd_ne hpL]; exact hp3⟩
                refine ArgsAt.snoc hnew (hA.keep fun q m hq h => ?_)
                exact ⟨hq, by rw [upd_ne hq.1]; exact x2.lst hins1 h⟩
          · cases htk
      | false =>
        rw [hb] at htk
        refine if_f rfl ?_
        cases r' with
        | nil => cases htk
        | cons c r2 =>
          simp only [takeArgs] at htk
          cases hm : takeArgs ((formB_ n).drop (i + 1)) r2 with
          | none => rw [hm] at htk; cases htk
          | some y =>
            rw [hm] at htk
            cases htk
            obtain ⟨dxw, iw, q1, q2⟩ := w1.ex
            refine ⟨_, rfl, .inl ⟨rfl, _, SqL.of hL1⟩, _, rfl, a, dxw, _, rfl, q1, cwF_none (by decide +kernel) (by decide +kernel) C iw, a, C, l, r2, c, rfl, w1, fun H3 x2 w3 => ?_⟩
            have hL3 : H3 L = some (.lst us) := x2 _ _ hLa hL1
            refine ⟨L, _, _, rfl, rfl, hL3, by rw [huL, hdl, line_eq]; omega, _, us ++ [.int c], done ++ [.one c], y.1, r2, rfl, (e.trans x2).put hL, ?_, upd_same, ?_, by rw [List.length_append, hdl]; rfl, by rw [has, List.append_assoc]; rfl, hm⟩
            · obtain ⟨dx3, i3, v1, v2, v3⟩ := w3.ex
              have hCL : SqL K (upd H3 L (.lst (us ++ [.int c]))) C (zv l) := by
                have hC0 : SqL K H C (zv l) := by
                  obtain ⟨dx0, i0, u1, u2, u3⟩ := hw.ex
                  exact u2
                exact ((e.trans x2).put hL).seq hins hC0
              exact ⟨dx3, i3, by rw [upd_ne (Ne.symm hLa)]; exact v1, hCL, v3⟩
            · have hnew : ArgAt (upd H3 L (.lst (us ++ [.int c]))) (fun p => p ≠ L ∧ H p = none) (.int c) (.one c) := rfl
              refine ArgsAt.snoc hnew (hA.keep fun q m hq h => ?_)
              exact ⟨hq, by rw [upd_ne hq.1]; exact x2.lst hins1 h⟩
    · rintro σ H1 ⟨x3, us, done, more, r', rfl, e, w1, hL1, hA, hdl, has, htk⟩
      rw [List.length_map, List.drop_length] at htk
      cases htk
      rw [List.append_nil] at has
      subst has
      exact ⟨_, rfl, k H1 L us e w1 hL1 hA hL⟩
end
end SR
set_option Elab.async false
set_option linter.all false
set_option maxRecDepth 100000
set_option maxHeartbeats 2000000
namespace SR
open PySem PySem.Spec PyProof.Rows L2
open VamvsBase (Bytes Answer)
theorem call0 {as : List Arg} {c : Vamvsf.Call} (h : toCall 0 as = some c) : ∃ b, as = [.lst b] ∧ c = .load (VamvsfNeutral.bytesOf b) := by
  match as, h with
  | [.lst b], h => cases h; exact ⟨b, rfl, rfl⟩
theorem call2 {as : List Arg} {c : Vamvsf.Call} (h : toCall 2 as = some c) : ∃ b, as = [.lst b] ∧ c = .readers b := by
  match as, h with
  | [.lst b], h => cases h; exact ⟨b, rfl, rfl⟩
theorem call3 {as : List Arg} {c : Vamvsf.Call} (h : toCall 3 as = some c) : ∃ z, as = [.one z] ∧ c = .changes z := by
  match as, h with
  | [.one b], h => cases h; exact ⟨b, rfl, rfl⟩
theorem call4 {as : List Arg} {c : Vamvsf.Call} (h : toCall 4 as = some c) : ∃ z, as = [.one z] ∧ c = .alone z := by
  match as, h with
  | [.one b], h => cases h; exact ⟨b, rfl, rfl⟩
theorem call7 {as : List Arg} {c : Vamvsf.Call} (h : toCall 7 as = some c) : ∃ a b, as = [.lst a, .lst b] ∧ c = .bounds a b := by
  match as, h with
  | [.lst a, .lst b], h => cases h; exact ⟨a, b, rfl, rfl⟩
theorem call8 {as : List Arg} {c : Vamvsf.Call} (h : toCall 8 as = some c) : ∃ b, as = [.lst b] ∧ c = .regret b := by
  match as, h with
  | [.lst b], h => cases h; exact ⟨b, rfl, rfl⟩
theorem call1 {as : List Arg} {c : Vamvsf.Call} (h : toCall 1 as = some c) : c = .shown := by
  match as, h with
  | [], h => cases h; rfl
theorem call5 {as : List Arg} {c : Vamvsf.Call} (h : toCall 5 as = some c) : c = .shares := by
  match as, h with
  | [], h => cases h; rfl
theorem call6 {as : List Arg} {c : Vamvsf.Call} (h : toCall 6 as = some c) : c = .unhappy := by
  match as, h with
  | [], h => cases h; rfl
theorem call9 {as : List Arg} {c : Vamvsf.Call} (h : toCall 9 as = some c) : c = .least := by
  match as, h with
  | [], h => cases h; rfl
theorem not_load {n : Nat} (hn : n ≠ 0) {as : List Arg} {c : Vamvsf.Call} (h : toCall n as = some c) : Vamvsf.step none c = (none, VamvsBase.one (-1)) := by
  cases c with
  | load b =>
    exfalso
    unfold toCall at h
    split at h <;> first | exact hn rfl | (cases h; done) | cases h
  | _ => rfl
theorem bytes_bv {b : List Int} (h : ∀ z ∈ b, 0 ≤ z ∧ z ≤ 255) : zv b = bv (VamvsfNeutral.bytesOf b) := by
  unfold VamvsfNeutral.bytesOf bv
  rw [zv, List.map_map]
  refine List.map_congr_left fun z hz => ?_
  have := h z hz
  show V.int z = V.int (((UInt8.ofNat z.toNat).toNat : Nat) : Int)
  rw [UInt8.toNat_ofNat', Nat.mod_eq_of_lt (by show z.toNat < 256; omega), Int.toNat_of_nonneg this.1]
section
variable {P : Program} {w : World} {K : PySem.W.Frag} {mg : Str → Option Value} {base : Heap} {CT CH CC : Addr}
/-! ### answer_call -/
abbrev sAnsCall : Stmt := top 99
abbrev nAnsCall : List Str := ["held", "number", "arguments"]
def spAnsCall (K : PySem.W.Frag) (CH CT : Addr) : Sp := fun vs H Q _ => ∃ (h A G : Addr) (o : Vamvsf.Obj) (n : Nat) (us gs : List V) (as : List Arg) (c : Vamvsf.Call), vs = [.ref h, .int (n : Nat), .ref A] ∧ HeldAt K CH CT (Off G H) h o ∧ H G = some (.lst gs) ∧ n < 10 ∧ H A = some (.lst us) ∧ ArgsAt H (fun p => p ≠ G) us as ∧ toCall n as = some c ∧ okArgs n as ∧ AnsK K CH CT h G H Q (Vamvsf.step o c)
theorem scAnsCall : FnScope nAnsCall ["held", "number", "arguments"] (defScope sAnsCall) := ⟨rfl, rfl, rfl, by decide +kernel, rfl, by decide +kernel, by decide +kernel⟩
theorem ok_answer_call (HC : HeldC K CH) (G0 : GInt mg "LOAD" 0) (G1 : GInt mg "SHOWN" 1) (G2 : GInt mg "READERS" 2) (G3 : GInt mg "CHANGES" 3) (G4 : GInt mg "ALONE" 4) (G5 : GInt mg "SHARES" 5) (G6 : GInt mg "UNHAPPY" 6) (G7 : GInt mg "BOUNDS" 7) (G8 : GInt mg "REGRET" 8) (GN : GInt mg "NO_TABLE" 1)
    (DR : Def P w K mg base CX0 1 "refusal" ["code"] spRefusal) (D0 : Def P w K mg base CX0 9 "answer_load" ["held", "text"] (spAnsLoad K CH CT)) (D1 : Def P w K mg base CX0 3 "answer_shown" ["held"] (spAnsShown K CH CT)) (D2 : Def P w K mg base CX0 2 "answer_readers" ["held", "readers"] (spAnsReaders K CH CT))
    (D3 : Def P w K mg base CX0 2 "answer_changes" ["held", "changes"] (spAnsChanges K CH CT)) (D4 : Def P w K mg base CX0 6 "answer_alone" ["held", "group"] (spAnsAlone K CH CT)) (D5 : Def P w K mg base CX0 6 "answer_shares" ["held"] (spAnsShares K CH CT)) (D6 : Def P w K mg base CX0 6 "answer_unhappy" ["held"] (spAnsUnhappy K CH CT))
    (D7 : Def P w K mg base CX0 2 "answer_bounds" ["held", "low", "high"] (spAnsBounds K CH CT)) (D8 : Def P w K mg base CX0 6 "answer_regret" ["held", "groupings"] (spAnsRegret K CH CT)) (D9 : Def P w K mg base CX0 6 "answer_least" ["held"] (spAnsLeast K CH CT)) (F : FunG K mg "answer_call" sAnsCall) :
    Def P w K mg base CX0 10 "answer_call" ["held", "number", "arguments"] (spAnsCall K CH CT) := by
  refine F.def (fun _ _ _ _ _ _ us hl => match us, hl with | [_, _, _], _ => rfl) fun f fd F => ?_
  have nd := scAnsCall.nd
  refine F.ok scAnsCall (fun vs H Q E h => ?_) (fun cdv A outer s H vs Q E hr h => ⟨_, pss_cons (ps_if (pt_cmpR n_eq (pv 1) (gi G0) (nomark _)) (pss_one (ps_ret (cl D0 hr pass0 (pa_cons (pv 0) (pa_cons (pe_ix ix_list (pv 2) pe_int (fun _ _ => rfl)) pa_nil))))) pss_nil)
    (pss_cons (ps_if (pt_cmpR op_isN (pe_fld (pv 0) rfl) pe_non (nomark _)) (pss_one (ps_ret (cl DR (hr.mono (by decide)) pass0 (pa_cons (gi GN) pa_nil)))) pss_nil)
    (pss_cons (ps_if (pt_cmpR n_eq (pv 1) (gi G1) (nomark _)) (pss_one (ps_ret (cl D1 (hr.mono (by decide)) pass0 (pa_cons (pv 0) pa_nil)))) pss_nil)
    (pss_cons (ps_if (pt_cmpR n_eq (pv 1) (gi G2) (nomark _)) (pss_one (ps_ret (cl D2 (hr.mono (by decide)) pass0 (pa_cons (pv 0) (pa_cons (pe_ix ix_list (pv 2) pe_int (fun _ _ => rfl)) pa_nil))))) pss_nil)
    (pss_cons (ps_if (pt_cmpR n_eq (pv 1) (gi G3) (nomark _)) (pss_one (ps_ret (cl D3 (hr.mono (by decide)) pass0 (pa_cons (pv 0) (pa_cons (pe_ix ix_list (pv 2) pe_int (fun _ _ => rfl)) pa_nil))))) pss_nil)
    (pss_cons (ps_if (pt_cmpR n_eq (pv 1) (gi G4) (nomark _)) (pss_one (ps_ret (cl D4 (hr.mono (by decide)) pass0 (pa_cons (pv 0) (pa_cons (pe_ix ix_list (pv 2) pe_int (fun _ _ => rfl)) pa_nil))))) pss_nil)
    (pss_cons (ps_if (pt_cmpR n_eq (pv 1) (gi G5) (nomark _)) (pss_one (ps_ret (cl D5 (hr.mono (by decide)) pass0 (pa_cons (pv 0) pa_nil)))) pss_nil)
    (pss_cons (ps_if (pt_cmpR n_eq (pv 1) (gi G6) (nomark _)) (pss_one (ps_ret (cl D6 (hr.mono (by decide)) pass0 (pa_cons (pv 0) pa_nil)))) pss_nil)
    (pss_cons (ps_if (pt_cmpR n_eq (pv 1) (gi G7) (nomark _)) (pss_one (ps_ret (cl D7 (hr.mono (by decide)) pass0 (pa_cons (pv 0) (pa_cons (pe_ix ix_list (pv 2) pe_int (fun _ _ => rfl)) (pa_cons (pe_ix ix_list (pv 2) pe_int (fun _ _ => rfl)) pa_nil)))))) pss_nil)
    (pss_cons (ps_if (pt_cmpR n_eq (pv 1) (gi G8) (nomark _)) (pss_one (ps_ret (cl D8 (hr.mono (by decide)) pass0 (pa_cons (pv 0) (pa_cons (pe_ix ix_list (pv 2) pe_int (fun _ _ => rfl)) pa_nil))))) pss_nil)
    (pss_one (ps_ret (cl D9 (hr.mono (by decide)) pass0 (pa_cons (pv 0) pa_nil))))))))))))), ?_⟩)
  · obtain ⟨h, A, G, o, n, us, gs, as, c, rfl, _⟩ := h
    rfl
  · obtain ⟨h, A, G, o, n, us, gs, as, c, rfl, hhO, hGG, hn, hA, has, hc, hok, k⟩ := h
    have hh : HeldAt K CH CT H h o := hhO.same off_same
    have one_ : ∀ {l : List Int}, as = [.lst l] → ∃ p, us = [.ref p] ∧ (Off G H) p = some (.lst (zv l)) := fun {l} e => by
      subst e
      match us, has with
      | [u], hs =>
        obtain ⟨⟨p, h1, h2, h3⟩, _⟩ := hs
        exact ⟨p, by rw [h1], off_at h3 h2⟩
    have num_ : ∀ {z : Int}, as = [.one z] → us = [.int z] := fun {z} e => by
      subst e
      match us, has with
      | [u], hs => rw [show u = .int z from hs.1]
    refine ⟨_, rfl, n, 0, rfl, rfl, _, rfl, if_d (fun h0 => ?_) fun h0 => ?_⟩
    · subst h0
      obtain ⟨b, e1, e2⟩ := call0 hc
      obtain ⟨p, hu, hp⟩ := one_ e1
      subst hu e2
      have hb := hok.1 rfl b e1
      rw [bytes_bv hb] at hp
      exact ⟨_, rfl, _, rfl, A, _, 0, _, rfl, rfl, SqL.of hA, rfl, h, p, G, o, VamvsfNeutral.bytesOf b, gs, rfl, hhO, hGG, SqL.of (off_of hp).1, k⟩
    obtain ⟨dx, tv, r, cc, l, g, hins⟩ := hh.ins
    refine ⟨_, rfl, h, CH, dx, _, _, rfl, hins, HC.cl, HC.nt, heldF_t _ _ _ _ _, rfl, _, rfl, ?_⟩
    cases o with
    | none =>
      obtain ⟨dx', r', l', g', c', hins'⟩ := hh
      rw [hins'] at hins
      have htv : tv = .non := by
        injection (Option.some.inj hins) with _ _ e
        injection e with e1 _
        injection e1 with _ e2
        exact e2.symm
      subst htv
      refine if_t (decide_eq_true rfl) ⟨1, rfl, fun H' p e np hp => ?_⟩
      rw [not_load h0 hc] at k
      exact k H' p (SameX.of e) (HeldAt.same e.off hhO) np hp
    | some d =>
      have hh : HasAt K CH CT H h d := hh
      have hhO : HasAt K CH CT (Off G H) h d := hhO
      obtain ⟨dx', ta, r', l', g', hins', _⟩ := hh.ex
      rw [hins'] at hins
      have htv : tv = .ref ta := by
        injection (Option.some.inj hins) with _ _ e
        injection e with e1 _
        injection e1 with _ e2
        exact e2.symm
      subst htv
      refine if_f (decide_eq_false (fun z => by cases z)) ?_
      have look : ∀ {a : Answer}, Vamvsf.step (some d) c = (some d, a) → newInts H (encode a) Q := fun {a} e => by
        rw [e] at k
        exact fun H' p e np hp => k H' p (SameX.of e) (hhO.same e.off) np hp
      refine ⟨_, rfl, n, 1, rfl, rfl, _, rfl, if_d (fun h1 => ?_) fun h1 => ?_⟩
      · subst h1
        have e := call1 hc
        subst e
        exact ⟨_, rfl, h, d, rfl, hh, look rfl⟩
      refine ⟨_, rfl, n, 2, rfl, rfl, _, rfl, if_d (fun h2 => ?_) fun h2 => ?_⟩
      · subst h2
        obtain ⟨b, e1, e2⟩ := call2 hc
        obtain ⟨p, hu, hp⟩ := one_ e1
        subst hu e2
        exact ⟨_, rfl, _, rfl, A, _, 0, _, rfl, rfl, SqL.of hA, rfl, h, p, G, d, b, rfl, hhO, SqL.of hp, k⟩
      refine ⟨_, rfl, n, 3, rfl, rfl, _, rfl, if_d (fun h3 => ?_) fun h3 => ?_⟩
      · subst h3
        obtain ⟨b, e1, e2⟩ := call3 hc
        have hu := num_ e1
        subst hu e2
        exact ⟨_, rfl, _, rfl, A, _, 0, _, rfl, rfl, SqL.of hA, rfl, h, G, d, b, rfl, hhO, k⟩
      refine ⟨_, rfl, n, 4, rfl, rfl, _, rfl, if_d (fun h4 => ?_) fun h4 => ?_⟩
      · subst h4
        obtain ⟨b, e1, e2⟩ := call4 hc
        have hu := num_ e1
        subst hu e2
        exact ⟨_, rfl, _, rfl, A, _, 0, _, rfl, rfl, SqL.of hA, rfl, h, d, b, rfl, hh, look rfl⟩
      refine ⟨_, rfl, n, 5, rfl, rfl, _, rfl, if_d (fun h5 => ?_) fun h5 => ?_⟩
      · subst h5
        have e := call5 hc
        subst e
        exact ⟨_, rfl, h, d, rfl, hh, look rfl⟩
      refine ⟨_, rfl, n, 6, rfl, rfl, _, rfl, if_d (fun h6 => ?_) fun h6 => ?_⟩
      · subst h6
        have e := call6 hc
        subst e
        exact ⟨_, rfl, h, d, rfl, hh, look rfl⟩
      refine ⟨_, rfl, n, 7, rfl, rfl, _, rfl, if_d (fun h7 => ?_) fun h7 => ?_⟩
      · subst h7
        obtain ⟨a, b, e1, e2⟩ := call7 hc
        subst e1 e2
        match us, has, hA with
        | [u, v], hs, hA =>
          obtain ⟨⟨p, u1, u2, u3⟩, ⟨q, v1, v2, v3⟩, _⟩ := hs
          subst u1 v1
          exact ⟨_, rfl, _, rfl, A, _, 0, _, rfl, rfl, SqL.of hA, rfl, _, rfl, A, _, 1, _, rfl, rfl, SqL.of hA, rfl, h, p, q, G, d, a, b, rfl, hhO, SqL.of (off_at u3 u2), SqL.of (off_at v3 v2), k⟩
      refine ⟨_, rfl, n, 8, rfl, rfl, _, rfl, if_d (fun h8 => ?_) fun h8 => ?_⟩
      · subst h8
        obtain ⟨b, e1, e2⟩ := call8 hc
        obtain ⟨p, hu, hp⟩ := one_ e1
        subst hu e2
        exact ⟨_, rfl, _, rfl, A, _, 0, _, rfl, rfl, SqL.of hA, rfl, h, p, d, b, rfl, hh, SqL.of (off_of hp).1, hok.2 rfl b e1, look rfl⟩
      · have h9 : n = 9 := by omega
        subst h9
        have e := call9 hc
        subst e
        exact ⟨_, rfl, h, d, rfl, hh, look rfl⟩
end
end SR
set_option Elab.async false
set_option linter.all false
set_option maxRecDepth 100000
set_option maxHeartbeats 2000000
namespace SR
open PySem PySem.Spec PyProof.Rows L2
open VamvsBase (Bytes Answer)
def tMore (K : PySem.W.Frag) (CC : Addr) (i : Nat) : TT := fun σ H Q => ∃ (a C : Addr) (l r : List Int), σ[i]? = some (some (.ref a)) ∧ CwAt K CC H a C l r ∧ Q (decide (r ≠ [])) H
theorem tMore_mono {K : PySem.W.Frag} {CC : Addr} {i : Nat} : ∀ (σ : L2.St) (H : Hp) (Q Q' : Bool → Hp → Prop), (∀ b H1, Q b H1 → Q' b H1) → tMore K CC i σ H Q → tMore K CC i σ H Q' :=
  fun σ H Q Q' hQ ⟨a, C, l, r, h1, h2, h3⟩ => ⟨a, C, l, r, h1, h2, hQ _ _ h3⟩
theorem HeldAt.sameC {K : PySem.W.Frag} {CH CT CC h a C dx : Addr} {i : Nat} {H H' : Hp} {o : Vamvsf.Obj} (e : SameX a H H') (ha : H a = some (.ins CC dx (cwF C i))) (x : HeldAt K CH CT H h o) : HeldAt K CH CT H' h o := by
  have hne : h ≠ a := fun z => by
    obtain ⟨d2, tv, r, c, l, g, h1⟩ := x.ins
    rw [z, ha] at h1
    have e2 : cwF C i = heldF tv r c l g := by injection (Option.some.inj h1)
    have := congrArg List.length e2
    cases this
  cases o with
  | none =>
    obtain ⟨d2, r, l, g, c, h1⟩ := x
    exact ⟨d2, r, l, g, c, e _ _ hne h1⟩
  | some d =>
    obtain ⟨d2, ta, r, l, g, h1, h2, h3, h4, h5⟩ := x.ex
    refine ⟨x.ok, d2, ta, r, l, g, e _ _ hne h1, ?_, e.seq ha h3, e.seq ha h4, e.seq ha h5⟩
    obtain ⟨dt, c', r', q, rs, qs, t1, t2, t3, t4, t5, t6⟩ := h2.ex
    have hta : ta ≠ a := fun z => by
      rw [z, ha] at t1
      have e2 : cwF C i = tabF c' r' q := by injection (Option.some.inj t1)
      have := congrArg List.length e2
      cases this
    exact ⟨dt, c', r', q, rs, qs, e _ _ hta t1, e.lst ha t2, e.lst ha t3, e.lst ha t4, t5.map fun p x h => h.sameX e ha, t6.map fun p x h => h.sameX e ha⟩
section
variable {P : Program} {w : World} {K : PySem.W.Frag} {mg : Str → Option Value} {base : Heap} {CT CH CC : Addr}
/-! ### answers -/
abbrev sAnswers : Stmt := top 97
abbrev nAnswers : List Str := ["calls", "walk", "held", "given", "number", "answer"]
def spAnswers (K : PySem.W.Frag) : Sp := fun vs H Q _ => ∃ (C : Addr) (l out : List Int), vs = [.ref C] ∧ SqL K H C (zv l) ∧ Plays none l out ∧ out.length ≤ 10000000 ∧ ∀ (H' : Hp) (p : Addr), H' p = some (.lst (zv out)) → Q (.ref p) H'
theorem scAnswers : FnScope nAnswers ["calls"] (defScope sAnswers) := ⟨rfl, rfl, rfl, by decide +kernel, rfl, by decide +kernel, by decide +kernel⟩
theorem ok_answers (B : Bn mg) (WC : CwC K CC) (DW : MakeOk P w K mg base 1 "CallWalk" CC ["self", "calls"] (spCwInit K CC)) (DH : MakeOk P w K mg base 1 "Held" CH ["self"] (spHeldInit CH)) (DE : MethOk P w K mg base CX0 1 CC "at_end" ["self"] (spAtEnd K CC))
    (D1 : MethOk P w K mg base CX0 1 CC "take_one" ["self"] (spTakeOne K CC)) (DT : Def P w K mg base CX0 3 "take_arguments" ["walk", "number"] (spTakeArgs K CC)) (DA : Def P w K mg base CX0 10 "answer_call" ["held", "number", "arguments"] (spAnsCall K CH CT)) {f : Addr} {fd : FuncData} (F : Fun K "answers" "answers" sAnswers f fd) :
    FnOk P w K mg base CX0 11 f fd ["calls"] (spAnswers K) := by
  have nd := scAnswers.nd
  refine F.ok scAnswers (fun vs H Q E h => ?_) (fun cdv A outer s H vs Q E hr h => ⟨_, pss_cons (ps_set (i := 1) nd rfl (Or.inl rfl) (mk1 DW (hr.mono (by decide)) (pa_cons (pv 0) pa_nil)))
    (pss_cons (ps_set (i := 2) nd rfl (Or.inl rfl) (mk0 DH (hr.mono (by decide))))
    (pss_cons (ps_set (i := 3) nd rfl (Or.inl rfl) (pe_lst pa_nil))
    (pss_cons (ps_while (tc := tMore K CC 1) PassesOwn.never ((pt_not (pt_val (me0 (pv 1) WC.cl DE (hr.mono (by decide)) pass0))).weak fun σ H Q ⟨a, C, l, r, h1, h2, h3⟩ => by
          obtain ⟨dx, i, g1, g2⟩ := h2.ex
          refine ⟨_, h1, a, dx, _, rfl, g1, cwF_none (by decide +kernel) (by decide +kernel) C i, a, C, l, r, rfl, h2, _, rfl, ?_⟩
          have e : (!decide (r = [])) = decide (r ≠ []) := by simp
          show Q (!decide (r = [])) H
          rw [e]
          exact h3)
      (pss_cons (ps_set (i := 4) nd rfl (Or.inl rfl) (me0 (pv 1) WC.cl D1 (hr.mono (by decide)) pass0))
      (pss_cons (ps_set (i := 5) nd rfl (Or.inl rfl) (cl DA hr pass0 (pa_cons (pv 2) (pa_cons (pv 4) (pa_cons (cl DT (hr.mono (by decide)) pass0 (pa_cons (pv 1) (pa_cons (pv 4) pa_nil))) pa_nil)))))
      (pss_cons (ps_expr (pe_bm PySem.F.plainAttrs_list PySem.F.slot_list_append PySem.F.type_list_append mt_append (pv 3) (pa_cons (pe_callB n_len (by rfl) B.len PySem.boot_len (pa_cons (pv 5) pa_nil)) pa_nil)))
      (pss_one (ps_expr (pe_bm PySem.F.plainAttrs_list PySem.F.slot_list_extend PySem.F.type_list_extend mt_extend (pv 3) (pa_cons (pv 5) pa_nil))))))))
    (pss_one (ps_ret (pv 3)))))), ?_⟩)
  · obtain ⟨C, l, out, rfl, _⟩ := h
    rfl
  · obtain ⟨C, l, out, rfl, hC, hp, hout, k⟩ := h
    refine ⟨_, rfl, fun a dxa ha0 hdxa hne => ⟨a, dxa, C, l, H, rfl, rfl, ha0, hdxa, hne, hC, trivial, fun H1 e1 w1 => ⟨rfl, ?_⟩⟩⟩
    refine fun h dxh hh0 hdxh hneh => ⟨h, dxh, H1, rfl, rfl, hh0, hdxh, hneh, fun H2 e2 hN => ⟨rfl, ?_⟩⟩
    refine ⟨by decide, fun G hG => ?_⟩
    have w2 := w1.same e2
    obtain ⟨dx2, r2, l2, g2, c2, hN2⟩ := hN
    obtain ⟨dxa2, ia2, hwa, _⟩ := w2.ex
    have hGh : G ≠ h := fun z => by rw [z, hN2] at hG; cases hG
    have hGa : G ≠ a := fun z => by rw [z, hwa] at hG; cases hG
    have s3 : Same H2 (upd H2 G (.lst [])) := Same.new hG
    have hah : a ≠ h := fun z => by
      rw [z, hN2] at hwa
      have e2 : heldF .non r2 c2 l2 g2 = cwF C ia2 := by injection (Option.some.inj hwa)
      have := congrArg List.length e2
      cases this
    have hCo : SqL K (Off G (upd H2 G (.lst []))) C (zv l) := by
      have e13 : Same H (Off G (upd H2 G (.lst []))) := fun b ob hb => by
        have h2 := (e1.trans e2) b ob hb
        have hbG : b ≠ G := fun z => by rw [z, hG] at h2; cases h2
        exact off_at (s3 _ _ h2) hbG
      exact e13.seq hC
    refine while_m (fun m σ H' => ∃ (o : Vamvsf.Obj) (r out' done : List Int) (x4 x5 : Option V), m = r.length ∧ σ = [some (.ref C), some (.ref a), some (.ref h), some (.ref G), x4, x5] ∧ CwAt K CC H' a C l r ∧ HeldAt K CH CT (Off G H') h o ∧ H' G = some (.lst (zv done)) ∧ Plays o r out' ∧ out = done ++ out' ∧ SqL K (Off G H') C (zv l)) l.length
      ⟨none, l, out, [], none, none, rfl, rfl, w2.same s3, ⟨dx2, r2, l2, g2, c2, off_at (s3 _ _ hN2) (Ne.symm hGh)⟩, upd_same, hp, rfl, hCo⟩ ?_ tMore_mono
    rintro m σ H3 ⟨o, r, out', done, x4, x5, rfl, rfl, w3, hh3, hG3, hp3, ho3, hCo3⟩
    refine ⟨a, C, l, r, rfl, w3, if_d (fun hr0 => ?_) fun hr0 => ?_⟩
    · cases hp3 with
      | nil => exact absurd rfl hr0
      | @cons _ n r' t as c out2 hn ha hc hok hnext =>
        obtain ⟨dx3, i3, hins3, hw3⟩ := w3.ex
        refine ⟨_, rfl, a, dx3, _, rfl, hins3, cwF_none (by decide +kernel) (by decide +kernel) C i3, a, C, l, r', n, rfl, w3, fun H4 x34 w4 => ?_⟩
        have hh4 : HeldAt K CH CT (Off G H4) h o := HeldAt.sameC x34.off (off_at hins3 (Ne.symm hGa)) hh3
        have hG4 := x34 _ _ hGa hG3
        obtain ⟨dx4, i4, hins4, hw4⟩ := w4.ex
        refine ⟨_, rfl, _, rfl, _, rfl, _, rfl, a, C, l, r', n, as, t, rfl, hn, w4, ha, fun H5 A us x45 w5 hA5 hargs hA4 => ?_⟩
        have hh5 : HeldAt K CH CT (Off G H5) h o := HeldAt.sameC x45.off (off_at hins4 (Ne.symm hGa)) hh4
        have hG5 := x45 _ _ hGa hG4
        refine ⟨h, A, G, o, n, us, zv done, as, c, rfl, hh5, hG5, hn, hA5, hargs.keep (fun p m hq hpm => ⟨(fun z => by rw [z, hG4] at hq; exact nomatch hq.2), hpm⟩), hc, hok, fun H6 p x56 hh6 hp5 hp6 => ?_⟩
        have hG6 := x56 _ _ hGh hG5
        have hpG : p ≠ G := fun z => by rw [z, hG5] at hp5; cases hp5
        obtain ⟨dx5, i5, hins5, hC5, hr5⟩ := w5.ex
        obtain ⟨dh5, tv5, rr5, cc5, ll5, gg5, hhins5⟩ := hh5.ins
        have hhH5 := (off_of hhins5).1
        have hCG : SqL K (Off G H6) C (zv l) := x56.off.seq hhins5 (x45.off.seq (off_at hins4 (Ne.symm hGa)) (x34.off.seq (off_at hins3 (Ne.symm hGa)) hCo3))
        have w6 : CwAt K CC H6 a C l t := ⟨dx5, i5, x56 _ _ hah hins5, x56.seq hhH5 hC5, hr5⟩
        have hlen1 : (encode (Vamvsf.step o c).2).length + 1 + done.length ≤ 10000000 := by
          have h1 : out.length = done.length + (1 + ((encode (Vamvsf.step o c).2).length + out2.length)) := by
            rw [ho3, List.length_append, List.length_cons, List.length_append]
            omega
          omega
        refine ⟨_, rfl, .inl ⟨rfl, _, SqL.of hG6⟩, _, rfl, p, _, rfl, .inl (SqL.of hp6), G, _, _, rfl, rfl, hG6, by rw [List.length_map, line_eq]; omega, ?_⟩
        refine ⟨_, rfl, .inl ⟨rfl, _, SqL.of upd_same⟩, _, rfl, G, p, _, _, rfl, rfl, upd_same, by rw [upd_ne hpG]; exact hp6, ?_, ?_⟩
        · rw [List.length_append, List.length_map, List.length_map, line_eq]
          show done.length + 1 + _ ≤ _
          omega
        · have tl : t.length < ((n : Int) :: r').length := by
            have key : ∀ (f : List Bool) (q : List Int) (y : List Arg × List Int), takeArgs f q = some y → y.2.length ≤ q.length := by
              intro f
              induction f with
              | nil => intro q y hy; cases hy; exact Nat.le_refl _
              | cons b f ih =>
                intro q y hy
                cases q with
                | nil => cases b <;> cases hy
                | cons z q =>
                  cases b with
                  | true =>
                    simp only [takeArgs] at hy
                    split at hy
                    · cases hz : takeArgs f (q.drop z.toNat) with
                      | none => rw [hz] at hy; cases hy
                      | some u =>
                        rw [hz] at hy
                        cases hy
                        have := ih _ _ hz
                        rw [List.length_drop] at this
                        rw [List.length_cons]
                        show u.2.length ≤ _
                        omega
                    · cases hy
                  | false =>
                    simp only [takeArgs] at hy
                    cases hz : takeArgs f q with
                    | none => rw [hz] at hy; cases hy
                    | some u =>
                      rw [hz] at hy
                      cases hy
                      have := ih _ _ hz
                      rw [List.length_cons]
                      show u.2.length ≤ _
                      omega
            have := key _ _ _ ha
            rw [List.length_cons]
            show t.length < _
            have : t.length ≤ r'.length := this
            omega
          have offu : ∀ (Hx : Hp) (ox : HO), Off G (upd Hx G ox) = Off G Hx := fun Hx ox => by
            funext b
            unfold Off
            by_cases hb : b = G
            · rw [if_pos hb, if_pos hb]
            · rw [if_neg hb, if_neg hb, upd_ne hb]
          have w7 : ∀ (ox1 ox2 : HO), CwAt K CC (upd (upd H6 G ox1) G ox2) a C l t := fun ox1 ox2 => by
            obtain ⟨dx6, i6, q1, q2, q3⟩ := w6.ex
            have hC0 : SqL K (upd (upd H6 G ox1) G ox2) C (zv l) := by
              have s : Same (Off G H6) (upd (upd H6 G ox1) G ox2) := fun b ob hb => by
                rw [upd_ne (off_of hb).2, upd_ne (off_of hb).2]
                exact (off_of hb).1
              exact s.seq hCG
            exact ⟨dx6, i6, by rw [upd_ne (Ne.symm hGa), upd_ne (Ne.symm hGa)]; exact q1, hC0, q3⟩
          refine ⟨t.length, tl, _, t, out2, done ++ [((encode (Vamvsf.step o c).2).length : Int)] ++ encode (Vamvsf.step o c).2, _, _, rfl, rfl, w7 _ _, by rw [offu, offu]; exact hh6, ?_, hnext, ?_⟩
          · rw [upd_same, List.length_map]
            simp only [zv, List.map_append, List.map_cons, List.map_nil]
          · rw [ho3, offu, offu]
            exact ⟨by simp, hCG⟩
    · have hr0 : r = [] := Classical.not_not.mp hr0
      subst hr0
      cases hp3
      rw [List.append_nil] at ho3
      subst ho3
      exact ⟨_, rfl, k H3 G hG3⟩
end
end SR
set_option Elab.async false
set_option linter.all false
set_option maxRecDepth 100000
set_option maxHeartbeats 4000000
namespace SR
open PySem PySem.Spec PyProof.Rows L2
/-- an error of the class at S is what «except S» names -/
theorem exm_self {K : PySem.W.Frag} {S : Addr} (h1 : PySem.W.subIn K (.ref S) (.type "BaseException") = some true) (h2 : PySem.W.isClsIn K S = true) (h3 : PySem.W.typeIn K (.ref S) = some (.type "type")) (h4 : PySem.W.subIn K (.ref S) (.ref S) = some true) :
    PySem.W.exmOne K (.ref S) (.ref S) = some true := by
  have e1 : (PySem.W.subIn K (.ref S) (.type "BaseException") == some true) = true := by rw [h1] <;> rfl
  have e2 : ((PySem.W.clsIn K S).isSome && PySem.W.typeIn K (.ref S) == some (.type "type")) = true := by
    have h2' : (PySem.W.clsIn K S).isSome = true := h2
    rw [h2', h3] <;> rfl
  show (if (PySem.W.subIn K (.ref S) (.type "BaseException") == some true) = true then (if ((PySem.W.clsIn K S).isSome && PySem.W.typeIn K (.ref S) == some (.type "type")) = true then PySem.W.subIn K (.ref S) (.ref S) else none) else none) = some true
  rw [if_pos e1, if_pos e2]
  exact h4
section
variable {K : PySem.W.Frag} {h : Heap} {mg : Str → Option Value}
theorem funG {x : Str} {st : Stmt} {f : Addr} {oc : Value} {od an : Option Addr} {osl : Array (Option Value)} {kV doc pm cdv ct : Value} (X : K.In h) (G : h.Ns mainGlobals mg) (a : PySem.W.nsIn K mainGlobals x = some (some (.ref f)))
    (l : K.lookup f = some ⟨oc, od, .func (PySem.W.fnOf x x (defArgs st) (defBody st) (defScope st) .none kV doc pm an cdv ct), osl⟩) (c : PySem.W.codeIn K cdv x = true) (k : PySem.W.keepIn K (.ref f) = true) : FunG K mg x st :=
  ⟨f, _, fun_mk l c k, PySem.W.mg_of X G a⟩
theorem funM {x qual : Str} {st : Stmt} {C f : Addr} {oc : Value} {od an : Option Addr} {osl : Array (Option Value)} {kV doc pm cdv ct : Value} (a : PySem.W.findIn K (.ref C) x = some (some (.ref f))) (i : PySem.W.isFn K (.ref f) = true)
    (l : K.lookup f = some ⟨oc, od, .func (PySem.W.fnOf x qual (defArgs st) (defBody st) (defScope st) .none kV doc pm an cdv ct), osl⟩) (c : PySem.W.codeIn K cdv qual = true) (k : PySem.W.keepIn K (.ref f) = true) : FunM K C x qual st :=
  ⟨f, _, fun_mk l c k, ⟨a, i, k⟩⟩
theorem funI {cname qual : Str} {st : Stmt} {C f : Addr} {oc : Value} {od an : Option Addr} {osl : Array (Option Value)} {kV doc pm cdv ct : Value} (X : K.In h) (G : h.Ns mainGlobals mg) (g : PySem.W.nsIn K mainGlobals cname = some (some (.ref C))) (m : PySem.W.makesIn K C = true) (a : PySem.W.findIn K (.ref C) "__init__" = some (some (.ref f))) (i : PySem.W.isFn K (.ref f) = true)
    (kc : PySem.W.keepIn K (.ref C) = true) (l : K.lookup f = some ⟨oc, od, .func (PySem.W.fnOf "__init__" qual (defArgs st) (defBody st) (defScope st) .none kV doc pm an cdv ct), osl⟩) (c : PySem.W.codeIn K cdv qual = true) (k : PySem.W.keepIn K (.ref f) = true) : FunI K mg C cname qual st :=
  ⟨f, _, fun_mk l c k, ⟨m, a, i, kc⟩, PySem.W.mg_of X G g⟩
theorem gint {x : Str} {i : Int} {t : PySem.Tok} (X : K.In h) (G : h.Ns mainGlobals mg) (a : PySem.W.nsIn K mainGlobals x = some (some (.int i t))) : GInt mg x i := ⟨t, PySem.W.mg_of X G a⟩
theorem gstr {x : Str} {i : Str} {t : PySem.Tok} (X : K.In h) (G : h.Ns mainGlobals mg) (a : PySem.W.nsIn K mainGlobals x = some (some (.str i t))) : GStr mg x i := ⟨t, PySem.W.mg_of X G a⟩
theorem sqt {f : Addr} {od : Option Addr} {its : Array Value} {n : Nat} {sl : Array (Option Value)} {xs : List V} (l : K.lookup f = some ⟨.type "tuple", od, .seq its n, sl⟩) (z : its.size ≤ sizeLine) (v : Vals xs its.toList) : ∀ H, SqT K H f xs := fun H => .inr ⟨_, its, n, l, rfl, rfl, z, v⟩
theorem gtup {x : Str} {f : Addr} {xs : List V} (X : K.In h) (G : h.Ns mainGlobals mg) (a : PySem.W.nsIn K mainGlobals x = some (some (.ref f))) (s : ∀ H, SqT K H f xs) : GTup K mg x xs := ⟨f, PySem.W.mg_of X G a, s⟩
theorem gforms {f f0 f1 f2 f3 f4 f5 f6 f7 f8 f9 : Addr} (X : K.In h) (G : h.Ns mainGlobals mg) (a : PySem.W.nsIn K mainGlobals "FORMS" = some (some (.ref f))) (s : ∀ H, SqT K H f [.ref f0, .ref f1, .ref f2, .ref f3, .ref f4, .ref f5, .ref f6, .ref f7, .ref f8, .ref f9])
    (s0 : ∀ H, SqT K H f0 [.str "list"]) (s1 : ∀ H, SqT K H f1 []) (s2 : ∀ H, SqT K H f2 [.str "list"]) (s3 : ∀ H, SqT K H f3 [.str "number"]) (s4 : ∀ H, SqT K H f4 [.str "number"]) (s5 : ∀ H, SqT K H f5 []) (s6 : ∀ H, SqT K H f6 []) (s7 : ∀ H, SqT K H f7 [.str "list", .str "list"]) (s8 : ∀ H, SqT K H f8 [.str "list"]) (s9 : ∀ H, SqT K H f9 []) : GForms K mg := by
  refine ⟨f, [f0, f1, f2, f3, f4, f5, f6, f7, f8, f9], PySem.W.mg_of X G a, rfl, s, fun i g hi => ?_⟩
  match i, hi with
  | 0, hi => cases hi; exact s0
  | 1, hi => cases hi; exact s1
  | 2, hi => cases hi; exact s2
  | 3, hi => cases hi; exact s3
  | 4, hi => cases hi; exact s4
  | 5, hi => cases hi; exact s5
  | 6, hi => cases hi; exact s6
  | 7, hi => cases hi; exact s7
  | 8, hi => cases hi; exact s8
  | 9, hi => cases hi; exact s9
theorem faultTxt {C fI : Addr} {nm q : Str} {N : Addr} {bs : List Value} {sn : List Str} {sub : List Value} {ab : Bool} {col : Option Bool} {dd od an : Option Addr} {m0 m1 m2 m3 m5 : Option Value} {oc doc pm cdv ct : Value} {osl : Array (Option Value)} (X : K.In h) (G : h.Ns mainGlobals mg)
    (aC : PySem.W.nsIn K mainGlobals "TableFault" = some (some (.ref C))) (aE : PySem.W.nsIn K mainGlobals "Exception" = some none)
    (xL : K.lookup C = some (PySem.excClassObj nm q C N bs [.type "Exception", .type "BaseException", .type "object"] true sn sub ab col dd m0 m1 m2 m3 m5 "Exception.__new__"))
    (sa : PySem.W.findIn K (.ref C) "__setattr__" = some (some (.builtin "object.__setattr__"))) (ga : PySem.W.findIn K (.ref C) "__getattribute__" = some (some (.builtin "BaseException.__getattribute__"))) (gg : PySem.W.findIn K (.ref C) "__getattr__" = some none)
    (n1 : PySem.W.findIn K (.ref C) "code" = some none) (n2 : PySem.W.findIn K (.ref C) "place" = some none) (iC : PySem.W.findIn K (.ref C) "__init__" = some (some (.ref fI))) (tC : PySem.W.typeIn K (.ref fI) = some (.type "function"))
    (l : K.lookup fI = some ⟨oc, od, .func (PySem.W.fnOf "__init__" "TableFault.__init__" FX.iA FX.iB FX.iS .none .none doc pm an cdv ct), osl⟩) (c : PySem.W.codeIn K cdv "TableFault.__init__" = true)
    (kC : PySem.W.keepIn K (.ref C) = true) (eC : PySem.W.subIn K (.ref C) (.type "BaseException") = some true) (yC : PySem.W.typeIn K (.ref C) = some (.type "type")) (hC : PySem.W.hasDictIn K C = true) (jC : PySem.W.isClsIn K C = true) (sC : PySem.W.subIn K (.ref C) (.ref C) = some true) : FX.FaultTxt K mg C fI :=
  { gC := PySem.W.mg_of X G aC, gE := PySem.W.mg_none_of X G aE, cls := ⟨nm, q, N, bs, sn, sub, ab, col, dd, m0, m1, m2, m3, m5, xL⟩, sa := sa, ga := ga, gg := gg, n1 := n1, n2 := n2, iC := iC, tC := tC, kC := kC, exC := eC, tyC := yC, hdC := hC, te := exm_self eC jC yC sC, fn := ⟨_, _, _, _, _, _, _, _, l, c⟩ }
end
section
variable {P : Program} {w : World} {K : PySem.W.Frag} {h : Heap} {mg : Str → Option Value} {fa CT CS CTok CW CH CC CF fI : Addr}
theorem all_ok (hfa : mg "answers" = some (.ref fa))
    (h1 : Bn mg)
    (h2 : TabC K CT)
    (f_size_of : FunG K mg "size_of" sSizeOf)
    (f_all_sizes : FunG K mg "all_sizes" sAllSizes)
    (f_questions_of : FunG K mg "questions_of" sQuestionsOf)
    (g_CHANGE_COST : GInt mg "CHANGE_COST" 2)
    (f_part_costs : FunG K mg "part_costs" sPartCosts)
    (f_least_parted : FunG K mg "least_parted" sLeastParted)
    (f_least_costs : FunG K mg "least_costs" sLeastCosts)
    (g_READER_COUNT : GInt mg "READER_COUNT" 4)
    (f_all_alone : FunG K mg "all_alone" sAllAlone)
    (f_readers_in : FunG K mg "readers_in" sReadersIn)
    (h13 : GTup K mg "ORDERS_BEHIND" (iv [6, 2, 2, 6]))
    (f_added_in_orders : FunG K mg "added_in_orders" sAddedInOrders)
    (f_all_added : FunG K mg "all_added" sAllAdded)
    (f_in_lowest_terms : FunG K mg "in_lowest_terms" sLowest)
    (g_ORDERS : GInt mg "ORDERS" 24)
    (f_all_shares : FunG K mg "all_shares" sAllShares)
    (f_unhappy_groups : FunG K mg "unhappy_groups" sUnhappy)
    (f_sets_in_order : FunG K mg "sets_in_order" sSetsInOrder)
    (f_all_reads : FunG K mg "all_reads" sAllReads)
    (h22 : SmallC K CS)
    (i_SmallSets : FunI K mg CS "SmallSets" "SmallSets.__init__" sSmallInit)
    (m_SmallSets_most_dearer : FunM K CS "most_dearer" "SmallSets.most_dearer" sMostDearer)
    (m_SmallSets_regretted : FunM K CS "regretted" "SmallSets.regretted" sRegretted)
    (m_SmallSets_greatest_regret : FunM K CS "greatest_regret" "SmallSets.greatest_regret" sGreatest)
    (m_SmallSets_least : FunM K CS "least" "SmallSets.least" sLeast)
    (f_remark_end : FunG K mg "remark_end" sRemarkEnd)
    (g_GAPS : GStr mg "GAPS" cGaps)
    (f_skip_gap : FunG K mg "skip_gap" sSkipGap)
    (g_SIGNS : GStr mg "SIGNS" cSigns)
    (g_DIGITS : GStr mg "DIGITS" cDigits)
    (g_LETTERS : GStr mg "LETTERS" cLetters)
    (g_MEANINGLESS : GStr mg "MEANINGLESS" cMeaningless)
    (f_text_of_bytes : FunG K mg "text_of_bytes" sTextOf)
    (h36 : FX.FaultTxt K mg CF fI)
    (g_NO_TOKEN : GInt mg "NO_TOKEN" 2)
    (f_token_end : FunG K mg "token_end" sTokenEnd)
    (h39 : TokC K CTok)
    (i_Token : FunI K mg CTok "Token" "Token.__init__" sTokInit)
    (g_MOST_NUMBER_DIGITS : GInt mg "MOST_NUMBER_DIGITS" 10)
    (g_MOST_NUMBER : GInt mg "MOST_NUMBER" 1000000000)
    (g_NUMBER : GStr mg "NUMBER" (Str.ofString "number"))
    (f_number_token : FunG K mg "number_token" sNumTok)
    (h45 : GTup K mg "WORDS" cWords)
    (g_MOST_NAME_BYTES : GInt mg "MOST_NAME_BYTES" 16)
    (g_NAME : GStr mg "NAME" (Str.ofString "name"))
    (f_token_of : FunG K mg "token_of" sTokenOf)
    (g_END : GStr mg "END" (Str.ofString "end"))
    (f_tokens_of : FunG K mg "tokens_of" sTokensOf)
    (h51 : WalkC K CW)
    (i_TokenWalk : FunI K mg CW "TokenWalk" "TokenWalk.__init__" sWalkInit)
    (g_NOT_ALLOWED : GInt mg "NOT_ALLOWED" 3)
    (m_TokenWalk_take : FunM K CW "take" "TokenWalk.take" sTake)
    (g_OUT_OF_RANGE : GInt mg "OUT_OF_RANGE" 7)
    (f_number_within : FunG K mg "number_within" sNumWithin)
    (g_TOO_MANY : GInt mg "TOO_MANY" 4)
    (f_refuse_beyond : FunG K mg "refuse_beyond" sRefuse)
    (m_TokenWalk_take_number : FunM K CW "take_number" "TokenWalk.take_number" sTakeNum)
    (g_MOST_SUMMED : GInt mg "MOST_SUMMED" 1000)
    (f_read_summed : FunG K mg "read_summed" sReadSummed)
    (g_MOST_VALUE : GInt mg "MOST_VALUE" 9)
    (f_read_row : FunG K mg "read_row" sReadRow)
    (g_NO_COLUMN : GInt mg "NO_COLUMN" 8)
    (g_ASKED_AGAIN : GInt mg "ASKED_AGAIN" 6)
    (f_asked_bit : FunG K mg "asked_bit" sAskedBit)
    (g_MOST_TIMES : GInt mg "MOST_TIMES" 99)
    (f_read_question : FunG K mg "read_question" sReadAsk)
    (g_MOST_COLUMNS : GInt mg "MOST_COLUMNS" 4)
    (g_COLUMN_AGAIN : GInt mg "COLUMN_AGAIN" 5)
    (f_read_columns : FunG K mg "read_columns" sReadCols)
    (i_Table : FunI K mg CT "Table" "Table.__init__" sTabInit)
    (g_MOST_BYTES : GInt mg "MOST_BYTES" 4096)
    (g_TOO_LONG : GInt mg "TOO_LONG" 1)
    (g_MOST_ROWS : GInt mg "MOST_ROWS" 16)
    (g_MOST_QUESTIONS : GInt mg "MOST_QUESTIONS" 8)
    (f_read_table : FunG K mg "read_table" sReadTable)
    (f_question_line : FunG K mg "question_line" sQLine)
    (f_one_form : FunG K mg "one_form" sOneForm)
    (f_refusal : FunG K mg "refusal" sRefusal)
    (f_told_set : FunG K mg "told_set" sToldSet)
    (h82 : HeldC K CH)
    (f_answer_shown : FunG K mg "answer_shown" sAnsShown)
    (g_MOST_CHANGES : GInt mg "MOST_CHANGES" 1000)
    (g_WRONG_CHANGES : GInt mg "WRONG_CHANGES" 4)
    (f_answer_changes : FunG K mg "answer_changes" sAnsChanges)
    (f_groups_alone : FunG K mg "groups_alone" sGroupsAlone)
    (g_MOST_GROUP : GInt mg "MOST_GROUP" 15)
    (g_NO_GROUP : GInt mg "NO_GROUP" 2)
    (f_answer_alone : FunG K mg "answer_alone" sAnsAlone)
    (f_answer_shares : FunG K mg "answer_shares" sAnsShares)
    (f_answer_unhappy : FunG K mg "answer_unhappy" sAnsUnhappy)
    (g_MOST_READER : GInt mg "MOST_READER" 3)
    (g_WRONG_LIST : GInt mg "WRONG_LIST" 3)
    (f_answer_readers : FunG K mg "answer_readers" sAnsReaders)
    (g_MOST_OFTEN : GInt mg "MOST_OFTEN" 99)
    (f_answer_bounds : FunG K mg "answer_bounds" sAnsBounds)
    (f_small_sets : FunG K mg "small_sets" sSmallSets)
    (g_NO_GROUPING : GInt mg "NO_GROUPING" 2)
    (g_MOST_KEPT : GInt mg "MOST_KEPT" 2)
    (g_TOO_MANY_KEPT : GInt mg "TOO_MANY_KEPT" 5)
    (f_answer_regret : FunG K mg "answer_regret" sAnsRegret)
    (f_answer_least : FunG K mg "answer_least" sAnsLeast)
    (i_Held : FunI K mg CH "Held" "Held.__init__" sHeldInit)
    (f_answer_load : FunG K mg "answer_load" sAnsLoad)
    (h106 : CwC K CC)
    (i_CallWalk : FunI K mg CC "CallWalk" "CallWalk.__init__" sCwInit)
    (m_CallWalk_at_end : FunM K CC "at_end" "CallWalk.at_end" sAtEnd)
    (m_CallWalk_take_one : FunM K CC "take_one" "CallWalk.take_one" sTakeOne)
    (m_CallWalk_take_list : FunM K CC "take_list" "CallWalk.take_list" sTakeList)
    (h111 : GForms K mg)
    (f_take_arguments : FunG K mg "take_arguments" sTakeArgs)
    (g_LOAD : GInt mg "LOAD" 0)
    (g_SHOWN : GInt mg "SHOWN" 1)
    (g_READERS : GInt mg "READERS" 2)
    (g_CHANGES : GInt mg "CHANGES" 3)
    (g_ALONE : GInt mg "ALONE" 4)
    (g_SHARES : GInt mg "SHARES" 5)
    (g_UNHAPPY : GInt mg "UNHAPPY" 6)
    (g_BOUNDS : GInt mg "BOUNDS" 7)
    (g_REGRET : GInt mg "REGRET" 8)
    (g_NO_TABLE : GInt mg "NO_TABLE" 1)
    (f_answer_call : FunG K mg "answer_call" sAnsCall)
    (f_answers : FunG K mg "answers" sAnswers) :
    ∃ fd : FuncData, (∀ (s : Shared) (us : List Value), us.length = (["calls"] : List Str).length → BindsTo s fd ⟨us, []⟩ ((["calls"] : List Str).zip us)) ∧ ∀ base : Heap, K.In base → base.Ns mainGlobals mg → FnOk P w K mg base CX0 11 fa fd ["calls"] (spAnswers K) := by
  obtain ⟨f, fd, F, hm⟩ := f_answers
  rw [hfa] at hm
  cases hm
  have F' := F
  obtain ⟨oc, od, kV, doc, pm, an, cdv, ct, osl, rfl, lk, hcd⟩ := F.ex
  refine ⟨PySem.W.fnOf "answers" "answers" (defArgs sAnswers) (defBody sAnswers) (defScope sAnswers) .none kV doc pm an cdv ct, fun s us hu => match us, hu with | [_], _ => .of_eq rfl, fun base _ _ => ?_⟩
  have d_size_of : Def P w K mg base CX0 1 "size_of" ["table", "grouping"] (spSizeOf CT) := ok_size_of h1 h2 f_size_of
  have d_all_sizes : Def P w K mg base CX0 2 "all_sizes" ["table"] (spAllSizes CT) := ok_all_sizes h1 h2 d_size_of f_all_sizes
  have d_questions_of : Def P w K mg base CX0 1 "questions_of" ["readers", "group"] (spQuestionsOf K) := ok_questions_of h1 f_questions_of
  have d_part_costs : Def P w K mg base CX0 3 "part_costs" ["table", "changes"] (spPartCosts CT) := ok_part_costs h1 h2 g_CHANGE_COST d_all_sizes f_part_costs
  have d_least_parted : Def P w K mg base CX0 1 "least_parted" ["chosen", "costs", "least"] (spLeastParted K) := ok_least_parted h1 f_least_parted
  have d_least_costs : Def P w K mg base CX0 2 "least_costs" ["costs"] (spLeastCosts K) := ok_least_costs h1 d_least_parted f_least_costs
  have d_all_alone : Def P w K mg base CX0 4 "all_alone" ["table", "readers", "changes"] (spAllAlone K CT) := ok_all_alone h1 g_READER_COUNT d_part_costs d_least_costs d_questions_of f_all_alone
  have d_readers_in : Def P w K mg base CX0 1 "readers_in" ["group"] spReadersIn := ok_readers_in h1 g_READER_COUNT f_readers_in
  have d_added_in_orders : Def P w K mg base CX0 2 "added_in_orders" ["alone", "reader"] (spAddedInOrders K) := ok_added_in_orders h1 h13 d_readers_in f_added_in_orders
  have d_all_added : Def P w K mg base CX0 3 "all_added" ["alone"] (spAllAdded K) := ok_all_added h1 g_READER_COUNT d_added_in_orders f_all_added
  have d_lowest : Def P w K mg base CX0 1 "in_lowest_terms" ["numerator", "denominator"] spLowest := ok_lowest f_in_lowest_terms
  have d_all_shares : Def P w K mg base CX0 4 "all_shares" ["alone"] (spAllShares K) := ok_all_shares g_ORDERS d_all_added d_lowest f_all_shares
  have d_unhappy : Def P w K mg base CX0 4 "unhappy_groups" ["alone"] (spUnhappy K) := ok_unhappy h1 g_READER_COUNT g_ORDERS d_all_added f_unhappy_groups
  have d_sets_in_order : Def P w K mg base CX0 1 "sets_in_order" ["grouping_count"] spSetsInOrder := ok_sets_in_order h1 f_sets_in_order
  have d_all_reads : Def P w K mg base CX0 1 "all_reads" ["table", "sizes", "kept"] (spAllReads K CT) := ok_all_reads h1 h2 f_all_reads
  have d_small_init : MakeOk P w K mg base 3 "SmallSets" CS ["self", "table", "changes", "low", "high"] (spSmallInit K CT CS) := ok_small_init h1 h22 g_CHANGE_COST d_all_sizes d_sets_in_order d_all_reads i_SmallSets
  have d_most_dearer : MethOk P w K mg base CX0 1 CS "most_dearer" ["self", "own", "other"] (spMostDearer K CS) := ok_most_dearer h1 h22 m_SmallSets_most_dearer
  have d_regretted : MethOk P w K mg base CX0 2 CS "regretted" ["self", "own"] (spRegretted K CS) := ok_regretted h1 h22 d_most_dearer m_SmallSets_regretted
  have d_greatest : MethOk P w K mg base CX0 3 CS "greatest_regret" ["self", "own"] (spGreatest K CS) := ok_greatest h22 d_most_dearer d_regretted m_SmallSets_greatest_regret
  have d_least : MethOk P w K mg base CX0 4 CS "least" ["self"] (spLeast K CS) := ok_least h1 h22 d_greatest m_SmallSets_least
  have d_remark_end : Def P w K mg base CX0 1 "remark_end" ["text", "place"] spRemarkEnd := ok_remark_end h1 f_remark_end
  have d_skip_gap : Def P w K mg base CX0 2 "skip_gap" ["text", "place"] spSkipGap := ok_skip_gap h1 g_GAPS d_remark_end f_skip_gap
  have d_text_of : Def P w K mg base CX0 1 "text_of_bytes" ["text"] (spTextOf K) := ok_text_of h1 g_GAPS g_SIGNS g_DIGITS g_LETTERS g_MEANINGLESS f_text_of_bytes
  have d_token_end : Def P w K mg base (L2.CX P w) 3 "token_end" ["text", "place"] (spTokenEnd CF) := ok_token_end h1 h36 g_SIGNS g_NO_TOKEN f_token_end
  have d_tok_init : MakeOk P w K mg base 1 "Token" CTok ["self", "kind", "content", "place"] (spTokInit CTok) := ok_tok_init h39 i_Token
  have d_number_token : Def P w K mg base (L2.CX P w) 3 "number_token" ["digits", "place"] (spNumTok CF CTok) := ok_number_token h1 h36 g_MOST_NUMBER_DIGITS g_MOST_NUMBER g_NUMBER g_NO_TOKEN d_tok_init f_number_token
  have d_token_of : Def P w K mg base (L2.CX P w) 4 "token_of" ["piece", "place"] (spTokenOf CF CTok) := ok_token_of h1 h36 h45 g_SIGNS g_MOST_NAME_BYTES g_NAME g_NO_TOKEN d_tok_init d_number_token f_token_of
  have d_tokens_of : Def P w K mg base (L2.CX P w) 5 "tokens_of" ["text"] (spTokensOf K CF CTok) := ok_tokens_of h1 g_END d_tok_init d_text_of d_skip_gap d_token_end d_token_of f_tokens_of
  have d_walk_init : MakeOk P w K mg base 1 "TokenWalk" CW ["self", "tokens"] (spWalkInit CW CTok) := ok_walk_init h51 i_TokenWalk
  have d_take : MethOk P w K mg base (L2.CX P w) 3 CW "take" ["self", "kinds"] (spTake K CF CTok CW) := ok_take h51 h39 h36 g_NOT_ALLOWED m_TokenWalk_take
  have d_number_within : Def P w K mg base (L2.CX P w) 3 "number_within" ["token", "least", "most"] (spNumWithin CF CTok) := ok_number_within h39 h36 g_OUT_OF_RANGE f_number_within
  have d_refuse : Def P w K mg base (L2.CX P w) 3 "refuse_beyond" ["told", "most", "token"] (spRefuse K CF CTok) := ok_refuse h1 h39 h36 g_TOO_MANY f_refuse_beyond
  have d_take_number : MethOk P w K mg base (L2.CX P w) 4 CW "take_number" ["self", "least", "most"] (spTakeNum CF CTok CW) := ok_take_number h51 g_NUMBER d_take d_number_within m_TokenWalk_take_number
  have d_read_summed : Def P w K mg base (L2.CX P w) 5 "read_summed" ["walk"] (spReadSummed CF CTok CW) := ok_read_summed h51 h39 g_NUMBER g_MOST_SUMMED d_take d_number_within d_take_number f_read_summed
  have d_read_row : Def P w K mg base (L2.CX P w) 6 "read_row" ["walk", "column_count"] (spReadRow CF CTok CW) := ok_read_row h1 h51 h39 g_MOST_VALUE d_take d_take_number d_read_summed f_read_row
  have d_asked_bit : Def P w K mg base (L2.CX P w) 3 "asked_bit" ["token", "columns", "grouping"] (spAskedBit K CF CTok) := ok_asked_bit h39 h36 g_NO_COLUMN g_ASKED_AGAIN f_asked_bit
  have d_read_question : Def P w K mg base (L2.CX P w) 5 "read_question" ["walk", "columns"] (spReadAsk K CF CTok CW) := ok_read_question h51 h39 g_NAME g_MOST_TIMES d_take d_take_number d_asked_bit f_read_question
  have d_read_columns : Def P w K mg base (L2.CX P w) 4 "read_columns" ["walk"] (spReadCols CF CTok CW) := ok_read_columns h51 h39 h36 g_NAME g_MOST_COLUMNS g_COLUMN_AGAIN d_take d_refuse f_read_columns
  have d_tab_init : MakeOk P w K mg base 1 "Table" CT ["self", "columns"] (spTabInit CT) := ok_tab_init h2 i_Table
  have d_read_table : Def P w K mg base (L2.CX P w) 7 "read_table" ["text"] (spReadTable K CF CT) := ok_read_table h1 h51 h39 h2 h36 g_END g_MOST_BYTES g_TOO_LONG g_MOST_ROWS g_MOST_QUESTIONS d_tokens_of d_walk_init d_tab_init d_take d_read_columns d_read_row d_read_question d_refuse f_read_table
  have d_question_line : Def P w K mg base CX0 1 "question_line" ["columns", "grouping", "times"] (spQLine K) := ok_question_line h1 f_question_line
  have d_one_form : Def P w K mg base CX0 2 "one_form" ["table"] (spOneForm CT) := ok_one_form h1 h2 d_question_line f_one_form
  have d_refusal : Def P w K mg base CX0 1 "refusal" ["code"] spRefusal := ok_refusal f_refusal
  have d_told_set : Def P w K mg base CX0 1 "told_set" ["members"] spToldSet := ok_told_set h1 f_told_set
  have d_answer_shown : Def P w K mg base CX0 3 "answer_shown" ["held"] (spAnsShown K CH CT) := ok_answer_shown h1 h82 d_one_form f_answer_shown
  have d_answer_changes : Def P w K mg base CX0 2 "answer_changes" ["held", "changes"] (spAnsChanges K CH CT) := ok_answer_changes h82 g_MOST_CHANGES g_WRONG_CHANGES d_refusal f_answer_changes
  have d_groups_alone : Def P w K mg base CX0 5 "groups_alone" ["held"] (spGroupsAlone K CH CT) := ok_groups_alone h82 d_all_alone f_groups_alone
  have d_answer_alone : Def P w K mg base CX0 6 "answer_alone" ["held", "group"] (spAnsAlone K CH CT) := ok_answer_alone g_MOST_GROUP g_NO_GROUP d_refusal d_groups_alone f_answer_alone
  have d_answer_shares : Def P w K mg base CX0 6 "answer_shares" ["held"] (spAnsShares K CH CT) := ok_answer_shares g_MOST_GROUP d_groups_alone d_all_shares f_answer_shares
  have d_answer_unhappy : Def P w K mg base CX0 6 "answer_unhappy" ["held"] (spAnsUnhappy K CH CT) := ok_answer_unhappy d_groups_alone d_unhappy d_told_set f_answer_unhappy
  have d_answer_readers : Def P w K mg base CX0 2 "answer_readers" ["held", "readers"] (spAnsReaders K CH CT) := ok_answer_readers h1 h82 h2 g_MOST_READER g_WRONG_LIST d_refusal f_answer_readers
  have d_answer_bounds : Def P w K mg base CX0 2 "answer_bounds" ["held", "low", "high"] (spAnsBounds K CH CT) := ok_answer_bounds h1 h82 h2 g_MOST_OFTEN g_WRONG_LIST d_refusal f_answer_bounds
  have d_small_sets : Def P w K mg base CX0 5 "small_sets" ["held"] (spSmallSets K CH CT CS) := ok_small_sets h82 d_small_init f_small_sets
  have d_answer_regret : Def P w K mg base CX0 6 "answer_regret" ["held", "groupings"] (spAnsRegret K CH CT) := ok_answer_regret h1 h82 h2 h22 g_NO_GROUPING g_MOST_KEPT g_TOO_MANY_KEPT d_refusal d_small_sets d_told_set d_greatest d_regretted f_answer_regret
  have d_answer_least : Def P w K mg base CX0 6 "answer_least" ["held"] (spAnsLeast K CH CT) := ok_answer_least h22 d_small_sets d_told_set d_greatest d_regretted d_least f_answer_least
  have d_held_init : MakeOk P w K mg base 1 "Held" CH ["self"] (spHeldInit CH) := ok_held_init h82 i_Held
  have d_answer_load : Def P w K mg base CX0 9 "answer_load" ["held", "text"] (spAnsLoad K CH CT) := ok_answer_load h1 h82 h2 h36 d_read_table f_answer_load
  have d_cw_init : MakeOk P w K mg base 1 "CallWalk" CC ["self", "calls"] (spCwInit K CC) := ok_cw_init h106 i_CallWalk
  have d_at_end : MethOk P w K mg base CX0 1 CC "at_end" ["self"] (spAtEnd K CC) := ok_at_end h1 h106 m_CallWalk_at_end
  have d_take_one : MethOk P w K mg base CX0 1 CC "take_one" ["self"] (spTakeOne K CC) := ok_take_one h106 m_CallWalk_take_one
  have d_take_list : MethOk P w K mg base CX0 2 CC "take_list" ["self"] (spTakeList K CC) := ok_take_list h106 d_take_one m_CallWalk_take_list
  have d_take_arguments : Def P w K mg base CX0 3 "take_arguments" ["walk", "number"] (spTakeArgs K CC) := ok_take_arguments h106 h111 d_take_one d_take_list f_take_arguments
  have d_answer_call : Def P w K mg base CX0 10 "answer_call" ["held", "number", "arguments"] (spAnsCall K CH CT) := ok_answer_call h82 g_LOAD g_SHOWN g_READERS g_CHANGES g_ALONE g_SHARES g_UNHAPPY g_BOUNDS g_REGRET g_NO_TABLE d_refusal d_answer_load d_answer_shown d_answer_readers d_answer_changes d_answer_alone d_answer_shares d_answer_unhappy d_answer_bounds d_answer_regret d_answer_least f_answer_call
  exact ok_answers h1 h106 d_cw_init d_held_init d_at_end d_take_one d_take_arguments d_answer_call F'
end
end SR
set_option Elab.async false
set_option linter.all false
set_option maxRecDepth 100000
open PySem PySem.W PyProof.Rows
set_option maxRecDepth 100000 in
set_option maxHeartbeats 16000000 in
theorem PySem.Challenge.cw_sharesregrets_s01_answers_holds : PySem.Challenge.rw_sharesregrets_s01_answers.Holds := by
  w_on; k_headS; (case hw => exact ⟨[.list [.int 1]], by decide +kernel, by decide +kernel⟩)
  k_fillS
  refine L2.walk_specK (r := PySem.Challenge.rw_sharesregrets_s01_answers) (k := 11) (CX := L2.CX0) (ps := ["calls"]) (sp := SR.spAnswers) (by decide +kernel) rfl rfl ⟨rfl, by decide, by decide⟩ (fun w h Y => PySem.W.kIn_of Y) ?F ?S (fun _ _ _ _ z => z)
  case F =>
    intro w mg fa h Y KX G hmg
    refine' SR.all_ok (CT := ?CT) (CS := ?CS) (CTok := ?CTok) (CW := ?CW) (CH := ?CH) (CC := ?CC) (CF := ?CF) (fI := ?fI) hmg ?h1 ?h2 ?f_size_of ?f_all_sizes ?f_questions_of ?g_CHANGE_COST ?f_part_costs ?f_least_parted ?f_least_costs ?g_READER_COUNT ?f_all_alone ?f_readers_in ?h13 ?f_added_in_orders ?f_all_added ?f_in_lowest_terms ?g_ORDERS ?f_all_shares ?f_unhappy_groups ?f_sets_in_order ?f_all_reads ?h22 ?i_SmallSets ?m_SmallSets_most_dearer ?m_SmallSets_regretted ?m_SmallSets_greatest_regret ?m_SmallSets_least ?f_remark_end ?g_GAPS ?f_skip_gap ?g_SIGNS ?g_DIGITS ?g_LETTERS ?g_MEANINGLESS ?f_text_of_bytes ?h36 ?g_NO_TOKEN ?f_token_end ?h39 ?i_Token ?g_MOST_NUMBER_DIGITS ?g_MOST_NUMBER ?g_NUMBER ?f_number_token ?h45 ?g_MOST_NAME_BYTES ?g_NAME ?f_token_of ?g_END ?f_tokens_of ?h51 ?i_TokenWalk ?g_NOT_ALLOWED ?m_TokenWalk_take ?g_OUT_OF_RANGE ?f_number_within ?g_TOO_MANY ?f_refuse_beyond ?m_TokenWalk_take_number ?g_MOST_SUMMED ?f_read_summed ?g_MOST_VALUE ?f_read_row ?g_NO_COLUMN ?g_ASKED_AGAIN ?f_asked_bit ?g_MOST_TIMES ?f_read_question ?g_MOST_COLUMNS ?g_COLUMN_AGAIN ?f_read_columns ?i_Table ?g_MOST_BYTES ?g_TOO_LONG ?g_MOST_ROWS ?g_MOST_QUESTIONS ?f_read_table ?f_question_line ?f_one_form ?f_refusal ?f_told_set ?h82 ?f_answer_shown ?g_MOST_CHANGES ?g_WRONG_CHANGES ?f_answer_changes ?f_groups_alone ?g_MOST_GROUP ?g_NO_GROUP ?f_answer_alone ?f_answer_shares ?f_answer_unhappy ?g_MOST_READER ?g_WRONG_LIST ?f_answer_readers ?g_MOST_OFTEN ?f_answer_bounds ?f_small_sets ?g_NO_GROUPING ?g_MOST_KEPT ?g_TOO_MANY_KEPT ?f_answer_regret ?f_answer_least ?i_Held ?f_answer_load ?h106 ?i_CallWalk ?m_CallWalk_at_end ?m_CallWalk_take_one ?m_CallWalk_take_list ?h111 ?f_take_arguments ?g_LOAD ?g_SHOWN ?g_READERS ?g_CHANGES ?g_ALONE ?g_SHARES ?g_UNHAPPY ?g_BOUNDS ?g_REGRET ?g_NO_TABLE ?f_answer_call ?f_answers
    (case i_Table => (refine' SR.funI KX G ?g_1 ?m_1 ?a_1 ?i_1 ?kc_1 ?l_1 ?c_1 ?k_1; (case g_1 => k_is); (case m_1 => k_is); (case a_1 => k_is); (case i_1 => k_is); (case kc_1 => k_is); (case l_1 => k_is); (case c_1 => k_is); (case k_1 => k_is)))
    (case i_SmallSets => (refine' SR.funI KX G ?g_2 ?m_2 ?a_2 ?i_2 ?kc_2 ?l_2 ?c_2 ?k_2; (case g_2 => k_is); (case m_2 => k_is); (case a_2 => k_is); (case i_2 => k_is); (case kc_2 => k_is); (case l_2 => k_is); (case c_2 => k_is); (case k_2 => k_is)))
    (case i_Token => (refine' SR.funI KX G ?g_3 ?m_3 ?a_3 ?i_3 ?kc_3 ?l_3 ?c_3 ?k_3; (case g_3 => k_is); (case m_3 => k_is); (case a_3 => k_is); (case i_3 => k_is); (case kc_3 => k_is); (case l_3 => k_is); (case c_3 => k_is); (case k_3 => k_is)))
    (case i_TokenWalk => (refine' SR.funI KX G ?g_4 ?m_4 ?a_4 ?i_4 ?kc_4 ?l_4 ?c_4 ?k_4; (case g_4 => k_is); (case m_4 => k_is); (case a_4 => k_is); (case i_4 => k_is); (case kc_4 => k_is); (case l_4 => k_is); (case c_4 => k_is); (case k_4 => k_is)))
    (case i_Held => (refine' SR.funI KX G ?g_5 ?m_5 ?a_5 ?i_5 ?kc_5 ?l_5 ?c_5 ?k_5; (case g_5 => k_is); (case m_5 => k_is); (case a_5 => k_is); (case i_5 => k_is); (case kc_5 => k_is); (case l_5 => k_is); (case c_5 => k_is); (case k_5 => k_is)))
    (case i_CallWalk => (refine' SR.funI KX G ?g_6 ?m_6 ?a_6 ?i_6 ?kc_6 ?l_6 ?c_6 ?k_6; (case g_6 => k_is); (case m_6 => k_is); (case a_6 => k_is); (case i_6 => k_is); (case kc_6 => k_is); (case l_6 => k_is); (case c_6 => k_is); (case k_6 => k_is)))
    (case h36 => (refine' SR.faultTxt KX G ?aC_7 ?aE_7 ?xL_7 ?sa_7 ?ga_7 ?gg_7 ?n1_7 ?n2_7 ?iC_7 ?tC_7 ?l_7 ?c_7 ?kC_7 ?eC_7 ?yC_7 ?hC_7 ?jC_7 ?sC_7; (case aC_7 => k_is); (case aE_7 => k_is); (case xL_7 => k_is); (case sa_7 => k_is); (case ga_7 => k_is); (case gg_7 => k_is); (case n1_7 => k_is); (case n2_7 => k_is); (case iC_7 => k_is); (case tC_7 => k_is); (case l_7 => k_is); (case c_7 => k_is); (case kC_7 => k_is); (case eC_7 => k_is); (case yC_7 => k_is); (case hC_7 => k_is); (case jC_7 => k_is); (case sC_7 => first | rfl | k_is)))
    (case h1 => (refine' ⟨PySem.W.mg_none_of KX G ?blen_8, PySem.W.mg_none_of KX G ?brange_8, PySem.W.mg_none_of KX G ?btuple_8, PySem.W.mg_none_of KX G ?benumerate_8, PySem.W.mg_none_of KX G ?bmin_8, PySem.W.mg_none_of KX G ?bsum_8, PySem.W.mg_none_of KX G ?bord_8, PySem.W.mg_none_of KX G ?bstr_8, PySem.W.mg_none_of KX G ?bint_8, PySem.W.mg_none_of KX G ?bsorted_8, PySem.W.mg_none_of KX G ?bset_8, PySem.W.mg_none_of KX G ?bzip_8, PySem.W.mg_none_of KX G ?blist_8⟩; (case blen_8 => k_is); (case brange_8 => k_is); (case btuple_8 => k_is); (case benumerate_8 => k_is); (case bmin_8 => k_is); (case bsum_8 => k_is); (case bord_8 => k_is); (case bstr_8 => k_is); (case bint_8 => k_is); (case bsorted_8 => k_is); (case bset_8 => k_is); (case bzip_8 => k_is); (case blist_8 => k_is)))
    (case h2 => (refine' ⟨⟨?pg_9, ?hd_9, ?po_9, ?sa_9⟩, ?znc_9, ?znr_9, ?znq_9⟩; (case pg_9 => k_is); (case hd_9 => k_is); (case po_9 => k_is); (case sa_9 => k_is); (case znc_9 => (show PySem.W.findIn _ _ _ = _; k_is)); (case znr_9 => (show PySem.W.findIn _ _ _ = _; k_is)); (case znq_9 => (show PySem.W.findIn _ _ _ = _; k_is))))
    (case f_size_of => (refine' SR.funG KX G ?a_10 ?l_10 ?c_10 ?k_10; (case a_10 => k_is); (case l_10 => k_is); (case c_10 => k_is); (case k_10 => k_is)))
    (case f_all_sizes => (refine' SR.funG KX G ?a_11 ?l_11 ?c_11 ?k_11; (case a_11 => k_is); (case l_11 => k_is); (case c_11 => k_is); (case k_11 => k_is)))
    (case f_questions_of => (refine' SR.funG KX G ?a_12 ?l_12 ?c_12 ?k_12; (case a_12 => k_is); (case l_12 => k_is); (case c_12 => k_is); (case k_12 => k_is)))
    (case g_CHANGE_COST => (refine' SR.gint KX G ?a_13; (case a_13 => k_is)))
    (case f_part_costs => (refine' SR.funG KX G ?a_14 ?l_14 ?c_14 ?k_14; (case a_14 => k_is); (case l_14 => k_is); (case c_14 => k_is); (case k_14 => k_is)))
    (case f_least_parted => (refine' SR.funG KX G ?a_15 ?l_15 ?c_15 ?k_15; (case a_15 => k_is); (case l_15 => k_is); (case c_15 => k_is); (case k_15 => k_is)))
    (case f_least_costs => (refine' SR.funG KX G ?a_16 ?l_16 ?c_16 ?k_16; (case a_16 => k_is); (case l_16 => k_is); (case c_16 => k_is); (case k_16 => k_is)))
    (case g_READER_COUNT => (refine' SR.gint KX G ?a_17; (case a_17 => k_is)))
    (case f_all_alone => (refine' SR.funG KX G ?a_18 ?l_18 ?c_18 ?k_18; (case a_18 => k_is); (case l_18 => k_is); (case c_18 => k_is); (case k_18 => k_is)))
    (case f_readers_in => (refine' SR.funG KX G ?a_19 ?l_19 ?c_19 ?k_19; (case a_19 => k_is); (case l_19 => k_is); (case c_19 => k_is); (case k_19 => k_is)))
    (case h13 => (refine' SR.gtup KX G ?a_20 (SR.sqt ?l_20 ?z_20 ?v_20); (case a_20 => k_is); (case l_20 => k_is); (case z_20 => (show 4 ≤ sizeLine; decide)); (case v_20 => exact .cons ⟨_, rfl⟩ (.cons ⟨_, rfl⟩ (.cons ⟨_, rfl⟩ (.cons ⟨_, rfl⟩ .nil))))))
    (case f_added_in_orders => (refine' SR.funG KX G ?a_21 ?l_21 ?c_21 ?k_21; (case a_21 => k_is); (case l_21 => k_is); (case c_21 => k_is); (case k_21 => k_is)))
    (case f_all_added => (refine' SR.funG KX G ?a_22 ?l_22 ?c_22 ?k_22; (case a_22 => k_is); (case l_22 => k_is); (case c_22 => k_is); (case k_22 => k_is)))
    (case f_in_lowest_terms => (refine' SR.funG KX G ?a_23 ?l_23 ?c_23 ?k_23; (case a_23 => k_is); (case l_23 => k_is); (case c_23 => k_is); (case k_23 => k_is)))
    (case g_ORDERS => (refine' SR.gint KX G ?a_24; (case a_24 => k_is)))
    (case f_all_shares => (refine' SR.funG KX G ?a_25 ?l_25 ?c_25 ?k_25; (case a_25 => k_is); (case l_25 => k_is); (case c_25 => k_is); (case k_25 => k_is)))
    (case f_unhappy_groups => (refine' SR.funG KX G ?a_26 ?l_26 ?c_26 ?k_26; (case a_26 => k_is); (case l_26 => k_is); (case c_26 => k_is); (case k_26 => k_is)))
    (case f_sets_in_order => (refine' SR.funG KX G ?a_27 ?l_27 ?c_27 ?k_27; (case a_27 => k_is); (case l_27 => k_is); (case c_27 => k_is); (case k_27 => k_is)))
    (case f_all_reads => (refine' SR.funG KX G ?a_28 ?l_28 ?c_28 ?k_28; (case a_28 => k_is); (case l_28 => k_is); (case c_28 => k_is); (case k_28 => k_is)))
    (case h22 => (refine' ⟨⟨?pg_29, ?hd_29, ?po_29, ?sa_29⟩, ?znl_29, ?znh_29, ?zns_29, ?znr_29, ?znu_29⟩; (case pg_29 => k_is); (case hd_29 => k_is); (case po_29 => k_is); (case sa_29 => k_is); (case znl_29 => (show PySem.W.findIn _ _ _ = _; k_is)); (case znh_29 => (show PySem.W.findIn _ _ _ = _; k_is)); (case zns_29 => (show PySem.W.findIn _ _ _ = _; k_is)); (case znr_29 => (show PySem.W.findIn _ _ _ = _; k_is)); (case znu_29 => (show PySem.W.findIn _ _ _ = _; k_is))))
    (case m_SmallSets_most_dearer => (refine' SR.funM ?a_30 ?i_30 ?l_30 ?c_30 ?k_30; (case a_30 => k_is); (case i_30 => k_is); (case l_30 => k_is); (case c_30 => k_is); (case k_30 => k_is)))
    (case m_SmallSets_regretted => (refine' SR.funM ?a_31 ?i_31 ?l_31 ?c_31 ?k_31; (case a_31 => k_is); (case i_31 => k_is); (case l_31 => k_is); (case c_31 => k_is); (case k_31 => k_is)))
    (case m_SmallSets_greatest_regret => (refine' SR.funM ?a_32 ?i_32 ?l_32 ?c_32 ?k_32; (case a_32 => k_is); (case i_32 => k_is); (case l_32 => k_is); (case c_32 => k_is); (case k_32 => k_is)))
    (case m_SmallSets_least => (refine' SR.funM ?a_33 ?i_33 ?l_33 ?c_33 ?k_33; (case a_33 => k_is); (case i_33 => k_is); (case l_33 => k_is); (case c_33 => k_is); (case k_33 => k_is)))
    (case f_remark_end => (refine' SR.funG KX G ?a_34 ?l_34 ?c_34 ?k_34; (case a_34 => k_is); (case l_34 => k_is); (case c_34 => k_is); (case k_34 => k_is)))
    (case g_GAPS => (refine' SR.gstr KX G ?a_35; (case a_35 => k_is)))
    (case f_skip_gap => (refine' SR.funG KX G ?a_36 ?l_36 ?c_36 ?k_36; (case a_36 => k_is); (case l_36 => k_is); (case c_36 => k_is); (case k_36 => k_is)))
    (case g_SIGNS => (refine' SR.gstr KX G ?a_37; (case a_37 => k_is)))
    (case g_DIGITS => (refine' SR.gstr KX G ?a_38; (case a_38 => k_is)))
    (case g_LETTERS => (refine' SR.gstr KX G ?a_39; (case a_39 => k_is)))
    (case g_MEANINGLESS => (refine' SR.gstr KX G ?a_40; (case a_40 => k_is)))
    (case f_text_of_bytes => (refine' SR.funG KX G ?a_41 ?l_41 ?c_41 ?k_41; (case a_41 => k_is); (case l_41 => k_is); (case c_41 => k_is); (case k_41 => k_is)))
    (case g_NO_TOKEN => (refine' SR.gint KX G ?a_42; (case a_42 => k_is)))
    (case f_token_end => (refine' SR.funG KX G ?a_43 ?l_43 ?c_43 ?k_43; (case a_43 => k_is); (case l_43 => k_is); (case c_43 => k_is); (case k_43 => k_is)))
    (case h39 => (refine' ⟨⟨?pg_44, ?hd_44, ?po_44, ?sa_44⟩, ?znk_44, ?znc_44, ?znp_44⟩; (case pg_44 => k_is); (case hd_44 => k_is); (case po_44 => k_is); (case sa_44 => k_is); (case znk_44 => (show PySem.W.findIn _ _ _ = _; k_is)); (case znc_44 => (show PySem.W.findIn _ _ _ = _; k_is)); (case znp_44 => (show PySem.W.findIn _ _ _ = _; k_is))))
    (case g_MOST_NUMBER_DIGITS => (refine' SR.gint KX G ?a_45; (case a_45 => k_is)))
    (case g_MOST_NUMBER => (refine' SR.gint KX G ?a_46; (case a_46 => k_is)))
    (case g_NUMBER => (refine' SR.gstr KX G ?a_47; (case a_47 => k_is)))
    (case f_number_token => (refine' SR.funG KX G ?a_48 ?l_48 ?c_48 ?k_48; (case a_48 => k_is); (case l_48 => k_is); (case c_48 => k_is); (case k_48 => k_is)))
    (case h45 => (refine' SR.gtup KX G ?a_49 (SR.sqt ?l_49 ?z_49 ?v_49); (case a_49 => k_is); (case l_49 => k_is); (case z_49 => (show 4 ≤ sizeLine; decide)); (case v_49 => exact .cons ⟨_, rfl⟩ (.cons ⟨_, rfl⟩ (.cons ⟨_, rfl⟩ (.cons ⟨_, rfl⟩ .nil))))))
    (case g_MOST_NAME_BYTES => (refine' SR.gint KX G ?a_50; (case a_50 => k_is)))
    (case g_NAME => (refine' SR.gstr KX G ?a_51; (case a_51 => k_is)))
    (case f_token_of => (refine' SR.funG KX G ?a_52 ?l_52 ?c_52 ?k_52; (case a_52 => k_is); (case l_52 => k_is); (case c_52 => k_is); (case k_52 => k_is)))
    (case g_END => (refine' SR.gstr KX G ?a_53; (case a_53 => k_is)))
    (case f_tokens_of => (refine' SR.funG KX G ?a_54 ?l_54 ?c_54 ?k_54; (case a_54 => k_is); (case l_54 => k_is); (case c_54 => k_is); (case k_54 => k_is)))
    (case h51 => (refine' ⟨⟨?pg_55, ?hd_55, ?po_55, ?sa_55⟩, ?znt_55, ?znk_55, ?zmt_55⟩; (case pg_55 => k_is); (case hd_55 => k_is); (case po_55 => k_is); (case sa_55 => k_is); (case znt_55 => (show PySem.W.findIn _ _ _ = _; k_is)); (case znk_55 => (show PySem.W.findIn _ _ _ = _; k_is)); (case zmt_55 => (show PySem.W.findIn _ _ _ = _; k_is))))
    (case g_NOT_ALLOWED => (refine' SR.gint KX G ?a_56; (case a_56 => k_is)))
    (case m_TokenWalk_take => (refine' SR.funM ?a_57 ?i_57 ?l_57 ?c_57 ?k_57; (case a_57 => k_is); (case i_57 => k_is); (case l_57 => k_is); (case c_57 => k_is); (case k_57 => k_is)))
    (case g_OUT_OF_RANGE => (refine' SR.gint KX G ?a_58; (case a_58 => k_is)))
    (case f_number_within => (refine' SR.funG KX G ?a_59 ?l_59 ?c_59 ?k_59; (case a_59 => k_is); (case l_59 => k_is); (case c_59 => k_is); (case k_59 => k_is)))
    (case g_TOO_MANY => (refine' SR.gint KX G ?a_60; (case a_60 => k_is)))
    (case f_refuse_beyond => (refine' SR.funG KX G ?a_61 ?l_61 ?c_61 ?k_61; (case a_61 => k_is); (case l_61 => k_is); (case c_61 => k_is); (case k_61 => k_is)))
    (case m_TokenWalk_take_number => (refine' SR.funM ?a_62 ?i_62 ?l_62 ?c_62 ?k_62; (case a_62 => k_is); (case i_62 => k_is); (case l_62 => k_is); (case c_62 => k_is); (case k_62 => k_is)))
    (case g_MOST_SUMMED => (refine' SR.gint KX G ?a_63; (case a_63 => k_is)))
    (case f_read_summed => (refine' SR.funG KX G ?a_64 ?l_64 ?c_64 ?k_64; (case a_64 => k_is); (case l_64 => k_is); (case c_64 => k_is); (case k_64 => k_is)))
    (case g_MOST_VALUE => (refine' SR.gint KX G ?a_65; (case a_65 => k_is)))
    (case f_read_row => (refine' SR.funG KX G ?a_66 ?l_66 ?c_66 ?k_66; (case a_66 => k_is); (case l_66 => k_is); (case c_66 => k_is); (case k_66 => k_is)))
    (case g_NO_COLUMN => (refine' SR.gint KX G ?a_67; (case a_67 => k_is)))
    (case g_ASKED_AGAIN => (refine' SR.gint KX G ?a_68; (case a_68 => k_is)))
    (case f_asked_bit => (refine' SR.funG KX G ?a_69 ?l_69 ?c_69 ?k_69; (case a_69 => k_is); (case l_69 => k_is); (case c_69 => k_is); (case k_69 => k_is)))
    (case g_MOST_TIMES => (refine' SR.gint KX G ?a_70; (case a_70 => k_is)))
    (case f_read_question => (refine' SR.funG KX G ?a_71 ?l_71 ?c_71 ?k_71; (case a_71 => k_is); (case l_71 => k_is); (case c_71 => k_is); (case k_71 => k_is)))
    (case g_MOST_COLUMNS => (refine' SR.gint KX G ?a_72; (case a_72 => k_is)))
    (case g_COLUMN_AGAIN => (refine' SR.gint KX G ?a_73; (case a_73 => k_is)))
    (case f_read_columns => (refine' SR.funG KX G ?a_74 ?l_74 ?c_74 ?k_74; (case a_74 => k_is); (case l_74 => k_is); (case c_74 => k_is); (case k_74 => k_is)))
    (case g_MOST_BYTES => (refine' SR.gint KX G ?a_75; (case a_75 => k_is)))
    (case g_TOO_LONG => (refine' SR.gint KX G ?a_76; (case a_76 => k_is)))
    (case g_MOST_ROWS => (refine' SR.gint KX G ?a_77; (case a_77 => k_is)))
    (case g_MOST_QUESTIONS => (refine' SR.gint KX G ?a_78; (case a_78 => k_is)))
    (case f_read_table => (refine' SR.funG KX G ?a_79 ?l_79 ?c_79 ?k_79; (case a_79 => k_is); (case l_79 => k_is); (case c_79 => k_is); (case k_79 => k_is)))
    (case f_question_line => (refine' SR.funG KX G ?a_80 ?l_80 ?c_80 ?k_80; (case a_80 => k_is); (case l_80 => k_is); (case c_80 => k_is); (case k_80 => k_is)))
    (case f_one_form => (refine' SR.funG KX G ?a_81 ?l_81 ?c_81 ?k_81; (case a_81 => k_is); (case l_81 => k_is); (case c_81 => k_is); (case k_81 => k_is)))
    (case f_refusal => (refine' SR.funG KX G ?a_82 ?l_82 ?c_82 ?k_82; (case a_82 => k_is); (case l_82 => k_is); (case c_82 => k_is); (case k_82 => k_is)))
    (case f_told_set => (refine' SR.funG KX G ?a_83 ?l_83 ?c_83 ?k_83; (case a_83 => k_is); (case l_83 => k_is); (case c_83 => k_is); (case k_83 => k_is)))
    (case h82 => (refine' ⟨⟨?pg_84, ?hd_84, ?po_84, ?sa_84⟩, ?znt_84, ?znr_84, ?znc_84, ?znl_84, ?znh_84⟩; (case pg_84 => k_is); (case hd_84 => k_is); (case po_84 => k_is); (case sa_84 => k_is); (case znt_84 => (show PySem.W.findIn _ _ _ = _; k_is)); (case znr_84 => (show PySem.W.findIn _ _ _ = _; k_is)); (case znc_84 => (show PySem.W.findIn _ _ _ = _; k_is)); (case znl_84 => (show PySem.W.findIn _ _ _ = _; k_is)); (case znh_84 => (show PySem.W.findIn _ _ _ = _; k_is))))
    (case f_answer_shown => (refine' SR.funG KX G ?a_85 ?l_85 ?c_85 ?k_85; (case a_85 => k_is); (case l_85 => k_is); (case c_85 => k_is); (case k_85 => k_is)))
    (case g_MOST_CHANGES => (refine' SR.gint KX G ?a_86; (case a_86 => k_is)))
    (case g_WRONG_CHANGES => (refine' SR.gint KX G ?a_87; (case a_87 => k_is)))
    (case f_answer_changes => (refine' SR.funG KX G ?a_88 ?l_88 ?c_88 ?k_88; (case a_88 => k_is); (case l_88 => k_is); (case c_88 => k_is); (case k_88 => k_is)))
    (case f_groups_alone => (refine' SR.funG KX G ?a_89 ?l_89 ?c_89 ?k_89; (case a_89 => k_is); (case l_89 => k_is); (case c_89 => k_is); (case k_89 => k_is)))
    (case g_MOST_GROUP => (refine' SR.gint KX G ?a_90; (case a_90 => k_is)))
    (case g_NO_GROUP => (refine' SR.gint KX G ?a_91; (case a_91 => k_is)))
    (case f_answer_alone => (refine' SR.funG KX G ?a_92 ?l_92 ?c_92 ?k_92; (case a_92 => k_is); (case l_92 => k_is); (case c_92 => k_is); (case k_92 => k_is)))
    (case f_answer_shares => (refine' SR.funG KX G ?a_93 ?l_93 ?c_93 ?k_93; (case a_93 => k_is); (case l_93 => k_is); (case c_93 => k_is); (case k_93 => k_is)))
    (case f_answer_unhappy => (refine' SR.funG KX G ?a_94 ?l_94 ?c_94 ?k_94; (case a_94 => k_is); (case l_94 => k_is); (case c_94 => k_is); (case k_94 => k_is)))
    (case g_MOST_READER => (refine' SR.gint KX G ?a_95; (case a_95 => k_is)))
    (case g_WRONG_LIST => (refine' SR.gint KX G ?a_96; (case a_96 => k_is)))
    (case f_answer_readers => (refine' SR.funG KX G ?a_97 ?l_97 ?c_97 ?k_97; (case a_97 => k_is); (case l_97 => k_is); (case c_97 => k_is); (case k_97 => k_is)))
    (case g_MOST_OFTEN => (refine' SR.gint KX G ?a_98; (case a_98 => k_is)))
    (case f_answer_bounds => (refine' SR.funG KX G ?a_99 ?l_99 ?c_99 ?k_99; (case a_99 => k_is); (case l_99 => k_is); (case c_99 => k_is); (case k_99 => k_is)))
    (case f_small_sets => (refine' SR.funG KX G ?a_100 ?l_100 ?c_100 ?k_100; (case a_100 => k_is); (case l_100 => k_is); (case c_100 => k_is); (case k_100 => k_is)))
    (case g_NO_GROUPING => (refine' SR.gint KX G ?a_101; (case a_101 => k_is)))
    (case g_MOST_KEPT => (refine' SR.gint KX G ?a_102; (case a_102 => k_is)))
    (case g_TOO_MANY_KEPT => (refine' SR.gint KX G ?a_103; (case a_103 => k_is)))
    (case f_answer_regret => (refine' SR.funG KX G ?a_104 ?l_104 ?c_104 ?k_104; (case a_104 => k_is); (case l_104 => k_is); (case c_104 => k_is); (case k_104 => k_is)))
    (case f_answer_least => (refine' SR.funG KX G ?a_105 ?l_105 ?c_105 ?k_105; (case a_105 => k_is); (case l_105 => k_is); (case c_105 => k_is); (case k_105 => k_is)))
    (case f_answer_load => (refine' SR.funG KX G ?a_106 ?l_106 ?c_106 ?k_106; (case a_106 => k_is); (case l_106 => k_is); (case c_106 => k_is); (case k_106 => k_is)))
    (case h106 => (refine' ⟨⟨?pg_107, ?hd_107, ?po_107, ?sa_107⟩, ?znc_107, ?znw_107⟩; (case pg_107 => k_is); (case hd_107 => k_is); (case po_107 => k_is); (case sa_107 => k_is); (case znc_107 => (show PySem.W.findIn _ _ _ = _; k_is)); (case znw_107 => (show PySem.W.findIn _ _ _ = _; k_is))))
    (case m_CallWalk_at_end => (refine' SR.funM ?a_108 ?i_108 ?l_108 ?c_108 ?k_108; (case a_108 => k_is); (case i_108 => k_is); (case l_108 => k_is); (case c_108 => k_is); (case k_108 => k_is)))
    (case m_CallWalk_take_one => (refine' SR.funM ?a_109 ?i_109 ?l_109 ?c_109 ?k_109; (case a_109 => k_is); (case i_109 => k_is); (case l_109 => k_is); (case c_109 => k_is); (case k_109 => k_is)))
    (case m_CallWalk_take_list => (refine' SR.funM ?a_110 ?i_110 ?l_110 ?c_110 ?k_110; (case a_110 => k_is); (case i_110 => k_is); (case l_110 => k_is); (case c_110 => k_is); (case k_110 => k_is)))
    (case h111 => (refine' SR.gforms KX G ?a_111 (SR.sqt ?l_111 ?z_111 ?v_111) (SR.sqt ?l0_111 ?z0_111 ?v0_111) (SR.sqt ?l1_111 ?z1_111 ?v1_111) (SR.sqt ?l2_111 ?z2_111 ?v2_111) (SR.sqt ?l3_111 ?z3_111 ?v3_111) (SR.sqt ?l4_111 ?z4_111 ?v4_111) (SR.sqt ?l5_111 ?z5_111 ?v5_111) (SR.sqt ?l6_111 ?z6_111 ?v6_111) (SR.sqt ?l7_111 ?z7_111 ?v7_111) (SR.sqt ?l8_111 ?z8_111 ?v8_111) (SR.sqt ?l9_111 ?z9_111 ?v9_111); (case a_111 => k_is); (case l_111 => k_is); (case z_111 => (show 10 ≤ sizeLine; decide)); (case v_111 => exact (.cons rfl (.cons rfl (.cons rfl (.cons rfl (.cons rfl (.cons rfl (.cons rfl (.cons rfl (.cons rfl (.cons rfl .nil))))))))))); (case l0_111 => k_is); (case z0_111 => (show 1 ≤ sizeLine; decide)); (case v0_111 => exact (.cons ⟨_, rfl⟩ .nil)); (case l1_111 => k_is); (case z1_111 => (show 0 ≤ sizeLine; decide)); (case v1_111 => exact .nil); (case l2_111 => k_is); (case z2_111 => (show 1 ≤ sizeLine; decide)); (case v2_111 => exact (.cons ⟨_, rfl⟩ .nil)); (case l3_111 => k_is); (case z3_111 => (show 1 ≤ sizeLine; decide)); (case v3_111 => exact (.cons ⟨_, rfl⟩ .nil)); (case l4_111 => k_is); (case z4_111 => (show 1 ≤ sizeLine; decide)); (case v4_111 => exact (.cons ⟨_, rfl⟩ .nil)); (case l5_111 => k_is); (case z5_111 => (show 0 ≤ sizeLine; decide)); (case v5_111 => exact .nil); (case l6_111 => k_is); (case z6_111 => (show 0 ≤ sizeLine; decide)); (case v6_111 => exact .nil); (case l7_111 => k_is); (case z7_111 => (show 2 ≤ sizeLine; decide)); (case v7_111 => exact (.cons ⟨_, rfl⟩ (.cons ⟨_, rfl⟩ .nil))); (case l8_111 => k_is); (case z8_111 => (show 1 ≤ sizeLine; decide)); (case v8_111 => exact (.cons ⟨_, rfl⟩ .nil)); (case l9_111 => k_is); (case z9_111 => (show 0 ≤ sizeLine; decide)); (case v9_111 => exact .nil)))
    (case f_take_arguments => (refine' SR.funG KX G ?a_112 ?l_112 ?c_112 ?k_112; (case a_112 => k_is); (case l_112 => k_is); (case c_112 => k_is); (case k_112 => k_is)))
    (case g_LOAD => (refine' SR.gint KX G ?a_113; (case a_113 => k_is)))
    (case g_SHOWN => (refine' SR.gint KX G ?a_114; (case a_114 => k_is)))
    (case g_READERS => (refine' SR.gint KX G ?a_115; (case a_115 => k_is)))
    (case g_CHANGES => (refine' SR.gint KX G ?a_116; (case a_116 => k_is)))
    (case g_ALONE => (refine' SR.gint KX G ?a_117; (case a_117 => k_is)))
    (case g_SHARES => (refine' SR.gint KX G ?a_118; (case a_118 => k_is)))
    (case g_UNHAPPY => (refine' SR.gint KX G ?a_119; (case a_119 => k_is)))
    (case g_BOUNDS => (refine' SR.gint KX G ?a_120; (case a_120 => k_is)))
    (case g_REGRET => (refine' SR.gint KX G ?a_121; (case a_121 => k_is)))
    (case g_NO_TABLE => (refine' SR.gint KX G ?a_122; (case a_122 => k_is)))
    (case f_answer_call => (refine' SR.funG KX G ?a_123 ?l_123 ?c_123 ?k_123; (case a_123 => k_is); (case l_123 => k_is); (case c_123 => k_is); (case k_123 => k_is)))
    (case f_answers => (refine' SR.funG KX G ?a_124 ?l_124 ?c_124 ?k_124; (case a_124 => k_is); (case l_124 => k_is); (case c_124 => k_is); (case k_124 => k_is)))
  case S =>
    intro K H xs a hO hwi hask hx
    cases hx with
    | cons h1 h2 =>
      cases h2
      cases h1 with
      | lst hs ha =>
        have e := L2.ints_dw a.1 _ ha
        subst e
        have hp := SR.asked_plays (l := a.1) hask
        exact ⟨_, a.1, _, rfl, hs, hp.1, hp.2, fun H' p hp => .lst (L2.SqL.of hp) (L2.dw_ints _)⟩
